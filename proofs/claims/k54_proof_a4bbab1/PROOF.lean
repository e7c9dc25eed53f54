import PyProof.Rows.All
import KE.KIsAll
import KE.KLam
import KE.KMinBuiltin
import KE.KNestM
import KE.KRevSl
import KE.KSortTup
import KE.KStateDown
import PySem.Challenge.RW_downrings_k54_whole_stuck_lots_and_sendi
set_option Elab.async false
set_option linter.all false
set_option maxRecDepth 100000
set_option maxHeartbeats 4000000
local macro_rules|`(abbrev $n:declId $s:optDeclSig $v:declVal)=>`(noncomputable def $n $s:optDeclSig $v:declVal)
local macro_rules|`(def $n:declId $s:optDeclSig $v:declVal)=>do let d:=⟨Lean.mkNode `Lean.Parser.Command.declSig #[s.raw[0],s.raw[1][0]]⟩;`(theorem $n $d $v:declVal)
open Option renaming some → aw,none → aD
open Bool renaming true → aN,false → aS
namespace Xobt
variable{P:Prop}
def ex1{p:A→Prop}(h:∃a,p a)(k:∀a,p a→P):P:=let⟨a,h⟩:=h;k a h
def ex2{p:A→B→Prop}(h:∃a b,p a b)(k:∀a b,p a b→P):P:=let⟨a,b,h⟩:=h;k a b h
def ex3{p:A→B→C→Prop}(h:∃a b c,p a b c)(k:∀a b c,p a b c→P):P:=let⟨a,b,c,h⟩:=h;k a b c h
def ex4{p:A→B→C→D→Prop}(h:∃a b c d,p a b c d)(k:∀a b c d,p a b c d→P):P:=let⟨a,b,c,d,h⟩:=h;k a b c d h
def ex5{p:A→B→C→D→E→Prop}(h:∃a b c d e,p a b c d e)(k:∀a b c d e,p a b c d e→P):P:=let⟨a,b,c,d,e,h⟩:=h;k a b c d e h
def ex6{p:A→B→C→D→E→F→Prop}(h:∃a b c d e f,p a b c d e f)(k:∀a b c d e f,p a b c d e f→P):P:=let⟨a,b,c,d,e,f,h⟩:=h;k a b c d e f h
def ex7{p:A→B→C→D→E→F→G→Prop}(h:∃a b c d e f g,p a b c d e f g)(k:∀a b c d e f g,p a b c d e f g→P):P:=let⟨a,b,c,d,e,f,g,h⟩:=h;k a b c d e f g h
def ex8{p:A→B→C→D→E→F→G→I→Prop}(h:∃a b c d e f g i,p a b c d e f g i)(k:∀a b c d e f g i,p a b c d e f g i→P):P:=let⟨a,b,c,d,e,f,g,i,h⟩:=h;k a b c d e f g i h
def ex9{p:A→B→C→D→E→F→G→I→J→Prop}(h:∃a b c d e f g i j,p a b c d e f g i j)(k:∀a b c d e f g i j,p a b c d e f g i j→P):P:=let⟨a,b,c,d,e,f,g,i,j,h⟩:=h;k a b c d e f g i j h
def ex10{p:A→B→C→D→E→F→G→I→J→L→Prop}(h:∃a b c d e f g i j l,p a b c d e f g i j l)(k:∀a b c d e f g i j l,p a b c d e f g i j l→P):P:=let⟨a,b,c,d,e,f,g,i,j,l,h⟩:=h;k a b c d e f g i j l h
def ex14{p:A→B→C→D→E→F→G→I→J→L→M→N→O→Q→Prop}(h:∃a b c d e f g i j l m n o q,p a b c d e f g i j l m n o q)(k:∀a b c d e f g i j l m n o q,p a b c d e f g i j l m n o q→P):P:=let⟨a,b,c,d,e,f,g,i,j,l,m,n,o,q,h⟩:=h;k a b c d e f g i j l m n o q h
def an2(h:a∧b)(k:a→b→P):P:=k h.1 h.2
def an3(h:a∧b∧c)(k:a→b→c→P):P:=k h.1 h.2.1 h.2.2
def an4(h:a∧b∧c∧d)(k:a→b→c→d→P):P:=k h.1 h.2.1 h.2.2.1 h.2.2.2
def an5(h:a∧b∧c∧d∧e)(k:a→b→c→d→e→P):P:=k h.1 h.2.1 h.2.2.1 h.2.2.2.1 h.2.2.2.2
def an6(h:a∧b∧c∧d∧e∧f)(k:a→b→c→d→e→f→P):P:=k h.1 h.2.1 h.2.2.1 h.2.2.2.1 h.2.2.2.2.1 h.2.2.2.2.2
def an7(h:a∧b∧c∧d∧e∧f∧g)(k:a→b→c→d→e→f→g→P):P:=k h.1 h.2.1 h.2.2.1 h.2.2.2.1 h.2.2.2.2.1 h.2.2.2.2.2.1 h.2.2.2.2.2.2
def an8(h:a∧b∧c∧d∧e∧f∧g∧i)(k:a→b→c→d→e→f→g→i→P):P:=k h.1 h.2.1 h.2.2.1 h.2.2.2.1 h.2.2.2.2.1 h.2.2.2.2.2.1 h.2.2.2.2.2.2.1 h.2.2.2.2.2.2.2
def an9(h:a∧b∧c∧d∧e∧f∧g∧i∧j)(k:a→b→c→d→e→f→g→i→j→P):P:=k h.1 h.2.1 h.2.2.1 h.2.2.2.1 h.2.2.2.2.1 h.2.2.2.2.2.1 h.2.2.2.2.2.2.1 h.2.2.2.2.2.2.2.1 h.2.2.2.2.2.2.2.2
def an10(h:a∧b∧c∧d∧e∧f∧g∧i∧j∧l)(k:a→b→c→d→e→f→g→i→j→l→P):P:=k h.1 h.2.1 h.2.2.1 h.2.2.2.1 h.2.2.2.2.1 h.2.2.2.2.2.1 h.2.2.2.2.2.2.1 h.2.2.2.2.2.2.2.1 h.2.2.2.2.2.2.2.2.1 h.2.2.2.2.2.2.2.2.2
def an13(h:a∧b∧c∧d∧e∧f∧g∧i∧j∧l∧m∧n∧o)(k:a→b→c→d→e→f→g→i→j→l→m→n→o→P):P:=k h.1 h.2.1 h.2.2.1 h.2.2.2.1 h.2.2.2.2.1 h.2.2.2.2.2.1 h.2.2.2.2.2.2.1 h.2.2.2.2.2.2.2.1 h.2.2.2.2.2.2.2.2.1 h.2.2.2.2.2.2.2.2.2.1 h.2.2.2.2.2.2.2.2.2.2.1 h.2.2.2.2.2.2.2.2.2.2.2.1 h.2.2.2.2.2.2.2.2.2.2.2.2
def in2{p:A→B→Prop}(a:A)(b:B)(h:p a b):∃a b,p a b:=⟨a,b,h⟩
def in3{p:A→B→C→Prop}(a:A)(b:B)(c:C)(h:p a b c):∃a b c,p a b c:=⟨a,b,c,h⟩
def in4{p:A→B→C→D→Prop}(a:A)(b:B)(c:C)(d:D)(h:p a b c d):∃a b c d,p a b c d:=⟨a,b,c,d,h⟩
def in5{p:A→B→C→D→E→Prop}(a:A)(b:B)(c:C)(d:D)(e:E)(h:p a b c d e):∃a b c d e,p a b c d e:=⟨a,b,c,d,e,h⟩
def in6{p:A→B→C→D→E→F→Prop}(a:A)(b:B)(c:C)(d:D)(e:E)(f:F)(h:p a b c d e f):∃a b c d e f,p a b c d e f:=⟨a,b,c,d,e,f,h⟩
def in7{p:A→B→C→D→E→F→G→Prop}(a:A)(b:B)(c:C)(d:D)(e:E)(f:F)(g:G)(h:p a b c d e f g):∃a b c d e f g,p a b c d e f g:=⟨a,b,c,d,e,f,g,h⟩
def in8{p:A→B→C→D→E→F→G→I→Prop}(a:A)(b:B)(c:C)(d:D)(e:E)(f:F)(g:G)(i:I)(h:p a b c d e f g i):∃a b c d e f g i,p a b c d e f g i:=⟨a,b,c,d,e,f,g,i,h⟩
def in9{p:A→B→C→D→E→F→G→I→J→Prop}(a:A)(b:B)(c:C)(d:D)(e:E)(f:F)(g:G)(i:I)(j:J)(h:p a b c d e f g i j):∃a b c d e f g i j,p a b c d e f g i j:=⟨a,b,c,d,e,f,g,i,j,h⟩
def in10{p:A→B→C→D→E→F→G→I→J→L→Prop}(a:A)(b:B)(c:C)(d:D)(e:E)(f:F)(g:G)(i:I)(j:J)(l:L)(h:p a b c d e f g i j l):∃a b c d e f g i j l,p a b c d e f g i j l:=⟨a,b,c,d,e,f,g,i,j,l,h⟩
def in12{p:A→B→C→D→E→F→G→I→J→L→M→N→Prop}(a:A)(b:B)(c:C)(d:D)(e:E)(f:F)(g:G)(i:I)(j:J)(l:L)(m:M)(n:N)(h:p a b c d e f g i j l m n):∃a b c d e f g i j l m n,p a b c d e f g i j l m n:=⟨a,b,c,d,e,f,g,i,j,l,m,n,h⟩
end Xobt
local macro_rules
|`(tactic|obtain⟨$ps,*⟩:=$e:term)=>do
 let ps:=ps.getElems
 let n:=ps.size
 if n<2 then Lean.Macro.throwUnsupported
 let I (s:String):Lean.MacroM (Lean.TSyntax `ident):=return Lean.mkIdent (Lean.Name.mkSimple s)
 let mut vs:Array (Lean.TSyntax `ident):=#[]
 let mut sb:Array (Lean.TSyntax `tactic):=#[]
 for p in ps do
  let y ← I s!"ξ{vs.size}"
  match p with
  |`(Lean.Parser.Tactic.rcasesPatLo|$x:ident)=>
   if x.getId==`rfl then
    vs:=vs.push y
    sb:=sb.push (← `(tactic|subst $y))
   else vs:=vs.push x
  |`(Lean.Parser.Tactic.rcasesPatLo|_)=>vs:=vs.push y
  |_=>Lean.Macro.throwUnsupported
 let z ← I "ξ"
 let w ← I "ζ"
 let N (s:String):=Lean.mkIdent (`Xobt++Lean.Name.mkSimple s)
 let mk (e:Lean.TSyntax `term)(c:Array (Lean.TSyntax `tactic)):Lean.MacroM (Lean.TSyntax `tactic):=do
  let mut al:=#[]
  for i in [0:n] do
   let k:=n-1-i
   let m:=n-k
   if k>16||m>18 then continue
   let a:=vs.extract 0 k
   let b:=vs.extract k n
   let E:=N s!"ex{k}"
   let A:=N s!"an{m}"
   al:=al.push (← if k==0 then `(tacticSeq|(refine $A $e λ$b*=>?_;$[$c]*)) else if m==1 then `(tacticSeq|(refine $E $e λ$vs*=>?_;$[$c]*)) else `(tacticSeq|(refine $E $e λ$a* $z=>$A $z λ$b*=>?_;clear $z;$[$c]*)))
  al:=al.push (← `(tacticSeq|fail))
  `(tactic|first $[| $al]*)
 let t ← mk e sb
 if e.raw.isIdent then
  let i:Lean.TSyntax `ident:=⟨e.raw⟩
  let s ← mk w (#[← `(tactic|clear $w)]++sb)
  `(tactic|first|(revert $i;intro $w:ident;$s:tactic)|$t:tactic)
 else return t
|`(tactic|exact⟨$ps,*⟩)=>do
 let ps:=ps.getElems
 let n:=ps.size
 if n<3 then Lean.Macro.throwUnsupported
 let mut al:=#[]
 for i in [1:n-1] do
  let k:=n-i
  if k>12 then continue
  let a:=ps.extract 0 k
  let b:=ps.extract k n
  let E:=Lean.mkIdent (`Xobt++Lean.Name.mkSimple s!"in{k}")
  let r ← if b.size==1 then pure b[0]! else `(⟨$b,*⟩)
  al:=al.push (← `(tacticSeq|exact $E $a* $r))
 `(tactic|first $[| $al]*)
|`(tactic|refine⟨$ps,*⟩)=>do
 let ps:=ps.getElems
 let n:=ps.size
 if n<3 then Lean.Macro.throwUnsupported
 let mut al:=#[]
 for i in [1:n-1] do
  let k:=n-i
  if k>12 then continue
  let a:=ps.extract 0 k
  let b:=ps.extract k n
  let E:=Lean.mkIdent (`Xobt++Lean.Name.mkSimple s!"in{k}")
  let r ← if b.size==1 then pure b[0]! else `(⟨$b,*⟩)
  al:=al.push (← `(tacticSeq|refine $E $a* $r))
 `(tactic|first $[| $al]*)
open List renaming length_map → Za, getElem?_eq_some_iff → Zb, mem_of_getElem? → Zd, range → Ze, length_append → Zg, mem_cons_of_mem → Zh, size_toArray → Zj, mem_cons_self → Zk, getElem?_map → Zl, getD_eq_getElem?_getD → Zm, mem_cons → Zn, length_cons → Zo, getElem?_append_right → Zp, length_singleton → Zt, getElem?_concat_length → Zu, getElem?_eq_none → Zv, getElem?_append_left → Zw, length → Zx, map_cons → Zy, getElem?_set_ne → Zz, mem_map → ZA, length_range → ZB, mem_append_right → ZE, mem_singleton → ZF, mem_filter → ZH, mem_range → ZJ, replicate → ZL, mem_append → ZM, getElem_mem → ZO, map_append → ZQ, all_eq_true → ZR, getElem?_set_self → ZU, pairwise_cons → ZV, nodup_cons → ZX, mem_append_left → ZY, map_map → Z0, length_nil → Z1, filter_cons → Z2, map_nil → Z4, take_succ_eq_append_getElem → Z5, length_eq_zero_iff → Z6, length_set → Z7, getElem?_eq_none_iff → Z9, append_nil → Yb, mem_flatMap → Yc, map_congr_left → Yd, getElem?_range → Ye, length_take → Yh, zip_cons_cons → Yi, prefix_refl → Yj, length_reverse → Ym, all_cons → Yn, lookup_cons → Yo, any_eq_true → Yp, toArray → Yr, getElem?_set → Yt, getElem?_of_mem → Yw, getElem?_replicate → Yx, getElem?_cons_succ → Yy, take_length → Yz, mem_filterMap → YB, prefix_append → YD, take_of_length_le → YE, find?_cons → YF, any_cons → YG, length_filter_le → YI, ext_getElem? → YJ, append_assoc → YK, pairwise_map → YL, take_zero → YM, perm_cons_erase → YN, getLast?_append → YO, mem_of_mem_take → YQ, perm_ext_iff_of_nodup → YR, getElem_inj → YS, nodup_range → YT, filterMap_cons → YV, filter_sublist → YW, idxOf_lt_length_iff → YY, getLast?_cons → Y1, filter_append → Y2, eraseIdx_cons_succ → Y3, nodup_append → Y5, all_map → Y6, reverse_cons → Y7, map_inj_left → Y9, filter_eq_nil_iff → Xa, flatMap_cons → Xb, filter_congr → Xc, countP_cons → Xf, mem_erase_of_ne → Xj, mem_of_getLast? → Xk, take_append_of_le_length → Xl, of_mem_zip → Xn, range_succ → Xo, filter_map → Xp, length_pos_iff → Xr, take_length_add_append → Xs, drop → Xu, forIn_nil → Xw, nodup_nil → Xx, getElem?_take_of_lt → XC, length_erase_of_mem → XD, map_take → XF, sublist_cons_self → XH, foldl_cons → XJ, nil_append → XM, length_replicate → XN, mem_iff_getElem → XR, toList_toArray → XV, flatMap_append → XW, filter_eq_self → XY, filterMap_map → X2, getElem_idxOf → X5, getElem_range → X7, map_inj_right → X9, any_map → Wa, zipIdx_cons → We, length_drop → Wf, map_snd_zip → Wk, not_mem_nil → Wl, drop_length → Wm, cons_append → Wn, forIn_cons → Wp, take_left → Ww, cons → WA
open PySem.Heap renaming get?_push_of_some → Zc, lt_size → Zq, get?_push_size → Zs, get?_update_other → ZZ, size_update → Yk, size_push → Yq, get?_update_self → YH, get?_push_ne → Y8, get?_update_ne → Xq
open Bool renaming false_ne_true → Zf, false_eq_true → ZS, eq_iff_iff → Yg, true_and → YZ, or_eq_true → Y0, false_bne → Xd, beq_eq_decide_eq → Xe, not_true → Xh, false_and → XQ, and_eq_true_iff → XU, false_or → XZ, and_self → X1, and_false → Wv, or_false → Wy, and_true → Wz
open Nat renaming le_refl → Zi, lt_of_lt_of_le → ZD, ne_of_lt → ZG, lt_irrefl → ZK, le_trans → ZW, zero_le → Z3, sub_self → Z8, le_succ → Ys, lt_succ_of_lt → Yu, zero_add → Yv, lt_of_le_of_lt → YC, le_add_right → YU, add_assoc → YX, le_of_lt → Y4, lt_succ_self → Xg, pow_le_pow_right → Xm, le_of_succ_le → Xy, succ_le_succ → Wh, pow_pos → Wo, not_lt_zero → Wr, mul_le_mul → Wx, ne_of_gt → WB, lt_trans → WD, succ_mul → WE, min_self → WF, le_of_eq → WG
open Array renaming length_toList → Zr, forIn_toList → YA, toArray_toList → Xi, size_map → Xv, toList_push → XB, toList_map → XG, toList_append → XX, append_empty → X4, getElem_mem → Wb, toList_inj → Wi, toList_zip → Wj, size_push → Wq, map_push → Wu
open Option renaming map_eq_some_iff → ZC, map_some → ZN, getD_some → ZT, isSome_iff_exists → Yl, isSome_map → Xz, isSome_some → X3, any_eq_true → X8, getD_none → Wg, map → Wt
open Int renaming toNat_natCast → ZI, le_refl → ZP, emod_lt_of_pos → X6, le_trans → Wc, zero_add → Wd, emod_nonneg → Ws, ediv_one → WC
open PyProof.Rows renaming boot_int → WH, boot_list → WI, boot_max → WJ, boot_min → WK, boot_range → WL, boot_sorted → WM, boot_tuple → WN, callWith_type1 → WO, slot_tuple_getitem → WQ
open PySem renaming Arguments → WR, Comprehension → WV, FuncData → Vg, IsRangeIter → Vh, NameKind → Vi, Operator → Vj, Spec → Vm, TriplesOk → Vn, assignEach → VJ, assignInOrder → VL, backToKw → VM, behindInMarks → VN, binaryOp → VO, bindArgs → VP, bindName → VQ, bootBuiltins → VR, boot_len → VS, builtinsNs → VT, callSpecialIfBoundUnlessNone? → VU, call_meets → VV, cellsFrom → VW, closureFor → VX, codeAmong → VY, codeAny_builtin → VZ, codeAny_mono → V0, compareOp → V1, concat_meets → V2, defaultsOf → V3, eqIsQuiet → V4, eqIsQuiet_byValue → V5, evalPart_none → V6, foldedSetIterable → V7, intItems → V8, intItems_at → V9, isSubtype_tuple_tuple → Ua, keywordEach → Ub, letOwnedTupleGo → Uc, mainGlobals → Ud, mem_of_lookup → Ue, newFunctionEnv → Uf, noFill_tuple_add → Ug, numAt_eq → Uh, plainId_quiet → Ui, pushCells → Uj, pushCells_keeps → Uk, rangeSize_one → Ul, richCompare → Um, richCompare_meets_room → Uo, seqIndex_neg → Up, seqIndex_of → Uq, seqItems? → Ur, seq_tuple_add → Us, sizeLine_eq → Ut, sliceBounds → Uu, starEach → Uv, swappedStores → Uw, swapsWith → Ux, swapsWithSole → Uy, sysModules → Uz, unsupported → UA, wpAny_Call_Name_kw → UB, wpAny_bind → UC, wpAny_call_entry → UD, wpAny_comprehension_free → UE, wpAny_execs_nil → UF, wpAny_field → UG, wpAny_forIn_list → UH, wpAny_getItem_list_slice → UI, wpAny_holding → UJ, wpAny_letGo → UK, wpAny_loadPart' → UL, wpAny_mono → UM, wpAny_newFunctionEnv_cells → UN, wpAny_newList → UO, wpAny_newObj_type → UP, wpAny_of_eq → UQ, wpAny_passesOwn → UR, wpAny_pure → US, wpAny_pyIter_list → UT, wpAny_pyIter_rangeiter → UU, wpAny_pyIter_tuple → UV, wpAny_pyNext_range_end → UW, wpAny_rule → UX, wpAny_seqItems → UY, wpAny_sequenceKey → UZ, wpAny_specialOf → U0, wpAny_standAt → U1, wpAny_truthy_bool → U2, wpAny_tryCatch → U3, wpAny_typeOf → U4, wpAny_updateSeq → U5
open PySem.Calls renaming Name_function_global → WT, call_function_entry → WU
open PySem.F renaming args_object_init_2 → WW, args_tuple_add_2 → WX, args_tuple_iterator_next_1 → WY, args_tuple_lt_2 → WZ, entry_min_loop → W0, entry_tuple_add → W1, entry_tuple_iterator_next → W2, entry_tuple_lt → W3, plainAttrs_list → W4, plainAttrs_tuple → W5, plain_min_loop → W6, slot_NoneType_hash → W7, slot_list_append → W8, slot_list_pop → W9, slot_tuple_add → Va, slot_tuple_count → Vb, slot_tuple_index → Vc, slot_tuple_iterator_next → Ve, slot_tuple_lt → Vf
open PySem.SeqAt renaming EqAt → Vk, RcNeAt → Vl
open PySem.W renaming CodeHd → Vo, Frag → Vp, cellsFrom_some → Vq, codeIn → Vr, findIn → Vs, fnOf → Vt, instObj → Vu, kas_item → Vv, kat_kind → Vw, kat_snds → Vx, keepIn → Vy, kia_one → Vz, kitOne → VA, kitx_dict → VB, kitx_list → VC, lookIn → VE, methodObj → VF, plainGet → VG, rangeSize_down → VH, tabObj → VI
namespace Ev
open PySem PyProof.Rows PySem.W
structure MS where
 a:Array Nat
 p:Array (Nat × Nat × Nat)
 g:Nat
abbrev Mm(b:Type):=MS->Option (b × MS)
abbrev Mm.bd{b β:Type}(x:Mm b)(f:b->Mm β):Mm β:=λs=>match x s with
 |none=>aD
 |some (a,s)=>f a s
noncomputable instance:Monad Mm where
 pure a:=λs=>aw (a,s)
 bind:=Mm.bd
abbrev iC{α:Type}(f:MS->Mm α):Mm α:=λs=>f s s
abbrev fG{α:Type}:Mm α:=λ_=>aD
abbrev lZp{c:Type}(f:Nat->c->Mm (ForInStep c)):Nat->Nat->c->Mm c
 |0,_,b=>pure b
 |n+1,i,b=>f i b >>= λ
  |.done b=>pure b
  |.yield b=>lZp f n (i+1) b
structure Sx where
 prog:Program
 w:World
 A:Around
 E:Value->Shared->Prop
 κ:SortKind
 it:Array Keyed
 s:Shared
 n:Nat
 lt:Nat->Nat->Bool
 h:∀i j,i < n->j < n->∀C:Bool->Shared->Prop,C (lt i j) s->kas_cmp prog w A κ it i j C s
section
variable (X:Sx) {α β γ δ:Type}
abbrev stM(b:MS):SortSt:=SortSt.mk' X.κ (b.a.map (kas_item X.it)) b.p b.g aD
abbrev Sim(r:α->β->Prop)(x:StateT SortSt Sem α)(y:Mm β):Prop:=
 ∀d b c,y d=aw (b,c)->∀Q:α->SortSt->Shared->Prop,(∀a,r a b->Q a (stM X c) X.s)->kasC (model X.prog X.w) X.A X.E x Q (stM X d) X.s
variable {X}
def aq{r:α->β->Prop}{a:α}{b:β}(h:r a b):Sim X r (pure a) (pure b):=λc _ _ e Q q=>by
 cases e;exact kasC_pure (q _ h)
def aj{r:α->β->Prop}{v:γ->δ->Prop}{x:StateT SortSt Sem α}{y:Mm β}{f:α->StateT SortSt Sem γ}{g:β->Mm δ}(h:Sim X r x y)(k:∀a b,r a b->Sim X v (f a) (g b)):Sim X v (x >>= f) (y >>= g):=λu d j e Q q=>by
 have c:Mm.bd y g u=aw (d,j):=e;unfold Mm.bd at c;cases l:y u with
 |none=>rw[l] at c;cases c
 |some z=>
  obtain⟨b,m1⟩:=z;rw[l] at c;exact kasC_bind (h u b m1 l _ λa B=>k a b B m1 d j c Q q)
def bJ{r:α->β->Prop}{x:StateT SortSt Sem α}:Sim X r x fG:=λ_ _ _ e=>nomatch e
def re{r:α->β->Prop}{t:String}{f:Unit->StateT SortSt Sem α}{y:Mm β}(k:Sim X r (f ()) y):Sim X r (liftM (rule t) >>= f) y:=λc d b e Q q=>
 kasC_bind (kasC_lift (UX (k c d b e Q q)))
def dC{r:α->β->Prop}{f:SortSt->StateT SortSt Sem α}{g:MS->Mm β}(k:∀b,Sim X r (f (stM X b)) (g b)):Sim X r (get >>= f) (iC g):=λb d c e Q q=>
 kasC_bind (kasC_get (k b b d c e Q q))
def D8{f:SortSt->SortSt}{g:MS->MS}(k:∀b,f (stM X b)=stM X (g b)):Sim X (λ_ _=>True) (modify f) (λs=>aw ((),g s)):=λb d c e Q q=>by
 cases e;refine kasC_modify ?_;rw[k];exact q _ trivial
abbrev rFs(r:α->β->Prop):ForInStep α->ForInStep β->Prop
 |.done a,.done b=>r a b
 |.yield a,.yield b=>r a b
 |_,_=>False
def rf{r:α->β->Prop}{F:Nat->α->StateT SortSt Sem (ForInStep α)}{f:Nat->β->Mm (ForInStep β)}(k:∀i a b,r a b->Sim X (rFs r) (F i a) (f i b)):∀ (n i:Nat) a b,r a b->Sim X r (forIn (List.range' i n) a F) (lZp f n i b)
 |0,i,a,b,h=>aq h
 |n+1,i,a,b,h=>λv d j e Q q=>by
  have c:Mm.bd (f i b) _ v=aw (d,j):=e;unfold Mm.bd at c;rw[List.range'_succ];cases y:f i b v with
  |none=>rw[y] at c;cases c
  |some z=>
   obtain⟨B,m1⟩:=z;rw[y] at c;refine kasC_cons (k i a b h v B m1 y _ λl u=>?_);cases l with
   |done l=>
    cases B with
    |done B=>cases c;exact q _ u
    |yield B=>exact u.elim
   |yield l=>
    cases B with
    |done B=>exact u.elim
    |yield B=>exact rf k n (i+1) l B u m1 d j c Q q
def bW{r:α->β->Prop}{F:Nat->α->StateT SortSt Sem (ForInStep α)}{f:Nat->β->Mm (ForInStep β)}{l h:Nat}{a:α}{b:β}(k:∀i a b,r a b->Sim X (rFs r) (F i a) (f i b))(j:r a b):Sim X r (forIn [l:h] a F) (lZp f (h - l) l b):=λu d c e Q q=>
 kasC_range (rf k (h - l) l a b j u d c e Q q)
end
section
variable (n:Nat) (lt:Nat->Nat->Bool)
abbrev yt(i j:Nat):Mm Bool:=λs=>if i < n then if j < n then aw (lt i j,s) else aD else aD
abbrev kq(x:Array Nat)(i:Nat):Mm Nat:=λs=>match x[i]? with
 |none=>aD
 |some v=>aw (v,s)
abbrev D9(i j:Nat):Mm Bool:=iC λs=>kq s.a i >>= λx=>kq s.a j >>= λy=>yt n lt x y
end
section
variable {X:Sx}
def pH{x y:Keyed}{i j:Nat}(v:x=kas_item X.it i)(l:y=kas_item X.it j):Sim X (λo b=>o=aw b) (lt' x y) (yt X.n X.lt i j):=λB d k e Q q=>by
 subst v l;unfold yt at e;split at e
 ·split at e
  ·cases e;rw[lt'_eq];refine kasC_bind (kasC_get ?_);refine kasC_bind (kasC_lift (wpAny_attempt (UM (X.h i j (by assumption) (by assumption) (λb f=>b=X.lt i j/\f=X.s) ⟨rfl,rfl⟩) (λc f u=>?_) λ_ _ z=>z.elim)));obtain⟨rfl,rfl⟩:=u;exact kasC_pure (q _ rfl)
  ·cases e
 ·cases e
def dJ{x:Array Keyed}{y:Array Nat}{i:Nat}(h:x=y.map (kas_item X.it)):Sim X (λa b=>a=kas_item X.it b) (elem' x i) (kq y i):=λj d f e Q q=>by
 subst h;unfold kq at e;rw[elem'_eq,Array.getElem?_map];cases c:y[i]? with
 |none=>rw[c] at e;cases e
 |some v=>rw[c] at e;cases e;exact kasC_pure (q _ rfl)
def uu{i j:Nat}:Sim X (λo b=>o=aw b) (ltAt' i j) (D9 X.n X.lt i j):=by
 rw[ltAt'_eq];exact dC λd=>aj (dJ rfl) λa b h=>aj (dJ rfl) λf B c=>pH h c
end
abbrev wG:Bool->Keyed->Array Keyed->Nat->Nat->Nat->StateT SortSt Sem (Option Nat):=sortPriv% PySem.Builtin.gallop
section
variable (n:Nat) (lt:Nat->Nat->Bool)
abbrev z7(left:Bool)(k:Nat)(x:Array Nat)(i:Nat):Mm Bool:=do
 let v <-kq x i
 if left=aN then yt n lt v k else do
  let b <-yt n lt k v
  pure (!b)
abbrev z8(left:Bool)(k:Nat)(x:Array Nat)(base m lo hi:Nat):Mm Nat:=do
 let z <-lZp (λ_ (z:Nat × Nat)=>if z.1 ≥ z.2 then pure (.done z) else do
  let b <-z7 n lt left k x (base+(z.1+(z.2 - z.1) / 2))
  if b=aN then pure (.yield (z.1+(z.2 - z.1) / 2+1,z.2)) else pure (.yield (z.1,z.1+(z.2 - z.1) / 2))) m 0 (lo,hi)
 pure z.2
abbrev wH(left:Bool)(k:Nat)(x:Array Nat)(base m hint:Nat):Mm Nat:=do
 let r <-z7 n lt left k x (base+hint)
 if r=aN then do
  let z <-lZp (λ_ (z:Nat × Nat)=>if z.2 ≥ m - hint then pure (.done z) else do
   let b <-z7 n lt left k x (base+(hint+z.2))
   if (!b)=aN then pure (.done z) else pure (.yield (z.2,2 * z.2+1))) m 0 (0,1)
  z8 n lt left k x base m (hint+z.1+1) (hint+min z.2 (m - hint))
 else do
  let z <-lZp (λ_ (z:Nat × Nat)=>if z.2 ≥ hint+1 then pure (.done z) else do
   let b <-z7 n lt left k x (base+(hint - z.2))
   if b=aN then pure (.done z) else pure (.yield (z.2,2 * z.2+1))) m 0 (0,1)
  z8 n lt left k x base m (hint+1 - min z.2 (hint+1)) (hint - z.1)
end
section
variable {X:Sx}
abbrev rN{c d:Type}(a:Option d × c)(b:c):Prop:=a=(aD,b)
def wJ{left:Bool}{f:Keyed}{k:Nat}{x:Array Keyed}{y:Array Nat}{base m hint:Nat}(j:f=kas_item X.it k)(l:x=y.map (kas_item X.it)) :
  Sim X (λo b=>o=aw b) (wG left f x base m hint) (wH X.n X.lt left k y base m hint):=by
 have B:∀i,Sim X (λo b=>o=aw b) (do
    let x <-elem' x (base+i)
    if left=aN then lt' x f
     else do
      let d <-lt' f x
      pure (Wt (λx=>!x) d)) (z7 X.n X.lt left k y (base+i)):=λi=>
  aj (dJ l) λa b h=>by
   cases left with
   |true=>exact pH h j
   |false=>exact aj (pH j h) λo b h=>by subst h;exact aq rfl
 unfold wH
 delta wG
 refine aj (B hint) λo r h=>?_;subst h;cases r with
 |true=>
  refine aj (r:=rN) (bW (λ_ a z h=>?_) rfl) λa z h=>?_
  ·cases h;by_cases c:z.2 ≥ m - hint
   ·dsimp only;rw[if_pos c,if_pos c];exact aq rfl
   ·dsimp only;rw[if_neg c,if_neg c];refine aj (B (hint+z.2)) λo r h=>?_;subst h;cases r <;> exact aq rfl
  ·cases h;refine aj (r:=rN) (bW (λ_ a z h=>?_) rfl) λa z h=>?_
   ·cases h;by_cases c:z.1 ≥ z.2
    ·dsimp only;rw[if_pos c,if_pos c];exact aq rfl
    ·dsimp only;rw[if_neg c,if_neg c];refine aj (B (z.1+(z.2 - z.1) / 2)) λo r h=>?_;subst h;cases r <;> exact aq rfl
   ·cases h;exact aq rfl
 |false=>
  refine aj (r:=rN) (bW (λ_ a z h=>?_) rfl) λa z h=>?_
  ·cases h;by_cases c:z.2 ≥ hint+1
   ·dsimp only;rw[if_pos c,if_pos c];exact aq rfl
   ·dsimp only;rw[if_neg c,if_neg c];refine aj (B (hint - z.2)) λo r h=>?_;subst h;cases r <;> exact aq rfl
  ·cases h;refine aj (r:=rN) (bW (λ_ a z h=>?_) rfl) λa z h=>?_
   ·cases h;by_cases c:z.1 ≥ z.2
    ·dsimp only;rw[if_pos c,if_pos c];exact aq rfl
    ·dsimp only;rw[if_neg c,if_neg c];refine aj (B (z.1+(z.2 - z.1) / 2)) λo r h=>?_;subst h;cases r <;> exact aq rfl
   ·cases h;exact aq rfl
end
abbrev rh:Array Keyed->Array Keyed->StateT SortSt Sem (Array Keyed):=sortPriv% PySem.Builtin.mergeLo
abbrev OH{γ:Type}(v:Nat)(k:Nat->γ):γ:=match v with
 |0=>k 0
 |n+1=>k (Nat.succ n)
abbrev Ea{b:Type}:List Nat->(List Nat->b)->b
 |[],k=>k []
 |v::l,k=>OH v λv=>Ea l λl=>k (v::l)
def Eb{b:Type}{v:Nat}{k:Nat->b}:OH v k=k v:=by cases v <;> rfl
def pJ{b:Type}:∀ {l:List Nat} {k:List Nat->b},Ea l k=k l
 |[],_=>rfl
 |v::l,k=>by unfold Ea;rw[Eb,pJ]
abbrev kQ(f:Array Nat->Array Nat):Mm Unit:=λs=>Ea (f s.a).toList λl=>aw ((),{ s with a:=l.toArray })
section
variable (n:Nat) (lt:Nat->Nat->Bool)
abbrev z9(lo c:Nat):Mm Nat:=do
 let m <-lZp (λ_ m=>do
  let b <-D9 n lt (lo+m) (lo+m - 1)
  if b=aN then pure (.done m) else pure (.yield (m+1))) (c - 1) 1 1
 if (m == c)=aN then fG else if m > 1 then do
  let b <-D9 n lt lo (lo+m - 1)
  if b=aN then pure m else fG
 else fG
abbrev Aa(lo m ok:Nat):Mm Unit:=lZp (λk _=>do
  let z <-lZp (λ_ (z:Nat × Nat)=>if z.1 ≥ z.2 then pure (.done z) else do
   let b <-D9 n lt (lo+k) (lo+(z.1+z.2) / 2)
   if b=aN then pure (.yield (z.1,(z.1+z.2) / 2)) else pure (.yield ((z.1+z.2) / 2+1,z.2))) k 0 (0,k)
  kQ λa=>bubble a (lo+k) (lo+k - (lo+z.1))
  pure (.yield ())) (m - max ok 1) (max ok 1) () >>= λ_=>pure ()
abbrev Ab(a b:Array Nat):Mm (Array Nat):=kq b 0 >>= λy=>if (1 == b.size)=aN then fG else if (0+1 == a.size)=aN then fG else iC λst=>
 lZp (λ_ (q:Option (Array Nat))=>match q with
  |some _=>fG
  | none=>lZp (λ_ (z:Option (Array Nat) × Array Nat × Nat × Nat × Nat × Nat)=>
   kq b z.2.2.2.1 >>= λv=>kq a z.2.2.1 >>= λu=>yt n lt v u >>= λw=>
    if w=aN then kq b z.2.2.2.1 >>= λv=>if (z.2.2.2.1+1 == b.size)=aN then fG else if z.2.2.2.2.2+1 ≥ st.g then fG else pure (.yield (aD,z.2.1.push v,z.2.2.1,z.2.2.2.1+1,0,z.2.2.2.2.2+1))
    else kq a z.2.2.1 >>= λu=>if (z.2.2.1+1+1 == a.size)=aN then pure (.done (aw (z.2.1.push u++b.extract z.2.2.2.1++a.extract (z.2.2.1+1)),z.2.1.push u,z.2.2.1+1,z.2.2.2.1,z.2.2.2.2.1+1,0))
     else if z.2.2.2.2.1+1 ≥ st.g then fG else pure (.yield (aD,z.2.1.push u,z.2.2.1+1,z.2.2.2.1,z.2.2.2.2.1+1,0))) (a.size+b.size - 0) 0 (aD,#[y],0,1,0,0) >>= λz=>match z.1 with
   |none=>fG
   | some r=>pure (.done (aw r))) (a.size+b.size - 0) 0 aD >>= λr=>match r with
  |none=>fG
  |some r=>pure r
end
section
variable {X:Sx} {α β:Type}
def wK{f:Array Keyed->Array Keyed}{g:Array Nat->Array Nat}(h:∀a:Array Nat,f (a.map (kas_item X.it))=(g a).map (kas_item X.it)):Sim X (λ_ _=>True) (modify λst=>setArr st (f (arrOf st))) (kQ g):=λb d c e Q q=>by
 unfold kQ at e;rw[pJ] at e;cases e;refine kasC_modify ?_
 have:setArr (stM X b) (f (arrOf (stM X b)))=stM X { b with a:=(g b.a).toList.toArray }:=by
  show SortSt.mk' X.κ (f (b.a.map (kas_item X.it))) b.p b.g aD=SortSt.mk' X.κ ((g b.a).toList.toArray.map (kas_item X.it)) b.p b.g aD;rw[h,Xi]
 rw[this];exact q _ trivial
def Ec{lo d:Nat}:Sim X (λo b=>o=aw b) (countRun' lo d) (z9 X.n X.lt lo d):=by
 unfold z9
 delta countRun'
 refine aj (r:=rN) (bW (λ_ a z h=>?_) rfl) λa z h=>?_
 ·cases h;refine aj uu λo r h=>?_;subst h;cases r <;> exact aq rfl
 ·cases h;dsimp only;by_cases c:(z == d)=aN
  ·rw[if_pos c,if_pos c];exact bJ
  ·rw[if_neg c,if_neg c];by_cases c:z > 1
   ·rw[if_pos c,if_pos c];refine aj uu λo r h=>?_;subst h;cases r
    ·exact bJ
    ·exact aq rfl
   ·rw[if_neg c,if_neg c];exact bJ
def Ed{lo m ok:Nat}:Sim X (λo _=>o=aN) (binarySort' lo m ok) (Aa X.n X.lt lo m ok):=by
 unfold Aa
 delta binarySort'
 refine aj (r:=rN) (bW (λk a z h=>?_) rfl) λa z h=>?_
 ·cases h;refine aj (r:=rN) (bW (λ_ a z h=>?_) rfl) λa z h=>?_
  ·cases h;by_cases c:z.1 ≥ z.2
   ·dsimp only;rw[if_pos c,if_pos c];exact aq rfl
   ·dsimp only;rw[if_neg c,if_neg c];refine aj uu λo r h=>?_;subst h;cases r <;> exact aq rfl
  ·cases h;refine aj (wK (f:=λa=>bubble a (lo+k) (lo+k - (lo+z.1))) λa=>kas_swaps_map (kas_item X.it) (λi=>lo+k - i) (λi=>lo+k - i - 1) _ a) λ_ _ _=>?_;exact aq rfl
 ·cases h;exact aq rfl
abbrev rA{c:Type}(X:Sx)(a:Option (Array Keyed) × Array Keyed × c)(b:Option (Array Nat) × Array Nat × c):Prop:=a=(b.1.map λr=>r.map (kas_item X.it),b.2.1.map (kas_item X.it),b.2.2)
def Ee{x y:Array Keyed}{a b:Array Nat}(f:x=a.map (kas_item X.it))(d:y=b.map (kas_item X.it)):Sim X (λo r=>o=r.map (kas_item X.it)) (rh x y) (Ab X.n X.lt a b):=by
 unfold Ab
 delta rh
 refine re (aj (dJ d) λL Y B=>?_);have C:x.size=a.size:=by rw[f,Xv]
 have J:y.size=b.size:=by rw[d,Xv]
 dsimp only;rw[C,J];by_cases c:(1 == b.size)=aN
 ·rw[if_pos c,if_pos c];exact bJ
 rw[if_neg c,if_neg c];by_cases c:(0+1 == a.size)=aN
 ·rw[if_pos c,if_pos c];exact bJ
 rw[if_neg c,if_neg c];refine dC λk=>?_;refine aj (r:=λp q=>(q=aD/\p=(aD,#[kas_item X.it Y],0,1,k.g))\/∃r,q=aw r/\p.1=aw (r.map (kas_item X.it))) (bW (λ_ p q h=>?_) (.inl ⟨rfl,by rw[B];rfl⟩)) λp q h=>?_
 ·rcases h with ⟨rfl,rfl⟩ |⟨r,rfl,h⟩
  ·refine aj (r:=rA X) (bW (λ_ p z h=>?_) (by unfold rA;simp)) λp z h=>?_
   ·cases h;dsimp only;refine aj (dJ d) λI v l=>aj (dJ f) λU u j=>aj (pH l j) λo w h=>?_;subst h;cases w with
    |true=>
     refine aj (dJ d) λI v l=>?_;by_cases c:(z.2.2.2.1+1 == b.size)=aN
     ·rw[if_pos c,if_pos c];exact bJ
     rw[if_neg c,if_neg c];by_cases c:z.2.2.2.2.2+1 ≥ k.g
     ·rw[if_pos c];rw[if_pos c];exact bJ
     rw[if_neg c];rw[if_neg c];exact aq (show rA X _ _ by unfold rA;rw[l,<-Wu];rfl)
    |false=>
     refine aj (dJ f) λU u j=>?_;by_cases c:(z.2.2.1+1+1 == a.size)=aN
     ·rw[if_pos c,if_pos c];exact aq (show rA X _ _ by unfold rA;rw[j,f,d];simp)
     rw[if_neg c,if_neg c];by_cases c:z.2.2.2.2.1+1 ≥ k.g
     ·rw[if_pos c];rw[if_pos c];exact bJ
     rw[if_neg c];rw[if_neg c];exact aq (show rA X _ _ by unfold rA;rw[j,<-Wu];rfl)
   ·cases h;obtain⟨Z,O⟩:=z;cases Z with
    |none=>exact bJ
    |some r=>exact aq (.inr ⟨r,rfl,rfl⟩)
  ·exact bJ
 ·rcases h with ⟨rfl,rfl⟩ |⟨r,rfl,h⟩
  ·exact bJ
  ·obtain⟨p1,Q⟩:=p;cases h;exact aq rfl
end
abbrev rj:Nat->StateT SortSt Sem Bool:=sortPriv% PySem.Builtin.mergeAt
abbrev Ir(t:MS):Mm Unit:=λ_=>aw ((),t)
abbrev JJ(f:Array (Nat × Nat × Nat)->Array (Nat × Nat × Nat)):Mm Unit:=λs=>aw ((),{ s with p:=f s.p })
abbrev JK(sa:Nat){α:Type}(r a:Array α):Array α:=r.toList.zipIdx.foldl (λa x=>a.setIfInBounds (sa+x.2) x.1) a
section
variable (n:Nat) (lt:Nat->Nat->Bool)
abbrev wL(i:Nat):Mm Unit:=iC λs=>match s.p[i]?,s.p[i+1]? with
 |some (sa,na,pw),aw (sb,nb,_)=>Ir { s with p:=(s.p.setIfInBounds i (sa,na+nb,pw)).eraseIdxIfInBounds (i+1) } >>= λ_=>kq s.a sb >>= λv=>wH n lt aS v s.a sa na 0 >>= λk=>
  if (na - k == 0)=aN then fG else kq s.a (sa+k+(na - k) - 1) >>= λv=>wH n lt aN v s.a sb nb (nb - 1) >>= λnb=>
  if (nb == 0)=aN then fG else if na - k<=nb then Ab n lt (s.a.extract (sa+k) sb) (s.a.extract sb (sb+nb)) >>= λr=>kQ (JK (sa+k) r) else fG
 |_,_=>fG
abbrev uv(lo m:Nat):Mm (ForInStep Nat):=JJ (λp=>p.push (lo,m,0)) >>= λ_=>pure (.yield (lo+m))
abbrev Ac(b:Nat->Nat->Nat->Nat)(c:Nat->Nat->Nat->Nat->Nat):Mm Unit:=iC λs0=>
 lZp (λ_ lo=>if lo ≥ s0.a.size then pure (.done lo) else z9 n lt lo (s0.a.size - lo) >>= λm=>
  if m < b s0.a.size s0.a.size 0 then Aa n lt lo (min (s0.a.size - lo) (b s0.a.size s0.a.size 0)) m >>= λ_=>iC λs=>match s.p.back? with
   |none=>uv lo (min (s0.a.size - lo) (b s0.a.size s0.a.size 0))
   | some (s1,n1,_)=>lZp (λ_ _=>iC λs=>match (if s.p.size > 1 then s.p[s.p.size - 2]? else aD) with
     |none=>pure (.done ())
     | some (_,_,older)=>if older<=c s0.a.size (2 * s1+n1) (2 * s1+n1+n1+min (s0.a.size - lo) (b s0.a.size s0.a.size 0)) s0.a.size then pure (.done ()) else wL n lt (s.p.size - 2) >>= λ_=>pure (.yield ())) (s0.a.size - 0) 0 () >>= λ_=>
    JJ (λp=>p.modify (p.size - 1) λx=>(x.1,x.2.1,c s0.a.size (2 * s1+n1) (2 * s1+n1+n1+min (s0.a.size - lo) (b s0.a.size s0.a.size 0)) s0.a.size)) >>= λ_=>uv lo (min (s0.a.size - lo) (b s0.a.size s0.a.size 0))
  else fG) (s0.a.size - 0) 0 0 >>= λ_=>
 lZp (λ_ _=>iC λs=>if s.p.size<=1 then pure (.done ()) else
  wL n lt (if Option.any (λx=>decide (x < s.p[s.p.size - 2+1]?.elim 0 λx=>x.2.1)) (if s.p.size - 2 > 0 then Wt (λx=>x.2.1) s.p[s.p.size - 2 - 1]? else aD)=aN then s.p.size - 2 - 1 else s.p.size - 2) >>= λ_=>pure (.yield ())) (s0.a.size - 0) 0 () >>= λ_=>pure ()
abbrev Ae:Mm Unit:=Ac n lt (sortPriv% PySem.Builtin.minRun) (sortPriv% PySem.Builtin.power)
abbrev wM:Option (Array Nat):=(Ae n lt ⟨Yr (Ze n),#[],7⟩).map λr=>r.2.a
end
section
variable {X:Sx} {α β:Type}
def rl{b c:Type}(f:b->c)(sa:Nat):∀ (l:List b) (k:Nat) (a:Array b),((l.map f).zipIdx k).foldl (λa x=>a.setIfInBounds (sa+x.2) x.1) (a.map f)=((l.zipIdx k).foldl (λa x=>a.setIfInBounds (sa+x.2) x.1) a).map f
 |[],_,_=>rfl
 |v::l,k,a=>by
  rw[Zy,We,We,XJ,XJ,<-rl f sa l]
  congr 1
  simp
def Af{f:SortSt->SortSt}{g:Array (Nat × Nat × Nat)->Array (Nat × Nat × Nat)}(k:∀b:MS,f (stM X b)=stM X { b with p:=g b.p }):Sim X (λ_ _=>True) (modify f) (JJ g):=D8 k
def Ef{t:SortSt}{b:MS}(h:t=stM X b):Sim X (λ_ _=>True) (set t) (Ir b):=λ_ _ _ e Q q=>by
 cases e;subst h;exact kasC_modify (f:=λ_=>stM X b) (q _ trivial)
def wN{i:Nat}:Sim X (λo _=>o=aN) (rj i) (wL X.n X.lt i):=by
 unfold wL
 delta rj
 refine dC λb=>?_;dsimp only[stM,SortSt.mk'];cases O:b.p[i]? with
 |none=>cases C:b.p[i+1]? <;> exact bJ
 |some x=>
  cases C:b.p[i+1]? with
  |none=>exact bJ
  |some y=>
   obtain⟨sa,j,J⟩:=x;obtain⟨L,nb,B⟩:=y;dsimp only;refine aj (Ef rfl) λ_ _ _=>aj (dJ rfl) λz v d=>aj (wJ d rfl) λo k l=>?_;subst l;dsimp only;by_cases c:(j - k == 0)=aN
   ·rw[if_pos c,if_pos c];exact bJ
   rw[if_neg c,if_neg c];refine aj (dJ rfl) λz v d=>aj (wJ d rfl) λo m q=>?_;subst q;dsimp only;by_cases c:(m == 0)=aN
   ·rw[if_pos c,if_pos c];exact bJ
   rw[if_neg c,if_neg c];by_cases c:j - k<=m
   ·rw[if_pos c,if_pos c];refine aj (Ee (by simp) (by simp)) λI r u=>?_;subst u
    have e:(kQ (JK (sa+k) r))=(kQ (JK (sa+k) r) >>= λ_=>pure ()):=by
     funext s
     show _=Mm.bd _ _ s;unfold Mm.bd kQ;rw[pJ];rfl
    rw[e];refine aj (wK (f:=λa=>((r.map (kas_item X.it)).toList.zipIdx).foldl (λa x=>a.setIfInBounds (sa+k+x.2) x.1) a) λa=>?_) λ_ _ _=>?_
    ·rw[XG];exact rl (kas_item X.it) (sa+k) r.toList 0 a
    ·show Sim X _ _ (iC λ_=>pure ());exact dC λb=>aq rfl
   ·rw[if_neg c,if_neg c];exact bJ
def Eg:Sim X (λ_ _=>True) sortRuns' (Ae X.n X.lt):=by
 unfold Ae Ac
 delta sortRuns'
 refine dC λd=>?_;have f:(arrOf (stM X d)).size=d.a.size:=Xv ..;dsimp only[arrOf] at f;dsimp only;rw[f];refine aj (r:=rN) (bW (λ_ p z h=>?_) rfl) λp z h=>?_
 ·cases h;dsimp only;by_cases c:z ≥ d.a.size
  ·rw[if_pos c,if_pos c];exact aq rfl
  rw[if_neg c,if_neg c];refine aj Ec λo m j=>?_;subst j;dsimp only;split
  ·refine re (aj Ed λo _ b=>?_);subst b;refine dC λs=>?_;dsimp only[stM,SortSt.mk']
   have ps:∀lo m,Sim X (rFs rN) (do
     modify λst=>setPending st ((pendingOf st).push (lo,m,0))
     pure (.yield ((aD:Option Unit),lo+m))) (uv lo m):=λlo m=>aj (Af λ_=>rfl) λ_ _ _=>aq rfl
   cases B:s.p.back? with
   |none=>exact ps _ _
   |some y=>
    obtain⟨k,u,Y⟩:=y;dsimp only;refine aj (r:=rN) (bW (λ_ p z h=>?_) rfl) λp z h=>?_
    ·cases h;refine dC λs=>?_;dsimp only[stM,SortSt.mk'];cases v:(if s.p.size > 1 then s.p[s.p.size - 2]? else aD) with
     |none=>exact aq rfl
     |some y=>
      obtain⟨l,q,O⟩:=y;dsimp only;split
      ·exact aq rfl
      ·refine aj wN λo _ b=>?_;subst b;exact aq rfl
    ·cases h;exact aj (Af λ_=>rfl) λ_ _ _=>ps _ _
  ·exact bJ
 ·cases h;refine aj (r:=rN) (bW (λ_ p z h=>?_) rfl) λp z h=>?_
  ·cases h;refine dC λs=>?_;dsimp only[stM,SortSt.mk'];split
   ·exact aq rfl
   ·refine aj wN λo _ b=>?_;subst b;exact aq rfl
  ·cases h;exact aq trivial
end
end Ev
def gEG{b:Type _}{l:List b}{i:Nat}(h:i < l.length):l[i]?=aw l[i]:=List.getElem?_eq_getElem h
def bAE(a b:Bool):((a && b)=aN)=(a=aN/\b=aN):=Bool.and_eq_true a b
namespace L2
open PySem PySem.Spec PyProof.Rows
@[inline]abbrev Key:=Sum Int Str
abbrev gQ:Key->Value->Bool
 |.inl k,v=>Value.isInt k v
 |.inr x,v=>Value.isStrOf x v
abbrev OI(w:World):Key->Int
 |.inl k=>hashInt k
 |.inr x=>hashStr w x
def ax:∀ {k:Key} {v:Value},gQ k v=aN->(∃i t,k=Sum.inl i/\v=Value.int i t)\/(∃x t,k=Sum.inr x/\v=Value.str x t)
 |.inl i,v,h=>by
  obtain⟨t,e⟩:=Value.isInt_shape (k:=i) (v:=v) h;exact .inl ⟨i,t,rfl,e⟩
 |.inr x,v,h=>by
  obtain⟨t,e⟩:=Value.isStrOf_shape (x:=x) (v:=v) h;exact .inr ⟨x,t,rfl,e⟩
def yu(i:Int)(t:Tok):gQ (.inl i) (.int i t)=aN:=by simp[gQ,Value.isInt]
def yv(x:Str)(t:Tok):gQ (.inr x) (.str x t)=aN:=by simp[gQ,Value.isStrOf]
def JL(a b:Int):decide ((Sum.inl a:Key)=Sum.inl b)=(a == b):=by
 by_cases e:a=b
 ·subst e;simp
 ·have h:¬ (Sum.inl a:Key)=Sum.inl b:=λq=>e (Sum.inl.inj q);rw[decide_eq_false h];exact(beq_eq_false_iff_ne.mpr e).symm
def JM(a b:Str):decide ((Sum.inr a:Key)=Sum.inr b)=decide (a=b):=by
 by_cases e:a=b
 ·subst e;simp
 ·have h:¬ (Sum.inr a:Key)=Sum.inr b:=λq=>e (Sum.inr.inj q);rw[decide_eq_false h,decide_eq_false e]
def Ag(a:Int)(b:Str):decide ((Sum.inl a:Key)=Sum.inr b)=aS:=decide_eq_false (λq=>nomatch q)
def Ah(a:Str)(b:Int):decide ((Sum.inr a:Key)=Sum.inl b)=aS:=decide_eq_false (λq=>nomatch q)
abbrev be(prog:Program)(w:World):PySem.KeyKind prog w Key where
 is:=gQ
 hash:=OI w
 inj:=λv a b f hb=>by
  rcases ax f with ⟨i,t,rfl,rfl⟩ |⟨x,t,rfl,rfl⟩
  ·rcases ax hb with ⟨j,u,rfl,e⟩ |⟨y,u,rfl,e⟩
   ·injection e with e1 _;rw[e1]
   ·exact nomatch e
  ·rcases ax hb with ⟨j,u,rfl,e⟩ |⟨y,u,rfl,e⟩
   ·exact nomatch e
   ·injection e with e1 _;rw[e1]
 byValue:=λk v h=>by
  rcases ax h with ⟨i,t,rfl,rfl⟩ |⟨x,t,rfl,rfl⟩ <;> rfl
 pyHash:=λc h=>by
  rcases ax c with ⟨i,t,rfl,rfl⟩ |⟨x,t,rfl,rfl⟩
  ·exact wpAny_pyHash_int h
  ·exact wpAny_pyHash_str h
 eqBool:=λd c h=>by
  rcases ax d with ⟨i,t,rfl,rfl⟩ |⟨x,t,rfl,rfl⟩
  ·rcases ax c with ⟨j,u,rfl,rfl⟩ |⟨y,u,rfl,rfl⟩
   ·rw[JL] at h;exact wpAny_eqBool_int h
   ·rw[Ag] at h;exact SeqAt.EqAt.int_str i t y u _ _ _ _ h
  ·rcases ax c with ⟨j,u,rfl,rfl⟩ |⟨y,u,rfl,rfl⟩
   ·rw[Ah] at h;exact SeqAt.EqAt.str_int x t j u _ _ _ _ h
   ·rw[JM] at h;exact wpAny_eqBool_str h
 «strs»:=λk x t v h=>by
  rcases ax h with ⟨i,u,rfl,e⟩ |⟨y,u,rfl,e⟩
  ·exact nomatch e
  ·injection e with e1 _;subst e1;cases v <;> rfl
def rm(prog:Program)(w:World)(i:Int)(t:Tok):(be prog w).is (.inl i) (.int i t)=aN:=yu i t
def rq(prog:Program)(w:World)(x:Str)(t:Tok):(be prog w).is (.inr x) (.str x t)=aN:=yv x t
inductive NK where
 |non |one (k:Key) |tup (ks:List Key)
 deriving DecidableEq
def JN{c d:Type}{F G:c->d->Prop}(f:∀a b,F a b->G a b):∀ {l:List c} {m:List d},Paired F l m->Paired G l m
 |_,_,.nil=>.nil
 |_,_,.cons h t=>.cons (f _ _ h) (JN f t)
section
variable {P:Program} {w:World}
abbrev NIs(P:Program)(w:World)(h:Heap):NK->Value->Prop
 |.non,v=>v = .none
 |.one k,v=>gQ k v=aN
 |.tup ks,v=>∃b,v = .ref b/\IsTupleKey (be P w) h ks b
abbrev dM(P:Program)(w:World)(h:Heap)(ks:List NK)(a:Addr):Prop:=∃o I n,h.get? a=aw o/\o.cls = .type "tuple"/\o.data = .seq I n/\Paired (NIs P w h) ks I.toList
def NIs.inj{h:Heap}{x y:NK}{v:Value}(d:NIs P w h x v)(c:NIs P w h y v):x=y:=by
 cases x with
 |non=>
  cases d;cases y with
  |non=>rfl
  |one k=>rcases ax c with ⟨i,t,_,e⟩ |⟨i,t,_,e⟩ <;> cases e
  |tup ks=>obtain⟨b,e,_⟩:=c;cases e
 |one k=>
  rcases ax d with ⟨i,t,rfl,rfl⟩ |⟨i,t,rfl,rfl⟩
  ·cases y with
   |non=>cases c
   |one j=>rw[(be P w).inj (Value.int i t) (Sum.inl i) j (by exact d) (by exact c)]
   |tup ks=>obtain⟨b,e,_⟩:=c;cases e
  ·cases y with
   |non=>cases c
   |one j=>rw[(be P w).inj (Value.str i t) (Sum.inr i) j (by exact d) (by exact c)]
   |tup ks=>obtain⟨b,e,_⟩:=c;cases e
 |tup ks=>
  obtain⟨b,rfl,hb⟩:=d;cases y with
  |non=>cases c
  |one k=>rcases ax c with ⟨i,t,_,e⟩ |⟨i,t,_,e⟩ <;> cases e
  |tup l=>obtain⟨B,e,f⟩:=c;cases e;rw[hb.inj f]
def nS{h:Heap}:∀ {x y:List NK} {v:List Value},Paired (NIs P w h) x v->Paired (NIs P w h) y v->x=y
 |[],y,_,.nil,hy=>by cases hy;rfl
 |a::x,y,_,.cons h1 t1,hy=>by
  cases hy with
  |cons b T=>rw[h1.inj b,nS t1 T]
def dM.inj{h:Heap}{a:Addr}{x y:List NK}(k:dM P w h x a)(j:dM P w h y a):x=y:=by
 obtain⟨o,c,n,l,_,hd,hi⟩:=k;obtain⟨o',I,q,f,_,b,d⟩:=j;obtain rfl:o=o':=Option.some.inj (l.symm.trans f);rw[hd] at b;injection b with h1 _;subst h1;exact nS hi d
def NIs.keeps{h h':Heap}{k:NK}{v:Value}{d:Addr}{o:Obj}{j f}(x:NIs P w h k v)(c:h.get? d=aw o)(hd:o.data = .dict j f)(hs:Heap.SameBut d h h'):NIs P w h' k v:=by
 cases k with
 |non=>exact x
 |one k=>exact x
 |tup ks=>obtain⟨b,e,hb⟩:=x;exact⟨b,e,hb.keeps c hd hs⟩
def dM.keeps{h h':Heap}{ks:List NK}{a d:Addr}{o:Obj}{q l}(x:dM P w h ks a)(j:h.get? d=aw o)(hd:o.data = .dict q l)(hs:Heap.SameBut d h h'):dM P w h' ks a:=by
 obtain⟨O,I,n,c,k,b,hi⟩:=x
 have f:a ≠ d:=by
  rintro rfl;obtain rfl:O=o:=Option.some.inj (c.symm.trans j);rw[hd] at b;exact nomatch b
 exact⟨O,I,n,(hs.2 a f).trans c,k,b,JN (λ_ _ z=>z.keeps j hd hs) hi⟩
def dM.typeIs{s:Shared}{ks:List NK}{a:Addr}(x:dM P w s.heap ks a):s.TypeIs (.ref a) "tuple" := let ⟨o,_,_,ho,hc,_⟩:=x;⟨o,ho,hc⟩
abbrev nkH(P:Program)(w:World):NK->Int
 |.non=>0xFCA86420
 |.one k=>OI w k
 |.tup ks=>tupleKeyHash (be P w) ks
abbrev nkN:NK->Nat
 |.tup ks=>ks.length+1
 |_=>1
def yw{A:Around}{E:Value->Shared->Prop}{s:Shared}{Q:Int->Shared->Prop}(h:Q 0xFCA86420 { s with toks:=s.toks+1 }):wpAny (model P w) A (pyHash .none) Q E s:=by
 have b:s.TypeIs .none "NoneType" := typeIs_none s;unfold pyHash;have c:[Value.none].any Value.onHeap=aS:=rfl;refine UC ?_;rw[cRoomFor,if_neg (by rw[c];exact Zf)];refine US ?_;refine UC (U0 b F.slot_NoneType_hash.lookup ?_);show wpAny _ _ (if (aw (Value.builtin "NoneType.__hash__") == aw Value.none)=aN then _ else _) Q E s;rw[if_neg (by rw[beq_builtin_none];exact Zf)];refine UC (U0 b F.slot_NoneType_hash.lookup ?_);show wpAny _ _ (VU .none "__hash__" _ >>= _) Q E s;refine UC (wpAny_callSpecialIfBoundUnlessNone?_slot b W7 (UD W7 b F.entry_NoneType_hash ?_ (F.args_NoneType_hash_1 _)));show wpAny _ _ (slotArgs "__hash__" 0 _ >>= λ_=>retInt 0xFCA86420) _ _ s;refine UC (m:=slotArgs "__hash__" 0 _) (US ?_);refine wpAny_ret_mkInt ?_;show wpAny _ _ (pure (0xFCA86420:Int)) Q E _;exact US h
def Ai{A:Around}{E:Value->Shared->Prop}{s:Shared}{k:NK}{v:Value}{Q:Int->Shared->Prop}(d:A.units < cLine)(c:NIs P w s.heap k v)(h:Q (nkH P w k) { s with toks:=s.toks+nkN k }):wpAny (model P w) A (pyHash v) Q E s:=by
 cases k with
 |non=>cases c;exact yw h
 |one k=>exact(be P w).pyHash c h
 |tup ks=>obtain⟨b,rfl,hb⟩:=c;exact wpAny_pyHash_tuple d hb h
abbrev Aj(P:Program)(w:World)(ks:List NK):Int:=reduceHash (Builtin.Tuple.tupleHashOf (ks.map (nkH P w)))
abbrev rB(ks:List NK):Nat:=(ks.map nkN).sum
def yx{A:Around}{E:Value->Shared->Prop}{s:Shared}{ks:List NK}{a:Addr}{Q:Int->Shared->Prop}(q:A.units+1 < cLine)(l:dM P w s.heap ks a)(h:Q (Aj P w ks) { s with toks:=s.toks+(rB ks+1) }):wpAny (model P w) A (pyHash (.ref a)) Q E s:=by
 have f:=l.typeIs;obtain⟨o,I,n,u,_,hd,hi⟩:=l;unfold pyHash
 first |unfold pyHashByItsType |skip
 first |refine UC (wpAny_cRoomFor_or (.inr (by omega)) ?_) |skip
 refine UC (U0 f F.slot_tuple_hash.lookup ?_);show wpAny _ _ (if (aw (Value.builtin "tuple.__hash__") == aw Value.none)=aN then _ else _) Q E s;rw[if_neg (by rw[beq_builtin_none];exact Zf)];refine UC (U0 f F.slot_tuple_hash.lookup ?_);show wpAny _ _ (VU (.ref a) "__hash__" _ >>= _) Q E s;refine UC (wpAny_callSpecialIfBoundUnlessNone?_slot f F.slot_tuple_hash (UD F.slot_tuple_hash f F.entry_tuple_hash ?_ (F.args_tuple_hash_1 _)));show wpAny _ _ (Builtin.Tuple.tupleItemsOf (.ref a) >>= _) _ _ s;refine UC (wpAny_tupleItemsOf u hd ?_);refine UC ?_;rw[<-YA]
 refine UH _
  (λc (b:Array Int) j=>∃done left,ks=done++left/\Paired (NIs P w s.heap) left c/\b.toList=done.map (nkH P w)/\j={ s with toks:=s.toks+rB done })
  _ ?_ ?_ _ _ ⟨[],ks,rfl,hi,rfl,rfl⟩
 ·rintro x c b j ⟨done,left,rfl,hl,hb,rfl⟩;cases hl with
  |@cons k _ ks' _ h1 hl'=>
   refine UC (Ai q h1 ?_)
   first
    |exact US ⟨done++[k],ks',by simp,hl',by simp[hb],by simp[rB,YX]⟩
    |exact UC (US (US ⟨done++[k],ks',by simp,hl',by simp[hb],by simp[rB,YX]⟩))
 ·rintro b j ⟨done,left,rfl,hl,hb,rfl⟩;cases hl;rw[Yb] at h;show wpAny _ _ (retInt (Builtin.Tuple.tupleHashOf b.toList)) _ _ _;rw[hb];refine wpAny_ret_mkInt ?_;show wpAny _ _ (if (decide (-(2:Int) ^ 63<=Builtin.Tuple.tupleHashOf (done.map (nkH P w))) && decide (Builtin.Tuple.tupleHashOf (done.map (nkH P w)) < 2 ^ 63))=aN then _ else _) Q E _;unfold Aj reduceHash at h;by_cases d:(decide (-(2:Int) ^ 63<=Builtin.Tuple.tupleHashOf (done.map (nkH P w))) && decide (Builtin.Tuple.tupleHashOf (done.map (nkH P w)) < 2 ^ 63))=aN
  ·rw[if_pos d];rw[if_pos d] at h;exact US (by simpa[YX] using h)
  ·rw[if_neg d];rw[if_neg d] at h;exact UC (UX (US (by simpa[YX] using h)))
def uw{b:Type}[DecidableEq b](x y:List b):((Ze (min x.length y.length)).all (λj=>decide (x[j]?=y[j]?)) && x.length == y.length)=decide (x=y):=by
 rw[Yg,bAE,ZR,decide_eq_true_eq,beq_iff_eq];constructor
 ·rintro⟨c,f⟩;refine YJ λj=>?_;by_cases d:j < x.length
  ·exact of_decide_eq_true (c j (ZJ.mpr (by omega)))
  ·rw[Zv (by omega),Zv (by omega)]
 ·rintro rfl;exact⟨λj _=>decide_eq_true rfl,rfl⟩
def rC{A:Around}{s:Shared}{x y:Key}{u v:Value}(d:gQ x u=aN)(c:gQ y v=aN):Vk A s u v (decide (x=y)):=by
 rcases ax d with ⟨i,t,rfl,rfl⟩ |⟨a,t,rfl,rfl⟩
 ·rcases ax c with ⟨j,r,rfl,rfl⟩ |⟨b,r,rfl,rfl⟩
  ·rw[show decide ((Sum.inl i:Key)=Sum.inl j)=(i == j) by simp[Xe]];exact .int_int i t j r
  ·rw[Ag];exact .int_str i t b r
 ·rcases ax c with ⟨j,r,rfl,rfl⟩ |⟨b,r,rfl,rfl⟩
  ·rw[Ah];exact .str_int a t j r
  ·rw[show decide ((Sum.inr a:Key)=Sum.inr b)=(a == b) by simp[Xe]];exact .str_str a t b r
def kR{h:Heap}:∀ {ks:List Key} {b:List Value},ItemsAre (be P w) ks b->∀ (j:Nat) v,b[j]?=aw v->∃k,ks[j]?=aw k/\gQ k v=aN
 |_,_,.nil,j,v,e=>by simp at e
 |_,_,.cons h1 t,0,v,e=>by cases e;exact⟨_,rfl,h1⟩
 |_,_,.cons h1 t,j+1,v,e=>kR (h:=h) t j v (by simpa using e)
def Ak{A:Around}{s:Shared}{x y:NK}{u v:Value}(B:A.units < cLine)(C:NIs P w s.heap x u)(d:NIs P w s.heap y v):Vk A s u v (decide (x=y)):=by
 have tup:∀ {ks:List Key} {b:Addr},IsTupleKey (be P w) s.heap ks b->∃I:Array Value,s.heap.IsTuple b I/\ItemsAre (be P w) ks I.toList:=λ⟨o,I,n,Z,L,hd,hi⟩=>⟨I,⟨o,Z,L,n,hd⟩,hi⟩;cases x with
 |non=>
  cases C;cases y with
  |non=>cases d;exact .same _
  |one k=>
   rw[decide_eq_false (λz=>nomatch z)];rcases ax d with ⟨i,t,rfl,rfl⟩ |⟨i,t,rfl,rfl⟩
   ·exact .none_int i t
   ·exact .none_str i t
  |tup ks=>
   obtain⟨b,rfl,hb⟩:=d;obtain⟨I,l,_⟩:=tup hb;rw[decide_eq_false (λz=>nomatch z)];exact .none_tuple l B
 |one k=>
  cases y with
  |non=>
   cases d;rw[decide_eq_false (λz=>nomatch z)];rcases ax C with ⟨i,t,rfl,rfl⟩ |⟨i,t,rfl,rfl⟩
   ·exact .int_none i t
   ·exact .str_none i t
  |one J=>
   rw[show decide (NK.one k=NK.one J)=decide (k=J) by simp];exact rC C d
  |tup ks=>
   obtain⟨b,rfl,hb⟩:=d;obtain⟨I,l,_⟩:=tup hb;rw[decide_eq_false (λz=>nomatch z)];rcases ax C with ⟨i,t,rfl,rfl⟩ |⟨i,t,rfl,rfl⟩
   ·exact .int_tuple i t l B
   ·exact .str_tuple i t l B
 |tup ks=>
  obtain⟨b,rfl,hb⟩:=C;obtain⟨I,l,O⟩:=tup hb;cases y with
  |non=>cases d;rw[decide_eq_false (λz=>nomatch z)];exact .tuple_none l B
  |one k=>
   rw[decide_eq_false (λz=>nomatch z)];rcases ax d with ⟨i,t,rfl,rfl⟩ |⟨i,t,rfl,rfl⟩
   ·exact .tuple_int i t l B
   ·exact .tuple_str i t l B
  |tup f=>
   obtain⟨c,rfl,L⟩:=d;obtain⟨q,U,Q⟩:=tup L;by_cases e:b=c
   ·subst e;rw[hb.inj L,decide_eq_true rfl];exact .same _
   ·refine .of_refs e ?_
    have z:=SeqAt.RcAt.tuples (e:=λj=>decide (ks[j]?=f[j]?)) l U B λj j1 Y=>by
     obtain⟨k,X,m1⟩:=kR (h:=s.heap) O j I[j] (by simp[j1]);obtain⟨J,e2,m2⟩:=kR (h:=s.heap) Q j q[j] (by simp[Y]);rw[X,e2,show decide (aw k=aw J)=decide (k=J) by simp];exact rC m1 m2
    have l1:ks.length=I.size:=O.length.trans Zr;have T:f.length=q.size:=Q.length.trans Zr;rw[<-l1,<-T,uw] at z;rw[show decide (NK.tup ks=NK.tup f)=decide (ks=f) by simp];exact z
def kT{h:Heap}:∀ {ks:List NK} {b:List Value},Paired (NIs P w h) ks b->∀ (j:Nat) v,b[j]?=aw v->∃k,ks[j]?=aw k/\NIs P w h k v
 |_,_,.nil,j,v,e=>by simp at e
 |_,_,.cons h1 t,0,v,e=>by cases e;exact⟨_,rfl,h1⟩
 |_,_,.cons h1 t,j+1,v,e=>kT t j v (by simpa using e)
def Eh{A:Around}{E:Value->Shared->Prop}{s:Shared}{x y:List NK}{a b:Addr}{Q:Bool->Shared->Prop}(U:A.units+1 < cLine)(v:dM P w s.heap x a)(q:dM P w s.heap y b)(h:Q (decide (x=y)) s):wpAny (model P w) A (eqBool (.ref a) (.ref b)) Q E s:=by
 by_cases e:a=b
 ·subst e;rw[v.inj q,decide_eq_true rfl] at h;exact SeqAt.EqAt.same _ _ _ _ _ h
 ·obtain⟨o,c,n,X,J,hd,u⟩:=v;obtain⟨Z,I,n2,d,f,l,B⟩:=q
  have z:=SeqAt.RcAt.tuples (A:=A) (e:=λj=>decide (x[j]?=y[j]?)) (show s.heap.IsTuple a c from ⟨o,X,J,n,hd⟩) (show s.heap.IsTuple b I from ⟨Z,d,f,n2,l⟩) (by omega) λj Y T=>by
   obtain⟨k,O,m1⟩:=kT u j c[j] (by simp[Y]);obtain⟨C,e2,m2⟩:=kT B j I[j] (by simp[T]);rw[O,e2,show decide (aw k=aw C)=decide (k=C) by simp];exact Ak U m1 m2
  have l1:x.length=c.size:=u.length.trans Zr;have L:y.length=I.size:=B.length.trans Zr;rw[<-l1,<-L,uw] at z;exact SeqAt.EqAt.of_refs e z _ _ _ _ h
def yy{A:Around}{E:Value->Shared->Prop}{s:Shared}{x:NK}{v:Value}{Q:Bool->Shared->Prop}(l:NIs P w s.heap x v)(h:Q aN s):wpAny (model P w) A (V4 7 v) Q E s:=by
 cases x with
 |non=>cases l;rw[V5 _ rfl];exact US h
 |one k=>rw[V5 _ ((be P w).byValue k v (by exact l))];exact US h
 |tup ks=>
  obtain⟨b,rfl,y⟩:=l;have z:=y.typeIs;obtain⟨o,I,n,B,_,hd,hi⟩:=y;unfold V4;refine UC (U0 z F.slot_tuple_eq.lookup ?_);show wpAny _ _ (isInstance (.ref b) (.type "tuple") >>= _) _ _ s;refine UC (wpAny_isInstance z Ua ?_);simp only[Xh,ZS,if_false];refine UC (UY B hd ?_);refine UC ?_;show wpAny _ _ (forIn I _ _) _ _ s;rw[<-YA];refine UH _ (λc r f=>r.1=aD/\f=s/\∀v ∈ c,carriedByValue v=aN) _ ?_ ?_ _ _ ⟨rfl,rfl,hi.byValue⟩
  ·rintro v c r f ⟨j,rfl,d⟩;rw[V5 _ (d v Zk)];refine UC (US ?_);simp only[Xh,ZS,if_false];exact US ⟨rfl,rfl,λu q=>d u (Zh _ q)⟩
  ·rintro⟨r1,r2⟩ f ⟨j,rfl,_⟩;simp only at j;subst j;exact US h
def ux{A:Around}{E:Value->Shared->Prop}{s:Shared}{ks:List NK}{a:Addr}{Q:Bool->Shared->Prop}(f:dM P w s.heap ks a)(h:Q aN s):wpAny (model P w) A (V4 8 (.ref a)) Q E s:=by
 have j:=f.typeIs;obtain⟨o,I,n,l,_,hd,hi⟩:=f;unfold V4;refine UC (U0 j F.slot_tuple_eq.lookup ?_);show wpAny _ _ (isInstance (.ref a) (.type "tuple") >>= _) _ _ s;refine UC (wpAny_isInstance j Ua ?_);simp only[Xh,ZS,if_false];refine UC (UY l hd ?_);refine UC ?_;show wpAny _ _ (forIn I _ _) _ _ s;rw[<-YA];refine UH _ (λb r c=>r.1=aD/\c=s/\∃left,Paired (NIs P w s.heap) left b) _ ?_ ?_ _ _ ⟨rfl,rfl,ks,hi⟩
 ·rintro v b r c ⟨d,rfl,left,hl⟩;cases hl with
  |cons k q=>
   refine UC (yy k ?_);simp only[Xh,ZS,if_false];exact US ⟨rfl,rfl,_,q⟩
 ·rintro⟨r1,r2⟩ c ⟨d,rfl,_⟩;simp only at d;subst d;exact US h
end
abbrev fH(P:Program)(w:World):HeapKind P w (List NK) where
 is:=dM P w
 hash:=Aj P w
 draws:=λks=>rB ks+1
 room:=λA=>A.units+1 < cLine
 inj:=λd b=>d.inj b
 keeps:=λx j hd hs=>x.keeps j hd hs
 pyHash:=λf c h=>yx f c h
 eqBool:=λf d b h=>Eh f d b h
 quiet:=λc h=>ux c h
inductive V where
 |non |bl (b:Bool) |int (i:Int) |str (x:Str) |byt (b:Array UInt8) |flt (b:UInt64) |ref (a:Addr) |ty (n:String)
 deriving DecidableEq
abbrev aB:V->Value->Prop
 |.non,u=>u=Value.none
 |.bl b,u=>u=Value.bool b
 |.int i,u=>∃t,u=Value.int i t
 |.str x,u=>∃t,u=Value.str x t
 |.byt b,u=>∃t,u=Value.bytes b t
 |.flt b,u=>∃t,u=Value.float b t
 |.ref a,u=>u=Value.ref a
 |.ty n,u=>u=Value.type n
@[inline]abbrev aP:List V->List Value->Prop:=Paired aB
def aP.length{xs:List V}{u:List Value}(r:aP xs u):xs.length=u.length:=Paired.length r
def aP.get:∀ {xs:List V} {U:List Value} {i:Nat} {x:V},aP xs U->xs[i]?=aw x->∃u,U[i]?=aw u/\aB x u
 |_,_,_,_,.nil,e=>by simp at e
 |_,_,0,_,.cons r _,e=>by simp at e;subst e;exact⟨_,rfl,r⟩
 |_,_,i+1,x,.cons _ t,e=>by
  obtain⟨u,c,b⟩:=aP.get (i:=i) (x:=x) t (by simpa using e);exact⟨u,by simpa using c,b⟩
def aP.set{x:V}{u:Value}(r:aB x u):∀ {xs:List V} {U:List Value} (i:Nat),aP xs U->aP (xs.set i x) (U.set i u)
 |_,_,_,.nil=>.nil
 |_,_,0,.cons _ t=>.cons r t
 |_,_,i+1,.cons q t=>.cons q (aP.set r i t)
def aP.append:∀ {xs y:List V} {u b:List Value},aP xs u->aP y b->aP (xs++y) (u++b)
 |_,_,_,_,.nil,s=>s
 |_,_,_,_,.cons r t,s=>.cons r (aP.append t s)
def aP.take:∀ {xs:List V} {u:List Value} (n:Nat),aP xs u->aP (xs.take n) (u.take n)
 |_,_,0,_=>.nil
 |_,_,_+1,.nil=>.nil
 |_,_,n+1,.cons r t=>.cons r (aP.take n t)
def aP.drop:∀ {xs:List V} {u:List Value} (n:Nat),aP xs u->aP (xs.drop n) (u.drop n)
 |_,_,0,r=>r
 |_,_,_+1,.nil=>.nil
 |_,_,n+1,.cons _ t=>aP.drop n t
abbrev uy:Option V->Option Value->Prop
 |some v,aw u=>aB v u
 |none,aD=>True
 |_,_=>False
abbrev KV{b:Type}:List (b × V)->List (b × Value)->Prop:=Paired λ(p:b × V) (q:b × Value)=>p.1=q.1/\aB p.2 q.2
abbrev kV:Key->V
 |.inl i=>.int i
 |.inr x=>.str x
abbrev pK(h:Heap)(a:Addr)(I:Array Value):Prop:=∃o,h.get? a=aw o/\o.cls = .type "tuple"/\∃n,o.data = .seq I n/\o.dict=aD
def pK.isTup(x:pK h a items):IsTup h a items:=let ⟨o,e,c,n,d,_⟩:=x;⟨o,e,c,n,d⟩
def pK.lt(x:pK h a I):a < h.objs.size:=x.isTup.lt
def pK.new(h:Heap)(items:Array Value):pK (h.push { cls:=.type "tuple", data:=.seq items }) h.objs.size items:=⟨_,Zs _ rfl,rfl,_,rfl,rfl⟩
inductive HO where
  |lst (xs:List V)
  |tup (xs:List V)
  |dK (kvs:List (Key × V)) |dT (kvs:List (List NK × V))
  |set (S:Int->Bool) (n:Nat)
  |ins (C dx:Addr) (fs:List (Str × V))
  |own (x:Addr)
  |xd (fs:List (Str × V))
  |met (f x:Addr)
  |rng (lo hi:Int)
  |frz (o:Obj) (u:HO)
  |tbl (ps:Array Value)
  |ext (φ:Heap->Prop)
@[inline]abbrev Hp:=Addr->Option HO
abbrev upd(H:Hp)(a:Addr)(o:HO):Hp:=λb=>if b=a then aw o else H b
def az{H:Hp}{a:Addr}{o:HO}:upd H a o a=aw o:=by unfold upd;rw[if_pos rfl]
def ac{H:Hp}{a b:Addr}{o:HO}(h:b ≠ a):upd H a o b=H b:=by unfold upd;rw[if_neg h]
def rD{H:Hp}{a b:Addr}{o u:HO}(h:H a=aw o)(h':H b=aw u)(d:o ≠ u):a ≠ b:=by
 intro e;subst e;rw[h] at h';exact d (Option.some.inj h')
def aV{H:Hp}{a b:Addr}{o:HO}(h:H a=aw o)(h':H b=aD):a ≠ b:=by
 intro e;subst e;rw[h] at h';cases h'
abbrev yz(H:Hp):NK->V->Prop
 |.non,x=>x = .non
 |.one k,x=>x=kV k
 |.tup ks,x=>∃b,x = .ref b/\H b=aw (.tup (ks.map kV))
abbrev pL(H:Hp)(ks:List NK)(a:Addr):Prop:=∃X,H a=aw (.tup X)/\Paired (yz H) ks X
def yz.mono{H c:Hp}(d:∀b xs,H b=aw (.tup xs)->c b=aw (.tup xs)){k:NK}{x:V}(h:yz H k x):yz c k x:=by
 cases k with
 |non=>exact h
 |one k=>exact h
 |tup ks=>obtain⟨b,e,q⟩:=h;exact⟨b,e,d _ _ q⟩
def pL.mono{H c:Hp}{ks:List NK}{a:Addr}(h:pL H ks a)(d:∀b xs,H b=aw (.tup xs)->c b=aw (.tup xs)):pL c ks a:=
 let ⟨xs,e,r⟩:=h;⟨xs,d _ _ e,JN (λ_ _ z=>z.mono d) r⟩
section
variable (P:Program) (w:World)
abbrev a9(H:Hp)(h:Heap)(a:Addr):HO->Prop
 |.lst X=>X.length<=sizeLine/\∃ (I:List Value) (n:Nat),aP X I/\h.get? a=aw { cls:=.type "list", data:=.seq I.toArray n }
 |.tup X=>X.length<=sizeLine/\∃I:List Value,aP X I/\pK h a I.toArray
 |.dK kvs=>kvs.length<=sizeLine/\(a == Uz)=aS/\∃d,KV kvs d/\h.DictOf (be P w) a d
 |.dT kvs=>kvs.length<=sizeLine/\(a == Uz)=aS/\∃X:List (List NK × Addr × Value),
   Paired (λ(p:List NK × V) (q:List NK × Addr × Value)=>p.1=q.1/\pL H p.1 q.2.1/\aB p.2 q.2.2) kvs X ∧
   ∃o j l,h.get? a=aw o/\o.ExactDict/\o.data = .dict j l/\j.toList=X.map (entryOfKey (fH P w))/\(X.map (·.1)).Nodup
 |.set S n=>h.SetOf (intKind P w) a S n
 |.ins C dx fs=>H dx=aw (.own a)/\fs.length<=1000/\dx ≠ a/\h.get? a=aw (Vu C dx) ∧
   ∃b,h.Ns1 dx b/\(∀f,uy (fs.lookup f) (b f))/\PySem.Within b (fs.map (·.1))
 |.own _=>∃o,h.get? a=aw o
 |.xd fs=>∃b,h.Ns1 a b/\∀f,uy (fs.lookup f) (b f)
 |.rng lo hi=>∃t u v,h.get? a=aw { cls:=.type "range", data:=.fields #[.int lo t,.int hi u,.int 1 v] }
 |.frz o u=>h.get? a=aw o/\a9 H h a u
 |.tbl ps=>h.get? a=aw { cls:=.none,data:=.fields ps }
 |.met f x=>h.get? a=aw (VF (.ref f) (.ref x))
 |.ext φ=>φ h/\(∃o,h.get? a=aw o)/\∀k c:Heap,φ k->(∀o,k.get? a=aw o->c.get? a=aw o)->φ c
abbrev HOk(H:Hp)(h:Heap):Prop:=∀a o,H a=aw o->a9 P w H h a o
end
section
variable {P:Program} {w:World} {H H':Hp} {h h':Heap} {a:Addr} {o:HO}
def a9.lt(x:a9 P w H h a o):a < h.objs.size:=by
 cases o with
 |lst X=>obtain⟨_,_,_,_,e⟩:=x;exact Zq e
 |tup X=>obtain⟨_,_,_,p⟩:=x;exact p.lt
 |dK k=>obtain⟨_,_,_,_,o,_,_,e,_⟩:=x;exact Zq e
 |dT k=>obtain⟨_,_,_,_,o,_,_,e,_⟩:=x;exact Zq e
 |set S n=>obtain⟨o,_,_,_,e,_⟩:=x;exact Zq e
 |ins C d fs=>obtain⟨_,_,_,e,_⟩:=x;exact Zq e
 |own y=>obtain⟨_,e⟩:=x;exact Zq e
 |xd fs=>obtain⟨_,⟨_,_,_,e,_⟩,_⟩:=x;exact Zq e
 |rng lo hi=>obtain⟨_,_,_,e⟩:=x;exact Zq e
 |frz ob u=>obtain⟨e,_⟩:=x;exact Zq e
 |tbl ps=>exact Zq (show h.get? a=aw _ from x)
 |met f y=>exact Zq (show h.get? a=aw _ from x)
 |ext b=>obtain⟨_,⟨_,e⟩,_⟩:=x;exact Zq e
def Paired.mapP{c d:Type}{F G:c->d->Prop}:∀ {l:List c} {L:List d},Paired F l L->(∀a b,F a b->G a b)->Paired G l L
 |_,_,.nil,_=>.nil
 |_,_,.cons r t,f=>.cons (f _ _ r) (Paired.mapP t f)
def a9.stay(x:a9 P w H h a o)(k:∀b u,(b=a\/H b=aw (.own a))->h.get? b=aw u->h'.get? b=aw u)
  (L:∀b,H b=aw (.own a)->H' b=aw (.own a)) (X:∀b xs,H b=aw (.tup xs)->H' b=aw (.tup xs)):a9 P w H' h' a o:=by
 induction o with
 |lst xs=>obtain⟨z,I,n,r,e⟩:=x;exact⟨z,I,n,r,k _ _ (.inl rfl) e⟩
 |tup xs=>obtain⟨z,I,r,ob,e,c⟩:=x;exact⟨z,I,r,ob,k _ _ (.inl rfl) e,c⟩
 |dK B=>obtain⟨z,y,Q,r,ob,l,j,e,c⟩:=x;exact⟨z,y,Q,r,ob,l,j,k _ _ (.inl rfl) e,c⟩
 |dT B=>
  obtain⟨z,y,xs,r,ob,l,j,e,c⟩:=x;exact⟨z,y,xs,Paired.mapP r λp q z=>⟨z.1,z.2.1.mono X,z.2.2⟩,ob,l,j,k _ _ (.inl rfl) e,c⟩
 |set S n=>obtain⟨ob,l,j,t,e,c⟩:=x;exact⟨ob,l,j,t,k _ _ (.inl rfl) e,c⟩
 |ins C Y fs=>
  obtain⟨d,z,ne,e,J,⟨O,l,j,U,c⟩,r⟩:=x;exact⟨L _ d,z,ne,k _ _ (.inl rfl) e,J,⟨O,l,j,k _ _ (.inr d) U,c⟩,r⟩
 |own y=>obtain⟨ob,e⟩:=x;exact⟨ob,k _ _ (.inl rfl) e⟩
 |xd fs=>obtain⟨J,⟨O,l,j,e,c⟩,r⟩:=x;exact⟨J,⟨O,l,j,k _ _ (.inl rfl) e,c⟩,r⟩
 |rng lo hi=>obtain⟨t,u,v,e⟩:=x;exact⟨t,u,v,k _ _ (.inl rfl) e⟩
 |frz ob u T=>obtain⟨e,q⟩:=x;exact⟨k _ _ (.inl rfl) e,T q⟩
 |tbl ps=>
  have e:h.get? a=aw { cls:=.none,data:=.fields ps }:=x;show h'.get? a=aw { cls:=.none,data:=.fields ps };exact k a _ (.inl rfl) e
 |met f y=>
  have e:h.get? a=aw (VF (.ref f) (.ref y)):=x;show h'.get? a=aw (VF (.ref f) (.ref y));exact k a _ (.inl rfl) e
 |ext Z=>obtain⟨p,⟨o,e⟩,st⟩:=x;exact⟨st _ _ p λo q=>k _ _ (.inl rfl) q,⟨o,k _ _ (.inl rfl) e⟩,st⟩
def HOk.lt(x:HOk P w H h)(e:H a=aw o):a < h.objs.size:=(x a o e).lt
def HOk.fresh(x:HOk P w H h)(e:h.objs.size<=a):H a=aD:=by
 cases q:H a with
 |none=>rfl
 |some u=>exact absurd (ZD (x.lt q) e) (ZK _)
def HOk.kept(x:HOk P w H h)(k:∀b u,h.get? b=aw u->h'.get? b=aw u):HOk P w H h':=λa o e=>
 (x a o e).stay (λb u _ q=>k b u q) (λ_ q=>q) λ_ _ q=>q
def HOk.laid(x:HOk P w H h)(k:∀b u,h.get? b=aw u->h'.get? b=aw u)(f:h.objs.size<=a)(new:a9 P w (upd H a o) h' a o):HOk P w (upd H a o) h':=λb u e=>by
 have d:=x.fresh f;by_cases hb:b=a
 ·subst hb;rw[az] at e;cases e;exact new
 ·rw[ac hb] at e;exact(x b u e).stay (λc v _ q=>k c v q) (λc q=>by rw[ac (aV q d)];exact q) λc X q=>by rw[ac (aV q d)];exact q
end
abbrev Rd(H:Hp)(a:Addr)(u:HO):Prop:=H a=aw u\/∃o,H a=aw (.frz o u)
def Rd.ok{P:Program}{w:World}{H:Hp}{h:Heap}{a:Addr}{u:HO}(r:Rd H a u)(x:HOk P w H h):a9 P w H h a u:=by
 rcases r with r |⟨o,r⟩
 ·exact x a u r
 ·obtain⟨_,q⟩:=x a _ r;exact q
abbrev Mut:Option HO->Prop
 |some (.lst _)=>True
 |some (.dK _)=>True
 |some (.dT _)=>True
 |some (.set _ _)=>True
 |some (.ins _ _ _)=>True
 |some (.ext _)=>True
 |_=>False
section
variable {P:Program} {w:World} {H:Hp} {h h':Heap} {x e:Addr} {o':HO}
def HOk.write(ok:HOk P w H h)(l:Mut (H x))(C:e=x\/H e=aw (.own x))(k:∀b u,b ≠ e->h.get? b=aw u->h'.get? b=aw u)(B:∃u,h'.get? e=aw u)
  (new:a9 P w (upd H x o') h' x o'):HOk P w (upd H x o') h':=λb u q=>by
 have f:∀c y,H c=aw (.own y)->c ≠ x:=λc y r z=>by subst z;rw[r] at l;exact l
 have j:∀c X,H c=aw (.tup X)->c ≠ x:=λc X r z=>by subst z;rw[r] at l;exact l
 by_cases hb:b=x
 ·subst hb;rw[az] at q;cases q;exact new
 ·rw[ac hb] at q;by_cases d:b=e
  ·have Q:H b=aw (.own x):=by
    rcases C with z |z
    ·exact absurd (d.trans z) hb
    ·rw[d];exact z
   rw[q] at Q;cases Q;obtain⟨v,I⟩:=B;exact⟨v,by rw[d];exact I⟩
  ·refine(ok b u q).stay (λc v hc r=>k c v ?_ r) (λc r=>by rw[ac (f c b r)];exact r) λc X r=>by rw[ac (j c X r)];exact r
   rcases hc with rfl |hc
   ·exact d
   ·rintro rfl;rcases C with z |z
    ·exact f c b hc z
    ·rw[hc] at z;cases z;exact hb rfl
end
structure Un(fs ex:List Addr)(H H':Hp)(h h':Heap):Prop where
 keep:∀b o,h.get? b=aw o->H b=aD->b ∉ fs->b ∉ ex->h'.get? b=aw o
 slot:∀b o,h.get? b=aw o->H b=aD->b ∈ fs->b ∉ ex->∃sl,h'.get? b=aw { o with slots:=sl }
 free:∀b o,h.get? b=aw o->H b=aD->b ∉ ex->H' b=aD
 there:∀b o,h.get? b=aw o->b ∉ ex->∃o',h'.get? b=aw o'
 tups:∀b xs,H b=aw (.tup xs)->H' b=aw (.tup xs)
 frzs:∀b o u,H b=aw (.frz o u)->H' b=aw (.frz o u)
 tbls:∀b ps,H b=aw (.tbl ps)->∃more,H' b=aw (.tbl (ps++more))
section
variable {fs fs' ex ex':List Addr} {H H1 H2:Hp} {h h1 h2 h':Heap} {a x e:Addr} {o:HO}
def Un.any(u:Un fs ex H H1 h h1){b:Addr}{ob:Obj}(q:h.get? b=aw ob)(n:H b=aD)(c:b ∉ ex):∃sl,h1.get? b=aw { ob with slots:=sl }:=by
 by_cases hb:b ∈ fs
 ·exact u.slot b ob q n hb c
 ·exact⟨ob.slots,u.keep b ob q n hb c⟩
def Un.kept(k:∀b u,h.get? b=aw u->h'.get? b=aw u):Un fs ex H H h h':=
 ⟨λb ob q _ _ _=>k b ob q,λb ob q _ _ _=>⟨ob.slots,k b ob q⟩,λ_ _ _ n _=>n,λb ob q _=>⟨ob,k b ob q⟩,λ_ _ q=>q,λ_ _ _ q=>q,λ_ ps q=>⟨#[],by rw[q];simp⟩⟩
def Un.refl:Un fs ex H H h h:=Un.kept λ_ _ q=>q
def Un.laid(k:∀b u,h.get? b=aw u->h'.get? b=aw u)(d:h.objs.size<=a)(c:H a=aD):Un fs ex H (upd H a o) h h' where
 keep:=λb u q _ _ _=>k b u q
 slot:=λb u q _ _ _=>⟨u.slots,k b u q⟩
 free:=λb u q n _=>by rw[ac (ZG (ZD (Zq q) d))];exact n
 there:=λb u q _=>⟨u,k b u q⟩
 tups:=λb X q=>by rw[ac (aV q c)];exact q
 frzs:=λb u X q=>by rw[ac (aV q c)];exact q
 tbls:=λb ps q=>⟨#[],by rw[ac (aV q c),q];simp⟩
def Un.write(d:Mut (H x))(v:e=x\/H e=aw (.own x))(k:∀b u,b ≠ e->h.get? b=aw u->h'.get? b=aw u)(f:∃u,h'.get? e=aw u):Un fs ex H (upd H x o) h h':=by
 have l:∀b,H b=aD->b ≠ x:=λb n z=>by subst z;rw[n] at d;exact d
 have hb:∀b,H b=aD->b ≠ e:=λb n z=>by
  subst z;rcases v with r |r
  ·exact l b n r
  ·rw[n] at r;cases r
 have j:∀b u,H b=aw u->¬ Mut (aw u)->b ≠ x:=λb u q nm z=>by subst z;rw[q] at d;exact nm d
 refine⟨λb u q n _ _=>k b u (hb b n) q,λb u q n _ _=>⟨u.slots,k b u (hb b n) q⟩,λb u q n _=>by rw[ac (l b n)];exact n,λb u q _=>?_,
  λb X q=>by rw[ac (j b _ q λz=>z)];exact q,λb u X q=>by rw[ac (j b _ q λz=>z)];exact q,λb ps q=>⟨#[],by rw[ac (j b _ q λz=>z),q];simp⟩⟩
 by_cases c:b=e
 ·subst c;exact f
 ·exact⟨u,k b u c q⟩
end
abbrev trk(h:Heap)(H:Hp):List Addr:=(Ze h.objs.size).filter λa=>(H a).isSome
abbrev kU(h:Heap)(H:Hp):Heap:=PySem.W.hideAll h (trk h H)
def yA(h:Heap)(H:Hp):(kU h H).objs.size=h.objs.size:=PySem.W.hideAll_size _ _
def Al(e:h.get? b=aw o)(n:H b=aD):(kU h H).get? b=aw o:=
 PySem.W.hideAll_get _ e λc=>by
  have q:(H b).isSome=aN:=(ZH.mp c).2;rw[n] at q;simp at q
def Ei(e:(kU h H).get? b=aw o):h.get? b=aw o/\H b=aD:=by
 have c:h.get? b=aw o:=PySem.W.of_hideAll (trk h H) e;refine⟨c,?_⟩;cases q:H b with
 |none=>rfl
 |some x=>
  have d:b ∈ trk h H:=ZH.mpr ⟨ZJ.mpr (Zq c),by simp[q]⟩;have z:(kU h H).get? b=aD:=PySem.W.hideAll_none (trk h H) d;rw[z] at e;cases e
structure Mod(K:Vp)(mg:Str->Option Value)(base:Heap):Prop where
 kin:K.In base
 glob:base.Ns Ud mg
 blt:∃mb,base.Ns VT mb/\∀x:Str,x ≠ "__name__"->mb x=VR x
 nolimit:base.NoLimit
structure Cx where
 prog:Program
 w:World
 K:Vp
 mg:Str->Option Value
 base:Heap
 A:Around
 N:List Str
 s₀:Shared
 H₀:Hp
 env:Env
 outer:List Env
 stack:List Env
 ex:List Addr
 fn:Str->Bool
 calm:Bool
 pn:List (Addr × Obj)
 xe:Value->Shared->Prop
abbrev frs(l:List Env):List Addr:=l.filterMap (·.frame)
noncomputable abbrev Cx.fs(X:Cx):List Addr:=frs X.outer
abbrev Vis(sc:Scope)(x:Str):Prop:=sc.names.lookup x=aw .local\/sc.names.lookup x=aw .cell\/sc.names.lookup x=aw .free
abbrev Loc(sc:Scope)(x:Str):Prop:=sc.names.lookup x=aw .local\/sc.names.lookup x=aw .cell
abbrev RG(env:Env)(h:Heap)(m:Str->Option Value)(x:Str)(u:Value):Prop:=
 (env.kindOf x=aw .local/\m x=aw u)\/((env.kindOf x=aw .cell\/env.kindOf x=aw .free)/\∃c,env.cells.lookup x=aw c/\h.IsCell c (aw u))
structure Cx.Ok(X:Cx):Prop where
 mod:Mod X.K X.mg X.base
 kind:X.env.scope.kind = .function
 glob:X.env.globals=Ud
 blt:X.env.builtins=VT
 above:X.s₀.heap.objs.size<=X.env.locals
 inj:∀x y c,X.env.cells.lookup x=aw c->X.env.cells.lookup y=aw c->x=y
 has:∀x,(X.env.kindOf x=aw .cell\/X.env.kindOf x=aw .free)->∃c,X.env.cells.lookup x=aw c
 cab:∀x c,X.fn x=aN->X.env.cells.lookup x=aw c->X.s₀.heap.objs.size<=c
 hd:X.calm=aN->X.A.handled=aD
 frames:X.A.frames=aw X.stack
 stk:X.stack=X.outer\/(X.stack=X.env::X.outer/\X.env.frame=aw X.env.locals)
 exf:∀b ∈ X.ex,b ≠ X.env.locals/\∀x c,X.env.cells.lookup x=aw c->c ≠ b
 bs:∀b o,X.base.get? b=aw o->X.s₀.heap.get? b=aw o/\X.H₀ b=aD
 bsz:X.base.objs.size<=X.s₀.heap.objs.size
 noex:∀b o,X.base.get? b=aw o->b ∉ X.ex
 exfs:∀b ∈ X.ex,b ∉ X.fs
 funs:X.s₀.heap.FunFrames X.base X.outer
 frf:∀b ∈ X.fs,X.H₀ b=aD
structure Inv(X:Cx)(pins:List (Addr × Obj))(σ:List (Option V))(H:Hp)(s:Shared):Prop where
 ok:X.Ok
 os:s.os=X.s₀.os
 bare:AllBare s.gens
 base:Un X.fs X.ex X.H₀ H X.s₀.heap s.heap
 loc:∃m,s.heap.Ns X.env.locals m/\∀ (i:Nat) (x:Str) (v:V),X.N[i]?=aw x->σ[i]?=aw (aw v)->Vis X.env.scope x->∃u,aB v u/\RG X.env s.heap m x u
 cell:∀x c,X.env.cells.lookup x=aw c->∃v,s.heap.IsCell c v
 free:H X.env.locals=aD
 freeC:∀x c,X.env.cells.lookup x=aw c->H c=aD
 pin:∀p ∈ X.pn++pins,s.heap.get? p.1=aw p.2/\H p.1=aD/\p.1 ≠ X.env.locals/\p.1 ∉ X.fs/\∀v,p.2.data ≠ .cell v
 hok:HOk X.prog X.w H s.heap
 len:σ.length=X.N.length
section
variable {X:Cx} {pins:List (Addr × Obj)} {σ:List (Option V)} {H H':Hp} {s:Shared} {h':Heap}
def Cx.Ok.nofr(ok:X.Ok)(e:X.base.get? b=aw o):b ∉ X.fs:=λhb=>by
 have:=(ok.funs.mem hb).1;rw[e] at this;cases this
def Inv.bs(I:Inv X pins σ H s):∀b o,X.base.get? b=aw o->s.heap.get? b=aw o/\H b=aD:=λb o e=>
 ⟨I.base.keep b o (I.ok.bs b o e).1 (I.ok.bs b o e).2 (I.ok.nofr e) (I.ok.noex b o e),I.base.free b o (I.ok.bs b o e).1 (I.ok.bs b o e).2 (I.ok.noex b o e)⟩
def Inv.bk(I:Inv X pins σ H s):∀b o,X.base.get? b=aw o->s.heap.get? b=aw o:=λb o e=>(I.bs b o e).1
def Inv.mod(I:Inv X pins σ H s):Mod X.K X.mg X.base:=I.ok.mod
def Inv.kIn(I:Inv X pins σ H s):X.K.In s.heap:=I.ok.mod.kin.keeps I.bk
def Inv.lt(I:Inv X pins σ H s):X.env.locals < s.heap.objs.size:=let ⟨_,hn,_⟩:=I.loc;hn.lt
def Inv.sz(I:Inv X pins σ H s):X.s₀.heap.objs.size<=s.heap.objs.size:=ZW I.ok.above (Y4 I.lt)
def Inv.nofs(I:Inv X pins σ H s)(h:s.heap.objs.size<=a):a ∉ X.fs:=λhb=>by
 obtain⟨_,o,b,_⟩:=I.ok.funs.mem hb;exact absurd (ZD (Zq b) (ZW I.sz h)) (ZK _)
def Inv.cne(I:Inv X pins σ H s):∀x c,X.env.cells.lookup x=aw c->c ≠ X.env.locals:=λx c e z=>by
 obtain⟨v,o,f,hd⟩:=I.cell x c e;obtain⟨m,⟨O,k,j,d,b,_⟩,_⟩:=I.loc;rw[z,d] at f;cases f;rw[b] at hd;cases hd
def Inv.funs(I:Inv X pins σ H s):s.heap.FunFrames X.base X.outer:=by
 have all:∀ (l:List Env),(∀b ∈ frs l,b ∈ X.fs)->X.s₀.heap.FunFrames X.base l->s.heap.FunFrames X.base l:=by
  intro l
  induction l with
  |nil=>intro _ _;trivial
  |cons env r f=>
   intro hs j;obtain⟨k,⟨L,o,d,q,v,hd⟩,u⟩:=j;have c:L ∈ X.fs:=hs L (by unfold frs;rw[YV,d];exact Zk);obtain⟨sl,e⟩:=I.base.slot L o v (I.ok.frf L c) c λz=>I.ok.exfs L z c;exact⟨k,⟨L,_,d,q,e,hd⟩,f (λb hb=>hs b (by unfold frs;rw[YV,d];exact Zh _ hb)) u⟩
 exact all X.outer (λ_ hb=>hb) I.ok.funs
def Inv.stack(I:Inv X pins σ H s):s.heap.FunFrames X.base X.stack:=by
 rcases I.ok.stk with e |⟨e,hf⟩
 ·rw[e];exact I.funs
 ·rw[e];obtain⟨m,b,_⟩:=I.loc;refine .cons (by rw[I.ok.kind];decide) hf b ?_ I.funs;exact Heap.get?_none_of_le (ZW I.ok.bsz I.ok.above)
def Inv.stkSub(I:Inv X pins σ H s):∀b ∈ frs X.stack,b ∈ X.env.locals::X.fs:=λb hb=>by
 rcases I.ok.stk with e |⟨e,hf⟩
 ·rw[e] at hb;exact Zh _ hb
 ·rw[e] at hb;unfold frs at hb;rw[YV,hf] at hb;exact hb
def Inv.stkFree(I:Inv X pins σ H s):∀b ∈ frs X.stack,H b=aD:=λb hb=>by
 rcases Zn.mp (I.stkSub b hb) with e |hb
 ·rw[e];exact I.free
 ·obtain⟨_,o,c,_⟩:=I.ok.funs.mem hb;exact I.base.free b o c (I.ok.frf b hb) λz=>I.ok.exfs b z hb
def Inv.step{g':Array GenState}{t':Nat}{d':Drawn}{ch:List Addr}(I:Inv X pins σ H s)
  (j:∀b ∈ ch,(b ∈ X.ex\/X.s₀.heap.objs.size<=b)/\b ≠ X.env.locals/\(∀x c,X.env.cells.lookup x=aw c->c ≠ b)/\∀p ∈ X.pn++pins,p.1 ≠ b)
  (keep:∀b o,b ≠ X.env.locals->b ∉ X.fs->b ∉ ch->s.heap.get? b=aw o->H b=aD->h'.get? b=aw o)
  (slot:∀b o,b ≠ X.env.locals->b ∈ X.fs->b ∉ ch->s.heap.get? b=aw o->H b=aD->∃sl,h'.get? b=aw { o with slots:=sl }) (free:∀b o,b ∉ ch->s.heap.get? b=aw o->H b=aD->H' b=aD)
  (there:∀b o,b ∉ ch->s.heap.get? b=aw o->∃O,h'.get? b=aw O)
  (tups:∀b xs,H b=aw (.tup xs)->H' b=aw (.tup xs)) (frzs:∀b o u,H b=aw (.frz o u)->H' b=aw (.frz o u)) (tbls:∀b ps,H b=aw (.tbl ps)->∃more,H' b=aw (.tbl (ps++more)))
  (ns:∀m,s.heap.Ns X.env.locals m->h'.Ns X.env.locals m) (hok:HOk X.prog X.w H' h') (hg:AllBare g') :
  Inv X pins σ H' { s with heap:=h',gens:=g',drawn:=d',toks:=t' }:=by
 have T:∀b o,X.s₀.heap.get? b=aw o->b ≠ X.env.locals:=λb o e=>ZG (ZD (Zq e) I.ok.above)
 have J:∀b o,X.s₀.heap.get? b=aw o->b ∉ X.ex->b ∉ ch:=λb o e f hb=>by
  rcases (j b hb).1 with z |z
  ·exact f z
  ·exact absurd (ZD (Zq e) z) (ZK _)
 have C:∀x c,X.env.cells.lookup x=aw c->∀v,s.heap.IsCell c v->h'.IsCell c v:=λx c e v ⟨o,L,hd⟩=>by
  have y:c ∉ ch:=λz=>(j c z).2.2.1 x c e rfl;by_cases Y:c ∈ X.fs
  ·obtain⟨sl,q⟩:=slot c o (I.cne x c e) Y y L (I.freeC x c e);exact⟨_,q,hd⟩
  ·exact⟨o,keep c o (I.cne x c e) Y y L (I.freeC x c e),hd⟩
 refine⟨I.ok,I.os,hg,⟨λb o e n hb f=>?_,λb o e n hb f=>?_,λb o e n f=>?_,λb o e f=>?_,λb xs e=>tups b xs (I.base.tups b xs e),λb o xs e=>frzs b o xs (I.base.frzs b o xs e),λb ps e=>?_⟩,?_,λx c e=>?_,?_,λx c e=>?_,λp Z=>?_,hok,I.len⟩
 ·exact keep b o (T b o e) hb (J b o e f) (I.base.keep b o e n hb f) (I.base.free b o e n f)
 ·obtain⟨sl,B⟩:=I.base.slot b o e n hb f;obtain⟨U,Q⟩:=slot b _ (T b o e) hb (J b o e f) B (I.base.free b o e n f);exact⟨U,Q⟩
 ·obtain⟨O,B⟩:=I.base.there b o e f;exact free b O (J b o e f) B (I.base.free b o e n f)
 ·obtain⟨O,B⟩:=I.base.there b o e f;exact there b O (J b o e f) B
 ·obtain⟨m1,B⟩:=I.base.tbls b ps e;obtain⟨m2,Q⟩:=tbls b _ B;exact⟨m1++m2,by rw[Q,Array.append_assoc]⟩
 ·obtain⟨m,hn,hl⟩:=I.loc;refine⟨m,ns m hn,λi x v B Q e3=>?_⟩;obtain⟨u,r,l⟩:=hl i x v B Q e3;refine⟨u,r,?_⟩;rcases l with l |⟨k,c,e,z⟩
  ·exact .inl l
  ·exact .inr ⟨k,c,e,C x c e _ z⟩
 ·obtain⟨v,z⟩:=I.cell x c e;exact⟨v,C x c e v z⟩
 ·obtain⟨m,⟨o,_,_,L,_⟩,_⟩:=I.loc;exact free _ o (λz=>(j _ z).2.1 rfl) L I.free
 ·obtain⟨v,o,L,hd⟩:=I.cell x c e;exact free c o (λz=>(j c z).2.2.1 x c e rfl) L (I.freeC x c e)
 ·obtain⟨e,n,ne,nf,d⟩:=I.pin p Z;have y:p.1 ∉ ch:=λz=>(j p.1 z).2.2.2 p Z rfl;exact⟨keep p.1 p.2 ne nf y e n,free p.1 p.2 y e n,ne,nf,d⟩
def Inv.un{t':Nat}(I:Inv X pins σ H s)(u:Un X.fs [] H H' s.heap h')(hok:HOk X.prog X.w H' h'):Inv X pins σ H' { s with heap:=h',toks:=t' }:=by
 obtain⟨m,⟨o,y,v,j,r⟩,_⟩:=id I.loc;obtain⟨sl,l⟩:=u.any j I.free (by simp)
 exact I.step (g':=s.gens) (d':=s.drawn) (ch:=[]) (λ_ z=>nomatch z) (λb o _ hb _ e n=>u.keep b o e n hb (by simp)) (λb o _ hb _ e n=>u.slot b o e n hb (by simp)) (λb o _ e n=>u.free b o e n (by simp)) (λb o _ e=>u.there b o e (by simp)) u.tups u.frzs u.tbls (λB q=>by
  obtain⟨O,d,f,c,k⟩:=q;rw[j] at c;cases c;exact⟨_,d,f,l,k⟩) hok I.bare
def Inv.call{g':Array GenState}{t':Nat}{d':Drawn}{ch:List Addr}(I:Inv X pins σ H s)(u:Un (frs X.stack) ch H H' s.heap h')(hok:HOk X.prog X.w H' h')(C:AllBare g')
  (f:∀b ∈ ch,(b ∈ X.ex\/X.s₀.heap.objs.size<=b)/\b ≠ X.env.locals/\(∀x c,X.env.cells.lookup x=aw c->c ≠ b)/\∀p ∈ X.pn++pins,p.1 ≠ b) :
  Inv X pins σ H' { s with heap:=h',gens:=g',drawn:=d',toks:=t' }:=by
 obtain⟨m,⟨o,Q,L,v,r⟩,_⟩:=id I.loc;obtain⟨sl,l⟩:=u.any v I.free λz=>(f _ z).2.1 rfl
 exact I.step (ch:=ch) f (λb o l hb d e n=>u.keep b o e n (λz=>(Zn.mp (I.stkSub b z)).elim l hb) d) (λb o _ _ d e n=>u.any e n d) (λb o d e n=>u.free b o e n d) (λb o d e=>u.there b o e d) u.tups u.frzs u.tbls (λJ y=>by
  obtain⟨O,q,k,j,B⟩:=y;rw[v] at j;cases j;exact⟨_,q,k,l,B⟩) hok C
def Inv.turned{t':Nat}{it:Addr}(I:Inv X pins σ H s)(k:∀b o,b ≠ it->s.heap.get? b=aw o->h'.get? b=aw o)(l:H it=aD)(j:it ≠ X.env.locals)
  (Q:it ∈ X.ex\/X.s₀.heap.objs.size<=it) (L:∀x c,X.env.cells.lookup x=aw c->c ≠ it) (J:∀p ∈ X.pn++pins,p.1 ≠ it):Inv X pins σ H { s with heap:=h',toks:=t' }:=by
 have f:∀b u,H b=aw u->b ≠ it:=λb u e z=>by rw[z,l] at e;cases e
 refine I.step (g':=s.gens) (d':=s.drawn) (ch:=[it]) (λb hb=>?_) (λb o _ _ d e _=>k b o (λz=>d (by simp[z])) e) (λb o _ _ d e _=>⟨o.slots,k b o (λz=>d (by simp[z])) e⟩) (λ_ _ _ _ n=>n)
  (λb o d e=>⟨o,k b o (λz=>d (by simp[z])) e⟩) (λ_ _ e=>e) (λ_ _ _ e=>e) (λb ps e=>⟨#[],by rw[e];simp⟩) (λm y=>?_) (λb u e=>?_) I.bare
 ·have e:b=it:=by simpa using hb
  subst e;exact⟨Q,j,L,J⟩
 ·obtain⟨o,O,B,C,r⟩:=y;exact⟨o,O,B,k _ o (Ne.symm j) C,r⟩
 ·refine(I.hok b u e).stay (λc v d q=>k c v ?_ q) (λ_ q=>q) λ_ _ q=>q;rcases d with z |z
  ·rw[z];exact f b u e
  ·exact f c _ z
def Inv.tok(I:Inv X pins σ H s)(t:Nat):Inv X pins σ H { s with toks:=t }:=I.un (h':=s.heap) (t':=t) Un.refl I.hok
def Inv.kept{t':Nat}(I:Inv X pins σ H s)(k:∀b u,s.heap.get? b=aw u->h'.get? b=aw u):Inv X pins σ H { s with heap:=h',toks:=t' }:=I.un (Un.kept k) (I.hok.kept k)
def Inv.laid{a:Addr}{o:HO}{t':Nat}(I:Inv X pins σ H s)(k:∀b u,s.heap.get? b=aw u->h'.get? b=aw u)(c:s.heap.objs.size<=a)(new:a9 X.prog X.w (upd H a o) h' a o) :
  Inv X pins σ (upd H a o) { s with heap:=h',toks:=t' }:=I.un (Un.laid k c (I.hok.fresh c)) (I.hok.laid k c new)
def Inv.write{t':Nat}(I:Inv X pins σ H s)(f:Mut (H x))(d:e=x\/H e=aw (.own x))(k:∀b u,b ≠ e->s.heap.get? b=aw u->h'.get? b=aw u)(c:∃u,h'.get? e=aw u)
  (new:a9 X.prog X.w (upd H x o) h' x o):Inv X pins σ (upd H x o) { s with heap:=h',toks:=t' }:=I.un (Un.write f d k c) (I.hok.write f d k c new)
def Inv.pins_of(I:Inv X pins σ H s)(h:∀p ∈ b,s.heap.get? p.1=aw p.2/\H p.1=aD/\p.1 ≠ X.env.locals/\p.1 ∉ X.fs/\∀v,p.2.data ≠ .cell v):Inv X b σ H s:=
 ⟨I.ok,I.os,I.bare,I.base,I.loc,I.cell,I.free,I.freeC,λp c=>(ZM.mp c).elim (λz=>I.pin p (ZY _ z)) (h p),I.hok,I.len⟩
def rE{N:List Str}(hN:N.Nodup){i j:Nat}{x:Str}(a:N[i]?=aw x)(b:N[j]?=aw x):i=j:=by
 obtain⟨k,d⟩:=Zb.mp a;obtain⟨f,c⟩:=Zb.mp b;exact(YS hN).mp (d.trans c.symm)
def nU{M:Model}{A:Around}{E:Value->Shared->Prop}{i:Nat}{x:Str}{v:V}{u:Value}{Q:Unit->Shared->Prop}(I:Inv X pins σ H s)(hN:X.N.Nodup)(hi:X.N[i]?=aw x)(l:Loc X.env.scope x)(r:aB v u)
  (h:∀s',Inv X pins (σ.set i (aw v)) H s'->(∃a,Heap.SameBut a s.heap s'.heap/\(a=X.env.locals\/X.env.cells.lookup x=aw a))->Q () s') (hf:X.fn x=aN\/X.env.scope.names.lookup x=aw .local:=by first |exact .inl rfl |exact .inr rfl |assumption):wpAny M A (storeName X.env x u) Q E s:=by
 obtain⟨m,hn,hl⟩:=id I.loc;have U:(X.env.scope.kind == .class || (X.env.scope.kind == .module && X.env.locals != X.env.globals))=aS:=by rw[I.ok.kind];rfl
 have J:i < σ.length:=by rw[I.len];exact(Zb.mp hi).1
 have cne:=I.cne
 have T:∀ {a:Addr} {h':Heap},(∃o,s.heap.get? a=aw o/\H a=aD)->Heap.SameBut a s.heap h'->HOk X.prog X.w H h':=λ{a h'} ha hs b ob e=>by
  obtain⟨_,_,B⟩:=ha;refine(I.hok b ob e).stay (λc w' hc q=>(hs.2 c ?_).trans q) (λ_ q=>q) λ_ _ q=>q;rintro rfl;rcases hc with rfl |hc
  ·rw[B] at e;cases e
  ·rw[B] at hc;cases hc
 rcases l with hk |hk
 ·refine wpAny_storeName_local hk hn (λh' hn' hs=>?_) U;obtain⟨oL,_,_,hoL,_⟩:=id hn;refine h _ ⟨I.ok,I.os,I.bare,⟨λb o e n hb l=>?_,λb o e n hb l=>?_,I.base.free,λb o e l=>?_,I.base.tups,I.base.frzs,I.base.tbls⟩,⟨_,hn',λj y v' f C e3=>?_⟩,λy c e=>?_,I.free,I.freeC,λp hp=>?_,T ⟨oL,hoL,I.free⟩ hs,by simpa using I.len⟩ ⟨_,hs,.inl rfl⟩
  ·exact(hs.2 b (ZG (ZD (Zq e) I.ok.above))).trans (I.base.keep b o e n hb l)
  ·obtain⟨sl,f⟩:=I.base.slot b o e n hb l;exact⟨sl,(hs.2 b (ZG (ZD (Zq e) I.ok.above))).trans f⟩
  ·obtain⟨o',f⟩:=I.base.there b o e l;exact⟨o',(hs.2 b (ZG (ZD (Zq e) I.ok.above))).trans f⟩
  ·by_cases O:j=i
   ·subst O;rw[hi] at f;cases f;rw[ZU J] at C;cases C;exact⟨u,r,.inl ⟨hk,by simp⟩⟩
   ·rw[Zz (Ne.symm O)] at C;obtain⟨u',r',q⟩:=hl j y v' f C e3;refine⟨u',r',?_⟩;rcases q with ⟨k,e⟩ |⟨k,c,e,z⟩
    ·refine .inl ⟨k,?_⟩;have:y ≠ x:=λe=>O (rE hN f (e ▸ hi));simp[this,e]
    ·exact .inr ⟨k,c,e,z.sameBut hs (cne y c e)⟩
  ·obtain⟨w',z⟩:=I.cell y c e;exact⟨w',z.sameBut hs (cne y c e)⟩
  ·obtain⟨e,n,ne,nf,d⟩:=I.pin p hp;exact⟨(hs.2 p.1 ne).trans e,n,ne,nf,d⟩
 ·have L:X.fn x=aN:=by
   rcases hf with z |z
   ·exact z
   ·rw[z] at hk;cases hk
  obtain⟨c,hc⟩:=I.ok.has x (.inl hk);obtain⟨w',z⟩:=I.cell x c hc;refine wpAny_storeName_cell I.ok.kind hk hc z (λh' hc' hs=>?_);obtain⟨oc,Y,Z⟩:=id z;refine h { s with heap:=h' } ⟨I.ok,I.os,I.bare,⟨λb o e n hb l=>?_,λb o e n hb l=>?_,I.base.free,λb o e l=>?_,I.base.tups,I.base.frzs,I.base.tbls⟩,⟨m,hn.sameBut hs (Ne.symm (cne x c hc)),λj y v' f C e3=>?_⟩,λy c' e=>?_,I.free,I.freeC,λp hp=>?_,T ⟨oc,Y,I.freeC x c hc⟩ hs,by simpa using I.len⟩ ⟨c,hs,.inr hc⟩
  ·exact(hs.2 b (ZG (ZD (Zq e) (I.ok.cab x c L hc)))).trans (I.base.keep b o e n hb l)
  ·obtain⟨sl,f⟩:=I.base.slot b o e n hb l;exact⟨sl,(hs.2 b (ZG (ZD (Zq e) (I.ok.cab x c L hc)))).trans f⟩
  ·obtain⟨o',f⟩:=I.base.there b o e l;exact⟨o',(hs.2 b (ZG (ZD (Zq e) (I.ok.cab x c L hc)))).trans f⟩
  ·by_cases O:j=i
   ·subst O;rw[hi] at f;cases f;rw[ZU J] at C;cases C;exact⟨u,r,.inr ⟨.inl hk,c,hc,hc'⟩⟩
   ·rw[Zz (Ne.symm O)] at C;obtain⟨u',r',q⟩:=hl j y v' f C e3;refine⟨u',r',?_⟩;rcases q with q |⟨k,c',e,z'⟩
    ·exact .inl q
    ·refine .inr ⟨k,c',e,z'.sameBut hs ?_⟩;rintro rfl;exact O (rE hN f (I.ok.inj _ _ _ e hc ▸ hi))
  ·by_cases hcc:c'=c
   ·subst hcc;exact⟨_,hc'⟩
   ·obtain⟨w2,z2⟩:=I.cell y c' e;exact⟨w2,z2.sameBut hs hcc⟩
  ·obtain⟨e,n,ne,nf,d⟩:=I.pin p hp;refine⟨(hs.2 p.1 ?_).trans e,n,ne,nf,d⟩;intro q;rw[q,Y] at e;have q':oc=p.2:=Option.some.inj e;exact d w' (by rw[<-q'];exact Z)
def iE{i:Nat}(I:Inv X pins σ H s)(hN:X.N.Nodup)(hi:X.N[i]?=aw x)(d:Loc X.env.scope x)(r:aB v u)
  (h:∀b,Inv X pins (σ.set i (aw v)) H b->Q () b) (f:X.fn x=aN\/X.env.scope.names.lookup x=aw .local:=by first |exact .inl rfl |exact .inr rfl |assumption):wpAny M A (storeName X.env x u) Q E s:=
 nU I hN hi d r (λb c _=>h b c) f
def Inv.call'(I:Inv X pins σ H s)(k:s'.os=s.os)(u:Un (frs X.stack) ch H H' s.heap s'.heap)(hok:HOk X.prog X.w H' s'.heap)(f:AllBare s'.gens)
  (d:∀b ∈ ch,(b ∈ X.ex\/X.s₀.heap.objs.size<=b)/\b ≠ X.env.locals/\(∀x c,X.env.cells.lookup x=aw c->c ≠ b)/\∀p ∈ X.pn++pins,p.1 ≠ b):Inv X pins σ H' s':=by
 obtain⟨h',j,l,T,O⟩:=s';have e:O=s.os:=k;subst e;exact I.call (g':=j) (t':=T) (d':=l) u hok f d
end
@[inline]abbrev XK:=Value->Option Addr->Hp->Prop
@[inline]abbrev St:=List (Option V)
@[inline]abbrev VK:=V->Hp->Prop
@[inline]abbrev TE:=St->Hp->VK->Prop
@[inline]abbrev TT:=St->Hp->(Bool->Hp->Prop)->Prop
@[inline]abbrev TA:=St->Hp->(List V->Hp->Prop)->Prop
structure Ends where
 nx:St->Hp->Prop
 rt:VK
 bk:St->Hp->Prop:=λ_ _=>False
 ct:St->Hp->Prop:=λ_ _=>False
@[inline]abbrev TS:=Ends->St->Hp->Prop
abbrev EP(X:Cx)(b:List (Addr × Obj))(f:St)(Q:VK)(u:Value)(d:Shared):Prop:=∃v c,Inv X b f c d/\aB v u/\Q v c
abbrev TP(X:Cx)(c:List (Addr × Obj))(j:St)(Q:Bool->Hp->Prop)(b:Bool)(f:Shared):Prop:=∃d,Inv X c j d f/\Q b d
abbrev AP(X:Cx)(b:List (Addr × Obj))(f:St)(Q:List V->Hp->Prop)(u:List Value)(d:Shared):Prop:=∃v c,Inv X b f c d/\aP v u/\Q v c
abbrev SP(X:Cx)(c:List (Addr × Obj))(D:Ends)(f:Flow)(j:Shared):Prop:=
 match f with
 |.next=>∃b d,Inv X c b d j/\D.nx b d
 |.brk=>∃b d,Inv X c b d j/\D.bk b d
 |.cont=>∃b d,Inv X c b d j/\D.ct b d
 |.ret u=>∃v b d,Inv X c b d j/\aB v u/\D.rt v d
abbrev PE(X:Cx)(e:Expr)(t:TE):Prop:=
 ∀ (b:List (Addr × Obj)) (s:Shared) (c:St) (H:Hp) (Q:VK),Inv X b c H s->t c H Q->wpAny (model X.prog X.w) X.A (eval e X.env) (EP X b c Q) X.xe s
abbrev PT(X:Cx)(e:Expr)(t:TT):Prop:=
 ∀ (b:List (Addr × Obj)) (s:Shared) (c:St) (H:Hp) (Q:Bool->Hp->Prop),Inv X b c H s->t c H Q->wpAny (model X.prog X.w) X.A (isTrue e X.env (eval e X.env)) (TP X b c Q) X.xe s
abbrev PW(X:Cx)(e:Expr)(t:TT):Prop:=
 ∀ (c:Sem Value) (b:List (Addr × Obj)) (s:Shared) (d:St) (H:Hp) (Q:Bool->Hp->Prop),Inv X b d H s->t d H Q->wpAny (model X.prog X.w) X.A (isTrue e X.env c) (TP X b d Q) X.xe s
def PW.pt(h:PW X e t):PT X e t:=h _
abbrev PA(X:Cx)(f:List Expr)(t:TA):Prop:=
 ∀ (d:Pos) (b:List (Addr × Obj)) (s:Shared) (c:St) (H:Hp) (Q:List V->Hp->Prop),Inv X b c H s->t c H Q->wpAny (model X.prog X.w) X.A (spliced (backTo d (Uv f X.env))) (AP X b c Q) X.xe s
abbrev PS(X:Cx)(st:Stmt)(t:TS):Prop:=
 ∀ (b:List (Addr × Obj)) (s:Shared) (c:St) (H:Hp) (D:Ends),Inv X b c H s->t D c H->wpAny (model X.prog X.w) X.A (exec st X.env) (SP X b D) X.xe s
abbrev PSs(X:Cx)(st:List Stmt)(t:TS):Prop:=
 ∀ (b:List (Addr × Obj)) (s:Shared) (c:St) (H:Hp) (D:Ends),Inv X b c H s->t D c H->wpAny (model X.prog X.w) X.A (execs st X.env) (SP X b D) X.xe s
def thn{b:Type}{t:Sem b}{Q q:b->Shared->Prop}{M:Model}{A:Around}{E:Value->Shared->Prop}{s:Shared}(h:wpAny M A t Q E s)(c:∀a s,Q a s->q a s):wpAny M A t q E s:=UM h c λ_ _ x=>x
section
variable {X:Cx}
abbrev yB(i:Nat):TE:=λb H Q=>∃v,b[i]?=aw (aw v)/\Q v H
abbrev tC(v:V):TE:=λ_ H Q=>Q v H
def uz{i:Nat}(hN:X.N[i]?=aw x)(q:Vis X.env.scope x)(hd:(x == ("__debug__" : Str))=aS:=by decide)(j:(x == ("__classdict__" : Str))=aS:=by decide):PE X (.Name x J) (yB i):=by
 intro d s B H Q I h;obtain⟨v,e,h⟩:=h;obtain⟨m,y,C⟩:=I.loc;obtain⟨u,r,l⟩:=C i x v hN e q;have f:EP X d B Q u s:=⟨v,H,I,r,h⟩;rcases l with ⟨hk,z⟩ |⟨hk,c,k,b⟩
 ·exact wpAny_Name (wpAny_loadName_local I.ok.kind hk y z f) hd
 ·rcases hk with hk |hk
  ·exact wpAny_Name (wpAny_loadName_cell I.ok.kind hk k b f) hd
  ·exact wpAny_Name (wpAny_loadName_free I.ok.kind hk k b f j) hd
def uA{i j b}:PE X (.Constant (.int i) j b) (tC (.int i)):=λ_ _ _ H _ I h=>wpAny_Constant_int ⟨.int i,H,I.tok _,⟨_,rfl⟩,h⟩
def OJ{b j c}:PE X (.Constant (.bool b) j c) (tC (.bl b)):=λ_ _ _ H _ I h=>Constant_bool ⟨.bl b,H,I,rfl,h⟩
def Am{j pos}:PE X (.Constant .none j pos) (tC .non):=λ_ _ _ H _ I h=>Constant_none ⟨.non,H,I,rfl,h⟩
def JO{x j b}:PE X (.Constant (.str x) j b) (tC (.str x)):=λ_ _ _ H _ I h=>Calls.Constant_str ⟨.str x,H,I.tok _,⟨_,rfl⟩,h⟩
abbrev Gl(X:Cx)(x:Str):Prop:=X.env.kindOf x=aw .globalImplicit
def wP(I:Inv X b j H s)(c:Gl X x)(d:X.mg x=aw u)(h:Q u s)
  (hd:(x == ("__debug__" : Str))=aS:=by decide):wpAny (model X.prog X.w) X.A (eval (.Name x f) X.env) Q E s:=
 WT I.ok.kind c (Calls.loadGlobal_global (by rw[I.ok.glob];exact I.mod.glob.keeps I.bk) d h) hd
def eU(I:Inv X b v H s)(d:Gl X x)(k:X.mg x=aD)(f:VR x=aw u)(h:Q u s)
  (j:x ≠ "__name__" := by decide) (hd:(x == ("__debug__" : Str))=aS:=by decide):wpAny (model X.prog X.w) X.A (eval (.Name x l) X.env) Q E s:=by
 obtain⟨y,q,c⟩:=I.mod.blt;exact WT I.ok.kind d (Calls.loadGlobal_builtin (by rw[I.ok.glob];exact I.mod.glob.keeps I.bk) k (by rw[I.ok.blt];exact q.keeps I.bk) ((c x j).trans f) h) hd
def Ej(b:Gl X x)(c:X.mg x=aw u)(r:aB v u)(hd:(x == ("__debug__" : Str))=aS:=by decide):PE X (.Name x d) (tC v):=
 λ_ _ _ H _ I h=>wP I b c ⟨v,H,I,r,h⟩ hd
def iG(b:Gl X x)(f:X.mg x=aD)(c:VR x=aw u)(r:aB v u)(d:x ≠ "__name__" := by decide)(hd:(x == ("__debug__" : Str))=aS:=by decide):PE X (.Name x j) (tC v):=
 λ_ _ _ H _ I h=>eU I b f c ⟨v,H,I,r,h⟩ d hd
variable {a b:Expr} {ta tb:TE} {pos:Pos}
variable {tA tB':TT} {rest:List Expr}
abbrev OK(t u:TT):TT:=λf H Q=>t f H λc d=>if c=aN then u f d Q else Q aS d
abbrev tOr(t u:TT):TT:=λf H Q=>t f H λc d=>if c=aN then Q aN d else u f d Q
abbrev OL(t:TT):TT:=λf H Q=>t f H λc d=>Q (!c) d
def Ek(f:PT X a tA):PW X (.BoolOp .And [a] pos) tA:=by
 intro l d s j H Q I h;refine isTrue_and (thn (f d s j H Q I h) λc k e=>?_);cases c with
 |true=>exact isTrue_and_nil e
 |false=>exact e
def JP(f:PT X a tA):PW X (.BoolOp .Or [a] pos) tA:=by
 intro l d s j H Q I h;refine isTrue_or (thn (f d s j H Q I h) λc k e=>?_);cases c with
 |false=>exact isTrue_or_nil e
 |true=>exact e
def An(v:PT X a tA)(hb:PW X (.BoolOp .And (b::rest) pos) tB'):PW X (.BoolOp .And (a::b::rest) pos) (OK tA tB'):=by
 intro u d s k H Q I h;refine isTrue_and (thn (v d s k H _ I h) λc l ⟨j,f,q⟩=>?_);cases c with
 |true=>exact hb u d l k j Q f q
 |false=>exact⟨j,f,q⟩
def Iu(v:PT X a tA)(hb:PW X (.BoolOp .Or (b::rest) pos) tB'):PW X (.BoolOp .Or (a::b::rest) pos) (tOr tA tB'):=by
 intro u d s k H Q I h;refine isTrue_or (thn (v d s k H _ I h) λc l ⟨j,f,q⟩=>?_);cases c with
 |true=>exact⟨j,f,q⟩
 |false=>exact hb u d l k j Q f q
def JQ(j:PT X a tA):PT X (.UnaryOp .Not a pos) (OL tA):=by
 intro d s k H Q I h;exact isTrue_not (j d s k H (λc f=>Q (!c) f) I h)
abbrev Iv(ta tb:TE):TE:=λf H Q=>ta f H λx d=>∃c,x = .bl c/\if c=aN then tb f d Q else Q (.bl aS) d
abbrev OM(ta tb:TE):TE:=λf H Q=>ta f H λx d=>∃c,x = .bl c/\if c=aN then Q (.bl aN) d else tb f d Q
abbrev Iw(ta:TE):TE:=λf H Q=>ta f H λx d=>∃c,x = .bl c/\Q (.bl (!c)) d
def Ao{op}(h:PE X a t):PE X (.BoolOp op [a] pos) t:=λc s f H Q I d=>BoolOp_one (h c s f H Q I d)
def Ap(u:PE X a ta)(hb:PE X (.BoolOp .And (b::rest) pos) tb):PE X (.BoolOp .And (a::b::rest) pos) (Iv ta tb):=by
 intro d s k H Q I h;refine BoolOp_and (thn (u d s k H _ I h) λv l ⟨x,j,f,r1,q⟩=>?_);obtain⟨c,rfl,q⟩:=q;cases r1;refine U2 ?_;cases c with
 |true=>exact hb d l k j Q f q
 |false=>exact⟨.bl aS,j,f,rfl,q⟩
def Ix(u:PE X a ta)(hb:PE X (.BoolOp .Or (b::rest) pos) tb):PE X (.BoolOp .Or (a::b::rest) pos) (OM ta tb):=by
 intro d s k H Q I h;refine BoolOp_or (thn (u d s k H _ I h) λv l ⟨x,j,f,r1,q⟩=>?_);obtain⟨c,rfl,q⟩:=q;cases r1;refine U2 ?_;cases c with
 |false=>exact hb d l k j Q f q
 |true=>exact⟨.bl aN,j,f,rfl,q⟩
def JR(k:PE X a ta):PE X (.UnaryOp .Not a pos) (Iw ta):=by
 intro d s l H Q I h;refine UnaryOp_ (thn (k d s l H _ I h) λv u ⟨x,j,f,r1,q⟩=>?_);obtain⟨c,rfl,q⟩:=q;cases r1;exact not_of (U2 ⟨.bl (!c),j,f,rfl,q⟩)
abbrev tIf(t:TT)(ta tb:TE):TE:=λd H Q=>t d H λc f=>if c=aN then ta d f Q else tb d f Q
def Aq{c:Expr}(hc:PT X c tA)(v:PE X a ta)(hb:PE X b tb):PE X (.IfExp c a b pos) (tIf tA ta tb):=by
 intro f s j H Q I h;refine wpAny_IfExp (thn (hc f s j H _ I h) λd k ⟨q,l,u⟩=>?_);cases d with
 |true=>exact v f k j q Q l u
 |false=>exact hb f k j q Q l u
end
abbrev SqL(K:Vp)(H:Hp)(a:Addr)(xs:List V):Prop:=
 Rd H a (.lst xs) ∨
  ∃ (o:Obj) (I:Array Value) (n:Nat),K.lookup a=aw o/\o.cls = .type "list"/\o.dict=aD/\o.data = .seq I n/\I.size<=sizeLine/\aP xs I.toList
abbrev SqT(K:Vp)(H:Hp)(a:Addr)(xs:List V):Prop:=
 Rd H a (.tup xs) ∨
  ∃ (o:Obj) (I:Array Value) (n:Nat),K.lookup a=aw o/\o.cls = .type "tuple"/\o.data = .seq I n/\I.size<=sizeLine/\aP xs I.toList
abbrev RH:Value->Option V
 |.none=>aw .non
 |.bool b=>aw (.bl b)
 |.int i _=>aw (.int i)
 |.str x _=>aw (.str x)
 |.bytes b _=>aw (.byt b)
 |.float b _=>aw (.flt b)
 |.ref a=>aw (.ref a)
 |.type n=>aw (.ty n)
 |_=>aD
def aB.abs(r:aB x u):RH u=aw x:=by
 cases x with
 |non=>cases r;rfl
 |bl _=>cases r;rfl
 |int _=>obtain⟨t,rfl⟩:=r;rfl
 |str _=>obtain⟨t,rfl⟩:=r;rfl
 |byt _=>obtain⟨t,rfl⟩:=r;rfl
 |flt _=>obtain⟨t,rfl⟩:=r;rfl
 |ref _=>cases r;rfl
 |ty _=>cases r;rfl
def aB.inj{x y:V}{u:Value}(r:aB x u)(q:aB y u):x=y:=Option.some.inj (r.abs.symm.trans q.abs)
def aP.inj:∀ {xs y:List V} {u:List Value},aP xs u->aP y u->xs=y
 |_,_,_,.nil,.nil=>rfl
 |_,_,_,.cons r t,.cons r' t'=>by rw[r.inj r',aP.inj t t']
section
variable {X:Cx} {pins:List (Addr × Obj)} {σ:St} {H:Hp} {s:Shared} {a:Addr} {xs ys:List V}
def SqL.of{K:Vp}(h:H a=aw (.lst xs)):SqL K H a xs:=.inl (.inl h)
def SqT.of{K:Vp}(h:H a=aw (.tup xs)):SqT K H a xs:=.inl (.inl h)
def Inv.list(I:Inv X pins σ H s)(h:SqL X.K H a xs):∃its:List Value,aP xs its/\PlainL s.heap a its.toArray/\xs.length<=sizeLine:=by
 rcases h with h |⟨o,its,n,hk,hc,hd,hs,hz,r⟩
 ·obtain⟨z,its,n,r,e⟩:=h.ok I.hok;exact⟨its,r,⟨_,n,e,rfl,rfl,rfl⟩,z⟩
 ·refine⟨its.toList,r,⟨o,n,I.kIn a o hk,hc,hd,by simpa using hs⟩,?_⟩;have e:=r.length;simp only[Zr] at e
  lia
def Inv.tuple(I:Inv X pins σ H s)(h:SqT X.K H a xs):∃its:List Value,aP xs its/\IsTup s.heap a its.toArray/\xs.length<=sizeLine:=by
 rcases h with h |⟨o,its,n,hk,hc,hs,hz,r⟩
 ·obtain⟨z,its,r,p⟩:=h.ok I.hok;exact⟨its,r,p.isTup,z⟩
 ·refine⟨its.toList,r,⟨o,I.kIn a o hk,hc,n,by simpa using hs⟩,?_⟩;have e:=r.length;simp only[Zr] at e
  lia
def Inv.list_inj(I:Inv X pins σ H s)(h:SqL X.K H a xs)(h':SqL X.K H a ys):xs=ys:=by
 obtain⟨b,r,⟨o,n,e,_,_,d⟩,_⟩:=I.list h;obtain⟨its',j,⟨O,k,c,_,_,f⟩,_⟩:=I.list h';rw[e] at c;cases c;rw[d] at f;injection f with d1 _;have:b=its':=by simpa using congrArg Array.toList d1
 subst this;exact r.inj j
def Inv.tuple_inj(I:Inv X pins σ H s)(h:SqT X.K H a xs)(h':SqT X.K H a ys):xs=ys:=by
 obtain⟨b,r,⟨o,e,_,n,d⟩,_⟩:=I.tuple h;obtain⟨its',j,⟨O,c,_,k,f⟩,_⟩:=I.tuple h';rw[e] at c;cases c;rw[d] at f;injection f with d1 _;have:b=its':=by simpa using congrArg Array.toList d1
 subst this;exact r.inj j
end
noncomputable abbrev Cx.wish(X:Cx)(E:Value->Shared->Prop):Cx:={ X with xe:=E }
noncomputable abbrev Cx.nox(X:Cx):Cx:=X.wish λ_ _=>False
def Cx.Ok.wish{X:Cx}(ok:X.Ok)(E:Value->Shared->Prop):(X.wish E).Ok:=
 ⟨ok.mod,ok.kind,ok.glob,ok.blt,ok.above,ok.inj,ok.has,ok.cab,ok.hd,ok.frames,ok.stk,ok.exf,ok.bs,ok.bsz,ok.noex,ok.exfs,ok.funs,ok.frf⟩
def Cx.Ok.unwish{X:Cx}{E:Value->Shared->Prop}(ok:(X.wish E).Ok):X.Ok:=
 ⟨ok.mod,ok.kind,ok.glob,ok.blt,ok.above,ok.inj,ok.has,ok.cab,ok.hd,ok.frames,ok.stk,ok.exf,ok.bs,ok.bsz,ok.noex,ok.exfs,ok.funs,ok.frf⟩
section
variable {X:Cx} {pins:List (Addr × Obj)} {σ:St} {H:Hp} {s:Shared} {E:Value->Shared->Prop}
def Inv.wish(I:Inv X pins σ H s)(E:Value->Shared->Prop):Inv (X.wish E) pins σ H s:=⟨I.ok.wish E,I.os,I.bare,I.base,I.loc,I.cell,I.free,I.freeC,I.pin,I.hok,I.len⟩
def Inv.unwish(I:Inv (X.wish E) pins σ H s):Inv X pins σ H s:=⟨I.ok.unwish,I.os,I.bare,I.base,I.loc,I.cell,I.free,I.freeC,I.pin,I.hok,I.len⟩
def SP.unwish{D:Ends}{f:Flow}{s':Shared}(h:SP (X.wish E) pins D f s'):SP X pins D f s':=by
 cases f with
 |next=>obtain⟨b,c,I,q⟩:=h;exact⟨b,c,I.unwish,q⟩
 |brk=>obtain⟨b,c,I,q⟩:=h;exact⟨b,c,I.unwish,q⟩
 |cont=>obtain⟨b,c,I,q⟩:=h;exact⟨b,c,I.unwish,q⟩
 |ret u=>obtain⟨v,b,c,I,r,q⟩:=h;exact⟨v,b,c,I.unwish,r,q⟩
def PSs.nox{st:List Stmt}{t:TS}(h:PSs X.nox st t):PSs X st t:=λpins s σ H D I b=>
 UM (h pins s σ H D (I.wish _) b) (λ_ _ q=>q.unwish) λ_ _ z=>False.elim z
end
section
variable {X:Cx} {st:Stmt} {rest:List Stmt} {t u:TS} {e:Expr} {te:TE} {pos:Pos}
abbrev Iy:TS:=λD b H=>D.nx b H
abbrev OO(t u:TS):TS:=λD b H=>t { D with nx:=u D } b H
def El:PSs X [] Iy:=λ_ _ b H _ I h=>UF ⟨b,H,I,h⟩
def Ar(z:PS X st t)(d:PSs X rest u):PSs X (st::rest) (OO t u):=by
 intro b s y H D I h;refine wpAny_execs_cons (thn (z b s y H { D with nx:=u D } I h) λf j q=>?_);cases f with
 |next=>
  obtain⟨c,k,l,q⟩:=q;exact d b j c k D l q
 |ret v=>exact q
 |brk=>exact q
 |cont=>exact q
def Em(d:PS X st t):PSs X [st] t:=by
 intro b s c H D I h;refine wpAny_execs_cons (thn (d b s c H D I h) λf j q=>?_);cases f with
 |next=>exact UF q
 |ret v=>exact q
 |brk=>exact q
 |cont=>exact q
abbrev Iz:TS:=λD b H=>D.ct b H
def rF:PS X (.Continue pos) Iz:=λ_ _ b H _ I h=>wpAny_Continue ⟨b,H,I,h⟩
def Inv.quiet{b:List (Addr × Obj)}{c:St}{H:Hp}{s:Shared}(I:Inv X b c H s):interactive X.env=aS:=by simp[interactive,I.ok.kind]
abbrev IA(te:TE):TS:=λD b H=>te b H λ_ c=>D.nx b c
def En(j:PE X e te)(hs:Ux e aD pos.line X.env=pure aS:=by rfl):PS X (.Expr e pos) (IA te):=by
 intro b s c H D I h;exact wpAny_Expr_any (thn (j b s c H _ I h) λv k ⟨x,f,d,r1,q⟩=>⟨c,f,d,q⟩) I.quiet hs
abbrev JS(te:TE):TS:=λD b H=>te b H D.rt
def As(j:PE X e te):PS X (.Return (aw e) pos) (JS te):=by
 intro b s c H D I h;exact wpAny_Return_some (thn (j b s c H _ I h) λv k ⟨x,f,d,r1,q⟩=>⟨x,c,f,d,r1,q⟩)
abbrev OP(c:TT)(t u:TS):TS:=λD d H=>c d H λb f=>if b=aN then t D d f else u D d f
def OQ{c:Expr}{a b:List Stmt}{T:TT}(hc:PT X c T)(v:PSs X a t)(hb:PSs X b u):PS X (.If c a b pos) (OP T t u):=by
 intro f s j H D I h;refine wpAny_If (thn (hc f s j H _ I h) λd k ⟨q,l,Q⟩=>?_);cases d with
 |true=>exact v f k j q D l Q
 |false=>exact hb f k j q D l Q
abbrev JT:TS:=λ_ _ _=>False
def Au:PS X st JT:=λ_ _ _ _ _ _ h=>h.elim
end
@[inline]abbrev TG:=V->St->Hp->(St->Hp->Prop)->Prop
@[inline]abbrev TGs:=List V->St->Hp->(St->Hp->Prop)->Prop
abbrev PG(X:Cx)(T:Expr)(t:TG):Prop:=
 ∀ (b:List (Addr × Obj)) (s:Shared) (f:St) (H:Hp) (v:V) (u:Value) (Q:St->Hp->Prop),Inv X b f H s->aB v u->t v f H Q ->
  wpAny (model X.prog X.w) X.A (assign T X.env u) (λ_ j=>∃c d,Inv X b c d j/\Q c d) X.xe s
abbrev PGs(X:Cx)(T:List Expr)(t:TGs):Prop:=
 ∀ (b:List (Addr × Obj)) (s:Shared) (f:St) (H:Hp) (v:List V) (u:List Value) (Q:St->Hp->Prop),Inv X b f H s->aP v u->t v f H Q ->
  wpAny (model X.prog X.w) X.A (VL ((VJ T X.env).map (·.2)) u) (λ_ j=>∃c d,Inv X b c d j/\Q c d) X.xe s
@[inline]abbrev Eo:=V->V->V->Hp->(Hp->Prop)->Prop
abbrev JU(X:Cx)(t:Eo):Prop:=
 ∀ (b:List (Addr × Obj)) (s:Shared) (d:St) (H:Hp) (o i v:V) (O I u:Value) (Q:Hp->Prop),Inv X b d H s->aB o O->aB i I->aB v u->t o i v H Q ->
  wpAny (model X.prog X.w) X.A (setItem O I u) (λ_ f=>∃c,Inv X b d c f/\Q c) X.xe s
section
variable {X:Cx} {pos:Pos}
abbrev rG(i:Nat):TG:=λv b H Q=>Q (b.set i (aw v)) H
def Ep{i:Nat}(hN:X.N.Nodup)(hi:X.N[i]?=aw x)(d:Loc X.env.scope x)(f:X.fn x=aN\/X.env.scope.names.lookup x=aw .local:=by first |exact .inl rfl |exact .inr rfl |assumption):PG X (.Name x pos) (rG i):=by
 intro b s k H v u Q I r h;exact wpAny_assign_Name (iE I hN hi d r (λj c=>⟨_,H,c,h⟩) f)
abbrev OT:TGs:=λv b H Q=>v=[]/\Q b H
abbrev IB(t:TG)(u:TGs):TGs:=λf d H Q=>∃v r,f=v::r/\t v d H λb c=>u r b c Q
def Er:PGs X [] OT:=by
 intro b s c H v u Q I r h;obtain⟨e,h⟩:=h;subst e;cases r;exact assignInOrder_nil ⟨c,H,I,h⟩
def Av{e:Expr}{c:List Expr}{t:TG}{u:TGs}(y:PG X e t)(k:PGs X c u)
  (hs:(VJ (e::c) X.env).map (·.2)=assign e X.env::(VJ c X.env).map (·.2):=by rfl):PGs X (e::c) (IB t u):=by
 intro b s q H J U Q I r h;obtain⟨v,L,l,h⟩:=h;subst l;cases r with
 |cons r f=>
  rw[hs];refine assignInOrder_cons (thn (y b s q H _ _ _ I r h) λ_ z ⟨d,j,B,C⟩=>?_);exact k b z d j _ _ Q B f C
abbrev OU(K:Vp)(n:Nat)(t:TGs):TG:=λv c H Q=>∃a b,v = .ref a/\SqT K H a b/\b.length=n/\t b c H Q
def JV{k:Nat}{n:Nat}(hc:X.calm=aN)(h:PGs X j t)
  (z:(VJ j X.env).length=n:=by rfl) (d:(VJ j X.env).findIdx? (·.1)=aD:=by rfl):PG X (.Tuple j k pos) (OU X.K n t):=by
 intro c s q H v u Q I r f;obtain⟨a,O,C,y,B,f⟩:=f;subst C;cases r;obtain⟨U,l,Y,Z⟩:=I.tuple y;refine assign_Tuple_tuple (I.ok.hd hc) Y (by simp[z,<-B,l.length]) d λJ L=>?_;have T:Inv X c q H { s with heap:=J }:=I.kept (t':=s.toks) λb o e=>L b o (ZG (Zq e)) e;exact h c _ q H O _ Q T (by simpa using l) f
abbrev OV(j T:TE)(t:Eo):TG:=λv b H Q=>j b H λo f=>T b f λi d=>t o i v d λc=>Q b c
def JW{o i:Expr}{f T:TE}{t:Eo}(q:PE X o f)(hi:PE X i T)(hs:JU X t)
  (L:∀v,assign (.Subscript o i pos) X.env v=(do
   let O <-holding [v] (eval o X.env)
   let c <-holding [v,O] (eval i X.env)
   standAt pos
   holding [v,O,c] (setItem O c v)
   release [v,O,c] []):=by intro _;rfl):PG X (.Subscript o i pos) (OV f T t):=by
 intro b s d H v u Q I r h;rw[L];refine UC (UJ (thn (q b s d H _ I h) λO C ⟨x,j,J,r1,q1⟩=>?_));refine UC (UJ (thn (hi b C d j _ J q1) λc B ⟨y,U,Z,r2,Y⟩=>?_));refine UC (U1 (UC (UJ (thn (hs b B d U x y v O c u _ Z r1 r2 r Y) λ_ s3 ⟨k,l,z⟩=>?_))));exact wpAny_release ⟨d,k,l,z⟩
abbrev Aw(T:TE)(g:TG):TS:=λD b H=>T b H λx c=>g x b c D.nx
def Ax{T e:Expr}{c:TE}{g:TG}(u:PE X e c)(j:PG X T g)(hs:Uy [T] e pos.line X.env=pure aS:=by rfl)(hw:Uw [T] e X.env=pure aD:=by rfl)
  (y:(VJ [T] X.env).map (·.2)=[assign T X.env]:=by rfl):PS X (.Assign [T] e pos) (Aw c g):=by
 intro b s d H D I h;refine wpAny_Assign_stores (thn (u b s d H _ I h) λv f ⟨x,l,k,r1,Q⟩=>?_) hs hw;rw[y];exact thn (j b f d l x v _ k r1 Q) λ_ z q=>q
def JX{i:Nat}{x:Str}{e:Expr}{T:TE}{b:Pos}(hN:X.N.Nodup)(hi:X.N[i]?=aw x)(j:Loc X.env.scope x)(z:PE X e T)(hs:Ux e (aw (.Name x b)) pos.line X.env=pure aS:=by rfl)(l:X.fn x=aN\/X.env.scope.names.lookup x=aw .local:=by first |exact .inl rfl |exact .inr rfl |assumption) :
  PS X (.Assign [.Name x b] e pos) (Aw T (rG i)):=by
 intro c s u H D I h;refine wpAny_Assign_Name (thn (z c s u H _ I h) λv B ⟨y,f,d,r1,q⟩=>?_) hs;exact iE d hN hi j r1 (λC k=>⟨_,f,k,q⟩) l
abbrev OW(i j:Nat)(T:TA):TS:=λD b H=>T b H λd c=>∃v w,d=[v,w]/\D.nx ((b.set i (aw v)).set j (aw w)) c
def JY{i j:Nat}{x y:Str}{a b:Expr}{ta:TA}{J O pt:Pos}{C B f}(hc:X.calm=aN)(hN:X.N.Nodup)(hi:X.N[i]?=aw x)(hj:X.N[j]?=aw y)(l:i ≠ j)
  (Y:X.env.scope.names.lookup x=aw .local) (T:X.env.scope.names.lookup y=aw .local) (ha:PA X [a,b] ta)
  (hw:Uw [.Tuple [.Name x J,.Name y O] C pt] (.Tuple [a,b] B f) X.env=pure (aw [x,y]))
  (hs:Uy [.Tuple [.Name x J,.Name y O] C pt] (.Tuple [a,b] B f) pos.line X.env=pure aS:=by rfl) :
  PS X (.Assign [.Tuple [.Name x J,.Name y O] C pt] (.Tuple [a,b] B f) pos) (OW i j ta):=by
 intro c s Z H D I h;rw[exec_Assign_arm];refine UC (U1 ?_);rw[hs];refine UC (US ?_);rw[if_neg (by decide)];refine UC (Tuple_ (thn (ha _ c s Z H _ I h) λus k ⟨vs,U,I1,r1,Q⟩=>?_));obtain⟨v,w,e1,Q⟩:=Q;subst e1
 obtain⟨u,u2,rfl,rv,L⟩:∃u u2,us=[u,u2]/\aB v u/\aB w u2:=by
  cases r1 with
  |cons p q=>
   cases q with
   |cons p' q'=>
    cases q';exact⟨_,_,rfl,p,p'⟩
 refine UP ?_ (by show 2<=sizeLine;decide);have I2:Inv X c Z U { k with heap:=k.heap.push { cls:=.type "tuple", data:=.seq [u,u2].toArray } }:=I1.kept (t':=k.toks) λb o e=>Zc _ e;rw[hw];refine UC (US ?_);show wpAny (model X.prog X.w) X.A (do rule "assign.swapped-stores"; let d <-unpackItems (.ref k.heap.objs.size) 2 aD;VL [λv=>VQ X.env y v,λv=>VQ X.env x v] d.reverse;pure Flow.next) _ _ _;refine UC (UX (UC (unpackItems_tuple (items:=#[u,u2]) (I.ok.hd hc) (IsTup.new k.heap _) λh' z=>?_)));have I3:=I2.kept (h':=h') (t':=k.toks) λb o e=>z b o (ZG (Zq e)) e;show wpAny _ _ (VL [λv=>VQ X.env y v,λv=>VQ X.env x v] [u2,u] >>= λ_=>pure Flow.next) _ _ _;refine UC (assignInOrder_cons (wpAny_bindName (iE I3 hN hj (.inl T) L (λs2 I4=>?_) (.inr T))));refine assignInOrder_cons (wpAny_bindName (iE I4 hN hi (.inl Y) rv (λs3 I5=>assignInOrder_nil (US ?_)) (.inr Y)));rw[List.set_comm _ _ (Ne.symm l)] at I5;exact⟨_,U,I5,Q⟩
end
structure It where
 go:Nat->Hp->Prop
 yld:Nat->Hp->V->Hp->Prop
 stop:Nat->Hp->Prop
abbrev hZ(X:Cx)(d:List (Addr × Obj))(H:Hp)(b:Addr):Prop:=
 H b=aD/\b ≠ X.env.locals/\b ∉ X.fs/\(b ∈ X.ex\/X.s₀.heap.objs.size<=b)/\(∀x c,X.env.cells.lookup x=aw c->c ≠ b)/\∀p ∈ X.pn++d,p.1 ≠ b
def Inv.fpOk(I:Inv X d l H s)(hb:s.heap.objs.size<=b)(j:f b=aD):hZ X d f b:=by
 refine⟨j,WB (ZD I.lt hb),I.nofs hb,.inr (ZW I.sz hb),λx c e z=>?_,λp k z=>?_⟩
 ·obtain⟨v,q⟩:=I.cell x c e;exact absurd (ZD q.lt (by rw[z];exact hb)) (ZK _)
 ·exact absurd (ZD (Zq (I.pin p k).1) (by rw[z];exact hb)) (ZK _)
structure Turn(P:Program)(w:World)(K:Vp)(tg:Expr)(J:It)(fp:List Addr)(it:Addr)(tn:Nat->Heap->Prop):Prop where
 mem:it ∈ fp
 obj:∀i h,tn i h->∀b ∈ fp,∃o,h.get? b=aw o/\∀v,o.data ≠ .cell v
 keep:∀i h h',tn i h->(∀b ∈ fp,∀o,h.get? b=aw o->h'.get? b=aw o)->tn i h'
 item:∀ (X:Cx),X.prog=P->X.w=w->X.K=K->X.calm=aN->∀ (i:Nat) (pins:List (Addr × Obj)) (s:Shared) (σ:St) (H:Hp) (E:Value->Shared->Prop),Inv X pins σ H s->(∀b ∈ fp,hZ X pins H b)->tn i s.heap->J.go i H ->
  wpAny (model P w) X.A (pyNext (.ref it)) (λr s1=>∃u,r=aw u ∧
   wpAny (model P w) X.A (Uc tg (.ref it) u) (λ_ s2=>∃x H',Inv X pins σ H' s2/\aB x u/\J.yld i H x H'/\tn (i+1) s2.heap/\∀b ∈ fp,H' b=aD) E s1) E s
 done:∀ (X:Cx),X.prog=P->X.w=w->X.K=K->X.calm=aN->∀ (i:Nat) (pins:List (Addr × Obj)) (s:Shared) (σ:St) (H:Hp) (E:Value->Shared->Prop),Inv X pins σ H s->(∀b ∈ fp,hZ X pins H b)->tn i s.heap->J.stop i H ->
  wpAny (model P w) X.A (pyNext (.ref it)) (λr s1=>r=aD/\Inv X pins σ H s1) E s
 self:∀ (A:Around) (i:Nat) (s:Shared) (Q:Value->Shared->Prop) (E:Value->Shared->Prop),tn i s.heap->Q (.ref it) s->wpAny (model P w) A (pyIter (.ref it)) Q E s
@[inline]abbrev TI:=St->Hp->(It->Hp->Prop)->Prop
abbrev PIE(X:Cx)(c:List (Addr × Obj))(l:St)(k:Expr)(R:It->Hp->Prop)(I:Value)(j:Shared):Prop:=
 ∃ (it:Addr) (f:List Addr) (T:Nat->Heap->Prop) (J:It) (d:Hp),I = .ref it/\Inv X c l d j/\Turn X.prog X.w X.K k J f it T/\T 0 j.heap/\(∀b ∈ f,hZ X c d b)/\R J d
abbrev PI(X:Cx)(T I:Expr)(f:TI):Prop:=
 ∀ (b:List (Addr × Obj)) (s:Shared) (c:St) (H:Hp) (R:It->Hp->Prop),Inv X b c H s->f c H R ->
  wpAny (model X.prog X.w) X.A (eval I X.env) (λv d=>wpAny (model X.prog X.w) X.A (pyIter v) (PIE X b c T R) X.xe d) X.xe s
def wQ(d:s.heap.get? it=aw o)(hc:o.cls = .type n)(hd:o.data = .fields v)
  (c:["enumerate", "zip", "dict_itemiterator", "dict_reverseitemiterator", "odict_iterator", "itertools.zip_longest", "itertools.pairwise"].contains n=aS) (b:Q () s):wpAny M A (Uc T (.ref it) u) Q E s:=by
 unfold Uc
 cases T <;> first
  |exact US b
  | (cases u <;> first
    |exact US b
    | (refine UC (wpAny_load d ?_)
       rw[hc,hd];show wpAny M A (if (["enumerate", "zip", "dict_itemiterator", "dict_reverseitemiterator", "odict_iterator", "itertools.zip_longest", "itertools.pairwise"].contains n && v[0]? == aw (rawInt _))=aN then _ else _) Q E s;rw[if_neg (by intro h;rw[c,XQ] at h;cases h)];exact US b))
abbrev Itl(K:Vp)(a:Addr):It:=
 ⟨λi H=>∃X x,SqL K H a X/\X[i]?=aw x,λi H x b=>b=H/\∀X,SqL K H a X->X[i]?=aw x,λi H=>∃X,SqL K H a X/\X.length<=i⟩
abbrev Itt(K:Vp)(a:Addr):It:=
 ⟨λi H=>∃X x,SqT K H a X/\X[i]?=aw x,λi H x b=>b=H/\∀X,SqT K H a X->X[i]?=aw x,λi H=>∃X,SqT K H a X/\X.length<=i⟩
abbrev Itr(lo:Int)(n:Nat):It:=⟨λi _=>i < n,λi H x b=>b=H/\x = .int (lo+i),λi _=>n<=i⟩
def yC{P:Program}{w:World}{K:Vp}{tg:Expr}(a it:Addr):Turn P w K tg (Itl K a) [it] it (λi h=>h.IsListIter it a i) where
 mem:=by simp
 obj:=λi h st b hb=>by
  have e:b=it:=by simpa using hb
  subst e;obtain⟨o,e,c,d⟩:=st;exact⟨o,e,λv z=>by rw[d] at z;cases z⟩
 keep:=λi h q st k=>st.at λo e=>k it (by simp) o e
 item:=by
  intro X hP Z C hc i f s σ H E I y st T;subst hP Z C;obtain⟨xs,x,l,L⟩:=T;obtain⟨its,O,p,hz⟩:=I.list l;obtain⟨u,hu,ru⟩:=O.get L;obtain⟨Q,Y,f2,U,B,J⟩:=y it (by simp);refine wpAny_pyNext_list_item st p.isList (x:=u) (by simpa using hu) λq j sb=>?_;have I1:Inv X f σ H { s with heap:=q }:=I.turned (t':=s.toks) (λb o hb e=>(sb.2 b hb).trans e) Q Y U B J;obtain⟨o,e,c,d⟩:=id j;exact⟨u,rfl,wQ (s:={ s with heap:=q }) e c d (by decide) ⟨x,H,I1,ru,⟨rfl,λys hy=>by rw[I.list_inj hy l];exact L⟩,j,λb hb=>(y b hb).1⟩⟩
 done:=by
  intro X hP Z C hc i f s σ H E I y st T;subst hP Z C;obtain⟨xs,l,L⟩:=T;obtain⟨its,O,p,hz⟩:=I.list l;obtain⟨Q,Y,f2,U,B,J⟩:=y it (by simp);have hl:=O.length;exact wpAny_pyNext_list_end (I.ok.hd hc) st p.isList (by simp;lia) λq eb=>⟨rfl,I.turned (t':=s.toks) (λb o hb e=>eb b o hb e) Q Y U B J⟩
 self:=λ_ _ _ _ _ st h=>wpAny_pyIter_listiter st h
def uB{P:Program}{w:World}{K:Vp}{tg:Expr}(a it:Addr):Turn P w K tg (Itt K a) [it] it (λi h=>h.IsTupleIter it a i) where
 mem:=by simp
 obj:=λi h st b hb=>by
  have e:b=it:=by simpa using hb
  subst e;obtain⟨o,e,c,d⟩:=st;exact⟨o,e,λv z=>by rw[d] at z;cases z⟩
 keep:=λi h y st k=>st.at λo e=>k it (by simp) o e
 item:=by
  intro X hP hw J hc i f s σ H E I B st U;subst hP hw J;obtain⟨xs,x,q,O⟩:=U;obtain⟨j,Q,p,hz⟩:=I.tuple q;obtain⟨u,hu,ru⟩:=Q.get O;obtain⟨T,Z,f2,Y,C,L⟩:=B it (by simp);refine wpAny_pyNext_tuple_item st (show s.heap.IsTuple a j.toArray from p) (x:=u) (by simpa using hu) λy l sb=>?_;have I1:Inv X f σ H { s with heap:=y }:=I.turned (t':=s.toks) (λb o hb e=>(sb.2 b hb).trans e) T Z Y C L;obtain⟨o,e,c,d⟩:=id l;exact⟨u,rfl,wQ (s:={ s with heap:=y }) e c d (by decide) ⟨x,H,I1,ru,⟨rfl,λys hy=>by rw[I.tuple_inj hy q];exact O⟩,l,λb hb=>(B b hb).1⟩⟩
 done:=by
  intro X hP hw J hc i f s σ H E I B st U;subst hP hw J;obtain⟨xs,q,O⟩:=U;obtain⟨j,Q,p,hz⟩:=I.tuple q;obtain⟨T,Z,f2,Y,C,L⟩:=B it (by simp);have hl:=Q.length;exact wpAny_pyNext_tuple_end (I.ok.hd hc) st (show s.heap.IsTuple a j.toArray from p) (by simp;lia) λy eb=>⟨rfl,I.turned (t':=s.toks) (λb o hb e=>eb b o hb e) T Z Y C L⟩
 self:=λ_ _ _ _ _ st h=>wpAny_pyIter_tupleiter st h
def uC{P:Program}{w:World}{K:Vp}{tg:Expr}(it:Addr)(lo:Int)(n:Nat):Turn P w K tg (Itr lo n) [it] it (λi h=>Vh h it (lo+(i:Nat) * 1) ((n:Int) - (i:Nat)) 1) where
 mem:=by simp
 obj:=λi h st b hb=>by
  have e:b=it:=by simpa using hb
  subst e
  exact⟨_,st,λv z=>by
   have z':Data.fields _=Data.cell v:=z;cases z'⟩
 keep:=λi h f st k=>k it (by simp) _ st
 item:=by
  intro X Q O q y i c s U H E I j st C;subst Q O q;obtain⟨B,L,Z,J,l,u⟩:=j it (by simp);have W:=Walks.range (prog:=X.prog) (w:=X.w) (I.ok.hd y) it lo 1 n;refine W.item i s _ _ C st λv f T hv d Y=>?_;obtain⟨t,rfl⟩:=hv;have I1:Inv X c U H { s with heap:=f,toks:=T }:=I.turned (λb o hb e=>Y b o (by simpa using hb) e) B L J l u;refine⟨_,rfl,wQ (s:={ s with heap:=f,toks:=T }) (n := "range_iterator") d rfl rfl (by decide) ⟨.int (lo+i),H,I1,⟨t,?_⟩,⟨rfl,rfl⟩,d,λb hb=>(j b hb).1⟩⟩;rw[Int.mul_one]
 done:=by
  intro X Q O q y i c s U H E I j st C;subst Q O q;obtain⟨B,L,Z,J,l,u⟩:=j it (by simp);exact UW (I.ok.hd y) st (by have:n<=i:=C;lia) λf eb=>⟨rfl,I.turned (t':=s.toks) (λb o hb e=>eb b o hb e) B L J l u⟩
 self:=λ_ _ _ _ _ st h=>UU st h
section
variable {X:Cx} {tg:Expr}
abbrev Ay(K:Vp)(T:TE):TI:=λd H R=>T d H λx b=>∃a,x = .ref a/\(∃c,SqL K b a c)/\R (Itl K a) b
abbrev OX(K:Vp)(T:TE):TI:=λd H R=>T d H λx b=>∃a,x = .ref a/\(∃c,SqT K b a c)/\R (Itt K a) b
def wR{l:Expr}{T:TE}(hl:PE X l T):PI X tg l (Ay X.K T):=by
 intro c s y H R I h;refine thn (hl c s y H _ I h) λv d ⟨x,k,f,r1,Q⟩=>?_;obtain⟨a,e,⟨z,j⟩,q⟩:=Q;subst e;cases r1;obtain⟨u,C,p,B⟩:=f.list j;refine UT p.isList ?_;refine⟨d.heap.objs.size,[d.heap.objs.size],_,_,k,rfl,f.kept (t':=d.toks) λb o e=>Zc _ e,yC a _,⟨_,Zs _ rfl,rfl,rfl⟩,λb hb=>?_,q⟩;have e:b=d.heap.objs.size:=by simpa using hb
 subst e;exact f.fpOk (Zi _) (f.hok.fresh (Zi _))
def JZ{l:Expr}{T:TE}(hl:PE X l T):PI X tg l (OX X.K T):=by
 intro d s y H R I h;refine thn (hl d s y H _ I h) λv c ⟨x,u,f,r1,Q⟩=>?_;obtain⟨a,e,⟨z,k⟩,q⟩:=Q;subst e;cases r1;obtain⟨j,C,p,B⟩:=f.tuple k;refine UV (show c.heap.IsTuple a j.toArray from p) ?_;refine⟨c.heap.objs.size,[c.heap.objs.size],_,_,u,rfl,f.kept (t':=c.toks) λb o e=>Zc _ e,uB a _,⟨_,Zs _ rfl,rfl,rfl⟩,λb hb=>?_,q⟩;have e:b=c.heap.objs.size:=by simpa using hb
 subst e;exact f.fpOk (Zi _) (f.hok.fresh (Zi _))
def rH{lo hi:Int}{T:Nat}(I:Inv X c f H s)(z:-(2 ^ 62)<=lo)(j:lo < 2 ^ 62)(y:-(2 ^ 62)<=hi)(h4:hi < 2 ^ 62)
  (q:R (Itr lo (hi - lo).toNat) H):wpAny (model X.prog X.w) X.A (pyIter (.ref s.heap.objs.size)) (PIE X c f tg R) E { s with heap:=s.heap.push { cls:=.type "range", data:=.fields #[.int lo t,.int hi u,.int 1 v] },toks:=T }:=by
 refine wpAny_pyIter_range (IsRange.new ..) (small_one z j y h4) ?_;have d:Inv X c f H { s with heap:=s.heap.push { cls:=.type "range", data:=.fields #[.int lo t,.int hi u,.int 1 v] },toks:=T }:=I.kept λb o e=>Zc _ e
 refine⟨(s.heap.push { cls:=.type "range", data:=.fields #[.int lo t,.int hi u,.int 1 v] }).objs.size,[(s.heap.push { cls:=.type "range", data:=.fields #[.int lo t,.int hi u,.int 1 v] }).objs.size],_,_,H,rfl,
  d.kept (t':=T) λb o e=>Zc _ e,uC _ lo (hi - lo).toNat,?_,λb hb=>?_,q⟩
 ·have l:lo+((0:Nat):Int) * 1=lo:=by simp
  have k:(((hi - lo).toNat:Nat):Int) - ((0:Nat):Int)=Builtin.Range.rangeSize lo hi 1:=by rw[Ul];split <;> lia
  show Vh _ _ (lo+((0:Nat):Int) * 1) ((((hi - lo).toNat:Nat):Int) - ((0:Nat):Int)) 1;rw[l,k];exact Zs _ rfl
 ·have e:b=(s.heap.push { cls:=.type "range", data:=.fields #[.int lo t,.int hi u,.int 1 v] }).objs.size:=by simpa using hb
  subst e;exact d.fpOk (Zi _) (d.hok.fresh (Zi _))
abbrev IC(T:TA):TI:=λc H R=>T c H λv b=>∃j:Int,v=[.int j]/\-(2 ^ 62)<=j/\j < 2 ^ 62/\R (Itr 0 j.toNat) b
abbrev IE(T:TA):TI:=λc H R=>T c H λv b=>∃i j:Int,v=[.int i,.int j]/\(-(2 ^ 62)<=i/\i < 2 ^ 62/\-(2 ^ 62)<=j/\j < 2 ^ 62)/\R (Itr i (j - i).toNat) b
def yD(d:Gl X "range")(u:X.mg "range" = aD)(v:PA X [a] T)(hs:Uv [a] X.env=[(aS,eval a X.env)]:=by rfl):PI X tg (.Call (.Name "range" p) [a] [] c) (IC T):=by
 intro b s y H R I h;refine Call_ (eU I d u boot_range (WO (thn (v c b s y H _ I h) λU z ⟨C,B,f,r1,Q⟩=>?_) hs rfl));obtain⟨j,e,Q,l,q⟩:=Q;subst e;cases r1 with
 |cons r k=>
  cases k;obtain⟨t,rfl⟩:=r;exact call_range_1 (rH f (by lia) (by lia) Q l (by simpa using q))
def yE(J:Gl X "range")(l:X.mg "range" = aD)(B:PA X [a,b] T)(hs:Uv [a,b] X.env=[(aS,eval a X.env),(aS,eval b X.env)]:=by rfl)(d:Uv [b] X.env=[(aS,eval b X.env)]:=by rfl) :
  PI X tg (.Call (.Name "range" p) [a,b] [] k) (IE T):=by
 intro c s u H R I h;refine Call_ (eU I J l boot_range (WO (thn (B k c s u H _ I h) λY Z ⟨U,O,z,r1,Q⟩=>?_) (by rw[hs,d]) (by rw[d];rfl)));obtain⟨i,j,e,⟨Q,L,v,C⟩,q⟩:=Q;subst e;cases r1 with
 |cons r f=>
  cases f with
  |cons y f=>
   cases f;obtain⟨t,rfl⟩:=r;obtain⟨t',rfl⟩:=y;exact call_range_2 (rH z Q L v C q)
abbrev OY(k:TI)(g:TG)(T:TS):TS:=λD b H=>k b H λJ l=>∃W:Nat->Nat->St->Hp->Prop,(∃m,W 0 m b l)/\∀i m b H,W i m b H ->
 (J.stop i H/\D.nx b H)\/(J.go i H/\∃N:St->Hp->Prop,(∀d c,N d c->∃j,j < m/\W (i+1) j d c)/\∀x c,J.yld i H x c->g x b c λf q=>T { D with nx:=N,ct:=N,bk:=D.nx } f q)
abbrev kW(f:List Addr)(h:Heap):List (Addr × Obj):=f.filterMap λb=>(h.get? b).map λo=>(b,o)
def eV(hb:b ∈ f)(e:h.get? b=aw o):(b,o) ∈ kW f h:=YB.mpr ⟨b,hb,by rw[e];rfl⟩
def yF(d:p ∈ kW f h):p.1 ∈ f/\h.get? p.1=aw p.2:=by
 obtain⟨b,hb,e⟩:=YB.mp d;cases q:h.get? b with
 |none=>rw[q] at e;cases e
 |some o=>
  rw[q] at e;have c:(b,o)=p:=Option.some.inj e;subst c;exact⟨hb,q⟩
def Inv.pinned(I:Inv X c y H s)(B:∀b ∈ f,hZ X c H b)(q:∀b ∈ f,∃o,s.heap.get? b=aw o/\∀v,o.data ≠ .cell v):Inv X (c++kW f s.heap) y H s:=
 I.pins_of λp C=>(ZM.mp C).elim (λz=>I.pin p (ZE _ z)) λz=>by
  obtain⟨hb,e⟩:=yF z;obtain⟨l,k,u,_⟩:=B p.1 hb;obtain⟨o,j,d⟩:=q p.1 hb;rw[e] at j;cases j;exact⟨e,l,k,u,d⟩
def Inv.unpinned(I:Inv X (b++f) c H s):Inv X b c H s:=I.pins_of λp d=>I.pin p (ZE _ (ZY _ d))
def J1(Y:PassesOwn (model X.prog X.w) X.A X.env X.xe)(hc:X.calm=aN)(hi:PI X tg B wi)(hg:PG X tg g)(hb:PSs X body tb)
  (hs:∀x,V7 B X.env x=pure x:=by intro _;rfl):PS X (.For tg B body [] pos) (OY wi g tb):=by
 intro c s σ H D I h;refine wpAny_For (thn (hi c s σ H _ I h) λv s1 h1=>thn h1 λitv s2 h2=>?_) hs;obtain⟨it,Z,tn,J,H2,e,I2,T,st2,f2,W,⟨m0,w0⟩,turn⟩:=h2;subst e;have k:∀ {H':Hp},(∀b ∈ Z,H' b=aD)->∀b ∈ Z,hZ X c H' b:=λhn b hb=>⟨hn b hb,(f2 b hb).2⟩;refine codeAny_forLoop_any (λn s'=>∃i q H',Inv X c q H' s'/\tn i s'.heap/\(∀b ∈ Z,H' b=aD)/\W i n q H') ?_ m0 ⟨0,σ,H2,I2,st2,λb hb=>(f2 b hb).1,w0⟩;rintro n s3 ⟨i,z,H3,I3,O,U,w3⟩;rcases turn i n z H3 w3 with ⟨stop,qn⟩ |⟨go,N,hN,step⟩
 ·refine UR Y (thn (T.done X rfl rfl rfl hc i c s3 z H3 X.xe I3 (k U) O stop) λr s4 ⟨hr,I4⟩=>?_);subst hr;exact UF ⟨z,H3,I4,qn⟩
 ·refine UR Y (thn (T.item X rfl rfl rfl hc i c s3 z H3 X.xe I3 (k U) O go) λr s4 ⟨u,hr,h4⟩=>?_);subst hr;refine UR Y (thn h4 λ_ s5 ⟨x,H5,I5,r5,y5,C,fr5⟩=>?_);have I5':=I5.pinned (k fr5) (T.obj _ _ C);refine UR Y (thn (hg _ s5 z H5 x u _ I5' r5 (step x H5 y5)) λ_ s6 ⟨σ6,H6,I6,q6⟩=>?_);refine UR Y (thn (hb _ s6 σ6 H6 _ I6 q6) λf s7 Q=>?_)
  have again:∀ {j:St} {l:Hp},Inv X (c++kW Z s5.heap) j l s7->N j l->∃m,m < n/\∃i q H',Inv X c q H' s7/\tn i s7.heap/\(∀b ∈ Z,H' b=aD)/\W i m q H':=λ{j l} y L=>by
   obtain⟨m',hm,w7⟩:=hN j l L;refine⟨m',hm,i+1,j,l,y.unpinned,T.keep _ _ _ C λb hb o e=>(y.pin (b,o) (ZE _ (ZE _ (eV hb e)))).1,λb hb=>?_,w7⟩;obtain⟨o,e,d⟩:=T.obj _ _ C b hb;exact(y.pin (b,o) (ZE _ (ZE _ (eV hb e)))).2.1
  cases f with
  |next=>obtain⟨j,l,y,L⟩:=Q;exact again y L
  |cont=>obtain⟨j,l,y,L⟩:=Q;exact again y L
  |brk=>obtain⟨j,l,y,Q⟩:=Q;exact⟨j,l,y.unpinned,Q⟩
  |ret v=>obtain⟨x7,j,l,y,r7,Q⟩:=Q;exact⟨x7,j,l,y.unpinned,r7,Q⟩
end
@[inline]abbrev R2:=V->V->Hp->VK->Prop
abbrev OpR(X:Cx)(f:Value->Value->Sem Value)(r:R2):Prop:=
 ∀ (b:List (Addr × Obj)) (s:Shared) (c:St) (H:Hp) (x y:V) (v u:Value) (Q:VK),Inv X b c H s->aB x v->aB y u->r x y H Q ->
  wpAny (model X.prog X.w) X.A (f v u) (EP X b c Q) X.xe s
abbrev UnR(X:Cx)(f:Value->Sem Value)(r:V->Hp->VK->Prop):Prop:=
 ∀ (b:List (Addr × Obj)) (s:Shared) (c:St) (H:Hp) (x:V) (v:Value) (Q:VK),Inv X b c H s->aB x v->r x H Q ->
  wpAny (model X.prog X.w) X.A (f v) (EP X b c Q) X.xe s
abbrev aR(X:Cx)(f:Value)(r:List V->Hp->VK->Prop):Prop:=
 ∀ (b:List (Addr × Obj)) (s:Shared) (d:St) (H:Hp) (c:List V) (u:List Value) (Q:VK),Inv X b d H s->aP c u->r c H Q ->
  wpAny (model X.prog X.w) X.A (call f u) (EP X b d Q) X.xe s
abbrev RI(X:Cx)(r:V->Hp->(Bool->Hp->Prop)->Prop):Prop:=
 ∀ (b:List (Addr × Obj)) (s:Shared) (c:St) (H:Hp) (x:V) (v:Value) (Q:Bool->Hp->Prop),Inv X b c H s->aB x v->r x H Q ->
  wpAny (model X.prog X.w) X.A (truthy v) (TP X b c Q) X.xe s
abbrev tOp(r:R2)(d T:TE):TE:=λb H Q=>d b H λx c=>T b c λy f=>r x y f Q
abbrev tUn(r:V->Hp->VK->Prop)(T:TE):TE:=λc H Q=>T c H λx b=>r x b Q
abbrev rI(C:Int->Int->Prop)(g:Int->Int->V):R2:=λx y H Q=>∃i j,x = .int i/\y = .int j/\C i j/\Q (g i j) H
abbrev rI0(g:Int->Int->V):R2:=λx y H Q=>∃i j,x = .int i/\y = .int j/\Q (g i j) H
abbrev rU(g:Int->V):V->Hp->VK->Prop:=λx H Q=>∃i,x = .int i/\Q (g i) H
section
variable {X:Cx} {a b c:Expr} {ta tb tc:TE} {pos:Pos}
def J2(Y:PE X a ta)(hb:PE X b tb){d:List (Addr × Obj)}{s:Shared}{j:St}{H:Hp}{R:V->V->Hp->Prop}(I:Inv X d j H s)
  (h:ta j H λx B=>tb j B λy k=>R x y k) {Q:Value->Shared->Prop} {f:Value->Value->Sem Value}
  (L:∀v u z x y k,Inv X d j k z->aB x v->aB y u->R x y k->wpAny (model X.prog X.w) X.A (f v u) Q X.xe z) :
  wpAny (model X.prog X.w) X.A (eval a X.env) (λv l=>wpAny (model X.prog X.w) X.A (eval b X.env) (λu q=>wpAny (model X.prog X.w) X.A (f v u) Q X.xe q) X.xe l) X.xe s:=by
 refine thn (Y d s j H _ I h) λv C ⟨x,B,J,r1,U⟩=>?_;refine thn (hb d C j B _ J U) λu z ⟨y,k,T,r2,O⟩=>?_;exact L v u z x y k T r1 r2 O
def OZ{op:Vj}{r:R2}(j:OpR X (VO op) r)(l:PE X a ta)(hb:PE X b tb):PE X (.BinOp a op b pos) (tOp r ta tb):=by
 intro d s z H Q I h;exact wpAny_BinOp (J2 l hb I h λv u J x y C k f B q=>j d J z C x y v u Q k f B q)
def Az(q:UnR X (unaryOp op) r)(y:PE X a ta):PE X (.UnaryOp op a pos) (tUn r ta):=by
 intro d s f H Q I h;exact UnaryOp_ (thn (y d s f H _ I h) λv j ⟨x,l,k,r1,u⟩=>q d j f l x v Q k r1 u)
def opI{f:Value->Value->Sem Value}{C:Int->Int->Prop}{g:Int->Int->Int}
  (rule:∀ (i j:Int) (t u:Tok) (s:Shared) (Q:Value->Shared->Prop) (E:Value->Shared->Prop),C i j->Q (.int (g i j) s.toks) { s with toks:=s.toks+1 }->wpAny (model X.prog X.w) X.A (f (.int i t) (.int j u)) Q E s) :
  OpR X f (rI C λi j=>.int (g i j)):=by
 intro d s B H x y v u Q I l z h;obtain⟨i,j,rfl,rfl,k,q⟩:=h;obtain⟨t,rfl⟩:=l;obtain⟨T,rfl⟩:=z;exact rule i j t T s _ _ k ⟨.int (g i j),H,I.tok _,⟨_,rfl⟩,q⟩
def O0{f:Value->Value->Sem Value}{g:Int->Int->Int}
  (rule:∀ (i j:Int) (t u:Tok) (s:Shared) (Q:Value->Shared->Prop) (E:Value->Shared->Prop),Q (.int (g i j) s.toks) { s with toks:=s.toks+1 }->wpAny (model X.prog X.w) X.A (f (.int i t) (.int j u)) Q E s) :
  OpR X f (rI0 λi j=>.int (g i j)):=by
 intro d s z H x y v u Q I k l h;obtain⟨i,j,rfl,rfl,q⟩:=h;obtain⟨t,rfl⟩:=k;obtain⟨T,rfl⟩:=l;exact rule i j t T s _ _ ⟨.int (g i j),H,I.tok _,⟨_,rfl⟩,q⟩
def Es{f:Value->Value->Sem Value}{g:Int->Int->Bool}
  (rule:∀ (i j:Int) (t u:Tok) (s:Shared) (Q:Value->Shared->Prop) (E:Value->Shared->Prop),Q (.bool (g i j)) s->wpAny (model X.prog X.w) X.A (f (.int i t) (.int j u)) Q E s) :
  OpR X f (rI0 λi j=>.bl (g i j)):=by
 intro d s z H x y v u Q I k l h;obtain⟨i,j,rfl,rfl,q⟩:=h;obtain⟨t,rfl⟩:=k;obtain⟨T,rfl⟩:=l;exact rule i j t T s _ _ ⟨.bl (g i j),H,I,rfl,q⟩
abbrev RJ(i j:Int):Prop:=0<=j/\j<=1000000/\i.natAbs < 2 ^ 64
abbrev O1(i j:Int):Prop:=(-(2 ^ 64) < i/\i < 2 ^ 64)\/(-(2 ^ 64) < j/\j < 2 ^ 64)
def O1.ok{i j:Int}(h:O1 i j):IntMulOk i j:=by
 rcases h with ⟨f,d⟩ |⟨f,d⟩
 ·exact .of_left (intBits_le_64 f d)
 ·exact .of_right (intBits_le_64 f d)
def J3:OpR X (VO .Add) (rI0 λi j=>.int (i+j)):=O0 λ_ _ _ _ _ _ _ q=>add_int q
def J4:OpR X (VO .Sub) (rI0 λi j=>.int (i - j)):=O0 λ_ _ _ _ _ _ _ q=>sub_int q
def J5:OpR X (VO .Mult) (rI O1 λi j=>.int (i * j)):=opI λ_ _ _ _ _ _ _ d q=>mul_int q d.ok
def J6:OpR X (VO .Mod) (rI (λ_ j=>0 < j) λi j=>.int (i % j)):=opI λi j _ _ _ _ _ d q=>by
 have f:(0:Int) < j:=d;exact mod_int' (by lia) (by rw[Int.fmod_eq_emod_of_nonneg i (by lia)];exact q)
def J7:OpR X (VO .Pow) (rI RJ λi j=>.int (i ^ j.toNat)):=opI λ_ _ _ _ _ _ _ d q=>pow_int_small d.1 d.2.1 d.2.2 q
def unI{f:Value->Sem Value}{g:Int->Int}
  (rule:∀ (i:Int) (t:Tok) (s:Shared) (Q:Value->Shared->Prop) (E:Value->Shared->Prop),Q (.int (g i) s.toks) { s with toks:=s.toks+1 }->wpAny (model X.prog X.w) X.A (f (.int i t)) Q E s) :
  UnR X f (rU λi=>.int (g i)):=by
 intro d s k H x v Q I j h;obtain⟨i,rfl,q⟩:=h;obtain⟨t,rfl⟩:=j;exact rule i t s _ _ ⟨.int (g i),H,I.tok _,⟨_,rfl⟩,q⟩
def uD:UnR X (unaryOp .USub) (rU λi=>.int (-i)):=unI λ_ _ _ _ _ q=>neg_int q
end
section
variable {X:Cx} {a b c:Expr} {ta tb tc:TE} {pos:Pos}
def AA(I:Inv X d j H s)(q:Q (.bl k) H)(e:k=f):EP X d j Q (.bool f) s:=by
 subst e;exact⟨.bl k,H,I,rfl,q⟩
def O2:OpR X (V1 .Lt) (rI0 λi j=>.bl (decide (i < j))):=Es λ_ _ _ _ _ _ _ q=>lt_int q
def O3:OpR X (V1 .LtE) (rI0 λi j=>.bl (decide (i<=j))):=Es λ_ _ _ _ _ _ _ q=>le_int q
def O4:OpR X (V1 .Gt) (rI0 λi j=>.bl (decide (j < i))):=Es λ_ _ _ _ _ _ _ q=>gt_int q
def O5:OpR X (V1 .GtE) (rI0 λi j=>.bl (decide (j<=i))):=Es λ_ _ _ _ _ _ _ q=>ge_int q
def J8:OpR X (V1 .Is) (λx y H Q=>y = .non/\Q (.bl (decide (x = .non))) H):=by
 intro d s k H x y v u Q I f j h;obtain⟨rfl,q⟩:=h;cases j;refine is_none_gen (AA I q ?_)
 cases x <;> first
  |(cases f;rfl)
  |(obtain⟨t,rfl⟩:=f;rfl)
def Et:OpR X (V1 .IsNot) (λx y H Q=>y = .non/\Q (.bl (!decide (x = .non))) H):=by
 intro d s k H x y v u Q I f j h;obtain⟨rfl,q⟩:=h;cases j;refine isnot_none_gen (AA I q ?_)
 cases x <;> first
  |(cases f;rfl)
  |(obtain⟨t,rfl⟩:=f;rfl)
def Eu{op:CmpOp}{r:R2}(k:OpR X (V1 op) r)(z:PE X a ta)(hb:PE X b tb)(f:VN op b=aS):PE X (.Compare a [op] [b] pos) (tOp r ta tb):=by
 intro d s B H Q I h;exact wpAny_Compare1 (J2 z hb I h λv u L x y J l j C q=>k d L B J x y v u Q l j C q) f
abbrev IG(t:TE):TT:=λf H Q=>t f H λx d=>∃k,x = .bl k/\Q k d
def Ew(J:OpR X (V1 op) r)(Y:PE X a ta)(hb:PE X b tb)(C:VN op b=aS):PT X (.Compare a [op] [b] pos) (IG (tOp r ta tb)):=by
 intro d s f H Q I h
 refine wpAny_isTrue_Compare1 (thn (Y d s f H _ I h) λv T ⟨x,j,U,r1,q1⟩=>thn (hb d T f j _ U q1) λu O ⟨y,Z,I2,r2,q2⟩=>
  thn (J d O f Z x y v u _ I2 r1 r2 q2) λc s3 ⟨z,q,B,l,k,e,L⟩=>?_) C
 subst e;cases l;exact U2 ⟨q,B,L⟩
abbrev uE(r j:R2)(ta tb tc:TE):TE:=λd H Q=>ta d H λx q=>tb d q λy v=>r x y v λz f=>∃k,z = .bl k ∧
 (if k=aN then tc d f λl u=>j y l u Q else Q (.bl aS) f)
def AB(ho:OpR X (V1 op) r)(l:OpR X (V1 O) r')(ha:PE X a ta)(hb:PE X b tb)(hc:PE X c tc)
  (Y:lastMarks [op,O] [b,c]=aS:=by with_unfolding_all rfl):PE X (.Compare a [op,O] [b,c] pos) (uE r r' ta tb tc):=by
 intro f s j H Q I h
 refine Compare_chain (thn (ha f s j H _ I h) λv s1 ⟨x,L,I1,r1,q1⟩=>chain_link (thn (hb f s1 j L _ I1 q1) λu s2 ⟨y,H2,I2,r2,q2⟩=>
  thn (ho f s2 j H2 x y v u _ I2 r1 r2 q2) λd J ⟨z,q,B,U,k,e,C⟩=>?_)) Y
 subst e;cases U;refine U2 ?_;cases k with
 |false=>exact ite_ff ⟨.bl aS,q,B,rfl,C⟩
 |true=>exact ite_tt (chain_last (thn (hc f J j q _ B C) λw' s4 ⟨Z,T,I4,r4,q4⟩=>l f s4 j T y Z u w' Q I4 r2 r4 q4))
def AC(ho:OpR X (V1 op) r)(l:OpR X (V1 O) r')(ha:PE X a ta)(hb:PE X b tb)(hc:PE X c tc)
  (hm:lastMarks [op,O] [b,c]=aS:=by with_unfolding_all rfl):PT X (.Compare a [op,O] [b,c] pos) (IG (uE r r' ta tb tc)):=by
 intro f s j H Q I h
 refine isTrue_chain (thn (ha f s j H _ I h) λv s1 ⟨x,U,I1,r1,q1⟩=>test_link (thn (hb f s1 j U _ I1 q1) λu s2 ⟨y,H2,I2,r2,q2⟩=>
  thn (ho f s2 j H2 x y v u _ I2 r1 r2 q2) λd J ⟨z,q,B,Z,k,e,C⟩=>?_)) hm
 subst e;cases Z;refine U2 ?_;cases k with
 |false=>
  obtain⟨k',e',T⟩:=C;cases e';exact ite_ff ⟨q,B,T⟩
 |true=>
  refine ite_tt (test_last (thn (hc f J j q _ B C) λw' s4 ⟨z',Y,I4,r4,q4⟩=>thn (l f s4 j Y y z' u w' _ I4 r2 r4 q4) λd' s5 ⟨z2,L,I5,r5,k2,e2,q5⟩=>?_));subst e2;cases r5;exact U2 ⟨L,I5,q5⟩
abbrev Ex(K:Vp)(x:V)(H:Hp)(k:Bool):Prop:=
 match x with
 |.non=>k=aS
 |.bl b=>k=b
 |.int i=>k=(i != 0)
 |.str y=>y.length<=sizeLine/\k=((y.length:Int) != 0)
 |.byt y=>y.size<=sizeLine/\k=((y.size:Int) != 0)
 |.ref p=>(∃f,SqL K H p f/\k = !f.isEmpty)\/(∃f,SqT K H p f/\k = !f.isEmpty)\/∃d,H p=aw (.dK d)/\k = !d.isEmpty
 |_=>False
def uF{d:Type}{k:List (d × V)}{v:List (d × Value)}(r:KV k v):(!v.isEmpty) = !k.isEmpty:=by
 cases r <;> rfl
def kY{xs:List V}{its:List Value}(r:aP xs its):(!its.toArray.isEmpty) = !xs.isEmpty:=by
 cases r <;> simp
def jk:(sizeLine:Nat) < 2 ^ 63:=by rw[Ut];decide
def J9:RI X (λx H Q=>∃k,Ex X.K x H k/\Q k H):=by
 intro J s U H x v Q I u h;obtain⟨k,e,q⟩:=h;have Y:=jk;have hs:sizeLine=16777216:=Ut;cases x with
 |non=>
  cases u;have d:k=aS:=e;subst d;exact truthy_none ⟨H,I,q⟩
 |bl b=>
  cases u;have d:k=b:=e;subst d;exact U2 ⟨H,I,q⟩
 |int i=>
  obtain⟨t,rfl⟩:=u;have d:k=(i != 0):=e;subst d;exact PySem.P.truthy_int ⟨H,I,q⟩
 |str y=>
  obtain⟨t,rfl⟩:=u;obtain⟨O,d⟩:y.length<=sizeLine/\k=((y.length:Int) != 0):=e;subst d;exact PySem.P.truthy_str (by lia) ⟨H,I.tok _,q⟩
 |byt y=>
  obtain⟨t,rfl⟩:=u;obtain⟨O,d⟩:y.size<=sizeLine/\k=((y.size:Int) != 0):=e;subst d;exact PySem.W.truthy_bytes (by lia) ⟨H,I.tok _,q⟩
 |ref p=>
  cases u;have d:(∃l,SqL X.K H p l/\k = !l.isEmpty)\/(∃l,SqT X.K H p l/\k = !l.isEmpty)\/∃f,H p=aw (.dK f)/\k = !f.isEmpty:=e;rcases d with ⟨l,z,d⟩ |⟨l,z,d⟩ |⟨f,z,d⟩
  ·subst d;obtain⟨C,r,B,L⟩:=I.list z;have j:=r.length;exact wpAny_truthy_list B.isList (by simp only[Zj];lia) ⟨H,I.tok _,by rw[kY r];exact q⟩
  ·subst d;obtain⟨C,r,B,L⟩:=I.tuple z;have j:=r.length;exact truthy_tuple B (by simp only[Zj];lia) ⟨H,I.tok _,by rw[kY r];exact q⟩
  ·subst d;obtain⟨L,T,vs,r,m⟩:f.length<=sizeLine/\(p == Uz)=aS/\∃vs,KV f vs/\s.heap.DictOf (be X.prog X.w) p vs:=I.hok p _ z;have j:f.length=vs.length:=Paired.length r;exact wpAny_truthy_dict T m (by lia) ⟨H,I.tok _,by rw[uF r];exact q⟩
 |_=>exact(show False from e).elim
def AE(B:PE X a ta)(C:∀d,isTrue a X.env d=(do let v <-d;standAt a.pos;holding [v] (truthy v))) :
  PT X a (λj H Q=>ta j H λx l=>∃k,Ex X.K x l k/\Q k l):=by
 intro f s j H Q I h;exact isTrue_plain (thn (B f s j H _ I h) λv q ⟨x,y,u,r1,z⟩=>J9 f q j y x v Q u r1 z) (C _)
def uG:OpR X (VO .Add) (λx y H Q=>∃i j,x = .str i/\y = .str j/\i.length+j.length<=sizeLine/\Q (.str (i++j)) H):=by
 intro d s B H x y v u Q I f l h;obtain⟨i,j,rfl,rfl,k,q⟩:=h;obtain⟨t,rfl⟩:=f;obtain⟨T,rfl⟩:=l;exact add_str (λT z=>⟨.str (i++j),H,I.tok _,⟨_,rfl⟩,q⟩) k
def bQ(r:aP [x] U):∃u,U=[u]/\aB x u:=by
 cases r with
 |cons r1 r2=>cases r2;exact⟨_,rfl,r1⟩
def nV(r:aP [x,y] U):∃u w',U=[u,w']/\aB x u/\aB y w':=by
 cases r with
 |cons r1 r2=>
  cases r2 with
  |cons f d=>cases d;exact⟨_,_,rfl,r1,f⟩
def yG(hc:X.calm=aN):aR X (.builtin "max") (λxs H Q=>∃i j,xs=[.int i,.int j]/\Q (.int (if j > i then j else i)) H):=by
 intro f s z H xs U Q I r h;obtain⟨i,j,rfl,q⟩:=h;obtain⟨u,l,rfl,⟨t,rfl⟩,⟨T,rfl⟩⟩:=nV r;refine max_two_ints (I.ok.hd hc) λv y k=>⟨_,H,I.kept k,?_,q⟩;by_cases d:j > i
 ·rw[if_pos d,if_pos d];exact⟨_,rfl⟩
 ·rw[if_neg d,if_neg d];exact⟨_,rfl⟩
def yH(hc:X.calm=aN):aR X (.builtin "min") (λxs H Q=>∃i j,xs=[.int i,.int j]/\Q (.int (if j < i then j else i)) H):=by
 intro f s z H xs U Q I r h;obtain⟨i,j,rfl,q⟩:=h;obtain⟨u,l,rfl,⟨t,rfl⟩,⟨T,rfl⟩⟩:=nV r;refine min_two_ints (I.ok.hd hc) λv y k=>⟨_,H,I.kept k,?_,q⟩;by_cases d:j < i
 ·rw[if_pos d,if_pos d];exact⟨_,rfl⟩
 ·rw[if_neg d,if_neg d];exact⟨_,rfl⟩
def yI:aR X (.type "int") (λxs H Q=>(∃i,xs=[.int i]/\Q (.int i) H)\/∃k,xs=[.bl k]/\Q (.int (if k then 1 else 0)) H):=by
 intro d s f H xs U Q I r h;rcases h with ⟨i,rfl,q⟩ |⟨k,rfl,q⟩
 ·obtain⟨u,rfl,t,rfl⟩:=bQ r;exact call_int_int ⟨.int i,H,I,⟨_,rfl⟩,q⟩
 ·obtain⟨u,rfl,r1⟩:=bQ r;cases r1;exact call_int_bool ⟨.int (if k then 1 else 0),H,I.tok _,⟨_,rfl⟩,q⟩
end
structure ObjM(h:Heap)(x dx C:Addr)(mA:Str->Option Value):Prop where
 obj:h.get? x=aw (Vu C dx)
 ns:h.Ns1 dx mA
 ne:dx ≠ x
def yJ{h:Heap}{d:Addr}{c:Str->Option Value}(n:h.Ns1 d c):∃O,h.get? d=aw O/\∀name,VE name O=aw (c name):=by
 obtain⟨o,f,B,v,hd,k,_,u⟩:=n;refine⟨o,v,λname=>?_⟩;have e:=u name;unfold nsFind findBy at e;rw[<-Array.find?_toList] at e;unfold VE;rw[hd];dsimp only;split
 ·rename_i y q;rw[q] at e;exact congrArg aw e
 ·rename_i q;rw[q] at e
  have a:f.toList.any (·.refKey)=aS:=by
   rw[List.any_eq_false];intro y j;obtain⟨z,t,b⟩:=k y (Array.mem_toList_iff.mp j);simp[DictEntry.refKey,b]
  have l:¬ f.toList.any (·.refKey)=aN:=by rw[a];exact Zf
  rw[if_neg l];exact congrArg aw e
def ObjM.look(I:ObjM h x d C b):∃O,PySem.W.InstAt h x (Vu C d) C (aw O)/\∀name,VE name O=aw (b name):=
 let ⟨O,ho,hl⟩:=yJ I.ns
 ⟨O,⟨I.obj,rfl,rfl,ho⟩,hl⟩
def uy.some_of(r:uy (aw v) o):∃u,o=aw u/\aB v u:=by
 cases o with
 |none=>exact(show False from r).elim
 |some u=>exact⟨u,rfl,r⟩
section
variable {P:Program} {w:World} {H H':Hp} {h h':Heap} {a C dx:Addr} {fs fs':List (Str × V)}
def Ey(hok:HOk P w H h)(e:H a=aw (.ins C dx fs)):∃b,ObjM h a dx C b/\(∀f,uy (fs.lookup f) (b f))/\PySem.Within b (fs.map (·.1))/\fs.length<=1000/\H dx=aw (.own a):=by
 obtain⟨d,z,ne,ob,b,n,r,q⟩:=(show a9 P w H h a (.ins C dx fs) from hok a _ e);exact⟨b,⟨ob,n,ne⟩,r,q,z,d⟩
end
structure Cls(K:Vp)(C:Addr):Prop where
 pg:VG K C Str.empty=aN
 hd:PySem.W.hasDictIn K C=aN
 po:PySem.W.plainOver K C=aN
 sa:Vs K (.ref C) "__setattr__" = aw (aw (.builtin "object.__setattr__"))
def Cls.get{K:Vp}{C:Addr}(c:Cls K C)(f:Str):VG K C f=aN:=c.pg
section
variable {X:Cx} {pins:List (Addr × Obj)} {σ:St} {H:Hp} {s:Shared} {A:Around} {E:Value->Shared->Prop} {Q:Value->Shared->Prop} {c:Value} {b:Bool}
inductive TyOf(K:Vp)(H:Hp):V->Value->Prop where
 |non:TyOf K H .non (.type "NoneType")
 |bl (x:Bool):TyOf K H (.bl x) (.type "bool")
 |int (i:Int):TyOf K H (.int i) (.type "int")
 |str (x:Str):TyOf K H (.str x) (.type "str")
 |flt (x:UInt64):TyOf K H (.flt x) (.type "float")
 |lst {a:Addr} {xs:List V} (e:H a=aw (.lst xs)):TyOf K H (.ref a) (.type "list")
 |frz {a:Addr} {o:Obj} {xs:List V} (e:H a=aw (.frz o (.lst xs))):TyOf K H (.ref a) (.type "list")
 |tup {a:Addr} {xs:List V} (e:H a=aw (.tup xs)):TyOf K H (.ref a) (.type "tuple")
 |dK {a:Addr} {kvs:List (Key × V)} (e:H a=aw (.dK kvs)):TyOf K H (.ref a) (.type "dict")
 |dT {a:Addr} {kvs:List (List NK × V)} (e:H a=aw (.dT kvs)):TyOf K H (.ref a) (.type "dict")
 |ins {a C dx:Addr} {fs:List (Str × V)} (e:H a=aw (.ins C dx fs)) (cl:Cls K C) (ha:Vs K (.ref C) "__class__" = aw (aw (.builtin "object.__class__")))
   (hn:PySem.W.specialIn K (.builtin "object.__class__") "__get__" = aw (aw (.builtin "getset_descriptor.__get__"))) (htk:PySem.W.takesIn K (.builtin "object.__class__")=aw aN)
   (hm:PySem.W.mroIn K C (.type "object")=aw aN):TyOf K H (.ref a) (.ref C)
def yK(I:Inv X pins σ H s)(d:aB x u)(ty:TyOf X.K H x t)(e:VA X.K t c=aw b)(h:∀T,Q (.bool b) { s with toks:=T }) :
  wpAny (model X.prog X.w) A (call (.builtin "isinstance") [u,c]) Q E s:=by
 cases ty with
 |non=>cases (show u=Value.none from d);exact Vz PySem.W.kitx_none I.kIn True.intro e (λz=>nomatch z) h
 |bl y=>cases (show u=Value.bool y from d);exact Vz PySem.W.kitx_bool I.kIn True.intro e (λz=>nomatch z) h
 |int i=>obtain⟨t,q⟩:=(show ∃t,u=Value.int i t from d);cases q;exact Vz PySem.W.kitx_int I.kIn True.intro e (λz=>nomatch z) h
 |str y=>obtain⟨t,q⟩:=(show ∃t,u=Value.str y t from d);cases q;exact Vz PySem.W.kitx_str I.kIn True.intro e (λz=>nomatch z) h
 |flt y=>obtain⟨t,q⟩:=(show ∃t,u=Value.float y t from d);cases q;exact Vz PySem.W.kitx_float I.kIn True.intro e (λz=>nomatch z) h
 |@lst a j ea=>
  cases (show u=Value.ref a from d);obtain⟨_,_,n,_,f⟩:=(show a9 X.prog X.w H s.heap a (.lst j) from I.hok a _ ea);exact Vz VC I.kIn ⟨_,f,rfl⟩ e (λz=>nomatch z) h
 |@frz a ob j ea=>
  cases (show u=Value.ref a from d);obtain⟨_,_,_,n,_,f⟩:=(show a9 X.prog X.w H s.heap a (.frz ob (.lst j)) from I.hok a _ ea);exact Vz VC I.kIn ⟨_,f,rfl⟩ e (λz=>nomatch z) h
 |@tup a j ea=>
  cases (show u=Value.ref a from d);obtain⟨_,_,_,p⟩:=(show a9 X.prog X.w H s.heap a (.tup j) from I.hok a _ ea);obtain⟨o,f,k,_⟩:=p;exact Vz PySem.W.kitx_tuple I.kIn ⟨o,f,k⟩ e (λz=>nomatch z) h
 |@dK a kvs ea=>
  cases (show u=Value.ref a from d);obtain⟨_,_,L,_,p⟩:=(show a9 X.prog X.w H s.heap a (.dK kvs) from I.hok a _ ea);obtain⟨o,v,l,f,k,_⟩:=p;exact Vz VB I.kIn ⟨o,f,k.1⟩ e (λz=>nomatch z) h
 |@dT a kvs ea=>
  cases (show u=Value.ref a from d);obtain⟨_,_,j,_,o,v,l,f,k,_⟩:=(show a9 X.prog X.w H s.heap a (.dT kvs) from I.hok a _ ea);exact Vz VB I.kIn ⟨o,f,k.1⟩ e (λz=>nomatch z) h
 |@ins a C dx fs ea cl ha hn htk hm=>
  cases (show u=Value.ref a from d);obtain⟨B,O,_⟩:=Ey I.hok ea;obtain⟨U,J,_⟩:=O.look;exact Vz (PySem.W.kitx_own (cl.get _) cl.hd ha hn htk hm) I.kIn J e (λz=>nomatch z) h
end
structure Room(k:Nat)(A:Around):Prop where
 hd:A.handled=aD
 dp:A.depth+3 * k+5 < recursionLimit
 un:A.units+16 * k+200 < cLine
 gd:A.guards=aw []
def Room.deeper{k:Nat}(r:Room (k+1) A)(env:Env):Room k (A.deeper env):=
 ⟨r.hd,by have:=r.dp;show A.depth+1+3 * k+5 < _;lia,by have:=r.un;show A.units+3+16 * k+200 < _;lia,r.gd⟩
def Room.in1{k:Nat}(r:Room (k+1) A):Room k A.in1:=
 ⟨r.hd,by have:=r.dp;show A.depth+3 * k+5 < _;lia,by have:=r.un;show A.units+1+16 * k+200 < _;lia,r.gd⟩
def Room.depth{k:Nat}(r:Room k A):A.depth < recursionLimit:=by have:=r.dp;lia
def Room.units{k:Nat}(r:Room k A):A.units+64 < cLine:=by have:=r.un;lia
def Room.units0{k:Nat}(r:Room k A):A.units < cLine:=by have:=r.un;lia
abbrev jl:TA:=λ_ H Q=>Q [] H
abbrev cg(T:TE)(tr:TA):TA:=λb H Q=>T b H λx c=>tr b c λX d=>Q (x::X) d
section
variable {X:Cx} {e:Expr} {es:List Expr} {te:TE} {t:TA} {pos:Pos}
def pM:PA X [] jl:=λ_ _ _ _ H Q I h=>Calls.spliced_nil ⟨[],H,I,.nil,h⟩
def kC(z:PE X e te)(k:PA X es t)(hs:Uv (e::es) X.env=(aS,eval e X.env)::Uv es X.env:=by rfl):PA X (e::es) (cg te t):=by
 intro pos b s c H Q I h;rw[hs];show wpAny _ _ (spliced ((aS,eval e X.env)::backTo pos (Uv es X.env))) _ _ s;refine Calls.spliced_cons (thn (z b s c H _ I h) λu d ⟨x,l,j,r1,y⟩=>?_);exact thn (k pos b d c l _ j y) λU C ⟨f,B,v,r2,q⟩=>⟨x::f,B,v,.cons r1 r2,q⟩
abbrev Ka(t:TA):TE:=λd H Q=>t d H λc b=>c.length<=sizeLine/\∀p,b p=aD->Q (.ref p) (upd b p (.tup c))
abbrev O6(t:TA):TE:=λd H Q=>t d H λc b=>c.length<=sizeLine/\∀p,b p=aD->Q (.ref p) (upd b p (.lst c))
def AF{l}(h:PA X es t):PE X (.Tuple es l pos) (Ka t):=by
 intro c s y H Q I v;refine wpAny_Tuple_spliced (thn (h pos c s y H _ I v) λU d ⟨k,j,f,r,z,q⟩=>⟨by rw[<-r.length];exact z,?_⟩);have B:j d.heap.objs.size=aD:=f.hok.fresh (Zi _);refine⟨.ref d.heap.objs.size,upd j d.heap.objs.size (.tup k),f.laid (t':=d.toks) (λb u e=>Zc _ e) (Zi _) ?_,rfl,q _ B⟩;exact⟨z,U,r,pK.new _ _⟩
def Kb(h:PA X es t):PE X (.List es pos) (O6 t):=by
 intro c s v H Q I l;refine wpAny_List_spliced (thn (h pos c s v H _ I l) λU d ⟨k,j,f,r,z,q⟩=>⟨by rw[<-r.length];exact z,?_⟩);have y:j d.heap.objs.size=aD:=f.hok.fresh (Zi _);refine⟨.ref d.heap.objs.size,upd j d.heap.objs.size (.lst k),f.laid (t':=d.toks) (λb u e=>Zc _ e) (Zi _) ?_,rfl,q _ y⟩;exact⟨z,U,0,r,Zs _ rfl⟩
end
@[inline]abbrev Sp:=List V->Hp->VK->XK->Prop
@[inline]abbrev CXT:=List Env->Hp->Shared->XK->Value->Shared->Prop
structure Env0(P:Program)(w:World)(K:Vp)(mg:Str->Option Value)(base:Heap)(A:Around)(outer:List Env)(s:Shared)(H:Hp):Prop where
 frames:A.frames=aw outer
 mod:Mod K mg base
 bs:∀b o,base.get? b=aw o->s.heap.get? b=aw o/\H b=aD
 bsz:base.objs.size<=s.heap.objs.size
 funs:s.heap.FunFrames base outer
 frf:∀b ∈ frs outer,H b=aD
 hok:HOk P w H s.heap
 bare:AllBare s.gens
abbrev CE(outer:List Env)(P:Program)(w:World)(H:Hp)(s:Shared)(Q:VK)(u:Value)(b:Shared):Prop:=
 ∃v c,b.os=s.os/\AllBare b.gens/\Un (frs outer) [] H c s.heap b.heap/\HOk P w c b.heap/\aB v u/\Q v c
abbrev CR(C:CXT)(outer:List Env)(P:Program)(w:World)(H:Hp)(s:Shared)(Q:VK)(E:XK)(r:Result)(b:Shared):Prop:=
 match r with
 |.ok (.ret u)=>CE outer P w H s Q u b
 |.ok _=>False
 |.error e=>C outer H s E e b
structure FnOk(P:Program)(w:World)(K:Vp)(mg:Str->Option Value)(base:Heap)(CX:CXT)(k:Nat)(f:Addr)(fd:Vg)(ps:List Str)(sp:Sp):Prop where
 len:∀vs H Q E,sp vs H Q E->vs.length=ps.length
 run:∀ (A:Around) (outer:List Env) (s:Shared) (H:Hp) (args:Args) (us:List Value) (vs:List V) (Q:VK) (E:XK),Room k A->Env0 P w K mg base A outer s H->BindsTo s fd args (ps.zip us)->aP vs us->sp vs H Q E ->
  codeAny (model P w) A (.call (.ref f) args) (CR CX outer P w H s Q E) s
def Env0.in1{P:Program}{w:World}{K:Vp}{mg:Str->Option Value}{base:Heap}{A:Around}{outer:List Env}{s:Shared}{H:Hp}(e:Env0 P w K mg base A outer s H) :
  Env0 P w K mg base A.in1 outer s H:=⟨e.frames,e.mod,e.bs,e.bsz,e.funs,e.frf,e.hok,e.bare⟩
section
variable {X:Cx} {pins:List (Addr × Obj)} {σ:St} {H:Hp} {s s':Shared}
def Inv.env0(I:Inv X pins σ H s):Env0 X.prog X.w X.K X.mg X.base X.A X.stack s H:=
 ⟨I.ok.frames,I.ok.mod,I.bs,ZW I.ok.bsz I.sz,I.stack,I.stkFree,I.hok,I.bare⟩
def Inv.after(I:Inv X pins σ H s)(h:CE X.stack X.prog X.w H s Q u s'):EP X pins σ Q u s':=by
 obtain⟨v,c,os,bare,un,hok,r,q⟩:=h;obtain⟨f,g,d,t,O⟩:=s';obtain rfl:O=s.os:=os;exact⟨v,c,I.call (h':=f) (g':=g) (d':=d) (t':=t) (ch:=[]) un hok bare (λb z=>absurd z (by simp)),r,q⟩
end
abbrev IH(c:Sp)(d:List V)(E:XK)(t:TA):TE:=λf H Q=>t f H λv b=>c (v++d) b Q E
abbrev nW(K:Vp)(f:Vg)(ps:List Str)(d:List Value):Prop:=
 ∀ (s:Shared) (u:List Value),K.In s.heap->(u++d).length=ps.length->BindsTo s f ⟨u,[]⟩ (ps.zip (u++d))
def nW.all{K:Vp}{f:Vg}{ps:List Str}(h:∀u:List Value,u.length=ps.length->VP f ⟨u,[]⟩=pure (ps.zip u)):nW K f ps []:=λs u _ b=>by
 rw[Yb] at b ⊢;exact .of_eq (h u b)
abbrev uH(C:CXT)(X:Cx)(E:XK):Prop:=∀ (b:List (Addr × Obj)) (d:St) (H:Hp) (s:Shared) (e:Value) (c:Shared),Inv X b d H s->C X.stack H s E e c->X.xe e c
section
variable {X:Cx} {CX:CXT} {k:Nat} {f C:Addr} {fd:Vg} {ps:List Str} {sp:Sp} {dvs:List V} {ds:List Value} {E:XK} {x m:Str} {p pos apos:Pos} {e o:Expr} {es:List Expr} {ta:TE} {t:TA}
def Kc(F:FnOk X.prog X.w X.K X.mg X.base CX k f fd ps sp)(q:Room k X.A)(hb:nW X.K fd ps ds)(hd:aP dvs ds)(y:uH CX X E)
  (I:Inv X b d H s) (r:aP v U) (h:sp (v++dvs) H Q E):wpAny (model X.prog X.w) X.A (call (.ref f) U) (EP X b d Q) X.xe s:=by
 have r2:aP (v++dvs) (U++ds):=r.append hd;have z:(U++ds).length=ps.length:=by rw[<-r2.length];exact F.len _ _ _ _ h
 refine wpAny_call (V0 (F.run X.A X.stack s H ⟨U,[]⟩ (U++ds) (v++dvs) Q E q I.env0 (hb s U I.kIn z) r2 h) λr l c=>?_);cases r with
 |error e=>exact y b d H s e l I c
 |ok j=>
  cases j with
  |ret u=>exact I.after c
  |next=>exact False.elim c
  |brk=>exact False.elim c
  |cont=>exact False.elim c
def Ez(F:FnOk X.prog X.w X.K X.mg X.base CX k f fd ps sp)(l:Room k X.A)(B:Gl X x)(u:X.mg x=aw (.ref f))(J:Vy X.K (.ref f)=aN)(hb:nW X.K fd ps ds)(hd:aP dvs ds)(v:uH CX X E)
  (z:PA X (e::es) t) (d:(x == ("__debug__" : Str))=aS:=by decide) (L:Uv (e::es) X.env=(aS,eval e X.env)::Uv es X.env:=by rfl) (c:(backTo pos (Uv es X.env)).any (·.1)=aS:=by rfl) :
  PE X (.Call (.Name x p) (e::es) [] pos) (IH sp dvs E t):=by
 intro b s y H Q I h;refine UB (wP I B u ?_ d);refine PySem.W.callWith_K (h₀:=X.base) I.ok.mod.kin J (thn (z pos b s y H _ I h) λU Y ⟨T,O,j,r,q⟩=>⟨j.kIn,?_⟩) L c;exact Kc F l hb hd v j r q
end
abbrev PK(X:Cx)(k:List Keyword)(t:TA):Prop:=
 ∀ (d:Pos) (b:List (Addr × Obj)) (s:Shared) (c:St) (H:Hp) (Q:List V->Hp->Prop),Inv X b c H s->t c H Q->wpAny (model X.prog X.w) X.A (evalAll ((VM d (Ub k X.env)).map (·.2))) (AP X b c Q) X.xe s
section
variable {X:Cx} {CX:CXT} {k:Nat} {f C:Addr} {fd:Vg} {ps ks:List Str} {sp:Sp} {E:XK} {x m:Str} {p pos apos kpos:Pos} {e o:Expr} {es:List Expr} {kws:List Keyword} {te ta:TE} {t tk:TA} {nm:Option Str}
def AG:PK X [] jl:=λ_ _ _ _ H Q I h=>wpAny_evalAll_nil ⟨[],H,I,.nil,h⟩
def wU(L:PE X e te)(y:PK X kws t):PK X (⟨nm,e,kpos⟩::kws) (cg te t):=by
 intro pos b s c H Q I h;show wpAny _ _ (evalAll ((do let v <-eval e X.env;standAt pos;pure v)::(VM pos (Ub kws X.env)).map (·.2))) _ _ s;refine wpAny_evalAll_cons (UC (thn (L b s c H _ I h) λu d ⟨x,z,l,r1,J⟩=>UC (U1 (US ?_))));exact thn (y pos b d c z _ l J) λU T ⟨j,O,B,r2,q⟩=>⟨x::j,O,B,.cons r1 r2,q⟩
variable {g:List Value->List Value->List Value} {gV:List V->List V->List V}
end
structure FnScope(N P:List Str)(sc:Scope):Prop where
 kind:sc.kind = .function
 co:sc.isCoroutine=aS
 gen:sc.isGenerator=aS
 nd:N.Nodup
 pre:N.take P.length=P
 par:∀x ∈ P,sc.names.lookup x=aw .local\/sc.names.lookup x=aw .cell
 nofree:∀y ∈ sc.names,y.2 ≠ .free
def nX{kindOf:Str->Option Vi}{x:Str}:∀ {binds:List (Str × Value)} {m:Str->Option Value},(∀v,(x,v) ∉ binds)->bindL kindOf binds m x=m x
 |[],_,_=>rfl
 |(n,v)::r,m,h=>by
  unfold bindL;rw[nX λw b=>h w (Zh _ b)];split
  ·have:x ≠ n:=by rintro rfl;exact h v Zk
   simp[this]
  ·rfl
def nY{kindOf:Str->Option Vi}{x:Str}:∀ {binds:List (Str × Value)} {m:Str->Option Value},(∀v,(x,v) ∉ binds)->bindC kindOf binds m x=m x
 |[],_,_=>rfl
 |(n,v)::r,m,h=>by
  unfold bindC;rw[nY λw b=>h w (Zh _ b)];split
  ·rfl
  ·have:x ≠ n:=by rintro rfl;exact h v Zk
   simp[this]
def nZ{kindOf:Str->Option Vi}{x:Str}{v:Value}:∀ {P:List Str} {b:List Value} {i:Nat} {m:Str->Option Value},P.Nodup->P[i]?=aw x->b[i]?=aw v->kindOf x=aw .local ->
  bindL kindOf (P.zip b) m x=aw v
 |[],_,_,_,_,h,_,_=>by simp at h
 |_::_,[],_,_,_,_,h,_=>by simp at h
 |p::P,w::b,0,m,nd,h1,h2,hk=>by
  simp at h1 h2;subst h1;subst h2;show bindL kindOf ((p,w)::P.zip b) m p=_;unfold bindL;rw[nX λv c=>(ZX.mp nd).1 (Xn c).1,if_pos hk];simp
 |p::P,w::b,i+1,m,nd,h1,h2,hk=>by
  show bindL kindOf ((p,w)::P.zip b) m x=_;unfold bindL;exact nZ (i:=i) (ZX.mp nd).2 (by simpa using h1) (by simpa using h2) hk
def n4{kindOf:Str->Option Vi}{x:Str}{v:Value}:∀ {P:List Str} {b:List Value} {i:Nat} {m:Str->Option Value},P.Nodup->P[i]?=aw x->b[i]?=aw v->kindOf x ≠ aw .local ->
  bindC kindOf (P.zip b) m x=aw v
 |[],_,_,_,_,h,_,_=>by simp at h
 |_::_,[],_,_,_,_,h,_=>by simp at h
 |p::P,w::b,0,m,nd,h1,h2,hk=>by
  simp at h1 h2;subst h1;subst h2;show bindC kindOf ((p,w)::P.zip b) m p=_;unfold bindC;rw[nY λv c=>(ZX.mp nd).1 (Xn c).1,if_neg hk];simp
 |p::P,w::b,i+1,m,nd,h1,h2,hk=>by
  show bindC kindOf ((p,w)::P.zip b) m x=_;unfold bindC;exact n4 (i:=i) (ZX.mp nd).2 (by simpa using h1) (by simpa using h2) hk
abbrev eB(N:List Str)(v:List V):St:=v.map aw++ZL (N.length - v.length) aD
abbrev iH(C:CXT)(P:Program)(w:World)(K:Vp)(mg:Str->Option Value)(base:Heap)(N:List Str)(q:Str)(b:Scope)(f:Addr)(cd:Value)(A:Around)(outer:List Env)(s:Shared)(H:Hp)(E:XK):Cx where
 prog:=P
 w:=w
 K:=K
 mg:=mg
 base:=base
 A:=A.deeper (envOfC q b s.heap.objs.size f cd)
 N:=N
 s₀:=s
 H₀:=H
 env:=envOfC q b s.heap.objs.size f cd
 outer:=outer
 stack:=envOfC q b s.heap.objs.size f cd::outer
 ex:=[]
 calm:=true
 fn:=λ_=>aN
 pn:=[]
 xe:=λe j=>wpAny (model P w) (A.deeper (envOfC q b s.heap.objs.size f cd)) (leaving (envOfC q b s.heap.objs.size f cd) e) (λ_ c=>C outer H s E e c) (λd c=>C outer H s E d c) j
def rJ{sc:Scope}{n:Nat}{x:Str}(h:sc.names.lookup x=aw .cell):∃c,(VW n sc.names []).lookup x=aw c:=by
 have q:=Vq sc.names n [] (.inl h);exact Yl.mp q
def n5{O:CXT}{P:Program}{w:World}{K:Vp}{mg:Str->Option Value}{base:Heap}{N ps:List Str}{Q:Str}{d:Scope}{f:Addr}{cd:Value}{A:Around}{outer:List Env}{s s1:Shared}{H:Hp}{E:XK}{U:List Value}{B:List V}
  (S:FnScope N ps d) (hd:A.handled=aD) (l:Env0 P w K mg base A outer s H) (hl:B.length=ps.length) (r:aP B U)
  (x:InCallC s s.heap.objs.size (bindL (envOfC Q d s.heap.objs.size f cd).kindOf (ps.zip U) λ_=>aD) (VW (s.heap.objs.size+1) d.names []) (bindC (envOfC Q d s.heap.objs.size f cd).kindOf (ps.zip U) λ_=>aD) s1) :
  Inv (iH O P w K mg base N Q d f cd A outer s H E) [] (eB N B) H s1:=by
 have Y:ps.length<=N.length:=by have:=congrArg Zx S.pre;rw[Yh] at this;lia
 obtain⟨L,tk,rfl,X⟩:=x.done;have C:∀b:Addr,b ∉ (iH O P w K mg base N Q d f cd A outer s H E).ex:=λb z=>absurd (show b ∈ ([]:List Addr) from z) (by simp)
 refine⟨⟨l.mod,S.kind,rfl,rfl,Zi _,λy z c L j=>?_,λy hy=>?_,λy c _ h=>?_,λ_=>hd,Around.frames_deeper l.frames,.inr ⟨rfl,rfl⟩,λb z=>absurd z (C b),l.bs,l.bsz,λb _ _=>C b,λb z=>absurd z (C b),l.funs,l.frf⟩,
  rfl,l.bare,Un.kept X,⟨_,x.toInCall.ns,λi y v L j h3=>?_⟩,λy c h=>⟨_,x.cell y c h⟩,l.hok.fresh (Zi _),λy c h=>?_,λp I=>absurd (show p ∈ ([]:List (Addr × Obj)) from I) (by simp),l.hok.kept X,?_⟩
 ·exact name_of_addr x.apart (Ue L) (Ue j)
 ·have hy:d.names.lookup y=aw .cell\/d.names.lookup y=aw .free:=hy;rcases hy with hy |hy
  ·exact rJ hy
  ·exact absurd rfl (S.nofree _ (Ue hy))
 ·exact Y4 (x.above y c (Ue h))
 ·have hi:i < B.length:=by
   unfold eB at j;by_cases hi:i < B.length
   ·exact hi
   ·rw[Zp (by simpa using hi)] at j;rw[Yx] at j;split at j <;> cases j
  have ha:B[i]?=aw v:=by
   unfold eB at j;rw[Zw (by simpa using hi),Zl] at j;cases e:B[i]? with
   |none=>rw[e] at j;cases j
   |some a=>rw[e] at j;cases j;rfl
  obtain⟨u,T,Z⟩:=r.get ha
  have I:ps[i]?=aw y:=by
   rw[<-S.pre,XC (by lia)];exact L
  have J:ps.Nodup:=by rw[<-S.pre];exact S.nd.sublist (List.take_sublist _ _)
  refine⟨u,Z,?_⟩;rcases S.par y (Zd I) with k |k
  ·exact .inl ⟨k,nZ J I T k⟩
  ·obtain⟨c,e⟩:=rJ (n:=s.heap.objs.size+1) k;refine .inr ⟨.inl k,c,e,?_⟩;have q:=x.cell y c e;rw[n4 J I T (by show d.names.lookup y ≠ _;rw[k];decide)] at q;exact q
 ·exact l.hok.fresh (Y4 (x.above y c (Ue h)))
 ·unfold eB;show _=N.length;rw[Zg,Za,XN]
  lia
def II{Z:CXT}{P:Program}{w:World}{K:Vp}{mg:Str->Option Value}{base:Heap}{k:Nat}{f:Addr}{name d:Str}{j:WR}{body:List Stmt}{c:Scope}{dV kV T pm C ct oc:Value}{an od:Option Addr}
  {osl:Array (Option Value)} {N ps:List Str} {sp:Sp} (lk:K.lookup f=aw ⟨oc,od,.func (Vt name d j body c dV kV T pm an C ct),osl⟩) (hcd:Vr K C d=aN) (S:FnScope N ps c)
  (len:∀l H Q E,sp l H Q E->l.length=ps.length)
  (L:∀ (A:Around) (outer:List Env) (s:Shared) (H:Hp) (l:List V) (Q:VK) (E:XK),Room k (A.deeper (envOfC d c s.heap.objs.size f C))->sp l H Q E ->
   ∃t,PSs (iH Z P w K mg base N d c f C A outer s H E) body t/\t { nx:=λ_ B=>Q .non B,rt:=Q } (eB N l) H) :
  FnOk P w K mg base Z (k+1) f (Vt name d j body c dV kV T pm an C ct) ps sp:=by
 refine⟨len,λA outer s H args us l Q E hr X hb r Y=>?_⟩;have hl:=len _ _ _ _ Y;have KX:K.In s.heap:=X.mod.kin.keeps λb o e=>(X.bs b o e).1;have lim:s.heap.NoLimit:=X.mod.nolimit.keeps λb o e=>(X.bs b o e).1
 have O:∀y ∈ ps.zip us,c.names.lookup y.1=aw .local\/(c.names.lookup y.1=aw .cell/\((VW (s.heap.objs.size+1) c.names []).lookup y.1).isSome=aN):=λ⟨n,v⟩ hy=>by
  rcases S.par n (Xn hy).1 with q |q
  ·exact .inl q
  ·exact .inr ⟨q,Vq _ _ _ (.inl q)⟩
 refine codeAny_call_function hr.depth (KX _ _ lk) rfl S.co S.gen rfl (PySem.W.codeRec_of KX hcd) (hb _ _ _ _ ?_);refine UN S.kind O λenv he s1 x=>?_;subst he;refine⟨lim.keeps x.toInCall.keep,codeAny_func ?_⟩;obtain⟨t,ht,hq⟩:=L A outer s H l Q E (hr.deeper _) Y;have I:Inv (iH Z P w K mg base N d c f C A outer s H E) [] (eB N l) H s1:=n5 S hr.hd X hl r x;refine UM (ht [] s1 (eB N l) H _ I hq) (λfl s' hs=>?_) λe s' hs=>hs
 have U:∀ {z:St} {B:Hp} {v:V} {u:Value},Inv (iH Z P w K mg base N d c f C A outer s H E) [] z B s'->aB v u->Q v B->CE outer P w H s Q u s':=
  λ{z B v u} J rv q=>⟨v,B,J.os,J.bare,J.base,J.hok,rv,q⟩
 cases fl with
 |ret u=>
  obtain⟨v,z,B,J,rv,q⟩:=hs;exact U J rv q
 |next=>
  obtain⟨z,B,J,q⟩:=hs;exact U (v:=V.non) (u:=Value.none) J rfl q
 |brk=>
  obtain⟨_,_,_,q⟩:=hs;exact False.elim q
 |cont=>
  obtain⟨_,_,_,q⟩:=hs;exact False.elim q
section
variable {X:Cx} {x:Str} {p pos:Pos} {e:Expr} {es:List Expr} {t:TA} {id T:String} {r:List V->Hp->VK->Prop}
abbrev tCB(r:List V->Hp->VK->Prop)(t:TA):TE:=λc H Q=>t c H λv b=>r v b Q
def fI(hc:aR X (.builtin id) r)(k:Gl X x)(v:X.mg x=aD)(q:VR x=aw (.builtin id))(C:PA X (e::es) t)(u:x ≠ "__name__" := by decide)(d:(x == ("__debug__" : Str))=aS:=by decide)
  (J:Uv (e::es) X.env=(aS,eval e X.env)::Uv es X.env:=by rfl) (c:(backTo pos (Uv es X.env)).any (·.1)=aS:=by rfl):PE X (.Call (.Name x p) (e::es) [] pos) (tCB r t):=by
 intro b s f H Q I h;refine UB (eU I k v q ?_ u d);exact PyProof.Rows.callWith_builtin1 (thn (C pos b s f H _ I h) λU j ⟨B,y,l,r1,z⟩=>hc b j f y B U Q l r1 z) J c
def eC(hc:aR X (.type T) r)(k:Gl X x)(v:X.mg x=aD)(q:VR x=aw (.type T))(C:PA X (e::es) t)(u:x ≠ "__name__" := by decide)(d:(x == ("__debug__" : Str))=aS:=by decide)
  (J:Uv (e::es) X.env=(aS,eval e X.env)::Uv es X.env:=by rfl) (c:(backTo pos (Uv es X.env)).any (·.1)=aS:=by rfl):PE X (.Call (.Name x p) (e::es) [] pos) (tCB r t):=by
 intro b s f H Q I h;refine UB (eU I k v q ?_ u d);exact WO (thn (C pos b s f H _ I h) λU j ⟨B,y,l,r1,z⟩=>hc b j f y B U Q l r1 z) J c
end
end L2
namespace HT
open PySem PyProof.Rows
abbrev de:List Int->List Int->Bool
 |[],[]=>aS
 |[],_::_=>aN
 |_::_,[]=>aS
 |x::xs,y::ys=>if x=y then de xs ys else decide (x < y)
def kZ(x y:Int)(xs Y:List Int):de (x::xs) (y::Y)=if x=y then de xs Y else decide (x < y):=rfl
def nj:de [] []=aS:=rfl
def k6(y:Int)(Y:List Int):de [] (y::Y)=aN:=rfl
def k8(x:Int)(xs:List Int):de (x::xs) []=aS:=rfl
def rK(A:Around)(s:Shared)(a:Int)(t:Tok)(c:Int)(u:Tok):∃e,Vk A s (.int a t) (.int c u) e/\(e=aN ↔ a=c):=
 ⟨(a == c),SeqAt.EqAt.int_int a t c u,by simp⟩
def rL(A:Around)(s:Shared)(a:Int)(t:Tok)(c:Int)(u:Tok)(prog:Program)(w:World)(E:Value->Shared->Prop)(Q:Value->Shared->Prop)(h:Q (.bool (decide (a < c))) s) :
  wpAny (model prog w) A (Um .Lt (.int a t) (.int c u)) Q E s:=
 (PyProof.Rows.lt_int h:wpAny (model prog w) A (V1 .Lt (.int a t) (.int c u)) Q E s)
section
open PySem.SeqAt
open PySem.AutoSeq1 (wpAny_loadPart')
open PySem.MeetsSeq PySem.MeetsSeq2 PySem.MeetsSeq3
def nk(l b:Addr)(f I:Array Value)(n n2:Nat)(dd dd2:Option Addr)(sl sl2:Array (Option Value))(ns X:List Int)(hi:IntsAre f.toList ns)(hj:IntsAre I.toList X) :
  Meets (Builtin.«tuple.__lt__» ⟨[.ref l,.ref b],[]⟩)
   (λ_ R s=>s.heap.get? l=aw { cls:=.type "tuple", dict:=dd,data:=.seq f n,slots:=sl }/\s.heap.get? b=aw { cls:=.type "tuple", dict:=dd2,data:=.seq I n2,slots:=sl2 } ∧
    R (.ok (.ret (.bool (de ns X)))) s):=
 .of_wp λprog w A R s h=>by
  obtain⟨hp,g,d,Z,os⟩:=s;obtain⟨hl,hb,h⟩:=h;have f2:=AutoSeq1.sub_tuple_tuple;have z1:f.size=ns.length:=by rw[<-hi.length];simp
  have z2:I.size=X.length:=by rw[<-hj.length];simp
  wp_walk using UL hl,UL hb,UH _ (λC b s'=>b.1=aD/\s'=⟨hp,g,d,Z,os⟩/\∃ (vs Y:List Value) (v k:List Int),C=vs.zip Y ∧
   IntsAre vs v/\IntsAre Y k/\v.length+I.size=k.length+f.size/\R (.ok (.ret (.bool (de v k)))) ⟨hp,g,d,Z,os⟩) _
  case turn=>
   rintro⟨y,x⟩ C b s' ⟨Q,rfl,vs,Y,v,k,B,O,z,j,J⟩;cases O with
   |nil=>rw[List.zip_nil_left] at B;cases B
   |cons a t U=>
    cases z with
    |nil=>rw[List.zip_nil_right] at B;cases B
    |cons c u T=>
     rw[Yi] at B;injection B with hyx hrest;injection hyx with hy hx;subst hy hx;rw[kZ] at J;simp only[Zo] at j;obtain⟨e,he,L⟩:=rK A.in1 ⟨hp,g,d,Z,os⟩ a t c u;refine UC (he prog w _ _ ?_);cases e with
     |true=>
      rw[if_pos (L.mp rfl)] at J
      wp_walk
      exact⟨rfl,rfl,_,_,_,_,hrest,U,T,by lia,J⟩
     |false=>
      rw[if_neg (λq=>absurd (L.mpr q) Zf)] at J;have hri:=rL A.in1 ⟨hp,g,d,Z,os⟩ a t c u prog w
      wp_walk using hri
      exact⟨_,rfl,by simpa using J⟩
  case fin=>
   rintro⟨b1,b2⟩ s' ⟨Q,rfl,vs,Y,v,k,B,O,z,j,J⟩;simp only at Q;subst Q
   have hv:de v k=decide (f.size < I.size):=by
    cases O with
    |nil=>
     cases z with
     |nil=>
      simp only[Z1] at j;rw[nj];exact(decide_eq_false (by lia)).symm
     |cons c u hw=>
      simp only[Z1,Zo] at j;rw[k6];exact(decide_eq_true (by lia)).symm
    |cons a t hv=>
     cases z with
     |nil=>
      simp only[Z1,Zo] at j;rw[k8];exact(decide_eq_false (by lia)).symm
     |cons c u hw=>
      rw[Yi] at B;cases B
   rw[hv] at J
   wp_walk
   exact⟨_,rfl,by simpa[Builtin.Tuple.tupleCompareSizes] using J⟩
  case h=>
   exact⟨rfl,rfl,f.toList,I.toList,ns,X,rfl,hi,hj,by lia,h⟩
end
section
variable {prog:Program} {w:World} {A:Around} {E:Value->Shared->Prop} {s:Shared}
def k9(hl:IsTup s.heap l c)(hb:IsTup s.heap b I)(hi:IntsAre c.toList ns)(O:IntsAre I.toList k)
  (J:A.units < cLine) (h:Q (.bool (de ns k)) s):wpAny (model prog w) A (V1 .Lt (.ref l) (.ref b)) Q E s:=by
 obtain⟨⟨L,B,z,sl⟩,y,v,n,hd⟩:=id hl;obtain⟨⟨C,u,data2,q⟩,d,f,T,j⟩:=id hb;simp only at v hd f j;subst v hd f j
 exact Uo (op:=.Lt) ⟨_,y,rfl⟩ ⟨_,d,rfl⟩ Vf W3 (WZ _ _) (nk l b c I n T B u sl q ns k hi O)
  ⟨y,d,show Value.bool (de ns k) ≠ Value.notImplemented/\Q (.bool (de ns k)) s from ⟨(λx=>nomatch x),h⟩⟩ J
def EA(T:IsTup s.heap t v.toArray)(hb:IsTup s.heap b d.toArray)(C:v ≠ [])
  (O:d=[]->Q (.ref t) s) (L:d ≠ []->Q (.ref s.heap.objs.size) { s with heap:=s.heap.push { cls:=.type "tuple", data:=.seq (v++d).toArray } })
  (y:v.length+d.length<=sizeLine):wpAny (model prog w) A (VO .Add (.ref t) (.ref b)) Q E s:=by
 obtain⟨⟨cls,z,data,sl⟩,q,B,n,hd⟩:=id T;obtain⟨⟨J,l,data2,k⟩,c,f,I,j⟩:=id hb;simp only at B hd f j;subst B hd f j;have e:v.toArray++d.toArray=(v++d).toArray:=by simp
 by_cases u:d=[]
 ·exact V2 ⟨_,q,rfl⟩ ⟨_,c,rfl⟩ Ug Us Va W1 (WX _ _)
   (tuple_addW1 t b v.toArray d.toArray n I z l sl k (by simpa using C) (by simp[u])) ⟨q,c,O u⟩
 ·refine V2 ⟨_,q,rfl⟩ ⟨_,c,rfl⟩ Ug Us Va W1 (WX _ _)
   (tuple_addW2 t b v.toArray d.toArray n I z l sl k (by simpa using C) (by simpa using u) (by rw[Zj,Zj];exact y)) ⟨q,c,?_⟩
  rw[e];exact L u
abbrev sIx(n d:Nat):Option Int->Nat
 |none=>d
 |some v=>if v < 0 then (v+(n:Int)).toNat else min v.toNat n
def Kd(n d:Nat)(hd:d<=n)(o:Option Int):sIx n d o<=n:=by
 cases o with
 |none=>exact hd
 |some v=>
  show(if v < 0 then (v+(n:Int)).toNat else min v.toNat n)<=n;by_cases b:v < 0
  ·rw[if_pos b];lia
  ·rw[if_neg b];exact Nat.min_le_right _ _
def wV(v:Int)(n d:Nat):(if v < 0 then max (v+(n:Int)) 0 else min v (n:Int))=((sIx n d (aw v):Nat):Int):=by
 show(if v < 0 then max (v+(n:Int)) 0 else min v (n:Int))=(((if v < 0 then (v+(n:Int)).toNat else min v.toNat n):Nat):Int);by_cases b:v < 0
 ·simp only[if_pos b];lia
 ·simp only[if_neg b];lia
def uI(lo hi:Option Int)(n:Nat):Builtin.Slice.sliceAdjust lo hi 1 (n:Int)=(((sIx n 0 lo:Nat):Int),((sIx n n hi:Nat):Int)):=by
 have b:¬ ((1:Int) < 0):=by lia
 unfold Builtin.Slice.sliceAdjust;simp only[b,if_false];refine Prod.ext ?_ ?_
 ·cases lo with
  |none=>rfl
  |some v=>exact wV v n 0
 ·cases hi with
  |none=>rfl
  |some v=>exact wV v n n
def uJ(i j:Nat):Builtin.Slice.slicePlaces (i:Int) (j:Int) 1=j - i:=by
 unfold Builtin.Slice.slicePlaces;have b:(1:Int) > 0:=by lia
 simp only[b,if_true,WC];split <;> lia
def lh(p:IsPart v o)(h:Q o s):wpAny (model prog w) A (Builtin.Slice.slicePartIndex v) Q E s:=by
 cases p with
 |none=>exact slicePart_none h
 |int i t=>exact slicePart_int h
def eD{sl:Addr}{d v:Value}{lo hi:Option Int}{n:Nat}{Q:Int × Int × Nat->Shared->Prop}(hs:s.heap.IsSliceOf sl d v .none)(j:IsPart d lo)(k:IsPart v hi)
  (h:Q (((sIx n 0 lo:Nat):Int),1,sIx n n hi - sIx n 0 lo) s):wpAny (model prog w) A (Builtin.Slice.sliceApplied (.ref sl) (pure (n:Int))) Q E s:=by
 obtain⟨os,c,f,b⟩:=id hs;unfold Builtin.Slice.sliceApplied Builtin.Slice.sliceFields;refine UC (UC (UG c b (x:=d) rfl (UC (UG c b (x:=v) rfl (UC (UG c b (x:=.none) rfl (US ?_)))))));refine UC (slicePart_none ?_);show wpAny _ _ (if ((1:Int) == 0)=aN then _ else _) _ _ s;rw[if_neg (by decide)];refine UC (lh j (UC (lh k (UC (US ?_)))));show wpAny _ _ (match Builtin.Slice.sliceAdjust lo hi 1 (n:Int) with |(lo,hi)=>pure (lo,(1:Int),Builtin.Slice.slicePlaces lo hi 1)) _ _ s;rw[uI lo hi n];show wpAny _ _ (pure (((sIx n 0 lo:Nat):Int),(1:Int),Builtin.Slice.slicePlaces ((sIx n 0 lo:Nat):Int) ((sIx n n hi:Nat):Int) 1)) _ _ s;rw[uJ];exact US h
def AH(xs:Array Value)(i k:Nat):((Ze k).filterMap λ(m:Nat)=>xs[((i:Int)+(m:Int) * 1).toNat]?).toArray=((xs.toList.drop i).take k).toArray:=by
 have e:(λ(m:Nat)=>xs[((i:Int)+(m:Int) * 1).toNat]?)=λm=>xs[i+m]?:=by
  funext m
  have:((i:Int)+(m:Int) * 1).toNat=i+m:=by lia
  rw[this]
 rw[e];have:=pick_run xs i k;rw[X2] at this;have b:((λx=>xs[x]?) ∘ λx=>i+x)=λm=>xs[i+m]?:=rfl;rw[b] at this;rw[this]
def iI{t sl:Addr}{I:Array Value}{l v:Value}{lo hi:Option Int}{Q:Value->Shared->Prop}(c:IsTup s.heap t I)(hs:s.heap.IsSliceOf sl l v .none)(u:IsPart l lo)(z:IsPart v hi)
  (hw:¬ (sIx I.size 0 lo=0/\sIx I.size I.size hi=I.size))
  (h:Q (.ref s.heap.objs.size) { s with heap:=s.heap.push { cls:=.type "tuple", data:=.seq ((I.toList.drop (sIx I.size 0 lo)).take (sIx I.size I.size hi - sIx I.size 0 lo)).toArray } })
  (y:I.size<=sizeLine):wpAny (model prog w) A (getItem (.ref t) (.ref sl)) Q E s:=by
 have b:sizeOk (.seq ((I.toList.drop (sIx I.size 0 lo)).take (sIx I.size I.size hi - sIx I.size 0 lo)).toArray):=by
  show((I.toList.drop (sIx I.size 0 lo)).take (sIx I.size I.size hi - sIx I.size 0 lo)).toArray.size<=sizeLine;rw[Zj,Yh,Wf,Zr]
  lia
 have L:sIx I.size I.size hi<=I.size:=Kd _ _ (Zi _) hi;obtain⟨os,j,d,B⟩:=id hs;have f:s.TypeIs (.ref sl) "slice" := ⟨os,j,d⟩;unfold getItem
 try with_reducible refine UJ ?_
 first |refine UC (US ?_) |skip
 refine UC (UZ c.typeIs (by decide) ?_)
 refine UC (wpAny_callSpecial?_slot (name:=Str.ofString "__getitem__") c.typeIs WQ
  (UD WQ c.typeIs entry_tuple_getitem ?_ (args_tuple_getitem _ _)))
 show wpAny _ _ (Builtin.Tuple.tupleItemsOf (.ref t) >>= _) _ _ s;refine UC (tupleItemsOf_ c ?_);refine UC (U4 f ?_);rw[if_pos (by decide)];refine UC (eD hs u z ?_)
 have k:¬ ((((sIx I.size 0 lo:Nat):Int) == 0 && (1:Int) == 1 && (sIx I.size I.size hi - sIx I.size 0 lo) == I.size)=aN):=by
  intro q;rw[bAE,bAE] at q;have J:((sIx I.size 0 lo:Nat):Int)=0:=eq_of_beq q.1.1;have C:sIx I.size I.size hi - sIx I.size 0 lo=I.size:=eq_of_beq q.2;exact hw ⟨by lia,by lia⟩
 show wpAny _ _ (if (((sIx I.size 0 lo:Nat):Int) == 0 && (1:Int) == 1 && (sIx I.size I.size hi - sIx I.size 0 lo) == I.size)=aN then _ else _) _ _ s;rw[if_neg k,AH]
 first
  |exact UC (m:=Builtin.Tuple.tupleExact _) (UP (US ⟨_,rfl,US h⟩) b)
  |exact UC (m:=Builtin.Tuple.tupleExact _) (UP (UC (US (US ⟨_,rfl,US h⟩))) b)
  |exact UC (UC (m:=Builtin.Tuple.tupleExact _) (UP (US (US ⟨_,rfl,US h⟩)) b))
  |exact UC (UC (m:=Builtin.Tuple.tupleExact _) (UP (US ⟨_,rfl,US h⟩) b))
end
end HT
namespace L2
open PySem PySem.Spec PyProof.Rows
@[inline]abbrev TO:=St->Hp->(Option Int->Hp->Prop)->Prop
abbrev PO(X:Cx)(e:Option Expr)(t:TO):Prop:=
 ∀ (b:List (Addr × Obj)) (s:Shared) (c:St) (H:Hp) (Q:Option Int->Hp->Prop),Inv X b c H s->t c H Q ->
  wpAny (model X.prog X.w) X.A (evalPart e X.env) (λu f=>∃o d,Inv X b c d f/\IsPart u o/\Q o d) X.xe s
abbrev wW:TO:=λ_ H Q=>Q aD H
abbrev IJ(t:TE):TO:=λc H Q=>t c H λx b=>∃i,x = .int i/\Q (aw i) b
def uK:∀ {u:List Value},aP (ns.map V.int) u->IntsAre u ns:=by
 induction ns with
 |nil=>intro u r;rw[Z4] at r;cases r;exact .nil
 |cons n ns I=>
  intro u r;rw[Zy] at r;cases r with
  |cons r1 r2=>
   obtain⟨t,e⟩:=r1;subst e;exact .cons n t (I r2)
section
variable {X:Cx} {e:Expr} {te:TE} {lo hi:Option Expr} {tl th:TO} {pos p2:Pos}
def EB:PO X aD wW:=by
 intro b s c H Q I h;rw[V6];exact US ⟨aD,H,I,.none,h⟩
def wX(h:PE X e te):PO X (aw e) (IJ te):=by
 intro b s k H Q I d;rw[evalPart_some];refine thn (h b s k H _ I d) λu l ⟨x,f,c,r1,j⟩=>?_;obtain⟨i,rfl,q⟩:=j;obtain⟨t,rfl⟩:=r1;exact⟨aw i,f,c,.int i t,q⟩
abbrev SlR(X:Cx)(r:V->Option Int->Option Int->Hp->VK->Prop):Prop:=
 ∀ (b:List (Addr × Obj)) (s:Shared) (d:St) (H:Hp) (x:V) (v f c:Value) (lo hi:Option Int) (sl:Addr) (Q:VK),Inv X b d H s->aB x v->s.heap.IsSliceOf sl f c .none->IsPart f lo->IsPart c hi->r x lo hi H Q ->
  ∃T id,typeLookup (.type T) "__getitem__" = pure (aw (.builtin id))/\s.TypeIs v T/\wpAny (model X.prog X.w) X.A (getItem v (.ref sl)) (EP X b d Q) X.xe s
def SlR.or{r c:V->Option Int->Option Int->Hp->VK->Prop}(h:SlR X r)(h':SlR X c):SlR X (λx lo hi H Q=>r x lo hi H Q\/c x lo hi H Q):=by
 intro b s l H x v k f lo hi sl Q I j hs d u q;rcases q with q |q
 ·exact h b s l H x v k f lo hi sl Q I j hs d u q
 ·exact h' b s l H x v k f lo hi sl Q I j hs d u q
abbrev tSl(r:V->Option Int->Option Int->Hp->VK->Prop)(te:TE)(tl th:TO):TE:=λb H Q=>te b H λx d=>tl b d λl f=>th b f λu c=>r x l u c Q
def AI(z:SlR X r)(he:PE X e te)(hl:PO X lo tl)(L:PO X hi th):PE X (.Subscript e (.Slice lo hi aD p2) pos) (tSl r te tl th):=by
 intro c s f H Q I h;refine Subscript_ (thn (he c s f H _ I h) λv Z ⟨x,B,I1,r1,q1⟩=>?_);refine wpAny_Slice (thn (hl c Z f B _ I1 q1) λj Y ⟨l,H2,I2,C,q2⟩=>thn (L c Y f H2 _ I2 q2) λk d ⟨u,y,J,pu,O⟩=>?_);rw[V6];refine US ?_;have I4:Inv X c f y { d with heap:=d.heap.push { cls:=.type "slice", data:=.fields #[j,k,.none] } }:=J.kept (t':=d.toks) λb ob q=>Zc _ q;obtain⟨T,id,U,ht,hg⟩:=z c { d with heap:=d.heap.push { cls:=.type "slice", data:=.fields #[j,k,.none] } } f y x v j k l u d.heap.objs.size Q I4 r1 (Heap.IsSliceOf.new ..) C pu O;show wpAny (model X.prog X.w) X.A (subscriptTail e (.Slice lo hi aD p2) v (.ref d.heap.objs.size)) (EP X c f Q) X.xe { d with heap:=d.heap.push { cls:=.type "slice", data:=.fields #[j,k,.none] } };exact tail_any (ops:=[.ref d.heap.objs.size,v]) ht U hg (by with_unfolding_all rfl)
abbrev lj(xs:List V)(lo hi:Option Int):List V:=(xs.drop (HT.sIx xs.length 0 lo)).take (HT.sIx xs.length xs.length hi - HT.sIx xs.length 0 lo)
def jS(xs:List V)(lo hi:Option Int):(lj xs lo hi).length<=xs.length:=by
 unfold lj;rw[Yh,Wf]
 lia
abbrev RK(K:Vp):V->Option Int->Option Int->Hp->VK->Prop:=λx lo hi H Q=>∃a b,x = .ref a/\SqT K H a b ∧
 ¬ (HT.sIx b.length 0 lo=0/\HT.sIx b.length b.length hi=b.length)/\∀p,H p=aD->Q (.ref p) (upd H p (.tup (lj b lo hi)))
def Ke:SlR X (RK X.K):=by
 intro j s L H x v J O lo hi sl Q I B hs u C h;obtain⟨a,d,rfl,y,z,q⟩:=h;cases B;obtain⟨f,r,l,k⟩:=I.tuple y;have c:f.toArray.size=d.length:=by rw[Zj];exact r.length.symm
 refine⟨"tuple", _,PyProof.Rows.slot_tuple_getitem.lookup,l.typeIs,?_⟩;refine HT.iI l hs u C (by rw[c];exact z) ?_ (by rw[c];exact k);rw[c];refine⟨.ref s.heap.objs.size,_,I.laid (t':=s.toks) (o:=.tup (lj d lo hi)) (λb ob q=>Zc _ q) (Zi _) ?_,rfl,q _ (I.hok.fresh (Zi _))⟩;exact⟨ZW (jS d lo hi) k,_,(r.drop (HT.sIx d.length 0 lo)).take (HT.sIx d.length d.length hi - HT.sIx d.length 0 lo),pK.new _ _⟩
abbrev O7(K:Vp):R2:=λx y H Q=>∃a b c Y,x = .ref a/\y = .ref b/\SqT K H a c/\SqT K H b Y/\c ≠ []/\c.length+Y.length<=sizeLine ∧
 (Y=[]->Q (.ref a) H)/\(Y ≠ []->∀p,H p=aD->Q (.ref p) (upd H p (.tup (c++Y))))
def aP.nil_iff(r:aP xs u):u=[] ↔ xs=[]:=by
 cases r with
 |nil=>simp
 |cons _ _=>simp
def EC:OpR X (VO .Add) (O7 X.K):=by
 intro c s T H x y v u Q I J k h;obtain⟨a,b,l,Y,rfl,rfl,B,hb,j,f,O,C⟩:=h;cases J;cases k;obtain⟨L,r1,p1,_⟩:=I.tuple B;obtain⟨d,r2,p2,_⟩:=I.tuple hb;refine HT.EA p1 p2 (λz=>j (r1.nil_iff.mp z)) (λz=>⟨.ref a,H,I,rfl,O (r2.nil_iff.mp z)⟩) (λz=>?_) (by rw[<-r1.length,<-r2.length];exact f);refine⟨.ref s.heap.objs.size,_,I.laid (t':=s.toks) (o:=.tup (l++Y)) (λb ob q=>Zc _ q) (Zi _) ?_,rfl,C (λw=>z (r2.nil_iff.mpr w)) _ (I.hok.fresh (Zi _))⟩;exact⟨by rw[Zg];exact f,_,r1.append r2,pK.new _ _⟩
end
abbrev ixN(n:Nat)(i:Int):Option Nat:=if 0<=i then (if i < n then aw i.toNat else aD) else if -(n:Int)<=i then aw (i+n).toNat else aD
abbrev atI{α:Type}(xs:List α)(i:Int):Option α:=(ixN xs.length i).bind λj=>xs[j]?
def pO{n:Nat}{i:Int}{j:Nat}(h:ixN n i=aw j):seqIndex? i n=aw j/\j < n/\-(n:Int)<=i/\i < n:=by
 unfold ixN at h;by_cases c:0<=i
 ·rw[if_pos c] at h;by_cases b:i < n
  ·rw[if_pos b] at h;have e:i.toNat=j:=Option.some.inj h;exact⟨by rw[Uq c b,e],by lia,by lia,b⟩
  ·rw[if_neg b] at h;cases h
 ·rw[if_neg c] at h;by_cases b:-(n:Int)<=i
  ·rw[if_pos b] at h;have e:(i+n).toNat=j:=Option.some.inj h;exact⟨by rw[Up (by lia) b,e],by lia,b,by lia⟩
  ·rw[if_neg b] at h;cases h
def pP{b:Type}{xs:List b}{i:Int}{v:b}(h:atI xs i=aw v):∃j,seqIndex? i xs.length=aw j/\xs[j]?=aw v/\j < xs.length/\-(xs.length:Int)<=i/\i < xs.length:=by
 unfold atI at h;cases e:ixN xs.length i with
 |none=>rw[e] at h;cases h
 |some j=>
  rw[e] at h;obtain⟨f,c,d,h4⟩:=pO e;exact⟨j,f,h,c,d,h4⟩
def wY{b:Type}{xs:List b}{j:Nat}{v:b}(h:xs[j]?=aw v):atI xs (j:Int)=aw v:=by
 have c:j < xs.length:=(Zb.mp h).1
 have e:ixN xs.length (j:Int)=aw j:=by
  unfold ixN;rw[if_pos (by lia),if_pos (by lia)];simp
 unfold atI;rw[e];exact h
abbrev wZ(b:Expr):Prop:=∀o i,subscripted b aS o i=operate [o,i] (getItem o i)
abbrev IxR(X:Cx)(r:R2):Prop:=
 ∀ (d b:Expr) (c:List (Addr × Obj)) (s:Shared) (f:St) (H:Hp) (x y:V) (v u:Value) (Q:VK),Inv X c f H s->aB x v->aB y u->r x y H Q ->
  subscripted b aS v u=operate [v,u] (getItem v u)->wpAny (model X.prog X.w) X.A (subscriptTail d b v u) (EP X c f Q) X.xe s
abbrev MtR(X:Cx)(id:String)(r:V->List V->Hp->VK->Prop):Prop:=
 ∀ (b:List (Addr × Obj)) (s:Shared) (d:St) (H:Hp) (x:V) (c:List V) (v:Value) (u:List Value) (Q:VK),Inv X b d H s->aB x v->aP c u->r x c H Q ->
  wpAny (model X.prog X.w) X.A (call (.builtin id) (v::u)) (EP X b d Q) X.xe s
section
variable {X:Cx} {a b:Expr} {ta tb:TE} {pos:Pos}
def IxR.or{r j:R2}(h:IxR X r)(h':IxR X j):IxR X (λx y H Q=>r x y H Q\/j x y H Q):=by
 intro d c f s l H x y v u Q I k z q hs;rcases q with q |q
 ·exact h d c f s l H x y v u Q I k z q hs
 ·exact h' d c f s l H x y v u Q I k z q hs
def IK(f:IxR X r)(k:PE X a ta)(hb:PE X b tb)(hs:wZ b):PE X (.Subscript a b pos) (tOp r ta tb):=by
 intro c s l H Q I h;exact Subscript_ (J2 k hb I h λv u C x y B j d z q=>f a b c C l B x y v u Q j d z q (hs _ _))
abbrev O8(K:Vp):R2:=λx y H Q=>∃p c i v,x = .ref p/\y = .int i/\SqL K H p c/\atI c i=aw v/\Q v H
abbrev O9(K:Vp):R2:=λx y H Q=>∃p c i v,x = .ref p/\y = .int i/\SqT K H p c/\atI c i=aw v/\Q v H
abbrev Pa:R2:=λx y H Q=>∃z i c,x = .str z/\y = .int i/\z.length<=sizeLine/\atI z.cps.toList i=aw c/\Q (.str ⟨#[c]⟩) H
def RF:IxR X (O8 X.K):=by
 intro l B c s U H x y v u Q I rx ry h hs;obtain⟨p,xs,i,z,rfl,rfl,Y,he,q⟩:=h;cases rx;obtain⟨t,rfl⟩:=ry;obtain⟨L,r,k,hz⟩:=I.list Y;obtain⟨j,d,h2,h3,h4,h5⟩:=pP he;obtain⟨w,O,J⟩:=r.get h2;have Z:=r.length;have hn:=jk;have f:EP X c U Q w s:=⟨z,H,I,J,q⟩;by_cases T:0<=i
 ·have C:i.toNat=j:=by
   rw[Uq T h5] at d;exact Option.some.inj d
  exact item_listR k.isList T (by lia) (by rw[C];simpa using O) f hs
 ·have C:(i+(L.toArray.size:Int)).toNat=j:=by
   rw[Up (by lia) h4] at d;rw[Zj,<-Z];exact Option.some.inj d
  exact subscriptTail_builtinR (x:=w) k.isList.typeIs slot_list_getitem.lookup
   (wpAny_getItem_list_neg (Q:=λr s'=>r=w/\EP X c U Q r s') k.isList (by lia) (by rw[Zj] <;> lia) (by lia) (by rw[C];simpa using O) ⟨rfl,f⟩) hs
def AJ:IxR X (O9 X.K):=by
 intro d k c s C H x y v u Q I rx U h hs;obtain⟨p,xs,i,z,rfl,rfl,L,he,q⟩:=h;cases rx;obtain⟨t,rfl⟩:=U;obtain⟨its,r,B,hz⟩:=I.tuple L;obtain⟨j,Y,T,h3,h4,h5⟩:=pP he;obtain⟨w,J,l⟩:=r.get T;have O:=r.length;have hn:=jk;have f:EP X c C Q w s:=⟨z,H,I,l,q⟩
 exact subscriptTail_builtinR (x:=w) B.typeIs slot_tuple_getitem.lookup
  (getItem_tuple (j:=j) (Q:=λr Z=>r=w/\EP X c C Q r Z) B (by lia) (by lia) (by rw[Zj,<-O];exact Y) (by simpa using J) ⟨rfl,f⟩) hs
def Kf:IxR X Pa:=by
 intro d f k s σ H x y v u Q I U O h hs;obtain⟨z,i,c,rfl,rfl,hz,Y,q⟩:=h;obtain⟨t,rfl⟩:=U;obtain⟨t',rfl⟩:=O;obtain⟨j,l,C,h3,h4,J⟩:=pP Y;have B:z.cps.toList.length=z.length:=by simp[Str.length]
 rw[B] at l h4 J;have Z:=jk
 exact tail_any (typeIs_str s z t) slot_str_getitem.lookup (getItem_str (c:=c) (by
  have L:decide (i < -(2 ^ 63:Int))=aS:=decide_eq_false (by lia);have T:decide (i ≥ 2 ^ 63)=aS:=decide_eq_false (by lia);rw[L,T,Wy]) (by rw[l];simpa using C) ⟨.str ⟨#[c]⟩,H,I.tok _,⟨_,rfl⟩,q⟩) hs
abbrev rIx(K:Vp):R2:=λx y H Q=>O8 K x y H Q\/O9 K x y H Q\/Pa x y H Q
def AK:IxR X (rIx X.K):=RF.or (AJ.or Kf)
def uL(its:List Value)(n j:Nat)(u:Value):Obj.mapSeq (·.setIfInBounds j u) { cls:=.type "list", data:=.seq its.toArray n }={ cls:=.type "list", data:=.seq (its.set j u).toArray n }:=by
 simp[Obj.mapSeq]
def Inv.lst{c:List (Addr × Obj)}{d:St}{H:Hp}{s:Shared}{p:Addr}{xs:List V}(I:Inv X c d H s)(h:H p=aw (.lst xs)) :
  ∃ (its:List Value) (n:Nat),aP xs its/\s.heap.get? p=aw { cls:=.type "list", data:=.seq its.toArray n }/\xs.length<=sizeLine:=by
 obtain⟨z,its,n,r,e⟩:=I.hok p _ h;exact⟨its,n,r,e,z⟩
def Inv.lstUpd{c:List (Addr × Obj)}{j:St}{H:Hp}{s:Shared}{p:Addr}{xs y:List V}{its its':List Value}{n d:Nat}{f:Obj->Obj}(I:Inv X c j H s)(h:H p=aw (.lst xs))
  (v:s.heap.get? p=aw { cls:=.type "list", data:=.seq its.toArray n }) (k:f { cls:=.type "list", data:=.seq its.toArray n }={ cls:=.type "list", data:=.seq its'.toArray d }) (r:aP y its') (l:y.length<=sizeLine) (t:Nat) :
  Inv X c j (upd H p (.lst y)) { s with heap:=s.heap.update p f,toks:=t }:=by
 have e:(s.heap.update p f).get? p=aw { cls:=.type "list", data:=.seq its'.toArray d }:=by
  rw[YH f v (by rw[k] <;> rfl),k]
 refine I.write (x:=p) (e:=p) (by rw[h];trivial) (.inl rfl) (λb u hb q=>(ZZ _ _ (Ne.symm hb)).trans q) ⟨_,e⟩ ?_;exact⟨l,its',d,r,e⟩
abbrev Pb:V->V->V->Hp->(Hp->Prop)->Prop:=λo i v H Q=>∃p c k j,o = .ref p/\i = .int k/\H p=aw (.lst c)/\ixN c.length k=aw j/\Q (upd H p (.lst (c.set j v)))
def AL:JU X Pb:=by
 intro c s U H o i v ov iv u Q I O ri T h;obtain⟨p,Y,k,j,rfl,rfl,L,Z,q⟩:=h;cases O;obtain⟨t,rfl⟩:=ri;obtain⟨d,n,r,y,hz⟩:=I.lst L;obtain⟨f,h2,J,h4⟩:=pO Z;have l:=r.length;have hn:=jk
 have C:Inv X c U (upd H p (.lst (Y.set j v))) { s with heap:=s.heap.update p (Obj.mapSeq (·.setIfInBounds j u)) }:=
  I.lstUpd L y (uL d n j u) (r.set T j) (by rw[Z7];exact hz) s.toks
 by_cases B:0<=k
 ·have z:k.toNat=j:=by
   rw[Uq B h4] at f;exact Option.some.inj f
  exact PySem.W.ki_setAt y B (by lia) (by rw[Zj,<-l];exact h4) (by rw[z];exact⟨_,C,q⟩)
 ·have z:(k+(d.toArray.size:Int)).toNat=j:=by
   rw[Up (by lia) J] at f;rw[Zj,<-l];exact Option.some.inj f
  exact PySem.W.ki_setBack y (by lia) (by rw[Zj,<-l];exact J) (by lia) (by rw[z];exact⟨_,C,q⟩)
def pQ(lo hi:Option Int)(n:Nat):(Uu lo hi aD n).1=((HT.sIx n 0 lo:Nat):Int)/\(Uu lo hi aD n).2.1=((HT.sIx n n hi:Nat):Int)/\(Uu lo hi aD n).2.2=1:=by
 refine⟨?_,?_,rfl⟩
 ·cases lo with
  |none=>simp[Uu,HT.sIx]
  |some i=>
   simp only[Uu,HT.sIx,Wg,show(1:Int) > 0 by decide,if_true];by_cases h:i < 0
   ·simp only[h,if_true] <;> lia
   ·simp only[h,if_false] <;> lia
 ·cases hi with
  |none=>simp[Uu,HT.sIx]
  |some i=>
   simp only[Uu,HT.sIx,Wg,show(1:Int) > 0 by decide,if_true];by_cases h:i < 0
   ·simp only[h,if_true] <;> lia
   ·simp only[h,if_false] <;> lia
def np(its:List Value)(lo hi:Option Int):slicePick its.toArray lo hi aD=((its.drop (HT.sIx its.length 0 lo)).take (HT.sIx its.length its.length hi - HT.sIx its.length 0 lo)).toArray:=by
 obtain⟨f,c,d⟩:=pQ lo hi its.toArray.size;unfold slicePick;rw[f,c,d];simp only[sliceRange_one,pick_run,Zj] <;> rfl
abbrev RL(K:Vp):V->Option Int->Option Int->Hp->VK->Prop:=λx lo hi H Q=>∃a c,x = .ref a/\SqL K H a c/\∀p,H p=aD->Q (.ref p) (upd H p (.lst (lj c lo hi)))
def ED:SlR X (RL X.K):=by
 intro f s L H x v J C lo hi sl Q I l hs k B h;obtain⟨a,c,rfl,y,q⟩:=h;cases l;obtain⟨z,r,j,u⟩:=I.list y;have d:=r.length;refine⟨"list", _,slot_list_getitem.lookup,j.isList.typeIs,?_⟩;refine UI j.isList hs k B .none (by simp) ?_ (by rw[Zj] <;> lia);rw[np,<-d];refine⟨.ref s.heap.objs.size,_,I.laid (t':=s.toks) (o:=.lst (lj c lo hi)) (λb ob q=>Zc _ q) (Zi _) ?_,rfl,q _ (I.hok.fresh (Zi _))⟩;exact⟨ZW (jS c lo hi) u,_,0,(r.drop (HT.sIx c.length 0 lo)).take (HT.sIx c.length c.length hi - HT.sIx c.length 0 lo),Zs _ rfl⟩
abbrev dD:V->Bool
 |.non=>aN
 |.bl _=>aN
 |.int _=>aN
 |.str _=>aN
 |_=>aS
abbrev eqV:V->V->Bool
 |.non,.non=>aN
 |.bl a,.bl b=>a == b
 |.bl a,.int b=>(if a then 1 else 0) == b
 |.int a,.bl b=>a == (if b then 1 else 0)
 |.int a,.int b=>a == b
 |.str a,.str b=>a == b
 |_,_=>aS
def Kg(d:aB y u)(c:aB x v)(f:dD y=aN)(fx:dD x=aN):Vk A s u v (eqV y x):=by
 cases y with
 |non=>
  cases d;cases x with
  |non=>cases c;exact SeqAt.EqAt.same _
  |bl b=>cases c;exact SeqAt.EqAt.none_bool b
  |int b=>obtain⟨t,rfl⟩:=c;exact SeqAt.EqAt.none_int b t
  |str b=>obtain⟨t,rfl⟩:=c;exact SeqAt.EqAt.none_str b t
  |_=>exact absurd (show aS=aN from fx) Zf
 |bl a=>
  cases d;cases x with
  |non=>cases c;exact SeqAt.EqAt.bool_none a
  |bl b=>cases c;exact SeqAt.EqAt.bool_bool a b
  |int b=>obtain⟨t,rfl⟩:=c;exact SeqAt.EqAt.bool_int a b t
  |str b=>obtain⟨t,rfl⟩:=c;exact SeqAt.EqAt.bool_str a b t
  |_=>exact absurd (show aS=aN from fx) Zf
 |int a=>
  obtain⟨T,rfl⟩:=d;cases x with
  |non=>cases c;exact SeqAt.EqAt.int_none a T
  |bl b=>cases c;exact SeqAt.EqAt.int_bool a T b
  |int b=>obtain⟨t,rfl⟩:=c;exact SeqAt.EqAt.int_int a T b t
  |str b=>obtain⟨t,rfl⟩:=c;exact SeqAt.EqAt.int_str a T b t
  |_=>exact absurd (show aS=aN from fx) Zf
 |str a=>
  obtain⟨T,rfl⟩:=d;cases x with
  |non=>cases c;exact SeqAt.EqAt.str_none a T
  |bl b=>cases c;exact SeqAt.EqAt.str_bool a T b
  |int b=>obtain⟨t,rfl⟩:=c;exact SeqAt.EqAt.str_int a T b t
  |str b=>obtain⟨t,rfl⟩:=c;exact SeqAt.EqAt.str_str a T b t
  |_=>exact absurd (show aS=aN from fx) Zf
 |_=>exact absurd (show aS=aN from f) Zf
abbrev eqU(x:V)(u:Value):Bool:=match u with
 |.none=>eqV .non x
 |.bool b=>eqV (.bl b) x
 |.int i _=>eqV (.int i) x
 |.str z _=>eqV (.str z) x
 |_=>aS
def uM(r:aB y u)(f:dD y=aN):eqU x u=eqV y x:=by
 cases y with
 |non=>cases r;rfl
 |bl b=>cases r;rfl
 |int i=>obtain⟨t,rfl⟩:=r;rfl
 |str z=>obtain⟨t,rfl⟩:=r;rfl
 |_=>exact absurd (show aS=aN from f) Zf
def iJ:∀ {xs:List V} {U:List Value},aP xs U->xs.all dD=aN->U.any (eqU x)=xs.any λy=>eqV y x
 |_,_,.nil,_=>rfl
 |y::xs,u::U,.cons r t,f=>by
  rw[Yn,bAE] at f;rw[YG,YG,uM r f.1,iJ t f.2]
def dg(c:aB x v)(fx:dD x=aN):∀ {xs:List V} {U:List Value},aP xs U->xs.all dD=aN->∀u ∈ U,Vk A s u v (eqU x u)
 |_,_,.nil,_=>λu hu=>by cases hu
 |y::xs,u::U,.cons r t,f=>λd hu=>by
  rw[Yn,bAE] at f;rcases Zn.mp hu with rfl |hu
  ·rw[uM r f.1];exact Kg r c f.1 fx
  ·exact dg c fx t f.2 d hu
abbrev inV(x:V)(xs:List V):Bool:=xs.any λy=>eqV y x
abbrev rIn(K:Vp)(neg:Bool):R2:=λx y H Q=>∃p c,y = .ref p/\(SqL K H p c\/SqT K H p c)/\dD x=aN/\c.all dD=aN/\Q (.bl (if neg then !inV x c else inV x c)) H
def yL:OpR X (V1 .In) (rIn X.K aS):=by
 intro j s C H x y v u Q I k z h;obtain⟨p,B,rfl,hq,fx,fs,q⟩:=h;cases z;rcases hq with hq |hq
 ·obtain⟨c,r,d,l⟩:=I.list hq;refine SeqAt.in_listAt (eqU x) d.isList (λw f=>dg k fx r fs w (by simpa using f)) ⟨.bl _,H,I,rfl,?_⟩;rw[show c.toArray.any (eqU x)=c.any (eqU x) by simp,iJ r fs];exact q
 ·obtain⟨c,r,d,l⟩:=I.tuple hq;refine SeqAt.in_tupleAt (eqU x) d (λw f=>dg k fx r fs w (by simpa using f)) ⟨.bl _,H,I,rfl,?_⟩;rw[show c.toArray.any (eqU x)=c.any (eqU x) by simp,iJ r fs];exact q
def pR:OpR X (V1 .NotIn) (rIn X.K aN):=by
 intro j s C H x y v u Q I k z h;obtain⟨p,B,rfl,hq,fx,fs,q⟩:=h;cases z;rcases hq with hq |hq
 ·obtain⟨c,r,d,l⟩:=I.list hq;refine SeqAt.notIn_listAt (eqU x) d.isList (λw f=>dg k fx r fs w (by simpa using f)) ⟨.bl _,H,I,rfl,?_⟩;rw[show c.toArray.any (eqU x)=c.any (eqU x) by simp,iJ r fs];exact q
 ·obtain⟨c,r,d,l⟩:=I.tuple hq;refine SeqAt.notIn_tupleAt (eqU x) d (λw f=>dg k fx r fs w (by simpa using f)) ⟨.bl _,H,I,rfl,?_⟩;rw[show c.toArray.any (eqU x)=c.any (eqU x) by simp,iJ r fs];exact q
def iK:aR X (.builtin "len") (λxs H Q=>∃p y,xs=[.ref p]/\(SqL X.K H p y\/SqT X.K H p y)/\Q (.int y.length) H):=by
 intro k s B H xs U Q I r h;obtain⟨p,y,rfl,hq,q⟩:=h;obtain⟨u,rfl,l⟩:=bQ r;cases l;have z:=jk;rcases hq with hq |hq
 ·obtain⟨j,d,f,v⟩:=I.list hq;have c:=d.length;exact Calls.call_len_list f.isList (by simp only[Zj] <;> lia) ⟨.int y.length,H,I.tok _,⟨s.toks+1,by rw[Zj,c]⟩,q⟩
 ·obtain⟨j,d,f,v⟩:=I.tuple hq;have c:=d.length;exact len_tuple f (by simp only[Zj] <;> lia) ⟨.int y.length,H,I.tok _,⟨s.toks+1,by rw[Zj,c]⟩,q⟩
def pS:aR X (.type "list") (λxs H Q=>∃p y,xs=[.ref p]/\(SqL X.K H p y\/SqT X.K H p y)/\∀l,H l=aD->Q (.ref l) (upd H l (.lst y))):=by
 intro j s T H xs Y Q I r h;obtain⟨p,y,rfl,hq,q⟩:=h;obtain⟨u,rfl,U⟩:=bQ r;cases U
 have k:∀ (c:List Value),aP y c->y.length<=sizeLine->∀ (d:Heap) (C:Nat),(∀b O,s.heap.get? b=aw O->d.get? b=aw O) ->
   d.get? s.heap.objs.size=aw { cls:=.type "list", dict:=aD,data:=.seq c.toArray C,slots:=#[] }->EP X j T Q (.ref s.heap.objs.size) { s with heap:=d }:=λc f v d C kp e=>
  ⟨.ref s.heap.objs.size,_,I.laid (t':=s.toks) kp (Zi _) (show a9 X.prog X.w _ d _ (.lst y) from ⟨v,c,C,f,e⟩),rfl,q _ (I.hok.fresh (Zi _))⟩
 rcases hq with hq |hq
 ·obtain⟨c,f,B,v⟩:=I.list hq;have z:=f.length;obtain⟨o,L,J,n,hd⟩:=B.isList;exact call_list_seq p (.inl rfl) L J hd (λd C kp e=>k c f v d C kp e) (by simp only[Zj] <;> lia)
 ·obtain⟨c,f,B,v⟩:=I.tuple hq;have z:=f.length;obtain⟨o,L,J,n,hd⟩:=B;exact call_list_seq p (.inr rfl) L J hd (λd C kp e=>k c f v d C kp e) (by simp only[Zj] <;> lia)
def nt:aR X (.type "tuple") (λxs H Q=>∃p y,xs=[.ref p]/\((SqL X.K H p y/\∀l,H l=aD->Q (.ref l) (upd H l (.tup y)))\/(SqT X.K H p y/\Q (.ref p) H))):=by
 intro c s C H xs U Q I r h;obtain⟨p,y,rfl,h⟩:=h;obtain⟨u,rfl,L⟩:=bQ r;cases L;rcases h with ⟨v,q⟩ |⟨v,q⟩
 ·obtain⟨d,j,k,B⟩:=I.list v;have J:=j.length;refine call_tuple_list k.isList (λf kp=>?_) (by simp only[Zj] <;> lia);have z:Inv X c C H { s with heap:=f }:=I.kept (t':=s.toks) kp
  have O:Inv X c C (upd H f.objs.size (.tup y)) { s with heap:=f.push { cls:=.type "tuple", data:=.seq d.toArray } }:=
   z.laid (t':=s.toks) (λb o e=>Zc _ e) (Zi _) (show a9 X.prog X.w _ _ _ (.tup y) from ⟨B,d,j,pK.new _ _⟩)
  exact⟨.ref f.objs.size,_,O,rfl,q _ (z.hok.fresh (Zi _))⟩
 ·obtain⟨d,j,k,B⟩:=I.tuple v;exact call_tuple_same k ⟨.ref p,H,I,rfl,q⟩
abbrev tyV(K:Vp)(T:String)(x:V)(H:Hp):Prop:=match x with
 |.str _=>T = "str"
 |.int _=>T = "int"
 |.ref p=>(T = "list"/\∃c,SqL K H p c)\/(T = "tuple"/\((∃o,K.lookup p=aw o/\o.cls = .type "tuple"/\o.dict=aD)\/∃c,H p=aw (.tup c))) ∨
   (T = "dict"/\((∃k,H p=aw (.dK k))\/∃k,H p=aw (.dT k)))\/(T = "set"/\∃S n,H p=aw (.set S n))
 |_=>False
def Kh(I:Inv X q C H s)(r:aB x v)(ty:tyV X.K T x H) :
  s.TypeIs v T/\∀a,v = .ref a->∃ob,s.heap.get? a=aw ob/\ob.dict=aD:=by
 cases x with
 |str z=>
  obtain⟨t,rfl⟩:=r;cases (show T = "str" from ty);exact⟨typeIs_str s z t,λ_ e=>nomatch e⟩
 |int i=>
  obtain⟨t,rfl⟩:=r;cases (show T = "int" from ty);exact⟨typeIs_int s i t,λ_ e=>nomatch e⟩
 |ref p=>
  cases r;rcases ty with ⟨rfl,y,B⟩ |⟨rfl,⟨o,d,j,hd⟩ |⟨y,d⟩⟩ |⟨rfl,d⟩ |⟨rfl,S,n,d⟩
  ·obtain⟨l,_,u,_⟩:=I.list B;refine⟨u.isList.typeIs,λa e=>?_⟩;cases e;obtain⟨o,n,e,c,hd,_⟩:=u;exact⟨o,e,hd⟩
  ·refine⟨⟨o,I.kIn p o d,j⟩,λa e=>?_⟩;cases e;exact⟨o,I.kIn _ o d,hd⟩
  ·obtain⟨_,l,_,o,e,j,_,_,hd⟩:=I.hok p _ d;refine⟨⟨o,e,j⟩,λa f=>?_⟩;cases f;exact⟨o,e,hd⟩
  ·have z:∃o,s.heap.get? p=aw o/\o.ExactDict:=by
    rcases d with ⟨k,d⟩ |⟨k,d⟩
    ·obtain⟨_,_,_,_,o,_,_,e,ex,_⟩:=I.hok p _ d;exact⟨o,e,ex⟩
    ·obtain⟨_,_,_,_,o,_,_,e,ex,_⟩:=I.hok p _ d;exact⟨o,e,ex⟩
   obtain⟨o,e,ex⟩:=z;refine⟨⟨o,e,ex.1⟩,λa f=>?_⟩;cases f;exact⟨o,e,ex.2.1⟩
  ·obtain⟨o,_,_,_,e,ex,_⟩:=I.hok p _ d;refine⟨⟨o,e,ex.1⟩,λa f=>?_⟩;cases f;exact⟨o,e,ex.2.1⟩
 |_=>exact False.elim ty
abbrev tBM(K:Vp)(T:String)(r:V->List V->Hp->VK->Prop)(k:TE)(t:TA):TE:=λd H Q=>k d H λx c=>tyV K T x c/\t d c λf j=>r x f j Q
variable {o e:Expr} {es:List Expr} {to:TE} {t:TA} {name:Str} {apos cpos:Pos} {T id:String} {r:V->List V->Hp->VK->Prop}
def w4(pa:PlainAttrs T)(slot:Slot T name id)(l:typeOf (.builtin id)=pure (.type "method_descriptor"))(C:MtR X id r)(J:PE X o to)(ha:PA X (e::es) t)
  (f:attributeBase o name X.env (eval o X.env)=eval o X.env:=by rfl)
  (k:((backTo cpos (Uv (e::es) X.env)).all (λx=>!x.1) && (VM cpos (Ub [] X.env)).all (λx=>x.1.isSome)
   && decide ((e::es).length+([]:List Keyword).length+(if ([]:List Keyword).isEmpty then 0 else 1) < 30))=aN:=by rfl)
  (j:(apos.endLine == cpos.line)=aN:=by rfl) (hs:Uv (e::es) X.env=(aS,eval e X.env)::Uv es X.env:=by rfl) (d:(backTo cpos (Uv es X.env)).any (·.1)=aS:=by rfl) :
  PE X (.Call (.Attribute o name apos) (e::es) [] cpos) (tBM X.K T r to t):=by
 intro c s q H Q I h;refine wpAny_Call_method_late f k j rfl (thn (J c s q H _ I h) λv Z ⟨x,z,y,r1,ty,q1⟩=>?_);obtain⟨Y,B⟩:=Kh y r1 ty;refine⟨T,id,pa,slot,l,Y,B,?_⟩;have u:=ha cpos c Z q z _ y q1;rw[hs] at u ⊢;refine Calls.callWith_builtin (by show(aS || (backTo cpos (Uv es X.env)).any (·.1))=aS;rw[d] <;> rfl) (Calls.evalArgs_plain ?_);exact thn u λU O ⟨L,H2,I2,r2,q2⟩=>C c O q H2 x L v U Q I2 r1 r2 q2
end
abbrev MtM(X:Cx)(id:String)(r:V->List V->Hp->VK->Prop):Prop:=
 ∀ (b:List (Addr × Obj)) (s:Shared) (d:St) (H:Hp) (x:V) (c:List V) (v:Value) (u:List Value) (Q:VK),Inv X b d H s->aB x v->aP c u->r x c H Q ->
  wpAny (model X.prog X.w) X.A (call (.builtin id) (v::u)) (EP X b d Q) X.xe s
def aP.one:∀ {x:V} {U:List Value},aP [x] U->∃u,U=[u]/\aB x u
 |_,_,.cons r .nil=>⟨_,rfl,r⟩
def aP.eraseIdx:∀ {xs:List V} {u:List Value} (i:Nat),aP xs u->aP (xs.eraseIdx i) (u.eraseIdx i)
 |_,_,_,.nil=>.nil
 |_,_,0,.cons _ t=>t
 |_,_,i+1,.cons r t=>.cons r (aP.eraseIdx i t)
def n6{b:Type}:∀ (l:List b) (i:Nat),(l.eraseIdx i).length<=l.length
 |[],_=>Zi _
 |_::_,0=>Ys _
 |_::r,i+1=>Wh (n6 r i)
section
variable {X:Cx} {pins:List (Addr × Obj)} {σ:St} {H:Hp} {s:Shared} {l b:Addr} {xs ys zs:List V}
def Inv.lset{its its':List Value}{n:Nat}{f:Array Value->Array Value}{t':Nat}(I:Inv X pins σ H s)(d:H l=aw (.lst xs))
  (e:s.heap.get? l=aw { cls:=.type "list", data:=.seq its.toArray n }) (v:f its.toArray=its'.toArray) (c:aP ys its') (j:ys.length<=sizeLine) :
  Inv X pins σ (upd H l (.lst ys)) { s with heap:=s.heap.update l (Obj.mapSeq f),toks:=t' }:=by
 have q:=PySem.IsL.update e f;rw[v] at q;refine I.write (x:=l) (e:=l) (by rw[d];exact trivial) (.inl rfl) (λB u hb k=>(ZZ s.heap (Obj.mapSeq f) (Ne.symm hb)).trans k) ⟨_,q⟩ ?_;exact⟨j,its',_,c,q⟩
def Inv.lnew{t':Nat}(I:Inv X pins σ H s)(c:aP ys its)(d:ys.length<=sizeLine) :
  Inv X pins σ (upd H s.heap.objs.size (.lst ys)) { s with heap:=s.heap.push { cls:=.type "list", data:=.seq its.toArray },toks:=t' }:=
 I.laid (λ_ _ q=>Zc _ q) (Zi _) ⟨d,its,0,c,Zs _ rfl⟩
def Inv.fresh(I:Inv X pins σ H s):H s.heap.objs.size=aD:=I.hok.fresh (Zi _)
def Inv.lstM(I:Inv X pins σ H s)(c:H l=aw (.lst xs)):xs.length<=sizeLine/\∃ (its:List Value) (n:Nat),aP xs its/\xs.length=its.length/\s.heap.get? l=aw { cls:=.type "list", data:=.seq its.toArray n }:=by
 obtain⟨z,its,n,r,e⟩:=I.hok l _ c;exact⟨z,its,n,r,r.length,e⟩
end
section
variable {X:Cx}
abbrev EF:V->List V->Hp->VK->Prop:=λx v H Q=>∃l b y,x = .ref l/\v=[y]/\H l=aw (.lst b)/\b.length < sizeLine/\Q .non (upd H l (.lst (b++[y])))
def n8:MtM X "list.append" EF:=by
 intro c s C H x J v U Q I k j h;obtain⟨l,L,y,rfl,rfl,d,O,q⟩:=h;cases k;obtain⟨u,rfl,f⟩:=j.one;obtain⟨z,b,n,r,B,e⟩:=I.lstM d;refine VV W8 ⟨_,e,rfl⟩ F.entry_list_append (F.args_list_append_2 _ _) (PySem.list_append l b.toArray n u (by rw[Zj];lia)) ⟨e,?_⟩;refine⟨.non,_,I.lset (its':=b++[u]) d e (by simp) (r.append (.cons f .nil)) ?_,rfl,q⟩;rw[Zg,Zt]
 lia
abbrev Ki:V->List V->Hp->VK->Prop:=λx v H Q=>∃l b i k y,x = .ref l/\v=[.int i]/\H l=aw (.lst b)/\-(2 ^ 63)<=i/\i < 2 ^ 63/\seqIndex? i b.length=aw k/\b[k]?=aw y/\Q y (upd H l (.lst (b.eraseIdx k)))
def AM:MtM X "list.pop" Ki:=by
 intro d s σ H x vs v us Q I Z L h;obtain⟨l,T,i,k,y,rfl,rfl,f,O,J,U,j,q⟩:=h;cases Z;obtain⟨u,rfl,B⟩:=L.one;obtain⟨t,rfl⟩:=B;obtain⟨z,b,n,r,C,e⟩:=I.lstM f;obtain⟨w,Y,c⟩:=r.get j
 refine VV W9 ⟨_,e,rfl⟩ F.entry_list_pop (F.args_list_pop_2 _ _)
  (MeetsSeq.list_pop_at l b.toArray n i t k w (fitsIndex_both O J) (by rw[Zj,<-C];exact U) (by rw[<-Array.getElem?_toList];exact Y) (by rw[Zj];lia)) ⟨e,?_⟩
 refine⟨y,_,I.lset (its':=b.eraseIdx k) f e ?_ (r.eraseIdx k) ?_,c,q⟩
 ·show b.toArray.eraseIdxIfInBounds k=(b.eraseIdx k).toArray;rw[List.eraseIdxIfInBounds_toArray]
 ·have:=n6 T k
  lia
abbrev RM:R2:=λx y H Q=>∃l b c z,x = .ref l/\y = .ref b/\H l=aw (.lst c)/\H b=aw (.lst z)/\c.length+z.length<=sizeLine/\∀p,H p=aD->Q (.ref p) (upd H p (.lst (c++z)))
def Kj:OpR X (VO .Add) RM:=by
 intro f s U H x y v u Q I O k h;obtain⟨l,b,Y,Z,rfl,rfl,j,C,hz,q⟩:=h;cases O;cases k;obtain⟨z,d,n,r,T,e⟩:=I.lstM j;obtain⟨z2,c,n2,r2,J,L⟩:=I.lstM C;refine PySem.P.add_list e L ?_ (by rw[Zj,Zj];lia);have B:d.toArray++c.toArray=(d++c).toArray:=by simp
 rw[B];exact⟨.ref _,_,I.lnew (t':=s.toks) (r.append r2) (by rw[Zg];lia),rfl,q _ I.fresh⟩
end
end L2
namespace Att
open PySem PySem.W PySem.Calls PyProof.Rows
def kr:∀ (ns:List Int) (v:List Value),WellAll P h v (ns.map WData.int)->IntsAre v ns:=by
 intro ns
 induction ns with
 |nil=>
  intro v w;rw[Z4] at w;cases w;exact .nil
 |cons n ns I=>
  intro v w;rw[Zy] at w;cases w with
  |cons a b=>
   cases a;exact .cons _ _ (I _ b)
def yM{l:OpenLaw}{n:Nat}(B:l.most=aw n){P:Params}{h:Heap}{args:List WData}{v:List Value}
  (b:l.row.toRowW.claim.pre args=aN) (k:WellAll P h v args) :
  ∃a z ns,v=[Value.ref a]/\args=[WData.list (ns.map WData.int)]/\h.get? a=aw { cls:=.type "list", data:=.seq z.toArray }/\IntsAre z ns/\ns.length<=n:=by
 have u:WShape.hasAll [] args [.list .int]=aN:=(pre_splitW b).1;have y:l.pre.holds [] { args:=args }=aN:=(pre_splitW b).2;obtain⟨d,r,rfl,L,C⟩:=hasAllW_cons u;obtain rfl:=hasAllW_nil C;obtain⟨X,rfl,J⟩:=hasW_list L;obtain⟨ns,rfl⟩:=items_int J
 have f:ns.length<=n:=by
  unfold OpenLaw.pre at y
  have h4:(WTm.not (.lt (.lit (.int (n:Int))) (.len (.arg 0)))).holds [] { args:=[.list (ns.map .int)] }=aN:=by
   have h4:=(holds_andW y).1;rw[B] at h4;exact h4
  have j:=condW_of h4 (w_not (w_lt w_lit (w_len_list (w_arg rfl))));rw[Za] at j;refine Nat.le_of_not_lt λq=>?_;have Q:(n:Int) < ((ns.length:Nat):Int):=by lia
  first
   |(rw[decide_eq_true Q] at j;exact absurd j (by decide))
   |(simp at j;lia)
 cases k with
 |cons O w2=>
  cases w2;cases O with
  |list I c=>exact⟨_,_,ns,rfl,rfl,I,kr ns _ c,f⟩
def yN(l:OpenLaw)(args:List WData):l.row.toRowW.claim.post args (.bool aN) args=aN:=
 postW_of (r:=l.row.toRowW) (X:=(aN == aN))
  (show WShape.has [] (.bool aN) .bool=aN by first |rfl |decide |simp[WShape.has,WShape.arms,WShape.armsAll])
  (show(WTm.eq .res (.lit (.bool aN))).value [] { args:=args,res:=aw (.bool aN),after:=args }=aw (.bool (aN == aN)) from w_eq_bool (w_res rfl) w_lit) rfl
def attach_call{l:OpenLaw}{n:Nat}{q:Program}{loose:List Str}{Z:(Str->Option Value)->Heap->Prop}{Q:World->Heap->Prop}{d:DefRec}
  (hn:l.most=aw n) (L:d.params.defaults=[])
  (call:∀ (w:World) (s₀ b:Shared) (mg O:Str->Option Value) (u:Addr) (o:Obj) (pm cd c:Value) (a:Addr) (v:List Value) (ns:List Int),
   Ground q loose [] Z w s₀ mg O b.heap->Q w b.heap ->
   b.heap.get? u=aw o->o.data = .func (docDef d.name d.params d.body d.scope pm cd c)->b.heap.CodeRec cd d.name->mg d.name=aw (.ref u) ->
   b.heap.get? a=aw { cls:=.type "list", data:=.seq v.toArray }->IntsAre v ns->ns.length<=n->b.gens=#[] ->
   codeAny (model l.prog w) callerA (.call (.ref u) ⟨[.ref a],[]⟩) (λr B=>r = .ok (.ret (.bool aN))/\OldK b.heap B.heap/\B.os=b.os/\AllBare B.gens) b) :
  WalkO q loose Z Q l.row.toRowW d [] (λf v=>PySem.call f v):=by
 intro w s₀ b mg O G Y u o pm cd c dV kV ho hd I X J hg args T as y U hrd C hlo;obtain rfl:dV = .none:=Dflts.none X L;obtain rfl:kV = .none:=Dflts.noKw X;obtain⟨a,v,ns,rfl,rfl,k,j,z⟩:=yM hn y C;refine enter_call (V0 (call w s₀ b mg O u o pm cd c a v ns G Y ho (fd_plain hd) I J k j z hg) λr B hq=>?_);obtain⟨rfl,h2,h3,h4⟩:=hq;exact⟨.inl ⟨.bool aN,.bool aN,[],rfl,λ_=>rfl,.bool aN,yN l _,λ_=>⟨List.Pairwise.nil,λ_ hm=>(nomatch hm)⟩⟩,h2,h3,h4⟩
end Att
namespace L2
open PySem PySem.Spec PyProof.Rows
def gx:∀ {v:List Value} {ns:List Int},IntsAre v ns->aP (ns.map V.int) v
 |_,_,.nil=>.nil
 |_,_,.cons n t h=>.cons ⟨t,rfl⟩ (gx h)
abbrev eX(s:Stmt):WR:=match s with
 |.FunctionDef _ a _ _ _ _ _ _ _ _=>a
 |_=>{ posonlyargs:=[],args:=[],vararg:=aD,kwonlyargs:=[],kw_defaults:=[],kwarg:=aD,defaults:=[] }
abbrev bX(s:Stmt):List Stmt:=match s with
 |.FunctionDef _ _ b _ _ _ _ _ _ _=>b
 |_=>[]
abbrev aH(s:Stmt):Scope:=match s with
 |.FunctionDef _ _ _ _ _ _ sc _ _ _=>sc
 |_=>{ kind:=.function,names:=[],isGenerator:=false,isCoroutine:=false }
@[inline]abbrev CX0:CXT:=λ_ _ _ _ _ _=>False
@[inline]abbrev E0:XK:=λ_ _ _=>False
def Pc:uH CX0 X E0:=λ_ _ _ _ _ _ _ h=>h.elim
structure Fun(K:Vp)(x qual:Str)(st:Stmt)(f:Addr)(fd:Vg):Prop where
 ex:∃ (oc:Value) (od:Option Addr) (kV doc pm:Value) (an:Option Addr) (cdv ct:Value) (osl:Array (Option Value)),
  fd=Vt x qual (eX st) (bX st) (aH st) .none kV doc pm an cdv ct/\K.lookup f=aw ⟨oc,od,.func fd,osl⟩/\Vr K cdv qual=aN
 kp:Vy K (.ref f)=aN
section
variable {P:Program} {w:World} {K:Vp} {mg:Str->Option Value} {base:Heap}
def Fun.ok{x b:Str}{st:Stmt}{f:Addr}{u:Vg}{N ps:List Str}{k:Nat}{sp:Sp}(F:Fun K x b st f u)(S:FnScope N ps (aH st))(len:∀v H Q E,sp v H Q E->v.length=ps.length)
  (d:∀ (c:Value) (A:Around) (outer:List Env) (s:Shared) (H:Hp) (v:List V) (Q:VK) (E:XK),Room k (A.deeper (envOfC b (aH st) s.heap.objs.size f c))->sp v H Q E ->
   ∃t,PSs (iH CX0 P w K mg base N b (aH st) f c A outer s H E).nox (bX st) t/\t { nx:=λ_ y=>Q .non y,rt:=Q } (eB N v) H):FnOk P w K mg base CX0 (k+1) f u ps sp:=by
 obtain⟨J,C,kV,z,pm,I,c,ct,O,rfl,L,l⟩:=F.ex;refine II L l S len λA outer s H v Q E B j=>?_;obtain⟨t,h,q⟩:=d c A outer s H v Q E B j;exact⟨t,h.nox,q⟩
def Fun.binds{x q:Str}{st:Stmt}{f:Addr}{j:Vg}{ps:List Str}(F:Fun K x q st f j)
  (h:∀ (kV d pm:Value) (b:Option Addr) (c ct:Value) (u:List Value),u.length=ps.length->VP (Vt x q (eX st) (bX st) (aH st) .none kV d pm b c ct) ⟨u,[]⟩=pure (ps.zip u)):nW K j ps []:=by
 obtain⟨y,v,kV,d,pm,b,c,ct,O,rfl,l,k⟩:=F.ex;exact .all (h kV d pm b c ct)
def Kk{x qual:Str}{st:Stmt}{f:Addr}{q:Value}{j b:Option Addr}{O:Array (Option Value)}{kV d pm C ct:Value}(l:K.lookup f=aw ⟨q,j,.func (Vt x qual (eX st) (bX st) (aH st) .none kV d pm b C ct),O⟩)
  (c:Vr K C qual=aN) (k:Vy K (.ref f)=aN):Fun K x qual st f (Vt x qual (eX st) (bX st) (aH st) .none kV d pm b C ct):=⟨⟨q,j,kV,d,pm,b,C,ct,O,rfl,l,c⟩,k⟩
end
def yO{n:Nat}(h:n<=1000):n < sizeLine:=YC h (by decide)
abbrev cdO(c:Addr)(q:Str):HO:=.ext λh=>h.CodeRec (.ref c) q
structure TabOk(T:Addr)(pos:Pos)(qual:Str)(H:Hp)(ps:Array Value):Prop where
 at_:H T=aw (.tbl ps)
 tr:Vn ps.toList
 cd:∀cv,VY pos ps.toList=aw cv->∃c',cv = .ref c'/\H c'=aw (cdO c' qual)
abbrev EG(K:Vp)(x:Str)(a:Addr):Prop:=∀ (f:Addr) (o:Obj) (b:Vg) (c:Addr) (O:Obj) (v:Array Value) (P:Addr),K.lookup f=aw o->o.data = .func b->b.qualname=x->b.code = .ref c->K.lookup c=aw O->O.data = .fields v->v[11]?=aw (.ref P)->P=a
abbrev pT(ifs:List Expr)(env:Env):Sem Bool:=
 forIn ifs aN λc r=>if r=aN then do let ok <-isTrue c env (eval c env);pure (ForInStep.yield ok) else pure (ForInStep.yield r)
def EH{d:Nat}
  (hg:b[d]?=aw ⟨T,X,ifs,0⟩)
  (h:wpAny M A (pyNext it) (λr B=>match r with
   |none=>Q (.done .next) B
   | some v=>wpAny M A (Uc T it v) (λ_ O=>wpAny M A (assign T env v) (λ_ C=>wpAny M A (pT ifs env) (λok u=>if ok=aN then (match b[d+1]? with
     |none=>wpAny M A (eval j env) (λx l=>wpAny M A (call (.builtin "list.append") [f,x]) (λ_ q=>Q (.again (.compLoop (.ListComp j b c k) d it f env)) q) E l) E u
     | some g'=>g'.is_async=0/\wpAny M A (eval g'.iter env) (λx l=>wpAny M A (V7 g'.iter env x) (λZ q=>wpAny M A (pyIter Z) (λI Y=>
       wpAny M A (runOwn (.compStart (.ListComp j b c k) (d+1) I f env) env) (λ_ L=>Q (.again (.compLoop (.ListComp j b c k) d it f env)) L) E Y) E q) E l) E u)
    else Q (.again (.compLoop (.ListComp j b c k) d it f env)) u) E C) E O) E B) E s) :
  wpAny M A (compTurn (.ListComp j b c k) d it f env) Q E s:=by
 unfold compTurn;simp only[hg];refine UC (U1 ?_);show wpAny M A (pyNext it >>= _) Q E s;refine UC (UM h (λr B U=>?_) λ_ _ x=>x);cases r with
 |none=>exact US U
 |some v=>
  refine UC (UM U (λ_ O h2=>?_) λ_ _ x=>x);refine UC (UM h2 (λ_ C h3=>?_) λ_ _ x=>x);refine UC (UM h3 (λok u h4=>?_) λ_ _ x=>x);cases ok with
  |false=>exact US h4
  |true=>
   simp only[if_true] at h4 ⊢;cases J:b[d+1]? with
   |none=>
    rw[J] at h4;refine UC (UC (UM h4 (λx l z=>?_) λ_ _ x=>x));exact UC (UM z (λ_ q y=>US (US y)) λ_ _ x=>x)
   |some g'=>
    rw[J] at h4;obtain⟨ha,h4⟩:=h4;refine UC (UM h4 (λx l z=>UC (U1 ?_)) λ_ _ x=>x);rw[ha];show wpAny M A (V7 g'.iter env x >>= _) Q E l;refine UC (UM z (λZ q y=>?_) λ_ _ x=>x);refine UC (UJ (UM y (λI Y h7=>?_) λ_ _ x=>x));exact UC (UM h7 (λ_ L h8=>US h8) λ_ _ x=>x)
abbrev ci(c:List (Str × Addr)):List (Str × Vi)->List (Str × Addr)->List (Str × Addr)
 |[],acc=>acc
 |(n,k)::r,acc=>if k == .free then ci c r ((n,(c.lookup n).getD 0)::acc) else ci c r acc
def ia:∀ (b:List (Str × Vi)) (d:List (Str × Addr)),(∀y ∈ b,y.2 = .free->∃c,env.cells.lookup y.1=aw c) ->
  (forIn b d λ(x:Str × Vi) (C:List (Str × Addr))=>(match x with |(name,kind)=>if kind == .free then (do let a <-cellOf env name;pure (ForInStep.yield ((name,a)::C))) else pure (ForInStep.yield C):Sem (ForInStep (List (Str × Addr)))))
   = (pure (ci env.cells b d):Sem (List (Str × Addr)))
 |[],d,_=>by rw[Xw];rfl
 |(n,k)::r,d,h=>by
  rw[Wp];have l:∀y ∈ r,y.2 = .free->∃c,env.cells.lookup y.1=aw c:=λy q=>h y (Zh _ q);cases f:(k == NameKind.free) with
  |true=>
   obtain⟨c,j⟩:=h (n,k) Zk (by simpa using f);have e:cellOf env n=pure c:=by unfold cellOf;rw[show env.cells.lookup n=aw c from j]
   simp only[f,if_true,e,pure_bind];rw[ia r _ l]
   conv=>rhs;rw[ci]
   simp only[f,if_true];rw[show env.cells.lookup n=aw c from j];rfl
  |false=>
   simp only[f,ZS,if_false,pure_bind];rw[ia r _ l]
   conv=>rhs;rw[ci]
   simp only[f,ZS,if_false]
def w5(h:∀y ∈ b.names,y.2 = .free->∃c,env.cells.lookup y.1=aw c):VX b env=pure (ci env.cells b.names []):=by
 have e:=ia (env:=env) b.names [] h;unfold VX;refine Eq.trans ?_ e
 first
  |rfl
  |(rw[bind_pure])
  |(simp only[bind_pure])
def jm:∀ {b:List (Str × Vi)} {d:List (Str × Addr)} {x:Str} {c:Addr},(x,c) ∈ ci C b d->(x,c) ∈ d\/((x,NameKind.free) ∈ b/\c=(C.lookup x).getD 0)
 |[],_,_,_,h=>.inl h
 |(n,k)::r,d,x,c,h=>by
  unfold ci at h;split at h
  ·rename_i j;have f:k = .free:=by simpa using j
   rcases jm h with e |⟨e,q⟩
   ·rcases Zn.mp e with e |e
    ·cases e;exact .inr ⟨by rw[f];exact Zk,rfl⟩
    ·exact .inl e
   ·exact .inr ⟨Zh _ e,q⟩
  ·rcases jm h with e |⟨e,q⟩
   ·exact .inl e
   ·exact .inr ⟨Zh _ e,q⟩
def fJ:∀ {l:List (Str × Addr)},(∃c,(x,c) ∈ l)->∃c,l.lookup x=aw c
 |[],⟨_,h⟩=>nomatch h
 |(n,c)::r,⟨c',h⟩=>by
  rw[Yo];cases hb:x == n with
  |true=>exact⟨c,rfl⟩
  |false=>
   rcases Zn.mp h with e |e
   ·cases e;simp at hb
   ·exact fJ ⟨c',e⟩
def gy:∀ {b:List (Str × Vi)} {acc:List (Str × Addr)},(x,NameKind.free) ∈ b\/(∃c,(x,c) ∈ acc)->∃c,(x,c) ∈ ci cells b acc
 |[],_,h=>h.elim (λe=>nomatch e) id
 |(n,k)::r,acc,h=>by
  unfold ci;split
  ·rename_i d;refine gy ?_;rcases h with h |⟨c,h⟩
   ·rcases Zn.mp h with e |e
    ·cases e;exact .inr ⟨_,Zk⟩
    ·exact .inl e
   ·exact .inr ⟨c,Zh _ h⟩
  ·rename_i d;refine gy ?_;rcases h with h |⟨c,h⟩
   ·rcases Zn.mp h with e |e
    ·cases e;exact absurd rfl d
    ·exact .inl e
   ·exact .inr ⟨c,h⟩
def cG:∀ (b:List (Str × Vi)) (n:Nat) (c:List (Str × Addr)),VW n b c=VW n b []++c
 |[],_,_=>rfl
 |(y,k)::r,n,c=>by
  unfold VW;split
  ·rw[cG r (n+1) ((y,n)::c),cG r (n+1) [(y,n)],YK];rfl
  ·exact cG r n c
def dN:∀ (b:List (Str × Vi)) (n:Nat) (d:List (Str × Addr)) (x:Str) (c:Addr),(x,c) ∈ VW n b d->(x,c) ∈ d\/(x,NameKind.cell) ∈ b
 |[],_,_,_,_,h=>.inl h
 |(y,k)::r,n,d,x,c,h=>by
  unfold VW at h;split at h
  ·rename_i j;have f:k = .cell:=by simpa using j
   rcases dN r _ _ x c h with e |e
   ·rcases Zn.mp e with e |e
    ·cases e;exact .inr (by rw[f];exact Zk)
    ·exact .inl e
   ·exact .inr (Zh _ e)
  ·rcases dN r _ _ x c h with e |e
   ·exact .inl e
   ·exact .inr (Zh _ e)
abbrev nu(sc:Scope)(n:Str)(k:Vi):Vi:=if (k == .free && sc.kind == .function && sc.names.lookup n == aw .cell) then .cell else k
abbrev fK(b sc:Scope):Scope:={ b with names:=b.names.map λy=>(y.1,nu sc y.1 y.2) }
def EI(b:Scope)(env:Env):relabel b env=fK b env.scope:=by
 unfold relabel fK
 congr 1
 refine Yd λy _=>?_;obtain⟨n,k⟩:=y;unfold nu;dsimp only;show(if (k == NameKind.free && env.scope.kind == ScopeKind.function && List.lookup n env.scope.names == aw NameKind.cell)=aN then (n,NameKind.cell) else (n,k))=_;split <;> rfl
def fL(sc:Scope)(x:Str):∀b:List (Str × Vi),(b.map λy=>(y.1,nu sc y.1 y.2)).lookup x=(b.lookup x).map (nu sc x)
 |[]=>rfl
 |(n,k)::r=>by
  rw[Zy,Yo,Yo];dsimp only;cases hb:x == n with
  |true=>
   have q:x=n:=by simpa using hb
   subst q;rfl
  |false=>exact fL sc x r
abbrev uN(scope:Scope)(C:Addr)(env:Env):Env:=
 { scope:=fK scope env.scope,locals:=C,globals:=env.globals,cells:=VW (C+1) scope.names (ci env.cells scope.names []),qual:=env.qual,func:=aD,code:=env.code,frame:=env.frame,builtins:=env.builtins }
def yP
  (h:Q { scope:=scope,locals:=s.heap.objs.size,globals:=env.globals,cells:=VW (s.heap.objs.size+1) scope.names cl,qual:=env.qual,func:=aD,code:=env.code,frame:=env.frame,builtins:=env.builtins }
   { s with heap:=Uj (s.heap.push { cls:=.type "dict", data:=.dict #[] }) scope.names }) :
  wpAny M A (Uf scope env.globals cl [] env.qual aD .none (aw env)) Q E s:=by
 simp only[Uf,X3,if_true];refine UC (wpAny_alloc ?_);refine UC (wpAny_layCells _ (λname kind cells=>by cases b:kind == NameKind.cell <;> simp[b]) _ _ _ _ ?_);rw[show({ s with heap:=s.heap.push { cls:=.type "dict", data:=.dict #[] } }:Shared).heap.objs.size=s.heap.objs.size+1 from Yq ..];simp only[Xw]
 first
  |exact UC (US (US h))
  |exact US h
abbrev AN(i:Nat):Str:=⟨#[i]⟩
abbrev dh:List Nat->List Str->List Str
 |[],N=>N
 |i::hs,N=>dh hs (N.set i (AN i))
def jp:∀ (hs:List Nat) (N:List Str),(dh hs N).length=N.length
 |[],_=>rfl
 |i::hs,N=>by rw[dh,jp hs,Z7]
def n9:∀ (hs:List Nat) (N:List Str) {i:Nat} {x:Str},(dh hs N)[i]?=aw x->N[i]?=aw x\/∃j ∈ hs,x=AN j
 |[],_,_,_,h=>.inl h
 |k::hs,N,i,x,h=>by
  rw[dh] at h;rcases n9 hs (N.set k (AN k)) h with e |⟨j,hj,e⟩
  ·rw[Yt] at e;split at e
   ·split at e
    ·exact .inr ⟨k,Zk,(Option.some.inj e).symm⟩
    ·cases e
   ·exact .inl e
  ·exact .inr ⟨j,Zh _ hj,e⟩
structure CmScope(own:List Str)(hs:List Nat)(N:List Str)(scope sc:Scope):Prop where
 kind:scope.kind = .function
 nd:(dh hs N++own).Nodup
 uniq:(scope.names.map (·.1)).Nodup
 dis:∀x ∈ dh hs N,scope.names.lookup x ≠ aw .local/\scope.names.lookup x ≠ aw .cell
 fr:∀y ∈ scope.names,y.2 = .free->sc.names.lookup y.1=aw .cell\/sc.names.lookup y.1=aw .free
 hd:∀i ∈ hs,scope.names.lookup (AN i)=aD
def c8:∀ {l:List (Str × Vi)} {x:Str} {k:Vi},(l.map (·.1)).Nodup->(x,k) ∈ l->l.lookup x=aw k
 |(n,k')::r,x,k,nd,h=>by
  rw[Zy,ZX] at nd;rw[Yo];rcases Zn.mp h with e |e
  ·cases e;simp
  ·have ne:(x == n)=aS:=by
    cases hb:x == n with
    |false=>rfl
    |true=>
     have q:x=n:=by simpa using hb
     subst q;exact absurd (ZA.mpr ⟨(x,k),e,rfl⟩) nd.1
   rw[ne];exact c8 nd.2 e
abbrev cxC(X:Cx)(own:List Str)(hs:List Nat)(b:Scope)(C:Addr)(ex:List Addr)(s:Shared)(H:Hp):Cx where
 prog:=X.prog
 w:=X.w
 K:=X.K
 mg:=X.mg
 base:=X.base
 A:=X.A
 N:=dh hs X.N++own
 s₀:=s
 H₀:=H
 env:=uN b C X.env
 outer:=X.stack
 stack:=X.stack
 ex:=ex
 fn:=λx=>b.names.lookup x == aw .cell
 calm:=X.calm
 pn:=[]
 xe:=λ_ _=>False
section
variable {X:Cx} {pins:List (Addr × Obj)} {σ:St} {H:Hp} {s:Shared} {own:List Str} {hs:List Nat} {scope:Scope} {fp:List Addr}
def Inv.compStart(I:Inv X pins σ H s)(S:CmScope own hs X.N scope X.env.scope)(hf:∀b ∈ fp,hZ X pins H b)(Z:∀b ∈ fp,b < s.heap.objs.size) :
  Inv (cxC X own hs scope s.heap.objs.size fp s H) [] (σ++ZL own.length aD) H { s with heap:=Uj (s.heap.push { cls:=.type "dict", data:=.dict #[] }) scope.names }:=by
 have keep:∀b o,s.heap.get? b=aw o->(Uj (s.heap.push { cls:=.type "dict", data:=.dict #[] }) scope.names).get? b=aw o:=λb o e=>Uk _ _ b o (Zc _ e);have ok:=cellsFrom_ok scope.names (s.heap.push { cls:=.type "dict", data:=.dict #[] }) (s.heap.objs.size+1) [] ⟨λ_ _ hm=>(nomatch hm),List.Pairwise.nil⟩ (by rw[Yq];exact Zi _);rw[Yq] at ok;have C:(uN scope s.heap.objs.size X.env).cells=VW (s.heap.objs.size+1) scope.names []++ci X.env.cells scope.names []:=cG _ _ _;have hasX:∀x,(x,NameKind.free) ∈ scope.names->∃c,X.env.cells.lookup x=aw c:=λx h=>I.ok.has x (S.fr (x,.free) h rfl)
 have old:∀x c,(x,c) ∈ ci X.env.cells scope.names []->X.env.cells.lookup x=aw c/\(x,NameKind.free) ∈ scope.names:=λx c h=>by
  rcases jm h with e |⟨e,q⟩
  ·exact nomatch e
  ·obtain⟨c',Y⟩:=hasX x e;rw[Y] at q;exact⟨by rw[Y,q];rfl,e⟩
 have O:∀x c,X.env.cells.lookup x=aw c->c < s.heap.objs.size:=λx c h=>let ⟨_,z⟩:=I.cell x c h;z.lt
 have d:∀x c,(uN scope s.heap.objs.size X.env).cells.lookup x=aw c->((x,c) ∈ VW (s.heap.objs.size+1) scope.names [])\/(X.env.cells.lookup x=aw c/\(x,NameKind.free) ∈ scope.names):=λx c h=>by
  have m:=Ue h;rw[C] at m;rcases ZM.mp m with e |e
  ·exact .inl e
  ·exact .inr (old x c e)
 have B:∀x c,(x,c) ∈ VW (s.heap.objs.size+1) scope.names []->s.heap.objs.size+1<=c:=λx c h=>(ok.empty x c h).2
 have noFs:∀b ∈ fp,b ∉ frs X.stack:=λb hb z=>by
  rcases Zn.mp (I.stkSub b z) with e |e
  ·exact(hf b hb).2.1 e
  ·exact(hf b hb).2.2.1 e
 have xok:(cxC X own hs scope s.heap.objs.size fp s H).Ok:=by
  refine⟨I.ok.mod,S.kind,I.ok.glob,I.ok.blt,Zi _,?_,?_,?_,I.ok.hd,I.ok.frames,.inl rfl,?_,I.bs,ZW I.ok.bsz I.sz,?_,noFs,I.stack,I.stkFree⟩
  ·intro x y c U T;rcases d x c U with a |⟨a,_⟩ <;> rcases d y c T with b |⟨b,_⟩
   ·exact name_of_addr ok.apart a b
   ·exact absurd (ZD (O y c b) (Xy (B x c a))) (ZK _)
   ·exact absurd (ZD (O x c a) (Xy (B y c b))) (ZK _)
   ·exact I.ok.inj x y c a b
  ·intro x hx;have hx':(fK scope X.env.scope).names.lookup x=aw .cell\/(fK scope X.env.scope).names.lookup x=aw .free:=hx;have e:=fL X.env.scope x scope.names
   have key:(x,NameKind.cell) ∈ scope.names\/(x,NameKind.free) ∈ scope.names:=by
    cases L:scope.names.lookup x with
    |none=>rw[L] at e;rcases hx' with z |z <;> (rw[show(fK scope X.env.scope).names.lookup x=aD from e] at z;cases z)
    |some k=>
     have m:=Ue L;rw[L] at e;cases k with
     |cell=>exact .inl m
     |free=>exact .inr m
     |_=>rcases hx' with z |z <;> (rw[show(fK scope X.env.scope).names.lookup x=_ from e] at z;simp[nu] at z)
   rcases key with h |h
   ·have q:=Vq scope.names (s.heap.objs.size+1) (ci X.env.cells scope.names []) (x:=x) (.inl (c8 S.uniq h));exact Yl.mp q
   ·obtain⟨c,Y⟩:=gy (cells:=X.env.cells) (acc:=[]) (.inl h);have q:∃c,(x,c) ∈ (uN scope s.heap.objs.size X.env).cells:=⟨c,by rw[C];exact ZE _ Y⟩;exact fJ q
  ·intro x c hfn L
   have Q:scope.names.lookup x=aw .cell:=by
    have z:(scope.names.lookup x == aw NameKind.cell)=aN:=hfn
    simpa using z
   rcases d x c L with a |⟨_,b⟩
   ·exact ZW (Ys _) (B x c a)
   ·rw[c8 S.uniq b] at Q;cases Q
  ·intro b hb;refine⟨ZG (Z b hb),λx c h z=>?_⟩;rcases d x c h with a |⟨a,_⟩
   ·exact absurd (ZD (z ▸ Z b hb) (Xy (B x c a))) (ZK _)
   ·exact(hf b hb).2.2.2.2.1 x c a z
  ·intro b o e hb;rcases (hf b hb).2.2.2.1 with z |z
   ·exact I.ok.noex b o e z
   ·have U:=Zq e;exact absurd (ZD U (ZW I.ok.bsz z)) (ZK _)
 have m0:(Uj (s.heap.push { cls:=.type "dict", data:=.dict #[] }) scope.names).Ns s.heap.objs.size (λ_=>aD):=(Heap.Ns.new s.heap (.type "dict")).keeps (Uk _ _);refine⟨xok,rfl,I.bare,Un.kept keep,⟨_,m0,?_⟩,?_,I.hok.fresh (Zi _),?_,λp hp=>absurd (show p ∈ ([]:List (Addr × Obj)) from hp) (by simp),I.hok.kept keep,?_⟩
 ·intro i x v U T h3
  have hi:i < σ.length:=by
   by_cases hi:i < σ.length
   ·exact hi
   ·rw[Zp (by lia),Yx] at T;split at T <;> cases T
  rw[Zw hi] at T;have hN:i < X.N.length:=by rw[<-I.len];exact hi
  have h1h:(dh hs X.N)[i]?=aw x:=by
   have U:(dh hs X.N++own)[i]?=aw x:=U
   rwa [Zw (by rw[jp];exact hN)] at U
  have dx:=S.dis x (Zd h1h);have e:=fL X.env.scope x scope.names;have h3':(fK scope X.env.scope).names.lookup x=aw .local\/(fK scope X.env.scope).names.lookup x=aw .cell\/(fK scope X.env.scope).names.lookup x=aw .free:=h3
  have f:scope.names.lookup x=aw .free:=by
   cases L:scope.names.lookup x with
   |none=>rw[L] at e;rcases h3' with z |z |z <;> (rw[show(fK scope X.env.scope).names.lookup x=aD from e] at z;cases z)
   |some k=>
    rw[L] at e dx;cases k with
    |free=>rfl
    |«local»=>exact absurd rfl dx.1
    |cell=>exact absurd rfl dx.2
    |_=>rcases h3' with z |z |z <;> (rw[show(fK scope X.env.scope).names.lookup x=_ from e] at z;simp[nu] at z)
  have h1':X.N[i]?=aw x:=by
   rcases n9 hs X.N h1h with z |⟨j,hj,z⟩
   ·exact z
   ·rw[z,S.hd j hj] at f;cases f
  have J:=Ue f;have kX:=S.fr (x,.free) J rfl;obtain⟨m,hn,L⟩:=I.loc;obtain⟨u,r,l⟩:=L i x v h1' T (kX.elim (λz=>.inr (.inl z)) λz=>.inr (.inr z));refine⟨u,r,.inr ⟨?_,?_⟩⟩
  ·have k3:(fK scope X.env.scope).names.lookup x=aw (nu X.env.scope x .free):=by rw[f] at e;exact e
   have k4:nu X.env.scope x .free = .cell\/nu X.env.scope x .free = .free:=by unfold nu;split <;> simp
   rcases k4 with z |z
   ·exact .inl (by show(fK scope X.env.scope).names.lookup x=_;rw[k3,z])
   ·exact .inr (by show(fK scope X.env.scope).names.lookup x=_;rw[k3,z])
  ·rcases l with ⟨lk,_⟩ |⟨_,c,Y,z⟩
   ·have lk':X.env.scope.names.lookup x=aw .local:=lk;rcases kX with q |q <;> (rw[q] at lk';cases lk')
   ·refine⟨c,?_,z.keeps keep⟩;obtain⟨c',hc'⟩:=gy (cells:=X.env.cells) (acc:=[]) (.inl J);obtain⟨c2,hl2⟩:=fJ (l:=(uN scope s.heap.objs.size X.env).cells) ⟨c',by rw[C];exact ZE _ hc'⟩;rcases d x c2 hl2 with a |⟨a,_⟩
    ·rcases dN _ _ _ _ _ a with q |q
     ·exact nomatch q
     ·rw[c8 S.uniq q] at f;cases f
    ·rw[Y] at a;cases a;exact hl2
 ·intro x c h;rcases d x c h with a |⟨a,_⟩
  ·exact⟨_,(ok.empty x c a).1⟩
  ·obtain⟨v,z⟩:=I.cell x c a;exact⟨v,z.keeps keep⟩
 ·intro x c h;rcases d x c h with a |⟨a,_⟩
  ·exact I.hok.fresh (ZW (Ys _) (B x c a))
  ·exact I.freeC x c a
 ·show(σ++ZL own.length aD).length=(dh hs X.N++own).length;rw[Zg,Zg,XN,jp,I.len]
end
abbrev rO(J:It)(g:TG)(T:TS)(D:Ends)(c:St)(H:Hp):Prop:=∃W:Nat->Nat->St->Hp->Prop,(∃m,W 0 m c H)/\∀i m c H,W i m c H ->
 (J.stop i H/\D.nx c H)\/(J.go i H/\∃N:St->Hp->Prop,(∀d b,N d b->∃j,j < m/\W (i+1) j d b)/\∀x b,J.yld i H x b->g x c b λf k=>T { D with nx:=N,ct:=N,bk:=D.nx } f k)
abbrev PTs(Y:Cx)(ifs:List Expr)(t:TT):Prop:=
 ∀ (b:List (Addr × Obj)) (s:Shared) (c:St) (H:Hp) (Q:Bool->Hp->Prop),Inv Y b c H s->t c H Q->wpAny (model Y.prog Y.w) Y.A (pT ifs Y.env) (TP Y b c Q) Y.xe s
abbrev EJ:TT:=λ_ H Q=>Q aN H
def EK:PTs Y [] EJ:=λ_ _ _ H _ I h=>by
 unfold pT;rw[Xw];exact US ⟨H,I,h⟩
def EL(hc:PT Y c t):PTs Y [c] t:=λd s f H Q I h=>by
 unfold pT;rw[Wp];simp only[if_true,Xw];refine UC (UC (thn (hc d s f H Q I h) λb j q=>US ?_));exact US q
abbrev PTl(Y:Cx)(q:Expr)(f:List WV)(j:Scope)(u:Pos)(l:Addr)(d:Nat)(t:TS):Prop:=
 ∀ (b:List (Addr × Obj)) (s:Shared) (B:St) (H:Hp) (D:Ends),Inv Y b B H s->t D B H ->
  match f[d+1]? with
  |none=>wpAny (model Y.prog Y.w) Y.A (eval q Y.env) (λx z=>wpAny (model Y.prog Y.w) Y.A (call (.builtin "list.append") [.ref l,x]) (λ_ y=>∃c k,Inv Y b c k y/\D.nx c k) (λ_ _=>False) z) (λ_ _=>False) s
  | some v=>v.is_async=0/\wpAny (model Y.prog Y.w) Y.A (eval v.iter Y.env) (λx z=>wpAny (model Y.prog Y.w) Y.A (V7 v.iter Y.env x) (λX y=>wpAny (model Y.prog Y.w) Y.A (pyIter X) (λI J=>
    wpAny (model Y.prog Y.w) Y.A (runOwn (.compStart (.ListComp q f j u) (d+1) I (.ref l) Y.env) Y.env) (λ_ C=>∃c k,Inv Y b c k C/\D.nx c k) (λ_ _=>False) J) (λ_ _=>False) y) (λ_ _=>False) z) (λ_ _=>False) s
abbrev fu(T:TT)(t:TS):TS:=λD b H=>T b H λc d=>if c=aN then t D b d else D.nx b d
abbrev IL(b:Addr)(T:TE):TS:=λD d H=>T d H λx c=>∃X,c b=aw (.lst X)/\X.length < sizeLine/\D.nx d (upd c b (.lst (X++[x])))
section
variable {Y:Cx} {elt:Expr} {gens:List WV} {scope:Scope} {pos:Pos} {acc:Addr} {d:Nat}
def AO(f:Y.xe=λ_ _=>False)(u:gens[d+1]?=aD)(Z:PE Y elt T):PTl Y elt gens scope pos acc d (IL acc T):=by
 intro b s c H D I h;rw[u];have j:=Z b s c H _ I h;rw[f] at j;refine thn j λx O ⟨v,l,I5,J,X,L,B,q⟩=>?_;have z:=n8 b O c l (.ref acc) [v] (.ref acc) [x] (λy k=>y = .non/\D.nx c k) I5 rfl (.cons J .nil) ⟨acc,X,v,rfl,rfl,L,B,rfl,q⟩;rw[f] at z;exact thn z λy s6 ⟨v6,C,Q,r6,e6,U⟩=>⟨c,C,Q,U⟩
def ll{A:Around}{R:Result->Shared->Prop}{prog:Program}{w:World}{s:Shared}{T I:Expr}{ifs:List Expr}{it acc:Value}{env:Env}(l:gens[d]?=aw ⟨T,I,ifs,0⟩)
  (k:codeAny (model prog w) A (.compLoop (.ListComp elt gens scope pos) d it acc env) R s)
  (h:wpAny (model prog w) A (pyIter it) (λb c=>codeAny (model prog w) A (.compLoop (.ListComp elt gens scope pos) d b acc env) R c) (notedBy (model prog w) A env λx c=>R (.error x) c) s) :
  codeAny (model prog w) A (.compStart (.ListComp elt gens scope pos) d it acc env) R s:=by
 refine codeAny_of_tree ?_;show wpAny _ _ ((compStart (.ListComp elt gens scope pos) d it acc env).onRaise (λx=>do noteFrame x env;standAt theWindowsPlace)) _ _ s;refine wpAny_notedAt ?_;unfold compStart;have j:(clausesOf (.ListComp elt gens scope pos))[d]?=aw ⟨T,I,ifs,0⟩:=l;simp only[j,Option.elim];show wpAny _ _ (ask >>= _) _ _ s;refine UC (wpAny_askSetting (wpAny_ite ?_));split
 ·first
   |exact UC (US (US (And.intro rfl k)))
   |exact US (And.intro rfl k)
 ·first
   |exact UC (UX (UC (U1 (UC (UM h (λb c f=>US (And.intro rfl f)) λ_ _ x=>x)))))
   |(refine UC (UX ?_);show wpAny _ _ (standAt I.pos >>= _) _ _ s;exact UC (U1 (UC (UM h (λb c f=>US (And.intro rfl f)) λ_ _ x=>x))))
def oe
  (hx:Y.xe=λ_ _=>False) (hc:Y.calm=aN) (hg:gens[d]?=aw ⟨tg,iter,ifs,0⟩) (T:Turn Y.prog Y.w Y.K tg J B it tn) (I2:Inv Y c σ H s) (st2:tn 0 s.heap) (f2:∀b ∈ B,hZ Y c H b)
  (hgt:PG Y tg g) (hts:PTs Y ifs ti) (htl:PTl Y elt gens scope pos acc d t) (hW:rO J g (fu ti t) D σ H) :
  codeAny (model Y.prog Y.w) Y.A (.compLoop (.ListComp elt gens scope pos) d (.ref it) (.ref acc) Y.env) (λr s'=>r = .ok .next/\∃f H',Inv Y c f H' s'/\D.nx f H') s:=by
 obtain⟨W,⟨m0,w0⟩,U⟩:=hW;have k:∀ {H':Hp},(∀b ∈ B,H' b=aD)->∀b ∈ B,hZ Y c H' b:=λZ b hb=>⟨Z b hb,(f2 b hb).2⟩;refine codeAny_loop rfl (λn s'=>∃i f H',Inv Y c f H' s'/\tn i s'.heap/\(∀b ∈ B,H' b=aD)/\W i n f H') (λn s3 hI=>?_) m0 ⟨0,σ,H,I2,st2,λb hb=>(f2 b hb).1,w0⟩;obtain⟨i,j,H3,I3,O,X,w3⟩:=hI;show wpAny _ _ ((compTurn (.ListComp elt gens scope pos) d (.ref it) (.ref acc) Y.env).onRaise (λx=>do noteFrame x Y.env;theTreesLotGoes x)) _ _ s3;refine wpAny_noted (UM (E:=λ_ _=>False) ?_ (λ_ _ q=>q) λ_ _ z=>z.elim);refine EH hg ?_;rcases U i n j H3 w3 with ⟨stop,qn⟩ |⟨go,N,hN,step⟩
 ·refine thn (T.done Y rfl rfl rfl hc i c s3 j H3 _ I3 (k X) O stop) λr s4 ⟨hr,I4⟩=>?_;subst hr;exact⟨rfl,j,H3,I4,qn⟩
 ·refine thn (T.item Y rfl rfl rfl hc i c s3 j H3 _ I3 (k X) O go) λr s4 ⟨u,hr,h4⟩=>?_;subst hr;refine thn h4 λ_ s5 ⟨x,H5,I5,r5,y5,y,fr5⟩=>?_;have I5':=I5.pinned (k fr5) (T.obj _ _ y)
  have again:∀ {l:St} {v:Hp} {L:Shared},Inv Y (c++kW B s5.heap) l v L->N l v->∃m,m < n/\∃i f H',Inv Y c f H' L/\tn i L.heap/\(∀b ∈ B,H' b=aD)/\W i m f H':=λ{l v L} I n7=>by
   obtain⟨m',hm,w7⟩:=hN l v n7;refine⟨m',hm,i+1,l,v,I.unpinned,T.keep _ _ _ y λb hb o e=>(I.pin (b,o) (ZE _ (ZE _ (eV hb e)))).1,λb hb=>?_,w7⟩;obtain⟨o,e,dd⟩:=T.obj _ _ y b hb;exact(I.pin (b,o) (ZE _ (ZE _ (eV hb e)))).2.1
  have hG:=hgt _ s5 j H5 x u _ I5' r5 (step x H5 y5);rw[hx] at hG;refine thn hG λ_ s6 ⟨Q,H6,I6,q6⟩=>?_;have hT:=hts _ s6 Q H6 _ I6 q6;rw[hx] at hT;refine thn hT λok L ⟨v,I,q7⟩=>?_;cases ok with
  |false=>
   simp only[ZS,if_false] at q7 ⊢;exact⟨by trivial,again I q7⟩
  |true=>
   simp only[if_true] at q7 ⊢;have C:=htl _ L Q v _ I q7;cases Z:gens[d+1]? with
   |none=>
    rw[Z] at C;exact thn C λx s8 h8=>thn h8 λ_ s9 ⟨σ9,H9,I9,q9⟩=>⟨by trivial,again I9 q9⟩
   |some g'=>
    rw[Z] at C;obtain⟨ha,C⟩:=C;exact⟨ha,thn C λx s8 h8=>thn h8 λx' s9 h9=>thn h9 λit' s10 h10=>thn h10 λ_ s11 ⟨σ9,H9,I9,q9⟩=>⟨by trivial,again I9 q9⟩⟩
abbrev AQ(c:TI)(g:TG)(T:TT)(t:TS):TS:=λD b H=>c b H λJ f=>rO J g (fu T t) D b f
def EM(k:gens[d+1]?=aw ⟨y,b,ifs,0⟩)
  (hi:PI Y y b wi) (j:PG Y y g) (l:PTs Y ifs Q) (u:PTl Y elt gens scope pos acc (d+1) t) (z:Y.xe=λ_ _=>False:=by rfl) (hc:Y.calm=aN:=by rfl) (hs:∀x,V7 b Y.env x=pure x:=by intro _;rfl) :
  PTl Y elt gens scope pos acc d (AQ wi g Q t):=by
 intro c s Z H D I h;rw[k];refine⟨rfl,?_⟩;have B:=hi c s Z H _ I h;rw[z] at B;refine thn B λv s5 U=>UQ (hs v) (thn U λitv X C=>?_);obtain⟨it,fp,tn,J,H6,e,I6,T,f,f6,W⟩:=C;subst e;have L:=oe (elt:=elt) (gens:=gens) (scope:=scope) (pos:=pos) (acc:=acc) z hc k T I6 f f6 j l u W;refine wpAny_runOwn (V0 (ll k L (T.self _ 0 X _ _ f L)) λr s8 O=>?_);obtain⟨rfl,q⟩:=O;exact q
end
abbrev AR(own:Nat)(j:TI)(g:TG)(T:Addr->TS):TE:=λd H Q=>j d H λJ c=>∀b,c b=aD ->
 rO J g (T b) { nx:=λ_ f=>Q (.ref b) f,rt:=λ_ _=>False } (d++ZL own aD) (upd c b (.lst []))
section
variable {X:Cx} {elt tg iter:Expr} {ifs:List Expr} {rest:List WV} {scope:Scope} {pos:Pos} {own:List Str} {hs:List Nat} {wi:TI} {g:TG} {ti:TT} {t:Addr->TS}
def lq{k:List (Addr × Obj)}{σ:St}{Q:VK}{itv:Value}{s2:Shared}{E:Value->Shared->Prop}(hc:X.calm=aN)(S:CmScope own hs X.N scope X.env.scope)
  (hgt:∀C ex s H,PG (cxC X own hs scope C ex s H) tg g) (hts:∀C ex s H,PTs (cxC X own hs scope C ex s H) ifs ti)
  (htl:∀C ex s H f,PTl (cxC X own hs scope C ex s H) elt (⟨tg,iter,ifs,0⟩::rest) scope pos f 0 (t f))
  (h2:PIE X k σ tg (λJ H1=>∀f,H1 f=aD->rO J g (fu ti (t f)) { nx:=λ_ l=>Q (.ref f) l,rt:=λ_ _=>False } (σ++ZL own.length aD) (upd H1 f (.lst []))) itv s2)
  {RR:Value->Addr->Result->Shared->Prop} (hRR:∀f C l s',Inv X k σ l s'->hZ X k l C->(∃m,s'.heap.Ns C m)->Q (.ref f) l->RR (.ref f) C (.ok .next) s') :
  wpAny (model X.prog X.w) X.A (newList []) (λf j=>wpAny (model X.prog X.w) X.A (Uf scope X.env.globals (ci X.env.cells scope.names []) [] X.env.qual aD .none (aw X.env)) (λu z=>
   codeAny (model X.prog X.w) X.A (.compStart (.ListComp elt (⟨tg,iter,ifs,0⟩::rest) scope pos) 0 itv f { u with scope:=relabel scope X.env }) (RR f u.locals) z) E j) E s2:=by
 obtain⟨it,v,tn,J,H2,e,I2,T,O,f2,R⟩:=h2;subst e;refine UP ?_;have U:Inv X k σ (upd H2 s2.heap.objs.size (.lst [])) { s2 with heap:=s2.heap.push { cls:=.type "list", dict:=aD,data:=.seq ([]:List Value).toArray } }:=I2.lnew (its:=[]) (t':=s2.toks) .nil (Z3 _);have W:=R s2.heap.objs.size (I2.hok.fresh (Zi _));generalize hs3:({ s2 with heap:=s2.heap.push { cls:=.type "list", dict:=aD,data:=.seq ([]:List Value).toArray } }:Shared)=j at U ⊢;have e3:j.heap=s2.heap.push { cls:=.type "list", dict:=aD,data:=.seq ([]:List Value).toArray }:=by rw[<-hs3]
 have k3:∀b o,s2.heap.get? b=aw o->j.heap.get? b=aw o:=λb o e=>by rw[e3];exact Zc _ e
 have B:tn 0 j.heap:=T.keep _ _ _ O λb _ o e=>k3 b o e;have fne:∀b ∈ v,b < s2.heap.objs.size:=λb hb=>let ⟨o,e,_⟩:=T.obj _ _ O b hb;Zq e;have y:∀b ∈ v,hZ X k (upd H2 s2.heap.objs.size (.lst [])) b:=λb hb=>⟨by rw[ac (ZG (fne b hb))];exact(f2 b hb).1,(f2 b hb).2⟩;have Z:∀b ∈ v,b < j.heap.objs.size:=λb hb=>let ⟨o,e,_⟩:=T.obj _ _ B b hb;Zq e;refine yP ?_;have I4:=U.compStart S y Z;generalize hH3:upd H2 s2.heap.objs.size (.lst [])=H3 at U I4 y W
 have eE:({ scope:=relabel scope X.env,locals:=j.heap.objs.size,globals:=X.env.globals,cells:=VW (j.heap.objs.size+1) scope.names (ci X.env.cells scope.names []),qual:=X.env.qual,func:=aD,code:=X.env.code,frame:=X.env.frame,builtins:=X.env.builtins }:Env)=uN scope j.heap.objs.size X.env:=by
  unfold uN;rw[EI]
 generalize hs4:({ j with heap:=Uj (j.heap.push { cls:=.type "dict", data:=.dict #[] }) scope.names }:Shared)=z at I4 ⊢;have k4:∀b o,j.heap.get? b=aw o->z.heap.get? b=aw o:=λb o e=>by rw[<-hs4];exact Uk _ _ b o (Zc _ e)
 have st4:tn 0 z.heap:=T.keep _ _ _ B λb _ o e=>k4 b o e
 have f4:∀b ∈ v,hZ (cxC X own hs scope j.heap.objs.size v j H3) [] H3 b:=λb hb=>by
  refine⟨(y b hb).1,ZG (Z b hb),I4.ok.exfs b hb,.inl hb,λx c hl=>(I4.ok.exf b hb).2 x c hl,λp hp=>absurd (show p ∈ ([]:List (Addr × Obj)) from hp) (by simp)⟩
 have L:=oe (Y:=cxC X own hs scope j.heap.objs.size v j H3) (elt:=elt) (gens:=⟨tg,iter,ifs,0⟩::rest) (d:=0) (scope:=scope) (pos:=pos) (acc:=s2.heap.objs.size) rfl hc rfl T I4 st4 f4 (hgt _ _ _ _) (hts _ _ _ _) (htl _ _ _ _ _) W;have C:=ll (elt:=elt) (gens:=⟨tg,iter,ifs,0⟩::rest) (d:=0) (scope:=scope) (pos:=pos) rfl L (T.self _ 0 z _ _ st4 L);show codeAny (model X.prog X.w) X.A (.compStart (.ListComp elt (⟨tg,iter,ifs,0⟩::rest) scope pos) 0 (.ref it) (.ref s2.heap.objs.size) { scope:=relabel scope X.env,locals:=j.heap.objs.size,globals:=X.env.globals,cells:=VW (j.heap.objs.size+1) scope.names (ci X.env.cells scope.names []),qual:=X.env.qual,func:=aD,code:=X.env.code,frame:=X.env.frame,builtins:=X.env.builtins }) (RR (.ref s2.heap.objs.size) j.heap.objs.size) z;rw[eE];refine V0 C λr s' hr=>?_;obtain⟨rfl,σ',l,I,q⟩:=hr;obtain⟨mC,nC,_⟩:=id I.loc;have freeC:l j.heap.objs.size=aD:=I.free;refine hRR _ _ l s' ?_ (U.fpOk (Zi _) freeC) ⟨mC,nC⟩ q;exact U.call' (ch:=v) I.os I.base I.hok I.bare λb hb=>⟨(y b hb).2.2.2.1,(y b hb).2.1,(y b hb).2.2.2.2.1,(y b hb).2.2.2.2.2⟩
def EN(hc:X.calm=aN)(S:CmScope own hs X.N scope X.env.scope)(hi:PI X tg iter wi)
  (k:∀C ex s H,PG (cxC X own hs scope C ex s H) tg g) (l:∀C ex s H,PTs (cxC X own hs scope C ex s H) ifs ti)
  (u:∀C ex s H c,PTl (cxC X own hs scope C ex s H) elt (⟨tg,iter,ifs,0⟩::rest) scope pos c 0 (t c))
  (hs:∀x,V7 iter X.env x=pure x:=by intro _;rfl) :
  PE X (.ListComp elt (⟨tg,iter,ifs,0⟩::rest) scope pos) (AR own.length wi g λc=>fu ti (t c)):=by
 intro d s B H Q I h;rw[eval_ListComp];refine UE (use:=aD) (cl:=ci X.env.cells scope.names []) rfl hs (w5 λy j z=>I.ok.has y.1 (S.fr y j z)) S.kind (λy j z=>c8 S.uniq (by rw[<-z];exact j)) ?_;refine thn (hi d s B H _ I h) λv s1 U=>thn U λitv s2 T=>?_;refine lq hc S k l u T (RR:=λc C=>compPost (model X.prog X.w) X.A X.xe aD (EP X d B Q) c C) λc C J Z L f Y q=>?_;obtain⟨m,nm⟩:=Y;refine⟨m,nm,λh' O=>⟨.ref c,J,?_,rfl,q⟩⟩;exact L.turned (t':=Z.toks) (λb o hb e=>(O.2 b hb).trans e) f.1 f.2.1 f.2.2.2.1 f.2.2.2.2.1 f.2.2.2.2.2
def EO{i:Nat}(hc:X.calm=aN)(S:CmScope own hs X.N scope X.env.scope)(hN:X.N.Nodup)(U:X.N[i]?=aw x)(hx:X.env.scope.names.lookup x=aw .local)(hi:PI X tg iter wi)
  (J:∀C ex s H,PG (cxC X own hs scope C ex s H) tg g) (O:∀C ex s H,PTs (cxC X own hs scope C ex s H) ifs ti)
  (Z:∀C ex s H c,PTl (cxC X own hs scope C ex s H) elt (⟨tg,iter,ifs,0⟩::rest) scope pos c 0 (t c))
  (hsw:Ux (.ListComp elt (⟨tg,iter,ifs,0⟩::rest) scope pos) (aw (.Name x d)) k.line X.env=pure aN:=by rfl)
  (hs:∀x,V7 iter X.env x=pure x:=by intro _;rfl) :
  PS X (.Assign [.Name x d] (.ListComp elt (⟨tg,iter,ifs,0⟩::rest) scope pos) k) (Aw (AR own.length wi g λc=>fu ti (t c)) (rG i)):=by
 intro f s σ H D I h;rw[exec_Assign_Name_used _ _ _ _ hsw];refine UC (U1 (UC ?_));show wpAny _ X.A (do let _ <-comprehension (.ListComp elt (⟨tg,iter,ifs,0⟩::rest) scope pos) scope X.env _ (newList []) aS (eval iter X.env) (aw (assign (.Name x d) X.env))) _ _ s
 refine UC (UM (UE (use:=aw (assign (.Name x d) X.env)) (Q:=λ_ l=>SP X f D .next l) (cl:=ci X.env.cells scope.names []) rfl hs (w5 λy B hk=>I.ok.has y.1 (S.fr y B hk)) S.kind (λy B hk=>c8 S.uniq (by rw[<-hk];exact B))
  ?_) (λ_ l hq=>US (US hq)) λ_ _ e=>e)
 refine thn (hi f s σ H _ I h) λv s1 h1=>thn h1 λitv s2 h2=>?_;refine lq (Q:=λy u=>rG i y σ u D.nx) hc S J O Z h2 (RR:=λc C=>compPost (model X.prog X.w) X.A X.xe (aw (assign (.Name x d) X.env)) (λ_ l=>SP X f D .next l) c C) λc C u l I' j m' q=>?_;obtain⟨m,nm⟩:=m';show wpAny _ X.A (assign (.Name x d) X.env (.ref c)) _ _ _;refine wpAny_assign_Name (nU (v:=.ref c) I' hN U (.inl hx) rfl (λL Y T=>?_) (.inr hx));obtain⟨a,sb1,ha⟩:=T
 have ne:C ≠ a:=by
  rcases ha with e |e
  ·rw[e];exact j.2.1
  ·exactλz=>j.2.2.2.2.1 x a e z.symm
 refine⟨m,nm.sameBut sb1 ne,λh' sb=>⟨_,u,?_,q⟩⟩;exact Y.turned (t':=L.toks) (λb o hb e=>(sb.2 b hb).trans e) j.1 j.2.1 j.2.2.2.1 j.2.2.2.2.1 j.2.2.2.2.2
end
end L2
namespace HT
open PySem PyProof.Rows
section
variable {prog:Program} {w:World} {A:Around} {E:Value->Shared->Prop} {s:Shared}
def AS{t b:Addr}{l:List Value}{Q:Value->Shared->Prop}(I:IsTup s.heap t ([]:List Value).toArray)(hb:IsTup s.heap b l.toArray)(h:Q (.ref b) s):wpAny (model prog w) A (VO .Add (.ref t) (.ref b)) Q E s:=by
 obtain⟨⟨y,z,v,sl⟩,u,q,n,hd⟩:=id I;obtain⟨⟨C,k,data2,j⟩,c,d,B,f⟩:=id hb;simp only at q hd d f;subst q hd d f
 exact V2 ⟨_,u,rfl⟩ ⟨_,c,rfl⟩ Ug Us Va W1 (WX _ _)
   (tuple_addW0 t b _ l.toArray n B z k sl j (by simp)) ⟨u,c,h⟩
def gL{t sl:Addr}{I:Array Value}{k v:Value}{lo hi:Option Int}{Q:Value->Shared->Prop}(b:IsTup s.heap t I)(hs:s.heap.IsSliceOf sl k v .none)(l:IsPart k lo)(y:IsPart v hi)
  (hw:sIx I.size 0 lo=0/\sIx I.size I.size hi=I.size) (h:Q (.ref t) s):wpAny (model prog w) A (getItem (.ref t) (.ref sl)) Q E s:=by
 obtain⟨os,j,d,u⟩:=id hs;have f:s.TypeIs (.ref sl) "slice" := ⟨os,j,d⟩;obtain⟨o,B,z,n,hd⟩:=id b;unfold getItem
 try with_reducible refine UJ ?_
 first |refine UC (US ?_) |skip
 refine UC (UZ b.typeIs (by decide) ?_)
 refine UC (wpAny_callSpecial?_slot (name:=Str.ofString "__getitem__") b.typeIs WQ
  (UD WQ b.typeIs entry_tuple_getitem ?_ (args_tuple_getitem _ _)))
 show wpAny _ _ (Builtin.Tuple.tupleItemsOf (.ref t) >>= _) _ _ s;refine UC (tupleItemsOf_ b ?_);refine UC (U4 f ?_);rw[if_pos (by decide)];refine UC (eD hs l y ?_)
 have c:((((sIx I.size 0 lo:Nat):Int) == 0 && (1:Int) == 1 && (sIx I.size I.size hi - sIx I.size 0 lo) == I.size)=aN):=by
  rw[hw.1,hw.2];simp
 show wpAny _ _ (if (((sIx I.size 0 lo:Nat):Int) == 0 && (1:Int) == 1 && (sIx I.size I.size hi - sIx I.size 0 lo) == I.size)=aN then _ else _) _ _ s;rw[if_pos c];have q:s.TypeIs (.ref t) "tuple" := b.typeIs
 first
  | (refine UC (m:=Builtin.Tuple.tupleIsExact _) ?_
     unfold Builtin.Tuple.tupleIsExact;refine UC (U4 q (US ?_));rw[if_pos (by decide)];exact UC (UX (US ⟨_,rfl,US h⟩)))
end
end HT
namespace L2
open PySem PySem.Spec PyProof.Rows
def rP{s:Shared}{h':Heap}{o:Obj}(d:∀b x,b ∉ [s.heap.objs.size]->(s.heap.push o).get? b=aw x->h'.get? b=aw x):∀b x,s.heap.get? b=aw x->h'.get? b=aw x:=
 λb x e=>d b x (λc=>by rw[ZF.mp c] at e;exact ZK _ (Zq e)) (Zc _ e)
section
variable {X:Cx}
abbrev Pd(K:Vp):R2:=λx y H Q=>∃a b c Y,x = .ref a/\y = .ref b/\SqT K H a c/\SqT K H b Y/\c.length+Y.length<=sizeLine ∧
 (c=[]->Q (.ref b) H)/\(c ≠ []->Y=[]->Q (.ref a) H)/\(c ≠ []->Y ≠ []->∀p,H p=aD->Q (.ref p) (upd H p (.tup (c++Y))))
def ER:OpR X (VO .Add) (Pd X.K):=by
 intro c s z H x y v u Q I q f h;obtain⟨a,b,j,Y,rfl,rfl,k,hb,J,B,O,C⟩:=h;by_cases d:j=[]
 ·subst d;cases q;cases f;obtain⟨L,r1,p1,_⟩:=I.tuple k;obtain⟨l,r2,T,_⟩:=I.tuple hb;cases r1;exact HT.AS p1 T ⟨.ref b,H,I,rfl,B rfl⟩
 ·exact EC c s z H _ _ v u Q I q f ⟨a,b,j,Y,rfl,rfl,k,hb,d,J,O d,C d⟩
abbrev RN(K:Vp):V->Option Int->Option Int->Hp->VK->Prop:=λx lo hi H Q=>∃a b,x = .ref a/\SqT K H a b ∧
 ((HT.sIx b.length 0 lo=0/\HT.sIx b.length b.length hi=b.length)->Q (.ref a) H) ∧
 (¬ (HT.sIx b.length 0 lo=0/\HT.sIx b.length b.length hi=b.length)->∀p,H p=aD->Q (.ref p) (upd H p (.tup (lj b lo hi))))
def ES:SlR X (RN X.K):=by
 intro c s B H x v z C lo hi sl Q I q hs k u h;obtain⟨a,b,rfl,l,L,J⟩:=h;by_cases f:(HT.sIx b.length 0 lo=0/\HT.sIx b.length b.length hi=b.length)
 ·cases q;obtain⟨j,r,y,O⟩:=I.tuple l;have d:j.toArray.size=b.length:=by rw[Zj];exact r.length.symm
  refine⟨"tuple", _,PyProof.Rows.slot_tuple_getitem.lookup,y.typeIs,?_⟩;exact HT.gL y hs k u (by rw[d];exact f) ⟨.ref a,H,I,rfl,L f⟩
 ·exact Ke c s B H _ v z C lo hi sl Q I q hs k u ⟨a,b,rfl,l,f,J f⟩
def rQ:aR X (.builtin "isinstance") (λxs H Q=>∃x n t b,xs=[x,.ty n]/\TyOf X.K H x t/\VA X.K t (.type n)=aw b/\Q (.bl b) H):=by
 intro c s k H xs U Q I r h;obtain⟨x,n,t,b,rfl,ty,e,q⟩:=h;obtain⟨u,j,rfl,d,f⟩:=nV r;cases f;exact yK I d ty e λT=>⟨.bl b,H,I.tok T,rfl,q⟩
def ib:∀ {bs:List Bool} {u:List Value},aP (bs.map V.bl) u->u=bs.map Value.bool
 |[],_,.nil=>rfl
 |_::_,_,.cons r t=>by rw[Zy,ib t];cases r;rfl
def yQ(hc:X.calm=aN):aR X (.builtin "all") (λxs H Q=>∃ (l:Addr) (bs:List Bool),xs=[.ref l]/\SqL X.K H l (bs.map V.bl)/\Q (.bl (bs.all id)) H):=by
 intro j s Y H xs Z Q I r h;obtain⟨l,bs,rfl,z,q⟩:=h;obtain⟨u,rfl,y⟩:=bQ r;cases y;obtain⟨J,B,p,hz⟩:=I.list z;have e:=ib B;subst e;have d:=p.isList;have f:l < s.heap.objs.size:=by obtain⟨_,e,_⟩:=d;exact Zq e
 refine call_all_walk (UT d ?_)
 refine⟨s.heap.objs.size,[s.heap.objs.size,l],[s.heap.objs.size],_,_,_,λi=>(bs[i]?).getD aN,rfl,Walks.list (A:=X.A.in1) (I.ok.hd hc) _ l (ZG f) _,
  ⟨⟨_,Zs _ rfl,rfl,rfl⟩,d.push _⟩,λi v s' Q' E' L k=>?_,λU T C=>?_⟩
 ·have c:(bs.map Value.bool)[i]?=aw v:=by simpa using L
  rw[Zl] at c;cases hb:bs[i]? with
  |none=>rw[hb] at c;cases c
  |some b=>
   rw[hb] at c;have O:Value.bool b=v:=Option.some.inj c;subst O;simp only[hb,ZT] at k;exact U2 k
 ·have e:((Ze (bs.map Value.bool).toArray.size).all λi=>(bs[i]?).getD aN)=bs.all id:=by
   rw[Zj,Za,Yg];simp only[ZR,ZJ,id];constructor
   ·intro h b hb;obtain⟨i,hi,rfl⟩:=XR.mp hb;have:=h i hi
    rwa [gEG hi,ZT] at this
   ·intro h i hi;rw[gEG hi,ZT];exact h _ (ZO hi)
  rw[e];exact⟨.bl (bs.all id),H,I.kept (t':=T) (rP C),rfl,q⟩
def yR(hc:X.calm=aN):aR X (.builtin "any") (λxs H Q=>∃ (l:Addr) (bs:List Bool),xs=[.ref l]/\SqL X.K H l (bs.map V.bl)/\Q (.bl (bs.any id)) H):=by
 intro j s Y H xs Z Q I r h;obtain⟨l,bs,rfl,z,q⟩:=h;obtain⟨u,rfl,y⟩:=bQ r;cases y;obtain⟨J,B,p,hz⟩:=I.list z;have e:=ib B;subst e;have d:=p.isList;have f:l < s.heap.objs.size:=by obtain⟨_,e,_⟩:=d;exact Zq e
 refine call_any_walk (UT d ?_)
 refine⟨s.heap.objs.size,[s.heap.objs.size,l],[s.heap.objs.size],_,_,_,λi=>(bs[i]?).getD aS,rfl,Walks.list (A:=X.A.in1) (I.ok.hd hc) _ l (ZG f) _,
  ⟨⟨_,Zs _ rfl,rfl,rfl⟩,d.push _⟩,λi v s' Q' E' L k=>?_,λU T C=>?_⟩
 ·have c:(bs.map Value.bool)[i]?=aw v:=by simpa using L
  rw[Zl] at c;cases hb:bs[i]? with
  |none=>rw[hb] at c;cases c
  |some b=>
   rw[hb] at c;have O:Value.bool b=v:=Option.some.inj c;subst O;simp only[hb,ZT] at k;exact U2 k
 ·have e:((Ze (bs.map Value.bool).toArray.size).any λi=>(bs[i]?).getD aS)=bs.any id:=by
   rw[Zj,Za,Yg];simp only[Yp,ZJ,id];constructor
   ·rintro⟨i,hi,h⟩;rw[gEG hi,ZT] at h;exact⟨_,ZO hi,h⟩
   ·rintro⟨b,hb,h⟩;obtain⟨i,hi,rfl⟩:=XR.mp hb;exact⟨i,hi,by rw[gEG hi,ZT];exact h⟩
  rw[e];exact⟨.bl (bs.any id),H,I.kept (t':=T) (rP C),rfl,q⟩
def Kl:OpR X (V1 .Is) (λx y H Q=>∃b c,x = .bl b/\y = .bl c/\Q (.bl (b == c)) H):=by
 intro d s k H x y v u Q I f j h;obtain⟨b,c,rfl,rfl,q⟩:=h;cases f;cases j;exact is_bool ⟨.bl _,H,I,rfl,q⟩
def yS:OpR X (V1 .IsNot) (λx y H Q=>∃b c,x = .bl b/\y = .bl c/\Q (.bl (b != c)) H):=by
 intro d s k H x y v u Q I f j h;obtain⟨b,c,rfl,rfl,q⟩:=h;cases f;cases j;exact isnot_bool ⟨.bl _,H,I,rfl,q⟩
def lu(hc:X.calm=aN):∀ {b:List (Addr × Obj)} {s:Shared} {C:St} {H:Hp} {Q:VK} {r:Addr} {n:Nat} {t u v:Tok},Inv X b C H s->IsRange s.heap r 0 n 1 t u v->n<=1000->(∀l,H l=aD->Q (.ref l) (upd H l (.lst ((Ze n).map λ(i:Nat)=>V.int i)))) ->
  wpAny (model X.prog X.w) X.A (call (.type "list") [.ref r]) (EP X b C Q) X.xe s:=by
 intro b s C H Q r n t u v I Z Y q;have O:Builtin.Range.small 0 n 1=aN:=small_one (by lia) (by lia) (by lia) (by lia);refine call_list_range (n:=n) (I.ok.hd hc) Z O (by rw[Ul];split <;> lia) (by lia) λh' T c c' hk B d=>?_;refine⟨.ref s.heap.objs.size,_,I.laid (t':=T) (o:=.lst ((Ze n).map λ(i:Nat)=>V.int i)) hk (Zi _) ?_,rfl,q _ (I.hok.fresh (Zi _))⟩;have J:c.size=n:=d.1;refine⟨by rw[Za,ZB];exact Y4 (yO Y),c.toList,c',?_,by simpa using B⟩
 have go:∀ (m:Nat) (k:Nat) (l:List Value),l.length=m->(∀j x,l[j]?=aw x->∃T,x=Value.int (((k+j:Nat):Nat):Int) T)->aP ((List.range' k m).map λ(i:Nat)=>V.int i) l:=by
  intro m
  induction m with
  |zero=>intro k l f _;cases l with |nil=>exact .nil |cons _ _=>cases f
  |succ m ih=>
   intro k l f z;cases l with
   |nil=>cases f
   |cons x l=>
    rw[List.range'_succ,Zy];obtain⟨t,e⟩:=z 0 x rfl;refine .cons ⟨t,by simpa using e⟩ (ih (k+1) l (by simpa using f) λj y U=>?_);obtain⟨t',e'⟩:=z (j+1) y (by simpa using U);exact⟨t',by rw[e',show((k+(j+1):Nat):Int)=((k+1+j:Nat):Int) from by lia]⟩
 rw[List.range_eq_range'];refine go n 0 c.toList (by simpa using J) λj x z=>?_;obtain⟨L,e⟩:=d.2 j x (by simpa using z);exact⟨L,by rw[e,show(0:Int)+(j:Nat) * 1=((0+j:Nat):Int) from by lia]⟩
end
section
variable {κ:Type} [DecidableEq κ]
abbrev jq(b:List (κ × V))(k:κ):Option V:=(b.find? λc=>decide (c.1=k)).map (·.2)
abbrev lx(b:List (κ × V))(k:κ)(v:V):List (κ × V):=
 if (b.any λc=>decide (c.1=k))=aN then b.map (λc=>if c.1=k then (c.1,v) else c) else b++[(k,v)]
def iL{p:κ × V}{r:List (κ × V)}{k:κ}(e:p.1=k):jq (p::r) k=aw p.2:=by simp[jq,YF,e]
def fM{p:κ × V}{r:List (κ × V)}{k:κ}(e:¬ p.1=k):jq (p::r) k=jq r k:=by simp[jq,YF,e]
def ly(k:κ):∀b:List (κ × V),(b.any λc=>decide (c.1=k))=(jq b k).isSome
 |[]=>rfl
 |p::r=>by
  rw[YG];by_cases e:p.1=k
  ·simp only[iL e,decide_eq_true e,Bool.true_or,X3]
  ·rw[fM e,decide_eq_false e,XZ];exact ly k r
def jT(b:List (κ × V))(k:κ)(v:V):(lx b k v).length<=b.length+1:=by
 unfold lx;split
 ·rw[Za];omega
 ·rw[Zg,Zo,Z1];omega
def uy.isSome_eq(r:uy o u):o.isSome=u.isSome:=by
 cases o with
 |none=>cases u with
  |none=>rfl
  |some _=>exact(show False from r).elim
 |some _=>cases u with
  |none=>exact(show False from r).elim
  |some _=>rfl
def KV.val{c:List (κ × V)}{v:List (κ × Value)}(r:KV c v)(k:κ):uy (jq c k) (valueAt v k):=by
 unfold KV at r
 induction r with
 |nil=>exact True.intro
 |@cons p q ps qs h t ih=>
  obtain⟨f,j⟩:=h;by_cases e:p.1=k
  ·have d:q.1=k:=f.symm.trans e;have b:valueAt (q::qs) k=aw q.2:=by simp[valueAt,YF,d]
   rw[iL e,b];exact j
  ·have d:¬ q.1=k:=λz=>e (f.trans z);have b:valueAt (q::qs) k=valueAt qs k:=by simp[valueAt,YF,d]
   rw[fM e,b];exact ih
def KV.any{b:List (κ × V)}{v:List (κ × Value)}(r:KV b v)(k:κ):(b.any λc=>decide (c.1=k))=v.any λc=>decide (c.1=k):=by
 unfold KV at r
 induction r with
 |nil=>rfl
 |cons h t I=>rw[YG,YG,I,h.1]
def KV.repl(r:KV d v)(k:κ)(f:aB y u) :
  KV (d.map λb=>if b.1=k then (b.1,y) else b) (v.map λb=>if b.1=k then (b.1,u) else b):=by
 unfold KV at r ⊢
 induction r with
 |nil=>exact .nil
 |@cons p q ps qs h t ih=>
  rw[Zy,Zy];refine .cons ?_ ih;obtain⟨c,j⟩:=h;by_cases e:p.1=k
  ·rw[if_pos e,if_pos (c.symm.trans e)];exact⟨c,f⟩
  ·rw[if_neg e,if_neg (λz=>e (c.trans z))];exact⟨c,j⟩
def KV.put(r:KV b v)(k:κ)(c:aB y u):KV (lx b k y) (stored v k u):=by
 unfold lx stored;rw[r.any k];by_cases e:(v.any λd=>decide (d.1=k))=aN
 ·rw[if_pos e,if_pos e];exact r.repl k c
 ·rw[if_neg e,if_neg e];exact Paired.snoc r ⟨rfl,c⟩
def KV.length(r:KV k v):k.length=v.length:=Paired.length r
end
def oh(r:aB (kV k) u):(be P w).is k u=aN:=by
 cases k with
 |inl i=>obtain⟨t,e⟩:=(show ∃t,u=Value.int i t from r);subst e;exact rm P w i t
 |inr x=>obtain⟨t,e⟩:=(show ∃t,u=Value.str x t from r);subst e;exact rq P w x t
def oi:∀ {ks:List Key} {u:List Value},aP (ks.map kV) u->ItemsAre (be P w) ks u
 |[],_,r=>by rw[Z4] at r;cases r;exact .nil
 |k::ks,_,r=>by
  rw[Zy] at r;cases r with
  |cons h t=>exact .cons (oh h) (oi t)
@[inline]abbrev KT(H:Hp):List (List NK × V)->List (List NK × Addr × Value)->Prop:=Paired λp q=>p.1=q.1/\pL H p.1 q.2.1/\aB p.2 q.2.2
def KT.val{H:Hp}{c:List (List NK × V)}{xs:List (List NK × Addr × Value)}(r:KT H c xs)(k:List NK):uy (jq c k) ((atKey xs k).map (·.2)):=by
 induction r with
 |nil=>exact True.intro
 |@cons p q ps qs h t ih=>
  obtain⟨f,_,j⟩:=h;by_cases e:p.1=k
  ·have d:q.1=k:=f.symm.trans e;have b:atKey (q::qs) k=aw q.2:=by simp[atKey,YF,d]
   rw[iL e,b];exact j
  ·have d:¬ q.1=k:=λz=>e (f.trans z);have b:atKey (q::qs) k=atKey qs k:=by simp[atKey,YF,d]
   rw[fM e,b];exact ih
def KT.repl(r:KT H c xs)(k:List NK)(l:aB y u) :
  KT H (c.map λd=>if d.1=k then (d.1,y) else d) (xs.map (putAt k u)):=by
 induction r with
 |nil=>exact .nil
 |@cons p q ps qs h t ih=>
  rw[Zy,Zy];refine .cons ?_ ih;obtain⟨b,f,j⟩:=h;unfold putAt;by_cases e:p.1=k
  ·rw[if_pos e,if_pos (b.symm.trans e)];exact⟨b,f,l⟩
  ·rw[if_neg e,if_neg (λz=>e (b.trans z))];exact⟨b,f,j⟩
def KT.put(r:KT H c xs)(k:List NK)(hb:pL H k b)(d:aB y u) :
  KT H (lx c k y) (storedH xs k b u):=by
 have e:(c.any λf=>decide (f.1=k))=(atKey xs k).isSome:=by
  rw[ly,(r.val k).isSome_eq,Xz]
 unfold lx storedH;rw[e];by_cases q:(atKey xs k).isSome=aN
 ·rw[if_pos q,if_pos q];exact r.repl k d
 ·rw[if_neg q,if_neg q];exact Paired.snoc r ⟨rfl,hb,d⟩
def KT.keeps(r:KT H k xs)(d:∀b y,H b=aw (.tup y)->c b=aw (.tup y)):KT c k xs:=
 Paired.mapP r λ_ _ z=>⟨z.1,z.2.1.mono d,z.2.2⟩
section
variable {P:Program} {w:World} {H:Hp} {h:Heap} {a:Addr}
def IM(ok:HOk P w H h)(e:Rd H a u):a9 P w H h a u:=e.ok ok
def rR(ok:HOk P w H h)(e:Rd H a (.dK k)):k.length<=sizeLine/\(a == Uz)=aS/\∃vs,KV k vs/\h.DictOf (be P w) a vs:=
 show a9 P w H h a (.dK k) from IM ok e
def Pe(ok:HOk P w H h)(e:H a=aw (.dK k)):k.length<=sizeLine/\(a == Uz)=aS/\∃vs,KV k vs/\h.DictOf (be P w) a vs:=rR ok (.inl e)
def AU(ok:HOk P w H h)(e:H a=aw (.tup (ks.map kV))):IsTupleKey (be P w) h ks a:=by
 obtain⟨_,I,r,o,d,c,n,b,_⟩:=(show a9 P w H h a (.tup (ks.map kV)) from ok a _ e);exact⟨o,I.toArray,n,d,c,b,by simpa using oi r⟩
def eY{ks:List NK}(ok:HOk P w H h)(e:pL H ks a):(fH P w).is h ks a:=by
 obtain⟨X,l,d⟩:=e;obtain⟨_,I,r,o,v,c,n,j,_⟩:=(show a9 P w H h a (.tup X) from ok a _ l);refine⟨o,I.toArray,n,v,c,j,?_⟩
 have all:∀ {ks:List NK} {X:List V} {us:List Value},Paired (yz H) ks X->aP X us->Paired (NIs P w h) ks us:=by
  intro ks X us p
  induction p generalizing us with
  |nil=>intro q;cases q;exact .nil
  |@cons k x ks X hk _ ih=>
   intro q;cases q with
   |cons Q f=>
    refine .cons ?_ (ih f);cases k with
    |non=>cases hk;exact Q
    |one k=>cases hk;exact oh (P:=P) (w:=w) Q
    |tup u=>obtain⟨b,rfl,hb⟩:=hk;cases Q;exact⟨b,rfl,AU ok hb⟩
 simpa using all d r
def rV(ok:HOk P w H h)(e:Rd H a (.dT k)):k.length<=sizeLine/\(a == Uz)=aS ∧
  ∃xs,KT H k xs/\h.DictOfH (fH P w) a xs:=by
 obtain⟨z,y,xs,r,o,j,f,u,c,d,h4,b⟩:=(show a9 P w H h a (.dT k) from IM ok e);refine⟨z,y,xs,r,o,j,f,u,c,d,h4,λx hx=>?_,b⟩
 have all:∀ {l:List (List NK × V)} {m:List (List NK × Addr × Value)},KT H l m->∀x ∈ m,(fH P w).is h x.1 x.2.1:=by
  intro l m q
  induction q with
  |nil=>intro x hx;exact nomatch hx
  |@cons p q ps qs hq t ih=>
   intro x hx;rcases Zn.mp hx with e |hx
   ·subst e;exact eY ok (by rw[<-hq.1];exact hq.2.1)
   ·exact ih x hx
 exact all r x hx
def Pf(ok:HOk P w H h)(e:H a=aw (.dT k)):k.length<=sizeLine/\(a == Uz)=aS ∧
  ∃xs,KT H k xs/\h.DictOfH (fH P w) a xs:=rV ok (.inl e)
end
abbrev AV(H:Hp)(a:Addr)(y:V)(r:Option V):Prop:=
 (∃c k,Rd H a (.dK c)/\y=kV k/\r=jq c k)\/∃c k b,Rd H a (.dT c)/\y = .ref b/\pL H k b/\r=jq c k
abbrev Pg(H:Hp)(a:Addr)(y v:V)(d:Hp):Prop:=
 (∃c k,H a=aw (.dK c)/\y=kV k/\c.length < sizeLine/\d=upd H a (.dK (lx c k v))) ∨
 ∃c k b,H a=aw (.dT c)/\y = .ref b/\pL H k b/\c.length < sizeLine/\d=upd H a (.dT (lx c k v))
section
variable {X:Cx} {pins:List (Addr × Obj)} {σ:St} {H:Hp} {s:Shared} {a:Addr} {y v:V} {u r:Value} {o:Option V} {A:Around} {E:Value->Shared->Prop}
def Inv.big(I:Inv X pins σ H s):Uz < s.heap.objs.size:=by
 have h:Ud < s.heap.objs.size:=(I.mod.glob.keeps I.bk).lt;exact WD (by decide) h
def yT(O:A.units+2 < cLine)(I:Inv X pins σ H s)(g:AV H a y (aw v))(J:aB y u)(h:∀d L,Inv X pins σ H L->aB v d->Q d L) :
  wpAny (model X.prog X.w) A (getItem (.ref a) u) Q E s:=by
 rcases g with ⟨f,k,e,B,l⟩ |⟨f,k,b,e,B,Z,l⟩
 ·subst B;obtain⟨z,hd,T,rel,j⟩:=rR I.hok e;obtain⟨d,C,c⟩:=uy.some_of (v:=v) (o:=valueAt T k) (by rw[l];exact rel.val k);exact wpAny_getItem_of (oh J) j.mapOf C (h d _ (I.tok _) c)
 ·subst B;cases (show u=Value.ref b from J);obtain⟨z,hd,Y,rel,j⟩:=rV I.hok e;obtain⟨d,C,c⟩:=uy.some_of (v:=v) (o:=(atKey Y k).map (·.2)) (by rw[l];exact rel.val k);obtain⟨p,U,q⟩:=ZC.mp C;refine wpAny_getItem_heap (show _+1 < _ from O) (eY I.hok Z) j U ?_;rw[q];exact h d _ (I.tok _) c
def RO(C:A.units+2 < cLine)(I:Inv X pins σ H s)(g:AV H a y o)(B:aB y u)(h:∀j,Inv X pins σ H j->Q (.bool o.isSome) j) :
  wpAny (model X.prog X.w) A (V1 .In u (.ref a)) Q E s:=by
 rcases g with ⟨c,k,e,f,l⟩ |⟨c,k,b,e,f,J,l⟩
 ·subst f;obtain⟨z,hd,O,rel,d⟩:=rR I.hok e;refine wpAny_in_of (oh B) hd d.mapOf ?_;rw[<-(rel.val k).isSome_eq,<-l];exact h _ (I.tok _)
 ·subst f;cases (show u=Value.ref b from B);obtain⟨z,hd,L,rel,d⟩:=rV I.hok e;refine wpAny_in_heap (show _+1 < _ from C) (eY I.hok J) hd d ?_;have q:=(rel.val k).isSome_eq;rw[Xz] at q;rw[<-q,<-l];exact h _ (I.tok _)
def ET(C:A.units+2 < cLine)(I:Inv X pins σ H s)(g:AV H a y o)(B:aB y u)(h:∀j,Inv X pins σ H j->Q (.bool (!o.isSome)) j) :
  wpAny (model X.prog X.w) A (V1 .NotIn u (.ref a)) Q E s:=by
 rcases g with ⟨c,k,e,f,l⟩ |⟨c,k,b,e,f,J,l⟩
 ·subst f;obtain⟨z,hd,O,rel,d⟩:=rR I.hok e;refine wpAny_notIn_of (oh B) hd d.mapOf ?_;rw[<-(rel.val k).isSome_eq,<-l];exact h _ (I.tok _)
 ·subst f;cases (show u=Value.ref b from B);obtain⟨z,hd,L,rel,d⟩:=rV I.hok e;refine wpAny_notIn_heap (show _+1 < _ from C) (eY I.hok J) hd d ?_;have q:=(rel.val k).isSome_eq;rw[Xz] at q;rw[<-q,<-l];exact h _ (I.tok _)
def w6{t':Nat}(I:Inv X pins σ H s)(d:Mut (H a))(hs:Heap.SameBut a s.heap h')(c:∃q,h'.get? a=aw q)(new:a9 X.prog X.w (upd H a ob) h' a ob) :
  Inv X pins σ (upd H a ob) { s with heap:=h',toks:=t' }:=
 I.write (x:=a) (e:=a) d (.inl rfl) (λb q hb z=>(hs.2 b hb).trans z) c new
def Km(z:k.length<=sizeLine)(hd:(a == Uz)=aS)(rel:KV k b)(d:h'.DictOf (be P w) a b) :
  a9 P w c h' a (.dK k):=⟨z,hd,b,rel,d⟩
def yU(hu:A.units+2 < cLine)(I:Inv X pins σ H s)(g:Pg H a y v H')(Z:aB y u)(U:aB v r)(h:∀s',Inv X pins σ H' s'->Q () s') :
  wpAny (model X.prog X.w) A (setItem (.ref a) u r) Q E s:=by
 rcases g with ⟨d,k,e,J,l,O⟩ |⟨d,k,b,e,J,eb,l,O⟩
 ·subst J O;obtain⟨z,hd,vs,rel,B⟩:=Pe I.hok e;have L:vs.length<=sizeLine:=by rw[<-rel.length];exact z
  have C:(lx d k v).length<=sizeLine:=by have:=jT d k v;omega
  refine wpAny_setItem_pairs (hsz:=L) (oh Z) B λY f hs=>h _ ?_;have he:∃q,Y.get? a=aw q:=let ⟨q,_,_,j,_⟩:=f;⟨q,j⟩;exact w6 I (by rw[e];exact True.intro) hs he (Km C hd (rel.put k U) f)
 ·subst J O;cases (show u=Value.ref b from Z);obtain⟨z,hd,xs,rel,B⟩:=Pf I.hok e;have L:xs.length<=sizeLine:=by rw[<-Paired.length rel];exact z
  have C:(lx d k v).length<=sizeLine:=by have:=jT d k v;omega
  refine wpAny_setItem_heap (hsz:=L) (show _+1 < _ from hu) (eY I.hok eb) B λY f hs=>h _ ?_;obtain⟨q,es,ep,j,h2,h3,h4,_,h5⟩:=f;refine w6 I (by rw[e];exact True.intro) hs ⟨q,j⟩ ⟨C,hd,_,(rel.put k eb U).keeps λc ys T=>?_,q,es,ep,j,h2,h3,h4,h5⟩;rw[ac (rD T e (λz=>nomatch z))];exact T
end
def rX(I:Inv X f l H s)(g:AV H a y o):s.TypeIs (.ref a) "dict" := by
 rcases g with ⟨c,k,e,_,_⟩ |⟨c,k,b,e,_,_,_⟩
 ·obtain⟨_,_,v,_,d⟩:=rR I.hok e;exact d.typeIs
 ·obtain⟨_,_,j,_,d⟩:=rV I.hok e;exact d.typeIs
def AW(h:Heap)(hb:Uz < h.objs.size):a9 P w H (h.push { cls:=.type "dict", data:=.dict #[] }) h.objs.size (.dT []):=
 ⟨Z3 _,beq_eq_false_iff_ne.mpr (Ne.symm (ZG hb)),[],.nil,_,#[],0,Zs _ rfl,⟨rfl,rfl,rfl⟩,rfl,rfl,Xx⟩
abbrev AX:TE:=λ_ H Q=>∀p,H p=aD->Q (.ref p) (upd H p (.dT []))
section
variable {X:Cx} {pos:Pos}
def AY:PE X (.Dict [] [] pos) AX:=λb s c H Q I h=>
 wpAny_Dict_empty ⟨.ref s.heap.objs.size,_,I.laid (a:=s.heap.objs.size) (o:=.dT []) (t':=s.toks) (λ_ _ q=>Zc _ q) (Zi _) (AW s.heap I.big),rfl,h _ (I.hok.fresh (Zi _))⟩
end
end L2
namespace HT
open PySem PyProof.Rows
open AutoSeq1 (wpAny_loadPart')
section
variable {prog:Program} {w:World} {A:Around} {E:Value->Shared->Prop} {s:Shared}
def ku{i:Nat}(b:s.heap.IsTupleIter it t i)(l:s.heap.IsTuple t I)(k:I[i]?=aw x)
  (q:∀h',h'.IsTupleIter it t (i+1)->Heap.SameBut it s.heap h'->Q x { s with heap:=h' }):wpAny (model prog w) A (Builtin.SmallTypes.nextOf (.ref it)) Q E s:=by
 obtain⟨o,c,j,hd⟩:=id b;obtain⟨O,d,_,u,f⟩:=l;unfold Builtin.SmallTypes.nextOf
 refine UC (wpAny_callSpecial?_slot (name:=Str.ofString "__next__") b.typeIs Ve
  (UD Ve b.typeIs W2 ?_ (WY _)))
 show wpAny _ _ (field (.ref it) 0 >>= _) _ _ s;refine UC (UG c hd (x:=.ref t) rfl ?_);show wpAny _ _ (if (Value.ref t == Value.none)=aN then _ else _) _ _ s;rw[if_neg (show ¬ ((Value.ref t == Value.none)=aN) from Zf)];show wpAny _ _ (field (.ref it) 1 >>= _) _ _ s;refine UC (UG c hd (x:=.int i 0) rfl ?_);show wpAny _ _ (Ur (.ref t) >>= _) _ _ s;refine UC (UY d f ?_);simp only[ZI,k];refine UC (wpAny_setField c hd (by simp) (US ⟨x,rfl,US (q _ ?_ (Heap.SameBut.update ..))⟩))
 exact⟨_,YH _ c (Obj.isFreed_of_fields (Obj.data_mapFields hd _)),(Obj.cls_mapFields ..).trans j,by
  rw[Obj.data_mapFields hd];simp[rawInt]⟩
def lA{i:Nat}(j:A.handled=aD)(b:s.heap.IsTupleIter it t i)(q:s.heap.IsTuple t I)(l:I[i]?=aD)
  (k:∀h' e,Heap.ExtBut it s.heap h'->(∃o,h'.get? e=aw o/\o.cls = .type "StopIteration")->E (.ref e) { s with heap:=h' }):wpAny (model prog w) A (Builtin.SmallTypes.nextOf (.ref it)) Q E s:=by
 obtain⟨o,c,u,hd⟩:=id b;obtain⟨O,d,_,v,f⟩:=q;unfold Builtin.SmallTypes.nextOf
 refine UC (wpAny_callSpecial?_slot (name:=Str.ofString "__next__") b.typeIs Ve
  (UD Ve b.typeIs W2 ?_ (WY _)))
 show wpAny _ _ (field (.ref it) 0 >>= _) _ _ s;refine UC (UG c hd (x:=.ref t) rfl ?_);show wpAny _ _ (if (Value.ref t == Value.none)=aN then _ else _) _ _ s;rw[if_neg (show ¬ ((Value.ref t == Value.none)=aN) from Zf)];show wpAny _ _ (field (.ref it) 1 >>= _) _ _ s;refine UC (UG c hd (x:=.int i 0) rfl ?_);show wpAny _ _ (Ur (.ref t) >>= _) _ _ s;refine UC (UY d f ?_);simp only[ZI,l];refine UC (UX (UC (wpAny_setField c hd (by simp) ?_)));show wpAny _ _ (newExc (.type "StopIteration") [] >>= _) _ _ _;refine UC ?_;simp only[newExc,newTuple];refine UC (UP ?_ (by size_fits));refine UC (m:=firstArgMember _ _) (UQ (a:=Value.none) (by first |rfl |(simp only[firstArgMember];rfl)) ?_);refine UP ?_ (by size_fits);simp only[raiseNew];refine UC (wpAny_handled ?_)
 first |rw[show A.in1.handled=aD from j] |rw[j]
 refine UC (US (wpAny_throw ?_));exact k _ _ (((Heap.SameBut.update ..).extBut.push _).push _) ⟨_,Zs _ rfl,rfl⟩
end
def AZ(q:A.handled=aD)(it l:Addr)(d:l ≠ it)(I:Array Value) :
  Draws prog w A it [it,l] I.size (λi v=>I[i]?=aw v) (λi h=>h.IsTupleIter it l i/\h.IsTuple l I) where
 live:=λ_ _ st=>let ⟨o,ho,_⟩:=st.1;⟨o,ho⟩
 frame:=λ_ _ _ st f=>⟨st.1.at λo e=>f it (by simp) o e,let ⟨o,e,r⟩:=st.2;⟨o,f l (by simp) o e,r⟩⟩
 item:=λi s Q E hi st u=>by
  refine ku st.1 st.2 (x:=I[i]) (by simp[hi]) λk c b=>?_;exact u _ k s.toks (by simp[hi]) ⟨c,let ⟨o,e,r⟩:=st.2;⟨o,b.extBut l o d e,r⟩⟩ b
 done:=λs Q E st j=>lA q st.1 st.2 (by simp) j
def rY(l:Addr)(items:Array Value)(n:Nat)(j:Option Addr)(sl:Array (Option Value)) :
  Meets (Builtin.«enumerate.__new__» ⟨[.type "enumerate", .ref l],[]⟩) (λ_ R s=>s.heap.get? l=aw { cls:=.type "tuple", dict:=j,data:=.seq items n,slots:=sl } ∧
   R (.ok (.ret (.ref (s.heap.push { cls:=.type "tuple_iterator", data:=.fields #[.ref l,.int 0 0] }).objs.size)))
    { s with heap:=(s.heap.push { cls:=.type "tuple_iterator", data:=.fields #[.ref l,.int 0 0] }).push { cls:=.type "enumerate", data:=.fields #[.none,.bool aS,.ref s.heap.objs.size,rawInt 0,.none,.none] } }):=
 .of_wp λprog w A R s h=>by
  obtain⟨q,g,d,T,os⟩:=s;obtain⟨b,h⟩:=h;have k:=sub_enumerate;have f:Heap.IsTuple (Shared.heap ⟨q,g,d,T,os⟩) l items:=⟨_,b,rfl,n,rfl⟩
  wp_walk using UL b
  refine wpAny_stack_any λst=>US ?_;split
  ·rename_i c _ _ _ _ _;cases (c == Value.type "enumerate")
   ·wp_walk using UL b,UV f
    exact⟨_,rfl,h⟩
   ·wp_walk using UL b,UV f
    exact⟨_,rfl,h⟩
  ·wp_walk using UL b,UV f
   exact⟨_,rfl,h⟩
def uO(u:IsTup s.heap l I)
  (h:∀h',IsEnum h' (s.heap.objs.size+1) s.heap.objs.size 0 .none->h'.IsTupleIter s.heap.objs.size l 0->h'.objs.size=s.heap.objs.size+2 ->
   (∀b o,s.heap.get? b=aw o->h'.get? b=aw o)->Q (.ref (s.heap.objs.size+1)) { s with heap:=h' }) :
  wpAny (model prog w) A (call (.type "enumerate") [.ref l]) Q E s:=by
 obtain⟨⟨c,j,v,sl⟩,q,d,n,hd⟩:=u;replace d:c = .type "tuple" := d;replace hd:v = .seq I n:=hd;subst d hd
 refine callType_new PySem.F.called_enumerate (by decide) (PySem.F.typeCall_enumerate_1 _) (PySem.F.newCall_enumerate_1 _) (λobj=>WW obj _) PySem.F.entry_enumerate_new
  (rY l I n j sl) ⟨q,?_⟩
 have f:(s.heap.push { cls:=.type "tuple_iterator", data:=.fields #[.ref l,.int 0 0] }).objs.size=s.heap.objs.size+1:=Yq ..;show _/\_;rw[f]
 have k:IsEnum ((s.heap.push { cls:=.type "tuple_iterator", data:=.fields #[.ref l,.int 0 0] }).push
   { cls:=.type "enumerate", data:=.fields #[.none,.bool aS,.ref s.heap.objs.size,rawInt 0,.none,.none] }) (s.heap.objs.size+1) s.heap.objs.size 0 .none:=by
  have:=Zs (s.heap.push { cls:=.type "tuple_iterator", data:=.fields #[.ref l,.int 0 0] })
   (o:={ cls:=.type "enumerate", data:=.fields #[.none,.bool aS,.ref s.heap.objs.size,rawInt 0,.none,.none] }) rfl
  rw[f] at this;exact this
 exact⟨⟨_,k,rfl⟩,h _ k ⟨_,Zc _ (Zs _ rfl),rfl,rfl⟩ (by rw[Yq,f]) λb o x=>Zc _ (Zc _ x)⟩
end HT
namespace L2
open PySem PySem.Spec PyProof.Rows
abbrev Ite(K:Vp)(a:Addr)(b:Vp->Hp->Addr->List V->Prop):It:=
 ⟨λi H=>∃X x,b K H a X/\X[i]?=aw x,λi H x c=>∃T,H T=aD/\x = .ref T/\∀X v,b K H a X->X[i]?=aw v->c=upd H T (.tup [.int i,v]),λi H=>∃X,b K H a X/\X.length=i⟩
def Inv.turnedLaid{X:Cx}{d:List (Addr × Obj)}{y:St}{H:Hp}{s:Shared}{h':Heap}{T:Addr}{o:HO}{t':Nat}{ch:List Addr}(I:Inv X d y H s)(j:∀b ∈ ch,hZ X d H b)
  (k:∀b ob,b ∉ ch->s.heap.get? b=aw ob->h'.get? b=aw ob) (B:s.heap.objs.size<=T) (new:a9 X.prog X.w (upd H T o) h' T o):Inv X d y (upd H T o) { s with heap:=h',toks:=t' }:=by
 have fr:=I.hok.fresh B;have neT:∀b ob,s.heap.get? b=aw ob->b ≠ T:=λb ob e=>ZG (ZD (Zq e) B)
 refine I.step (g':=s.gens) (d':=s.drawn) (ch:=ch) (λb hb=>⟨(j b hb).2.2.2.1,(j b hb).2.1,(j b hb).2.2.2.2.1,(j b hb).2.2.2.2.2⟩) (λb ob _ _ f e _=>k b ob f e) (λb ob _ _ f e _=>⟨ob.slots,k b ob f e⟩)
  (λb ob _ e n=>by rw[ac (neT b ob e)];exact n) (λb ob f e=>⟨ob,k b ob f e⟩) (λb C q=>by rw[ac (aV q fr)];exact q) (λb u C q=>by rw[ac (aV q fr)];exact q)
  (λb ps q=>⟨#[],by rw[ac (aV q fr),q];simp⟩) (λm J=>?_) (λb u q=>?_) I.bare
 ·obtain⟨ob,U,O,l,L⟩:=J;exact⟨ob,U,O,k _ ob (λz=>(j _ z).2.1 rfl) l,L⟩
 ·by_cases hb:b=T
  ·subst hb;rw[az] at q;cases q;exact new
  ·rw[ac hb] at q;refine(I.hok b u q).stay (λc v f Q=>k c v (λz=>?_) Q) (λc q=>by rw[ac (aV q fr)];exact q) λc C q=>by rw[ac (aV q fr)];exact q
   have n:=(j c z).1;rcases f with w |w
   ·rw[w,q] at n;cases n
   ·rw[w] at n;cases n
def Inv.turnedAll{X:Cx}{d:List (Addr × Obj)}{y:St}{H:Hp}{s:Shared}{h':Heap}{t':Nat}{ch:List Addr}(I:Inv X d y H s)(j:∀b ∈ ch,hZ X d H b)
  (k:∀b ob,b ∉ ch->s.heap.get? b=aw ob->h'.get? b=aw ob):Inv X d y H { s with heap:=h',toks:=t' }:=by
 refine I.step (g':=s.gens) (d':=s.drawn) (ch:=ch) (λb hb=>⟨(j b hb).2.2.2.1,(j b hb).2.1,(j b hb).2.2.2.2.1,(j b hb).2.2.2.2.2⟩) (λb ob _ _ f e _=>k b ob f e) (λb ob _ _ f e _=>⟨ob.slots,k b ob f e⟩)
  (λb ob _ e n=>n) (λb ob f e=>⟨ob,k b ob f e⟩) (λb B q=>q) (λb u B q=>q)
  (λb ps q=>⟨#[],by rw[q];simp⟩) (λm C=>?_) (λb u q=>?_) I.bare
 ·obtain⟨ob,O,L,l,J⟩:=C;exact⟨ob,O,L,k _ ob (λz=>(j _ z).2.1 rfl) l,J⟩
 ·refine(I.hok b u q).stay (λc v f Q=>k c v (λz=>?_) Q) (λc q=>q) λc B q=>q;have n:=(j c z).1;rcases f with w |w
  ·rw[w,q] at n;cases n
  ·rw[w] at n;cases n
def uQ{P:Program}{w:World}{K:Vp}{elts:List Expr}{x1:Nat}{tp:Pos}(a e it:Addr)(Y:e ≠ it) :
  Turn P w K (.Tuple elts x1 tp) (Ite K a SqT) [e,it] e (λi h=>(∃O,IsEnum h e it i O)/\h.IsTupleIter it a i) where
 mem:=by simp
 obj:=λi h st b hb=>by
  obtain⟨⟨O,B⟩,o,Q,c,d⟩:=st;rcases Zn.mp hb with z |z
  ·subst z;exact⟨_,B,λv z=>by have z':Data.fields _=Data.cell v:=z;cases z'⟩
  ·have z':=ZF.mp z;subst z';exact⟨o,Q,λv z=>by rw[d] at z;cases z⟩
 keep:=λi h h' st k=>⟨let ⟨O,B⟩:=st.1;⟨O,k e (by simp) _ B⟩,st.2.at λo Q=>k it (by simp) o Q⟩
 item:=by
  intro X Z hw hK hc i pins s σ H E I hf st hg;subst Z hw hK;obtain⟨xs,x,hq,hx⟩:=hg;obtain⟨f,rv,p,hz⟩:=I.tuple hq;obtain⟨u,hu,ru⟩:=rv.get hx;obtain⟨⟨O,B⟩,l⟩:=st;have hL:s.heap.IsTuple a f.toArray:=p
  have hae:e ≠ a:=λz=>by
   subst z;obtain⟨o,C,hc',n,j⟩:=id hL;rw[B] at C;cases C;have z':Data.fields _=Data.seq f.toArray n:=j;cases z'
  have L:a ≠ it:=λz=>by
   subst z;obtain⟨o,C,hc',n,j⟩:=id hL;obtain⟨o',T,c',d'⟩:=id l;rw[T] at C;cases C;rw[d'] at j;cases j
  have hi:i < f.toArray.size:=by
   have:=(Zb.mp hu).1
   simpa using this
  refine wpAny_pyNext_enum_itemD (HT.AZ (A:=X.A.in1) (I.ok.hd hc) it a L f.toArray) B ⟨l,hL⟩ hi Y (by simp[Y,hae]) λy h' tk Z C hs' hT hsz hk=>?_
  have ey:y=u:=by
   have z:f.toArray[i]?=aw u:=by simpa using hu
   rw[z] at Z;exact(Option.some.inj Z).symm
  subst ey;refine⟨_,rfl,?_⟩;refine wpAny_letOwnedTupleGo_enum C λh2 he2 U=>?_;have J:e < s.heap.objs.size:=Zq B;have hilt:it < s.heap.objs.size:=by obtain⟨o,Q,_⟩:=l;exact Zq Q
  have hT2:h2.get? s.heap.objs.size=aw { cls:=.type "tuple", data:=.seq #[.int i tk,y] }:=(U.2 _ (WB J)).trans hT;have fresh:=I.hok.fresh (Zi s.heap.objs.size);refine⟨.ref s.heap.objs.size,upd H s.heap.objs.size (.tup [.int i,x]),?_,rfl,⟨_,fresh,rfl,λys v hy hv=>?_⟩,⟨⟨y,by simpa using he2⟩,hs'.1.at λo Q=>(U.2 it (Ne.symm Y)).trans Q⟩,λb hb=>?_⟩
  ·exact I.turnedLaid (t':=tk+1) hf (λb ob hb eb=>(U.2 b λz=>hb (by simp[z])).trans (hk b ob (λz=>hb (by simp[z])) (λz=>hb (by simp[z])) eb)) (Zi _)
    ⟨by show 2<=sizeLine;decide,[.int i tk,y],.cons ⟨tk,rfl⟩ (.cons ru .nil),⟨_,hT2,rfl,_,rfl,rfl⟩⟩
  ·rw[I.tuple_inj hy hq,hx] at hv;cases hv;rfl
  ·rcases Zn.mp hb with z |z
   ·rw[z,ac (ZG J)];exact(hf e (by simp)).1
   ·rw[ZF.mp z,ac (ZG hilt)];exact(hf it (by simp)).1
 done:=by
  intro X Z hw hK hc i pins s σ H E I hf st hg;subst Z hw hK;obtain⟨xs,hq,hx⟩:=hg;obtain⟨f,rv,p,hz⟩:=I.tuple hq;obtain⟨⟨O,B⟩,l⟩:=st;have hL:s.heap.IsTuple a f.toArray:=p
  have L:a ≠ it:=λz=>by
   subst z;obtain⟨o,C,hc',n,j⟩:=id hL;obtain⟨o',T,c',d'⟩:=id l;rw[T] at C;cases C;rw[d'] at j;cases j
  have hn:f.toArray.size=i:=by rw[Zj,<-rv.length,hx]
  subst hn;refine wpAny_pyNext_enum_endD (HT.AZ (A:=X.A.in1) (I.ok.hd hc) it a L f.toArray) B ⟨l,hL⟩ λh' eb=>⟨rfl,?_⟩;exact I.turnedAll (t':=s.toks) hf λb ob hb q=>eb b ob (λz=>hb (by simp[z])) q
 self:=λ_ _ _ _ _ st h=>let ⟨⟨O,B⟩,_⟩:=st;wpAny_pyIter_enum B h
abbrev Ph(K:Vp)(T:TA):TI:=λc H R=>T c H λv b=>∃a X,v=[.ref a]/\SqT K b a X/\R (Ite K a SqT) b
section
variable {X:Cx} {elts:List Expr} {x1:Nat} {tp:Pos}
def Ko{a:Expr}{T:TA}{p d:Pos}(Z:Gl X "enumerate")(O:X.mg "enumerate" = aD)(Y:PA X [a] T)(hs:Uv [a] X.env=[(aS,eval a X.env)]:=by rfl):PI X (.Tuple elts x1 tp) (.Call (.Name "enumerate" p) [a] [] d) (Ph X.K T):=by
 intro c s y H R I h;refine Call_ (eU I Z O PyProof.Rows.boot_enumerate (WO (thn (Y d c s y H _ I h) λus f ⟨vs,k,j,r1,q1⟩=>?_) hs rfl));obtain⟨l,xs,e,J,q⟩:=q1;subst e;obtain⟨u,rfl,C⟩:=bQ r1;cases C;obtain⟨its,rv,L,hz⟩:=j.tuple J;refine HT.uO L λQ B v U hk=>wpAny_pyIter_enum B ?_;have I2:Inv X c y k { f with heap:=Q }:=j.kept (t':=f.toks) hk;have fr:∀b,f.heap.objs.size<=b->hZ X c k b:=λb hb=>j.fpOk hb (j.hok.fresh hb);refine⟨_,[f.heap.objs.size+1,f.heap.objs.size],_,_,k,rfl,I2,uQ l _ _ (Nat.succ_ne_self _),⟨⟨_,B⟩,v⟩,λb hb=>?_,q⟩;rcases Zn.mp hb with z |z
 ·rw[z];exact fr _ (Ys _)
 ·rw[ZF.mp z];exact fr _ (Zi _)
end
section
variable {X:Cx}
def jU:aR X (.type "range") (λxs H Q=>∃j:Int,xs=[.int j]/\∀p,H p=aD->Q (.ref p) (upd H p (.rng 0 j))):=by
 intro c s f H xs U Q I r h;obtain⟨j,rfl,q⟩:=h;obtain⟨u,rfl,d⟩:=bQ r;obtain⟨t,rfl⟩:=d;exact call_range_1 ⟨.ref s.heap.objs.size,_,I.laid (t':=s.toks+1+1) (o:=.rng 0 j) (λb o e=>Zc _ e) (Zi _) ⟨_,_,_,Zs _ rfl⟩,rfl,q _ (I.hok.fresh (Zi _))⟩
def pU(hc:X.calm=aN):aR X (.type "list") (λxs H Q=>∃ (p:Addr) (n:Nat),xs=[.ref p]/\H p=aw (.rng 0 n)/\n<=1000/\∀l,H l=aD->Q (.ref l) (upd H l (.lst ((Ze n).map λ(i:Nat)=>V.int i)))):=by
 intro b s j H xs U Q I r h;obtain⟨p,n,rfl,f,c,q⟩:=h;obtain⟨u,rfl,d⟩:=bQ r;cases d;obtain⟨t,u,v,e⟩:=(show a9 X.prog X.w H s.heap p (.rng 0 n) from I.hok p _ f);exact lu hc I e c q
end
abbrev jr:List Str->Bool
 |[]=>aN
 |x::r=>!r.contains x && jr r
def iM:∀ {l:List Str},jr l=aN->l.Nodup
 |[],_=>Xx
 |x::r,h=>by
  unfold jr at h;rw[bAE] at h;refine ZX.mpr ⟨λm=>?_,iM h.2⟩;have:=h.1;simp[m] at this
abbrev cmB(own:List Str)(hs:List Nat)(N:List Str)(b sc:Scope):Bool:=
 (b.kind == .function) && jr (dh hs N++own) && jr (b.names.map (·.1)) && ((dh hs N).all λx=>b.names.lookup x != aw .local && b.names.lookup x != aw .cell) &&
 (b.names.all λy=>y.2 != .free || (sc.names.lookup y.1 == aw .cell || sc.names.lookup y.1 == aw .free)) && hs.all λi=>(b.names.lookup (AN i)).isNone
def A0(hs:List Nat)(h:cmB own hs N b sc=aN):CmScope own hs N b sc:=by
 unfold cmB at h;simp only[bAE,ZR] at h;obtain⟨⟨⟨⟨⟨u,d⟩,q⟩,h4⟩,c⟩,k⟩:=h;refine⟨by simpa using u,iM d,iM q,λx l=>?_,λy f j=>?_,λi hi=>by simpa using k i hi⟩
 ·have:=h4 x l
  simpa using this
 ·have:=c y f;rw[j] at this
  simpa using this
section
variable {X:Cx} {tg l a:Expr} {tl:TE} {ta:TA} {es:List Expr} {t:TGs} {p pos:Pos} {n k:Nat} {elts:List Expr} {x1:Nat} {tp:Pos} {o e:Expr} {to:TE} {tt:TA} {name:Str} {apos cpos:Pos}
abbrev IP(K:Vp):List V->Hp->VK->Prop:=λc H Q=>∃x n t b,c=[x,.ty n]/\TyOf K H x t/\VA K t (.type n)=aw b/\Q (.bl b) H
def pV(K:Vp)(b:X.K=K:=by rfl):aR X (.builtin "isinstance") (IP K):=b ▸ rQ
end
def lB:∀ {xs:List V} {U:List Value},aP xs U->xs.all dD=aN->U.countP (eqU x)=xs.countP λy=>eqV y x
 |_,_,.nil,_=>rfl
 |y::xs,u::U,.cons r t,f=>by
  rw[Yn,bAE] at f;rw[Xf,Xf,uM r f.1,lB t f.2]
section
variable {X:Cx}
abbrev EU(K:Vp):V->List V->Hp->VK->Prop:=λx v H Q=>∃p b y,x = .ref p/\v=[y]/\SqT K H p b/\dD y=aN/\b.all dD=aN/\Q (.int ((b.countP λz=>eqV z y:Nat):Int)) H
def yV(K:Vp)(l:X.K=K:=by rfl):MtR X "tuple.count" (EU K):=by
 subst l;intro c s Y H x Z v us Q I U C h;obtain⟨p,J,y,rfl,rfl,j,T,fs,q⟩:=h;cases U;obtain⟨u,rfl,k⟩:=C.one;obtain⟨b,r,⟨⟨L,B,f,sl⟩,e,d,n,hd⟩,hz⟩:=I.tuple j;simp only at d hd;subst d hd;refine VV Vb ⟨_,e,rfl⟩ F.entry_tuple_count (F.args_tuple_count_2 _ _) (SeqAt.tuple_countAt p b.toArray n B sl u (eqU y)) ⟨e,λw O=>dg k T r fs w (by simpa using O),?_⟩;refine⟨.int _,H,I.tok _,⟨_,rfl⟩,?_⟩
 have z:(b.toArray.toList.countP (eqU y))=J.countP λz=>eqV z y:=by
  rw[XV];exact lB r fs
 rw[z];exact q
end
end L2
namespace Dw
open PySem PySem.Spec PyProof.Rows L2
inductive D where
 |non |bl (b:Bool) |int (i:Int) |str (x:Str) |tup (ds:List D) |lst (ds:List D) |dic (ks:List Key) (ds:List D)
abbrev isB:D->Bool |.bl _=>aN |_=>aS
abbrev isW(d:D):Bool:=match d with |.int _=>aN |_=>aS
abbrev ic(d:D)(a b:Int):Bool:=match d with |.int i=>decide (a<=i) && decide (i<=b) |_=>aS
abbrev isT(d:D)(a b:Int):Bool:=match d with |.tup ds=>decide (a<=(ds.length:Int)) && decide ((ds.length:Int)<=b) |_=>aS
def oj{b:Type}(n:Nat)(f:Nat->List b):(Ze (n+1)).flatMap f=(Ze n).flatMap f++f n:=by
 rw[Xo,XW];simp
def w8{b:Type}{n m:Nat}{f:Nat->List b}(h:∀i,i < n->(f i).length<=m):((Ze n).flatMap f).length<=n * m:=by
 induction n with
 |zero=>simp
 |succ n I=>
  rw[oj,Zg];have:=I λi hi=>h i (by omega);have:=h n (by omega);rw[WE];omega
abbrev lH(d:List D)(lo hi:Option Int):List D:=(d.drop (HT.sIx d.length 0 lo)).take (HT.sIx d.length d.length hi - HT.sIx d.length 0 lo)
def A6(n:Nat)(a:Int)(b:0<=a):HT.sIx n n (aw a)=min a.toNat n:=by
 show(if a < 0 then (a+(n:Int)).toNat else min a.toNat n)=_;rw[if_neg (by omega)]
abbrev w9(q:Int × Int):D:=.tup [.int q.1,.int q.2]
abbrev mg2(M:List (List Int))(i j:Nat):Int:=(((M[i]?).getD [])[j]?).getD 0
structure Mat(n:Nat)(M:List (List Int)):Prop where
 len:M.length=n
 row:∀r ∈ M,r.length=n
 ent:∀r ∈ M,∀x ∈ r,1<=x/\x<=99
def Mat.at{n:Nat}(h:Mat n M){i j:Nat}(hi:i < n)(l:j < n):∃r,M[i]?=aw r/\r.length=n/\r[j]?=aw (mg2 M i j)/\1<=mg2 M i j/\mg2 M i j<=99:=by
 have c:i < M.length:=by rw[h.len];exact hi
 have d:M[i]?=aw M[i]:=gEG c;have k:=h.row _ (ZO c);have b:j < M[i].length:=by omega
 have f:mg2 M i j=M[i][j]:=by unfold mg2;rw[d,ZT,gEG b,ZT]
 have:=h.ent _ (ZO c) _ (ZO b);exact⟨M[i],d,k,by rw[f,gEG b],by omega,by omega⟩
abbrev rZ(n k:Nat)(M:List (List Int)):Prop:=∀a b q,a < n->b < n->q < k->mg2 M a b<=mg2 M a q+mg2 M q b
def A7{n k:Nat}(h:Mat n M)(d:k < n)(v:rZ n k M)(u:∀i j,i < n->j < n->mg2 M' i j=min (mg2 M i j) (mg2 M i k+mg2 M k j)):rZ n (k+1) M':=by
 intro a b q l hb B;have c:q < n:=by omega
 obtain⟨_,_,_,_,p1,_⟩:=h.at l hb;obtain⟨_,_,_,_,U,_⟩:=h.at l d;obtain⟨_,_,_,_,O,_⟩:=h.at d hb;obtain⟨_,_,_,_,I,_⟩:=h.at d d;obtain⟨_,_,_,_,y,_⟩:=h.at l c;obtain⟨_,_,_,_,z,_⟩:=h.at c hb;obtain⟨_,_,_,_,C,_⟩:=h.at d c;obtain⟨_,_,_,_,L,_⟩:=h.at c d;rw[u a b l hb,u a q l c,u q b c hb];by_cases e:q=k
 ·subst e;omega
 ·have f:q < k:=by omega
  have Q:=v a b q l hb f;have J:=v k b q d hb f;have T:=v a k q l d f;omega
abbrev A8(M:List (List Int)):List D:=M.map λr=>.tup (r.map .int)
abbrev aZ(M:List (List Int))(n c i:Nat):List Int:=(Ze n).map λj=>if mg2 M i c+mg2 M c j < mg2 M i j then mg2 M i c+mg2 M c j else mg2 M i j
def r9(M:List (List Int))(n c i:Nat):(aZ M n c i).length=n:=by unfold aZ;rw[Za,ZB]
def sd(M:List (List Int)){n c i j:Nat}(b:j < n):(aZ M n c i)[j]?=aw (if mg2 M i c+mg2 M c j < mg2 M i j then mg2 M i c+mg2 M c j else mg2 M i j):=by
 unfold aZ;rw[Zl,Ye b];rfl
def EV{n c:Nat}(h:Mat n M)(hc:c < n):∀i j,i < n->j < n->mg2 ((Ze n).map (aZ M n c)) i j=min (mg2 M i j) (mg2 M i c+mg2 M c j):=λi j hi b=>by
 have e:mg2 ((Ze n).map (aZ M n c)) i j=if mg2 M i c+mg2 M c j < mg2 M i j then mg2 M i c+mg2 M c j else mg2 M i j:=by
  show((((Ze n).map (aZ M n c))[i]?.getD [])[j]?).getD 0=_;rw[Zl,Ye hi];show((aZ M n c i)[j]?).getD 0=_;rw[sd M b];rfl
 rw[e];split <;> omega
def A9{n c:Nat}(h:Mat n M)(hc:c < n):Mat n ((Ze n).map (aZ M n c)):=by
 refine⟨by rw[Za,ZB],λr d=>?_,λr d x k=>?_⟩
 ·obtain⟨u,_,rfl⟩:=ZA.mp d;exact r9 M n c u
 ·obtain⟨u,f,rfl⟩:=ZA.mp d;rw[ZJ] at f;unfold aZ at k;obtain⟨j,b,rfl⟩:=ZA.mp k;rw[ZJ] at b;obtain⟨_,_,_,_,p1,Q⟩:=h.at f b;obtain⟨_,_,_,_,v,q⟩:=h.at f hc;obtain⟨_,_,_,_,l,y⟩:=h.at hc b;split <;> omega
def dE:∀ (n:Nat) (l:List Int),l.Nodup->(∀x ∈ l,0<=x/\x < (n:Int))->l.length<=n
 |0,l,_,h=>by
  cases l with
  |nil=>exact Zi _
  |cons x l=>have:=h x Zk;lia
 |n+1,l,nd,h=>by
  by_cases c:(n:Int) ∈ l
  ·have I:=dE n (l.erase n) (nd.erase _) λx b=>by
    have f:=h x (List.mem_of_mem_erase b);have d:x ≠ (n:Int):=λe=>(List.Nodup.not_mem_erase nd) (e ▸ b)
    lia
   rw[XD c] at I;have:=List.length_pos_of_mem c
   lia
  ·have I:=dE n l nd λx b=>by
    have f:=h x b;have d:x ≠ (n:Int):=λe=>c (e ▸ b)
    lia
   lia
mutual
noncomputable def sz:D->Nat
 |.non=>10
 |.bl _=>10
 |.int _=>60
 |.str x=>(reprText x).length
 |.tup ds=>szL ds+4
 |.lst ds=>szL ds+4
 |.dic ks ds=>szL ds+62 * ks.length+4
noncomputable def szL:List D->Nat
 |[]=>0
 |d::ds=>sz d+2+szL ds
end
mutual
noncomputable def bnd(B:Nat):D->Prop
 |.int i=>i.natAbs < B
 |.tup ds=>EW B ds
 |.lst ds=>EW B ds
 |.dic ks ds=>(∀k ∈ ks,∃i,k=Sum.inl i/\i.natAbs < B)/\ks.length=ds.length/\EW B ds
 |_=>True
noncomputable def EW(B:Nat):List D->Prop
 |[]=>True
 |d::ds=>bnd B d/\EW B ds
end
end Dw
namespace Ev
open PySem PySem.Spec PyProof.Rows L2
inductive D where
 |non |bl (b:Bool) |int (i:Int) |str (x:Str) |tup (ds:List D) |ref (n:Nat)
inductive Ob where
 |lst (ds:List D) |frz (ds:List D) |dic (ks:List (List NK)) (ds:List D) |tbl (x:Str) (pos:Pos) (qual:Str) |dfz (ks:List (List NK)) (ds:List D)
@[inline]abbrev Sto:=List Ob
@[inline]abbrev Rho:=List (Option D)
mutual
noncomputable def VD(K:Vp)(m:List Addr)(H:Hp):D->V->Prop
 |.non,v=>v = .non
 |.bl b,v=>v = .bl b
 |.int i,v=>v = .int i
 |.str x,v=>v = .str x
 |.tup ds,v=>∃a X,v = .ref a/\H a=aw (.tup X)/\VDs K m H ds X
 |.ref n,v=>∃a,m[n]?=aw a/\v = .ref a
noncomputable def VDs(K:Vp)(m:List Addr)(H:Hp):List D->List V->Prop
 |[],xs=>xs=[]
 |d::ds,xs=>∃x r,xs=x::r/\VD K m H d x/\VDs K m H ds r
end
structure Ext(m:List Addr)(H:Hp)(m':List Addr)(H':Hp):Prop where
 pre:m <+: m'
 keep:∀a o,H a=aw o->a ∉ m->H' a=aw o
 new:∀a,a ∈ m'->a ∉ m->H a=aD
abbrev DfO(o:Obj)(ks:List (List NK))(d:List D):Prop:=ks.length=d.length/\∃b,o.data = .dict b ks.length
abbrev ObR(K:Vp)(m:List Addr)(H:Hp)(a:Addr):Ob->Prop
 |.lst ds=>∃v,H a=aw (.lst v)/\VDs K m H ds v
 |.frz ds=>∃o v,H a=aw (.frz o (.lst v))/\VDs K m H ds v
 |.dic ks ds=>∃v,H a=aw (.dT (ks.zip v))/\ks.length=ds.length/\VDs K m H ds v
 |.tbl x pos qual=>EG K x a/\∃ps,TabOk a pos qual H ps
 |.dfz ks ds=>∃o v,H a=aw (.frz o (.dT (ks.zip v)))/\DfO o ks ds/\VDs K m H ds v
structure Rel(K:Vp)(m:List Addr)(S:Sto)(H:Hp):Prop where
 len:m.length=S.length
 nd:m.Nodup
 ob:∀ (i:Nat) (o:Ob),S[i]?=aw o->∃a,m[i]?=aw a/\ObR K m H a o
structure EnvR(K:Vp)(m:List Addr)(H:Hp)(ρ:Rho)(σ:L2.St):Prop where
 len:ρ.length=σ.length
 at_:∀ (i:Nat) (d:D),ρ[i]?=aw (aw d)->∃v,σ[i]?=aw (aw v)/\VD K m H d v
def Ext.refl(m:List Addr)(H:Hp):Ext m H m H:=⟨Yj m,λ_ _ h _=>h,λ_ h n=>absurd h n⟩
def Ext.trans(x:Ext m H m1 c)(y:Ext m1 c d H2):Ext m H d H2:=by
 refine⟨x.pre.trans y.pre,λa o h n=>?_,λa h n=>?_⟩
 ·have f:a ∉ m1:=λz=>by have:=x.new a z n;rw[this] at h;cases h
  exact y.keep a o (x.keep a o h n) f
 ·by_cases b:a ∈ m1
  ·exact x.new a b n
  ·cases e:H a with
   |none=>rfl
   |some o=>
    have:=x.keep a o e n;rw[y.new a h b] at this;cases this
section
variable {K:Vp} {m m':List Addr} {S S':Sto} {H H':Hp} {a:Addr}
def Rel.ex(R:Rel K m S H)(j:a ∈ m):∃o ob,H a=aw o/\ObR K m H a ob:=by
 obtain⟨i,hi,e⟩:=List.getElem_of_mem j;have f:i < S.length:=by rw[<-R.len];exact hi
 obtain⟨b,hb,r⟩:=R.ob i S[i] (gEG f);have:b=a:=by rw[gEG hi] at hb;rw[<-e];exact(Option.some.inj hb).symm
 subst this;cases c:S[i] with
 |lst d=>rw[c] at r;obtain⟨v,h,q⟩:=r;exact⟨_,.lst d,h,v,h,q⟩
 |frz d=>rw[c] at r;obtain⟨o,v,h,q⟩:=r;exact⟨_,.frz d,h,o,v,h,q⟩
 |dic ks d=>rw[c] at r;obtain⟨v,h,q⟩:=r;exact⟨_,.dic ks d,h,v,h,q⟩
 |tbl T p q=>rw[c] at r;obtain⟨e,ps,h⟩:=r;exact⟨_,.tbl T p q,h.at_,e,ps,h⟩
 |dfz ks d=>rw[c] at r;obtain⟨o,v,h,q⟩:=r;exact⟨_,.dfz ks d,h,o,v,h,q⟩
def Rel.no(R:Rel K m S H)(h:H a=aD):a ∉ m:=λz=>by
 obtain⟨o,_,e,_⟩:=R.ex z;rw[h] at e;cases e
def Rel.notTup(R:Rel K m S H)(h:H a=aw (.tup xs)):a ∉ m:=λz=>by
 obtain⟨o,ob,e,r⟩:=R.ex z;cases ob with
 |lst d=>obtain⟨v,q,_⟩:=r;rw[q] at h;cases h
 |frz d=>obtain⟨o,v,q,_⟩:=r;rw[q] at h;cases h
 |dic ks d=>obtain⟨v,q,_⟩:=r;rw[q] at h;cases h
 |tbl T p q=>obtain⟨e,ps,z⟩:=r;rw[z.at_] at h;cases h
 |dfz ks d=>obtain⟨o,v,q,_⟩:=r;rw[q] at h;cases h
def Rel.notCd{c:Addr}{Q:Str}(R:Rel K m S H)(h:H a=aw (cdO c Q)):a ∉ m:=λz=>by
 unfold cdO at h;obtain⟨o,ob,e,r⟩:=R.ex z;cases ob with
 |lst d=>obtain⟨v,q,_⟩:=r;rw[q] at h;cases h
 |frz d=>obtain⟨o,v,q,_⟩:=r;rw[q] at h;cases h
 |dic ks d=>obtain⟨v,q,_⟩:=r;rw[q] at h;cases h
 |tbl T p q=>obtain⟨e,ps,z⟩:=r;rw[z.at_] at h;cases h
 |dfz ks d=>obtain⟨o,v,q,_⟩:=r;rw[q] at h;cases h
def Tup.ext(R:Rel K m S H)(x:Ext m H m' H')(h:H a=aw (.tup xs)):H' a=aw (.tup xs):=x.keep _ _ h (R.notTup h)
def pW{i:Nat}(h:m <+: m')(e:m[i]?=aw a):m'[i]?=aw a:=by
 obtain⟨t,rfl⟩:=h;have hi:i < m.length:=(Zb.mp e).1;rw[Zw hi];exact e
mutual
theorem VD.mono0(pre:m <+: m')(T:∀a xs,H a=aw (.tup xs)->H' a=aw (.tup xs)):∀ {d:D} {v:V},VD K m H d v->VD K m' H' d v
 |.non,v,h=>by rw[VD] at h ⊢;exact h
 |.bl _,v,h=>by rw[VD] at h ⊢;exact h
 |.int _,v,h=>by rw[VD] at h ⊢;exact h
 |.str _,v,h=>by rw[VD] at h ⊢;exact h
 |.tup ds,v,h=>by
  rw[VD] at h ⊢;obtain⟨a,xs,e,q,r⟩:=h;exact⟨a,xs,e,T a xs q,VDs.mono0 pre T r⟩
 |.ref n,v,h=>by
  rw[VD] at h ⊢;obtain⟨a,q,e⟩:=h;exact⟨a,pW pre q,e⟩
theorem VDs.mono0(pre:m <+: m')(T:∀a xs,H a=aw (.tup xs)->H' a=aw (.tup xs)):∀ {b:List D} {v:List V},VDs K m H b v->VDs K m' H' b v
 |[],v,h=>by rw[VDs] at h ⊢;exact h
 |d::b,v,h=>by
  rw[VDs] at h ⊢;obtain⟨y,r,e,p,q⟩:=h;exact⟨y,r,e,VD.mono0 pre T p,VDs.mono0 pre T q⟩
end
def VD.mono(R:Rel K m S H)(x:Ext m H m' H')(h:VD K m H d v):VD K m' H' d v:=VD.mono0 x.pre (λ_ _=>Tup.ext R x) h
def VDs.mono(R:Rel K m S H)(x:Ext m H m' H')(h:VDs K m H d vs):VDs K m' H' d vs:=VDs.mono0 x.pre (λ_ _=>Tup.ext R x) h
def EnvR.mono(R:Rel K m S H)(x:Ext m H m' H')(h:EnvR K m H b σ):EnvR K m' H' b σ:=
 ⟨h.len,λi d e=>let ⟨v,p,q⟩:=h.at_ i d e;⟨v,p,VD.mono R x q⟩⟩
def VDs.length:∀ {b:List D} {v:List V},VDs K m H b v->b.length=v.length
 |[],v,h=>by rw[VDs] at h;rw[h];rfl
 |d::b,v,h=>by
  rw[VDs] at h;obtain⟨y,r,e,_,q⟩:=h;rw[e,Zo,Zo,VDs.length q]
def VDs.nil:VDs K m H [] []:=by rw[VDs]
def VDs.cons(h:VD K m H d v)(t:VDs K m H c b):VDs K m H (d::c) (v::b):=by rw[VDs];exact⟨v,b,rfl,h,t⟩
def VDs.get:∀ {c:List D} {b:List V} {i:Nat} {d:D},VDs K m H c b->c[i]?=aw d->∃v,b[i]?=aw v/\VD K m H d v
 |[],_,_,_,_,e=>by simp at e
 |d::c,b,0,d',h,e=>by
  rw[VDs] at h;obtain⟨y,r,rfl,p,q⟩:=h;simp at e;subst e;exact⟨y,rfl,p⟩
 |d::c,b,i+1,d',h,e=>by
  rw[VDs] at h;obtain⟨y,r,rfl,p,q⟩:=h;obtain⟨v,p1,f⟩:=VDs.get (i:=i) q (by simpa using e);exact⟨v,by simpa using p1,f⟩
def VDs.append:∀ {c f:List D} {v b:List V},VDs K m H c v->VDs K m H f b->VDs K m H (c++f) (v++b)
 |[],_,v,_,h,t=>by rw[VDs] at h;subst h;exact t
 |d::c,f,v,b,h,t=>by
  rw[VDs] at h;obtain⟨y,r,rfl,p,q⟩:=h;exact .cons p (VDs.append q t)
def VDs.drop:∀ {b:List D} {v:List V} (n:Nat),VDs K m H b v->VDs K m H (b.drop n) (v.drop n)
 |b,v,0,h=>h
 |[],v,n+1,h=>by rw[VDs] at h;subst h;exact .nil
 |d::b,v,n+1,h=>by
  rw[VDs] at h;obtain⟨y,r,rfl,p,q⟩:=h;exact VDs.drop n q
def VDs.take:∀ {b:List D} {v:List V} (n:Nat),VDs K m H b v->VDs K m H (b.take n) (v.take n)
 |b,v,0,h=>by simp only[YM];exact .nil
 |[],v,n+1,h=>by rw[VDs] at h;subst h;exact .nil
 |d::b,v,n+1,h=>by
  rw[VDs] at h;obtain⟨y,r,rfl,p,q⟩:=h;exact .cons p (VDs.take n q)
def VDs.set:∀ {c:List D} {b:List V} {i:Nat} {d:D} {v:V},VDs K m H c b->VD K m H d v->VDs K m H (c.set i d) (b.set i v)
 |[],b,_,_,_,h,_=>by rw[VDs] at h;subst h;exact .nil
 |_::c,b,0,d,v,h,p=>by
  rw[VDs] at h;obtain⟨y,r,rfl,_,q⟩:=h;exact .cons p q
 |_::c,b,i+1,d,v,h,p=>by
  rw[VDs] at h;obtain⟨y,r,rfl,f,q⟩:=h;exact .cons f (VDs.set q p)
def Ext.beside(R:Rel K m S H)(h:H a=aD)(o:HO):Ext m H m (upd H a o):=
 ⟨Yj m,λb u e _=>by rw[ac (aV e h)];exact e,λb z n=>absurd z n⟩
def Rel.ext_keep(R:Rel K m S H)(x:Ext m H m H')(k:∀b ∈ m,H' b=H b):Rel K m S H':=by
 refine⟨R.len,R.nd,λi o e=>?_⟩;obtain⟨b,hb,r⟩:=R.ob i o e;have c:b ∈ m:=Zd hb;refine⟨b,hb,?_⟩;cases o with
 |lst d=>obtain⟨v,p,q⟩:=r;exact⟨v,(k b c).trans p,VDs.mono R x q⟩
 |frz d=>obtain⟨o,v,p,q⟩:=r;exact⟨o,v,(k b c).trans p,VDs.mono R x q⟩
 |dic ks d=>obtain⟨v,p,l,q⟩:=r;exact⟨v,(k b c).trans p,l,VDs.mono R x q⟩
 |tbl T p q=>
  obtain⟨e,ps,z⟩:=r;refine⟨e,ps,(k _ c).trans z.at_,z.tr,λy B=>?_⟩;obtain⟨C,u,f⟩:=z.cd y B;refine⟨C,u,?_⟩;by_cases j:C ∈ m
  ·exact(k _ j).trans f
  ·exact x.keep _ _ f j
 |dfz ks d=>obtain⟨o,v,p,l,q⟩:=r;exact⟨o,v,(k b c).trans p,l,VDs.mono R x q⟩
def Rel.beside(R:Rel K m S H)(h:H a=aD)(o:HO):Rel K m S (upd H a o):=
 R.ext_keep (Ext.beside R h o) λb hb=>ac λz=>R.no h (z ▸ hb)
def Rel.adoptP{a:Addr}{ob:Ob}(R:Rel K m S H)(n:a ∉ m)(h:ObR K (m++[a]) H a ob):Rel K (m++[a]) (S++[ob]) H:=by
 have p:=YD m [a];have g:∀ {j:List D} {ws:List V},VDs K m H j ws->VDs K (m++[a]) H j ws:=λz=>VDs.mono0 p (λ_ _ t=>t) z;refine⟨by simp[R.len],Y5.mpr ⟨R.nd,by simp,λx u y c=>by simp at c;subst c;exactλz=>n (z ▸ u)⟩,λi o e=>?_⟩;by_cases hi:i < S.length
 ·rw[Zw hi] at e;obtain⟨b,hb,r⟩:=R.ob i o e;refine⟨b,pW p hb,?_⟩;cases o with
  |lst d=>obtain⟨v,p,q⟩:=r;exact⟨v,p,g q⟩
  |frz d=>obtain⟨o,v,p,q⟩:=r;exact⟨o,v,p,g q⟩
  |dic ks d=>obtain⟨v,p,l,q⟩:=r;exact⟨v,p,l,g q⟩
  |tbl T p q=>exact r
  |dfz ks d=>obtain⟨o,v,p,l,q⟩:=r;exact⟨o,v,p,l,g q⟩
 ·rw[Zp (by lia)] at e
  have f:i - S.length=0:=by
   have:=(Zb.mp e).1;simp at this;lia
  rw[f] at e;have k:ob=o:=by simpa using e
  subst k;refine⟨a,?_,h⟩;rw[Zp (by rw[R.len];lia),R.len,f];rfl
def Rel.adopt(R:Rel K m S H)(n:a ∉ m)(h:H a=aw (.lst v))(q:VDs K m H d v):Rel K (m++[a]) (S++[.lst d]) H:=R.adoptP n ⟨v,h,VDs.mono0 (YD m [a]) (λ_ _ t=>t) q⟩
def Ext.adopt(x:Ext m H m H')(h:H a=aD):Ext m H (m++[a]) H':=
 ⟨YD m [a],x.keep,λb hb nb=>by
  rcases ZM.mp hb with z |z
  ·exact absurd z nb
  ·simp at z;subst z;exact h⟩
def Rel.write(R:Rel K m S H){i:Nat}(hi:m[i]?=aw a)(q:VDs K m H L v):Ext m H m (upd H a (.lst v))/\Rel K m (S.set i (.lst L)) (upd H a (.lst v)):=by
 have k:a ∈ m:=Zd hi;have x:Ext m H m (upd H a (.lst v)):=⟨Yj m,λb u e n=>by rw[ac (show b ≠ a fromλz=>n (by rw[z];exact k))];exact e,λb z n=>absurd z n⟩;refine⟨x,by simp[R.len],R.nd,λj o e=>?_⟩;rw[Yt] at e;by_cases f:i=j
 ·subst f;rw[if_pos rfl] at e;split at e
  ·have X:=Option.some.inj e;subst X;exact⟨a,hi,v,az,VDs.mono R x q⟩
  ·cases e
 ·rw[if_neg f] at e;obtain⟨b,hb,r⟩:=R.ob j o e
  have ne:b ≠ a:=λz=>by
   subst z;have U:=Zb.mp hi;have O:=Zb.mp hb;exact f ((YS R.nd).mp (U.2.trans O.2.symm))
  refine⟨b,hb,?_⟩;cases o with
  |lst d=>obtain⟨c,p,q⟩:=r;exact⟨c,by rw[ac ne];exact p,VDs.mono R x q⟩
  |frz d=>obtain⟨o,c,p,q⟩:=r;exact⟨o,c,by rw[ac ne];exact p,VDs.mono R x q⟩
  |dic ks d=>obtain⟨c,p,l,q⟩:=r;exact⟨c,by rw[ac ne];exact p,l,VDs.mono R x q⟩
  |tbl T p q=>
   obtain⟨e,ps,z⟩:=r;refine⟨e,ps,by rw[ac ne];exact z.at_,z.tr,λI J=>?_⟩;obtain⟨C,Q,B⟩:=z.cd I J;exact⟨C,Q,by rw[ac (show C ≠ a fromλy=>R.notCd B (y.symm ▸ k))];exact B⟩
  |dfz ks d=>obtain⟨o,c,p,l,q⟩:=r;exact⟨o,c,by rw[ac ne];exact p,l,VDs.mono R x q⟩
def Rel.lst(R:Rel K m S H){i:Nat}(e:S[i]?=aw (.lst d)):∃a vs,m[i]?=aw a/\H a=aw (.lst vs)/\VDs K m H d vs:=by
 obtain⟨a,b,vs,p,q⟩:=R.ob i _ e;exact⟨a,vs,b,p,q⟩
end
abbrev aU(S:Sto)(n:Nat):Option (List D):=match S[n]? with
 |some (.lst ds)=>aw ds
 |some (.frz ds)=>aw ds
 |_=>aD
def Rel.seq{K:Vp}{m:List Addr}{S:Sto}{H:Hp}(R:Rel K m S H){i:Nat}{d:List D}(e:aU S i=aw d):∃a vs,m[i]?=aw a/\SqL K H a vs/\VDs K m H d vs:=by
 unfold aU at e;cases h:S[i]? with
 |none=>rw[h] at e;cases e
 |some o=>
  rw[h] at e;cases o with
  |lst c=>cases e;obtain⟨a,b,vs,p,q⟩:=R.ob i _ h;exact⟨a,vs,b,.inl (.inl p),q⟩
  |frz c=>cases e;obtain⟨a,b,o,vs,p,q⟩:=R.ob i _ h;exact⟨a,vs,b,.inl (.inr ⟨o,p⟩),q⟩
  |dic ks c=>cases e
  |tbl T p q=>cases e
  |dfz ks d=>cases e
@[inline]abbrev XE:=Rho->Sto->Option (D × Sto)
@[inline]abbrev XT:=Rho->Sto->Option (Bool × Sto)
@[inline]abbrev XA:=Rho->Sto->Option (List D × Sto)
abbrev bnd{c b:Type}(x:Option (c × Sto))(f:c->Sto->Option (b × Sto)):Option (b × Sto):=match x with
 |none=>aD
 |some (a,S)=>f a S
def ab{c b:Type}{x:Option (c × Sto)}{f:c->Sto->Option (b × Sto)}{r:b × Sto}(h:bnd x f=aw r):∃a S,x=aw (a,S)/\f a S=aw r:=by
 unfold bnd at h;cases x with
 |none=>cases h
 |some p=>exact⟨p.1,p.2,rfl,h⟩
structure Aft(K:Vp)(m:List Addr)(H:Hp)(S':Sto)(m':List Addr)(H':Hp):Prop where
 ext:Ext m H m' H'
 rel:Rel K m' S' H'
abbrev tE(K:Vp)(x:XE):TE:=λk H Q=>∃m c S d f,EnvR K m H c k/\Rel K m S H/\x c S=aw (d,f)/\∀j b v,Aft K m H f j b->VD K j b d v->Q v b
abbrev tT(K:Vp)(x:XT):TT:=λj H Q=>∃m c S b f,EnvR K m H c j/\Rel K m S H/\x c S=aw (b,f)/\∀k d,Aft K m H f k d->Q b d
abbrev tAr(K:Vp)(x:XA):TA:=λk H Q=>∃m c S f d,EnvR K m H c k/\Rel K m S H/\x c S=aw (f,d)/\∀j b v,Aft K m H d j b->VDs K j b f v->Q v b
abbrev SqB(K:Vp)(T:Bool)(H:Hp)(a:Addr)(v:List V):Prop:=if T=aN then H a=aw (.tup v) else SqL K H a v
abbrev fB(K:Vp)(x:XA):TE:=λl H Q=>∃m f S k j,EnvR K m H f l/\Rel K m S H/\x f S=aw (k,j)/\∀d c a v,Aft K m H j d c->c a=aw (.lst v)->a ∉ d->(∀b,b ∈ m->b ≠ a)->H a=aD->VDs K d c k v->Q (.ref a) c
section
variable {X:Cx} {e:Expr} {K:Vp} {m m1 m2:List Addr} {H H1 H2:Hp} {S S1 S2:Sto}
def PE.imp(h:PE X e t)(f:∀c H Q,t' c H Q->t c H Q):PE X e t':=λb s c H Q I q=>h b s c H Q I (f c H Q q)
def PT.imp(h:PT X e t)(f:∀c H Q,t' c H Q->t c H Q):PT X e t':=λb s c H Q I q=>h b s c H Q I (f c H Q q)
def PA.imp(h:PA X d t)(f:∀c H Q,t' c H Q->t c H Q):PA X d t':=λp b s c H Q I q=>h p b s c H Q I (f c H Q q)
def PS.imp{st:Stmt}{t t':TS}(h:PS X st t)(f:∀D c H,t' D c H->t D c H):PS X st t':=λb s c H D I q=>h b s c H D I (f D c H q)
def PSs.imp{st:List Stmt}{t t':TS}(h:PSs X st t)(f:∀D c H,t' D c H->t D c H):PSs X st t':=λb s c H D I q=>h b s c H D I (f D c H q)
def PI.imp(h:PI X T it t)(f:∀c H Q,t' c H Q->t c H Q):PI X T it t':=λb s c H Q I q=>h b s c H Q I (f c H Q q)
def PI.or(h:PI X T it t)(h':PI X T it t'):PI X T it (λc H Q=>t c H Q\/t' c H Q):=λb s c H Q I q=>q.elim (h b s c H Q I) (h' b s c H Q I)
def OpR.imp(h:OpR X f r)(g:∀x y H Q,r' x y H Q->r x y H Q):OpR X f r':=λb s d H x y v u Q I c j q=>h b s d H x y v u Q I c j (g _ _ _ _ q)
def OpR.or(h:OpR X f r)(h':OpR X f k):OpR X f (λx y H Q=>r x y H Q\/k x y H Q):=λb s d H x y v u Q I c j q=>
 q.elim (h b s d H x y v u Q I c j) (h' b s d H x y v u Q I c j)
def aR.imp(h:aR X f r)(g:∀x H Q,r' x H Q->r x H Q):aR X f r':=λb s j H c u Q I d q=>h b s j H c u Q I d (g _ _ _ q)
def aR.or(h:aR X f r)(h':aR X f k):aR X f (λx H Q=>r x H Q\/k x H Q):=λb s j H c u Q I d q=>
 q.elim (h b s j H c u Q I d) (h' b s j H c u Q I d)
def Aft.refl(R:Rel K m S H):Aft K m H S m H:=⟨Ext.refl m H,R⟩
def Aft.trans(x:Aft K m H S1 m1 H1)(y:Aft K m1 H1 S2 m2 H2):Aft K m H S2 m2 H2:=⟨x.ext.trans y.ext,y.rel⟩
abbrev rS(K:Vp)(f:D->D->Sto->Option (D × Sto)):R2:=λv w H Q=>∃m S a b d j,Rel K m S H/\VD K m H a v/\VD K m H b w/\f a b S=aw (d,j)/\∀k c u,Aft K m H j k c->VD K k c d u->Q u c
abbrev rS1(K:Vp)(f:D->Sto->Option (D × Sto)):V->Hp->VK->Prop:=λv H Q=>∃m S a d c,Rel K m S H/\VD K m H a v/\f a S=aw (d,c)/\∀j b u,Aft K m H c j b->VD K j b d u->Q u b
abbrev rSA(K:Vp)(f:List D->Sto->Option (D × Sto)):List V->Hp->VK->Prop:=λv H Q=>∃m S j d c,Rel K m S H/\VDs K m H j v/\f j S=aw (d,c)/\∀k b u,Aft K m H c k b->VD K k b d u->Q u b
abbrev rSq(K:Vp)(f:Bool->List D->Sto->Option (D × Sto)):V->Hp->VK->Prop:=λv H Q=>∃m S T k a j d c,Rel K m S H/\v = .ref a/\SqB K T H a j/\VDs K m H k j/\f T k S=aw (d,c)/\∀l b u,Aft K m H c l b->VD K l b d u->Q u b
abbrev se(f:D->D->Sto->Option (D × Sto))(x y:XE):XE:=λc S=>bnd (x c S) λa S1=>bnd (y c S1) λb S2=>f a b S2
abbrev xUn(f:D->Sto->Option (D × Sto))(x:XE):XE:=λb S=>bnd (x b S) λa S1=>f a S1
abbrev lJ(f:List D->Sto->Option (D × Sto))(x:XA):XE:=λb S=>bnd (x b S) λa S1=>f a S1
abbrev pX(f:Bool->List D->Sto->Option (D × Sto))(x:XA):XE:=λb S=>bnd (x b S) λd S1=>f aS d S1
abbrev av(d:D)(S:Sto):Option (Bool × List D):=match d with
 |.tup b=>aw (aN,b)
 |.ref n=>(aU S n).map λb=>(aS,b)
 |_=>aD
abbrev ao(f:Bool->List D->Sto->Option (D × Sto))(d:D)(S:Sto):Option (D × Sto):=match av d S with
 |some r=>f r.1 r.2 S
 |none=>aD
abbrev pY(f:Bool->List D->Sto->Option (D × Sto))(x:XE):XE:=λb S=>bnd (x b S) λd S1=>ao f d S1
def pZ{f:D->D->Sto->Option (D × Sto)}{x y:XE}{l:L2.St}{H:Hp}{Q:VK}(h:tE K (se f x y) l H Q):tOp (rS K f) (tE K x) (tE K y) l H Q:=by
 obtain⟨m,k,S,d,L,E,R,e,q⟩:=h;obtain⟨a,S1,B,e⟩:=ab e;obtain⟨b,S2,J,e⟩:=ab e;refine⟨m,k,S,a,S1,E,R,B,λm1 H1 v c I=>⟨m1,k,S1,b,S2,E.mono R c.ext,c.rel,J,λm2 H2 w j T=>?_⟩⟩;exact⟨m2,S2,a,b,d,L,j.rel,I.mono c.rel j.ext,T,e,λO z u C vd=>q O z u ((c.trans j).trans C) vd⟩
def Ba{f:D->Sto->Option (D × Sto)}{x:XE}{c:L2.St}{H:Hp}{Q:VK}(h:tE K (xUn f x) c H Q):tUn (rS1 K f) (tE K x) c H Q:=by
 obtain⟨m,j,S,d,B,E,R,e,q⟩:=h;obtain⟨a,S1,z,e⟩:=ab e;exact⟨m,j,S,a,S1,E,R,z,λm1 H1 v b y=>⟨m1,S1,a,d,B,b.rel,y,e,λC k u l vd=>q C k u (b.trans l) vd⟩⟩
def Bb{f:List D->Sto->Option (D × Sto)}{x:XA}{c:L2.St}{H:Hp}{Q:VK}(h:tE K (lJ f x) c H Q):tCB (rSA K f) (tAr K x) c H Q:=by
 obtain⟨m,j,S,d,B,E,R,e,q⟩:=h;obtain⟨a,S1,z,e⟩:=ab e;exact⟨m,j,S,a,S1,E,R,z,λm1 H1 v b y=>⟨m1,S1,a,d,B,b.rel,y,e,λC k u l vd=>q C k u (b.trans l) vd⟩⟩
def Kq{f:Bool->List D->Sto->Option (D × Sto)}{x:XA}{c:L2.St}{H:Hp}{Q:VK}(h:tE K (pX f x) c H Q):tUn (rSq K f) (fB K x) c H Q:=by
 obtain⟨m,k,S,d,B,E,R,e,q⟩:=h;obtain⟨j,S1,z,e⟩:=ab e;exact⟨m,k,S,j,S1,E,R,z,λm1 H1 a v b I _ _ _ vd=>⟨m1,S1,aS,j,a,v,d,B,b.rel,rfl,show SqL K H1 a v from SqL.of I,vd,e,λC y u l vd=>q C y u (b.trans l) vd⟩⟩
abbrev yW(i:Nat):XE:=λb S=>match b[i]? with
 |some (aw d)=>aw (d,S)
 |_=>aD
abbrev xC(d:D):XE:=λ_ S=>aw (d,S)
def Kr{i:Nat}(h:tE K (yW i) j H Q):yB i j H Q:=by
 obtain⟨m,c,S,d,k,E,R,e,q⟩:=h;unfold yW at e;cases b:c[i]? with
 |none=>rw[b] at e;cases e
 |some o=>
  rw[b] at e;cases o with
  |none=>cases e
  |some l=>
   cases e;obtain⟨v,f,vd⟩:=E.at_ i d b;exact⟨v,f,q m H v (Aft.refl R) vd⟩
def Bc(b:∀m H,VD K m H d v)(h:tE K (xC d) c H Q):tC v c H Q:=by
 obtain⟨m,f,S,k,j,E,R,e,q⟩:=h;cases e;exact q m H v (Aft.refl R) (b m H)
def p0:VD K m H .non .non:=by rw[VD]
def cp:VD K m H (.bl b) (.bl b):=by rw[VD]
def bn{i:Int}:VD K m H (.int i) (.int i):=by rw[VD]
def uR:VD K m H (.str x) (.str x):=by rw[VD]
def lK(h:H a=aw (.tup v))(q:VDs K m H d v):VD K m H (.tup d) (.ref a):=by rw[VD];exact⟨a,v,rfl,h,q⟩
def VD.ints{i:Int}(h:VD K m H (.int i) v):v = .int i:=by rw[VD] at h;exact h
def VD.bls(h:VD K m H (.bl i) v):v = .bl i:=by rw[VD] at h;exact h
def VD.strs(h:VD K m H (.str i) v):v = .str i:=by rw[VD] at h;exact h
def VD.nons(h:VD K m H .non v):v = .non:=by rw[VD] at h;exact h
def VD.tups(h:VD K m H (.tup d) v):∃a vs,v = .ref a/\H a=aw (.tup vs)/\VDs K m H d vs:=by rw[VD] at h;exact h
def VD.refs{n:Nat}(h:VD K m H (.ref n) v):∃a,m[n]?=aw a/\v = .ref a:=by rw[VD] at h;exact h
abbrev EX:XA:=λ_ S=>aw ([],S)
abbrev xa(x:XE)(y:XA):XA:=λb S=>bnd (x b S) λa S1=>bnd (y b S1) λc S2=>aw (a::c,S2)
def Ks(h:tAr K EX b H Q):jl b H Q:=by
 obtain⟨m,c,S,f,d,E,R,e,q⟩:=h;cases e;exact q m H [] (Aft.refl R) .nil
def EY{x:XE}{y:XA}{j:L2.St}{H:Hp}{Q:List V->Hp->Prop}(h:tAr K (xa x y) j H Q):cg (tE K x) (tAr K y) j H Q:=by
 obtain⟨m,d,S,C,B,E,R,e,q⟩:=h;obtain⟨a,S1,u,e⟩:=ab e;obtain⟨b,S2,k,e⟩:=ab e;cases e;refine⟨m,d,S,a,S1,E,R,u,λm1 H1 v c l=>⟨m1,d,S1,b,_,E.mono R c.ext,c.rel,k,λm2 H2 w f z=>?_⟩⟩;exact q m2 H2 _ (c.trans f) (.cons (l.mono c.rel f.ext) z)
abbrev lP(d:List D)(S:Sto):Option (D × Sto):=if d.length<=1000 then aw (.tup d,S) else aD
def lQ{n:Nat}(h:n<=1000):n<=sizeLine:=by rw[Ut];lia
def iO{d:List D}{v:List V}{Q:VK}(R:Rel K m S H)(vd:VDs K m H d v)(q:∀f b u,Aft K m H S f b->VD K f b (.tup d) u->Q u b):∀p,H p=aD->Q (.ref p) (upd H p (.tup v)):=λp c=>
 q m _ _ ⟨Ext.beside R c _,R.beside c _⟩ (lK az (vd.mono R (Ext.beside R c _)))
def p9{d:List D}{v:List V}{Q:VK}(R:Rel K m S H)(vd:VDs K m H d v)(q:∀f c u,Aft K m H (S++[.lst d]) f c->VD K f c (.ref S.length) u->Q u c):∀p,H p=aD->Q (.ref p) (upd H p (.lst v)):=λp b=>by
 have x:=Ext.beside R b (.lst v);refine q (m++[p]) _ _ ⟨x.adopt b,(R.beside b _).adopt (R.no b) az (vd.mono R x)⟩ ?_;rw[VD];exact⟨p,by rw[Zp (by rw[R.len];exact Zi _),R.len,Z8];rfl,rfl⟩
def iP{j:List D}{v:List V}{Q:VK}(R:Rel K m S H)(vd:VDs K m H j v)(q:∀f d a v,Aft K m H S f d->d a=aw (.lst v)->a ∉ f->(∀b,b ∈ m->b ≠ a)->H a=aD->VDs K f d j v->Q (.ref a) d):∀p,H p=aD->Q (.ref p) (upd H p (.lst v)):=λp c=>
 q m _ _ _ ⟨Ext.beside R c _,R.beside c _⟩ az (R.no c) (λb hb z=>R.no c (z ▸ hb)) c (vd.mono R (Ext.beside R c _))
def Kt{x:XA}{c:L2.St}{H:Hp}{Q:VK}(h:tE K (lJ lP x) c H Q):Ka (tAr K x) c H Q:=by
 obtain⟨m,d,S,C,B,E,R,e,q⟩:=h;obtain⟨a,S1,k,e⟩:=ab e;unfold lP at e;split at e
 ·rename_i y;cases e;exact⟨m,d,S,a,_,E,R,k,λm1 H1 I b v=>⟨lQ (by rw[<-v.length];exact y),iO b.rel v λz j u f l=>q z j u (b.trans f) l⟩⟩
 ·cases e
abbrev om(x:XA):XA:=λb S=>bnd (x b S) λd S1=>if d.length<=1000 then aw (d,S1) else aD
def EZ{x:XA}{j:L2.St}{H:Hp}{Q:VK}(h:fB K (om x) j H Q):O6 (tAr K x) j H Q:=by
 obtain⟨m,l,S,Y,S',E,R,e,q⟩:=h;obtain⟨a,S1,J,e⟩:=ab e;split at e
 ·rename_i B;cases e;refine⟨m,l,S,_,_,E,R,J,λm1 H1 Z c v=>⟨lQ (by rw[<-v.length];exact B),iP c.rel v λO y u U I C L k d T=>?_⟩⟩
  have z:H u=aD:=by
   cases e:H u with
   |none=>rfl
   |some o=>
    by_cases f:u ∈ m
    ·exact absurd rfl (k u (c.ext.pre.subset f))
    ·have:=c.ext.keep u o e f;rw[this] at d;cases d
  exact q O y u U (c.trans I) C L (λb hb=>k b (c.ext.pre.subset hb)) z T
 ·cases e
def eF{d:D}{v:V}{tu:Bool}{ds:List D}(R:Rel K m S H)(vd:VD K m H d v)(e:av d S=aw (tu,ds)):∃a vs,v = .ref a/\SqB K tu H a vs/\VDs K m H ds vs:=by
 unfold av at e;cases d with
 |tup f=>
  cases e;obtain⟨a,vs,e,q,r⟩:=vd.tups;exact⟨a,vs,e,q,r⟩
 |ref n=>
  obtain⟨a,c,j⟩:=vd.refs;cases hs:aU S n with
  |none=>simp[hs] at e
  |some f=>
   simp[hs] at e;obtain⟨rfl,rfl⟩:=e;obtain⟨b,vs,hb,q,r⟩:=R.seq hs;rw[c] at hb;cases hb;exact⟨a,vs,j,q,r⟩
 |_=>cases e
def Ku{f:Bool->List D->Sto->Option (D × Sto)}{x:XE}{k:L2.St}{H:Hp}{Q:VK}(h:tE K (pY f x) k H Q):tUn (rSq K f) (tE K x) k H Q:=by
 obtain⟨m,l,S,d,L,E,R,e,q⟩:=h;obtain⟨a,S1,B,e⟩:=ab e;refine⟨m,l,S,a,S1,E,R,B,λm1 H1 v c J=>?_⟩;unfold ao at e;split at e
 ·rename_i r hi;obtain⟨b,C,T,y,j⟩:=eF (tu:=r.1) (ds:=r.2) c.rel J hi;exact⟨m1,S1,r.1,r.2,b,C,d,L,c.rel,T,y,j,e,λO z u I vd=>q O z u (c.trans I) vd⟩
 ·cases e
abbrev dP(x:XA):XE:=λb S=>bnd (x b S) λd S1=>aw (.ref S1.length,S1++[.lst d])
def sf{x:XA}{f:L2.St}{H:Hp}{Q:VK}(h:tE K (dP x) f H Q):fB K x f H Q:=by
 obtain⟨m,j,S,d,B,E,R,e,q⟩:=h;obtain⟨v,S1,l,e⟩:=ab e;cases e;refine⟨m,j,S,v,S1,E,R,l,λm1 H1 a C c k y I u vd=>?_⟩;refine q (m1++[a]) H1 _ ⟨⟨c.ext.pre.trans (YD _ _),c.ext.keep,λb hb nb=>?_⟩,c.rel.adopt y k vd⟩ ?_
 ·rcases ZM.mp hb with z |z
  ·exact c.ext.new b z nb
  ·simp at z;subst z;exact u
 ·rw[VD];exact⟨a,by rw[Zp (by rw[c.rel.len];exact Zi _),c.rel.len,Z8];rfl,rfl⟩
end
abbrev eqL(f:D->D->Option Bool):List D->List D->Option Bool
 |[],[]=>aw aN
 |x::xs,y::ys=>match f x y,eqL f xs ys with
  |some a,aw b=>aw (a && b)
  |_,_=>aD
 |_,_=>aw aS
abbrev eqB:D->D->Option Bool
 |.non,.non=>aw aN
 |.bl a,.bl b=>aw (a == b)
 |.int a,.int b=>aw (a == b)
 |.str a,.str b=>aw (a == b)
 |.bl a,.int b=>aw ((if a then 1 else 0) == b)
 |.int a,.bl b=>aw (a == (if b then 1 else 0))
 |_,_=>aD
abbrev bR:List D->Option (List Int)
 |[]=>aw []
 |d::ds=>match d,bR ds with
  |.int i,aw ms=>aw (i::ms)
  |_,_=>aD
abbrev eqT(x y:D):Option Bool:=match x,y with
 | .tup xs,.tup ys=>(match bR xs,bR ys with
  |some a,aw b=>aw (decide (a=b))
  | _,_=>aD)
 |x,y=>eqB x y
abbrev eqD(_:Nat)(S:Sto)(x y:D):Option Bool:=match x,y with
 |.tup xs,.tup ys=>eqL eqB xs ys
 |.ref a,.ref b=>match aU S a,aU S b with
  |some xs,aw ys=>if a=b then aw aN else if xs.length=ys.length then eqL eqT xs ys else aw aS
  |_,_=>aD
 |x,y=>eqB x y
section
variable {X:Cx} {K:Vp} {m:List Addr} {H:Hp} {S:Sto}
def sg{f:D->D->Option Bool}:∀ {xs Y:List D} {b:Bool},eqL f xs Y=aw b->∃g:Nat->Bool,(∀j x y,xs[j]?=aw x->Y[j]?=aw y->f x y=aw (g j))/\b=((Ze (min xs.length Y.length)).all g && (xs.length == Y.length))
 |[],[],b,h=>by simp[eqL] at h;exact⟨λ_=>aN,λj x y e=>by simp at e,by simp[<-h]⟩
 |[],_::_,b,h=>by simp[eqL] at h;exact⟨λ_=>aN,λj x y e=>by simp at e,by simp[<-h]⟩
 |_::_,[],b,h=>by simp[eqL] at h;exact⟨λ_=>aN,λj x y _ e=>by simp at e,by simp[<-h]⟩
 |x::xs,y::Y,b,h=>by
  rw[eqL] at h;split at h
  ·rename_i a c B z;cases h;obtain⟨g,l,q⟩:=sg z;refine⟨λj=>match j with |0=>a |j+1=>g j,λj v u k d=>?_,?_⟩
   ·cases j with
    |zero=>cases k;cases d;exact B
    |succ j=>exact l j v u k d
   ·rw[q];simp only[Zo,Nat.succ_min_succ,List.range_succ_eq_map,Yn,Y6];rw[Bool.and_assoc,show(xs.length+1 == Y.length+1)=(xs.length == Y.length) by simp];rfl
  ·cases h
def xc{f:List V}{its:List Value}{xs:List D}(p:VDs K m H xs f)(r:aP f its){j:Nat}(q:j < its.toArray.size):∃x v,xs[j]?=aw x/\VD K m H x v/\aB v its.toArray[j]:=by
 have b:j < its.length:=by simpa using q
 have l1:=p.length;have L:=r.length;obtain⟨v,k,vd⟩:=p.get (i:=j) (d:=xs[j]'(by lia)) (gEG _);obtain⟨u,c,l⟩:=r.get k;rw[gEG b] at c;cases c;exact⟨_,v,gEG (by lia),vd,l⟩
def uS{A:Around}{s:Shared}{x y:D}{v w:V}{u U:Value}{b:Bool}(d:VD K m H x v)(c:VD K m H y w)(r1:aB v u)(r2:aB w U)(h:eqB x y=aw b):Vk A s u U b/\SeqAt.RcAt A s u U b/\Vl A s u U (!b):=by
 unfold eqB at h;split at h
 ·cases h;cases d.nons;cases c.nons;cases r1;cases r2;exact⟨.same _,.none_none,.none_none⟩
 ·cases h;cases d.bls;cases c.bls;cases r1;cases r2;exact⟨.bool_bool _ _,.bool_bool _ _,.bool_bool _ _⟩
 ·cases h;cases d.ints;cases c.ints;obtain⟨t,rfl⟩:=r1;obtain⟨T,rfl⟩:=r2;exact⟨.int_int _ _ _ _,.int_int _ _ _ _,.int_int _ _ _ _⟩
 ·cases h;cases d.strs;cases c.strs;obtain⟨t,rfl⟩:=r1;obtain⟨T,rfl⟩:=r2;exact⟨.str_str _ _ _ _,.str_str _ _ _ _,.str_str _ _ _ _⟩
 ·cases h;cases d.bls;cases c.ints;cases r1;obtain⟨T,rfl⟩:=r2;exact⟨.bool_int _ _ _,.bool_int _ _ _,.bool_int _ _ _⟩
 ·cases h;cases d.ints;cases c.bls;obtain⟨t,rfl⟩:=r1;cases r2;exact⟨.int_bool _ _ _,.int_bool _ _ _,.int_bool _ _ _⟩
 ·cases h
def sh{f:D->D->Option Bool}{s:Shared}{A:Around}{xs Y:List D}{C B:List V}{I d:List Value}{b:Bool}(p:VDs K m H xs C)(q:VDs K m H Y B)(r1:aP C I)(r2:aP B d)(h:eqL f xs Y=aw b)(hf:∀ {x y:D} {v w:V} {u U:Value} {c:Bool},VD K m H x v->VD K m H y w->aB v u->aB w U->f x y=aw c->Vk A.in1 s u U c):∃g:Nat->Bool,(∀j (J:j < I.toArray.size) (z:j < d.toArray.size),Vk A.in1 s I.toArray[j] d.toArray[j] (g j))/\b=((Ze (min I.toArray.size d.toArray.size)).all g && (I.toArray.size == d.toArray.size)):=by
 obtain⟨g,Q,hb⟩:=sg h;refine⟨g,λj J z=>?_,by rw[hb,Zj,Zj,<-r1.length,<-p.length,<-r2.length,<-q.length]⟩;obtain⟨x,v,L,O,k⟩:=xc p r1 J;obtain⟨y,w,T,Z,l⟩:=xc q r2 z;exact hf O Z k l (Q j x y L T)
def bf:∀ {ns:List Int} {u:List Value},aP (ns.map V.int) u->IntsAre u ns
 |[],_,h=>by cases h;exact .nil
 |n::ns,_,h=>by
  cases h with
  |cons r1 r2=>obtain⟨t,rfl⟩:=r1;exact .cons n t (bf r2)
def cq:∀ {b:List D} {ns:List Int},bR b=aw ns->b=ns.map D.int
 |[],_,e=>by cases e;rfl
 |d::b,ns,e=>by
  simp only[bR] at e;split at e
  ·rename_i i f c;cases e;rw[cq c];rfl
  ·cases e
def bF:∀ {ns:List Int} {b:List V},VDs K m H (ns.map D.int) b->b=ns.map V.int
 |[],_,h=>by rw[Z4,VDs] at h;exact h
 |n::ns,_,h=>by
  rw[Zy,VDs] at h;obtain⟨v,r,rfl,d,c⟩:=h;rw[d.ints,bF c];rfl
def jt:∀ (ns:List Int),VDs K m H (ns.map D.int) (ns.map V.int)
 |[]=>by rw[Z4,Z4,VDs]
 |n::ns=>by rw[Zy,Zy,VDs];exact⟨_,_,rfl,bn,jt ns⟩
def kD{b:List Value}{ns:List Int}(h:IntsAre b ns):∀ (j:Nat) v,b[j]?=aw v->∃n t,ns[j]?=aw n/\v = .int n t:=by
 induction h with
 |nil=>intro j v e;simp at e
 |cons a t _ I=>
  intro j v e;cases j with
  |zero=>cases e;exact⟨a,t,rfl,rfl⟩
  |succ j=>exact I j v (by simpa using e)
def ju{A:Around}{s:Shared}{p q:Addr}{xs y:Array Value}{ns ms:List Int}(Q:A.units < cLine)(J:s.heap.IsTuple p xs)(C:s.heap.IsTuple q y)(I:IntsAre xs.toList ns)(f:IntsAre y.toList ms):∃e,Vk A s (.ref p) (.ref q) e/\(e=aN ↔ ns=ms):=by
 by_cases e:p=q
 ·subst e;obtain⟨o,T,_,n,hd⟩:=J;obtain⟨o',c,_,Z,d⟩:=C;rw[T] at c;cases c;rw[hd] at d;cases d
  have en:ns=ms:=by
   have l1:=I.length;have L:=f.length;refine YJ λj=>?_;cases z:xs.toList[j]? with
   |none=>
    have:=Z9.mp z;rw[Zv (by lia),Zv (by lia)]
   |some v=>
    obtain⟨a,t,k,rfl⟩:=kD I j v z;obtain⟨b,t',B,l⟩:=kD f j _ z;cases l;rw[k,B]
  exact⟨aN,.same _,by simp[en]⟩
 ·refine⟨_,.of_refs e (SeqAt.RcAt.tuples (e:=λj=>decide (ns[j]?=ms[j]?)) J C Q λj U O=>?_),?_⟩
  ·obtain⟨a,t,k,l⟩:=kD I j xs[j] (by simp[U]);obtain⟨b,u,B,Y⟩:=kD f j y[j] (by simp[O]);rw[k,B,l,Y,show decide (aw a=aw b)=(a == b) by simp[Xe]];exact .int_int a t b u
  ·have l1:ns.length=xs.size:=by rw[<-I.length];exact Zr
   have L:ms.length=y.size:=by rw[<-f.length];exact Zr
   rw[<-l1,<-L,uw,decide_eq_true_eq]
def Kv{A:Around}{d:List (Addr × Obj)}{L:L2.St}{s:Shared}(I:Inv X d L H s)(C:A.units < cLine){x y:D}{v w:V}{u U:Value}{b:Bool}(k:VD X.K m H x v)(j:VD X.K m H y w)(r1:aB v u)(r2:aB w U)(h:eqT x y=aw b):Vk A s u U b:=by
 unfold eqT at h;split at h
 ·split at h
  ·rename_i a c B Y;cases h;have:=cq B;subst this;have:=cq Y;subst this;obtain⟨p,vs,rfl,l,z⟩:=k.tups;obtain⟨q,ws,rfl,f,Z⟩:=j.tups;have:=bF z;subst this;have:=bF Z;subst this;cases r1;cases r2;obtain⟨i1,Q,O,_⟩:=I.tuple (.of l);obtain⟨i2,J,T,_⟩:=I.tuple (.of f);obtain⟨e,he,hi⟩:=ju (A:=A) (s:=s) C O T (by simpa using bf Q) (by simpa using bf J);have:e=decide (a=c):=by rw[Yg];simpa using hi
   rw[<-this];exact he
  ·cases h
 ·exact(uS k j r1 r2 h).1
def Pj{A:Around}{J:List (Addr × Obj)}{σ:L2.St}{s:Shared}{x y:D}{v w:V}{u u':Value}{b:Bool}(I:Inv X J σ H s)(R:Rel X.K m S H)(n:Nat)(Q:VD X.K m H x v)(O:VD X.K m H y w)(r1:aB v u)(r2:aB w u')(h:eqD n S x y=aw b)(hu:A.units+1 < cLine) :
  SeqAt.RcAt A s u u' b/\Vl A s u u' (!b):=by
 have d:A.units < cLine:=by lia
 unfold eqD at h;split at h
 ·obtain⟨a,vs,rfl,sq,p⟩:=Q.tups;obtain⟨a',ws,rfl,l,q⟩:=O.tups;cases r1;cases r2;obtain⟨L,k1,T,_⟩:=I.tuple (.of sq);obtain⟨i2,Z,B,_⟩:=I.tuple (.of l);obtain⟨g,U,rfl⟩:=sh (s:=s) (A:=A) p q k1 Z h λv1 v2 u1 u2 e=>(uS v1 v2 u1 u2 e).1;exact⟨SeqAt.RcAt.tuples T B d U,PySem.SeqAt.RcNeAt.tuples T B d U⟩
 ·rename_i k k';obtain⟨c,hc,rfl⟩:=Q.refs;obtain⟨c',Y,rfl⟩:=O.refs;cases r1;cases r2;split at h
  ·rename_i es es' hs hs';obtain⟨b1,vs,hb,sq,p⟩:=R.seq hs;rw[hb] at hc;cases hc;obtain⟨b2,ws,C,l,q⟩:=R.seq hs';rw[C] at Y;cases Y;obtain⟨L,k1,T,_⟩:=I.list sq;obtain⟨i2,Z,B,_⟩:=I.list l;split at h
   ·rename_i hk;subst hk;rw[hb] at C;cases C;cases h;have z:=SeqAt.RcAt.lists (A:=A) (e:=λ_=>aN) T.isList T.isList rfl d λj Q O=>SeqAt.EqAt.same _;have z':=PySem.SeqAt.RcNeAt.lists (A:=A) (e:=λ_=>aN) T.isList T.isList rfl d λj Q O=>SeqAt.EqAt.same _;rw[show(Ze L.toArray.size).all (λ_=>aN)=aN by simp] at z z';exact⟨z,z'⟩
   ·have l1:L.toArray.size=es.length:=by rw[Zj,<-k1.length,<-p.length]
    have l2:i2.toArray.size=es'.length:=by rw[Zj,<-Z.length,<-q.length]
    split at h
    ·rename_i hl;obtain⟨g,U,rfl⟩:=sh (s:=s) (A:=A) p q k1 Z h λv1 v2 u1 u2 e=>Kv I (by show A.units+1 < cLine;lia) v1 v2 u1 u2 e;have f:L.toArray.size=i2.toArray.size:=by rw[l1,l2,hl]
     rw[<-f,WF,beq_self_eq_true,Wz];exact⟨SeqAt.RcAt.lists T.isList B.isList f d U,PySem.SeqAt.RcNeAt.lists T.isList B.isList f d U⟩
    ·rename_i hl;cases h;have f:(L.toArray.size != i2.toArray.size)=aN:=by rw[l1,l2];simpa using hl
     exact⟨SeqAt.RcAt.lists_lengths T.isList B.isList f d,PySem.SeqAt.RcNeAt.lists_lengths T.isList B.isList f d⟩
  ·cases h
 ·exact(uS Q O r1 r2 h).2
abbrev eqS(x y:D)(S:Sto):Option (D × Sto):=(eqD 60 S x y).map λb=>(.bl b,S)
abbrev neS(x y:D)(S:Sto):Option (D × Sto):=(eqD 60 S x y).map λb=>(.bl (!b),S)
def rD{x y:D}{b:Bool}(h:eqD 60 S x y=aw b):neS x y S=aw (.bl (!b),S):=by unfold neS;rw[h];rfl
def Kw(J:X.A.units+64 < cLine):OpR X (V1 .Eq) (rS X.K eqS):=by
 intro f s L H x y v u Q I k l h;obtain⟨m,S,a,b,d,C,R,j,B,e,q⟩:=h;obtain⟨c,z,e⟩:=ZC.mp e;cases e;exact(Pj I R 60 j B k l z (by lia)).1 _ _ _ _ ⟨.bl c,H,I,rfl,q m H _ (Aft.refl R) cp⟩
def Kx(J:X.A.units+64 < cLine):OpR X (V1 .NotEq) (rS X.K neS):=by
 intro f s L H x y v u Q I k l h;obtain⟨m,S,a,b,d,C,R,j,B,e,q⟩:=h;obtain⟨c,z,e⟩:=ZC.mp e;cases e;exact(Pj I R 60 j B k l z (by lia)).2 _ _ _ _ ⟨.bl (!c),H,I,rfl,q m H _ (Aft.refl R) cp⟩
end
abbrev eG:List D->Option (List Key)
 |[]=>aw []
 |.int i::ds=>(eG ds).map (.inl i::·)
 |.str x::ds=>(eG ds).map (.inr x::·)
 |_=>aD
abbrev Bd:D->Option NK
 |.non=>aw .non
 |.int i=>aw (.one (.inl i))
 |.str x=>aw (.one (.inr x))
 |.tup ds=>(eG ds).map .tup
 |_=>aD
abbrev oq:List D->Option (List NK)
 |[]=>aw []
 |d::ds=>match Bd d,oq ds with
  |some k,aw ks=>aw (k::ks)
  |_,_=>aD
abbrev nv:D->Option (List NK)
 |.tup ds=>oq ds
 |_=>aD
abbrev atD:List (List NK)->List D->List NK->Option D
 |a::kss,d::ds,k=>if a=k then aw d else atD kss ds k
 |_,_,_=>aD
abbrev fN(k:List NK)(v:D):List (List NK)->List D->List D
 |a::kss,d::ds=>(if a=k then v else d)::fN k v kss ds
 |_,_=>[]
section
variable {K:Vp} {m:List Addr} {H:Hp} {S:Sto}
def lU:∀ {d:List D} {ks:List Key} {b:List V},eG d=aw ks->VDs K m H d b->b=ks.map kV
 |[],_,_,e,h=>by cases e;rw[VDs] at h;exact h
 |.int i::d,ks,b,e,h=>by
  simp only[eG] at e;obtain⟨k,f,rfl⟩:=ZC.mp e;rw[VDs] at h;obtain⟨v,r,rfl,j,c⟩:=h;rw[j.ints,lU f c];rfl
 |.str x::d,ks,b,e,h=>by
  simp only[eG] at e;obtain⟨k,f,rfl⟩:=ZC.mp e;rw[VDs] at h;obtain⟨v,r,rfl,j,c⟩:=h;rw[j.strs,lU f c];rfl
 |.non::_,_,_,e,_=>by simp[eG] at e
 |.bl _::_,_,_,e,_=>by simp[eG] at e
 |.tup _::_,_,_,e,_=>by simp[eG] at e
 |.ref _::_,_,_,e,_=>by simp[eG] at e
def E5{d:D}{k:NK}{v:V}(e:Bd d=aw k)(h:VD K m H d v):yz H k v:=by
 cases d with
 |non=>cases e;exact h.nons
 |int i=>cases e;exact h.ints
 |str x=>cases e;exact h.strs
 |tup j=>
  simp only[Bd] at e;obtain⟨ks,b,rfl⟩:=ZC.mp e;obtain⟨a,f,rfl,c,q⟩:=h.tups;exact⟨a,rfl,by rw[<-lU b q];exact c⟩
 |_=>cases e
def si:∀ {c:List D} {ks:List NK} {b:List V},oq c=aw ks->VDs K m H c b->Paired (yz H) ks b
 |[],_,_,e,h=>by cases e;rw[VDs] at h;subst h;exact .nil
 |d::c,ks,b,e,h=>by
  rw[VDs] at h;obtain⟨v,r,rfl,u,q⟩:=h;simp only[oq] at e;split at e
  ·rename_i k j l f;cases e;exact .cons (E5 l u) (si f q)
  ·cases e
def xf{d:D}{ks:List NK}{v:V}(e:nv d=aw ks)(h:VD K m H d v):∃a,v = .ref a/\pL H ks a:=by
 cases d with
 |tup f=>
  obtain⟨a,b,rfl,c,q⟩:=h.tups;exact⟨a,rfl,b,c,si e q⟩
 |_=>cases e
def Rel.dic(R:Rel K m S H){n:Nat}{k:List (List NK)}{d:List D}{x:V}(f:S[n]?=aw (.dic k d))(v:VD K m H (.ref n) x):∃a vs,x = .ref a/\m[n]?=aw a/\H a=aw (.dT (k.zip vs))/\k.length=d.length/\VDs K m H d vs:=by
 obtain⟨a,c,vs,q,l,j⟩:=R.ob n _ f;obtain⟨u,b,rfl⟩:=v.refs;rw[c] at b;cases b;exact⟨a,vs,rfl,c,q,l,j⟩
def Rel.dicR(R:Rel K m S H){n:Nat}{k:List (List NK)}{d:List D}{x:V}(hn:S[n]?=aw (.dic k d)\/S[n]?=aw (.dfz k d))(v:VD K m H (.ref n) x):∃a vs,x = .ref a/\m[n]?=aw a/\Rd H a (.dT (k.zip vs))/\k.length=d.length/\VDs K m H d vs:=by
 rcases hn with hn |hn
 ·obtain⟨a,vs,j,f,l,q⟩:=R.dic hn v;exact⟨a,vs,j,f,.inl l,q⟩
 ·obtain⟨a,c,o,vs,z,y,u⟩:=R.ob n _ hn;obtain⟨B,b,rfl⟩:=v.refs;rw[c] at b;cases b;exact⟨a,vs,rfl,c,.inr ⟨o,z⟩,y.1,u⟩
def qa:∀ {b:List (List NK)} {c:List D} {f:List V} {k:List NK},b.length=c.length->VDs K m H c f->atD b c k=aD->jq (b.zip f) k=aD/\k ∉ b
 |[],_,_,_,_,_,_=>⟨rfl,by simp⟩
 |a::b,d::c,f,k,hl,h,e=>by
  rw[VDs] at h;obtain⟨v,r,rfl,q,l⟩:=h;simp only[atD] at e;split at e
  ·cases e
  ·rename_i ne;obtain⟨j,I⟩:=qa (by simpa using hl) l e;refine⟨?_,λz=>(Zn.mp z).elim (λz=>ne z.symm) I⟩;rw[Yi,fM ne];exact j
 |_::_,[],_,_,hl,_,_=>by simp at hl
def kE:∀ {b:List (List NK)} {f:List D} {c:List V} {k:List NK} {d:D},VDs K m H f c->atD b f k=aw d->∃v,jq (b.zip c) k=aw v/\VD K m H d v
 |[],_,_,_,_,_,e=>by simp[atD] at e
 |a::b,d::f,c,k,d',h,e=>by
  rw[VDs] at h;obtain⟨v,r,rfl,l,j⟩:=h;simp only[atD] at e;rw[Yi];split at e
  ·rename_i eq;cases e;exact⟨v,iL eq,l⟩
  ·rename_i ne;rw[fM ne];exact kE j e
 |_::_,[],_,_,_,_,e=>by simp[atD] at e
abbrev inK(neg:Bool)(x y:D)(S:Sto):Option (D × Sto):=match nv x,y with
 | some k,.ref n=>(match S[n]? with
  |some (.dic kss ds)=>aw (.bl (neg != (atD kss ds k).isSome),S)
  | _=>aD)
 |_,_=>aD
def sj{neg:Bool}{x y d:D}{f:Sto}(e:inK neg x y S=aw (d,f)):∃k n b c,nv x=aw k/\y = .ref n/\S[n]?=aw (.dic b c)/\d = .bl (neg != (atD b c k).isSome)/\f=S:=by
 unfold inK at e;split at e
 ·rename_i k n j;split at e
  ·rename_i b c l;cases e;exact⟨k,n,b,c,j,rfl,l,rfl,rfl⟩
  ·cases e
 ·cases e
def qb(R:Rel K m S H){n:Nat}{c:List (List NK)}{j:List D}{x y:D}{k:List NK}{u v:V}(z:nv x=aw k)(B:S[n]?=aw (.dic c j)\/S[n]?=aw (.dfz c j))(q:VD K m H x u)(I:VD K m H (.ref n) v):∃a b,v = .ref a/\u = .ref b/\∃o,AV H a (.ref b) o/\o.isSome=(atD c j k).isSome/\∀d,atD c j k=aw d->∃w,o=aw w/\VD K m H d w:=by
 obtain⟨b,rfl,L⟩:=xf z q;obtain⟨a,O,rfl,_,C,Q,f⟩:=R.dicR B I;refine⟨a,b,rfl,rfl,jq (c.zip O) k,.inr ⟨_,k,b,C,rfl,L,rfl⟩,?_,λd e=>?_⟩
 ·cases e:atD c j k with
  |none=>rw[(qa Q f e).1];rfl
  |some d=>obtain⟨w,l,_⟩:=kE f e;rw[l];rfl
 ·obtain⟨w,l,J⟩:=kE f e;exact⟨w,l,J⟩
abbrev ixK(d y:D)(S:Sto):Option (D × Sto):=match nv y,d with
 | some k,.ref n=>(match S[n]? with
  |some (.dic kss ds)=>(atD kss ds k).map λv=>(v,S)
  |some (.dfz kss ds)=>(atD kss ds k).map λv=>(v,S)
  | _=>aD)
 |_,_=>aD
def Be{x y d:D}{u:Sto}(e:ixK x y S=aw (d,u)):∃k n b c,nv y=aw k/\x = .ref n/\(S[n]?=aw (.dic b c)\/S[n]?=aw (.dfz b c))/\atD b c k=aw d/\u=S:=by
 unfold ixK at e;split at e
 ·rename_i k n q;split at e
  ·rename_i b c l;obtain⟨v,j,f⟩:=ZC.mp e;cases f;exact⟨k,n,b,c,q,rfl,.inl l,j,rfl⟩
  ·rename_i b c l;obtain⟨v,j,f⟩:=ZC.mp e;cases f;exact⟨k,n,b,c,q,rfl,.inr l,j,rfl⟩
  ·cases e
 ·cases e
abbrev Bf(o y v:D)(S:Sto):Option Sto:=match nv y,o with
 | some k,.ref n=>(match S[n]? with
  |some (.dic kss ds)=>if kss.length < 100000 then aw (if (atD kss ds k).isSome=aN then S.set n (.dic kss (fN k v kss ds)) else S.set n (.dic (kss++[k]) (ds++[v]))) else aD
  | _=>aD)
 |_,_=>aD
def yX{o y v:D}{c:Sto}(e:Bf o y v S=aw c):∃k n b d,nv y=aw k/\o = .ref n/\S[n]?=aw (.dic b d)/\b.length < 100000/\c=if (atD b d k).isSome=aN then S.set n (.dic b (fN k v b d)) else S.set n (.dic (b++[k]) (d++[v])):=by
 unfold Bf at e;split at e
 ·rename_i k n f;split at e
  ·rename_i b d j;split at e
   ·rename_i l;exact⟨k,n,b,d,f,rfl,j,l,(Option.some.inj e).symm⟩
   ·cases e
  ·cases e
 ·cases e
def Bg{k:List NK}{v:D}{w:V}(y:VD K m H v w):∀ {b:List (List NK)} {j:List D} {f:List V},b.length=j.length->VDs K m H j f->∃c,(b.zip f).map (λl=>if l.1=k then (l.1,w) else l)=b.zip c/\VDs K m H (fN k v b j) c
 |[],[],f,_,h=>⟨[],by simp,by simp only[fN];rw[VDs]⟩
 |[],_::_,_,hl,_=>by simp at hl
 |_::_,[],_,hl,_=>by simp at hl
 |a::b,d::j,f,hl,h=>by
  rw[VDs] at h;obtain⟨u,r,rfl,C,B⟩:=h;obtain⟨c,z,q⟩:=Bg y (by simpa using hl) B;rw[Yi,Zy,z];simp only[fN];by_cases e:a=k
  ·rw[if_pos e,if_pos e];exact⟨w::c,by rw[Yi],.cons y q⟩
  ·rw[if_neg e,if_neg e];exact⟨u::c,by rw[Yi],.cons C q⟩
def qd{k:List NK}{v:D}:∀ {b:List (List NK)} {c:List D},b.length=c.length->b.length=(fN k v b c).length
 |[],[],_=>rfl
 |[],_::_,hl=>by simp at hl
 |_::_,[],hl=>by simp at hl
 |a::b,d::c,hl=>by simp only[fN,Zo];rw[qd (by simpa using hl)]
def Rel.writeD(R:Rel K m S H){i:Nat}{a:Addr}{k:List (List NK)}{d:List D}{v:List V}(hi:m[i]?=aw a)(hl:k.length=d.length)(q:VDs K m H d v):Aft K m H (S.set i (.dic k d)) m (upd H a (.dT (k.zip v))):=by
 have C:a ∈ m:=Zd hi;have x:Ext m H m (upd H a (.dT (k.zip v))):=⟨Yj m,λb u e n=>by rw[ac (show b ≠ a fromλz=>n (by rw[z];exact C))];exact e,λb z n=>absurd z n⟩;refine⟨x,by simp[R.len],R.nd,λj o e=>?_⟩;rw[Yt] at e;by_cases B:i=j
 ·subst B;rw[if_pos rfl] at e;split at e
  ·have Y:=Option.some.inj e;subst Y;exact⟨a,hi,v,az,hl,VDs.mono R x q⟩
  ·cases e
 ·rw[if_neg B] at e;obtain⟨b,hb,r⟩:=R.ob j o e
  have ne:b ≠ a:=λz=>by
   subst z;have X:=Zb.mp hi;have Q:=Zb.mp hb;exact B ((YS R.nd).mp (X.2.trans Q.2.symm))
  refine⟨b,hb,?_⟩;cases o with
  |lst f=>obtain⟨c,p,q⟩:=r;exact⟨c,by rw[ac ne];exact p,VDs.mono R x q⟩
  |frz f=>obtain⟨o,c,p,q⟩:=r;exact⟨o,c,by rw[ac ne];exact p,VDs.mono R x q⟩
  |dic ks f=>obtain⟨c,p,l,q⟩:=r;exact⟨c,by rw[ac ne];exact p,l,VDs.mono R x q⟩
  |tbl T p q=>
   obtain⟨e,ps,z⟩:=r;refine⟨e,ps,by rw[ac ne];exact z.at_,z.tr,λL O=>?_⟩;obtain⟨J,U,I⟩:=z.cd L O;exact⟨J,U,by rw[ac (show J ≠ a fromλy=>R.notCd I (y.symm ▸ C))];exact I⟩
  |dfz ks f=>obtain⟨o,c,p,l,q⟩:=r;exact⟨o,c,by rw[ac ne];exact p,l,VDs.mono R x q⟩
def E6(R:Rel K m S H){n:Nat}{f:List (List NK)}{l:List D}{y v:D}{k:List NK}{u o w:V}(hk:nv y=aw k)(J:S[n]?=aw (.dic f l))(h5:f.length < 100000)(X:VD K m H y u)(Y:VD K m H (.ref n) o)(C:VD K m H v w) :
  ∃a b H',o = .ref a/\u = .ref b/\Pg H a (.ref b) w H'/\Aft K m H (if (atD f l k).isSome=aN then S.set n (.dic f (fN k v f l)) else S.set n (.dic (f++[k]) (l++[v]))) m H':=by
 obtain⟨b,rfl,T⟩:=xf hk X;obtain⟨a,z,rfl,I,Q,q,j⟩:=R.dic J Y;have B:f.length=z.length:=by rw[q,j.length]
 have hz:(f.zip z).length < sizeLine:=by rw[List.length_zip,Ut];lia
 refine⟨a,b,_,rfl,rfl,.inr ⟨_,k,b,Q,rfl,T,hz,rfl⟩,?_⟩
 have any:((f.zip z).any λL=>decide (L.1=k))=(atD f l k).isSome:=by
  rw[ly];cases e:atD f l k with
  |none=>rw[(qa q j e).1];rfl
  |some d=>obtain⟨w,U,_⟩:=kE j e;rw[U];rfl
 unfold lx;rw[any];by_cases c:(atD f l k).isSome=aN
 ·rw[if_pos c,if_pos c];obtain⟨ws,O,Z⟩:=Bg C q j;rw[O];exact R.writeD I (qd q) Z
 ·rw[if_neg c,if_neg c];have e:f.zip z++[(k,w)]=(f++[k]).zip (z++[w]):=by rw[List.zip_append B];rfl
  rw[e];exact R.writeD I (by rw[Zg,Zg,q];rfl) (j.append (.cons C .nil))
end
abbrev Ky(a b:Nat)(S:Sto):Option (D × Sto):=match S[a]? with
 | some (.lst xs)=>(match S[b]? with
  |some (.lst ys)=>if xs.length+ys.length<=100000 then aw (.ref S.length,S++[.lst (xs++ys)]) else aD
  | _=>aD)
 |_=>aD
abbrev kw:D->D->Sto->Option (D × Sto)
 |.int i,.int j,S=>aw (.int (i+j),S)
 |.tup xs,.tup ys,S=>if xs.length+ys.length<=1000 then aw (.tup (xs++ys),S) else aD
 |.ref a,.ref b,S=>Ky a b S
 |.str x,.str y,S=>if x.length+y.length<=100000 then aw (.str (x++y),S) else aD
 |_,_,_=>aD
abbrev Pk:D->D->Sto->Option (D × Sto)
 |.int i,.int j,S=>aw (.int (i - j),S)
 |_,_,_=>aD
abbrev iQ(i j:Int):Bool:=(decide (-(2 ^ 64) < i) && decide (i < 2 ^ 64)) || (decide (-(2 ^ 64) < j) && decide (j < 2 ^ 64))
abbrev yY:D->D->Sto->Option (D × Sto)
 |.int i,.int j,S=>if iQ i j=aN then aw (.int (i * j),S) else aD
 |_,_,_=>aD
abbrev Kz:D->D->Sto->Option (D × Sto)
 |.int i,.int j,S=>if 0 < j then aw (.int (i % j),S) else aD
 |_,_,_=>aD
abbrev Bh:D->D->Sto->Option (D × Sto)
 |.int i,.int j,S=>if 0 < j/\j < 1298074214633706907132624082305024 then aw (.int (i / j),S) else aD
 |_,_,_=>aD
abbrev KA:D->D->Sto->Option (D × Sto)
 |.int i,.int j,S=>if 0<=j/\j<=1000000/\i.natAbs < 2 ^ 64 then aw (.int (i ^ j.toNat),S) else aD
 |_,_,_=>aD
inductive BOp where |add |sub |mul |mod |fdiv |pow
abbrev bT:BOp->D->D->Sto->Option (D × Sto)
 |.add=>kw |.sub=>Pk |.mul=>yY |.mod=>Kz |.fdiv=>Bh |.pow=>KA
abbrev BOp.op:BOp->Vj
 |.add=>.Add |.sub=>.Sub |.mul=>.Mult |.mod=>.Mod |.fdiv=>.FloorDiv |.pow=>.Pow
section
variable {X:Cx} {K:Vp} {m:List Addr} {H:Hp} {S:Sto}
def gz{op:Vj}{f:D->D->Sto->Option (D × Sto)}{C:Int->Int->Prop}{g:Int->Int->Int}(l:OpR X (VO op) (rI C λi j=>.int (g i j)))
  (u:∀a b S d k,f a b S=aw (d,k)->∃i j,a = .int i/\b = .int j/\C i j/\d = .int (g i j)/\k=S):OpR X (VO op) (rS X.K f):=by
 refine OpR.imp l λx y H Q h=>?_;obtain⟨m,S,a,b,d,k,R,v,z,e,q⟩:=h;obtain⟨i,j,rfl,rfl,c,rfl,rfl⟩:=u _ _ _ _ _ e;exact⟨i,j,v.ints,z.ints,c,q m H _ (Aft.refl R) bn⟩
def uT:OpR X (VO .Add) (λx y H Q=>∃m S xs Y,Rel X.K m S H/\VD X.K m H (.tup xs) x/\VD X.K m H (.tup Y) y/\xs.length+Y.length<=1000/\∀k c u,Aft X.K m H S k c->VD X.K k c (.tup (xs++Y)) u->Q u c):=by
 refine OpR.imp ER λx y H Q h=>?_;obtain⟨m,S,xs,Y,R,v,j,C,q⟩:=h;obtain⟨a,B,rfl,sa,f⟩:=v.tups;obtain⟨b,l,rfl,z,d⟩:=j.tups;have l1:=f.length;have L:=d.length;refine⟨a,b,B,l,rfl,rfl,.of sa,.of z,lQ (by lia),λe=>?_,λ_ e=>?_,λ_ _=>iO R (f.append d) q⟩
 ·subst e;have e:xs=[]:=Z6.mp (by simpa using l1);subst e;exact q m H _ (Aft.refl R) j
 ·subst e;have e:Y=[]:=Z6.mp (by simpa using L);subst e;rw[Yb] at q;exact q m H _ (Aft.refl R) v
def E7:OpR X (VO .Add) (rS X.K kw):=by
 refine OpR.imp (OpR.or J3 (OpR.or uT (OpR.or uG Kj))) λx y H Q h=>?_;obtain⟨m,S,a,b,d,S',R,v,l,e,q⟩:=h;cases a with
 |int i=>
  cases b with
  |int j=>cases e;exact .inl ⟨i,j,v.ints,l.ints,q m H _ (Aft.refl R) bn⟩
  |_=>simp[kw] at e
 |tup z=>
  cases b with
  |tup Y=>
   simp only[kw] at e;split at e
   ·rename_i u;cases e;exact .inr (.inl ⟨m,S,z,Y,R,v,l,u,q⟩)
   ·cases e
  |_=>simp[kw] at e
 |str i=>
  cases b with
  |str j=>
   simp only[kw] at e;split at e
   ·rename_i u;cases e;exact .inr (.inr (.inl ⟨i,j,v.strs,l.strs,by rw[Ut];lia,q m H _ (Aft.refl R) uR⟩))
   ·cases e
  |_=>simp[kw] at e
 |ref i=>
  cases b with
  |ref j=>
   simp only[kw,Ky] at e;split at e
   ·rename_i z U;split at e
    ·rename_i Y I;split at e
     ·rename_i u;cases e;obtain⟨a,Z,ha,T,C⟩:=R.lst U;obtain⟨c,O,J,hG,B⟩:=R.lst I;obtain⟨a',f,L⟩:=v.refs;obtain⟨c',k,e2⟩:=l.refs;rw[ha] at f;cases f;rw[J] at k;cases k;exact .inr (.inr (.inr ⟨a,c,Z,O,L,e2,T,hG,by rw[Ut,<-C.length,<-B.length];lia,p9 R (C.append B) q⟩))
     ·cases e
    ·cases e
   ·cases e
  |_=>simp[kw] at e
 |_=>cases b <;> simp[kw] at e
def E8:OpR X (VO .Mult) (rS X.K yY):=by
 refine OpR.imp J5 λx y H Q h=>?_;obtain⟨m,S,a,b,d,k,R,v,f,e,q⟩:=h;cases a with
 |int i=>
  cases b with
  |int j=>
   simp only[yY] at e;split at e
   ·rename_i c;cases e;simp only[iQ,Y0,bAE,decide_eq_true_eq] at c;exact⟨i,j,v.ints,f.ints,c,q m H _ (Aft.refl R) bn⟩
   ·cases e
  |_=>simp[yY] at e
 |_=>cases b <;> simp[yY] at e
def Bi:OpR X (VO .FloorDiv) (rI (λ_ j=>0 < j/\j < 1298074214633706907132624082305024) λi j=>.int (i / j)):=opI λi j _ _ _ _ _ b q=>by
 have f:(0:Int) < j:=b.1;have d:j < 1298074214633706907132624082305024:=b.2
 exact floordiv_int (by lia) (by rw[Int.fdiv_eq_ediv_of_nonneg i (by lia)];exact q) (.inl (PyProof.noPylong_of_log2 (by
  have c:j.natAbs ≠ 0:=by lia
  have:j.natAbs.log2 < 110:=(Nat.log2_lt c).mpr (by lia)
  lia)))
def E9(o:BOp):OpR X (VO o.op) (rS X.K (bT o)):=by
 cases o with
 |add=>exact E7
 |sub=>
  refine gz (C:=λ_ _=>True) (g:=λi j=>i - j) (OpR.imp J4 λx y H Q ⟨i,j,a,b,_,q⟩=>⟨i,j,a,b,q⟩) λa b S d c e=>?_;cases a <;> cases b <;> simp[bT,Pk] at e;exact⟨_,_,rfl,rfl,trivial,e.1.symm,e.2.symm⟩
 |mul=>exact E8
 |mod=>
  refine gz J6 λa b S d c e=>?_;cases a <;> cases b <;> simp[bT,Kz] at e;rename_i i j;exact⟨i,j,rfl,rfl,e.1,e.2.1.symm,e.2.2.symm⟩
 |fdiv=>
  refine gz Bi λa b S d c e=>?_;cases a <;> cases b <;> simp[bT,Bh] at e;rename_i i j;exact⟨i,j,rfl,rfl,e.1,e.2.1.symm,e.2.2.symm⟩
 |pow=>
  refine gz J7 λa b S d c e=>?_;cases a <;> cases b <;> simp[bT,KA] at e;rename_i i j;exact⟨i,j,rfl,rfl,e.1,e.2.1.symm,e.2.2.symm⟩
abbrev yZ(p:Int->Int->Bool):D->D->Sto->Option (D × Sto)
 |.int i,.int j,S=>aw (.bl (p i j),S)
 |_,_,_=>aD
abbrev IQ:D->Bool
 |.non=>aN
 |_=>aS
abbrev isB(neg:Bool):D->D->Sto->Option (D × Sto)
 |d,.non,S=>aw (.bl (neg != IQ d),S)
 |.bl a,.bl b,S=>aw (.bl (neg != (a == b)),S)
 |_,_,_=>aD
abbrev cM:D->Bool
 |.non=>aN |.bl _=>aN |.int _=>aN |.str _=>aN |_=>aS
abbrev eqF:D->D->Bool
 |.non,.non=>aN
 |.bl a,.bl b=>a == b
 |.bl a,.int b=>(if a then 1 else 0) == b
 |.int a,.bl b=>a == (if b then 1 else 0)
 |.int a,.int b=>a == b
 |.str a,.str b=>a == b
 |_,_=>aS
abbrev inF(x:D)(d:List D):Bool:=d.any λy=>eqF y x
abbrev inS(neg:Bool)(x y:D)(S:Sto):Option (D × Sto):=match av y S with
 |some (_,ds)=>if cM x=aN/\ds.all cM=aN then aw (.bl (neg != inF x ds),S) else aD
 |none=>inK neg x y S
inductive COp where |eq |ne |lt |le |gt |ge |is |isnot |isin |notin
abbrev am:COp->D->D->Sto->Option (D × Sto)
 |.eq=>eqS |.ne=>neS
 |.lt=>yZ λi j=>decide (i < j) |.le=>yZ λi j=>decide (i<=j) |.gt=>yZ λi j=>decide (j < i) |.ge=>yZ λi j=>decide (j<=i)
 |.is=>isB aS |.isnot=>isB aN |.isin=>inS aS |.notin=>inS aN
abbrev COp.op:COp->CmpOp
 |.eq=>.Eq |.ne=>.NotEq |.lt=>.Lt |.le=>.LtE |.gt=>.Gt |.ge=>.GtE |.is=>.Is |.isnot=>.IsNot |.isin=>.In |.notin=>.NotIn
def eZ(c:OpR X (V1 op) (rI0 λi j=>.bl (p i j))):OpR X (V1 op) (rS X.K (yZ p)):=by
 refine OpR.imp c λx y H Q h=>?_;obtain⟨m,S,a,b,d,k,R,v,f,e,q⟩:=h;cases a <;> cases b <;> simp[yZ] at e;obtain⟨rfl,rfl⟩:=e;exact⟨_,_,v.ints,f.ints,q m H _ (Aft.refl R) cp⟩
def kF(h:VD K m H x v)(f:cM x=aN):dD v=aN:=by
 cases x <;> simp[cM] at f
 ·cases h.nons;rfl
 ·cases h.bls;rfl
 ·cases h.ints;rfl
 ·cases h.strs;rfl
def Bj(h:VD K m H x v)(f:cM x=aN)(h':VD K m H y w)(b:cM y=aN):eqV v w=eqF x y:=by
 cases x <;> simp[cM] at f <;> cases y <;> simp[cM] at b <;> simp[VD] at h h' <;> subst h <;> subst h' <;> rfl
def iR:∀ {b:List D} {v:List V},VDs K m H b v->b.all cM=aN->v.all dD=aN
 |[],v,h,_=>by rw[VDs] at h;rw[h];rfl
 |d::b,v,h,f=>by
  rw[VDs] at h;obtain⟨x,r,rfl,p,q⟩:=h;rw[Yn,bAE] at f;rw[Yn,kF p f.1,iR q f.2];rfl
def uU(h:VD K m H x v)(f:cM x=aN):∀ {c:List D} {b:List V},VDs K m H c b->c.all cM=aN->inV v b=inF x c
 |[],b,h,_=>by rw[VDs] at h;rw[h];rfl
 |d::c,b,h',f'=>by
  rw[VDs] at h';obtain⟨y,r,rfl,p,q⟩:=h';rw[Yn,bAE] at f';have I:=uU h f q f'.2;unfold inV inF at I ⊢;rw[YG,YG,Bj p f'.1 h f,I]
def ot(h:VD K m H x v)(f:cM x=aN):∀ {c:List D} {b:List V},VDs K m H c b->c.all cM=aN->(b.countP λz=>eqV z v)=c.countP λz=>eqF z x
 |[],b,h,_=>by rw[VDs] at h;rw[h];rfl
 |d::c,b,h',f'=>by
  rw[VDs] at h';obtain⟨y,r,rfl,p,q⟩:=h';rw[Yn,bAE] at f';rw[Xf,Xf,Bj p f'.1 h f,ot h f q f'.2]
def lV(h:SqB K T H a vs):SqL K H a vs\/SqT K H a vs:=by
 cases T with
 |false=>exact .inl h
 |true=>exact .inr (.of h)
def KC(hu:X.A.units+64 < cLine):OpR X (V1 .In) (rS X.K (inS aS)):=by
 intro f s Y H x y v u Q I B z h;obtain⟨m,S,a,b,d,S',R,l,C,e,q⟩:=h;unfold inS at e;split at e
 ·rename_i tu T hi;obtain⟨p,Z,rfl,O,c⟩:=eF R C hi;split at e
  ·rename_i j;cases e;refine yL f s Y H x _ v u Q I B z ⟨p,Z,rfl,lV O,kF l j.1,iR c j.2,q m H _ (Aft.refl R) ?_⟩;rw[if_neg (by decide),uU l j.1 c j.2]
   simpa using cp
  ·cases e
 ·obtain⟨k,n,kss,T,hk,rfl,J,rfl,rfl⟩:=sj e;obtain⟨a,b,rfl,rfl,o,g,U,_⟩:=qb (y:=.ref n) R hk (.inl J) l C;cases z;refine RO (show X.A.units+2 < cLine by lia) I g B λs' L=>⟨.bl _,H,L,rfl,?_⟩;rw[U];exact q m H _ (Aft.refl R) (by simpa using cp)
def y4(hu:X.A.units+64 < cLine):OpR X (V1 .NotIn) (rS X.K (inS aN)):=by
 intro f s Y H x y v u Q I B z h;obtain⟨m,S,a,b,d,S',R,l,C,e,q⟩:=h;unfold inS at e;split at e
 ·rename_i tu T hi;obtain⟨p,Z,rfl,O,c⟩:=eF R C hi;split at e
  ·rename_i j;cases e;refine pR f s Y H x _ v u Q I B z ⟨p,Z,rfl,lV O,kF l j.1,iR c j.2,q m H _ (Aft.refl R) ?_⟩;rw[if_pos rfl,uU l j.1 c j.2]
   simpa using cp
  ·cases e
 ·obtain⟨k,n,kss,T,hk,rfl,J,rfl,rfl⟩:=sj e;obtain⟨a,b,rfl,rfl,o,g,U,_⟩:=qb (y:=.ref n) R hk (.inl J) l C;cases z;refine ET (show X.A.units+2 < cLine by lia) I g B λs' L=>⟨.bl _,H,L,rfl,?_⟩;rw[U];exact q m H _ (Aft.refl R) (by simpa using cp)
def Bk(h:VD K m H d v):decide (v=V.non)=IQ d:=by
 cases d with
 |non=>cases h.nons;rfl
 |bl _=>cases h.bls;rfl
 |int _=>cases h.ints;rfl
 |str _=>cases h.strs;rfl
 |tup _=>obtain⟨_,_,e,_⟩:=h.tups;subst e;rfl
 |ref _=>obtain⟨_,_,e⟩:=h.refs;subst e;rfl
def KD:OpR X (V1 .Is) (rS X.K (isB aS)):=by
 refine OpR.imp (OpR.or J8 Kl) λx y H Q h=>?_;obtain⟨m,S,a,b,d,f,R,v,c,e,q⟩:=h;cases b with
 |non=>
  simp[isB] at e;obtain⟨rfl,rfl⟩:=e;exact .inl ⟨c.nons,q m H _ (Aft.refl R) (by rw[Bk v];exact cp)⟩
 |bl j=>
  cases a with
  |bl i=>
   simp[isB] at e;obtain⟨rfl,rfl⟩:=e;exact .inr ⟨i,j,v.bls,c.bls,q m H _ (Aft.refl R) cp⟩
  |_=>simp[isB] at e
 |_=>cases a <;> simp[isB] at e
def y6:OpR X (V1 .IsNot) (rS X.K (isB aN)):=by
 refine OpR.imp (OpR.or Et yS) λx y H Q h=>?_;obtain⟨m,S,a,b,d,f,R,v,c,e,q⟩:=h;cases b with
 |non=>
  simp[isB] at e;obtain⟨rfl,rfl⟩:=e;exact .inl ⟨c.nons,q m H _ (Aft.refl R) (by rw[Bk v];exact cp)⟩
 |bl j=>
  cases a with
  |bl i=>
   simp[isB] at e;obtain⟨rfl,rfl⟩:=e;exact .inr ⟨i,j,v.bls,c.bls,q m H _ (Aft.refl R) (by simpa[bne] using cp)⟩
  |_=>simp[isB] at e
 |_=>cases a <;> simp[isB] at e
def gA(b:X.A.units+64 < cLine)(o:COp):OpR X (V1 o.op) (rS X.K (am o)):=by
 cases o with
 |eq=>exact Kw b
 |ne=>exact Kx b
 |lt=>exact eZ O2
 |le=>exact eZ O3
 |gt=>exact eZ O4
 |ge=>exact eZ O5
 |is=>exact KD
 |isnot=>exact y6
 |isin=>exact KC b
 |notin=>exact y4 b
end
section
variable {X:Cx} {K:Vp} {m:List Addr} {H:Hp} {S:Sto}
abbrev ixS(d i:D)(S:Sto):Option (D × Sto):=match i with
 | .int k=>(match d with
  |.str z=>if z.length<=100000 then (atI z.cps.toList k).map λc=>(.str ⟨#[c]⟩,S) else aD
  | d=>(match av d S with
   |some (_,ds)=>(atI ds k).map λx=>(x,S)
   | none=>aD))
 |i=>ixK d i S
def KF{k:Int}(h:VDs K m H b c)(e:atI b k=aw d):∃v,atI c k=aw v/\VD K m H d v:=by
 unfold atI at e ⊢;rw[<-h.length];cases hi:ixN b.length k with
 |none=>rw[hi] at e;cases e
 |some j=>
  rw[hi] at e;exact h.get e
def Bl{k:Int}(f:SqB K tu H a b)(vd:VDs K m H l b)(e:atI l k=aw d)(q:∀v,VD K m H d v->Q v H):rIx K (.ref a) (.int k) H Q:=by
 obtain⟨v,j,c⟩:=KF vd e;cases tu with
 |false=>exact .inl ⟨a,b,k,v,rfl,rfl,f,j,q v c⟩
 |true=>exact .inr (.inl ⟨a,b,k,v,rfl,rfl,.of f,j,q v c⟩)
def RP(hu:X.A.units+64 < cLine):IxR X (rS X.K ixS):=by
 intro f j l s Y H x y v u Q I rx Z h hs;obtain⟨m,S,a,b,d,S',R,L,vb,e,q⟩:=h
 have B:ixK a b S=aw (d,S')->wpAny (model X.prog X.w) X.A (subscriptTail f j v u) (EP X l Y Q) X.xe s:=λe=>by
  obtain⟨k,n,kss,U,hk,rfl,hn,hd,rfl⟩:=Be e;obtain⟨a',b',rfl,rfl,o,g,ho,hv⟩:=qb (y:=.ref n) R hk hn vb L;obtain⟨w,rfl,vw⟩:=hv d hd;cases rx;cases Z;exact tail_any (rX I g) PySem.F.slot_dict_getitem.lookup (yT (show X.A.units+2 < cLine by lia) I g rfl λw' s' I' T=>⟨w,H,I',T,q m H _ (Aft.refl R) vw⟩) hs
 cases b with
 |int k=>
  refine AK f j l s Y H x y v u Q I rx Z ?_ hs;cases vb.ints
  have main:∀r,av a S=aw r->(atI r.2 k).map (λx=>(x,S))=aw (d,S')->rIx X.K x (.int k) H Q:=by
   intro r hi e;cases O:atI r.2 k with
   |none=>rw[O] at e;cases e
   |some z=>
    rw[O] at e;cases e;obtain⟨p,vs,rfl,sq,C⟩:=eF (tu:=r.1) (ds:=r.2) R L hi;exact Bl sq C O λv vv=>q m H v (Aft.refl R) vv
  cases a with
  |str z=>
   simp only[ixS] at e;split at e
   ·rename_i hl;cases J:atI z.cps.toList k with
    |none=>rw[J] at e;cases e
    |some c=>
     rw[J] at e;cases e;exact .inr (.inr ⟨z,k,c,L.strs,rfl,by rw[Ut];lia,J,q m H _ (Aft.refl R) uR⟩)
   ·cases e
  |tup U=>exact main (aN,U) rfl e
  |ref n=>
   simp only[ixS] at e;cases hi:av (.ref n) S with
   |none=>rw[hi] at e;cases e
   |some r=>rw[hi] at e;exact main r hi e
  |_=>simp[ixS,av] at e
 |_=>exact B e
abbrev uV(x:XA)(y:XE):XE:=λb S=>bnd (x b S) λj c=>bnd (y b c) λi f=>match i with
 |.int k=>(atI j k).map λd=>(d,f)
 |_=>aD
def KG(h:tE K (uV x y) O H Q):tOp (rIx K) (fB K x) (tE K y) O H Q:=by
 obtain⟨m,j,S,d,S',E,R,e,q⟩:=h;obtain⟨l,u,L,e⟩:=ab e;obtain⟨i,I,Y,e⟩:=ab e;refine⟨m,j,S,l,u,E,R,L,λm1 H1 a T b J U n2 n3 vd=>⟨m1,j,u,i,I,E.mono R b.ext,b.rel,Y,λZ B w c vb=>?_⟩⟩;cases i with
 |int k=>
  cases vb.ints;dsimp only at e;cases f:atI l k with
  |none=>rw[f] at e;cases e
  |some z=>
   rw[f] at e;cases e;exact Bl (tu:=false) (show SqL K B a T from SqL.of (c.ext.keep _ _ J U)) (vd.mono b.rel c.ext) f λv C=>q Z B v (b.trans c) C
 |_=>cases e
abbrev lH(d:List D)(lo hi:Option Int):List D:=(d.drop (HT.sIx d.length 0 lo)).take (HT.sIx d.length d.length hi - HT.sIx d.length 0 lo)
def uW(h:VDs K m H d v)(lo hi:Option Int):VDs K m H (lH d lo hi) (lj v lo hi):=by
 unfold lH lj;rw[<-h.length];exact(h.drop _).take _
abbrev slS(lo hi:Option Int)(d:D)(S:Sto):Option (D × Sto):=match d with
 |.tup b=>aw (.tup (lH b lo hi),S)
 | .ref n=>(match aU S n with
  |some b=>aw (.ref S.length,S++[.lst (lH b lo hi)])
  | none=>aD)
 |_=>aD
abbrev rSl(K:Vp):V->Option Int->Option Int->Hp->VK->Prop:=λv lo hi H Q=>∃m S a d c,Rel K m S H/\VD K m H a v/\slS lo hi a S=aw (d,c)/\∀f b u,Aft K m H c f b->VD K f b d u->Q u b
def uX{vs:List V}{lo hi:Option Int}(h:HT.sIx vs.length 0 lo=0/\HT.sIx vs.length vs.length hi=vs.length):lj vs lo hi=vs:=by
 unfold lj;rw[h.1,h.2];simp
def RQ:SlR X (rSl X.K):=by
 intro c s C H x v y L lo hi sl Q I T hs B U h;refine(SlR.or ES ED) c s C H x v y L lo hi sl Q I T hs B U ?_;obtain⟨m,S,a,d,Z,R,u,e,q⟩:=h;cases a with
 |tup z=>
  cases e;obtain⟨p,l,rfl,j,b⟩:=u.tups;refine .inl ⟨p,l,rfl,.of j,λO=>?_,λ_=>iO R (uW b lo hi) q⟩;have:=uW b lo hi;rw[uX O] at this;exact q m H _ (Aft.refl R) (lK j this)
 |ref n=>
  simp only[slS] at e;cases k:aU S n with
  |none=>rw[k] at e;cases e
  |some z=>
   rw[k] at e;cases e;obtain⟨p,l,J,j,b⟩:=R.seq k;obtain⟨Y,f,rfl⟩:=u.refs;rw[J] at f;cases f;exact .inr ⟨p,l,rfl,j,p9 R (uW b lo hi) q⟩
 |_=>cases e
@[inline]abbrev XO:=Rho->Sto->Option (Option Int × Sto)
abbrev tOI(K:Vp)(x:XO):TO:=λf H Q=>∃m b S o d,EnvR K m H b f/\Rel K m S H/\x b S=aw (o,d)/\∀j c,Aft K m H d j c->Q o c
abbrev uY:XO:=λ_ S=>aw (aD,S)
abbrev uZ(x:XE):XO:=λb S=>bnd (x b S) λd c=>match d with
 |.int i=>aw (aw i,c)
 |_=>aD
def Fa(h:tOI K uY b H Q):wW b H Q:=by
 obtain⟨m,c,S,o,d,E,R,e,q⟩:=h;cases e;exact q m H (Aft.refl R)
def Fb(h:tOI K (uZ x) l H Q):IJ (tE K x) l H Q:=by
 obtain⟨m,b,S,o,u,E,R,e,q⟩:=h;obtain⟨d,f,j,e⟩:=ab e;refine⟨m,b,S,d,f,E,R,j,λm1 k v c vd=>?_⟩;cases d with
 |int i=>cases e;exact⟨i,vd.ints,q m1 k c⟩
 |_=>cases e
def PO.imp(h:PO X e t)(f:∀c H Q,t' c H Q->t c H Q):PO X e t':=λb s c H Q I q=>h b s c H Q I (f c H Q q)
abbrev xSl(x:XE)(lo hi:XO):XE:=λb S=>bnd (x b S) λd c=>bnd (lo b c) λl j=>bnd (hi b j) λh f=>slS l h d f
def Pl{x:XE}{lo hi:XO}{z:L2.St}{H:Hp}{Q:VK}(h:tE K (xSl x lo hi) z H Q):tSl (rSl K) (tE K x) (tOI K lo) (tOI K hi) z H Q:=by
 obtain⟨m,f,S,d,T,E,R,e,q⟩:=h;obtain⟨a,y,J,e⟩:=ab e;obtain⟨l,k,O,e⟩:=ab e;obtain⟨u,B,L,e⟩:=ab e;refine⟨m,f,S,a,y,E,R,J,λm1 H1 v b vd=>⟨m1,f,y,l,k,E.mono R b.ext,b.rel,O,λU H2 c=>⟨U,f,k,u,B,E.mono R (b.trans c).ext,c.rel,L,λY H3 j=>?_⟩⟩⟩;exact⟨Y,B,a,d,T,j.rel,vd.mono b.rel (c.trans j).ext,e,λm4 I w Z C=>q m4 I w (((b.trans c).trans j).trans Z) C⟩
abbrev lW(d:D)(S:Sto):Option (Bool × Sto):=match d with
 |.non=>aw (aS,S)
 |.bl b=>aw (b,S)
 |.int i=>aw (i != 0,S)
 |.str y=>if y.length<=100000 then aw ((y.length:Int) != 0,S) else aD
 |.tup c=>aw (!c.isEmpty,S)
 | .ref n=>(match aU S n with
  |some c=>aw (!c.isEmpty,S)
  | none=>aD)
def lX(h:VDs K m H d v):d.isEmpty=v.isEmpty:=by
 have:=h.length;cases d <;> cases v <;> simp at this ⊢
def KH(R:Rel K m S H)(vd:VD K m H d v)(e:lW d S=aw (b,q)):q=S/\Ex K v H b:=by
 cases d with
 |non=>cases e;cases vd.nons;exact⟨rfl,rfl⟩
 |bl _=>cases e;cases vd.bls;exact⟨rfl,rfl⟩
 |int _=>cases e;cases vd.ints;exact⟨rfl,rfl⟩
 |str y=>
  simp only[lW] at e;split at e
  ·rename_i C;cases e;cases vd.strs;exact⟨rfl,by rw[Ut];lia,rfl⟩
  ·cases e
 |tup u=>
  cases e;obtain⟨a,l,rfl,j,c⟩:=vd.tups;exact⟨rfl,.inr (.inl ⟨l,.of j,by rw[lX c]⟩)⟩
 |ref n=>
  simp only[lW] at e;cases k:aU S n with
  |none=>rw[k] at e;cases e
  |some u=>
   rw[k] at e;cases e;obtain⟨p,l,z,j,c⟩:=R.seq k;obtain⟨B,f,rfl⟩:=vd.refs;rw[z] at f;cases f;exact⟨rfl,.inl ⟨l,j,by rw[lX c]⟩⟩
abbrev Fc(x:XE):XT:=λb S=>bnd (x b S) λd c=>lW d c
def KJ(h:tT K (Fc x) y H Q):(tE K x) y H λv H'=>∃k,Ex K v H' k/\Q k H':=by
 obtain⟨m,f,S,b,z,E,R,e,q⟩:=h;obtain⟨d,j,l,e⟩:=ab e;refine⟨m,f,S,d,j,E,R,l,λm1 u v c vd=>?_⟩;obtain⟨rfl,t⟩:=KH c.rel vd e;exact⟨b,t,q m1 u c⟩
abbrev xB(x:XE):XT:=λc S=>bnd (x c S) λd f=>match d with
 |.bl b=>aw (b,f)
 |_=>aD
def Pn(h:tT K (xB x) y H Q):(tE K x) y H λv H'=>∃k,v = .bl k/\Q k H':=by
 obtain⟨m,c,S,b,z,E,R,e,q⟩:=h;obtain⟨d,j,l,e⟩:=ab e;refine⟨m,c,S,d,j,E,R,l,λm1 u v f vd=>?_⟩;cases d with
 |bl k=>cases e;exact⟨b,vd.bls,q m1 u f⟩
 |_=>cases e
abbrev dB(_:Bool)(d:List D)(S:Sto):Option (D × Sto):=aw (.int d.length,S)
abbrev cX(_:Bool)(d:List D)(S:Sto):Option (D × Sto):=aw (.tup d,S)
abbrev y7:D->Bool
 |.bl _=>aN
 |_=>aS
abbrev ny:D->Bool
 |.bl b=>b
 |_=>aS
abbrev kB(T:Bool)(d:List D)(S:Sto):Option (D × Sto):=if T=aS/\d.all y7=aN then aw (.bl (d.all ny),S) else aD
abbrev nA(T:Bool)(d:List D)(S:Sto):Option (D × Sto):=if T=aS/\d.all y7=aN then aw (.bl (d.any ny),S) else aD
abbrev r1(r:V->Hp->VK->Prop):List V->Hp->VK->Prop
 |[x],H,Q=>r x H Q
 |_,_,_=>False
def cH(h:r1 r xs H Q):∃x,xs=[x]/\r x H Q:=by
 match xs,h with
 |[x],h=>exact⟨x,rfl,h⟩
def y8:aR X (.builtin "len") (r1 (rSq X.K dB)):=by
 refine aR.imp iK λc H Q h=>?_;obtain⟨_,rfl,m,S,T,j,a,v,d,f,R,rfl,b,vd,e,q⟩:=cH h;cases e;exact⟨a,v,rfl,lV b,q m H _ (Aft.refl R) (by rw[vd.length];exact bn)⟩
def y9:aR X (.type "tuple") (r1 (rSq X.K cX)):=by
 refine aR.imp nt λc H Q h=>?_;obtain⟨_,rfl,m,S,T,j,a,v,d,f,R,rfl,b,vd,e,q⟩:=cH h;cases e;cases T with
 |false=>exact⟨a,v,rfl,.inl ⟨b,iO R vd q⟩⟩
 |true=>exact⟨a,v,rfl,.inr ⟨.of b,q m H _ (Aft.refl R) (lK b vd)⟩⟩
def ve:∀ {c:List D} {v:List V},VDs K m H c v->c.all y7=aN->v=(c.map ny).map V.bl
 |[],v,h,_=>by rw[VDs] at h;rw[h];rfl
 |d::c,v,h,f=>by
  rw[VDs] at h;obtain⟨x,r,rfl,p,q⟩:=h;rw[Yn,bAE] at f;cases d with
  |bl b=>rw[p.bls,ve q f.2];rfl
  |_=>simp[y7] at f
def KL(d:List D):(d.map ny).all id=d.all ny:=by rw[Y6];rfl
def KM(d:List D):(d.map ny).any id=d.any ny:=by rw[Wa];rfl
def zd(hc:X.calm=aN):aR X (.builtin "all") (r1 (rSq X.K kB)):=by
 refine aR.imp (yQ hc) λj H Q h=>?_;obtain⟨_,rfl,m,S,T,f,a,v,d,k,R,rfl,c,vd,e,q⟩:=cH h;unfold kB at e;split at e
 ·rename_i b;cases e;obtain⟨rfl,b⟩:=b;refine⟨a,f.map ny,rfl,?_,q m H _ (Aft.refl R) (by rw[KL];exact cp)⟩;rw[<-ve vd b];exact c
 ·cases e
def ze(hc:X.calm=aN):aR X (.builtin "any") (r1 (rSq X.K nA)):=by
 refine aR.imp (yR hc) λj H Q h=>?_;obtain⟨_,rfl,m,S,T,f,a,v,d,k,R,rfl,c,vd,e,q⟩:=cH h;unfold nA at e;split at e
 ·rename_i b;cases e;obtain⟨rfl,b⟩:=b;refine⟨a,f.map ny,rfl,?_,q m H _ (Aft.refl R) (by rw[KM];exact cp)⟩;rw[<-ve vd b];exact c
 ·cases e
abbrev rTm(K:Vp)(f:Bool->List D->Option (List D)):V->Hp->VK->Prop:=λv H Q=>∃m S T l a k q,Rel K m S H/\v = .ref a/\SqB K T H a k/\VDs K m H l k/\f T l=aw q ∧
 ∀d c p j,Aft K m H S d c->c p=aw (.lst j)->p ∉ d->(∀b,b ∈ m->b ≠ p)->H p=aD->VDs K d c q j->Q (.ref p) c
def lY:aR X (.type "list") (r1 (rTm X.K λ_ d=>aw d)):=by
 refine aR.imp pS λc H Q h=>?_;obtain⟨_,rfl,m,S,T,d,a,v,f,R,rfl,b,vd,e,q⟩:=cH h;cases e;exact⟨a,v,rfl,lV b,iP R vd q⟩
abbrev Bm:D->D->Sto->Option (D × Sto)
 |.int i,.int j,S=>aw (.int (if j > i then j else i),S)
 |_,_,_=>aD
abbrev Bn:D->D->Sto->Option (D × Sto)
 |.int i,.int j,S=>aw (.int (if j < i then j else i),S)
 |_,_,_=>aD
abbrev two(f:D->D->Sto->Option (D × Sto)):List D->Sto->Option (D × Sto)
 |[a,b],S=>f a b S
 |_,_=>aD
def Bo(h:VDs K m H [a,b] d):∃v w,d=[v,w]/\VD K m H a v/\VD K m H b w:=by
 rw[VDs] at h;obtain⟨v,r,rfl,p,q⟩:=h;rw[VDs] at q;obtain⟨w,f,rfl,c,Q⟩:=q;rw[VDs] at Q;subst Q;exact⟨v,w,rfl,p,c⟩
def Fd(h:VDs K m H [a] b):∃v,b=[v]/\VD K m H a v:=by
 rw[VDs] at h;obtain⟨v,r,rfl,p,q⟩:=h;rw[VDs] at q;subst q;exact⟨v,rfl,p⟩
def sr(h:two f c S=aw r):∃a b,c=[a,b]/\f a b S=aw r:=by
 match c,h with
 |[a,b],h=>exact⟨a,b,rfl,h⟩
def vf(hc:X.calm=aN):aR X (.builtin "max") (rSA X.K (two Bm)):=by
 refine aR.imp (yG hc) λj H Q h=>?_;obtain⟨m,S,l,d,k,R,vd,e,q⟩:=h;obtain⟨a,b,rfl,c⟩:=sr e;obtain⟨v,w,rfl,p,f⟩:=Bo vd;cases a <;> cases b <;> simp[Bm] at c;obtain⟨rfl,rfl⟩:=c;exact⟨_,_,by rw[p.ints,f.ints],q m H _ (Aft.refl R) bn⟩
def vg(hc:X.calm=aN):aR X (.builtin "min") (rSA X.K (two Bn)):=by
 refine aR.imp (yH hc) λj H Q h=>?_;obtain⟨m,S,l,d,k,R,vd,e,q⟩:=h;obtain⟨a,b,rfl,c⟩:=sr e;obtain⟨v,w,rfl,p,f⟩:=Bo vd;cases a <;> cases b <;> simp[Bn] at c;obtain⟨rfl,rfl⟩:=c;exact⟨_,_,by rw[p.ints,f.ints],q m H _ (Aft.refl R) bn⟩
inductive Ty where |int |bool |tuple |list |str
abbrev Ty.nm:Ty->String
 |.int => "int" |.bool => "bool" |.tuple => "tuple" |.list => "list" |.str => "str"
abbrev tyN(d:D)(S:Sto):Option String:=match d with
 |.non=>aw "NoneType" |.bl _=>aw "bool" |.int _=>aw "int" |.str _=>aw "str" |.tup _=>aw "tuple"
 | .ref n=>(match S[n]? with
  |some (.lst _)=>aw "list"
  |some (.frz _)=>aw "list"
  |some (.dic _ _)=>aw "dict"
  |some (.tbl _ _ _)=>aD
  |some (.dfz _ _)=>aD
  | none=>aD)
abbrev fO(t:Ty)(n:String):Bool:=n == t.nm || (match t with |.int=>n == "bool" |_=>aS)
abbrev lZ(t:Ty)(d:D)(S:Sto):Option (D × Sto):=(tyN d S).map λn=>(.bl (fO t n),S)
def Fe(K:Vp)(t:Ty):(VA K (.type "NoneType") (.type t.nm)=aw (fO t "NoneType"))/\(VA K (.type "bool") (.type t.nm)=aw (fO t "bool"))/\(VA K (.type "int") (.type t.nm)=aw (fO t "int")) ∧
  (VA K (.type "str") (.type t.nm)=aw (fO t "str"))/\(VA K (.type "tuple") (.type t.nm)=aw (fO t "tuple"))/\(VA K (.type "list") (.type t.nm)=aw (fO t "list"))/\(VA K (.type "dict") (.type t.nm)=aw (fO t "dict")):=by
 cases t <;> exact⟨by kernel_rfl,by kernel_rfl,by kernel_rfl,by kernel_rfl,by kernel_rfl,by kernel_rfl,by kernel_rfl⟩
def Po(R:Rel K m S H)(vd:VD K m H d v)(e:tyN d S=aw n):TyOf K H v (.type n):=by
 cases d with
 |non=>cases e;cases vd.nons;exact .non
 |bl _=>cases e;cases vd.bls;exact .bl _
 |int _=>cases e;cases vd.ints;exact .int _
 |str _=>cases e;cases vd.strs;exact .str _
 |tup c=>cases e;obtain⟨a,j,rfl,u,_⟩:=vd.tups;exact .tup u
 |ref k=>
  simp only[tyN] at e;obtain⟨a,l,rfl⟩:=vd.refs;cases f:S[k]? with
  |none=>rw[f] at e;cases e
  |some o=>
   rw[f] at e;obtain⟨y,b,r⟩:=R.ob k o f;rw[l] at b;cases b;cases o with
   |lst c=>cases e;obtain⟨j,h,_⟩:=r;exact .lst h
   |frz c=>cases e;obtain⟨o,j,h,_⟩:=r;exact .frz h
   |dic ks c=>cases e;obtain⟨j,h,_⟩:=r;exact .dT h
   |tbl T p q=>cases e
   |dfz ks c=>cases e
def Bp(e:tyN d S=aw n):n = "NoneType"\/n = "bool"\/n = "int"\/n = "str"\/n = "tuple"\/n = "list"\/n = "dict" := by
 cases d with
 |ref k=>
  simp only[tyN] at e;cases b:S[k]? with
  |none=>rw[b] at e;cases e
  |some o=>rw[b] at e;cases o <;> cases e <;> simp
 |_=>cases e <;> simp
def KN(K:Vp)(t:Ty)(h:n = "NoneType"\/n = "bool"\/n = "int"\/n = "str"\/n = "tuple"\/n = "list"\/n = "dict"):VA K (.type n) (.type t.nm)=aw (fO t n):=by
 obtain⟨a,b,c,d,e,f,g⟩:=Fe K t;rcases h with rfl |rfl |rfl |rfl |rfl |rfl |rfl <;> assumption
abbrev Pp(K:Vp)(t:Ty)(T:TE):TE:=tCB (IP K) (cg T (cg (tC (.ty t.nm)) jl))
def Ff(h:tE K (xUn (lZ t) x) y H Q):Pp K t (tE K x) y H Q:=by
 obtain⟨m,j,S,d,z,E,R,e,q⟩:=h;obtain⟨a,f,k,e⟩:=ab e;refine⟨m,j,S,a,f,E,R,k,λm1 u v c l=>?_⟩;unfold lZ at e;cases b:tyN a f with
 |none=>rw[b] at e;cases e
 |some n=>
  rw[b] at e;cases e;exact⟨v,t.nm,_,_,rfl,Po c.rel l b,KN K t (Bp b),q m1 u _ c cp⟩
end
end Ev
namespace HT
open PySem PySem.Spec PyProof.Rows
section
variable {prog:Program} {w:World} {A:Around} {E:Value->Shared->Prop} {s:Shared}
def jv{sl:Addr}{n:Nat}{T:Tok}{Q:Int × Int × Nat->Shared->Prop}(hs:s.heap.IsSliceOf sl .none .none (.int (-1) T))
  (h:Q ((n:Int) - 1,-1,n) s):wpAny (model prog w) A (Builtin.Slice.sliceApplied (.ref sl) (pure (n:Int))) Q E s:=by
 obtain⟨os,c,d,b⟩:=id hs;unfold Builtin.Slice.sliceApplied Builtin.Slice.sliceFields;refine UC (UC (UG c b (x:=.none) rfl (UC (UG c b (x:=.none) rfl (UC (UG c b (x:=.int (-1) T) rfl (US ?_)))))));refine UC (slicePart_int ?_);show wpAny _ _ (if ((-1:Int) == 0)=aN then _ else _) _ _ s;rw[if_neg (by decide)];refine UC (slicePart_none (UC (slicePart_none (UC (US ?_)))));show wpAny _ _ (match Builtin.Slice.sliceAdjust aD aD (-1) (n:Int) with |(lo,hi)=>pure (lo,(-1:Int),Builtin.Slice.slicePlaces lo hi (-1))) _ _ s
 have j:Builtin.Slice.sliceAdjust aD aD (-1) (n:Int)=((n:Int) - 1,-1):=by
  unfold Builtin.Slice.sliceAdjust;simp
 rw[j];show wpAny _ _ (pure ((n:Int) - 1,(-1:Int),Builtin.Slice.slicePlaces ((n:Int) - 1) (-1) (-1))) _ _ s
 have f:Builtin.Slice.slicePlaces ((n:Int) - 1) (-1) (-1)=n:=by
  unfold Builtin.Slice.slicePlaces;have k:¬ ((-1:Int) > 0):=by decide
  simp only[k,if_false,show(- -1:Int)=1 from rfl,WC];split <;> omega
 rw[f];exact US h
def Bq(xs:Array Value):((Ze xs.size).filterMap λ(m:Nat)=>xs[((xs.size:Int) - 1+(m:Int) * -1).toNat]?).toArray=xs.toList.reverse.toArray:=by
 have e:(Ze xs.size).filterMap (λ(m:Nat)=>xs[((xs.size:Int) - 1+(m:Int) * -1).toNat]?)=((Ze xs.size).map λk=>xs.size - 1 - k).filterMap (xs[·]?):=by
  rw[X2]
  congr 1
  funext m
  show xs[((xs.size:Int) - 1+(m:Int) * -1).toNat]?=xs[xs.size - 1 - m]?
  congr 1
  omega
 rw[e,PySem.W.krv_range,List.filterMap_reverse,PySem.W.krv_all]
def iS{t sl:Addr}{I:Array Value}{T:Tok}{Q:Value->Shared->Prop}(c:IsTup s.heap t I)(hs:s.heap.IsSliceOf sl .none .none (.int (-1) T))
  (h:Q (.ref s.heap.objs.size) { s with heap:=s.heap.push { cls:=.type "tuple", data:=.seq I.toList.reverse.toArray } })
  (f:I.size<=sizeLine):wpAny (model prog w) A (getItem (.ref t) (.ref sl)) Q E s:=by
 have b:sizeOk (.seq I.toList.reverse.toArray):=by
  show I.toList.reverse.toArray.size<=sizeLine;rw[Zj,Ym,Zr];exact f
 obtain⟨os,k,d,l⟩:=id hs;have j:s.TypeIs (.ref sl) "slice" := ⟨os,k,d⟩;unfold getItem
 try with_reducible refine UJ ?_
 first |refine UC (US ?_) |skip
 refine UC (UZ c.typeIs (by decide) ?_)
 refine UC (wpAny_callSpecial?_slot (name:=Str.ofString "__getitem__") c.typeIs WQ
  (UD WQ c.typeIs entry_tuple_getitem ?_ (args_tuple_getitem _ _)))
 show wpAny _ _ (Builtin.Tuple.tupleItemsOf (.ref t) >>= _) _ _ s;refine UC (tupleItemsOf_ c ?_);refine UC (U4 j ?_);rw[if_pos (by decide)];refine UC (jv hs ?_);show wpAny _ _ (if (((I.size:Int) - 1) == 0 && (-1:Int) == 1 && I.size == I.size)=aN then _ else _) _ _ s;rw[if_neg (by rw[show((-1:Int) == 1)=aS from rfl,Wv,XQ];exact Zf),Bq]
 first
  |exact UC (m:=Builtin.Tuple.tupleExact _) (UP (US ⟨_,rfl,US h⟩) b)
  |exact UC (m:=Builtin.Tuple.tupleExact _) (UP (UC (US (US ⟨_,rfl,US h⟩))) b)
  |exact UC (UC (m:=Builtin.Tuple.tupleExact _) (UP (US (US ⟨_,rfl,US h⟩)) b))
  |exact UC (UC (m:=Builtin.Tuple.tupleExact _) (UP (US ⟨_,rfl,US h⟩) b))
def su{l:Addr}{v:List Value}{Q:List Value->Shared->Prop}(hl:IsTup s.heap l v.toArray)
  (h:Q v { s with heap:=(s.heap.push (seqObj "list" #[] 0)).update s.heap.objs.size (Obj.mapSeq (·++v.toArray)) }) (d:v.length<=sizeLine) :
  wpAny (model prog w) A (collect (.ref l)) Q E s:=by
 obtain⟨o,f,c,n,hd⟩:=id hl;unfold collect;refine UC (wpAny_runValue (VZ entry_proto_collect' ?_));show wpAny _ _ (do again (.builtin "list.__iadd__" ⟨[<-newList [],.ref l],[]⟩)) _ _ s;refine UC (UO (US ⟨Code.quiet_builtin _ (by decide +kernel),VZ entry_list_iadd' ?_⟩));show wpAny _ _ (Builtin.List.listExtendWith (.ref s.heap.objs.size) (.ref l) (.ref s.heap.objs.size)) _ _ { s with heap:=s.heap.push (seqObj "list" #[] 0) };unfold Builtin.List.listExtendWith;have b:(s.heap.push (seqObj "list" #[] 0)).get? l=aw o:=Zc _ f;refine UC (U4 (T := "tuple") ⟨o,b,c⟩ ?_);have j:(Value.type "tuple" == Value.type "tuple")=aN:=by rfl
 rw[if_pos (by rw[j];simp)];refine UC (listItems_at b hd ?_);refine UC (listItems_at (xs:=#[]) (n:=0) (Zs _ rfl) rfl ?_);rw[if_neg (by simp)];refine UC (listUpdate_at (xs:=#[]) (n:=0) (Zs _ rfl) rfl ?_ (Z3 _) (by show(#[]++v.toArray).size<=sizeLine+1;simp only[Array.size_append,Zj,Z1];omega));refine US ?_
 show wpAny (model prog w) A (do
   let o <-load s.heap.objs.size
   match o.data with
   |.seq xs _=>pure xs.toList
   | _=>UA "internal:collect") Q E { s with heap:=(s.heap.push (seqObj "list" #[] 0)).update s.heap.objs.size (Obj.mapSeq (·++v.toArray)) }
 refine UC (wpAny_load (get?_update_seq (Zs _ rfl) _) ?_);show wpAny _ _ (pure ((#[]:Array Value)++v.toArray).toList) Q E _;rw[show((#[]:Array Value)++v.toArray).toList=v by simp];exact US h
def vh{l:Addr}{v:List Value}{ns:List Int}{Q:Value->Shared->Prop}(hl:IsTup s.heap l v.toArray)(k:IntsAre v ns)(f:v.length < 64)
  (h:∀ (out:Array Value) (b:List Int),IntsAre out.toList b->b.Perm ns->b.Pairwise (·<=·)->Q (.ref (s.heap.objs.size+1)) { s with heap:=sortedAll s.heap v out }) :
  wpAny (model prog w) A (call (.builtin "sorted") [.ref l]) Q E s:=by
 refine WU kind_sorted plain_sorted entry_sorted (args_sorted1 _) ?_;unfold Builtin.«sorted»;refine UC (m:=checkCount "sorted" 1 1 _) (US ?_);refine UC (su hl ?_ (by rw[Ut];omega));refine UC (UO ?_)
 have d:((s.heap.push (seqObj "list" #[] 0)).update s.heap.objs.size (Obj.mapSeq (·++v.toArray))).objs.size=s.heap.objs.size+1:=by
  rw[Yk,size_push']
 have c:(((s.heap.push (seqObj "list" #[] 0)).update s.heap.objs.size (Obj.mapSeq (·++v.toArray))).push (seqObj "list" v.toArray 0)).get? (s.heap.objs.size+1)=aw (seqObj "list" v.toArray 0):=by
  rw[<-d];exact Zs _ rfl
 show wpAny _ _ _ _ _ { s with heap:=((s.heap.push (seqObj "list" #[] 0)).update s.heap.objs.size (Obj.mapSeq (·++v.toArray))).push (seqObj "list" v.toArray 0) };rw[d];refine UC (UJ (UD slot_list_sort ⟨_,c,rfl⟩ entry_list_sort (list_sort_tree c k f λout b q j u=>⟨_,rfl,?_⟩) (args_list_sort _)));exact US ⟨_,rfl,h out b q j u⟩
end
end HT
namespace Ev
open PySem PySem.Spec PyProof.Rows L2
section
variable {X:Cx} {e:Expr} {te:TE} {pos p2 p3 p4:Pos}
def aP.rev:∀ {xs:List V} {u:List Value},aP xs u->aP xs.reverse u.reverse
 |[],_,.nil=>.nil
 |_::_,_,.cons r t=>by rw[Y7,Y7];exact(aP.rev t).append (.cons r .nil)
def VDs.rev{K:Vp}:∀ {b:List D} {v:List V},VDs K m H b v->VDs K m H b.reverse v.reverse
 |[],v,h=>by rw[VDs] at h;subst h;exact .nil
 |d::b,v,h=>by
  rw[VDs] at h;obtain⟨y,r,rfl,p,q⟩:=h;rw[Y7,Y7];exact(VDs.rev q).append (.cons p .nil)
abbrev vm(d:D)(S:Sto):Option (D × Sto):=match d with
 |.tup b=>aw (.tup b.reverse,S)
 | .ref n=>(match aU S n with
  |some b=>aw (.ref S.length,S++[.lst b.reverse])
  | none=>aD)
 |_=>aD
def KO{k:Nat}(he:PE X e te):PE X (.Subscript e (.Slice aD aD (aw (.UnaryOp .USub (.Constant (.int 1) k p3) p4)) p2) pos) (tUn (rS1 X.K vm) te):=by
 intro c s T H Q I h;refine Subscript_ (thn (he c s T H _ I h) λv s1 ⟨x,Y,I1,r1,q1⟩=>?_);refine wpAny_Slice ?_;rw[V6];refine US (US ?_);refine thn (wX (Az uD uA) c s1 T Y (λo U=>o=aw (-1)/\U=Y) I1 ⟨_,rfl,_,rfl,rfl,rfl⟩) λvk C ⟨o,U,I2,pk,ho,hH⟩=>?_;subst ho hH;cases pk with
 |int i tk=>
  have y:L2.Inv X c T U { C with heap:=C.heap.push { cls:=.type "slice", data:=.fields #[.none,.none,.int (-1) tk] } }:=I2.kept (t':=C.toks) λb ob q=>Zc _ q;obtain⟨m,S,a,d,S',R,va,l,q⟩:=q1;cases a with
  |tup ds=>
   cases l;obtain⟨p,B,rfl,O,j⟩:=va.tups;cases r1;obtain⟨u,r,ht,J⟩:=y.tuple (.of O);have f:u.toArray.size=B.length:=by rw[Zj];exact r.length.symm
   refine tail_any (ops:=[.ref p,.ref C.heap.objs.size]) ht.typeIs PyProof.Rows.slot_tuple_getitem.lookup (HT.iS ht (Heap.IsSliceOf.new ..) ?_ (by rw[f];exact J)) (by with_unfolding_all rfl);refine⟨.ref _,_,y.laid (o:=.tup B.reverse) (λb ob q=>Zc _ q) (Zi _) ?_,rfl,iO R (VDs.rev j) q _ (y.hok.fresh (Zi _))⟩;exact⟨by rw[Ym];exact J,_,aP.rev r,pK.new _ _⟩
  |ref n=>
   simp only[vm] at l;cases L:aU S n with
   |none=>rw[L] at l;cases l
   |some ds=>
    rw[L] at l;cases l;obtain⟨p,B,hp,O,j⟩:=R.seq L;obtain⟨p',z,rfl⟩:=va.refs;rw[hp] at z;cases z;cases r1;obtain⟨u,r,Z,J⟩:=y.list O;have f:u.toArray.size=B.length:=by rw[Zj];exact r.length.symm
    refine tail_any (ops:=[.ref p,.ref C.heap.objs.size]) Z.isList.typeIs PySem.slot_list_getitem.lookup (UI Z.isList (Heap.IsSliceOf.new ..) .none .none (.int (-1) tk) (by decide) ?_ (by rw[f];exact J)) (by with_unfolding_all rfl);rw[PySem.W.krv_pick];refine⟨.ref _,_,y.laid (o:=.lst B.reverse) (λb ob q=>Zc _ q) (Zi _) ?_,rfl,p9 R (VDs.rev j) q _ (y.hok.fresh (Zi _))⟩;exact⟨by rw[Ym];exact J,_,0,aP.rev r,Zs _ rfl⟩
  |_=>cases l
end
end Ev
namespace Ev
open PySem PySem.Spec PyProof.Rows L2
open PySem.W (KasT kas_sort kas_asc kas_desc kas_tail3 kas_descPart kas_count kas_place kas_bin kas_rev kas_ask KatTups)
abbrev sv{b:Type}(lt:Nat->Nat->Bool):KasT b->b
 |.ret a=>a
 |.ask i j k=>sv lt (k (lt i j))
abbrev KT{c:Type}(n:Nat)(P:c->Prop):KasT c->Prop
 |.ret a=>P a
 |.ask i j k=>i < n/\j < n/\∀b,KT n P (k b)
def KT.bind{c d:Type}{n:Nat}{P:c->Prop}{R:d->Prop}{f:c->KasT d}(l:∀a,P a->KT n R (f a)):∀ {t:KasT c},KT n P t->KT n R (t.bind f)
 |.ret a,h=>l a h
 |.ask i j k,h=>⟨h.1,h.2.1,λb=>KT.bind l (h.2.2 b)⟩
def KT.run{b:Type}{n:Nat}{P:b->Prop}{lt:Nat->Nat->Bool}:∀ {t:KasT b},KT n P t->P (sv lt t)
 |.ret a,h=>h
 |.ask i j k,h=>KT.run (t:=k (lt i j)) (h.2.2 (lt i j))
def sB{b:Type}{n:Nat}{P:b->Prop}{lt:Nat->Nat->Bool}{cmp:Nat->Nat->(Bool->Shared->Prop)->Shared->Prop}{s:Shared}(hc:∀i j,i < n->j < n->∀C:Bool->Shared->Prop,C (lt i j) s->cmp i j C s){Q:b->Shared->Prop} :
  ∀ {t:KasT b},KT n P t->Q (sv lt t) s->t.kasWp cmp Q s
 |.ret a,_,q=>q
 |.ask i j k,h,q=>hc i j h.1 h.2.1 _ (sB hc (h.2.2 (lt i j)) q)
abbrev Pm(n:Nat)(p:Array Nat):Prop:=p.Perm (Yr (Ze n))
def Pm.at{n i:Nat}(h:Pm n p)(c:0 < n):p.getD i 0 < n:=by
 by_cases hi:i < p.size
 ·have e:p.getD i 0=p[i]:=by simp[Array.getD,hi]
  rw[e];have b:p[i] ∈ p:=Wb hi;have:=h.mem_iff.mp b
  simpa using this
 ·have e:p.getD i 0=0:=by simp[Array.getD,hi]
  omega
def Pm.rev{n i j:Nat}(h:Pm n p):Pm n (kas_rev p i j):=(mirror_perm p i j _).trans h
def vn{n:Nat}(h:Pm n p)(c:0 < n):∀f m,KT n (λ_=>True) (kas_asc p f m)
 |0,_=>trivial
 | f+1,m=>⟨h.at c,h.at c,λb=>by
  cases b with
  |true=>exact trivial
  | false=>exact vn h c f (m+1)⟩
def kG{n:Nat}(c:0 < n):∀f (p:Array Nat) m q,Pm n p->KT n (λr:Array Nat × Nat × Nat=>Pm n r.1) (kas_desc f p m q)
 |0,p,m,q,h=>h
 | f+1,p,m,q,h=>⟨h.at c,h.at c,λb=>by
  cases b with
  |true=>
   show KT n _ (if q > 0 then kas_desc f (kas_rev p (m - (q+1)) m) (m+1) 0 else kas_desc f p (m+1) 0);split
   ·exact kG c f _ _ _ h.rev
   ·exact kG c f _ _ _ h
  | false=>exact⟨h.at c,h.at c,λd=>by
   cases d with
   |true=>exact h
   | false=>exact kG c f _ _ _ h⟩⟩
def sC{n:Nat}{p:Array Nat}(b:0 < n)(h:Pm n p)(m r:Nat):KT n (λr:Nat × Array Nat=>Pm n r.2) (kas_tail3 m r p):=KT.bind (P:=λ_=>True) (f:=λm=>KasT.ret (m,kas_rev p 0 _)) (λ_ _=>(show KT n (λr:Nat × Array Nat=>Pm n r.2) (KasT.ret (_,kas_rev p 0 _)) from h.rev)) (vn h.rev b _ _)
def jV{n:Nat}{p:Array Nat}(b:0 < n)(h:Pm n p)(m r:Nat):KT n (λr:Nat × Array Nat=>Pm n r.2) (kas_descPart m r p):=KT.bind (λa c=>by
 show KT n _ (if a.2.2 > 0 then _ else _);split
 ·exact sC b (Pm.rev c) _ _
 ·exact sC b c _ _) (kG b _ _ _ _ h)
def Br{n:Nat}{p:Array Nat}(c:0 < n)(h:Pm n p)(r:Nat):KT n (λr:Nat × Array Nat=>Pm n r.2) (kas_count r p):=KT.bind (λa _=>by
 show KT n _ (if (a == r)=aN then _ else if a > 1 then _ else _);split
 ·exact h
 ·split
  ·exact⟨h.at c,h.at c,λb=>by
    cases b with
    |true=>exact h
    | false=>exact jV c h.rev _ _⟩
  ·exact jV c h _ _) (vn h c _ _)
def l3{n:Nat}{p:Array Nat}(c:0 < n)(h:Pm n p)(m:Nat):∀f l r,KT n (λ_=>True) (kas_place p m f l r)
 |0,_,_=>trivial
 |f+1,l,r=>by
  show KT n _ (if l ≥ r then _ else _);split
  ·exact trivial
  ·exact⟨h.at c,h.at c,λb=>by
    cases b with
    |true=>exact l3 c h m f _ _
    | false=>exact l3 c h m f _ _⟩
def Bs{n:Nat}(b:0 < n):∀f (p:Array Nat) m,Pm n p->KT n (Pm n) (kas_bin f p m)
 |0,p,_,h=>h
 |f+1,p,m,h=>KT.bind (λl _=>Bs b f _ _ ((bubble_perm p m _).trans h)) (l3 b h m _ _ _)
def xg{n:Nat}(b:0 < n):KT n (Pm n) (kas_sort n):=KT.bind (λr c=>by
 show KT n _ (if r.1 < n then _ else _);split
 ·exact Bs b _ _ _ c
 ·exact c) (Br b (Array.Perm.refl _) n)
end Ev
namespace Ev
open PySem PyProof.Rows
open PySem.W (KasT kas_sort kas_ask)
abbrev vq(lt:Nat->Nat->Bool)(n:Nat):Option (Array Nat):=if n < 64 then aw (sv lt (kas_sort n)) else if n<=1000 then (match wM n lt with
 |some p=>if p.size=n/\(Ze n).all (λi=>p.toList.contains i)=aN then aw p else aD
 | none=>aD) else aD
abbrev bN(lt:Nat->Nat->Bool)(n:Nat):Array Nat:=(vq lt n).getD #[]
abbrev eI(lt:Nat->Nat->Bool)(n:Nat):Prop:=(vq lt n).isSome=aN
noncomputable instance {lt:Nat->Nat->Bool} {n:Nat}:Decidable (eI lt n):=inferInstanceAs (Decidable (_=aN))
section
variable {lt:Nat->Nat->Bool} {n:Nat}
def Bt(h:n < 64):bN lt n=sv lt (kas_sort n):=by unfold bN vq;rw[if_pos h];rfl
def eI.big(h:eI lt n)(d:¬n < 64):n<=1000/\∃p,wM n lt=aw p/\bN lt n=p/\p.size=n/\∀i,i < n->i ∈ p.toList:=by
 unfold eI at h;have b:bN lt n=(vq lt n).getD #[]:=rfl;unfold vq at h b;rw[if_neg d] at h b;split at h
 ·rename_i f;rw[if_pos f] at b;refine⟨f,?_⟩;cases j:wM n lt with
  |none=>rw[j] at h;cases h
  |some p=>
   rw[j] at h b;dsimp only at h b;split at h
   ·rename_i c;rw[if_pos c] at b;exact⟨p,rfl,b,c.1,λi hi=>by have:=ZR.mp c.2 i (ZJ.mpr hi);simpa using this⟩
   ·cases h
 ·cases h
def eI.le(h:eI lt n):n<=1000:=by
 by_cases b:n < 64
 ·omega
 ·exact(h.big b).1
def sD:∀ (a b:List Nat),a.Nodup->(∀x ∈ a,x ∈ b)->b.length<=a.length->a.Perm b
 |[],b,_,_,h=>by
  cases b with
  |nil=>exact List.Perm.refl _
  |cons _ _=>simp at h
 |x::a,b,nd,hm,hl=>by
  have d:=hm x Zk;refine List.Perm.trans ?_ (YN d).symm;refine List.Perm.cons x (sD a (b.erase x) (ZX.mp nd).2 (λy c=>?_) ?_)
  ·refine(Xj λe=>?_).mpr (hm y (Zh _ c));subst e;exact(ZX.mp nd).1 c
  ·rw[XD d];rw[Zo] at hl;omega
def qe(h:eI lt n)(c:0 < n):Pm n (bN lt n):=by
 by_cases b:n < 64
 ·rw[Bt b];exact(xg c).run
 ·obtain⟨_,p,_,e,f,d⟩:=h.big b;rw[e];refine(Array.perm_iff_toList_perm.mpr ?_);refine(sD _ _ YT (λx j=>d x (ZJ.mp j)) ?_).symm;rw[ZB,Zr,f];exact Zi _
def jw(h:eI lt n)(b:0 < n):(∀i ∈ (bN lt n).toList,i < n)/\(bN lt n).toList.length=n:=by
 have h:=(qe h b).toList;exact⟨λi hi=>by have:=h.mem_iff.mp hi;simpa using this,by have:=h.length_eq;simpa using this⟩
variable {prog:Program} {w:World} {A:Around} {E:Value->Shared->Prop} {s:Shared} {ks vs:List Value} {κ:SortKind}
def xh(hl:ks.length=vs.length)(J:2<=vs.length)(hN:eI lt vs.length)(f:∀i j,i < vs.length->j < vs.length->∀C:Bool->Shared->Prop,C (lt i j) s->kas_ask prog w A κ ks i j C s) :
  wpAny (model prog w) A ((sortRuns').run (SortSt.mk' κ (ks.toArray.zip vs.toArray) #[] 7 aD)) (λr b=>b=s/\arrOf r.2=(bN lt vs.length).map (Vv (ks.toArray.zip vs.toArray))/\(bN lt vs.length).size=vs.length/\failedOf r.2=aD) E s:=by
 have k:(bN lt vs.length).size=vs.length:=by rw[<-Zr];exact(jw hN (by omega)).2
 by_cases d:vs.length < 64
 ·rw[Bt d] at k ⊢
  exact PySem.W.kat_run (κ:=κ) (ks:=ks) (vs:=vs) (Q:=λc b=>b=s/\arrOf c=(sv lt (kas_sort vs.length)).map (Vv (ks.toArray.zip vs.toArray))/\(sv lt (kas_sort vs.length)).size=vs.length/\failedOf c=aD)
   (G:=λp b=>b=s/\p=sv lt (kas_sort vs.length)) hl J d (λp c b L z I q=>⟨q.1,q.2 ▸ z,k,I⟩) (sB f (xg (by omega)) ⟨rfl,rfl⟩)
 ·obtain⟨_,p,l,e,_,_⟩:=hN.big d;rw[e] at k ⊢;unfold wM at l;obtain⟨r,B,v⟩:=ZC.mp l;obtain⟨u,y⟩:=r;rw[PySem.W.kat_ask_eq hl] at f;have sz:(ks.toArray.zip vs.toArray).size=vs.length:=by simp[hl]
  have rg:=PySem.W.kas_range (ks.toArray.zip vs.toArray);rw[sz] at rg;have run:=Eg (X:=⟨prog,w,A,E,κ,ks.toArray.zip vs.toArray,s,vs.length,lt,f⟩) _ _ _ B (λ_ st b=>b=s/\arrOf st=p.map (Vv (ks.toArray.zip vs.toArray))/\p.size=vs.length/\failedOf st=aD) λ_ _=>⟨rfl,by rw[<-v];rfl,k,rfl⟩;unfold stM at run;dsimp only at run;rw[rg] at run;exact run
end
end Ev
namespace Ev
open PySem PySem.Spec PyProof.Rows L2
open PySem.W (KasT kas_sort kas_asc kas_desc kas_tail3 kas_descPart kas_count kas_place kas_bin kas_rev kas_ask KatTups)
section
variable {prog:Program} {w:World} {A:Around} {E:Value->Shared->Prop} {s:Shared}
def qf{a:Addr}{v:List Value}{n:Nat}{P:PySem.Fin->Shared->Prop}(u:s.heap.get? a=aw (seqObj "list" v.toArray n))(L:SortKind)(lt:Nat->Nat->Bool)(f:eI lt v.length)
  (U:2<=v.length->∀ (Q:SortKind->Shared->Prop),Q L { s with heap:=((s.heap.update a (Obj.mapSeq λ_=>#[])).push (seqObj "tuple" v.toArray 0)).push (seqObj "list" #[] 0) }->wpAny (model prog w) A (keyKind' v.toArray) Q E { s with heap:=((s.heap.update a (Obj.mapSeq λ_=>#[])).push (seqObj "tuple" v.toArray 0)).push (seqObj "list" #[] 0) })
  (B:∀i j,i < v.length->j < v.length->∀C:Bool->Shared->Prop,C (lt i j) { s with heap:=((s.heap.update a (Obj.mapSeq λ_=>#[])).push (seqObj "tuple" v.toArray 0)).push (seqObj "list" #[] 0) } ->
   kas_ask prog w A L v i j C { s with heap:=((s.heap.update a (Obj.mapSeq λ_=>#[])).push (seqObj "tuple" v.toArray 0)).push (seqObj "list" #[] 0) })
  (h:P (.done (.ret .none)) { s with heap:=sortedHeap s.heap a v (if v.length < 2 then v.toArray else Yr ((bN lt v.length).toList.map λi=>v.getD i Value.none)) }) :
  wpAny (model prog w) A (Builtin.«list.sort» ⟨[.ref a],[]⟩) P E s:=by
 have I:=f.le;rw[list_sort_plain];have O:a < s.heap.objs.size:=Zq u;refine UC (listItems_at u rfl ?_);refine UC (listUpdate_at u rfl ?_);obtain⟨z,l⟩:∃z,(s.heap.update a (Obj.mapSeq λ_=>#[])).get? a=aw (seqObj "list" #[] z):=⟨_,get?_update_seq u (λ_=>#[])⟩;refine UC (seqEpoch_at l rfl ?_);refine UC (wpAny_newTuple ?_);refine UC (UO ?_);refine UJ ?_
 have b:(((s.heap.update a (Obj.mapSeq λ_=>#[])).push (seqObj "tuple" v.toArray 0)).push (seqObj "list" #[] 0)).get? a=aw (seqObj "list" #[] z):=by
  rw[Y8 _ _ _ (by rw[size_push',Yk];exact ZG (Yu O)),Y8 _ _ _ (by rw[Yk];exact ZG O)];exact l
 show wpAny (model prog w) A _ P E { s with heap:=((s.heap.update a (Obj.mapSeq λ_=>#[])).push (seqObj "tuple" v.toArray 0)).push (seqObj "list" #[] 0) };dsimp only;have J:v.toArray.size=v.length:=by simp
 by_cases d:v.toArray.size < 2
 ·rw[if_pos d,if_pos d];refine UC (US ?_);rw[StateT.run_pure];refine UC (US ?_);dsimp only;refine UC (seqEpoch_at b rfl ?_);refine UC (listUpdate_at b rfl ?_ (hsz2:=by rw[Xv];show(pairsOf v).size<=_;rw[pairsOf_size,Ut];omega));simp only[bne_self_eq_false,ZS,if_false];rw[if_pos (by rw[<-J];exact d)] at h
  have e:Array.map (λx:Keyed=>x.2) (v.toArray.zip v.toArray)=v.toArray:=by
   apply Wi.mp;rw[XG,Wj,Wk (by simp)]
  refine US ?_;show P _ { s with heap:=sortedHeap s.heap a v (Array.map (λx:Keyed=>x.2) (v.toArray.zip v.toArray)) };rw[e];exact h
 ·have q:2<=v.length:=by omega
  rw[if_neg d,if_neg d];rw[if_neg (by omega)] at h;refine UC (U q _ ?_);refine UC (UM (xh rfl q f B) ?_ λ_ _ e=>e);rintro⟨⟨⟩,T⟩ Y ⟨rfl,y,k,X⟩;dsimp only;have c:=Vx rfl y;refine UC (seqEpoch_at b rfl ?_);rw[c];refine UC (listUpdate_at b rfl ?_ (hsz2:=by rw[Zj,Za,Zr,k,Ut];omega));rw[X];simp only[bne_self_eq_false,ZS,if_false];exact US h
end
section
variable {prog:Program} {w:World} {A:Around} {E:Value->Shared->Prop} {s:Shared}
def zf(hl:s.heap.IsList l v.toArray)(B:SortKind)(lt:Nat->Nat->Bool)(k:eI lt v.length)
  (T:2<=v.length->∀ (A:Around) (f:Shared),(∀b o,s.heap.get? b=aw o->f.heap.get? b=aw o)->∀ (E:Value->Shared->Prop) (Q:SortKind->Shared->Prop),Q B f->wpAny (model prog w) A (keyKind' v.toArray) Q E f)
  (d:∀ (J:Around) (f:Shared),J=A.in1.in1->(∀b o,s.heap.get? b=aw o->f.heap.get? b=aw o)->∀i j,i < v.length->j < v.length->∀C:Bool->Shared->Prop,C (lt i j) f->kas_ask prog w J B v i j C f)
  (h:Q (.ref (s.heap.objs.size+1)) { s with heap:=sortedAll s.heap v (if v.length < 2 then v.toArray else Yr ((bN lt v.length).toList.map λi=>v.getD i Value.none)) }) :
  wpAny (model prog w) A (call (.builtin "sorted") [.ref l]) Q E s:=by
 refine WU kind_sorted plain_sorted entry_sorted (args_sorted1 _) ?_;have I:=k.le;unfold Builtin.«sorted»;refine UC (m:=checkCount "sorted" 1 1 _) (US ?_);refine UC (collect_list hl ?_);refine UC (UO ?_)
 have u:((s.heap.push (seqObj "list" #[] 0)).update s.heap.objs.size (Obj.mapSeq (·++v.toArray))).objs.size=s.heap.objs.size+1:=by
  rw[Yk,size_push']
 have y:(((s.heap.push (seqObj "list" #[] 0)).update s.heap.objs.size (Obj.mapSeq (·++v.toArray))).push (seqObj "list" v.toArray 0)).get? (s.heap.objs.size+1)=aw (seqObj "list" v.toArray 0):=by
  rw[<-u];exact Zs _ rfl
 have keep:∀b o,s.heap.get? b=aw o->(((((s.heap.push (seqObj "list" #[] 0)).update s.heap.objs.size (Obj.mapSeq (·++v.toArray))).push (seqObj "list" v.toArray 0)).update (s.heap.objs.size+1) (Obj.mapSeq λ_=>#[])).push (seqObj "tuple" v.toArray 0)).get? b=aw o:=λb o q=>by
  have d:b < s.heap.objs.size:=Zq q;refine Zc _ ?_;rw[Xq _ _ _ _ (ZG (Yu d))];refine Zc _ ?_;rw[Xq _ _ _ _ (ZG d)];exact Zc _ q
 show wpAny _ _ _ _ _ { s with heap:=((s.heap.push (seqObj "list" #[] 0)).update s.heap.objs.size (Obj.mapSeq (·++v.toArray))).push (seqObj "list" v.toArray 0) };rw[u];refine UC (UJ (UD slot_list_sort ⟨_,y,rfl⟩ entry_list_sort (qf y B lt k (λL Q q=>T L _ _ (λb o z=>Zc _ (keep b o z)) _ Q q) (λi j hi O C c=>d _ _ rfl (λb o z=>Zc _ (keep b o z)) i j hi O C c) ⟨_,rfl,?_⟩) (args_list_sort _)));exact US ⟨_,rfl,h⟩
end
end Ev
namespace Ev
open PySem PySem.Spec PyProof.Rows L2
open PySem.W (kas_sort KatTups)
section
variable {X:Cx} {K:Vp} {m:List Addr} {H:Hp} {S:Sto}
def xi(r:aP v its){i:Nat}(hi:i < v.length):aB (v.getD i .non) (its.getD i Value.none):=by
 obtain⟨u,e,b⟩:=r.get (gEG hi);rw[Zm,Zm,gEG hi,e];exact b
def ou{v:List V}{its:List Value}(r:aP v its):∀ (l:List Nat),(∀i ∈ l,i < v.length)->aP (l.map λi=>v.getD i .non) (l.map λi=>its.getD i Value.none)
 |[],_=>.nil
 |i::l,h=>.cons (xi r (h i Zk)) (ou r l λj b=>h j (Zh _ b))
abbrev vt(x:Int):List Int->List Int
 |[]=>[x]
 |y::l=>if x<=y then x::y::l else y::vt x l
abbrev cN:List Int->List Int
 |[]=>[]
 |x::l=>vt x (cN l)
def jx(x:Int):∀l,(vt x l).Perm (x::l)
 |[]=>List.Perm.refl _
 |y::l=>by
  unfold vt;split
  ·exact List.Perm.refl _
  ·exact((jx x l).cons y).trans (List.Perm.swap x y l)
def bz:∀l,(cN l).Perm l
 |[]=>List.Perm.refl _
 |x::l=>(jx x (cN l)).trans ((bz l).cons x)
def jW(x:Int):∀l:List Int,l.Pairwise (·<=·)->(vt x l).Pairwise (·<=·)
 |[],_=>by unfold vt;simp
 |y::l,h=>by
  unfold vt;rw[ZV] at h;split
  ·rename_i c;refine ZV.mpr ⟨λz hz=>?_,ZV.mpr h⟩;rcases Zn.mp hz with rfl |hz
   ·exact c
   ·have:=h.1 z hz;lia
  ·rename_i c;refine ZV.mpr ⟨λz hz=>?_,jW x l h.2⟩;rcases Zn.mp ((jx x l).mem_iff.mp hz) with rfl |hz
   ·lia
   ·exact h.1 z hz
def bO:∀l,(cN l).Pairwise (·<=·)
 |[]=>List.Pairwise.nil
 |x::l=>jW x _ (bO l)
def dj:∀ {a b:List Int},a.Perm b->a.Pairwise (·<=·)->b.Pairwise (·<=·)->a=b
 |[],b,p,_,_=>(List.Perm.nil_eq p)
 |x::a,[],p,_,_=>(List.Perm.nil_eq p.symm).symm
 |x::a,y::b,p,ha,hb=>by
  rw[ZV] at ha hb
  have e:x=y:=by
   have h1:=p.mem_iff.mp (Zk (a:=x) (l:=a));have h2:=p.mem_iff.mpr (Zk (a:=y) (l:=b));rcases Zn.mp h1 with rfl |h1
   ·rfl
   ·rcases Zn.mp h2 with h2 |h2
    ·exact h2.symm
    ·have:=ha.1 y h2;have:=hb.1 x h1
     lia
  subst e;rw[dj (List.Perm.cons_inv p) ha.2 hb.2]
def vA:aR X (.builtin "sorted") (λxs H Q=>∃a ns,xs=[.ref a]/\SqL X.K H a (ns.map V.int)/\ns.length < 64/\∀p,H p=aD->Q (.ref p) (upd H p (.lst ((cN ns).map V.int)))):=by
 intro j s U H xs Y Q I r h;obtain⟨a,ns,rfl,y,C,q⟩:=h;obtain⟨u,rfl,v⟩:=bQ r;cases v;obtain⟨d,k,J,l⟩:=I.list y;have c:=k.length;rw[Za] at c l;refine sorted_ints J.isList (bf k) (by lia) λout f O B L=>?_;have e:f=cN ns:=dj (B.trans (bz ns).symm) L (bO ns);subst e;obtain⟨e,T⟩:=sortedAll_at s.heap d out;refine⟨.ref (s.heap.objs.size+1),_,I.laid (t':=s.toks) (a:=s.heap.objs.size+1) (o:=.lst ((cN ns).map V.int)) (λb o z=>sortedAll_old z) (Ys _) ⟨by rw[Za,(bz ns).length_eq];exact l,out.toList,e,gx O,by simpa using T⟩,rfl,q _ (I.hok.fresh (Ys _))⟩
abbrev sE(_:Bool)(d:List D):Option (List D):=match bR d with
 |some ns=>if ns.length < 64 then aw ((cN ns).map D.int) else aD
 |none=>aD
def qg(h:VDs K m H d f):∀ (l:List Nat),(∀i ∈ l,i < d.length)->VDs K m H (l.map λi=>d.getD i .non) (l.map λi=>f.getD i .non)
 |[],_=>by rw[Z4,Z4,VDs]
 |i::l,hl=>by
  rw[Zy,Zy,VDs];obtain⟨v,e,b⟩:=h.get (gEG (hl i Zk));refine⟨_,_,rfl,?_,qg h l λj c=>hl j (Zh _ c)⟩;rw[Zm,Zm,gEG (hl i Zk),e];exact b
abbrev Fg(d:List D):Option (List D):=match bR d with
 |some ns=>if ns.length < 64 then aw ((cN ns).map D.int) else aD
 |none=>aD
def vB:aR X (.builtin "sorted") (λxs H Q=>∃a ns,xs=[.ref a]/\SqT X.K H a (ns.map V.int)/\ns.length < 64/\∀p,H p=aD->Q (.ref p) (upd H p (.lst ((cN ns).map V.int)))):=by
 intro j s U H xs Y Q I r h;obtain⟨a,ns,rfl,y,C,q⟩:=h;obtain⟨u,rfl,v⟩:=bQ r;cases v;obtain⟨d,k,J,l⟩:=I.tuple y;have c:=k.length;rw[Za] at c l;refine HT.vh J (bf k) (by lia) λout f O B L=>?_;have e:f=cN ns:=dj (B.trans (bz ns).symm) L (bO ns);subst e;obtain⟨e,T⟩:=sortedAll_at s.heap d out;refine⟨.ref (s.heap.objs.size+1),_,I.laid (t':=s.toks) (a:=s.heap.objs.size+1) (o:=.lst ((cN ns).map V.int)) (λb o z=>sortedAll_old z) (Ys _) ⟨by rw[Za,(bz ns).length_eq];exact l,out.toList,e,gx O,by simpa using T⟩,rfl,q _ (I.hok.fresh (Ys _))⟩
def zg:aR X (.builtin "sorted") (r1 (rTm X.K λT d=>if T=aS then sE T d else aD)):=by
 refine aR.imp vA λk H Q h=>?_;obtain⟨_,rfl,m,S,T,d,a,v,es,R,rfl,b,vd,e,q⟩:=cH h;cases T with
 |true=>cases e
 |false=>
  have e:sE aS d=aw es:=by simpa using e
  unfold sE at e;cases hi:bR d with
  |none=>rw[hi] at e;cases e
  |some ns=>
   rw[hi] at e;dsimp only at e;split at e
   ·rename_i f;cases e;have c:=cq hi;subst c;have j:=bF vd;subst j;exact⟨a,ns,rfl,b,f,iP R (jt _) q⟩
   ·cases e
end
end Ev
namespace Ev
open PySem PySem.Spec PyProof.Rows L2
abbrev iT:List Int->Int
 |[]=>0
 |n::ns=>ns.foldl (λa b=>if a < b then b else a) n
def iU:∀ (ns:List Int) (n:Int),(ns.foldl (λa b=>if a < b then b else a) n) ∈ n::ns/\∀x ∈ n::ns,x<=ns.foldl (λa b=>if a < b then b else a) n
 |[],n=>⟨Zk,λx hx=>by simp at hx;subst hx;exact ZP _⟩
 |m::ns,n=>by
  obtain⟨f,c⟩:=iU ns (if n < m then m else n);rw[XJ];refine⟨?_,λx hx=>?_⟩
  ·rcases Zn.mp f with h |h
   ·rw[h];split <;> simp
   ·exact Zh _ (Zh _ h)
  ·have d:=c _ Zk;rcases Zn.mp hx with rfl |hx
   ·split at d <;> split <;> omega
   ·rcases Zn.mp hx with rfl |hx
    ·split at d <;> split <;> omega
    ·exact c x (Zh _ hx)
def Bu{M:Int}(c:M ∈ ns)(d:∀a,a ∈ ns->a<=M):M=iT ns:=by
 cases ns with
 |nil=>simp at c
 |cons n ns=>
  obtain⟨a,b⟩:=iU ns n;have:=d _ a;have:=b _ c;show M=ns.foldl _ n;omega
section
variable {X:Cx} {K:Vp} {m:List Addr} {H:Hp} {S:Sto}
def zh(hc:X.calm=aN):aR X (.builtin "max") (λxs H Q=>∃a ns,xs=[.ref a]/\SqL X.K H a (ns.map V.int)/\ns ≠ []/\Q (.int (iT ns)) H):=by
 intro c s σ H xs us Q I r h;obtain⟨a,ns,rfl,L,d,q⟩:=h;obtain⟨u,rfl,J⟩:=bQ r;cases J;obtain⟨its,Y,T,hz⟩:=I.list L;have hi:=bf Y;have z:=T.isList;obtain⟨y,e⟩:=hi.allInts.items
 have b:ns=y.toList.map (·.1):=by
  have f:=hi.numsOf;rw[<-nums_intItems,<-e];exact f.symm
 have k:0 < y.size:=by
  have B:0 < ns.length:=Xr.mpr d;rw[b,Za,Zr] at B;exact B
 rw[e] at z;refine max_intList (I.ok.hd hc) z k λv Z tk hv hk=>?_;obtain⟨t,rfl⟩:=V9 hv;obtain⟨b1,U⟩:=argBest_gt (numAt y) (y.size - 1);have l:∀M:Int,M ∈ ns->(∀a,a ∈ ns->a<=M)->∃x H',Inv X c σ H' { s with heap:=Z,toks:=tk }/\aB x (.int M t)/\Q x H':=λM f O=>⟨.int (iT ns),H,I.kept hk,⟨t,by rw[Bu f O]⟩,q⟩;refine l _ ?_ λa C=>?_
 ·rw[b,Uh];exact getD_mem (by rw[Za,Zr];omega)
 ·rw[b] at C;obtain⟨j,hj,rfl⟩:=mem_getD C;rw[Za,Zr] at hj;rw[<-Uh];exact U j (by omega)
def qh(q:A.handled=aD)(hl:s.heap.IsTuple l (V8 xs))(f:0 < xs.size)
  (h:∀v h' T,(V8 xs)[argBest (λi j=>decide (numAt xs i > numAt xs j)) (xs.size - 1)]?=aw v->(∀b o,s.heap.get? b=aw o->h'.get? b=aw o)->Q v { s with heap:=h',toks:=T }) :
  wpAny (model prog w) A (call (.builtin "max") [.ref l]) Q E s:=by
 have d:l < s.heap.objs.size:=by obtain⟨_,e,_⟩:=hl;exact Zq e
 refine call_max_walk (UV hl ?_);refine⟨_,[_,l],[_],_,_,_,_,rfl,Walks.tuple (A:=A.in1) q _ l (ZG d) (V8 xs),⟨⟨_,Zs _ rfl,rfl,rfl⟩,hl.push _⟩,λc hc=>?_,by simpa[V8] using f,CmpOf.ints_gt (numAt xs) (λ_ _=>V9),λv h' T u k=>?_⟩
 ·show c < (s.heap.push _).objs.size;rw[Yq];rcases Zn.mp hc with rfl |hc
  ·exact Xg _
  ·rcases Zn.mp hc with rfl |hc
   ·exact Yu d
   ·cases hc
 ·refine h v h' T (by simpa[V8] using u) λb o e=>k b o (λhm=>?_) (Zc _ e);rcases Zn.mp hm with e1 |hm
  ·exact absurd (e1 ▸ Zq e) (ZK _)
  ·cases hm
def zi(hc:X.calm=aN):aR X (.builtin "max") (λxs H Q=>∃a ns,xs=[.ref a]/\SqT X.K H a (ns.map V.int)/\ns ≠ []/\Q (.int (iT ns)) H):=by
 intro c s σ H xs us Q I r h;obtain⟨a,ns,rfl,O,d,q⟩:=h;obtain⟨u,rfl,L⟩:=bQ r;cases L;obtain⟨z,Z,U,hz⟩:=I.tuple O;have hi:=bf Z;have B:s.heap.IsTuple a z.toArray:=U;obtain⟨y,e⟩:=hi.allInts.items
 have b:ns=y.toList.map (·.1):=by
  have f:=hi.numsOf;rw[<-nums_intItems,<-e];exact f.symm
 have k:0 < y.size:=by
  have C:0 < ns.length:=Xr.mpr d;rw[b,Za,Zr] at C;exact C
 rw[e] at B;refine qh (I.ok.hd hc) B k λv h' tk hv hk=>?_;obtain⟨t,rfl⟩:=V9 hv;obtain⟨b1,Y⟩:=argBest_gt (numAt y) (y.size - 1);have l:∀M:Int,M ∈ ns->(∀a,a ∈ ns->a<=M)->∃x H',Inv X c σ H' { s with heap:=h',toks:=tk }/\aB x (.int M t)/\Q x H':=λM f T=>⟨.int (iT ns),H,I.kept hk,⟨t,by rw[Bu f T]⟩,q⟩;refine l _ ?_ λa J=>?_
 ·rw[b,Uh];exact getD_mem (by rw[Za,Zr];omega)
 ·rw[b] at J;obtain⟨j,hj,rfl⟩:=mem_getD J;rw[Za,Zr] at hj;rw[<-Uh];exact Y j (by omega)
abbrev nB(T:Bool)(d:List D)(S:Sto):Option (D × Sto):=match bR d with
 |some (n::ns)=>aw (.int (iT (n::ns)),S)
 |_=>aD
def zj(hc:X.calm=aN):aR X (.builtin "max") (r1 (rSq X.K nB)):=by
 refine aR.imp (aR.or (zh hc) (zi hc)) λf H Q h=>?_;obtain⟨_,rfl,m,S,T,k,a,v,d,j,R,rfl,sq,vd,e,q⟩:=cH h;unfold nB at e;split at e
 ·rename_i n ns hi;cases e;have b:=cq hi;subst b;have c:=bF vd;subst c;rcases lV sq with sq |sq
  ·exact .inl ⟨a,n::ns,rfl,sq,by simp,q m H _ (Aft.refl R) bn⟩
  ·exact .inr ⟨a,n::ns,rfl,sq,by simp,q m H _ (Aft.refl R) bn⟩
 ·cases e
abbrev Bv(d:D)(S:Sto):Option (D × Sto):=match d with
 |.int i=>aw (.int i,S)
 |.bl b=>aw (.int (if b then 1 else 0),S)
 |_=>aD
def zk:aR X (.type "int") (r1 (rS1 X.K Bv)):=by
 refine aR.imp yI λc H Q h=>?_;obtain⟨x,rfl,m,S,a,d,f,R,v,e,q⟩:=cH h;cases a with
 |int i=>cases e;exact .inl ⟨i,by rw[v.ints],q m H _ (Aft.refl R) bn⟩
 |bl b=>cases e;exact .inr ⟨b,by rw[v.bls],q m H _ (Aft.refl R) bn⟩
 |_=>cases e
end
abbrev Bw(c:Int):List Int->Int
 |[]=>c
 |n::ns=>iT (n::ns)
section
variable {X:Cx} {K:Vp} {m:List Addr} {H:Hp} {S:Sto}
abbrev fP(d:D)(S:Sto):Bool:=match d with
 |.ref n=>(aU S n).isSome
 |_=>aS
abbrev isTup:D->Bool
 |.tup _=>aN
 |_=>aS
abbrev zl(c:D->Sto->Bool)(f:D->List D->Sto->Option (D × Sto))(x:XE)(y:XA):XE:=λb S=>bnd (x b S) λd j=>if c d j=aN then bnd (y b j) λk l=>f d k l else aD
abbrev rM(K:Vp)(f:D->List D->Sto->Option (D × Sto)):V->List V->Hp->VK->Prop:=λv l H Q=>∃m S a j d c,Rel K m S H/\VD K m H a v/\VDs K m H j l/\f a j S=aw (d,c)/\∀k b u,Aft K m H c k b->VD K k b d u->Q u b
def qi(U:∀ {m H S d v},Rel K m S H->VD K m H d v->c d S=aN->tyV K T v H)(h:tE K (zl c f x y) O H Q):tBM K T (rM K f) (tE K x) (tAr K y) O H Q:=by
 obtain⟨m,k,S,d,S',E,R,e,q⟩:=h;obtain⟨a,z,J,e⟩:=ab e;split at e
 ·rename_i L;obtain⟨C,l,Z,e⟩:=ab e;refine⟨m,k,S,a,z,E,R,J,λm1 H1 v b B=>⟨U b.rel B L,m1,k,z,C,l,E.mono R b.ext,b.rel,Z,λm2 H2 vs j vb=>?_⟩⟩;exact⟨m2,l,a,C,d,S',j.rel,B.mono b.rel j.ext,vb,e,λm3 I u Y vd=>q m3 I u ((b.trans j).trans Y) vd⟩
 ·cases e
def Bx(R:Rel K m S H)(vd:VD K m H d v)(h:fP d S=aN):tyV K "list" v H:=by
 cases d with
 |ref n=>
  simp only[fP] at h;obtain⟨q,hs⟩:=Yl.mp h;obtain⟨p,f,k,j,c⟩:=R.seq hs;obtain⟨l,b,rfl⟩:=vd.refs;rw[k] at b;cases b;exact .inl ⟨rfl,f,j⟩
 |_=>cases h
def Bz(R:Rel K m S H)(vd:VD K m H d v)(h:(λd (_:Sto)=>isTup d) d S=aN):tyV K "tuple" v H:=by
 cases d with
 |tup f=>
  obtain⟨a,c,rfl,b,_⟩:=vd.tups;exact .inr (.inl ⟨rfl,.inr ⟨c,b⟩⟩)
 |_=>cases h
abbrev chg(n:Nat)(S:Sto)(f:List D->Option (D × List D)):Option (D × Sto):=match S[n]? with
 |some (.lst ds)=>(f ds).map λr=>(r.1,S.set n (.lst r.2))
 |_=>aD
def sF{n:Nat}(h:chg n S f=aw (d,l)):∃b k,S[n]?=aw (.lst b)/\f b=aw (d,k)/\l=S.set n (.lst k):=by
 unfold chg at h;cases j:S[n]? with
 |none=>rw[j] at h;cases h
 |some o=>
  rw[j] at h;cases o with
  |lst b=>
   dsimp only at h;cases c:f b with
   |none=>rw[c] at h;cases h
   |some r=>rw[c] at h;cases h;exact⟨b,r.2,rfl,c,rfl⟩
  |_=>cases h
abbrev sG(d:D)(c:List D)(S:Sto):Option (D × Sto):=match d,c with
 |.ref n,[e]=>chg n S λb=>if b.length < 100000 then aw (.non,b++[e]) else aD
 |_,_=>aD
abbrev ie(d:D)(c:List D)(S:Sto):Option (D × Sto):=match d,c with
 |.ref n,[.int i]=>chg n S λb=>match ixN b.length i with
  |some k=>(b[k]?).map λx=>(x,b.eraseIdx k)
  |none=>aD
 |_,_=>aD
def vC{n:Nat}(R:Rel K m S H)(vd:VD K m H (.ref n) v)(f:S[n]?=aw (.lst j)):∃a vs,v = .ref a/\m[n]?=aw a/\H a=aw (.lst vs)/\VDs K m H j vs:=by
 obtain⟨a,vs,c,d,q⟩:=R.lst f;obtain⟨k,b,e⟩:=vd.refs;rw[c] at b;cases b;exact⟨a,vs,e,c,d,q⟩
def jy{n:Nat}(R:Rel K m S H)(b:m[n]?=aw a)(vd:VDs K m H c d):Aft K m H (S.set n (.lst c)) m (upd H a (.lst d)):=let ⟨x,y⟩:=R.write b vd;⟨x,y⟩
def KP:MtR X "list.append" (rM X.K sG):=by
 intro c s u H x J v U Q I Y T h;refine n8 c s u H x J v U Q I Y T ?_;obtain⟨m,S,a,as,d,S',R,L,B,e,q⟩:=h;unfold sG at e;split at e
 ·rename_i n z;obtain⟨ds,es,j,f,rfl⟩:=sF e;split at f
  ·rename_i Z;cases f;obtain⟨p,k,rfl,C,l,b⟩:=vC R L j;obtain⟨y,rfl,O⟩:=Fd B;refine⟨p,k,y,rfl,rfl,l,by rw[Ut,<-b.length];lia,q m _ _ (jy R C (b.append (.cons O .nil))) p0⟩
  ·cases f
 ·cases e
def sH:∀ {b:List D} {v:List V} (k:Nat),VDs K m H b v->VDs K m H (b.eraseIdx k) (v.eraseIdx k)
 |[],v,k,h=>by rw[VDs] at h;subst h;exact .nil
 |d::b,v,0,h=>by
  rw[VDs] at h;obtain⟨y,r,rfl,p,q⟩:=h;exact q
 |d::b,v,k+1,h=>by
  rw[VDs] at h;obtain⟨y,r,rfl,p,q⟩:=h;exact .cons p (sH k q)
def zm:MtR X "list.pop" (rM X.K ie):=by
 intro f s T H x xs v Y Q I rx rs h;refine AM f s T H x xs v Y Q I rx rs ?_;obtain⟨m,S,a,as,d,S',R,va,U,e,q⟩:=h;unfold ie at e;split at e
 ·rename_i n i;obtain⟨u,es,L,c,rfl⟩:=sF e;cases l:ixN u.length i with
  |none=>rw[l] at c;cases c
  |some k=>
   rw[l] at c;dsimp only at c;cases j:u[k]? with
   |none=>rw[j] at c;cases c
   |some z=>
    rw[j] at c;cases c;obtain⟨p,O,rfl,hp,B,b⟩:=vC R va L;obtain⟨y,rfl,vi⟩:=Fd U;cases vi.ints;obtain⟨y,J,vy⟩:=b.get j;have A:=jy R hp (sH k b);obtain⟨Z,h2,h3,h4⟩:=pO l;have hz:=(I.lst B).choose_spec.choose_spec.2.2;have C:=b.length;rw[Ut] at hz;exact⟨p,O,i,k,y,rfl,rfl,B,by lia,by lia,by rw[<-b.length];exact Z,J,q m _ _ A (vy.mono R A.ext)⟩
 ·cases e
abbrev vD(d:D)(b:List D)(S:Sto):Option (D × Sto):=match d,b with
 |.tup ds,[x]=>if cM x=aN/\ds.all cM=aN then aw (.int (ds.countP λz=>eqF z x:Nat),S) else aD
 |_,_=>aD
def Fh:MtR X "tuple.count" (rM X.K vD):=by
 intro c s u H x C v U Q I O L h;refine yV X.K rfl c s u H x C v U Q I O L ?_;obtain⟨m,S,a,Y,d,Z,R,J,B,e,q⟩:=h;unfold vD at e;split at e
 ·rename_i T z;split at e
  ·rename_i f;cases e;obtain⟨p,l,rfl,k,b⟩:=J.tups;obtain⟨y,rfl,j⟩:=Fd B;exact⟨p,l,y,rfl,rfl,.of k,kF j f.1,iR b f.2,q m H _ (Aft.refl R) (by rw[ot j f.1 b f.2];exact bn)⟩
  ·cases e
 ·cases e
abbrev jz(o i v:D)(S:Sto):Option Sto:=match o,i with
 | .ref n,.int k=>(match S[n]? with
  |some (.lst ds)=>(ixN ds.length k).map λj=>S.set n (.lst (ds.set j v))
  | _=>aD)
 |o,i=>Bf o i v S
abbrev Pq(K:Vp):Eo:=λo i v H Q=>∃m S a b c f,Rel K m S H/\VD K m H a o/\VD K m H b i/\VD K m H c v/\jz a b c S=aw f/\∀j d,Aft K m H f j d->Q d
def Pr(hu:X.A.units+64 < cLine):JU X (Pq X.K):=by
 intro f s σ H o i v ov iv u Q I B T J h;obtain⟨m,S,a,b,c,S',R,L,U,O,e,q⟩:=h;unfold jz at e;split at e
 ·rename_i n k;cases l:S[n]? with
  |none=>rw[l] at e;cases e
  |some ob=>
   rw[l] at e;cases ob with
   |lst C=>
    dsimp only at e;cases y:ixN C.length k with
    |none=>rw[y] at e;cases e
    |some j=>
     rw[y] at e;cases e;obtain⟨p,ws,rfl,hp,hH,d⟩:=vC R L l;cases U.ints;exact AL f s σ H _ _ v ov iv u Q I B T J ⟨p,ws,k,j,rfl,rfl,hH,by rw[<-d.length];exact y,q m _ (jy R hp (d.set O))⟩
   |_=>cases e
 ·obtain⟨k,n,kss,C,hk,rfl,l,Z,rfl⟩:=yX e;obtain⟨a,b,z,rfl,rfl,g,A⟩:=E6 R hk l Z U L O;cases B;cases T;exact yU (show X.A.units+2 < cLine by lia) I g rfl J λs' Y=>⟨z,Y,q m z A⟩
end
@[inline]abbrev Nxt:=Nat->Sto->Option (Option D)
@[inline]abbrev XI:=Rho->Sto->Option (Nxt × Sto)
structure ExtB(B:List Addr)(m:List Addr)(H:Hp)(m':List Addr)(H':Hp):Prop where
 pre:m <+: m'
 keep:∀a o,H a=aw o->a ∉ m->a ∉ B->H' a=aw o
 new:∀a,a ∈ m'->a ∉ m->H a=aD
 nb:∀b,b ∈ B->b ∉ m'
abbrev AtB(B:List Addr)(m:List Addr)(H:Hp):Prop:=∀b,b ∈ B->(∃v,H b=aw (.lst v))/\b ∉ m
def Ext.toB(c:AtB B m H)(x:Ext m H d H'):ExtB B m H d H':=⟨x.pre,λa o h n _=>x.keep a o h n,x.new,λb hb z=>by
 obtain⟨⟨v,e⟩,n⟩:=c b hb;have:=x.new b z n;rw[e] at this;cases this⟩
def ExtB.trans(x:ExtB B m H m1 c)(y:ExtB B m1 c d H2):ExtB B m H d H2:=by
 refine⟨x.pre.trans y.pre,λa o h n nb=>?_,λa h n=>?_,y.nb⟩
 ·have f:a ∉ m1:=λz=>by have:=x.new a z n;rw[this] at h;cases h
  exact y.keep a o (x.keep a o h n nb) f nb
 ·by_cases b:a ∈ m1
  ·exact x.new a b n
  ·cases e:H a with
   |none=>rfl
   |some o=>
    by_cases hb:a ∈ B
    ·exact absurd h (y.nb a hb)
    ·have:=x.keep a o e n hb;rw[y.new a h b] at this;cases this
def AtB.ext(c:AtB B m H)(x:Ext m H d H'):AtB B d H':=λb hb=>by
 obtain⟨⟨v,e⟩,n⟩:=c b hb;exact⟨⟨v,x.keep _ _ e n⟩,(x.toB c).nb b hb⟩
abbrev IOk(K:Vp)(B:List Addr)(J:It)(nx:Nxt)(m0:List Addr)(c:Hp):Prop:=∀ (m:List Addr) (S:Sto) (H:Hp) (i:Nat),ExtB B m0 c m H->Rel K m S H ->
 (nx i S=aw aD->J.stop i H)/\(∀d,nx i S=aw (aw d)->J.go i H/\∀x b,J.yld i H x b->Aft K m H S m b/\VD K m b d x)
abbrev tIt(K:Vp)(B:List Addr)(x:XI):TI:=λj H R=>∃m c S nx d,EnvR K m H c j/\Rel K m S H/\AtB B m H/\x c S=aw (nx,d)/\∀f b J,Aft K m H d f b->IOk K B J nx f b->R J b
abbrev nxL(d:List D):Nxt:=λi _=>aw d[i]?
abbrev nxS(n:Nat):Nxt:=λi S=>(aU S n).map λd=>d[i]?
abbrev nxR(lo:Int)(n:Nat):Nxt:=λi _=>aw (if i < n then aw (.int (lo+i)) else aD)
abbrev w9(i:Nat)(d:D):D:=.tup [.int i,d]
abbrev enm(d:List D)(i:Nat):Option (Option D):=if i<=d.length then aw (d[i]?.map (w9 i)) else aD
abbrev Fi(d:List D):Nxt:=λi _=>enm d i
section
variable {X:Cx} {K:Vp} {m B:List Addr} {H:Hp} {S:Sto}
def Fj(R:Rel K m0 d b)(c:AtB B m0 b)(x:ExtB B m0 b m H)(h:b a=aw (.tup xs)):H a=aw (.tup xs):=x.keep _ _ h (R.notTup h) λz=>by
 obtain⟨⟨v,e⟩,_⟩:=c a z;rw[e] at h;cases h
def VDs.monoB(R:Rel K m0 f b)(c:AtB B m0 b)(x:ExtB B m0 b m H)(h:VDs K m0 b d vs):VDs K m H d vs:=VDs.mono0 x.pre (λ_ _=>Fj R c x) h
def VD.monoB(R:Rel K m0 f b)(c:AtB B m0 b)(x:ExtB B m0 b m H)(h:VD K m0 b d v):VD K m H d v:=VD.mono0 x.pre (λ_ _=>Fj R c x) h
def EnvR.monoB(R:Rel K m0 j b)(f:AtB B m0 b)(x:ExtB B m0 b m H)(h:EnvR K m0 b c σ):EnvR K m H c σ:=
 ⟨h.len,λi d e=>let ⟨v,p,q⟩:=h.at_ i d e;⟨v,p,VD.monoB R f x q⟩⟩
def sI(h:∀m S H i o,ExtB B m0 H0 m H->Rel K m S H->nx i S=aw o->∃f b,o=f[i]?/\SqL K H a b/\VDs K m H f b):IOk K B (Itl K a) nx m0 H0:=by
 intro m S H i x R;refine⟨λe=>?_,λd e=>?_⟩
 ·obtain⟨f,b,j,c,vd⟩:=h m S H i _ x R e;exact⟨b,c,by rw[<-vd.length];exact Z9.mp j.symm⟩
 ·obtain⟨f,b,j,c,vd⟩:=h m S H i _ x R e;obtain⟨v,k,q⟩:=vd.get j.symm;refine⟨⟨b,v,c,k⟩,λy z ⟨u,l⟩=>?_⟩;subst u;have:=l b c;rw[k] at this;cases this;exact⟨Aft.refl R,q⟩
def Fk(k:Rel K m0 J H0)(j:AtB B m0 H0)(z:H0 a=aw (.tup vs))(vd:VDs K m0 H0 C vs):IOk K B (Itt K a) (nxL C) m0 H0:=by
 intro m S H i x R;have b:SqT K H a vs:=.of (Fj k j x z);have c:=vd.monoB k j x;refine⟨λe=>⟨vs,b,?_⟩,λd e=>?_⟩
 ·rw[<-c.length];exact Z9.mp (Option.some.inj e)
 ·obtain⟨v,f,q⟩:=c.get (Option.some.inj e);refine⟨⟨vs,v,b,f⟩,λy I ⟨u,l⟩=>?_⟩;subst u;have:=l vs b;rw[f] at this;cases this;exact⟨Aft.refl R,q⟩
def xj{lo:Int}{n:Nat}:IOk K B (Itr lo n) (nxR lo n) m0 H0:=by
 intro m S H i x R;unfold nxR;refine⟨λe=>?_,λd e=>?_⟩
 ·split at e
  ·cases e
  ·show n<=i;lia
 ·split at e
  ·rename_i hi;cases e;exact⟨hi,λy f ⟨c,b⟩=>by subst c;subst b;exact⟨Aft.refl R,bn⟩⟩
  ·cases e
def Fm(h:∀m S H i o,ExtB B m0 H0 m H->Rel K m S H->nx i S=aw o->∃f c,enm f i=aw o/\k K H a c/\VDs K m H f c):IOk K B (Ite K a k) nx m0 H0:=by
 intro m S H i x R;refine⟨λe=>?_,λd e=>?_⟩
 ·obtain⟨f,c,b,j,vd⟩:=h m S H i _ x R e;unfold enm at b;split at b
  ·rename_i Q;refine⟨c,j,?_⟩;rw[<-vd.length];cases hd:f[i]? with
   |none=>have:=Z9.mp hd;lia
   |some z=>rw[hd] at b;cases b
  ·cases b
 ·obtain⟨f,c,b,j,vd⟩:=h m S H i _ x R e;unfold enm at b;split at b
  ·cases hd:f[i]? with
   |none=>rw[hd] at b;cases b
   |some z=>
    rw[hd] at b;cases b;obtain⟨v,u,I⟩:=vd.get hd;refine⟨⟨c,v,j,u⟩,λy O ⟨T,q,J,C⟩=>?_⟩;subst J;have L:=C c v j u;subst L;have l:=Ext.beside R q (.tup [.int i,v]);exact⟨⟨l,R.beside q _⟩,lK az (.cons bn (.cons (I.mono R l) .nil))⟩
  ·cases b
abbrev SD(d:D):Option Nxt:=match d with
 |.tup ds=>aw (nxL ds)
 |.ref n=>aw (nxS n)
 |_=>aD
abbrev xIV(x:XE):XI:=λc S=>bnd (x c S) λd b=>match d with
 |.tup ds=>aw (nxL ds,b)
 |.ref n=>if (aU b n).isSome=aN then aw (nxS n,b) else aD
 |_=>aD
abbrev xIT(x:XA):XI:=λb S=>bnd (x b S) λd c=>aw (nxL d,c)
abbrev xEV(x:XE):XI:=λb S=>bnd (x b S) λd c=>match d with
 |.tup ds=>aw (Fi ds,c)
 |_=>aD
abbrev lim(i:Int):Bool:=decide (-(2 ^ 62)<=i) && decide (i < 2 ^ 62)
abbrev xR1(x:XE):XI:=λb S=>bnd (x b S) λd c=>match d with
 |.int j=>if lim j=aN then aw (nxR 0 j.toNat,c) else aD
 |_=>aD
abbrev xR2(x y:XE):XI:=λb S=>bnd (x b S) λd c=>bnd (y b c) λe f=>match d,e with
 |.int i,.int j=>if lim i=aN/\lim j=aN then aw (nxR i (j - i).toNat,f) else aD
 |_,_=>aD
def fQ{i:Int}(h:lim i=aN):-(2 ^ 62)<=i/\i < 2 ^ 62:=by simpa[lim] using h
def xk{n:Nat}(f:m0[n]?=aw a)(x:m0 <+: m)(R:Rel K m S H)(hs:aU S n=aw d):∃vs,SqL K H a vs/\VDs K m H d vs:=by
 obtain⟨p,vs,b,c,vd⟩:=R.seq hs;have:=pW x f;rw[this] at b;cases b;exact⟨vs,c,vd⟩
def RS(b:AtB B m H)(h:H a=aD):a ∉ B:=λz=>by
 obtain⟨⟨v,e⟩,_⟩:=b a z;rw[h] at e;cases e
def RT(h:tIt K B (xIV x) L H R):Ay K (tE K x) L H R\/OX K (tE K x) L H R:=by
 obtain⟨m,I,S,nx,S',E,O,hB,e,q⟩:=h;obtain⟨d,S1,J,e⟩:=ab e;cases d with
 |tup U=>
  cases e;refine .inr ⟨m,I,S,_,_,E,O,J,λm1 k v b vd=>?_⟩;obtain⟨a,z,rfl,j,c⟩:=vd.tups;exact⟨a,rfl,⟨z,.of j⟩,q m1 k _ b (Fk b.rel (hB.ext b.ext) j c)⟩
 |ref n=>
  dsimp only at e;split at e
  ·rename_i hs;cases e;refine .inl ⟨m,I,S,_,_,E,O,J,λm1 k v b vd=>?_⟩;obtain⟨a,Q,rfl⟩:=vd.refs;obtain⟨U,y⟩:=Yl.mp hs;obtain⟨z,j,c⟩:=xk Q (Yj _) b.rel y;refine⟨a,rfl,⟨z,j⟩,q m1 k _ b (sI λm2 T H2 i o Y R2 f=>?_)⟩;unfold nxS at f;cases l:aU T n with
   |none=>rw[l] at f;cases f
   |some es=>
    rw[l] at f;cases f;obtain⟨Z,u,C⟩:=xk Q Y.pre R2 l;exact⟨es,Z,rfl,u,C⟩
  ·cases e
 |_=>cases e
def RU(h:tIt K B (xIT x) z H R):Ay K (fB K x) z H R:=by
 obtain⟨m,j,S,nx,U,E,I,f,e,q⟩:=h;obtain⟨l,O,u,e⟩:=ab e;cases e;refine⟨m,j,S,_,_,E,I,u,λm1 k a v b c C T y vd=>⟨a,rfl,⟨v,.of c⟩,q m1 k _ b (sI λY L Q i o d R2 J=>?_)⟩⟩;cases J;exact⟨l,v,rfl,.of (d.keep _ _ c C (RS f y)),vd.monoB b.rel (f.ext b.ext) d⟩
def Ps(h:tIt K B (xEV x) I H R):Ph K (cg (tE K x) jl) I H R:=by
 obtain⟨m,u,S,nx,U,E,J,l,e,q⟩:=h;obtain⟨d,Q,C,e⟩:=ab e;cases d with
 |tup z=>
  cases e;refine⟨m,u,S,_,_,E,J,C,λm1 y v b vd=>?_⟩;obtain⟨a,k,rfl,f,c⟩:=vd.tups;refine⟨a,k,rfl,.of f,q m1 y _ b (Fm λY O T i o j R2 L=>⟨z,k,L,.of (Fj b.rel (l.ext b.ext) j f),c.monoB b.rel (l.ext b.ext) j⟩)⟩
 |_=>cases e
def Pt(h:tIt K B (xR1 x) z H R):IC (cg (tE K x) jl) z H R:=by
 obtain⟨m,c,S,nx,I,E,l,C,e,q⟩:=h;obtain⟨d,u,k,e⟩:=ab e;refine⟨m,c,S,d,u,E,l,k,λm1 y v f vd=>?_⟩;cases d with
 |int j=>
  dsimp only at e;split at e
  ·rename_i b;cases e;exact⟨j,by rw[vd.ints],(fQ b).1,(fQ b).2,q m1 y _ f xj⟩
  ·cases e
 |_=>cases e
def Pu(h:tIt K B (xR2 x y) J H R):IE (cg (tE K x) (cg (tE K y) jl)) J H R:=by
 obtain⟨m,k,S,nx,Z,E,u,Y,e,q⟩:=h;obtain⟨d,l,I,e⟩:=ab e;obtain⟨c,z,Q,e⟩:=ab e;refine⟨m,k,S,d,l,E,u,I,λm1 U v f vd=>⟨m1,k,l,c,z,E.mono u f.ext,f.rel,Q,λT O w C L=>?_⟩⟩;cases d with
 |int i=>
  cases c with
  |int j=>
   dsimp only at e;split at e
   ·rename_i b;cases e;exact⟨i,j,by rw[vd.ints,L.ints],⟨(fQ b.1).1,(fQ b.1).2,(fQ b.2).1,(fQ b.2).2⟩,q T O _ (f.trans C) xj⟩
   ·cases e
  |_=>cases e
 |_=>cases e
inductive Tg where
 |name (i:Nat) |tup (ts:List Tg)
mutual
noncomputable def aC:Tg->D->Rho->Option Rho
 |.name i,d,ρ=>if i < ρ.length then aw (ρ.set i (aw d)) else aD
 |.tup ts,.tup ds,ρ=>aQ ts ds ρ
 |_,_,_=>aD
noncomputable def aQ:List Tg->List D->Rho->Option Rho
 |[],[],ρ=>aw ρ
 |t::ts,d::ds,ρ=>match aC t d ρ with
  |some b=>aQ ts ds b
  |none=>aD
 |_,_,_=>aD
end
abbrev tTg(K:Vp)(t:Tg):TG:=λx j H Q=>∃m S f d c,Rel K m S H/\EnvR K m H f j/\VD K m H d x/\aC t d f=aw c/\∀b,EnvR K m H c b->Q b H
abbrev BA(K:Vp)(T:List Tg):TGs:=λj k H Q=>∃m S d f c,Rel K m S H/\EnvR K m H d k/\VDs K m H f j/\aQ T f d=aw c/\∀b,EnvR K m H c b->Q b H
def EnvR.set{i:Nat}(E:EnvR K m H c f)(h:VD K m H d v):EnvR K m H (c.set i (aw d)) (f.set i (aw v)):=by
 refine⟨by simp[E.len],λj k e=>?_⟩;rw[Yt] at e;rw[Yt,<-E.len];by_cases b:i=j
 ·rw[if_pos b] at e ⊢;split at e
  ·rename_i l;rw[if_pos l];cases e;exact⟨v,rfl,h⟩
  ·cases e
 ·rw[if_neg b] at e ⊢;exact E.at_ j k e
def qj{i:Nat}(h:tTg K (.name i) x b H Q):rG i x b H Q:=by
 obtain⟨m,S,f,d,c,R,E,vd,e,q⟩:=h;simp only[aC] at e;split at e
 ·cases e;exact q _ (E.set vd)
 ·cases e
def KQ{n:Nat}(j:n=T.length)(h:tTg K (.tup T) x k H Q):OU K n (BA K T) x k H Q:=by
 obtain⟨m,S,f,d,b,R,E,vd,e,q⟩:=h;cases d with
 |tup c=>
  simp only[aC] at e;obtain⟨a,l,rfl,u,v⟩:=vd.tups;refine⟨a,l,rfl,.of u,?_,m,S,f,c,b,R,E,v,e,q⟩
  have len:∀ (T:List Tg) (c:List D) (f b:Rho),aQ T c f=aw b->T.length=c.length:=by
   intro T
   induction T with
   |nil=>intro c f b e;cases c with |nil=>rfl |cons _ _=>simp[aQ] at e
   |cons t T I=>
    intro c f b e;cases c with
    |nil=>simp[aQ] at e
    |cons d c=>
     simp only[aQ] at e;split at e
     ·simp[I _ _ _ e]
     ·cases e
  rw[j,<-v.length];exact(len _ _ _ _ e).symm
 |_=>simp[aC] at e
def Fn(h:BA K [] xs b H Q):OT xs b H Q:=by
 obtain⟨m,S,f,d,c,R,E,vd,e,q⟩:=h;cases d with
 |nil=>simp[aQ] at e;subst e;rw[VDs] at vd;exact⟨vd,q _ E⟩
 |cons _ _=>simp[aQ] at e
def BC(h:BA K (t::T) xs u H Q):IB (tTg K t) (BA K T) xs u H Q:=by
 obtain⟨m,S,j,c,f,R,E,vd,e,q⟩:=h;cases c with
 |nil=>simp[aQ] at e
 |cons d c=>
  simp only[aQ] at e;rw[VDs] at vd;obtain⟨y,r,rfl,p,k⟩:=vd;cases hb:aC t d j with
  |none=>rw[hb] at e;cases e
  |some b=>
   rw[hb] at e;exact⟨y,r,rfl,m,S,j,d,b,R,E,p,hb,λv l=>⟨m,S,b,c,f,R,l,k,e,q⟩⟩
def PG.imp(h:PG X e t)(f:∀x c H Q,t' x c H Q->t x c H Q):PG X e t':=λb s c H v u Q I r q=>h b s c H v u Q I r (f v c H Q q)
def PGs.imp(h:PGs X d t)(f:∀x c H Q,t' x c H Q->t x c H Q):PGs X d t':=λb s c H v u Q I r q=>h b s c H v u Q I r (f v c H Q q)
end
inductive Fl where
 |nx |bk |ct |rt (d:D)
@[inline]abbrev XS:=Rho->Sto->Option (Fl × Rho × Sto)
abbrev BD(K:Vp)(m:List Addr)(H:Hp)(f:Fl)(c:Rho)(D:Ends):Prop:=match f with
 |.nx=>∀b,EnvR K m H c b->D.nx b H
 |.bk=>∀b,EnvR K m H c b->D.bk b H
 |.ct=>∀b,EnvR K m H c b->D.ct b H
 |.rt d=>∀v,VD K m H d v->D.rt v H
abbrev tSt(K:Vp)(x:XS):TS:=λD l H=>∃m c S k b f,EnvR K m H c l/\Rel K m S H/\x c S=aw (k,b,f)/\∀j d,Aft K m H f j d->BD K j d k b D
section
variable {X:Cx} {K:Vp} {m:List Addr} {H:Hp} {S:Sto}
abbrev BE(x y:XS):XS:=λb S=>match x b S with
 |none=>aD
 |some (.nx,ρ1,S1)=>y ρ1 S1
 |some r=>aw r
abbrev IR:XS:=λb S=>aw (.nx,b,S)
def Fo{D:Ends}{b:L2.St}{H:Hp}(h:tSt K IR D b H):Iy D b H:=by
 obtain⟨m,d,S,j,c,f,E,R,e,q⟩:=h;cases e;exact q m H (Aft.refl R) b E
def KR{x y:XS}{D:Ends}{v:L2.St}{H:Hp}(h:tSt K (BE x y) D v H):OO (tSt K x) (tSt K y) D v H:=by
 obtain⟨m,l,S,L,k,O,E,R,e,q⟩:=h;unfold BE at e;cases j:x l S with
 |none=>rw[j] at e;cases e
 |some r=>
  obtain⟨z,c,u⟩:=r;rw[j] at e;refine⟨m,l,S,z,c,u,E,R,j,λm1 f b=>?_⟩;cases z with
  |nx=>exactλI C=>⟨m1,c,u,L,k,O,C,b.rel,e,λQ J B=>q Q J (b.trans B)⟩
  |bk=>cases e;exact q m1 f b
  |ct=>cases e;exact q m1 f b
  |rt d=>cases e;exact q m1 f b
abbrev sJ(x:XE):XS:=λb S=>match x b S with
 |none=>aD
 |some (_,S1)=>aw (.nx,b,S1)
abbrev BF(x:XE):XS:=λb S=>match x b S with
 |none=>aD
 |some (d,S1)=>aw (.rt d,b,S1)
abbrev Pv:XS:=λb S=>aw (.ct,b,S)
def Fp{x:XE}{D:Ends}{c:L2.St}{H:Hp}(h:tSt K (sJ x) D c H):IA (tE K x) D c H:=by
 obtain⟨m,f,S,z,l,y,E,R,e,q⟩:=h;unfold sJ at e;cases b:x f S with
 |none=>rw[b] at e;cases e
 |some r=>
  obtain⟨d,u⟩:=r;rw[b] at e;cases e;exact⟨m,f,S,d,_,E,R,b,λm1 k v j _=>q m1 k j c (E.mono R j.ext)⟩
def KS{x:XE}{D:Ends}{f:L2.St}{H:Hp}(h:tSt K (BF x) D f H):JS (tE K x) D f H:=by
 obtain⟨m,c,S,z,l,y,E,R,e,q⟩:=h;unfold BF at e;cases b:x c S with
 |none=>rw[b] at e;cases e
 |some r=>
  obtain⟨d,u⟩:=r;rw[b] at e;cases e;exact⟨m,c,S,d,_,E,R,b,λm1 k v j vd=>q m1 k j v vd⟩
def KU{D:Ends}{b:L2.St}{H:Hp}(h:tSt K Pv D b H):Iz D b H:=by
 obtain⟨m,d,S,j,c,f,E,R,e,q⟩:=h;cases e;exact q m H (Aft.refl R) b E
abbrev xIf(c:XT)(x y:XS):XS:=λd S=>match c d S with
 |none=>aD
 |some (b,S1)=>if b=aN then x d S1 else y d S1
def Pw{c:XT}{x y:XS}{D:Ends}{C:L2.St}{H:Hp}(h:tSt K (xIf c x y) D C H):OP (tT K c) (tSt K x) (tSt K y) D C H:=by
 obtain⟨m,j,S,I,f,B,E,R,e,q⟩:=h;unfold xIf at e;cases l:c j S with
 |none=>rw[l] at e;cases e
 |some r=>
  obtain⟨b,u⟩:=r;rw[l] at e;dsimp only at e;refine⟨m,j,S,b,u,E,R,l,λm1 J d=>?_⟩;dsimp only;split
  ·rename_i hb;rw[if_pos hb] at e;exact⟨m1,j,u,I,f,B,E.mono R d.ext,d.rel,e,λv z k=>q v z (d.trans k)⟩
  ·rename_i hb;rw[if_neg hb] at e;exact⟨m1,j,u,I,f,B,E.mono R d.ext,d.rel,e,λv z k=>q v z (d.trans k)⟩
abbrev nD(x:XE)(t:Tg):XS:=λc S=>match x c S with
 |none=>aD
 |some (d,S1)=>(aC t d c).map λb=>(.nx,b,S1)
def vE{x:XE}{t:Tg}{D:Ends}{k:L2.St}{H:Hp}(h:tSt K (nD x t) D k H):Aw (tE K x) (tTg K t) D k H:=by
 obtain⟨m,b,S,I,z,C,E,R,e,q⟩:=h;unfold nD at e;cases f:x b S with
 |none=>rw[f] at e;cases e
 |some r=>
  obtain⟨d,B⟩:=r;rw[f] at e;dsimp only at e;cases hb:aC t d b with
  |none=>rw[hb] at e;cases e
  |some u=>
   rw[hb] at e;cases e;exact⟨m,b,S,d,_,E,R,f,λm1 y v c vd=>⟨m1,_,b,d,_,c.rel,E.mono R c.ext,vd,hb,λj l=>q m1 y c j l⟩⟩
abbrev sK(v o i:XE):XS:=λb S=>match v b S with
 |none=>aD
 |some (dv,S1)=>match o b S1 with
  |none=>aD
  |some (d_o,S2)=>match i b S2 with
   |none=>aD
   |some (di,S3)=>(jz d_o di dv S3).map λc=>(.nx,b,c)
def Fq{v o i:XE}{D:Ends}{C:L2.St}{H:Hp}(h:tSt K (sK v o i) D C H):Aw (tE K v) (OV (tE K o) (tE K i) (Pq K)) D C H:=by
 obtain⟨m,b,S,fl,Z,S',E,R,e,q⟩:=h;unfold sK at e;cases J:v b S with
 |none=>rw[J] at e;cases e
 |some r1=>
  obtain⟨L,u⟩:=r1;rw[J] at e;dsimp only at e;cases l:o b u with
  |none=>rw[l] at e;cases e
  |some r2=>
   obtain⟨j,k⟩:=r2;rw[l] at e;dsimp only at e;cases I:i b k with
   |none=>rw[I] at e;cases e
   |some Y=>
    obtain⟨z,Q⟩:=Y;rw[I] at e;dsimp only at e;cases h4:jz j z L Q with
    |none=>rw[h4] at e;cases e
    |some S4=>
     rw[h4] at e;cases e;refine⟨m,b,S,L,u,E,R,J,λm1 H1 v1 c B=>⟨m1,b,u,j,k,E.mono R c.ext,c.rel,l,λm2 H2 v2 d O=>⟨m2,b,k,z,Q,E.mono R (c.trans d).ext,d.rel,I,λm3 H3 v3 f y=>?_⟩⟩⟩;exact⟨m3,Q,j,z,L,_,f.rel,O.mono d.rel f.ext,y,B.mono c.rel (d.trans f).ext,h4,λm4 U T=>q m4 U (((c.trans d).trans f).trans T) C (E.mono R (((c.trans d).trans f).trans T).ext)⟩
abbrev fC(nx:Nxt)(T:Tg)(b:XS):Nat->Nat->XS
 |0,_=>λ_ _=>aD
 |k+1,i=>λf S=>match nx i S with
  |none=>aD
  |some aD=>aw (.nx,f,S)
  |some (aw d)=>match aC T d f with
   |none=>aD
   |some c=>match b c S with
    |none=>aD
    |some (.nx,ρ2,S2)=>fC nx T b k (i+1) ρ2 S2
    |some (.ct,ρ2,S2)=>fC nx T b k (i+1) ρ2 S2
    |some (.bk,ρ2,S2)=>aw (.nx,ρ2,S2)
    |some (.rt d,ρ2,S2)=>aw (.rt d,ρ2,S2)
abbrev BG(it:XI)(T:Tg)(b:XS)(k:Nat):XS:=λc S=>match it c S with
 |none=>aD
 |some (nx,S1)=>fC nx T b k 0 c S1
abbrev lpW(K:Vp)(nx:Nxt)(T:Tg)(b:XS)(m1:List Addr)(u:Hp)(D:Ends)(i k:Nat)(v:L2.St)(H:Hp):Prop:=∃m d S q c j,EnvR K m H d v/\Rel K m S H/\Ext m1 u m H/\fC nx T b k i d S=aw (q,c,j)/\∀l f,Aft K m H j l f->BD K l f q c D
def Fs{nx:Nxt}{U:Tg}{b:XS}{J:It}{m1:List Addr}{H1:Hp}{D:Ends}(hI:IOk K [] J nx m1 H1)(k:Nat){m:List Addr}{L:Rho}{S:Sto}{j:L2.St}{H:Hp}{O:Fl}{c:Rho}{Q:Sto}(E:EnvR K m H L j)(R:Rel K m S H)(x:Ext m1 H1 m H)(e:fC nx U b k 0 L S=aw (O,c,Q))(q:∀Z f,Aft K m H Q Z f->BD K Z f O c D) :
  ∃W:Nat->Nat->L2.St->Hp->Prop,(∃m,W 0 m j H)/\∀i m j H,W i m j H ->
   (J.stop i H/\D.nx j H)\/(J.go i H/\∃N:L2.St->Hp->Prop,(∀C f,N C f->∃Z,Z < m/\W (i+1) Z C f)/\∀x f,J.yld i H x f->tTg K U x j f λT H2=>tSt K b { D with nx:=N,ct:=N,bk:=D.nx } T H2):=by
 refine⟨lpW K nx U b m1 H1 D,⟨k,m,L,S,O,c,Q,E,R,x,e,q⟩,?_⟩;intro i k j H z;obtain⟨m,L,S,O,c,Q,E,R,x,e,q⟩:=z;cases k with
 |zero=>simp[fC] at e
 |succ k=>
  simp only[fC] at e;cases hn:nx i S with
  |none=>rw[hn] at e;cases e
  |some o=>
   rw[hn] at e;obtain⟨h1,h2⟩:=hI m S H i (x.toB λb hb=>absurd hb (by simp)) R;cases o with
   |none=>cases e;exact .inl ⟨h1 hn,q m H (Aft.refl R) j E⟩
   |some d=>
    obtain⟨go,hy⟩:=h2 d hn;dsimp only at e;cases hb:aC U d L with
    |none=>rw[hb] at e;cases e
    |some u=>
     rw[hb] at e;dsimp only at e;cases hx:b u S with
     |none=>rw[hx] at e;cases e
     |some r=>
      obtain⟨f2,B,S2⟩:=r;rw[hx] at e;refine .inr ⟨go,lpW K nx U b m1 H1 D (i+1) k,λC f z=>⟨k,Xg k,z⟩,λy f yl=>?_⟩;obtain⟨A,vd⟩:=hy y f yl;refine⟨m,S,L,d,u,A.rel,E.mono R A.ext,vd,hb,λT E2=>⟨m,u,S,f2,B,S2,E2,A.rel,hx,λm3 H3 l=>?_⟩⟩;cases f2 with
      |nx=>exactλI Y=>⟨m3,B,S2,O,c,Q,Y,l.rel,(x.trans A.ext).trans l.ext,e,λm4 H4 A4=>q m4 H4 ((A.trans l).trans A4)⟩
      |ct=>exactλI Y=>⟨m3,B,S2,O,c,Q,Y,l.rel,(x.trans A.ext).trans l.ext,e,λm4 H4 A4=>q m4 H4 ((A.trans l).trans A4)⟩
      |bk=>cases e;exactλI Y=>q m3 H3 (A.trans l) I Y
      |rt d=>cases e;exactλv vd=>q m3 H3 (A.trans l) v vd
def KW{it:XI}{T:Tg}{b:XS}{k:Nat}{D:Ends}{f:L2.St}{H:Hp}(h:tSt K (BG it T b k) D f H):OY (tIt K [] it) (tTg K T) (tSt K b) D f H:=by
 obtain⟨m,d,S,I,z,B,E,R,e,q⟩:=h;unfold BG at e;cases hi:it d S with
 |none=>rw[hi] at e;cases e
 |some r=>
  obtain⟨nx,l⟩:=r;rw[hi] at e;exact⟨m,d,S,nx,l,E,R,λb hb=>absurd hb (by simp),hi,λm1 C J c u=>Fs u k (E.mono R c.ext) c.rel (Ext.refl _ _) e λv y j=>q v y (c.trans j)⟩
end
mutual
noncomputable def dF:Tg->Rho->Bool
 |.name i,ρ=>match ρ[i]? with
  |some aD=>aN
  |_=>aS
 |.tup ts,ρ=>fR ts ρ
noncomputable def fR:List Tg->Rho->Bool
 |[],_=>aN
 |t::ts,ρ=>dF t ρ && fR ts ρ
end
structure LeR(ρ ρ':Rho):Prop where
 len:ρ.length=ρ'.length
 at_:∀ (i:Nat) (d:D),ρ[i]?=aw (aw d)->ρ'[i]?=aw (aw d)
def LeR.refl(ρ:Rho):LeR ρ ρ:=⟨rfl,λ_ _ h=>h⟩
mutual
theorem sL:∀ {t:Tg} {d:D} {k b:Rho},LeR c k->dF t c=aN->aC t d k=aw b->LeR c b
 |.name i,d,k,b,l,f,e=>by
  simp only[aC] at e;split at e
  ·cases e;refine⟨by simp[l.len],λj u h=>?_⟩;rw[Yt];by_cases q:i=j
   ·subst q;simp only[dF] at f;rw[h] at f;cases f
   ·rw[if_neg q];exact l.at_ j u h
  ·cases e
 |.tup ts,.tup ds,k,b,l,f,e=>by
  simp only[aC] at e;simp only[dF] at f;exact ow l f e
 |.tup ts,.non,_,_,_,_,e=>by simp[aC] at e
 |.tup ts,.bl _,_,_,_,_,e=>by simp[aC] at e
 |.tup ts,.int _,_,_,_,_,e=>by simp[aC] at e
 |.tup ts,.str _,_,_,_,_,e=>by simp[aC] at e
 |.tup ts,.ref _,_,_,_,_,e=>by simp[aC] at e
theorem ow:∀ {T:List Tg} {k:List D} {c b:Rho},LeR j c->fR T j=aN->aQ T k c=aw b->LeR j b
 |[],[],c,b,l,_,e=>by simp only[aQ] at e;cases e;exact l
 |[],_::_,_,_,_,_,e=>by simp[aQ] at e
 |_::_,[],_,_,_,_,e=>by simp[aQ] at e
 |t::T,d::k,c,b,l,f,e=>by
  simp only[aQ] at e;simp only[fR,bAE] at f;cases hb:aC t d c with
  |none=>rw[hb] at e;cases e
  |some q=>rw[hb] at e;exact ow (sL l f.1 hb) f.2 e
end
section
variable {X:Cx} {K:Vp} {m:List Addr} {H:Hp} {S:Sto}
def EnvR.weaken(E:EnvR K m H b σ)(l:LeR c b):EnvR K m H c σ:=⟨l.len.trans E.len,λi d h=>E.at_ i d (l.at_ i d h)⟩
abbrev bu(nx:Nxt)(T:Tg)(c:XA)(f:Rho):Nat->Nat->Sto->Option (List D × Sto)
 |0,_,_=>aD
 |k+1,i,S=>match nx i S with
  |none=>aD
  |some aD=>aw ([],S)
  |some (aw d)=>match aC T d f with
   |none=>aD
   |some b=>bnd (c b S) λu j=>bnd (bu nx T c f k (i+1) j) λl q=>aw (u++l,q)
abbrev BH(t:XT)(c:XA):XA:=λd S=>bnd (t d S) λb f=>if b=aN then c d f else aw ([],f)
abbrev IS(x:XE):XA:=λb S=>bnd (x b S) λd c=>aw ([d],c)
abbrev jA(it:XI)(T:Tg)(c:XA)(k:Nat):XA:=λb S=>if dF T b=aN then bnd (it b S) λnx d=>bu nx T c b k 0 d else aD
abbrev l8(own:Nat)(it:XI)(T:Tg)(c:XA)(k:Nat):XA:=λb S=>bnd (it b S) λnx f=>if dF T (b++ZL own aD)=aN then
 (bnd (bu nx T c (b++ZL own aD) k 0 f) λd j=>if d.length<=100000 then aw (d,j) else aD) else aD
abbrev tCl(K:Vp)(b:Addr)(c:XA):TS:=λD y H=>∃m k S l q z u,EnvR K m H k y/\Rel K m S H/\b ∉ m/\H b=aw (.lst u)/\VDs K m H z u/\z.length+l.length<=100000/\c k S=aw (l,q) ∧
 ∀j d f v,ExtB [b] m H j d->Rel K j q d->d b=aw (.lst v)->VDs K j d (z++l) v->EnvR K j d k f->D.nx f d
def BI(h:H c=aw (.lst v))(n:c ∉ m):AtB [c] m H:=λb hb=>by simp at hb;subst hb;exact⟨⟨v,h⟩,n⟩
def ExtB.refl(n:c ∉ m):ExtB [c] m H m H:=⟨Yj m,λ_ _ h _ _=>h,λ_ h n=>absurd h n,λb hb=>by simp at hb;subst hb;exact n⟩
def ExtB.put(n:c ∉ m)(o:HO):ExtB [c] m H m (upd H c o):=⟨Yj m,λa u h _ nb=>by
 rw[ac (λz=>nb (by simp[z]))];exact h,λ_ h n=>absurd h n,λb hb=>by simp at hb;subst hb;exact n⟩
def Rel.extB(R:Rel K m S H)(c:AtB [j] m H)(x:ExtB [j] m H m H')(k:∀b ∈ m,H' b=H b):Rel K m S H':=by
 refine⟨R.len,R.nd,λi o e=>?_⟩;obtain⟨b,hb,r⟩:=R.ob i o e;have d:b ∈ m:=Zd hb;refine⟨b,hb,?_⟩;cases o with
 |lst B=>obtain⟨v,p,q⟩:=r;exact⟨v,(k b d).trans p,VDs.monoB R c x q⟩
 |frz B=>obtain⟨o,v,p,q⟩:=r;exact⟨o,v,(k b d).trans p,VDs.monoB R c x q⟩
 |dic ks B=>obtain⟨v,p,l,q⟩:=r;exact⟨v,(k b d).trans p,l,VDs.monoB R c x q⟩
 |tbl T p q=>
  obtain⟨e,ps,z⟩:=r;refine⟨e,ps,(k _ d).trans z.at_,z.tr,λJ L=>?_⟩;obtain⟨C,I,f⟩:=z.cd J L;refine⟨C,I,x.keep _ _ f (R.notCd f) λy=>?_⟩;obtain⟨⟨v,u⟩,_⟩:=c C y;rw[f] at u;unfold cdO at u;cases u
 |dfz ks B=>obtain⟨o,v,p,l,q⟩:=r;exact⟨o,v,(k b d).trans p,l,VDs.monoB R c x q⟩
def Ft{c:Addr}{x:XE}{D:Ends}{B:L2.St}{H:Hp}(h:tCl K c (IS x) D B H):IL c (tE K x) D B H:=by
 obtain⟨m,O,S,es,S',Z,y,E,R,C,J,L,Q,e,q⟩:=h;obtain⟨d,Y,T,e⟩:=ab e;cases e;refine⟨m,O,S,d,_,E,R,T,λm1 I v j vd=>?_⟩;have U:=BI J C;have l:I c=aw (.lst y):=j.ext.keep _ _ J C;have xB:=j.ext.toB U;have k:c ∉ m1:=xB.nb c (by simp);have u:=ExtB.put (H:=I) k (.lst (y++[v]));have f:=BI l k;have lz:=L.length;simp only[Zt] at Q;refine⟨y,l,by rw[Ut];lia,q m1 _ B (y++[v]) (xB.trans u) (j.rel.extB f u λb hb=>ac λz=>k (z ▸ hb)) az ?_ ((E.mono R j.ext).monoB j.rel f u)⟩;exact VDs.append ((L.mono R j.ext).monoB j.rel f u) (.cons (vd.monoB j.rel f u) .nil)
def Fu{d:Addr}{t:XT}{c:XA}{D:Ends}{l:L2.St}{H:Hp}(h:tCl K d (BH t c) D l H):fu (tT K t) (tCl K d c) D l H:=by
 obtain⟨m,z,S,es,S',Z,u,E,R,B,J,L,O,e,q⟩:=h;obtain⟨b,I,U,e⟩:=ab e;refine⟨m,z,S,b,I,E,R,U,λm1 C f=>?_⟩;have Y:=BI J B;have j:C d=aw (.lst u):=f.ext.keep _ _ J B;have xB:=f.ext.toB Y;have y:d ∉ m1:=xB.nb d (by simp);dsimp only;split
 ·rename_i hb;rw[if_pos hb] at e;exact⟨m1,z,I,es,S',Z,u,E.mono R f.ext,f.rel,y,j,L.mono R f.ext,O,e,λm2 H2 k v T R2 Q v2 E2=>q m2 H2 k v (xB.trans T) R2 Q v2 E2⟩
 ·rename_i hb;rw[if_neg hb] at e;cases e;refine q m1 C l u xB f.rel j ?_ (E.mono R f.ext);rw[Yb];exact L.mono R f.ext
def sM{t:TS}{D:Ends}{b:L2.St}{H:Hp}(h:t D b H):fu EJ t D b H:=by
 show if aN=aN then t D b H else D.nx b H
 rw[if_pos rfl];exact h
def KY{b:Addr}{c:XA}{D:Ends}{d:L2.St}{H:Hp}(h:tCl K b c D d H):fu EJ (tCl K b c) D d H:=by
 exact sM h
abbrev clW(K:Vp)(b:Addr)(nx:Nxt)(T:Tg)(c:XA)(l:Rho)(m1:List Addr)(C:Hp)(B:Ends)(i k:Nat)(I:L2.St)(H:Hp):Prop:=∃m S u q z y,EnvR K m H l I/\Rel K m S H/\ExtB [b] m1 C m H/\H b=aw (.lst y)/\VDs K m H z y/\z.length+q.length<=100000/\bu nx T c l k i S=aw (q,u)/\∀j d f v,ExtB [b] m H j d->Rel K j u d->d b=aw (.lst v)->VDs K j d (z++q) v->EnvR K j d l f->B.nx f d
def xl(hI:IOk K [b] J nx m1 Y)(hts:∀D u H,tCl K b c D u H->ts D u H)(k:Nat)
  (fr:dF T j=aN) (E:EnvR K m H j u) (R:Rel K m S H) (x:ExtB [b] m1 Y m H) (C:H b=aw (.lst vs)) (Q:VDs K m H zs vs) (hl:zs.length+U.length<=100000) (e:bu nx T c j k 0 S=aw (U,S'))
  (q:∀O f l B,ExtB [b] m H O f->Rel K O S' f->f b=aw (.lst B)->VDs K O f (zs++U) B->EnvR K O f j l->EE.nx l f):rO J (tTg K T) ts EE u H:=by
 refine⟨clW K b nx T c j m1 Y EE,⟨k,m,S,S',U,zs,vs,E,R,x,C,Q,hl,e,q⟩,?_⟩;intro i k u H z;obtain⟨m,S,S',U,zs,vs,E,R,x,C,Q,hl,e,q⟩:=z;have I:b ∉ m:=x.nb b (by simp);have hB:=BI C I;cases k with
 |zero=>simp[bu] at e
 |succ k=>
  simp only[bu] at e;cases L:nx i S with
  |none=>rw[L] at e;cases e
  |some o=>
   rw[L] at e;obtain⟨h1,h2⟩:=hI m S H i x R;cases o with
   |none=>
    cases e;exact .inl ⟨h1 L,q m H u vs (ExtB.refl I) R C (by rw[Yb];exact Q) E⟩
   |some d=>
    obtain⟨go,hy⟩:=h2 d L;dsimp only at e;cases hb:aC T d j with
    |none=>rw[hb] at e;cases e
    |some v=>
     rw[hb] at e;dsimp only at e;obtain⟨e1,S1,c1,e⟩:=ab e;obtain⟨rs,S2,c2,e⟩:=ab e;cases e;rw[Zg] at hl;refine .inr ⟨go,clW K b nx T c j m1 Y EE (i+1) k,λl f z=>⟨k,Xg k,z⟩,λy f yl=>?_⟩;obtain⟨A,vd⟩:=hy y f yl;have xA:=A.ext.toB hB;have ha':f b=aw (.lst vs):=A.ext.keep _ _ C I;refine⟨m,S,j,d,v,A.rel,E.mono R A.ext,vd,hb,λσ2 E2=>hts _ _ _ ⟨m,v,S,e1,S1,zs,vs,E2,A.rel,I,ha',Q.mono R A.ext,by lia,c1,λm3 H3 σ3 vs3 x3 R3 h3 v3 E3=>?_⟩⟩;refine⟨m3,S1,_,rs,zs++e1,vs3,E3.weaken (sL (LeR.refl j) fr hb),R3,(x.trans xA).trans x3,h3,v3,by rw[Zg];lia,c2,λm4 H4 σ4 Z x4 R4 h4 v4 E4=>?_⟩;refine q m4 H4 σ4 Z ((xA.trans x3).trans x4) R4 h4 ?_ E4;rw[<-YK];exact v4
def BJ{b:Addr}{it:XI}{T:Tg}{t:TT}{c C:XA}{k:Nat}{D:Ends}{f:L2.St}{H:Hp}(l:∀D f H,tCl K b c D f H->fu t (tCl K b C) D f H)(h:tCl K b (jA it T c k) D f H):AQ (tIt K [b] it) (tTg K T) t (tCl K b C) D f H:=by
 obtain⟨m,I,S,es,S',zs,vs,E,R,y,B,vz,L,e,q⟩:=h;unfold jA at e;split at e
 ·rename_i fr;obtain⟨nx,U,Y,e⟩:=ab e;have z:=BI B y;refine⟨m,I,S,nx,U,E,R,z,Y,λm1 H1 J d hI=>?_⟩;have xB:=d.ext.toB z;have u:b ∉ m1:=xB.nb b (by simp);exact xl hI l k fr (E.mono R d.ext) d.rel (ExtB.refl u) (d.ext.keep _ _ B y) (vz.mono R d.ext) L e λm2 Z j v Q R2 O v2 E2=>q m2 Z j v (xB.trans Q) R2 O v2 E2
 ·cases e
def EnvR.more(E:EnvR K m H b c)(n:Nat):EnvR K m H (b++ZL n aD) (c++ZL n aD):=by
 refine⟨by simp[E.len],λi d e=>?_⟩;by_cases hi:i < b.length
 ·rw[Zw hi] at e;rw[Zw (by rw[<-E.len];exact hi)];exact E.at_ i d e
 ·rw[Zp (by lia),Yx] at e;split at e <;> cases e
def xm{own:Nat}{k:Nat}(C:∀acc D u H,tCl K acc c D u H->fu t (tCl K acc c') D u H)(h:fB K (l8 own it tg c k) u H Q):AR own (tIt K [] it) (tTg K tg) (λacc=>fu t (tCl K acc c')) u H Q:=by
 obtain⟨m,U,S,es,S',E,R,e,q⟩:=h;obtain⟨nx,S1,e1,e⟩:=ab e;split at e
 ·rename_i fr;obtain⟨es',O,e2,e⟩:=ab e;split at e
  ·rename_i hl;cases e;refine⟨m,U,S,nx,S1,E,R,λb hb=>absurd hb (by simp),e1,λm1 L J f hI acc d=>?_⟩;have x0:=Ext.beside f.rel d (.lst []);have R0:=f.rel.beside d (.lst []);have y:=f.rel.no d
   have I:IOk K [acc] J nx m1 (upd L acc (.lst [])):=by
    intro v O H2 i j R2;refine hI v O H2 i ⟨j.pre,λa o h n _=>?_,λa h n=>?_,λb hb=>absurd hb (by simp)⟩ R2
    ·have ne:a ≠ acc:=aV h d;exact j.keep a o (by rw[ac ne];exact h) n (by simp[ne])
    ·have:=j.new a h n;by_cases l:a=acc
     ·subst l;exact d
     ·rw[ac l] at this;exact this
   refine xl (zs:=[]) (vs:=[]) I (C acc) k fr ((E.mono R f.ext |>.mono f.rel x0).more own) R0 (ExtB.refl y) az .nil (by simpa using hl) e2 λv H2 Y B j R2 h2 v2 E2=>?_
   have xx:Ext m1 L v H2:=⟨j.pre,λa o h n=>by
    have ne:a ≠ acc:=aV h d;exact j.keep a o (by rw[ac ne];exact h) n (by simp[ne]),λa h n=>by
    have:=j.new a h n;by_cases l:a=acc
    ·subst l;exact d
    ·rw[ac l] at this;exact this⟩
   have Z:H acc=aD:=by
    cases eh:H acc with
    |none=>rfl
    |some o=>
     by_cases T:acc ∈ m
     ·exact absurd (f.ext.pre.subset T) y
     ·have:=f.ext.keep acc o eh T;rw[d] at this;cases this
   exact q v H2 acc B (f.trans ⟨xx,R2⟩) h2 (j.nb acc (by simp)) (λb hb z=>y (f.ext.pre.subset (z ▸ hb))) Z (by simpa using v2)
  ·cases e
 ·cases e
end
section
variable {X:Cx} {K:Vp} {m:List Addr} {H:Hp} {S:Sto}
abbrev BK(x y:XE):XE:=λb S=>bnd (x b S) λd c=>match d with
 |.bl aN=>y b c
 |.bl aS=>aw (.bl aS,c)
 |_=>aD
abbrev xOr(x y:XE):XE:=λb S=>bnd (x b S) λd c=>match d with
 |.bl aN=>aw (.bl aN,c)
 |.bl aS=>y b c
 |_=>aD
abbrev zn:D->Sto->Option (D × Sto)
 |.bl b,S=>aw (.bl (!b),S)
 |_,_=>aD
abbrev KZ:D->Sto->Option (D × Sto)
 |.int i,S=>aw (.int (-i),S)
 |_,_=>aD
abbrev K0(c:XT)(x y:XE):XE:=λd S=>bnd (c d S) λb f=>if b=aN then x d f else y d f
def BL(h:tE K (BK x y) I H Q):Iv (tE K x) (tE K y) I H Q:=by
 obtain⟨m,f,S,d,z,E,R,e,q⟩:=h;obtain⟨a,j,u,e⟩:=ab e;refine⟨m,f,S,a,j,E,R,u,λm1 B v c l=>?_⟩;cases a with
 |bl b=>
  refine⟨b,l.bls,?_⟩;cases b with
  |true=>exact⟨m1,f,j,d,z,E.mono R c.ext,c.rel,e,λC J w k vd=>q C J w (c.trans k) vd⟩
  |false=>cases e;exact q m1 B _ c cp
 |_=>cases e
def IT(h:tE K (xOr x y) I H Q):OM (tE K x) (tE K y) I H Q:=by
 obtain⟨m,f,S,d,z,E,R,e,q⟩:=h;obtain⟨a,j,u,e⟩:=ab e;refine⟨m,f,S,a,j,E,R,u,λm1 B v c l=>?_⟩;cases a with
 |bl b=>
  refine⟨b,l.bls,?_⟩;cases b with
  |false=>exact⟨m1,f,j,d,z,E.mono R c.ext,c.rel,e,λC J w k vd=>q C J w (c.trans k) vd⟩
  |true=>cases e;exact q m1 B _ c cp
 |_=>cases e
def K1(h:tE K (xUn zn x) y H Q):Iw (tE K x) y H Q:=by
 obtain⟨m,c,S,d,z,E,R,e,q⟩:=h;obtain⟨a,l,j,e⟩:=ab e;refine⟨m,c,S,a,l,E,R,j,λm1 u v f k=>?_⟩;cases a with
 |bl b=>cases e;exact⟨b,k.bls,q m1 u _ f cp⟩
 |_=>cases e
def Fv:UnR X (unaryOp .USub) (rS1 X.K KZ):=by
 intro b s j H x v Q I f h;refine uD b s j H x v Q I f ?_;obtain⟨m,S,a,d,k,R,c,e,q⟩:=h;cases a with
 |int i=>cases e;exact⟨i,c.ints,q m H _ (Aft.refl R) bn⟩
 |_=>cases e
def K2(h:tE K (K0 c x y) C H Q):tIf (tT K c) (tE K x) (tE K y) C H Q:=by
 obtain⟨m,j,S,d,z,E,R,e,q⟩:=h;obtain⟨b,l,B,e⟩:=ab e;refine⟨m,j,S,b,l,E,R,B,λm1 I f=>?_⟩;dsimp only;split
 ·rename_i hb;rw[if_pos hb] at e;exact⟨m1,j,l,d,z,E.mono R f.ext,f.rel,e,λu v w k vd=>q u v w (f.trans k) vd⟩
 ·rename_i hb;rw[if_neg hb] at e;exact⟨m1,j,l,d,z,E.mono R f.ext,f.rel,e,λu v w k vd=>q u v w (f.trans k) vd⟩
abbrev zo(f g:D->D->Sto->Option (D × Sto))(x y z:XE):XE:=λd S=>bnd (x d S) λa k=>bnd (y d k) λb q=>bnd (f a b q) λr j=>match r with
 |.bl aN=>bnd (z d j) λc l=>g b c l
 |.bl aS=>aw (.bl aS,j)
 |_=>aD
def BM(h:tE K (zo f g x y z) σ H Q):uE (rS K f) (rS K g) (tE K x) (tE K y) (tE K z) σ H Q:=by
 obtain⟨m,C,S,d,S',E,R,e,q⟩:=h;obtain⟨a,L,e1,e⟩:=ab e;obtain⟨b,J,e2,e⟩:=ab e;obtain⟨r,T,e3,e⟩:=ab e;refine⟨m,C,S,a,L,E,R,e1,λm1 H1 v j va=>⟨m1,C,L,b,J,E.mono R j.ext,j.rel,e2,λm2 H2 w l Y=>?_⟩⟩;refine⟨m2,J,a,b,r,T,l.rel,va.mono j.rel l.ext,Y,e3,λU H3 u B vr=>?_⟩;cases r with
 |bl k=>
  refine⟨k,vr.bls,?_⟩;cases k with
  |true=>
   dsimp only at e;obtain⟨c,O,e4,e⟩:=ab e;exact⟨U,C,T,c,O,E.mono R ((j.trans l).trans B).ext,B.rel,e4,λm4 H4 y I vc=>⟨m4,O,b,c,d,S',I.rel,Y.mono l.rel (B.trans I).ext,vc,e,λm5 Z t A5 vd=>q m5 Z t ((((j.trans l).trans B).trans I).trans A5) vd⟩⟩
  |false=>cases e;exact q U H3 _ ((j.trans l).trans B) cp
 |_=>cases e
abbrev BN(x y:XT):XT:=λc S=>bnd (x c S) λb d=>if b=aN then y c d else aw (aS,d)
abbrev K3(x y:XT):XT:=λc S=>bnd (x c S) λb d=>if b=aN then aw (aN,d) else y c d
abbrev BO(x:XT):XT:=λc S=>bnd (x c S) λb d=>aw (!b,d)
def BP(h:tT K (BN x y) B H Q):OK (tT K x) (tT K y) B H Q:=by
 obtain⟨m,f,S,d,u,E,R,e,q⟩:=h;obtain⟨b,j,l,e⟩:=ab e;refine⟨m,f,S,b,j,E,R,l,λm1 v c=>?_⟩;dsimp only;split
 ·rename_i hb;rw[if_pos hb] at e;exact⟨m1,f,j,d,u,E.mono R c.ext,c.rel,e,λz C k=>q z C (c.trans k)⟩
 ·rename_i hb;rw[if_neg hb] at e;cases e;exact q m1 v c
def IU(h:tT K (K3 x y) B H Q):tOr (tT K x) (tT K y) B H Q:=by
 obtain⟨m,f,S,d,u,E,R,e,q⟩:=h;obtain⟨b,j,l,e⟩:=ab e;refine⟨m,f,S,b,j,E,R,l,λm1 v c=>?_⟩;dsimp only;split
 ·rename_i hb;rw[if_pos hb] at e;cases e;exact q m1 v c
 ·rename_i hb;rw[if_neg hb] at e;exact⟨m1,f,j,d,u,E.mono R c.ext,c.rel,e,λz C k=>q z C (c.trans k)⟩
def K4(h:tT K (BO x) l H Q):OL (tT K x) l H Q:=by
 obtain⟨m,c,S,d,v,E,R,e,q⟩:=h;obtain⟨b,u,j,e⟩:=ab e;cases e;exact⟨m,c,S,b,_,E,R,j,λm1 k f=>q m1 k f⟩
@[inline]abbrev Calls:=Nat->List D->Sto->Option (D × Sto)
abbrev spC(K:Vp)(g:List D->Sto->Option (D × Sto))(n:Nat):Sp:=λk H Q _=>∃m c S d f,VDs K m H c k/\Rel K m S H/\c.length=n/\g c S=aw (d,f)/\∀j b v,Aft K m H f j b->VD K j b d v->Q v b
abbrev sN(g:List D->Sto->Option (D × Sto))(n:Nat)(x:XA):XE:=λb S=>bnd (x b S) λd c=>if d.length=n then g d c else aD
def Fw{n:Nat}(h:tE K (sN g n x) C H Q):IH (spC K g n) [] E0 (tAr K x) C H Q:=by
 obtain⟨m,j,S,d,z,E,R,e,q⟩:=h;obtain⟨f,c,u,e⟩:=ab e;split at e
 ·rename_i l;refine⟨m,j,S,f,c,E,R,u,λm1 J L b vd=>⟨m1,f,c,d,z,by rw[Yb];exact vd,b.rel,l,e,λB I v k y=>q B I v (b.trans k) y⟩⟩
 ·cases e
end
abbrev bA(x y:Int × List Int):Bool:=if x.1=y.1 then HT.de x.2 y.2 else decide (x.1 < y.1)
def ma:∀ns:List Int,HT.de ns ns=aS
 |[]=>rfl
 |n::ns=>by rw[HT.kZ,if_pos rfl];exact ma ns
section
open PySem.SeqAt
open PySem.AutoSeq1 (wpAny_loadPart')
open PySem.MeetsSeq PySem.MeetsSeq2 PySem.MeetsSeq3
def nF(l b:Addr)(x y:Int)(t u:Tok)(p q:Addr)(n n2:Nat)(dd L:Option Addr)(sl J:Array (Option Value))(ns I:List Int) :
  Meets (Builtin.«tuple.__lt__» ⟨[.ref l,.ref b],[]⟩)
   (λA R s=>s.heap.get? l=aw { cls:=.type "tuple", dict:=dd,data:=.seq #[.int x t,.ref p] n,slots:=sl }/\s.heap.get? b=aw { cls:=.type "tuple", dict:=L,data:=.seq #[.int y u,.ref q] n2,slots:=J } ∧
    (∃xs Y,IsTup s.heap p xs/\IsTup s.heap q Y/\IntsAre xs.toList ns/\IntsAre Y.toList I)/\A.in1.units < cLine ∧
    R (.ok (.ret (.bool (bA (x,ns) (y,I))))) s):=
 .of_wp λprog w A R s h=>by
  obtain⟨C,g,d,T,os⟩:=s;obtain⟨hl,hb,⟨xs,Y,tp,tq,X,i2⟩,Z,h⟩:=h;have f2:=AutoSeq1.sub_tuple_tuple
  wp_walk using UL hl,UL hb,UH _ (λc b O=>b.1=aD/\O=⟨C,g,d,T,os⟩/\((c=[(.int x t,.int y u),(.ref p,.ref q)])\/(c=[(.ref p,.ref q)]/\x=y)\/(c=[]/\x=y/\ns=I))) _
  case turn=>
   rintro⟨v,z⟩ c b O ⟨k,rfl,j⟩;rcases j with j |⟨j,hxy⟩ |⟨j,_⟩
   ·injection j with hvz hrest;injection hvz with hv hz;subst hv hz;obtain⟨e,U,f⟩:=HT.rK A.in1 ⟨C,g,d,T,os⟩ x t y u;refine UC (U prog w _ _ ?_);cases e with
    |true=>
     wp_walk
     exact⟨rfl,rfl,.inr (.inl ⟨hrest,f.mp rfl⟩)⟩
    |false=>
     have B:=HT.rL A.in1 ⟨C,g,d,T,os⟩ x t y u prog w
     wp_walk using B
     refine⟨_,rfl,?_⟩;unfold bA at h;rw[if_neg (λq=>absurd (f.mpr q) Zf)] at h
     simpa using h
   ·injection j with hvz hrest;injection hvz with hv hz;subst hv hz hxy;obtain⟨e,U,f⟩:=ju (A:=A.in1) (s:=⟨C,g,d,T,os⟩) Z tp tq X i2;refine UC (U prog w _ _ ?_);unfold bA at h;rw[if_pos rfl] at h;cases e with
    |true=>
     wp_walk
     exact⟨rfl,rfl,.inr (.inr ⟨hrest,rfl,f.mp rfl⟩)⟩
    |false=>
     have B:∀ (E:Value->Shared->Prop) (Q:Value->Shared->Prop),Q (.bool (HT.de ns I)) ⟨C,g,d,T,os⟩->wpAny (model prog w) A.in1 (Um .Lt (.ref p) (.ref q)) Q E ⟨C,g,d,T,os⟩:=λE Q hq=>HT.k9 (s:=⟨C,g,d,T,os⟩) tp tq X i2 Z hq
     wp_walk using B
     exact⟨_,rfl,by simpa using h⟩
   ·cases j
  case fin=>
   rintro⟨b1,b2⟩ O ⟨k,rfl,j⟩;simp only at k;subst k;rcases j with j |⟨j,_⟩ |⟨_,hxy,hnm⟩
   ·cases j
   ·cases j
   ·subst hxy hnm;unfold bA at h;rw[if_pos rfl,ma] at h
    wp_walk
    exact⟨_,rfl,by simpa[Builtin.Tuple.tupleCompareSizes] using h⟩
  case h=>exact⟨rfl,rfl,.inl rfl⟩
end
section
variable {prog:Program} {w:World} {A:Around} {R:Result->Shared->Prop} {I S:Addr} {fp wr:List Addr} {n:Nat} {P:Nat->Value->Prop} {St:Nat->Heap->Prop} {bt:Nat->Nat->Bool} {base:Heap} {d:Value}
abbrev K5(prog:Program)(w:World)(A:Around)(base:Heap)(P:Nat->Value->Prop)(bt:Nat->Nat->Bool):Prop:=
 ∀i j b v (s:Shared) (Q:Value->Shared->Prop) (E:Value->Shared->Prop),(∀a o,base.get? a=aw o->s.heap.get? a=aw o)->P i b->P j v->Q (.bool (bt i j)) s->wpAny (model prog w) A (Um .Lt b v) Q E s
def BQ(a d:Value):argsOk "min" ⟨[a],[(Str.ofString "default", d)]⟩:=by unfold argsOk;kernel_rfl
def xn:(toString "min" ++ toString ".loop" : String) = "min.loop" := by decide
def md(W:Walks prog w A.in1 I fp wr n P St)(X:K5 prog w A.in1 base P bt)(C:S ∉ fp)(bw:∀a ∈ wr,base.get? a=aD)(L:base.get? S=aD):∀ (m i:Nat) (s:Shared) (b:Value) (c:Nat),i+1+m=n->St (i+1) s.heap->P (argBest bt i) b->(∀a o,base.get? a=aw o->s.heap.get? a=aw o)->s.heap.get? S=aw { cls:=.type "list", dict:=aD,data:=.seq #[b,b] c,slots:=#[] } ->
  (∀v h' J,P (argBest bt (n - 1)) v->(∀a o,a ∉ wr->a ≠ S->s.heap.get? a=aw o->h'.get? a=aw o)->R (.ok (.ret v)) { s with heap:=h',toks:=J })->codeAny (model prog w) A (.builtin "min.loop" ⟨[.ref I,.none,.ref S],[(Str.ofString "default", d)]⟩) R s
 |0,i,s,b,c,e,st,pb,kb,gs,r=>by
  have U:S ∉ wr:=λh=>C (W.sub _ h);refine VZ W0 ?_;rw[Around.under_plainId W6 _];show wpAny _ A.in1 (Ur (.ref S) >>= _) _ _ s;refine UC (UY gs rfl ?_);show wpAny _ A.in1 (tryCatch (pyNext (.ref I)) _ >>= _) _ _ s;refine UC (U3 (W.done s _ _ (by rw[<-e];exact st) λh' J k=>?_));show wpAny _ A.in1 (updateSeq S (λ_=>#[]) >>= _) _ _ _;refine UC (U5 (k S _ U gs) rfl (UC (UK (US ?_))));exact r b _ J (by rw[<-e];exact pb) λa o f y z=>(ZZ _ _ (Ne.symm y)).trans (k a o f z)
 |m+1,i,s,b,c,e,st,pb,kb,gs,r=>by
  have U:S ∉ wr:=λh=>C (W.sub _ h);refine VZ W0 ?_;rw[Around.under_plainId W6 _];show wpAny _ A.in1 (Ur (.ref S) >>= _) _ _ s;refine UC (UY gs rfl ?_);show wpAny _ A.in1 (tryCatch (pyNext (.ref I)) _ >>= _) _ _ s;refine UC (U3 (W.item (i+1) s _ _ (by lia) st λv h' J Z B k=>?_));have l:=k S _ U gs;have Y:∀a o,base.get? a=aw o->a ∉ wr/\a ≠ S:=λa o h=>⟨λz=>(by rw[bw a z] at h;cases h),λz=>(by rw[z,L] at h;cases h)⟩;have j:∀a o,base.get? a=aw o->h'.get? a=aw o:=λa o h=>k a o (Y a o h).1 (kb a o h);show wpAny _ A.in1 (tryCatch (holding [v,v] (Um .Lt v b >>= _)) _ >>= _) _ _ _;refine UC (U3 (UJ (UC (X (i+1) (argBest bt i) v b _ _ _ j Z pb ?_))));refine UC (UJ (U2 ?_));refine UC (UK (US ?_));cases hb:bt (i+1) (argBest bt i) with
  |true=>
   simp only[if_true];refine UC (U5 l rfl (UC (UK ?_)));rw[xn];refine US ⟨Ui W6 _,md W X C bw L m (i+1) _ v _ (by lia) (W.frame _ _ _ B λa af o z=>?_) (by simp only[argBest,hb,if_true];exact Z) (λa o h=>(ZZ _ _ (Ne.symm (Y a o h).2)).trans (j a o h)) (YH _ l rfl) λO q T u Q=>?_⟩
   ·exact(ZZ _ _ (λz:S=a=>C (by rw[z];exact af))).trans z
   ·exact r O q T u λa o f y z=>Q a o f y ((ZZ _ _ (Ne.symm y)).trans (k a o f z))
  |false=>
   simp only[ZS,if_false];refine UC (UK ?_);rw[xn];refine US ⟨Ui W6 _,md W X C bw L m (i+1) _ b c (by lia) B (by simp only[argBest,hb,ZS,if_false];exact pb) j l λO q T u Q=>?_⟩;exact r O q T u λa o f y z=>Q a o f y (k a o f z)
def zp{s:Shared}(W:Walks prog w A.in1 I fp wr n P St)(Y:K5 prog w A.in1 base P bt)(l:S ∉ fp)(bw:∀a ∈ wr,base.get? a=aD)(B:base.get? S=aD)(L:0 < n){c:Nat}(st:St 0 s.heap)(O:∀a o,base.get? a=aw o->s.heap.get? a=aw o)(gs:s.heap.get? S=aw { cls:=.type "list", dict:=aD,data:=.seq #[] c,slots:=#[] })
  (r:∀v h' J,P (argBest bt (n - 1)) v->(∀a o,a ∉ wr->a ≠ S->s.heap.get? a=aw o->h'.get? a=aw o)->R (.ok (.ret v)) { s with heap:=h',toks:=J }):codeAny (model prog w) A (.builtin "min.loop" ⟨[.ref I,.none,.ref S],[(Str.ofString "default", d)]⟩) R s:=by
 have X:S ∉ wr:=λh=>l (W.sub _ h);refine VZ W0 ?_;rw[Around.under_plainId W6 _];show wpAny _ A.in1 (Ur (.ref S) >>= _) _ _ s;refine UC (UY gs rfl ?_);show wpAny _ A.in1 (tryCatch (pyNext (.ref I)) _ >>= _) _ _ s;refine UC (U3 (W.item 0 s _ _ L st λv h' J Z f k=>?_));have b:=k S _ X gs;have C:∀a o,base.get? a=aw o->a ∉ wr/\a ≠ S:=λa o h=>⟨λz=>(by rw[bw a z] at h;cases h),λz=>(by rw[z,B] at h;cases h)⟩;show wpAny _ A.in1 (updateSeq S (λ_=>#[v,v]) >>= _) _ _ _;refine UC (U5 b rfl ?_);rw[xn];refine US ⟨Ui W6 _,md W Y l bw B (n - 1) 0 _ v _ (by lia) (W.frame _ _ _ f λa af o z=>?_) Z (λa o h=>(ZZ _ _ (Ne.symm (C a o h).2)).trans (k a o (C a o h).1 (O a o h))) (YH _ b rfl) λQ j T q U=>?_⟩
 ·exact(ZZ _ _ (λz:S=a=>l (by rw[z];exact af))).trans z
 ·exact r Q j T q λa o u y z=>U a o u y ((ZZ _ _ (Ne.symm y)).trans (k a o u z))
def BR{s:Shared}(W:Walks prog w A.in1 I fp wr 0 P St)(b:S ∉ fp){c:Nat}(st:St 0 s.heap)(gs:s.heap.get? S=aw { cls:=.type "list", dict:=aD,data:=.seq #[] c,slots:=#[] })
  (r:∀h' T,(∀a o,a ∉ wr->s.heap.get? a=aw o->h'.get? a=aw o)->R (.ok (.ret d)) { s with heap:=h',toks:=T }):codeAny (model prog w) A (.builtin "min.loop" ⟨[.ref I,.none,.ref S],[(Str.ofString "default", d)]⟩) R s:=by
 refine VZ W0 ?_;rw[Around.under_plainId W6 _];show wpAny _ A.in1 (Ur (.ref S) >>= _) _ _ s;refine UC (UY gs rfl ?_);show wpAny _ A.in1 (tryCatch (pyNext (.ref I)) _ >>= _) _ _ s;refine UC (U3 (W.done s _ _ st λh' T k=>?_));exact UC (UX (US (r h' T k)))
variable {E:Value->Shared->Prop} {s:Shared} {l:Addr} {its:Array Value} {Q:Value->Shared->Prop}
def BS(hl:s.heap.IsList l its)
  (h:∀c:Shared,c={ s with heap:=s.heap.push { cls:=.type "list_iterator", data:=.fields #[.ref l,.int 0 0] } } ->
   (c.heap.IsListIter s.heap.objs.size l 0/\c.heap.IsList l its)->(∀b ∈ [s.heap.objs.size,l],b < c.heap.objs.size)->l ≠ s.heap.objs.size->Q (.ref s.heap.objs.size) c) :
  wpAny (model prog w) A (pyIter (.ref l)) Q E s:=by
 have f:l < s.heap.objs.size:=by obtain⟨_,e,_⟩:=hl;exact Zq e
 refine UT hl (h _ rfl ⟨⟨_,Zs _ rfl,rfl,rfl⟩,hl.push _⟩ (λb hb=>?_) (ZG f));show b < (s.heap.push _).objs.size;rw[Yq];simp only[Zn,Wl,or_false] at hb;rcases hb with rfl |rfl
 ·exact Xg _
 ·exact Yu f
def BU(y:A.handled=aD)(hl:s.heap.IsList l its)(u:K5 prog w A.in1 s.heap (λi v=>its[i]?=aw v) bt)
  (O:0 < its.size->∀v h' T,its[argBest bt (its.size - 1)]?=aw v->(∀b o,s.heap.get? b=aw o->h'.get? b=aw o)->Q v { s with heap:=h',toks:=T })
  (J:its.size=0->∀h' T,(∀b o,s.heap.get? b=aw o->h'.get? b=aw o)->Q d { s with heap:=h',toks:=T }):wpAny (model prog w) A (call (.builtin "min") [.ref l] [(Str.ofString "default", d)]) Q E s:=by
 refine kmb_tree F.kind_min F.plain_min F.entry_min (BQ _ _) ?_;show wpAny _ A.in1 (Builtin.Builtins.bindParams "min" ["key", "default"] 0 ⟨[],[(Str.ofString "default", d)]⟩ >>= _) _ _ s;refine UC (UQ (show Builtin.Builtins.bindParams "min" ["key", "default"] 0 ⟨[],[(Str.ofString "default", d)]⟩=pure [aD,aw d] from rfl) ?_);refine UC (US ?_);refine UC (BS hl λX e st f L=>?_);subst e;have W:=Walks.list (prog:=prog) (w:=w) (A:=A.in1) y s.heap.objs.size l L its;refine UC (UP ?_);have U:∀b ∈ [s.heap.objs.size,l],b < (s.heap.push { cls:=.type "list_iterator", data:=.fields #[.ref l,.int 0 0] }).objs.size:=f;rw[xn]
 have B:s.heap.get? s.heap.objs.size=aD:=by
  cases q:s.heap.get? s.heap.objs.size with
  |none=>rfl
  |some o=>exact absurd (Zq q) (ZK _)
 by_cases k:its.size=0
 ·rw[k] at W;refine US ⟨Ui W6 _,BR W (λj=>ZK _ (f _ j)) (W.frame _ _ _ st λb _ o e=>Zc _ e) (Zs _ rfl) λh' T c=>?_⟩;exact J k h' T (old_kept λb o hb e=>c b o hb (Zc _ e))
 ·refine US ⟨Ui W6 _,zp (base:=s.heap) W u (λj=>ZK _ (f _ j)) ?_ ?_ (by lia) (W.frame _ _ _ st λb _ o e=>Zc _ e) (λa o e=>Zc _ (Zc _ e)) (Zs _ rfl) λv h' T C c=>?_⟩
  ·intro a z;rw[ZF.mp z];exact B
  ·cases q:s.heap.get? (s.heap.push { cls:=.type "list_iterator", data:=.fields #[.ref l,.int 0 0] }).objs.size with
   |none=>rfl
   |some o=>have:=Zq q;rw[Yq] at this;lia
  ·exact O (by lia) v h' T C (old_kept λb o hb e=>c b o hb (ZG (Zq e)) (Zc _ e))
end
abbrev xo:D->Option (Int × List Int)
 |.tup [.int n,.tup es]=>(bR es).map λns=>(n,ns)
 |_=>aD
abbrev gR:List D->Option (List (Int × List Int))
 |[]=>aw []
 |d::ds=>match xo d,gR ds with
  |some w,aw ws=>aw (w::ws)
  |_,_=>aD
abbrev cO(b:List (Int × List Int))(i j:Nat):Bool:=bA (b.getD i (0,[])) (b.getD j (0,[]))
abbrev nG(T:Bool)(d:List D)(S:Sto):Option (D × Sto):=match T,gR d with
 |false,aw ws=>aw (d.getD (argBest (cO ws) (d.length - 1)) .non,S)
 |_,_=>aD
def qk:∀ {c:List D} {b:List (Int × List Int)},gR c=aw b->b.length=c.length/\∀ (i:Nat) d,c[i]?=aw d->∃w,b[i]?=aw w/\d = .tup [.int w.1,.tup (w.2.map D.int)]
 |[],_,e=>by cases e;exact⟨rfl,λi d h=>by simp at h⟩
 |d::c,b,e=>by
  simp only[gR] at e;split at e
  ·rename_i w k f u;cases e;obtain⟨l,r⟩:=qk u;refine⟨by rw[Zo,Zo,l],λi q h=>?_⟩;cases i with
   |zero=>
    cases h;refine⟨w,rfl,?_⟩;unfold xo at f;split at f
    ·rename_i n v;obtain⟨ns,j,rfl⟩:=ZC.mp f;rw[cq j]
    ·cases f
   |succ i=>exact r i q (by simpa using h)
  ·cases e
def xq{b:Nat->Nat->Bool}:∀n,argBest b n<=n
 |0=>Zi _
 |n+1=>by
  simp only[argBest];split
  ·exact Zi _
  ·exact Nat.le_succ_of_le (xq n)
section
variable {X:Cx} {K:Vp} {m:List Addr} {H:Hp} {S:Sto} {e:Expr} {t:TA} {p pos kp vp:Pos} {j:Nat}
def oB{c:List (Addr × Obj)}{O:L2.St}{s:Shared}(I:Inv X c O H s){n:Int}{ns:List Int}{v:V}{u:Value}(vd:VD X.K m H (.tup [.int n,.tup (ns.map D.int)]) v)(r:aB v u) :
  ∃l t q o nn d sl xs,u = .ref l/\o=(⟨.type "tuple", d,.seq #[.int n t,.ref q] nn,sl⟩:Obj)/\s.heap.get? l=aw o/\IsTup s.heap q xs/\IntsAre xs.toList ns:=by
 obtain⟨l,vs,rfl,J,Q⟩:=vd.tups;obtain⟨a,b,rfl,va,vb⟩:=Bo Q;clear Q;cases va.ints;obtain⟨q,ws,rfl,C,U⟩:=vb.tups;have B:=bF U;subst B;cases r;obtain⟨_,its,L,o,Y,f,nn,z,h4⟩:=I.hok l _ J;obtain⟨x,y,rfl,r1,r2⟩:=nV L;obtain⟨T,rfl⟩:=r1;cases r2;obtain⟨xs,rx,tx,_⟩:=I.tuple (.of C);obtain⟨Z,d,k,sl⟩:=o;simp only at f z;subst f z;exact⟨l,T,q,_,nn,d,sl,xs.toArray,rfl,rfl,Y,tx,by simpa using bf rx⟩
def K6(hu:X.A.units+64 < cLine)(hc:X.calm=aN)(hg:Gl X "min")(hm:X.mg "min" = aD)(hdb:(("min" : Str) == ("__debug__" : Str))=aS)(ha:PA X [e] t)(he:Uv [e] X.env=(aS,eval e X.env)::Uv [] X.env) :
  PE X (.Call (.Name "min" p) [e] [⟨aw "default", .Constant .none j vp,kp⟩] pos) (tCB (r1 (rSq X.K nG)) t):=by
 intro f s Y H Q I h;refine UB (eU I hg hm WK ?_ (by decide) hdb);refine callWith_kw (thn (ha pos f s Y H _ I h) λus s1 ⟨vs,H1,I1,r,q1⟩=>?_) (by rw[he];rfl) (by rw[he];rfl) rfl rfl;refine thn (wU (nm:=aw "default") (kpos:=kp) (Am (X:=X) (j:=j) (pos:=vp)) AG pos f s1 Y H1 _ I1 (show cg (tC .non) jl Y H1 (λzs c=>zs=[.non]/\c=H1) from ⟨rfl,rfl⟩)) λks s2 ⟨zs,c,C,rz,ez,eH⟩=>?_;subst ez eH;obtain⟨u,rfl,ru⟩:=bQ rz;cases ru;obtain⟨_,rfl,m,S,tu,l,a,ws,d,S',R,rfl,sq,vd,O,q⟩:=cH q1;obtain⟨u',rfl,ru'⟩:=bQ r;cases ru';unfold nG at O;split at O
 ·rename_i wl hw;cases O;obtain⟨lw,at_⟩:=qk hw;have sq:SqL X.K c a ws:=sq;obtain⟨b,rv,pl,hz⟩:=C.list sq;have ld:=vd.length;have lr:=rv.length
  have there:∀ (i:Nat) v,b.toArray[i]?=aw v->∃x d,l[i]?=aw d/\wl[i]?=aw x/\d = .tup [.int x.1,.tup (x.2.map D.int)]/\∃y,ws[i]?=aw y/\VD X.K m c d y/\aB y v:=λi v B=>by
   have B:b[i]?=aw v:=by simpa using B
   have hi:i < l.length:=by have:=(Zb.mp B).1;lia
   obtain⟨y,T,vy⟩:=vd.get (gEG hi);obtain⟨v',L,ry⟩:=rv.get T;rw[B] at L;cases L;obtain⟨x,U,ex⟩:=at_ i _ (gEG hi);exact⟨x,_,gEG hi,U,ex,y,T,vy,ry⟩
  refine BU (bt:=cO wl) (C.ok.hd hc) pl.isList ?_ (λJ v h' tk' B hk=>?_) (λJ h' tk' hk=>?_)
  ·intro i j vi vj s3 Q3 E3 kp pi pj hq;obtain⟨x,d1,k,U,rfl,y1,_,v1,r1⟩:=there i vi pi;obtain⟨y,d2,hd2,T,rfl,y2,_,v2,r2⟩:=there j vj pj;obtain⟨l1,t1,p1,o1,n1,dd1,sl1,Z,rfl,rfl,g1,tp1,i1⟩:=oB C v1 r1;obtain⟨l2,t2,p2,o2,n2,dd2,sl2,xs2,rfl,rfl,g2,tp2,i2⟩:=oB C v2 r2
   have e:cO wl i j=bA x y:=by
    unfold cO;rw[Zm,Zm,U,T];rfl
   rw[e] at hq
   exact Uo (op:=.Lt) ⟨_,kp _ _ g1,rfl⟩ ⟨_,kp _ _ g2,rfl⟩ Vf W3 (WZ _ _) (nF l1 l2 x.1 y.1 t1 t2 p1 p2 n1 n2 dd1 dd2 sl1 sl2 x.2 y.2)
    ⟨kp _ _ g1,kp _ _ g2,⟨Z,xs2,tp1.keeps kp,tp2.keeps kp,i1,i2⟩,(show X.A.units+1+1 < cLine by lia),show Value.bool (bA x y) ≠ Value.notImplemented/\Q3 (.bool (bA x y)) s3 from ⟨(λz=>nomatch z),hq⟩⟩ (show X.A.units+1 < cLine by lia)
  ·have hn:0 < l.length:=by have:b.toArray.size=b.length:=Zj;lia
   obtain⟨x,d1,k,U,ed,y1,_,v1,r1⟩:=there _ v B;have e:b.toArray.size=l.length:=by rw[Zj];lia
   rw[e] at k;refine⟨y1,c,C.kept hk,r1,?_⟩;rw[show l.getD (argBest (cO wl) (l.length - 1)) .non=d1 by rw[Zm,k];rfl] at q;exact q m c _ (Aft.refl R) v1
  ·have en:l=[]:=Z6.mp (by rw[Zj] at J;lia);subst en;exact⟨.non,c,C.kept hk,rfl,q m c _ (Aft.refl R) p0⟩
 ·cases O
end
end Ev
namespace L2
open PySem PySem.Spec PyProof.Rows PySem.SeqAt AutoSeq1
def K7{d:Type}(f:Nat->d->Sem (ForInStep d))(I:Nat->d->Shared->Prop)(Q:d->Shared->Prop)(n:Nat)
  (turn:∀i b s,i < n->I i b s->wpAny M A (f i b) (λr k=>match r with |.yield B=>I (i+1) B k |.done B=>Q B k) E s)
  (fin:∀b s,I n b s->Q b s) (b:d) (h:I 0 b s):wpAny M A (forIn [0:n] b f) Q E s:=by
 rw[Std.Legacy.Range.forIn_eq_forIn_range'];refine UH _ (λc b s=>∃i,i<=n/\c=List.range' i (n - i)/\I i b s) _ (λx c b s ⟨i,hi,e,h⟩=>?_) (λb s ⟨i,hi,e,h⟩=>?_) _ _ ⟨0,Z3 _,by simp[Std.Legacy.Range.size],h⟩
 ·have j:i < n:=Nat.lt_of_not_le λz=>by rw[show n - i=0 by omega] at e;cases e
  rw[show n - i=(n - i - 1)+1 by omega,List.range'_succ] at e;cases e;refine UM (turn _ b s j h) (λr k l=>?_) λ_ _ u=>u;cases r with
  |done B=>exact l
  |yield B=>exact⟨x+1,j,by rw[show n - x - 1=n - (x+1) by omega],l⟩
 ·have:n - i=0:=by
   cases q:n - i with
   |zero=>rfl
   |succ m=>rw[q,List.range'_succ] at e;cases e
  obtain rfl:i=n:=by omega
  exact fin b s h
def nI(l:Addr)(I:Array Value)(n:Nat)(z:Option Addr)(sl:Array (Option Value))(x:Value)(e:Value->Bool)(j:Nat)(Q:j < I.size)
  (f:e I[j]=aN) (k:∀m (O:m < I.size),m < j->e I[m]=aS) :
  Meets (Builtin.«tuple.index» ⟨[.ref l,x],[]⟩)
   (λA R s=>s.heap.get? l=aw { cls:=.type "tuple", dict:=z,data:=.seq I n,slots:=sl }/\(∀y,y ∈ I->EqAt A.in1 s y x (e y))/\R (.ok (.ret (.int j s.toks))) { s with toks:=s.toks+1 }):=
 .of_wp λprog w A R s h=>by
  obtain⟨C,g,d,T,os⟩:=s;obtain⟨B,L,h⟩:=h
  wp_walk using UL B,K7 _ (λi b u=>b.1=aD/\i<=j/\u=⟨C,g,d,T,os⟩) _
  case turn=>
   rintro i b u hi ⟨hb,v,rfl⟩;have c:i < I.size:=by simpa using hi
   rw[Array.getElem?_eq_getElem c];refine UC (L _ (Wb c) prog w _ _ ?_);by_cases q:i=j
   ·subst q;rw[f]
    wp_walk
    exact⟨_,rfl,h⟩
   ·rw[k i c (by omega)]
    wp_walk
    exact⟨rfl,by omega,rfl⟩
  case fin=>
   rintro b u ⟨_,J,_⟩;rw[WF] at J;omega
  case h=>exact⟨rfl,Z3 _,rfl⟩
end L2
namespace L2
open PySem PySem.Spec PyProof.Rows PySem.SeqAt AutoSeq1
variable {P:Program} {w:World} {A:Around} {E:Value->Shared->Prop} {s:Shared} {d it:Addr} {o:Obj} {es:Array DictEntry} {ep i:Nat}
end L2
namespace L2
open PySem PySem.Spec PyProof.Rows PySem.SeqAt AutoSeq1
section
variable {P:Program} {w:World} {A:Around} {E:Value->Shared->Prop} {s:Shared} {r:Addr} {n:Nat} {t u v:Tok}
@[inline]abbrev IV:Nat->Value->Prop:=λi v=>∃t,v = .int (0+i * 1) t
def nJ(J:A.handled=aD)(I:IsRange s.heap r 0 n 1 t u v)(q:Builtin.Range.small 0 n 1=aN)(C:Builtin.Range.rangeSize 0 n 1=n)(k:n<=2 ^ 24)
  (L:∀ (h':Heap) (T:Nat) (f:Array Value),s.heap.objs.size<=h'.objs.size->(∀b o,s.heap.get? b=aw o->h'.get? b=aw o)->ItemsOf IV f n->Q f.toList { s with heap:=h',toks:=T }):wpAny (model P w) A (collect (.ref r)) Q E s:=by
 unfold collect;refine UC (wpAny_runValue (VZ F.entry_proto_collect ?_));rw[Around.under_plainId F.plain_proto_collect _];show wpAny _ A.in1 (newList [] >>= λl=>again (.builtin "list.__iadd__" ⟨[l,.ref r],[]⟩)) _ _ s;refine UC (UP ?_);refine US ⟨Ui F.plain_list_iadd _,VZ F.entry_list_iadd ?_⟩;rw[Around.under_plainId F.plain_list_iadd _];have B:(s.heap.push { cls:=.type "list", data:=.seq ([]:List Value).toArray }).get? s.heap.objs.size=aw { cls:=.type "list", data:=.seq ([]:List Value).toArray }:=Zs _ rfl;show wpAny _ A.in1 (Builtin.List.listExtendWith (.ref s.heap.objs.size) (.ref r) (.ref s.heap.objs.size)) _ _ _;refine wpAny_extend_range (A:=A) (n:=n) (R:=λr y=>match r with |.ok (.ret v)=>wpAny (model P w) A (match v with |.ref a=>(do match (<-load a).data with |.seq xs _=>pure xs.toList |_=>UA "internal:collect") |_=>UA "internal:collect") Q E y |.ok _=>False |.error e=>E e y) (s:={ s with heap:=s.heap.push { cls:=.type "list", data:=.seq ([]:List Value).toArray } }) (c₀:=0) J (Zc _ I) q C k _ _ B λh' T c O z d j=>?_;show wpAny _ A (load s.heap.objs.size >>= _) _ _ _;refine UC (wpAny_load d ?_);exact US (L h' T c (Y4 (Zq d)) (λb o e=>z b o (ZG (Zq e)) (Zc _ e)) j)
def sO(O:A.handled=aD)(z:IsRange s.heap r 0 n 1 t u v)(q:Builtin.Range.small 0 n 1=aN)(B:Builtin.Range.rangeSize 0 n 1=n)(j:n<=2 ^ 24)
  (X:∀ (h':Heap) (T:Nat) (acc:Array Value),s.heap.objs.size<=h'.objs.size->(∀b o,s.heap.get? b=aw o->h'.get? b=aw o)->ItemsOf IV acc n->Q (.ref h'.objs.size) { s with heap:=h'.push { cls:=.type "tuple", data:=.seq acc },toks:=T }):wpAny (model P w) A (call (.type "tuple") [.ref r]) Q E s:=by
 refine callType_codes (Q₁:=λobj c=>c.TypeIs obj "tuple"/\Q obj c) F.called_tuple (F.typeCall_tuple_1 _) F.entry_object_init ?_ λobj c d=>?_
 ·refine codeAny_call_builtin F.plain_tuple_new F.entry_tuple_new (UQ (F.newCall_tuple_1 _) ?_);have y:=sub_tuple_self;have l:=init_tuple_lookup;have I:=madeHere_tuple;have J:s.TypeIs (.ref r) "range" := ⟨_,z,rfl⟩;have L:=F.sub_range_tuple;have C:=λ(Q:List Value->Shared->Prop) (E:Value->Shared->Prop)=>nJ (P:=P) (w:=w) (A:=A.in1.in1) (E:=E) (Q:=Q) (s:=s) (show A.in1.in1.handled=aD from O) z q B j
  wp_walk using U4 J,C _ _
  intro h' T acc k U f;refine UC (US ?_);show wpAny _ _ (Builtin.Tuple.tupleExact acc.toList.toArray >>= λv=>ret v) _ _ _;unfold Builtin.Tuple.tupleExact;have e:acc.toList.toArray=acc:=by simp
  rw[e];refine UC (UP ?_ (by show acc.size<=sizeLine;rw[f.1,Ut];omega));exact US ⟨⟨_,Zs _ rfl,rfl⟩,X h' T acc k U f⟩
 ·exact⟨d.1,WW obj _,object_init_meets F.called_tuple.init.lookup F.called_tuple.made (by decide) P w A.in1 _ c ⟨d.1,rfl,d.2⟩⟩
end
end L2
namespace Ev
open PySem PySem.Spec PyProof.Rows L2
open PySem.W (KasT kas_sort kas_ask)
section
variable {prog:Program} {w:World} {A:Around} {E:Value->Shared->Prop} {s:Shared} {a kS:Addr} {vs:List Value} {f:Value} {P:PySem.Fin->Shared->Prop} {e1:Nat}
def BV(J:Nat->Array Value->Shared->Prop)(C:vs.length<=1000)(sz:∀i b c,J i b c->b.size=i)(at_:∀i b c,J i b c->∃e,c.heap.get? kS=aw (seqObj "list" b e))
  (turn:∀i v b c,vs[i]?=aw v->J i b c->wpAny (model prog w) A (call f [v]) (λk l=>(∃e,l.heap.get? kS=aw (seqObj "list" b e))/\J (i+1) (b.push k) { l with heap:=l.heap.update kS (Obj.mapSeq (·.push k)) }) (λ_ _=>False) c)
  (fin:∀b c,J vs.length b c->wpAny (model prog w) A (ksk_end a aS vs.toArray e1 (.ref kS) b) P E c) (z:J 0 #[] s):wpAny (model prog w) A (ksk_rest a f aS vs.toArray e1 (.ref kS)) P E s:=by
 unfold ksk_rest;refine UC (UX ?_)
 first
  |rw[List.forIn_toArray]
  |(rw[<-YA];simp only[XV])
  |rw[<-YA]
 refine UC (ksk_fold (λi c=>∃b,J i b c) vs 0 s ⟨#[],z⟩ (λj x c y d=>?_) λc d=>?_)
 ·obtain⟨b,d⟩:=d;rw[Yv] at d ⊢;have L:=(Zb.mp y).1;have O:=sz _ _ _ d;refine UC (wpAny_attempt (UM (turn j x b c y d) (λk l B=>?_) λ_ _ I=>I.elim));obtain⟨⟨e,q⟩,u⟩:=B
  try dsimp only
  refine UC (listUpdate_at q rfl ?_ (by rw[Ut];omega) (ZW (WG (Wq ..)) (by rw[Ut];omega)));exact US ⟨rfl,b.push k,u⟩
 ·obtain⟨b,d⟩:=d;rw[Yv] at d;obtain⟨e,q⟩:=at_ _ _ _ d
  try dsimp only
  exact UC (listItems_at q rfl (fin b c d))
def Fx{e:Nat}(U:SortKind)(lt:Nat->Nat->Bool)(hk:s.heap.get? kS=aw (seqObj "list" k e))(ha:s.heap.get? a=aw (seqObj "list" #[] e1))(L:kS ≠ a)(hl:k.toList.length=vs.length)(q:eI lt vs.length)
  (kd:2<=vs.length->∀ (Q:SortKind->Shared->Prop),Q U s->wpAny (model prog w) A (keyKind' k) Q E s)
  (I:∀i j,i < vs.length->j < vs.length->∀C:Bool->Shared->Prop,C (lt i j) s->kas_ask prog w A U k.toList i j C s)
  (h:∀h' c,(∀b o,b ≠ a->b ≠ kS->s.heap.get? b=aw o->h'.get? b=aw o)->h'.get? a=aw (seqObj "list" (if vs.length < 2 then vs.toArray else Yr ((bN lt vs.length).toList.map λi=>vs.getD i Value.none)) c)->h'.objs.size=s.heap.objs.size->P (.done (.ret .none)) { s with heap:=h' }) :
  wpAny (model prog w) A (ksk_end a aS vs.toArray e1 (.ref kS) k) P E s:=by
 have J:=q.le;have kz:k.size=vs.length:=by rw[<-Zr];exact hl
 have T:∀ {st:SortSt} {out:List Value},(arrOf st).map (·.2)=out.toArray->out.length=vs.length->failedOf st=aD->(if vs.length < 2 then vs.toArray else Yr ((bN lt vs.length).toList.map λi=>vs.getD i Value.none))=out.toArray->wpAny (model prog w) A (ksk_tail a aS e1 (.ref kS) st) P E s:=λ{st out} ho hlo O he=>by
  have X:=Heap.SameBut.update s.heap kS (Obj.mapSeq λ_=>(#[]:Array Value));have d:(s.heap.update kS (Obj.mapSeq λ_=>(#[]:Array Value))).get? a=aw (seqObj "list" #[] e1):=(X.2 a L.symm).trans ha;obtain⟨z,B⟩:∃z,((s.heap.update kS (Obj.mapSeq λ_=>(#[]:Array Value))).update a (Obj.mapSeq λ_=>(arrOf st).map (·.2))).get? a=aw (seqObj "list" ((arrOf st).map (·.2)) z):=⟨_,get?_update_seq d λ_=>(arrOf st).map (·.2)⟩;have s2:=Heap.SameBut.update (s.heap.update kS (Obj.mapSeq λ_=>(#[]:Array Value))) a (Obj.mapSeq λ_=>(arrOf st).map (·.2));unfold ksk_tail
  try dsimp only
  refine UC (listUpdate_at hk rfl ?_ (by rw[kz,Ut];omega) (Z3 _));refine UC (UK ?_);refine UC (seqEpoch_at d rfl ?_);simp only[ZS,if_false];refine UC (listUpdate_at d rfl ?_ (Z3 _) (by rw[ho,Zj,hlo,Ut];omega));rw[O];simp only[bne_self_eq_false,ZS,if_false];refine US (h _ z (λb o Z n2 e=>?_) (by rw[he,<-ho];exact B) (by rw[Yk,Yk]));exact(s2.2 b Z).trans ((X.2 b n2).trans e)
 unfold ksk_end
 try dsimp only
 simp only[ZS,if_false];by_cases l:vs.toArray.size < 2
 ·rw[if_pos l,if_pos l];refine UC (US ?_);rw[StateT.run_pure];refine UC (US ?_);dsimp only;refine T (out:=vs) ?_ rfl rfl (by rw[if_pos (by simpa using l)]);show Array.map (λx:Keyed=>x.2) (k.zip vs.toArray)=_;apply Wi.mp;rw[XG,Wj,Wk (by simp[kz])]
 ·rw[if_neg l,if_neg l];have v:2<=vs.length:=by simpa using l
  refine UC (kd v _ ?_);have er:k.zip vs.toArray=k.toList.toArray.zip vs.toArray:=by rw[Xi]
  rw[er];refine UC (UM (xh hl v q I) ?_ λ_ _ e=>e);rintro⟨⟨⟩,Y⟩ s' ⟨rfl,y,u,O⟩;dsimp only;exact T (out:=(bN lt vs.length).toList.map λi=>vs.getD i Value.none) (Vx hl y) (by rw[Za,Zr];exact u) O (by rw[if_neg (by omega)])
end
section
variable {prog:Program} {w:World} {A:Around} {E:Value->Shared->Prop} {s:Shared} {l q:Addr} {vs:List Value} {Q:Value->Shared->Prop}
def vF(hl:s.heap.IsList l vs.toArray)(κ:SortKind)(lt:Nat->Nat->Bool)(Y:eI lt vs.length)(J:Nat->Nat->Array Value->Shared->Prop)
  (J0:∀Z f,(∀b o,s.heap.get? b=aw o->Z.get? b=aw o)->Z.get? (s.heap.objs.size+1)=aw (seqObj "list" #[] f)->Z.get? (s.heap.objs.size+3)=aw (seqObj "list" #[] 0)->Z.objs.size=s.heap.objs.size+4->J f 0 #[] { s with heap:=Z })
  (at_:∀f i u d,J f i u d->u.size=i/\(∃e,d.heap.get? (s.heap.objs.size+3)=aw (seqObj "list" u e))/\d.heap.get? (s.heap.objs.size+1)=aw (seqObj "list" #[] f))
  (turn:∀f i v u d,vs[i]?=aw v->J f i u d->wpAny (model prog w) A.in1.in1 (call (.ref q) [v]) (λk T=>(∃e,T.heap.get? (s.heap.objs.size+3)=aw (seqObj "list" u e))/\J f (i+1) (u.push k) { T with heap:=T.heap.update (s.heap.objs.size+3) (Obj.mapSeq (·.push k)) }) (λ_ _=>False) d)
  (kd:∀f u d,J f vs.length u d->2<=vs.length->∀ (A:Around) (E:Value->Shared->Prop) (Q:SortKind->Shared->Prop),Q κ d->wpAny (model prog w) A (keyKind' u) Q E d)
  (y:∀f u d,J f vs.length u d->∀i j,i < vs.length->j < vs.length->∀C:Bool->Shared->Prop,C (lt i j) d->kas_ask prog w A.in1.in1 κ u.toList i j C d)
  (h:∀f u d h' c,J f vs.length u d->(∀b o,b ≠ s.heap.objs.size+1->b ≠ s.heap.objs.size+3->d.heap.get? b=aw o->h'.get? b=aw o)->h'.get? (s.heap.objs.size+1)=aw (seqObj "list" (if vs.length < 2 then vs.toArray else Yr ((bN lt vs.length).toList.map λi=>vs.getD i Value.none)) c)->h'.objs.size=d.heap.objs.size->Q (.ref (s.heap.objs.size+1)) { d with heap:=h' }) :
  wpAny (model prog w) A (call (.builtin "sorted") [.ref l] [(Str.ofString "key", .ref q)]) Q E s:=by
 refine call_function_entry_kw kind_sorted plain_sorted entry_sorted (ksk_s1 _ _) ?_;have U:=Y.le;unfold Builtin.«sorted»;refine UC (m:=checkCount "sorted" 1 1 _) (US ?_);refine UC (collect_list hl ?_ (by rw[Ut];omega));refine UC (UO ?_ (by rw[Ut];omega));have B:((s.heap.push (seqObj "list" #[] 0)).update s.heap.objs.size (Obj.mapSeq (·++vs.toArray))).objs.size=s.heap.objs.size+1:=by rw[Yk,size_push']
 have I:(((s.heap.push (seqObj "list" #[] 0)).update s.heap.objs.size (Obj.mapSeq (·++vs.toArray))).push (seqObj "list" vs.toArray 0)).get? (s.heap.objs.size+1)=aw (seqObj "list" vs.toArray 0):=by
  rw[<-B];exact Zs _ rfl
 have keep:∀b o,s.heap.get? b=aw o->(((s.heap.push (seqObj "list" #[] 0)).update s.heap.objs.size (Obj.mapSeq (·++vs.toArray))).push (seqObj "list" vs.toArray 0)).get? b=aw o:=λb o q=>by
  have y:b < s.heap.objs.size:=Zq q;rw[Y8 _ _ _ (by rw[B];exact ZG (Yu y)),Xq _ _ _ _ (ZG y),Y8 _ _ _ (ZG y)];exact q
 have hs2:(((s.heap.push (seqObj "list" #[] 0)).update s.heap.objs.size (Obj.mapSeq (·++vs.toArray))).push (seqObj "list" vs.toArray 0)).objs.size=s.heap.objs.size+2:=by rw[size_push',B]
 show wpAny _ _ _ _ _ { s with heap:=((s.heap.push (seqObj "list" #[] 0)).update s.heap.objs.size (Obj.mapSeq (·++vs.toArray))).push (seqObj "list" vs.toArray 0) };rw[B];generalize (((s.heap.push (seqObj "list" #[] 0)).update s.heap.objs.size (Obj.mapSeq (·++vs.toArray))).push (seqObj "list" vs.toArray 0))=O at *;refine UC (UJ (wpAny_call_entry_kw slot_list_sort ⟨_,I,rfl⟩ entry_list_sort ?body (ksk_l1 _ _)))
 case body=>
  show wpAny (model prog w) A.in1.in1 (Builtin.«list.sort» ⟨[.ref (s.heap.objs.size+1)],[(Str.ofString "key", .ref q)]⟩) _ _ { s with heap:=O };rw[ksk_t1];unfold ksk_tree;obtain⟨f,ho1⟩:∃f,(O.update (s.heap.objs.size+1) (Obj.mapSeq λ_=>(#[]:Array Value))).get? (s.heap.objs.size+1)=aw (seqObj "list" #[] f):=⟨_,get?_update_seq I λ_=>#[]⟩;have s1:=Heap.SameBut.update O (s.heap.objs.size+1) (Obj.mapSeq λ_=>(#[]:Array Value));refine UC (listItems_at I rfl ?_);refine UC (listUpdate_at I rfl ?_ (by rw[Zj,Ut];omega) (Z3 _));refine UC (seqEpoch_at ho1 rfl ?_);refine UC (wpAny_newTuple ?_ (by show vs.length<=_;rw[Ut];omega));refine UC (UO ?_ (Z3 _));refine UJ ?_;have X:((O.update (s.heap.objs.size+1) (Obj.mapSeq λ_=>(#[]:Array Value))).push (seqObj "tuple" vs.toArray 0)).objs.size=s.heap.objs.size+3:=by rw[size_push',Yk,hs2]
  have g:∀kS,((O.update (s.heap.objs.size+1) (Obj.mapSeq λ_=>(#[]:Array Value))).push (seqObj "tuple" vs.toArray 0)).objs.size=kS->kS=s.heap.objs.size+3:=λkS e=>by rw[<-e];exact X
  try dsimp only
  rw[X];refine BV (s:={ s with heap:=((O.update (s.heap.objs.size+1) (Obj.mapSeq λ_=>(#[]:Array Value))).push (seqObj "tuple" vs.toArray 0)).push (seqObj "list" #[] 0) }) (J f) U (λi u d L=>(at_ f i u d L).1) (λi u d L=>(at_ f i u d L).2.1) (turn f) (λu d L=>?_) (J0 _ f (λb o e=>?_) ?_ ?_ ?_)
  ·obtain⟨z,⟨e,X⟩,ha⟩:=at_ _ _ _ _ L;refine Fx (kS:=s.heap.objs.size+3) (a:=s.heap.objs.size+1) κ lt X ha (show s.heap.objs.size+3 ≠ s.heap.objs.size+1 by omega) (by rw[Zr];exact z) Y (λO Q qq=>kd f u d L O _ _ Q qq) (λi j hi hj C c=>y f u d L i j hi hj C c) λh' c k1 k2 k3=>⟨_,rfl,?_⟩;exact US ⟨_,rfl,h f u d h' c L k1 k2 k3⟩
  ·refine Zc _ (Zc _ ?_);exact(s1.2 b (ZG (Yu (Zq e)))).trans (keep b o e)
  ·exact Zc _ (Zc _ ho1)
  ·rw[<-X];exact Zs _ rfl
  ·rw[size_push',X]
end
end Ev
namespace L2
open PySem PySem.Spec PyProof.Rows
open PySem.W (kla_fn kla_obj kla_callFunE kla_codeExpr)
def Fy{P:Program}{w:World}{K:Vp}{mg:Str->Option Value}{base:Heap}{k:Nat}{q B:Addr}{name d:Str}{f:WR}{body:Expr}{c:Scope}{pm C:Value}{N ps:List Str}{A:Around}{outer:List Env}{s:Shared}{H:Hp}{U:List Value}{z:List V}{Q:VK}{t:TE}
  (S:FnScope N ps c) (T:Room (k+1) A) (L:Env0 P w K mg base A outer s H) (Z:s.heap.get? q=aw (kla_obj name d f body c [] pm B C)) (O:s.heap.CodeRec (.ref B) d)
  (hb:VP (kla_fn name d f body c [] pm (.ref B) C) ⟨U,[]⟩=pure (ps.zip U)) (hl:z.length=ps.length) (r:aP z U)
  (j:PE (iH CX0 P w K mg base N d c q (.ref B) A outer s H E0) body t) (ht:t (eB N z) H Q) :
  codeAny (model P w) A (.call (.ref q) ⟨U,[]⟩) (CR CX0 outer P w H s Q E0) s:=by
 have lim:s.heap.NoLimit:=L.mod.nolimit.keeps λb o e=>(L.bs b o e).1
 have l:∀y ∈ ps.zip U,c.names.lookup y.1=aw .local\/(c.names.lookup y.1=aw .cell/\((VW (s.heap.objs.size+1) c.names []).lookup y.1).isSome=aN):=λ⟨n,v⟩ Y=>by
  rcases S.par n (Xn Y).1 with q |q
  ·exact .inl q
  ·exact .inr ⟨q,Vq _ _ _ (.inl q)⟩
 refine kla_callFunE T.depth Z rfl S.co S.gen rfl O ?_;rw[hb];refine US ?_;refine UN S.kind l λenv he s1 x=>?_;subst he;refine⟨lim.keeps x.toInCall.keep,kla_codeExpr ?_⟩;have I:Inv (iH CX0 P w K mg base N d c q (.ref B) A outer s H E0) [] (eB N z) H s1:=n5 S T.hd L hl r x;refine UM (j [] s1 (eB N z) H _ I ht) (λu s' hs=>?_) λe s' hs=>hs;obtain⟨v,X,J,rv,q⟩:=hs;exact⟨v,X,J.os,J.bare,J.base,J.hok,rv,q⟩
end L2
namespace L2
open PySem PySem.Spec PyProof.Rows
open PySem.W (kla_fn kla_obj kla_eval kla_makeFunction kla_makeFunctionHit CodeHd tabObj)
abbrev fnO(q:Addr)(o:Obj):HO:=.ext λh=>h.get? q=aw o
def Px(x:h.CodeRec (.ref C) q):a9 P w H h C (cdO C q):=by
 obtain⟨c,O,v,t,e,b,r⟩:=x;cases e;exact⟨⟨C,O,v,t,rfl,b,r⟩,⟨O,b⟩,λf d ⟨c,O,v,t,e,b,r⟩ k=>by cases e;exact⟨C,O,v,t,rfl,k _ b,r⟩⟩
def IW(x:h.get? q=aw o):a9 P w H h q (fnO q o):=⟨x,⟨o,x⟩,λc b e k=>k _ e⟩
def Inv.grow{t':Nat}(I:Inv X j L H s)(d:H T=aw (.tbl ps))(k:f T=aw (.tbl (ps++more)))
  (kp:∀b o,b ≠ T->s.heap.get? b=aw o->h'.get? b=aw o) (C:h'.get? T=aw { cls:=.none,data:=.fields (ps++more) })
  (O:∀b o,b ≠ T->H b=aw o->f b=aw o) (v:∀b o,f b=aw o->(b=T\/H b=aw o)\/(s.heap.objs.size<=b/\a9 X.prog X.w f h' b o)):Inv X j L f { s with heap:=h',toks:=t' }:=by
 have tT:=I.hok T _ d;have tT:s.heap.get? T=aw { cls:=.none,data:=.fields ps }:=tT;have neT:∀ {b:Addr},H b=aD->b ≠ T:=λe z=>by rw[z,d] at e;cases e
 refine I.step (g':=s.gens) (d':=s.drawn) (ch:=[]) (λ_ z=>nomatch z) (λb o _ _ _ e n=>kp b o (neT n) e) (λb o _ _ _ e n=>⟨o.slots,kp b o (neT n) e⟩) (λb o _ e n=>?_) (λb o _ e=>?_) (λb Q e=>O b _ (λz=>by rw[z,d] at e;cases e) e) (λb o u e=>O b _ (λz=>by rw[z,d] at e;cases e) e) (λb qs e=>?_) (λm J=>?_) (λb o e=>?_) I.bare
 ·cases q:f b with
  |none=>rfl
  |some u=>
   rcases v b u q with (z |z) |z
   ·exact absurd z (neT n)
   ·rw[n] at z;cases z
   ·exact absurd (ZD (Zq e) z.1) (ZK _)
 ·by_cases z:b=T
  ·subst z;exact⟨_,C⟩
  ·exact⟨o,kp b o z e⟩
 ·by_cases z:b=T
  ·subst z;rw[d] at e;cases e;exact⟨more,k⟩
  ·exact⟨#[],by rw[O b _ z e];simp⟩
 ·obtain⟨o,Y,U,e,r⟩:=J;exact⟨o,Y,U,kp _ _ (neT I.free) e,r⟩
 ·by_cases Z:b=T
  ·subst Z;rw[k] at e;cases e;exact C
  ·rcases v b o e with (z |z) |z
   ·exact absurd z Z
   ·refine(I.hok b o z).stay (λB u l c=>?_) (λB c=>O B _ (λz=>by rw[z,d] at c;cases c) c) λB Q c=>O B _ (λz=>by rw[z,d] at c;cases c) c;refine kp B u (λy=>?_) c;rcases l with y' |y'
    ·exact Z (y'.symm.trans y)
    ·rw[y,d] at y';cases y'
   ·exact z.2
def K8(I:Inv X U σ H s)(hT:H T=aw (.tbl ps))(y:Vn ps.toList)
  (B:X.env.code = .ref c) (C:CodeHd s.heap c T) (hg:s.heap.Ns Ud mg) (hb:s.heap.BuiltinsAt mg T) (hgT:Ud ≠ T) (hcl:VX f X.env=pure []) (hdef:V3 d X.env=([],[]))
  (hin:∀cv,VY l ps.toList=aw cv->∃c',cv = .ref c'/\H c'=aw (cdO c' (X.env.qual ++ "<lambda>")))
  (h:∀c' q L j O s',Inv X U σ O s'->O T=aw (.tbl L)->Vn L.toList->VY l L.toList=aw (.ref c')->O c'=aw (cdO c' (X.env.qual ++ "<lambda>")) ->
   O q=aw (fnO q (kla_obj "<lambda>" (X.env.qual ++ "<lambda>") d body f [] ((mg "__name__").getD .none) c' j))->(∀b o,b ≠ T->H b=aw o->O b=aw o)->(∀b o,O b=aw o->b=T\/H b=aw o\/s.heap.objs.size<=b)->s.heap.objs.size<=q->Q (.ref q) s') :
  wpAny (model X.prog X.w) X.A (eval (.Lambda d body f l) X.env) Q X.xe s:=by
 have tT:s.heap.get? T=aw { cls:=.none,data:=.fields ps }:=I.hok T _ hT;have lT:=Zq tT;refine kla_eval hdef ?_;cases hf:VY l ps.toList with
 |none=>
  refine kla_makeFunction hcl I.ok.glob hg B C tT y hf hgT hb λc' j k tk hx v hlt Y htb=>?_;have nT:c' ≠ T:=λz=>by rw[z] at v;exact absurd (ZD lT v) (ZK _)
  have qT:k.objs.size ≠ T:=λz=>by have:=ZD lT v;omega
  have qc:k.objs.size ≠ c':=λz=>by omega
  have kp:∀b o,b ≠ T->s.heap.get? b=aw o->(k.push (kla_obj "<lambda>" (X.env.qual ++ "<lambda>") d body f [] ((mg "__name__").getD .none) c' j)).get? b=aw o:=λb o nb e=>Zc _ (hx b o nb e);have gq:(k.push (kla_obj "<lambda>" (X.env.qual ++ "<lambda>") d body f [] ((mg "__name__").getD .none) c' j)).get? k.objs.size=aw (kla_obj "<lambda>" (X.env.qual ++ "<lambda>") d body f [] ((mg "__name__").getD .none) c' j):=Zs _ rfl;have J:∀ {b:Addr},s.heap.objs.size<=b->H b=aD:=λe=>I.hok.fresh e
  refine h c' k.objs.size (ps++#[rawInt l.line,rawInt l.col,.ref c']) j (upd (upd (upd H T (.tbl (ps++#[rawInt l.line,rawInt l.col,.ref c']))) c' (cdO c' (X.env.qual ++ "<lambda>"))) k.objs.size (fnO k.objs.size _)) _
   (I.grow (more:=#[rawInt l.line,rawInt l.col,.ref c']) hT ?_ kp (Zc _ htb) (λb o nb e=>?_) λb o e=>?_) ?_ ?_ ?_ ?_ az (λb o nb e=>?_) (λb o e=>?_) (by omega)
  ·rw[ac qT.symm,ac nT.symm,az]
  ·rw[ac (λz=>by rw[z,J (by omega)] at e;cases e),ac (λz=>by rw[z,J v] at e;cases e),ac nb];exact e
  ·by_cases Z:b=k.objs.size
   ·subst Z;rw[az] at e;cases e;exact .inr ⟨by omega,IW gq⟩
   ·rw[ac Z] at e;by_cases z2:b=c'
    ·subst z2;rw[az] at e;cases e;exact .inr ⟨v,Px (Y.push _)⟩
    ·rw[ac z2] at e;by_cases z3:b=T
     ·exact .inl (.inl z3)
     ·rw[ac z3] at e;exact .inl (.inr e)
  ·rw[ac qT.symm,ac nT.symm,az]
  ·rw[XX];exact TriplesOk_snoc _ _ _ _ y
  ·rw[XX];exact codeAmong_snoc _ y hf
  ·rw[ac qc.symm,az]
  ·rw[ac (λz=>by rw[z,J (by omega)] at e;cases e),ac (λz=>by rw[z,J v] at e;cases e),ac nb];exact e
  ·by_cases Z:b=k.objs.size
   ·exact .inr (.inr (by rw[Z];omega))
   ·rw[ac Z] at e;by_cases z2:b=c'
    ·exact .inr (.inr (by rw[z2];omega))
    ·rw[ac z2] at e;by_cases z3:b=T
     ·exact .inl z3
     ·rw[ac z3] at e;exact .inr (.inl e)
 |some cv=>
  obtain⟨c',rfl,hc'⟩:=hin cv hf;refine kla_makeFunctionHit hcl I.ok.glob hg B C tT y hf hb λj k tk hk u=>?_;have kp:∀b o,b ≠ T->s.heap.get? b=aw o->(k.push (kla_obj "<lambda>" (X.env.qual ++ "<lambda>") d body f [] ((mg "__name__").getD .none) c' j)).get? b=aw o:=λb o _ e=>Zc _ (hk b o e);have gq:(k.push (kla_obj "<lambda>" (X.env.qual ++ "<lambda>") d body f [] ((mg "__name__").getD .none) c' j)).get? k.objs.size=aw (kla_obj "<lambda>" (X.env.qual ++ "<lambda>") d body f [] ((mg "__name__").getD .none) c' j):=Zs _ rfl;have J:∀ {b:Addr},s.heap.objs.size<=b->H b=aD:=λe=>I.hok.fresh e;have qT:k.objs.size ≠ T:=λz=>absurd (ZD lT (z ▸ u)) (ZK _);have qc:k.objs.size ≠ c':=λz=>absurd (ZD (I.hok.lt hc') (z ▸ u)) (ZK _);refine h c' k.objs.size ps j (upd H k.objs.size (fnO k.objs.size _)) _ (I.grow (more:=#[]) hT ?_ kp ?_ (λb o nb e=>?_) λb o e=>?_) ?_ y hf ?_ az (λb o nb e=>?_) (λb o e=>?_) u
  ·rw[ac qT.symm,X4];exact hT
  ·rw[X4];exact Zc _ (hk _ _ tT)
  ·rw[ac (λz=>by rw[z,J u] at e;cases e)];exact e
  ·by_cases Z:b=k.objs.size
   ·subst Z;rw[az] at e;cases e;exact .inr ⟨u,IW gq⟩
   ·rw[ac Z] at e;exact .inl (.inr e)
  ·rw[ac qT.symm];exact hT
  ·rw[ac qc.symm];exact hc'
  ·rw[ac (λz=>by rw[z,J u] at e;cases e)];exact e
  ·by_cases Z:b=k.objs.size
   ·exact .inr (.inr (by rw[Z];omega))
   ·rw[ac Z] at e;exact .inr (.inl e)
end L2
namespace Ev
open PySem PySem.Spec PyProof.Rows L2
open PySem.W (KasT kas_sort kas_ask)
abbrev Fz(H:Hp)(k:V->List V)(v:List V)(ks:List Value):Prop:=ks.length<=v.length/\∀ (j:Nat) x,j < ks.length->v[j]?=aw x->∃r,ks[j]?=aw (.ref r)/\H r=aw (.tup (k x))
section
variable {X:Cx} {pins:List (Addr × Obj)} {σ:L2.St} {H:Hp} {s:Shared} {l q:Addr} {vs:List V} {Q:Value->Shared->Prop}
def gU(r:aP vs its):∀ {is:List Nat},aP (is.map λi=>vs.getD i .non) (is.map λi=>its.getD i Value.none)
 |[]=>.nil
 | i::is=>.cons (by
   show L2.aB (vs.getD i .non) (its.getD i Value.none);by_cases h:i < vs.length
   ·obtain⟨u,b,c⟩:=r.get (gEG h);rw[Zm,Zm,b,gEG h];exact c
   ·rw[Zm,Zm,Zv (by omega),Zv (by rw[<-r.length];omega)];exact rfl) (gU r)
def zq(I:L2.Inv X pins σ H s)(hl:SqL X.K H l vs)(κ:SortKind)(lt:Nat->Nat->Bool)(h64:eI lt vs.length)(key:V->List V)
  (hlam:∀ (f:Shared) (d:Hp) (x:V) (u:Value),Env0 X.prog X.w X.K X.mg X.base X.A.in1.in1 X.stack f d->(∀b o,H b=aw o->d b=aw o)->x ∈ vs->aB x u->codeAny (model X.prog X.w) X.A.in1.in1 (.call (.ref q) ⟨[u],[]⟩) (CR CX0 X.stack X.prog X.w d f (λv L=>(∃r,v = .ref r/\L r=aw (.tup (key x)))/\∀b o,d b=aw o->L b=aw o) E0) f)
  (kd:∀f d ks,L2.Inv X pins σ d f->Fz d key vs ks->ks.length=vs.length->(∀b o,H b=aw o->d b=aw o)->2<=vs.length->∀ (A:Around) (E:Value->Shared->Prop) (Q:SortKind->Shared->Prop),Q κ f->wpAny (model X.prog X.w) A (keyKind' ks.toArray) Q E f)
  (hlt:∀f d ks,L2.Inv X pins σ d f->Fz d key vs ks->ks.length=vs.length->(∀b o,H b=aw o->d b=aw o)->∀i j,i < vs.length->j < vs.length->∀C:Bool->Shared->Prop,C (lt i j) f->kas_ask X.prog X.w X.A.in1.in1 κ ks i j C f)
  (h:∀a d f,L2.Inv X pins σ d f->d a=aw (.lst (if vs.length < 2 then vs else (bN lt vs.length).toList.map λi=>vs.getD i .non))->H a=aD->(∀b o,H b=aw o->d b=aw o)->Q (.ref a) f) :
  wpAny (model X.prog X.w) X.A (call (.builtin "sorted") [.ref l] [(Str.ofString "key", .ref q)]) Q X.xe s:=by
 have h1000:=h64.le;obtain⟨B,rv,pl,hz⟩:=I.list hl;have lv:vs.length=B.length:=rv.length;have Hn:∀ {b:Addr},s.heap.objs.size<=b->H b=aD:=λe=>I.hok.fresh e
 refine vF (J:=λe1 i T f=>∃d,L2.Inv X pins σ d f/\(∀b o,H b=aw o->d b=aw o)/\f.heap.get? (s.heap.objs.size+1)=aw (seqObj "list" #[] e1)/\d (s.heap.objs.size+1)=aD/\(∃e,f.heap.get? (s.heap.objs.size+3)=aw (seqObj "list" T e))/\d (s.heap.objs.size+3)=aD/\T.size=i/\Fz d key vs T.toList)
  pl.isList κ lt (lv ▸ h64) (λh1 e1 k1 k2 k3 k4=>⟨H,I.kept k1,λ_ _ e=>e,k2,Hn (by omega),⟨0,k3⟩,Hn (by omega),rfl,Z3 _,λj x hj=>absurd hj (Wr j)⟩)
  (λe1 i T f Z=>let ⟨d,_,_,a1,_,a3,_,z,_⟩:=Z;⟨z,a3,a1⟩) (λe1 i v T f hv Z=>?turn) (λe1 T f Z h2 A E Q qq=>?kd) (λe1 T f Z i j hi hj C c=>?lt) λe1 T f h' c Z k1 k2 k3=>?fin
 case turn=>
  obtain⟨d,U,mo,a1,n1,⟨e,a3⟩,n3,z,ky⟩:=Z
  obtain⟨x,hx,rx⟩:∃x,vs[i]?=aw x/\aB x v:=by
   have hi:i < vs.length:=by rw[lv];exact(Zb.mp hv).1
   obtain⟨u,hu,ru⟩:=rv.get (gEG hi);rw[hv] at hu;cases hu;exact⟨_,gEG hi,ru⟩
  refine wpAny_call (V0 (hlam f d x v U.env0.in1.in1 mo (Zd hx) rx) λr s'' hq=>?_);cases r with
  |error e=>exact hq.elim
  |ok fl=>
   cases fl with
   |next=>exact False.elim hq
   |brk=>exact False.elim hq
   |cont=>exact False.elim hq
   |ret u=>
    obtain⟨w,L,os,bare,un,hok,rw',⟨r,rfl,hr⟩,mo2⟩:=hq;obtain rfl:u = .ref r:=rw'
    have nst:∀ {b:Addr},s.heap.objs.size<=b->b ∉ frs X.stack:=λ{b} hb hm=>by
     rcases Zn.mp (I.stkSub b hm) with e |e
     ·exact absurd (ZD I.lt (e ▸ hb)) (ZK _)
     ·exact I.nofs hb e
    have b1:=un.keep _ _ a1 n1 (nst (by omega)) (by simp);have b3:=un.keep _ _ a3 n3 (nst (by omega)) (by simp);have m1:=un.free _ _ a1 n1 (by simp);have m3:=un.free _ _ a3 n3 (by simp);obtain⟨v',H3,I3,rv3,⟨e3,eH⟩⟩:=U.after (Q:=λv H3=>v = .ref r/\H3=L) ⟨.ref r,L,os,bare,un,hok,rfl,rfl,rfl⟩;subst eH;have s1:=Heap.SameBut.update s''.heap (s.heap.objs.size+3) (Obj.mapSeq (·.push (.ref r)));refine⟨⟨e,b3⟩,H3,?_,λb o eb=>mo2 b o (mo b o eb),(s1.2 _ (show s.heap.objs.size+1 ≠ s.heap.objs.size+3 by omega)).trans b1,m1,⟨_,get?_update_seq b3 (·.push (.ref r))⟩,m3,by rw[Wq,z],?_⟩
    ·have tk:=I3.turned (it:=s.heap.objs.size+3) (t':=s''.toks) (λb o nb eb=>(s1.2 b nb).trans eb) m3 (λO=>absurd (YC (YU _ 3) (O.symm ▸ I.lt:s.heap.objs.size+3 < s.heap.objs.size)) (ZK _)) (.inr (by have:=I.sz;omega)) (λy c ey O=>by
      obtain⟨vv,oo,ho,_⟩:=I.cell y c ey;exact absurd (YC (YU _ 3) (O ▸ Zq ho:s.heap.objs.size+3 < s.heap.objs.size)) (ZK _)) (λpp hp O=>absurd (YC (YU _ 3) (O ▸ Zq (I.pin pp hp).1:s.heap.objs.size+3 < s.heap.objs.size)) (ZK _))
     exact tk
    ·refine⟨by rw[XB,Zg,Zt,Zr,z];have:=(Zb.mp hx).1;omega,λj y hj hy=>?_⟩;rw[XB,Zg,Zt,Zr,z] at hj;rw[XB];by_cases hji:j < i
     ·obtain⟨rr,er,hr'⟩:=ky.2 j y (by rw[Zr,z];exact hji) hy;exact⟨rr,by rw[Zw (by rw[Zr,z];exact hji)];exact er,mo2 _ _ hr'⟩
     ·obtain rfl:j=i:=by omega
      rw[hx] at hy;cases hy;exact⟨r,by rw[Zp (by rw[Zr,z];exact Zi _),Zr,z,Z8];rfl,hr⟩
 case kd=>
  obtain⟨d,U,mo,a1,n1,a3,n3,z,ky⟩:=Z;have:=kd f d T.toList U ky (by rw[Zr,z,lv]) mo (by omega) A E Q qq
  rwa [Xi] at this
 case lt=>
  obtain⟨d,U,mo,a1,n1,a3,n3,z,ky⟩:=Z;exact hlt f d T.toList U ky (by rw[Zr,z,lv]) mo i j (by omega) (by omega) C c
 case fin=>
  obtain⟨d,U,mo,a1,n1,⟨e,a3⟩,n3,z,ky⟩:=Z;have big:∀ {b k:Nat},b=s.heap.objs.size+k->¬ b < s.heap.objs.size:=λ{b k} e=>by omega
  have hch:∀b ∈ [s.heap.objs.size+1,s.heap.objs.size+3],(b ∈ X.ex\/X.s₀.heap.objs.size<=b)/\b ≠ X.env.locals/\(∀x c,X.env.cells.lookup x=aw c->c ≠ b)/\∀p ∈ X.pn++pins,p.1 ≠ b:=λb hb=>by
   obtain⟨k,ek⟩:∃k:Nat,b=s.heap.objs.size+k:=by
    rcases Zn.mp hb with e |hb
    ·exact⟨1,e⟩
    ·exact⟨3,ZF.mp hb⟩
   refine⟨.inr (by have:=I.sz;omega),λO=>big ek (O.symm ▸ I.lt),λy c ey O=>?_,λpp hp O=>big ek (O ▸ Zq (I.pin pp hp).1)⟩;obtain⟨vv,oo,ho,_⟩:=I.cell y c ey;exact big ek (O ▸ Zq ho)
  have out:∃os:List Value,aP (if vs.length < 2 then vs else (bN lt vs.length).toList.map λi=>vs.getD i .non) os/\(if B.length < 2 then B.toArray else Yr ((bN lt B.length).toList.map λi=>B.getD i Value.none))=os.toArray:=by
   rw[lv];by_cases h2:B.length < 2
   ·rw[if_pos h2,if_pos h2];exact⟨B,rv,rfl⟩
   ·rw[if_neg h2,if_neg h2];exact⟨_,gU rv,rfl⟩
  obtain⟨os,ro,eo⟩:=out;rw[eo] at k2;refine h (s.heap.objs.size+1) (upd d (s.heap.objs.size+1) (.lst _)) { f with heap:=h' } ?_ az (Hn (by omega)) λb o eb=>by rw[ac (λz=>by rw[z,Hn (by omega)] at eb;cases eb)];exact mo b o eb
  have nn:∀ {b u},d b=aw u->b ≠ s.heap.objs.size+1/\b ≠ s.heap.objs.size+3:=λ{b u} e=>⟨(λz=>by rw[z,n1] at e;cases e),(λz=>by rw[z,n3] at e;cases e)⟩;have nc:∀ {b:Addr},b ∉ [s.heap.objs.size+1,s.heap.objs.size+3]->b ≠ s.heap.objs.size+1/\b ≠ s.heap.objs.size+3:=λ{b} hb=>⟨λz=>hb (by simp[z]),λz=>hb (by simp[z])⟩;have cl:=λb hb=>(hch b hb).2.1;refine U.step (g':=f.gens) (d':=f.drawn) (t':=f.toks) (ch:=[s.heap.objs.size+1,s.heap.objs.size+3]) hch (λb o _ _ Y e _=>k1 b o (nc Y).1 (nc Y).2 e) (λb o _ _ Y e _=>⟨o.slots,k1 b o (nc Y).1 (nc Y).2 e⟩) (λb o Y e n=>by rw[ac (nc Y).1];exact n) (λb o Y e=>⟨o,k1 b o (nc Y).1 (nc Y).2 e⟩) (λb xs e=>by rw[ac (nn e).1];exact e) (λb o u e=>by rw[ac (nn e).1];exact e) (λb ps e=>⟨#[],by rw[ac (nn e).1,e];simp⟩) (λm hm=>?_) (λb u e=>?_) U.bare
  ·obtain⟨o,es,ep,ho,r⟩:=hm;exact⟨o,es,ep,k1 _ o (Ne.symm (cl _ (by simp))) (Ne.symm (cl _ (by simp))) ho,r⟩
  ·by_cases zb:b=s.heap.objs.size+1
   ·subst zb;rw[az] at e;cases e;refine⟨?_,os,c,ro,k2⟩;have:=ro.length;have e2:=congrArg Array.size eo;rw[this];have e2:_=os.length:=e2.trans Zj;rw[<-e2,Ut];split
    ·rw[Zj];omega
    ·rw[Zj,Za,Zr];have pm:Pm B.length (bN lt B.length):=qe (lv ▸ h64) (by omega);have:(bN lt B.length).size=B.length:=(Array.Perm.size_eq pm).trans (by simp);omega
   ·rw[ac zb] at e;refine(U.hok b u e).stay (λb' v hb' q=>k1 b' v ?_ ?_ q) (λb' q=>by rw[ac (nn q).1];exact q) λb' xs q=>by rw[ac (nn q).1];exact q
    ·rcases hb' with y |y
     ·rw[y];exact(nn e).1
     ·exact(nn y).1
    ·rcases hb' with y |y
     ·rw[y];exact(nn e).2
     ·exact(nn y).2
end
section
open PySem.SeqAt
variable {prog:Program} {w:World} {A:Around} {E:Value->Shared->Prop} {s:Shared}
def xr{a b:Int}{n k:Nat}(d:A.units < cLine)(J:s.heap.get? x=aw L)(U:L.data = .seq #[.int a Q,.ref p] n)(u:s.heap.get? y=aw O)(B:O.data = .seq #[.int b z,.ref q] k)
  (l:IsTup s.heap p xs) (T:IsTup s.heap q Y) (I:IntsAre xs.toList ns) (j:IntsAre Y.toList v) (h:C (bA (a,ns) (b,v)) s):wpAny (model prog w) A (keyLt' (tuples' aN) (.ref x) (.ref y)) C E s:=by
 refine PySem.W.kat_lt J U u B ?_;show PySem.W.KatLex prog w A aN _ C [(.int a Q,.int b z),(.ref p,.ref q)] 0 s;unfold bA at h;refine wpAny_eqBool_int ?_;cases f:a == b with
 |true=>
  rw[if_pos rfl];rw[if_pos (by simpa using f)] at h;obtain⟨e,X,c⟩:=ju (A:=A) (s:=s) d l T I j;refine X prog w _ _ ?_;cases e with
  |true=>
   have:=c.mp rfl;subst this;rw[ma] at h;exact h
  |false=>
   rw[if_neg Zf];exact PySem.W.kat_one _ _ (HT.k9 l T I j d h)
 |false=>
  rw[if_neg Zf];rw[if_neg (by simpa using f)] at h;exact oneLt_int h
end
end Ev
namespace Ev
open PySem PySem.Spec PyProof.Rows L2
open PySem.W (kas_sort kas_ask KatTups)
abbrev FA(h:Heap)(v:Value)(w:Int × List Int):Prop:=∃r o t p n X,v = .ref r/\h.get? r=aw o/\o.cls = .type "tuple"/\o.data = .seq #[.int w.1 t,.ref p] n/\IsTup h p X/\IntsAre X.toList w.2
def ql:∀ {its:List Value} {ws:List (Int × List Int)},(∀i,i < its.length->FA h (its.getD i Value.none) (ws.getD i (0,[])))->∃fs:List Value,KatTups h its fs/\fs.length=its.length/\∀v ∈ fs,∃i t,v = .int i t
 |[],_,_=>⟨[],KatTups.nil,rfl,λv d=>by simp at d⟩
 |v::its,ws,hp=>by
  obtain⟨r,o,t,p,n,X,j,e,c,hd,_⟩:=hp 0 (by simp)
  obtain⟨fs,k,f,hi⟩:=ql (its:=its) (ws:=ws.tail) λi hi=>by
   have:=hp (i+1) (by simpa using hi);cases ws with
   |nil=>simpa using this
   |cons _ _=>simpa using this
  have b:v = .ref r:=by simpa using j
  subst b
  exact⟨.int (ws.getD 0 (0,[])).1 t::fs,KatTups.cons e c hd rfl k,by simp[f],λw hw=>by
   rcases Zn.mp hw with rfl |hw
   ·exact⟨_,_,rfl⟩
   ·exact hi w hw⟩
inductive LotsV(H:Hp):List V->List (List Int)->Prop where
 |nil:LotsV H [] []
 |cons {r:Addr} {ns:List Int} {vs:List V} {ls:List (List Int)}:H r=aw (.tup (ns.map V.int))->LotsV H vs ls->LotsV H (.ref r::vs) (ns::ls)
def LotsV.at(h:LotsV H v l):v.length=l.length/\∀ (i:Nat) x,v[i]?=aw x->∃r ns,x = .ref r/\l[i]?=aw ns/\H r=aw (.tup (ns.map V.int)):=by
 induction h with
 |nil=>exact⟨rfl,λi x e=>by cases e⟩
 |cons b _ I=>
  refine⟨by simp[I.1],λi x e=>?_⟩;cases i with
  |zero=>cases e;exact⟨_,_,rfl,rfl,b⟩
  |succ i=>exact I.2 i x e
abbrev K9(H:Hp):V->Int
 | .ref r=>(match H r with
  |some (.tup xs)=>xs.length
  | _=>0)
 |_=>0
abbrev zr(H:Hp)(x:V):List V:=[.int (K9 H x),x]
abbrev bG(l:List (List Int))(i:Nat):Int × List Int:=((l.getD i []).length,l.getD i [])
section
variable {X:Cx} {pins:List (Addr × Obj)} {σ:L2.St} {H:Hp} {s:Shared} {l q:Addr} {vs:List V} {ls:List (List Int)} {Q:Value->Shared->Prop}
def mf(I:L2.Inv X pins σ j U)(v:LotsV H vs ls)(B:∀b o,H b=aw o->j b=aw o)(ky:Fz j (zr H) vs ks)(hk:ks.length=vs.length)(i:Nat)(hi:i < vs.length):FA U.heap (ks.getD i Value.none) (bG ls i):=by
 obtain⟨p,ns,ex,f,k⟩:=v.at.2 i _ (gEG hi);obtain⟨r,O,c⟩:=ky.2 i _ (by omega) (gEG hi);rw[Zm,O];unfold bG;rw[Zm,f];rw[ex] at c
 have f:K9 H (.ref p)=ns.length:=by
  show(match H p with |some (.tup d)=>(d.length:Int) |_=>0)=_;rw[k];simp
 unfold zr at c;rw[f] at c;obtain⟨_,Z,z,o,J,u,nn,C,h4⟩:=I.hok r _ c;obtain⟨x,y,rfl,r1,r2⟩:=nV z;obtain⟨T,rfl⟩:=r1;cases r2;obtain⟨d,Y,L,_⟩:=I.tuple (.of (B _ _ k));exact⟨r,o,T,p,nn,d.toArray,rfl,J,u,C,L,by simpa using bf Y⟩
def zt(I:L2.Inv X pins σ H s)(hu:X.A.in1.in1.units < cLine)(hl:SqL X.K H l vs)(U:LotsV H vs ls)(O:eI (λi j=>bA (bG ls i) (bG ls j)) vs.length)
  (k:∀ (f:Shared) (d:Hp) (x:V) (u:Value),Env0 X.prog X.w X.K X.mg X.base X.A.in1.in1 X.stack f d->(∀b o,H b=aw o->d b=aw o)->x ∈ vs->aB x u->codeAny (model X.prog X.w) X.A.in1.in1 (.call (.ref q) ⟨[u],[]⟩) (CR CX0 X.stack X.prog X.w d f (λv y=>(∃r,v = .ref r/\y r=aw (.tup (zr H x)))/\∀b o,d b=aw o->y b=aw o) E0) f)
  (h:∀a d f,L2.Inv X pins σ d f->d a=aw (.lst (if vs.length < 2 then vs else (bN (λi j=>bA (bG ls i) (bG ls j)) vs.length).toList.map λi=>vs.getD i .non))->H a=aD->(∀b o,H b=aw o->d b=aw o)->Q (.ref a) f) :
  wpAny (model X.prog X.w) X.A (call (.builtin "sorted") [.ref l] [(Str.ofString "key", .ref q)]) Q X.xe s:=by
 refine zq I hl (tuples' aN) (λi j=>bA (bG ls i) (bG ls j)) O (zr H) k (λf d ks z L J B h2 A E Q qq=>?_) (λf d ks z L J B i j hi hj C c=>?_) h
 ·have ws:∀i,i < ks.length->FA f.heap (ks.getD i Value.none) (((Ze vs.length).map (bG ls)).getD i (0,[])):=λi hi=>by
   have:=mf z U B L J i (by omega);have e:((Ze vs.length).map (bG ls)).getD i (0,[])=bG ls i:=by rw[Zm,Zl,Ye (by omega)];rfl
   rw[e];exact this
  obtain⟨fs,kt,fl,fi⟩:=ql ws
  exact Vw (T:=.type "int") kt (by omega) (λv hv=>by
   obtain⟨i,t,rfl⟩:=fi v hv;exact PySem.W.Looks.of_pure rfl) (by decide) qq
 ·obtain⟨r,o,t,p,n,xs,e1,e2,e3,e4,Y,e6⟩:=mf z U B L J i hi;obtain⟨r',o',t',p',n',xs',d1,Z,d3,d4,d5,d6⟩:=mf z U B L J j hj;unfold kas_ask;rw[e1,d1];exact xr hu e2 e4 Z d4 Y d5 e6 d6 c
end
end Ev
namespace L2
open PySem PySem.Spec PyProof.Rows
abbrev Itd(hi:Int)(n:Nat):It:=⟨λi _=>i < n,λi H x b=>b=H/\x = .int (hi - i),λi _=>n<=i⟩
def zu{P:Program}{w:World}{K:Vp}{tg:Expr}(it:Addr)(lo:Int)(n:Nat):Turn P w K tg (Itd lo n) [it] it (λi h=>Vh h it (lo+(i:Nat) * (-1)) ((n:Int) - (i:Nat)) (-1)) where
 mem:=by simp
 obj:=λi h st b hb=>by
  have e:b=it:=by simpa using hb
  subst e
  exact⟨_,st,λv z=>by
   have z':Data.fields _=Data.cell v:=z;cases z'⟩
 keep:=λi h f st k=>k it (by simp) _ st
 item:=by
  intro X Q O q y i c s U H E I j st C;subst Q O q;obtain⟨B,L,Z,J,l,u⟩:=j it (by simp);have W:=Walks.range (prog:=X.prog) (w:=X.w) (I.ok.hd y) it lo (-1) n;refine W.item i s _ _ C st λv f T hv d Y=>?_;obtain⟨t,rfl⟩:=hv;have I1:Inv X c U H { s with heap:=f,toks:=T }:=I.turned (λb o hb e=>Y b o (by simpa using hb) e) B L J l u;refine⟨_,rfl,wQ (s:={ s with heap:=f,toks:=T }) (n := "range_iterator") d rfl rfl (by decide) ⟨.int (lo - i),H,I1,⟨t,?_⟩,⟨rfl,rfl⟩,d,λb hb=>(j b hb).1⟩⟩
  congr 1
  omega
 done:=by
  intro X Q O q y i c s U H E I j st C;subst Q O q;obtain⟨B,L,Z,J,l,u⟩:=j it (by simp);exact UW (I.ok.hd y) st (by have:n<=i:=C;omega) λf eb=>⟨rfl,I.turned (t':=s.toks) (λb o hb e=>eb b o hb e) B L J l u⟩
 self:=λ_ _ _ _ _ st h=>UU st h
section
variable {X:Cx} {tg:Expr}
def vG{a:Int}(c:-(2 ^ 62)<=a)(b:a < 2 ^ 62):Builtin.Range.small a (-1) (-1)=aN:=by
 unfold Builtin.Range.small;rw[VH];simp only[Builtin.Range.rangeFitsLong,bAE,Y0,decide_eq_true_eq,beq_iff_eq,show ¬ (-1:Int) > 0 by decide,if_false];split <;> omega
def FB{c:List (Addr × Obj)}{f:St}{H:Hp}{s:Shared}{R:It->Hp->Prop}{E:Value->Shared->Prop}{lo:Int}{t u v:Tok}{T:Nat}(I:Inv X c f H s)(y:-(2 ^ 62)<=lo)(j:lo < 2 ^ 62)
  (q:R (Itd lo (lo+1).toNat) H):wpAny (model X.prog X.w) X.A (pyIter (.ref s.heap.objs.size)) (PIE X c f tg R) E { s with heap:=s.heap.push { cls:=.type "range", data:=.fields #[.int lo t,.int (-1) u,.int (-1) v] },toks:=T }:=by
 refine wpAny_pyIter_range (IsRange.new ..) (vG y j) ?_;have d:Inv X c f H { s with heap:=s.heap.push { cls:=.type "range", data:=.fields #[.int lo t,.int (-1) u,.int (-1) v] },toks:=T }:=I.kept λb o e=>Zc _ e
 refine⟨(s.heap.push { cls:=.type "range", data:=.fields #[.int lo t,.int (-1) u,.int (-1) v] }).objs.size,[(s.heap.push { cls:=.type "range", data:=.fields #[.int lo t,.int (-1) u,.int (-1) v] }).objs.size],_,_,H,rfl,
  d.kept (t':=T) λb o e=>Zc _ e,zu _ lo (lo+1).toNat,?_,λb hb=>?_,q⟩
 ·have l:lo+((0:Nat):Int) * (-1)=lo:=by simp
  have k:(((lo+1).toNat:Nat):Int) - ((0:Nat):Int)=Builtin.Range.rangeSize lo (-1) (-1):=by rw[VH];split <;> omega
  show Vh _ _ (lo+((0:Nat):Int) * (-1)) ((((lo+1).toNat:Nat):Int) - ((0:Nat):Int)) (-1);rw[l,k];exact Zs _ rfl
 ·have e:b=(s.heap.push { cls:=.type "range", data:=.fields #[.int lo t,.int (-1) u,.int (-1) v] }).objs.size:=by simpa using hb
  subst e;exact d.fpOk (Zi _) (d.hok.fresh (Zi _))
abbrev iDn(T:TA):TI:=λc H R=>T c H λv b=>∃i:Int,v=[.int i,.int (-1),.int (-1)]/\(-(2 ^ 62)<=i/\i < 2 ^ 62)/\R (Itd i (i+1).toNat) b
def Py{a b c:Expr}{T:TA}{p d:Pos}(J:Gl X "range")(u:X.mg "range" = aD)(C:PA X [a,b,c] T)(hs:Uv [a,b,c] X.env=(aS,eval a X.env)::Uv [b,c] X.env)(l:(backTo d (Uv [b,c] X.env)).any (·.1)=aS) :
  PI X tg (.Call (.Name "range" p) [a,b,c] [] d) (iDn T):=by
 intro f s v H R I h;refine Call_ (eU I J u boot_range (WO (thn (C d f s v H _ I h) λY Z ⟨U,O,z,r1,Q⟩=>?_) hs l));obtain⟨i,e,⟨Q,L⟩,q⟩:=Q;subst e;cases r1 with
 |cons r j=>
  cases j with
  |cons y j=>
   cases j with
   |cons k j=>
    cases j;obtain⟨t,rfl⟩:=r;obtain⟨t',rfl⟩:=y;obtain⟨B,rfl⟩:=k;exact call_range_3 (by decide) (FB z Q L q) (.inl (PyProof.noPylong_of_log2 (by decide +kernel)))
end
end L2
namespace Ev
open PySem PySem.Spec PyProof.Rows L2
abbrev nxD(hi:Int)(n:Nat):Nxt:=λi _=>aw (if i < n then aw (.int (hi - i)) else aD)
section
variable {K:Vp} {m m0:List Addr} {H H0:Hp} {S:Sto} {B:List Addr}
def La{lo:Int}{n:Nat}:IOk K B (Itd lo n) (nxD lo n) m0 H0:=by
 intro m S H i x R;unfold nxD;refine⟨λe=>?_,λd e=>?_⟩
 ·split at e
  ·cases e
  ·show n<=i;lia
 ·split at e
  ·rename_i hi;cases e;exact⟨hi,λy f ⟨c,b⟩=>by subst c;subst b;exact⟨Aft.refl R,bn⟩⟩
  ·cases e
abbrev xDn(x:XE):XI:=λb S=>bnd (x b S) λd c=>match d with
 |.int j=>if lim j=aN then aw (nxD j (j+1).toNat,c) else aD
 |_=>aD
def Pz(h:tIt K B (xDn x) y H R):iDn (cg (tE K x) (cg (tC (.int (-1))) (cg (tC (.int (-1))) jl))) y H R:=by
 obtain⟨m,c,S,nx,C,E,k,z,e,q⟩:=h;obtain⟨d,l,j,e⟩:=ab e;refine⟨m,c,S,d,l,E,k,j,λm1 u v f vd=>?_⟩;cases d with
 |int i=>
  dsimp only at e;split at e
  ·rename_i b;cases e;exact⟨i,by rw[vd.ints],⟨(fQ b).1,(fQ b).2⟩,q m1 u _ f La⟩
  ·cases e
 |_=>cases e
end
end Ev
namespace Ev
open PySem PySem.Spec PyProof.Rows L2
open PySem.W (kas_sort KatTups)
section
variable {X:Cx} {K:Vp} {m:List Addr} {H:Hp} {S:Sto}
abbrev vH(d:D)(b:List D)(S:Sto):Option (D × Sto):=match d,b with
 | .tup ds,[.int x]=>(match bR ds with
  |some ns=>if x ∈ ns then aw (.int (ns.idxOf x:Nat),S) else aD
  | none=>aD)
 |_,_=>aD
def FC:MtR X "tuple.index" (rM X.K vH):=by
 intro B s σ H x xs v us Q I rx rs h;obtain⟨m,S,a,as,d,S',R,va,vs,e,q⟩:=h;unfold vH at e;split at e
 ·rename_i Z z;cases hi:bR Z with
  |none=>rw[hi] at e;cases e
  |some ns=>
   rw[hi] at e;dsimp only at e;split at e
   ·rename_i hm;cases e;obtain⟨p,ws,rfl,Y,k⟩:=va.tups;obtain⟨y,rfl,vy⟩:=Fd vs;have ed:=cq hi;subst ed;have O:=bF k;subst O;cases vy.ints;cases rx;obtain⟨u,rfl,T⟩:=bQ rs;obtain⟨b,r,⟨⟨cls,U,L,sl⟩,e,J,n,hd⟩,hz⟩:=I.tuple (SqT.of (K:=X.K) Y);simp only at J hd;subst J hd;have C:b.length=ns.length:=by rw[<-r.length];simp
    have f:ns.idxOf z < ns.length:=YY.mpr hm
    have at_:∀ (j:Nat) (l:j < b.toArray.size) (c:j < ns.length),eqU (.int z) b.toArray[j]=(ns[j] == z):=λj l c=>by
     obtain⟨u,eu,t,rt⟩:=r.get (i:=j) (x:=.int ns[j]) (by rw[Zl,gEG c];rfl)
     have:b.toArray[j]=u:=by
      have:=Zb.mp eu
      simpa using this.2
     rw[this,rt];rfl
    refine VV Vc ⟨_,e,rfl⟩ F.entry_tuple_index (F.args_tuple_index_2 _ _) (nI p b.toArray n U sl u (eqU (.int z)) (ns.idxOf z) (by simpa[C] using f) ?_ λj l c=>?_) ⟨e,λw hw=>dg T rfl r (by simp[dD]) w (by simpa using hw),?_⟩
    ·rw[at_ _ (by simpa[C] using f) f,X5 f];simp
    ·rw[at_ _ l (WD c f)];have:=List.not_of_lt_findIdx (p:=(· == z)) (xs:=ns) c
     simpa using this
    ·exact⟨.int _,H,I.tok _,⟨_,rfl⟩,q m H _ (Aft.refl R) bn⟩
   ·cases e
 ·cases e
def sP(hc:X.calm=aN):aR X (.type "tuple") (λxs H Q=>∃ (p:Addr) (n:Nat),xs=[.ref p]/\H p=aw (.rng 0 n)/\n<=1000/\∀l,H l=aD->Q (.ref l) (upd H l (.tup ((Ze n).map λ(i:Nat)=>V.int i)))):=by
 intro O s σ H xs us Q I r h;obtain⟨p,n,rfl,Z,hn,q⟩:=h;obtain⟨u,rfl,Y⟩:=bQ r;cases Y;obtain⟨t,u,v,e⟩:=(show a9 X.prog X.w H s.heap p (.rng 0 n) from I.hok p _ Z);have L:Builtin.Range.small 0 n 1=aN:=small_one (by lia) (by lia) (by lia) (by lia);refine sO (n:=n) (I.ok.hd hc) e L (by rw[Ul];split <;> lia) (by lia) λC T d f hk c=>?_;refine⟨.ref C.objs.size,_,I.laid (t':=T) (a:=C.objs.size) (o:=.tup ((Ze n).map λ(i:Nat)=>V.int i)) (λb o e=>Zc _ (hk b o e)) f ?_,rfl,q _ (I.hok.fresh f)⟩;refine⟨by rw[Za,ZB,Ut];lia,d.toList,?_,by simpa using pK.new C d⟩
 have go:∀ (m:Nat) (k:Nat) (l:List Value),l.length=m->(∀j x,l[j]?=aw x->∃T,x=Value.int (((k+j:Nat):Nat):Int) T)->aP ((List.range' k m).map λ(i:Nat)=>V.int i) l:=by
  intro m
  induction m with
  |zero=>intro k l z _;cases l with |nil=>exact .nil |cons _ _=>cases z
  |succ m ih=>
   intro k l z B;cases l with
   |nil=>cases z
   |cons x l=>
    rw[List.range'_succ,Zy];obtain⟨t,e⟩:=B 0 x rfl;refine .cons ⟨t,by simpa using e⟩ (ih (k+1) l (by simpa using z) λj y U=>?_);obtain⟨t',e'⟩:=B (j+1) y (by simpa using U);exact⟨t',by rw[e',show((k+(j+1):Nat):Int)=((k+1+j:Nat):Int) from by lia]⟩
 rw[List.range_eq_range'];refine go n 0 d.toList (by simpa using c.1) λj x B=>?_;obtain⟨J,e⟩:=c.2 j x (by simpa using B);exact⟨J,by rw[e,show(0:Int)+(j:Nat) * 1=((0+j:Nat):Int) from by lia]⟩
abbrev BW(x:XE):XE:=λb S=>bnd (x b S) λd c=>match d with
 |.int i=>if 0<=i/\i<=1000 then aw (.tup ((Ze i.toNat).map λj=>.int (Int.ofNat j)),c) else aD
 |_=>aD
def FD(f:List Nat):VDs K m H (f.map λj=>D.int (Int.ofNat j)) (f.map λ(j:Nat)=>V.int j):=by
 induction f with
 |nil=>rw[Z4,Z4,VDs]
 |cons i l I=>rw[Zy,Zy,VDs];exact⟨_,_,rfl,bn,I⟩
def FE(h:tE K (BW x) I H Q):tE K x I H λv b=>∃i:Nat,v = .int i/\i<=1000/\∀p,b p=aD->∀l,upd b p (.rng 0 i) l=aD->Q (.ref l) (upd (upd b p (.rng 0 i)) l (.tup ((Ze i).map λ(j:Nat)=>V.int j))):=by
 obtain⟨m,z,S,L,k,E,R,e,q⟩:=h;obtain⟨d,J,C,e⟩:=ab e;cases d with
 |int i=>
  dsimp only at e;split at e
  ·rename_i hi;cases e;refine⟨m,z,S,.int i,_,E,R,C,λm1 b v f vd=>⟨i.toNat,by rw[vd.ints];congr 1;lia,by lia,λp y l u=>?_⟩⟩;have c:Aft K m1 b k m1 (upd b p (.rng 0 i.toNat)):=⟨Ext.beside f.rel y _,f.rel.beside y _⟩;have B:Aft K m1 (upd b p (.rng 0 i.toNat)) k m1 (upd (upd b p (.rng 0 i.toNat)) l (.tup ((Ze i.toNat).map λ(j:Nat)=>V.int j))):=⟨Ext.beside c.rel u _,c.rel.beside u _⟩;exact q m1 _ _ (f.trans (c.trans B)) (lK az (FD _))
  ·cases e
 |_=>cases e
end
section
variable {X:Cx} {K:Vp} {m:List Addr} {H:Hp} {S:Sto}
abbrev gW{α:Type}(b:List (Int × List Int))(d:α)(v:List α):List α:=if v.length < 2 then v else (bN (cO b) v.length).toList.map λi=>v.getD i d
abbrev Lb(d:List D):Option (List D):=match gR d with
 |some b=>if eI (cO b) d.length then aw (gW b .non d) else aD
 |none=>aD
abbrev IX(H:Hp)(b:List V)(c:List (Int × List Int)):Prop:=b.length=c.length/\∀ (i:Nat) v,b[i]?=aw v->∃w r p,c[i]?=aw w/\v = .ref r/\H r=aw (.tup [.int w.1,.ref p])/\H p=aw (.tup (w.2.map V.int))
def vI(hu:X.A.units+64 < cLine):aR X (.builtin "sorted") (λxs H Q=>∃a k d,xs=[.ref a]/\SqL X.K H a k/\IX H k d/\eI (cO d) k.length/\∀p,H p=aD->Q (.ref p) (upd H p (.lst (gW d .non k)))):=by
 intro pins s σ H xs us Q I r h;obtain⟨a,k,d,rfl,sq,⟨wl,wv⟩,l,q⟩:=h;obtain⟨u,rfl,ru⟩:=bQ r;cases ru;obtain⟨c,J,pl,hz⟩:=I.list sq;have f:=J.length
 have ph:∀i,i < c.length->FA s.heap (c.getD i Value.none) (d.getD i (0,[])):=λi hi=>by
  have y:i < k.length:=by lia
  obtain⟨w,r,p,O,e2,U,Z⟩:=wv i _ (gEG y);have L:=xi J y;rw[Zm,gEG y,ZT,e2] at L;have L:c.getD i Value.none = .ref r:=L;rw[L,Zm,O];obtain⟨it2,r2,⟨o,eo,hc,n,hd⟩,_⟩:=I.tuple (SqT.of (K:=X.K) U);obtain⟨u1,u2,rfl,⟨B,rfl⟩,ru2⟩:=nV r2;cases ru2;obtain⟨it3,r3,tp,_⟩:=I.tuple (SqT.of (K:=X.K) Z);exact⟨r,o,B,p,n,_,rfl,eo,hc,hd,tp,by simpa using uK r3⟩
 refine zf pl.isList (tuples' aN) (cO d) (f ▸ l) (λh2 A s' kp E Q' hq=>?_) (λA s' eA kp i j hi hj C hC=>?_) ?_
 ·obtain⟨fs,kt,hf,hi⟩:=ql (h:=s'.heap) (ws:=d) λi hi=>by
   obtain⟨r,o,B,p,n,xs,O,e2,U,Z,⟨o5,e5,e6⟩,e7⟩:=ph i hi;exact⟨r,o,B,p,n,xs,O,kp _ _ e2,U,Z,⟨o5,kp _ _ e5,e6⟩,e7⟩
  refine Vw (T:=.type "int") kt (by lia) (λv Y=>?_) (by decide) hq;obtain⟨i,t,rfl⟩:=hi v Y;exact PySem.W.Looks.of_pure rfl
 ·obtain⟨r1,o1,B,p1,n1,x1,a1,a2,a3,a4,⟨o5,a5,a6⟩,a7⟩:=ph i hi;obtain⟨r2,o2,t3,p2,n2,x2,b1,b2,b3,b4,⟨o6,b5,b6⟩,b7⟩:=ph j hj;show wpAny _ A (keyLt' (tuples' aN) (c.getD i Value.none) (c.getD j Value.none)) C _ s';rw[a1,b1];exact xr (by rw[eA];show X.A.units+1+1 < cLine;lia) (kp _ _ a2) a4 (kp _ _ b2) b4 ⟨o5,kp _ _ a5,a6⟩ ⟨o6,kp _ _ b5,b6⟩ a7 b7 hC
 ·have Y:aP (gW d .non k) (if c.length < 2 then c else (bN (cO d) c.length).toList.map λi=>c.getD i Value.none):=by
   unfold gW;rw[f];split
   ·exact J
   ·exact ou J _ λi hi=>by rw[f];exact(jw (f ▸ l) (by lia)).1 i hi
  have sl:(gW d V.non k).length=k.length:=by
   unfold gW;split
   ·rfl
   ·rw[Za,(jw l (by lia)).2]
  have eo:(if c.length < 2 then c.toArray else Yr ((bN (cO d) c.length).toList.map λi=>c.getD i Value.none))=(if c.length < 2 then c else (bN (cO d) c.length).toList.map λi=>c.getD i Value.none).toArray:=by split <;> rfl
  rw[eo];obtain⟨e,he⟩:=sortedAll_at s.heap c (if c.length < 2 then c else (bN (cO d) c.length).toList.map λi=>c.getD i Value.none).toArray;exact⟨.ref (s.heap.objs.size+1),_,I.laid (t':=s.toks) (a:=s.heap.objs.size+1) (o:=.lst (gW d .non k)) (λb o z=>sortedAll_old z) (Ys _) ⟨by rw[sl];exact hz,_,e,Y,he⟩,rfl,q _ (I.hok.fresh (Ys _))⟩
abbrev BX(T:Bool)(d:List D):Option (List D):=if T=aS then (match sE T d with
 |some r=>aw r
 | none=>Lb d) else Fg d
def PB{d:List D}{c:List V}{ws:List (Int × List Int)}(e:gR d=aw ws)(h:VDs K m H d c):IX H c ws:=by
 obtain⟨l,f⟩:=qk e;refine⟨by rw[l,h.length],λi v j=>?_⟩;have hi:i < d.length:=by have:=(Zb.mp j).1;rw[h.length];exact this
 obtain⟨O,k,b⟩:=h.get (gEG hi);rw[j] at k;cases k;obtain⟨w,q,I⟩:=f i _ (gEG hi);rw[I] at b;obtain⟨r,Q,rfl,u,J⟩:=b.tups;obtain⟨x,y,rfl,B,L⟩:=Bo J;cases B.ints;obtain⟨p,Y,rfl,z,C⟩:=L.tups;have:=bF C;subst this;exact⟨w,r,p,q,rfl,u,z⟩
def oC(u:X.A.units+64 < cLine):aR X (.builtin "sorted") (r1 (rTm X.K BX)):=by
 refine aR.imp (aR.or vB (aR.or zg (vI u))) λC H Q h=>?_;obtain⟨_,rfl,m,S,T,j,a,v,z,R,rfl,c,vd,e,q⟩:=cH h;unfold BX at e;split at e
 ·rename_i b;subst b;cases d:sE aS j with
  |some r=>
   rw[d] at e;cases e;exact .inr (.inl ⟨m,S,aS,j,a,v,z,R,rfl,c,vd,d,q⟩)
  |none=>
   rw[d] at e;dsimp only at e;unfold Lb at e;split at e
   ·rename_i k l;split at e
    ·rename_i f;cases e;refine .inr (.inr ⟨a,v,k,rfl,c,PB l vd,by rw[<-vd.length];exact f,iP R ?_ q⟩);unfold gW;rw[<-vd.length];split
     ·exact vd
     ·exact qg vd _ λi hi=>(jw (by assumption) (by lia)).1 i hi
    ·cases e
   ·cases e
 ·rename_i b;have b:T=aN:=by cases T <;> simp_all
  subst b;unfold Fg at e;cases hi:bR j with
  |none=>rw[hi] at e;cases e
  |some ns=>
   rw[hi] at e;dsimp only at e;split at e
   ·rename_i f;cases e;have y:=cq hi;subst y;have B:=bF vd;subst B;exact .inl ⟨a,ns,rfl,.of c,f,iP R (jt _) q⟩
   ·cases e
end
end Ev
namespace Ev
open PySem PySem.Spec PyProof.Rows L2
open PySem.W (CodeHd kla_obj kla_fn)
abbrev RV(T:Addr)(f:Pos)(c:Str)(ob:Addr->Value->Obj):TE:=λ_ H Q=>∃ps,TabOk T f c H ps/\∀k q j C d,TabOk T f c d j->d k=aw (cdO k c)->d q=aw (fnO q (ob k C))->H q=aD->(∀b o,b ≠ T->H b=aw o->d b=aw o)->Q (.ref q) d
def Lc(d:X.env.code = .ref c)(C:CodeHd X.base c T)(hb:X.base.BuiltinsAt X.mg T)(u:Ud ≠ T)(l:VX scope X.env=pure [])(f:V3 params X.env=([],[])) :
  PE X (.Lambda params body scope pos) (RV T pos (X.env.qual ++ "<lambda>") λj b=>kla_obj "<lambda>" (X.env.qual ++ "<lambda>") params body scope [] ((X.mg "__name__").getD .none) j b):=by
 intro z s σ H Q I h;obtain⟨ps,v,h⟩:=h;refine K8 I v.at_ v.tr d (C.keeps I.bk) (I.mod.glob.keeps I.bk) (hb.keeps I.bk) u l f v.cd λj q k b y s' L Z Y J B U O new nq=>?_;refine⟨.ref q,y,L,rfl,h j q k b y ⟨Z,Y,λcv e=>?_⟩ B U (I.hok.fresh nq) O⟩;rw[J] at e;cases e;exact⟨j,rfl,B⟩
end Ev
namespace Ev
open PySem PySem.Spec PyProof.Rows L2
open PySem.W (CodeHd kla_obj kla_fn kas_sort)
abbrev Lg(v:List V)(l:List (List Int)):List V:=if v.length < 2 then v else (bN (λi j=>bA (bG l i) (bG l j)) v.length).toList.map λi=>v.getD i .non
abbrev IY(K:Vp)(T:Addr)(d:Pos)(q:Str)(t:TA):TE:=λu H Q=>t u H λU c=>∃a v l ps,U=[.ref a]/\SqL K c a v/\LotsV c v l/\eI (λi j=>bA (bG l i) (bG l j)) v.length/\a ≠ T/\TabOk T d q c ps/\∀r f k,TabOk T d q f k->f r=aw (.lst (Lg v l))->c r=aD->(∀b o,b ≠ T->c b=aw o->f b=aw o)->Q (.ref r) f
abbrev sQ(x:Str)(p1 d c f b:Pos)(C:Nat):Expr:=.Tuple [.Call (.Name "len" p1) [.Name x d] [] c,.Name x f] C b
def FF{P:Program}{w:World}{K:Vp}{mg:Str->Option Value}{base:Heap}{k Z:Nat}{q C r:Addr}{x name Q:Str}{d:WR}{c:Scope}{pm j:Value}{A:Around}{outer:List Env}{s:Shared}{H:Hp}{ns:List Int}{p1 U Y I X:Pos}
  (S:FnScope [x] [x] c) (f:c.names.lookup x=aw .local) (O:c.names.lookup ("len" : Str)=aw NameKind.globalImplicit) (T:mg "len" = aD) (y:(x == ("__debug__" : Str))=aS) (u:(x == ("__classdict__" : Str))=aS) (hr:Room (k+1) A) (J:Env0 P w K mg base A outer s H)
  (hq:H q=aw (fnO q (kla_obj name Q d (sQ x p1 U Y I X Z) c [] pm C j))) (L:H C=aw (cdO C Q)) (hb:VP (kla_fn name Q d (sQ x p1 U Y I X Z) c [] pm (.ref C) j) ⟨[.ref r],[]⟩=pure [(x,.ref r)]) (B:H r=aw (.tup (ns.map V.int))) :
  codeAny (model P w) A (.call (.ref q) ⟨[.ref r],[]⟩) (CR CX0 outer P w H s (λv l=>(∃t,v = .ref t/\l t=aw (.tup [.int ns.length,.ref r]))/\∀b o,H b=aw o->l b=aw o) E0) s:=by
 have v0:PE (iH CX0 P w K mg base [x] Q c q (.ref C) A outer s H E0) (.Name x U) (yB 0):=uz (i:=0) rfl (.inl f) y u;have v1:PE (iH CX0 P w K mg base [x] Q c q (.ref C) A outer s H E0) (.Name x I) (yB 0):=uz (i:=0) rfl (.inl f) y u;refine Fy (t:=Ka (cg (tCB _ (cg (yB 0) jl)) (cg (yB 0) jl))) S hr J (J.hok q _ hq).1 (J.hok C _ L).1 hb rfl (.cons (show L2.aB (.ref r) (.ref r) from rfl) .nil) (AF (kC (fI iK O T VS (kC v0 pM)) (kC v1 pM))) ?_;refine⟨.ref r,rfl,r,_,rfl,.inr (.of B),.ref r,rfl,by rw[Ut];show 2<=16777216;decide,λp hp=>⟨⟨p,rfl,?_⟩,λb o e=>?_⟩⟩
 ·rw[az,Za]
 ·rw[ac (λz=>by rw[z,hp] at e;cases e)];exact e
def LotsV.mono(h:LotsV H v ls)(m:∀b xs,H b=aw (.tup xs)->c b=aw (.tup xs)):LotsV c v ls:=by
 induction h with
 |nil=>exact .nil
 |cons d _ I=>exact .cons (m _ _ d) I
def FG{k cx:Nat}(hr:Room (k+3) X.A)(hg:Gl X "sorted")(hm:X.mg "sorted" = aD)(hdb:(("sorted" : Str) == ("__debug__" : Str))=aS)
  (S:FnScope [x] [x] scope) (Z:scope.names.lookup x=aw .local) (hgl:scope.names.lookup ("len" : Str)=aw NameKind.globalImplicit) (hml:X.mg "len" = aD) (hd1:(x == ("__debug__" : Str))=aS) (hd2:(x == ("__classdict__" : Str))=aS)
  (O:∀pm v d u,VP (kla_fn "<lambda>" (X.env.qual ++ "<lambda>") params (sQ x p1 p2 p3 p4 p5 cx) scope [] pm (.ref v) d) ⟨[u],[]⟩=pure [(x,u)])
  (L:X.env.code = .ref c) (C:CodeHd X.base c T) (hb:X.base.BuiltinsAt X.mg T) (hgT:Ud ≠ T) (hcl:VX scope X.env=pure []) (hdef:V3 params X.env=([],[]))
  (ha:PA X [e] t) (he:Uv [e] X.env=(aS,eval e X.env)::Uv [] X.env) :
  PE X (.Call (.Name "sorted" p) [e] [⟨aw "key", .Lambda params (sQ x p1 p2 p3 p4 p5 cx) scope lp,kp⟩] pos) (IY X.K T lp (X.env.qual ++ "<lambda>") t):=by
 intro B s σ H Q I h;refine UB (eU I hg hm WM ?_ (by decide) hdb);refine callWith_kw (thn (ha pos B s σ H _ I h) λus s1 ⟨vs,H1,I1,r,q1⟩=>?_) (by rw[he];rfl) (by rw[he];rfl) rfl rfl;obtain⟨a,vs',ls,ps,rfl,sq,hL,h64,aT,tb,q⟩:=q1
 refine thn (wU (nm:=aw "key") (kpos:=kp) (Lc (X:=X) (pos:=lp) (params:=params) (body:=sQ x p1 p2 p3 p4 p5 cx) (scope:=scope) L C hb hgT hcl hdef) AG pos B s1 σ H1 (λzs l=>∃v U f d,zs=[.ref U]/\TabOk T lp (X.env.qual ++ "<lambda>") l f/\l v=aw (cdO v (X.env.qual ++ "<lambda>"))/\l U=aw (fnO U (kla_obj "<lambda>" (X.env.qual ++ "<lambda>") params (sQ x p1 p2 p3 p4 p5 cx) scope [] ((X.mg "__name__").getD .none) v d))/\∀b o,b ≠ T->H1 b=aw o->l b=aw o) I1
  ⟨ps,tb,λv U f d H' Y t2 t3 _ J=>⟨v,U,f,d,rfl,Y,t2,t3,J⟩⟩) λks s2 ⟨zs,l,I2,rz,v,U,f,d,ez,Y,t2,t3,J⟩=>?_
 subst ez;obtain⟨u,rfl,ru⟩:=bQ rz;cases ru;obtain⟨u',rfl,ru'⟩:=bQ r;cases ru';have nT:∀ {b xs},H1 b=aw (.tup xs)->b ≠ T:=λ{b xs} e z=>by rw[z,tb.at_] at e;cases e
 have sq2:SqL X.K l a vs':=by
  rcases sq with (z |⟨o,z⟩) |z
  ·exact .inl (.inl (J _ _ aT z))
  ·exact .inl (.inr ⟨o,J _ _ aT z⟩)
  ·exact .inr z
 have hL2:=hL.mono λb xs e=>J b _ (nT e) e;refine zt I2 (hr.in1.in1.units0) sq2 hL2 h64 (λs' H' y u e0 mo hy ry=>?_) λr H3 s3 I3 z1 z2 z3=>?_
 ·obtain⟨j,hj⟩:=Yw hy;obtain⟨r,ns,rfl,_,hr2⟩:=hL2.at.2 j y hj;obtain rfl:u = .ref r:=ry
  have key:zr l (.ref r)=[.int ns.length,.ref r]:=by
   unfold zr
   have:K9 l (.ref r)=ns.length:=by
    show(match l r with |some (.tup xs)=>(xs.length:Int) |_=>0)=_;rw[hr2];simp
   rw[this]
  rw[key];exact FF (k:=k) S Z hgl hml hd1 hd2 hr.in1.in1 e0 (mo _ _ t3) (mo _ _ t2) (O _ _ _ _) (mo _ _ hr2)
 ·refine⟨.ref r,H3,I3,rfl,q r H3 f ⟨z3 _ _ Y.at_,Y.tr,λcv e=>?_⟩ z1 ?_ λb o nb e=>z3 _ _ (J b o nb e)⟩
  ·obtain⟨c2,e1,e2⟩:=Y.cd cv e;exact⟨c2,e1,z3 _ _ e2⟩
  ·cases hz:H1 r with
   |none=>rfl
   |some o=>
    by_cases rT:r=T
    ·rw[rT,Y.at_] at z2;cases z2
    ·rw[J _ _ rT hz] at z2;cases z2
end Ev
namespace Ev
open PySem PySem.Spec PyProof.Rows L2
mutual
inductive CE where |non |bl (b:Bool) |int (i:Int) |str (x:Str) |var (i:Nat) |con (k:Nat)(v:Int) |tup (es:List CE) |lst (es:List CE) |dic0 |bin (o:BOp)(a b:CE) |neg (a:CE) |cmp (o:COp)(a b:CE) |chn (o p:COp)(a b c:CE) |and (a b:CE) |or (a b:CE) |not (a:CE) |ite (c a b:CE) |ix (a b:CE) |sl (a:CE)(lo hi:Option CE) |call (f:Nat)(es:List CE) |inst (t:Ty)(a:CE) |len (a:CE) |all (a:CE) |any (a:CE) |tupOf (a:CE) |listOf (a:CE) |listR (a:CE) |srt (a:CE) |mxL (a:CE) |intOf (a:CE) |rev (a:CE) |mnN (a:CE) |mx (a b:CE) |mn (a b:CE) |comp (own:List Str)(elt:CE)(cls:List Cl) |app (o e:CE) |popAt (o e:CE) |cnt (o e:CE) |idx (o e:CE) |tupR (a:CE)
inductive CI where
 |val (a:CE) |r1 (a:CE) |r2 (a b:CE) |dn (a:CE) |en (a:CE)
inductive Cl where
 |mk (tg:Tg) (it:CI) (cond:Option CE)
end
abbrev ai:CE->Bool
 |.lst _=>aN |.comp _ _ _=>aN |.listOf _=>aN |.listR _=>aN |.srt _=>aN
 |_=>aS
abbrev LF:Nat:=1000000
abbrev xNo{b:Type}:Rho->Sto->Option (b × Sto):=λ_ _=>aD
abbrev mh(x:XE):XA:=λc S=>bnd (x c S) λd b=>(av d b).map λr=>(r.2,b)
abbrev cP(T:Bool)(d:List D):Option (List D):=BX T d
abbrev zv(f:Bool->List D->Option (List D))(x:XA):XA:=λb S=>bnd (x b S) λd c=>(f aS d).map λj=>(j,c)
abbrev zw(f:Bool->List D->Option (List D))(x:XE):XA:=λc S=>bnd (x c S) λd b=>match av d b with
 |some r=>(f r.1 r.2).map λj=>(j,b)
 |none=>aD
abbrev zx(x:XE):XA:=λb S=>bnd (x b S) λd c=>match d with
 |.int i=>if 0<=i/\i<=1000 then aw ((Ze i.toNat).map λj=>.int (Int.ofNat j),c) else aD
 |_=>aD
abbrev BZ:XE:=λ_ S=>aw (.ref S.length,S++[.dic [] []])
abbrev cnd(t:CE->XT):Option CE->XA->XA
 |some c,x=>BH (t c) x
 |none,x=>x
abbrev opt(t:CE->XE):Option CE->XO
 |some l=>uZ (t l)
 |none=>uY
mutual
noncomputable def evE(C:Calls)(j:Nat->Nat):Nat->CE->XE
 |0,_=>xNo
 |n+1,e=>match e with
  |.non=>xC .non
  |.bl b=>xC (.bl b)
  |.int i=>xC (.int i)
  |.str x=>xC (.str x)
  |.var i=>yW i
  |.con _ v=>xC (.int v)
  |.tup es=>lJ lP (evA C j n es)
  |.lst es=>dP (om (evA C j n es))
  |.dic0=>BZ
  |.bin o a b=>se (bT o) (evE C j n a) (evE C j n b)
  |.neg a=>xUn KZ (evE C j n a)
  |.cmp o a b=>se (am o) (evE C j n a) (evE C j n b)
  |.chn o p a b c=>zo (am o) (am p) (evE C j n a) (evE C j n b) (evE C j n c)
  |.and a b=>BK (evE C j n a) (evE C j n b)
  |.or a b=>xOr (evE C j n a) (evE C j n b)
  |.not a=>xUn zn (evE C j n a)
  |.ite c a b=>K0 (evT C j n c) (evE C j n a) (evE C j n b)
  |.ix a b=>if ai a=aN then uV (c6 C j n a) (evE C j n b) else se ixS (evE C j n a) (evE C j n b)
  |.sl a lo hi=>xSl (evE C j n a) (opt (evE C j n) lo) (opt (evE C j n) hi)
  |.call f es=>sN (C f) (j f) (evA C j n es)
  |.inst t a=>xUn (lZ t) (evE C j n a)
  |.len a=>if ai a=aN then pX dB (c6 C j n a) else pY dB (evE C j n a)
  |.all a=>if ai a=aN then pX kB (c6 C j n a) else pY kB (evE C j n a)
  |.any a=>if ai a=aN then pX nA (c6 C j n a) else pY nA (evE C j n a)
  |.tupOf a=>if ai a=aN then pX cX (c6 C j n a) else pY cX (evE C j n a)
  |.listOf a=>dP (if ai a=aN then c6 C j n a else mh (evE C j n a))
  |.listR a=>dP (zx (evE C j n a))
  |.srt a=>dP (if ai a=aN then zv cP (c6 C j n a) else zw cP (evE C j n a))
  |.mxL a=>if ai a=aN then pX nB (c6 C j n a) else pY nB (evE C j n a)
  |.rev a=>xUn vm (evE C j n a)
  |.mnN a=>if ai a=aN then pX nG (c6 C j n a) else pY nG (evE C j n a)
  |.intOf a=>xUn Bv (evE C j n a)
  |.mx a b=>lJ (two Bm) (evA C j n [a,b])
  |.mn a b=>lJ (two Bn) (evA C j n [a,b])
  | .comp own elt cls=>dP (match cls with
   |[]=>xNo
   | ⟨tg,it,cond⟩::rest=>l8 own.length (evI C j n it) tg (cnd (evT C j n) cond (gM C j n elt rest)) LF)
  |.app o a=>zl fP sG (evE C j n o) (evA C j n [a])
  |.popAt o a=>zl fP ie (evE C j n o) (evA C j n [a])
  |.cnt o a=>zl (λd _=>isTup d) vD (evE C j n o) (evA C j n [a])
  |.idx o a=>zl (λd _=>isTup d) vH (evE C j n o) (evA C j n [a])
  |.tupR a=>BW (evE C j n a)
noncomputable def evA(C:Calls)(b:Nat->Nat):Nat->List CE->XA
 |0,_=>xNo
 |n+1,es=>match es with
  |[]=>EX
  |e::es=>xa (evE C b n e) (evA C b n es)
noncomputable def c6(C:Calls)(b:Nat->Nat):Nat->CE->XA
 |0,_=>xNo
 |n+1,e=>match e with
  |.lst es=>om (evA C b n es)
  |.listOf a=>if ai a=aN then c6 C b n a else mh (evE C b n a)
  |.listR a=>zx (evE C b n a)
  |.srt a=>if ai a=aN then zv cP (c6 C b n a) else zw cP (evE C b n a)
  |.comp own elt cls=>match cls with
   |[]=>xNo
   |⟨tg,it,cond⟩::rest=>l8 own.length (evI C b n it) tg (cnd (evT C b n) cond (gM C b n elt rest)) LF
  |_=>xNo
noncomputable def gM(C:Calls)(b:Nat->Nat):Nat->CE->List Cl->XA
 |0,_,_=>xNo
 |n+1,elt,cls=>match cls with
  |[]=>IS (evE C b n elt)
  |⟨tg,it,cond⟩::rest=>jA (evI C b n it) tg (cnd (evT C b n) cond (gM C b n elt rest)) LF
noncomputable def evI(C:Calls)(c:Nat->Nat):Nat->CI->XI
 |0,_=>xNo
 |n+1,it=>match it with
  |.val a=>if ai a=aN then xIT (c6 C c n a) else xIV (evE C c n a)
  |.r1 a=>xR1 (evE C c n a)
  |.dn a=>xDn (evE C c n a)
  |.r2 a b=>xR2 (evE C c n a) (evE C c n b)
  |.en a=>xEV (evE C c n a)
noncomputable def evT(C:Calls)(d:Nat->Nat):Nat->CE->XT
 |0,_=>xNo
 |n+1,e=>match e with
  |.cmp o a b=>xB (se (am o) (evE C d n a) (evE C d n b))
  |.chn o p a b c=>xB (zo (am o) (am p) (evE C d n a) (evE C d n b) (evE C d n c))
  |.and a b=>BN (evT C d n a) (evT C d n b)
  |.or a b=>K3 (evT C d n a) (evT C d n b)
  |.not a=>BO (evT C d n a)
  |.ite _ _ _=>xNo
  |e=>Fc (evE C d n e)
end
abbrev fS:List Str:=["len", "isinstance", "all", "any", "tuple", "list", "max", "min", "repr", "range", "enumerate", "int", "bool", "str", "sorted", "zip", "sum", "dict"]
structure Tab where
 con:List (Str × Int)
 fns:List (Str × Nat)
structure Blk where
 sc:Scope
 fs:Option Scope
 N:List Str
abbrev Blk.glo(b:Blk)(x:Str):Bool:=b.sc.names.lookup x == aw .globalImplicit && !(x == ("__debug__" : Str))
abbrev Blk.vis(b:Blk)(x:Str):Bool:=(match b.sc.names.lookup x with
 |some .local=>aN
 |some .cell=>aN
 |some .free=>aN
 | _=>aS) && !(x == ("__debug__" : Str)) && !(x == ("__classdict__" : Str))
abbrev Blk.own(b:Blk)(x:Str):Bool:=match b.sc.names.lookup x with
 |some .local=>aN
 | some .cell=>(match b.fs with
  |none=>aN
  | some sc=>sc.names.lookup x == aw .cell)
 |_=>aS
def bU{P:Prop}[Decidable P]{f:P->Bool}(h:(if p:P then f p else aS)=aN):∃p,f p=aN:=by
 by_cases p:P
 ·rw[dif_pos p] at h;exact⟨p,h⟩
 ·rw[dif_neg p] at h;cases h
def an2{a b:Bool}(h:(a && b)=aN):a=aN/\b=aN:=by cases a;cases h;exact⟨rfl,h⟩
def an3{a b c:Bool}(h:(a && b && c)=aN):a=aN/\b=aN/\c=aN:=⟨(an2 (an2 h).1).1,(an2 (an2 h).1).2,(an2 h).2⟩
def an4{a b c d:Bool}(h:(a && b && c && d)=aN):a=aN/\b=aN/\c=aN/\d=aN:=⟨(an3 (an2 h).1).1,(an3 (an2 h).1).2.1,(an3 (an2 h).1).2.2,(an2 h).2⟩
def an5{a b c d e:Bool}(h:(a && b && c && d && e)=aN):a=aN/\b=aN/\c=aN/\d=aN/\e=aN:=⟨(an4 (an2 h).1).1,(an4 (an2 h).1).2.1,(an4 (an2 h).1).2.2.1,(an4 (an2 h).1).2.2.2,(an2 h).2⟩
def an6{a b c d e f:Bool}(h:(a && b && c && d && e && f)=aN):a=aN/\b=aN/\c=aN/\d=aN/\e=aN/\f=aN:=⟨(an5 (an2 h).1).1,(an5 (an2 h).1).2.1,(an5 (an2 h).1).2.2.1,(an5 (an2 h).1).2.2.2.1,(an5 (an2 h).1).2.2.2.2,(an2 h).2⟩
abbrev l1{b:Type}(l:List b)(k:b->Bool):Bool:=match l with
 |[]=>aS
 |x::t=>t.isEmpty && k x
abbrev lC{b:Type}(l:List b)(k:b->List b->Bool):Bool:=match l with
 |[]=>aS
 |x::t=>k x t
def e8{b:Type}{l:List b}{k:b->List b->Bool}(h:lC l k=aN):∃x t,l=x::t/\k x t=aN:=by
 cases l with
 |nil=>cases h
 |cons x t=>exact⟨x,t,rfl,h⟩
def fD{b:Type}{l:List b}(h:l.isEmpty=aN):l=[]:=by cases l;rfl;cases h
def jB{b:Type}{l:List b}{k:b->Bool}(h:l1 l k=aN):∃x,l=[x]/\k x=aN:=by
 cases l with
 |nil=>cases h
 |cons x t=>obtain⟨d,c⟩:=an2 h;cases fD d;exact⟨x,rfl,c⟩
abbrev aI(e:Expr):Bool:=!(e.ctorIdx == 22 || e.ctorIdx == 26 || e.ctorIdx == 7)
abbrev qm(e:Expr)(k:BoolOp->List Expr->Pos->Bool):Bool:=if h:e.ctorIdx=0 then @Expr.BoolOp.elim (λ_=>Bool) e h k else aS
def oD{e:Expr}{k:BoolOp->List Expr->Pos->Bool}(h:qm e k=aN):∃c b X,e = .BoolOp c b X/\k c b X=aN:=by
 obtain⟨d,h⟩:=bU h;exact Expr.BoolOp.elim (motive_1:=λe=>∀f,@Expr.BoolOp.elim (λ_=>Bool) e f k=aN->∃c b X,e = .BoolOp c b X/\k c b X=aN) e d (λc b X _ j=>⟨c,b,X,rfl,j⟩) d h
abbrev B0(e:Expr)(k:Expr->Vj->Expr->Pos->Bool):Bool:=if h:e.ctorIdx=2 then @Expr.BinOp.elim (λ_=>Bool) e h k else aS
def B1{e:Expr}{k:Expr->Vj->Expr->Pos->Bool}(h:B0 e k=aN):∃c b X d,e = .BinOp c b X d/\k c b X d=aN:=by
 obtain⟨f,h⟩:=bU h;exact Expr.BinOp.elim (motive_1:=λe=>∀j,@Expr.BinOp.elim (λ_=>Bool) e j k=aN->∃c b X d,e = .BinOp c b X d/\k c b X d=aN) e f (λc b X d _ l=>⟨c,b,X,d,rfl,l⟩) f h
abbrev iV(e:Expr)(k:UnaryOp->Expr->Pos->Bool):Bool:=if h:e.ctorIdx=3 then @Expr.UnaryOp.elim (λ_=>Bool) e h k else aS
def mi{e:Expr}{k:UnaryOp->Expr->Pos->Bool}(h:iV e k=aN):∃c b X,e = .UnaryOp c b X/\k c b X=aN:=by
 obtain⟨d,h⟩:=bU h;exact Expr.UnaryOp.elim (motive_1:=λe=>∀f,@Expr.UnaryOp.elim (λ_=>Bool) e f k=aN->∃c b X,e = .UnaryOp c b X/\k c b X=aN) e d (λc b X _ j=>⟨c,b,X,rfl,j⟩) d h
abbrev B2(e:Expr)(k:Expr->Expr->Expr->Pos->Bool):Bool:=if h:e.ctorIdx=5 then @Expr.IfExp.elim (λ_=>Bool) e h k else aS
def B3{e:Expr}{k:Expr->Expr->Expr->Pos->Bool}(h:B2 e k=aN):∃c b X d,e = .IfExp c b X d/\k c b X d=aN:=by
 obtain⟨f,h⟩:=bU h;exact Expr.IfExp.elim (motive_1:=λe=>∀j,@Expr.IfExp.elim (λ_=>Bool) e j k=aN->∃c b X d,e = .IfExp c b X d/\k c b X d=aN) e f (λc b X d _ l=>⟨c,b,X,d,rfl,l⟩) f h
abbrev IZ(e:Expr)(k:List (Option Expr)->List Expr->Pos->Bool):Bool:=if h:e.ctorIdx=6 then @Expr.Dict.elim (λ_=>Bool) e h k else aS
def FH{e:Expr}{k:List (Option Expr)->List Expr->Pos->Bool}(h:IZ e k=aN):∃c b X,e = .Dict c b X/\k c b X=aN:=by
 obtain⟨d,h⟩:=bU h;exact Expr.Dict.elim (motive_1:=λe=>∀f,@Expr.Dict.elim (λ_=>Bool) e f k=aN->∃c b X,e = .Dict c b X/\k c b X=aN) e d (λc b X _ j=>⟨c,b,X,rfl,j⟩) d h
abbrev jC(e:Expr)(k:Expr->List WV->Scope->Pos->Bool):Bool:=if h:e.ctorIdx=8 then @Expr.ListComp.elim (λ_=>Bool) e h k else aS
def jX{e:Expr}{k:Expr->List WV->Scope->Pos->Bool}(h:jC e k=aN):∃c b X d,e = .ListComp c b X d/\k c b X d=aN:=by
 obtain⟨f,h⟩:=bU h;exact Expr.ListComp.elim (motive_1:=λe=>∀j,@Expr.ListComp.elim (λ_=>Bool) e j k=aN->∃c b X d,e = .ListComp c b X d/\k c b X d=aN) e f (λc b X d _ l=>⟨c,b,X,d,rfl,l⟩) f h
abbrev mj(e:Expr)(k:Expr->List CmpOp->List Expr->Pos->Bool):Bool:=if h:e.ctorIdx=15 then @Expr.Compare.elim (λ_=>Bool) e h k else aS
def mm{e:Expr}{k:Expr->List CmpOp->List Expr->Pos->Bool}(h:mj e k=aN):∃c b X d,e = .Compare c b X d/\k c b X d=aN:=by
 obtain⟨f,h⟩:=bU h;exact Expr.Compare.elim (motive_1:=λe=>∀j,@Expr.Compare.elim (λ_=>Bool) e j k=aN->∃c b X d,e = .Compare c b X d/\k c b X d=aN) e f (λc b X d _ l=>⟨c,b,X,d,rfl,l⟩) f h
abbrev xt(e:Expr)(k:Expr->List Expr->List Keyword->Pos->Bool):Bool:=if h:e.ctorIdx=16 then @Expr.Call.elim (λ_=>Bool) e h k else aS
def xu{e:Expr}{k:Expr->List Expr->List Keyword->Pos->Bool}(h:xt e k=aN):∃c b X d,e = .Call c b X d/\k c b X d=aN:=by
 obtain⟨f,h⟩:=bU h;exact Expr.Call.elim (motive_1:=λe=>∀j,@Expr.Call.elim (λ_=>Bool) e j k=aN->∃c b X d,e = .Call c b X d/\k c b X d=aN) e f (λc b X d _ l=>⟨c,b,X,d,rfl,l⟩) f h
abbrev eJ(e:Expr)(k:Const->Nat->Pos->Bool):Bool:=if h:e.ctorIdx=19 then @Expr.Constant.elim (λ_=>Bool) e h k else aS
def dG{e:Expr}{k:Const->Nat->Pos->Bool}(h:eJ e k=aN):∃c b X,e = .Constant c b X/\k c b X=aN:=by
 obtain⟨d,h⟩:=bU h;exact Expr.Constant.elim (motive_1:=λe=>∀f,@Expr.Constant.elim (λ_=>Bool) e f k=aN->∃c b X,e = .Constant c b X/\k c b X=aN) e d (λc b X _ j=>⟨c,b,X,rfl,j⟩) d h
abbrev mq(e:Expr)(k:Expr->Str->Pos->Bool):Bool:=if h:e.ctorIdx=20 then @Expr.Attribute.elim (λ_=>Bool) e h k else aS
def qo{e:Expr}{k:Expr->Str->Pos->Bool}(h:mq e k=aN):∃c b X,e = .Attribute c b X/\k c b X=aN:=by
 obtain⟨d,h⟩:=bU h;exact Expr.Attribute.elim (motive_1:=λe=>∀f,@Expr.Attribute.elim (λ_=>Bool) e f k=aN->∃c b X,e = .Attribute c b X/\k c b X=aN) e d (λc b X _ j=>⟨c,b,X,rfl,j⟩) d h
abbrev dk(e:Expr)(k:Expr->Expr->Pos->Bool):Bool:=if h:e.ctorIdx=21 then @Expr.Subscript.elim (λ_=>Bool) e h k else aS
def c7{e:Expr}{k:Expr->Expr->Pos->Bool}(h:dk e k=aN):∃c b X,e = .Subscript c b X/\k c b X=aN:=by
 obtain⟨d,h⟩:=bU h;exact Expr.Subscript.elim (motive_1:=λe=>∀f,@Expr.Subscript.elim (λ_=>Bool) e f k=aN->∃c b X,e = .Subscript c b X/\k c b X=aN) e d (λc b X _ j=>⟨c,b,X,rfl,j⟩) d h
abbrev B4(e:Expr)(k:Str->Pos->Bool):Bool:=if h:e.ctorIdx=23 then @Expr.Name.elim (λ_=>Bool) e h k else aS
def xv{e:Expr}{k:Str->Pos->Bool}(h:B4 e k=aN):∃b X,e = .Name b X/\k b X=aN:=by
 obtain⟨c,h⟩:=bU h;exact Expr.Name.elim (motive_1:=λe=>∀d,@Expr.Name.elim (λ_=>Bool) e d k=aN->∃b X,e = .Name b X/\k b X=aN) e c (λb X _ f=>⟨b,X,rfl,f⟩) c h
abbrev I0(e:Expr)(k:List Expr->Pos->Bool):Bool:=if h:e.ctorIdx=24 then @Expr.List.elim (λ_=>Bool) e h k else aS
def FI{e:Expr}{k:List Expr->Pos->Bool}(h:I0 e k=aN):∃b X,e = .List b X/\k b X=aN:=by
 obtain⟨c,h⟩:=bU h;exact Expr.List.elim (motive_1:=λe=>∀d,@Expr.List.elim (λ_=>Bool) e d k=aN->∃b X,e = .List b X/\k b X=aN) e c (λb X _ f=>⟨b,X,rfl,f⟩) c h
abbrev B5(e:Expr)(k:List Expr->Nat->Pos->Bool):Bool:=if h:e.ctorIdx=25 then @Expr.Tuple.elim (λ_=>Bool) e h k else aS
def B6{e:Expr}{k:List Expr->Nat->Pos->Bool}(h:B5 e k=aN):∃c b X,e = .Tuple c b X/\k c b X=aN:=by
 obtain⟨d,h⟩:=bU h;exact Expr.Tuple.elim (motive_1:=λe=>∀f,@Expr.Tuple.elim (λ_=>Bool) e f k=aN->∃c b X,e = .Tuple c b X/\k c b X=aN) e d (λc b X _ j=>⟨c,b,X,rfl,j⟩) d h
abbrev vJ(e:Expr)(k:Option Expr->Option Expr->Option Expr->Pos->Bool):Bool:=if h:e.ctorIdx=26 then @Expr.Slice.elim (λ_=>Bool) e h k else aS
def sR{e:Expr}{k:Option Expr->Option Expr->Option Expr->Pos->Bool}(h:vJ e k=aN):∃c b X d,e = .Slice c b X d/\k c b X d=aN:=by
 obtain⟨f,h⟩:=bU h;exact Expr.Slice.elim (motive_1:=λe=>∀j,@Expr.Slice.elim (λ_=>Bool) e j k=aN->∃c b X d,e = .Slice c b X d/\k c b X d=aN) e f (λc b X d _ l=>⟨c,b,X,d,rfl,l⟩) f h
abbrev vK(e:Expr):Bool:=!(e.ctorIdx == 22 || xt e λf b ks _=>f.ctorIdx == 23 && b.isEmpty && ks.isEmpty)
abbrev Lh(e:Expr):Bool:=!(e.ctorIdx == 0 || e.ctorIdx == 5 || e.ctorIdx == 15 || iV e λo _ _=>decide (o = .Not))
abbrev mv(own N:List Str):List Nat:=(Ze N.length).filter λi=>match N[i]? with
 |some x=>own.contains x
 |none=>aS
abbrev Blk.inner(b:Blk)(own:List Str)(c:Scope):Blk:=⟨fK c b.sc,aw c,dh (mv own b.N) b.N++own⟩
abbrev B7(e:Expr):Option (Str × Pos):=if h:e.ctorIdx=23 then aw (@Expr.Name.elim (λ_=>Str × Pos) e h λx p=>(x,p)) else aD
abbrev zy(e:Expr):Option (List Expr × Nat × Pos):=if h:e.ctorIdx=25 then aw (@Expr.Tuple.elim (λ_=>List Expr × Nat × Pos) e h λb k p=>(b,k,p)) else aD
def I8{b:Type}{P:Prop}[Decidable P]{f:P->b}{r:b}(h:(if p:P then aw (f p) else aD)=aw r):∃p,f p=r:=by
 by_cases p:P
 ·rw[dif_pos p] at h;cases h;exact⟨p,rfl⟩
 ·rw[dif_neg p] at h;cases h
def qp{e:Expr}{x:Str}{p:Pos}(h:B7 e=aw (x,p)):e = .Name x p:=by
 obtain⟨b,h⟩:=I8 h;exact Expr.Name.elim (motive_1:=λe=>∀d,Expr.Name.elim (motive_1:=λ_=>Str × Pos) e d (λx p=>(x,p))=(x,p)->e = .Name x p) e b (λ_ _ _ c=>by cases c;rfl) b h
def qr{e:Expr}{b:List Expr}{k:Nat}{p:Pos}(h:zy e=aw (b,k,p)):e = .Tuple b k p:=by
 obtain⟨c,h⟩:=I8 h;exact Expr.Tuple.elim (motive_1:=λe=>∀d,Expr.Tuple.elim (motive_1:=λ_=>List Expr × Nat × Pos) e d (λb k p=>(b,k,p))=(b,k,p)->e = .Tuple b k p) e c (λ_ _ _ _ f=>by cases f;rfl) c h
abbrev oA{b:Type}(o:Option b)(k:b->Bool):Bool:=match o with
 |some r=>k r
 |none=>aS
def zA{b:Type}{o:Option b}{k:b->Bool}(h:oA o k=aN):∃r,o=aw r/\k r=aN:=by
 cases o with
 |none=>cases h
 |some r=>exact⟨r,rfl,h⟩
def FJ{a b:Bool}(h:(a || b)=aN):a=aN\/b=aN:=by cases a;exact .inr h;exact .inl rfl
mutual
noncomputable def vL(b:Blk)(e:Expr):Tg->Bool
 |.name i=>oA (B7 e) λr=>b.N[i]? == aw r.1 && b.own r.1
 |.tup ts=>oA (zy e) λr=>mw b r.1 ts
noncomputable def mw(b:Blk)(c:List Expr):List Tg->Bool
 |[]=>c.isEmpty
 |t::ts=>lC c λe c=>vL b e t && aI e && mw b c ts
end
abbrev Li(e:Expr):Bool:=eJ e λc _ _=>decide (c = .none)
abbrev sBl(v:Bool)(e:Expr):Bool:=eJ e λc _ _=>decide (c = .bool v)
abbrev B8(v:Int)(e:Expr):Bool:=eJ e λc _ _=>decide (c = .int v)
abbrev PC(v:Str)(e:Expr):Bool:=eJ e λc _ _=>decide (c = .str v)
abbrev xw(k:Str->Bool)(e:Expr):Bool:=B4 e λx _=>k x
abbrev Lj(k:List Expr->Bool)(e:Expr):Bool:=B5 e λb _ _=>k b
abbrev PD(k:List Expr->Bool)(e:Expr):Bool:=I0 e λb _=>k b
abbrev PF(o:Vj)(k l:Expr->Bool)(e:Expr):Bool:=B0 e λx op y _=>decide (op=o) && k x && l y
abbrev B9(k:Expr->Bool)(e:Expr):Bool:=iV e λo x _=>decide (o = .USub) && k x
abbrev Ll(k:Expr->Bool)(e:Expr):Bool:=iV e λo x _=>decide (o = .Not) && k x
abbrev Lm(o:CmpOp)(k l:Expr->Bool)(e:Expr):Bool:=mj e λx os Y _=>l1 os λop=>l1 Y λy=>decide (op=o) && k x && l y && aI y
abbrev Ln(o p:CmpOp)(k l m:Expr->Bool)(e:Expr):Bool:=mj e λx os Y _=>lC os λop os=>l1 os λO=>lC Y λy Y=>l1 Y λz=>decide (op=o) && decide (O=p) && k x && l y && m z && aI z
abbrev Ca(o:BoolOp)(k l:Expr->Bool)(e:Expr):Bool:=qm e λop v _=>lC v λx v=>l1 v λy=>decide (op=o) && k x && l y
abbrev Cb(o:BoolOp)(k l:Expr->Bool)(e:Expr):Bool:=qm e λop v p=>lC v λx v=>lC v λy v=>lC v λz Y=>decide (op=o) && k x && l (.BoolOp o (y::z::Y) p)
abbrev PH(k l m:Expr->Bool)(e:Expr):Bool:=B2 e λx y z _=>k x && l y && m z
abbrev sIx(k l:Expr->Bool)(e:Expr):Bool:=dk e λx y _=>k x && l y && aI y
abbrev sSl(k:Expr->Bool)(l m:Option Expr->Bool)(e:Expr):Bool:=dk e λx s _=>vJ s λy z w _=>w.isNone && k x && l y && m z
abbrev PJ(k:Expr->Bool)(e:Expr):Bool:=dk e λx s _=>vJ s λy z w _=>y.isNone && z.isNone && k x && oA w λe=>B9 (B8 1) e
abbrev sCN(e:Expr)(k:Str->List Expr->List Keyword->Bool):Bool:=xt e λf b ks _=>B4 f λx _=>k x b ks
abbrev Ja(k:Str->Bool)(l:List Expr->Bool)(e:Expr):Bool:=sCN e λx b ks=>lC b λe b=>ks.isEmpty && k x && l (e::b)
abbrev vM(b:Blk)(f:Str)(k:List Expr->Bool)(e:Expr):Bool:=sCN e λx c ks=>lC c λe c=>ks.isEmpty && x == f && b.glo x && k (e::c)
abbrev bZ(b:Blk)(f:Str)(k:Expr->Bool)(e:Expr):Bool:=sCN e λx c ks=>l1 c λe=>ks.isEmpty && x == f && b.glo x && k e && aI e
abbrev Jb(b:Blk)(k:Expr->Bool)(e:Expr):Bool:=sCN e λx c ks=>l1 c λe=>(l1 ks λw=>w.arg == aw (Str.ofString "default") && Li w.value) && x == "min" && b.glo x && k e && aI e
abbrev sDn(b:Blk)(k:Expr->Bool)(e:Expr):Bool:=sCN e λx c ks=>lC c λd c=>lC c λf c=>l1 c λj=>ks.isEmpty && x == "range" && b.glo x && (k d && aI d && B9 (B8 1) f && B9 (B8 1) j)
abbrev vN(b:Blk)(f:Str)(k l:Expr->Bool)(e:Expr):Bool:=sCN e λx c ks=>lC c λe c=>l1 c λd=>ks.isEmpty && (x == f && b.glo x && k e && aI e && l d && aI d)
abbrev Cc(m:Str)(k:Expr->Bool)(l:List Expr->Bool)(e:Expr):Bool:=xt e λf c ks p=>mq f λx d b=>ks.isEmpty && d == m && vK x && (b.endLine == p.line) && k x && l c
abbrev Jc(k:Expr->Expr->Expr->List Expr->List WV->Scope->Bool)(e:Expr):Bool:=jC e λe gs b _=>lC gs λg gs=>decide (g.is_async=0) && k e g.target g.iter g.ifs gs b
abbrev Jd(e:Expr):Bool:=IZ e λks v _=>ks.isEmpty && v.isEmpty
def ca{x y:Str}(h:(x == y)=aN):x=y:=eq_of_beq h
section
variable {e:Expr} {k l m:Expr->Bool}
def Cd(h:Li e=aN):∃a p,e = .Constant .none a p:=by
 obtain⟨c,a,p,rfl,h⟩:=dG h;cases of_decide_eq_true h;exact⟨a,p,rfl⟩
def PL{v:Bool}(h:sBl v e=aN):∃a p,e = .Constant (.bool v) a p:=by
 obtain⟨c,a,p,rfl,h⟩:=dG h;cases of_decide_eq_true h;exact⟨a,p,rfl⟩
def qt{v:Int}(h:B8 v e=aN):∃a p,e = .Constant (.int v) a p:=by
 obtain⟨c,a,p,rfl,h⟩:=dG h;cases of_decide_eq_true h;exact⟨a,p,rfl⟩
def Lp{v:Str}(h:PC v e=aN):∃a p,e = .Constant (.str v) a p:=by
 obtain⟨c,a,p,rfl,h⟩:=dG h;cases of_decide_eq_true h;exact⟨a,p,rfl⟩
def qu{k:Str->Bool}(h:xw k e=aN):∃x p,e = .Name x p/\k x=aN:=xv h
def Ce{k:List Expr->Bool}(h:Lj k e=aN):∃x a p,e = .Tuple x a p/\k x=aN:=B6 h
def Lq{k:List Expr->Bool}(h:PD k e=aN):∃x p,e = .List x p/\k x=aN:=FI h
def Lr{o:Vj}(h:PF o k l e=aN):∃x y p,e = .BinOp x o y p/\k x=aN/\l y=aN:=by
 obtain⟨x,op,y,p,rfl,h⟩:=B1 h;obtain⟨b,z⟩:=an3 h;cases of_decide_eq_true b;exact⟨x,y,p,rfl,z⟩
def qv(h:B9 k e=aN):∃x p,e = .UnaryOp .USub x p/\k x=aN:=by
 obtain⟨op,x,p,rfl,h⟩:=mi h;obtain⟨b,z⟩:=an2 h;cases of_decide_eq_true b;exact⟨x,p,rfl,z⟩
def Cf(h:Ll k e=aN):∃x p,e = .UnaryOp .Not x p/\k x=aN:=by
 obtain⟨op,x,p,rfl,h⟩:=mi h;obtain⟨b,z⟩:=an2 h;cases of_decide_eq_true b;exact⟨x,p,rfl,z⟩
def Cg{o:CmpOp}(h:Lm o k l e=aN):∃x y p,e = .Compare x [o] [y] p/\k x=aN/\l y=aN/\aI y=aN:=by
 obtain⟨x,os,Y,p,rfl,h⟩:=mm h;obtain⟨op,rfl,h⟩:=jB h;obtain⟨y,rfl,h⟩:=jB h;obtain⟨b,z⟩:=an4 h;cases of_decide_eq_true b;exact⟨x,y,p,rfl,z⟩
def Ch{o p:CmpOp}(h:Ln o p k l m e=aN):∃x y z q,e = .Compare x [o,p] [y,z] q/\k x=aN/\l y=aN/\m z=aN/\aI z=aN:=by
 obtain⟨x,os,Y,q,rfl,h⟩:=mm h;obtain⟨op,os,rfl,h⟩:=e8 h;obtain⟨O,rfl,h⟩:=jB h;obtain⟨y,Y,rfl,h⟩:=e8 h;obtain⟨z,rfl,h⟩:=jB h;obtain⟨c,b,Z⟩:=an6 h;cases of_decide_eq_true c;cases of_decide_eq_true b;exact⟨x,y,z,q,rfl,Z⟩
def qw{o:BoolOp}(h:Ca o k l e=aN):∃x y p,e = .BoolOp o [x,y] p/\k x=aN/\l y=aN:=by
 obtain⟨op,v,p,rfl,h⟩:=oD h;obtain⟨x,v,rfl,h⟩:=e8 h;obtain⟨y,rfl,h⟩:=jB h;obtain⟨b,z⟩:=an3 h;cases of_decide_eq_true b;exact⟨x,y,p,rfl,z⟩
def qx{o:BoolOp}(h:Cb o k l e=aN):∃x y z Y p,e = .BoolOp o (x::y::z::Y) p/\k x=aN/\l (.BoolOp o (y::z::Y) p)=aN:=by
 obtain⟨op,v,p,rfl,h⟩:=oD h;obtain⟨x,v,rfl,h⟩:=e8 h;obtain⟨y,v,rfl,h⟩:=e8 h;obtain⟨z,v,rfl,h⟩:=e8 h;obtain⟨b,Z⟩:=an3 h;cases of_decide_eq_true b;exact⟨x,y,z,v,p,rfl,Z⟩
def Ls(h:PH k l m e=aN):∃x y z p,e = .IfExp x y z p/\k x=aN/\l y=aN/\m z=aN:=by
 obtain⟨x,y,z,p,rfl,h⟩:=B3 h;exact⟨x,y,z,p,rfl,an3 h⟩
def PM(h:sIx k l e=aN):∃x y p,e = .Subscript x y p/\k x=aN/\l y=aN/\aI y=aN:=by
 obtain⟨x,y,p,rfl,h⟩:=c7 h;exact⟨x,y,p,rfl,an3 h⟩
def PN{l m:Option Expr->Bool}(h:sSl k l m e=aN):∃x y z p q,e = .Subscript x (.Slice y z aD p) q/\k x=aN/\l y=aN/\m z=aN:=by
 obtain⟨x,s,q,rfl,h⟩:=c7 h;obtain⟨y,z,w,p,rfl,h⟩:=sR h;obtain⟨b,Z⟩:=an4 h;cases w;exact⟨x,y,z,p,q,rfl,Z⟩;cases b
def Lu(h:PJ k e=aN):∃x n p j b c,e = .Subscript x (.Slice aD aD (aw (.UnaryOp .USub (.Constant (.int 1) n b) c)) j) p/\k x=aN:=by
 obtain⟨x,s,q,rfl,h⟩:=c7 h;obtain⟨y,z,w,p,rfl,h⟩:=sR h;obtain⟨C,B,f,h4⟩:=an4 h;obtain⟨u,rfl,h4⟩:=zA h4;obtain⟨v,c,rfl,d⟩:=qv h4;obtain⟨n,b,rfl⟩:=qt d;cases y <;> cases z <;> first |exact⟨x,n,q,p,b,c,rfl,f⟩ |(cases C;done) |(cases B;done)
def oE{k:Str->List Expr->List Keyword->Bool}(h:sCN e k=aN):∃x p b ks q,e = .Call (.Name x p) b ks q/\k x b ks=aN:=by
 obtain⟨f,b,ks,q,rfl,h⟩:=xu h;obtain⟨x,p,rfl,h⟩:=xv h;exact⟨x,p,b,ks,q,rfl,h⟩
def FK{k:Str->Bool}{l:List Expr->Bool}(h:Ja k l e=aN):∃x X b p q,e = .Call (.Name x p) (X::b) [] q/\k x=aN/\l (X::b)=aN:=by
 obtain⟨x,p,b,ks,q,rfl,h⟩:=oE h;obtain⟨X,b,rfl,h⟩:=e8 h;obtain⟨c,z⟩:=an3 h;cases fD c;exact⟨x,X,b,p,q,rfl,z⟩
def sS{b:Blk}{f:Str}{k:List Expr->Bool}(h:vM b f k e=aN):∃x c p q,e = .Call (.Name f p) (x::c) [] q/\b.glo f=aN/\k (x::c)=aN:=by
 obtain⟨x,p,c,ks,q,rfl,h⟩:=oE h;obtain⟨X,c,rfl,h⟩:=e8 h;obtain⟨j,d,z⟩:=an4 h;cases fD j;cases ca d;exact⟨X,c,p,q,rfl,z⟩
def ba{b:Blk}{f:Str}(h:bZ b f k e=aN):∃x p q,e = .Call (.Name f p) [x] [] q/\b.glo f=aN/\k x=aN/\aI x=aN:=by
 obtain⟨x,p,j,ks,q,rfl,h⟩:=oE h;obtain⟨X,rfl,h⟩:=jB h;obtain⟨d,c,z⟩:=an5 h;cases fD d;cases ca c;exact⟨X,p,q,rfl,z⟩
def FL{b:Blk}(h:Jb b k e=aN):∃x p q j c Q,e = .Call (.Name "min" p) [x] [⟨aw "default", .Constant .none j c,Q⟩] q/\b.glo "min" = aN/\k x=aN/\aI x=aN:=by
 obtain⟨x,p,I,ks,q,rfl,h⟩:=oE h;obtain⟨X,rfl,h⟩:=jB h;obtain⟨C,B,z⟩:=an5 h;obtain⟨⟨a,v,Q⟩,rfl,u⟩:=jB C;obtain⟨h4,d⟩:=an2 u;obtain⟨j,c,f⟩:=Cd d;have y:=eq_of_beq h4;cases ca B;exact⟨X,p,q,j,c,Q,by rw[show v=_ from f,show a=_ from y],z⟩
def Je{b:Blk}(h:sDn b k e=aN):∃x p q v y r2 d j c,e = .Call (.Name "range" p) [x,.UnaryOp .USub (.Constant (.int 1) v y) r2,.UnaryOp .USub (.Constant (.int 1) d j) c] [] q/\b.glo "range" = aN/\k x=aN/\aI x=aN:=by
 obtain⟨x,p,B,ks,q,rfl,h⟩:=oE h;obtain⟨L,B,rfl,h⟩:=e8 h;obtain⟨U,B,rfl,h⟩:=e8 h;obtain⟨T,rfl,h⟩:=jB h;obtain⟨Q,I,O,h4⟩:=an4 h;obtain⟨J,C,z,f⟩:=an4 h4;obtain⟨u,r2,rfl,z⟩:=qv z;obtain⟨v,y,rfl⟩:=qt z;obtain⟨u,c,rfl,f⟩:=qv f;obtain⟨d,j,rfl⟩:=qt f;cases ca I;cases fD Q;exact⟨L,p,q,v,y,r2,d,j,c,rfl,O,J,C⟩
def my{b:Blk}{f:Str}(h:vN b f k l e=aN):∃x y p q,e = .Call (.Name f p) [x,y] [] q/\b.glo f=aN/\k x=aN/\aI x=aN/\l y=aN/\aI y=aN:=by
 obtain⟨x,p,d,ks,q,rfl,h⟩:=oE h;obtain⟨X,d,rfl,h⟩:=e8 h;obtain⟨y,rfl,h⟩:=jB h;obtain⟨j,Y⟩:=an2 h;obtain⟨c,z⟩:=an6 Y;cases fD j;cases ca c;exact⟨X,y,p,q,rfl,z⟩
def qy{m:Str}{l:List Expr->Bool}(h:Cc m k l e=aN):∃x b c p,e = .Call (.Attribute x m b) c [] p/\vK x=aN/\(b.endLine == p.line)=aN/\k x=aN/\l c=aN:=by
 obtain⟨f,c,ks,p,rfl,h⟩:=xu h;obtain⟨x,q,b,rfl,h⟩:=qo h;obtain⟨d,j,z⟩:=an6 h;cases fD d;cases ca j;exact⟨x,b,c,p,rfl,z⟩
def xy{k:Expr->Expr->Expr->List Expr->List WV->Scope->Bool}(h:Jc k e=aN):∃c t i ifs gs b p,e = .ListComp c (⟨t,i,ifs,0⟩::gs) b p/\k c t i ifs gs b=aN:=by
 obtain⟨c,gs,b,p,rfl,h⟩:=jX h;obtain⟨⟨t,i,ifs,f⟩,gs,rfl,h⟩:=e8 h;obtain⟨d,z⟩:=an2 h;cases of_decide_eq_true d;exact⟨c,t,i,ifs,gs,b,p,rfl,z⟩
def FM(h:Jd e=aN):∃p,e = .Dict [] [] p:=by
 obtain⟨ks,v,p,rfl,h⟩:=FH h;obtain⟨c,b⟩:=an2 h;cases fD c;cases fD b;exact⟨p,rfl⟩
end
abbrev Ci(f:Expr->CE->Bool)(l:Option Expr):Option CE->Bool
 |none=>l.isNone
 |some c=>oA l λe=>f e c
abbrev Cj(f:Expr->CE->Bool)(l:List Expr):Option CE->Bool
 |none=>l.isEmpty
 |some c=>l1 l λe=>f e c
abbrev clC(c:List Cl)(k:Tg->CI->Option CE->List Cl->Bool):Bool:=match c with
 |[]=>aS
 |⟨tg,it,cond⟩::rest=>k tg it cond rest
def Jf{c:List Cl}{k:Tg->CI->Option CE->List Cl->Bool}(h:clC c k=aN):∃T it cond b,c=⟨T,it,cond⟩::b/\k T it cond b=aN:=by
 cases c with
 |nil=>cases h
 |cons g b=>obtain⟨T,it,cond⟩:=g;exact⟨T,it,cond,b,rfl,h⟩
mutual
noncomputable def aJ(T:Tab):Nat->Blk->Expr->CE->Bool
 |0,_,_,_=>aS
 |n+1,b,e,c=>match c with
  |.non=>Li e
  |.bl v=>sBl v e
  |.int i=>B8 i e
  |.str x=>PC x e
  |.var i=>xw (λx=>b.N[i]? == aw x && b.vis x) e
  |.con k v=>xw (λx=>T.con[k]? == aw (x,v) && b.glo x) e
  |.tup cs=>Lj (λq=>fE T n b q cs) e
  |.lst cs=>PD (λq=>fE T n b q cs) e
  |.dic0=>Jd e
  |.bin o a c=>PF o.op (λx=>aJ T n b x a) (λx=>aJ T n b x c) e
  |.neg a=>B9 (λx=>aJ T n b x a) e
  |.cmp o a c=>Lm o.op (λx=>aJ T n b x a) (λx=>aJ T n b x c) e
  |.chn o p a c d=>Ln o.op p.op (λx=>aJ T n b x a) (λx=>aJ T n b x c) (λx=>aJ T n b x d) e
  |.and a c=>Ca .And (λx=>aJ T n b x a) (λx=>aJ T n b x c) e || Cb .And (λx=>aJ T n b x a) (λx=>aJ T n b x c) e
  |.or a c=>Ca .Or (λx=>aJ T n b x a) (λx=>aJ T n b x c) e || Cb .Or (λx=>aJ T n b x a) (λx=>aJ T n b x c) e
  |.not a=>Ll (λx=>aJ T n b x a) e
  |.ite t a c=>PH (λx=>fF T n b x t) (λx=>aJ T n b x a) (λx=>aJ T n b x c) e
  |.ix a c=>sIx (λx=>aJ T n b x a) (λx=>aJ T n b x c) e
  |.sl a lo hi=>sSl (λx=>aJ T n b x a) (λl=>Ci (aJ T n b) l lo) (λl=>Ci (aJ T n b) l hi) e
  |.call f cs=>Ja (λx=>oA T.fns[f]? (λy=>y.1 == x) && b.glo x) (λq=>fE T n b q cs) e
  |.inst t a=>vN b "isinstance" (λx=>aJ T n b x a) (xw λy=>y == Str.ofString t.nm && b.glo y) e
  |.len a=>bZ b "len" (λx=>aJ T n b x a) e
  |.all a=>bZ b "all" (λx=>aJ T n b x a) e
  |.any a=>bZ b "any" (λx=>aJ T n b x a) e
  |.tupOf a=>bZ b "tuple" (λx=>aJ T n b x a) e
  |.listOf a=>bZ b "list" (λx=>aJ T n b x a) e
  |.listR a=>bZ b "list" (bZ b "range" λx=>aJ T n b x a) e
  |.srt a=>bZ b "sorted" (λx=>aJ T n b x a) e
  |.mxL a=>bZ b "max" (λx=>aJ T n b x a) e
  |.rev a=>PJ (λx=>aJ T n b x a) e
  |.mnN a=>Jb b (λx=>aJ T n b x a) e
  |.intOf a=>bZ b "int" (λx=>aJ T n b x a) e
  |.mx a c=>vM b "max" (λq=>fE T n b q [a,c]) e
  |.mn a c=>vM b "min" (λq=>fE T n b q [a,c]) e
  |.comp own elt cls=>clC cls λz it cond u=>Jc (λB t i ifs gs j=>cmB own (mv own b.N) b.N j b.sc && sU T n b t i it && vL (b.inner own j) t z && Cj (fF T n (b.inner own j)) ifs cond && oG T n (b.inner own j) B gs elt u) e
  |.app o a=>Cc "append" (λx=>aJ T n b x o) (λq=>fE T n b q [a]) e
  |.popAt o a=>Cc "pop" (λx=>aJ T n b x o) (λq=>fE T n b q [a]) e
  |.cnt o a=>Cc "count" (λx=>aJ T n b x o) (λq=>fE T n b q [a]) e
  |.idx o a=>Cc "index" (λx=>aJ T n b x o) (λq=>fE T n b q [a]) e
  |.tupR a=>bZ b "tuple" (bZ b "range" λx=>aJ T n b x a) e
noncomputable def fE(T:Tab):Nat->Blk->List Expr->List CE->Bool
 |0,_,_,_=>aS
 |n+1,b,d,cs=>match cs with
  |[]=>d.isEmpty
  |c::cs=>lC d λe d=>aJ T n b e c && aI e && fE T n b d cs
noncomputable def oG(T:Tab):Nat->Blk->Expr->List WV->CE->List Cl->Bool
 |0,_,_,_,_,_=>aS
 |n+1,b,e,gs,elt,cls=>match cls with
  |[]=>gs.isEmpty && aJ T n b e elt
  |⟨tg,it,cond⟩::rest=>lC gs λg gs=>decide (g.is_async=0) && sU T n b g.target g.iter it && vL b g.target tg && Cj (fF T n b) g.ifs cond && oG T n b e gs elt rest
noncomputable def sU(T:Tab):Nat->Blk->Expr->Expr->CI->Bool
 |0,_,_,_,_=>aS
 |n+1,b,t,e,c=>match c with
  |.val a=>aJ T n b e a && aI e
  |.r1 a=>bZ b "range" (λx=>aJ T n b x a) e
  |.dn a=>sDn b (λx=>aJ T n b x a) e
  |.r2 a c=>vN b "range" (λx=>aJ T n b x a) (λx=>aJ T n b x c) e
  |.en a=>bZ b "enumerate" (λx=>aJ T n b x a) e && Lj (λ_=>aN) t
noncomputable def fF(T:Tab):Nat->Blk->Expr->CE->Bool
 |0,_,_,_=>aS
 |n+1,b,e,c=>match c with
  |.cmp o a c=>Lm o.op (λx=>aJ T n b x a) (λx=>aJ T n b x c) e
  |.chn o p a c d=>Ln o.op p.op (λx=>aJ T n b x a) (λx=>aJ T n b x c) (λx=>aJ T n b x d) e
  |.and a c=>Ca .And (λx=>fF T n b x a) (λx=>fF T n b x c) e || Cb .And (λx=>fF T n b x a) (λx=>fF T n b x c) e
  |.or a c=>Ca .Or (λx=>fF T n b x a) (λx=>fF T n b x c) e || Cb .Or (λx=>fF T n b x a) (λx=>fF T n b x c) e
  |.not a=>Ll (λx=>fF T n b x a) e
  |.ite _ _ _=>aS
  |c=>aJ T n b e c && Lh e
end
def gC{T:Tab}{n:Nat}{b:Blk}{t e:Expr}{c:CI}(h:sU T n b t e c=aN)(d:∀e,aI e=aN->∀env x,V7 e env x=pure x):∀env x,V7 e env x=pure x:=by
 cases n with
 |zero=>cases h
 |succ n=>
  cases c with
  |val a=>exact d e (an2 h).2
  |r1 a=>obtain⟨x,p,q,rfl,_⟩:=ba h;intro _ _;rfl
  |dn a=>obtain⟨x,p,q,l,k,r2,j,f,u,rfl,_⟩:=Je h;intro _ _;rfl
  |r2 a c=>obtain⟨x,y,p,q,rfl,_⟩:=my h;intro _ _;rfl
  |en a=>obtain⟨x,p,q,rfl,_⟩:=ba (an2 h).1;intro _ _;rfl
structure CtxOk(T:Tab)(C:Calls)(ar:Nat->Nat)(k:Nat)(b:Blk)(X:Cx):Prop where
 calm:X.calm=aN
 xe:X.xe=λ_ _=>False
 hN:X.N=b.N
 hs:X.env.scope=b.sc
 nd:b.N.Nodup
 fn:∀x,(match b.fs with |none=>aN |some sc=>sc.names.lookup x == aw .cell)=aN->X.fn x=aN
 room:Room k X.A
 con:∀ (i:Nat) (x:Str) (v:Int),T.con[i]?=aw (x,v)->∃tk,X.mg x=aw (.int v tk)
 bl:∀x,x ∈ fS->X.mg x=aD
 fns:∀ (i:Nat) (y:Str × Nat),T.fns[i]?=aw y->ar i=y.2/\∃f fd ps,X.mg y.1=aw (.ref f)/\Vy X.K (.ref f)=aN/\nW X.K fd ps []/\FnOk X.prog X.w X.K X.mg X.base CX0 k f fd ps (spC X.K (C i) (ar i))
section
variable {T:Tab} {C:Calls} {ar:Nat->Nat} {k:Nat} {b:Blk} {X:Cx}
def ak{e:Expr}{c:List Expr}{env:Env}(h:aI e=aN):Uv (e::c) env=(aS,eval e env)::Uv c env:=by
 cases e <;> first |rfl |(exact absurd h Zf)
def sV{e:Expr}(h:aI e=aN):wZ e:=by
 intro o i;cases e <;> first |rfl |(exact absurd h Zf)
def ig{e:Expr}{op:CmpOp}(h:aI e=aN):VN op e=aS:=by
 cases e <;> first |rfl |(exact absurd h Zf)
def mz{e f:Expr}{op O:CmpOp}(h:aI e=aN):lastMarks [op,O] [f,e]=aS:=by
 show VN O e=aS;exact ig h
def e9{e:Expr}{env:Env}(h:aI e=aN):∀x,V7 e env x=pure x:=by
 intro x;cases e <;> first |rfl |(exact absurd h Zf)
def fb{e:Expr}{m:Str}{env:Env}{w:Sem Value}(h:vK e=aN):attributeBase e m env w=w:=by
 cases e with
 |Call f c ks p=>
  cases f with
  |Name x q=>
   cases c with
   |nil=>cases ks with |nil=>exact absurd h Zf |cons _ _=>rfl
   |cons _ _=>rfl
  |_=>rfl
 |_=>first |rfl |(exact absurd h Zf)
def vO{e:Expr}{env:Env}(h:Lh e=aN):∀c,isTrue e env c=(do let v <-c;standAt e.pos;holding [v] (truthy v)):=by
 intro c;cases e with
 |UnaryOp op x p=>cases op <;> first |rfl |(exact absurd h Zf)
 |_=>first |rfl |(exact absurd h Zf)
def jD{d:List Expr}{env:Env}{c:Pos}(h:∀e ∈ d,aI e=aN):(backTo c (Uv d env)).any (·.1)=aS:=by
 induction d with
 |nil=>rfl
 |cons e d I=>
  rw[ak (h e Zk)];show(aS || (backTo c (Uv d env)).any (·.1))=aS;rw[I λe f=>h e (Zh _ f)];rfl
def bK:∀ {n:Nat} {d:List Expr} {f:List CE},fE T n b d f=aN->∀e ∈ d,aI e=aN
 |0,_,_,h=>absurd h Zf
 |n+1,d,[],h=>λx hx=>by rw[fD h] at hx;cases hx
 |n+1,d,c::f,h=>by
  obtain⟨e,d,rfl,h⟩:=e8 h;obtain⟨_,j,h⟩:=an3 h;intro x hx;rcases Zn.mp hx with rfl |hx
  ·exact j
  ·exact bK h x hx
def CtxOk.gl(G:CtxOk T C ar k b X){x:Str}(h:b.glo x=aN):Gl X x/\(x == ("__debug__" : Str))=aS:=by
 unfold Blk.glo at h;rw[bAE] at h;refine⟨?_,by simpa using h.2⟩;show X.env.scope.names.lookup x=_;rw[G.hs]
 simpa using h.1
def CtxOk.vis(G:CtxOk T C ar k b X){x:Str}(h:b.vis x=aN):Vis X.env.scope x/\(x == ("__debug__" : Str))=aS/\(x == ("__classdict__" : Str))=aS:=by
 unfold Blk.vis at h;rw[bAE,bAE] at h;refine⟨?_,by simpa using h.1.2,by simpa using h.2⟩;unfold Vis;rw[G.hs];have c:=h.1.1;split at c
 ·rename_i e;exact .inl e
 ·rename_i e;exact .inr (.inl e)
 ·rename_i e;exact .inr (.inr e)
 ·cases c
def CtxOk.own(G:CtxOk T C ar k b X){x:Str}(h:b.own x=aN):L2.Loc X.env.scope x/\(X.fn x=aN\/X.env.scope.names.lookup x=aw .local):=by
 unfold Blk.own at h;unfold L2.Loc;rw[G.hs];split at h
 ·rename_i e;exact⟨.inl e,.inr e⟩
 ·rename_i e;refine⟨.inr e,.inl (G.fn x ?_)⟩;cases c:b.fs with
  |none=>rfl
  |some sc=>rw[c] at h;exact h
 ·cases h
def CtxOk.inner(G:CtxOk T C ar k b X){own:List Str}{c:Scope}(S:CmScope own (mv own b.N) b.N c b.sc){C':Addr}{ex:List Addr}{s:Shared}{H:Hp}:CtxOk T C ar k (b.inner own c) (cxC X own (mv own b.N) c C' ex s H):=
 ⟨G.calm,rfl,by show dh (mv own b.N) X.N++own=_;rw[G.hN];rfl,by show fK c X.env.scope=_;rw[G.hs];rfl,S.nd,λx h=>h,G.room,G.con,G.bl,G.fns⟩
def oH{e:Expr}{c:List Expr}{env:Env}(h:aI e=aN):VJ (e::c) env=(aS,assign e env)::VJ c env:=by
 cases e <;> first |rfl |(exact absurd h Zf)
mutual
theorem gD(G:CtxOk T C ar k b X):∀ {e:Expr} {t:Tg},vL b e t=aN->PG X e (tTg X.K t)
 |e,.name i,h=>by
  obtain⟨r,c,h⟩:=zA h;obtain⟨l,j⟩:=an2 h;rw[qp c];have o:=G.own j;exact PG.imp (Ep (i:=i) (x:=r.1) (by rw[G.hN];exact G.nd) (by rw[G.hN];exact eq_of_beq l) o.1 o.2) λx f H Q q=>qj q
 |e,.tup ts,h=>by
  obtain⟨r,c,h⟩:=zA h;rw[qr c];have d:=oI h;exact PG.imp (JV G.calm (sW G h) rfl d.2) λx f H Q q=>KQ d.1 q
theorem sW(G:CtxOk T C ar k b X):∀ {c:List Expr} {d:List Tg},mw b c d=aN->PGs X c (BA X.K d)
 |c,[],h=>by
  rw[fD h];exact PGs.imp Er λx f H Q q=>Fn q
 |c,t::d,h=>by
  obtain⟨e,c,rfl,h⟩:=e8 h;obtain⟨l,j,h⟩:=an3 h;exact PGs.imp (Av (gD G l) (sW G h) (by rw[oH j];rfl)) λx f H Q q=>BC q
theorem oI:∀ {c:List Expr} {d:List Tg},mw b c d=aN->(VJ c X.env).length=d.length/\(VJ c X.env).findIdx? (·.1)=aD
 |c,[],h=>by
  rw[fD h];exact⟨rfl,rfl⟩
 |c,t::d,h=>by
  obtain⟨e,c,rfl,h⟩:=e8 h;obtain⟨j,f,h⟩:=an3 h;have I:=oI h;rw[oH f];refine⟨congrArg (·+1) I.1,?_⟩;rw[List.findIdx?_cons];simp[I.2]
end
end
structure Snd(T:Tab)(C:Calls)(ar:Nat->Nat)(k n:Nat):Prop where
 e:∀ (b:Blk) (X:Cx) (e:Expr) (c:CE),CtxOk T C ar k b X->aJ T n b e c=aN->PE X e (tE X.K (evE C ar n c))
 tm:∀ (b:Blk) (X:Cx) (e:Expr) (c:CE),CtxOk T C ar k b X->ai c=aN->aJ T n b e c=aN->PE X e (fB X.K (c6 C ar n c))
 a:∀ (b:Blk) (X:Cx) (es:List Expr) (cs:List CE),CtxOk T C ar k b X->fE T n b es cs=aN->PA X es (tAr X.K (evA C ar n cs))
 t:∀ (b:Blk) (X:Cx) (e:Expr) (c:CE),CtxOk T C ar k b X->fF T n b e c=aN->PT X e (tT X.K (evT C ar n c))
 i:∀ (B:List Addr) (b:Blk) (X:Cx) (t e:Expr) (c:CI),CtxOk T C ar k b X->sU T n b t e c=aN->PI X t e (tIt X.K B (evI C ar n c))
 cl:∀ (b:Blk) (X:Cx) (e:Expr) (gs:List WV) (elt:CE) (cls:List Cl),CtxOk T C ar k b X->oG T n b e gs elt cls=aN ->
  ∀ (gens:List WV) (scope:Scope) (pos:Pos) (acc:Addr) (d:Nat),gens.drop (d+1)=gs->PTl X e gens scope pos acc d (tCl X.K acc (gM C ar n elt cls))
section
variable {T:Tab} {C:Calls} {ar:Nat->Nat} {k n:Nat} {b:Blk} {X:Cx}
def eK{e:Expr}{d:List Expr}{c:TE}{t:TA}(j:PE X e c)(f:PA X d t)(l:aI e=aN):PA X (e::d) (cg c t):=kC j f (ak l)
def PP(I:Snd T C ar k n)(f:List Expr)(d:List CE)(G:CtxOk T C ar k b X)(h:fE T (n+1) b f d=aN):PA X f (tAr X.K (evA C ar (n+1) d)):=by
 cases d with
 |nil=>rw[fD h];exact PA.imp pM λj H Q q=>Ks q
 |cons c d=>
  obtain⟨e,f,rfl,h⟩:=e8 h;obtain⟨u,l,h⟩:=an3 h;exact PA.imp (eK (I.e b X e c G u) (I.a b X f d G h) l) λj H Q q=>EY q
def cy{e:Expr}{c:TE}(h:PE X e c)(d:aI e=aN):PA X [e] (cg c jl):=eK h pM d
def gF{x:Str}{id:String}{e:Expr}{f:TE}{r:V->Hp->VK->Prop}{p c:Pos}(hc:aR X (.builtin id) (r1 r))(G:CtxOk T C ar k b X)(d:b.glo x=aN)(hb:x ∈ fS)(l:VR x=aw (.builtin id))(u:x ≠ "__name__")(h:PE X e f)(j:aI e=aN) :
  PE X (.Call (.Name x p) [e] [] c) (tUn r f):=
 PE.imp (fI hc (G.gl d).1 (G.bl x hb) l (cy h j) u (G.gl d).2 (ak j) rfl) λv H Q q=>q
def kH{x:Str}{id:String}{e:Expr}{f:TE}{r:V->Hp->VK->Prop}{p c:Pos}(hc:aR X (.type id) (r1 r))(G:CtxOk T C ar k b X)(d:b.glo x=aN)(hb:x ∈ fS)(l:VR x=aw (.type id))(u:x ≠ "__name__")(h:PE X e f)(j:aI e=aN) :
  PE X (.Call (.Name x p) [e] [] c) (tUn r f):=
 PE.imp (eC hc (G.gl d).1 (G.bl x hb) l (cy h j) u (G.gl d).2 (ak j) rfl) λv H Q q=>q
def jE{x:Str}{e:Expr}{a:CE}{f:Bool->List D->Sto->Option (D × Sto)}{ks:List Keyword}{p c:Pos}(I:Snd T C ar k n)(G:CtxOk T C ar k b X)(d:∀j:TE,PE X e j->PE X (.Call (.Name x p) [e] ks c) (tUn (rSq X.K f) j))(h:aJ T n b e a=aN) :
  PE X (.Call (.Name x p) [e] ks c) (tE X.K (if ai a=aN then pX f (c6 C ar n a) else pY f (evE C ar n a))):=by
 split
 ·rename_i u;exact PE.imp (d _ (I.tm b X e a G u h)) λl H Q q=>Kq q
 ·exact PE.imp (d _ (I.e b X e a G h)) λl H Q q=>Ku q
def xz{x y:Str}(h:(x == y)=aN):x=y:=eq_of_beq h
def kI{K:Vp}{x:XE}{j:L2.St}{H:Hp}{Q Q':VK}(h:tE K x j H Q)(f:∀v c,Q v c->Q' v c):tE K x j H Q':=by
 obtain⟨m,l,S,d,u,E,R,e,q⟩:=h;exact⟨m,l,S,d,u,E,R,e,λy c v A vd=>f _ _ (q y c v A vd)⟩
def Ck{x:XE}{u:L2.St}{H:Hp}{Q:VK}{K:Vp}(h:fB K (mh x) u H Q):tUn (rTm K λ_ j=>aw j) (tE K x) u H Q:=by
 obtain⟨m,z,S,j,S',E,R,e,q⟩:=h;obtain⟨d,O,U,e⟩:=ab e;cases hi:av d O with
 |none=>rw[hi] at e;cases e
 |some r=>
  rw[hi] at e;cases e;refine⟨m,z,S,d,_,E,R,U,λm1 H1 v c vd=>?_⟩;obtain⟨a,vs,ev,J,f⟩:=eF (tu:=r.1) (ds:=r.2) c.rel vd hi;refine⟨m1,_,r.1,r.2,a,vs,r.2,c.rel,ev,J,f,rfl,λm2 H2 p Y L hp n1 y Z I=>?_⟩
  have B:H p=aD:=by
   cases eh:H p with
   |none=>rfl
   |some o=>
    by_cases l:p ∈ m
    ·exact absurd rfl (y p (c.ext.pre.subset l))
    ·have:=c.ext.keep p o eh l;rw[Z] at this;cases this
  exact q m2 H2 p Y (c.trans L) hp n1 (λb hb=>y b (c.ext.pre.subset hb)) B I
def Cm{x:XA}{j:L2.St}{H:Hp}{Q:VK}{K:Vp}(h:fB K x j H Q):tUn (rTm K λ_ d=>aw d) (fB K x) j H Q:=by
 obtain⟨m,u,S,d,S',E,R,e,q⟩:=h;refine⟨m,u,S,d,S',E,R,e,λm1 B a v c Y na _ _ vd=>?_⟩;refine⟨m1,_,aS,d,a,v,d,c.rel,rfl,show SqL K B a v from SqL.of Y,vd,rfl,λm2 Z p J I U O l L z=>?_⟩
 have y:H p=aD:=by
  cases eh:H p with
  |none=>rfl
  |some o=>
   by_cases f:p ∈ m
   ·exact absurd rfl (l p (c.ext.pre.subset f))
   ·have:=c.ext.keep p o eh f;rw[L] at this;cases this
 exact q m2 Z p J (c.trans I) U O (λb hb=>l b (c.ext.pre.subset hb)) y z
abbrev ifT(C:Calls)(ar:Nat->Nat)(n:Nat)(K:Vp):Option CE->TT
 |none=>EJ
 |some c=>tT K (evT C ar n c)
def mB(I:Snd T C ar k n)(G:CtxOk T C ar k b X){ifs:List Expr}{cond:Option CE}(h:Cj (fF T n b) ifs cond=aN):PTs X ifs (ifT C ar n X.K cond):=by
 cases cond with
 |none=>rw[fD h];exact EK
 |some c=>obtain⟨e,rfl,h⟩:=jB h;exact EL (I.t b X e c G h)
def vP{K:Vp}{cond:Option CE}{d:Addr}{c:XA}{D:Ends}{f:L2.St}{H:Hp}(q:tCl K d (cnd (evT C ar n) cond c) D f H):fu (ifT C ar n K cond) (tCl K d c) D f H:=by
 cases cond with
 |none=>exact KY q
 |some c=>exact Fu q
def sX(I:Snd T C ar k n)(G:CtxOk T C ar k b X){l:Option Expr}{lo:Option CE}(h:Ci (aJ T n b) l lo=aN):PO X l (tOI X.K (opt (evE C ar n) lo)):=by
 cases lo with
 |none=>
  cases l with
  |none=>exact PO.imp EB λd H Q q=>Fa q
  |some _=>cases h
 |some c=>obtain⟨e,rfl,h⟩:=zA h;exact PO.imp (wX (I.e b X e c G h)) λd H Q q=>Fb q
def Lv(O:Snd T C ar k n)(e:Expr)(gs:List WV)(u:CE)(B:List Cl)(G:CtxOk T C ar k b X)(h:oG T (n+1) b e gs u B=aN)(c:List WV)(j:Scope)(v:Pos)(l:Addr)(d:Nat)(hd:c.drop (d+1)=gs) :
  PTl X e c j v l d (tCl X.K l (gM C ar (n+1) u B)):=by
 have imp:∀ {t t':TS},PTl X e c j v l d t->(∀D y H,t' D y H->t D y H)->PTl X e c j v l d t':=λh f L s y H D I q=>h L s y H D I (f D y H q);cases B with
 |nil=>
  obtain⟨U,h⟩:=an2 h;cases fD U
  have Y:c[d+1]?=aD:=by
   have:=congrArg Zx hd;simp at this;exact Z9.mpr (by omega)
  exact imp (AO G.xe Y (O.e b X e u G h)) λD y H q=>Ft q
 |cons g J=>
  obtain⟨tg,it,cond⟩:=g;obtain⟨⟨t,i,ifs,as⟩,gs',rfl,h⟩:=e8 h;obtain⟨U,h1,h2,h3,h4⟩:=an5 h;cases of_decide_eq_true U
  have Y:c[d+1]?=aw ⟨t,i,ifs,0⟩:=by
   have:=congrArg (·[0]?) hd
   simpa using this
  have Z:c.drop (d+1+1)=gs':=by
   have:=congrArg (Xu 1) hd
   simpa[List.drop_drop] using this
  have Q:=gC h1 (λe he env=>e9 he) X.env;exact imp (EM Y (O.i [l] b X t i it G h1) (gD G h2) (mB O G h3) (O.cl b X e gs' u J G h4 c j v l (d+1) Z) G.xe G.calm Q) λD y H q=>BJ (λD y H z=>vP z) q
def PQ(I:Snd T C ar k n)(B:List Addr)(t e:Expr)(c:CI)(G:CtxOk T C ar k b X)(h:sU T (n+1) b t e c=aN):PI X t e (tIt X.K B (evI C ar (n+1) c)):=by
 cases c with
 |val a=>
  have h:=an2 h;show PI X t _ (tIt X.K B (if ai a=aN then xIT (c6 C ar n a) else xIV (evE C ar n a)));split
  ·rename_i z;exact PI.imp (wR (I.tm b X _ a G z h.1)) λj H R q=>RU q
  ·exact PI.imp (PI.or (wR (I.e b X _ a G h.1)) (JZ (I.e b X _ a G h.1))) λj H R q=>RT q
 |r1 a=>
  obtain⟨x,p,q,rfl,d,f,h4⟩:=ba h;exact PI.imp (yD (G.gl d).1 (G.bl _ (by decide)) (cy (I.e b X x a G f) h4) (ak h4)) λj H R q=>Pt q
 |dn a=>
  obtain⟨x,p,q,Y,Z,r2,O,U,J,rfl,d,f,h4⟩:=Je h;have m1:∀ {n p r},PE X (.UnaryOp .USub (.Constant (.int 1) n p) r) (tC (.int (-1))):=λ{n p r}=>PE.imp (Az uD uA) λj H Q q=>⟨1,rfl,q⟩;exact PI.imp (Py (G.gl d).1 (G.bl _ (by decide)) (eK (I.e b X x a G f) (eK m1 (cy m1 rfl) rfl) h4) (ak h4) rfl) λj H R q=>Pz q
 |r2 a c=>
  obtain⟨x,y,p,q,rfl,d,f,h4,v,l⟩:=my h;exact PI.imp (yE (G.gl d).1 (G.bl _ (by decide)) (eK (I.e b X x a G f) (cy (I.e b X y c G v) l) h4) (by rw[ak h4,ak l];rfl) (ak l)) λj H R q=>Pu q
 |en a=>
  have h:=an2 h;obtain⟨x,p,q,rfl,d,f,h4⟩:=ba h.1;obtain⟨u,L,tp,rfl,_⟩:=Ce h.2;exact PI.imp (Ko (G.gl d).1 (G.bl _ (by decide)) (cy (I.e b X x a G f) h4) (ak h4)) λj H R q=>Ps q
end
section
variable {T:Tab} {C:Calls} {ar:Nat->Nat} {k n:Nat} {b:Blk} {X:Cx}
def fT{k:Nat}{A:Around}(r:Room k A):A.units+64 < cLine:=r.units
def iW(K:Vp)(m:List Addr)(H:Hp):∀l:List Nat,VDs K m H (l.map λj=>D.int (Int.ofNat j)) (l.map λ(j:Nat)=>V.int j)
 |[]=>by rw[Z4,Z4,VDs]
 |a::l=>by rw[Zy,Zy,VDs];exact⟨_,_,rfl,bn,iW K m H l⟩
def FN{K:Vp}{m:List Addr}{H:Hp}{S:Sto}{p:Addr}{ks:List (List NK)}{d:List D}{v:List V}{Q:VK}(R:Rel K m S H)(c:H p=aD)(vd:VDs K m H d v)(hl:ks.length=d.length)(q:∀j f u,Aft K m H (S++[.dic ks d]) j f->VD K j f (.ref S.length) u->Q u f):Q (.ref p) (upd H p (.dT (ks.zip v))):=by
 have x:=Ext.beside R c (.dT (ks.zip v));have l:=R.beside c (.dT (ks.zip v));refine q (m++[p]) _ _ ⟨x.adopt c,?_⟩ ?_
 ·exact l.adoptP (R.no c) (ob:=.dic ks d) ⟨v,az,hl,VDs.mono0 (YD m [p]) (λ_ _ t=>t) (vd.mono R x)⟩
 ·rw[VD];exact⟨p,by rw[Zp (by rw[R.len];exact Zi _),R.len,Z8];rfl,rfl⟩
def qz{c:List Expr}{a:CE}(h:fE T n b c [a]=aN):∃y,c=[y]:=by
 cases n with
 |zero=>exact absurd h Zf
 |succ n=>
  obtain⟨e,c,rfl,h⟩:=e8 h;have h:=(an2 h).2;cases n with
  |zero=>exact absurd h Zf
  |succ n=>cases fD h;exact⟨e,rfl⟩
def FO(I:Snd T C ar k n){own:List Str}{j:CE}{y:Tg}{it:CI}{cond:Option CE}{d:List Cl}{e t i:Expr}{ifs:List Expr}{gs:List WV}{c:Scope}{l:Pos}(G:CtxOk T C ar k b X)
  (J:cmB own (mv own b.N) b.N c b.sc=aN) (B:sU T n b t i it=aN) (L:vL (b.inner own c) t y=aN) (O:Cj (fF T n (b.inner own c)) ifs cond=aN) (h4:oG T n (b.inner own c) e gs j d=aN) :
  PE X (.ListComp e (⟨t,i,ifs,0⟩::gs) c l) (fB X.K (l8 own.length (evI C ar n it) y (cnd (evT C ar n) cond (gM C ar n j d)) LF)):=by
 have S:CmScope own (mv own b.N) b.N c b.sc:=A0 _ J;have Y:CmScope own (mv own b.N) X.N c X.env.scope:=by rw[G.hN,G.hs];exact S
 have v:=gC B (λe Z env=>e9 Z) X.env
 refine PE.imp (EN (g:=tTg X.K y) (ti:=ifT C ar n X.K cond) (t:=λf=>tCl X.K f (gM C ar n j d)) G.calm Y (I.i [] b X t i it G B) (λu ex s H=>gD (G.inner S (C':=u) (ex:=ex) (s:=s) (H:=H)) L) (λu ex s H=>mB I (G.inner S (C':=u) (ex:=ex) (s:=s) (H:=H)) O)
  (λu ex s H f=>I.cl _ _ e gs j d (G.inner S (C':=u) (ex:=ex) (s:=s) (H:=H)) h4 _ c l f 0 rfl) v) λU H Q q=>?_
 exact xm (λf D U H z=>vP z) q
def Lx{x:XE}{O:L2.St}{H:Hp}{Q:VK}{K:Vp}(h:fB K (zx x) O H Q):tE K x O H λv c=>∃i:Nat,v = .int i/\i<=1000/\∀p,c p=aD->∀l,upd c p (.rng 0 i) l=aD->Q (.ref l) (upd (upd c p (.rng 0 i)) l (.lst ((Ze i).map λ(j:Nat)=>V.int j))):=by
 obtain⟨m,Z,S,ds,Y,E,R,e,q⟩:=h;obtain⟨d,S1,e1,e⟩:=ab e;cases d with
 |int i=>
  dsimp only at e;split at e
  ·rename_i hi;cases e;refine⟨m,Z,S,.int i,_,E,R,e1,λm1 c v f vd=>⟨i.toNat,by rw[vd.ints];congr 1;lia,by lia,λp I l u=>?_⟩⟩;have B:Aft K m1 c Y m1 (upd c p (.rng 0 i.toNat)):=⟨Ext.beside f.rel I _,f.rel.beside I _⟩;have A3:Aft K m1 (upd c p (.rng 0 i.toNat)) Y m1 (upd (upd c p (.rng 0 i.toNat)) l (.lst ((Ze i.toNat).map λ(j:Nat)=>V.int j))):=⟨Ext.beside B.rel u _,B.rel.beside u _⟩;have y:l ∉ m1:=B.rel.no u
   have U:c l=aD:=by
    cases J:c l with
    |none=>rfl
    |some o=>rw[(Ext.beside f.rel I (.rng 0 i.toNat)).keep l o J y] at u;cases u
   have nH:H l=aD:=by
    cases J:H l with
    |none=>rfl
    |some o=>
     by_cases L:l ∈ m
     ·exact absurd (f.ext.pre.subset L) y
     ·rw[f.ext.keep l o J L] at U;cases U
   refine q m1 _ l _ (f.trans (B.trans A3)) az y (λb hb z=>y (z ▸ f.ext.pre.subset hb)) nH ?_;exact iW _ _ _ _
  ·cases e
 |_=>cases e
def FP{c:L2.St}{H:Hp}{Q:VK}{K:Vp}(h:tE K BZ c H Q):AX c H Q:=by
 obtain⟨m,j,S,d,l,E,R,e,q⟩:=h;cases e;exactλp f=>FN R f (show VDs K m H [] [] by rw[VDs]) rfl q
def Ly{f:Bool->List D->Option (List D)}{x:XE}{y:L2.St}{H:Hp}{Q:VK}{K:Vp}(h:fB K (zw f x) y H Q):tUn (rTm K f) (tE K x) y H Q:=by
 obtain⟨m,B,S,O,S',E,R,e,q⟩:=h;obtain⟨d,Y,Z,e⟩:=ab e;cases hi:av d Y with
 |none=>rw[hi] at e;cases e
 |some r=>
  rw[hi] at e;dsimp only at e;cases l:f r.1 r.2 with
  |none=>rw[l] at e;cases e
  |some es=>
  rw[l] at e;cases e;refine⟨m,B,S,d,_,E,R,Z,λm1 H1 v c vd=>?_⟩;obtain⟨a,vs,ev,L,j⟩:=eF (tu:=r.1) (ds:=r.2) c.rel vd hi;refine⟨m1,_,r.1,r.2,a,vs,O,c.rel,ev,L,j,l,λm2 H2 p ws U hp n1 z n3 J=>?_⟩
  have I:H p=aD:=by
   cases eh:H p with
   |none=>rfl
   |some o=>
    by_cases u:p ∈ m
    ·exact absurd rfl (z p (c.ext.pre.subset u))
    ·have:=c.ext.keep p o eh u;rw[n3] at this;cases this
  exact q m2 H2 p ws (c.trans U) hp n1 (λb hb=>z b (c.ext.pre.subset hb)) I J
def Lz{f:Bool->List D->Option (List D)}{x:XA}{u:L2.St}{H:Hp}{Q:VK}{K:Vp}(h:fB K (zv f x) u H Q):tUn (rTm K f) (fB K x) u H Q:=by
 obtain⟨m,z,S,es,S',E,R,e,q⟩:=h;obtain⟨d,S1,O,e⟩:=ab e;cases j:f aS d with
 |none=>rw[j] at e;cases e
 |some es'=>
 rw[j] at e;cases e;refine⟨m,z,S,d,_,E,R,O,λm1 J a v c ha na _ _ vd=>?_⟩;refine⟨m1,_,aS,d,a,v,es,c.rel,rfl,show SqL K J a v from SqL.of ha,vd,j,λm2 H2 p U L hp Z y Y I=>?_⟩
 have B:H p=aD:=by
  cases eh:H p with
  |none=>rfl
  |some o=>
   by_cases l:p ∈ m
   ·exact absurd rfl (y p (c.ext.pre.subset l))
   ·have:=c.ext.keep p o eh l;rw[Y] at this;cases this
 exact q m2 H2 p U (c.trans L) hp Z (λb hb=>y b (c.ext.pre.subset hb)) B I
def Cn(I:Snd T C ar k n)(e:Expr)(c:CE)(G:CtxOk T C ar k b X)(B:ai c=aN)(h:aJ T (n+1) b e c=aN):PE X e (fB X.K (c6 C ar (n+1) c)):=by
 cases c with
 |lst Z=>
  obtain⟨es,p,rfl,L⟩:=Lq h;exact PE.imp (Kb (I.a b X es Z G L)) λu H Q q=>EZ q
 |listOf a=>
  obtain⟨x,p,q,rfl,d,j,h4⟩:=ba h;show PE X _ (fB X.K (if ai a=aN then c6 C ar n a else mh (evE C ar n a)));split
  ·rename_i B;exact PE.imp (kH lY G d (by decide) WI (by decide) (I.tm b X x a G B j) h4) λu H Q q=>Cm q
  ·exact PE.imp (kH lY G d (by decide) WI (by decide) (I.e b X x a G j) h4) λu H Q q=>Ck q
 |listR a=>
  obtain⟨x,p,q,rfl,d,j,h4⟩:=ba h;obtain⟨y,p',q',rfl,U,h6,Y⟩:=ba j
  exact PE.imp (eC (pU G.calm) (G.gl d).1 (G.bl _ (by decide)) WI (cy (eC jU (G.gl U).1 (G.bl _ (by decide)) WL (cy (I.e b X y a G h6) Y) (by decide) (G.gl U).2 (ak Y) rfl) h4) (by decide) (G.gl d).2 (ak h4) rfl) λu H Q q=>kI (Lx q) λv H1 ⟨i,ev,hi,z⟩=>by
    subst ev;exact⟨i,rfl,λp hp=>⟨p,i,rfl,az,hi,λl hl=>z p hp l hl⟩⟩
 |srt a=>
  obtain⟨x,p,q,rfl,d,j,h4⟩:=ba h;show PE X _ (fB X.K (if ai a=aN then zv cP (c6 C ar n a) else zw cP (evE C ar n a)));split
  ·rename_i B;exact PE.imp (gF (oC (fT G.room)) G d (by decide) WM (by decide) (I.tm b X x a G B j) h4) λu H Q q=>Lz (f:=cP) q
  ·exact PE.imp (gF (oC (fT G.room)) G d (by decide) WM (by decide) (I.e b X x a G j) h4) λu H Q q=>Ly (f:=cP) q
 |comp own elt cls=>
  obtain⟨tg,it,cond,O,rfl,hc⟩:=Jf h;obtain⟨el,t,i,ifs,gs,J,p,rfl,L⟩:=xy hc;obtain⟨h0,h1,d,j,h4⟩:=an5 L;exact FO I G h0 h1 d j h4
 |_=>cases B
def kJ{y:Expr}{c:Pos}(h:aI y=aN):((backTo c (Uv [y] X.env)).all (λx=>!x.1) && (VM c (Ub [] X.env)).all (λx=>x.1.isSome) && decide (([y]:List Expr).length+([]:List Keyword).length+(if ([]:List Keyword).isEmpty then 0 else 1) < 30))=aN:=by
 rw[ak h];rfl
def PR(I:Snd T C ar k n)(e:Expr)(c:CE)(G:CtxOk T C ar k b X)(h:aJ T (n+1) b e c=aN):PE X e (tE X.K (evE C ar (n+1) c)):=by
 have hu:=fT G.room
 have tmp:ai c=aN->evE C ar (n+1) c=dP (c6 C ar (n+1) c)->PE X e (tE X.K (evE C ar (n+1) c)):=λht he=>by
  rw[he];exact PE.imp (Cn I e c G ht h) λL H Q q=>sf q
 cases c with
 |non=>obtain⟨_,_,rfl⟩:=Cd h;exact PE.imp Am λL H Q q=>Bc (λ_ _=>p0) q
 |bl v=>obtain⟨_,_,rfl⟩:=PL h;exact PE.imp OJ λL H Q q=>Bc (λ_ _=>cp) q
 |int v=>obtain⟨_,_,rfl⟩:=qt h;exact PE.imp uA λL H Q q=>Bc (λ_ _=>bn) q
 |str v=>obtain⟨_,_,rfl⟩:=Lp h;exact PE.imp JO λL H Q q=>Bc (λ_ _=>uR) q
 |var i=>
  obtain⟨x,p,rfl,hh⟩:=qu h;have hh:=an2 hh;have v:=G.vis hh.2;exact PE.imp (uz (i:=i) (by rw[G.hN];exact eq_of_beq hh.1) v.1 v.2.1 v.2.2) λL H Q q=>Kr q
 |con k' v=>
  obtain⟨x,p,rfl,hh⟩:=qu h;have hh:=an2 hh;have g:=G.gl hh.2;obtain⟨tk,hm⟩:=G.con k' x v (eq_of_beq hh.1);exact PE.imp (Ej (v:=.int v) g.1 hm ⟨tk,rfl⟩ g.2) λL H Q q=>Bc (λ_ _=>bn) q
 |tup cs=>obtain⟨Z,_,_,rfl,hh⟩:=Ce h;exact PE.imp (AF (I.a b X Z cs G hh)) λL H Q q=>Kt q
 |lst cs=>exact tmp rfl rfl
 |dic0=>obtain⟨p,rfl⟩:=FM h;exact PE.imp AY λL H Q q=>FP q
 |bin o a O=>obtain⟨l,r,p,rfl,u,B⟩:=Lr h;exact PE.imp (OZ (E9 o) (I.e b X l a G u) (I.e b X r O G B)) λL H Q q=>pZ q
 |neg a=>obtain⟨x,p,rfl,hh⟩:=qv h;exact PE.imp (Az Fv (I.e b X x a G hh)) λL H Q q=>Ba q
 |cmp o a O=>obtain⟨l,r,p,rfl,u,B,h4⟩:=Cg h;exact PE.imp (Eu (gA hu o) (I.e b X l a G u) (I.e b X r O G B) (ig h4)) λL H Q q=>pZ q
 |chn o p' a O d=>obtain⟨l,r,s,p,rfl,u,B,h4,U⟩:=Ch h;exact PE.imp (AB (gA hu o) (gA hu p') (I.e b X l a G u) (I.e b X r O G B) (I.e b X s d G h4) (mz U)) λL H Q q=>BM q
 |and a O=>
  rcases FJ h with h |h
  ·obtain⟨x,y,p,rfl,Y,u⟩:=qw h;exact PE.imp (Ap (I.e b X x a G Y) (Ao (I.e b X y O G u))) λL H Q q=>BL q
  ·obtain⟨x,y,z,ys,p,rfl,Y,u⟩:=qx h;exact PE.imp (Ap (I.e b X x a G Y) (I.e b X _ O G u)) λL H Q q=>BL q
 |or a O=>
  rcases FJ h with h |h
  ·obtain⟨x,y,p,rfl,Y,u⟩:=qw h;exact PE.imp (Ix (I.e b X x a G Y) (Ao (I.e b X y O G u))) λL H Q q=>IT q
  ·obtain⟨x,y,z,ys,p,rfl,Y,u⟩:=qx h;exact PE.imp (Ix (I.e b X x a G Y) (I.e b X _ O G u)) λL H Q q=>IT q
 |not a=>obtain⟨x,p,rfl,hh⟩:=Cf h;exact PE.imp (JR (I.e b X x a G hh)) λL H Q q=>K1 q
 |ite t a O=>obtain⟨x,y,z,p,rfl,Y,u,B⟩:=Ls h;exact PE.imp (Aq (I.t b X x t G Y) (I.e b X y a G u) (I.e b X z O G B)) λL H Q q=>K2 q
 |ix a O=>
  obtain⟨x,y,p,rfl,Y,u,B⟩:=PM h;show PE X _ (tE X.K (if ai a=aN then uV (c6 C ar n a) (evE C ar n O) else se ixS (evE C ar n a) (evE C ar n O)));split
  ·rename_i ht;exact PE.imp (IK AK (I.tm b X x a G ht Y) (I.e b X y O G u) (sV B)) λL H Q q=>KG q
  ·exact PE.imp (IK (RP hu) (I.e b X x a G Y) (I.e b X y O G u) (sV B)) λL H Q q=>pZ q
 |sl a lo hi=>obtain⟨x,y,z,p,p',rfl,Y,u,B⟩:=PN h;exact PE.imp (AI RQ (I.e b X x a G Y) (sX I G u) (sX I G B)) λL H Q q=>Pl q
 |call f cs=>
  obtain⟨x,e,Z,p,p',rfl,h12,B⟩:=FK (k:=λx=>oA T.fns[f]? (λy=>y.1 == x) && b.glo x) (l:=λZ=>fE T n b Z cs) (e:=e) h;obtain⟨Y,u⟩:=an2 h12
  ·obtain⟨y,hy,Y⟩:=zA Y;have hx:=xz Y;subst hx;obtain⟨ha,fa,fd,ps,hm,hk,hb,F⟩:=G.fns f y hy;have J:=bK B;have g:=G.gl u;exact PE.imp (Ez F G.room g.1 hm hk hb .nil Pc (I.a b X (e::Z) cs G B) g.2 (ak (J e Zk)) (jD λe he=>J e (Zh _ he))) λL H Q q=>Fw q
 |inst t a=>
  obtain⟨x,y,p,p',rfl,u,U,h6,h7,_⟩:=my h;obtain⟨y,p'',rfl,h8⟩:=qu h7;obtain⟨B,h4⟩:=an2 h8;have hy:=xz B;subst hy
  have ty:PE X (.Name (Str.ofString t.nm) p'') (tC (.ty t.nm)):=by
   have g:=G.gl h4;cases t with
   |int=>exact iG g.1 (G.bl _ (by decide)) WH rfl (by decide) g.2
   |bool=>exact iG g.1 (G.bl _ (by decide)) PyProof.Rows.boot_bool rfl (by decide) g.2
   |tuple=>exact iG g.1 (G.bl _ (by decide)) WN rfl (by decide) g.2
   |list=>exact iG g.1 (G.bl _ (by decide)) WI rfl (by decide) g.2
   |str=>exact iG g.1 (G.bl _ (by decide)) PyProof.Rows.boot_str rfl (by decide) g.2
  exact PE.imp (fI (pV X.K) (G.gl u).1 (G.bl _ (by decide)) PyProof.Rows.boot_isinstance (eK (I.e b X x a G U) (cy ty rfl) h6) (by decide) (G.gl u).2 (ak h6) rfl) λL H Q q=>Ff q
 |len a=>obtain⟨x,p,p',rfl,u,B,h4⟩:=ba h;exact jE I G (λte z=>gF y8 G u (by decide) VS (by decide) z h4) B
 |all a=>obtain⟨x,p,p',rfl,u,B,h4⟩:=ba h;exact jE I G (λte z=>gF (zd G.calm) G u (by decide) PyProof.Rows.boot_all (by decide) z h4) B
 |any a=>obtain⟨x,p,p',rfl,u,B,h4⟩:=ba h;exact jE I G (λte z=>gF (ze G.calm) G u (by decide) PyProof.Rows.boot_any (by decide) z h4) B
 |mxL a=>obtain⟨x,p,p',rfl,u,B,h4⟩:=ba h;exact jE I G (λte z=>gF (zj G.calm) G u (by decide) WJ (by decide) z h4) B
 |rev a=>obtain⟨x,k,p,p2,p3,p4,rfl,Y⟩:=Lu h;exact PE.imp (KO (I.e b X x a G Y)) λL H Q q=>Ba q
 |mnN a=>
  obtain⟨x,p,q,j,p',q',rfl,u,B,h4⟩:=FL h;exact jE I G (λte z=>PE.imp (K6 hu G.calm (G.gl u).1 (G.bl _ (by decide)) (G.gl u).2 (cy z h4) (ak h4)) λL H Q q=>q) B
 |intOf a=>obtain⟨x,p,p',rfl,u,B,h4⟩:=ba h;exact PE.imp (kH zk G u (by decide) WH (by decide) (I.e b X x a G B) h4) λL H Q q=>Ba q
 |tupOf a=>obtain⟨x,p,p',rfl,u,B,h4⟩:=ba h;exact jE I G (λte z=>kH y9 G u (by decide) WN (by decide) z h4) B
 |listOf a=>exact tmp rfl rfl
 |listR a=>exact tmp rfl rfl
 |srt a=>exact tmp rfl rfl
 |mx a O=>
  obtain⟨x,Z,p,p',rfl,u,B⟩:=sS (b:=b) (f := "max") (k:=λZ=>fE T n b Z [a,O]) (e:=e) h;have J:=bK B;exact PE.imp (fI (vf G.calm) (G.gl u).1 (G.bl _ (by decide)) WJ (I.a b X (x::Z) [a,O] G B) (by decide) (G.gl u).2 (ak (J x Zk)) (jD λe he=>J e (Zh _ he))) λL H Q q=>Bb q
 |mn a O=>
  obtain⟨x,Z,p,p',rfl,u,B⟩:=sS (b:=b) (f := "min") (k:=λZ=>fE T n b Z [a,O]) (e:=e) h;have J:=bK B;exact PE.imp (fI (vg G.calm) (G.gl u).1 (G.bl _ (by decide)) WK (I.a b X (x::Z) [a,O] G B) (by decide) (G.gl u).2 (ak (J x Zk)) (jD λe he=>J e (Zh _ he))) λL H Q q=>Bb q
 |comp own elt cls=>exact tmp rfl rfl
 |app o a=>
  obtain⟨x,ap,Z,p,rfl,u,B,h4,U⟩:=qy h;obtain⟨y,rfl⟩:=qz U;have J:=bK U y (by simp);exact PE.imp (w4 W4 W8 PySem.F.type_list_append KP (I.e b X x o G h4) (I.a b X [y] [a] G U) (fb u) (kJ J) B (ak J) rfl) λL H Q q=>qi (λR vd c=>Bx R vd c) q
 |popAt o a=>
  obtain⟨x,ap,Z,p,rfl,u,B,h4,U⟩:=qy h;obtain⟨y,rfl⟩:=qz U;have J:=bK U y (by simp);exact PE.imp (w4 W4 W9 PySem.F.type_list_pop zm (I.e b X x o G h4) (I.a b X [y] [a] G U) (fb u) (kJ J) B (ak J) rfl) λL H Q q=>qi (λR vd c=>Bx R vd c) q
 |cnt o a=>
  obtain⟨x,ap,Z,p,rfl,u,B,h4,U⟩:=qy h;obtain⟨y,rfl⟩:=qz U;have J:=bK U y (by simp);exact PE.imp (w4 W5 Vb PySem.F.type_tuple_count Fh (I.e b X x o G h4) (I.a b X [y] [a] G U) (fb u) (kJ J) B (ak J) rfl) λL H Q q=>qi (λR vd c=>Bz R vd c) q
 |idx o a=>
  obtain⟨x,ap,Z,p,rfl,u,B,h4,U⟩:=qy h;obtain⟨y,rfl⟩:=qz U;have J:=bK U y (by simp);exact PE.imp (w4 W5 Vc PySem.F.type_tuple_index FC (I.e b X x o G h4) (I.a b X [y] [a] G U) (fb u) (kJ J) B (ak J) rfl) λL H Q q=>qi (λR vd c=>Bz R vd c) q
 |tupR a=>
  obtain⟨x,p,q,rfl,u,B,h4⟩:=ba h;obtain⟨y,p',q',rfl,U,h6,h7⟩:=ba B
  exact PE.imp (eC (sP G.calm) (G.gl u).1 (G.bl _ (by decide)) WN (cy (eC jU (G.gl U).1 (G.bl _ (by decide)) WL (cy (I.e b X y a G h6) h7) (by decide) (G.gl U).2 (ak h7) rfl) h4) (by decide) (G.gl u).2 (ak h4) rfl) λL H Q q=>kI (FE q) λv H1 ⟨i,ev,hi,z⟩=>by
    subst ev;exact⟨i,rfl,λp hp=>⟨p,i,rfl,az,hi,λl hl=>z p hp l hl⟩⟩
end
section
variable {T:Tab} {C:Calls} {ar:Nat->Nat} {k n:Nat} {b:Blk} {X:Cx}
def xD{op:BoolOp}{v:List Expr}{p:Pos}{t:TT}(h:PT X (.BoolOp op v p) t):PW X (.BoolOp op v p) t:=λd c s f H Q I q=>h c s f H Q I q
def PU(I:Snd T C ar k n)(e:Expr)(c:CE)(G:CtxOk T C ar k b X)(h:fF T (n+1) b e c=aN):PT X e (tT X.K (evT C ar (n+1) c)):=by
 have J:=fT G.room
 have dflt:evT C ar (n+1) c=Fc (evE C ar n c)->(aJ T n b e c && Lh e)=aN->PT X e (tT X.K (evT C ar (n+1) c)):=λU B=>by
  rw[U];have B:=an2 B;exact PT.imp (AE (I.e b X e c G B.1) (vO B.2)) λv H Q q=>KJ q
 cases c with
 |cmp o a u=>obtain⟨l,r,p,rfl,f,L,h4⟩:=Cg h;exact PT.imp (Ew (gA J o) (I.e b X l a G f) (I.e b X r u G L) (ig h4)) λv H Q q=>pZ (Pn q)
 |chn o Z a u d=>obtain⟨l,r,s,p,rfl,f,L,h4,O⟩:=Ch h;exact PT.imp (AC (gA J o) (gA J Z) (I.e b X l a G f) (I.e b X r u G L) (I.e b X s d G h4) (mz O)) λv H Q q=>BM (Pn q)
 |and a u=>
  rcases FJ h with h |h
  ·obtain⟨x,y,p,rfl,j,f⟩:=qw h;exact PT.imp (An (I.t b X x a G j) (Ek (I.t b X y u G f))).pt λv H Q q=>BP q
  ·obtain⟨x,y,z,Y,p,rfl,j,f⟩:=qx h;exact PT.imp (An (I.t b X x a G j) (xD (I.t b X _ u G f))).pt λv H Q q=>BP q
 |or a u=>
  rcases FJ h with h |h
  ·obtain⟨x,y,p,rfl,j,f⟩:=qw h;exact PT.imp (Iu (I.t b X x a G j) (JP (I.t b X y u G f))).pt λv H Q q=>IU q
  ·obtain⟨x,y,z,Y,p,rfl,j,f⟩:=qx h;exact PT.imp (Iu (I.t b X x a G j) (xD (I.t b X _ u G f))).pt λv H Q q=>IU q
 |not a=>obtain⟨x,p,rfl,j⟩:=Cf h;exact PT.imp (JQ (I.t b X x a G j)) λv H Q q=>K4 q
 |ite _ _ _=>cases h
 |_=>exact dflt rfl h
def snd:∀n,Snd T C ar k n
 |0=>⟨λb X e c _ h=>absurd h Zf,λb X e c _ _ h=>absurd h Zf,λb X e c _ h=>absurd h Zf,λb X e c _ h=>absurd h Zf,λB b X t e c _ h=>absurd h Zf,λb X e gs f d _ h=>absurd h Zf⟩
 |n+1=>⟨λb X e c G h=>PR (snd n) e c G h,λb X e c G q h=>Cn (snd n) e c G q h,λb X l j G h=>PP (snd n) l j G h,λb X e c G h=>PU (snd n) e c G h,λB b X t e c G h=>PQ (snd n) B t e c G h,λb X e gs f d G h=>Lv (snd n) e gs f d G h⟩
end
inductive CS where |asg (t:Tg)(e:CE) |setI (v o i:CE) |ex (e:CE) |ret (e:CE) |ifs (c:CE)(a b:List CS) |for_ (t:Tg)(it:CI)(b:List CS) |cnt |never
abbrev FQ:XS:=λ_ _=>aD
mutual
noncomputable def evS(C:Calls)(d:Nat->Nat):Nat->CS->XS
 |0,_=>FQ
 |n+1,s=>match s with
  |.asg t e=>nD (evE C d n e) t
  |.setI v o i=>sK (evE C d n v) (evE C d n o) (evE C d n i)
  |.ex e=>sJ (evE C d n e)
  |.ret e=>BF (evE C d n e)
  |.ifs c a b=>xIf (evT C d n c) (gN C d n a) (gN C d n b)
  |.for_ t it b=>BG (evI C d n it) t (gN C d n b) LF
  |.cnt=>Pv
  |.never=>FQ
noncomputable def gN(C:Calls)(b:Nat->Nat):Nat->List CS->XS
 |0,_=>FQ
 |n+1,ss=>match ss with
  |[]=>IR
  |s::ss=>BE (evS C b n s) (gN C b n ss)
end
abbrev Co:Expr->Bool
 |.Starred _ _=>aN
 |_=>aS
abbrev gG(sc:Scope)(l:Nat)(T:List Expr):List Str:=T.filterMap λ
 |.Name id pos=>if sc.names.lookup id == aw .local && pos.line == l then aw id else aD
 |_=>aD
abbrev xE(sc:Scope)(ts vs:List Expr):Option (Option (List Str)):=
 if (!(ts.length == 2 || ts.length == 3) || vs.length != ts.length)=aN then aw aD
 else if (vs.any Co)=aN then aw aD
 else if ((gG sc ((ts.head?.map (·.pos.line)).getD 0) ts).length != ts.length || (gG sc ((ts.head?.map (·.pos.line)).getD 0) ts).eraseDups.length != (gG sc ((ts.head?.map (·.pos.line)).getD 0) ts).length)=aN then aw aD
 else if (vs.all (foldedForSure 8))=aN then aw aD
 else if (vs.all (constantsAlone 8))=aN then aD
 else aw (aw (gG sc ((ts.head?.map (·.pos.line)).getD 0) ts))
def PV{k k2:Nat}(l:env.blockKind = .function)(hs:env.scope=sc)(h:xE sc ts v=aw r):Uw [.Tuple ts k p] (.Tuple v k2 p2) env=pure r:=by
 unfold xE at h;unfold Uw
 have j:(v.any λ|.Starred ..=>aN |_=>aS)=v.any Co:=by
  congr 1
 have f:(ts.filterMap λ
   |.Name id pos=>if env.kindOf id == aw .local && pos.line == ((ts.head?.map (·.pos.line)).getD 0) then aw id else aD
   | _=>aD)=gG sc ((ts.head?.map (·.pos.line)).getD 0) ts:=by
  unfold gG Env.kindOf;rw[hs]
 have u:(env.blockKind != .function)=aS:=by rw[l];rfl
 simp only[u,Wy];split at h
 ·rename_i d;rw[if_pos d];cases h;rfl
 rename_i d;rw[if_neg d];split at h
 ·rename_i C;cases h;exact if_pos (j.trans C)
 rename_i C;refine Eq.trans (if_neg λz=>C (j.symm.trans z)) ?_;split at h
 ·rename_i c;cases h;rw[<-f] at c;exact if_pos c
 rename_i c;rw[<-f] at c h;refine Eq.trans (if_neg c) ?_;split at h
 ·rename_i b;cases h;exact if_pos b
 rename_i b;refine Eq.trans (if_neg b) ?_;split at h
 ·cases h
 rename_i q;cases h;exact if_neg q
abbrev Cp:Expr->Option (Scope × Pos)
 |.ListComp _ _ s p=>aw (s,p)
 |.SetComp _ _ s p=>aw (s,p)
 |.DictComp _ _ _ s p=>aw (s,p)
 |_=>aD
abbrev swW(sc:Scope)(v:Expr)(t:Str)(b:Pos):Bool:=match Cp v with
 |none=>aS
 |some (s,p)=>sc.names.lookup t == aw .local && b.line == p.line && !(s.names.any λy=>y.1 == t && (y.2 == .local || y.2 == .cell))
def LA{line:Nat}(c:env.blockKind = .function)(hs:env.scope=sc):Ux v (aw (.Name t pos)) line env=pure (swW sc v t pos):=by
 unfold Ux swW Cp;have b:(env.blockKind == .function)=aN:=by rw[c];rfl
 cases v <;> first |rfl |(simp only[b,YZ,Env.kindOf,hs];rfl)
def sY{l:Nat}(h:∀x p,T ≠ .Name x p):Uy [T] v l env=pure aS:=by
 show Ux v (aw T) l env=pure aS;unfold Ux;cases v <;> first |rfl |(cases T <;> first |rfl |(exact absurd rfl (h _ _)))
def xF(h:(∀b k p,v ≠ .Tuple b k p)\/(∃x p,T = .Name x p)\/(∃o i p,T = .Subscript o i p)):Uw [T] v env=pure aD:=by
 unfold Uw;rcases h with h |⟨x,p,rfl⟩ |⟨o,i,p,rfl⟩
 ·split
  ·rename_i e;split at e
   ·exact absurd rfl (h _ _ _)
   ·exact absurd rfl (h _ _ _)
   ·cases e
  ·rfl
 ·rfl
 ·rfl
abbrev nmL:List Expr->Option (List Str)
 |[]=>aw []
 |e::es=>match B7 e,nmL es with
  |some r,aw xs=>aw (r.1::xs)
  |_,_=>aD
def sZ(h:nmL c=aw (x::xs)):∃p b,c = .Name x p::b/\nmL b=aw xs:=by
 cases c with
 |nil=>cases h
 |cons e c=>
  rw[nmL] at h;split at h
  ·rename_i r y f d;cases h;exact⟨_,c,by rw[qp f],d⟩
  ·cases h
def FR(h:nmL b=aw []):b=[]:=by
 cases b with
 |nil=>rfl
 |cons e b=>
  rw[nmL] at h;split at h <;> cases h
abbrev tgL:List Tg->Option (List Nat)
 |[]=>aw []
 |.name i::ts=>match tgL ts with
  |some is=>aw (i::is)
  |none=>aD
 |.tup _::_=>aD
def Cq:∀ {T:List Tg} {is:List Nat},tgL T=aw is->T=is.map Tg.name
 |[],_,h=>by cases h;rfl
 |.name i::T,is,h=>by
  rw[tgL] at h;cases e:tgL T with
  |none=>rw[e] at h;cases h
  |some js=>rw[e] at h;cases h;rw[Cq e];rfl
 |.tup _::_,_,h=>by cases h
abbrev PX(b:Blk)(ns:List Str)(is:List Nat):Bool:=match ns with
 | [x,y]=>(match is with
  |[i,j]=>b.N[i]? == aw x && b.N[j]? == aw y && i != j && b.sc.names.lookup x == aw .local && b.sc.names.lookup y == aw .local
  | _=>aS)
 |_=>aS
abbrev RX(e:Expr):Bool:=jC e λ_ _ _ _=>aN
abbrev RY(e:Expr):Bool:=e.ctorIdx == 24
abbrev vQ(T:Tab)(n:Nat)(b:Blk)(d e:Expr)(t:Tg)(c:CE):Bool:=match t with
 | .name i=>(match B7 d with
  |some r=>aJ T n b e c && b.N[i]? == aw r.1 && b.own r.1 && (!(swW b.sc e r.1 r.2) || (RX e && b.sc.names.lookup r.1 == aw .local))
  | none=>aS)
 | .tup gs=>(match zy d with
  | some r=>aJ T n b e c && (match zy e with
   | some q=>(match xE b.sc r.1 q.1 with
    |some aD=>mw b r.1 gs
    | some (aw ns)=>(match tgL gs with
     |some is=>nmL r.1 == aw ns && q.1.length == ns.length && PX b ns is
     | none=>aS)
    | none=>aS)
   | none=>!(RY e) && mw b r.1 gs)
  | none=>aS)
abbrev xG(e:Stmt)(k:Option Expr->Pos->Bool):Bool:=if h:e.ctorIdx=3 then @Stmt.Return.elim (λ_=>Bool) e h k else aS
def zB(h:xG e k=aN):∃b X,e = .Return b X/\k b X=aN:=by
 obtain⟨c,h⟩:=bU h;exact Stmt.Return.elim (motive_2:=λe=>∀d,@Stmt.Return.elim (λ_=>Bool) e d k=aN->∃b X,e = .Return b X/\k b X=aN) e c (λb X _ f=>⟨b,X,rfl,f⟩) c h
abbrev qA(e:Stmt)(k:List Expr->Expr->Pos->Bool):Bool:=if h:e.ctorIdx=5 then @Stmt.Assign.elim (λ_=>Bool) e h k else aS
def oJ(h:qA e k=aN):∃c b X,e = .Assign c b X/\k c b X=aN:=by
 obtain⟨d,h⟩:=bU h;exact Stmt.Assign.elim (motive_2:=λe=>∀f,@Stmt.Assign.elim (λ_=>Bool) e f k=aN->∃c b X,e = .Assign c b X/\k c b X=aN) e d (λc b X _ j=>⟨c,b,X,rfl,j⟩) d h
abbrev PY(e:Stmt)(k:Expr->Expr->List Stmt->List Stmt->Pos->Bool):Bool:=if h:e.ctorIdx=9 then @Stmt.For.elim (λ_=>Bool) e h k else aS
def LB(h:PY e k=aN):∃c b X d f,e = .For c b X d f/\k c b X d f=aN:=by
 obtain⟨j,h⟩:=bU h;exact Stmt.For.elim (motive_2:=λe=>∀l,@Stmt.For.elim (λ_=>Bool) e l k=aN->∃c b X d f,e = .For c b X d f/\k c b X d f=aN) e j (λc b X d f _ q=>⟨c,b,X,d,f,rfl,q⟩) j h
abbrev jIf(e:Stmt)(k:Expr->List Stmt->List Stmt->Pos->Bool):Bool:=if h:e.ctorIdx=12 then @Stmt.If.elim (λ_=>Bool) e h k else aS
def PZ(h:jIf e k=aN):∃c b X d,e = .If c b X d/\k c b X d=aN:=by
 obtain⟨f,h⟩:=bU h;exact Stmt.If.elim (motive_2:=λe=>∀j,@Stmt.If.elim (λ_=>Bool) e j k=aN->∃c b X d,e = .If c b X d/\k c b X d=aN) e f (λc b X d _ l=>⟨c,b,X,d,rfl,l⟩) f h
abbrev Jg(e:Stmt)(k:Expr->Pos->Bool):Bool:=if h:e.ctorIdx=24 then @Stmt.Expr.elim (λ_=>Bool) e h k else aS
def FS(h:Jg e k=aN):∃b X,e = .Expr b X/\k b X=aN:=by
 obtain⟨c,h⟩:=bU h;exact Stmt.Expr.elim (motive_2:=λe=>∀d,@Stmt.Expr.elim (λ_=>Bool) e d k=aN->∃b X,e = .Expr b X/\k b X=aN) e c (λb X _ f=>⟨b,X,rfl,f⟩) c h
abbrev oK(e:Stmt)(k:Pos->Bool):Bool:=if h:e.ctorIdx=27 then @Stmt.Continue.elim (λ_=>Bool) e h k else aS
def td(h:oK e k=aN):∃X,e = .Continue X/\k X=aN:=by
 obtain⟨b,h⟩:=bU h;exact Stmt.Continue.elim (motive_2:=λe=>∀c,@Stmt.Continue.elim (λ_=>Bool) e c k=aN->∃X,e = .Continue X/\k X=aN) e b (λX _ d=>⟨X,rfl,d⟩) b h
abbrev qB(e:Expr):Bool:=e.ctorIdx == 8 || e.ctorIdx == 9 || e.ctorIdx == 10
abbrev P0(k:Expr->Expr->Bool)(s:Stmt):Bool:=qA s λT v _=>l1 T λb=>k b v
abbrev Jh(k l m:Expr->Bool)(s:Stmt):Bool:=qA s λT z _=>l1 T λb=>dk b λx y _=>k z && l x && m y && aI y
abbrev zEx(k:Expr->Bool)(s:Stmt):Bool:=Jg s λv _=>k v && !(qB v)
abbrev P1(k:Expr->Bool)(s:Stmt):Bool:=xG s λv _=>oA v k
abbrev zIf(k:Expr->Bool)(l m:List Stmt->Bool)(s:Stmt):Bool:=jIf s λt p q _=>k t && l p && m q
abbrev P2(k:Expr->Expr->Bool)(l:List Stmt->Bool)(s:Stmt):Bool:=PY s λT i p q _=>q.isEmpty && k T i && l p
abbrev P3(s:Stmt):Bool:=oK s λ_=>aN
section
variable {s:Stmt} {k l m:Expr->Bool}
def LC{k:Expr->Expr->Bool}(h:P0 k s=aN):∃T v p,s = .Assign [T] v p/\k T v=aN:=by
 obtain⟨b,v,p,rfl,h⟩:=oJ h;obtain⟨T,rfl,h⟩:=jB h;exact⟨T,v,p,rfl,h⟩
def FT(h:Jh k l m s=aN):∃x y q z p,s = .Assign [.Subscript x y q] z p/\k z=aN/\l x=aN/\m y=aN/\aI y=aN:=by
 obtain⟨T,v,p,rfl,h⟩:=oJ h;obtain⟨b,rfl,h⟩:=jB h;obtain⟨x,y,q,rfl,h⟩:=c7 h;exact⟨x,y,q,v,p,rfl,an4 h⟩
def P4(h:zEx k s=aN):∃v p,s = .Expr v p/\k v=aN/\qB v=aS:=by
 obtain⟨v,p,rfl,h⟩:=FS h;obtain⟨c,b⟩:=an2 h;exact⟨v,p,rfl,c,by cases e:qB v;rfl;rw[e] at b;cases b⟩
def LG(h:P1 k s=aN):∃v p,s = .Return (aw v) p/\k v=aN:=by
 obtain⟨v,p,rfl,h⟩:=zB h;obtain⟨v,rfl,h⟩:=zA h;exact⟨v,p,rfl,h⟩
def P5{l m:List Stmt->Bool}(h:zIf k l m s=aN):∃t p q r,s = .If t p q r/\k t=aN/\l p=aN/\m q=aN:=by
 obtain⟨t,p,q,r,rfl,h⟩:=PZ h;exact⟨t,p,q,r,rfl,an3 h⟩
def LH{k:Expr->Expr->Bool}{l:List Stmt->Bool}(h:P2 k l s=aN):∃T i p q,s = .For T i p [] q/\k T i=aN/\l p=aN:=by
 obtain⟨T,i,p,q,r,rfl,h⟩:=LB h;obtain⟨b,z⟩:=an3 h;cases fD b;exact⟨T,i,p,r,rfl,z⟩
def LI(h:P3 s=aN):∃p,s = .Continue p:=by obtain⟨p,rfl,_⟩:=td h;exact⟨p,rfl⟩
end
mutual
noncomputable def P6(T:Tab):Nat->Blk->Stmt->CS->Bool
 |0,_,_,_=>aS
 |n+1,b,s,c=>match c with
  |.asg t e=>P0 (λd v=>vQ T n b d v t e) s
  |.setI v o i=>Jh (λx=>aJ T n b x v) (λx=>aJ T n b x o) (λx=>aJ T n b x i) s
  |.ex e=>zEx (λx=>aJ T n b x e) s
  |.ret e=>P1 (λx=>aJ T n b x e) s
  |.ifs c x y=>zIf (λe=>fF T n b e c) (λp=>oM T n b p x) (λp=>oM T n b p y) s
  |.for_ t it x=>P2 (λd i=>sU T n b d i it && vL b d t) (λp=>oM T n b p x) s
  |.cnt=>P3 s
  |.never=>aN
noncomputable def oM(T:Tab):Nat->Blk->List Stmt->List CS->Bool
 |0,_,_,_=>aS
 |n+1,b,ss,cs=>match cs with
  |[]=>ss.isEmpty
  |c::cs=>lC ss λs ss=>P6 T n b s c && oM T n b ss cs
end
section
variable {T:Tab} {C:Calls} {ar:Nat->Nat} {k n:Nat} {b:Blk} {X:Cx}
def FV{f:Nat}(h:aJ T (n+1) b (.Tuple d f p) (.tup c)=aN):fE T n b d c=aN:=h
def Cr{j:Nat}(h:aJ T (n+1) b (.Tuple u j p) c=aN):∃cs,c = .tup cs:=by
 cases c with
 |tup cs=>exact⟨cs,rfl⟩
 |comp own l d=>
  cases d with
  |nil=>exact absurd h Zf
  |cons g f=>obtain⟨q,it,cond⟩:=g;exact absurd h Zf
 |_=>exact absurd h Zf
def mD:∀ (f:List Tg) (j:List D) (l c:Rho),aQ f j l=aw c->f.length=j.length
 |[],[],_,_,_=>rfl
 |[],_::_,_,_,e=>by simp[aQ] at e
 |_::_,[],_,_,e=>by simp[aQ] at e
 |t::f,d::j,l,c,e=>by
  simp only[aQ] at e;split at e
  ·simp[mD _ _ _ _ e]
  ·cases e
def Cs{K:Vp}{x:XA}{u:List Tg}{D:Ends}{y:L2.St}{H:Hp}(h:tSt K (nD (lJ lP x) (.tup u)) D y H):tAr K x y H λB H1=>∃m1 d f j,EnvR K m1 H1 d y/\VDs K m1 H1 j B/\aQ u j d=aw f/\∀c,EnvR K m1 H1 f c->D.nx c H1:=by
 obtain⟨m,d,S,U,f,O,E,R,e,q⟩:=h;unfold nD at e;cases v:lJ lP x d S with
 |none=>rw[v] at e;cases e
 |some r=>
  rw[v] at e;obtain⟨j,Q,I,l⟩:=ab v;unfold lP at l;split at l
  ·cases l;dsimp only at e;simp only[aC] at e;cases hb:aQ u j d with
   |none=>rw[hb] at e;cases e
   |some L=>
    rw[hb] at e;cases e;exact⟨m,d,S,j,_,E,R,I,λm1 H1 B z vd=>⟨m1,d,_,j,E.mono R z.ext,vd,hb,λc J=>q m1 H1 z c J⟩⟩
  ·cases l
def Ct{K:Vp}{x:XA}{j:L2.St}{H:Hp}{Q Q':List V->Hp->Prop}(h:tAr K x j H Q)(f:∀v c,Q v c->Q' v c):tAr K x j H Q':=by
 obtain⟨m,l,S,d,u,E,R,e,q⟩:=h;exact⟨m,l,S,d,u,E,R,e,λy c v A vd=>f _ _ (q y c v A vd)⟩
def Cu{f c:Rho}{i:Nat}{d:D}(h:(if i < f.length then aw (f.set i (aw d)) else aD)=aw c):c=f.set i (aw d):=by
 split at h
 ·cases h;rfl
 ·cases h
def FW{K:Vp}{x:XA}{i j:Nat}{D:Ends}{d:L2.St}{H:Hp}(h:tSt K (nD (lJ lP x) (.tup [.name i,.name j])) D d H):OW i j (tAr K x) D d H:=by
 refine Ct (Cs h) λO L ⟨m1,J,I,z,E,vd,e,q⟩=>?_;have y:=mD _ _ _ _ e
 match z,y with
 |[a,c],_=>
  obtain⟨v,w,rfl,l,u⟩:=Bo vd;refine⟨v,w,rfl,q _ ?_⟩;simp only[aQ,aC] at e;split at e
  ·rename_i r1 f;have:=Cu f;subst this;split at e
   ·rename_i r2 B;have:=Cu B;subst this;cases e;exact(E.set l).set u
   ·cases e
  ·cases e
def Cv(h:aJ T (n+1) b (.ListComp e gs d p) c=aN):∃own j u it cond f t i ifs l,c = .comp own j (⟨u,it,cond⟩::f)/\gs=⟨t,i,ifs,0⟩::l ∧
  cmB own (mv own b.N) b.N d b.sc=aN/\sU T n b t i it=aN/\vL (b.inner own d) t u=aN/\Cj (fF T n (b.inner own d)) ifs cond=aN/\oG T n (b.inner own d) e l j f=aN:=by
 cases c with
 |comp own j y=>
  ·obtain⟨u,it,cond,f,rfl,B⟩:=Jf h;obtain⟨U,t,i,ifs,l,q,Q,L,I⟩:=xy B;cases L;obtain⟨z,O,v,J,h4⟩:=an5 I;exact⟨own,j,u,it,cond,f,t,i,ifs,l,rfl,rfl,z,O,v,J,h4⟩
 |_=>exact absurd h Zf
end
section
variable {T:Tab} {C:Calls} {ar:Nat->Nat} {k n:Nat} {b:Blk} {X:Cx}
def FX(h:X.env.scope.kind = .function):X.env.blockKind = .function:=by
 unfold Env.blockKind;rw[h];rfl
def FY{c:Type}{l:List c}(h:l.length=2):∃a b,l=[a,b]:=by
 match l,h with
 |[a,b],_=>exact⟨a,b,rfl⟩
def LJ(G:CtxOk T C ar k b X)(hk:X.env.scope.kind = .function){tg e:Expr}{t:Tg}{c:CE}{p:Pos}(h:vQ T n b tg e t c=aN):PS X (.Assign [tg] e p) (tSt X.K (nD (evE C ar n c) t)):=by
 have hb:=FX hk;unfold vQ at h;cases t with
 |name i=>
  dsimp only at h;cases u:B7 tg with
  |none=>rw[u] at h;cases h
  |some r=>
  obtain⟨x,px⟩:=r;rw[u] at h;rw[qp u];simp only[bAE] at h;obtain⟨⟨⟨I,h2⟩,d⟩,h4⟩:=h;have hi:X.N[i]?=aw x:=by rw[G.hN];simpa using h2
  have nd:X.N.Nodup:=by rw[G.hN];exact G.nd
  have o:=G.own d;have sw:=LA (sc:=b.sc) (v:=e) (t:=x) (pos:=px) (line:=p.line) hb G.hs;cases J:swW b.sc e x px with
  |false=>
   rw[J] at sw;exact PS.imp (JX nd hi o.1 ((snd n).e b X e c G I) sw o.2) λD σ H q=>kI (vE q) λv H' z=>qj z
  |true=>
   rw[J] at h4 sw;simp only[Xh,XZ,bAE] at h4;obtain⟨h5,h4⟩:=h4;obtain⟨el,gs,f,pp,rfl,_⟩:=jX h5
   ·cases n with
    |zero=>exact absurd I Zf
    |succ n=>
     obtain⟨own,U,tg',it,cond,B,tt,ii,ifs,gs',rfl,rfl,c0,c1,c2,c3,c4⟩:=Cv I;have S:CmScope own (mv own b.N) b.N f b.sc:=A0 _ c0;have S':CmScope own (mv own b.N) X.N f X.env.scope:=by rw[G.hN,G.hs];exact S
     have hpl:=gC c1 (λe he env=>e9 he) X.env;have u:X.env.scope.names.lookup x=aw .local:=by rw[G.hs];simpa using h4
     refine PS.imp (EO (g:=tTg X.K tg') (ti:=ifT C ar n X.K cond) (t:=λl=>tCl X.K l (gM C ar n U B)) G.calm S' nd hi u ((snd n).i [] b X tt ii it G c1) (λZ ex s H=>gD (G.inner S (C':=Z) (ex:=ex) (s:=s) (H:=H)) c2) (λZ ex s H=>mB (snd n) (G.inner S (C':=Z) (ex:=ex) (s:=s) (H:=H)) c3)
      (λZ ex s H l=>(snd n).cl _ _ el gs' U B (G.inner S (C':=Z) (ex:=ex) (s:=s) (H:=H)) c4 _ f pp l 0 rfl) sw hpl) λD σ H q=>?_
     exact xm (λl D σ H z=>vP z) (sf (kI (vE q) λv H' z=>qj z))
 |tup gs=>
  dsimp only at h;cases u:zy tg with
  |none=>rw[u] at h;cases h
  |some r=>
  obtain⟨L,Y,pt⟩:=r;rw[u] at h;rw[qr u];simp only[bAE] at h;obtain⟨I,d⟩:=h;have so:Uy [.Tuple L Y pt] e p.line X.env=pure aS:=sY λx p z=>nomatch z
  have plain:∀ (J:Uw [.Tuple L Y pt] e X.env=pure aD) (hg:mw b L gs=aN),PS X (.Assign [.Tuple L Y pt] e p) (tSt X.K (nD (evE C ar n c) (.tup gs))):=λJ hg=>
   PS.imp (Ax ((snd n).e b X e c G I) (gD G (e:=.Tuple L Y pt) (t:=.tup gs) hg) so J rfl) λD σ H q=>vE q
  cases O:zy e with
  |none=>
   rw[O] at d;simp only[bAE] at d;exact plain (xF (.inl λes k p z=>by rw[z] at O;cases O)) d.2
  |some q=>
   obtain⟨es,ke,pe⟩:=q;rw[O] at d;obtain rfl:=qr O;cases n with
   |zero=>exact absurd I Zf
   |succ n=>
    obtain⟨cs,rfl⟩:=Cr I;have ha:=FV I;dsimp only at d;cases hr:xE b.sc L es with
    |none=>rw[hr] at d;cases d
    |some w=>
     have J:=PV (k:=Y) (p:=pt) (k2:=ke) (p2:=pe) hb G.hs hr;rw[hr] at d;cases w with
     |none=>exact plain J d
     |some ns=>
      dsimp only at d;cases ht:tgL gs with
      |none=>rw[ht] at d;cases d
      |some is=>
       rw[ht] at d;simp only[bAE] at d;obtain⟨⟨Q,hl0⟩,d⟩:=d;have hn:nmL L=aw ns:=by simpa using Q
       have hl:es.length=ns.length:=by simpa using hl0
       clear Q hl0;obtain rfl:=Cq ht;unfold PX at d;split at d
       ·rename_i x y;split at d
        ·rename_i i j;obtain⟨p1,t1,rfl,hn1⟩:=sZ hn;obtain⟨p2,t2,rfl,hn2⟩:=sZ hn1;obtain rfl:=FR hn2;obtain⟨a1,a2,rfl⟩:=FY hl;simp only[bAE] at d;obtain⟨⟨⟨⟨q2,q3⟩,q4⟩,q5⟩,q6⟩:=d;exact PS.imp (JY (i:=i) (j:=j) G.calm (by rw[G.hN];exact G.nd) (by rw[G.hN];simpa using q2) (by rw[G.hN];simpa using q3) (by simpa using q4) (by rw[G.hs];simpa using q5) (by rw[G.hs];simpa using q6) ((snd n).a b X _ cs G ha) J so) λD σ H q=>FW q
        ·cases d
       ·cases d
def Cw{l:Nat}(h:qB v=aS):Ux v aD l X.env=pure aS:=by
 unfold Ux;cases v <;> first |rfl |(exact absurd h (λz=>Zf z.symm))
structure SndS(T:Tab)(C:Calls)(ar:Nat->Nat)(k n:Nat):Prop where
 s:∀ (b:Blk) (X:Cx) (s:Stmt) (c:CS),CtxOk T C ar k b X->X.env.scope.kind = .function->P6 T n b s c=aN->PS X s (tSt X.K (evS C ar n c))
 ss:∀ (b:Blk) (X:Cx) (s:List Stmt) (c:List CS),CtxOk T C ar k b X->X.env.scope.kind = .function->oM T n b s c=aN->PSs X s (tSt X.K (gN C ar n c))
def P7{K:Vp}{D:Ends}{c:L2.St}{H:Hp}(h:tSt K FQ D c H):False:=by
 obtain⟨m,f,S,l,d,j,E,R,e,q⟩:=h;cases e
def P8:∀n,SndS T C ar k n
 |0=>⟨λb X s c _ _ h=>absurd h Zf,λb X s c _ _ h=>absurd h Zf⟩
 |n+1=>by
  have I:=P8 n;refine⟨λb X s c G l h=>?_,λb X ss u G l h=>?_⟩
  ·have Q:PassesOwn (model X.prog X.w) X.A X.env X.xe:=by rw[G.xe];exact PassesOwn.never
   cases c with
   |asg t e=>obtain⟨O,v,p,rfl,d⟩:=LC h;exact LJ G l d
   |setI v o i=>
    obtain⟨x,y,Y,z,p,rfl,d,j,B,L⟩:=FT h
    exact PS.imp (Ax ((snd n).e b X z v G d) (JW ((snd n).e b X x o G j) ((snd n).e b X y i G B) (Pr (fT G.room)) (λv=>by
     cases y <;> first | rfl | (exact absurd L Zf))) (sY λx p z=>nomatch z) (xF (.inr (.inr ⟨_,_,_,rfl⟩))) rfl) λD f H q=>Fq q
   |ex e=>obtain⟨v,p,rfl,d,j⟩:=P4 h;exact PS.imp (En ((snd n).e b X v e G d) (Cw j)) λD f H q=>Fp q
   |ret e=>obtain⟨v,p,rfl,d⟩:=LG h;exact PS.imp (As ((snd n).e b X _ _ G d)) λD f H q=>KS q
   |ifs c x y=>obtain⟨t,p,q,r,rfl,d,j,B⟩:=P5 h;exact PS.imp (OQ ((snd n).t b X _ _ G d) (I.ss b X _ _ G l j) (I.ss b X _ _ G l B)) λD f H q=>Pw q
   |for_ t it x=>
    obtain⟨O,i,p,J,rfl,d,j⟩:=LH h;have d:=an2 d;exact PS.imp (J1 Q G.calm ((snd n).i [] b X _ _ _ G d.1) (gD G d.2) (I.ss b X _ _ G l j) (gC d.1 (λe U env=>e9 U) X.env)) λD f H q=>KW q
   |cnt=>obtain⟨p,rfl⟩:=LI h;exact PS.imp rF λD f H q=>KU q
   |never=>exact PS.imp Au λD f H q=>(P7 q).elim
  ·cases u with
   |nil=>rw[fD h];exact PSs.imp El λD f H q=>Fo q
   |cons c u=>
    obtain⟨s,ss,rfl,h⟩:=e8 h;have h:=an2 h;exact PSs.imp (Ar (I.s b X s c G l h.1) (I.ss b X ss u G l h.2)) λD f H q=>KR q
end
structure DefE where
 x:Str
 st:Stmt
 N:List Str
 ps:List Str
 body:List CS
 ks:Option (CE × Pos × Str):=aD
abbrev FU:Nat:=60
abbrev gO(ae:List DefE)(f:Nat):Nat:=match ae[f]? with
 |some d=>d.ps.length
 |none=>0
abbrev LK(C:Calls)(c:Nat->Nat)(d:DefE)(b:List D)(S:Sto):Option (D × Sto):=
 match gN C c FU d.body (b.map aw++ZL (d.N.length - b.length) aD) S with
 |some (.rt v,_,S')=>aw (v,S')
 |some (.nx,_,S')=>aw (.non,S')
 |_=>aD
abbrev Ji:D->Option (List Int)
 |.tup ds=>bR ds
 |_=>aD
abbrev oO:List D->Option (List (List Int))
 |[]=>aw []
 |d::ds=>match Ji d,oO ds with
  |some l,aw ls=>aw (l::ls)
  |_,_=>aD
abbrev cQ{α:Type}(l:List (List Int))(d:α)(v:List α):List α:=if v.length < 2 then v else (bN (λi j=>bA (bG l i) (bG l j)) v.length).toList.map λi=>v.getD i d
abbrev vR(x:Str)(c:Pos)(q:Str)(n:Nat)(S:Sto)(l:List (List Int))(b:List D):Prop:=S[1]?=aw (.tbl x c q)/\S[n]?=aw (.lst b)/\oO b=aw l/\eI (λi j=>bA (bG l i) (bG l j)) b.length
open Classical in
abbrev Cy(C:Calls)(f:Nat->Nat)(d:DefE)(z:CE × Pos × Str)(b:List D)(S:Sto):Option (D × Sto):=
 match evE C f FU z.1 (b.map aw++ZL (d.N.length - b.length) aD) S with
 |some (.ref n,S1)=>if h:∃l c,vR d.x z.2.1 z.2.2 n S1 l c then aw (.ref S1.length,S1++[.lst (cQ h.choose .non h.choose_spec.choose)]) else aD
 |_=>aD
def FZ{x:Str}{c:Pos}{q:Str}{n:Nat}{S:Sto}{L l:List (List Int)}{f es':List D}(h:vR x c q n S L f)(h':vR x c q n S l es'):L=l/\f=es':=by
 obtain⟨_,a,b,_⟩:=h;obtain⟨_,d,B,_⟩:=h';rw[a] at d;cases d;rw[b] at B;cases B;exact⟨rfl,rfl⟩
def F0{C:Calls}{j:Nat->Nat}{d:DefE}{z:CE × Pos × Str}{f:List D}{S c:Sto}{n:Nat}{l:List (List Int)}{es:List D}(e:evE C j FU z.1 (f.map aw++ZL (d.N.length - f.length) aD) S=aw (.ref n,c))(h:vR d.x z.2.1 z.2.2 n c l es):Cy C j d z f S=aw (.ref c.length,c++[.lst (cQ l .non es)]):=by
 unfold Cy;rw[e];dsimp only;have q:∃l es,vR d.x z.2.1 z.2.2 n c l es:=⟨l,es,h⟩;rw[dif_pos q];obtain⟨v,u⟩:=FZ q.choose_spec.choose_spec h;have k:∀ (a:List (List Int)) (b:List D),a=l->b=es->aw (D.ref c.length,c++[Ob.lst (cQ a .non b)])=aw (.ref c.length,c++[.lst (cQ l .non es)]):=by rintro _ _ rfl rfl;rfl
 exact k _ _ v u
def LL{C:Calls}{k:Nat->Nat}{d:DefE}{z:CE × Pos × Str}{c:List D}{S j:Sto}{v:D}(e:Cy C k d z c S=aw (v,j)):∃n b l f,evE C k FU z.1 (c.map aw++ZL (d.N.length - c.length) aD) S=aw (.ref n,b)/\vR d.x z.2.1 z.2.2 n b l f/\v = .ref b.length/\j=b++[.lst (cQ l .non f)]:=by
 unfold Cy at e;split at e
 ·rename_i n b q;split at e
  ·rename_i u;cases e;exact⟨n,b,_,_,q,u.choose_spec.choose_spec,rfl,rfl⟩
  ·cases e
 ·cases e
abbrev evC(ae:List DefE):Nat->Calls
 |0=>λ_ _ _=>aD
 |k+1=>λf b S=>match ae[f]? with
  | some d=>(match d.ks with
   |none=>LK (evC ae k) (gO ae) d b S
   | some z=>if 3<=k then Cy (evC ae k) (gO ae) d z b S else aD)
  |none=>aD
abbrev tj(N ps:List Str)(sc:Scope):Bool:=sc.kind == .function && sc.isCoroutine == aS && sc.isGenerator == aS && jr N && N.take ps.length == ps && (ps.all λx=>sc.names.lookup x == aw .local || sc.names.lookup x == aw .cell) && sc.names.all λy=>y.2 != .free
def qC{N ps:List Str}{sc:Scope}(h:tj N ps sc=aN):FnScope N ps sc:=by
 unfold tj at h;simp only[bAE,ZR] at h;obtain⟨⟨⟨⟨⟨⟨l,k⟩,j⟩,h4⟩,b⟩,d⟩,q⟩:=h;refine⟨by simpa using l,by simpa using k,by simpa using j,iM h4,by simpa using b,λx f=>?_,λy c=>by simpa using q y c⟩;have:=d x f
 simpa using this
abbrev F1(T:Tab)(d:DefE):Bool:=d.ks.isSome || tj d.N d.ps (aH d.st) && oM T FU ⟨aH d.st,aD,d.N⟩ (bX d.st) d.body
open PySem.W (CodeHd kla_fn) in
structure SrtOk(Tb:Tab)(d:DefE)(z:CE × Pos × Str):Prop where
 ex:∃ (x:Str) (params:WR) (scope:Scope) (e:Expr) (p kp pos p1 p2 p3 p4 p5 rp:Pos) (cx:Nat),
  bX d.st=[.Return (aw (.Call (.Name "sorted" p) [e] [⟨aw "key", .Lambda params (sQ x p1 p2 p3 p4 p5 cx) scope z.2.1,kp⟩] pos)) rp] ∧
  aJ Tb FU ⟨aH d.st,aD,d.N⟩ e z.1=aN/\(aI e && (⟨aH d.st,aD,d.N⟩:Blk).glo "sorted" && tj d.N d.ps (aH d.st) && tj [x] [x] scope && (scope.names.lookup x == aw .local) && (scope.names.lookup ("len" : Str) == aw NameKind.globalImplicit) && !(x == ("__debug__" : Str)) && !(x == ("__classdict__" : Str)))=aN ∧
  (∀pm c' ctv u,VP (kla_fn "<lambda>" z.2.2 params (sQ x p1 p2 p3 p4 p5 cx) scope [] pm (.ref c') ctv) ⟨[u],[]⟩=pure [(x,u)]) ∧
  (∀L f cd,z.2.2=(envOfC d.x (aH d.st) L f cd).qual ++ "<lambda>")/\(∀env,VX scope env=pure [])/\(∀env,V3 params env=([],[]))
abbrev P9(base:Heap)(mg:Str->Option Value)(f:Vg):Prop:=∃c T,f.code = .ref c/\Vo base c T/\base.BuiltinsAt mg T/\Ud ≠ T
abbrev RZ(st:Stmt):Pos:=match bX st with
 |[.Return (aw (.Call _ _ [⟨_,.Lambda _ _ _ p,_⟩] _)) _]=>p
 |_=>⟨0,0,0,0⟩
abbrev F2(con:List (Str × Int))(ae:List DefE):Prop:=∀d ∈ ae,∀z,d.ks=aw z->SrtOk (⟨con,ae.map λd=>(d.x,d.ps.length)⟩) d z
def F3{con:List (Str × Int)}{ae:List DefE}{f:Nat}{dz:DefE}{z:CE × Pos × Str}(u:ae[f]?=aw dz)(q:dz.ks=aw z)(k:(ae.take f++ae.drop (f+1)).all (λd=>d.ks.isNone)=aN)(O:SrtOk (⟨con,ae.map λd=>(d.x,d.ps.length)⟩) dz z):F2 con ae:=λd hd y c=>by
 obtain⟨j,b⟩:=Yw hd;by_cases e:j=f
 ·subst e;rw[u] at b;cases b;rw[q] at c;cases c;exact O
 ·have l:d ∈ ae.take f++ae.drop (f+1):=by
   rcases Nat.lt_or_gt_of_ne e with h |h
   ·exact ZY _ (Zd (i:=j) (by rw[XC h];exact b))
   ·exact ZE _ (Zd (i:=j - (f+1)) (by rw[List.getElem?_drop,show f+1+(j - (f+1))=j by lia];exact b))
  have:=ZR.mp k d l;rw[c] at this;cases this
abbrev xH(con:List (Str × Int))(ae:List DefE):Tab:=⟨con,ae.map λd=>(d.x,d.ps.length)⟩
structure TextOk(K:Vp)(mg:Str->Option Value)(con:List (Str × Int))(ae:List DefE):Prop where
 con:∀ (i:Nat) (x:Str) (v:Int),con[i]?=aw (x,v)->∃tk,mg x=aw (.int v tk)
 bl:∀x,x ∈ fS->mg x=aD
 fn:∀ (i:Nat) (d:DefE),ae[i]?=aw d->∃f fd,mg d.x=aw (.ref f)/\Vy K (.ref f)=aN/\nW K fd d.ps []/\Fun K d.x d.x d.st f fd
section
variable {P:Program} {w:World} {K:Vp} {mg:Str->Option Value} {base:Heap} {con:List (Str × Int)} {ae:List DefE}
def F4{f:Addr}{c:Vg}{ps:List Str}{i n:Nat}:FnOk P w K mg base CX0 0 f c ps (spC K (evC ae 0 i) n):=
 ⟨λv H Q E h=>(by obtain⟨m,k,S,d,j,_,_,_,e,_⟩:=h;cases e),λA outer s H b u v Q E _ _ _ _ h=>(by obtain⟨m,k,S,d,j,_,_,_,e,_⟩:=h;cases e)⟩
def oP{m:List Addr}{H:Hp}{N:List Str}{b:List D}{c:List V}(vd:VDs K m H b c):EnvR K m H (b.map aw++ZL (N.length - b.length) aD) (L2.eB N c):=by
 have k:=vd.length;unfold L2.eB;refine⟨by simp[k],λi d e=>?_⟩;by_cases hi:i < b.length
 ·rw[Zw (by simpa using hi),Zl] at e;cases h:b[i]? with
  |none=>rw[h] at e;cases e
  |some l=>
   rw[h] at e;cases e;obtain⟨v,f,j⟩:=vd.get h;exact⟨v,by rw[Zw (by simp;omega),Zl,f];rfl,j⟩
 ·rw[Zp (by simpa using hi),Yx] at e;split at e <;> cases e
def xI{m:List Addr}{H:Hp}:∀ {c:List D} {b:List V} {L:List (List Int)},oO c=aw L->VDs K m H c b->LotsV H b L
 |[],b,L,e,h=>by cases e;rw[VDs] at h;subst h;exact .nil
 |d::c,b,L,e,h=>by
  rw[VDs] at h;obtain⟨v,r,rfl,z,y⟩:=h;simp only[oO] at e;split at e
  ·rename_i l u f j;cases e;cases d with
   |tup B=>
    obtain⟨a,X,rfl,q,k⟩:=z.tups;have:=cq f;subst this;have:=bF k;subst this;exact .cons q (xI j y)
   |_=>cases f
  ·cases e
def Rel.tabs{m:List Addr}{S:Sto}{H H2:Hp}{x:Str}{c:Pos}{Q:Str}{T:Addr}{ps:Array Value}(R:Rel K m S H)(B:S[1]?=aw (.tbl x c Q))(d:m[1]?=aw T)(Y:EG K x T)(O:TabOk T c Q H2 ps)(kp:∀b o,b ≠ T->H b=aw o->H2 b=aw o):Aft K m H S m H2:=by
 have U:T ∈ m:=Zd d;have X:Ext m H m H2:=⟨Yj m,λb o e n=>kp b o (λz=>n (z ▸ U)) e,λb z n=>absurd z n⟩;refine⟨X,R.len,R.nd,λi o e=>?_⟩;obtain⟨b,hb,r⟩:=R.ob i o e;by_cases hi:i=1
 ·subst hi;rw[d] at hb;cases hb;rw[B] at e;cases e;exact⟨T,d,Y,ps,O⟩
 ·have nb:b ≠ T:=λz=>by
   subst z;have C:=Zb.mp d;have Z:=Zb.mp hb;exact hi ((YS R.nd).mp (Z.2.trans C.2.symm))
  refine⟨b,hb,?_⟩;obtain⟨T',f,_,pz,zz⟩:=R.ob 1 _ B;rw[d] at f;cases f;cases o with
  |lst u=>obtain⟨v,p,q⟩:=r;exact⟨v,kp _ _ nb p,VDs.mono R X q⟩
  |frz u=>obtain⟨o,v,p,q⟩:=r;exact⟨o,v,kp _ _ nb p,VDs.mono R X q⟩
  |dic ks u=>obtain⟨v,p,l,q⟩:=r;exact⟨v,kp _ _ nb p,l,VDs.mono R X q⟩
  |dfz ks u=>obtain⟨o,v,p,l,q⟩:=r;exact⟨o,v,kp _ _ nb p,l,VDs.mono R X q⟩
  |tbl y p' q'=>
   obtain⟨L,j,z⟩:=r;refine⟨L,j,kp _ _ nb z.at_,z.tr,λI J=>?_⟩;obtain⟨c',f1,k⟩:=z.cd I J;exact⟨c',f1,kp _ _ (λy=>by rw[y,zz.at_] at k;cases k) k⟩
def LM{k:Nat}{f:Addr}{fd:Vg}{i:Nat}{d:DefE}{z:CE × Pos × Str}{Tb:Tab}(hz:d.ks=aw z)(hk:3<=k)(F:Fun K d.x d.x d.st f fd)(h0:P9 base mg fd)(O:SrtOk Tb d z)(KX:K.In base)(hd:ae[i]?=aw d)
  (ctx:∀ (j:Value) (A:Around) (outer:List Env) (s:Shared) (H:Hp) (E:XK),d.N.Nodup->Room k (A.deeper (envOfC d.x (aH d.st) s.heap.objs.size f j))->CtxOk Tb (evC ae k) (gO ae) k ⟨aH d.st,aD,d.N⟩ (iH CX0 P w K mg base d.N d.x (aH d.st) f j A outer s H E).nox) (bl:∀x,x ∈ fS->mg x=aD) :
  FnOk P w K mg base CX0 (k+1) f fd d.ps (spC K (evC ae (k+1) i) d.ps.length):=by
 obtain⟨c,T,hc,C,hb,hgT⟩:=h0;obtain⟨x,l,I,e,p,kp,pos,p1,p2,p3,p4,p5,rp,cx,eb,ce,bs,bd,eq,cl,df⟩:=O.ex;simp only[bAE,beq_iff_eq,Bool.not_eq_true'] at bs;obtain⟨⟨⟨⟨⟨⟨⟨pe,gs⟩,fs⟩,ls⟩,l1⟩,l2⟩,d1⟩,d2⟩:=bs;have S:=qC fs;obtain⟨oc,od,kV,doc,pm,an,j,ct,osl,rfl,lk,b⟩:=F.ex;have hcv:j = .ref c:=hc;subst hcv
 have TF:∀ {a:Addr},EG K d.x a->T=a:=λ{a} h=>by
  obtain⟨o',vs',_,_,_,_,_,_,_,e1,e2,e3,e4,_⟩:=C;unfold Vr at b;dsimp only at b;cases J:K.lookup c with
  |none=>rw[J] at b;cases b
  |some oc'=>
   have z1:=KX c oc' J;rw[e1] at z1;cases z1;exact h f _ _ c o' vs' T lk rfl rfl rfl J e3 e4
 refine II lk b S (λvs H Q E h=>?_) λA outer s H vs Q E hr h=>?_
 ·obtain⟨m,ds,S,d',S',vd,_,J,_⟩:=h;rw[<-vd.length,J]
 ·have G:=ctx (.ref c) A outer s H E S.nd hr;have hr3:Room (k - 3+3) (iH CX0 P w K mg base d.N d.x (aH d.st) f (.ref c) A outer s H E).nox.A:=by rw[Nat.sub_add_cancel hk];exact hr
  refine⟨JS (IY K T z.2.1 z.2.2 (cg (tE K (evE (evC ae k) (gO ae) FU z.1)) jl)),?_,?_⟩
  ·rw[eb];refine PSs.nox (Em (As ?_))
   have:=FG (X:=(iH CX0 P w K mg base d.N d.x (aH d.st) f (.ref c) A outer s H E).nox) (k:=k - 3) (cx:=cx) (T:=T) (c:=c) (x:=x) (params:=l) (scope:=I) (e:=e) (p:=p) (lp:=z.2.1) (kp:=kp) (pos:=pos) (p1:=p1) (p2:=p2) (p3:=p3) (p4:=p4) (p5:=p5) hr3 (G.gl gs).1 (bl _ (by decide)) (G.gl gs).2 (qC ls) l1 l2 (bl _ (by decide)) d1 d2
    (λpm c' ctv u=>by have y:=bd pm c' ctv u;rw[eq s.heap.objs.size f (.ref c)] at y;exact y) rfl C hb hgT (cl _) (df _) (cy ((snd FU).e _ _ e z.1 G ce) pe) (ak pe)
   rw[eq s.heap.objs.size f (.ref c)];exact this
  ·obtain⟨m,ds,S0,r,S',vd,R,J,e,q⟩:=h;simp only[evC,hd,hz,if_pos hk] at e;obtain⟨n,S1,L,es,e1,⟨t1,t2,t3,t4⟩,rfl,rfl⟩:=LL e;refine⟨m,_,S0,_,S1,oP vd,R,e1,λm1 H1 v B vv=>?_⟩;obtain⟨a,ha,rfl⟩:=vv.refs;obtain⟨a',U,ws,hw,Z⟩:=B.rel.ob n _ t2;rw[ha] at U;cases U;obtain⟨T',hT',tF,ps,tO⟩:=B.rel.ob 1 _ t1;have eT:=TF tF;subst eT;refine⟨a,ws,L,ps,rfl,.of hw,xI t3 Z,by rw[<-Z.length];exact t4,(λy=>by rw[y,tO.at_] at hw;cases hw),tO,λr H2 ps' u1 u2 u3 u4=>?_⟩;have A2:=B.rel.tabs t1 hT' tF u1 u4;have nr:r ∉ m1:=B.rel.no u3
   have vw2:VDs K m1 H2 (cQ L .non es) (Lg ws L):=by
    have Y:=VDs.mono B.rel A2.ext Z;unfold cQ Lg;rw[<-Z.length];split
    ·exact Y
    ·exact qg Y _ λi hi=>(jw t4 (by lia)).1 i hi
   refine q (m1++[r]) H2 (.ref r) (B.trans ⟨A2.ext.adopt u3,A2.rel.adopt nr u2 vw2⟩) ?_;rw[VD];exact⟨r,by rw[Zp (by rw[B.rel.len];exact Zi _),B.rel.len,Z8];rfl,rfl⟩
def xJ(T:TextOk K mg con ae)(hc:ae.all (F1 (xH con ae))=aN)(KX:K.In base)(hA:F2 con ae)(hS:∀d ∈ ae,d.ks ≠ aD->∀f l,mg d.x=aw (.ref f)->Fun K d.x d.x d.st f l->P9 base mg l):∀ (k i:Nat) (d:DefE),ae[i]?=aw d->∀f l,mg d.x=aw (.ref f)->Fun K d.x d.x d.st f l->FnOk P w K mg base CX0 k f l d.ps (spC K (evC ae k i) d.ps.length)
 |0,i,d,_,f,l,_,_=>F4
 |k+1,i,d,hd,f,l,hm,F=>by
  have ih:=xJ T hc KX hA hS k;have B:=Zd hd;have X:=ZR.mp hc d B
  have I:∀ (c:Value) (A:Around) (outer:List Env) (s:Shared) (H:Hp) (E:XK),d.N.Nodup->Room k (A.deeper (envOfC d.x (aH d.st) s.heap.objs.size f c))->CtxOk (xH con ae) (evC ae k) (gO ae) k ⟨aH d.st,aD,d.N⟩ (iH CX0 P w K mg base d.N d.x (aH d.st) f c A outer s H E).nox:=λc A outer s H E nd Y=>by
    refine⟨rfl,rfl,rfl,rfl,nd,λ_ _=>rfl,Y,T.con,T.bl,λj y hy=>?_⟩;have b:(ae.map λd=>(d.x,d.ps.length))[j]?=aw y:=hy;rw[Zl] at b;cases O:ae[j]? with
    |none=>rw[O] at b;cases b
    |some e=>
     rw[O] at b;cases b;have ha:gO ae j=e.ps.length:=by unfold gO;rw[O]
     obtain⟨f',U,L,k',b',F'⟩:=T.fn j e O;refine⟨ha,f',U,e.ps,L,k',b',?_⟩;rw[ha];exact ih j e O f' U L F'
  cases C:d.ks with
  |some z=>
   by_cases hk:3<=k
   ·have h0:=hS d B (by rw[C];simp) f l hm F;exact LM (k:=k) C hk F h0 (hA d B z C) KX hd I T.bl
   ·refine⟨λvs H Q E h=>?_,λA outer s H args us vs Q E _ _ _ _ h=>?_⟩
    ·obtain⟨m,J,S,d',S',_,_,_,e,_⟩:=h;simp only[evC,hd,C,if_neg hk] at e;cases e
    ·obtain⟨m,J,S,d',S',_,_,_,e,_⟩:=h;simp only[evC,hd,C,if_neg hk] at e;cases e
  |none=>
  unfold F1 at X;rw[C,Option.isSome_none,XZ,bAE] at X;have S:=qC X.1;refine F.ok S (λvs H Q E h=>?_) λc A outer s H vs Q E Y h=>?_
  ·obtain⟨m,J,S,d',S',vd,_,hl,_⟩:=h;rw[<-vd.length,hl]
  ·have G:=I c A outer s H E S.nd Y;refine⟨_,(P8 FU).ss _ _ (bX d.st) d.body G S.kind X.2,?_⟩;obtain⟨m,J,S0,r,S',vd,R,hl,e,q⟩:=h;simp only[evC,hd,C,LK] at e;cases Z:gN (evC ae k) (gO ae) FU d.body (J.map aw++ZL (d.N.length - J.length) aD) S0 with
   |none=>rw[Z] at e;cases e
   |some z=>
    obtain⟨fl,ρ',S1⟩:=z;rw[Z] at e;refine⟨m,_,S0,fl,ρ',S1,oP vd,R,Z,λL H' A'=>?_⟩;cases fl with
    |nx=>cases e;exactλσ _=>q L H' .non A' p0
    |rt v=>cases e;exactλu vu=>q L H' u A' vu
    |bk=>cases e
    |ct=>cases e
end
end Ev
namespace L2
open PySem PySem.Spec PyProof.Rows
abbrev Jj(T:Addr)(ps:Array Value)(H:Hp):Prop:=H T=aw (.tbl ps)/\∀b,b ≠ T->H b=aD\/∃o X,H b=aw (.frz o (.lst X))
def zC{P:Program}{w:World}{K:Vp}{mg mb:Str->Option Value}{CX:CXT}{k:Nat}{fa a T c:Addr}{ps:Array Value}{fd:Vg}{x:Str}{sp:Sp}{s₁:Shared}{j:List Value}{ns:List Int}
  (KX:K.In s₁.heap) (hns:s₁.heap.Ns Ud mg) (hb:s₁.heap.Ns VT mb) (hbb:∀x:Str,x ≠ "__name__"->mb x=VR x) (hlim:s₁.heap.NoLimit) (hg:s₁.gens=#[])
  (y:s₁.heap.TableAt c T ps) (hTK:K.lookup T=aD)
  (O:s₁.heap.get? a=aw { cls:=.type "list", data:=.seq j.toArray }) (hi:IntsAre j ns) (hl:ns.length<=sizeLine) (hr:Room k callerA)
  (hcd:Vo s₁.heap c T) (hbm:s₁.heap.BuiltinsAt mg T) (F:∀base:Heap,K.In base->base.Ns Ud mg->Vo base c T->base.BuiltinsAt mg T->FnOk P w K mg base CX k fa fd [x] sp) (J:∀ (s:Shared) (u:Value),BindsTo s fd ⟨[u],[]⟩ [(x,u)])
  (hsp:∀H:Hp,Jj T ps H->SqL K H a (ns.map V.int)->sp [.ref a] H (λv _=>v = .bl aN) λ_ _ _=>False)
  (hCX:∀H e f,CX [] H s₁ (λ_ _ _=>False) e f->False) :
  codeAny (model P w) callerA (.call (.ref fa) ⟨[.ref a],[]⟩) (λr f=>r = .ok (.ret (.bool aN))/\OldK s₁.heap f.heap/\f.os=s₁.os/\AllBare f.gens) s₁:=by
 have rv:=gx hi;have lenV:=hi.length;have Q:=y.2;have aT:a ≠ T:=λe=>by rw[e,Q] at O;cases O
 have C:∀H:Hp,Jj T ps H->SqL K H a (ns.map V.int)->HOk P w H s₁.heap->(∀b,H b ≠ aD->b=a\/b=T)->(H a ≠ aD->K.lookup a=aD) ->
   codeAny (model P w) callerA (.call (.ref fa) ⟨[.ref a],[]⟩) (λr f=>r = .ok (.ret (.bool aN))/\OldK s₁.heap f.heap/\f.os=s₁.os/\AllBare f.gens) s₁:=by
  intro H hO hS hok hA hK;have B:∀ {b:Addr} {o:Obj},s₁.heap.get? b=aw o->H b=aD->(kU s₁.heap H).get? b=aw o:=λe n=>Al e n
  have noA:∀ {b:Addr} {o:Obj} {U:Array DictEntry} {ep:Nat},s₁.heap.get? b=aw o->o.data = .dict U ep->H b=aD:=λ{b o U ep} e d=>by
   cases q:H b with
   |none=>rfl
   |some u=>
    rcases hA b (by rw[q];simp) with e' |e'
    ·subst e';rw[O] at e;cases e;have d':Data.seq j.toArray _=Data.dict U ep:=d;cases d'
    ·subst e';rw[Q] at e;cases e;have d':Data.fields ps=Data.dict U ep:=d;cases d'
  have l:∀ {b:Addr} {m:Str->Option Value},s₁.heap.Ns b m->(kU s₁.heap H).Ns b m:=λ{b m} ⟨o,U,ep,e,d,r⟩=>⟨o,U,ep,B e (noA e d),d,r⟩
  have hKb:K.In (kU s₁.heap H):=λb o e=>B (KX b o e) (by
   cases q:H b with
   |none=>rfl
   |some u=>
    rcases hA b (by rw[q];simp) with e' |e'
    ·subst e';rw[hK (by rw[q];simp)] at e;cases e
    ·subst e';rw[hTK] at e;cases e)
  have hM:Mod K mg (kU s₁.heap H):=⟨hKb,l hns,⟨mb,l hb,hbb⟩,let ⟨mc,h1,h2⟩:=hlim;⟨mc,l h1,h2⟩⟩;have e0:Env0 P w K mg (kU s₁.heap H) callerA [] s₁ H:=⟨rfl,hM,λb o e=>Ei e,WG (yA _ _),trivial,λb hb=>absurd (show b ∈ ([]:List Addr) from hb) (by simp),hok,.of_eq hg⟩
  have noC:∀ {b:Addr} {o:Obj} {n:String},s₁.heap.get? b=aw o->o.cls = .type n->n ≠ "list"->b ≠ T->H b=aD:=λ{b o n} e d hn nb=>by
   cases q:H b with
   |none=>rfl
   |some u=>
    rcases hA b (by rw[q];simp) with e' |e'
    ·subst e';rw[O] at e;cases e;have d':Value.type "list" = Value.type n:=d;cases d';exact absurd rfl hn
    ·exact absurd e' nb
  have X:Vo (kU s₁.heap H) c T:=by
   obtain⟨o,j,file,tf,L,tg,inF,Y,tt,e1,e2,r⟩:=hcd;exact⟨o,j,file,tf,L,tg,inF,Y,tt,B e1 (noC e1 e2 (by decide) r.2.2.2.2.2.2.2),e2,r⟩
  have hbm':(kU s₁.heap H).BuiltinsAt mg T:=by
   obtain⟨bm,o,b1,b2,b3,b4,b5,b6,r⟩:=hbm;exact⟨bm,o,b1,b2,b3,b4,B b5 (noC b5 b6 (by decide) b4),b6,r⟩
  refine V0 ((F _ hKb (l hns) X hbm').run callerA [] s₁ H ⟨[.ref a],[]⟩ [.ref a] [.ref a] _ _ hr e0 (J s₁ (.ref a)) (.cons rfl .nil) (hsp H hO hS)) λr f h=>?_;cases r with
  |error e=>exact(hCX H e f h).elim
  |ok fl=>
   cases fl with
   |next=>exact False.elim h
   |brk=>exact False.elim h
   |cont=>exact False.elim h
   |ret u=>
    obtain⟨v,H',os,bare,un,I,r',q⟩:=h;have q':v = .bl aN:=q;subst q';obtain rfl:u=Value.bool aN:=r'
    have old:∀b o,b ≠ T->s₁.heap.get? b=aw o->f.heap.get? b=aw o:=λb o nb e=>by
     cases q:H b with
     |none=>exact un.keep b o e q (by intro z;exact absurd (show b ∈ ([]:List Addr) from z) (by simp)) (by simp)
     |some u=>
      rcases hO.2 b nb with z |⟨ob,xs,z⟩
      ·rw[q] at z;cases z
      ·have z2:=un.frzs b ob _ z;obtain⟨e1,_⟩:=hok b _ z;obtain⟨e2,_⟩:=I b _ z2;rw[e] at e1;cases e1;exact e2
    obtain⟨more,em⟩:=un.tbls T ps hO.1;have gT:f.heap.get? T=aw { cls:=.none,data:=.fields (ps++more) }:=I T _ em;refine⟨rfl,⟨λb o e=>?_,λb o e=>?_⟩,os,bare⟩
    ·by_cases nb:b=T
     ·subst nb;rw[Q] at e;cases e;exact .inr (.inl ⟨y.isCodeTable,rfl,ps,more,rfl,gT⟩)
     ·exact .inl (old b o nb e)
    ·by_cases nb:b=T
     ·subst nb;exact⟨_,gT⟩
     ·exact⟨o,old b o nb e⟩
 have okT:∀ (H:Hp),H T=aw (.tbl ps)->a9 P w H s₁.heap T (.tbl ps):=λH e=>Q;cases hk:K.lookup a with
 |some o=>
  have e:=KX a o hk;rw[O] at e;cases e;refine C (λb=>if b=T then aw (.tbl ps) else aD) ⟨if_pos rfl,λb nb=>.inl (if_neg nb)⟩ (.inr ⟨_,j.toArray,_,hk,rfl,rfl,rfl,by rw[Zj,lenV];exact hl,by simpa using rv⟩) (λb u z=>?_) (λb z=>?_) λz=>absurd (if_neg aT) z
  ·by_cases hb:b=T
   ·have Z:=(if_pos hb).symm.trans z;cases Z;subst hb;exact Q
   ·have Z:=(if_neg hb).symm.trans z;cases Z
  ·by_cases hb:b=T
   ·exact .inr hb
   ·exact absurd (if_neg hb) z
 |none=>
  refine C (λb=>if b=T then aw (.tbl ps) else if b=a then aw (.frz { cls:=.type "list", data:=.seq j.toArray } (.lst (ns.map V.int))) else aD) ⟨if_pos rfl,λb nb=>?_⟩ (.inl (.inr ⟨{ cls:=.type "list", data:=.seq j.toArray },(if_neg aT).trans (if_pos rfl)⟩)) (λb u z=>?_) (λb z=>?_) λ_=>hk
  ·by_cases hb:b=a
   ·exact .inr ⟨_,_,(if_neg nb).trans (if_pos hb)⟩
   ·exact .inl ((if_neg nb).trans (if_neg hb))
  ·by_cases y:b=T
   ·have Z:=(if_pos y).symm.trans z;cases Z;subst y;exact Q
   ·have z:=(if_neg y).symm.trans z;by_cases hb:b=a
    ·have Z:=(if_pos hb).symm.trans z;cases Z;subst hb;exact⟨O,by rw[Za];exact hl,j,_,rv,O⟩
    ·have Z:=(if_neg hb).symm.trans z;cases Z
  ·by_cases y:b=T
   ·exact .inr y
   ·by_cases hb:b=a
    ·exact .inl hb
    ·exact absurd ((if_neg y).trans (if_neg hb)) z
end L2
namespace Ev
open PySem PySem.Spec PyProof.Rows L2
@[inline]abbrev xK:=(Str × Str) × (WR × List Stmt) × (Scope × Addr) × (List (Str × Addr) × Value) × (Addr × Option Str)
abbrev Jk(h:Heap):Value->Option Str
 | .ref c=>(match h.get? c with
  |some ⟨_,_,.fields vs,_⟩=>(match vs.toList with |_ :: .str n _::_=>aw n |_=>aD)
  | _=>aD)
 |_=>aD
abbrev Qa(h:Heap):Option Obj->Option xK
 |some ⟨_,_,.func ⟨nm,qn,ps,.stmts b,sc,gl,cl,dv,_,_,_,_,cd,_,bi⟩,_⟩=>aw ((nm,qn),(ps,b),(sc,gl),(cl,dv),(bi,Jk h cd))
 |_=>aD
abbrev F5(h:Heap)(x:Str):Option xK:=match h.nsMap Ud x with
 |some (.ref f)=>Qa h (h.get? f)
 |_=>aD
abbrev xL(d:DefE):Option xK:=aw ((d.x,d.x),(eX d.st,bX d.st),(aH d.st,Ud),([],.none),(VT,aw d.x))
abbrev Qc(h:Heap)(x:Str):Option Int:=match h.nsMap Ud x with
 |some (.int v _)=>aw v
 |_=>aD
abbrev Qe:Option Obj->Bool
 |some ⟨.none,aD,.fields ps,sl⟩=>ps.isEmpty && sl.isEmpty
 |_=>aS
abbrev Qg(h:Heap)(c:Addr):Option Obj->Bool
 | some ⟨oc,od,.fields vs,os⟩=>(match (vs[11]?:Option Value) with
  |some (.ref P)=>PySem.W.codeHdIn [(c,⟨oc,od,.fields vs,os⟩)] c P && Qe (h.get? P) && Ud != P
  | _=>aS)
 |_=>aS
abbrev LN(h:Heap)(x:Str):Bool:=match h.nsMap Ud x with
 | some (.ref f)=>(match h.get? f with
  | some ⟨_,_,.func fd,_⟩=>(match fd.code with
   |.ref c=>Qg h c (h.get? c)
   | _=>aS)
  | _=>aS)
 |_=>aS
def LP{h:Heap}{x:Str}(e:LN h x=aN):∃f o j c O v T,h.nsMap Ud x=aw (.ref f)/\h.get? f=aw o/\o.data = .func j/\j.code = .ref c/\h.get? c=aw O/\O.data = .fields v/\v[11]?=aw (.ref T)/\Vo h c T/\h.get? T=aw (VI #[])/\Ud ≠ T:=by
 unfold LN at e;split at e
 ·rename_i f L;split at e
  ·rename_i U Y j X z;split at e
   ·rename_i c u;cases k:h.get? c with
    |none=>rw[k] at e;cases e
    |some O=>
     rw[k] at e;unfold Qg at e;split at e
     ·rename_i O J v os l;cases l;split at e
      ·rename_i P Q;simp only[bAE] at e;obtain⟨⟨y,d⟩,B⟩:=e
       have I:h.get? P=aw (VI #[]):=by
        unfold Qe at d;split at d
        ·rename_i ps sl C;simp only[bAE,Array.isEmpty_iff] at d;obtain⟨rfl,rfl⟩:=d;exact C
        ·cases d
       refine⟨f,_,j,c,_,v,P,L,z,rfl,u,k,rfl,Q,PySem.W.codeHd_of_K (K:=[(c,⟨O,J,.fields v,os⟩)]) (λb o q=>?_) y,I,by simpa using B⟩;rw[Yo] at q;cases hb:b == c with
       |true=>
        rw[hb] at q;cases q;have:b=c:=by simpa using hb
        rw[this];exact k
       |false=>rw[hb] at q;cases q
      ·cases e
     ·cases e
   ·cases e
  ·cases e
 ·cases e
abbrev Qh(h:Heap)(d:DefE):Bool:=match d.ks with
 |none=>aN
 |some _=>LN h d.x
@[inline]abbrev Cz:=Bool × List (Option xK) × List (Option Int) × List Bool × List Bool
abbrev LQ(con:List (Str × Int))(ae:List DefE)(h:Heap):Cz:=(h.isNs Ud,ae.map (λd=>F5 h d.x),con.map (λc=>Qc h c.1),fS.map (λx=>(h.nsMap Ud x).isNone),ae.map (Qh h))
abbrev CA(con:List (Str × Int))(ae:List DefE):Cz:=(aN,ae.map xL,con.map (λc=>aw c.2),fS.map (λ_=>aN),ae.map λ_=>aN)
abbrev Jl(d:DefE):Prop:=∀ (kV b pm:Value) (f:Option Addr) (c ct:Value) (u:List Value),u.length=d.ps.length->VP (Vt d.x d.x (eX d.st) (bX d.st) (aH d.st) .none kV b pm f c ct) ⟨u,[]⟩=pure (d.ps.zip u)
abbrev zD:List DefE->Prop
 |[]=>True
 |d::ds=>Jl d/\zD ds
def zD.at:∀ {b:List DefE} {d:DefE},zD b->d ∈ b->Jl d
 |e::b,d,h,hd=>by
  rcases Zn.mp hd with rfl |hd
  ·exact h.1
  ·exact zD.at h.2 hd
abbrev jY(h:Heap)(f:Addr):Vp:=match h.get? f with
 | some o=>(f,o)::(match o.data with
  | .func fd=>(match fd.code with
   |.ref c=>(match h.get? c with |some O=>[(c,O)] |none=>[])
   | _=>[])
  | _=>[])
 |none=>[]
abbrev cS(h:Heap)(d:DefE):Vp:=match h.nsMap Ud d.x with
 |some (.ref f)=>jY h f
 |_=>[]
abbrev Qj(K:Vp):Prop:=∀a o,K.lookup a=aw o->∀I n,o.data ≠ .seq I n
abbrev R5(h:Heap)(K:Vp)(x:Str)(T:Addr):Prop:=h.get? T=aw (VI #[])/\Ud ≠ T/\K.lookup T=aD/\EG K x T/\∃f o b c,h.nsMap Ud x=aw (.ref f)/\h.get? f=aw o/\o.data = .func b/\b.code = .ref c/\Vo h c T
structure Says(con:List (Str × Int))(ae:List DefE)(h:Heap):Prop where
 ns:∃m,h.Ns Ud m
 frag:∃K:Vp,K.In h/\Qj K/\(∀d ∈ ae,d.ks ≠ aD->∃T,R5 h K d.x T)/\∀mg,h.Ns Ud mg->TextOk K mg con ae
def dm{K:Vp}{a:Addr}{o:Obj}(h:K.lookup a=aw o):(a,o) ∈ K:=by
 induction K with
 |nil=>cases h
 |cons p K I=>
  obtain⟨b,q⟩:=p;rw[Yo] at h;cases hb:a == b with
  |true=>
   rw[hb] at h;cases h;have:a=b:=by simpa using hb
   subst this;exact Zk
  |false=>rw[hb] at h;exact Zh _ (I h)
def CB{K:Vp}{a:Addr}{o:Obj}(h:(a,o) ∈ K):∃o',K.lookup a=aw o':=by
 induction K with
 |nil=>cases h
 |cons p K I=>
  obtain⟨b,q⟩:=p;rw[Yo];cases hb:a == b with
  |true=>exact⟨_,rfl⟩
  |false=>
   rcases Zn.mp h with e |h
   ·cases e;simp at hb
   ·exact I h
def CC{h:Heap}{f a:Addr}{o:Obj}(e:(a,o) ∈ jY h f):h.get? a=aw o:=by
 unfold jY at e;cases d:h.get? f with
 |none=>rw[d] at e;cases e
 |some of=>
  rw[d] at e;dsimp only at e;rcases Zn.mp e with q |e
  ·cases q;exact d
  ·split at e
   ·split at e
    ·rename_i c j;cases b:h.get? c with
     |none=>rw[b] at e;cases e
     |some O=>
      rw[b] at e;dsimp only at e;rcases Zn.mp e with q |e
      ·cases q;exact b
      ·cases e
    ·cases e
   ·cases e
def qD{h:Heap}{a:Addr}{mg:Str->Option Value}(N:h.Ns a mg):h.nsMap a=mg:=by
 obtain⟨o,f,d,c,hd,_,b⟩:=N
 funext x
 unfold Heap.nsMap;rw[c];dsimp only;rw[hd];exact b x
def tv{h:Heap}{d:DefE}(e:F5 h d.x=xL d):∃f l q kV j pm k c ct O u cd v a t r C,h.nsMap Ud d.x=aw (.ref f)/\h.get? f=aw ⟨l,q,.func (Vt d.x d.x (eX d.st) (bX d.st) (aH d.st) .none kV j pm k (.ref c) ct),O⟩ ∧
  h.get? c=aw ⟨u,cd,.fields v,C⟩/\v.toList=a :: .str d.x t::r:=by
 unfold F5 xL at e;split at e
 ·rename_i f J;unfold Qa at e;split at e
  ·rename_i l q nm T ps b sc gl cl Q kV j pm k I ct L O B;simp only[Option.some.injEq,Prod.mk.injEq] at e;obtain⟨⟨rfl,rfl⟩,⟨rfl,rfl⟩,⟨rfl,rfl⟩,⟨rfl,rfl⟩,rfl,e⟩:=e;unfold Jk at e;split at e
   ·rename_i c;split at e
    ·rename_i u cd v C y;split at e
     ·rename_i a n t r z;cases e;exact⟨f,l,q,kV,j,pm,k,c,ct,O,u,cd,v,a,t,r,C,J,B,y,z⟩
     ·cases e
    ·cases e
   ·cases e
  ·cases e
 ·cases e
def F6{con:List (Str × Int)}{ae:List DefE}(hb:zD ae){h:Heap}(e:LQ con ae h=CA con ae):Says con ae h:=by
 unfold LQ CA at e;simp only[Prod.mk.injEq] at e;obtain⟨e0,e1,e2,e3,e4⟩:=e;have N:=Heap.Ns.of_isNs e0;have D:∀d ∈ ae,F5 h d.x=xL d:=λd hd=>Y9.mp e1 d hd
 have inK:∀a o,(a,o) ∈ ae.flatMap (cS h)->h.get? a=aw o:=λa o he=>by
  obtain⟨d,hd,he⟩:=Yc.mp he;obtain⟨f,X,od,kV,j,pm,U,c,ct,O,Z,cd,Y,Q,t,r,J,b,k,l,B⟩:=tv (D d hd);unfold cS at he;rw[b] at he;exact CC he
 have lk:∀a o,(a,o) ∈ ae.flatMap (cS h)->(ae.flatMap (cS h)).lookup a=aw o:=λa o he=>by
  obtain⟨o',q⟩:=CB he;have z:=inK a o' (dm q);rw[inK a o he] at z;cases z;exact q
 refine⟨⟨_,N⟩,ae.flatMap (cS h),λa o q=>inK a o (dm q),λa o q its n hs=>?_,λd hd hk=>?_,λmg G=>?_⟩
 ·obtain⟨d,hd,he⟩:=Yc.mp (dm q);obtain⟨f,X,od,kV,j,pm,U,c,ct,O,Z,cd,Y,Q,t,r,J,b,k,l,B⟩:=tv (D d hd);unfold cS at he;rw[b] at he;dsimp only at he;unfold jY at he;rw[k] at he;dsimp only at he;rw[l] at he;dsimp only at he;rcases Zn.mp he with z |he
  ·cases z;cases hs
  ·rcases Zn.mp he with z |he
   ·cases z;cases hs
   ·cases he
 ·have z:=Y9.mp e4 d hd;unfold Qh at z;cases hz:d.ks with
  |none=>exact absurd hz hk
  |some y=>
   rw[hz] at z;obtain⟨f,o,fd,c,X,Y,T,b,k,l,B,g5,g6,g7,g8,g9,g10⟩:=LP z;refine⟨T,g9,g10,?_,?_,f,o,fd,c,b,k,l,B,g8⟩
   ·cases hl:(ae.flatMap (cS h)).lookup T with
    |none=>rfl
    |some q=>
     have iq:=inK T q (dm hl);rw[g9] at iq;cases iq;obtain⟨L,u,he⟩:=Yc.mp (dm hl);obtain⟨f,X,od,kV,j,pm,U,c,ct,O,Z,cd,Y,Q,t,r,J,I,C,k3,k4⟩:=tv (D L u);unfold cS at he;rw[I] at he;dsimp only at he;unfold jY at he;rw[C] at he;dsimp only at he;rw[k3] at he;dsimp only at he;rcases Zn.mp he with y |he
     ·cases y
     ·rcases Zn.mp he with y |he
      ·cases y;simp at k4
      ·cases he
   ·intro f' o' fd' c' oc' vs' P' q1 q2 q3 q4 q5 q6 q7;obtain⟨L,u,he⟩:=Yc.mp (dm q1);obtain⟨f2,oc2,od2,kV,j,pm,U,c2,ct,O,Z,cd,vs2,Q,t,r,J,I,C,k3,k4⟩:=tv (D L u);unfold cS at he;rw[I] at he;dsimp only at he;unfold jY at he;rw[C] at he;dsimp only at he;rw[k3] at he;dsimp only at he;rcases Zn.mp he with y |he
    ·cases y;cases q2;have ex:L.x=d.x:=q3;rw[ex,b] at I;cases I;rw[k] at C;cases C;cases l;rw[B] at q4;cases q4;have:=inK c oc' (dm q5);rw[g5] at this;cases this;rw[g6] at q6;cases q6;rw[g7] at q7;cases q7;rfl
    ·rcases Zn.mp he with y |he
     ·cases y;cases q2
     ·cases he
 ·have hm:=qD G;refine⟨λi x v hi=>?_,λx hx=>?_,λi d hi=>?_⟩
  ·have z:=Y9.mp e2 (x,v) (Zd hi);unfold Qc at z;rw[hm] at z;dsimp only at z;split at z
   ·rename_i v' t hv;cases z;exact⟨t,hv⟩
   ·cases z
  ·have z:=Y9.mp e3 x hx;rw[hm] at z
   simpa using z
  ·have hd:=Zd hi;obtain⟨f,X,od,kV,j,pm,U,c,ct,O,Z,cd,Y,Q,t,r,J,b,k,l,B⟩:=tv (D d hd)
   have m1:(f,_) ∈ ae.flatMap (cS h):=Yc.mpr ⟨d,hd,by
    show _ ∈ cS h d;unfold cS;rw[b];dsimp only;unfold jY;rw[k];exact Zk⟩
   have m2:(c,_) ∈ ae.flatMap (cS h):=Yc.mpr ⟨d,hd,by
    show _ ∈ cS h d;unfold cS;rw[b];dsimp only;unfold jY;rw[k];dsimp only;rw[l];exact Zh _ Zk⟩
   have l1:=lk _ _ m1;have l2:=lk _ _ m2;have kp:Vy (ae.flatMap (cS h)) (.ref f)=aN:=by unfold Vy;dsimp only;rw[l1]
   have cdI:Vr (ae.flatMap (cS h)) (.ref c) d.x=aN:=by
    unfold Vr;dsimp only;rw[l2];dsimp only;rw[B];simp
   have F:=Kk (st:=d.st) (x:=d.x) (qual:=d.x) l1 cdI kp;refine⟨f,_,by rw[<-hm];exact b,kp,F.binds (hb.at hd),F⟩
def vS{con:List (Str × Int)}{ae:List DefE}{h h':Heap}(x:Says con ae h)(k:∀b o,h.get? b=aw o->h'.get? b=aw o):Says con ae h':=by
 obtain⟨⟨m,N⟩,K,Q,ns,X,T⟩:=x
 have B:∀mg,h'.Ns Ud mg->h.Ns Ud mg:=λmg ⟨o,v,u,l,r⟩=>by
  obtain⟨o',es',I,j,r'⟩:=N;have z:=k _ _ j;rw[l] at z;cases z;exact⟨o,v,u,j,r⟩
 have y:h'.Ns Ud m:=let ⟨o,v,u,l,r⟩:=N;⟨o,v,u,k _ _ l,r⟩;refine⟨⟨m,y⟩,K,λa o q=>k _ _ (Q a o q),ns,λd hd hk=>?_,λmg G=>T mg (B mg G)⟩;obtain⟨T,U,O,C,Y,f,o,L,c,J,t6,t7,t8,Z⟩:=X d hd hk;exact⟨T,k _ _ U,O,C,Y,f,o,L,c,by rw[qD y,<-qD N];exact J,k _ _ t6,t7,t8,Z.keeps k⟩
abbrev qE(con:List (Str × Int))(ae:List DefE)(hb:zD ae):PySem.W.Hook:=
 ⟨Cz,λs=>LQ con ae s.heap,λ_=>CA con ae,λ_ h=>Says con ae h,λ_ _ e=>F6 hb e,λ_ _ _ x k=>vS x k⟩
def mE{K:Vp}{m:List Addr}{H:Hp}:∀ns:List Int,VDs K m H (ns.map D.int) (ns.map V.int)
 |[]=>by rw[Z4,Z4,VDs]
 |a::l=>by rw[Zy,Zy,VDs];exact⟨_,_,rfl,bn,mE l⟩
def R6:Vn (#[]:Array Value).toList:=by first |exact .nil |trivial |(unfold Vn;simp)
def F7{l:PySem.W.OpenLaw}{n k i:Nat}{q:Program}{loose:List Str}{XP:(Str->Option Value)->Heap->Prop}{d:DefRec}{con:List (Str × Int)}{ae:List DefE}{hb:zD ae}{dl dz:DefE}{z:CE × Pos × Str}{x:Str}
  (hn:l.most=aw n) (hn2:n<=sizeLine) (hdf:d.params.defaults=[]) (hr:Room k callerA) (hx:d.name=dl.x) (hi:ae[i]?=aw dl) (b:dl.ps=[x]) (hc:ae.all (F1 (xH con ae))=aN) (hA:F2 con ae) (hdz:dz ∈ ae) (hz:dz.ks=aw z) (O:(ae.all λd=>d.ks.isNone || d.x == dz.x)=aN)
  (main:∀ns:List Int,ns.length<=n->∃S',evC ae k i [.ref 0] [.frz (ns.map D.int),.tbl dz.x z.2.1 z.2.2]=aw (.bl aN,S')) :
  PySem.W.WalkO q loose XP (qE con ae hb).says l.row.toRowW d [] (λf vs=>PySem.call f vs):=by
 refine Att.attach_call hn hdf λw s₀ C mg mb fa o pm cd I a vs ns G Y ho hd Z L X J B hg=>?_;obtain⟨_,K,KX,noS,tb,TX⟩:=(show Says con ae C.heap from Y);have TX:=TX mg G.T.g;obtain⟨f,fd,hm,kp,_,F⟩:=TX.fn i dl hi;rw[hx] at L;rw[L] at hm;cases hm
 have bd:∀ (s:Shared) (u:Value),BindsTo s fd ⟨[u],[]⟩ [(x,u)]:=λs u=>by
  obtain⟨oc,od,kV,I,pm,an,U,ct,osl,rfl,lk,Z⟩:=F.ex;have z:=(hb.at (Zd hi)) kV I pm an U ct [u] (by rw[b];rfl);rw[b] at z;exact .of_eq z
 obtain⟨T,t1,t2,t3,t4,fz',oz,fdz,c,t5,t6,t7,t8,t9⟩:=tb dz hdz (by rw[hz];simp);have hmz:mg dz.x=aw (.ref fz'):=by rw[<-qD G.T.g];exact t5
 have bm:C.heap.BuiltinsAt mg T:=by
  obtain⟨bm,ob,b1,b2,b3,b4,b5,b6⟩:=G.T.bmain;refine⟨bm,ob,b1,b2,λy=>?_,λy=>?_,b3,b4,b5,b6⟩
  ·obtain⟨o,es,ep,ho,hd,_⟩:=G.T.g;rw[y,ho] at b3;cases b3;rw[hd] at b6;cases b6
  ·rw[y,t1] at b3;cases b3;cases b4
 refine zC (CX:=CX0) (T:=T) (c:=c) (ps:=#[]) (sp:=spC K (evC ae k i) dl.ps.length) KX G.T.g G.T.b G.T.builtins G.T.nolimit hg (t9.tab t1) t3 X J (ZW B hn2) hr t9 bm (λbase KB _ cB bB=>by
  have:=xJ (P:=l.row.toRowW.prog) (w:=w) (base:=base) TX hc KB hA (λd' hd' hk' f' fd' Q F'=>?_) k i dl hi fa fd L F
  ·rw[b] at this ⊢;exact this
  ·have hx':=ZR.mp O d' hd'
   have ex:d'.x=dz.x:=by
    cases hk2:d'.ks with
    |none=>exact absurd hk2 hk'
    |some y=>rw[hk2] at hx';simpa using hx'
   rw[ex,hmz] at Q;cases Q;obtain⟨oc,od,kV,I,pm,an,U,ct,osl,ef,lk,Z⟩:=F'.ex;have:=KX _ _ lk;rw[t6] at this;cases this;cases t7;exact⟨c,T,t8,cB,bB,t2⟩) bd (λH hO hS=>?_) λH e s' z=>z
 have fz:∃o,H a=aw (.frz o (.lst (ns.map V.int))):=by
  rcases hS with (z |⟨o,z⟩) |⟨o,its,n',hk,hc,hdd,hdt,_⟩
  ·by_cases aT:a=T
   ·rw[aT,hO.1] at z;cases z
   ·rcases hO.2 a aT with y |⟨o',xs,y⟩
    ·rw[y] at z;cases z
    ·rw[y] at z;cases z
  ·exact⟨o,z⟩
  ·exact absurd hdt (noS a o hk its n')
 obtain⟨o,fz⟩:=fz;have aT:a ≠ T:=λy=>by rw[y,hO.1] at fz;cases fz
 obtain⟨S',e⟩:=main ns B;refine⟨[a,T],[.ref 0],[.frz (ns.map D.int),.tbl dz.x z.2.1 z.2.2],.bl aN,S',?_,⟨rfl,by simp[aT],λj ob ej=>?_⟩,by rw[b];rfl,e,λm' H' v A vv=>vv.bls⟩
 ·rw[VDs];exact⟨_,_,rfl,by rw[VD];exact⟨a,rfl,rfl⟩,by rw[VDs]⟩
 ·cases j with
  |zero=>cases ej;exact⟨a,rfl,o,_,fz,mE ns⟩
  |succ j=>
   cases j with
   |zero=>cases ej;exact⟨T,rfl,t4,#[],hO.1,R6,λcv ec=>by cases ec⟩
   |succ j=>simp at ej
end Ev
namespace Lw
open PySem Ev
abbrev top(i:Nat):Stmt:=PySem.Challenge.pw_downrings_k54_whole_stuck_lots_and_sendi.main.body.getD i (.Pass ⟨0,0,0,0⟩)
abbrev mF:List CS:=[.ret (.and (.inst .int (.var 0)) (.not (.inst .bool (.var 0))))]
abbrev jZ:List CS:=[.ret (.and (.call 0 [.var 0]) (.chn .le .le (.var 1) (.var 0) (.var 2)))]
abbrev j6:List CS:=[.ret (.call 1 [.var 0,.int 0,.con 0 9999])]
abbrev mG:List CS:=[.ret (.and (.inst .tuple (.var 0)) (.chn .le .le (.var 1) (.len (.var 0)) (.var 2)))]
abbrev iX:List CS:=[.ifs (.or (.not (.call 3 [.var 0,.int 0,.var 1])) (.not (.all (.comp ["number"] (.call 1 [.var 2,.int 0,.bin .sub (.var 1) (.int 1)]) [⟨.name 2,.val (.var 0),aD⟩])))) [.ret (.bl aS)] [],.ret (.all (.comp ["number"] (.cmp .eq (.cnt (.var 0) (.var 2)) (.int 1)) [⟨.name 2,.val (.var 0),aD⟩]))]
abbrev iY:List CS:=[.ret (.and (.call 4 [.var 0,.var 1]) (.cmp .eq (.listOf (.var 0)) (.srt (.var 0))))]
abbrev oQ:List CS:=[.ret (.tupOf (.comp ["other"] (.var 2) [⟨.name 2,.val (.var 0),aw (.cmp .ne (.var 2) (.var 1))⟩]))]
abbrev oT:List CS:=[.asg (.name 1) (.lst [.tup []]),.for_ (.name 2) (.val (.var 0)) [.asg (.name 1) (.bin .add (.var 1) (.comp ["lot"] (.bin .add (.var 3) (.tup [.var 2])) [⟨.name 3,.val (.var 1),aD⟩]))],.ret (.var 1)]
abbrev j7:List CS:=[.ifs (.not (.call 3 [.var 0,.int 4,.int 4])) [.ret (.bl aS)] [],.asg (.tup [.name 1,.name 2,.name 3,.name 4]) (.var 0),.ret (.and (.call 1 [.var 1,.int 0,.con 1 8]) (.and (.call 1 [.var 2,.int 0,.con 2 60]) (.and (.call 9 [.var 3]) (.call 12 [.var 4]))))]
abbrev mH:List CS:=[.ifs (.not (.call 3 [.var 0,.int 1,.con 3 4])) [.ret (.bl aS)] [],.ret (.and (.all (.comp ["row"] (.call 10 [.var 1,.len (.var 0)]) [⟨.name 1,.val (.var 0),aD⟩])) (.call 11 [.var 0]))]
abbrev iZ:List CS:=[.ret (.and (.call 3 [.var 0,.var 1,.var 1]) (.all (.comp ["gap"] (.call 1 [.var 2,.int 1,.con 4 99]) [⟨.name 2,.val (.var 0),aD⟩])))]
abbrev bP:List CS:=[.asg (.name 1) (.listR (.len (.var 0))),.ret (.all (.comp ["a", "b", "c"] (.cmp .le (.ix (.ix (.var 0) (.var 2)) (.var 3)) (.bin .add (.ix (.ix (.var 0) (.var 2)) (.var 4)) (.ix (.ix (.var 0) (.var 4)) (.var 3)))) [⟨.name 2,.val (.var 1),aD⟩,⟨.name 3,.val (.var 1),aD⟩,⟨.name 4,.val (.var 1),aD⟩]))]
abbrev j8:List CS:=[.ifs (.or (.not (.call 3 [.var 0,.int 0,.con 5 4])) (.not (.all (.comp ["part"] (.call 13 [.var 1]) [⟨.name 1,.val (.var 0),aD⟩])))) [.ret (.bl aS)] [],.ret (.all (.comp ["at"] (.cmp .gt (.ix (.ix (.var 0) (.var 1)) (.int 0)) (.ix (.ix (.var 0) (.bin .sub (.var 1) (.int 1))) (.int 1))) [⟨.name 1,.r2 (.int 1) (.len (.var 0)),aD⟩]))]
abbrev i6:List CS:=[.ret (.and (.call 3 [.var 0,.int 2,.int 2]) (.and (.call 2 [.ix (.var 0) (.int 0)]) (.and (.call 2 [.ix (.var 0) (.int 1)]) (.cmp .lt (.ix (.var 0) (.int 0)) (.ix (.var 0) (.int 1))))))]
abbrev oU:List CS:=[.ret (.call 1 [.var 1,.int 0,.bin .sub (.len (.ix (.var 0) (.int 2))) (.int 1)])]
abbrev eL:List CS:=[.for_ (.tup [.name 2,.name 3]) (.val (.ix (.var 0) (.int 3))) [.ifs (.chn .le .lt (.var 2) (.var 1) (.var 3)) [.ret (.var 3)] []],.ret (.var 1)]
abbrev tw:List CS:=[.ifs (.not (.call 3 [.var 0,.int 4,.int 4])) [.ret (.bl aS)] [],.asg (.tup [.name 1,.name 2,.name 3,.name 4]) (.var 0),.ret (.and (.call 8 [.var 1]) (.and (.call 17 [.var 1,.var 2]) (.and (.call 18 [.var 1,.var 3]) (.call 20 [.var 3,.var 4]))))]
abbrev mI:List CS:=[.ifs (.cmp .is (.var 1) .non) [.ret (.bl aN)] [],.ret (.and (.call 3 [.var 1,.int 2,.int 2]) (.and (.call 14 [.var 0,.ix (.var 1) (.int 0)]) (.call 2 [.ix (.var 1) (.int 1)])))]
abbrev gX:List CS:=[.ret (.and (.call 3 [.var 1,.int 0,.con 6 7]) (.all (.comp ["part"] (.call 19 [.var 0,.var 2]) [⟨.name 2,.val (.var 1),aD⟩])))]
abbrev j9:List CS:=[.ifs (.not (.call 3 [.var 1,.int 7,.int 7])) [.ret (.bl aS)] [],.asg (.tup [.name 2,.name 3,.name 4,.name 5,.name 6,.name 7,.name 8]) (.var 1),.ifs (.not (.all (.comp ["minute"] (.call 2 [.var 9]) [⟨.name 9,.val (.tup [.var 3,.var 4,.var 5,.var 6]),aD⟩]))) [.ret (.bl aS)] [],.ifs (.not (.chn .le .le (.bin .add (.var 3) (.ix (.var 0) (.int 1))) (.var 4) (.var 5))) [.ret (.bl aS)] [],.ret (.and (.call 14 [.var 0,.var 2]) (.and (.call 1 [.var 7,.int 0,.con 7 99]) (.call 1 [.var 8,.int 0,.ix (.var 0) (.int 0)])))]
abbrev kc:List CS:=[.ifs (.not (.call 4 [.var 1,.len (.var 0)])) [.ret (.bl aS)] [],.ret (.all (.comp ["number", "glider"] (.or (.cmp .eq (.ix (.var 3) (.int 6)) (.int 0)) (.cmp .isin (.var 2) (.var 1))) [⟨.tup [.name 2,.name 3],.en (.var 0),aD⟩]))]
abbrev kf:List CS:=[.ret (.tupOf (.comp ["number"] (.var 1) [⟨.name 1,.r1 (.len (.ix (.var 0) (.int 2))),aw (.cmp .notin (.var 1) (.ix (.var 0) (.int 3)))⟩]))]
abbrev kh:List CS:=[.ifs (.not (.call 16 [.var 0])) [.never] []]
abbrev nK:List CS:=[.asg (.tup [.name 2,.name 3,.name 4,.name 5,.name 6,.name 7,.name 8]) (.var 0),.ret (.bin .mul (.var 7) (.mx (.int 0) (.bin .sub (.var 1) (.var 6))))]
abbrev fv:List CS:=[.ifs (.not (.var 1)) [.ret (.ix (.var 0) (.int 1))] [],.asg (.tup [.name 2,.name 3]) (.ix (.var 1) (.neg (.int 1))),.ret (.tup [.ix (.ix (.ix (.var 0) (.int 2)) (.var 2)) (.int 0),.var 3])]
abbrev oV:List CS:=[.ifs (.cmp .is (.var 1) .non) [.ret (.int 0)] [],.ret (.bin .add (.ix (.var 1) (.int 1)) (.ix (.ix (.ix (.ix (.var 0) (.int 0)) (.int 2)) (.ix (.var 1) (.int 0))) (.var 2)))]
abbrev mJ:List CS:=[.asg (.tup [.name 3,.name 4]) (.var 1),.ret (.chn .le .lt (.ix (.ix (.ix (.var 0) (.int 2)) (.var 3)) (.int 1)) (.var 2) (.bin .sub (.var 4) (.ix (.ix (.var 0) (.int 0)) (.int 1))))]
abbrev fw:List CS:=[.ret (.len (.comp ["landing"] (.var 3) [⟨.name 3,.val (.var 1),aw (.call 26 [.var 0,.var 3,.var 2])⟩]))]
abbrev dH:List CS:=[.ret (.srt (.comp ["glider"] (.ix (.var 1) (.int 1)) [⟨.name 1,.val (.ix (.var 0) (.int 2)),aD⟩]))]
abbrev gY:List CS:=[.asg (.tup [.name 3,.name 4,.name 5,.name 6,.name 7,.name 8,.name 9]) (.ix (.ix (.var 0) (.int 2)) (.ix (.ix (.var 1) (.var 2)) (.int 0))),.ret (.and (.cmp .gt (.var 9) (.int 0)) (.and (.call 26 [.var 0,.ix (.var 1) (.var 2),.var 4]) (.cmp .gt (.call 30 [.var 0,.var 1,.var 2,.var 4]) (.var 9))))]
abbrev gZ:List CS:=[.asg (.name 4) (.sl (.var 1) aD (aw (.var 2))),.asg (.name 5) (.comp ["when"] (.var 6) [⟨.name 6,.val (.call 28 [.var 0]),aw (.and (.cmp .gt (.var 6) (.var 3)) (.call 26 [.var 0,.ix (.var 1) (.var 2),.var 6]))⟩]),.ret (.mxL (.comp ["when"] (.bin .add (.int 1) (.call 27 [.var 0,.var 4,.var 6])) [⟨.name 6,.val (.bin .add (.lst [.var 3]) (.var 5)),aD⟩]))]
abbrev dq:List CS:=[.asg (.name 2) (.lst []),.for_ (.tup [.name 3,.name 4]) (.en (.var 1)) [.asg (.name 5) (.call 33 [.var 0,.call 24 [.var 0,.var 2],.var 4,.var 3]),.ifs (.cmp .is (.var 5) .non) [.ret (.var 2)] [],.ex (.app (.var 2) (.tup [.var 4,.var 5])),.ifs (.call 29 [.var 0,.var 2,.var 3]) [.ret (.sl (.var 2) aD (aw (.var 3)))] []],.ret (.var 2)]
abbrev eM:List CS:=[.asg (.name 1) (.call 31 [.var 0,.ix (.var 0) (.int 3)]),.ret (.ite (.cmp .eq (.len (.var 1)) (.len (.ix (.var 0) (.int 3)))) (.var 1) .non)]
abbrev eN:List CS:=[.asg (.tup [.name 4,.name 5,.name 6,.name 7,.name 8,.name 9,.name 10]) (.ix (.ix (.var 0) (.int 2)) (.var 2)),.asg (.name 11) (.call 15 [.ix (.var 0) (.int 0),.mx (.var 6) (.call 25 [.var 0,.var 1,.var 4])]),.ifs (.or (.cmp .gt (.var 11) (.var 7)) (.call 34 [.var 0,.var 3,.var 11])) [.ret .non] [],.ret (.var 11)]
abbrev dI:List CS:=[.asg (.tup [.name 3,.name 4,.name 5,.name 6]) (.ix (.var 0) (.int 0)),.asg (.name 7) (.call 28 [.var 0]),.asg (.name 8) (.bin .add (.var 3) (.var 1)),.ret (.and (.cmp .lt (.var 8) (.len (.var 7))) (.cmp .gt (.bin .sub (.var 2) (.var 4)) (.ix (.var 7) (.var 8))))]
abbrev i7:List CS:=[.asg (.name 2) (.call 32 [.var 0]),.ifs (.cmp .is (.var 2) .non) [.ret .non] [],.asg (.name 3) (.call 37 [.var 0,.var 1,.call 24 [.var 0,.var 2],.call 21 [.var 0],.dic0]),.ifs (.cmp .is (.var 3) .non) [.ret .non] [],.asg (.tup [.name 4,.name 5]) (.var 3),.for_ (.tup [.name 6,.name 7]) (.val (.rev (.var 2))) [.asg (.name 4) (.call 36 [.var 1,.ix (.ix (.var 0) (.int 2)) (.var 6),.var 7,.var 4])],.ret (.tup [.var 4,.bin .add (.ix (.var 0) (.int 3)) (.var 5)])]
abbrev tz:List CS:=[.ifs (.cmp .eq (.var 0) (.str "last")) [.ret (.mx (.var 2) (.var 3))] [],.ifs (.cmp .eq (.var 0) (.str "cost")) [.ret (.bin .add (.call 23 [.var 1,.var 2]) (.var 3))] [],.ret (.mx (.call 23 [.var 1,.var 2]) (.var 3))]
abbrev dQ:List CS:=[.ifs (.not (.var 3)) [.ret (.tup [.int 0,.tup []])] [],.asg (.name 5) (.tup [.var 2,.var 3]),.ifs (.cmp .notin (.var 5) (.var 4)) [.asg (.name 6) (.comp ["number"] (.call 38 [.var 0,.var 1,.var 2,.var 3,.var 7,.var 4]) [⟨.name 7,.val (.var 3),aD⟩]),.setI (.mnN (.comp ["way"] (.var 7) [⟨.name 7,.val (.var 6),aw (.cmp .isnot (.var 7) .non)⟩])) (.var 4) (.var 5)] [],.ret (.ix (.var 4) (.var 5))]
abbrev kj:List CS:=[.asg (.name 6) (.call 33 [.var 0,.var 2,.var 4,.bin .sub (.len (.ix (.var 0) (.int 2))) (.len (.var 3))]),.ifs (.cmp .is (.var 6) .non) [.ret .non] [],.asg (.name 7) (.ix (.ix (.var 0) (.int 2)) (.var 4)),.asg (.name 8) (.call 37 [.var 0,.var 1,.tup [.ix (.var 7) (.int 0),.var 6],.call 6 [.var 3,.var 4],.var 5]),.ifs (.cmp .is (.var 8) .non) [.ret .non] [],.ret (.tup [.call 36 [.var 1,.var 7,.var 6,.ix (.var 8) (.int 0)],.bin .add (.tup [.var 4]) (.ix (.var 8) (.int 1))])]
abbrev mL:List CS:=[.ex (.call 42 [.var 0,.var 1]),.ret (.call 44 [.call 43 [.var 0,.var 1]])]
abbrev hU:List CS:=[.ex (.call 22 [.var 0]),.asg (.name 1) (.lst []),.for_ (.name 2) (.val (.call 45 [.var 0])) [.ifs (.and (.not (.call 47 [.var 2,.var 1])) (.not (.call 44 [.call 43 [.var 0,.var 2]]))) [.ex (.app (.var 1) (.var 2))] []],.ret (.var 1)]
abbrev eO:List CS:=[.asg (.name 1) (.call 40 [.var 0]),.asg (.name 2) (.lst []),.for_ (.name 3) (.val (.call 45 [.var 0])) [.ifs (.and (.not (.call 47 [.var 3,.var 2])) (.not (.call 47 [.call 46 [.var 0,.var 3],.var 1]))) [.ex (.app (.var 2) (.var 3))] []],.ret (.var 2)]
abbrev kl:List CS:=[.ex (.call 22 [.var 0]),.ifs (.not (.call 5 [.var 1,.len (.ix (.var 0) (.int 2))])) [.never] []]
abbrev hV:List CS:=[.asg (.tup [.name 2,.name 3,.name 4,.name 5]) (.var 0),.asg (.name 6) (.tupOf (.comp ["number"] (.ix (.var 4) (.var 7)) [⟨.name 7,.val (.var 1),aD⟩])),.ret (.tup [.var 2,.var 3,.var 6,.tupOf (.comp ["number"] (.idx (.var 1) (.var 7)) [⟨.name 7,.val (.var 5),aw (.cmp .isin (.var 7) (.var 1))⟩])])]
abbrev xM:List CS:=[.ret (.cmp .isnot (.call 35 [.var 0,.str "last"]) .non)]
abbrev kz:CE × Pos × Str:=(.call 7 [.listR (.len (.ix (.var 0) (.int 2)))],Ev.RZ (top 64), "all_lots.<locals>.<lambda>")
abbrev oW:List CS:=[.ret (.tupOf (.comp ["number"] (.var 2) [⟨.name 2,.r1 (.len (.ix (.var 0) (.int 2))),aw (.cmp .notin (.var 2) (.var 1))⟩]))]
abbrev km:List CS:=[.ret (.any (.comp ["other"] (.all (.comp ["number"] (.cmp .isin (.var 3) (.var 0)) [⟨.name 3,.val (.var 2),aD⟩])) [⟨.name 2,.val (.var 1),aD⟩]))]
abbrev hX:List CS:=[.ifs (.cmp .lt (.var 1) (.len (.var 0))) [.ret (.ix (.var 0) (.var 1))] [],.ret (.int 0)]
abbrev oX:List CS:=[.ifs (.cmp .ge (.var 0) (.bin .pow (.int 10) (.int 18))) [.ret (.lst [.bin .sub (.var 0) (.bin .pow (.int 10) (.int 18))])] [],.asg (.name 1) (.int 0),.for_ (.name 2) (.r1 (.int 64)) [.asg (.name 3) (.bin .mod (.bin .mul (.bin .add (.bin .add (.bin .mod (.var 0) (.int 2147483629)) (.bin .mul (.int 7919) (.var 2))) (.int 1)) (.int 48271)) (.int 2147483647)),.asg (.name 3) (.bin .mod (.bin .add (.bin .add (.bin .mul (.var 3) (.var 3)) (.bin .mul (.int 69621) (.var 2))) (.int 7)) (.int 2147483587)),.asg (.name 1) (.bin .add (.bin .mul (.var 1) (.int 2147483587)) (.var 3))],.ret (.lst [.var 1])]
abbrev mM:List CS:=[.asg (.name 2) (.bin .mod (.ix (.var 0) (.int 0)) (.var 1)),.setI (.bin .fdiv (.ix (.var 0) (.int 0)) (.var 1)) (.var 0) (.int 0),.ret (.var 2)]
abbrev fc:List CS:=[.asg (.tup [.name 1,.name 2]) (.tup [.bin .add (.int 1) (.call 50 [.var 0,.int 4]),.ix (.lst [.int 3,.int 12,.int 40]) (.call 50 [.var 0,.int 3])]),.asg (.name 3) (.comp ["_law_a"] (.comp ["_law_b"] (.bin .add (.int 1) (.call 50 [.var 0,.var 2])) [⟨.name 7,.r1 (.var 1),aD⟩]) [⟨.name 6,.r1 (.var 1),aD⟩]),.for_ (.name 4) (.r1 (.var 1)) [.for_ (.name 5) (.r1 (.var 1)) [.setI (.comp ["_law_b"] (.mn (.ix (.ix (.var 3) (.var 5)) (.var 6)) (.bin .add (.ix (.ix (.var 3) (.var 5)) (.var 4)) (.ix (.ix (.var 3) (.var 4)) (.var 6)))) [⟨.name 6,.r1 (.var 1),aD⟩]) (.var 3) (.var 5)]],.ret (.tupOf (.comp ["_law_row"] (.tupOf (.var 6)) [⟨.name 6,.val (.var 3),aD⟩]))]
abbrev i8:List CS:=[.asg (.tup [.name 1,.name 2]) (.tup [.lst [],.int 0]),.for_ (.name 3) (.r1 (.call 50 [.var 0,.ix (.lst [.int 1,.int 5]) (.call 50 [.var 0,.int 2])])) [.asg (.name 4) (.bin .add (.var 2) (.call 50 [.var 0,.int 25])),.ex (.app (.var 1) (.tup [.var 4,.bin .add (.bin .add (.var 4) (.int 1)) (.call 50 [.var 0,.int 25])])),.asg (.name 2) (.bin .add (.ix (.ix (.var 1) (.neg (.int 1))) (.int 1)) (.int 1))],.ret (.tup [.ix (.lst [.int 8,.int 1,.int 2,.int 3,.int 0]) (.call 50 [.var 0,.int 5]),.ix (.lst [.int 0,.int 2,.int 9,.int 60]) (.call 50 [.var 0,.int 4]),.call 51 [.var 0],.tupOf (.var 1)])]
abbrev gH:List CS:=[.asg (.tup [.name 2,.name 3]) (.tup [.call 52 [.var 0],.lst []]),.asg (.tup [.name 4,.name 5]) (.tup [.ix (.lst [.int 5,.int 20,.int 60]) (.call 50 [.var 0,.int 3]),.ix (.lst [.int 4,.int 30,.int 90,.int 400]) (.call 50 [.var 0,.int 4])]),.for_ (.name 6) (.r1 (.call 50 [.var 0,.bin .add (.var 1) (.int 1)])) [.asg (.name 7) (.call 50 [.var 0,.var 4]),.asg (.name 8) (.bin .add (.bin .add (.var 7) (.ix (.var 2) (.int 1))) (.ix (.lst [.int 0,.call 50 [.var 0,.int 9]]) (.call 50 [.var 0,.int 2]))),.asg (.tup [.name 9,.name 10]) (.tup [.bin .add (.var 8) (.call 50 [.var 0,.var 5]),.bin .add (.var 7) (.call 50 [.var 0,.var 5])]),.ex (.app (.var 3) (.lst [.call 50 [.var 0,.len (.ix (.var 2) (.int 2))],.var 7,.var 8,.var 9,.var 10,.ix (.lst [.int 0,.int 1,.int 7,.int 99]) (.call 50 [.var 0,.int 4]),.int 0]))],.asg (.tup [.name 11,.name 12]) (.tup [.listR (.len (.var 3)),.lst []]),.for_ (.name 13) (.r1 (.ix (.lst [.int 0,.call 50 [.var 0,.bin .add (.len (.var 3)) (.int 1)]]) (.call 50 [.var 0,.int 2]))) [.ex (.app (.var 12) (.popAt (.var 11) (.call 50 [.var 0,.len (.var 11)]))),.ifs (.and (.cmp .gt (.ix (.var 2) (.int 0)) (.int 0)) (.cmp .eq (.call 50 [.var 0,.int 3]) (.int 0))) [.setI (.bin .add (.int 1) (.call 50 [.var 0,.ix (.var 2) (.int 0)])) (.ix (.var 3) (.ix (.var 12) (.neg (.int 1)))) (.int 6)] []],.asg (.name 14) (.ix (.lst [.non,.tup [.call 50 [.var 0,.len (.ix (.var 2) (.int 2))],.call 50 [.var 0,.int 30]]]) (.call 50 [.var 0,.int 2])),.ret (.tup [.var 2,.var 14,.tupOf (.comp ["_law_one"] (.tupOf (.var 15)) [⟨.name 15,.val (.var 3),aD⟩]),.tupOf (.var 12)])]
abbrev mN:List CS:=[.asg (.name 1) (.lst [.tup []]),.for_ (.name 2) (.r1 (.var 0)) [.asg (.name 1) (.bin .add (.var 1) (.comp ["_law_lot"] (.bin .add (.var 3) (.tup [.var 2])) [⟨.name 3,.val (.var 1),aD⟩]))],.ret (.comp ["_law_long", "_law_lot"] (.var 4) [⟨.tup [.name 3,.name 4],.val (.srt (.comp ["_law_lot"] (.tup [.len (.var 3),.var 3]) [⟨.name 3,.val (.var 1),aD⟩])),aD⟩])]
abbrev hY:List CS:=[.asg (.tup [.name 1,.name 2,.name 3,.name 4]) (.call 53 [.var 0,.ix (.lst [.int 6,.int 7]) (.intOf (.cmp .eq (.call 50 [.var 0,.int 8]) (.int 1)))]),.asg (.name 5) (.ix (.lst [.int 1,.int 4,.int 12,.int 25]) (.call 50 [.var 0,.int 4])),.asg (.name 6) (.comp ["_law_one"] (.bin .add (.bin .add (.sl (.var 7) aD (aw (.int 3))) (.tup [.bin .add (.ix (.var 7) (.int 2)) (.call 50 [.var 0,.var 5])])) (.sl (.var 7) (aw (.int 4)) aD)) [⟨.name 7,.val (.var 3),aD⟩]),.ret (.tup [.var 1,.var 2,.tupOf (.var 6),.var 4])]
abbrev mO:List CS:=[.asg (.name 2) (.lst []),.for_ (.name 3) (.val (.var 0)) [.asg (.name 4) (.all (.comp ["_law_other"] (.any (.comp ["_law_one"] (.cmp .isin (.var 6) (.var 3)) [⟨.name 6,.val (.var 5),aD⟩])) [⟨.name 5,.val (.var 1),aD⟩])),.ifs (.and (.var 4) (.not (.any (.comp ["_law_less"] (.all (.comp ["_law_one"] (.cmp .isin (.var 6) (.var 3)) [⟨.name 6,.val (.var 5),aD⟩])) [⟨.name 5,.val (.var 2),aD⟩])))) [.ex (.app (.var 2) (.var 3))] []],.ret (.var 2)]
abbrev CD:List CS:=[.asg (.name 1) (.call 49 [.call 48 [.var 0,.int 0]]),.asg (.name 2) (.call 55 [.var 1]),.asg (.tup [.name 3,.name 4]) (.tup [.tupR (.len (.ix (.var 2) (.int 2))),.call 54 [.len (.ix (.var 2) (.int 2))]]),.asg (.tup [.name 5,.name 6]) (.tup [.call 40 [.var 2],.call 41 [.var 2]]),.ifs (.cmp .ne (.call 56 [.var 4,.var 5]) (.var 6)) [.ret (.bl aS)] [],.ifs (.or (.and (.cmp .ne (.var 6) (.lst [.tup []])) (.cmp .ne (.call 56 [.var 4,.var 6]) (.var 5))) (.and (.cmp .eq (.var 6) (.lst [.tup []])) (.cmp .ne (.var 5) (.lst [])))) [.ret (.bl aS)] [],.for_ (.name 7) (.r1 (.int 12)) [.asg (.name 8) (.ix (.var 4) (.call 50 [.var 1,.len (.var 4)])),.asg (.name 9) (.not (.any (.comp ["_law_less"] (.all (.comp ["_law_one"] (.cmp .isin (.var 12) (.var 8)) [⟨.name 12,.val (.var 11),aD⟩])) [⟨.name 11,.val (.var 5),aD⟩]))),.ifs (.cmp .ne (.call 39 [.var 2,.var 8]) (.var 9)) [.ret (.bl aS)] []],.for_ (.name 8) (.val (.sl (.var 6) aD (aw (.int 6)))) [.ifs (.cmp .isnot (.call 39 [.var 2,.tupOf (.comp ["_law_one"] (.var 11) [⟨.name 11,.val (.var 3),aw (.cmp .notin (.var 11) (.var 8))⟩])]) (.bl aN)) [.ret (.bl aS)] [],.for_ (.name 10) (.val (.var 8)) [.ifs (.cmp .isnot (.call 39 [.var 2,.tupOf (.comp ["_law_one"] (.var 11) [⟨.name 11,.val (.var 3),aw (.or (.cmp .notin (.var 11) (.var 8)) (.cmp .eq (.var 11) (.var 10)))⟩])]) (.bl aS)) [.ret (.bl aS)] []]],.ret (.bl aN)]
abbrev ij:DefE:=⟨"is_whole", top 6,["thing"],["thing"],mF,aD⟩
abbrev fU:DefE:=⟨"is_within", top 7,["thing", "least", "most"],["thing", "least", "most"],jZ,aD⟩
abbrev fV:DefE:=⟨"is_minute", top 8,["thing"],["thing"],j6,aD⟩
abbrev ik:DefE:=⟨"is_tuple", top 9,["thing", "least", "most"],["thing", "least", "most"],mG,aD⟩
abbrev fe:DefE:=⟨"are_unlike", top 10,["thing", "many"],["thing", "many"],iX,aD⟩
abbrev ff:DefE:=⟨"are_rising", top 11,["thing", "many"],["thing", "many"],iY,aD⟩
abbrev jF:DefE:=⟨"without", top 12,["numbers", "number"],["numbers", "number"],oQ,aD⟩
abbrev jG:DefE:=⟨"lots_of", top 13,["numbers", "lots", "number"],["numbers"],oT,aD⟩
abbrev fW:DefE:=⟨"is_meadow", top 20,["thing", "rings", "sink", "gaps", "shuts"],["thing"],j7,aD⟩
abbrev il:DefE:=⟨"are_gaps", top 21,["thing"],["thing"],mH,aD⟩
abbrev fh:DefE:=⟨"is_gap_row", top 22,["thing", "many"],["thing", "many"],iZ,aD⟩
abbrev bp:DefE:=⟨"no_glider_between_helps", top 23,["gaps", "kinds"],["gaps"],bP,aD⟩
abbrev fX:DefE:=⟨"are_shuts", top 24,["thing"],["thing"],j8,aD⟩
abbrev fj:DefE:=⟨"is_stretch", top 25,["thing"],["thing"],i6,aD⟩
abbrev jH:DefE:=⟨"is_kind", top 26,["meadow", "thing"],["meadow", "thing"],oU,aD⟩
abbrev cz:DefE:=⟨"first_not_shut", top 27,["meadow", "minute", "begin", "end"],["meadow", "minute"],eL,aD⟩
abbrev mP:DefE:=⟨"is_sky", top 31,["thing", "meadow", "ahead", "gliders", "fixed"],["thing"],tw,aD⟩
abbrev im:DefE:=⟨"is_ahead", top 32,["meadow", "thing"],["meadow", "thing"],mI,aD⟩
abbrev dR:DefE:=⟨"are_gliders", top 33,["meadow", "thing"],["meadow", "thing"],gX,aD⟩
abbrev fY:DefE:=⟨"is_glider", top 34,["meadow", "thing", "kind", "joins", "first", "last", "due", "weight", "ring"],["meadow", "thing"],j9,aD⟩
abbrev fZ:DefE:=⟨"are_fixed", top 35,["gliders", "thing"],["gliders", "thing"],kc,aD⟩
abbrev f7:DefE:=⟨"free_ones", top 36,["sky"],["sky"],kf,aD⟩
abbrev f8:DefE:=⟨"check_sky", top 37,["thing"],["thing"],kh,aD⟩
abbrev nM:DefE:=⟨"glider_cost", top 39,["glider", "minute", "kind", "joins", "first", "last", "due", "weight", "ring"],["glider", "minute"],nK,aD⟩
abbrev cY:DefE:=⟨"landing_ahead", top 40,["sky", "sooner", "number", "minute"],["sky", "sooner"],fv,aD⟩
abbrev jI:DefE:=⟨"gap_end", top 41,["sky", "ahead", "kind"],["sky", "ahead", "kind"],oV,aD⟩
abbrev io:DefE:=⟨"waits_at", top 42,["sky", "landing", "minute", "number", "lands"],["sky", "landing", "minute"],mJ,aD⟩
abbrev cZ:DefE:=⟨"how_many_wait", top 43,["sky", "landings", "minute"],["sky", "landings", "minute"],fw,aD⟩
abbrev cu:DefE:=⟨"joining_minutes", top 44,["sky"],["sky"],dH,aD⟩
abbrev dS:DefE:=⟨"is_too_high", top 45,["sky", "landings", "place", "kind", "joins", "first", "last", "due", "weight", "ring"],["sky", "landings", "place"],gY,aD⟩
abbrev dU:DefE:=⟨"ring_needed", top 46,["sky", "landings", "place", "minute", "sooner", "later"],["sky", "landings", "place", "minute"],gZ,aD⟩
abbrev b8:DefE:=⟨"soonest_landings", top 48,["sky", "numbers", "landings", "place", "number", "minute"],["sky", "numbers"],dq,aD⟩
abbrev cC:DefE:=⟨"fixed_landings", top 49,["sky", "landings"],["sky"],eM,aD⟩
abbrev cD:DefE:=⟨"soonest_minute", top 50,["sky", "ahead", "number", "place", "kind", "joins", "first", "last", "due", "weight", "ring", "minute"],["sky", "ahead", "number", "place"],eN,aD⟩
abbrev cw:DefE:=⟨"leaves_too_late", top 51,["sky", "place", "minute", "rings", "sink", "gaps", "shuts", "joins", "one_too_many"],["sky", "place", "minute"],dI,aD⟩
abbrev fk:DefE:=⟨"best_order", top 53,["sky", "aim", "landings", "best", "number", "order", "glider", "minute"],["sky", "aim"],i7,aD⟩
abbrev mQ:DefE:=⟨"joined", top 54,["aim", "glider", "minute", "number"],["aim", "glider", "minute", "number"],tz,aD⟩
abbrev bV:DefE:=⟨"best_behind", top 55,["sky", "aim", "ahead", "left", "known", "key", "ways"],["sky", "aim", "ahead", "left", "known"],dQ,aD⟩
abbrev f9:DefE:=⟨"best_with", top 56,["sky", "aim", "ahead", "left", "number", "known", "minute", "glider", "best"],["sky", "aim", "ahead", "left", "number", "known"],kj,aD⟩
abbrev ip:DefE:=⟨"can_land", top 58,["sky", "lot"],["sky", "lot"],mL,aD⟩
abbrev dW:DefE:=⟨"least_stuck", top 59,["sky", "found", "lot"],["sky"],hU,aD⟩
abbrev cE:DefE:=⟨"least_sendings", top 60,["sky", "stuck", "found", "lot"],["sky"],eO,aD⟩
abbrev ga:DefE:=⟨"check_lot", top 61,["sky", "lot"],["sky", "lot"],kl,aD⟩
abbrev dX:DefE:=⟨"narrowed_to", top 62,["sky", "lot", "meadow", "ahead", "gliders", "fixed", "kept"],["sky", "lot"],hV,aD⟩
abbrev qF:DefE:=⟨"lands", top 63,["sky"],["sky"],xM,aD⟩
abbrev fm:DefE:=⟨"all_lots", top 64,["sky"],["sky"],[],aw kz⟩
abbrev jJ:DefE:=⟨"all_but", top 65,["sky", "lot"],["sky", "lot"],oW,aD⟩
abbrev gf:DefE:=⟨"holds_one", top 66,["lot", "others"],["lot", "others"],km,aD⟩
abbrev dY:DefE:=⟨"_law_cell_at", top 68,["_law_script", "_law_k"],["_law_script", "_law_k"],hX,aD⟩
abbrev jK:DefE:=⟨"_law_pot", top 69,["_law_cell", "_law_number", "_law_j", "_law_more"],["_law_cell"],oX,aD⟩
abbrev ir:DefE:=⟨"_law_take", top 70,["_law_pot_here", "_law_wide", "_law_found"],["_law_pot_here", "_law_wide"],mM,aD⟩
abbrev iu:DefE:=⟨"_law_gaps", top 71,["_law_pot_here", "_law_many", "_law_far", "_law_found", "_law_c", "_law_a"],["_law_pot_here"],fc,aD⟩
abbrev fo:DefE:=⟨"_law_meadow", top 72,["_law_pot_here", "_law_shuts", "_law_at", "_law_turn", "_law_begin"],["_law_pot_here"],i8,aD⟩
abbrev jL:DefE:=⟨"_law_sky", top 73,["_law_pot_here", "_law_most", "_law_meadow_here", "_law_gliders", "_law_wide", "_law_long", "_law_number", "_law_joins", "_law_first", "_law_last", "_law_due", "_law_left", "_law_fixed", "_law_turn", "_law_ahead"],["_law_pot_here", "_law_most"],gH,aD⟩
abbrev iw:DefE:=⟨"_law_lots", top 74,["_law_many", "_law_found", "_law_one"],["_law_many"],mN,aD⟩
abbrev dZ:DefE:=⟨"_law_crowded", top 75,["_law_pot_here", "_law_meadow_here", "_law_ahead", "_law_gliders", "_law_fixed", "_law_far", "_law_some"],["_law_pot_here"],hY,aD⟩
abbrev iy:DefE:=⟨"_law_hits", top 76,["_law_lots_here", "_law_others", "_law_found", "_law_lot", "_law_shares"],["_law_lots_here", "_law_others"],mO,aD⟩
abbrev xN:DefE:=⟨"law", top 77,["_law_script", "_law_pot_here", "_law_sky_here", "_law_every", "_law_lots_here", "_law_stuck", "_law_sent", "_law_turn", "_law_lot", "_law_due", "_law_back"],["_law_script"],CD,aD⟩
abbrev ae:List DefE:=[ij,fU,fV,ik,fe,ff,jF,jG,fW,il,fh,bp,fX,fj,jH,cz,mP,im,dR,fY,fZ,f7,f8,nM,cY,jI,io,cZ,cu,dS,dU,b8,cC,cD,cw,fk,mQ,bV,f9,ip,dW,cE,ga,dX,qF,fm,jJ,gf,dY,jK,ir,iu,fo,jL,iw,dZ,iy,xN]
abbrev con:List (Str × Int):=[("LAST_MINUTE", 9999),("MOST_RINGS", 8),("MOST_SINK", 60),("MOST_KINDS", 4),("MOST_GAP", 99),("MOST_SHUTS", 4),("MOST_GLIDERS", 7),("MOST_WEIGHT", 99)]
def chk:ae.all (F1 (xH con ae))=aN:=by kernel_rfl
def R7:F2 con ae:=F3 (f:=45) (dz:=fm) (z:=kz) rfl rfl (by kernel_rfl) ⟨_,_,_,_,_,_,_,_,_,_,_,_,_,_,rfl,by kernel_rfl,by kernel_rfl,λ_ _ _ _=>rfl,λ_ _ _=>rfl,λ_=>rfl,λ_=>rfl⟩
def us1:∀ {u:List Value},u.length=1->∃b,u=[b]
 |[b],_=>⟨b,rfl⟩
def us2:∀ {u:List Value},u.length=2->∃b c,u=[b,c]
 |[b,c],_=>⟨b,c,rfl⟩
def us3:∀ {u:List Value},u.length=3->∃b c d,u=[b,c,d]
 |[b,c,d],_=>⟨b,c,d,rfl⟩
def us4:∀ {u:List Value},u.length=4->∃c d b f,u=[c,d,b,f]
 |[c,d,b,f],_=>⟨c,d,b,f,rfl⟩
def us5:∀ {u:List Value},u.length=5->∃c d b f j,u=[c,d,b,f,j]
 |[c,d,b,f,j],_=>⟨c,d,b,f,j,rfl⟩
def us6:∀ {u:List Value},u.length=6->∃d f b j k c,u=[d,f,b,j,k,c]
 |[d,f,b,j,k,c],_=>⟨d,f,b,j,k,c,rfl⟩
def bind:zD ae:=by
 repeat' apply And.intro
 all_goals first |trivial |(intro _ _ _ _ _ _ u b;first |(obtain⟨_,rfl⟩:=us1 b;rfl) |(obtain⟨_,_,rfl⟩:=us2 b;rfl) |(obtain⟨_,_,_,rfl⟩:=us3 b;rfl) |(obtain⟨_,_,_,_,rfl⟩:=us4 b;rfl) |(obtain⟨_,_,_,_,_,rfl⟩:=us5 b;rfl) |(obtain⟨_,_,_,_,_,_,rfl⟩:=us6 b;rfl))
end Lw
section
open PySem PySem.W PyProof.Rows
noncomputable abbrev Lw.view:Program:={ PySem.Challenge.pw_downrings_k54_whole_stuck_lots_and_sendi with main:={ PySem.Challenge.pw_downrings_k54_whole_stuck_lots_and_sendi.main with body:=[Lw.top 77] } }
noncomputable abbrev Lw.loose:List PySem.Str:=List.map PySem.Str.ofString ["is_whole", "is_within", "is_minute", "is_tuple", "are_unlike", "are_rising", "without", "lots_of", "is_meadow", "are_gaps", "is_gap_row", "no_glider_between_helps", "are_shuts", "is_stretch", "is_kind", "first_not_shut", "is_sky", "is_ahead", "are_gliders", "is_glider", "are_fixed", "free_ones", "check_sky", "glider_cost", "landing_ahead", "gap_end", "waits_at", "how_many_wait", "joining_minutes", "is_too_high", "ring_needed", "soonest_landings", "fixed_landings", "soonest_minute", "leaves_too_late", "best_order", "joined", "best_behind", "best_with", "can_land", "least_stuck", "least_sendings", "check_lot", "narrowed_to", "lands", "all_lots", "all_but", "holds_one", "_law_cell_at", "_law_pot", "_law_take", "_law_gaps", "_law_meadow", "_law_sky", "_law_lots", "_law_crowded", "_law_hits", "LAST_MINUTE", "MOST_RINGS", "MOST_SINK", "MOST_KINDS", "MOST_GAP", "MOST_SHUTS", "MOST_GLIDERS", "MOST_WEIGHT", "RingError", "NoSky", "NoLot"]
set_option maxHeartbeats 0 in
def Lw.said:PySem.Challenge.rw_downrings_k54_whole_stuck_lots_and_sendi.wellSaid=aN:=by kernel_rfl
set_option maxHeartbeats 0 in
def Lw.head(b:∀ns:List Int,ns.length<=63->∃c,Ev.evC Lw.ae 40 57 [.ref 0] [.frz (ns.map Ev.D.int),.tbl "all_lots" Lw.kz.2.1 Lw.kz.2.2]=aw (.bl aN,c)):PySem.Challenge.rw_downrings_k54_whole_stuck_lots_and_sendi.Holds:=by
 w_on;refine holds_law Lw.said λsaid=>?_
 refine holds_open (q:=Lw.view) (loose:=Lw.loose) (Xt:=(λs=>xlAt Lw.view [] s && recOk (RowW.records PySem.Challenge.rw_downrings_k54_whole_stuck_lots_and_sendi.row.toRowW) s)) (XP:=XL Lw.view []) (Yf:=(Hook.obs (Ev.qE Lw.con Lw.ae Lw.bind))) (Ya:=(Hook.val (Ev.qE Lw.con Lw.ae Lw.bind))) (YP:=Hook.says (Ev.qE Lw.con Lw.ae Lw.bind)) (N:=20000) ?hl (Hook.of _) (Hook.keeps _) (λs e=>xl_of s (XU.mp e).1) XL.keeps (by rfl) (by rfl) (by rfl) (λs e=>recFacts_of (XU.mp e).2) (by rfl) (by first |assumption |decide +kernel) (by decide +kernel) ⟨rfl,rfl,rfl,rfl,rfl,by decide +kernel⟩ ?hw ?hc
 case hw=>w_witness2
 case hl=>exactλw=>by kernel_rfl
 case hc=>exact Ev.F7 (l:=PySem.Challenge.rw_downrings_k54_whole_stuck_lots_and_sendi) (n:=63) (k:=40) (i:=57) (dl:=Lw.xN) rfl (by decide) rfl ⟨rfl,by decide,by decide,rfl⟩ rfl rfl rfl Lw.chk Lw.R7 (dz:=Lw.fm) (z:=Lw.kz) (Zd (i:=45) rfl) rfl (by kernel_rfl) b
end
namespace Ev
open PySem PySem.Spec PyProof.Rows L2
abbrev Ok{b:Type}(x:Option (b × Sto))(Q:b->Sto->Prop):Prop:=∃a S,x=aw (a,S)/\Q a S
abbrev OkS(x:Option (Fl × Rho × Sto))(Q:Fl->Rho->Sto->Prop):Prop:=∃f b S,x=aw (f,b,S)/\Q f b S
section
variable {α β:Type} {S S':Sto} {ρ ρ':Rho}
def aK{a:α}{Q:α->Sto->Prop}:Ok (aw (a,S)) Q=Q a S:=by
 apply propext;exact⟨λ⟨_,_,e,q⟩=>by cases e;exact q,λq=>⟨a,S,rfl,q⟩⟩
def bg{Q:α->Sto->Prop}:Ok aD Q=False:=propext ⟨λ⟨_,_,e,_⟩=>(nomatch e),λh=>h.elim⟩
def bL{x:Option (α × Sto)}{f:α->Sto->Option (β × Sto)}{Q:β->Sto->Prop}:Ok (bnd x f) Q=Ok x λa S=>Ok (f a S) Q:=by
 apply propext;constructor
 ·rintro⟨b,S',e,q⟩;obtain⟨a,S,d,c⟩:=ab e;exact⟨a,S,d,b,S',c,q⟩
 ·rintro⟨a,S,d,b,S',c,q⟩;exact⟨b,S',by rw[d];exact c,q⟩
def dw{c:Prop}[Decidable c]{x y:Option (α × Sto)}{Q:α->Sto->Prop}:Ok (if c then x else y) Q=if c then Ok x Q else Ok y Q:=by split <;> rfl
def LR{x:Option β}{f:β->α × Sto}{Q:α->Sto->Prop}:Ok (x.map f) Q=∃b,x=aw b/\Q (f b).1 (f b).2:=by
 apply propext;cases x with
 |none=>exact⟨λ⟨_,_,e,_⟩=>(nomatch e),λ⟨_,e,_⟩=>(nomatch e)⟩
 |some b=>exact⟨λ⟨a,S,e,q⟩=>⟨b,rfl,by have c:=Option.some.inj e;rw[c];exact q⟩,λ⟨B,e,q⟩=>by cases e;exact⟨_,_,rfl,q⟩⟩
def Ok.mono{x:Option (α × Sto)}{Q Q':α->Sto->Prop}(h:Ok x Q)(f:∀a S,Q a S->Q' a S):Ok x Q':=let ⟨a,S,e,q⟩:=h;⟨a,S,e,f a S q⟩
def OkS.mono{x:Option (Fl × Rho × Sto)}{Q Q':Fl->Rho->Sto->Prop}(h:OkS x Q)(f:∀a ρ S,Q a ρ S->Q' a ρ S):OkS x Q':=let ⟨a,ρ,S,e,q⟩:=h;⟨a,ρ,S,e,f a ρ S q⟩
abbrev nxt(y:XS)(Q:Fl->Rho->Sto->Prop)(f:Fl)(ρ:Rho)(S:Sto):Prop:=match f with
 |.nx=>OkS (y ρ S) Q
 |f=>Q f ρ S
def F8{x y:XS}{Q:Fl->Rho->Sto->Prop}:OkS (BE x y ρ S) Q=OkS (x ρ S) (nxt y Q):=by
 apply propext;unfold BE;constructor
 ·rintro⟨f,b,c,e,q⟩;split at e
  ·cases e
  ·rename_i d j h;exact⟨_,_,_,h,f,b,c,e,q⟩
  ·rename_i r n h;cases e;cases f with
   |nx=>exact absurd rfl (n b c)
   |_=>exact⟨_,_,_,h,q⟩
 ·rintro⟨f,b,c,e,q⟩;rw[e];cases f with
  |nx=>exact q
  |_=>exact⟨_,_,_,rfl,q⟩
def LS{c:XT}{x y:XS}{Q:Fl->Rho->Sto->Prop}:OkS (xIf c x y ρ S) Q=Ok (c ρ S) λb d=>if b=aN then OkS (x ρ d) Q else OkS (y ρ d) Q:=by
 apply propext;unfold xIf;constructor
 ·rintro⟨f,j,d,e,q⟩;cases h:c ρ S with
  |none=>rw[h] at e;cases e
  |some r=>
   obtain⟨b,k⟩:=r;rw[h] at e;refine⟨b,k,rfl,?_⟩;dsimp only at e ⊢;split
   ·rename_i hb;rw[if_pos hb] at e;exact⟨f,j,d,e,q⟩
   ·rename_i hb;rw[if_neg hb] at e;exact⟨f,j,d,e,q⟩
 ·rintro⟨b,k,e,q⟩;rw[e];dsimp only;split
  ·rename_i hb;rw[if_pos hb] at q;exact q
  ·rename_i hb;rw[if_neg hb] at q;exact q
def F9{x:XE}{t:Tg}{Q:Fl->Rho->Sto->Prop}:OkS (nD x t ρ S) Q=Ok (x ρ S) λd S1=>∃b,aC t d ρ=aw b/\Q .nx b S1:=by
 apply propext;unfold nD;constructor
 ·rintro⟨f,b,S1,e,q⟩;cases h:x ρ S with
  |none=>rw[h] at e;cases e
  |some r=>
   obtain⟨d,l⟩:=r;rw[h] at e;dsimp only at e;cases c:aC t d ρ with
   |none=>rw[c] at e;cases e
   |some k=>rw[c] at e;cases e;exact⟨d,_,rfl,b,c,q⟩
 ·rintro⟨d,l,e,b,j,q⟩;rw[e];dsimp only;rw[j];exact⟨_,_,_,rfl,q⟩
def CF{x:XE}{Q:Fl->Rho->Sto->Prop}:OkS (sJ x ρ S) Q=Ok (x ρ S) λ_ S1=>Q .nx ρ S1:=by
 apply propext;unfold sJ;constructor
 ·rintro⟨f,b,S1,e,q⟩;cases h:x ρ S with
  |none=>rw[h] at e;cases e
  |some r=>rw[h] at e;cases e;exact⟨_,_,rfl,q⟩
 ·rintro⟨d,c,e,q⟩;rw[e];exact⟨_,_,_,rfl,q⟩
def Ga{x:XE}{Q:Fl->Rho->Sto->Prop}:OkS (BF x ρ S) Q=Ok (x ρ S) λd S1=>Q (.rt d) ρ S1:=by
 apply propext;unfold BF;constructor
 ·rintro⟨f,b,S1,e,q⟩;cases h:x ρ S with
  |none=>rw[h] at e;cases e
  |some r=>rw[h] at e;cases e;exact⟨_,_,rfl,q⟩
 ·rintro⟨d,c,e,q⟩;rw[e];exact⟨_,_,_,rfl,q⟩
def CG{v o i:XE}{Q:Fl->Rho->Sto->Prop}:OkS (sK v o i ρ S) Q=Ok (v ρ S) λa d=>Ok (o ρ d) λb u=>Ok (i ρ u) λc l=>∃S4,jz b c a l=aw S4/\Q .nx ρ S4:=by
 apply propext;unfold sK;constructor
 ·rintro⟨f,C,d,e,q⟩;cases h:v ρ S with
  |none=>rw[h] at e;cases e
  |some r=>
   rw[h] at e;dsimp only at e;cases k:o ρ r.2 with
   |none=>rw[k] at e;cases e
   |some r2=>
    rw[k] at e;dsimp only at e;cases j:i ρ r2.2 with
    |none=>rw[j] at e;cases e
    |some y=>
     rw[j] at e;dsimp only at e;cases h4:jz r2.1 y.1 r.1 y.2 with
     |none=>rw[h4] at e;cases e
     |some S4=>rw[h4] at e;cases e;exact⟨_,_,rfl,_,_,k,_,_,j,_,h4,q⟩
 ·rintro⟨a,d,B,b,u,z,c,l,I,S4,J,q⟩;rw[B];dsimp only;rw[z];dsimp only;rw[I];dsimp only;rw[J];exact⟨_,_,_,rfl,q⟩
def Gb{it:XI}{T:Tg}{b:XS}{k:Nat}{Q:Fl->Rho->Sto->Prop}:OkS (BG it T b k ρ S) Q=Ok (it ρ S) λnx c=>OkS (fC nx T b k 0 ρ c) Q:=by
 apply propext;unfold BG;constructor
 ·rintro⟨f,j,c,e,q⟩;cases h:it ρ S with
  |none=>rw[h] at e;cases e
  |some r=>rw[h] at e;exact⟨_,_,rfl,_,_,_,e,q⟩
 ·rintro⟨d,l,e,q⟩;rw[e];exact q
abbrev out(Q:D->Sto->Prop)(f:Fl)(_:Rho)(S:Sto):Prop:=match f with
 |.rt v=>Q v S
 |.nx=>Q .non S
 |_=>False
def LU{Q:D->Sto->Prop}{d:D}:out Q (.rt d) ρ S=Q d S:=rfl
def LV{Q:D->Sto->Prop}:out Q .nx ρ S=Q .non S:=rfl
def ay{ae:List DefE}{k f:Nat}{d:DefE}{c:List D}{Q:D->Sto->Prop}(hd:ae[f]?=aw d)(b:c.map aw++ZL (d.N.length - c.length) aD=ρ)(h:OkS (gN (evC ae k) (gO ae) 60 d.body ρ S) (out Q))(j:d.ks=aD:=by rfl):Ok (evC ae (k+1) f c S) Q:=by
 subst b;simp only[evC,hd,j,LK];obtain⟨u,l,y,e,q⟩:=h;show Ok (match gN (evC ae k) (gO ae) FU d.body _ S with |some (.rt v,_,S')=>aw (v,S') |some (.nx,_,S')=>aw (.non,S') |_=>aD) Q;unfold FU;rw[e];cases u with
 |rt v=>exact⟨_,_,rfl,q⟩
 |nx=>exact⟨_,_,rfl,q⟩
 |bk=>exact q.elim
 |ct=>exact q.elim
def oY{nx:Nxt}{T:Tg}{c:XA}{N:Nat}(I:Nat->List D->Sto->Prop)
  (step:∀i b S,i < N->I i b S->∃d f,nx i S=aw (aw d)/\aC T d ρ=aw f/\Ok (c f S) λj l=>I (i+1) (b++j) l) (stop:∀b S,I N b S->nx N S=aw aD) :
  ∀ (n i k:Nat) (b:List D) (S:Sto),N=i+n->n < k->I i b S->Ok (bu nx T c ρ k i S) λj S'=>I N (b++j) S'
 |0,i,k+1,b,S,hN,hk,h=>by
  obtain rfl:N=i:=by omega
  simp only[bu,stop b S h];exact⟨_,_,rfl,by show I _ (b++[]) S;rw[Yb];exact h⟩
 |n+1,i,k+1,b,S,hN,hk,h=>by
  obtain⟨d,f,v,u,j,l,C,B⟩:=step i b S (by omega) h;simp only[bu,v,u,C,bnd];obtain⟨y,z,J,q⟩:=oY I step stop n (i+1) k (b++j) l (by omega) (by omega) B;simp only[J];exact⟨_,_,rfl,by show I _ (b++(j++y)) z;rw[<-YK];exact q⟩
def gg{nx:Nxt}{T:Tg}{c:XA}{k:Nat}(N:Nat)(I:Nat->List D->Sto->Prop)(q:N < k)
  (step:∀i b S,i < N->I i b S->∃d f,nx i S=aw (aw d)/\aC T d ρ=aw f/\Ok (c f S) λj l=>I (i+1) (b++j) l) (stop:∀b S,I N b S->nx N S=aw aD) (h:I 0 [] S) :
  Ok (bu nx T c ρ k 0 S) (I N):=(oY I step stop N 0 k [] S (by omega) q h).mono λj S' z=>by rw[XM] at z;exact z
def mR{nx:Nxt}{T:Tg}{b:XS}{N:Nat}{Q:Fl->Rho->Sto->Prop}(I:Nat->Rho->Sto->Prop)
  (step:∀i ρ S,i < N->I i ρ S->∃d f,nx i S=aw (aw d)/\aC T d ρ=aw f/\OkS (b f S) λq c j=>match q with |.nx=>I (i+1) c j |.ct=>I (i+1) c j |.bk=>Q .nx c j |.rt d=>Q (.rt d) c j)
  (stop:∀ρ S,I N ρ S->nx N S=aw aD/\Q .nx ρ S) :
  ∀ (n i k:Nat) (ρ:Rho) (S:Sto),N=i+n->n < k->I i ρ S->OkS (fC nx T b k i ρ S) Q
 |0,i,k+1,ρ,S,hN,hk,h=>by
  obtain rfl:N=i:=by omega
  simp only[fC,(stop ρ S h).1];exact⟨_,_,_,rfl,(stop ρ S h).2⟩
 |n+1,i,k+1,ρ,S,hN,hk,h=>by
  obtain⟨d,f,v,u,q,c,j,y,l⟩:=step i ρ S (by omega) h;simp only[fC,v,u,y];cases q with
  |nx=>exact mR I step stop n (i+1) k c j (by omega) (by omega) l
  |ct=>exact mR I step stop n (i+1) k c j (by omega) (by omega) l
  |bk=>exact⟨_,_,_,rfl,l⟩
  |rt d=>exact⟨_,_,_,rfl,l⟩
def kK{nx:Nxt}{T:Tg}{b:XS}{k:Nat}{Q:Fl->Rho->Sto->Prop}(N:Nat)(I:Nat->Rho->Sto->Prop)(l:N < k)
  (step:∀i ρ S,i < N->I i ρ S->∃d f,nx i S=aw (aw d)/\aC T d ρ=aw f/\OkS (b f S) λq c j=>match q with |.nx=>I (i+1) c j |.ct=>I (i+1) c j |.bk=>Q .nx c j |.rt d=>Q (.rt d) c j)
  (stop:∀ρ S,I N ρ S->nx N S=aw aD/\Q .nx ρ S) (h:I 0 ρ S):OkS (fC nx T b k 0 ρ S) Q:=mR I step stop N 0 k ρ S (by omega) l h
end
mutual
noncomputable def TD(p:Nat)(S:Sto):Dw.D->D->Prop
 |.non,d=>d = .non
 |.bl b,d=>d = .bl b
 |.int i,d=>d = .int i
 |.str x,d=>d = .str x
 |.tup ts,d=>∃c,d = .tup c/\TDs p S ts c
 |.lst ts,d=>∃n c,d = .ref n/\n ≠ p/\S[n]?=aw (.lst c)/\TDs p S ts c
 |.dic _ _,_=>False
noncomputable def TDs(p:Nat)(S:Sto):List Dw.D->List D->Prop
 |[],ds=>ds=[]
 |t::ts,ds=>∃d r,ds=d::r/\TD p S t d/\TDs p S ts r
end
abbrev Kp(p:Nat)(S b:Sto):Prop:=∀i o,i ≠ p->S[i]?=aw o->b[i]?=aw o
abbrev Sm(S b:Sto):Prop:=∀ (i:Nat) (o:Ob),S[i]?=aw o->b[i]?=aw o
def Sm.kp{p:Nat}{S S':Sto}(h:Sm S S'):Kp p S S':=λi o _ e=>h i o e
def Sm.refl(S:Sto):Sm S S:=λ_ _ e=>e
def Sm.trans{S c S2:Sto}(a:Sm S c)(b:Sm c S2):Sm S S2:=λi o e=>b i o (a i o e)
def Sm.app(S X:Sto):Sm S (S++X):=λi o e=>by
 have hi:=(Zb.mp e).1;rw[Zw hi];exact e
def Kp.refl(p:Nat)(S:Sto):Kp p S S:=λ_ _ _ e=>e
def Kp.trans{p:Nat}{S c S2:Sto}(a:Kp p S c)(b:Kp p c S2):Kp p S S2:=λi o n e=>b i o n (a i o n e)
section
variable {p:Nat} {S S':Sto}
def LW:TD p S .non .non:=by rw[TD]
def b9{i:Int}:TD p S (.int i) (.int i):=by rw[TD]
def dA{T:List Dw.D}{d:List D}(h:TDs p S T d):TD p S (.tup T) (.tup d):=by rw[TD];exact⟨d,rfl,h⟩
def cI:TDs p S [] []:=by rw[TDs]
def aM{t:Dw.D}{d:D}{T:List Dw.D}{b:List D}(h:TD p S t d)(q:TDs p S T b):TDs p S (t::T) (d::b):=by rw[TDs];exact⟨d,b,rfl,h,q⟩
def TD.non{d:D}(h:TD p S .non d):d = .non:=by rw[TD] at h;exact h
def TD.bl{b:Bool}{d:D}(h:TD p S (.bl b) d):d = .bl b:=by rw[TD] at h;exact h
def TD.int{i:Int}{d:D}(h:TD p S (.int i) d):d = .int i:=by rw[TD] at h;exact h
def TD.str{x:Str}{d:D}(h:TD p S (.str x) d):d = .str x:=by rw[TD] at h;exact h
def TD.tup{T:List Dw.D}{d:D}(h:TD p S (.tup T) d):∃ds,d = .tup ds/\TDs p S T ds:=by rw[TD] at h;exact h
def TDs.cons{t:Dw.D}{T:List Dw.D}{b:List D}(h:TDs p S (t::T) b):∃d r,b=d::r/\TD p S t d/\TDs p S T r:=by rw[TDs] at h;exact h
def TDs.nil{d:List D}(h:TDs p S [] d):d=[]:=by rw[TDs] at h;exact h
def TDs.len:∀ {T:List Dw.D} {b:List D},TDs p S T b->b.length=T.length
 |[],_,h=>by rw[h.nil];rfl
 |t::T,_,h=>by obtain⟨d,r,rfl,_,q⟩:=h.cons;simp[q.len]
abbrev tyT:Dw.D->String
 |.non => "NoneType" |.bl _ => "bool" |.int _ => "int" |.str _ => "str" |.tup _ => "tuple" |.lst _ => "list" |.dic _ _ => "dict"
def Qk{t:Dw.D}{d:D}(h:TD p S t d):tyN d S=aw (tyT t):=by
 cases t with
 |non=>rw[h.non];rfl
 |bl _=>rw[h.bl];rfl
 |int _=>rw[h.int];rfl
 |str _=>rw[h.str];rfl
 |tup _=>obtain⟨_,rfl,_⟩:=h.tup;rfl
 |lst _=>rw[TD] at h;obtain⟨n,b,rfl,_,e,_⟩:=h;simp only[tyN,e];rfl
 |dic _ _=>rw[TD] at h;exact h.elim
def qG{ty:Ty}{t:Dw.D}{d:D}(h:TD p S t d):lZ ty d S=aw (.bl (fO ty (tyT t)),S):=by
 unfold lZ;rw[Qk h];rfl
end
def Gc{n:Nat}:Ok (sN g n x c S) Q=Ok (x c S) λd b=>d.length=n/\Ok (g d b) Q:=by
 unfold sN;rw[bL]
 congr 1
 funext d b
 rw[dw,bg];apply propext;split
 ·rename_i h;exact⟨λz=>⟨h,z⟩,λz=>z.2⟩
 ·rename_i h;exact⟨λz=>z.elim,λz=>(h z.1).elim⟩
def LX:Ok (BK x y c S) Q=Ok (x c S) λd S1=>∃b,d = .bl b/\if b=aN then Ok (y c S1) Q else Q (.bl aS) S1:=by
 unfold BK;rw[bL]
 congr 1
 funext d S1
 apply propext;cases d with
 |bl b=>cases b <;> simp[aK]
 |_=>simp[bg]
def Qm:Ok (xOr x y f S) Q=Ok (x f S) λd c=>∃b,d = .bl b/\if b=aN then Q (.bl aN) c else Ok (y f c) Q:=by
 unfold xOr;rw[bL]
 congr 1
 funext d c
 apply propext;cases d with
 |bl b=>cases b <;> simp[aK]
 |_=>simp[bg]
def LY:Ok (zn d S) Q=∃b,d = .bl b/\Q (.bl (!b)) S:=by
 apply propext;cases d with
 |bl b=>simp[zn,aK]
 |_=>simp[zn,bg]
def LZ:Ok (zo f g x y z d S) Q=Ok (x d S) λa j=>Ok (y d j) λb k=>Ok (f a b k) λr S3=>∃c,r = .bl c/\if c=aN then Ok (z d S3) λe l=>Ok (g b e l) Q else Q (.bl aS) S3:=by
 unfold zo;rw[bL]
 congr 1
 funext a j
 rw[bL]
 congr 1
 funext b k
 rw[bL]
 congr 1
 funext r S3
 apply propext;cases r with
 |bl c=>cases c <;> simp[aK,bL]
 |_=>simp[bg]
def L0{i:Nat}:Ok (yW i b S) Q=∃d,b[i]?=aw (aw d)/\Q d S:=by
 apply propext;unfold yW;cases h:b[i]? with
 |none=>simp[bg]
 |some o=>cases o with
  |none=>simp[bg]
  |some d=>simp[aK]
def Qo{i j:Int}:Ok (am .le (.int i) (.int j) S) Q=Q (.bl (decide (i<=j))) S:=aK
def Qp{i j:Int}:Ok (am .lt (.int i) (.int j) S) Q=Q (.bl (decide (i < j))) S:=aK
def Qq{i j:Int}:Ok (am .gt (.int i) (.int j) S) Q=Q (.bl (decide (j < i))) S:=aK
def Qu{i j:Int}:Ok (am .ge (.int i) (.int j) S) Q=Q (.bl (decide (j<=i))) S:=aK
def L1{i j:Int}:Ok (bT .add (.int i) (.int j) S) Q=Q (.int (i+j)) S:=aK
def L3{i j:Int}:Ok (bT .sub (.int i) (.int j) S) Q=Q (.int (i - j)) S:=aK
def Qv:Ok (xB x c S) Q=Ok (x c S) λd S1=>∃b,d = .bl b/\Q b S1:=by
 unfold xB;rw[bL]
 congr 1
 funext d S1
 apply propext;cases d with
 |bl b=>simp[aK]
 |_=>simp[bg]
def Gd{own k:Nat}:Ok (l8 own it T c k d S) Q=Ok (it d S) λnx f=>dF T (d++ZL own aD)=aN/\Ok (bu nx T c (d++ZL own aD) k 0 f) λb S2=>b.length<=100000/\Q b S2:=by
 unfold l8;rw[bL]
 congr 1
 funext nx f
 rw[dw,bg];apply propext
 have e:Ok (bnd (bu nx T c (d++ZL own aD) k 0 f) λb S2=>if b.length<=100000 then aw (b,S2) else aD) Q=Ok (bu nx T c (d++ZL own aD) k 0 f) λb S2=>b.length<=100000/\Q b S2:=by
  rw[bL]
  congr 1
  funext b S2
  rw[dw,bg,aK];apply propext;split
  ·rename_i h;exact⟨λz=>⟨h,z⟩,λz=>z.2⟩
  ·rename_i h;exact⟨λz=>z.elim,λz=>(h z.1).elim⟩
 rw[e];split
 ·rename_i h;exact⟨λz=>⟨h,z⟩,λz=>z.2⟩
 ·rename_i h;exact⟨λz=>z.elim,λz=>(h z.1).elim⟩
def CH{k:Nat}:Ok (jA it T c k b S) Q=(dF T b=aN/\Ok (it b S) λnx d=>Ok (bu nx T c b k 0 d) Q):=by
 unfold jA;rw[dw,bg,bL];apply propext;split
 ·rename_i h;exact⟨λz=>⟨h,z⟩,λz=>z.2⟩
 ·rename_i h;exact⟨λz=>z.elim,λz=>(h z.1).elim⟩
def Gf:Ok (om x b S) Q=Ok (x b S) λd S1=>d.length<=1000/\Q d S1:=by
 unfold om;rw[bL]
 congr 1
 funext d S1
 rw[dw,bg,aK];apply propext;split
 ·rename_i h;exact⟨λz=>⟨h,z⟩,λz=>z.2⟩
 ·rename_i h;exact⟨λz=>z.elim,λz=>(h z.1).elim⟩
def Gg:Ok (lP d S) Q=(d.length<=1000/\Q (.tup d) S):=by
 unfold lP;rw[dw,bg,aK];apply propext;split
 ·rename_i h;exact⟨λz=>⟨h,z⟩,λz=>z.2⟩
 ·rename_i h;exact⟨λz=>z.elim,λz=>(h z.1).elim⟩
def fq{b:Type}(l:List b)(g:b->Bool)(S:Sto):kB aS (l.map λt=>D.bl (g t)) S=aw (.bl (l.all g),S):=by
 unfold kB;have c:(l.map λt=>D.bl (g t)).all y7=aN:=by rw[Y6];simp[Function.comp_def,y7]
 have d:(l.map λt=>D.bl (g t)).all ny=l.all g:=by rw[Y6];rfl
 rw[if_pos ⟨rfl,c⟩,d]
def Gh{S:Sto}{n:Nat}{lo:Int}{T:Tg}{c:XA}{v:Rho}{Q:List D->Sto->Prop}(hl:n<=100000)(g:Nat->Bool)
  (step:∀ (i:Nat) b,i < n->Sm S b->∃d,aC T (.int (lo+i)) v=aw d/\Ok (c d b) λj u=>j=[.bl (g i)]/\Sm b u) (q:∀b,Sm S b->Q ((Ze n).map λi=>.bl (g i)) b) :
  Ok (bu (nxR lo n) T c v LF 0 S) λj S2=>j.length<=100000/\Q j S2:=by
 refine(gg n (λi f b=>Sm S b/\f=(Ze i).map λt=>.bl (g t)) (by unfold LF;lia) (λi f b hi ⟨sm,k⟩=>?_) (λf b ⟨sm,k⟩=>?_) ⟨Sm.refl S,by simp⟩).mono λj b ⟨sm,k⟩=>?_
 ·obtain⟨d,y,j,u,z,rfl,l⟩:=step i b hi sm;refine⟨_,d,by show aw (if i < n then aw (D.int (lo+i)) else aD)=_;rw[if_pos hi],y,_,u,z,sm.trans l,?_⟩;rw[k,Xo,ZQ];rfl
 ·show aw (if n < n then aw (D.int (lo+n)) else aD)=_;rw[if_neg (ZK n)]
 ·subst k;exact⟨by rw[Za,ZB];exact hl,q b sm⟩
def vT{m n:Nat}(z:S[m]?=aw (.lst ((Ze n).map λj=>.int (Int.ofNat j))))(J:n<=1000)(f:Nat->List D)
  (step:∀ (i:Nat) b,i < n->Sm S b->∃d,aC T (.int i) B=aw d/\Ok (c d b) λl v=>l=f i/\Sm b v):Ok (bu (nxS m) T c B LF 0 S) λl S2=>l=(Ze n).flatMap f/\Sm S S2:=by
 refine(gg n (λi k b=>Sm S b/\k=(Ze i).flatMap f) (by unfold LF;lia) (λi k b hi ⟨sm,q⟩=>?_) (λk b ⟨sm,q⟩=>?_) ⟨Sm.refl S,by simp⟩).mono λl b ⟨sm,q⟩=>⟨q,sm⟩
 ·obtain⟨d,C,l,v,I,rfl,u⟩:=step i b hi sm;refine⟨.int i,d,?_,C,_,v,I,sm.trans u,?_⟩
  ·show(aU b m).map (λy=>y[i]?)=_;simp only[aU,sm _ _ z,ZN,Zl,Ye hi];rfl
  ·rw[q,Dw.oj]
 ·show(aU b m).map (λy=>y[n]?)=_;simp only[aU,sm _ _ z,ZN];rw[Zv (by simp)]
def CJ:Ok (dP x c S) Q=Ok (x c S) λd b=>Q (.ref b.length) (b++[.lst d]):=by
 unfold dP;rw[bL]
 congr 1
 funext d b
 rw[aK]
def L4(h:Ok (x c S) λd b=>∃i:Nat,d = .int i/\i<=1000/\Q ((Ze i).map λj=>.int (Int.ofNat j)) b):Ok (zx x c S) Q:=by
 unfold zx;rw[bL];refine h.mono λd b ⟨i,e,hi,q⟩=>?_;subst e;dsimp only;rw[if_pos (by lia),aK,ZI];exact q
def tB(is:List Int):(is.map D.int).all cM=aN:=by rw[Y6];simp[Function.comp_def,cM]
def CK(is:List Int)(i:Int)(S:Sto):vD (.tup (is.map D.int)) [.int i] S=aw (.int (is.count i:Nat),S):=by
 have e:((is.map D.int).countP λz=>eqF z (.int i))=is.count i:=by
  rw[List.countP_map];unfold List.count
  congr 1
 simp only[vD];rw[if_pos ⟨rfl,tB is⟩,e]
def cJ(neg:Bool)(is:List Int)(i:Int)(S:Sto):inS neg (.int i) (.tup (is.map D.int)) S=aw (.bl (neg != decide (i ∈ is)),S):=by
 have e:inF (.int i) (is.map D.int)=decide (i ∈ is):=by
  unfold inF;rw[Wa,Yg,Yp];simp only[Function.comp_def,eqF,beq_iff_eq,decide_eq_true_eq];exact⟨λ⟨x,b,e⟩=>e ▸ b,λh=>⟨i,h,rfl⟩⟩
 simp only[inS,av];rw[if_pos ⟨rfl,tB is⟩,e]
def qH(i j:Int)(S:Sto):am .eq (.int i) (.int j) S=aw (.bl (decide (i=j)),S):=by
 simp only[am,eqS];have:eqD 60 S (.int i) (.int j)=aw (i == j):=rfl;rw[this];rfl
def Gi(i j:Int)(S:Sto):am .ne (.int i) (.int j) S=aw (.bl (!decide (i=j)),S):=rD (x:=.int i) (y:=.int j) (b:=decide (i=j)) rfl
def L5{i j:Int}:Ok (am .eq (.int i) (.int j) S) Q=Q (.bl (decide (i=j))) S:=by rw[qH,aK]
def L6{i j:Int}:Ok (am .ne (.int i) (.int j) S) Q=Q (.bl (!decide (i=j))) S:=by rw[Gi,aK]
def Gj{i:Nat}:aC (.name i) d b=if i < b.length then aw (b.set i (aw d)) else aD:=by simp only[aC]
def CL:aC (.tup T) (.tup d) ρ=aQ T d ρ:=by simp only[aC]
def xO:aQ [] [] ρ=aw ρ:=by simp only[aQ]
def tD{i:Nat}:aQ (.name i::T) (d::f) c=if i < c.length then aQ T f (c.set i (aw d)) else aD:=by
 simp only[aQ,aC];split
 ·rename_i j h;split at h
  ·rename_i b;cases h;rw[if_pos b]
  ·cases h
 ·rename_i h;split at h
  ·cases h
  ·rename_i b;rw[if_neg b]
def qI{i j:Nat}(f:i < c.length)(d:j < c.length):aC (.tup [.name i,.name j]) (.tup [a,b]) c=aw ((c.set i (aw a)).set j (aw b)):=by
 rw[CL,tD,if_pos f,tD,if_pos (by rw[Z7];exact d),xO]
def aE{a:Nat}(h:S[a]?=aw (.lst es)):aU S a=aw es:=by simp only[aU,h]
def CM(d:List D)(k:Nat)(b:k<=d.length):lH d aD (aw (k:Int))=d.take k:=by
 unfold lH;rw[Dw.A6 _ _ (by lia),ZI,Nat.min_eq_left b];rfl
def L7{p:Nat}(h:TDs p S T d):ao dB (.tup d) S=aw (.int T.length,S):=by
 simp only[ao,av,dB,h.len]
section
variable {S S' S1 S2:Sto} {p:Nat} {Q:D->Sto->Prop} {ρ:Rho}
def L8{i j:Int}:Ok (bT .mod (.int i) (.int j) S) Q=(0 < j/\Q (.int (i % j)) S):=by
 simp only[bT,Kz,dw,aK,bg];apply propext;split
 ·rename_i h;exact⟨λz=>⟨h,z⟩,λz=>z.2⟩
 ·rename_i h;exact⟨λz=>z.elim,λz=>(h z.1).elim⟩
def Gk{i j:Int}:Ok (bT .fdiv (.int i) (.int j) S) Q=((0 < j/\j < 1298074214633706907132624082305024)/\Q (.int (i / j)) S):=by
 simp only[bT,Bh,dw,aK,bg];apply propext;split
 ·rename_i h;exact⟨λz=>⟨h,z⟩,λz=>z.2⟩
 ·rename_i h;exact⟨λz=>z.elim,λz=>(h z.1).elim⟩
def L9{i j:Int}:Ok (bT .mul (.int i) (.int j) S) Q=(iQ i j=aN/\Q (.int (i * j)) S):=by
 simp only[bT,yY,dw,aK,bg];apply propext;split
 ·rename_i h;exact⟨λz=>⟨h,z⟩,λz=>z.2⟩
 ·rename_i h;exact⟨λz=>z.elim,λz=>(h z.1).elim⟩
def Ma{i j:Int}:Ok (bT .pow (.int i) (.int j) S) Q=((0<=j/\j<=1000000/\i.natAbs < 2 ^ 64)/\Q (.int (i ^ j.toNat)) S):=by
 simp only[bT,KA,dw,aK,bg];apply propext;split
 ·rename_i h;exact⟨λz=>⟨h,z⟩,λz=>z.2⟩
 ·rename_i h;exact⟨λz=>z.elim,λz=>(h z.1).elim⟩
def xP{i j:Int}(c:-(2 ^ 64) < j)(b:j < 2 ^ 64):iQ i j=aN:=by simp only[iQ,Y0,bAE,decide_eq_true_eq];exact .inr ⟨c,b⟩
def qJ{i j:Int}(c:-(2 ^ 64) < i)(b:i < 2 ^ 64):iQ i j=aN:=by simp only[iQ,Y0,bAE,decide_eq_true_eq];exact .inl ⟨c,b⟩
abbrev Pot(p:Nat)(S:Sto):Prop:=∃n:Int,S[p]?=aw (.lst [.int n])
structure Dr(p:Nat)(S S':Sto):Prop where
 kp:Kp p S S'
 pot:Pot p S'
def Dr.refl(h:Pot p S):Dr p S S:=⟨Kp.refl p S,h⟩
def Dr.trans(a:Dr p S S1)(b:Dr p S1 S2):Dr p S S2:=⟨a.kp.trans b.kp,b.pot⟩
def Dr.sm(h:Pot p S)(s:Sm S S'):Dr p S S':=⟨s.kp,let ⟨n,e⟩:=h;⟨n,s _ _ e⟩⟩
def Dr.thenSm(a:Dr p S S1)(s:Sm S1 S2):Dr p S S2:=a.trans (Dr.sm a.pot s)
def Pot.ne{n:Nat}(h:Pot p S)(e:S[n]?=aw o)(c:∀x,o ≠ .lst [.int x]):n ≠ p:=λz=>by
 obtain⟨m,b⟩:=h;rw[z,b] at e;cases e;exact c m rfl
def Pot.lt(h:Pot p S):p < S.length:=let ⟨_,e⟩:=h;(Zb.mp e).1
def Mb:Kp p S (S.set p o):=λi u n e=>by rw[Zz (Ne.symm n)];exact e
def gh(h:p < S.length):(S.set p o)[p]?=aw o:=by rw[ZU h]
def ko{n:Nat}{lo:Int}{T:Tg}{b:XS}{Q:Fl->Rho->Sto->Prop}(hl:n<=100000)(I:Nat->Rho->Sto->Prop)
  (step:∀ (i:Nat) ρ S,i < n->I i ρ S->∃f,aC T (.int (lo+i)) ρ=aw f/\OkS (b f S) λu c S2=>match u with |.nx=>I (i+1) c S2 |.ct=>I (i+1) c S2 |.bk=>Q .nx c S2 |.rt d=>Q (.rt d) c S2)
  (q:∀ρ S',I n ρ S'->Q .nx ρ S') (l:I 0 ρ S):OkS (fC (nxR lo n) T b LF 0 ρ S) Q:=by
 refine kK n I (by unfold LF;lia) (λi ρ S' hi j=>?_) (λρ S' j=>⟨?_,q ρ S' j⟩) l
 ·obtain⟨f,k,z⟩:=step i ρ S' hi j;exact⟨_,f,by show aw (if i < n then aw (D.int (lo+i)) else aD)=_;rw[if_pos hi],k,z⟩
 ·show aw (if n < n then aw (D.int (lo+n)) else aD)=_;rw[if_neg (ZK n)]
def vU{n:Nat}{lo:Int}{T:Tg}{c:XA}{Q:List D->Sto->Prop}(hl:n<=100000)(I:Nat->List D->Sto->Prop)
  (step:∀ (i:Nat) b S',i < n->I i b S'->∃d,aC T (.int (lo+i)) ρ=aw d/\Ok (c d S') λf S1=>I (i+1) (b++f) S1) (q:∀f S',I n f S'->f.length<=100000/\Q f S') (l:I 0 [] S) :
  Ok (bu (nxR lo n) T c ρ LF 0 S) λf S2=>f.length<=100000/\Q f S2:=by
 refine(gg n I (by unfold LF;lia) (λi b S' hi j=>?_) (λb S' j=>?_) l).mono q
 ·obtain⟨d,k,z⟩:=step i b S' hi j;exact⟨_,d,by show aw (if i < n then aw (D.int (lo+i)) else aD)=_;rw[if_pos hi],k,z⟩
 ·show aw (if n < n then aw (D.int (lo+n)) else aD)=_;rw[if_neg (ZK n)]
def Mc:Ok (uV x y ρ S) Q=Ok (x ρ S) λb S1=>Ok (y ρ S1) λi S2=>∃k,i = .int k/\∃d,atI b k=aw d/\Q d S2:=by
 unfold uV;rw[bL]
 congr 1
 funext b S1
 rw[bL]
 congr 1
 funext i S2
 apply propext;cases i with
 |int k=>simp[LR]
 |_=>simp[bg]
def Md{i:Int}(b:0<=i)(c:i < ds.length):∃d,atI ds i=aw d/\ds[i.toNat]?=aw d:=by
 have hi:i.toNat < ds.length:=by lia
 refine⟨ds[i.toNat],?_,gEG hi⟩;unfold atI ixN;rw[if_pos b,if_pos (by lia)];exact gEG hi
def mS{nx:Nxt}{T:Tg}{c:XA}{Q:List D->Sto->Prop}(n:Nat)(l:Nat->D)(I:Nat->List D->Sto->Prop)(j:∀i b S',i<=n->I i b S'->nx i S'=aw (if i < n then aw (l i) else aD))(hl:n<=100000)
  (step:∀ (i:Nat) b S',i < n->I i b S'->∃d,aC T (l i) ρ=aw d/\Ok (c d S') λf S1=>I (i+1) (b++f) S1) (q:∀f S',I n f S'->f.length<=100000/\Q f S') (v:I 0 [] S) :
  Ok (bu nx T c ρ LF 0 S) λf S2=>f.length<=100000/\Q f S2:=by
 refine(gg n I (by unfold LF;lia) (λi b S' hi k=>?_) (λb S' k=>?_) v).mono q
 ·obtain⟨d,u,z⟩:=step i b S' hi k;exact⟨_,d,by rw[j i b S' (by lia) k,if_pos hi],u,z⟩
 ·rw[j n b S' (Zi _) k,if_neg (ZK n)]
def CN{m i:Nat}(h:S[m]?=aw (.lst b))(c:Nat->D)(f:∀i d,b[i]?=aw d->c i=d):nxS m i S=aw (if i < b.length then aw (c i) else aD):=by
 show(aU S m).map (λb=>b[i]?)=_;rw[aE h,ZN];split
 ·rename_i hi;rw[gEG hi,f i _ (gEG hi)]
 ·rename_i hi;rw[Zv (by lia)]
structure RowsS(p:Nat)(S:Sto)(rs:List D)(M:List (List Int)):Prop where
 len:rs.length=M.length
 row:∀ (i:Nat) r,M[i]?=aw r->∃a,rs[i]?=aw (.ref a)/\a ≠ p/\S[a]?=aw (.lst (r.map D.int))
def RowsS.keep(h:RowsS p S b M)(k:Kp p S S'):RowsS p S' b M:=⟨h.len,λi r c=>let ⟨a,e,n,z⟩:=h.row i r c;⟨a,e,n,k _ _ n z⟩⟩
def RowsS.nil:RowsS p S [] []:=⟨rfl,λi r h=>by simp at h⟩
def RowsS.snoc{a:Nat}(h:RowsS p S j M)(n:a ≠ p)(z:S[a]?=aw (.lst (r.map D.int))):RowsS p S (j++[.ref a]) (M++[r]):=by
 refine⟨by simp[h.len],λi f c=>?_⟩;by_cases hi:i < M.length
 ·rw[Zw hi] at c;obtain⟨b,e,nb,Z⟩:=h.row i f c;exact⟨b,by rw[Zw (by rw[h.len];exact hi)];exact e,nb,Z⟩
 ·rw[Zp (by lia)] at c
  have d:i - M.length=0:=by
   have:=(Zb.mp c).1;simp at this;lia
  rw[d] at c;cases c;exact⟨a,by rw[Zp (by rw[h.len];lia),h.len,d];rfl,n,z⟩
def bv:(S++[o])[S.length]?=aw o:=by rw[Zp (Zi _),Z8];rfl
def Kp.setNew{f:Nat}(h:Kp p S S')(b:S.length<=f):Kp p S (S'.set f o):=λi u n e=>by
 have hi:=(Zb.mp e).1;rw[Zz (by lia)];exact h i u n e
def Pot.setNe{f:Nat}(h:Pot p S)(b:f ≠ p):Pot p (S.set f o):=by
 obtain⟨n,e⟩:=h;exact⟨n,by rw[Zz b];exact e⟩
abbrev au(q:Int × Int):D:=.tup [.int q.1,.int q.2]
def i9:∀ (b:List (Int × Int)),TDs p S (b.map Dw.w9) (b.map au)
 |[]=>cI
 |e::b=>aM (dA (aM b9 (aM b9 cI))) (i9 b)
def mU{f:Nat}(h:S[f]?=aw (.lst d))(hl:d.length < 100000):Ok (sG (.ref f) [e] S) Q=Q .non (S.set f (.lst (d++[e]))):=by
 simp only[sG,chg,h];rw[if_pos hl];exact aK
def gj{f:Nat}(h:S[f]?=aw (.lst d)):fP (.ref f) S=aN:=by simp only[fP,aE h];rfl
def qK{f:Nat}(h:S[f]?=aw (.lst (ds++[e]))):ixS (.ref f) (.int (-1)) S=aw (e,S):=by
 have:atI (ds++[e]) (-1:Int)=aw e:=by
  unfold atI ixN;rw[if_neg (by decide),if_pos (by rw[Zg,Zt];lia)];show(ds++[e])[((-1:Int)+((ds++[e]).length:Int)).toNat]?=aw e;have:((-1:Int)+((ds++[e]).length:Int)).toNat=ds.length:=by rw[Zg,Zt];lia
  rw[this,Zp (Zi _),Z8];rfl
 simp only[ixS,av,aE h,ZN,this]
def AJ{i:Nat}(h:b[i]?=aw d):ixS (.tup b) (.int i) S=aw (d,S):=by
 have hi:=(Zb.mp h).1
 have c:atI b (i:Int)=aw d:=by
  unfold atI ixN;rw[if_pos (by lia),if_pos (by lia),ZI];exact h
 simp only[ixS,av,c,ZN]
def wY{i:Nat}(h:b[i]?=aw d):atI b (i:Int)=aw d:=by
 have hi:=(Zb.mp h).1;unfold atI ixN;rw[if_pos (by lia),if_pos (by lia),ZI];exact h
def Gm:am .eq (.tup d) (.tup []) S=aw (.bl d.isEmpty,S):=by
 simp only[am,eqS]
 have:eqD 60 S (.tup d) (.tup [])=aw d.isEmpty:=by
  cases d <;> rfl
 rw[this];rfl
def Gn:am .ne (.tup d) (.tup []) S=aw (.bl (!d.isEmpty),S):=rD (x:=.tup d) (y:=.tup []) (b:=d.isEmpty) (by cases d <;> rfl)
def Me:Ok (bT .add (.tup xs) (.tup y) S) Q=(xs.length+y.length<=1000/\Q (.tup (xs++y)) S):=by
 simp only[bT,kw,dw,aK,bg];apply propext;split
 ·rename_i h;exact⟨λz=>⟨h,z⟩,λz=>z.2⟩
 ·rename_i h;exact⟨λz=>z.elim,λz=>(h z.1).elim⟩
end
@[inline]abbrev WP(b:Type):=Rho->Sto->(b->Sto->Prop)->Prop
abbrev Sd{c:Type}(w:WP c)(x:Rho->Sto->Option (c × Sto)):Prop:=∀b S Q,w b S Q->Ok (x b S) Q
def a8{c b:Type}{x:Option (c × Sto)}{f:c->Sto->Option (b × Sto)}{Q:b->Sto->Prop}(h:Ok x λa S=>Ok (f a S) Q):Ok (bnd x f) Q:=bL ▸ h
def bC{b:Type}{a:b}{S:Sto}{Q:b->Sto->Prop}(h:Q a S):Ok (aw (a,S)) Q:=⟨_,_,rfl,h⟩
abbrev wIf(b:Bool)(A B:Prop):Prop:=match b with
 |true=>A
 |false=>B
abbrev wBl(d:D)(Q:Bool->Prop):Prop:=match d with
 |.bl b=>Q b
 |.non=>False |.int _=>False |.str _=>False |.tup _=>False |.ref _=>False
abbrev cT(d:D)(Q:Int->Prop):Prop:=match d with
 |.int i=>Q i
 |.non=>False |.bl _=>False |.str _=>False |.tup _=>False |.ref _=>False
def mV{d:D}{Q:Bool->Prop}(h:wBl d Q):∃b,d = .bl b/\Q b:=by cases d <;> first |exact h.elim |exact⟨_,rfl,h⟩
def cK{d:D}{Q:Int->Prop}(h:cT d Q):∃b,d = .int b/\Q b:=by cases d <;> first |exact h.elim |exact⟨_,rfl,h⟩
abbrev R8(o:Option D)(Q:D->Prop):Prop:=match o with
 |some d=>Q d
 |none=>False
abbrev vV:Rho->Nat->(D->Prop)->Prop
 |[],_,_=>False
 |o::_,0,Q=>R8 o Q
 |_::ρ,i+1,Q=>vV ρ i Q
def xQ:∀ {ρ:Rho} {i:Nat} {Q:D->Prop},vV ρ i Q->∃d,ρ[i]?=aw (aw d)/\Q d
 |[],_,_,h=>h.elim
 |some d::_,0,_,h=>⟨d,rfl,h⟩
 |none::_,0,_,h=>h.elim
 |o::ρ,i+1,_,h=>by rw[Yy];exact xQ (ρ:=ρ) h
abbrev Qw(i:Nat):WP D:=λb S Q=>vV b i λd=>Q d S
def Qx{i:Nat}:Sd (Qw i) (yW i):=λb S Q h=>by
 rw[L0];exact xQ h
abbrev wC(d:D):WP D:=λ_ S Q=>Q d S
def s_c{d:D}:Sd (wC d) (xC d):=λ_ _ _ h=>bC h
abbrev Go(g:D->D->Sto->(D->Sto->Prop)->Prop)(x y:WP D):WP D:=λc S Q=>x c S λa d=>y c d λb f=>g a b f Q
def CO{g:D->D->Sto->(D->Sto->Prop)->Prop}{f:D->D->Sto->Option (D × Sto)}{w v:WP D}{x y:XE}(hw:Sd w x)(d:Sd v y)(c:∀ {a b S Q},g a b S Q->Ok (f a b S) Q):Sd (Go g w v) (se f x y):=
 λ_ _ _ h=>a8 ((hw _ _ _ h).mono λ_ _ h=>a8 ((d _ _ _ h).mono λ_ _ h=>c h))
abbrev wUn{b β:Type}(g:b->Sto->(β->Sto->Prop)->Prop)(x:WP b):WP β:=λc S Q=>x c S λa d=>g a d Q
def Gp{b c:Type}{g:b->Sto->(c->Sto->Prop)->Prop}{f:b->Sto->Option (c × Sto)}{w:WP b}{x:Rho->Sto->Option (b × Sto)}(hw:Sd w x)(j:∀ {a S Q},g a S Q->Ok (f a S) Q):Sd (wUn g w) (λd S=>bnd (x d S) f):=
 λ_ _ _ h=>a8 ((hw _ _ _ h).mono λ_ _ h=>j h)
abbrev wOk{c b:Type}(f:c->Sto->Option (b × Sto))(a:c)(S:Sto)(Q:b->Sto->Prop):Prop:=Ok (f a S) Q
abbrev wII:BOp->Int->Int->Sto->(D->Sto->Prop)->Prop
 |.add,i,j,S,Q=>Q (.int (i+j)) S
 |.sub,i,j,S,Q=>Q (.int (i - j)) S
 |.mul,i,j,S,Q=>iQ i j=aN/\Q (.int (i * j)) S
 |.mod,i,j,S,Q=>0 < j/\Q (.int (i % j)) S
 |.fdiv,i,j,S,Q=>(0 < j/\j < 1298074214633706907132624082305024)/\Q (.int (i / j)) S
 |.pow,i,j,S,Q=>(0<=j/\j<=1000000/\i.natAbs < 2 ^ 64)/\Q (.int (i ^ j.toNat)) S
def Mf{o:BOp}{i j:Int}{S:Sto}{Q:D->Sto->Prop}(h:wII o i j S Q):Ok (bT o (.int i) (.int j) S) Q:=by
 cases o with
 |add=>rw[L1];exact h
 |sub=>rw[L3];exact h
 |mul=>rw[L9];exact h
 |mod=>rw[L8];exact h
 |fdiv=>rw[Gk];exact h
 |pow=>rw[Ma];exact h
abbrev wTT:BOp->List D->List D->Sto->(D->Sto->Prop)->Prop
 |.add,xs,ys,S,Q=>xs.length+ys.length<=1000/\Q (.tup (xs++ys)) S
 |.sub,_,_,_,_=>False
 |.mul,_,_,_,_=>False
 |.mod,_,_,_,_=>False
 |.fdiv,_,_,_,_=>False
 |.pow,_,_,_,_=>False
def Mg{o:BOp}{i j:List D}{S:Sto}{Q:D->Sto->Prop}(h:wTT o i j S Q):Ok (bT o (.tup i) (.tup j) S) Q:=by
 cases o with
 |add=>rw[Me];exact h
 |_=>exact h.elim
abbrev CP(o:BOp)(i:Int)(y:D)(S:Sto)(Q:D->Sto->Prop):Prop:=match y with
 |.int j=>wII o i j S Q
 |.non=>False |.bl _=>False |.str _=>False |.ref _=>False
 |.tup ys=>Ok (bT o (.int i) (.tup ys) S) Q
abbrev xR(o:BOp)(xs:List D)(y:D)(S:Sto)(Q:D->Sto->Prop):Prop:=match y with
 |.tup ys=>wTT o xs ys S Q
 |.non=>False |.bl _=>False |.str _=>False |.ref _=>False
 |.int j=>Ok (bT o (.tup xs) (.int j) S) Q
abbrev tG(o:BOp)(x y:D)(S:Sto)(Q:D->Sto->Prop):Prop:=match x with
 |.int i=>CP o i y S Q
 |.tup xs=>xR o xs y S Q
 |.non=>Ok (bT o .non y S) Q
 |.bl b=>Ok (bT o (.bl b) y S) Q
 |.str b=>Ok (bT o (.str b) y S) Q
 |.ref b=>Ok (bT o (.ref b) y S) Q
def Gq{o:BOp}{x y:D}{S:Sto}{Q:D->Sto->Prop}(h:tG o x y S Q):Ok (bT o x y S) Q:=by
 cases x with
 |int i=>cases y with
  |int j=>exact Mf h
  |tup Y=>exact h
  |_=>exact h.elim
 |tup X=>cases y with
  |int j=>exact h
  |tup Y=>exact Mg h
  |_=>exact h.elim
 |_=>exact h
abbrev wCI:COp->Int->Int->Sto->(D->Sto->Prop)->Prop
 |.eq,i,j,S,Q=>Q (.bl (decide (i=j))) S
 |.ne,i,j,S,Q=>Q (.bl (!decide (i=j))) S
 |.lt,i,j,S,Q=>Q (.bl (decide (i < j))) S
 |.le,i,j,S,Q=>Q (.bl (decide (i<=j))) S
 |.gt,i,j,S,Q=>Q (.bl (decide (j < i))) S
 |.ge,i,j,S,Q=>Q (.bl (decide (j<=i))) S
 |.is,_,_,_,_=>False
 |.isnot,_,_,_,_=>False
 |.isin,_,_,_,_=>False
 |.notin,_,_,_,_=>False
def Mh{o:COp}{i j:Int}{S:Sto}{Q:D->Sto->Prop}(h:wCI o i j S Q):Ok (am o (.int i) (.int j) S) Q:=by
 cases o with
 |eq=>rw[L5];exact h
 |ne=>rw[L6];exact h
 |lt=>rw[Qp];exact h
 |le=>rw[Qo];exact h
 |gt=>rw[Qq];exact h
 |ge=>rw[Qu];exact h
 |_=>exact h.elim
abbrev Mi(o:COp)(i:Int)(y:D)(S:Sto)(Q:D->Sto->Prop):Prop:=match y with
 |.int j=>wCI o i j S Q
 |.non=>Ok (am o (.int i) .non S) Q
 |.bl b=>Ok (am o (.int i) (.bl b) S) Q
 |.str b=>Ok (am o (.int i) (.str b) S) Q
 |.ref b=>Ok (am o (.int i) (.ref b) S) Q
 |.tup b=>Ok (am o (.int i) (.tup b) S) Q
abbrev zE(o:COp)(xs:List D)(y:D)(S:Sto)(Q:D->Sto->Prop):Prop:=match o with
 |.eq=>match y with
  |.tup ys=>match ys with
   |[]=>Q (.bl xs.isEmpty) S
   |y::ys=>Ok (am .eq (.tup xs) (.tup (y::ys)) S) Q
  |.non=>Ok (am .eq (.tup xs) .non S) Q
  |.bl b=>Ok (am .eq (.tup xs) (.bl b) S) Q
  |.str b=>Ok (am .eq (.tup xs) (.str b) S) Q
  |.ref b=>Ok (am .eq (.tup xs) (.ref b) S) Q
  |.int b=>Ok (am .eq (.tup xs) (.int b) S) Q
 |.ne=>match y with
  |.tup ys=>match ys with
   |[]=>Q (.bl (!xs.isEmpty)) S
   |y::ys=>Ok (am .ne (.tup xs) (.tup (y::ys)) S) Q
  |.non=>Ok (am .ne (.tup xs) .non S) Q
  |.bl b=>Ok (am .ne (.tup xs) (.bl b) S) Q
  |.str b=>Ok (am .ne (.tup xs) (.str b) S) Q
  |.ref b=>Ok (am .ne (.tup xs) (.ref b) S) Q
  |.int b=>Ok (am .ne (.tup xs) (.int b) S) Q
 |.is=>Ok (am .is (.tup xs) y S) Q
 |.isnot=>Ok (am .isnot (.tup xs) y S) Q
 |.isin=>Ok (am .isin (.tup xs) y S) Q
 |.notin=>Ok (am .notin (.tup xs) y S) Q
 |.lt=>False |.le=>False |.gt=>False |.ge=>False
abbrev wCx(o:COp)(x y:D)(S:Sto)(Q:D->Sto->Prop):Prop:=match x with
 |.int i=>Mi o i y S Q
 |.tup xs=>zE o xs y S Q
 |.non=>Ok (am o .non y S) Q
 |.bl b=>Ok (am o (.bl b) y S) Q
 |.str b=>Ok (am o (.str b) y S) Q
 |.ref b=>Ok (am o (.ref b) y S) Q
def Mj{o:COp}{x y:D}{S:Sto}{Q:D->Sto->Prop}(h:wCx o x y S Q):Ok (am o x y S) Q:=by
 cases x with
 |int i=>cases y with
  |int j=>exact Mh h
  |_=>exact h
 |tup X=>cases o with
  |eq=>cases y with
   |tup Y=>cases Y with
    |nil=>rw[Gm,aK];exact h
    |cons y Y=>exact h
   |_=>exact h
  |ne=>cases y with
   |tup Y=>cases Y with
    |nil=>rw[Gn,aK];exact h
    |cons y Y=>exact h
   |_=>exact h
  |lt=>exact h.elim
  |le=>exact h.elim
  |gt=>exact h.elim
  |ge=>exact h.elim
  |_=>exact h
 |_=>exact h
abbrev wCm(o:COp)(x y:D)(S:Sto)(Q:D->Sto->Prop):Prop:=match o with
 |.is=>Ok (am .is x y S) Q
 |.isnot=>Ok (am .isnot x y S) Q
 |.isin=>Ok (am .isin x y S) Q
 |.notin=>Ok (am .notin x y S) Q
 |.eq=>wCx .eq x y S Q
 |.ne=>wCx .ne x y S Q
 |.lt=>wCx .lt x y S Q
 |.le=>wCx .le x y S Q
 |.gt=>wCx .gt x y S Q
 |.ge=>wCx .ge x y S Q
def qL{o:COp}{x y:D}{S:Sto}{Q:D->Sto->Prop}(h:wCm o x y S Q):Ok (am o x y S) Q:=by
 cases o <;> first |exact Mj h |exact h
abbrev Ml(o p:COp)(x y z:WP D):WP D:=λd S Q=>x d S λa j=>y d j λb l=>wCm o a b l λr f=>wBl r λc=>wIf c (z d f λe k=>wCm p b e k Q) (Q (.bl aS) f)
def Jm{o p:COp}{w v u:WP D}{x y z:XE}(hw:Sd w x)(d:Sd v y)(f:Sd u z):Sd (Ml o p w v u) (zo (am o) (am p) x y z):=λ_ _ _ h=>by
 rw[LZ];refine(hw _ _ _ h).mono λa j h=>(d _ _ _ h).mono λb q h=>(qL h).mono λr l h=>?_;obtain⟨c,e,h⟩:=mV h;refine⟨c,e,?_⟩;cases c with
 |true=>exact(f _ _ _ h).mono λe k h=>qL h
 |false=>exact h
abbrev Qy(x y:WP D):WP D:=λc S Q=>x c S λd f=>wBl d λb=>wIf b (y c f Q) (Q (.bl aS) f)
def Qz{w v:WP D}{x y:XE}(hw:Sd w x)(b:Sd v y):Sd (Qy w v) (BK x y):=λ_ _ _ h=>by
 rw[LX];refine(hw _ _ _ h).mono λa d h=>?_;obtain⟨c,e,h⟩:=mV h;refine⟨c,e,?_⟩;cases c with
 |true=>exact b _ _ _ h
 |false=>exact h
abbrev wOr(x y:WP D):WP D:=λc S Q=>x c S λd f=>wBl d λb=>wIf b (Q (.bl aN) f) (y c f Q)
def R9{w v:WP D}{x y:XE}(hw:Sd w x)(b:Sd v y):Sd (wOr w v) (xOr x y):=λ_ _ _ h=>by
 rw[Qm];refine(hw _ _ _ h).mono λa d h=>?_;obtain⟨c,e,h⟩:=mV h;refine⟨c,e,?_⟩;cases c with
 |false=>exact b _ _ _ h
 |true=>exact h
abbrev QA(x:WP D):WP D:=λc S Q=>x c S λd f=>wBl d λb=>Q (.bl (!b)) f
def QB{w:WP D}{x:XE}(hw:Sd w x):Sd (QA w) (xUn zn x):=λ_ _ _ h=>a8 ((hw _ _ _ h).mono λa b h=>by
 rw[LY];exact mV h)
abbrev QC(x:WP D):WP D:=λb S Q=>x b S λd c=>cT d λi=>Q (.int (-i)) c
def QD{w:WP D}{x:XE}(hw:Sd w x):Sd (QC w) (xUn KZ x):=λ_ _ _ h=>a8 ((hw _ _ _ h).mono λa b h=>by
 obtain⟨i,rfl,h⟩:=cK h;exact bC h)
abbrev QE{α:Type}(c:WP Bool)(x y:WP α):WP α:=λd S Q=>c d S λb f=>wIf b (x d f Q) (y d f Q)
def QF{c:WP Bool}{w v:WP D}{t:XT}{x y:XE}(hc:Sd c t)(hw:Sd w x)(d:Sd v y):Sd (QE c w v) (K0 t x y):=λ_ _ _ h=>a8 ((hc _ _ _ h).mono λb f h=>by
 cases b with
 |true=>exact hw _ _ _ h
 | false=>exact d _ _ _ h)
abbrev wO:Option (WP D)->WP (Option Int)
 |none=>λ_ S Q=>Q aD S
 |some w=>λb S Q=>w b S λd c=>cT d λi=>Q (aw i) c
abbrev vW(lo hi:Option Int)(d:D)(S:Sto)(Q:D->Sto->Prop):Prop:=match d with
 |.tup ds=>Q (.tup (lH ds lo hi)) S
 |.ref n=>Ok (slS lo hi (.ref n) S) Q
 |.non=>False |.bl _=>False |.str _=>False |.int _=>False
abbrev wSl(x:WP D)(lo hi:WP (Option Int)):WP D:=λb S Q=>x b S λd c=>lo b c λl j=>hi b j λh f=>vW l h d f Q
def Se:Sd (wO aD) uY:=λ_ _ _ h=>bC h
def Sf{w:WP D}{x:XE}(hw:Sd w x):Sd (wO (aw w)) (uZ x):=λ_ _ _ h=>a8 ((hw _ _ _ h).mono λd b h=>by
 obtain⟨i,rfl,h⟩:=cK h;exact bC h)
def Sg{w:WP D}{l u:WP (Option Int)}{x:XE}{lo hi:XO}(hw:Sd w x)(hl:Sd l lo)(c:Sd u hi):Sd (wSl w l u) (xSl x lo hi):=λ_ _ _ h=>a8 ((hw _ _ _ h).mono λd f h=>a8 ((hl _ _ _ h).mono λa k h=>a8 ((c _ _ _ h).mono λb j h=>by
 cases d with
 |tup q=>exact bC h
 |ref n=>exact h
 | _=>exact h.elim)))
abbrev Jn(g:List D->Sto->Option (D × Sto))(n:Nat)(x:WP (List D)):WP D:=λb S Q=>x b S λd c=>d.length=n/\Ok (g d c) Q
def Mo{g:List D->Sto->Option (D × Sto)}{n:Nat}{w:WP (List D)}{x:XA}(hw:Sd w x):Sd (Jn g n w) (sN g n x):=λ_ _ _ h=>by
 rw[Gc];exact hw _ _ _ h
abbrev jM(x:WP (List D)):WP D:=λc S Q=>x c S λd b=>Q (.ref b.length) (b++[.lst d])
def gI{w:WP (List D)}{x:XA}(hw:Sd w x):Sd (jM w) (dP x):=λ_ _ _ h=>by rw[CJ];exact hw _ _ _ h
abbrev ft:Nat->List CE->Prop->Prop
 |_,[],A=>A
 |0,_::_,_=>False
 |n+1,_::es,A=>ft n es A
def ja:∀ {n:Nat} {es:List CE} {A:Prop},ft n es A->es.length<=n/\A
 |n,[],_,h=>⟨Z3 _,by cases n <;> exact h⟩
 |0,_::_,_,h=>h.elim
 |n+1,_::es,_,h=>by rw[Zo];exact⟨Wh (ja (es:=es) h).1,(ja (es:=es) h).2⟩
abbrev wSh{α:Type}(c:List CE)(x:WP α):WP α:=λb S Q=>ft 60 c (x b S Q)
abbrev CQ(c:D->Sto->Bool)(f:D->List D->Sto->Option (D × Sto))(x:WP D)(y:WP (List D)):WP D:=λb S Q=>x b S λd j=>c d j=aN/\y b j λk l=>Ok (f d k l) Q
def xS{c:D->Sto->Bool}{f:D->List D->Sto->Option (D × Sto)}{w:WP D}{v:WP (List D)}{x:XE}{y:XA}(hw:Sd w x)(b:Sd v y):Sd (CQ c f w v) (zl c f x y):=λ_ _ _ h=>a8 ((hw _ _ _ h).mono λd j h=>by
 rw[if_pos h.1];exact a8 (b _ _ _ h.2))
abbrev Mp(x:WP D):WP (List D):=λb S Q=>x b S λd c=>∃i:Nat,d = .int i/\i<=1000/\Q ((Ze i).map λj=>.int (Int.ofNat j)) c
def Jo{w:WP D}{x:XE}(hw:Sd w x):Sd (Mp w) (zx x):=λ_ _ _ h=>L4 (hw _ _ _ h)
abbrev QG:WP (List D):=λ_ S Q=>Q [] S
def QH:Sd QG EX:=λ_ _ _ h=>bC h
abbrev Jp(x:WP D)(y:WP (List D)):WP (List D):=λb S Q=>x b S λa c=>y b c λd f=>Q (a::d) f
def Mq{w:WP D}{v:WP (List D)}{x:XE}{y:XA}(hw:Sd w x)(b:Sd v y):Sd (Jp w v) (xa x y):=λ_ _ _ h=>a8 ((hw _ _ _ h).mono λd c h=>a8 ((b _ _ _ h).mono λj f h=>bC h))
abbrev Sh(o:Option D)(A:Prop):Prop:=match o with
 |none=>A
 |some _=>False
abbrev wFr:Rho->Nat->Prop->Prop
 |[],_,_=>False
 |o::_,0,A=>Sh o A
 |_::ρ,i+1,A=>wFr ρ i A
def qM:∀ {ρ:Rho} {i:Nat} {A:Prop},wFr ρ i A->ρ[i]?=aw aD/\A
 |[],_,_,h=>h.elim
 |none::_,0,_,h=>⟨rfl,h⟩
 |some _::_,0,_,h=>h.elim
 |o::ρ,i+1,_,h=>by rw[Yy];exact qM (ρ:=ρ) h
abbrev tH:List Tg->Rho->Prop->Prop
 |[],_,A=>A
 |.name i::ts,ρ,A=>wFr ρ i (tH ts ρ A)
 |.tup us::ts,ρ,A=>dF (.tup us) ρ=aN/\tH ts ρ A
abbrev wFt:Tg->Rho->Prop->Prop
 |.name i,ρ,A=>wFr ρ i A
 |.tup ts,ρ,A=>tH ts ρ A
def oZ{i:Nat}{b:Rho}(h:b[i]?=aw aD):dF (.name i) b=aN:=by rw[dF,h]
def qN:∀ {T:List Tg} {b:Rho} {A:Prop},tH T b A->fR T b=aN/\A
 |[],_,_,h=>⟨by rw[fR],h⟩
 |.name i::T,b,_,h=>by
  obtain⟨e,h⟩:=qM h;obtain⟨c,h⟩:=qN h;exact⟨by rw[fR,oZ e,c];rfl,h⟩
 |.tup us::T,b,_,h=>by
  obtain⟨e,h⟩:=h;obtain⟨c,h⟩:=qN h;exact⟨by rw[fR,e,c];rfl,h⟩
def vX{t:Tg}{b:Rho}{A:Prop}(h:wFt t b A):dF t b=aN/\A:=by
 cases t with
 |name i=>exact⟨oZ (qM h).1,(qM h).2⟩
 |tup T=>rw[dF];exact qN h
abbrev tI:List Str->Rho->(Rho->Prop)->Prop
 |[],r,Q=>Q r
 |_::own,r,Q=>tI own (aD::r) Q
abbrev tJ:Rho->Rho->(Rho->Prop)->Prop
 |[],r,Q=>Q r
 |o::ρ,r,Q=>tJ ρ r λb=>Q (o::b)
def xT:∀ {ρ r:Rho} {Q:Rho->Prop},tJ ρ r Q->Q (ρ++r)
 |[],_,_,h=>h
 |o::ρ,r,Q,h=>xT (ρ:=ρ) (Q:=λb=>Q (o::b)) h
def xU:∀ {own:List Str} {k:Nat} {Q:Rho->Prop},tI own (ZL k aD) Q->Q (ZL (own.length+k) aD)
 |[],k,_,h=>by rw[Z1,Yv];exact h
 |_::own,k,Q,h=>by
  have:=xU (own:=own) (k:=k+1) h;rw[Zo,show own.length+1+k=own.length+(k+1) by lia];exact this
abbrev Jq(own:List Str)(it:WP Nxt)(T:Tg)(c:XA)(k:Nat):WP (List D):=λd S Q=>it d S λnx j=>tI own [] λr=>tJ d r λb=>wFt T b (Ok (bu nx T c b k 0 j) λf l=>f.length<=100000/\Q f l)
def CT{own:List Str}{k:Nat}{w:WP Nxt}{it:XI}{T:Tg}{c:XA}(hw:Sd w it):Sd (Jq own w T c k) (l8 own.length it T c k):=λ_ _ _ h=>by
 rw[Gd]
 exact(hw _ _ _ h).mono λnx b h=>by
  have h:=xT (xU (own:=own) (k:=0) h);exact vX h
abbrev CU(it:WP Nxt)(T:Tg)(c:XA)(k:Nat):WP (List D):=λb S Q=>wFt T b (it b S λnx d=>Ok (bu nx T c b k 0 d) Q)
def Gr{k:Nat}{w:WP Nxt}{it:XI}{T:Tg}{c:XA}(hw:Sd w it):Sd (CU w T c k) (jA it T c k):=λ_ _ _ h=>by
 rw[CH];exact⟨(vX h).1,hw _ _ _ (vX h).2⟩
abbrev mW(d:D)(b:Sto)(Q:Nxt->Sto->Prop):Prop:=match d with
 |.tup ds=>Q (nxL ds) b
 |.ref n=>(aU b n).isSome=aN/\Q (nxS n) b
 |.non=>False |.bl _=>False |.str _=>False |.int _=>False
def Si{w:WP D}{x:XE}(hw:Sd w x):Sd (λc S Q=>w c S λd b=>mW d b Q) (xIV x):=λ_ _ _ h=>a8 ((hw _ _ _ h).mono λd b h=>by
 cases d with
 |tup f=>exact bC h
 |ref n=>dsimp only;rw[if_pos h.1];exact bC h.2
 | _=>exact h.elim)
abbrev Gu(d:D)(b:Sto)(Q:Nxt->Sto->Prop):Prop:=match d with
 |.tup ds=>Q (Fi ds) b
 |_=>False
def Sj{w:WP D}{x:XE}(hw:Sd w x):Sd (λc S Q=>w c S λd b=>Gu d b Q) (xEV x):=λ_ _ _ h=>a8 ((hw _ _ _ h).mono λd b h=>by
 cases d with
 |tup f=>exact bC h
 | _=>exact h.elim)
abbrev wOn{b β:Type}(f:b->β)(x:WP b):WP β:=λc S Q=>x c S λa d=>Q (f a) d
def Jr{b k:Type}{f:b->k}{w:WP b}{x:Rho->Sto->Option (b × Sto)}(hw:Sd w x):Sd (wOn f w) (λj S=>bnd (x j S) λa c=>aw (f a,c)):=λ_ _ _ h=>a8 ((hw _ _ _ h).mono λd c h=>bC h)
abbrev wR1(x:WP D):WP Nxt:=λb S Q=>x b S λd c=>cT d λj=>lim j=aN/\Q (nxR 0 j.toNat) c
def Sk{w:WP D}{x:XE}(hw:Sd w x):Sd (wR1 w) (xR1 x):=λ_ _ _ h=>a8 ((hw _ _ _ h).mono λd b h=>by
 obtain⟨i,rfl,h⟩:=cK h;dsimp only;rw[if_pos h.1];exact bC h.2)
abbrev wDn(x:WP D):WP Nxt:=λb S Q=>x b S λd c=>cT d λj=>lim j=aN/\Q (nxD j (j+1).toNat) c
def Sl{w:WP D}{x:XE}(hw:Sd w x):Sd (wDn w) (xDn x):=λ_ _ _ h=>a8 ((hw _ _ _ h).mono λd b h=>by
 cases d with
 |int j=>obtain⟨h,q⟩:=h;dsimp only;rw[if_pos h];exact bC q
 | _=>exact h.elim)
abbrev Js(x:WP D):WP D:=λb S Q=>x b S λd c=>cT d λi=>(0<=i/\i<=1000)/\Q (.tup ((Ze i.toNat).map λj=>.int (Int.ofNat j))) c
def Mr{w:WP D}{x:XE}(hw:Sd w x):Sd (Js w) (BW x):=λ_ _ _ h=>a8 ((hw _ _ _ h).mono λd b h=>by
 cases d with
 |int j=>obtain⟨h,q⟩:=h;dsimp only;rw[if_pos h];exact bC q
 | _=>exact h.elim)
abbrev wR2(x y:WP D):WP Nxt:=λb S Q=>x b S λd c=>y b c λe f=>cT d λi=>cT e λj=>(lim i=aN/\lim j=aN)/\Q (nxR i (j - i).toNat) f
def So{w v:WP D}{x y:XE}(hw:Sd w x)(c:Sd v y):Sd (wR2 w v) (xR2 x y):=λ_ _ _ h=>a8 ((hw _ _ _ h).mono λd k h=>a8 ((c _ _ _ h).mono λe l h=>by
 obtain⟨i,rfl,f⟩:=cK h;obtain⟨j,rfl,b⟩:=cK f;dsimp only;rw[if_pos b.1];exact bC b.2))
abbrev cU(d:D)(S:Sto)(Q:Bool->Sto->Prop):Prop:=match d with
 |.bl b=>Q b S
 |.tup ds=>Q (!ds.isEmpty) S
 |.int i=>Q (i != 0) S
 |.non=>Q aS S
 |.str y=>Ok (lW (.str y) S) Q
 |.ref y=>Ok (lW (.ref y) S) Q
def CV{d:D}{S:Sto}{Q:Bool->Sto->Prop}(h:cU d S Q):Ok (lW d S) Q:=by cases d <;> first |exact bC h |exact h
abbrev wB(x:WP D):WP Bool:=λc S Q=>x c S λd f=>wBl d λb=>Q b f
def s_b{w:WP D}{x:XE}(hw:Sd w x):Sd (wB w) (xB x):=λ_ _ _ h=>by
 rw[Qv];exact(hw _ _ _ h).mono λd b h=>mV h
abbrev Jt(x y:WP Bool):WP Bool:=λc S Q=>x c S λb d=>wIf b (y c d Q) (Q aS d)
abbrev QI(x y:WP Bool):WP Bool:=λc S Q=>x c S λb d=>wIf b (Q aN d) (y c d Q)
abbrev Ju(x:WP Bool):WP Bool:=λc S Q=>x c S λb d=>Q (!b) d
def Ms{w v:WP Bool}{x y:XT}(hw:Sd w x)(c:Sd v y):Sd (Jt w v) (BN x y):=λ_ _ _ h=>a8 ((hw _ _ _ h).mono λb d h=>by
 cases b with
 |true=>exact c _ _ _ h
 | false=>exact bC h)
def QJ{w v:WP Bool}{x y:XT}(hw:Sd w x)(c:Sd v y):Sd (QI w v) (K3 x y):=λ_ _ _ h=>a8 ((hw _ _ _ h).mono λb d h=>by
 cases b with
 |false=>exact c _ _ _ h
 | true=>exact bC h)
def Mu{w:WP Bool}{x:XT}(hw:Sd w x):Sd (Ju w) (BO x):=λ_ _ _ h=>a8 ((hw _ _ _ h).mono λb c h=>bC h)
abbrev Jv(t:WP Bool)(c:WP (List D)):WP (List D):=λd S Q=>t d S λb f=>wIf b (c d f Q) (Q [] f)
def Mv{t:WP Bool}{c:WP (List D)}{x:XT}{y:XA}(d:Sd t x)(hc:Sd c y):Sd (Jv t c) (BH x y):=λ_ _ _ h=>a8 ((d _ _ _ h).mono λb f h=>by
 cases b with
 |true=>exact hc _ _ _ h
 | false=>exact bC h)
abbrev Gv(f:Bool->List D->Option (List D))(d:List D)(S:Sto)(Q:List D->Sto->Prop):Prop:=∃b,f aS d=aw b/\Q b S
abbrev Gw(f:Bool->List D->Option (List D))(d:D)(S:Sto)(Q:List D->Sto->Prop):Prop:=∃r b,av d S=aw r/\f r.1 r.2=aw b/\Q b S
abbrev vY(d:D)(S:Sto)(Q:List D->Sto->Prop):Prop:=Ok ((av d S).map λr=>(r.2,S)) Q
def QK{f:Bool->List D->Option (List D)}{w:WP (List D)}{x:XA}(hw:Sd w x):Sd (λc S Q=>w c S λd b=>Gv f d b Q) (zv f x):=λ_ _ _ h=>a8 ((hw _ _ _ h).mono λd b ⟨j,e,h⟩=>by rw[e];exact bC h)
def QL{f:Bool->List D->Option (List D)}{w:WP D}{x:XE}(hw:Sd w x):Sd (λc S Q=>w c S λd b=>Gw f d b Q) (zw f x):=λ_ _ _ h=>a8 ((hw _ _ _ h).mono λd b ⟨r,k,j,e,h⟩=>by
 rw[j];dsimp only;rw[e];exact bC h)
abbrev wNo{α:Type}:WP α:=λ_ _ _=>False
def qO{b:Type}{x:Rho->Sto->Option (b × Sto)}:Sd wNo x:=λ_ _ _ h=>h.elim
abbrev aW(b:Bool)(x:WP (List D))(y:WP D)(c:Rho)(S:Sto)(KT:List D->Sto->Prop)(KV:D->Sto->Prop):Prop:=match b with
 |true=>x c S KT
 |false=>y c S KV
abbrev wOf{α:Type}(b:Bool)(x:WP (List D))(y:WP D)(gt:List D->Sto->(α->Sto->Prop)->Prop)(k:D->Sto->(α->Sto->Prop)->Prop):WP α:=λf S Q=>aW b x y f S (λj c=>gt j c Q) (λd c=>k d c Q)
def s_of{f:Type}{b:Bool}{w:WP (List D)}{v:WP D}{gt:List D->Sto->(f->Sto->Prop)->Prop}{k:D->Sto->(f->Sto->Prop)->Prop}{x y:Rho->Sto->Option (f × Sto)}(hw:Sd (λc S Q=>w c S λq j=>gt q j Q) x)(l:Sd (λc S Q=>v c S λd j=>k d j Q) y):Sd (wOf b w v gt k) (if b=aN then x else y):=by
 cases b with
 |true=>exact hw
 |false=>exact l
def Sq{b:Bool}{w:WP (List D)}{v u:WP D}{x:XA}{y z:XE}(hw:Sd w x)(B:Sd u z)(q:Sd v y):Sd (λc S Q=>aW b w u c S (λl f=>v c f λi j=>cT i λk=>∃d,atI l k=aw d/\Q d j) (λd f=>v c f λi j=>Ok (ixS d i j) Q)) (if b=aN then uV x y else se ixS z y):=λc S Q h=>by
 cases b with
 |true=>
  show Ok (uV x y c S) Q;rw[Mc];exact(hw _ _ _ h).mono λl f h=>(q _ _ _ h).mono λi j h=>cK h
 |false=>exact a8 ((B _ _ _ h).mono λl f h=>a8 (q _ _ _ h))
abbrev wO2(t:CE->WP D):Option CE->Option (WP D)
 |none=>aD
 |some e=>aw (t e)
abbrev Gx(t:CE->WP Bool):Option CE->WP (List D)->WP (List D)
 |some c,x=>Jv (t c) x
 |none,x=>x
abbrev CW(x y:D)(S:Sto)(Q:D->Sto->Prop):Prop:=cT x λi=>cT y λj=>Q (.int (if j > i then j else i)) S
abbrev CY(x y:D)(S:Sto)(Q:D->Sto->Prop):Prop:=cT x λi=>cT y λj=>Q (.int (if j < i then j else i)) S
abbrev w2(g:D->D->Sto->(D->Sto->Prop)->Prop):List D->Sto->(D->Sto->Prop)->Prop
 |[],_,_=>False
 |[_],_,_=>False
 |[x,y],S,Q=>g x y S Q
 |_::_::_::_,_,_=>False
def Jw{g:D->D->Sto->(D->Sto->Prop)->Prop}{f:D->D->Sto->Option (D × Sto)}(c:∀ {a b S Q},g a b S Q->Ok (f a b S) Q):∀ {d:List D} {S:Sto} {Q:D->Sto->Prop},w2 g d S Q->Ok (two f d S) Q
 |[],_,_,h=>h.elim
 |[_],_,_,h=>h.elim
 |[x,y],_,_,h=>c h
 |_::_::_::_,_,_,h=>h.elim
abbrev Jx:WP D:=λ_ S Q=>Q (.ref (Zx S)) (S++[.dic [] []])
abbrev wCf(i:CI->WP Nxt)(own:List Str)(t:CE->XT)(e:List Cl->XA):List Cl->WP (List D)
 |[]=>wNo
 |⟨tg,it,cond⟩::rest=>Jq own (i it) tg (cnd t cond (e rest)) LF
mutual
noncomputable def wE(C:Calls)(j:Nat->Nat):Nat->CE->WP D
 |0,_=>wNo
 |n+1,e=>match e with
  |.non=>wC .non
  |.bl b=>wC (.bl b)
  |.int i=>wC (.int i)
  |.str x=>wC (.str x)
  |.var i=>Qw i
  |.con _ v=>wC (.int v)
  |.tup es=>wSh es (wOn D.tup (wA C j n es))
  |.lst es=>jM (wSh es (wA C j n es))
  |.dic0=>Jx
  |.bin o a b=>Go (tG o) (wE C j n a) (wE C j n b)
  |.neg a=>QC (wE C j n a)
  |.cmp o a b=>Go (wCm o) (wE C j n a) (wE C j n b)
  |.chn o p a b c=>Ml o p (wE C j n a) (wE C j n b) (wE C j n c)
  |.and a b=>Qy (wE C j n a) (wE C j n b)
  |.or a b=>wOr (wE C j n a) (wE C j n b)
  |.not a=>QA (wE C j n a)
  |.ite c a b=>QE (wT C j n c) (wE C j n a) (wE C j n b)
  |.ix a b=>λl S Q=>aW (ai a) (wTm C j n a) (wE C j n a) l S (λy q=>wE C j n b l q λi u=>cT i λk=>∃d,atI y k=aw d/\Q d u) (λd q=>wE C j n b l q λi u=>Ok (ixS d i u) Q)
  |.sl a lo hi=>wSl (wE C j n a) (wO (wO2 (wE C j n) lo)) (wO (wO2 (wE C j n) hi))
  |.call f es=>Jn (C f) (j f) (wA C j n es)
  |.inst t a=>wUn (wOk (lZ t)) (wE C j n a)
  |.len a=>wOf (ai a) (wTm C j n a) (wE C j n a) (wOk (dB aS)) (wOk (ao dB))
  |.all a=>wOf (ai a) (wTm C j n a) (wE C j n a) (wOk (kB aS)) (wOk (ao kB))
  |.any a=>wOf (ai a) (wTm C j n a) (wE C j n a) (wOk (nA aS)) (wOk (ao nA))
  |.tupOf a=>wOf (ai a) (wTm C j n a) (wE C j n a) (wOk (cX aS)) (wOk (ao cX))
  |.listOf a=>jM (wOf (ai a) (wTm C j n a) (wE C j n a) (λy S Q=>Q y S) vY)
  |.listR a=>jM (Mp (wE C j n a))
  |.srt a=>jM (wOf (ai a) (wTm C j n a) (wE C j n a) (Gv cP) (Gw cP))
  |.mxL a=>wOf (ai a) (wTm C j n a) (wE C j n a) (wOk (nB aS)) (wOk (ao nB))
  |.rev a=>wUn (wOk vm) (wE C j n a)
  |.mnN a=>wOf (ai a) (wTm C j n a) (wE C j n a) (wOk (nG aS)) (wOk (ao nG))
  |.intOf a=>wUn (wOk Bv) (wE C j n a)
  |.mx a b=>wUn (w2 CW) (wA C j n [a,b])
  |.mn a b=>wUn (w2 CY) (wA C j n [a,b])
  |.comp own elt cls=>jM (wCf (wI C j n) own (evT C j n) (gM C j n elt) cls)
  |.app o a=>CQ fP sG (wE C j n o) (wA C j n [a])
  |.popAt o a=>CQ fP ie (wE C j n o) (wA C j n [a])
  |.cnt o a=>CQ (λd _=>isTup d) vD (wE C j n o) (wA C j n [a])
  |.idx o a=>CQ (λd _=>isTup d) vH (wE C j n o) (wA C j n [a])
  |.tupR a=>Js (wE C j n a)
noncomputable def wA(C:Calls)(b:Nat->Nat):Nat->List CE->WP (List D)
 |0,_=>wNo
 |n+1,es=>match es with
  |[]=>QG
  |e::es=>Jp (wE C b n e) (wA C b n es)
noncomputable def wTm(C:Calls)(b:Nat->Nat):Nat->CE->WP (List D)
 |0,_=>wNo
 |n+1,e=>match e with
  |.lst es=>wSh es (wA C b n es)
  |.listOf a=>wOf (ai a) (wTm C b n a) (wE C b n a) (λd S Q=>Q d S) vY
  |.listR a=>Mp (wE C b n a)
  |.srt a=>wOf (ai a) (wTm C b n a) (wE C b n a) (Gv cP) (Gw cP)
  |.comp own elt cls=>wCf (wI C b n) own (evT C b n) (gM C b n elt) cls
  |_=>wNo
noncomputable def wI(C:Calls)(c:Nat->Nat):Nat->CI->WP Nxt
 |0,_=>wNo
 |n+1,it=>match it with
  |.val a=>wOf (ai a) (wTm C c n a) (wE C c n a) (λk S Q=>Q (nxL k) S) mW
  |.r1 a=>wR1 (wE C c n a)
  |.dn a=>wDn (wE C c n a)
  |.r2 a b=>wR2 (wE C c n a) (wE C c n b)
  |.en a=>λf S Q=>wE C c n a f S λd j=>Gu d j Q
noncomputable def wT(C:Calls)(d:Nat->Nat):Nat->CE->WP Bool
 |0,_=>wNo
 |n+1,e=>match e with
  |.cmp o a b=>wB (Go (wCm o) (wE C d n a) (wE C d n b))
  |.chn o p a b c=>wB (Ml o p (wE C d n a) (wE C d n b) (wE C d n c))
  |.and a b=>Jt (wT C d n a) (wT C d n b)
  |.or a b=>QI (wT C d n a) (wT C d n b)
  |.not a=>Ju (wT C d n a)
  |.ite _ _ _=>wNo
  |e=>wUn cU (wE C d n e)
end
abbrev wCl(C:Calls)(c:Nat->Nat)(n:Nat)(b:CE):List Cl->WP (List D)
 |[]=>wOn (λd=>[d]) (wE C c n b)
 |⟨tg,it,cond⟩::rest=>CU (wI C c n it) tg (cnd (evT C c n) cond (gM C c n b rest)) LF
def qP{C:Calls}{k:Nat->Nat}:∀ {n:Nat} {b:List CE} {c:Rho} {S j:Sto} {d:List D},evA C k n b c S=aw (d,j)->d.length=b.length
 |0,_,_,_,_,_,h=>by simp only[evA,xNo] at h;cases h
 |n+1,[],_,_,_,_,h=>by simp only[evA,EX] at h;cases h;rfl
 |n+1,e::b,_,_,_,_,h=>by
  simp only[evA,xa] at h;obtain⟨a,l,q,h⟩:=ab h;obtain⟨u,v,f,h⟩:=ab h;cases h;rw[Zo,Zo,qP f]
structure SndW(C:Calls)(ar:Nat->Nat)(n:Nat):Prop where
 e:∀ {e:CE},Sd (wE C ar n e) (evE C ar n e)
 a:∀ {es:List CE},Sd (wA C ar n es) (evA C ar n es)
 m:∀ {e:CE},Sd (wTm C ar n e) (c6 C ar n e)
 i:∀ {i:CI},Sd (wI C ar n i) (evI C ar n i)
 t:∀ {e:CE},Sd (wT C ar n e) (evT C ar n e)
section
variable {C:Calls} {ar:Nat->Nat} {n:Nat}
def QM(h:SndW C ar n){b:List CE}:Sd (wSh b (wOn D.tup (wA C ar n b))) (lJ lP (evA C ar n b)):=λj S Q w=>by
 obtain⟨le,w⟩:=ja w;obtain⟨f,d,c,q⟩:=h.a _ _ _ w;refine a8 ⟨f,d,c,?_⟩;have l:=qP c;show Ok (lP f d) Q;rw[Gg];exact⟨by lia,q⟩
def CZ(h:SndW C ar n){b:List CE}:Sd (wSh b (wA C ar n b)) (om (evA C ar n b)):=λj S Q w=>by
 obtain⟨le,w⟩:=ja w;obtain⟨f,d,c,q⟩:=h.a _ _ _ w;rw[Gf];have l:=qP c;exact⟨f,d,c,by lia,q⟩
def Jy(h:SndW C ar n){o:Option CE}:Sd (wO (wO2 (wE C ar n) o)) (opt (evE C ar n) o):=by
 cases o with
 |none=>exact Se
 |some e=>exact Sf h.e
def Gy{a b:D}{S:Sto}{Q:D->Sto->Prop}(h:CW a b S Q):Ok (Bm a b S) Q:=by
 obtain⟨i,rfl,d⟩:=cK h;obtain⟨j,rfl,c⟩:=cK d;exact bC c
def Gz{a b:D}{S:Sto}{Q:D->Sto->Prop}(h:CY a b S Q):Ok (Bn a b S) Q:=by
 obtain⟨i,rfl,d⟩:=cK h;obtain⟨j,rfl,c⟩:=cK d;exact bC c
end
section
variable {C:Calls} {ar:Nat->Nat} {n:Nat}
def QN(h:SndW C ar n){o:Option CE}{w:WP (List D)}{x:XA}(hw:Sd w x):Sd (Gx (wT C ar n) o w) (cnd (evT C ar n) o x):=by
 cases o with
 |none=>exact hw
 |some c=>exact Mv h.t hw
def C0{c b:Type}{f:c->Sto->Option (b × Sto)}{a:c}{S:Sto}{Q:b->Sto->Prop}(h:wOk f a S Q):Ok (f a S) Q:=h
def s_q(h:SndW C ar n){f:Bool->List D->Sto->Option (D × Sto)}{a:CE}:Sd (wOf (ai a) (wTm C ar n a) (wE C ar n a) (wOk (f aS)) (wOk (ao f))) (if ai a=aN then pX f (c6 C ar n a) else pY f (evE C ar n a)):=
 s_of (Gp (f:=f aS) h.m C0) (Gp (f:=ao f) h.e C0)
def Jz(h:SndW C ar n){a:CE}:Sd (wOf (ai a) (wTm C ar n a) (wE C ar n a) (λd S Q=>Q d S) vY) (if ai a=aN then c6 C ar n a else mh (evE C ar n a)):=s_of h.m (λ_ _ _ w=>a8 (h.e _ _ _ w))
def JA(h:SndW C ar n){a:CE}:Sd (wOf (ai a) (wTm C ar n a) (wE C ar n a) (Gv cP) (Gw cP)) (if ai a=aN then zv cP (c6 C ar n a) else zw cP (evE C ar n a)):=s_of (QK h.m) (QL h.e)
def s_u{g:D->Sto->Option (D × Sto)}{w:WP D}{x:XE}(hw:Sd w x):Sd (wUn (wOk g) w) (xUn g x):=Gp (f:=g) hw C0
def Sr{w:WP (List D)}{x:XA}(hw:Sd w x):Sd (wUn (w2 CW) w) (lJ (two Bm) x):=λ_ _ _ h=>a8 ((hw _ _ _ h).mono λ_ _ h=>Jw (λz=>Gy z) h)
def Ss{w:WP (List D)}{x:XA}(hw:Sd w x):Sd (wUn (w2 CY) w) (lJ (two Bn) x):=λ_ _ _ h=>a8 ((hw _ _ _ h).mono λ_ _ h=>Jw (λz=>Gz z) h)
def Mw:Sd Jx BZ:=λ_ _ _ h=>bC h
def QO{w:WP D}{x:XE}(hw:Sd w x):Sd (wUn cU w) (Fc x):=Gp (f:=lW) hw CV
def o0:∀n,SndW C ar n
 |0=>⟨qO,qO,qO,qO,qO⟩
 |n+1=>by
  have h:=o0 n;refine⟨λ{e}=>?_,λ{j}=>?_,λ{e}=>?_,λ{i}=>?_,λ{e}=>?_⟩
  ·cases e with
   |non=>exact s_c
   |bl b=>exact s_c
   |int b=>exact s_c
   |str b=>exact s_c
   |var b=>exact Qx
   |con b v=>exact s_c
   |tup j=>exact QM h
   |lst j=>exact gI (CZ h)
   |dic0=>exact Mw
   |bin o a b=>exact CO h.e h.e Gq
   |neg a=>exact QD h.e
   |cmp o a b=>exact CO h.e h.e qL
   |chn o p a b c=>exact Jm h.e h.e h.e
   |and a b=>exact Qz h.e h.e
   |or a b=>exact R9 h.e h.e
   |not a=>exact QB h.e
   |ite c a b=>exact QF h.t h.e h.e
   |ix a b=>exact Sq h.m h.e h.e
   |sl a lo hi=>exact Sg h.e (Jy h) (Jy h)
   |call f j=>exact Mo h.a
   |inst t a=>exact s_u h.e
   |len a=>exact s_q h
   |all a=>exact s_q h
   |any a=>exact s_q h
   |tupOf a=>exact s_q h
   |listOf a=>exact gI (Jz h)
   |listR a=>exact gI (Jo h.e)
   |srt a=>exact gI (JA h)
   |mxL a=>exact s_q h
   |rev a=>exact s_u h.e
   |mnN a=>exact s_q h
   |intOf a=>exact s_u h.e
   |mx a b=>exact Sr h.a
   |mn a b=>exact Ss h.a
   |comp own l d=>cases d with
    |nil=>exact gI qO
    |cons c k=>cases c with |mk T it cond=>exact gI (CT h.i)
   |app o a=>exact xS h.e h.a
   |popAt o a=>exact xS h.e h.a
   |cnt o a=>exact xS h.e h.a
   |idx o a=>exact xS h.e h.a
   |tupR a=>exact Mr h.e
  ·cases j with
   |nil=>exact QH
   |cons e j=>exact Mq h.e h.a
  ·cases e with
   |lst j=>exact CZ h
   |listOf a=>exact Jz h
   |listR a=>exact Jo h.e
   |srt a=>exact JA h
   |comp own l d=>cases d with
    |nil=>exact qO
    |cons c k=>cases c with |mk T it cond=>exact CT h.i
   |_=>exact qO
  ·cases i with
   |val a=>exact s_of (Jr h.m) (Si h.e)
   |r1 a=>exact Sk h.e
   |dn a=>exact Sl h.e
   |r2 a b=>exact So h.e h.e
   |en a=>exact Sj h.e
  ·cases e with
   |cmp o a b=>exact s_b (CO h.e h.e qL)
   |chn o p a b c=>exact s_b (Jm h.e h.e h.e)
   |and a b=>exact Ms h.t h.t
   |or a b=>exact QJ h.t h.t
   |not a=>exact Mu h.t
   |ite a b c=>exact qO
   |_=>exact QO h.e
def Su{d:CE}{b:List Cl}:Sd (wCl C ar n d b) (gM C ar (n+1) d b):=by
 cases b with
 |nil=>exact Jr (o0 n).e
 |cons c f=>cases c with |mk T it cond=>exact Gr (o0 n).i
def Mx{b:CE}{c:List Cl}{o:Option CE}{d:Rho}{S:Sto}{Q:List D->Sto->Prop}(h:Gx (wT C ar (n+1)) o (wCl C ar n b c) d S Q):Ok (cnd (evT C ar (n+1)) o (gM C ar (n+1) b c) d S) Q:=QN (o0 (n+1)) Su _ _ _ h
abbrev wNm:Nat->D->Rho->(Rho->Prop)->Prop
 |_,_,[],_=>False
 |0,d,_::ρ,Q=>Q (aw d::ρ)
 |i+1,d,o::ρ,Q=>wNm i d ρ λb=>Q (o::b)
def qQ:∀ {i:Nat} {d:D} {ρ:Rho} {Q:Rho->Prop},wNm i d ρ Q->i < ρ.length/\Q (ρ.set i (aw d))
 |i,_,[],_,h=>by cases i <;> exact h.elim
 |0,d,_::ρ,Q,h=>⟨by simp,h⟩
 |i+1,d,o::ρ,Q,h=>by
  have:=qQ (ρ:=ρ) (Q:=λb=>Q (o::b)) h;exact⟨by rw[Zo];lia,this.2⟩
abbrev wBs:List Tg->List D->Rho->(Rho->Prop)->Prop
 |[],[],ρ,Q=>Q ρ
 |[],_::_,_,_=>False
 |.name _::_,[],_,_=>False
 |.tup _::_,[],_,_=>False
 |.name i::ts,d::ds,ρ,Q=>wNm i d ρ λb=>wBs ts ds b Q
 |.tup us::ts,d::ds,ρ,Q=>∃b,aC (.tup us) d ρ=aw b/\wBs ts ds b Q
abbrev wTp(T:List Tg)(d:D)(b:Rho)(Q:Rho->Prop):Prop:=match d with
 |.tup ds=>wBs T ds b Q
 |.non=>False |.bl _=>False |.str _=>False |.int _=>False |.ref _=>False
abbrev wBd:Tg->D->Rho->(Rho->Prop)->Prop
 |.name i,d,ρ,Q=>wNm i d ρ Q
 |.tup ts,d,ρ,Q=>wTp ts d ρ Q
def C1{i:Nat}{d:D}{b:Rho}{Q:Rho->Prop}(h:wNm i d b Q):∃ρ1,aC (.name i) d b=aw ρ1/\Q ρ1:=⟨_,by rw[Gj,if_pos (qQ h).1],(qQ h).2⟩
def vZ:∀ {T:List Tg} {j:List D} {f:Rho} {Q:Rho->Prop},wBs T j f Q->∃b,aQ T j f=aw b/\Q b
 |[],[],f,Q,h=>⟨f,xO,h⟩
 |[],_::_,_,_,h=>h.elim
 |.name _::_,[],_,_,h=>h.elim
 |.tup _::_,[],_,_,h=>h.elim
 |.name i::T,d::j,f,Q,h=>by
  obtain⟨b,e,q⟩:=C1 h;obtain⟨c,k,q⟩:=vZ q;exact⟨c,by rw[aQ,e];exact k,q⟩
 |.tup us::T,d::j,f,Q,h=>by
  obtain⟨b,e,q⟩:=h;obtain⟨c,k,q⟩:=vZ q;exact⟨c,by rw[aQ,e];exact k,q⟩
def My{t:Tg}{d:D}{b:Rho}{Q:Rho->Prop}(h:wBd t d b Q):∃ρ1,aC t d b=aw ρ1/\Q ρ1:=by
 cases t with
 |name i=>exact C1 h
 |tup T=>cases d with
  |tup c=>rw[CL];exact vZ h
  |_=>exact h.elim
@[inline]abbrev WS:=Rho->Sto->(Fl->Rho->Sto->Prop)->Prop
abbrev rW(y:WS)(b:Rho)(S:Sto)(Q:Fl->Rho->Sto->Prop):Prop:=y b S Q
abbrev wNx(y:WS)(Q:Fl->Rho->Sto->Prop)(f:Fl)(b:Rho)(S:Sto):Prop:=match f with
 |.nx=>rW y b S Q
 |.rt d=>Q (.rt d) b S
 |.bk=>Q .bk b S
 |.ct=>Q .ct b S
mutual
noncomputable def wS(C:Calls)(ar:Nat->Nat):Nat->CS->WS
 |0,_=>λ_ _ _=>False
 |n+1,s=>match s with
  |.asg t e=>λf S Q=>wE C ar n e f S λd j=>wBd t d f λk=>Q .nx k j
  |.setI v o i=>λf S Q=>wE C ar n v f S λa j=>wE C ar n o f j λb u=>wE C ar n i f u λc q=>∃l,jz b c a q=aw l/\Q .nx f l
  |.ex e=>λf S Q=>wE C ar n e f S λ_ j=>Q .nx f j
  |.ret e=>λf S Q=>wE C ar n e f S λd j=>Q (.rt d) f j
  |.ifs c a b=>λf S Q=>wT C ar n c f S λt j=>wIf t (rW (wSs C ar n a) f j Q) (rW (wSs C ar n b) f j Q)
  |.for_ t it b=>λf S Q=>wI C ar n it f S λnx j=>OkS (fC nx t (gN C ar n b) LF 0 f j) Q
  |.cnt=>λf S Q=>Q .ct f S
  |.never=>λ_ _ _=>False
noncomputable def wSs(C:Calls)(ar:Nat->Nat):Nat->List CS->WS
 |0,_=>λ_ _ _=>False
 |n+1,ss=>match ss with
  |[]=>λb S Q=>Q .nx b S
  |s::ss=>λb S Q=>wS C ar n s b S (wNx (wSs C ar n ss) Q)
end
structure SdS(C:Calls)(ar:Nat->Nat)(n:Nat):Prop where
 s:∀ {s:CS} {ρ S Q},wS C ar n s ρ S Q->OkS (evS C ar n s ρ S) Q
 ss:∀ {ss:List CS} {ρ S Q},wSs C ar n ss ρ S Q->OkS (gN C ar n ss ρ S) Q
def C2:∀n,SdS C ar n
 |0=>⟨λh=>by simp only[wS] at h,λh=>by simp only[wSs] at h⟩
 |n+1=>by
  have h:=C2 n;have g:SndW C ar n:=o0 n;refine⟨λ{s ρ S Q} w=>?_,λ{ss ρ S Q} w=>?_⟩
  ·cases s with
   |asg t e=>simp only[evS,F9];simp only[wS] at w;exact(g.e _ _ _ w).mono λd j w=>My w
   |setI v o i=>simp only[evS,CG];simp only[wS] at w;exact(g.e _ _ _ w).mono λa j w=>(g.e _ _ _ w).mono λb l w=>g.e _ _ _ w
   |ex e=>simp only[evS,CF];simp only[wS] at w;exact g.e _ _ _ w
   |ret e=>simp only[evS,Ga];simp only[wS] at w;exact g.e _ _ _ w
   |ifs c a b=>
    simp only[evS,LS];simp only[wS] at w;refine(g.t _ _ _ w).mono λt j w=>?_;cases t with
    |true=>exact h.ss w
    |false=>exact h.ss w
   |for_ t it b=>simp only[evS,Gb];simp only[wS] at w;exact g.i _ _ _ w
   |cnt=>simp only[wS] at w;simp only[evS];exact⟨_,_,_,rfl,w⟩
   |never=>simp only[wS] at w
  ·cases ss with
   |nil=>simp only[wSs] at w;simp only[gN];exact⟨_,_,_,rfl,w⟩
   |cons s ss=>
    simp only[wSs] at w;simp only[gN,F8];refine(h.s w).mono λf k j w=>?_;cases f with
    |nx=>exact h.ss w
    |_=>exact w
def Mz{ss:List CS}{b:Rho}{S:Sto}{Q:Fl->Rho->Sto->Prop}(h:rW (wSs C ar n ss) b S Q):OkS (gN C ar n ss b S) Q:=(C2 n).ss h
def C3{s:CS}{ss:List CS}{b:Rho}{S:Sto}{Q:Fl->Rho->Sto->Prop}(h:wS C ar n s b S (wNx (wSs C ar n ss) Q)):rW (wSs C ar (n+1) (s::ss)) b S Q:=h
def GA{b:Rho}{S:Sto}{Q:Fl->Rho->Sto->Prop}(h:Q .nx b S):rW (wSs C ar (n+1) []) b S Q:=h
end
def MA{ae:List DefE}{k f:Nat}{d:DefE}{z:CE × Pos × Str}{j:List D}{ρ:Rho}{S:Sto}{Q:D->Sto->Prop}(hd:ae[f]?=aw d)(B:d.ks=aw z)(y:3<=k)(c:j.map aw++ZL (d.N.length - j.length) aD=ρ)
  (h:wE (evC ae k) (gO ae) 60 z.1 ρ S λv b=>∃n l u,v = .ref n/\vR d.x z.2.1 z.2.2 n b l u/\Q (.ref b.length) (b++[.lst (cQ l .non u)])):Ok (evC ae (k+1) f j S) Q:=by
 subst c;simp only[evC,hd,B,if_pos y];obtain⟨v,b,e,n,l,u,rfl,hs,q⟩:=(o0 60).e _ _ _ h;exact⟨_,_,F0 (by unfold FU;exact e) hs,q⟩
section
variable {C:Calls} {ar:Nat->Nat} {A B:Prop} {S S1:Sto} {Q:D->Sto->Prop} {Ql:List D->Sto->Prop} {Qn:Nxt->Sto->Prop} {Qb:Bool->Prop} {Qi:Int->Prop} {Qd:D->Prop} {Qr:Rho->Prop} {Qt:Bool->Sto->Prop} {Qs:Fl->Rho->Sto->Prop} {t:Bool} {d x y:D} {i j:Int} {n m f:Nat} {s:Str} {o:BOp} {c p:COp} {ds xs ys:List D} {l h:Option Int} {tg:Tg} {ts:List Tg} {ρ ρ2:Rho} {es:List CE} {a b e:CE} {oa ob cd:Option CE} {own:List Str} {it:CI} {rest:List Cl} {ty:Ty} {w wl:WP (List D)} {wv:WP D} {sa sb:List CS} {ws:WS} {od:Option D} {g:D->D->Sto->(D->Sto->Prop)->Prop}
def MB:wE C ar (n+1) (.non) ρ S Q=(Q .non S):=rfl
def QP:wE C ar (n+1) (.bl t) ρ S Q=(Q (.bl t) S):=rfl
def MC:wE C ar (n+1) (.int i) ρ S Q=(Q (.int i) S):=rfl
def MD:wE C ar (n+1) (.str s) ρ S Q=(Q (.str s) S):=rfl
def ME:wE C ar (n+1) (.con m i) ρ S Q=(Q (.int i) S):=rfl
def MF:wE C ar (n+1) (.var m) ρ S Q=(vV ρ m λd=>Q d S):=rfl
def MG:wE C ar (n+1) (.tup es) ρ S Q=(ft 60 es (wA C ar n es ρ S λds S1=>Q (.tup ds) S1)):=rfl
def MH:wE C ar (n+1) (.lst es) ρ S Q=(ft 60 es (wA C ar n es ρ S λds S1=>Q (.ref S1.length) (S1++[.lst ds]))):=rfl
def GC:wE C ar (n+1) (.dic0) ρ S Q=(Q (.ref (Zx S)) (S++[.dic [] []])):=rfl
def MI:wE C ar (n+1) (.bin o a b) ρ S Q=(wE C ar n a ρ S λx S1=>wE C ar n b ρ S1 λy k=>tG o x y k Q):=rfl
def MJ:wE C ar (n+1) (.neg a) ρ S Q=(wE C ar n a ρ S λd S1=>cT d λi=>Q (.int (-i)) S1):=rfl
def ML:wE C ar (n+1) (.cmp c a b) ρ S Q=(wE C ar n a ρ S λx S1=>wE C ar n b ρ S1 λy k=>wCm c x y k Q):=rfl
def MM:wE C ar (n+1) (.chn c p a b e) ρ S Q=(wE C ar n a ρ S λx S1=>wE C ar n b ρ S1 λy u=>wCm c x y u λr k=>wBl r λt=>wIf t (wE C ar n e ρ k λz q=>wCm p y z q Q) (Q (.bl aS) k)):=rfl
def MN:wE C ar (n+1) (.and a b) ρ S Q=(wE C ar n a ρ S λd S1=>wBl d λt=>wIf t (wE C ar n b ρ S1 Q) (Q (.bl aS) S1)):=rfl
def QQ:wE C ar (n+1) (.or a b) ρ S Q=(wE C ar n a ρ S λd S1=>wBl d λt=>wIf t (Q (.bl aN) S1) (wE C ar n b ρ S1 Q)):=rfl
def MO:wE C ar (n+1) (.not a) ρ S Q=(wE C ar n a ρ S λd S1=>wBl d λt=>Q (.bl (!t)) S1):=rfl
def MP:wE C ar (n+1) (.ite e a b) ρ S Q=(wT C ar n e ρ S λt S1=>wIf t (wE C ar n a ρ S1 Q) (wE C ar n b ρ S1 Q)):=rfl
def QR:wE C ar (n+1) (.ix a b) ρ S Q=(aW (ai a) (wTm C ar n a) (wE C ar n a) ρ S (λds S1=>wE C ar n b ρ S1 λi q=>cT i λk=>∃d,atI ds k=aw d/\Q d q) (λd S1=>wE C ar n b ρ S1 λi q=>Ok (ixS d i q) Q)):=rfl
def GD:wE C ar (n+1) (.sl a aD aD) ρ S Q=(wE C ar n a ρ S λd S1=>vW aD aD d S1 Q):=rfl
def GF:wE C ar (n+1) (.sl a aD (aw b)) ρ S Q=(wE C ar n a ρ S λd S1=>wE C ar n b ρ S1 λy k=>cT y λj=>vW aD (aw j) d k Q):=rfl
def GG:wE C ar (n+1) (.sl a (aw b) aD) ρ S Q=(wE C ar n a ρ S λd S1=>wE C ar n b ρ S1 λy k=>cT y λj=>vW (aw j) aD d k Q):=rfl
def GH:wE C ar (n+1) (.sl a (aw b) (aw e)) ρ S Q=(wE C ar n a ρ S λd S1=>wE C ar n b ρ S1 λy q=>cT y λj=>wE C ar n e ρ q λz u=>cT z λk=>vW (aw j) (aw k) d u Q):=rfl
def GI:wE C ar (n+1) (.call f es) ρ S Q=(wA C ar n es ρ S λds S1=>ds.length=ar f/\Ok (C f ds S1) Q):=rfl
def GJ:wE C ar (n+1) (.inst ty a) ρ S Q=(wE C ar n a ρ S λd S1=>Ok (lZ ty d S1) Q):=rfl
def MQ:wE C ar (n+1) (.len a) ρ S Q=(aW (ai a) (wTm C ar n a) (wE C ar n a) ρ S (λds S1=>Ok (dB aS ds S1) Q) (λd S1=>Ok (ao dB d S1) Q)):=rfl
def MR:wE C ar (n+1) (.all a) ρ S Q=(aW (ai a) (wTm C ar n a) (wE C ar n a) ρ S (λds S1=>Ok (kB aS ds S1) Q) (λd S1=>Ok (ao kB d S1) Q)):=rfl
def MU:wE C ar (n+1) (.any a) ρ S Q=(aW (ai a) (wTm C ar n a) (wE C ar n a) ρ S (λds S1=>Ok (nA aS ds S1) Q) (λd S1=>Ok (ao nA d S1) Q)):=rfl
def C4:wE C ar (n+1) (.tupOf a) ρ S Q=(aW (ai a) (wTm C ar n a) (wE C ar n a) ρ S (λds S1=>Ok (cX aS ds S1) Q) (λd S1=>Ok (ao cX d S1) Q)):=rfl
def MV:wE C ar (n+1) (.mxL a) ρ S Q=(aW (ai a) (wTm C ar n a) (wE C ar n a) ρ S (λds S1=>Ok (nB aS ds S1) Q) (λd S1=>Ok (ao nB d S1) Q)):=rfl
def zF:wE C ar (n+1) (.listOf a) ρ S Q=(aW (ai a) (wTm C ar n a) (wE C ar n a) ρ S (λds S1=>Q (.ref S1.length) (S1++[.lst ds])) (λd S1=>Ok ((av d S1).map λr=>(r.2,S1)) λds S1=>Q (.ref S1.length) (S1++[.lst ds]))):=rfl
def C5:wE C ar (n+1) (.listR a) ρ S Q=(wE C ar n a ρ S λd S1=>∃i:Nat,d = .int i/\i<=1000/\Q (.ref S1.length) (S1++[.lst ((Ze i).map λj=>.int (Int.ofNat j))])):=rfl
def MW:wE C ar (n+1) (.srt a) ρ S Q=(aW (ai a) (wTm C ar n a) (wE C ar n a) ρ S (λds S1=>∃es,cP aS ds=aw es/\Q (.ref S1.length) (S1++[.lst es])) (λd S1=>∃r es,av d S1=aw r/\cP r.1 r.2=aw es/\Q (.ref S1.length) (S1++[.lst es]))):=rfl
def MX:wE C ar (n+1) (.rev a) ρ S Q=(wE C ar n a ρ S λd S1=>Ok (vm d S1) Q):=rfl
def MY:wE C ar (n+1) (.mnN a) ρ S Q=(aW (ai a) (wTm C ar n a) (wE C ar n a) ρ S (λds S1=>Ok (nG aS ds S1) Q) (λd S1=>Ok (ao nG d S1) Q)):=rfl
def C6:wE C ar (n+1) (.intOf a) ρ S Q=(wE C ar n a ρ S λd S1=>Ok (Bv d S1) Q):=rfl
def QS:wE C ar (n+1) (.mx a b) ρ S Q=(wA C ar n [a,b] ρ S λds S1=>w2 CW ds S1 Q):=rfl
def QT:wE C ar (n+1) (.mn a b) ρ S Q=(wA C ar n [a,b] ρ S λds S1=>w2 CY ds S1 Q):=rfl
def GK:wE C ar (n+1) (.comp own a (⟨tg,it,cd⟩::rest)) ρ S Q=(wI C ar n it ρ S λnx S1=>tI own [] λr=>tJ ρ r λk=>wFt tg k (Ok (bu nx tg (cnd (evT C ar n) cd (gM C ar n a rest)) k LF 0 S1) λes q=>es.length<=100000/\Q (.ref q.length) (q++[.lst es]))):=rfl
def MZ:wE C ar (n+1) (.app a b) ρ S Q=(wE C ar n a ρ S λd S1=>fP d S1=aN/\wA C ar n [b] ρ S1 λq k=>Ok (sG d q k) Q):=rfl
def C7:wE C ar (n+1) (.popAt a b) ρ S Q=(wE C ar n a ρ S λd S1=>fP d S1=aN/\wA C ar n [b] ρ S1 λq k=>Ok (ie d q k) Q):=rfl
def M0:wE C ar (n+1) (.idx a b) ρ S Q=(wE C ar n a ρ S λd S1=>isTup d=aN/\wA C ar n [b] ρ S1 λq k=>Ok (vH d q k) Q):=rfl
def GL:wE C ar (n+1) (.tupR a) ρ S Q=(wE C ar n a ρ S λd S1=>cT d λi=>(0<=i/\i<=1000)/\Q (.tup ((Ze i.toNat).map λj=>.int (Int.ofNat j))) S1):=rfl
def M1:wE C ar (n+1) (.cnt a b) ρ S Q=(wE C ar n a ρ S λd S1=>isTup d=aN/\wA C ar n [b] ρ S1 λq k=>Ok (vD d q k) Q):=rfl
def Sv:wA C ar (n+1) [] ρ S Ql=Ql [] S:=rfl
def Sw:wA C ar (n+1) (a::es) ρ S Ql=(wE C ar n a ρ S λd S1=>wA C ar n es ρ S1 λds k=>Ql (d::ds) k):=rfl
def M2:wTm C ar (n+1) (.lst es) ρ S Ql=ft 60 es (wA C ar n es ρ S Ql):=rfl
def zG:wTm C ar (n+1) (.listOf a) ρ S Ql=(aW (ai a) (wTm C ar n a) (wE C ar n a) ρ S (λds S1=>Ql ds S1) (λd S1=>Ok ((av d S1).map λr=>(r.2,S1)) Ql)):=rfl
def C8:wTm C ar (n+1) (.listR a) ρ S Ql=(wE C ar n a ρ S λd S1=>∃i:Nat,d = .int i/\i<=1000/\Ql ((Ze i).map λj=>.int (Int.ofNat j)) S1):=rfl
def M3:wTm C ar (n+1) (.srt a) ρ S Ql=(aW (ai a) (wTm C ar n a) (wE C ar n a) ρ S (λds S1=>∃es,cP aS ds=aw es/\Ql es S1) (λd S1=>∃r es,av d S1=aw r/\cP r.1 r.2=aw es/\Ql es S1)):=rfl
def GM:wTm C ar (n+1) (.comp own a (⟨tg,it,cd⟩::rest)) ρ S Ql=(wI C ar n it ρ S λnx S1=>tI own [] λr=>tJ ρ r λk=>wFt tg k (Ok (bu nx tg (cnd (evT C ar n) cd (gM C ar n a rest)) k LF 0 S1) λes q=>es.length<=100000/\Ql es q)):=rfl
def M4:wI C ar (n+1) (.val a) ρ S Qn=(aW (ai a) (wTm C ar n a) (wE C ar n a) ρ S (λds S1=>Qn (nxL ds) S1) (λd S1=>mW d S1 Qn)):=rfl
def QU:wI C ar (n+1) (.en a) ρ S Qn=(wE C ar n a ρ S λd S1=>Gu d S1 Qn):=rfl
def QV:wI C ar (n+1) (.r1 a) ρ S Qn=(wE C ar n a ρ S λd S1=>cT d λj=>lim j=aN/\Qn (nxR 0 j.toNat) S1):=rfl
def QW:wI C ar (n+1) (.dn a) ρ S Qn=(wE C ar n a ρ S λd S1=>cT d λj=>lim j=aN/\Qn (nxD j (j+1).toNat) S1):=rfl
def QX:wI C ar (n+1) (.r2 a b) ρ S Qn=(wE C ar n a ρ S λd S1=>wE C ar n b ρ S1 λe k=>cT d λi=>cT e λj=>(lim i=aN/\lim j=aN)/\Qn (nxR i (j - i).toNat) k):=rfl
def M5:wT C ar (n+1) (.cmp c a b) ρ S Qt=(wE C ar n a ρ S λx S1=>wE C ar n b ρ S1 λy k=>wCm c x y k λd q=>wBl d λt=>Qt t q):=rfl
def M6:wT C ar (n+1) (.chn c p a b e) ρ S Qt=(wE C ar n a ρ S λx S1=>wE C ar n b ρ S1 λy u=>wCm c x y u λr k=>wBl r λt=>wIf t (wE C ar n e ρ k λz q=>wCm p y z q λd v=>wBl d λt=>Qt t v) (wBl (.bl aS) λt=>Qt t k)):=rfl
def M7:wT C ar (n+1) (.and a b) ρ S Qt=(wT C ar n a ρ S λt S1=>wIf t (wT C ar n b ρ S1 Qt) (Qt aS S1)):=rfl
def QY:wT C ar (n+1) (.or a b) ρ S Qt=(wT C ar n a ρ S λt S1=>wIf t (Qt aN S1) (wT C ar n b ρ S1 Qt)):=rfl
def M8:wT C ar (n+1) (.not a) ρ S Qt=(wT C ar n a ρ S λt S1=>Qt (!t) S1):=rfl
def QZ:wT C ar (n+1) (.bl t) ρ S Qt=(wE C ar n (.bl t) ρ S λd S1=>cU d S1 Qt):=rfl
def M9:wT C ar (n+1) (.var m) ρ S Qt=(wE C ar n (.var m) ρ S λd S1=>cU d S1 Qt):=rfl
def GN:wT C ar (n+1) (.call f es) ρ S Qt=(wE C ar n (.call f es) ρ S λd S1=>cU d S1 Qt):=rfl
def GO:wT C ar (n+1) (.inst ty a) ρ S Qt=(wE C ar n (.inst ty a) ρ S λd S1=>cU d S1 Qt):=rfl
def Na:wT C ar (n+1) (.all a) ρ S Qt=(wE C ar n (.all a) ρ S λd S1=>cU d S1 Qt):=rfl
def Nb:wT C ar (n+1) (.any a) ρ S Qt=(wE C ar n (.any a) ρ S λd S1=>cU d S1 Qt):=rfl
def Nc:wT C ar (n+1) (.len a) ρ S Qt=(wE C ar n (.len a) ρ S λd S1=>cU d S1 Qt):=rfl
def Q0:wT C ar (n+1) (.ix a b) ρ S Qt=(wE C ar n (.ix a b) ρ S λd S1=>cU d S1 Qt):=rfl
def Nd:wT C ar (n+1) (.lst es) ρ S Qt=(wE C ar n (.lst es) ρ S λd S1=>cU d S1 Qt):=rfl
def Ng:wT C ar (n+1) (.tup es) ρ S Qt=(wE C ar n (.tup es) ρ S λd S1=>cU d S1 Qt):=rfl
def Sy:wCl C ar n a [] ρ S Ql=(wE C ar n a ρ S λd S1=>Ql [d] S1):=rfl
def Sz:wCl C ar n a (⟨tg,it,cd⟩::rest) ρ S Ql=(wFt tg ρ (wI C ar n it ρ S λnx S1=>Ok (bu nx tg (cnd (evT C ar n) cd (gM C ar n a rest)) ρ LF 0 S1) Ql)):=rfl
def SA:Gx (wT C ar n) aD w ρ S Ql=w ρ S Ql:=rfl
def SB:Gx (wT C ar n) (aw a) w ρ S Ql=(wT C ar n a ρ S λt S1=>wIf t (w ρ S1 Ql) (Ql [] S1)):=rfl
def Nh:wS C ar (n+1) (.asg tg a) ρ S Qs=(wE C ar n a ρ S λd S1=>wBd tg d ρ λk=>Qs .nx k S1):=rfl
def GP:wS C ar (n+1) (.setI a b e) ρ S Qs=(wE C ar n a ρ S λx S1=>wE C ar n b ρ S1 λy q=>wE C ar n e ρ q λz u=>∃k,jz y z x u=aw k/\Qs .nx ρ k):=rfl
def Q1:wS C ar (n+1) (.ex a) ρ S Qs=(wE C ar n a ρ S λ_ S1=>Qs .nx ρ S1):=rfl
def Ni:wS C ar (n+1) (.ret a) ρ S Qs=(wE C ar n a ρ S λd S1=>Qs (.rt d) ρ S1):=rfl
def Nj:wS C ar (n+1) (.ifs a sa sb) ρ S Qs=(wT C ar n a ρ S λt S1=>wIf t (rW (wSs C ar n sa) ρ S1 Qs) (rW (wSs C ar n sb) ρ S1 Qs)):=rfl
def Nk:wS C ar (n+1) (.for_ tg it sa) ρ S Qs=(wI C ar n it ρ S λnx S1=>OkS (fC nx tg (gN C ar n sa) LF 0 ρ S1) Qs):=rfl
def Nm:wS C ar (n+1) .cnt ρ S Qs=Qs .ct ρ S:=rfl
def Q2:wNx ws Qs .nx ρ S=rW ws ρ S Qs:=rfl
def Q4:wNx ws Qs (.rt d) ρ S=Qs (.rt d) ρ S:=rfl
def Q5:wNx ws Qs .bk ρ S=Qs .bk ρ S:=rfl
def Q6:wNx ws Qs .ct ρ S=Qs .ct ρ S:=rfl
def Nn:wIf (aN && t) A B=wIf t A B:=rfl
def Np:wIf (aS && t) A B=B:=rfl
def Nq:wIf (aN || t) A B=A:=rfl
def GQ:wIf (aS || t) A B=wIf t A B:=rfl
def GR:wIf (!(aN && t)) A B=wIf (!t) A B:=rfl
def GS:wIf (!(aS && t)) A B=A:=rfl
def GU:wIf (!(aN || t)) A B=B:=rfl
def GV:wIf (!(aS || t)) A B=wIf (!t) A B:=rfl
def Q7:wIf aN A B=A:=rfl
def Q8:wIf aS A B=B:=rfl
def Nt:wIf (!aN) A B=B:=rfl
def Nu:wIf (!aS) A B=A:=rfl
def Q9:wBl (.bl t) Qb=Qb t:=rfl
def Nv:cT (.int i) Qi=Qi i:=rfl
def Nw:vV (aw d::ρ) 0 Qd=Qd d:=rfl
def Nx:vV (od::ρ) (n+1) Qd=vV ρ n Qd:=rfl
def Ra:wFr (aD::ρ) 0 A=A:=rfl
def Rb:wFr (od::ρ) (n+1) A=wFr ρ n A:=rfl
def Ny:tH [] ρ A=A:=rfl
def Nz:tH (.name m::ts) ρ A=wFr ρ m (tH ts ρ A):=rfl
def Rc:wFt (.name m) ρ A=wFr ρ m A:=rfl
def Re:wFt (.tup ts) ρ A=tH ts ρ A:=rfl
def NA:tI [] ρ Qr=Qr ρ:=rfl
def NB:tI (s::own) ρ Qr=tI own (aD::ρ) Qr:=rfl
def NC:tJ [] ρ Qr=Qr ρ:=rfl
def ND:tJ (od::ρ) ρ2 Qr=tJ ρ ρ2 λr=>Qr (od::r):=rfl
def Rf:ft (n+1) [] A=A:=rfl
def Rg:ft (n+1) (a::es) A=ft n es A:=rfl
def Rh:wNm 0 d (od::ρ) Qr=Qr (aw d::ρ):=rfl
def Ri:wNm (n+1) d (od::ρ) Qr=wNm n d ρ λr=>Qr (od::r):=rfl
def Rj:wBs [] [] ρ Qr=Qr ρ:=rfl
def Rk:wBs (.name m::ts) (d::ds) ρ Qr=wNm m d ρ λr=>wBs ts ds r Qr:=rfl
def Rm:wBd (.name m) d ρ Qr=wNm m d ρ Qr:=rfl
def Rn:wBd (.tup ts) d ρ Qr=wTp ts d ρ Qr:=rfl
def Ro:wTp ts (.tup ds) ρ Qr=wBs ts ds ρ Qr:=rfl
def GW:wII .add i j S Q=Q (.int (i+j)) S:=rfl
def GY:wII .sub i j S Q=Q (.int (i - j)) S:=rfl
def GZ:wII .mul i j S Q=(iQ i j=aN/\Q (.int (i * j)) S):=rfl
def G0:wII .mod i j S Q=(0 < j/\Q (.int (i % j)) S):=rfl
def C9:wII .fdiv i j S Q=((0 < j/\j < 1298074214633706907132624082305024)/\Q (.int (i / j)) S):=rfl
def G1:wII .pow i j S Q=((0<=j/\j<=1000000/\i.natAbs < 2 ^ 64)/\Q (.int (i ^ j.toNat)) S):=rfl
def G2:wTT .add xs ys S Q=(xs.length+ys.length<=1000/\Q (.tup (xs++ys)) S):=rfl
def G3:CP o i (.int j) S Q=wII o i j S Q:=rfl
def G4:xR o xs (.tup ys) S Q=wTT o xs ys S Q:=rfl
def G5:xR o xs (.int j) S Q=Ok (bT o (.tup xs) (.int j) S) Q:=rfl
def NF:tG o (.int i) y S Q=CP o i y S Q:=rfl
def NG:tG o (.tup xs) y S Q=xR o xs y S Q:=rfl
def NH:tG o (.ref n) y S Q=Ok (bT o (.ref n) y S) Q:=rfl
def NI:tG o (.str s) y S Q=Ok (bT o (.str s) y S) Q:=rfl
def NJ:wCI .eq i j S Q=Q (.bl (decide (i=j))) S:=rfl
def NL:wCm .eq x y S Q=wCx .eq x y S Q:=rfl
def NM:wCI .ne i j S Q=Q (.bl (!decide (i=j))) S:=rfl
def NN:wCm .ne x y S Q=wCx .ne x y S Q:=rfl
def NP:wCI .lt i j S Q=Q (.bl (decide (i < j))) S:=rfl
def NQ:wCm .lt x y S Q=wCx .lt x y S Q:=rfl
def NR:wCI .le i j S Q=Q (.bl (decide (i<=j))) S:=rfl
def NS:wCm .le x y S Q=wCx .le x y S Q:=rfl
def NT:wCI .gt i j S Q=Q (.bl (decide (j < i))) S:=rfl
def NU:wCm .gt x y S Q=wCx .gt x y S Q:=rfl
def NV:wCI .ge i j S Q=Q (.bl (decide (j<=i))) S:=rfl
def NW:wCm .ge x y S Q=wCx .ge x y S Q:=rfl
def NX:wCm .is x y S Q=Ok (am .is x y S) Q:=rfl
def zH:wCm .isnot x y S Q=Ok (am .isnot x y S) Q:=rfl
def Da:wCm .isin x y S Q=Ok (am .isin x y S) Q:=rfl
def zI:wCm .notin x y S Q=Ok (am .notin x y S) Q:=rfl
def Rp:wCx c (.int i) y S Q=Mi c i y S Q:=rfl
def Rq:wCx c (.tup xs) y S Q=zE c xs y S Q:=rfl
def Rr:wCx c .non y S Q=Ok (am c .non y S) Q:=rfl
def Rs:wCx c (.bl t) y S Q=Ok (am c (.bl t) y S) Q:=rfl
def Rt:wCx c (.str s) y S Q=Ok (am c (.str s) y S) Q:=rfl
def Ru:wCx c (.ref n) y S Q=Ok (am c (.ref n) y S) Q:=rfl
def NY:Mi c i (.int j) S Q=wCI c i j S Q:=rfl
def NZ:zE .eq xs (.tup []) S Q=Q (.bl xs.isEmpty) S:=rfl
def N0:zE .ne xs (.tup []) S Q=Q (.bl (!xs.isEmpty)) S:=rfl
def G6:zE .eq xs (.tup (y::ys)) S Q=Ok (am .eq (.tup xs) (.tup (y::ys)) S) Q:=rfl
def G7:zE .ne xs (.tup (y::ys)) S Q=Ok (am .ne (.tup xs) (.tup (y::ys)) S) Q:=rfl
def N2:vW l h (.tup ds) S Q=Q (.tup (lH ds l h)) S:=rfl
def N4:vW l h (.ref n) S Q=Ok (slS l h (.ref n) S) Q:=rfl
def N5:mW (.tup ds) S Qn=Qn (nxL ds) S:=rfl
def N6:mW (.ref n) S Qn=((aU S n).isSome=aN/\Qn (nxS n) S):=rfl
def N7:Gu (.tup ds) S Qn=Qn (Fi ds) S:=rfl
def G8:cU (.bl t) S Qt=Qt t S:=rfl
def G9:cU (.tup ds) S Qt=Qt (!ds.isEmpty) S:=rfl
def Ha:cU (.int i) S Qt=Qt (i != 0) S:=rfl
def Hb:cU (.ref n) S Qt=Ok (lW (.ref n) S) Qt:=rfl
def SC:w2 g [x,y] S Q=g x y S Q:=rfl
def N8:CW (.int i) (.int j) S Q=Q (.int (if j > i then j else i)) S:=rfl
def N9:CY (.int i) (.int j) S Q=Q (.int (if j < i then j else i)) S:=rfl
def Hc:aW (ai (.lst es)) wl wv ρ S Ql Q=wl ρ S Ql:=rfl
def v5:aW (ai (.listOf a)) wl wv ρ S Ql Q=wl ρ S Ql:=rfl
def zJ:aW (ai (.listR a)) wl wv ρ S Ql Q=wl ρ S Ql:=rfl
def Hd:aW (ai (.srt a)) wl wv ρ S Ql Q=wl ρ S Ql:=rfl
def Db:aW (ai (.comp own a rest)) wl wv ρ S Ql Q=wl ρ S Ql:=rfl
def He:aW (ai (.non)) wl wv ρ S Ql Q=wv ρ S Q:=rfl
def Oa:aW (ai (.bl t)) wl wv ρ S Ql Q=wv ρ S Q:=rfl
def Hf:aW (ai (.int i)) wl wv ρ S Ql Q=wv ρ S Q:=rfl
def Hg:aW (ai (.str s)) wl wv ρ S Ql Q=wv ρ S Q:=rfl
def Hh:aW (ai (.var m)) wl wv ρ S Ql Q=wv ρ S Q:=rfl
def Hi:aW (ai (.con m i)) wl wv ρ S Ql Q=wv ρ S Q:=rfl
def Hj:aW (ai (.tup es)) wl wv ρ S Ql Q=wv ρ S Q:=rfl
def Dc:aW (ai (.dic0)) wl wv ρ S Ql Q=wv ρ S Q:=rfl
def Hk:aW (ai (.bin o a b)) wl wv ρ S Ql Q=wv ρ S Q:=rfl
def Hl:aW (ai (.neg a)) wl wv ρ S Ql Q=wv ρ S Q:=rfl
def Hm:aW (ai (.cmp c a b)) wl wv ρ S Ql Q=wv ρ S Q:=rfl
def Ho:aW (ai (.chn c p a b e)) wl wv ρ S Ql Q=wv ρ S Q:=rfl
def Hq:aW (ai (.and a b)) wl wv ρ S Ql Q=wv ρ S Q:=rfl
def Oc:aW (ai (.or a b)) wl wv ρ S Ql Q=wv ρ S Q:=rfl
def Hr:aW (ai (.not a)) wl wv ρ S Ql Q=wv ρ S Q:=rfl
def Hs:aW (ai (.ite e a b)) wl wv ρ S Ql Q=wv ρ S Q:=rfl
def Od:aW (ai (.ix a b)) wl wv ρ S Ql Q=wv ρ S Q:=rfl
def Oe:aW (ai (.sl a oa ob)) wl wv ρ S Ql Q=wv ρ S Q:=rfl
def Dd:aW (ai (.call f es)) wl wv ρ S Ql Q=wv ρ S Q:=rfl
def De:aW (ai (.inst ty a)) wl wv ρ S Ql Q=wv ρ S Q:=rfl
def Ht:aW (ai (.len a)) wl wv ρ S Ql Q=wv ρ S Q:=rfl
def Hu:aW (ai (.all a)) wl wv ρ S Ql Q=wv ρ S Q:=rfl
def Hv:aW (ai (.any a)) wl wv ρ S Ql Q=wv ρ S Q:=rfl
def zK:aW (ai (.tupOf a)) wl wv ρ S Ql Q=wv ρ S Q:=rfl
def Hw:aW (ai (.mxL a)) wl wv ρ S Ql Q=wv ρ S Q:=rfl
def Hx:aW (ai (.rev a)) wl wv ρ S Ql Q=wv ρ S Q:=rfl
def Hy:aW (ai (.mnN a)) wl wv ρ S Ql Q=wv ρ S Q:=rfl
def zL:aW (ai (.intOf a)) wl wv ρ S Ql Q=wv ρ S Q:=rfl
def Og:aW (ai (.mx a b)) wl wv ρ S Ql Q=wv ρ S Q:=rfl
def Oh:aW (ai (.mn a b)) wl wv ρ S Ql Q=wv ρ S Q:=rfl
def Hz:aW (ai (.app a b)) wl wv ρ S Ql Q=wv ρ S Q:=rfl
def zM:aW (ai (.popAt a b)) wl wv ρ S Ql Q=wv ρ S Q:=rfl
def HA:aW (ai (.idx a b)) wl wv ρ S Ql Q=wv ρ S Q:=rfl
def Df:aW (ai (.tupR a)) wl wv ρ S Ql Q=wv ρ S Q:=rfl
def HB:aW (ai (.cnt a b)) wl wv ρ S Ql Q=wv ρ S Q:=rfl
def aa{u:Type}{z:Option (u × Sto)}{r:u}{k:Sto}{K:u->Sto->Prop}(e:z=aw (r,k))(q:K r k):Ok z K:=⟨r,k,e,q⟩
def eP(q:t=aN->A)(k:t=aS->B):wIf t A B:=by
 cases t with
 |true=>exact q rfl
 |false=>exact k rfl
end
end Ev
local macro_rules|`(tactic|k_go)=>do
 let f s:Lean.MacroM (Lean.TSyntax ``Lean.Parser.Tactic.simpLemma):=`(Lean.Parser.Tactic.simpLemma|↓$(Lean.mkIdent (`Ev++s.toName)):ident)
 let a ← ("MB QP MC MD ME MF MG MH GC MI MJ ML MM MN QQ MO MP QR GD GF GG GH GI GJ MQ MR MU C4 MV zF C5 MW C6 MX MY QS QT GK MZ C7 M1 M0 GL Sv Sw M2 zG C8 M3 GM M4 QU QV QX QW M5 M6 M7 QY M8 QZ M9 GN GO Na Nb Nc Q0 Nd Ng Sy Sz SA SB Nh GP Q1 Ni Nj Nk Nm Q2 Q4 Q5 Q6 Nn Np Nq GQ GR GS GU GV Q7 Q8 Nt Nu Q9 Nv Nw Nx Ra Rb Ny Nz Rc Re NA NB NC ND Rf Rg Rh Ri Rj Rk Rm Rn Ro GW GY GZ G0 C9 G1 G2 G3 G4 G5 NF NG NH NI NJ NL NM NN NP NQ NR NS NT NU NV NW NX zH Da zI Rp Rq Rr Rs Rt Ru NY NZ N0 G6 G7 N2 N4 N5 N6 N7 G8 G9 Ha Hb SC N8 N9 Hc v5 zJ Hd Db He Oa Hf Hg Hh Hi Hj Dc Hk Hl Hm Ho Hq Oc Hr Hs Od Oe Dd De Ht Hu Hv zK Hw zL Hx Hy Og Oh Hz zM HB HA Df LU LV".splitOn).toArray.mapM f
 `(tactic|dsimp only[$a,*])
local macro_rules |`(tactic|k_is)=>`(tactic|((with_reducible first |refine Ev.Mz ?_ |refine Ev.Mx ?_ |refine Ev.wcl_ok ?_ |skip);(try dsimp only[List.set_cons_zero,List.set_cons_succ]);(try k_go);(repeat ((with_reducible first |refine Ev.C3 ?_ |refine Ev.GA ?_);(try k_go)))))
namespace Lw
open PySem Ev
variable {p:Nat} {S:Sto} {k:Nat} {Q:D->Sto->Prop}
def Dg(h:TD p S t d)(q:Q (.bl (Dw.isW t)) S):Ok (evC ae (k+1) 0 [d] S) Q:=by
 refine ay (d:=ij) (ρ:=[aw d]) rfl rfl ?_;dsimp only[ij,mF];k_is;refine aa (qG h) ?_;k_is;cases t <;> first |exact q |(k_is;rw[qG h,aK];exact q)
def o4{a b:Int}(h:TD p S t d)(q:Q (.bl (Dw.ic t a b)) S):Ok (evC ae (k+2) 1 [d,.int a,.int b] S) Q:=by
 refine ay (d:=fU) (ρ:=[aw d,aw (.int a),aw (.int b)]) rfl rfl ?_;dsimp only[fU,jZ];k_is;refine⟨rfl,Dg h ?_⟩;k_is;cases t with
 |int i=>
  obtain rfl:=h.int;dsimp only[Dw.isW];k_is;dsimp only[Dw.ic] at q;cases c:decide (a<=i) with
  |true=>rw[c] at q;exact q
  |false=>rw[c] at q;exact q
 |_=>exact q
def zN(h:TD p S t d)(q:Q (.bl (Dw.ic t 0 9999)) S):Ok (evC ae (k+3) 2 [d] S) Q:=by
 refine ay (d:=fV) (ρ:=[aw d]) rfl rfl ?_;dsimp only[fV,j6];k_is;exact⟨rfl,o4 h q⟩
def Dh{a b:Int}(h:TD p S t d)(q:Q (.bl (Dw.isT t a b)) S):Ok (evC ae (k+1) 3 [d,.int a,.int b] S) Q:=by
 refine ay (d:=ik) (ρ:=[aw d,aw (.int a),aw (.int b)]) rfl rfl ?_;dsimp only[ik,mG];k_is;refine aa (qG h) ?_;k_is;cases t with
 |tup T=>
  obtain⟨f,rfl,hs⟩:=h.tup;rw[show fO Ty.tuple (tyT (Dw.D.tup T))=aN from rfl];k_is;refine aa (L7 hs) ?_;k_is;dsimp only[Dw.isT] at q;cases c:decide (a<=(T.length:Int)) with
  |true=>rw[c] at q;exact q
  |false=>rw[c] at q;exact q
 |_=>exact q
def aA{f:Int}(h:Pot p S)(b:0 < f)(j:f < 1298074214633706907132624082305024)(q:∀ (r:Int) c,0<=r->r < f->Dr p S c->Q (.int r) c):Ok (evC ae (k+1) 50 [.ref p,.int f] S) Q:=by
 obtain⟨n,e⟩:=h;have lt:p < S.length:=(Zb.mp e).1;refine ay (d:=ir) (ρ:=[aw (.ref p),aw (.int f),aD]) rfl rfl ?_;dsimp only[ir,mM];k_is;have ix:ixS (.ref p) (.int 0) S=aw (.int n,S):=by simp only[ixS,av,aU,e];rfl
 refine aa ix ?_;k_is;refine⟨b,?_⟩;k_is;refine aa ix ?_;k_is;refine⟨⟨b,j⟩,?_⟩;k_is;refine⟨S.set p (.lst [.int (n / f)]),by simp only[jz,e];rfl,?_⟩;exact q _ _ (Ws _ (by omega)) (X6 _ b) ⟨Mb,_,gh lt⟩
def HC{c:Nat}{ns:List Int}(h:S[0]?=aw (.frz (ns.map D.int)))(q:∀i:Int,Q (.int i) S):Ok (evC ae (k+1) 48 [.ref 0,.int c] S) Q:=by
 refine ay (d:=dY) (ρ:=[aw (.ref 0),aw (.int c)]) rfl rfl ?_;dsimp only[dY,hX];k_is;have ln:ao dB (.ref 0) S=aw (.int ns.length,S):=by simp only[ao,av,aU,h,ZN,dB,Za]
 refine aa ln ?_;k_is;refine eP (λf=>?_) λf=>?_
 ·k_is;have u:=of_decide_eq_true f;obtain⟨d,l,b⟩:=Md (ds:=ns.map D.int) (i:=c) (by omega) (by rw[Za];omega);have ix:ixS (.ref 0) (.int c) S=aw (d,S):=by simp only[ixS,av,aU,h,ZN,l]
  refine aa ix ?_;rw[Zl] at b;cases j:ns[(c:Int).toNat]? with
  |none=>rw[j] at b;cases b
  |some i=>rw[j] at b;cases b;exact q i
 ·k_is;exact q 0
def Oj{c:Int}(q:∀n:Int,Q (.ref S.length) (S++[.lst [.int n]])):Ok (evC ae (k+1) 49 [.int c] S) Q:=by
 refine ay (d:=jK) (ρ:=[aw (.int c),aD,aD,aD]) rfl rfl ?_;dsimp only[jK,oX];k_is;refine⟨⟨by decide,by decide,by decide⟩,?_⟩;k_is;refine eP (λ_=>?_) λ_=>?_
 ·k_is;refine⟨⟨by decide,by decide,by decide⟩,?_⟩;k_is;exact q _
 ·k_is;refine⟨by decide,?_⟩;refine ko (by decide) (λi b j=>j=S/\∃n:Int,∃u v,b=[aw (.int c),aw (.int n),u,v]) (λi b j hi ⟨l,n,u,v,f⟩=>?_) (λb j ⟨l,n,u,v,f⟩=>?_) ⟨rfl,0,aD,aD,rfl⟩
  ·subst l f;refine⟨_,rfl,?_⟩;k_is;refine⟨by decide,?_⟩;k_is;refine⟨qJ (by decide) (by decide),?_⟩;k_is;refine⟨xP (by decide) (by decide),by decide,?_⟩;k_is;have z:=Ws ((c % 2147483629+7919 * (0+(i:Int))+1) * 48271) (show(2147483647:Int) ≠ 0 by decide);have y:=X6 ((c % 2147483629+7919 * (0+(i:Int))+1) * 48271) (show(0:Int) < 2147483647 by decide);refine⟨qJ (by omega) (by omega),?_⟩;k_is;refine⟨qJ (by decide) (by decide),?_⟩;k_is;refine⟨by decide,?_⟩;k_is;refine⟨xP (by decide) (by decide),?_⟩;k_is;exact⟨rfl,_,_,_,rfl⟩
  ·subst l f;k_is;exact q n
end Lw
namespace Sn
open Ev
structure Sky where
 r:Int
 s:Int
 M:List (List Int)
 H:List (Int × Int)
 ah:Option (Int × Int)
 G:List (List Int)
 F:List Int
abbrev gi(G:List (List Int))(i:Int)(k:Nat):Int:=((G[i.toNat]?).getD []).getD k 0
abbrev fns:List (Int × Int)->Int->Int
 |[],m=>m
 |p::l,m=>if p.1<=m/\m < p.2 then p.2 else fns l m
abbrev opm:List (Int × Int)->Int->Int
 |[],m=>m
 |p::l,m=>opm l (if p.1<=m/\m < p.2 then p.2 else m)
abbrev Ris:Int->List (Int × Int)->Prop
 |_,[]=>True
 |lo,p::l=>lo < p.1/\p.1 < p.2/\Ris p.2 l
def jb:∀ {l:List (Int × Int)} {lo m:Int},Ris lo l->m<=lo->opm l m=m
 |[],_,_,_,_=>rfl
 |p::l,lo,m,h,hm=>by
  rw[Ris] at h;rw[opm,if_neg (by lia)];exact jb h.2.2 (by lia)
def xV:∀ {l:List (Int × Int)} {lo m:Int},Ris lo l->opm l m=fns l m
 |[],_,_,_=>rfl
 |p::l,lo,m,h=>by
  rw[Ris] at h;rw[opm,fns];split
  ·exact jb h.2.2 (ZP _)
  ·exact xV h.2.2
section
variable (K:Sky)
abbrev jn(g:Int):Int:=gi K.G g 1
abbrev gp(a b:Int):Int:=Dw.mg2 K.M a.toNat b.toNat
abbrev zO(ah:Option (Int × Int))(k:Int):Int:=match ah with
 |none=>0
 |some p=>p.2+gp K p.1 k
abbrev bD(ah:Option (Int × Int))(g:Int):Int:=match ah with
 |none=>gi K.G g 2
 |some p=>if p.2+gp K p.1 (gi K.G g 0) > gi K.G g 2 then p.2+gp K p.1 (gi K.G g 0) else gi K.G g 2
abbrev js:List Int:=cN (K.G.map λg=>g.getD 1 0)
abbrev nP(b:Nat)(m:Int):Bool:=match (js K)[(K.r+b).toNat]? with
 |some j=>decide (j < m - K.s)
 |none=>aS
abbrev step(ah:Option (Int × Int))(g:Int)(b:Nat):Option Int:=if (decide (gi K.G g 3 < opm K.H (bD K ah g)) || nP K b (opm K.H (bD K ah g)))=aN then aD else aw (opm K.H (bD K ah g))
abbrev aF(t:Int)(p:Int × Int):Bool:=decide (jn K p.1<=t) && decide (t < p.2 - K.s)
abbrev wts(L:List (Int × Int))(t:Int):Nat:=(L.filter (aF K t)).length
abbrev eS(L:List (Int × Int))(g m:Int):List Int:=((jn K g::L.map λp=>jn K p.1).filter λt=>decide (jn K g<=t) && decide (t < m - K.s))
abbrev jc(L:List (Int × Int))(g m:Int):Int:=Bw 0 ((eS K L g m).map λt=>1+(wts K L t:Int))
abbrev iz(L:List (Int × Int))(g m:Int):List Int:=jn K g::(js K).filter λt=>decide (jn K g < t) && aF K t (g,m)
abbrev tK(L:List (Int × Int))(g m:Int):Int:=iT ((iz K L g m).map λt=>1+(wts K L t:Int))
abbrev tL(L:List (Int × Int))(g m:Int):Bool:=decide (0 < gi K.G g 6) && (aF K (jn K g) (g,m) && decide (gi K.G g 6 < tK K L g m))
abbrev cV(L:List (Int × Int))(g m:Int):Bool:=decide (0 < gi K.G g 6) && decide (gi K.G g 6 < jc K L g m)
abbrev rn:List Int->Option (Int × Int)->List (Int × Int)->Nat ⊕ List (Int × Int)
 |[],_,L=>.inr L
 |g::os,ah,L=>match step K ah g L.length with
  |none=>.inl L.length
  |some m=>if cV K L g m=aN then .inl L.length else rn os (aw (gi K.G g 0,m)) (L++[(g,m)])
end
variable {K:Sky}
def xW(h:ns ≠ []):iT ns ∈ ns:=by
 cases ns with
 |nil=>exact absurd rfl h
 |cons n ns=>exact(iU ns n).1
def Ol{x:Int}(h:x ∈ ns):x<=iT ns:=by
 cases ns with
 |nil=>simp at h
 |cons n ns=>exact(iU ns n).2 x h
def v7(c:A ≠ [])(h:∀x ∈ A,∃y ∈ B,x<=y):iT A<=iT B:=by
 obtain⟨y,d,b⟩:=h _ (xW c);exact Wc b (Ol d)
def jd{c:Int}(h:ns ≠ []):Bw c ns=iT ns:=by
 cases ns with
 |nil=>exact absurd rfl h
 |cons n ns=>rfl
def kL{b:Type}{p q:b->Bool}:∀ {l:List b},(∀x ∈ l,p x=aN->q x=aN)->(l.filter p).length<=(l.filter q).length
 |[],_=>Zi _
 |a::l,h=>by
  have I:=kL (l:=l) λx f=>h x (Zh _ f);have d:=h a Zk;rw[Z2,Z2];split
  ·rename_i c;rw[if_pos (d c),Zo,Zo]
   lia
  ·split
   ·rw[Zo];lia
   ·exact I
def Di{j t:Int}(k:j<=t):∀ (L:List (Int × Int)),∃u,(u=j\/∃p ∈ L,u=jn K p.1)/\j<=u/\u<=t/\∀p ∈ L,aF K t p=aN->jn K p.1<=u
 |[]=>⟨j,.inl rfl,ZP _,k,λp y=>by simp at y⟩
 |p::L=>by
  obtain⟨u,c,v,l,h4⟩:=Di k L;by_cases f:aF K t p=aN/\u < jn K p.1
  ·refine⟨jn K p.1,.inr ⟨p,Zk,rfl⟩,by lia,?_,λq hq b=>?_⟩
   ·have:=f.1;simp only[aF,bAE,decide_eq_true_eq] at this;exact this.1
   ·rcases Zn.mp hq with rfl |hq
    ·exact ZP _
    ·have:=h4 q hq b;lia
  ·refine⟨u,?_,v,l,λq hq b=>?_⟩
   ·rcases c with c |⟨q,hq,c⟩
    ·exact .inl c
    ·exact .inr ⟨q,Zh _ hq,c⟩
   ·rcases Zn.mp hq with rfl |hq
    ·by_cases d:u < jn K q.1
     ·exact absurd ⟨b,d⟩ f
     ·lia
    ·exact h4 q hq b
def HD{L:List (Int × Int)}{g m:Int}(h:jn K g < m - K.s)(q:∀p ∈ L,jn K p.1 ∈ js K):tK K L g m=jc K L g m:=by
 have j:jn K g ∈ eS K L g m:=by
  unfold eS;rw[ZH];exact⟨Zk,by simp[h]⟩
 have k:(eS K L g m).map (λt=>1+(wts K L t:Int)) ≠ []:=λz=>by
  rw[List.map_eq_nil_iff] at z;rw[z] at j;simp at j
 unfold jc tK;rw[jd k];refine Int.le_antisymm (v7 (by simp[iz]) λx d=>?_) (v7 k λx d=>?_)
 ·obtain⟨t,ht,rfl⟩:=ZA.mp d
  have c:jn K g<=t/\t < m - K.s:=by
   rcases Zn.mp ht with rfl |ht
   ·exact⟨ZP _,h⟩
   ·have:=(ZH.mp ht).2;simp only[aF,bAE,decide_eq_true_eq] at this;exact⟨this.2.1,this.2.2⟩
  obtain⟨u,h1,l,v,h4⟩:=Di (K:=K) c.1 L;refine⟨1+(wts K L u:Int),ZA.mpr ⟨u,?_,rfl⟩,?_⟩
  ·unfold eS;refine ZH.mpr ⟨?_,by simp only[bAE,decide_eq_true_eq];lia⟩;rcases h1 with rfl |⟨p,b,rfl⟩
   ·exact Zk
   ·exact Zh _ (ZA.mpr ⟨p,b,rfl⟩)
  ·have:wts K L t<=wts K L u:=kL λp b f=>by
    have a:=h4 p b f;simp only[aF,bAE,decide_eq_true_eq] at f ⊢
    lia
   lia
 ·obtain⟨t,ht,rfl⟩:=ZA.mp d;refine⟨1+(wts K L t:Int),ZA.mpr ⟨t,?_,rfl⟩,ZP _⟩;unfold eS at ht;obtain⟨h1,l⟩:=ZH.mp ht;simp only[bAE,decide_eq_true_eq] at l;unfold iz;by_cases e:t=jn K g
  ·rw[e];exact Zk
  ·refine Zh _ (ZH.mpr ⟨?_,by simp only[aF,bAE,decide_eq_true_eq];lia⟩);rcases Zn.mp h1 with rfl |h1
   ·exact absurd rfl e
   ·obtain⟨p,b,rfl⟩:=ZA.mp h1;exact q p b
def zP{g m:Int}(h:¬ jn K g < m - K.s):jc K L g m=0:=by
 have:eS K L g m=[]:=by
  unfold eS;rw[Xa];intro t _;simp only[bAE,decide_eq_true_eq]
  lia
 unfold jc;rw[this];rfl
def HE{g m:Int}(b:∀p ∈ L,jn K p.1 ∈ js K):tL K L g m=cV K L g m:=by
 unfold tL cV;by_cases h:jn K g < m - K.s
 ·rw[HD h b];have:aF K (jn K g) (g,m)=aN:=by simp only[aF,bAE,decide_eq_true_eq];exact⟨ZP _,h⟩
  rw[this,YZ]
 ·rw[zP h];have:aF K (jn K g) (g,m)=aS:=by simp[aF,h]
  rw[this,XQ];by_cases c:0 < gi K.G g 6
  ·have e:decide (gi K.G g 6 < 0)=aS:=by simp;lia
   rw[e]
  ·rw[decide_eq_false c];rfl
def Dj{g:Int}(h:0<=gi K.G g 2):(if zO K ah (gi K.G g 0) > gi K.G g 2 then zO K ah (gi K.G g 0) else gi K.G g 2)=bD K ah g:=by
 cases ah with
 |none=>unfold zO bD;dsimp only;rw[if_neg (by lia)]
 |some p=>rfl
end Sn
namespace Lw
open PySem Ev Sn
variable {p:Nat} {S:Sto} {k:Nat} {Q:D->Sto->Prop}
def JB{f:List D}{T:Tg}{b:XS}{c:Rho}{Q:Fl->Rho->Sto->Prop}(hl:f.length<=100000)(I:Nat->Rho->Sto->Prop)
  (step:∀ (i:Nat) d c j,f[i]?=aw d->I i c j->∃u,aC T d c=aw u/\OkS (b u j) λJ l v=>match J with |.nx=>I (i+1) l v |.ct=>I (i+1) l v |.bk=>Q .nx l v |.rt d=>Q (.rt d) l v)
  (q:∀c j,I f.length c j->Q .nx c j) (C:I 0 c S):OkS (fC (nxL f) T b LF 0 c S) Q:=by
 refine kK f.length I (by unfold LF;lia) (λi c j hi y=>?_) (λc j y=>⟨?_,q c j y⟩) C
 ·obtain⟨u,B,z⟩:=step i f[i] c j (gEG hi) y;exact⟨f[i],u,by show aw f[i]?=_;rw[gEG hi],B,z⟩
 ·show aw f[f.length]?=_;rw[Zv (Zi _)]
def Om{f:List D}{T:Tg}{b:XS}{c:Rho}{Q:Fl->Rho->Sto->Prop}(hl:f.length<=100000)(I:Nat->Rho->Sto->Prop)
  (step:∀ (i:Nat) d c j,f[i]?=aw d->I i c j->∃u,aC T (.tup [.int i,d]) c=aw u/\OkS (b u j) λJ l v=>match J with |.nx=>I (i+1) l v |.ct=>I (i+1) l v |.bk=>Q .nx l v |.rt d=>Q (.rt d) l v)
  (q:∀c j,I f.length c j->Q .nx c j) (C:I 0 c S):OkS (fC (Fi f) T b LF 0 c S) Q:=by
 refine kK f.length I (by unfold LF;lia) (λi c j hi y=>?_) (λc j y=>⟨?_,q c j y⟩) C
 ·obtain⟨u,B,z⟩:=step i f[i] c j (gEG hi) y;refine⟨.tup [.int i,f[i]],u,?_,B,z⟩;show enm f i=_;unfold enm;rw[if_pos (by lia),gEG hi];rfl
 ·show enm f f.length=_;unfold enm;rw[if_pos (Zi _),Zv (Zi _)];rfl
def bh{B:Type}{nx:Nxt}{T:Tg}{c:XA}{J:Rho}{Q:List D->Sto->Prop}(l:List B)(E:B->D)(f:B->List D)(hl:l.length<=1000)(Y:∀a ∈ l,(f a).length<=1)
  (z:∀i d,Sm S d->nx i d=aw ((l[i]?).map E))
  (step:∀ (i:Nat) a d,l[i]?=aw a->Sm S d->∃j,aC T (E a) J=aw j/\Ok (c j d) λv I=>v=f a/\Sm d I) (q:∀d,Sm S d->Q (l.flatMap f) d) :
  Ok (bu nx T c J LF 0 S) λv S2=>v.length<=100000/\Q v S2:=by
 refine(gg l.length (λi u d=>Sm S d/\u=(l.take i).flatMap f) (by unfold LF;lia) (λi u d hi ⟨sm,y⟩=>?_) (λu d ⟨sm,y⟩=>?_) ⟨Sm.refl S,by simp⟩).mono λv d ⟨sm,y⟩=>?_
 ·obtain⟨j,X,v,I,L,U,C⟩:=step i l[i] d (gEG hi) sm;refine⟨E l[i],j,by rw[z i d sm,gEG hi];rfl,X,v,I,L,sm.trans C,?_⟩;rw[y,U,Z5 hi,XW];simp
 ·rw[z _ d sm,Zv (Zi _)];rfl
 ·rw[Yz] at y;subst y;refine⟨?_,q d sm⟩
  have:∀m:List B,(∀a ∈ m,(f a).length<=1)->(m.flatMap f).length<=m.length:=λm=>by
   induction m with
   |nil=>intro _;simp
   |cons a m O=>
    intro h;rw[Xb,Zg,Zo];have:=h a Zk;have:=O λb hb=>h b (Zh _ hb)
    lia
  have:=this l Y
  lia
def bH{c:Type}{l:List c}{E:c->D}:∀i b,Sm S b->nxL (l.map E) i b=aw ((l[i]?).map E):=λi b _=>by
 show aw (l.map E)[i]?=_;rw[Zl]
def ei{c:Type}{n:Nat}{l:List c}{E:c->D}(h:S[n]?=aw (.lst (l.map E))):∀i b,Sm S b->nxS n i b=aw ((l[i]?).map E):=λi b sm=>by
 show(aU b n).map (λd=>d[i]?)=_;rw[aE (sm _ _ h),ZN,Zl]
def bc{b:Type}(l:List b)(f:b->D):(l.flatMap λa=>[f a])=l.map f:=by
 induction l with
 |nil=>rfl
 |cons a l I=>rw[Xb,I];rfl
def bx{b:Type}(l:List b)(c:b->Bool)(f:b->D):(l.flatMap λa=>if c a=aN then [f a] else [])=(l.filter c).map f:=by
 induction l with
 |nil=>rfl
 |cons a l I=>
  rw[Xb,I,Z2];split <;> rfl
abbrev ag(r:List Int):D:=.tup (r.map D.int)
abbrev ahE:Option (Int × Int)->D
 |none=>.non
 |some q=>.tup [.int q.1,.int q.2]
abbrev meE(K:Sky):D:=.tup [.int K.r,.int K.s,.tup (K.M.map ag),.tup (K.H.map au)]
abbrev skE(K:Sky):D:=.tup [meE K,ahE K.ah,.tup (K.G.map ag),.tup (K.F.map D.int)]
structure Vd(K:Sky):Prop where
 r0:0<=K.r
 r8:K.r<=8
 s0:0<=K.s
 s60:K.s<=60
 m0:1<=K.M.length
 m4:K.M.length<=4
 row:∀r ∈ K.M,r.length=K.M.length
 ris:Ris (-1) K.H
 h4:K.H.length<=4
 ah0:∀q,K.ah=aw q->0<=q.1/\q.1 < K.M.length
 g7:K.G.length<=7
 gl:∀g ∈ K.G,g.length=7/\0<=g.getD 0 0/\g.getD 0 0 < K.M.length/\0<=g.getD 2 0
variable {K:Sky}
def sk0:ixS (skE K) (.int 0) S=aw (meE K,S):=rfl
def sk1:ixS (skE K) (.int 1) S=aw (ahE K.ah,S):=rfl
def sk2:ixS (skE K) (.int 2) S=aw (.tup (K.G.map ag),S):=rfl
def sk3:ixS (skE K) (.int 3) S=aw (.tup (K.F.map D.int),S):=rfl
def me0:ixS (meE K) (.int 0) S=aw (.int K.r,S):=rfl
def me1:ixS (meE K) (.int 1) S=aw (.int K.s,S):=rfl
def me2:ixS (meE K) (.int 2) S=aw (.tup (K.M.map ag),S):=rfl
def me3:ixS (meE K) (.int 3) S=aw (.tup (K.H.map au),S):=rfl
def gl7(V:Vd K){g:Int}(u:0<=g)(v:g < K.G.length):∃a b c d e f h,K.G[g.toNat]?=aw [a,b,c,d,e,f,h]/\gi K.G g 0=a/\gi K.G g 1=b/\gi K.G g 2=c/\gi K.G g 3=d/\gi K.G g 6=h/\0<=a/\a < K.M.length/\0<=c:=by
 have hi:g.toNat < K.G.length:=by lia
 obtain⟨L,j,l,C⟩:=V.gl K.G[g.toNat] (ZO hi)
 match q:K.G[g.toNat],L with
 |[a,b,c,d,e,f,h],_=>
  have eq:K.G[g.toNat]?=aw [a,b,c,d,e,f,h]:=by rw[gEG hi,q]
  rw[q] at j l C;refine⟨a,b,c,d,e,f,h,eq,?_,?_,?_,?_,?_,j,l,C⟩ <;> (unfold gi;rw[eq];rfl)
def je{i:Int}(c:0<=i)(h:b[i.toNat]?=aw d):ixS (.tup b) (.int i) S=aw (d,S):=by
 obtain⟨n,rfl⟩:∃n:Nat,i=(n:Int):=⟨i.toNat,by lia⟩;exact AJ h
def mX{g:Int}(b:0<=g)(h:K.G[g.toNat]?=aw r):ixS (.tup (K.G.map ag)) (.int g) S=aw (ag r,S):=je b (by rw[Zl,h];rfl)
def qR(V:Vd K){a b:Int}(d:0<=a)(j:a < K.M.length)(B:0<=b)(f:b < K.M.length):∃r,ixS (.tup (K.M.map ag)) (.int a) S=aw (ag r,S)/\ixS (ag r) (.int b) S=aw (.int (gp K a b),S):=by
 have hi:a.toNat < K.M.length:=by lia
 have l:=V.row K.M[a.toNat] (ZO hi);have c:b.toNat < K.M[a.toNat].length:=by lia
 refine⟨K.M[a.toNat],je d (by rw[Zl,gEG hi];rfl),je B ?_⟩;rw[Zl,gEG c];have:gp K a b=K.M[a.toNat][b.toNat]:=by unfold gp Dw.mg2;rw[gEG hi,ZT,gEG c];rfl
 rw[this];rfl
end Lw
namespace Lw
open PySem Ev Sn
variable {p:Nat} {S:Sto} {k:Nat} {Q:D->Sto->Prop} {K:Sky}
def Dk{t u:Bool}{A B:Prop}(b:t=aN->u=aN->A)(hb:(t && u)=aS->B):wIf t (wIf u A B) B:=by
 cases t with
 |false=>exact hb rfl
 |true=>cases u with
  |true=>exact b rfl rfl
  |false=>exact hb rfl
def xX{b:Type}{l:List b}{i:Nat}{a:b}(h:l[i]?=aw a):l.drop i=a::l.drop (i+1):=by
 obtain⟨hi,e⟩:=Zb.mp h;rw[List.drop_eq_getElem_cons hi,e]
def v8{b:Type}{l:List b}{E:b->D}{i:Nat}{d:D}(h:(l.map E)[i]?=aw d):∃a,l[i]?=aw a/\d=E a:=by
 rw[Zl] at h;cases e:l[i]? with
 |none=>rw[e] at h;cases h
 |some a=>rw[e] at h;cases h;exact⟨a,rfl,rfl⟩
def Oo{m:Int}(hl:K.H.length<=4)(q:Q (.int (fns K.H m)) S):Ok (evC ae (k+1) 15 [meE K,.int m] S) Q:=by
 refine ay (d:=cz) (ρ:=[aw (meE K),aw (.int m),aD,aD]) rfl rfl ?_;dsimp only[cz,eL];k_is;refine aa me3 ?_;k_is;refine JB (by rw[Za];lia) (λi c j=>j=S/\fns K.H m=fns (K.H.drop i) m/\∃u v,c=[aw (meE K),aw (.int m),u,v]) (λi d c j hd ⟨l,b,u,v,f⟩=>?_) (λc j ⟨l,b,u,v,f⟩=>?_) ⟨rfl,rfl,aD,aD,rfl⟩
 ·subst l f;obtain⟨y,I,rfl⟩:=v8 hd;refine⟨_,show aC (.tup [.name 2,.name 3]) (.tup [.int y.1,.int y.2]) _=_ from qI (by simp) (by simp),?_⟩;k_is;rw[xX I,fns] at b;refine Dk (λC B=>?_) λh=>?_
  ·k_is;rw[if_pos ⟨of_decide_eq_true C,of_decide_eq_true B⟩] at b;rw[b] at q;exact q
  ·k_is;rw[if_neg (λz=>by rw[decide_eq_true z.1,decide_eq_true z.2] at h;cases h)] at b;exact⟨rfl,b,_,_,rfl⟩
 ·subst l f;k_is;rw[Za,Wm,fns] at b;rw[b] at q;exact q
abbrev aO(K:Sky)(L:List (Int × Int)):Option (Int × Int):=match L.getLast? with
 |none=>K.ah
 |some p=>aw (gi K.G p.1 0,p.2)
abbrev InG(K:Sky)(L:List (Int × Int)):Prop:=∀p ∈ L,0<=p.1/\p.1 < K.G.length
def tM(V:Vd K){n:Nat}(j:S[n]?=aw (.lst (L.map au)))(u:InG K L)(q:Q (ahE (aO K L)) S):Ok (evC ae (k+1) 24 [skE K,.ref n] S) Q:=by
 refine ay (d:=cY) (ρ:=[aw (skE K),aw (.ref n),aD,aD]) rfl rfl ?_;dsimp only[cY,fv];k_is;have tr:lW (.ref n) S=aw (!(L.map au).isEmpty,S):=by simp only[lW,aE j]
 refine aa tr ?_;k_is;rcases List.eq_nil_or_concat L with rfl |⟨L',z,rfl⟩
 ·k_is;exact aa sk1 q
 ·rw[List.concat_eq_append] at j u q ⊢;rw[show(!!((L'++[z]).map au).isEmpty)=aS by simp];k_is;have l:=u z (by simp);refine aa (qK (ds:=L'.map au) (e:=au z) (by rw[j,ZQ];rfl)) ?_;rw[show au z = .tup [.int z.1,.int z.2] from rfl];k_is;refine aa sk2 ?_;obtain⟨a,b,c,d,e,f,h,y,v,_⟩:=gl7 V l.1 l.2;refine aa (mX l.1 y) (aa (show ixS (ag [a,b,c,d,e,f,h]) (.int 0) S=aw (.int a,S) from rfl) ?_);k_is
  have:aO K (L'++[z])=aw (a,z.2):=by
   unfold aO;rw[YO];simp[v]
  rw[this] at q;exact q
def HF(V:Vd K){a:Option (Int × Int)}{kd:Int}(l:∀q,a=aw q->0<=q.1/\q.1 < K.M.length)(j:0<=kd)(u:kd < K.M.length)(q:Q (.int (zO K a kd)) S):Ok (evC ae (k+1) 25 [skE K,ahE a,.int kd] S) Q:=by
 refine ay (d:=jI) (ρ:=[aw (skE K),aw (ahE a),aw (.int kd)]) rfl rfl ?_;dsimp only[jI,oV];k_is;cases a with
 |none=>exact aa (show am .is (ahE aD) .non S=aw (.bl aN,S) from rfl) (by k_is;exact q)
 |some z=>
  refine aa (show am .is (ahE (aw z)) .non S=aw (.bl aS,S) from rfl) ?_;k_is;obtain⟨c,v⟩:=l z rfl;refine aa (show ixS (ahE (aw z)) (.int 1) S=aw (.int z.2,S) from rfl) ?_;refine aa sk0 (aa me2 (aa (show ixS (ahE (aw z)) (.int 0) S=aw (.int z.1,S) from rfl) ?_));obtain⟨r,b,f⟩:=qR (S:=S) V c v j u;refine aa b (aa f ?_);k_is;exact q
def mY(V:Vd K){z:Int × Int}{t:Int}(j:0<=z.1)(y:z.1 < K.G.length)(q:Q (.bl (aF K t z)) S):Ok (evC ae (k+1) 26 [skE K,au z,.int t] S) Q:=by
 refine ay (d:=io) (ρ:=[aw (skE K),aw (au z),aw (.int t),aD,aD]) rfl rfl ?_;dsimp only[io,mJ];rw[show au z = .tup [.int z.1,.int z.2] from rfl];k_is;refine aa sk2 ?_;obtain⟨a,b,c,d,e,f,h,v,_,u,_⟩:=gl7 V j y;refine aa (mX j v) (aa (show ixS (ag [a,b,c,d,e,f,h]) (.int 1) S=aw (.int b,S) from rfl) ?_);k_is;have l:aF K t z=(decide (b<=t) && decide (t < z.2 - K.s)):=by unfold aF jn;rw[u]
 rw[l] at q;cases C:decide (b<=t) with
 |false=>rw[C] at q;k_is;exact q
 |true=>
  rw[C] at q;k_is;refine aa sk0 (aa me1 ?_);k_is;exact q
def Op(V:Vd K){L:List (Int × Int)}{n:Nat}{t:Int}(c:S[n]?=aw (.lst (L.map au)))(f:InG K L)(hl:L.length<=1000)(q:∀b,Sm S b->Q (.int (wts K L t)) b):Ok (evC ae (k+2) 27 [skE K,.ref n,.int t] S) Q:=by
 refine ay (d:=cZ) (ρ:=[aw (skE K),aw (.ref n),aw (.int t)]) rfl rfl ?_;dsimp only[cZ,fw];k_is;refine⟨by rw[aE c];rfl,?_⟩;refine bh L au (λz=>if aF K t z=aN then [au z] else []) hl (λz _=>by split <;> simp) (ei c) (λi z b j sm=>⟨_,rfl,?_⟩) λb sm=>?_
 ·have:=f z (Zd j);k_is;refine⟨rfl,mY V this.1 this.2 ?_⟩;k_is;cases aF K t z with
  |true=>k_is;exact⟨rfl,Sm.refl _⟩
  |false=>k_is;exact⟨rfl,Sm.refl _⟩
 ·rw[bx];refine aa (show dB aS ((L.filter (aF K t)).map au) b=aw (.int (wts K L t),b) by unfold dB wts;rw[Za]) ?_;k_is;exact q b sm
def cL:∀ (xs:List Int),bR (xs.map D.int)=aw xs
 |[]=>rfl
 |x::xs=>by simp only[Zy,bR,cL xs]
def Dm(h:xs.length < 64):cP aS (xs.map D.int)=aw ((cN xs).map D.int):=by
 unfold cP BX sE;rw[if_pos rfl,cL];dsimp only;rw[if_pos h]
def Dn:(js K).length=K.G.length:=by unfold js;rw[(bz _).length_eq,Za]
def tN(V:Vd K)(q:∀S',Sm S S'->S'[Zx S' - 1]?=aw (.lst ((js K).map D.int))->Zx S<=Zx S' - 1->Q (.ref (Zx S' - 1)) S'):Ok (evC ae (k+1) 28 [skE K] S) Q:=by
 refine ay (d:=cu) (ρ:=[aw (skE K)]) rfl rfl ?_;dsimp only[cu,dH];k_is;refine aa sk2 ?_;k_is;refine bh K.G ag (λg=>[.int (g.getD 1 0)]) (by have:=V.g7;lia) (λ_ _=>Zi _) bH (λi g S' u sm=>⟨_,rfl,?_⟩) λS' sm=>?_
 ·obtain⟨L,_⟩:=V.gl g (Zd u)
  match g,L with
  |[a,b,c,d,e,f,h],_=>
   k_is;exact aa (show ixS (ag [a,b,c,d,e,f,h]) (.int 1) S'=aw (.int b,S') from rfl) ⟨rfl,Sm.refl _⟩
 ·rw[bc];refine⟨_,show cP aS (K.G.map λg=>D.int (g.getD 1 0))=aw ((js K).map D.int) from ?_,?_⟩
  ·have:=Dm (xs:=K.G.map λg=>g.getD 1 0) (by rw[Za];have:=V.g7;lia);rw[Z0] at this;exact this
  ·have e:Zx (S'++[Ob.lst ((js K).map D.int)]) - 1=Zx S':=by simp
   have sl:Zx S<=Zx S':=by
    cases l:decide (Zx S<=Zx S') with
    |true=>exact of_decide_eq_true l
    |false=>
     exfalso;have j:Zx S' < Zx S:=by have:=of_decide_eq_false l;lia
     have:=sm (Zx S') S[Zx S'] (gEG j);rw[Zv (Zi _)] at this;cases this
   have:=q (S'++[Ob.lst ((js K).map D.int)]) (sm.trans (Sm.app _ _)) (by rw[e];exact bv) (by rw[e];exact sl);rw[e] at this;exact this
def iA{n:Nat}{i:Int}(b:S[n]?=aw (.lst c))(f:0<=i)(h:c[i.toNat]?=aw d):ixS (.ref n) (.int i) S=aw (d,S):=by
 obtain⟨j,rfl⟩:∃j:Nat,i=(j:Int):=⟨i.toNat,by lia⟩;rw[ZI] at h;simp only[ixS,av,aE b,ZN,Ev.wY h]
def qS{n:Nat}{j:Nat}(b:S[n]?=aw (.lst d)):slS aD (aw (j:Int)) (.ref n) S=aw (.ref (Zx S),S++[.lst (d.take j)]):=by
 have:lH d aD (aw (j:Int))=d.take j:=by
  by_cases h:j<=d.length
  ·exact CM d j h
  ·unfold lH;rw[Dw.A6 _ _ (by lia),ZI,Nat.min_eq_right (by lia)];show(d.drop 0).take (d.length - 0)=d.take j;rw[List.drop_zero,YE (by lia),YE (by lia)]
 simp only[slS,aE b,this]
def xY{a b:Nat}(c:S[a]?=aw (.lst xs))(hb:S[b]?=aw (.lst y))(hl:xs.length+y.length<=100000):bT .add (.ref a) (.ref b) S=aw (.ref (Zx S),S++[.lst (xs++y)]):=by
 simp only[bT,kw,Ky,c,hb];rw[if_pos hl]
def gJ{n:Nat}(b:S[n]?=aw (.lst d)):ao dB (.ref n) S=aw (.int d.length,S):=by simp only[ao,av,aE b,ZN,dB]
def Dp(h:xs ≠ []):nB aS (xs.map D.int) S=aw (.int (iT xs),S):=by
 cases xs with
 |nil=>exact absurd rfl h
 |cons x xs=>unfold nB;rw[cL]
def HG(V:Vd K){n j:Nat}(I:S[n]?=aw (.lst (L.map au)))(Y:L[j]?=aw z)(J:InG K L)(hl:L.length<=100)(q:∀l,Sm S l->Q (.int (tK K (L.take j) z.1 z.2)) l):Ok (evC ae (k+3) 30 [skE K,.ref n,.int j,.int (jn K z.1)] S) Q:=by
 refine ay (d:=dU) (ρ:=[aw (skE K),aw (.ref n),aw (.int j),aw (.int (jn K z.1)),aD,aD]) rfl rfl ?_;dsimp only[dU,gZ];have f:=J z (Zd Y);k_is;refine aa (qS I) ?_;k_is;have U:Sm S (S++[Ob.lst ((L.map au).take j)]):=Sm.app _ _;have a1:(S++[Ob.lst ((L.map au).take j)])[Zx S]?=aw (Ob.lst ((L.take j).map au)):=by rw[bv,XF]
 generalize Zx S=N1 at *;generalize S++[Ob.lst ((L.map au).take j)]=S1 at *;refine⟨rfl,tN V λS2 v X _=>?_⟩;k_is;refine⟨by rw[aE X];rfl,?_⟩;have u:(js K).length<=7:=by rw[Dn];exact V.g7
 refine bh (js K) D.int (λt=>if (decide (jn K z.1 < t) && aF K t z)=aN then [D.int t] else []) (by lia) (λ_ _=>by split <;> simp) (ei X) (λi t l ht sm=>⟨_,rfl,?_⟩) λb C=>?_
 ·k_is;cases c:decide (jn K z.1 < t) with
  |false=>k_is;exact⟨rfl,Sm.refl _⟩
  |true=>
   k_is;have B:=sm _ _ (v _ _ (U _ _ I));refine aa (iA B (by lia) (show(L.map au)[((j:Nat):Int).toNat]?=aw (au z) by rw[ZI,Zl,Y];rfl)) ?_;refine⟨rfl,mY V f.1 f.2 ?_⟩;k_is;cases aF K t z with
   |true=>k_is;exact⟨rfl,Sm.refl _⟩
   |false=>k_is;exact⟨rfl,Sm.refl _⟩
 ·rw[bx];k_is;have lt3:Zx b < Zx (b++[Ob.lst (((js K).filter λt=>decide (jn K z.1 < t) && aF K t z).map D.int)]):=by simp
  have a3:(b++[Ob.lst (((js K).filter λt=>decide (jn K z.1 < t) && aF K t z).map D.int)])[Zx b]?=aw (Ob.lst (((js K).filter λt=>decide (jn K z.1 < t) && aF K t z).map D.int)):=bv;have Z:Sm b (b++[Ob.lst (((js K).filter λt=>decide (jn K z.1 < t) && aF K t z).map D.int)]):=Sm.app _ _;have lf:((js K).filter λt=>decide (jn K z.1 < t) && aF K t z).length<=7:=ZW (YI _ _) u;generalize Zx b=N3 at *;generalize b++[Ob.lst (((js K).filter λt=>decide (jn K z.1 < t) && aF K t z).map D.int)]=S4 at *;have y:Sm S4 (S4++[Ob.lst [D.int (jn K z.1)]]):=Sm.app _ _;refine aa (xY (xs:=[D.int (jn K z.1)]) bv (y _ _ a3) (by rw[Za,Zt];lia)) ?_;k_is;have T:Sm (S4++[Ob.lst [D.int (jn K z.1)]]) (S4++[Ob.lst [D.int (jn K z.1)]]++[Ob.lst ([D.int (jn K z.1)]++((js K).filter λt=>decide (jn K z.1 < t) && aF K t z).map D.int)]):=Sm.app _ _;have a6:(S4++[Ob.lst [D.int (jn K z.1)]]++[Ob.lst ([D.int (jn K z.1)]++((js K).filter λt=>decide (jn K z.1 < t) && aF K t z).map D.int)])[Zx (S4++[Ob.lst [D.int (jn K z.1)]])]?=aw (Ob.lst ((iz K (L.take j) z.1 z.2).map D.int)):=bv;refine⟨by rw[aE a6];rfl,?_⟩;have sA:=((((U.trans v).trans C).trans Z).trans y).trans T;have aL:=(((((v.trans C).trans Z).trans y).trans T)) _ _ a1;refine bh (iz K (L.take j) z.1 z.2) D.int (λt=>[D.int (1+(wts K (L.take j) t:Int))]) (by show((js K).filter λt=>decide (jn K z.1 < t) && aF K t z).length+1<=1000;lia) (λ_ _=>Zi _) (ei a6) (λi t l ht sm=>⟨_,rfl,?_⟩) λS7 s7=>?_
  ·k_is;refine⟨rfl,Op V (sm _ _ aL) (λw hw=>J w (YQ hw)) (by rw[Yh];lia) λS8 s8=>?_⟩;k_is;exact⟨rfl,s8⟩
  ·rw[bc];have O:=Dp (S:=S7) (xs:=(iz K (L.take j) z.1 z.2).map λt=>1+(wts K (L.take j) t:Int)) (by unfold iz;simp);rw[Z0] at O;exact aa O (by k_is;exact q S7 (sA.trans s7))
def HH(V:Vd K){n j:Nat}(B:S[n]?=aw (.lst (L.map au)))(v:L[j]?=aw z)(J:InG K L)(hl:L.length<=100)(q:∀u,Sm S u->Q (.bl (tL K (L.take j) z.1 z.2)) u):Ok (evC ae (k+4) 29 [skE K,.ref n,.int j] S) Q:=by
 refine ay (d:=dS) (ρ:=[aw (skE K),aw (.ref n),aw (.int j),aD,aD,aD,aD,aD,aD,aD]) rfl rfl ?_;dsimp only[dS,gY];have l:=J z (Zd v);obtain⟨a,b,c,d,e,f,h,Y,e0,X,e2,e3,Z,_⟩:=gl7 V l.1 l.2;have hi:=iA B (show(0:Int)<=(j:Int) by lia) (show(L.map au)[((j:Nat):Int).toNat]?=aw (au z) by rw[ZI,Zl,v];rfl);k_is;refine aa sk2 (aa hi (aa (show ixS (au z) (.int 0) S=aw (.int z.1,S) from rfl) (aa (mX l.1 Y) ?_)));rw[show ag [a,b,c,d,e,f,h] = .tup [.int a,.int b,.int c,.int d,.int e,.int f,.int h] from rfl];k_is;have O:jn K z.1=b:=X;have eh:tL K (L.take j) z.1 z.2=(decide (0 < h) && (aF K b z && decide (h < tK K (L.take j) z.1 z.2))):=by unfold tL;rw[Z,O]
 rw[eh] at q;cases I:decide (0 < h) with
 |false=>rw[I] at q;k_is;exact q S (Sm.refl S)
 |true=>
  rw[I] at q;k_is;refine aa hi ?_;refine⟨rfl,mY V l.1 l.2 ?_⟩;k_is;cases C:aF K b z with
  |false=>rw[C] at q;k_is;exact q S (Sm.refl S)
  |true=>
   rw[C] at q;k_is
   have rg:=HG (k:=k) (Q:=λy T=>wCx .gt y (.int h) T λd U=>Q d U) V B v J hl λu sm=>by
    k_is;exact q u sm
   rw[O] at rg;exact⟨rfl,rg⟩
def HI(V:Vd K){j:Nat}{m:Int}(q:∀v,Sm S v->Q (.bl (nP K j m)) v):Ok (evC ae (k+2) 34 [skE K,.int j,.int m] S) Q:=by
 refine ay (d:=cw) (ρ:=[aw (skE K),aw (.int j),aw (.int m),aD,aD,aD,aD,aD,aD]) rfl rfl ?_;dsimp only[cw,dI];k_is;refine aa sk0 ?_;rw[show meE K = .tup [.int K.r,.int K.s,.tup (K.M.map ag),.tup (K.H.map au)] from rfl];k_is;refine⟨rfl,tN V λu l y _=>?_⟩;k_is;refine aa (gJ y) ?_;k_is;rw[Za];have r0:=V.r0;have c:nP K j m=match (js K)[(K.r+j).toNat]? with |some t=>decide (t < m - K.s) |none=>aS:=rfl
 refine eP (λh=>?_) λh=>?_
 ·have b:(K.r+j).toNat < (js K).length:=by have:=of_decide_eq_true h;lia
  rw[gEG b] at c;k_is;refine aa (iA y (by lia) (show((js K).map D.int)[(K.r+(j:Int)).toNat]?=aw (.int (js K)[(K.r+(j:Int)).toNat]) by rw[Zl,gEG b];rfl)) ?_;k_is;have:=q u l;rw[c] at this;exact this
 ·have f:(js K).length<=(K.r+j).toNat:=by have:=of_decide_eq_false h;lia
  rw[Zv f] at c;have:=q u l;rw[c] at this;exact this
abbrev zQ:Option Int->D
 |none=>.non
 |some m=>.int m
def o7(V:Vd K){a:Option (Int × Int)}{g:Int}{j:Nat}(Y:∀q,a=aw q->0<=q.1/\q.1 < K.M.length)(y:0<=g)(J:g < K.G.length)(q:∀I,Sm S I->Q (zQ (Sn.step K a g j)) I):Ok (evC ae (k+3) 33 [skE K,ahE a,.int g,.int j] S) Q:=by
 refine ay (d:=cD) (ρ:=[aw (skE K),aw (ahE a),aw (.int g),aw (.int j),aD,aD,aD,aD,aD,aD,aD,aD]) rfl rfl ?_;dsimp only[cD,eN];obtain⟨l,b,c,d,e,f,h,X,O,e1,B,U,e6,k0,Z,L⟩:=gl7 V y J;k_is;refine aa sk2 (aa (mX y X) ?_);rw[show ag [l,b,c,d,e,f,h] = .tup [.int l,.int b,.int c,.int d,.int e,.int f,.int h] from rfl];k_is;refine aa sk0 ?_;refine⟨rfl,HF V Y k0 Z ?_⟩;k_is;refine⟨rfl,Oo V.h4 ?_⟩;k_is
 have T:fns K.H (if zO K a l > c then zO K a l else c)=opm K.H (bD K a g):=by
  have:=Dj (K:=K) (ah:=a) (g:=g) (by rw[B];exact L);rw[O,B] at this;rw[this,xV V.ris]
 rw[T];have es:Sn.step K a g j=if (decide (d < opm K.H (bD K a g)) || nP K j (opm K.H (bD K a g)))=aN then aD else aw (opm K.H (bD K a g)):=by unfold Sn.step;rw[U]
 rw[es] at q;cases u:decide (d < opm K.H (bD K a g)) with
 |true=>rw[u] at q;k_is;exact q S (Sm.refl S)
 |false=>
  rw[u] at q;k_is;refine⟨rfl,HI V λv z=>?_⟩;k_is;cases C:nP K j (opm K.H (bD K a g)) with
  |true=>rw[C] at q;k_is;exact q v z
  |false=>rw[C] at q;k_is;exact q v z
def Sm.setNew{f:Nat}(h:Sm S b)(c:S.length<=f):Sm S (b.set f o):=λi u e=>by
 have hi:=(Zb.mp e).1;rw[Zz (by lia)];exact h i u e
def Oq{g:Int}(c:0<=g)(b:g < K.G.length):jn K g ∈ js K:=by
 have hi:g.toNat < K.G.length:=by lia
 refine(bz _).mem_iff.mpr (ZA.mpr ⟨K.G[g.toNat],ZO hi,?_⟩);unfold jn gi;rw[gEG hi];rfl
def tP(V:Vd K)(u:InG K L):∀q,aO K L=aw q->0<=q.1/\q.1 < K.M.length:=λq e=>by
 unfold aO at e;cases h:L.getLast? with
 |none=>rw[h] at e;exact V.ah0 q e
 |some z=>
  rw[h] at e;cases e;have j:=u z (Xk h);obtain⟨a,b,c,d,e,f,h,I,l,C,B,O,J,v,y,T⟩:=gl7 V j.1 j.2;show 0<=gi K.G z.1 0/\gi K.G z.1 0 < K.M.length;rw[l];exact⟨v,y⟩
def bq:aO K (L++[z])=aw (gi K.G z.1 0,z.2):=by
 unfold aO;rw[YO];rfl
def Dq:∀ (os:List Int) (a:Option (Int × Int)) (L:List (Int × Int)) (j:Nat),rn K os a L = .inl j->j < L.length+os.length
 |[],_,_,_,h=>by cases h
 |g::os,a,L,j,h=>by
  rw[rn] at h;rw[Zo];split at h
  ·cases h;lia
  ·split at h
   ·cases h;lia
   ·have:=Dq os _ _ j h;rw[Zg,Zt] at this
    lia
def jf:∀ (os:List Int) (a:Option (Int × Int)) (L R:List (Int × Int)),rn K os a L = .inr R->R.length=L.length+os.length
 |[],_,_,_,h=>by cases h;rfl
 |g::os,a,L,R,h=>by
  rw[rn] at h;rw[Zo];split at h
  ·cases h
  ·split at h
   ·cases h
   ·have:=jf os _ _ R h;rw[Zg,Zt] at this
    lia
structure Ends(K:Sky)(os:List Int)(L:List (Int × Int)):Prop where
 stuck:∀j,rn K os K.ah [] = .inl j->L.length=j
 lands:∀R,rn K os K.ah [] = .inr R->L=R
def tQ(V:Vd K){os:List Int}(ho:∀g ∈ os,0<=g/\g < K.G.length)(lo:os.length<=7)
  (q:∀n L C,Sm S C->C[n]?=aw (.lst (L.map au))->Zx S<=n->Ends K os L->Q (.ref n) C):Ok (evC ae (k+5) 31 [skE K,.tup (os.map D.int)] S) Q:=by
 refine ay (d:=b8) (ρ:=[aw (skE K),aw (.tup (os.map D.int)),aD,aD,aD,aD]) rfl rfl ?_;dsimp only[b8,dq];k_is;refine Om (by rw[Za];lia) (λi Z C=>Sm S C/\∃L u v w,Z=[aw (skE K),aw (.tup (os.map D.int)),aw (.ref (Zx S)),u,v,w]/\C[Zx S]?=aw (.lst (L.map au))/\L.length=i/\InG K L/\rn K os K.ah []=rn K (os.drop i) (aO K L) L) (λi d Z S1 hd ⟨Y,L,u,v,w,er,I,hi,B,b⟩=>?_) (λZ S1 ⟨Y,L,u,v,w,er,I,hi,B,b⟩=>?_) ⟨Sm.app _ _,[],aD,aD,aD,rfl,bv,rfl,λ_ h=>(by simp at h),rfl⟩
 ·subst er;obtain⟨g,hg,rfl⟩:=v8 hd;have l:=ho g (Zd hg);have hil:i < os.length:=(Zb.mp hg).1;rw[xX hg,rn,hi] at b;refine⟨_,qI (by simp) (by simp),?_⟩;k_is;refine⟨rfl,tM V I B ?_⟩;refine⟨rfl,o7 V (tP V B) l.1 l.2 λc X=>?_⟩;k_is;cases J:Sn.step K (aO K L) g i with
  |none=>
   rw[J] at b;refine aa (show am .is (zQ aD) .non c=aw (.bl aN,c) from rfl) ?_;k_is;exact q _ L c (Y.trans X) (X _ _ I) (Zi _) ⟨λj e=>by rw[b] at e;cases e;exact hi,λR e=>by rw[b] at e;cases e⟩
  |some m=>
   rw[J] at b;refine aa (show am .is (zQ (aw m)) .non c=aw (.bl aS,c) from rfl) ?_;rw[show zQ (aw m) = .int m from rfl];k_is;have y:=X _ _ I;refine⟨gj y,?_⟩;rw[mU y (by rw[Za];lia)];k_is;have lt2:Zx S < c.length:=(Zb.mp y).1;have f:(c.set (Zx S) (Ob.lst (L.map au++[D.tup [D.int g,D.int m]])))[Zx S]?=aw (.lst ((L++[(g,m)]).map au)):=by rw[gh lt2,ZQ];rfl
   have s3:Sm S (c.set (Zx S) (Ob.lst (L.map au++[D.tup [D.int g,D.int m]]))):=Sm.setNew (Y.trans X) (Zi _);generalize c.set (Zx S) (Ob.lst (L.map au++[D.tup [D.int g,D.int m]]))=S3 at *
   have O:InG K (L++[(g,m)]):=λz hz=>by
    rcases ZM.mp hz with hz |hz
    ·exact B z hz
    ·rw[ZF.mp hz];exact l
   have hz3:(L++[(g,m)])[i]?=aw (g,m):=by rw[Zp (by lia),hi,Z8];rfl
   have U:(L++[(g,m)]).take i=L:=by rw[<-hi,Ww]
   refine⟨rfl,HH V f hz3 O (by rw[Zg,Zt];lia) λS4 T=>?_⟩;rw[U,HE λz hz=>Oq (B z hz).1 (B z hz).2];k_is;dsimp only at b;cases hh:cV K L g m with
   |true=>
    rw[hh,if_pos rfl] at b;k_is;refine aa (qS (T _ _ f)) ?_;k_is;have a5:(S4++[Ob.lst (((L++[(g,m)]).map au).take i)])[Zx S4]?=aw (.lst (L.map au)):=by rw[bv,<-XF,U]
    have l4:Zx S<=Zx S4:=Y4 (Zb.mp (T _ _ f)).1;exact q _ L _ ((s3.trans T).trans (Sm.app _ _)) a5 l4 ⟨λj e=>by rw[b] at e;cases e;exact hi,λR e=>by rw[b] at e;cases e⟩
   |false=>
    rw[hh,if_neg Zf] at b;k_is;exact⟨s3.trans T,L++[(g,m)],_,_,_,rfl,T _ _ f,by rw[Zg,Zt];lia,O,by rw[bq];exact b⟩
 ·subst er;k_is;rw[Za,Wm,rn] at b;exact q _ L S1 Y I (Zi _) ⟨λj e=>(by rw[b] at e;cases e),λR e=>(by rw[b] at e;cases e;rfl)⟩
end Lw
namespace Lw
open PySem Ev
variable {p:Nat} {S:Sto} {k:Nat} {Q:D->Sto->Prop}
end Lw
namespace Lw
open PySem Ev Sn
variable {p:Nat} {S:Sto} {k:Nat} {Q:D->Sto->Prop} {K:Sky}
def jg(r:List Int):TDs p S (r.map Dw.D.int) (r.map D.int):=by
 induction r with
 |nil=>exact cI
 |cons a r I=>exact aM b9 I
def jN:∀ (M:List (List Int)),TDs p S (Dw.A8 M) (M.map ag)
 |[]=>cI
 |r::M=>aM (dA (jg r)) (jN M)
abbrev ahT:Option (Int × Int)->Dw.D
 |none=>.non
 |some q=>.tup [.int q.1,.int q.2]
def Rv:∀ (a:Option (Int × Int)),TD p S (ahT a) (ahE a)
 |none=>LW
 |some q=>dA (aM b9 (aM b9 cI))
structure Ord(K:Sky)(os:List Int):Prop where
 nd:os.Nodup
 bd:∀g ∈ os,0<=g/\g < K.G.length
 ln:os.length=K.G.length
 fx:∃r,os=K.F++r
 pm:os.Perm ((Ze K.G.length).map λi=>Int.ofNat i)
def JC{b:List D}(i:Nat)(d:D)(h:b[i]?=aw d):(λi=>(b[i]?).getD .non) i=d:=by
 show(b[i]?).getD .non=d;rw[h];rfl
def gk{i:Int}(b:0<=i)(c:i < 1000):lim i=aN:=by simp only[lim,bAE,decide_eq_true_eq];lia
def Ot{n:Nat}{lo:Int}{T:Tg}{c:XA}{y:Rho}{Q:List D->Sto->Prop}(f:Nat->D)(hl:n<=1000)(step:∀ (i:Nat),i < n->∃b,aC T (.int (lo+i)) y=aw b/\Ok (c b S) λd l=>d=[f i]/\l=S)(q:Q ((Ze n).map f) S) :
  Ok (bu (nxR lo n) T c y LF 0 S) λd S2=>d.length<=100000/\Q d S2:=by
 refine vU (by lia) (λi j u=>u=S/\j=(Ze i).map f) (λi j u hi ⟨e,v⟩=>?_) (λd u ⟨e,v⟩=>?_) ⟨rfl,rfl⟩
 ·subst e;obtain⟨b,z,d,l,C,I,B⟩:=step i hi;exact⟨b,z,d,l,C,B,by rw[v,I,Xo,ZQ];rfl⟩
 ·subst e v;exact⟨by rw[Za,ZB];lia,q⟩
abbrev mid(M:List (List Int))(n c a:Nat):List (List Int):=(Ze n).map λi=>if i < a then Dw.aZ M n c i else (M[i]?).getD []
def jh{n c a i:Nat}(hi:i < n):(mid M n c a)[i]?=aw (if i < a then Dw.aZ M n c i else (M[i]?).getD []):=by
 unfold mid;rw[Zl,Ye hi];rfl
def Ds{n c:Nat}(h:Dw.Mat n M):mid M n c 0=M:=by
 apply YJ;intro i;by_cases hi:i < n
 ·rw[jh hi,if_neg (by lia)];have:i < M.length:=by rw[h.len];exact hi
  rw[gEG this];rfl
 ·rw[Zv (by unfold mid;rw[Za,ZB];lia),Zv (by rw[h.len];lia)]
def HJ{n c:Nat}:mid M n c n=(Ze n).map (Dw.aZ M n c):=by
 unfold mid;refine Yd λi hi=>?_;rw[if_pos (ZJ.mp hi)]
def HK{n c a:Nat}(d:a < n):(mid M n c a).set a (Dw.aZ M n c a)=mid M n c (a+1):=by
 apply YJ;intro i;by_cases hi:i < n
 ·rw[jh hi];by_cases b:i=a
  ·subst b;rw[ZU (by unfold mid;rw[Za,ZB];lia),if_pos (by lia)]
  ·rw[Zz (Ne.symm b),jh hi];by_cases h:i < a
   ·rw[if_pos h,if_pos (by lia)]
   ·rw[if_neg h,if_neg (by lia)]
 ·rw[Zv (by rw[Z7];unfold mid;rw[Za,ZB];lia),Zv (by unfold mid;rw[Za,ZB];lia)]
def Rx{n c a b:Nat}(h:Dw.Mat n M)(hc:c < n)(hb:b < n):Dw.mg2 (mid M n c a) c b=Dw.mg2 M c b:=by
 unfold Dw.mg2;rw[jh hc];split
 ·rw[ZT,Dw.sd M hb];obtain⟨_,_,_,_,p1,_⟩:=h.at hc hc;show(if Dw.mg2 M c c+Dw.mg2 M c b < Dw.mg2 M c b then Dw.mg2 M c c+Dw.mg2 M c b else Dw.mg2 M c b)=_;rw[if_neg (by lia)];rfl
 ·rfl
def Ry{n c a b:Nat}(d:a < n):Dw.mg2 (mid M n c a) a b=Dw.mg2 M a b:=by
 unfold Dw.mg2;rw[jh d,if_neg (ZK _)];rfl
def RowsS.at(h:RowsS p S d M){n:Nat}{L:Nat}(b:S[L]?=aw (.lst d)){i j:Int}(I:0<=i)(J:0<=j)(c:∃r x,M[i.toNat]?=aw r/\r[j.toNat]?=aw x/\x=Dw.mg2 M i.toNat j.toNat) :
  ∃a,ixS (.ref L) (.int i) S=aw (.ref a,S)/\ixS (.ref a) (.int j) S=aw (.int (Dw.mg2 M i.toNat j.toNat),S):=by
 obtain⟨r,x,f,l,ex⟩:=c;obtain⟨a,q,u,z⟩:=h.row _ r f;exact⟨a,iA b I q,iA z J (by rw[Zl,l,ex];rfl)⟩
def v9{n i j:Nat}(hl:M.length=n)(f:∀r ∈ M,r.length=n)(hi:i < n)(d:j < n):∃r x,M[i]?=aw r/\r[j]?=aw x/\x=Dw.mg2 M i j:=by
 have b:i < M.length:=by lia
 have c:j < M[i].length:=by rw[f _ (ZO b)];exact d
 refine⟨M[i],M[i][j],gEG b,gEG c,?_⟩;unfold Dw.mg2;rw[gEG b,ZT,gEG c];rfl
def Dt{n c a:Nat}(h:Dw.Mat n M):∀r ∈ mid M n c a,r.length=n:=λr b=>by
 unfold mid at b;obtain⟨i,hi,rfl⟩:=ZA.mp b;have hi:=ZJ.mp hi;split
 ·exact Dw.r9 M n c i
 ·have:i < M.length:=by rw[h.len];exact hi
  rw[gEG this];exact h.row _ (ZO this)
def HL{n c a:Nat}:(mid M n c a).length=n:=by unfold mid;rw[Za,ZB]
def RowsS.set{L i a:Nat}(h:RowsS p S d M)(B:S[L]?=aw (.lst d))(hi:i < M.length)(u:a ≠ p)(z:S[a]?=aw (.lst (r.map D.int)))(v:a ≠ L)(y:∀ (i:Nat) r b,M[i]?=aw r->d[i]?=aw (D.ref b)->b ≠ L):RowsS p (S.set L (.lst (d.set i (.ref a)))) (d.set i (.ref a)) (M.set i r):=by
 refine⟨by rw[Z7,Z7];exact h.len,λj l c=>?_⟩;by_cases f:j=i
 ·subst f;rw[ZU hi] at c;cases c;exact⟨a,by rw[ZU (by rw[h.len];exact hi)],u,by rw[Zz (Ne.symm v)];exact z⟩
 ·rw[Zz (Ne.symm f)] at c;obtain⟨b,q,nb,Z⟩:=h.row j l c;have:=y j l b c q;exact⟨b,by rw[Zz (Ne.symm f)];exact q,nb,by rw[Zz (Ne.symm this)];exact Z⟩
def HM{L n:Nat}(h:RowsS p S d M)(q:S[L]?=aw (.lst d))(v:∀r ∈ M,0 < r.length):∀ (i:Nat) r b,M[i]?=aw r->d[i]?=aw (D.ref b)->b ≠ L:=λi r b l c u=>by
 obtain⟨B,j,_,z⟩:=h.row i r l;rw[c] at j;cases j;rw[u,q] at z;cases z;rw[Zl] at c;cases f:r[i]? with
 |none=>rw[f] at c;cases c
 |some x=>rw[f] at c;cases c
end Lw
namespace Lw
open PySem Ev Sn L2
variable {p:Nat} {S:Sto} {k:Nat} {Q:D->Sto->Prop} {K:Sky}
def Kp.len{p:Nat}(h:Ev.Kp p S b)(f:p < b.length):S.length<=b.length:=by
 by_cases d:S.length<=b.length
 ·exact d
 ·exfalso;have c:b.length < S.length:=by lia
  have:=h b.length S[b.length] (by lia) (gEG c);rw[Zv (Zi _)] at this;cases this
def xZ{n:Nat}{i:Int}(c:S[n]?=aw (.lst d))(f:0<=i)(j:i.toNat < d.length):jz (.ref n) (.int i) v S=aw (S.set n (.lst (d.set i.toNat v))):=by
 have b:ixN d.length i=aw i.toNat:=by
  unfold ixN;rw[if_pos (by lia),if_pos (by lia)]
 simp only[jz,c,b,ZN]
def Du{n L:Nat}(z:S[L]?=aw (.lst l))(B:RowsS p S l M)(y:Dw.Mat n M)(T:n<=4)(q:∀d,Sm S d->Q (.tup (M.map ag)) d) :
  rW (wSs (evC ae (k+1)) (gO ae) 57 (fc.drop 3)) [aw pt,u,v,aw (.ref L),w,x] S (out Q):=by
 dsimp only[fc,Xu];k_is;refine⟨by rw[aE z];rfl,?_⟩;have le:l.length=n:=by rw[B.len,y.len]
 refine mS n (λi=>(l[i]?).getD .non) (λi b d=>d=S/\b=(M.take i).map ag) (λi b d hi ⟨e,_⟩=>by subst e;rw[<-le];exact CN z _ JC) (by lia) (λi b c hi ⟨j,f⟩=>?_) (λI c ⟨j,f⟩=>⟨by rw[f,Za,Yh];lia,?_⟩) ⟨rfl,rfl⟩
 ·subst j;have C:i < M.length:=by rw[y.len];exact hi
  obtain⟨a,J,O,Z⟩:=B.row i M[i] (gEG C);simp only[J,ZT];refine⟨_,rfl,?_⟩;k_is;refine aa (show ao cX (.ref a) c=aw (.tup (M[i].map D.int),c) by simp only[ao,av,aE Z,ZN,cX]) ?_;refine⟨rfl,?_⟩;rw[f,Z5 C,ZQ];rfl
 ·subst j;rw[YE (by rw[y.len];exact Zi _)] at f;subst f;refine aa (show cX aS (M.map ag) c=aw (.tup (M.map ag),c) from rfl) ?_;k_is;exact q c (Sm.refl _)
def Dv(h:Pot p S)(q:∀n M z,Dr p S z->Dw.Mat n M->1<=n->n<=4->Dw.rZ n n M->Q (.tup (M.map ag)) z):Ok (evC ae (k+2) 51 [.ref p] S) Q:=by
 refine ay (d:=iu) (ρ:=[aw (.ref p),aD,aD,aD,aD,aD]) rfl rfl ?_;dsimp only[iu,fc];k_is;refine⟨rfl,aA h (by decide) (by decide) λr0 S0 r1 r2 d0=>?_⟩;k_is;refine⟨rfl,aA d0.pot (by decide) (by decide) λf0 S1 f1 f2 d01=>?_⟩;k_is;have d1:=d0.trans d01;obtain⟨n,rfl⟩:∃n:Nat,r0=(n:Int):=⟨r0.toNat,by lia⟩
 obtain⟨far,at1,hf⟩:∃e:Int,atI [D.int 3,D.int 12,D.int 40] f0=aw (D.int e)/\0 < e/\e<=40:=by
  have:f0=0\/f0=1\/f0=2:=by lia
  rcases this with rfl |rfl |rfl
  ·exact⟨3,rfl,by decide,by decide⟩
  ·exact⟨12,rfl,by decide,by decide⟩
  ·exact⟨40,rfl,by decide,by decide⟩
 refine⟨_,at1,?_⟩;k_is;have e1:((1:Int)+n).toNat=n+1:=by lia
 have l1:lim (1+(n:Int))=aN:=gk (by lia) (by lia);refine⟨l1,?_⟩;rw[e1];refine vU (by lia) (λi B z=>Dr p S1 z/\∃M:List (List Int),M.length=i/\RowsS p z B M/\∀r ∈ M,r.length=n+1/\∀x ∈ r,1<=x/\x<=99) (λi B I hi ⟨d2,M,lM,rM,bM⟩=>⟨_,rfl,?_⟩) (λf I ⟨d2,M,lM,rM,bM⟩=>⟨by rw[rM.len];lia,?_⟩) ⟨Dr.refl d1.pot,[],rfl,RowsS.nil,λr l=>by simp at l⟩
 ·k_is;refine⟨l1,?_⟩;rw[e1];refine vU (by lia) (λj B z=>Dr p I z/\∃r:List Int,B=r.map D.int/\r.length=j/\∀x ∈ r,1<=x/\x<=99) (λj B S3 hj ⟨J,r,ea,lr,br⟩=>⟨_,rfl,?_⟩) (λf S3 ⟨J,r,ea,lr,br⟩=>⟨by rw[ea,Za];lia,?_⟩) ⟨Dr.refl d2.pot,[],rfl,rfl,λx hx=>by simp at hx⟩
  ·k_is;refine⟨rfl,aA J.pot hf.1 (by lia) λx S4 x1 x2 d4=>?_⟩;k_is;refine⟨J.trans d4,r++[1+x],by rw[ea,ZQ];rfl,by simp[lr],λy hy=>?_⟩;rcases ZM.mp hy with hy |hy
   ·exact br y hy
   ·simp at hy;lia
  ·subst ea;k_is;have lt:=J.pot.lt;refine⟨(d2.trans J).thenSm (Sm.app _ _),M++[r],by simp[lM],((rM.keep J.kp).keep (Sm.app _ _).kp).snoc (by lia) bv,λr' hr'=>?_⟩;rcases ZM.mp hr' with hr' |hr'
   ·exact bM r' hr'
   ·simp at hr';subst hr';exact⟨lr,br⟩
 ·have lt2:=d2.pot.lt;have J:Dr p S (I++[Ob.lst f]):=(d1.trans d2).thenSm (Sm.app _ _);have r3:RowsS p (I++[Ob.lst f]) f M:=rM.keep (Sm.app _ _).kp;have a3:(I++[Ob.lst f])[I.length]?=aw (Ob.lst f):=bv;have m3:Dw.Mat (n+1) M:=⟨lM,λr l=>(bM r l).1,λr l=>(bM r l).2⟩;have lS:S.length<=I.length:=Kp.len (d1.trans d2).kp lt2;have ne3:I.length ≠ p:=by lia
  revert a3 r3 J;generalize I++[Ob.lst f]=S3;generalize I.length=L at *;intro J r3 a3;k_is;refine⟨l1,?_⟩;rw[e1];refine ko (by lia) (λc U z=>Dr p S z/\∃f M u v,U=[aw (.ref p),aw (.int (1+(n:Int))),aw (.int far),aw (.ref L),u,v]/\z[L]?=aw (.lst f)/\RowsS p z f M/\Dw.Mat (n+1) M/\Dw.rZ (n+1) c M) (λc U S4 hc ⟨d4,f,M,u,v,er,C,l,O,tr⟩=>?_) (λU S4 ⟨d4,f,M,u,v,er,C,l,O,tr⟩=>?_) ⟨J,f,M,aD,aD,rfl,a3,r3,m3,λ_ _ _ _ _ h=>absurd h (Wr _)⟩
  ·subst er;refine⟨_,rfl,?_⟩;k_is;refine⟨l1,?_⟩;rw[e1];refine ko (by lia) (λa U z=>Dr p S z/\∃f v,U=[aw (.ref p),aw (.int (1+(n:Int))),aw (.int far),aw (.ref L),aw (.int (0+(c:Int))),v]/\z[L]?=aw (.lst f)/\RowsS p z f (mid M (n+1) c a)) (λa U Y ha ⟨d5,f,v,er,C,l⟩=>?_) (λU Y ⟨d5,f,v,er,C,l⟩=>?_) ⟨d4,f,v,rfl,C,by rw[Ds O];exact l⟩
   ·subst er;refine⟨_,rfl,?_⟩;k_is;refine⟨l1,?_⟩;rw[e1];have ml:=@HL M (n+1) c a;have mr:=Dt (c:=c) (a:=a) O;have Z:∀x:Nat,((0:Int)+x).toNat=x:=λx=>by lia
    refine Ot (λb=>.int (if Dw.mg2 M a c+Dw.mg2 M c b < Dw.mg2 M a b then Dw.mg2 M a c+Dw.mg2 M c b else Dw.mg2 M a b)) (by lia) (λb hb=>⟨_,rfl,?_⟩) ?_
    ·k_is;obtain⟨x1,i1,j1⟩:=RowsS.at (n:=0) l C (i:=0+(a:Int)) (j:=0+(b:Int)) (by lia) (by lia) (by rw[Z,Z];exact v9 ml mr ha hb);obtain⟨x2,i2,j2⟩:=RowsS.at (n:=0) l C (i:=0+(a:Int)) (j:=0+(c:Int)) (by lia) (by lia) (by rw[Z,Z];exact v9 ml mr ha hc);obtain⟨x3,i3,j3⟩:=RowsS.at (n:=0) l C (i:=0+(c:Int)) (j:=0+(b:Int)) (by lia) (by lia) (by rw[Z,Z];exact v9 ml mr hc hb);rw[Z,Z,Ry ha] at j1 j2;rw[Z,Z,Rx O hc hb] at j3;refine aa i1 (aa j1 (aa i2 (aa j2 (aa i3 (aa j3 ?_)))));k_is;exact⟨rfl,rfl⟩
    ·have ef:((Ze (n+1)).map λb=>D.int (if Dw.mg2 M a c+Dw.mg2 M c b < Dw.mg2 M a b then Dw.mg2 M a c+Dw.mg2 M c b else Dw.mg2 M a b))=(Dw.aZ M (n+1) c a).map D.int:=by unfold Dw.aZ;rw[Z0];rfl
     rw[ef];k_is;have lt5:=d5.pot.lt;have X:=Sm.app Y [Ob.lst ((Dw.aZ M (n+1) c a).map D.int)] _ _ C;have lL:L < Y.length:=(Zb.mp C).1;have le:f.length=n+1:=by rw[l.len,ml]
     refine⟨_,xZ X (by lia) (by lia),?_⟩;k_is;rw[Z];have hr':RowsS p (Y++[Ob.lst ((Dw.aZ M (n+1) c a).map D.int)]) f (mid M (n+1) c a):=l.keep (Sm.app _ _).kp;have hr2:=RowsS.set (i:=a) (a:=Y.length) (r:=Dw.aZ M (n+1) c a) hr' X (by lia) (by lia) bv (by lia) (HM (n:=0) hr' X λr hh=>by rw[mr r hh];lia);rw[HK ha] at hr2;have kA:Ev.Kp p S ((Y++[Ob.lst ((Dw.aZ M (n+1) c a).map D.int)]).set L (.lst (f.set a (.ref Y.length)))):=(d5.kp.trans (Sm.app _ _).kp).setNew lS;refine⟨⟨kA,((Dr.sm d5.pot (Sm.app _ _)).pot).setNe ne3⟩,_,_,rfl,?_,hr2⟩;rw[gh (by rw[Zg];lia)]
   ·subst er;k_is;rw[HJ] at l;exact⟨d5,f,_,_,_,rfl,C,l,Dw.A9 O hc,Dw.A7 O hc tr (Dw.EV O hc)⟩
  ·subst er;have T:=Du (k:=k) (p:=p) (Q:=Q) (pt:=.ref p) (u:=aw (.int (1+(n:Int)))) (v:=aw (.int far)) (w:=u) (x:=v) C l O (by lia) λz sm=>q (n+1) M z (d4.thenSm sm) O (by lia) (by lia) tr;dsimp only[fc,Xu] at T;exact T
def tR:∀ {H:List (Int × Int)} {lo x y:Int},Ris lo H->lo < x->(∀q ∈ H,q.2 < x)->x < y->Ris lo (H++[(x,y)])
 |[],lo,x,y,_,h1,_,h3=>⟨h1,h3,trivial⟩
 |q::H,lo,x,y,h,h1,h2,h3=>by
  rw[Ris] at h;exact⟨h.1,h.2.1,tR h.2.2 (h2 q Zk) (λr b=>h2 r (Zh _ b)) h3⟩
def qU:∀ {H:List (Int × Int)} {lo:Int} {q:Int × Int},Ris lo H->q ∈ H->lo < q.1/\q.1 < q.2
 |q'::H,lo,q,h,hq=>by
  rw[Ris] at h;rcases Zn.mp hq with rfl |hq
  ·exact⟨h.1,h.2.1⟩
  ·have:=qU h.2.2 hq
   lia
def tS:∀ {H:List (Int × Int)} {lo:Int},Ris lo H->∀ (i:Nat) q b,H[i]?=aw q->H[i+1]?=aw b->q.2 < b.1
 |q0::H,lo,h,0,q,b,e1,e2=>by
  rw[Ris] at h;cases e1;rw[Yy] at e2;exact(qU h.2.2 (Zd e2)).1
 |q0::H,lo,h,i+1,q,b,e1,e2=>by
  rw[Ris] at h;rw[Yy] at e1 e2;exact tS h.2.2 i q b e1 e2
structure MeOk(r s:Int)(M:List (List Int))(H:List (Int × Int)):Prop where
 r0:0<=r
 r8:r<=8
 s0:0<=s
 s60:s<=60
 mat:Dw.Mat M.length M
 m1:1<=M.length
 m4:M.length<=4
 tri:Dw.rZ M.length M.length M
 ris:Ris (-1) H
 h4:H.length<=4
 hb:∀q ∈ H,q.2<=9999
def wa(h:Pot p S)(q:∀r s M H J,Dr p S J->MeOk r s M H->Q (.tup [.int r,.int s,.tup (M.map ag),.tup (H.map au)]) J):Ok (evC ae (k+3) 52 [.ref p] S) Q:=by
 refine ay (d:=fo) (ρ:=[aw (.ref p),aD,aD,aD,aD]) rfl rfl ?_;dsimp only[fo,i8];have lt:=h.lt;k_is;have d0:Dr p S (S++[Ob.lst []]):=Dr.sm h (Sm.app _ _);have a0:(S++[Ob.lst []])[Zx S]?=aw (Ob.lst (([]:List (Int × Int)).map au)):=bv;have z:Zx S ≠ p:=by lia
 generalize S++[Ob.lst []]=S0 at *;refine⟨rfl,aA d0.pot (by decide) (by decide) λi0 S1 i1 i2 X=>?_⟩;k_is
 obtain⟨fr,at1,hf⟩:∃e:Int,atI [D.int 1,D.int 5] i0=aw (D.int e)/\0 < e/\e<=5:=by
  have:i0=0\/i0=1:=by lia
  rcases this with rfl |rfl
  ·exact⟨1,rfl,by decide,by decide⟩
  ·exact⟨5,rfl,by decide,by decide⟩
 refine⟨_,at1,?_⟩;refine⟨rfl,aA X.pot hf.1 (by lia) λn0 S2 n1 n2 d2=>?_⟩;k_is;obtain⟨n,rfl⟩:∃n:Nat,n0=(n:Int):=⟨n0.toNat,by lia⟩;refine⟨gk (by lia) (by lia),?_⟩;rw[ZI];have d02:=(d0.trans X).trans d2;have a2:=(X.trans d2).kp _ _ z a0;refine ko (by lia) (λi T J=>Dr p S J/\∃ (H:List (Int × Int)) (b:Int) (u v:Option D),T=[aw (.ref p),aw (.ref (Zx S)),aw (.int b),u,v]/\J[Zx S]?=aw (.lst (H.map au))/\H.length=i/\Ris (-1) H/\(∀q ∈ H,q.2 < b)/\0<=b/\b<=60 * i) (λi T S3 hi ⟨l,H,b,u,v,er,Y,hl,Z,L,b0,b1⟩=>?_) (λT S3 ⟨l,H,b,u,v,er,Y,hl,Z,L,b0,b1⟩=>?_) ⟨d02,[],0,aD,aD,rfl,a2,rfl,trivial,λq hq=>by simp at hq,by decide,by decide⟩
 ·subst er;refine⟨_,rfl,?_⟩;k_is;refine⟨rfl,aA l.pot (by decide) (by decide) λx S4 x1 x2 c=>?_⟩;k_is;have B:=c.kp _ _ z Y;refine⟨gj B,?_⟩;refine⟨rfl,aA c.pot (by decide) (by decide) λy O y1 y2 f=>?_⟩;k_is;have j:=f.kp _ _ z B;rw[mU j (by rw[Za];lia)];k_is;have U:Zx S < O.length:=(Zb.mp j).1;have f5:(O.set (Zx S) (Ob.lst (H.map au++[D.tup [D.int (b+x),D.int (b+x+1+y)]])))[Zx S]?=aw (Ob.lst (H.map au++[D.tup [D.int (b+x),D.int (b+x+1+y)]])):=gh U;refine aa (qK f5) (aa (show ixS (D.tup [D.int (b+x),D.int (b+x+1+y)]) (.int 1) (O.set (Zx S) (Ob.lst (H.map au++[D.tup [D.int (b+x),D.int (b+x+1+y)]])))=aw (.int (b+x+1+y),_) from rfl) ?_);k_is;refine⟨⟨((l.kp.trans c.kp).trans f.kp).setNew (Zi _),f.pot.setNe z⟩,H++[(b+x,b+x+1+y)],_,_,_,rfl,by rw[f5,ZQ];rfl,by rw[Zg,Zt];lia,tR Z (by lia) (λq hq=>by have:=L q hq;lia) (by lia),λq hq=>?_,by lia,by lia⟩;rcases ZM.mp hq with hq |hq
  ·have:=L q hq;lia
  ·rw[ZF.mp hq];show b+x+1+y < b+x+1+y+1;lia
 ·subst er;k_is;refine⟨rfl,aA l.pot (by decide) (by decide) λI S4 j3 k3 c=>?_⟩;k_is
  obtain⟨r,at3,h3⟩:∃e:Int,atI [D.int 8,D.int 1,D.int 2,D.int 3,D.int 0] I=aw (D.int e)/\0<=e/\e<=8:=by
   have:I=0\/I=1\/I=2\/I=3\/I=4:=by lia
   rcases this with rfl |rfl |rfl |rfl |rfl
   ·exact⟨8,rfl,by decide,by decide⟩
   ·exact⟨1,rfl,by decide,by decide⟩
   ·exact⟨2,rfl,by decide,by decide⟩
   ·exact⟨3,rfl,by decide,by decide⟩
   ·exact⟨0,rfl,by decide,by decide⟩
  refine⟨_,at3,?_⟩;refine⟨rfl,aA c.pot (by decide) (by decide) λC O j5 k5 f=>?_⟩;k_is
  obtain⟨s,at5,h5⟩:∃e:Int,atI [D.int 0,D.int 2,D.int 9,D.int 60] C=aw (D.int e)/\0<=e/\e<=60:=by
   have:C=0\/C=1\/C=2\/C=3:=by lia
   rcases this with rfl |rfl |rfl |rfl
   ·exact⟨0,rfl,by decide,by decide⟩
   ·exact⟨2,rfl,by decide,by decide⟩
   ·exact⟨9,rfl,by decide,by decide⟩
   ·exact⟨60,rfl,by decide,by decide⟩
  refine⟨_,at5,?_⟩;refine⟨rfl,Dv f.pot λm M S6 d6 hM m1 m4 tr=>?_⟩;have hn6:=((c.trans f).trans d6).kp _ _ z Y;refine aa (show ao cX (.ref (Zx S)) S6=aw (.tup (H.map au),S6) by simp only[ao,av,aE hn6,ZN,cX]) ?_;k_is;obtain rfl:=hM.len;exact q r s M H S6 (l.trans ((c.trans f).trans d6)) ⟨h3.1,h3.2,h5.1,h5.2,hM,m1,m4,tr,Z,by lia,λq hq=>by have:=L q hq;lia⟩
end Lw
namespace Lw
open PySem Ev Sn L2
variable {p:Nat} {S S':Sto} {k:Nat} {Q:D->Sto->Prop} {K:Sky}
structure Gs(p N hi:Nat)(S:Sto)(es:List D)(G:List (List Int)):Prop where
 pN:p < N
 at_:S[N]?=aw (.lst es)
 len:es.length=G.length
 row:∀ (i:Nat) g,G[i]?=aw g->∃a,es[i]?=aw (D.ref a)/\N < a/\a < hi/\S[a]?=aw (.lst (g.map D.int))
 inj:∀ (i j a:Nat),es[i]?=aw (D.ref a)->es[j]?=aw (D.ref a)->i=j
section
variable {N hi hi':Nat} {es:List D} {G:List (List Int)}
def Gs.keep(h:Gs p N hi S es G)(kp:Ev.Kp p S S'):Gs p N hi S' es G:=by
 have pN:=h.pN;refine⟨h.pN,kp _ _ (by lia) h.at_,h.len,λi g b=>?_,h.inj⟩;obtain⟨a,e,c,d,z⟩:=h.row i g b;exact⟨a,e,c,d,kp _ _ (by lia) z⟩
def Gs.up(h:Gs p N hi S es G)(d:hi<=hi'):Gs p N hi' S es G:=by
 refine⟨h.pN,h.at_,h.len,λi g b=>?_,h.inj⟩;obtain⟨a,e,c,f,z⟩:=h.row i g b;exact⟨a,e,c,by lia,z⟩
def Gs.other(h:Gs p N hi S es G){f:Nat}(j:hi<=f)(hN:N < hi):Gs p N hi (S.set f o) es G:=by
 refine⟨h.pN,by rw[Zz (by lia)];exact h.at_,h.len,λi g b=>?_,h.inj⟩;obtain⟨a,e,d,c,z⟩:=h.row i g b;exact⟨a,e,d,c,by rw[Zz (by lia)];exact z⟩
def Gs.snoc(h:Gs p N S.length S es G):Gs p N (S.length+1) ((S++[Ob.lst (g.map D.int)]).set N (.lst (es++[D.ref S.length]))) (es++[D.ref S.length]) (G++[g]):=by
 have L:N < S.length:=(Zb.mp h.at_).1
 have O:∀ (i a:Nat),es[i]?=aw (D.ref a)->a < S.length:=λi a e=>by
  have hi:i < G.length:=by rw[<-h.len];exact(Zb.mp e).1
  obtain⟨b,f,v,l,_⟩:=h.row i G[i] (gEG hi);rw[e] at f;cases f;exact l
 refine⟨h.pN,by rw[gh (by rw[Zg];lia)],by rw[Zg,Zg,h.len];rfl,λi y c=>?_,λi j a B f=>?_⟩
 ·by_cases hi:i < G.length
  ·rw[Zw hi] at c;obtain⟨a,e,v,l,z⟩:=h.row i y c;exact⟨a,by rw[Zw (by rw[h.len];exact hi)];exact e,v,by lia,by rw[Zz (by lia),Zw l];exact z⟩
  ·have u:=(Zb.mp c).1;rw[Zg,Zt] at u;obtain rfl:i=G.length:=by lia
   rw[Zp (Zi _),Z8] at c;cases c;exact⟨S.length,by rw[Zp (by rw[h.len];lia),h.len,Z8];rfl,L,by lia,by rw[Zz (by lia),bv]⟩
 ·have d:∀ (i:Nat),(es++[D.ref S.length])[i]?=aw (D.ref a)->(i < es.length/\es[i]?=aw (D.ref a))\/(i=es.length/\a=S.length):=λi e=>by
   by_cases hi:i < es.length
   ·rw[Zw hi] at e;exact .inl ⟨hi,e⟩
   ·have u:=(Zb.mp e).1;rw[Zg,Zt] at u;obtain rfl:i=es.length:=by lia
    rw[Zp (Zi _),Z8] at e;cases e;exact .inr ⟨rfl,rfl⟩
  rcases d i B with ⟨I,q⟩ |⟨I,q⟩ <;> rcases d j f with ⟨C,Z⟩ |⟨C,Z⟩
  ·exact h.inj i j a q Z
  ·have:=O i a q;lia
  ·have:=O j a Z;lia
  ·lia
def Gs.setRow(h:Gs p N hi S es G){i a:Nat}(hi':i < G.length)(q:es[i]?=aw (D.ref a)):Gs p N hi (S.set a (.lst (g.map D.int))) es (G.set i g):=by
 obtain⟨b,u,B,v,C⟩:=h.row i G[i] (gEG hi');rw[q] at u;cases u;have la:=(Zb.mp C).1;refine⟨h.pN,by rw[Zz (by lia)];exact h.at_,by rw[Z7];exact h.len,λj y d=>?_,h.inj⟩;by_cases f:j=i
 ·subst f;rw[ZU hi'] at d;cases d;exact⟨a,q,B,v,gh la⟩
 ·rw[Zz (Ne.symm f)] at d;obtain⟨c,l,m1,I,Z⟩:=h.row j y d;have:c ≠ a:=λz=>f (by rw[z] at l;exact h.inj j i a l q);exact⟨c,l,m1,I,by rw[Zz (Ne.symm this)];exact Z⟩
end
abbrev GX(x:Int)(n:Nat)(r s:Int)(g:List Int):Prop:=∃b j f la d c l:Int,g=[b,j,f,la,d,c,l]/\0<=b/\b < n/\0<=j/\j+s<=f/\f<=la/\la<=x/\0<=d/\d<=x/\0<=c/\c<=99/\0<=l/\l<=r
def GX.up{x y:Int}{n:Nat}{r s:Int}(h:GX x n r s g)(q:x<=y):GX y n r s g:=by
 obtain⟨b,j,f,la,d,c,l,e,z⟩:=h;exact⟨b,j,f,la,d,c,l,e,by omega⟩
abbrev GB(n:Nat)(r s:Int)(g:List Int):Prop:=GX 530 n r s g
structure SkOk(K:Sky):Prop where
 me:MeOk K.r K.s K.M K.H
 g7:K.G.length<=7
 gb:∀g ∈ K.G,GX 9999 K.M.length K.r K.s g
 nd:K.F.Nodup
 bd:∀x ∈ K.F,0<=x/\x < K.G.length
 rg:∀ (j:Nat) g,K.G[j]?=aw g->g.getD 6 0=0\/(j:Int) ∈ K.F
 ah:∀q,K.ah=aw q->0<=q.1/\q.1 < K.M.length/\0<=q.2/\q.2<=9999
def SkOk.vd(h:SkOk K):Vd K:=by
 refine⟨h.me.r0,h.me.r8,h.me.s0,h.me.s60,h.me.m1,h.me.m4,h.me.mat.row,h.me.ris,h.me.h4,λq e=>⟨(h.ah q e).1,(h.ah q e).2.1⟩,h.g7,λg c=>?_⟩;obtain⟨l,j,f,la,v,u,z,rfl,d,b,y,h4,_⟩:=h.gb g c;have:=h.me.s0;refine⟨rfl,d,b,?_⟩;show 0<=f
 lia
abbrev jO(K:Sky):List Int:=((Ze K.G.length).filter λ(j:Nat)=>!decide ((j:Int) ∈ K.F)).map λ(j:Nat)=>(j:Int)
def qV(x:Int):x ∈ jO K ↔ (0<=x/\x < K.G.length/\x ∉ K.F):=by
 unfold jO;rw[ZA];constructor
 ·rintro⟨j,d,rfl⟩;obtain⟨c,b⟩:=ZH.mp d;have:=ZJ.mp c;simp at b;exact⟨by lia,by lia,b⟩
 ·rintro⟨f,c,b⟩;refine⟨x.toNat,ZH.mpr ⟨ZJ.mpr (by lia),?_⟩,by lia⟩;have:((x.toNat:Nat):Int)=x:=by lia
  rw[this];simp[b]
def qW:(jO K).Nodup:=by
 unfold jO;refine YL.mpr ((YT.sublist YW).imp λh z=>h (by lia))
def Dx(h:SkOk K)(pm:l.Perm (jO K)):Ord K (K.F++l):=by
 have c:=qV (K:=K);have no:=qW (K:=K);have y:l.Nodup:=pm.nodup_iff.mpr no
 have nd:(K.F++l).Nodup:=Y5.mpr ⟨h.nd,y,λa B b hb e=>by
  have:=((c b).mp (pm.mem_iff.mp hb)).2.2;exact this (e ▸ B)⟩
 have bd:∀g ∈ K.F++l,0<=g/\g < K.G.length:=λg hg=>by
  rcases ZM.mp hg with hg |hg
  ·exact h.bd g hg
  ·have:=(c g).mp (pm.mem_iff.mp hg);exact⟨this.1,this.2.1⟩
 have v:((Ze K.G.length).map λi=>Int.ofNat i).Nodup:=YL.mpr (YT.imp λh z=>h (Int.ofNat.inj z))
 have f:(K.F++l).Perm ((Ze K.G.length).map λi=>Int.ofNat i):=(YR nd v).mpr λx=>by
  constructor
  ·intro d;have:=bd x d;exact ZA.mpr ⟨x.toNat,ZJ.mpr (by lia),by show((x.toNat:Nat):Int)=x;lia⟩
  ·intro d;obtain⟨j,u,rfl⟩:=ZA.mp d;have u:=ZJ.mp u;by_cases q:Int.ofNat j ∈ K.F
   ·exact ZY _ q
   ·refine ZE _ (pm.mem_iff.mpr ((c _).mpr ⟨?_,?_,q⟩))
    ·show 0<=(j:Int);lia
    ·show(j:Int) < K.G.length;lia
 have:=f.length_eq;rw[Za,ZB] at this;exact⟨nd,bd,this,⟨l,rfl⟩,f⟩
end Lw
namespace Lw
open PySem Ev Sn
variable {K:Sky}
structure KAt(K:Sky)(L:List (Int × Int))(j:Nat)(z:Int × Int):Prop where
 lo:gi K.G z.1 2<=z.2
 hi:z.2<=gi K.G z.1 3
 op:opm K.H z.2=z.2
 gap:∀a,aO K (L.take j)=aw a->a.2+gp K a.1 (gi K.G z.1 0)<=z.2
 wt:(wts K L (jn K z.1):Int)<=K.r
 rg:cV K (L.take j) z.1 z.2=aS
abbrev nQ(K:Sky)(L:List (Int × Int)):Prop:=∀ (j:Nat) z,L[j]?=aw z->KAt K L j z
def qX:∀ (l:List (Int × Int)) (m:Int),m<=opm l m
 |[],_=>ZP _
 |p::l,m=>by
  rw[opm];refine Wc ?_ (qX l _);split
  ·lia
  ·exact ZP _
def mZ:∀ {l:List (Int × Int)} {lo x y:Int},Ris lo l->x<=y->opm l x<=opm l y
 |[],_,_,_,_,h=>h
 |p::l,lo,x,y,h,hxy=>by
  rw[Ris] at h;rw[opm,opm];by_cases b:p.1<=x/\x < p.2
  ·rw[if_pos b];refine mZ h.2.2 ?_;split
   ·exact ZP _
   ·lia
  ·rw[if_neg b];refine mZ h.2.2 ?_;split
   ·lia
   ·exact hxy
def tU:∀ {l:List (Int × Int)} {lo x:Int},Ris lo l->opm l (opm l x)=opm l x
 |[],_,_,_=>rfl
 |p::l,lo,x,h=>by
  rw[Ris] at h;by_cases b:p.1<=x/\x < p.2
  ·have e:opm (p::l) x=p.2:=by rw[opm,if_pos b];exact jb h.2.2 (ZP _)
   rw[e,opm,if_neg (by lia)];exact jb h.2.2 (ZP _)
  ·have e:opm (p::l) x=opm l x:=by rw[opm,if_neg b]
   rw[e,opm];by_cases c:x < p.1
   ·have:opm l x=x:=jb h.2.2 (by lia);rw[this,if_neg b];exact this
   ·have:=qX l x;rw[if_neg (by lia)];exact tU h.2.2
inductive Low:List (Int × Int)->List (Int × Int)->Prop
 |nil:Low [] []
 |cons {p q:Int × Int} {P A:List (Int × Int)}:p.1=q.1->p.2<=q.2->Low P A->Low (p::P) (q::A)
def Low.len(h:Low P A):P.length=A.length:=by
 induction h with
 |nil=>rfl
 |cons _ _ _ I=>rw[Zo,Zo,I]
def Low.fst(h:Low P A):P.map (λp=>jn K p.1)=A.map λp=>jn K p.1:=by
 induction h with
 |nil=>rfl
 |cons e _ _ I=>rw[Zy,Zy,I,e]
def Low.snoc(h:Low P A)(c:p.1=q.1)(b:p.2<=q.2):Low (P++[p]) (A++[q]):=by
 induction h with
 |nil=>exact .cons c b .nil
 |cons e l _ I=>exact .cons e l I
def Low.wts{t:Int}(h:Low P A):wts K P t<=wts K A t:=by
 unfold Sn.wts
 induction h with
 |nil=>exact Zi _
 |@cons p q P A e l _ ih=>
  rw[Z2,Z2];by_cases b:aF K t p=aN
  ·have:aF K t q=aN:=by
    simp only[aF,bAE,decide_eq_true_eq] at b ⊢;rw[<-e]
    lia
   rw[if_pos b,if_pos this,Zo,Zo]
   lia
  ·rw[if_neg b];split
   ·rw[Zo];lia
   ·exact ih
def Low.last(h:Low P A):∀a,aO K P=aw a->∃b,aO K A=aw b/\a.1=b.1/\a.2<=b.2:=by
 have k:∀ {P A},Low P A->(P.getLast?=aD/\A.getLast?=aD)\/∃p q,P.getLast?=aw p/\A.getLast?=aw q/\p.1=q.1/\p.2<=q.2:=by
  intro P A h
  induction h with
  |nil=>exact .inl ⟨rfl,rfl⟩
  |@cons p q P A e l _ ih=>
   right;rcases ih with ⟨d,c⟩ |⟨u,Q,d,c,j⟩
   ·rw[List.getLast?_eq_none_iff] at d c;subst d c;exact⟨p,q,rfl,rfl,e,l⟩
   ·refine⟨u,Q,?_,?_,j⟩
    ·rw[Y1,d];rfl
    ·rw[Y1,c];rfl
 intro a f;unfold aO at f ⊢;rcases k h with ⟨d,c⟩ |⟨p,q,d,c,j,h4⟩
 ·rw[d] at f;rw[c];exact⟨a,f,rfl,ZP _⟩
 ·rw[d] at f;rw[c];cases f;exact⟨_,rfl,by rw[j],h4⟩
def x5(h:∀x ∈ A,∃y ∈ B,x<=y)(d:∀y ∈ B,0<=y):Bw 0 A<=Bw 0 B:=by
 cases A with
 |nil=>
  show 0<=Bw 0 B;cases B with
  |nil=>exact ZP _
  |cons b B=>
   rw[jd (by simp)];exact d _ (xW (by simp))
 |cons a A=>
  obtain⟨y,c,_⟩:=h a Zk;have:B ≠ []:=λz=>by rw[z] at c;simp at c
  rw[jd (by simp),jd this];exact v7 (by simp) h
def zR{g m m':Int}(h:Low P A)(k:m<=m'):jc K P g m<=jc K A g m':=by
 unfold jc;refine x5 (λx f=>?_) λy d=>?_
 ·obtain⟨t,b,rfl⟩:=ZA.mp f;refine⟨1+(wts K A t:Int),ZA.mpr ⟨t,?_,rfl⟩,by have:=h.wts (K:=K) (t:=t);lia⟩;unfold eS at b ⊢;obtain⟨c,j⟩:=ZH.mp b;rw[h.fst] at c;refine ZH.mpr ⟨c,?_⟩;simp only[bAE,decide_eq_true_eq] at j ⊢
  lia
 ·obtain⟨t,_,rfl⟩:=ZA.mp d
  lia
def zS{g m c:Int}(h:Low P A)(f:m<=c)(b:cV K A g c=aS):cV K P g m=aS:=by
 have:=zR (K:=K) (g:=g) h f;unfold cV at b ⊢;cases d:decide (0 < gi K.G g 6) with
 |false=>rfl
 |true=>
  rw[d,YZ] at b;rw[YZ];have:=of_decide_eq_false b;exact decide_eq_false (by lia)
def JD:∀ {l:List Int} {k:Nat} {j t:Int},l.Pairwise (·<=·)->l[k]?=aw j->t < j->(l.filter λx=>decide (x<=t)).length<=k
 |[],_,_,_,_,h,_=>by cases h
 |a::l,0,j,t,hp,h,ht=>by
  cases h
  have:(a::l).filter (λx=>decide (x<=t))=[]:=Xa.mpr λx hx=>by
   rw[decide_eq_true_eq];rcases Zn.mp hx with rfl |hx
   ·lia
   ·have:=(ZV.mp hp).1 x hx
    lia
  rw[this];exact Zi _
 |a::l,k+1,j,t,hp,h,ht=>by
  have I:=JD (k:=k) (ZV.mp hp).2 h ht;rw[Z2];split
  ·rw[Zo];lia
  ·lia
def Dy:∀ {l:List Int} {k:Nat} {j t:Int},l.Pairwise (·<=·)->l[k]?=aw j->j<=t->k+1<=(l.filter λx=>decide (x<=t)).length
 |[],_,_,_,_,h,_=>by cases h
 |a::l,0,j,t,hp,h,ht=>by
  cases h;rw[Z2,if_pos (decide_eq_true ht),Zo]
  lia
 |a::l,k+1,j,t,hp,h,ht=>by
  have I:=Dy (k:=k) (ZV.mp hp).2 h ht;have:a<=j:=(ZV.mp hp).1 j (Zd h);rw[Z2,if_pos (decide_eq_true (by lia)),Zo]
  lia
abbrev cj(K:Sky)(L:List (Int × Int))(t:Int):Nat:=(L.filter λp=>decide (jn K p.1<=t)).length
def x6{os:List Int}{L:List (Int × Int)}(j:Ord K os)(f:L.map (·.1)=os):(js K).Perm (L.map λp=>jn K p.1):=by
 have d:(L.map λp=>jn K p.1)=os.map (jn K):=by rw[<-f,Z0];rfl
 have c:(((Ze K.G.length).map λi=>Int.ofNat i).map (jn K))=K.G.map λg=>g.getD 1 0:=by
  rw[Z0];apply List.ext_getElem
  ·simp
  ·intro i k b;simp only[Za] at b;simp only[List.getElem_map,X7,Function.comp_apply,jn,gi];show((K.G[i]?).getD []).getD 1 0=_;rw[gEG b];rfl
 rw[d];refine(bz _).trans ?_;rw[<-c];exact(j.pm.map (jn K)).symm
def JE{os:List Int}{L:List (Int × Int)}{t:Int}(b:Ord K os)(c:L.map (·.1)=os):((js K).filter λx=>decide (x<=t)).length=cj K L t:=by
 rw[((x6 b c).filter _).length_eq,Xp,Za];rfl
def Dz{t:Int}:cj K (A++B) t=cj K A t+cj K B t:=by unfold cj;rw[Y2,Zg]
def x8{t:Int}:wts K (A++B) t=wts K A t+wts K B t:=by unfold Sn.wts;rw[Y2,Zg]
def Ou{t:Int}:wts K B t<=cj K B t:=kL λp _ h=>by
 simp only[aF,bAE] at h;exact h.1
def Ov{t:Int}(h:∀p ∈ B,t < p.2 - K.s):cj K B t<=wts K B t:=kL λp b c=>by
 simp only[aF,bAE];exact⟨c,decide_eq_true (h p b)⟩
def Rz(h:SkOk K)(a b:Int):0<=gp K a b:=by
 unfold gp Dw.mg2;cases e:K.M[a.toNat]? with
 |none=>simp
 |some r=>
  rw[ZT];cases c:r[b.toNat]? with
  |none=>simp[c]
  |some x=>
   have:=h.me.mat.ent r (Zd e) x (Zd c);simp[c]
   lia
def m6{b:Type}{A B:List b}{z:b}:(A++z::B)[A.length]?=aw z:=by rw[Zp (Zi _),Z8];rfl
def gm{b:Type}{A B:List b}:(A++B).take A.length=A:=Ww
def cW{b:Type}{A B:List b}{z:b}:A++z::B=A++[z]++B:=by rw[YK];rfl
def RA(h:SkOk K):∀ (B A:List (Int × Int)) (z:Int × Int),nQ K (A++z::B)->∀p ∈ B,z.2<=p.2
 |[],_,_,_=>λp hp=>by cases hp
 |y::B,A,z,kp=>by
  have e:=cW (A:=A) (B:=y::B) (z:=z);have k:=kp (A++[z]).length y (by rw[e];exact m6);rw[e] at kp;have c:=k.gap (gi K.G z.1 0,z.2) (by rw[e,gm,bq]);have:=Rz h (gi K.G z.1 0) (gi K.G y.1 0);intro p hp
  have b:z.2<=y.2:=by
   have:z.2+gp K (gi K.G z.1 0) (gi K.G y.1 0)<=y.2:=c
   lia
  rcases Zn.mp hp with rfl |hp
  ·exact b
  ·exact Wc b (RA h B (A++[z]) y kp p hp)
def HN(h:SkOk K){os:List Int}(d:Ord K os){A B:List (Int × Int)}{z:Int × Int}{m:Int}(c:(A++z::B).map (·.1)=os)(kp:nQ K (A++z::B))(I:m<=z.2):nP K A.length m=aS:=by
 unfold nP;have r0:=h.me.r0;cases f:(js K)[(K.r+(A.length:Int)).toNat]? with
 |none=>rfl
 |some j=>
  refine decide_eq_false λu=>?_;have C:=Dy (bO _) f (ZP j);rw[show(cN (K.G.map λg=>g.getD 1 0))=js K from rfl,JE d c,Dz] at C;have J:cj K A j<=A.length:=YI _ _;have l:=RA h B A z kp
  have y:cj K (z::B) j<=wts K (z::B) j:=Ov λp hp=>by
   rcases Zn.mp hp with rfl |hp
   ·lia
   ·have:=l p hp;lia
  have v:wts K (A++z::B) j=wts K A j+wts K (z::B) j:=x8;have b:j ∈ (A++z::B).map λp=>jn K p.1:=(x6 d c).mem_iff.mp (Zd f);obtain⟨q,k,rfl⟩:=ZA.mp b;obtain⟨i,hi⟩:=Yw k;have:=(kp i q hi).wt
  lia
def DA{j:Nat}(hl:Low P A)(kz:KAt K L j z)(f:L.take j=A):bD K (aO K P) z.1<=z.2:=by
 unfold bD;cases d:aO K P with
 |none=>exact kz.lo
 |some a=>
  obtain⟨b,hb,c,k⟩:=hl.last a d;have:=kz.gap b (by rw[f];exact hb);have:=kz.lo;dsimp only;rw[c];split <;> lia
def tV(h:SkOk K){os:List Int}(c:Ord K os):∀ (B A P:List (Int × Int)),(A++B).map (·.1)=os->nQ K (A++B)->Low P A->∃R,rn K (B.map (·.1)) (aO K P) P = .inr R/\Low R (A++B)
 |[],A,P,_,_,hl=>⟨P,rfl,by rw[Yb];exact hl⟩
 |z::B,A,P,hL,kp,hl=>by
  have kz:=kp A.length z m6;have fr:=DA hl kz gm
  have m1:opm K.H (bD K (aO K P) z.1)<=z.2:=by
   have:=mZ h.me.ris fr;rw[kz.op] at this;exact this
  have hs:Sn.step K (aO K P) z.1 P.length=aw (opm K.H (bD K (aO K P) z.1)):=by
   unfold Sn.step;have:=kz.hi;rw[hl.len,HN h c hL kp m1,decide_eq_false (show ¬ gi K.G z.1 3 < opm K.H (bD K (aO K P) z.1) by lia)];rfl
  have f:cV K P z.1 (opm K.H (bD K (aO K P) z.1))=aS:=zS hl m1 (by have:=kz.rg;rw[gm] at this;exact this);have e:=cW (A:=A) (B:=B) (z:=z);obtain⟨R,b,d⟩:=tV h c B (A++[z]) (P++[(z.1,opm K.H (bD K (aO K P) z.1))]) (by rw[<-e];exact hL) (by rw[<-e];exact kp) (hl.snoc rfl m1);refine⟨R,?_,by rw[e];exact d⟩;rw[Zy,rn,hs];dsimp only;rw[f,if_neg Zf];rw[bq] at b;exact b
def tW:∀ (os:List Int) (P R:List (Int × Int)),rn K os (aO K P) P = .inr R->(∃T,R=P++T/\T.map (·.1)=os)/\∀ (j:Nat) z,P.length<=j->R[j]?=aw z->Sn.step K (aO K (R.take j)) z.1 j=aw z.2/\cV K (R.take j) z.1 z.2=aS
 |[],P,R,h=>by
  cases h;exact⟨⟨[],by simp,rfl⟩,λj z f b=>by rw[Zv f] at b;cases b⟩
 |g::os,P,R,h=>by
  rw[rn] at h;cases hs:Sn.step K (aO K P) g P.length with
  |none=>rw[hs] at h;cases h
  |some m=>
   rw[hs] at h;dsimp only at h;cases c:cV K P g m with
   |true=>rw[c,if_pos rfl] at h;cases h
   |false=>
    rw[c,if_neg Zf] at h;obtain⟨⟨T,e,k⟩,I⟩:=tW os (P++[(g,m)]) R (by rw[bq];exact h);refine⟨⟨(g,m)::T,by rw[e,<-cW],by rw[Zy,k]⟩,λj z f b=>?_⟩;by_cases d:j=P.length
    ·subst d;rw[e,<-cW,m6] at b;cases b;rw[e,<-cW,gm];exact⟨hs,c⟩
    ·exact I j z (by rw[Zg,Zt];lia) b
def tX(f:Int × Int->Bool):∀ (R:List (Int × Int)),∃A B,R=A++B/\(∀p ∈ A,f p=aN)/\(B=[]\/∃y c,B=y::c/\f y=aS)
 |[]=>⟨[],[],rfl,λp hp=>(by cases hp),.inl rfl⟩
 |z::R=>by
  cases b:f z with
  |false=>exact⟨[],z::R,rfl,λp hp=>(by cases hp),.inr ⟨z,R,rfl,b⟩⟩
  |true=>
   obtain⟨A,B,e,j,d⟩:=tX f R;refine⟨z::A,B,by rw[e];rfl,λp hp=>?_,d⟩;rcases Zn.mp hp with rfl |hp
   ·exact b
   ·exact j p hp
def HP(h:SkOk K){g:Int}(l:0<=g)(u:g < K.G.length):jn K g+K.s<=gi K.G g 2:=by
 have hi:g.toNat < K.G.length:=by lia
 obtain⟨k,jo,fi,la,j,f,q,b,hb⟩:=h.gb K.G[g.toNat] (ZO hi);have d:jn K g=jo:=by unfold jn gi;rw[gEG hi,b];rfl
 have c:gi K.G g 2=fi:=by unfold gi;rw[gEG hi,b];rfl
 rw[d,c];lia
def qY{g m:Int}{j:Nat}(h:Sn.step K a g j=aw m):m=opm K.H (bD K a g)/\m<=gi K.G g 3/\nP K j m=aS:=by
 unfold Sn.step at h;split at h
 ·cases h
 ·rename_i b;cases h;rw[Y0,decide_eq_true_eq] at b
  exact⟨rfl,by lia,by
   cases e:nP K j (opm K.H (bD K a g)) with
   |false=>rfl
   | true=>exact absurd (.inr e) b⟩
def tY(a:Option (Int × Int))(g:Int):gi K.G g 2<=bD K a g/\∀q,a=aw q->q.2+gp K q.1 (gi K.G g 0)<=bD K a g:=by
 unfold bD;cases a with
 |none=>exact⟨ZP _,λq e=>by cases e⟩
 |some q=>
  dsimp only;refine⟨by split <;> lia,λQ e=>?_⟩;cases e;split <;> lia
def HQ(h:SkOk K){os:List Int}(q:Ord K os){R:List (Int × Int)}(I:rn K os K.ah [] = .inr R):R.map (·.1)=os/\nQ K R:=by
 obtain⟨⟨T,e,f⟩,st⟩:=tW os [] R I;rw[XM] at e;subst e;have s0:=h.me.s0;have r0:=h.me.r0
 have lb:∀ (j:Nat) z,R[j]?=aw z->gi K.G z.1 2<=z.2:=λj z k=>by
  obtain⟨v,_⟩:=qY (st j z (Z3 _) k).1;have:=(tY (K:=K) (aO K (R.take j)) z.1).1;have:=qX K.H (bD K (aO K (R.take j)) z.1)
  lia
 have bd:∀p ∈ R,0<=p.1/\p.1 < K.G.length:=λp c=>q.bd p.1 (by rw[<-f];exact ZA.mpr ⟨p,c,rfl⟩);have ln:R.length=K.G.length:=by rw[<-q.ln,<-f,Za]
 refine⟨f,λj z k=>?_⟩;obtain⟨hs,O⟩:=st j z (Z3 _) k;obtain⟨v,X,_⟩:=qY hs;have U:=tY (K:=K) (aO K (R.take j)) z.1;have og:=qX K.H (bD K (aO K (R.take j)) z.1);refine⟨lb j z k,X,by rw[v];exact tU h.me.ris,λa Q=>by have:=U.2 a Q;lia,?_,O⟩;generalize jn K z.1=t;obtain⟨A,B,d,C,L⟩:=tX (λp=>decide (p.2 - K.s<=t)) R
 have wA:wts K A t=0:=by
  unfold Sn.wts;rw[Z6,Xa];intro p c;have:=of_decide_eq_true (C p c);simp only[aF,bAE,decide_eq_true_eq]
  lia
 rw[d,x8,wA,Yv];rcases L with rfl |⟨y,B',rfl,hy⟩
 ·exact r0
 ·have Z:¬ y.2 - K.s<=t:=of_decide_eq_false hy;have Y:R[A.length]?=aw y:=by rw[d];exact m6
  obtain⟨_,_,l⟩:=qY (st A.length y (Z3 _) Y).1
  have J:cj K A t=A.length:=by
   unfold cj
   congr 1
   refine XY.mpr λp c=>decide_eq_true ?_;have b:p ∈ R:=by rw[d];exact ZY _ c
   obtain⟨i,hi⟩:=Yw b;have:=lb i p hi;have:=HP h (bd p b).1 (bd p b).2;have:=of_decide_eq_true (C p c)
   lia
  have cR:cj K R t=A.length+cj K (y::B') t:=by rw[d,Dz,J]
  have le:cj K R t<=(K.r+(A.length:Int)).toNat:=by
   unfold nP at l;cases u:(js K)[(K.r+(A.length:Int)).toNat]? with
   |none=>
    have:=Z9.mp u;rw[Dn] at this;have:=YI (λp:Int × Int=>decide (jn K p.1<=t)) R;have:cj K R t<=R.length:=this
    lia
   |some x=>
    rw[u] at l;have:=of_decide_eq_false l;rw[<-JE q f];exact JD (bO _) u (by lia)
  have:=Ou (K:=K) (B:=y::B') (t:=t)
  lia
end Lw
namespace Lw
open PySem Ev Sn L2
variable {p:Nat} {S S':Sto} {k:Nat} {Q:D->Sto->Prop} {K:Sky}
def bI{b:Type}{l:List b}{E:b->D}{S:Sto}:ao dB (.tup (l.map E)) S=aw (.int l.length,S):=by simp only[ao,av,dB,Za]
def wb{b:Type}{l:List b}:l.all (λ_=>aN)=aN:=ZR.mpr λ_ _=>rfl
def wc{j:Type}(l:List j)(E:j->D)(hl:l.length<=1000)(f:∀i S',Sm S S'->nx i S'=aw ((l[i]?).map E))
  (step:∀ (i:Nat) a S',l[i]?=aw a->Sm S S'->∃b,aC T (E a) u=aw b/\Ok (c b S') λd v=>d=[.bl aN]/\Sm S' v) (q:∀S',Sm S S'->Q (.bl aN) S') :
  Ok (bu nx T c u LF 0 S) λd z=>d.length<=100000/\Ok (kB aS d z) Q:=by
 refine bh l E (λ_=>[.bl aN]) hl (λ_ _=>Zi _) f step λS' y=>?_;rw[bc];refine aa (fq l (λ_=>aN) S') ?_;rw[wb];exact q S' y
def wg{i a b:Int}(c:a<=i)(d:i<=b)(q:Q (.bl aN) S):Ok (evC ae (k+2) 1 [.int i,.int a,.int b] S) Q:=o4 (p:=0) b9 (by
 rw[show Dw.ic (.int i) a b=aN by simp only[Dw.ic,decide_eq_true c,decide_eq_true d,X1]];exact q)
def HR{i:Int}(b:0<=i)(c:i<=9999)(q:Q (.bl aN) S):Ok (evC ae (k+3) 2 [.int i] S) Q:=zN (p:=0) b9 (by
 rw[show Dw.ic (.int i) 0 9999=aN by simp only[Dw.ic,decide_eq_true b,decide_eq_true c,X1]];exact q)
def nR{a b:Int}(h:TDs 0 S ts d)(c:a<=ts.length)(f:(ts.length:Int)<=b)(q:Q (.bl aN) S):Ok (evC ae (k+1) 3 [.tup d,.int a,.int b] S) Q:=Dh (dA h) (by
 rw[show Dw.isT (.tup ts) a b=aN by simp only[Dw.isT,decide_eq_true c,decide_eq_true f,X1]];exact q)
def kM:(Dw.A8 M).length=M.length:=by unfold Dw.A8;rw[Za]
def RB{n:Nat}(hl:r.length=n)(f:n<=4)(b:∀x ∈ r,1<=x/\x<=99)(q:∀S',Sm S S'->Q (.bl aN) S'):Ok (evC ae (k+3) 10 [ag r,.int n] S) Q:=by
 refine ay (d:=fh) (ρ:=[aw (ag r),aw (.int n)]) rfl rfl ?_;dsimp only[fh,iZ];rw[show ag r = .tup (r.map D.int) from rfl];k_is;refine⟨rfl,nR (jg r) (by rw[Za];lia) (by rw[Za];lia) ?_⟩;k_is;refine wc r D.int (by lia) bH (λi x S' c sm=>⟨_,rfl,?_⟩) q;k_is;have:=b x (Zd c);exact⟨rfl,wg this.1 this.2 ⟨rfl,Sm.refl _⟩⟩
def DB{es:List D}(h:∀e ∈ es,e = .bl aN)(S:Sto):kB aS es S=aw (.bl aN,S):=by
 have e:es.map (λ_=>D.bl aN)=es:=by
  conv=>rhs;rw[<-List.map_id es]
  exact Yd λx b=>(h x b).symm
 rw[<-e];exact(fq es (λ_=>aN) S).trans (by rw[wb])
def RC(C:SkOk K)(q:∀S',Sm S S'->Q (.bl aN) S'):Ok (evC ae (k+1) 11 [.tup (K.M.map ag)] S) Q:=by
 refine ay (d:=bp) (ρ:=[aw (.tup (K.M.map ag)),aD]) rfl rfl ?_;dsimp only[bp,bP];have V:=C.vd;have m4:=C.me.m4;k_is;refine aa bI ?_;refine⟨_,rfl,by lia,?_⟩;k_is;have y:(S++[Ob.lst ((Ze K.M.length).map λj=>D.int (Int.ofNat j))])[S.length]?=aw (.lst ((Ze K.M.length).map λj=>D.int (Int.ofNat j))):=bv;have z:∀S',Sm (S++[Ob.lst ((Ze K.M.length).map λj=>D.int (Int.ofNat j))]) S'->(aU S' S.length).isSome=aN:=λS' sm=>by rw[aE (sm _ _ y)];rfl
 refine⟨z _ (Sm.refl _),?_⟩;refine(vT y (by lia) (λa=>(Ze K.M.length).flatMap λb=>(Ze K.M.length).flatMap λc=>[.bl aN]) λa S1 Y l=>⟨_,rfl,?_⟩).mono λes J ⟨ee,sm⟩=>?_
 ·k_is;refine⟨z _ l,?_⟩;refine vT (l _ _ y) (by lia) _ λb J hb v=>⟨_,rfl,?_⟩;k_is;refine⟨z _ (l.trans v),?_⟩;refine vT (v _ _ (l _ _ y)) (by lia) _ λc B O sm3=>⟨_,rfl,?_⟩;k_is;obtain⟨r1,T,e2⟩:=qR (S:=B) V (a:=a) (b:=b) (by lia) (by lia) (by lia) (by lia);obtain⟨r2,U,Z⟩:=qR (S:=B) V (a:=a) (b:=c) (by lia) (by lia) (by lia) (by lia);obtain⟨r3,I,X⟩:=qR (S:=B) V (a:=c) (b:=b) (by lia) (by lia) (by lia) (by lia);refine aa T (aa e2 (aa U (aa Z (aa I (aa X ?_)))));k_is;refine⟨?_,Sm.refl _⟩;have t:=C.me.tri a b c Y hb O;rw[decide_eq_true (show gp K a b<=gp K a c+gp K c b from t)]
 ·subst ee
  have all:∀e ∈ (Ze K.M.length).flatMap λa=>(Ze K.M.length).flatMap λb=>(Ze K.M.length).flatMap λc=>[D.bl aN],e = .bl aN:=λe u=>by
   obtain⟨a,_,u⟩:=Yc.mp u;obtain⟨b,_,u⟩:=Yc.mp u;obtain⟨c,_,u⟩:=Yc.mp u;exact ZF.mp u
  refine⟨?_,aa (DB all _) (q _ ((Sm.app S _).trans sm))⟩;have f3:∀a b:Nat,((Ze K.M.length).flatMap λc=>[D.bl aN]).length<=4:=λ_ _=>by rw[bc (Ze K.M.length) (λ_=>D.bl aN),Za,ZB];exact m4
  have L:∀a:Nat,((Ze K.M.length).flatMap λb=>(Ze K.M.length).flatMap λc=>[D.bl aN]).length<=K.M.length * 4:=λa=>Dw.w8 λb _=>f3 a b;have f1:=Dw.w8 (n:=K.M.length) (m:=K.M.length * 4) (f:=λa=>(Ze K.M.length).flatMap λb=>(Ze K.M.length).flatMap λc=>[D.bl aN]) λa _=>L a;have:K.M.length * (K.M.length * 4)<=4 * (4 * 4):=Wx m4 (Wx m4 (Zi _))
  lia
def Ow(b:SkOk K)(q:∀S',Sm S S'->Q (.bl aN) S'):Ok (evC ae (k+4) 9 [.tup (K.M.map ag)] S) Q:=by
 refine ay (d:=il) (ρ:=[aw (.tup (K.M.map ag))]) rfl rfl ?_;dsimp only[il,mH];have m1:=b.me.m1;have m4:=b.me.m4;k_is;refine⟨rfl,nR (jN K.M) (by rw[kM];lia) (by rw[kM];lia) ?_⟩;k_is;refine wc K.M ag (by lia) bH (λi r S' l sm=>⟨_,rfl,?_⟩) λS' sm=>?_
 ·k_is;refine aa bI ?_;have f:=Zd l;exact⟨rfl,RB (b.me.mat.row r f) m4 (b.me.mat.ent r f) λj c=>⟨rfl,c⟩⟩
 ·k_is;exact⟨rfl,RC b λj c=>q j (sm.trans c)⟩
def zU(c:0<=z.1)(j:z.1 < z.2)(f:z.2<=9999)(q:Q (.bl aN) S):Ok (evC ae (k+4) 13 [au z] S) Q:=by
 refine ay (d:=fj) (ρ:=[aw (au z)]) rfl rfl ?_;dsimp only[fj,i6];rw[show au z = .tup [.int z.1,.int z.2] from rfl];have b:ixS (.tup [D.int z.1,.int z.2]) (.int 0) S=aw (.int z.1,S):=rfl;have X:ixS (.tup [D.int z.1,.int z.2]) (.int 1) S=aw (.int z.2,S):=rfl;k_is;refine⟨rfl,nR (aM b9 (aM b9 cI)) (ZP _) (ZP _) ?_⟩;k_is;refine aa b ⟨rfl,HR c (by lia) ?_⟩;k_is;refine aa X ⟨rfl,HR (by lia) f ?_⟩;k_is;refine aa b (aa X ?_);k_is;rw[decide_eq_true j];exact q
def HS(j:SkOk K)(q:∀S',Sm S S'->Q (.bl aN) S'):Ok (evC ae (k+5) 12 [.tup (K.H.map au)] S) Q:=by
 refine ay (d:=fX) (ρ:=[aw (.tup (K.H.map au))]) rfl rfl ?_;dsimp only[fX,j8];have h4:=j.me.h4;k_is;refine⟨rfl,nR (i9 K.H) (by rw[Za];lia) (by rw[Za];lia) ?_⟩;k_is;refine wc K.H au (by lia) bH (λi z S' l sm=>⟨_,rfl,?_⟩) λS' sm=>?_
 ·k_is;have a:=qU j.me.ris (Zd l);exact⟨rfl,zU (by lia) a.2 (j.me.hb z (Zd l)) ⟨rfl,Sm.refl _⟩⟩
 ·k_is;refine aa bI ?_;k_is;refine⟨⟨by decide,gk (by lia) (by lia)⟩,?_⟩;refine Gh (by lia) (λ_=>aN) (λi b hi c=>⟨_,rfl,?_⟩) λb c=>?_
  ·k_is;have f:i+1 < K.H.length:=by lia
   have u:(1:Int)+i=((i+1:Nat):Int):=by lia
   have Z:((i+1:Nat):Int) - 1=((i:Nat):Int):=by lia
   rw[u,Z];refine aa (je (d:=au K.H[i+1]) (by lia) (by rw[ZI,Zl,gEG f];rfl)) (aa (show ixS (au K.H[i+1]) (.int 0) b=aw (.int K.H[i+1].1,b) from rfl) ?_);refine aa (je (d:=au K.H[i]) (by lia) (by rw[ZI,Zl,gEG (by lia)];rfl)) (aa (show ixS (au K.H[i]) (.int 1) b=aw (.int K.H[i].2,b) from rfl) ?_);k_is;rw[decide_eq_true (tS j.me.ris i _ _ (gEG (by lia)) (gEG f))];exact⟨rfl,Sm.refl _⟩
  ·refine aa (fq _ (λ_=>aN) _) ?_;rw[wb];exact q b (sm.trans c)
def DC(b:SkOk K)(q:∀S',Sm S S'->Q (.bl aN) S'):Ok (evC ae (k+6) 8 [meE K] S) Q:=by
 refine ay (d:=fW) (ρ:=[aw (meE K),aD,aD,aD,aD]) rfl rfl ?_;dsimp only[fW,j7];rw[show meE K = .tup [.int K.r,.int K.s,.tup (K.M.map ag),.tup (K.H.map au)] from rfl];k_is;refine⟨rfl,nR (aM b9 (aM b9 (aM (dA (jN K.M)) (aM (dA (i9 K.H)) cI)))) (ZP _) (ZP _) ?_⟩;k_is;refine⟨rfl,wg b.me.r0 b.me.r8 ?_⟩;k_is;refine⟨rfl,wg b.me.s0 b.me.s60 ?_⟩;k_is;refine⟨rfl,Ow b λl c=>?_⟩;k_is;exact⟨rfl,HS b λf j=>q f (c.trans j)⟩
def DD{i:Int}(b:0<=i)(c:i < K.M.length)(q:Q (.bl aN) S):Ok (evC ae (k+3) 14 [meE K,.int i] S) Q:=by
 refine ay (d:=jH) (ρ:=[aw (meE K),aw (.int i)]) rfl rfl ?_;dsimp only[jH,oU];k_is;refine aa me2 (aa bI ?_);k_is;exact⟨rfl,wg b (by lia) q⟩
def HU(l:SkOk K)(q:Q (.bl aN) S):Ok (evC ae (k+4) 17 [meE K,ahE K.ah] S) Q:=by
 refine ay (d:=im) (ρ:=[aw (meE K),aw (ahE K.ah)]) rfl rfl ?_;dsimp only[im,mI];cases h:K.ah with
 |none=>k_is;exact aa (show am .is (ahE aD) .non S=aw (.bl aN,S) from rfl) q
 |some z=>
  obtain⟨f,j,B,b⟩:=l.ah z h;have c:ixS (.tup [D.int z.1,.int z.2]) (.int 0) S=aw (.int z.1,S):=rfl;have X:ixS (.tup [D.int z.1,.int z.2]) (.int 1) S=aw (.int z.2,S):=rfl;rw[show ahE (aw z) = .tup [.int z.1,.int z.2] from rfl];k_is;refine aa (show am .is (.tup [D.int z.1,.int z.2]) .non S=aw (.bl aS,S) from rfl) ?_;k_is;refine⟨rfl,nR (aM b9 (aM b9 cI)) (ZP _) (ZP _) ?_⟩;k_is;refine aa c ⟨rfl,DD f j ?_⟩;k_is;exact aa X ⟨rfl,HR B b q⟩
def DE(z:SkOk K)(Y:g ∈ K.G)(q:∀S',Sm S S'->Q (.bl aN) S'):Ok (evC ae (k+4) 19 [meE K,ag g] S) Q:=by
 obtain⟨c,j,f,la,b,u,v,rfl,X,I,Z,B,O,b3,c0,c1,J,C,L,T⟩:=z.gb g Y;have s0:=z.me.s0;refine ay (d:=fY) (ρ:=[aw (meE K),aw (ag [c,j,f,la,b,u,v]),aD,aD,aD,aD,aD,aD,aD]) rfl rfl ?_;dsimp only[fY,j9];rw[show ag [c,j,f,la,b,u,v] = .tup [.int c,.int j,.int f,.int la,.int b,.int u,.int v] from rfl];k_is;refine⟨rfl,nR (jg [c,j,f,la,b,u,v]) (ZP _) (ZP _) ?_⟩;k_is;refine wc [j,f,la,b] D.int (by show 4<=1000;decide) (bH (l:=[j,f,la,b]) (E:=D.int)) (λi x S' U sm=>⟨_,rfl,?_⟩) λS' sm=>?_
 ·k_is;have y:=Zd U;simp only[Zn,Wl,or_false] at y;refine⟨rfl,HR ?_ ?_ ⟨rfl,Sm.refl _⟩⟩
  ·rcases y with rfl |rfl |rfl |rfl <;> lia
  ·rcases y with rfl |rfl |rfl |rfl <;> lia
 ·k_is;refine aa me1 ?_;k_is;rw[decide_eq_true B];k_is;rw[decide_eq_true O];k_is;refine⟨rfl,DD X I ?_⟩;k_is;refine⟨rfl,wg J C ?_⟩;k_is;refine aa me0 ⟨rfl,wg L T (q S' sm)⟩
def zV(b:SkOk K)(q:∀S',Sm S S'->Q (.bl aN) S'):Ok (evC ae (k+5) 18 [meE K,.tup (K.G.map ag)] S) Q:=by
 refine ay (d:=dR) (ρ:=[aw (meE K),aw (.tup (K.G.map ag))]) rfl rfl ?_;dsimp only[dR,gX];have g7:=b.g7;k_is;refine⟨rfl,nR (jN K.G) (by rw[kM];lia) (by rw[kM];lia) ?_⟩;k_is;refine wc K.G ag (by lia) bH (λi g S' c sm=>⟨_,rfl,?_⟩) q;k_is;exact⟨rfl,DE b (Zd c) λj f=>⟨rfl,f⟩⟩
def tZ{xs:List Int}{N:Nat}(nd:xs.Nodup)(bd:∀x ∈ xs,0<=x/\x < N)(g7:N<=7)(q:∀S',Sm S S'->Q (.bl aN) S'):Ok (evC ae (k+3) 4 [.tup (xs.map D.int),.int N] S) Q:=by
 refine ay (d:=fe) (ρ:=[aw (.tup (xs.map D.int)),aw (.int N)]) rfl rfl ?_;dsimp only[fe,iX];have l:=Dw.dE N xs nd bd;k_is;refine⟨rfl,nR (jg xs) (by rw[Za];lia) (by rw[Za];lia) ?_⟩;k_is;refine wc xs D.int (by lia) bH (λi x S' c sm=>⟨_,rfl,?_⟩) λS' sm=>?_
 ·k_is;have:=bd x (Zd c);exact⟨rfl,wg this.1 (by lia) ⟨rfl,Sm.refl _⟩⟩
 ·k_is;refine wc xs D.int (by lia) bH (λi x f c b=>⟨_,rfl,?_⟩) λf b=>q f (sm.trans b);k_is;refine⟨rfl,aa (CK xs x f) ?_⟩;k_is;rw[show((xs.count x:Nat):Int)=1 by rw[List.Nodup.count nd,if_pos (Zd c)];rfl];exact⟨rfl,Sm.refl _⟩
def HV(j:SkOk K)(q:∀S',Sm S S'->Q (.bl aN) S'):Ok (evC ae (k+4) 20 [.tup (K.G.map ag),.tup (K.F.map D.int)] S) Q:=by
 refine ay (d:=fZ) (ρ:=[aw (.tup (K.G.map ag)),aw (.tup (K.F.map D.int))]) rfl rfl ?_;dsimp only[fZ,kc];have g7:=j.g7;k_is;refine aa bI ?_;refine⟨rfl,tZ j.nd j.bd j.g7 λy s1=>?_⟩;k_is;refine mS K.G.length (λi=>.tup [.int i,((K.G.map ag)[i]?).getD .non]) (λi b S'=>Sm y S'/\b.length=i/\∀e ∈ b,e = .bl aN) (λi b S' hi _=>?_) (by lia) (λi b S' hi v=>?_) (λes S' I=>by obtain⟨f,la,C⟩:=I;exact⟨by lia,aa (DB C _) (q S' (s1.trans f))⟩) ⟨Sm.refl _,rfl,λe J=>by cases J⟩
 ·show enm (K.G.map ag) i=_;unfold enm;rw[if_pos (by rw[Za];exact hi)];split
  ·rename_i B;rw[gEG (by rw[Za];exact B)];rfl
  ·rw[Zv (by rw[Za];lia)];rfl
 ·obtain⟨f,la,C⟩:=v;obtain⟨U,O,T,L,Z,Y,u,X,_⟩:=j.gb K.G[i] (ZO hi);have rg:=j.rg i _ (gEG hi);have ez:((K.G.map ag)[i]?).getD .non = .tup [.int U,.int O,.int T,.int L,.int Z,.int Y,.int u]:=by rw[Zl,gEG hi,X];rfl
  rw[X] at rg;have rg:u=0\/(i:Int) ∈ K.F:=rg;rw[ez];have l:∀S',Sm y S'->Sm y S'/\(b++[D.bl aN]).length=i+1/\∀e ∈ b++[D.bl aN],e = .bl aN:=λS' f=>⟨f,by rw[Zg,Zt];lia,λe J=>(ZM.mp J).elim (C e) λz=>ZF.mp z⟩;refine⟨_,qI (by simp) (by simp),?_⟩;k_is;refine aa (show ixS (.tup [D.int U,.int O,.int T,.int L,.int Z,.int Y,.int u]) (.int 6) S'=aw (.int u,S') from rfl) ?_;k_is;cases c:decide (u=0) with
  |true=>k_is;exact l S' f
  |false=>
   k_is;refine aa (show am .isin (.int (i:Int)) (.tup (K.F.map D.int)) S'=aw (.bl (aS != decide ((i:Int) ∈ K.F)),S') from cJ aS K.F i S') ?_;rw[decide_eq_true (rg.resolve_left (of_decide_eq_false c))];exact l S' f
def RD(b:SkOk K)(q:∀S',Sm S S'->Q (.bl aN) S'):Ok (evC ae (k+7) 16 [skE K] S) Q:=by
 refine ay (d:=mP) (ρ:=[aw (skE K),aD,aD,aD,aD]) rfl rfl ?_;dsimp only[mP,tw];rw[show skE K = .tup [meE K,ahE K.ah,.tup (K.G.map ag),.tup (K.F.map D.int)] from rfl];k_is;refine⟨rfl,nR (ts:=[.tup [.int K.r,.int K.s,.tup (Dw.A8 K.M),.tup (K.H.map Dw.w9)],ahT K.ah,.tup (Dw.A8 K.G),.tup (K.F.map Dw.D.int)]) (aM (dA (aM b9 (aM b9 (aM (dA (jN K.M)) (aM (dA (i9 K.H)) cI))))) (aM (Rv K.ah) (aM (dA (jN K.G)) (aM (dA (jg K.F)) cI)))) (ZP _) (ZP _) ?_⟩;k_is;refine⟨rfl,DC b λu c=>?_⟩;k_is;refine⟨rfl,HU b ?_⟩;k_is;refine⟨rfl,zV b λv l=>?_⟩;k_is;exact⟨rfl,HV b λj f=>q j ((c.trans l).trans f)⟩
def t0(b:SkOk K)(q:∀S',Sm S S'->Q .non S'):Ok (evC ae (k+8) 22 [skE K] S) Q:=by
 refine ay (d:=f8) (ρ:=[aw (skE K)]) rfl rfl ?_;dsimp only[f8,kh];k_is;refine⟨rfl,RD b λS' sm=>?_⟩;k_is;exact q S' sm
end Lw
namespace Sn
open Ev PySem
abbrev jnd(m x:Int):Int:=if x > m then x else m
abbrev o8(b:List (Int × List Int)):Option (Int × List Int):=b[argBest (cO b) (b.length - 1)]?
abbrev rst(left:List Int)(g:Int):List Int:=left.filter λx=>!decide (x=g)
abbrev bb(K:Sky):Nat->Option (Int × Int)->List Int->Option (Int × List Int)
 |0,_,_=>aw (0,[])
 | n+1,ah,left=>o8 (left.filterMap λg=>match step K ah g (K.G.length - (n+1)) with
  |none=>aD
  | some m=>(bb K n (aw (gi K.G g 0,m)) (rst left g)).map λz=>(jnd m z.1,g::z.2))
abbrev bw(K:Sky)(n:Nat)(ah:Option (Int × Int))(left:List Int)(g:Int):Option (Int × List Int):=match step K ah g (K.G.length - (n+1)) with
 |none=>aD
 |some m=>(bb K n (aw (gi K.G g 0,m)) (rst left g)).map λz=>(jnd m z.1,g::z.2)
def kN{K:Sky}{n:Nat}{ah:Option (Int × Int)}{left:List Int}:bb K (n+1) ah left=o8 (left.filterMap (bw K n ah left)):=rfl
def o9{ws:List (Int × List Int)}{z:Int × List Int}(h:o8 ws=aw z):z ∈ ws:=Zd h
def wj{K:Sky}:∀ (n:Nat) (ah:Option (Int × Int)) (left:List Int) (z:Int × List Int),bb K n ah left=aw z->z.2.length=n
 |0,_,_,z,h=>by cases h;rfl
 |n+1,ah,left,z,h=>by
  rw[kN] at h;obtain⟨g,_,e⟩:=YB.mp (o9 h);unfold bw at e;split at e
  ·cases e
  ·obtain⟨y,b,rfl⟩:=ZC.mp e;rw[Zo,wj n _ _ y b]
end Sn
namespace Lw
open PySem Ev Sn L2
variable {p:Nat} {S S':Sto} {k:Nat} {Q:D->Sto->Prop} {K:Sky}
abbrev m7:D:=.str "last"
abbrev cf:Option (Int × List Int)->D
 |none=>.non
 |some z=>.tup [.int z.1,.tup (z.2.map D.int)]
abbrev RE:Option (Int × Int)->NK
 |none=>.non
 |some z=>.tup [.inl z.1,.inl z.2]
abbrev gP(ah:Option (Int × Int))(left:List Int):List NK:=[RE ah,.tup (left.map Sum.inl)]
def m8:∀ (xs:List Int),eG (xs.map D.int)=aw (xs.map Sum.inl)
 |[]=>rfl
 |x::xs=>by rw[Zy,eG,m8 xs];rfl
def eY{ah:Option (Int × Int)}{left:List Int}:nv (.tup [ahE ah,.tup (left.map D.int)])=aw (gP ah left):=by
 have e:Bd (.tup (left.map D.int))=aw (.tup (left.map Sum.inl)):=by show(eG _).map _=_;rw[m8];rfl
 have b:Bd (ahE ah)=aw (RE ah):=by cases ah <;> rfl
 show oq _=_;simp only[oq,e,b,gP]
def x9:∀ {xs Y:List Int},xs.map (Sum.inl:Int->Key)=Y.map Sum.inl->xs=Y
 |[],[],_=>rfl
 |[],_::_,e=>by cases e
 |_::_,[],e=>by cases e
 |x::xs,y::Y,e=>by
  obtain⟨a,b⟩:=WA.inj e;cases a;rw[x9 b]
def ua{a b:Option (Int × Int)}{xs ys:List Int}(h:gP a xs=gP b ys):a=b/\xs=ys:=by
 unfold gP at h;obtain⟨d,c⟩:=WA.inj h;obtain⟨c,_⟩:=WA.inj c;refine⟨?_,x9 (NK.tup.inj c)⟩;cases a with
 |none=>cases b with
  |none=>rfl
  |some z=>cases d
 |some z=>cases b with
  |none=>cases d
  |some w=>
   obtain⟨f,Z⟩:=z;obtain⟨j,w2⟩:=w;cases d;rfl
abbrev KI(K:Sky)(b:List (List NK))(c:List D):Prop:=b.length=c.length/\∀ah left d,atD b c (gP ah left)=aw d->d=cf (bb K left.length ah left)
structure Kn(K:Sky)(p c:Nat)(S:Sto):Prop where
 ex:∃kss ds,S[p]?=aw (.dic kss ds)/\KI K kss ds/\kss.length<=c
abbrev cnt:Nat->Nat
 |0=>0
 |n+1=>(n+1) * cnt n+1
def ub:∀ {b:List (List NK)} {c:List D} {k:List NK} {v:D},(atD b c k).isSome=aN->atD b (fN k v b c) k=aw v
 |[],_,_,_,h=>by simp[atD] at h
 |_::_,[],_,_,h=>by simp[atD] at h
 |a::b,d::c,k,v,h=>by
  simp only[fN,atD] at h ⊢;split
  ·rfl
  ·rename_i e;rw[if_neg e] at h;exact ub h
def qZ:∀ {b:List (List NK)} {f:List D} {k c:List NK} {v:D},b.length=f.length->atD (b++[k]) (f++[v]) c=match atD b f c with |some d=>aw d |none=>if k=c then aw v else aD
 |[],[],k,c,v,_=>rfl
 |[],_::_,_,_,_,h=>by simp at h
 |_::_,[],_,_,_,h=>by simp at h
 |a::b,d::f,k,c,v,h=>by
  simp only[Wn,atD];split
  ·rfl
  ·exact qZ (by simpa using h)
def yb:∀ {b:List (List NK)} {f:List D} {k c:List NK} {v d:D},atD b (fN k v b f) c=aw d->(k=c/\d=v)\/(atD b f c=aw d)
 |[],_,_,_,_,_,h=>by simp[fN,atD] at h
 |_::_,[],_,_,_,_,h=>by simp[fN,atD] at h
 |a::b,e::f,k,c,v,d,h=>by
  simp only[fN,atD] at h ⊢;split at h
  ·rename_i j;subst j;cases h;split
   ·rename_i l;exact .inl ⟨l.symm,rfl⟩
   ·exact .inr (if_pos rfl)
  ·rename_i j;rw[if_neg j];exact yb h
def pc{r:D}{m x:Int}(q:Q (.int (jnd m x)) S):Ok (evC ae (k+2) 36 [m7,r,.int m,.int x] S) Q:=by
 refine ay (d:=mQ) (ρ:=[aw m7,aw r,aw (.int m),aw (.int x)]) rfl rfl ?_;dsimp only[mQ,tz];unfold jnd at q;k_is;refine aa (show am .eq m7 (.str "last") S=aw (.bl aN,S) from rfl) ?_;k_is;exact q
def wk{left:List Int}{g:Int}(hl:left.length<=100)(q:∀S',Sm S S'->Q (.tup ((rst left g).map D.int)) S'):Ok (evC ae (k+1) 6 [.tup (left.map D.int),.int g] S) Q:=by
 refine ay (d:=jF) (ρ:=[aw (.tup (left.map D.int)),aw (.int g)]) rfl rfl ?_;dsimp only[jF,oQ];k_is;refine bh left D.int (λx=>if (!decide (x=g))=aN then [D.int x] else []) (by lia) (λa _=>by split <;> simp) bH (λi x S' j sm=>⟨_,rfl,?_⟩) λb f=>?_
 ·k_is;cases c:!decide (x=g) with
  |true=>exact⟨rfl,Sm.refl _⟩
  |false=>exact⟨rfl,Sm.refl _⟩
 ·rw[bx];exact aa (show cX aS (((rst left g)).map D.int) b=aw (.tup ((rst left g).map D.int),b) from rfl) (q b f)
structure Lf(K:Sky)(n:Nat)(ah:Option (Int × Int))(left:List Int):Prop where
 nd:left.Nodup
 bd:∀g ∈ left,0<=g/\g < K.G.length
 ln:left.length=n
 le:n<=K.G.length
 ah:∀q,ah=aw q->0<=q.1/\q.1 < K.M.length
def yc:∀ {left:List Int} {g:Int},left.Nodup->g ∈ left->(rst left g).length+1=left.length
 |[],_,_,h=>by cases h
 |a::l,g,nd,h=>by
  rw[ZX] at nd;unfold rst;by_cases e:a=g
  ·subst e;rw[List.filter_cons_of_neg (by simp)]
   rw[XY.mpr λx b=>by
    have:¬ x=a:=λz=>nd.1 (z ▸ b);simp[this]]
   rw[Zo]
  ·rw[List.filter_cons_of_pos (by simp[e]),Zo,Zo];have:=yc nd.2 ((Zn.mp h).resolve_left λz=>e z.symm);unfold rst at this
   lia
def Lf.rst{n:Nat}{ah:Option (Int × Int)}{left:List Int}{g m:Int}(h:Lf K (n+1) ah left)(b:g ∈ left)(c:0<=gi K.G g 0)(d:gi K.G g 0 < K.M.length):Lf K n (aw (gi K.G g 0,m)) (Sn.rst left g):=by
 have l:=yc h.nd b;have:=h.ln;have:=h.le;exact⟨h.nd.filter _,λx f=>h.bd x (ZH.mp f).1,by lia,by lia,λq e=>by cases e;exact⟨c,d⟩⟩
abbrev BB(K:Sky)(p n k:Nat):Prop:=∀ (ah:Option (Int × Int)) (left:List Int) (S:Sto) (c:Nat) (Q:D->Sto->Prop),Lf K n ah left->Kn K p c S->c+cnt n<=99999->(∀S',Kp p S S'->Kn K p (c+cnt n) S'->Q (cf (bb K n ah left)) S')->Ok (evC ae k 37 [skE K,m7,ahE ah,.tup (left.map D.int),.ref p] S) Q
def Kn.kp{c:Nat}(h:Kn K p c S)(s:Sm S S'):Kn K p c S':=let ⟨kss,ds,e,k⟩:=h.ex;⟨kss,ds,s _ _ e,k⟩
def Kn.up{c C:Nat}(h:Kn K p c S)(hc:c<=C):Kn K p C S:=let ⟨kss,ds,e,k,z⟩:=h.ex;⟨kss,ds,e,k,ZW z hc⟩
def HW(X:SkOk K){n k:Nat}(ih:BB K p n (k+5)){ah:Option (Int × Int)}{left:List Int}{g:Int}(L:Lf K (n+1) ah left)(T:g ∈ left){C:Nat}(U:Kn K p C S)(J:C+cnt n<=99999)(q:∀S',Kp p S S'->Kn K p (C+cnt n) S'->Q (cf (bw K n ah left g)) S'):Ok (evC ae (k+6) 38 [skE K,m7,ahE ah,.tup (left.map D.int),.int g,.ref p] S) Q:=by
 refine ay (d:=f9) (ρ:=[aw (skE K),aw m7,aw (ahE ah),aw (.tup (left.map D.int)),aw (.int g),aw (.ref p),aD,aD,aD]) rfl rfl ?_;dsimp only[f9,kj];have V:=X.vd;have g7:=X.g7;have hb:=L.bd g T;have ln:=L.ln;have le:=L.le;obtain⟨a,b,c,d,e,f,h,eg,B,e1,e2,e3,e6,a0,Y,c0⟩:=gl7 V hb.1 hb.2;k_is;refine aa sk2 (aa bI (aa bI ?_));k_is;rw[show((K.G.length:Int) - left.length)=((K.G.length - (n+1):Nat):Int) by lia];refine⟨rfl,o7 (k:=k+2) V L.ah hb.1 hb.2 λu I=>?_⟩;unfold bw at q;cases hs:step K ah g (K.G.length - (n+1)) with
 |none=>
  rw[hs] at q;rw[show zQ aD = .non from rfl];k_is;refine aa (show am .is .non .non u=aw (.bl aN,u) from rfl) ?_;k_is;exact q u I.kp ((U.kp I).up (YU _ _))
 |some m=>
  rw[hs] at q;rw[show zQ (aw m) = .int m from rfl];k_is;refine aa (show am .is (.int m) .non u=aw (.bl aS,u) from rfl) ?_;k_is;refine aa sk2 (aa (mX hb.1 eg) ?_);k_is;refine aa (show ixS (ag [a,b,c,d,e,f,h]) (.int 0) u=aw (.int a,u) from rfl) ?_;k_is;refine⟨rfl,wk (k:=k+4) (by lia) λZ s2=>?_⟩
  have lr:Lf K n (aw (a,m)) (Sn.rst left g):=by
   have:=L.rst (m:=m) T (by rw[B];exact a0) (by rw[B];exact Y)
   rwa [B] at this
  have l:=I.trans s2;refine⟨rfl,ih (aw (a,m)) (Sn.rst left g) Z C _ lr (U.kp l) J λj O y=>?_⟩;rw[B] at q;cases v:bb K n (aw (a,m)) (Sn.rst left g) with
  |none=>
   dsimp only at q;rw[v] at q;rw[show cf aD = .non from rfl];k_is;refine aa (show am .is .non .non j=aw (.bl aN,j) from rfl) ?_;k_is;exact q j (l.kp.trans O) y
  |some z=>
   dsimp only at q;rw[v] at q;rw[show cf (aw z) = .tup [.int z.1,.tup (z.2.map D.int)] from rfl];k_is;refine aa (show am .is (.tup [.int z.1,.tup (z.2.map D.int)]) .non j=aw (.bl aS,j) from rfl) ?_;k_is;refine aa (show ixS (.tup [.int z.1,.tup (z.2.map D.int)]) (.int 0) j=aw (.int z.1,j) from rfl) ?_;refine⟨rfl,pc (k:=k+3) ?_⟩;k_is;refine aa (show ixS (.tup [.int z.1,.tup (z.2.map D.int)]) (.int 1) j=aw (.tup (z.2.map D.int),j) from rfl) ?_;k_is;have lz:=wj n _ _ z v;exact⟨by rw[Za,Zt];lia,q j (l.kp.trans O) y⟩
def DF{k:Nat}:BB K p 0 (k+1):=λah left S c Q lf kn hc q=>by
 refine ay (d:=bV) (ρ:=[aw (skE K),aw m7,aw (ahE ah),aw (.tup (left.map D.int)),aw (.ref p),aD,aD]) rfl rfl ?_;dsimp only[bV,dQ];have e:=Z6.mp lf.ln;subst e;k_is;exact q S (Kp.refl p S) kn
def Ox{b:List (List NK)}{d:List D}{ah:Option (Int × Int)}{left:List Int}(c:S[p]?=aw (.dic b d)):am .notin (.tup [ahE ah,.tup (left.map D.int)]) (.ref p) S=aw (.bl (!(atD b d (gP ah left)).isSome),S):=by
 have e:am .notin (.tup [ahE ah,.tup (left.map D.int)]) (.ref p) S=inK aN (.tup [ahE ah,.tup (left.map D.int)]) (.ref p) S:=by
  simp only[am,inS,av,aU,c,Option.map_none]
 rw[e];simp only[inK,eY,c];simp
def wm{b:List (List NK)}{c:List D}{ah:Option (Int × Int)}{left:List Int}{d:D}(f:S[p]?=aw (.dic b c))(h:atD b c (gP ah left)=aw d):ixS (.ref p) (.tup [ahE ah,.tup (left.map D.int)]) S=aw (d,S):=by
 show ixK _ _ _=_;simp only[ixK,eY,f,h,ZN]
def yd:∀ (b:List (Int × List Int)),gR (b.map λz=>cf (aw z))=aw b
 |[]=>rfl
 |z::b=>by
  have e:xo (cf (aw z))=aw z:=by
   show(bR (z.2.map D.int)).map _=_;rw[cL];rfl
  rw[Zy];simp only[gR,e,yd b]
def Oy(b:List (Int × List Int)):nG aS (b.map λz=>cf (aw z)) S=aw (cf (o8 b),S):=by
 unfold nG;rw[yd];dsimp only;rw[Za,Zm,Zl];unfold o8;cases b[argBest (cO b) (b.length - 1)]? <;> rfl
def Oz{ah:Option (Int × Int)}{left:List Int}{c:Nat}(C:Kn K p c S)(hc:c < 99999):∃S',jz (.ref p) (.tup [ahE ah,.tup (left.map D.int)]) (cf (bb K left.length ah left)) S=aw S'/\Kp p S S'/\Kn K p (c+1) S'/\ixS (.ref p) (.tup [ahE ah,.tup (left.map D.int)]) S'=aw (cf (bb K left.length ah left),S'):=by
 obtain⟨b,v,B,⟨j,z⟩,J⟩:=C.ex;have lt:p < S.length:=(Zb.mp B).1;have e:jz (.ref p) (.tup [ahE ah,.tup (left.map D.int)]) (cf (bb K left.length ah left)) S=Bf (.ref p) (.tup [ahE ah,.tup (left.map D.int)]) (cf (bb K left.length ah left)) S:=rfl;rw[e];simp only[Bf,eY,B];rw[if_pos (by lia)];have kp:∀o,Kp p S (S.set p o):=λo i u hi h=>by rw[Zz (Ne.symm hi)];exact h
 by_cases cd:(atD b v (gP ah left)).isSome=aN
 ·rw[if_pos cd];have f:(S.set p (Ob.dic b (fN (gP ah left) (cf (bb K left.length ah left)) b v)))[p]?=aw (.dic b (fN (gP ah left) (cf (bb K left.length ah left)) b v)):=ZU lt;refine⟨_,rfl,kp _,⟨_,_,f,⟨qd j,λq l d h=>?_⟩,by lia⟩,wm f ?_⟩
  ·rcases yb h with ⟨h1,rfl⟩ |h1
   ·obtain⟨rfl,rfl⟩:=ua h1;rfl
   ·exact z q l d h1
  ·exact ub cd
 ·rw[if_neg cd]
  have I:atD b v (gP ah left)=aD:=by
   cases h:atD b v (gP ah left) with
   |none=>rfl
   |some d=>rw[h] at cd;exact absurd rfl cd
  have f:(S.set p (Ob.dic (b++[gP ah left]) (v++[cf (bb K left.length ah left)])))[p]?=aw (.dic (b++[gP ah left]) (v++[cf (bb K left.length ah left)])):=ZU lt;refine⟨_,rfl,kp _,⟨_,_,f,⟨by rw[Zg,Zg,j];rfl,λq l d h=>?_⟩,by rw[Zg,Zt];lia⟩,wm f ?_⟩
  ·rw[qZ j] at h;split at h
   ·rename_i L hd;cases h;exact z q l d hd
   ·split at h
    ·rename_i y;cases h;obtain⟨rfl,rfl⟩:=ua y;rfl
    ·cases h
  ·rw[qZ j,I];dsimp only;rw[if_pos rfl]
abbrev OA{b:Type}(w:b->D):Option b->List D
 |none=>[]
 |some z=>[w z]
def uc{c b:Type}(f:c->Option b)(w:b->D):∀ (l:List c),(l.flatMap λa=>OA w (f a))=(l.filterMap f).map w
 |[]=>rfl
 |a::l=>by
  rw[Xb,uc f w l,YV];cases f a <;> rfl
def DG(Z:SkOk K){n k:Nat}(ih:BB K p n (k+5)):BB K p (n+1) (k+7):=λah left S cc Q lf kn hcc q=>by
 refine ay (d:=bV) (ρ:=[aw (skE K),aw m7,aw (ahE ah),aw (.tup (left.map D.int)),aw (.ref p),aD,aD]) rfl rfl ?_;dsimp only[bV,dQ];have g7:=Z.g7;have ln:=lf.ln;have le:=lf.le;obtain⟨y,ds,O,ki,hcl⟩:=kn.ex;have l:cnt (n+1)=(n+1) * cnt n+1:=rfl
 have ne:(left.map D.int).isEmpty=aS:=by
  cases left with
  |nil=>simp at ln
  |cons _ _=>rfl
 k_is;rw[ne];k_is;refine aa (Ox O) ?_;cases X:atD y ds (gP ah left) with
 |some d=>
  k_is;refine aa (wm O X) ?_;have e:=ki.2 ah left d X;rw[ln] at e;subst e;exact q S (Kp.refl p S) (kn.up (YU _ _))
 |none=>
  k_is;refine mS left.length (λi=>D.int (left.getD i 0)) (λi c S'=>Kp p S S'/\Kn K p (cc+i * cnt n) S'/\c=(left.take i).map λg=>cf (bw K n ah left g)) (λi c S' hi _=>?_) (by lia) (λi c S' hi f=>?_) (λes S' B=>?_) ⟨Kp.refl p S,by rw[Nat.zero_mul];exact kn,rfl⟩
  ·show aw (left.map D.int)[i]?=_;rw[Zl];split
   ·rename_i h;rw[gEG h,Zm,gEG h];rfl
   ·rename_i h;rw[Zv (by lia)];rfl
  ·obtain⟨kp,b,rfl⟩:=f;have eg:left.getD i 0=left[i]:=by rw[Zm,gEG hi];rfl
   rw[eg];refine⟨_,rfl,?_⟩;k_is;have hi2:(i+1) * cnt n<=(n+1) * cnt n:=Nat.mul_le_mul_right _ (by lia);have C:(i+1) * cnt n=i * cnt n+cnt n:=WE _ _;refine⟨rfl,HW (k:=k) Z ih lf (ZO hi) b (by lia) λS1 k1 u=>⟨kp.trans k1,by rw[C,<-YX];exact u,?_⟩⟩;rw[Z5 hi,ZQ];rfl
  ·obtain⟨kp,b,rfl⟩:=B;rw[Yz];refine⟨by rw[Za];lia,?_⟩;have U:(S'++[Ob.lst (left.map λg=>cf (bw K n ah left g))])[S'.length]?=aw (.lst (left.map λg=>cf (bw K n ah left g))):=bv;have T:Sm S' (S'++[Ob.lst (left.map λg=>cf (bw K n ah left g))]):=Sm.app _ _;generalize S'++[Ob.lst (left.map λg=>cf (bw K n ah left g))]=S1 at *;generalize S'.length=N at *;k_is;refine⟨by rw[aE U];rfl,?_⟩;refine bh left (λg=>cf (bw K n ah left g)) (λg=>OA (λz=>cf (aw z)) (bw K n ah left g)) (by lia) (λg _=>by cases bw K n ah left g <;> simp[OA]) (ei U) (λi g S2 hg sm=>⟨_,rfl,?_⟩) λS2 L=>?_
   ·k_is;cases hb:bw K n ah left g with
    |none=>
     refine aa (show am .isnot (cf aD) .non S2=aw (.bl aS,S2) from rfl) ?_;k_is;exact⟨rfl,Sm.refl _⟩
    |some z=>
     refine aa (show am .isnot (cf (aw z)) .non S2=aw (.bl aN,S2) from rfl) ?_;k_is;exact⟨rfl,Sm.refl _⟩
   ·rw[uc];refine aa (Oy _) ?_;rw[<-kN]
    have k2:Kn K p (cc+(n+1) * cnt n) S2:=by
     have:=(b.kp T).kp L
     rwa [ln] at this
    obtain⟨J,Y,j,v,I⟩:=Oz (ah:=ah) (left:=left) k2 (by lia);rw[ln] at Y I;refine⟨J,Y,?_⟩;k_is;refine aa I (q J ((kp.trans (T.trans L).kp).trans j) ?_);rw[l,<-YX];exact v
def pd(b:SkOk K){j:Nat}:∀n,BB K p n (2 * n+5+j)
 |0=>by rw[show 2 * 0+5+j=(4+j)+1 by lia];exact DF
 |n+1=>by
  have I:=pd b (j:=j) n;rw[show 2 * (n+1)+5+j=(2 * n+j)+7 by lia];exact DG b (by rw[show 2 * n+j+5=2 * n+5+j by lia];exact I)
def DH{n:Nat}:∀i S',Sm S S'->nxR 0 n i S'=aw (((Ze n)[i]?).map λ(j:Nat)=>D.int (0+(j:Int))):=λi S' _=>by
 show aw (if i < n then aw (D.int (0+(i:Int))) else aD)=_;split
 ·rename_i h;rw[Ye h];rfl
 ·rename_i h;rw[Zv (by rw[ZB];lia)];rfl
abbrev cb(K:Sky):List Int:=((Ze K.G.length).filter λ(j:Nat)=>!decide ((j:Int) ∈ K.F)).map λ(j:Nat)=>(j:Int)
def HX(V:Vd K)(q:∀S',Sm S S'->Q (.tup ((cb K).map D.int)) S'):Ok (evC ae (k+1) 21 [skE K] S) Q:=by
 refine ay (d:=f7) (ρ:=[aw (skE K)]) rfl rfl ?_;dsimp only[f7,kf];have g7:=V.g7;k_is;refine aa sk2 (aa bI ?_);k_is;refine⟨gk (by lia) (by lia),?_⟩;rw[ZI];refine bh (Ze K.G.length) (λ(j:Nat)=>D.int (0+(j:Int))) (λ(j:Nat)=>if (!decide ((j:Int) ∈ K.F))=aN then [D.int (j:Int)] else []) (by rw[ZB];lia) (λa _=>by split <;> simp) DH (λi j S' l sm=>⟨_,rfl,?_⟩) λb f=>?_
 ·k_is;refine aa sk3 ?_;rw[Wd];k_is;refine aa (show am .notin (.int (j:Int)) (.tup (K.F.map D.int)) S'=aw (.bl (aN != decide ((j:Int) ∈ K.F)),S') from cJ aN K.F j S') ?_;rw[show(aN != decide ((j:Int) ∈ K.F)) = !decide ((j:Int) ∈ K.F) by cases decide ((j:Int) ∈ K.F) <;> rfl];k_is;cases c:!decide ((j:Int) ∈ K.F) with
  |true=>exact⟨rfl,Sm.refl _⟩
  |false=>exact⟨rfl,Sm.refl _⟩
 ·rw[bx];refine aa (show cX aS _ b=aw (.tup _,b) from rfl) ?_;have:=q b f;unfold cb at this
  rwa [Z0] at this
def DI(V:Vd K)(bd:∀g ∈ K.F,0<=g/\g < K.G.length)(B:K.F.length<=7)(z:∀j,rn K K.F K.ah [] = .inl j->∀S',Sm S S'->Q .non S')(y:∀R,rn K K.F K.ah [] = .inr R->∀n S',Sm S S'->S'[n]?=aw (.lst (R.map au))->S.length<=n->Q (.ref n) S'):Ok (evC ae (k+6) 32 [skE K] S) Q:=by
 refine ay (d:=cC) (ρ:=[aw (skE K),aD]) rfl rfl ?_;dsimp only[cC,eM];k_is;refine aa sk3 ?_;refine⟨rfl,tQ (k:=k) V bd B λn L u l q hN v=>?_⟩;k_is;refine aa (gJ q) (aa sk3 (aa bI ?_));k_is;rw[Za];cases b:rn K K.F K.ah [] with
 |inl j=>
  have f:=v.stuck j b;have c:=Dq K.F _ _ j b;rw[Z1,Yv] at c;rw[decide_eq_false (show ¬ (L.length:Int)=K.F.length by lia)];k_is;exact z j b u l
 |inr R=>
  have f:=v.lands R b;have c:=jf K.F _ _ R b;rw[Z1,Yv] at c;rw[decide_eq_true (show(L.length:Int)=K.F.length by rw[f,c])];k_is;exact y R b n u l (by rw[<-f];exact q) hN
abbrev fA(K:Sky):Option (Int × List Int):=match rn K K.F K.ah [] with
 |.inl _=>aD
 |.inr R=>(bb K (cb K).length (aO K R) (cb K)).map λz=>(R.foldr (λy x=>jnd y.2 x) z.1,K.F++z.2)
def JF:∀ (os:List Int) (a:Option (Int × Int)) (L R:List (Int × Int)),(∀g ∈ os,0<=g/\g < K.G.length)->InG K L->rn K os a L = .inr R->InG K R
 |[],_,L,R,_,hL,e=>by cases e;exact hL
 |g::os,a,L,R,ho,hL,e=>by
  rw[rn] at e;split at e
  ·cases e
  ·rename_i m _;split at e
   ·cases e
   ·exact JF os _ _ R (λx c=>ho x (Zh _ c)) (λz b=>(ZM.mp b).elim (hL z) λZ=>by rw[ZF.mp Z];exact ho g Zk) e
def OB:∀n,n < 8->cnt n<=99999:=by decide
def HY(f:SkOk K){ah:Option (Int × Int)}(d:∀q,ah=aw q->0<=q.1/\q.1 < K.M.length):Lf K (cb K).length ah (cb K):=by
 refine⟨?_,λg b=>?_,rfl,?_,d⟩
 ·unfold cb;exact YL.mpr ((YT.filter _).imp λh z=>h (Int.ofNat.inj z))
 ·unfold cb at b;obtain⟨j,c,rfl⟩:=ZA.mp b;have:=ZJ.mp (ZH.mp c).1
  lia
 ·unfold cb;rw[Za];have:=YI (λ(j:Nat)=>!decide ((j:Int) ∈ K.F)) (Ze K.G.length);rw[ZB] at this;exact this
def Kp.new{o:Ob}(h:Ev.Kp S.length (S++[o]) S'):Sm S S':=λi u e=>by
 have hi:=(Zb.mp e).1;exact h i u (by lia) (Sm.app _ _ _ _ e)
def pf{n:Nat}{ds:List D}{T:Tg}{b:XS}{c:Rho}{Q:Fl->Rho->Sto->Prop}(hl:ds.length<=100000)(I:Nat->Rho->Sto->Prop)(y:∀i c S',I i c S'->S'[n]?=aw (.lst ds))
  (step:∀ (i:Nat) d c S',ds[i]?=aw d->I i c S'->∃j,aC T d c=aw j/\OkS (b j S') λJ f u=>match J with |.nx=>I (i+1) f u |.ct=>I (i+1) f u |.bk=>Q .nx f u |.rt d=>Q (.rt d) f u)
  (q:∀c S',I ds.length c S'->Q .nx c S') (C:I 0 c S):OkS (fC (nxS n) T b LF 0 c S) Q:=by
 refine kK ds.length I (by unfold LF;lia) (λi c S' hi l=>?_) (λc S' l=>⟨?_,q c S' l⟩) C
 ·obtain⟨j,B,z⟩:=step i ds[i] c S' (gEG hi) l;refine⟨ds[i],j,?_,B,z⟩;show(aU S' n).map (λds=>ds[i]?)=_;rw[aE (y i c S' l),ZN,gEG hi]
 ·show(aU S' n).map (λv=>v[ds.length]?)=_;rw[aE (y _ c S' l),ZN,Zv (Zi _)]
def DJ(B:SkOk K)(q:∀S',Sm S S'->Q (cf (fA K)) S'):Ok (evC ae (k+20) 35 [skE K,m7] S) Q:=by
 refine ay (d:=fk) (ρ:=[aw (skE K),aw m7,aD,aD,aD,aD,aD,aD]) rfl rfl ?_;dsimp only[fk,i7];have V:=B.vd;have g7:=B.g7;have lF:=Dw.dE K.G.length K.F B.nd B.bd;k_is;unfold fA at q;refine⟨rfl,DI (k:=k+13) V B.bd (by lia) (λj J I U=>?_) (λR J n I U hn hN=>?_)⟩
 ·rw[J] at q;k_is;refine aa (show am .is .non .non I=aw (.bl aN,I) from rfl) ?_;k_is;exact q I U
 ·rw[J] at q;k_is;refine aa (show am .is (.ref n) .non I=aw (.bl aS,I) from rfl) ?_;k_is;have inR:InG K R:=JF K.F _ [] R B.bd (λz hz=>by cases hz) J;refine⟨rfl,tM (k:=k+18) V hn inR ?_⟩;refine⟨rfl,HX (k:=k+18) V λT s2=>?_⟩;k_is;have fl:=HY B (tP V inR);have fle:=fl.le;have hc:=OB (cb K).length (by lia);have kn:Kn K T.length 0 (T++[Ob.dic [] []]):=⟨[],[],bv,⟨rfl,λ_ _ _ h=>by cases h⟩,Zi _⟩;have bo:=pd (p:=T.length) B (j:=k+14 - 2 * (cb K).length) (cb K).length;rw[show 2 * (cb K).length+5+(k+14 - 2 * (cb K).length)=k+19 by lia] at bo;refine⟨rfl,bo _ _ _ 0 _ fl kn (by lia) λl k3 kn3=>?_⟩;have Z:=(U.trans s2).trans (Kp.new k3);have X:=(Kp.new k3) _ _ (s2 _ _ hn);dsimp only at q;cases hb:bb K (cb K).length (aO K R) (cb K) with
  |none=>
   rw[hb] at q;rw[show cf aD = .non from rfl];k_is;refine aa (show am .is .non .non l=aw (.bl aN,l) from rfl) ?_;k_is;exact q l Z
  |some z=>
   rw[hb] at q;rw[show cf (aw z) = .tup [.int z.1,.tup (z.2.map D.int)] from rfl];k_is;refine aa (show am .is (.tup [.int z.1,.tup (z.2.map D.int)]) .non l=aw (.bl aS,l) from rfl) ?_;k_is;refine aa (show vm (.ref n) l=aw (.ref l.length,l++[Ob.lst (R.map au).reverse]) by simp only[vm,aE X]) ?_;have a4:(l++[Ob.lst (R.map au).reverse])[l.length]?=aw (.lst (R.map au).reverse):=bv;have s4:=Z.trans (Sm.app l [Ob.lst (R.map au).reverse]);generalize l++[Ob.lst (R.map au).reverse]=S4 at *;generalize l.length=N at *;have lR:=jf K.F _ _ R J;rw[Z1,Yv] at lR;k_is;refine⟨by rw[aE a4];rfl,?_⟩;refine pf (ds:=(R.map au).reverse) (by rw[Ym,Za];lia) (λi O S'=>S'=S4/\∃u v,O=[aw (skE K),aw m7,aw (.ref n),aw (.tup [.int z.1,.tup (z.2.map D.int)]),aw (.int ((R.reverse.take i).foldl (λx y=>jnd y.2 x) z.1)),aw (.tup (z.2.map D.int)),u,v]) (λi O S' L=>by rw[L.1];exact a4) (λi d O S' hd L=>?_) (λO S' L=>?_) ⟨rfl,_,_,rfl⟩
   ·obtain⟨rfl,u,v,rfl⟩:=L;rw[<-List.map_reverse] at hd;obtain⟨y,Y,rfl⟩:=v8 hd;have C:=inR y (List.mem_reverse.mp (Zd Y));obtain⟨a,b,c,d,e,f,h,eg,e0,e1,e2,e3,e6,a0,a1,c0⟩:=gl7 V C.1 C.2;refine⟨_,show aC (.tup [.name 6,.name 7]) (.tup [.int y.1,.int y.2]) _=_ from qI (by simp) (by simp),?_⟩;k_is;refine aa sk2 (aa (mX C.1 eg) ?_);refine⟨rfl,pc (k:=k+17) ?_⟩;k_is
    have e:(R.reverse.take (i+1)).foldl (λx y=>jnd y.2 x) z.1=jnd y.2 ((R.reverse.take i).foldl (λx y=>jnd y.2 x) z.1):=by
     rw[List.take_succ,Y,List.foldl_append];rfl
    rw[e];exact⟨rfl,_,_,rfl⟩
   ·obtain⟨rfl,u,v,rfl⟩:=L;rw[Ym,Za,<-Ym (as:=R),Yz,List.foldl_reverse];k_is;refine aa sk3 ?_;k_is;have lz:=wj _ _ _ z hb;refine⟨by rw[Za,Za];lia,?_⟩;have:=q _ s4;dsimp only[ZN,cf] at this
    rwa [ZQ] at this
end Lw
namespace Sn
open Ev PySem Lw
def wn{b:List (Int × List Int)}(h:b ≠ []):∃z,o8 b=aw z:=by
 have c:0 < b.length:=Xr.mpr h;exact⟨_,gEG (YC (xq _) (by lia))⟩
variable {K:Sky}
def ud{left:List Int}{g:Int}(c:left.Nodup)(b:g ∈ left):left.Perm (g::rst left g):=by
 have e:rst left g=left.erase g:=by
  rw[List.Nodup.erase_eq_filter c];unfold rst;refine Xc λx _=>?_;by_cases h:x=g <;> simp[h]
 rw[e];exact YN b
def DK{left:List Int}{g:Int}(b:left.Nodup):(rst left g).Nodup:=b.sublist YW
def ue:∀ (n:Nat) (left:List Int) (L:List (Int × Int)) (z:Int × List Int),(∀g ∈ left,gi K.G g 6=0)->left.Nodup->left.length=n->L.length+n=K.G.length->bb K n (aO K L) left=aw z->z.2.Perm left/\∃R,rn K z.2 (aO K L) L = .inr R
 |0,left,L,z,_,_,ln,_,h=>by
  cases h;rw[Z6.mp ln];exact⟨List.Perm.nil,L,rfl⟩
 |n+1,left,L,z,nr,nd,ln,hn,h=>by
  rw[kN] at h;obtain⟨g,b,e⟩:=YB.mp (o9 h);unfold bw at e;rw[show K.G.length - (n+1)=L.length by lia] at e;cases hs:step K (aO K L) g L.length with
  |none=>rw[hs] at e;cases e
  |some m=>
   rw[hs] at e;obtain⟨y,d,rfl⟩:=ZC.mp e;have c:=ud nd b;have k:=c.length_eq;rw[Zo] at k;obtain⟨p1,R,r1⟩:=ue n (rst left g) (L++[(g,m)]) y (λx j=>nr x (ZH.mp j).1) (DK nd) (by lia) (by rw[Zg,Zt];lia) (by rw[bq];exact d);refine⟨(p1.cons g).trans c.symm,R,?_⟩;have f:cV K L g m=aS:=by unfold cV;rw[nr g b];rfl
   rw[rn,hs];dsimp only;rw[f,if_neg Zf];rw[bq] at r1;exact r1
def JG:∀ (r left:List Int) (L R:List (Int × Int)),r.Perm left->left.Nodup->L.length+r.length=K.G.length->rn K r (aO K L) L = .inr R->∃z,bb K r.length (aO K L) left=aw z
 |[],left,L,R,pm,_,_,h=>⟨(0,[]),rfl⟩
 |g::r,left,L,R,pm,nd,hn,h=>by
  rw[Zo] at hn;rw[rn] at h;cases hs:step K (aO K L) g L.length with
  |none=>rw[hs] at h;cases h
  |some m=>
   rw[hs] at h;dsimp only at h;split at h
   ·cases h
   ·have b:g ∈ left:=pm.mem_iff.mp Zk;have f:=ud nd b;obtain⟨y,c⟩:=JG r (rst left g) (L++[(g,m)]) R ((pm.trans f).cons_inv) (DK nd) (by rw[Zg,Zt];lia) (by rw[bq];exact h)
    have d:(jnd m y.1,g::y.2) ∈ left.filterMap (bw K r.length (aO K L) left):=YB.mpr ⟨g,b,by
     unfold bw;rw[show K.G.length - (r.length+1)=L.length by lia,hs];dsimp only;rw[bq] at c;rw[c];rfl⟩
    rw[Zo,kN];exact wn (List.ne_nil_of_mem d)
def wo:∀ (os r:List Int) (a:Option (Int × Int)) (L:List (Int × Int)),a=aO K L->rn K (os++r) a L=match rn K os a L with |.inl j=>.inl j |.inr R=>rn K r (aO K R) R
 |[],r,a,L,e=>by rw[e];rfl
 |g::os,r,a,L,e=>by
  rw[Wn,rn,rn];cases step K a g L.length with
  |none=>rfl
  |some m=>
   dsimp only;split
   ·rfl
   ·exact wo os r _ _ (bq (z:=(g,m))).symm
def HZ(d:SkOk K):∀g ∈ cb K,gi K.G g 6=0:=λg b=>by
 obtain⟨f,j,c⟩:=(qV g).mp b;have hi:g.toNat < K.G.length:=by lia
 unfold gi;rw[gEG hi];rcases d.rg g.toNat _ (gEG hi) with h |h
 ·exact h
 ·exact absurd (by rwa [show((g.toNat:Nat):Int)=g by lia] at h) c
def uf(b:SkOk K):K.F.length+(cb K).length=K.G.length:=by
 have:=(Dx b (List.Perm.refl (jO K))).ln
 rwa [Zg] at this
def wp(c:SkOk K)(h:(fA K).isSome=aN):∃os R,Ord K os/\rn K os K.ah [] = .inr R:=by
 obtain⟨z,h⟩:=Yl.mp h;unfold fA at h;cases b:rn K K.F K.ah [] with
 |inl j=>rw[b] at h;cases h
 |inr R=>
  rw[b] at h;obtain⟨y,e,rfl⟩:=ZC.mp h;have l:=jf K.F _ _ R b;rw[Z1,Yv] at l;obtain⟨p1,T,r1⟩:=ue _ _ R y (HZ c) qW rfl (by rw[l];exact uf c) e;refine⟨K.F++y.2,T,Dx c p1,?_⟩;rw[wo _ _ _ _ (show K.ah=aO K [] from rfl),b];exact r1
def H8(u:SkOk K){os:List Int}(b:Ord K os){R:List (Int × Int)}(h:rn K os K.ah [] = .inr R):(fA K).isSome=aN:=by
 obtain⟨r,rfl⟩:=b.fx;rw[wo _ _ _ _ (show K.ah=aO K [] from rfl)] at h;unfold fA;cases c:rn K K.F K.ah [] with
 |inl j=>rw[c] at h;cases h
 |inr d=>
  rw[c] at h;have L:=jf K.F _ _ d c;rw[Z1,Yv] at L;have nd:=Y5.mp b.nd
  have pm:r.Perm (cb K):=(YR nd.2.1 qW).mpr λx=>by
   rw[qV];constructor
   ·intro f;have:=b.bd x (ZE _ f);exact⟨this.1,this.2,λl=>nd.2.2 x l x f rfl⟩
   ·rintro⟨z,v,q⟩;have:x ∈ K.F++r:=b.pm.mem_iff.mpr (ZA.mpr ⟨x.toNat,ZJ.mpr (by lia),by show((x.toNat:Nat):Int)=x;lia⟩);exact(ZM.mp this).resolve_left q
  obtain⟨y,k⟩:=JG r (cb K) d R pm qW (by have:=uf u;have:=pm.length_eq;lia) h;dsimp only;rw[<-pm.length_eq,k];rfl
end Sn
namespace Sn
open Ev PySem Lw
variable {K K':Sky} {l:Bool}
def DM(c:SkOk K){g:Int}(u:0<=g)(d:g < K.G.length):0<=gi K.G g 0/\gi K.G g 0 < K.M.length:=by
 have hi:g.toNat < K.G.length:=by lia
 obtain⟨k,j,v,la,q,f,y,b,hb⟩:=c.gb K.G[g.toNat] (ZO hi);unfold gi;rw[gEG hi,b];exact⟨show 0<=k by lia,show k < _ by lia⟩
abbrev rnm(f:Int->Int)(L:List (Int × Int)):List (Int × Int):=L.map λz=>(f z.1,z.2)
structure Lsr(K K':Sky)(f:Int->Int)(L:List (Int × Int)):Prop where
 g:∀z ∈ L,∀i,gi K'.G (f z.1) i=gi K.G z.1 i
 r:K'.r=K.r
 s:K'.s=K.s
 m:K'.M=K.M
 a:K'.ah=K.ah
 o:K'.H=K.H
def ug{j:Nat}:(rnm f L).take j=rnm f (L.take j):=by unfold rnm;rw[XF]
def Lsr.sub(h:Lsr K K' f L)(c:∀z ∈ A,z ∈ L):Lsr K K' f A:=⟨λz b=>h.g z (c z b),h.r,h.s,h.m,h.a,h.o⟩
def ye{t:Int}(h:Lsr K K' f L):wts K' (rnm f L) t=wts K L t:=by
 unfold wts rnm;rw[Xp,Za]
 congr 1
 refine Xc λz b=>?_;show(decide (gi K'.G (f z.1) 1<=t) && decide (t < z.2 - K'.s))=_;rw[h.g z b 1,h.s];rfl
def DN(h:Lsr K K' f L):aO K' (rnm f L)=aO K L:=by
 unfold aO rnm;rw[List.getLast?_map];cases b:L.getLast? with
 |none=>exact h.a
 |some z=>
  show aw (gi K'.G (f z.1) 0,z.2)=_;rw[h.g z (Xk b) 0]
def DP(h:Lsr K K' f (z::L)):jc K' (rnm f L) (f z.1) z.2=jc K L z.1 z.2:=by
 have c:=h.sub (A:=L) λy b=>Zh _ b
 have e:eS K' (rnm f L) (f z.1) z.2=eS K L z.1 z.2:=by
  unfold eS;have j:jn K' (f z.1)=jn K z.1:=h.g z Zk 1
  have d:(rnm f L).map (λp=>jn K' p.1)=L.map λp=>jn K p.1:=by
   unfold rnm;rw[Z0];exact Yd λy b=>c.g y b 1
  rw[j,d,h.s]
 unfold jc;rw[e]
 congr 1
 exact Yd λt _=>by rw[ye c]
def DQ(h:Lsr K K' f L)(kp:nQ K L):nQ K' (rnm f L):=λj y hy=>by
 unfold rnm at hy;rw[Zl] at hy;obtain⟨z,c,rfl⟩:=ZC.mp hy;have k:=kp j z c;have b:=Zd c
 have q:Lsr K K' f (z::L.take j):=h.sub λy hy=>by
  rcases Zn.mp hy with rfl |hy
  ·exact b
  ·exact YQ hy
 refine⟨by rw[h.g z b 2];exact k.lo,by rw[h.g z b 3];exact k.hi,by rw[h.o];exact k.op,λa d=>?_,?_,?_⟩
 ·rw[ug,DN (q.sub λy hy=>Zh _ hy)] at d;have:=k.gap a d;show a.2+gp K' a.1 (gi K'.G (f z.1) 0)<=z.2;unfold gp;rw[h.m,h.g z b 0];exact this
 ·rw[ye h,show jn K' (f z.1)=jn K z.1 from h.g z b 1,h.r];exact k.wt
 ·have:=k.rg;unfold cV at this ⊢;rw[ug,DP q,h.g z b 6];exact this
def zW{g m:Int}(h:List.Sublist P A):jc K P g m<=jc K A g m:=by
 unfold jc;refine x5 (λx d=>?_) λy c=>?_
 ·obtain⟨t,b,rfl⟩:=ZA.mp d;refine⟨1+(wts K A t:Int),ZA.mpr ⟨t,?_,rfl⟩,by have:wts K P t<=wts K A t:=(h.filter _).length_le;lia⟩;unfold eS at b ⊢;obtain⟨h1,f⟩:=ZH.mp b;refine ZH.mpr ⟨?_,f⟩;rcases Zn.mp h1 with e |h1
  ·rw[e];exact Zk
  ·exact Zh _ ((h.map _).subset h1)
 ·obtain⟨t,_,rfl⟩:=ZA.mp c
  lia
def zX{g m:Int}(h:List.Sublist P A)(b:cV K A g m=aS):cV K P g m=aS:=by
 have:=zW (K:=K) (g:=g) (m:=m) h;unfold cV at b ⊢;cases c:decide (0 < gi K.G g 6) with
 |false=>rfl
 |true=>
  rw[c,YZ] at b;rw[YZ];have:=of_decide_eq_false b;exact decide_eq_false (by lia)
def OC(d:SkOk K){a b c:Int}(f:0<=a)(j:a < K.M.length)(k:0<=b)(B:b < K.M.length)(q:0<=c)(C:c < K.M.length):gp K a b<=gp K a c+gp K c b:=d.me.tri a.toNat b.toNat c.toNat (by lia) (by lia) (by lia)
def zY(u:SkOk K)(I:InG K (A++x::B))(kp:nQ K (A++x::B)):nQ K (A++B):=λj z f=>by
 have sub:List.Sublist (A++B) (A++x::B):=(XH x B).append_left A;have wt:∀ {t:Int},wts K (A++B) t<=wts K (A++x::B) t:=λ{t}=>(sub.filter _).length_le;by_cases Y:j < A.length
 ·have d:(A++x::B)[j]?=aw z:=by rw[Zw Y] at f ⊢;exact f
  have k:=kp j z d;have e:(A++B).take j=(A++x::B).take j:=by rw[Xl (by lia),Xl (by lia)]
  exact⟨k.lo,k.hi,k.op,by rw[e];exact k.gap,by have:=k.wt;have:=wt (t:=jn K z.1);lia,by rw[e];exact k.rg⟩
 ·obtain⟨i,rfl⟩:∃i,j=A.length+i:=⟨j - A.length,by lia⟩;rw[Zp (by lia),show A.length+i - A.length=i by lia] at f;have d:(A++x::B)[A.length+(i+1)]?=aw z:=by rw[Zp (by lia),show A.length+(i+1) - A.length=i+1 by lia];exact f
  have k:=kp _ z d;have Q:(A++B).take (A.length+i)=A++B.take i:=Xs _;have U:(A++x::B).take (A.length+(i+1))=A++x::B.take i:=Xs _;refine⟨k.lo,k.hi,k.op,λa c=>?_,by have:=k.wt;have:=wt (t:=jn K z.1);lia,?_⟩
  ·rw[Q] at c;have C:=k.gap;rw[U] at C;cases i with
   |succ i=>
    cases B with
    |nil=>cases f
    |cons b B=>
     refine C a ?_;rw[List.take_succ_cons] at c ⊢;unfold aO at c ⊢;rw[YO,Y1] at c;rw[YO,List.getLast?_cons_cons,Y1];exact c
   |zero=>
    rw[YM,Yb] at c;have L:=C (gi K.G x.1 0,x.2) (by rw[YM];exact bq);have Z:=kp A.length x m6;have g2:=Z.gap a (by rw[gm];exact c);have T:=I x (ZE _ Zk);have q:=I z (ZE _ (Zh _ (Zd f)));have nx:=DM u T.1 T.2;have X:=DM u q.1 q.2
    have O:0<=a.1/\a.1 < K.M.length:=by
     unfold aO at c;cases v:A.getLast? with
     |none=>rw[v] at c;have:=u.ah a c;exact⟨this.1,this.2.1⟩
     |some y=>
      rw[v] at c;cases c;have J:=I y (ZY _ (Xk v));exact DM u J.1 J.2
    have:=OC u O.1 O.2 X.1 X.2 nx.1 nx.2;have L:x.2+gp K (gi K.G x.1 0) (gi K.G z.1 0)<=z.2:=L
    lia
  ·rw[Q];refine zX ?_ (by have:=k.rg;rw[U] at this;exact this);exact(XH x _).append_left A
def gr(b:SkOk K)(c:Int × Int->Bool):∀ (B A:List (Int × Int)),InG K (A++B)->nQ K (A++B)->nQ K (A++B.filter c)
 |[],A,_,kp=>kp
 |x::B,A,hL,kp=>by
  rw[Z2];split
  ·have:=gr b c B (A++[x]) (by rw[<-cW];exact hL) (by rw[<-cW];exact kp)
   rwa [<-cW] at this
  ·refine gr b c B A (λz hz=>hL z ?_) (zY b hL kp);rcases ZM.mp hz with hz |hz
   ·exact ZY _ hz
   ·exact ZE _ (Zh _ hz)
def Ia{os:List Int}{L:List (Int × Int)}(b:Ord K os)(c:L.map (·.1)=os):InG K L:=λz d=>b.bd z.1 (c ▸ ZA.mpr ⟨z,d,rfl⟩)
def q8:∀ (a b:List Int),a.Nodup->(∀x ∈ a,x ∈ b)->b.length<=a.length->a.Perm b
 |[],b,_,_,h=>by rw[Z6.mp (Nat.le_zero.mp h)]
 |x::a,b,c,hs,h=>by
  have j:=hs x Zk;have p:=YN j;have f:=p.length_eq;rw[Zo] at f h;have c:=ZX.mp c;exact((q8 a (b.erase x) c.2 (λy d=>(Xj (λ(e:y=x)=>c.1 (e ▸ d))).mpr (hs y (Zh _ d))) (by lia)).cons x).trans p.symm
def OD{os:List Int}(nd:os.Nodup)(bd:∀g ∈ os,0<=g/\g < K.G.length)(ln:os.length=K.G.length)(fx:∃r,os=K.F++r):Ord K os:=
 ⟨nd,bd,ln,fx,q8 _ _ nd (λx b=>by
  have:=bd x b;exact ZA.mpr ⟨x.toNat,ZJ.mpr (by lia),by show((x.toNat:Nat):Int)=x;lia⟩) (by rw[Za,ZB];lia)⟩
end Sn
namespace Sn
open Ev PySem Lw
abbrev gl(K:Sky)(x:Int):List Int:=(K.G[x.toNat]?).getD []
abbrev ixI(l:List Int)(x:Int):Int:=(l.idxOf x:Nat)
abbrev fxd(K:Sky)(l:List Int):List Int:=K.F.filter λx=>decide (x ∈ l)
abbrev nar(K:Sky)(l:List Int):Sky:={ K with G:=l.map (gl K),F:=(fxd K l).map (ixI l) }
structure LotK(K:Sky)(lot:List Int):Prop where
 nd:lot.Nodup
 bd:∀x ∈ lot,0<=x/\x < K.G.length
abbrev lnd(K:Sky)(l:List Int):Bool:=(fA (nar K l)).isSome
def pq:∀ (a b:List Int),a.Nodup->(∀x ∈ a,x ∈ b)->a.length<=b.length
 |[],b,_,_=>Z3 _
 |x::a,b,c,hs=>by
  have f:=(YN (hs x Zk)).length_eq;have c:=ZX.mp c;have:=pq a (b.erase x) c.2 λy d=>(Xj (λ(e:y=x)=>c.1 (e ▸ d))).mpr (hs y (Zh _ d));rw[Zo] at f ⊢
  lia
variable {K:Sky} {a b lot:List Int}
def LotK.len(h:LotK K lot):lot.length<=K.G.length:=by
 have:=pq lot ((Ze K.G.length).map Int.ofNat) h.nd λx c=>by
  have:=h.bd x c;exact ZA.mpr ⟨x.toNat,ZJ.mpr (by lia),by show((x.toNat:Nat):Int)=x;lia⟩
 rwa [Za,ZB] at this
def pA{x:Int}(h:x ∈ lot):lot[(ixI lot x).toNat]?=aw x:=by
 have c:=YY.mpr h;show lot[((lot.idxOf x:Nat):Int).toNat]?=_;rw[ZI,gEG c,X5 c]
def yf{x:Int}(h:x ∈ lot):0<=ixI lot x/\ixI lot x < lot.length:=by
 have:=YY.mpr h;unfold ixI
 lia
def DR{x y:Int}(c:x ∈ lot)(d:y ∈ lot)(h:ixI lot x=ixI lot y):x=y:=by
 have:=pA c;rw[h,pA d] at this;exact(Option.some.inj this).symm
def je{i:Nat}{x:Int}(nd:lot.Nodup)(h:lot[i]?=aw x):ixI lot x=i:=by
 have c:=Zd h;have d:=pA c;have k:=(Zb.mp h).1;have I:=(Zb.mp d).1
 have e:(ixI lot x).toNat=i:=by
  have j:=(Zb.mp d).2;have f:=(Zb.mp h).2;exact(YS nd).mp (j.trans f.symm)
 have:=yf c
 lia
def ra{d k:Type}{f:d->k}:∀ {l:List d},l.Nodup->(∀x ∈ l,∀y ∈ l,f x=f y->x=y)->(l.map f).Nodup
 |[],_,_=>Xx
 |x::l,h,i=>by
  have h:=ZX.mp h;rw[Zy];refine ZX.mpr ⟨λz=>?_,ra h.2 λx j y c=>i x (Zh _ j) y (Zh _ c)⟩;obtain⟨y,c,e⟩:=ZA.mp z;exact h.1 (i _ (Zh _ c) _ Zk e ▸ c)
def jP{x:Int}(h:x ∈ fxd K lot):x ∈ K.F/\x ∈ lot:=by
 obtain⟨d,c⟩:=ZH.mp h;exact⟨d,of_decide_eq_true c⟩
def wq(hl:LotK K lot){x:Int}(h:x ∈ lot):K.G[x.toNat]?=aw (gl K x):=by
 have:=hl.bd x h;have hi:x.toNat < K.G.length:=by lia
 unfold gl;rw[gEG hi];rfl
def rb(f:SkOk K)(hl:LotK K lot):SkOk (nar K lot):=by
 refine⟨f.me,?_,λg d=>?_,ra (f.nd.sublist YW) λx c y k e=>DR (jP c).2 (jP k).2 e,λy k=>?_,λj g d=>?_,f.ah⟩
 ·show(lot.map (gl K)).length<=7;have:=hl.len;have:=f.g7;rw[Za];lia
 ·obtain⟨x,c,rfl⟩:=ZA.mp d;exact f.gb _ (Zd (wq hl c))
 ·obtain⟨x,c,rfl⟩:=ZA.mp k;show _/\_ < ((lot.map (gl K)).length:Int);rw[Za];exact yf (jP c).2
 ·have d:(lot.map (gl K))[j]?=aw g:=d;rw[Zl] at d;obtain⟨x,c,rfl⟩:=ZC.mp d;have l:=Zd c;have:=hl.bd x l;refine(f.rg x.toNat _ (wq hl l)).imp_right λh=>ZA.mpr ⟨x,ZH.mpr ⟨?_,decide_eq_true l⟩,je hl.nd c⟩
  rwa [show((x.toNat:Nat):Int)=x by lia] at h
def DS{lot:List Int}{i:Int}{x:Int}(h:lot[i.toNat]?=aw x)(k:Nat):gi (nar K lot).G i k=(gl K x).getD k 0:=by
 unfold gi;show(((lot.map (gl K))[i.toNat]?).getD []).getD k 0=_;rw[Zl,h];rfl
def uh(sk:SkOk K)(Z:LotK K a)(hb:LotK K b)(sub:∀x ∈ b,x ∈ a)(h:lnd K a=aN):lnd K b=aN:=by
 have I:=rb sk Z;have O:=rb sk hb;obtain⟨os,R,C,hr⟩:=wp I h;obtain⟨U,kp⟩:=HQ I C hr;have hG:=Ia C U;have la:((nar K a).G.length:Int)=a.length:=by show((a.map (gl K)).length:Int)=_;rw[Za]
 have lb:((nar K b).G.length:Int)=b.length:=by show((b.map (gl K)).length:Int)=_;rw[Za]
 have X:(nar K b).G.length=b.length:=by lia
 let v:Int->Int:=λi=>a.getD i.toNat 0
 have T:∀i ∈ os,a[i.toNat]?=aw (v i):=λi hi=>by
  have:=C.bd i hi;have hl:i.toNat < a.length:=by lia
  show _=aw (a.getD i.toNat 0);rw[Zm,gEG hl];rfl
 let c:Int × Int->Bool:=λz=>decide (v z.1 ∈ b)
 let f:Int->Int:=λi=>ixI b (v i)
 have J:=gr I c R [] hG kp;rw[XM] at J
 have inR:∀z ∈ R.filter c,z.1 ∈ os/\v z.1 ∈ b:=λz hz=>by
  obtain⟨k,u⟩:=ZH.mp hz;exact⟨U ▸ ZA.mpr ⟨z,k,rfl⟩,of_decide_eq_true u⟩
 have ls:Lsr (nar K a) (nar K b) f (R.filter c):=⟨λz hz i=>by
  obtain⟨k,u⟩:=inR z hz;rw[DS (pA u),DS (T _ k)],rfl,rfl,rfl,rfl,rfl⟩
 have Y:=DQ ls J
 have ef:(rnm f (R.filter c)).map (·.1)=(os.filter λi=>decide (v i ∈ b)).map f:=by
  unfold rnm;rw[Z0,<-U,Xp,Z0];rfl
 have B:∀x ∈ os,∀y ∈ os,v x=v y->x=y:=λx d y l e=>by
  have k:=T x d;have u:=T y l;rw[<-e] at u;have q1:=je Z.nd k;have q2:=je Z.nd u;have:=C.bd x d;have:=C.bd y l
  lia
 have j:∀i ∈ os.filter (λi=>decide (v i ∈ b)),i ∈ os/\v i ∈ b:=λi hi=>by
  obtain⟨k,u⟩:=ZH.mp hi;exact⟨k,of_decide_eq_true u⟩
 have Q:Ord (nar K b) ((rnm f (R.filter c)).map (·.1)):=by
  rw[ef];have nf:=C.nd.sublist (YW (p:=λi=>decide (v i ∈ b)));refine OD (ra nf λx d y l e=>?_) (λy l=>?_) ?_ ?_
  ·exact B x (j x d).1 y (j y l).1 (DR (j x d).2 (j y l).2 e)
  ·obtain⟨x,d,rfl⟩:=ZA.mp l;rw[lb];exact yf (j x d).2
  ·rw[Za,X,<-Za (f:=v)];refine List.Perm.length_eq ((YR (ra nf λx d y l e=>B x (j x d).1 y (j y l).1 e) hb.nd).mpr λx=>⟨λd=>?_,λd=>?_⟩)
   ·obtain⟨i,hi,rfl⟩:=ZA.mp d;exact(j i hi).2
   ·have L:=sub x d;have k:=pA L;have u:=yf L;have hm:ixI a x ∈ os:=C.pm.mem_iff.mpr (ZA.mpr ⟨(ixI a x).toNat,ZJ.mpr (by lia),by show(((ixI a x).toNat:Nat):Int)=_;lia⟩)
    have ev:v (ixI a x)=x:=by
     have:=T _ hm;rw[k] at this;exact(Option.some.inj this).symm
    exact ZA.mpr ⟨ixI a x,ZH.mpr ⟨hm,decide_eq_true (ev.symm ▸ d)⟩,ev⟩
  ·obtain⟨r,er⟩:=C.fx;refine⟨(r.filter λi=>decide (v i ∈ b)).map f,?_⟩;rw[er,Y2,ZQ]
   congr 1
   have hv:∀x ∈ fxd K a,v (ixI a x)=x:=λx d=>by
    have k:=pA (jP d).2;show a.getD (ixI a x).toNat 0=x;rw[Zm,k];rfl
   show(((fxd K a).map (ixI a)).filter λi=>decide (v i ∈ b)).map f=(fxd K b).map (ixI b);rw[Xp,Z0]
   have e2:(fxd K a).filter ((λi=>decide (v i ∈ b)) ∘ ixI a)=fxd K b:=by
    rw[Xc (q:=λx=>decide (x ∈ b)) λx d=>by show decide (v (ixI a x) ∈ b)=_;rw[hv x d]];unfold fxd;rw[List.filter_filter];refine Xc λx _=>?_;by_cases d:x ∈ b
    ·simp[d,sub x d]
    ·simp[d]
   rw[e2];refine Yd λx d=>?_;show ixI b (v (ixI a x))=_;rw[hv x (ZH.mpr ⟨(jP d).1,decide_eq_true (sub x (jP d).2)⟩)]
 obtain⟨R',r1,_⟩:=tV O Q (rnm f (R.filter c)) [] [] rfl Y .nil;exact H8 O Q r1
end Sn
namespace Sn
open Ev PySem Lw
abbrev aY(l:List Int)(L:List (List Int)):Bool:=L.any λo=>o.all λx=>decide (x ∈ l)
abbrev pk(c:List Int->Bool):List (List Int)->List (List Int)->List (List Int)
 |[],acc=>acc
 |l::ls,acc=>pk c ls (if (!aY l acc && c l)=aN then acc++[l] else acc)
def yg:aY L (a++b)=(aY L a || aY L b):=by unfold aY;rw[List.any_append]
def m9:∀ (L b:List (List Int)),o ∈ pk c L b->o ∈ b\/(o ∈ L/\c o=aN)
 |[],b,h=>.inl h
 |l::L,b,h=>by
  unfold pk at h;rcases m9 L _ h with h |⟨h,hc⟩
  ·split at h
   ·rename_i d;rw[bAE] at d;rcases ZM.mp h with h |h
    ·exact .inl h
    ·rw[ZF.mp h];exact .inr ⟨Zk,d.2⟩
   ·exact .inl h
  ·exact .inr ⟨Zh _ h,hc⟩
def yh:∀ (d b:List (List Int)),aY L b=aN->aY L (pk c d b)=aN
 |[],b,h=>h
 |l::d,b,h=>by
  unfold pk;refine yh d _ ?_;split
  ·rw[yg,h];rfl
  ·exact h
def DT:aY L [L]=aN:=by unfold aY;simp
def rc(hc:c L=aN):∀ (b d:List (List Int)),L ∈ b->aY L (pk c b d)=aN
 |l::b,d,h=>by
  unfold pk;rcases Zn.mp h with rfl |h
  ·refine yh b _ ?_;split
   ·rw[yg,DT,Bool.or_true]
   ·rename_i f;rw[hc,Wz] at f
    simpa using f
  ·exact rc hc b _ h
def ji:∀ (L b:List (List Int)),(∀l ∈ L,c l=C l)->pk c L b=pk C L b
 |[],b,_=>rfl
 |l::L,b,h=>by
  unfold pk;rw[h l Zk];exact ji L _ λx d=>h x (Zh _ d)
def pB{P:List Int->Bool}{c:List (List Int)}(mono:∀a ∈ c,∀b ∈ c,(∀x ∈ b,x ∈ a)->P a=aN->P b=aN){L:List Int}(d:L ∈ c):(!aY L (pk (λl=>!P l) c []))=P L:=by
 cases j:P L with
 |false=>rw[rc (by rw[j];rfl) c [] d];rfl
 |true=>
  cases f:aY L (pk (λl=>!P l) c []) with
  |false=>rfl
  |true=>
   unfold aY at f;obtain⟨o,k,hs⟩:=Yp.mp f;rcases m9 c [] k with h |⟨h1,h2⟩
   ·cases h
   ·rw[mono L d o h1 (λx q=>of_decide_eq_true (ZR.mp hs x q)) j] at h2;cases h2
abbrev aG:Nat->List (List Int)
 |0=>[[]]
 |n+1=>aG n++(aG n).map (·++[(n:Int)])
def bE:∀ (n:Nat) (l:List Int),l ∈ aG n->l.Nodup/\∀x ∈ l,0<=x/\x < n
 |0,l,h=>by rw[ZF.mp h];exact⟨Xx,λx hx=>by cases hx⟩
 |n+1,l,h=>by
  rcases ZM.mp h with h |h
  ·obtain⟨c,b⟩:=bE n l h;exact⟨c,λx hx=>by have:=b x hx;lia⟩
  ·obtain⟨k,f,rfl⟩:=ZA.mp h;obtain⟨c,b⟩:=bE n k f;refine⟨Y5.mpr ⟨c,by simp,λx hx y d e=>?_⟩,λx hx=>?_⟩
   ·have:=b x hx;have:=ZF.mp d
    lia
   ·rcases ZM.mp hx with hx |hx
    ·have:=b x hx;lia
    ·have:=ZF.mp hx;lia
def c9:∀n,(aG n).length=2 ^ n
 |0=>rfl
 |n+1=>by unfold aG;rw[Zg,Za,c9 n,Nat.pow_succ];lia
def jQ(c:Nat->Bool):∀n,((Ze n).filter c).map (λ(j:Nat)=>(j:Int)) ∈ aG n
 |0=>by simp[aG]
 |n+1=>by
  rw[Xo,Y2,ZQ];unfold aG;have I:=jQ c n;by_cases h:c n=aN
  ·rw[Z2,if_pos h];exact ZE _ (ZA.mpr ⟨_,I,rfl⟩)
  ·rw[Z2,if_neg h];rw[List.filter_nil,Z4,Yb];exact ZY _ I
def rd(h:l ∈ aG K.G.length):LotK K l:=⟨(bE _ l h).1,(bE _ l h).2⟩
abbrev bj(n:Nat)(l:List Int):List Int:=((Ze n).filter λ(j:Nat)=>!decide ((j:Int) ∈ l)).map λ(j:Nat)=>(j:Int)
def cF{n:Nat}:bj n l ∈ aG n:=jQ _ n
abbrev slots(n:Nat):List (List Int):=cQ (aG n) [] (aG n)
def ui{b c:Type}{g:b->c}{d:b}{d':c}{l:List (List Int)}{v:List b}(hN:eI (λi j=>bA (bG l i) (bG l j)) v.length):cQ l d' (v.map g)=(cQ l d v).map g:=by
 unfold cQ;rw[Za];split
 ·rfl
 ·rw[Z0];refine Yd λi hi=>?_;have:=(jw hN (by lia)).1 i hi;show(v.map g).getD i d'=g (v.getD i d);rw[Zm,Zm,Zl,gEG this];rfl
def pC{c:Type}{d:c}{l:List (List Int)}{vs:List c}(hN:eI (λi j=>bA (bG l i) (bG l j)) vs.length):(cQ l d vs).Perm vs:=by
 unfold cQ;split
 ·exact List.Perm.refl _
 ·rename_i h;have k:Pm vs.length (bN (λi j=>bA (bG l i) (bG l j)) vs.length):=qe hN (by lia)
  have f:((bN (λi j=>bA (bG l i) (bG l j)) vs.length).toList.map λi=>vs.getD i d).Perm ((Ze vs.length).map λi=>vs.getD i d):=by
   refine List.Perm.map _ ?_;have:=k.toList
   simpa using this
  refine f.trans ?_
  have e:(Ze vs.length).map (λi=>vs.getD i d)=vs:=by
   refine YJ λj=>?_;rw[Zl];by_cases b:j < vs.length
   ·rw[Ye b,gEG b];show aw (vs.getD j d)=_;rw[Zm,gEG b];rfl
   ·rw[Zv (by simpa using b),Zv (by simpa using b)];rfl
  rw[e]
abbrev wl(n:Nat)(i j:Nat):Bool:=bA (bG (aG n) i) (bG (aG n) j)
abbrev upB:List Nat->Bool
 |a::b::l=>decide (a<=b) && upB (b::l)
 |_=>aN
abbrev Ib(n:Nat):Bool:=(vq (wl n) (aG n).length).any λp=>upB (p.toList.map λi=>((aG n).getD i []).length)
def JH:∀n,n<=7->Ib n=aN:=by
 have h:(Ze 8).all Ib=aN:=by decide +kernel
 exactλn b=>ZR.mp h n (ZJ.mpr (by lia))
variable {n:Nat} {l:List Int}
def Ic(h:n<=7):eI (λi j=>bA (bG (aG n) i) (bG (aG n) j)) (aG n).length:=by
 have:=JH n h;unfold Ib at this;obtain⟨p,e,_⟩:=(X8 ..).mp this;show(vq (wl n) (aG n).length).isSome=aN;rw[e];rfl
def DU:∀ (l:List Nat),upB l=aN->l.Pairwise (·<=·)
 |[],_=>.nil
 |[a],_=>.cons (λb hb=>by cases hb) .nil
 |a::b::l,h=>by
  unfold upB at h;rw[bAE] at h;have I:=DU (b::l) h.2;refine .cons (λc hc=>?_) I;have:=of_decide_eq_true h.1;rcases Zn.mp hc with rfl |hc
  ·exact this
  ·exact ZW this ((ZV.mp I).1 c hc)
def DV(h:n<=7):(slots n).Pairwise λa b=>a.length<=b.length:=by
 have c:=JH n h;unfold Ib at c;obtain⟨p,e,c⟩:=(X8 ..).mp c;have q:bN (wl n) (aG n).length=p:=by unfold bN;rw[e];rfl
 unfold slots cQ;split
 ·rename_i d;cases k:aG n with
  |nil=>exact .nil
  |cons a l=>
   cases l with
   |nil=>exact .cons (λb hb=>by cases hb) .nil
   |cons b l=>rw[k,Zo,Zo] at d;lia
 ·have f:(bN (λi j=>bA (bG (aG n) i) (bG (aG n) j)) (aG n).length)=p:=q;rw[f];have:=DU _ c;rw[YL] at this ⊢;exact this
def aX(h:n<=7):l ∈ slots n ↔ l ∈ aG n:=(pC (Ic h)).mem_iff
def gK(h:n<=7):(slots n).length=2 ^ n:=by unfold slots;rw[(pC (Ic h)).length_eq,c9]
def yi{c:List Int->Bool}:∀ (L d:List (List Int)),L.Pairwise (λa b=>a.length<=b.length)->∀s ∈ pk c L d,∀l ∈ pk c L d,s.length < l.length->(∀x ∈ s,x ∈ l)->l ∈ d
 |[],d,_,s,hs,l,hl,_,_=>hl
 |y::L,d,up,s,hs,l,hl,lt,hsub=>by
  unfold pk at hs hl;have I:=yi L _ (ZV.mp up).2 s hs l hl lt hsub;by_cases f:(!aY y d && c y)=aN
  ·rw[if_pos f] at hs I;rcases ZM.mp I with h |h
   ·exact h
   ·have h:=ZF.mp h;subst h;rw[bAE] at f;rcases m9 L _ hs with h |⟨h,_⟩
    ·rcases ZM.mp h with h |h
     ·have:aY l d=aN:=by
       unfold aY;exact Yp.mpr ⟨s,h,ZR.mpr λx j=>decide_eq_true (hsub x j)⟩
      rw[this] at f;cases f.1
     ·rw[ZF.mp h] at lt;exact absurd lt (ZK _)
    ·have:=(ZV.mp up).1 s h
     lia
  ·rw[if_neg f] at I;exact I
def uj(L:List (List Int)):cO (L.map λl=>((l.length:Int),l))=λi j=>bA (bG L i) (bG L j):=by
 funext i j
 have e:∀i,(L.map λl=>((l.length:Int),l)).getD i (0,[])=bG L i:=λi=>by
  unfold bG;rw[Zm,Zm,Zl];cases L[i]? <;> rfl
 unfold cO;rw[e,e]
def Ie{b:Type}{d:b}(L:List (List Int))(vs:List b):gW (L.map λl=>((l.length:Int),l)) d vs=cQ L d vs:=by
 unfold gW cQ;rw[uj]
end Sn
namespace Lw
open PySem Ev Sn L2
variable {p:Nat} {S S':Sto} {k:Nat} {Q:D->Sto->Prop} {K:Sky} {lot:List Int}
def OE{x:Int}(h:x ∈ lot):vH (ag lot) [.int x] S=aw (.int (ixI lot x),S):=by
 unfold ag vH;dsimp only;rw[cL];dsimp only;rw[if_pos h];rfl
def Ig(b:SkOk K):K.F.length<=K.G.length:=by
 have:=pq K.F ((Ze K.G.length).map Int.ofNat) b.nd λx c=>by
  have:=b.bd x c;exact ZA.mpr ⟨x.toNat,ZJ.mpr (by lia),by show((x.toNat:Nat):Int)=x;lia⟩
 rwa [Za,ZB] at this
def pD(v:SkOk K)(hl:LotK K lot)(q:∀S',Sm S S'->Q (skE (nar K lot)) S'):Ok (evC ae (k+1) 43 [skE K,ag lot] S) Q:=by
 refine ay (d:=dX) (ρ:=[aw (skE K),aw (ag lot),aD,aD,aD,aD,aD]) rfl rfl ?_;dsimp only[dX,hV];have L:=hl.len;have g7:=v.g7;k_is;show wTp _ (.tup [meE K,ahE K.ah,.tup (K.G.map ag),.tup (K.F.map D.int)]) _ _;k_is;show mW (.tup (lot.map D.int)) S _;k_is;refine bh lot D.int (λx=>[ag (gl K x)]) (by lia) (λa _=>by simp) bH (λi x f u j=>⟨_,rfl,?_⟩) λf j=>?_
 ·have l:=Zd u;k_is;exact aa (mX (hl.bd x l).1 (wq hl l)) ⟨rfl,Sm.refl _⟩
 ·rw[bc];refine aa (show cX aS _ f=aw (.tup _,f) from rfl) ?_;k_is;refine bh K.F D.int (λx=>if decide (x ∈ lot)=aN then [.int (ixI lot x)] else []) ?_ (λa _=>by split <;> simp) bH (λi x b u y=>⟨_,rfl,?_⟩) λb y=>?_
  ·exact ZW (Ig v) (by lia)
  ·k_is;refine aa (show am .isin (.int x) (ag lot) b=aw (.bl (aS != decide (x ∈ lot)),b) from cJ aS lot x b) ?_;rw[Xd];k_is;by_cases c:x ∈ lot
   ·rw[decide_eq_true c];k_is;refine⟨rfl,?_⟩;k_is;exact aa (OE c) ⟨by rw[if_pos rfl],Sm.refl _⟩
   ·rw[decide_eq_false c];exact⟨by rw[if_neg Zf],Sm.refl _⟩
  ·rw[bx];refine aa (show cX aS _ b=aw (.tup _,b) from rfl) ?_;k_is;have:=q b (j.trans y);unfold skE nar at this;rw[Z0,Z0] at this;exact this
def uk(f:SkOk K)(q:∀S',Sm S S'->Q (.bl (fA K).isSome) S'):Ok (evC ae (k+21) 44 [skE K] S) Q:=by
 refine ay (d:=qF) (ρ:=[aw (skE K)]) rfl rfl ?_;dsimp only[qF,xM];k_is;refine⟨rfl,DJ (k:=k) f λb c=>?_⟩;have:=q b c;cases h:fA K with
 |none=>rw[h] at this;exact aa (show am .isnot .non .non b=aw (.bl aS,b) from rfl) this
 |some z=>rw[h] at this;exact aa (show am .isnot (.tup _) .non b=aw (.bl aN,b) from rfl) this
def kO{b:Type}(f:b->Bool)(l:List b):nA aS (l.map λa=>D.bl (f a)) S=aw (.bl (l.any f),S):=by
 unfold nA;rw[if_pos ⟨rfl,by rw[Y6];exact ZR.mpr λ_ _=>rfl⟩,Wa];rfl
def DW{n:Nat}(j:S[n]?=aw (.lst (ls.map ag)))(hl:ls.length<=1000)(v:∀o ∈ ls,o.length<=1000)(q:∀S',Sm S S'->Q (.bl (aY lot ls)) S'):Ok (evC ae (k+1) 47 [ag lot,.ref n] S) Q:=by
 refine ay (d:=gf) (ρ:=[aw (ag lot),aw (.ref n)]) rfl rfl ?_;dsimp only[gf,km];k_is;refine⟨by rw[aE j];rfl,?_⟩;refine bh ls ag (λo=>[.bl (o.all λx=>decide (x ∈ lot))]) (by lia) (λa _=>by simp) (ei j) (λi o c u f=>⟨_,rfl,?_⟩) λc f=>?_
 ·k_is;show mW (.tup (o.map D.int)) c _;k_is;have:=v o (Zd u);refine bh o D.int (λx=>[.bl (decide (x ∈ lot))]) (by lia) (λa _=>by simp) bH (λi x b y l=>⟨_,rfl,?_⟩) λb l=>?_
  ·k_is;refine aa (show am .isin (.int x) (ag lot) b=aw (.bl (aS != decide (x ∈ lot)),b) from cJ aS lot x b) ?_;rw[Xd];exact⟨rfl,Sm.refl _⟩
  ·rw[bc];exact aa (Ev.fq o (λx=>decide (x ∈ lot)) b) ⟨rfl,l⟩
 ·rw[bc];refine aa (kO (λo:List Int=>o.all λx=>decide (x ∈ lot)) ls) ?_;k_is;exact q c f
def zZ(V:Vd K)(q:∀S',Sm S S'->Q (ag (bj K.G.length lot)) S'):Ok (evC ae (k+1) 46 [skE K,ag lot] S) Q:=by
 refine ay (d:=jJ) (ρ:=[aw (skE K),aw (ag lot)]) rfl rfl ?_;dsimp only[jJ,oW];have g7:=V.g7;k_is;refine aa sk2 (aa bI ?_);k_is;refine⟨gk (by lia) (by lia),?_⟩;rw[ZI];refine bh (Ze K.G.length) (λ(j:Nat)=>D.int (0+(j:Int))) (λ(j:Nat)=>if (!decide ((j:Int) ∈ lot))=aN then [D.int (j:Int)] else []) (by rw[ZB];lia) (λa _=>by split <;> simp) DH (λi j S' l sm=>⟨_,rfl,?_⟩) λb f=>?_
 ·k_is;rw[Wd];refine aa (show am .notin (.int (j:Int)) (ag lot) S'=aw (.bl (aN != decide ((j:Int) ∈ lot)),S') from cJ aN lot j S') ?_;rw[show(aN != decide ((j:Int) ∈ lot)) = !decide ((j:Int) ∈ lot) by cases decide ((j:Int) ∈ lot) <;> rfl];k_is;cases c:!decide ((j:Int) ∈ lot) with
  |true=>exact⟨rfl,Sm.refl _⟩
  |false=>exact⟨rfl,Sm.refl _⟩
 ·rw[bx];refine aa (show cX aS _ b=aw (.tup _,b) from rfl) ?_;have:=q b f;unfold ag bj at this
  rwa [Z0] at this
abbrev gB(nm:Str):List CS:=[.asg (.name 1) (.bin .add (.var 1) (.comp [nm] (.bin .add (.var 3) (.tup [.var 2])) [⟨.name 3,.val (.var 1),aD⟩]))]
def yj{nm:Str}{u:Option D}{m i:Nat}{Qf:Fl->Rho->Sto->Prop}(d:S[m]?=aw (.lst ((aG i).map ag)))(hi:i < 7)(q:∀y S',Sm S S'->S'[y]?=aw (.lst ((aG (i+1)).map ag))->Qf .nx [u,aw (.ref y),aw (.int i)] S') :
  OkS (gN (evC ae k) (gO ae) 57 (gB nm) [u,aw (.ref m),aw (.int i)] S) Qf:=by
 have l1:=c9 i;have L:(aG i).length<=64:=by rw[l1];exact Xm (by decide) (show i<=6 by lia)
 dsimp only[gB];k_is;refine⟨by rw[aE d];rfl,?_⟩;refine bh (aG i) ag (λl=>[ag (l++[(i:Int)])]) (by lia) (λa _=>by simp) (ei d) (λj l c f b=>⟨_,rfl,?_⟩) λc b=>?_
 ·have hb:=pq l ((Ze i).map Int.ofNat) (bE i l (Zd f)).1 λx z=>by
   have:=(bE i l (Zd f)).2 x z;exact ZA.mpr ⟨x.toNat,ZJ.mpr (by lia),by show((x.toNat:Nat):Int)=x;lia⟩
  rw[Za,ZB] at hb;k_is;show tG .add (.tup (l.map D.int)) (.tup [.int i]) _ _;k_is;exact⟨by rw[Za];show l.length+1<=1000;lia,by unfold ag;rw[ZQ];rfl,Sm.refl _⟩
 ·rw[bc];k_is;have v:Sm c (c++[.lst ((aG i).map λl=>ag (l++[(i:Int)]))]):=Sm.app _ _;refine aa (xY (v _ _ (b _ _ d)) (Zu) (by rw[Za,Za];lia)) ?_;k_is;refine q _ _ ((b.trans v).trans (Sm.app _ _)) ?_;rw[Zu];show _=aw (Ob.lst ((aG i++(aG i).map (·++[(i:Int)])).map ag));rw[ZQ,Z0];rfl
def Ih{N n:Nat}(hN:N<=7)(v:S[n]?=aw (.lst ((Ze N).map λj=>.int (Int.ofNat j))))(q:∀m S',Sm S S'->S'[m]?=aw (.lst ((aG N).map ag))->Q (.ref m) S'):Ok (evC ae (k+1) 7 [.ref n] S) Q:=by
 refine ay (d:=jG) (ρ:=[aw (.ref n),aD,aD]) rfl rfl ?_;dsimp only[jG,oT];k_is;have s0:Sm S (S++[.lst [.tup []]]):=Sm.app _ _;refine⟨by rw[aE (s0 _ _ v)];rfl,?_⟩;refine pf (by rw[Za,ZB];lia) (λi c b=>Sm S b/\∃m u,c=[aw (.ref n),aw (.ref m),u]/\b[m]?=aw (.lst ((aG i).map ag))) (λi c b h=>h.1 _ _ v) (λi d c b hd ⟨l,m,u,e,f⟩=>?_) (λc b ⟨l,m,u,e,f⟩=>?_) ⟨s0,S.length,aD,rfl,Zu⟩
 ·subst e;rw[Zl] at hd;obtain⟨j,z,rfl⟩:=ZC.mp hd;obtain⟨hi,y⟩:=Zb.mp z;rw[X7] at y;subst y;rw[ZB] at hi;refine⟨_,rfl,yj (nm := "lot") f (by lia) λI J C B=>⟨l.trans C,I,_,rfl,B⟩⟩
 ·subst e;rw[Za,ZB] at f;k_is;exact q m b l f
abbrev wyE(l:List Int):D:=.tup [.int l.length,ag l]
def pE:∀ (L:List (List Int)),gR (L.map wyE)=aw (L.map λl=>((l.length:Int),l))
 |[]=>rfl
 |l::L=>by
  have e:xo (wyE l)=aw ((l.length:Int),l):=by
   show(bR (l.map D.int)).map (λns=>((l.length:Int),ns))=_;rw[cL];rfl
  simp only[Zy,gR,e,pE L]
def DX{N:Nat}(hN:N<=7):cP aS ((aG N).map wyE)=aw ((slots N).map wyE):=by
 have b:=Ic hN
 have e:sE aS ((aG N).map wyE)=aD:=by
  cases h:aG N with
  |nil=>have:=c9 N;rw[h] at this;have:=Wo (n:=N) (show 0 < 2 by decide);simp at *;lia
  |cons l L=>simp only[Zy,sE,wyE,ag,bR]
 unfold cP BX;rw[if_pos rfl,e];dsimp only;unfold Lb;rw[pE];dsimp only;rw[if_pos (by rw[Za,uj];exact b),Ie,ui (d:=[]) b];rfl
def DY{N:Nat}(hN:N<=7)(q:∀m S',Sm S S'->S'[m]?=aw (.lst ((slots N).map ag))->Q (.ref m) S'):Ok (evC ae (k+1) 54 [.int N] S) Q:=by
 refine ay (d:=iw) (ρ:=[aw (.int N),aD,aD]) rfl rfl ?_;dsimp only[iw,mN];k_is;have s0:Sm S (S++[.lst [.tup []]]):=Sm.app _ _;refine⟨gk (by lia) (by lia),?_⟩;rw[ZI];refine ko (by lia) (λi y b=>Sm S b/\∃m u,y=[aw (.int N),aw (.ref m),u]/\b[m]?=aw (.lst ((aG i).map ag))) (λi y b hi ⟨z,m,u,e,c⟩=>?_) (λy b ⟨z,m,u,e,c⟩=>?_) ⟨s0,S.length,aD,rfl,Zu⟩
 ·subst e;rw[Wd];refine⟨_,rfl,yj (nm := "_law_lot") c (by lia) λL f v J=>⟨z.trans v,L,_,rfl,J⟩⟩
 ·subst e;have B:(aG N).length<=128:=by rw[c9];exact Xm (n:=2) (by decide) hN
  have sl:(slots N).length<=128:=by rw[gK hN,<-c9];exact B
  k_is;refine⟨by rw[aE c];rfl,?_⟩;refine bh (aG N) ag (λl=>[wyE l]) (by lia) (λa _=>by simp) (ei c) (λj l f B v=>⟨_,rfl,?_⟩) λf v=>?_
  ·k_is;refine aa (show ao dB (ag l) f=aw (.int (l.map D.int).length,f) from rfl) ?_;rw[Za];k_is;exact⟨rfl,Sm.refl _⟩
  ·rw[bc];refine⟨_,DX hN,?_⟩;refine bh (slots N) wyE (λl=>[ag l]) (by lia) (λa _=>by simp) bH (λj l I B C=>⟨_,rfl,?_⟩) λI C=>?_
   ·k_is;exact⟨rfl,Sm.refl _⟩
   ·rw[bc];exact q _ _ (((z.trans v).trans C).trans (Sm.app _ _)) Zu
abbrev Ii(S:Sto):Prop:=S[1]?=aw (.tbl "all_lots" kz.2.1 kz.2.2)
def ng:∀ (L:List (List Int)),oO (L.map ag)=aw L
 |[]=>rfl
 |l::L=>by
  have e:Ji (ag l)=aw l:=cL l;simp only[Zy,oO,e,ng L]
def nh(V:Vd K)(f:K.G.length<=7)(u:Ii S)(q:∀m S',Sm S S'->S'[m]?=aw (.lst ((slots K.G.length).map ag))->Q (.ref m) S'):Ok (evC ae (k+4) 45 [skE K] S) Q:=by
 refine MA (d:=fm) (z:=kz) (ρ:=[aw (skE K)]) rfl rfl (by lia) rfl ?_;dsimp only[kz]
 k_go
 refine aa sk2 (aa bI ?_);refine⟨K.G.length,rfl,by lia,rfl,?_⟩;have s0:Sm S (S++[.lst ((Ze K.G.length).map λj=>.int (Int.ofNat j))]):=Sm.app _ _;refine Ih (k:=k+2) (by lia) Zu λm v b l=>?_;have c:=Ic f;refine⟨m,aG K.G.length,(aG K.G.length).map ag,rfl,⟨(s0.trans b) _ _ u,l,ng _,by rw[Za];exact c⟩,?_⟩;refine q _ _ ((s0.trans b).trans (Sm.app _ _)) ?_;rw[Zu,ui (d:=[]) c];rfl
abbrev stk(K:Sky):List (List Int):=pk (λl=>!lnd K l) (slots K.G.length) []
abbrev snt(K:Sky):List (List Int):=pk (λl=>lnd K (bj K.G.length l)) (slots K.G.length) []
def yk{c:List Int->Bool}{l:List Int}:∀ (L b:List (List Int)),pk c (L++[l]) b=if (!aY l (pk c L b) && c l)=aN then pk c L b++[l] else pk c L b
 |[],b=>rfl
 |x::L,b=>by
  show pk c (L++[l]) _=_;rw[yk L];rfl
def DZ{c:List Int->Bool}:∀ (l b:List (List Int)),(pk c l b).length<=b.length+l.length
 |[],b=>Zi _
 |x::l,b=>by
  have:=DZ (c:=c) l (if (!aY x b && c x)=aN then b++[x] else b);unfold pk;rw[Zo];split at this <;> rename_i h
  ·rw[if_pos h];rw[Zg,Zt] at this;lia
  ·rw[if_neg h];lia
structure Lk(K:Sky)(c:List Int->Bool)(i f:Nat)(S:Sto):Prop where
 at_:S[f]?=aw (.lst ((pk c ((slots K.G.length).take i) []).map ag))
variable {c:List Int->Bool} {i f:Nat}
def Ij(b:K.G.length<=7){l:List Int}(h:l ∈ slots K.G.length):l.length<=7:=ZW (rd ((aX b).mp h)).len b
def gu(b:K.G.length<=7):(slots K.G.length).length<=128:=by rw[gK b];exact Xm (n:=2) (by decide) b
def ul(b:K.G.length<=7):(pk c ((slots K.G.length).take i) []).length<=128/\∀o ∈ pk c ((slots K.G.length).take i) [],o.length<=7:=by
 refine⟨?_,λo d=>?_⟩
 ·have:=DZ (c:=c) ((slots K.G.length).take i) [];have:=gu b;rw[Yh,Z1] at *
  lia
 ·rcases m9 _ _ d with h |⟨h,_⟩
  ·cases h
  ·exact Ij b (YQ h)
def Lk.step{l:List Int}(hl:(slots K.G.length)[i]?=aw l):(pk c ((slots K.G.length).take (i+1)) [])=if (!aY l (pk c ((slots K.G.length).take i) []) && c l)=aN then pk c ((slots K.G.length).take i) []++[l] else pk c ((slots K.G.length).take i) []:=by
 rw[List.take_add_one,hl];exact yk _ _
def D0(b:K.G.length<=7)(h:Lk K c i f S)(q:∀S',Sm S S'->Q (.bl (aY lot (pk c ((slots K.G.length).take i) []))) S'):Ok (evC ae (k+1) 47 [ag lot,.ref f] S) Q:=
 DW h.at_ (by have:=(ul (c:=c) (i:=i) b).1;lia) (λo d=>by have:=(ul (c:=c) (i:=i) b).2 o d;lia) q
def Lk.keep(h:Lk K c i f S)(s:Sm S S'):Lk K c i f S':=⟨s _ _ h.at_⟩
def Lk.put{l:List Int}(b:K.G.length<=7)(h:Lk K c i f S)(hl:(slots K.G.length)[i]?=aw l)(hc:(!aY l (pk c ((slots K.G.length).take i) []) && c l)=aN)(q:∀S',Ev.Kp f S S'->Lk K c (i+1) f S'->Q .non S'):fP (.ref f) S=aN/\Ok (sG (.ref f) [ag l] S) Q:=by
 refine⟨by show(aU S f).isSome=aN;rw[aE h.at_];rfl,?_⟩;rw[mU h.at_ (by rw[Za];have:=(ul (c:=c) (i:=i) b).1;lia)];have d:f < S.length:=(Zb.mp h.at_).1;refine q _ (λj o n e=>by rw[Zz (λz=>n z.symm)];exact e) ⟨?_⟩;rw[ZU d,Lk.step hl,if_pos hc,ZQ];rfl
def Lk.pass{l:List Int}(h:Lk K c i f S)(hl:(slots K.G.length)[i]?=aw l)(hc:(!aY l (pk c ((slots K.G.length).take i) []) && c l)=aS):Lk K c (i+1) f S:=⟨by rw[Lk.step hl,if_neg (by rw[hc];decide)];exact h.at_⟩
def Lk.all(h:Lk K c (slots K.G.length).length f S):S[f]?=aw (.lst ((pk c (slots K.G.length) []).map ag)):=by have:=h.at_;rwa [Yz] at this
def um{m j:Nat}(d:K.G.length<=7)(b:S[m]?=aw (.lst ((slots K.G.length).map ag)))(l:S[j]?=aw (.lst [])):m ≠ j:=λe=>by
 rw[e,l] at b;have:=congrArg Zx (Ob.lst.inj (Option.some.inj b));rw[Za,gK d] at this;have:=Wo (n:=K.G.length) (show 0 < 2 by decide);simp at *
 lia
def D1(h:Sm S S'):S.length<=S'.length:=by
 cases d:S.length with
 |zero=>exact Z3 _
 |succ n=>
  have b:n < S.length:=by lia
  exact(Zb.mp (h n _ (gEG b))).1
def uo(X:SkOk K)(v:K.G.length<=7)(hT:Ii S)(q:∀m S',Sm S S'->S.length<=m->S'[m]?=aw (.lst ((stk K).map ag))->Q (.ref m) S'):Ok (evC ae (k+25) 40 [skE K] S) Q:=by
 refine ay (d:=dW) (ρ:=[aw (skE K),aD,aD]) rfl rfl ?_;dsimp only[dW,hU];k_is;refine⟨rfl,t0 (k:=k+16) X λb U=>?_⟩;k_is;have s2:Sm b (b++[.lst []]):=Sm.app _ _;refine⟨rfl,nh (k:=k+20) X.vd v (s2 _ _ (U _ _ hT)) λm Z Y hm=>?_⟩;k_is;have hne:=um v hm (Y _ _ (Zu (l:=b)));refine⟨by rw[aE hm];rfl,?_⟩;refine pf (by rw[Za];have:=gu v;lia) (λi O I=>Ev.Kp b.length Z I/\Lk K (λl=>!lnd K l) i b.length I/\∃u,O=[aw (skE K),aw (.ref b.length),u]) (λi O I h=>h.1 _ _ hne hm) (λi d O I hd ⟨kp,C,u,e⟩=>?_) (λO I ⟨kp,C,u,e⟩=>?_) ⟨λ_ _ _ e=>e,⟨by rw[YM];exact Y _ _ Zu⟩,aD,rfl⟩
 ·subst e;rw[Zl] at hd;obtain⟨l,T,rfl⟩:=ZC.mp hd;have z:=rd ((aX v).mp (Zd T));refine⟨_,rfl,?_⟩;k_is;refine⟨rfl,D0 (k:=k+23) v C λS4 s4=>?_⟩;k_is;have L:=C.keep s4;have y:Ev.Kp b.length Z S4:=λj o n e=>s4 _ _ (kp j o n e);cases hh:aY l (pk (λl=>!lnd K l) ((slots K.G.length).take i) []) with
  |true=>
   k_is;exact⟨y,L.pass T (by rw[hh];rfl),_,rfl⟩
  |false=>
   k_is;refine⟨rfl,pD (k:=k+23) X z λS5 s5=>?_⟩;k_is;refine⟨rfl,uk (k:=k+3) (rb X z) λS6 s6=>?_⟩;k_is;have B:=(L.keep s5).keep s6;have J:Ev.Kp b.length Z S6:=λj o n e=>s6 _ _ (s5 _ _ (y j o n e));cases hb:(fA (nar K l)).isSome with
   |true=>
    k_is;exact⟨J,B.pass T (by rw[hh];show(!aS && !(fA (nar K l)).isSome)=aS;rw[hb];rfl),_,rfl⟩
   |false=>
    k_is;refine B.put v T (by rw[hh];show(!aS && !(fA (nar K l)).isSome)=aN;rw[hb];rfl) λS7 k7 lk7=>?_;k_is;exact⟨λj o n e=>k7 _ _ n (J j o n e),lk7,_,rfl⟩
 ·subst e;rw[Za] at C;k_is;refine q _ _ (λj o e=>kp j o ?_ (Y _ _ (s2 _ _ (U _ _ e)))) ?_ C.all
  ·have:=(Zb.mp (U _ _ e)).1
   lia
  ·exact D1 U
def jR(b:K.G.length<=7):(pk c (slots K.G.length) []).length<=128/\∀o ∈ pk c (slots K.G.length) [],o.length<=7:=by
 have:=ul (c:=c) (i:=(slots K.G.length).length) b
 rwa [Yz] at this
def D2(q:SkOk K)(d:K.G.length<=7):snt K=pk (λl=>!aY (bj K.G.length l) (stk K)) (slots K.G.length) []:=
 ji _ _ λl _=>(pB (P:=lnd K) (λa j b hb h=>uh q (rd ((aX d).mp j)) (rd ((aX d).mp hb)) h) ((aX d).mpr cF)).symm
def Ik(U:SkOk K)(b:K.G.length<=7)(hT:Ii S)(q:∀m S',Sm S S'->S.length<=m->S'[m]?=aw (.lst ((snt K).map ag))->Q (.ref m) S'):Ok (evC ae (k+26) 41 [skE K] S) Q:=by
 refine ay (d:=cE) (ρ:=[aw (skE K),aD,aD,aD]) rfl rfl ?_;dsimp only[cE,eO];k_is;refine⟨rfl,uo (k:=k) U b hT λfs v T hfs h1=>?_⟩;k_is;have s2:Sm v (v++[.lst []]):=Sm.app _ _;refine⟨rfl,nh (k:=k+21) U.vd b (s2 _ _ (T _ _ hT)) λm X O hm=>?_⟩;k_is;have Z:=um b hm (O _ _ (Zu (l:=v)));have hlt:fs ≠ v.length:=ZG (Zb.mp h1).1;have h2:=O _ _ (s2 _ _ h1);refine⟨by rw[aE hm];rfl,?_⟩;refine pf (by rw[Za];have:=gu b;lia) (λi J C=>Ev.Kp v.length X C/\Lk K (λl=>!aY (bj K.G.length l) (stk K)) i v.length C/\∃u,J=[aw (skE K),aw (.ref fs),aw (.ref v.length),u]) (λi J C h=>h.1 _ _ Z hm) (λi d J C hd ⟨kp,B,u,e⟩=>?_) (λJ C ⟨kp,B,u,e⟩=>?_) ⟨λ_ _ _ e=>e,⟨by rw[YM];exact O _ _ Zu⟩,aD,rfl⟩
 ·subst e;rw[Zl] at hd;obtain⟨l,Y,rfl⟩:=ZC.mp hd;refine⟨_,rfl,?_⟩;k_is;refine⟨rfl,D0 (k:=k+24) b B λS4 s4=>?_⟩;k_is;have L:=B.keep s4;have y:Ev.Kp v.length X S4:=λj o n e=>s4 _ _ (kp j o n e);cases hh:aY l (pk (λl=>!aY (bj K.G.length l) (stk K)) ((slots K.G.length).take i) []) with
  |true=>
   k_is;exact⟨y,L.pass Y (by rw[hh];rfl),_,rfl⟩
  |false=>
   k_is;refine⟨rfl,zZ (k:=k+24) U.vd λS5 s5=>?_⟩;k_is;refine⟨rfl,DW (k:=k+24) (ls:=stk K) (s5 _ _ (y _ _ hlt h2)) (by have:=(jR (c:=λl=>!lnd K l) b).1;unfold stk;lia) (λo ho=>by have:=(jR (c:=λl=>!lnd K l) b).2 o ho;lia) λS6 s6=>?_⟩;k_is;have z:=(L.keep s5).keep s6;have I:Ev.Kp v.length X S6:=λj o n e=>s6 _ _ (s5 _ _ (y j o n e));cases hb:aY (bj K.G.length l) (stk K) with
   |true=>
    k_is;exact⟨I,z.pass Y (by rw[hh];show(!aS && !aY (bj K.G.length l) (stk K))=aS;rw[hb];rfl),_,rfl⟩
   |false=>
    k_is;refine z.put b Y (by rw[hh];show(!aS && !aY (bj K.G.length l) (stk K))=aN;rw[hb];rfl) λS7 k7 lk7=>?_;k_is;exact⟨λj o n e=>k7 _ _ n (I j o n e),lk7,_,rfl⟩
 ·subst e;rw[Za] at B;k_is;refine q _ _ (λj o e=>kp j o ?_ (O _ _ (s2 _ _ (T _ _ e)))) (D1 T) (by rw[D2 U b];exact B.all);have:=(Zb.mp (T _ _ e)).1
  lia
end Lw
namespace Lw
open PySem Ev Sn L2
variable {p:Nat} {S S':Sto} {k:Nat} {Q:D->Sto->Prop} {K:Sky} {lot:List Int}
def gw:∀ (n:Nat) (l:List Int),l ∈ aG n->l.Pairwise (·<=·)
 |0,l,h=>by rw[ZF.mp h];exact .nil
 |n+1,l,h=>by
  rcases ZM.mp h with h |h
  ·exact gw n l h
  ·obtain⟨k,b,rfl⟩:=ZA.mp h;refine List.pairwise_append.mpr ⟨gw n k b,List.pairwise_singleton _ _,λx d y c=>?_⟩;have:=(bE n k b).2 x d;have:=ZF.mp c
   lia
def uq:∀ (a b:List Int),eqL eqT (a.map D.int) (b.map D.int)=aw (decide (a=b))
 |[],[]=>rfl
 |[],_::_=>rfl
 |_::_,[]=>rfl
 |x::a,y::b=>by
  have c:eqT (.int x) (.int y)=aw (x == y):=rfl;rw[Zy,Zy,eqL,c,uq a b];show aw ((x == y) && decide (a=b))=_
  congr 1
  rw[Yg];simp
def ur:∀ (A B:List (List Int)),eqL eqT (A.map ag) (B.map ag)=aw (decide (A=B))
 |[],[]=>rfl
 |[],_::_=>rfl
 |_::_,[]=>rfl
 |x::A,y::B=>by
  have c:eqT (ag x) (ag y)=aw (decide (x=y)):=by
   show(match bR (x.map D.int),bR (y.map D.int) with
    |some a,aw b=>aw (decide (a=b))
    | _,_=>aD)=_
   rw[cL,cL]
  rw[Zy,Zy,eqL,c,ur A B];show aw (decide (x=y) && decide (A=B))=_
  congr 1
  rw[Yg];simp
def ym{a b:Nat}{xs y:List D}{r:Bool}(c:S[a]?=aw (.lst xs))(hb:S[b]?=aw (.lst y))(e:eqL eqT xs y=aw r)(h:xs=y->r=aN)(d:r=aN->xs.length=y.length):eqD 60 S (.ref a) (.ref b)=aw r:=by
 show(match aU S a,aU S b with
  |some xs,aw y=>if a=b then aw aN else if xs.length=y.length then eqL eqT xs y else aw aS
  | _,_=>aD)=aw r
 rw[aE c,aE hb];dsimp only;split
 ·rename_i z;subst z;rw[c] at hb;cases hb;rw[h rfl]
 ·split
  ·exact e
  ·rename_i z;cases r with
   |false=>rfl
   |true=>exact absurd (d rfl) z
def qH{a b:Nat}{xs:List Int}(c:S[a]?=aw (.lst (xs.map D.int)))(hb:S[b]?=aw (.lst (xs.map D.int))):am .eq (.ref a) (.ref b) S=aw (.bl aN,S):=by
 show(eqD 60 S (.ref a) (.ref b)).map _=_;rw[ym (r:=true) c hb (by rw[uq xs xs,decide_eq_true rfl]) (λ_=>rfl) λ_=>rfl];rfl
def ut{a b:Nat}{A B:List (List Int)}(c:S[a]?=aw (.lst (A.map ag)))(hb:S[b]?=aw (.lst (B.map ag))):eqD 60 S (.ref a) (.ref b)=aw (decide (A=B)):=
 ym c hb (ur A B) (λh=>decide_eq_true ((X9 λx y e=>by
  have:x.map D.int=y.map D.int:=D.tup.inj e;exact(X9 λ_ _ z=>D.int.inj z).mp this).mp h)) λh=>by rw[of_decide_eq_true h]
def kP{a b:Nat}{A B:List (List Int)}(c:S[a]?=aw (.lst (A.map ag)))(hb:S[b]?=aw (.lst (B.map ag))):am .ne (.ref a) (.ref b) S=aw (.bl (!decide (A=B)),S):=rD (ut c hb)
def yn{a b:Nat}{A B:List (List Int)}(c:S[a]?=aw (.lst (A.map ag)))(hb:S[b]?=aw (.lst (B.map ag))):am .eq (.ref a) (.ref b) S=aw (.bl (decide (A=B)),S):=by
 show(eqD 60 S (.ref a) (.ref b)).map _=_;rw[ut c hb];rfl
def z4(j:K.G.length<=7)(hl:lot ∈ aG K.G.length)(q:∀S',Sm S S'->Q (.bl aN) S'):Ok (evC ae (k+4) 5 [ag lot,.int K.G.length] S) Q:=by
 refine ay (d:=ff) (ρ:=[aw (ag lot),aw (.int K.G.length)]) rfl rfl ?_;dsimp only[ff,iY];have l:=rd hl;have L:=l.len;k_is;refine⟨rfl,tZ (k:=k) l.nd l.bd j λb c=>?_⟩;k_is;refine aa (show Wt (λr=>(r.snd,b)) (av (ag lot) b)=aw (lot.map D.int,b) from rfl) ?_;refine⟨_,_,rfl,show cP aN (lot.map D.int)=aw ((cN lot).map D.int) from ?_,?_⟩
 ·show Fg _=_;unfold Fg;rw[cL];dsimp only;rw[if_pos (by lia)]
 have f:cN lot=lot:=dj (bz lot) (bO lot) (gw _ _ hl);rw[f];refine aa (qH (xs:=lot) (Sm.app _ _ _ _ Zu) Zu) ?_;exact q _ ((c.trans (Sm.app _ _)).trans (Sm.app _ _))
def z5(b:SkOk K)(hl:lot ∈ aG K.G.length)(q:∀S',Sm S S'->Q .non S'):Ok (evC ae (k+9) 42 [skE K,ag lot] S) Q:=by
 refine ay (d:=ga) (ρ:=[aw (skE K),aw (ag lot)]) rfl rfl ?_;dsimp only[ga,kl];k_is;refine⟨rfl,t0 (k:=k) b λl c=>?_⟩;k_is;refine aa sk2 (aa bI ?_);refine⟨rfl,z4 (k:=k+4) b.g7 hl λf j=>?_⟩;k_is;exact q f (c.trans j)
def iB(b:SkOk K)(hl:lot ∈ aG K.G.length)(q:∀S',Sm S S'->Q (.bl (lnd K lot)) S'):Ok (evC ae (k+22) 39 [skE K,ag lot] S) Q:=by
 refine ay (d:=ip) (ρ:=[aw (skE K),aw (ag lot)]) rfl rfl ?_;dsimp only[ip,mL];k_is;refine⟨rfl,z5 (k:=k+12) b hl λu c=>?_⟩;k_is;refine⟨rfl,pD (k:=k+20) b (rd hl) λv l=>?_⟩;k_is;exact⟨rfl,uk (k:=k) (rb b (rd hl)) λj f=>q j ((c.trans l).trans f)⟩
abbrev shr(os:List (List Int))(l:List Int):Bool:=os.all λo=>o.any λx=>decide (x ∈ l)
def OG{n:Nat}{l:List Int}{x:Int}:x ∈ bj n l ↔ (0<=x/\x < n)/\x ∉ l:=by
 unfold bj;rw[ZA];refine⟨λ⟨j,b,e⟩=>?_,λ⟨⟨c,d⟩,h⟩=>⟨x.toNat,?_,by lia⟩⟩
 ·rw[ZH,ZJ] at b;subst e;exact⟨⟨by lia,by lia⟩,by simpa using b.2⟩
 ·rw[ZH,ZJ];have:((x.toNat:Nat):Int)=x:=by lia
  exact⟨by lia,by rw[this];simpa using h⟩
def yo{L:List Int}{l:List (List Int)}:aY L l=aN ↔ ∃o ∈ l,∀x ∈ o,x ∈ L:=by
 unfold aY;rw[Yp];exact⟨λ⟨o,h,e⟩=>⟨o,h,λx b=>of_decide_eq_true (ZR.mp e x b)⟩,λ⟨o,h,e⟩=>⟨o,h,ZR.mpr λx b=>decide_eq_true (e x b)⟩⟩
def yp{os:List (List Int)}{l:List Int}:shr os l=aN ↔ ∀o ∈ os,∃x ∈ o,x ∈ l:=by
 unfold shr;rw[ZR];refine⟨λh o c=>?_,λh o c=>?_⟩
 ·obtain⟨x,b,e⟩:=Yp.mp (h o c);exact⟨x,b,of_decide_eq_true e⟩
 ·obtain⟨x,b,e⟩:=h o c;exact Yp.mpr ⟨x,b,decide_eq_true e⟩
def pF{c:List Int->Bool}{l:List (List Int)}{o:List Int}(h:o ∈ pk c l []):o ∈ l/\c o=aN:=by
 rcases m9 l [] h with h |h
 ·cases h
 ·exact h
def Il{n:Nat}{os:List (List Int)}{l:List Int}(bd:∀o ∈ os,∀x ∈ o,0<=x/\x < n):(!aY (bj n l) os)=shr os l:=by
 rw[Yg,yp,Bool.not_eq_true',<-Bool.not_eq_true,yo];refine⟨λh o c=>?_,λh ⟨o,c,hs⟩=>?_⟩
 ·refine Classical.byContradiction λz=>h ⟨o,c,λx b=>OG.mpr ⟨bd o c x b,λy=>z ⟨x,b,y⟩⟩⟩
 ·obtain⟨x,b,d⟩:=h o c;exact(OG.mp (hs x b)).2 d
def D3(d:K.G.length<=7){c:List Int->Bool}:∀o ∈ pk c (slots K.G.length) [],∀x ∈ o,0<=x/\x < K.G.length:=λo b=>(bE _ o ((aX d).mp (pF b).1)).2
def jj(b:SkOk K):snt K=pk (shr (stk K)) (slots K.G.length) []:=by
 rw[D2 b b.g7];exact ji _ _ λl _=>Il (D3 b.g7)
def yq(c:SkOk K){l:List Int}(hl:l ∈ aG K.G.length):lnd K l = !aY l (stk K):=
 (pB (P:=lnd K) (λa d b hb h=>uh c (rd ((aX c.g7).mp d)) (rd ((aX c.g7).mp hb)) h) ((aX c.g7).mpr hl)).symm
def D4(b:SkOk K):stk K=pk (shr (snt K)) (slots K.G.length) []:=by
 refine ji _ _ λl u=>?_;have u:=(aX b.g7).mp u;rw[yq b u,Bool.not_not,Yg,yo,yp];refine⟨λ⟨o,j,hs⟩ s f=>?_,λh=>?_⟩
 ·rw[jj b] at f;obtain⟨x,c,B⟩:=yp.mp (pF f).2 o j;exact⟨x,B,hs x c⟩
 ·refine Classical.byContradiction λz=>?_;have v:shr (stk K) (bj K.G.length l)=aN:=yp.mpr λo j=>Classical.byContradiction λy=>z ⟨o,j,λx c=>Classical.byContradiction λw=>y ⟨x,c,OG.mpr ⟨D3 b.g7 o j x c,w⟩⟩⟩;have:=rc v (slots K.G.length) [] ((aX b.g7).mpr cF);rw[<-jj b] at this;obtain⟨s,hs,d⟩:=yo.mp this;obtain⟨x,c,q⟩:=h s hs;exact(OG.mp (d x c)).2 q
def D5(b:SkOk K)(h:snt K=[[]]):stk K=[]:=by
 have:([]:List Int) ∈ snt K:=by rw[h];exact ZF.mpr rfl
 rw[jj b] at this;have:=yp.mp (pF this).2;cases hs:stk K with
 |nil=>rfl
 |cons o os=>
  obtain⟨x,_,c⟩:=this o (by rw[hs];exact Zk);cases c
def wu{n:Nat}{l:List Int}(h:l ∈ aG n):bj n (bj n l)=l:=by
 refine dj (q8 _ _ (bE _ _ cF).1 (λx b=>?_) ?_) (gw _ _ cF) (gw _ _ h)
 ·obtain⟨hb,c⟩:=OG.mp b;exact Classical.byContradiction λz=>c (OG.mpr ⟨hb,z⟩)
 ·exact pq _ _ (bE _ _ h).1 λx b=>OG.mpr ⟨(bE _ _ h).2 x b,λz=>(OG.mp z).2 b⟩
def ww(h:l ∈ snt K):lnd K (bj K.G.length l)=aN:=(pF h).2
def wx(I:SkOk K){l:List Int}{b:Int}(h:l ∈ snt K)(hb:b ∈ l){c:List Int}(hc:c ∈ aG K.G.length)(f:∀x:Int,0<=x->x < K.G.length->(x ∈ c ↔ x ∉ l\/x=b)):lnd K c=aS:=by
 cases C:lnd K c with
 |false=>rfl
 |true=>
  have q:=I.g7;have B:bj K.G.length c ∈ slots K.G.length:=(aX q).mpr cF;have hs:=rc (c:=λl=>lnd K (bj K.G.length l)) (by rw[wu hc];exact C) (slots K.G.length) [] B;obtain⟨s,hs,j⟩:=yo.mp hs
  have d:∀x ∈ s,x ∈ l/\x ≠ b:=λx hx=>by
   obtain⟨⟨u,y⟩,v⟩:=OG.mp (j x hx);refine⟨Classical.byContradiction λz=>v ((f x u y).mpr (.inl z)),λz=>v ((f x u y).mpr (.inr z))⟩
  have snd:=(bE _ _ ((aX q).mp (pF hs).1)).1
  have lt:s.length < l.length:=by
   have:=pq (b::s) l (ZX.mpr ⟨λz=>(d b z).2 rfl,snd⟩) λx hx=>by
    rcases Zn.mp hx with rfl |hx
    ·exact hb
    ·exact(d x hx).1
   rw[Zo] at this
   lia
  cases yi _ _ (DV q) s hs l h lt λx hx=>(d x hx).1
def yr{os:List (List Int)}{m n:Nat}(h7:K.G.length<=7)(hm:S[m]?=aw (.lst ((slots K.G.length).map ag)))(hn:S[n]?=aw (.lst (os.map ag)))(ho:os.length<=1000)(hl:∀o ∈ os,o.length<=1000)
  (q:∀f S',Sm S S'->S.length<=f->S'[f]?=aw (.lst ((pk (shr os) (slots K.G.length) []).map ag))->Q (.ref f) S'):Ok (evC ae (k+1) 56 [.ref m,.ref n] S) Q:=by
 refine ay (d:=iy) (ρ:=[aw (.ref m),aw (.ref n),aD,aD,aD]) rfl rfl ?_;dsimp only[iy,mO];k_is;have s0:Sm S (S++[.lst []]):=Sm.app _ _;have lm:=(Zb.mp hm).1;have ln:=(Zb.mp hn).1;refine⟨by rw[aE (s0 _ _ hm)];rfl,?_⟩;refine pf (by rw[Za];have:=gu h7;lia) (λi Y U=>Ev.Kp S.length (S++[.lst []]) U/\Lk K (shr os) i S.length U/\∃u v,Y=[aw (.ref m),aw (.ref n),aw (.ref S.length),u,v]) (λi Y U h=>h.1 _ _ (ZG lm) (s0 _ _ hm)) (λi d Y U hd ⟨kp,lk,u,v,e⟩=>?_) (λY U ⟨kp,lk,u,v,e⟩=>?_) ⟨λ_ _ _ e=>e,⟨by rw[YM];exact Zu⟩,aD,aD,rfl⟩
 ·subst e;rw[Zl] at hd;obtain⟨l,B,rfl⟩:=ZC.mp hd;have X:=kp _ _ (ZG ln) (s0 _ _ hn);refine⟨_,rfl,?_⟩;k_is;refine⟨by rw[aE X];rfl,?_⟩;refine bh os ag (λo=>[.bl (o.any λx=>decide (x ∈ l))]) (by lia) (λa _=>by simp) (ei X) (λj o S4 z s4=>⟨_,rfl,?_⟩) λS4 s4=>?_
  ·k_is;show mW (.tup (o.map D.int)) S4 _;k_is;have:=hl o (Zd z);refine bh o D.int (λx=>[.bl (decide (x ∈ l))]) (by lia) (λa _=>by simp) bH (λi x b hx T=>⟨_,rfl,?_⟩) λb T=>?_
   ·k_is;refine aa (show am .isin (.int x) (ag l) b=aw (.bl (aS != decide (x ∈ l)),b) from cJ aS l x b) ?_;rw[Xd];exact⟨rfl,Sm.refl _⟩
   ·rw[bc];exact aa (kO (λx=>decide (x ∈ l)) o) ⟨rfl,T⟩
  ·rw[bc];refine aa (Ev.fq os (λo=>o.any λx=>decide (x ∈ l)) S4) ?_;k_is;have L:=lk.keep s4;have O:Ev.Kp S.length (S++[.lst []]) S4:=λj o n e=>s4 _ _ (kp j o n e);cases Z:shr os l with
   |false=>
    have C:(os.all λo=>o.any λx=>decide (x ∈ l))=aS:=Z;rw[C];k_is;exact⟨O,L.pass B (by rw[Z,Wv]),_,_,rfl⟩
   |true=>
    have C:(os.all λo=>o.any λx=>decide (x ∈ l))=aN:=Z;rw[C];k_is;have pl:=ul (c:=shr os) (i:=i) h7;refine⟨by rw[aE L.at_];rfl,?_⟩;refine bh (pk (shr os) ((slots K.G.length).take i) []) ag (λo=>[.bl (o.all λx=>decide (x ∈ l))]) (by lia) (λa _=>by simp) (ei L.at_) (λj o S5 z s5=>⟨_,rfl,?_⟩) λS5 s5=>?_
    ·k_is;show mW (.tup (o.map D.int)) S5 _;k_is;have:=pl.2 o (Zd z);refine bh o D.int (λx=>[.bl (decide (x ∈ l))]) (by lia) (λa _=>by simp) bH (λi x b hx T=>⟨_,rfl,?_⟩) λb T=>?_
     ·k_is;refine aa (show am .isin (.int x) (ag l) b=aw (.bl (aS != decide (x ∈ l)),b) from cJ aS l x b) ?_;rw[Xd];exact⟨rfl,Sm.refl _⟩
     ·rw[bc];exact aa (Ev.fq o (λx=>decide (x ∈ l)) b) ⟨rfl,T⟩
    ·rw[bc];refine aa (kO (λo:List Int=>o.all λx=>decide (x ∈ l)) _) ?_;k_is;have I:=L.keep s5;have J:Ev.Kp S.length (S++[.lst []]) S5:=λj o n e=>s5 _ _ (O j o n e);cases hh:aY l (pk (shr os) ((slots K.G.length).take i) []) with
     |true=>
      have y:((pk (shr os) ((slots K.G.length).take i) []).any λo=>o.all λx=>decide (x ∈ l))=aN:=hh;rw[y];k_is;exact⟨J,I.pass B (by rw[hh];rfl),_,_,rfl⟩
     |false=>
      have y:((pk (shr os) ((slots K.G.length).take i) []).any λo=>o.all λx=>decide (x ∈ l))=aS:=hh;rw[y];k_is;refine I.put h7 B (by rw[hh,Z];rfl) λS7 k7 lk7=>?_;k_is;exact⟨λj o n e=>k7 _ _ n (J j o n e),lk7,_,_,rfl⟩
 ·subst e;rw[Za] at lk;k_is;refine q _ _ (λj o e=>kp j o (ZG (Zb.mp e).1) (s0 _ _ e)) (Zi _) lk.all
end Lw
namespace Lw
open PySem Ev Sn L2
variable {p:Nat} {S S':Sto} {k:Nat} {Q:D->Sto->Prop} {K:Sky} {W:Int}
abbrev meL(r s:Int)(M:List (List Int))(H:List (Int × Int)):D:=.tup [.int r,.int s,.tup (M.map ag),.tup (H.map au)]
def Im{r s:Int}{N u hi:Nat}(h:Pot p S)(gs:Gs p N hi S J G)(hf:S[u]?=aw (.lst (F.map D.int)))(nf:u ≠ p)(me:MeOk r s M H)(g7:G.length<=7)
  (q:∀a S',Dr p S S'->(∀z:Int × Int,a=aw z->0<=z.1/\z.1 < M.length/\0<=z.2/\z.2<=9999)->Q (skE ⟨r,s,M,H,a,G,F⟩) S') :
  rW (wSs (evC ae (k+3)) (gO ae) 55 (gH.drop 5)) [aw (.ref p),aw (.int W),aw (meL r s M H),aw (.ref N),u4,u5,u6,u7,u8,u9,u10,u11,aw (.ref u),u13,aD] S (out Q):=by
 dsimp only[gH,Xu];have m1:=me.m1;have m4:=me.m4;k_is;refine aa (show ixS (meL r s M H) (.int 2) S=aw (.tup (M.map ag),S) from rfl) ?_;refine aa (show ao dB (.tup (M.map ag)) S=aw (.int M.length,S) by simp only[ao,av,dB,Za]) ?_;refine⟨rfl,aA h (by lia) (by lia) λx S1 O X I=>?_⟩;refine⟨rfl,aA I.pot (by decide) (by decide) λy S2 Y y2 C=>?_⟩;refine⟨rfl,aA C.pot (by decide) (by decide) λz S3 z1 z2 T=>?_⟩;k_is;have d:=(I.trans C).trans T
 obtain⟨a,U,Z⟩:∃a:Option (Int × Int),atI [D.non,D.tup [D.int x,D.int y]] z=aw (ahE a)/\∀q,a=aw q->0<=q.1/\q.1 < M.length/\0<=q.2/\q.2<=9999:=by
  have:z=0\/z=1:=by lia
  rcases this with rfl |rfl
  ·exact⟨aD,rfl,λq e=>by cases e⟩
  ·exact⟨aw (x,y),rfl,λq e=>by cases e;exact⟨O,X,Y,by lia⟩⟩
 refine⟨_,U,?_⟩;k_is;have f:=gs.keep d.kp;have v:=d.kp _ _ nf hf;refine⟨by rw[aE f.at_];rfl,?_⟩;have le:=f.len;refine mS J.length (λi=>(J[i]?).getD .non) (λi l S'=>S'=S3/\l=(G.take i).map ag) (λi l S' hi ⟨e,_⟩=>by subst e;exact CN f.at_ _ JC) (by lia) (λi l j hi ⟨B,c⟩=>?_) (λes' j ⟨B,c⟩=>⟨by rw[c,Za,Yh];lia,?_⟩) ⟨rfl,rfl⟩
 ·subst B;have L:i < G.length:=by lia
  obtain⟨b,eb,_,_,zb⟩:=f.row i G[i] (gEG L);simp only[eb,ZT];refine⟨_,rfl,?_⟩;k_is;refine aa (show ao cX (.ref b) j=aw (.tup (G[i].map D.int),j) by simp only[ao,av,aE zb,ZN,cX]) ?_;refine⟨rfl,?_⟩;rw[c,Z5 L,ZQ];rfl
 ·subst B;rw[YE (by lia)] at c;subst c;refine aa (show cX aS (G.map ag) j=aw (.tup (G.map ag),j) from rfl) ?_;refine aa (show ao cX (.ref u) j=aw (.tup (F.map D.int),j) by simp only[ao,av,aE v,ZN,cX]) ?_;k_is;exact q a j d Z
def wy{j:Nat}(h:j < l.length):(l[j]::l.eraseIdx j).Perm l:=by
 induction l generalizing j with
 |nil=>simp at h
 |cons a l I=>
  cases j with
  |zero=>exact List.Perm.refl _
  |succ j=>
   rw[Zo] at h;have:=I (j:=j) (by lia);rw[List.getElem_cons_succ,Y3];exact(List.Perm.swap _ _ _).trans (this.cons a)
def pG:∀ (l:List Int) (j:Nat),(l.map D.int).eraseIdx j=(l.eraseIdx j).map D.int
 |[],_=>rfl
 |a::l,0=>rfl
 |a::l,j+1=>by rw[Zy,Y3,Y3,Zy,pG l j]
def D6{n:Nat}{l:List Int}{j:Nat}(d:S[n]?=aw (.lst (l.map D.int)))(f:j < l.length):ie (.ref n) [.int (j:Int)] S=aw (.int l[j],S.set n (.lst ((l.eraseIdx j).map D.int))):=by
 have b:ixN (l.map D.int).length (j:Int)=aw j:=by
  unfold ixN;rw[if_pos (by lia),if_pos (by rw[Za];lia),ZI]
 have c:(l.map D.int)[j]?=aw (.int l[j]):=by rw[Zl,gEG f];rfl
 have q:(l.map D.int).eraseIdx j=(l.eraseIdx j).map D.int:=pG l j;simp only[ie,chg,d,b,c,ZN,q]
def ni{n:Nat}{l:List Int}(h:l.Perm ((Ze n).map λi=>Int.ofNat i)):l.Nodup/\(∀x ∈ l,0<=x/\x < n)/\l.length=n:=by
 refine⟨h.nodup_iff.mpr (YL.mpr (YT.imp λh z=>h (Int.ofNat.inj z))),λx b=>?_,by rw[h.length_eq,Za,ZB]⟩;obtain⟨i,hi,rfl⟩:=ZA.mp (h.mem_iff.mp b);have:=ZJ.mp hi;show 0<=(i:Int)/\(i:Int) < n
 lia
structure Fxs(p N Nl Nf:Nat)(S:Sto)(es:List D)(G:List (List Int))(l F:List Int):Prop where
 gs:Gs p N Nl S es G
 al:S[Nl]?=aw (.lst (l.map D.int))
 af:S[Nf]?=aw (.lst (F.map D.int))
 nn:Nl < Nf
 pm:(F++l).Perm ((Ze G.length).map λi=>Int.ofNat i)
 rg:∀ (j:Nat) g,G[j]?=aw g->g.getD 6 0=0\/(j:Int) ∈ F
def Fxs.keep{N b c:Nat}(h:Fxs p N b c S d G l F)(kp:Ev.Kp p S S')(hN:N < b):Fxs p N b c S' d G l F:=by
 have:=h.gs.pN;have:=h.nn;exact⟨h.gs.keep kp,kp _ _ (by lia) h.al,kp _ _ (by lia) h.af,h.nn,h.pm,h.rg⟩
def Io{r s:Int}{M G:List (List Int)}{H:List (Int × Int)}{Y:List D}{N hi:Nat}{C:Sto}{u4 u5 u6 u7 u8 u9 J:Option D}(h:Dr p C S)(l0:C.length<=N)(gs:Gs p N S.length S Y G)(me:MeOk r s M H)(g7:G.length<=7)(gb:∀g ∈ G,GB M.length r s g)(g0:∀g ∈ G,g.getD 6 0=0)
  (q:∀K S',Dr p C S'->SkOk K->(∀g ∈ K.G,GB K.M.length K.r K.s g)->K.G.length<=7->Q (skE K) S') :
  rW (wSs (evC ae (k+3)) (gO ae) 57 (gH.drop 3)) [aw (.ref p),aw (.int W),aw (meL r s M H),aw (.ref N),u4,u5,u6,u7,u8,u9,J,aD,aD,aD,aD] S (out Q):=by
 have T:=λ(u11 U:Option D) (b:List (List Int)) (es':List D) (F:List Int) (B hi:Nat) (S1:Sto) (d:Dr p C S1) (gs':Gs p N hi S1 es' b) (hf:S1[B]?=aw (.lst (F.map D.int))) (nf:B ≠ p) (g7':b.length<=7) (f:∀g ∈ b,GB M.length r s g) (nd:F.Nodup) (bd:∀x ∈ F,0<=x/\x < b.length) (rg:∀ (j:Nat) g,b[j]?=aw g->g.getD 6 0=0\/(j:Int) ∈ F)=>
  Im (k:=k) (Q:=Q) (W:=W) (u4:=u4) (u5:=u5) (u6:=u6) (u7:=u7) (u8:=u8) (u9:=u9) (u10:=J) (u11:=u11) (u13:=U) d.pot gs' hf nf me (by lia) λa S2 d2 ha=>q _ S2 (d.trans d2) ⟨me,ZW g7' (by decide),λg hg=>(f g hg).up (by decide),nd,bd,rg,ha⟩ f g7'
 dsimp only[gH,Xu] at T ⊢;have pN:=gs.pN;have le:=gs.len;have X:N < S.length:=(Zb.mp gs.at_).1;k_is;refine aa (gJ gs.at_) ?_;refine⟨Y.length,rfl,by lia,?_⟩;k_is;rw[le]
 have al:(S++[Ob.lst ((Ze G.length).map λj=>D.int (Int.ofNat j))]++[Ob.lst []])[S.length]?=aw (.lst (((Ze G.length).map λj=>Int.ofNat j).map D.int)):=by
  rw[Zw (by simp),bv,Z0];rfl
 have af:(S++[Ob.lst ((Ze G.length).map λj=>D.int (Int.ofNat j))]++[Ob.lst []])[Zx (S++[Ob.lst ((Ze G.length).map λj=>D.int (Int.ofNat j))])]?=aw (.lst (([]:List Int).map D.int)):=bv;have L:Sm S (S++[Ob.lst ((Ze G.length).map λj=>D.int (Int.ofNat j))]++[Ob.lst []]):=(Sm.app _ _).trans (Sm.app _ _);have nn:S.length < Zx (S++[Ob.lst ((Ze G.length).map λj=>D.int (Int.ofNat j))]):=by simp
 generalize Zx (S++[Ob.lst ((Ze G.length).map λj=>D.int (Int.ofNat j))])=B at *;generalize S++[Ob.lst ((Ze G.length).map λj=>D.int (Int.ofNat j))]++[Ob.lst []]=S1 at *;have d1:Dr p C S1:=h.thenSm L;have fx1:Fxs p N S.length B S1 Y G ((Ze G.length).map λj=>Int.ofNat j) []:=⟨gs.keep L.kp,al,af,nn,List.Perm.refl _,λj g e=>.inl (g0 g (Zd e))⟩;have sl:C.length<=S.length:=by lia
 generalize S.length=Nl at *;refine aa (gJ (L _ _ gs.at_)) ?_;k_is;rw[le];refine⟨rfl,aA d1.pot (by lia) (by lia) λt S2 t1 t2 d2=>?_⟩;refine⟨rfl,aA d2.pot (by decide) (by decide) λz S3 z1 z2 d3=>?_⟩;k_is
 obtain⟨c,ec,hc⟩:∃c:Nat,atI [D.int 0,D.int t] z=aw (D.int c)/\c<=G.length:=by
  have:z=0\/z=1:=by lia
  rcases this with rfl |rfl
  ·exact⟨0,rfl,Z3 _⟩
  ·obtain⟨m,rfl⟩:∃m:Nat,t=(m:Int):=⟨t.toNat,by lia⟩;exact⟨m,rfl,by lia⟩
 refine⟨_,ec,?_⟩;k_is;refine⟨gk (by lia) (by lia),?_⟩;rw[ZI];refine ko (by lia) (λi ρ S'=>Dr p C S'/\∃b l F U,ρ=[aw (.ref p),aw (.int W),aw (meL r s M H),aw (.ref N),u4,u5,u6,u7,u8,u9,J,aw (.ref Nl),aw (.ref B),U,aD]/\Fxs p N Nl B S' Y b l F/\F.length=i/\b.length=G.length/\∀g ∈ b,GB M.length r s g) (λi ρ S4 hi ⟨d4,b,l,F,U,er,fx,lF,lG,f⟩=>?_) (λρ S4 ⟨d4,b,l,F,U,er,fx,lF,lG,f⟩=>?_) ⟨(d1.trans d2).trans d3,G,_,[],aD,rfl,fx1.keep (d2.trans d3).kp X,rfl,rfl,gb⟩
 ·subst er;refine⟨_,rfl,?_⟩;k_is;have pl:F.length+l.length=b.length:=by have:=fx.pm.length_eq;rw[Zg,Za,ZB] at this;exact this
  refine⟨gj fx.af,?_⟩;refine⟨gj fx.al,?_⟩;refine aa (gJ fx.al) ?_;rw[Za];refine⟨rfl,aA d4.pot (by lia) (by lia) λj0 O j1 j2 d5=>?_⟩;obtain⟨j,rfl⟩:∃j:Nat,j0=(j:Int):=⟨j0.toNat,by lia⟩;have hj:j < l.length:=by lia
  have v:=fx.keep d5.kp X;refine aa (D6 v.al hj) ?_;have I:=v.nn;have lt5:Nl < O.length:=(Zb.mp v.al).1;have ltf:B < O.length:=(Zb.mp v.af).1;have af6:(O.set Nl (.lst ((l.eraseIdx j).map D.int)))[B]?=aw (.lst (F.map D.int)):=by rw[Zz (by lia)];exact v.af
  rw[mU af6 (by rw[Za];lia)];k_is;have ef:F.map D.int++[D.int l[j]]=(F++[l[j]]).map D.int:=by rw[ZQ];rfl
  rw[ef]
  have pm7:((F++[l[j]])++l.eraseIdx j).Perm ((Ze b.length).map λi=>Int.ofNat i):=by
   rw[YK];exact((wy hj).append_left F).trans fx.pm
  have Z:Fxs p N Nl B ((O.set Nl (.lst ((l.eraseIdx j).map D.int))).set B (.lst ((F++[l[j]]).map D.int))) Y b (l.eraseIdx j) (F++[l[j]]):=by
   refine⟨(v.gs.other (Zi _) X).other (by lia) X,?_,gh (by rw[Z7];exact ltf),I,pm7,λj' g e=>?_⟩
   ·rw[Zz (by lia),gh lt5]
   ·rcases fx.rg j' g e with z |z
    ·exact .inl z
    ·exact .inr (ZY _ z)
  have d7:Dr p C ((O.set Nl (.lst ((l.eraseIdx j).map D.int))).set B (.lst ((F++[l[j]]).map D.int))):=⟨((d4.kp.trans d5.kp).setNew (by lia)).setNew (by lia),(d5.pot.setNe (by lia)).setNe (by lia)⟩;generalize (O.set Nl (.lst ((l.eraseIdx j).map D.int))).set B (.lst ((F++[l[j]]).map D.int))=S7 at *;have xb:=(ni fx.pm).2.1 l[j] (ZE _ (ZO hj));generalize l[j]=x at *;refine aa (show ixS (meL r s M H) (.int 0) S7=aw (.int r,S7) from rfl) ?_;k_is;refine eP (λh1=>?_) λh1=>?_
  ·k_is;have r0:=of_decide_eq_true h1;have r8:=me.r8;refine⟨rfl,aA d7.pot (by decide) (by decide) λy S8 y1 y2 d8=>?_⟩;k_is;have fx8:=Z.keep d8.kp X;refine eP (λh2=>?_) λh2=>?_
   ·k_is;refine aa (show ixS (meL r s M H) (.int 0) S8=aw (.int r,S8) from rfl) ?_;refine⟨rfl,aA d8.pot r0 (by lia) λw S9 w1 w2 d9=>?_⟩;k_is;have u:=fx8.keep d9.kp X;refine aa (qK (ds:=F.map D.int) (e:=.int x) (by rw[u.af,ZQ];rfl)) ?_;have hx:x.toNat < b.length:=by lia
    obtain⟨a,ea,n1,n2,za⟩:=u.gs.row x.toNat b[x.toNat] (gEG hx);refine aa (iA u.gs.at_ xb.1 ea) ?_;k_is;obtain⟨kd,jo,fi,la,du,we,ri,eg,hb⟩:=f b[x.toNat] (ZO hx);rw[eg] at za;refine⟨_,xZ (i:=6) za (by decide) (by show 6 < 7;decide),?_⟩;k_is;have es9:(([kd,jo,fi,la,du,we,ri]:List Int).map D.int).set (6:Int).toNat (.int (1+w))=([kd,jo,fi,la,du,we,1+w]:List Int).map D.int:=rfl;rw[es9];refine⟨⟨((d7.kp.trans d8.kp).trans d9.kp).setNew (by lia),d9.pot.setNe (by lia)⟩,b.set x.toNat [kd,jo,fi,la,du,we,1+w],_,_,_,rfl,⟨u.gs.setRow hx ea,?_,?_,I,by rw[Z7];exact u.pm,λj' g e=>?_⟩,by rw[Zg,Zt];lia,by rw[Z7];exact lG,λg hg=>?_⟩
    ·rw[Zz (by lia)];exact u.al
    ·rw[Zz (by lia)];exact u.af
    ·by_cases hjj:j'=x.toNat
     ·subst hjj;right;have:((x.toNat:Nat):Int)=x:=by lia
      rw[this];exact ZE _ (ZF.mpr rfl)
     ·rw[Zz (Ne.symm hjj)] at e;exact u.rg j' g e
    ·rcases List.mem_or_eq_of_mem_set hg with hg |rfl
     ·exact f g hg
     ·exact⟨kd,jo,fi,la,du,we,1+w,rfl,by omega⟩
   ·k_is;exact⟨d7.trans d8,b,_,_,_,rfl,fx8,by rw[Zg,Zt];lia,lG,f⟩
  ·k_is;exact⟨d7,b,_,_,_,rfl,Z,by rw[Zg,Zt];lia,lG,f⟩
 ·subst er;k_is;have pr:=ni fx.pm;have I:=fx.nn;exact T _ _ b Y F B Nl S4 d4 fx.gs fx.af (by lia) (by lia) f (List.Nodup.sublist (List.sublist_append_left F l) pr.1) (λy hy=>pr.2.1 y (ZY _ hy)) fx.rg
def Ip(w0:0<=W)(w7:W<=7)(h:Pot p S)(q:∀K S',Dr p S S'->SkOk K->(∀g ∈ K.G,GB K.M.length K.r K.s g)->K.G.length<=7->Q (skE K) S'):Ok (evC ae (k+4) 53 [.ref p,.int W] S) Q:=by
 refine ay (d:=jL) (ρ:=[aw (.ref p),aw (.int W),aD,aD,aD,aD,aD,aD,aD,aD,aD,aD,aD,aD,aD]) rfl rfl ?_;have y:=@Io p;dsimp only[jL];dsimp only[gH,Xu] at y ⊢;k_is;refine⟨rfl,wa h λr s M H v d1 me=>?_⟩;rw[show(D.tup [.int r,.int s,.tup (M.map ag),.tup (H.map au)])=meL r s M H from rfl];k_is;have L:=d1.pot.lt;have m1:=me.m1;have m4:=me.m4;have s0:=me.s0;have s60:=me.s60;have sl:S.length<=v.length:=Kp.len d1.kp L;have d2:Dr p S (v++[Ob.lst []]):=d1.thenSm (Sm.app _ _);have g2:Gs p v.length (Zx (v++[Ob.lst []])) (v++[Ob.lst []]) [] []:=⟨L,bv,rfl,λi g e=>by simp at e,λi j a e=>by simp at e⟩;generalize v++[Ob.lst []]=S2 at *;generalize v.length=N at *;refine⟨rfl,aA d2.pot (by decide) (by decide) λC S3 j3 k3 d3=>?_⟩;k_is
 obtain⟨wd,at3,h3⟩:∃e:Int,atI [D.int 5,D.int 20,D.int 60] C=aw (D.int e)/\0 < e/\e<=60:=by
  have:C=0\/C=1\/C=2:=by lia
  rcases this with rfl |rfl |rfl
  ·exact⟨5,rfl,by decide,by decide⟩
  ·exact⟨20,rfl,by decide,by decide⟩
  ·exact⟨60,rfl,by decide,by decide⟩
 refine⟨_,at3,?_⟩;refine⟨rfl,aA d3.pot (by decide) (by decide) λI S4 j4 k4 d4=>?_⟩;k_is
 obtain⟨lg,at4,h4⟩:∃e:Int,atI [D.int 4,D.int 30,D.int 90,D.int 400] I=aw (D.int e)/\0 < e/\e<=400:=by
  have:I=0\/I=1\/I=2\/I=3:=by lia
  rcases this with rfl |rfl |rfl |rfl
  ·exact⟨4,rfl,by decide,by decide⟩
  ·exact⟨30,rfl,by decide,by decide⟩
  ·exact⟨90,rfl,by decide,by decide⟩
  ·exact⟨400,rfl,by decide,by decide⟩
 refine⟨_,at4,?_⟩;k_is;refine⟨rfl,aA d4.pot (by lia) (by lia) λn0 S5 n1 n2 d5=>?_⟩;k_is;obtain⟨n,rfl⟩:∃n:Nat,n0=(n:Int):=⟨n0.toNat,by lia⟩;refine⟨gk (by lia) (by lia),?_⟩;rw[ZI];have l:=(d3.trans d4).trans d5;refine ko (by lia) (λi ρ S'=>Dr p S S'/\∃Z G u6 u7 u8 u9 U,ρ=[aw (.ref p),aw (.int W),aw (meL r s M H),aw (.ref N),aw (.int wd),aw (.int lg),u6,u7,u8,u9,U,aD,aD,aD,aD]/\Gs p N S'.length S' Z G/\G.length=i/\∀g ∈ G,GB M.length r s g/\g.getD 6 0=0) (λi ρ S6 hi ⟨O,Z,G,u6,u7,u8,u9,U,er,gs,lG,gb⟩=>?_) (λρ S6 ⟨O,Z,G,u6,u7,u8,u9,U,er,gs,lG,gb⟩=>?_) ⟨d2.trans l,[],[],aD,aD,aD,aD,aD,rfl,(g2.keep l.kp).up (Kp.len l.kp l.pot.lt),rfl,λg hg=>by simp at hg⟩
 ·subst er;refine⟨_,rfl,?_⟩;k_is;refine⟨rfl,aA O.pot h3.1 (by lia) λJ S7 o1 o2 d7=>?_⟩;k_is;refine aa (show ixS (meL r s M H) (.int 1) S7=aw (.int s,S7) from rfl) ?_;k_is;refine⟨rfl,aA d7.pot (by decide) (by decide) λx S8 x1 x2 d8=>?_⟩;refine⟨rfl,aA d8.pot (by decide) (by decide) λz S9 z1 z2 d9=>?_⟩;k_is
  obtain⟨e,ate,he⟩:∃e:Int,atI [D.int 0,D.int x] z=aw (D.int e)/\0<=e/\e<=9:=by
   have:z=0\/z=1:=by lia
   rcases this with rfl |rfl
   ·exact⟨0,rfl,by decide,by decide⟩
   ·exact⟨x,rfl,by lia,by lia⟩
  refine⟨_,ate,?_⟩;k_is;refine⟨rfl,aA d9.pot h4.1 (by lia) λa Sa a1 a2 da=>?_⟩;k_is;refine⟨rfl,aA da.pot h4.1 (by lia) λb X b1 b2 db=>?_⟩;k_is;have u:=(((d7.trans d8).trans d9).trans da).trans db;have gsb:=gs.keep u.kp;refine⟨gj gsb.at_,?_⟩;refine aa (show ixS (meL r s M H) (.int 2) X=aw (.tup (M.map ag),X) from rfl) ?_;refine aa (show ao dB (.tup (M.map ag)) X=aw (.int M.length,X) by simp only[ao,av,dB,Za]) ?_;refine⟨rfl,aA db.pot (by lia) (by lia) λT Sc c1 c2 dc=>?_⟩;refine⟨rfl,aA dc.pot (by decide) (by decide) λw Sd w1 w2 dd=>?_⟩;k_is
  obtain⟨Y,atw,hw⟩:∃e:Int,atI [D.int 0,D.int 1,D.int 7,D.int 99] w=aw (D.int e)/\0<=e/\e<=99:=by
   have:w=0\/w=1\/w=2\/w=3:=by lia
   rcases this with rfl |rfl |rfl |rfl
   ·exact⟨0,rfl,by decide,by decide⟩
   ·exact⟨1,rfl,by decide,by decide⟩
   ·exact⟨7,rfl,by decide,by decide⟩
   ·exact⟨99,rfl,by decide,by decide⟩
  refine⟨_,atw,?_⟩;k_is;have c:=u.trans (dc.trans dd);have f:=(gs.keep c.kp).up (Kp.len c.kp c.pot.lt);have atN:=Sm.app Sd [Ob.lst [D.int T,D.int J,D.int (J+s+e),D.int (J+s+e+a),D.int (J+b),D.int Y,D.int 0]] _ _ f.at_;rw[mU atN (by rw[f.len];lia)];k_is;have sn:=f.snoc (g:=[T,J,J+s+e,J+s+e+a,J+b,Y,0]);have B:=O.trans c;refine⟨⟨(B.kp.trans (Sm.app _ _).kp).setNew (by lia),((Dr.sm B.pot (Sm.app _ _)).pot).setNe (by have:=f.pN;lia)⟩,Z++[D.ref (Zx Sd)],G++[[T,J,J+s+e,J+s+e+a,J+b,Y,0]],_,_,_,_,_,rfl,?_,by rw[Zg,Zt];lia,λg hg=>?_⟩
  ·rw[Z7,Zg,Zt];exact sn
  ·rcases ZM.mp hg with hg |hg
   ·exact gb g hg
   ·rw[ZF.mp hg];exact⟨⟨T,J,J+s+e,J+s+e+a,J+b,Y,0,rfl,by have:=me.r0;omega⟩,rfl⟩
 ·subst er;exact y (hi:=0) O (by lia) gs me (by lia) (λg hg=>(gb g hg).1) (λg hg=>(gb g hg).2) q
end Lw
namespace Lw
open PySem Ev Sn L2
variable {p:Nat} {S S':Sto} {k:Nat} {Q:D->Sto->Prop} {K:Sky}
abbrev Nr(G b:List (List Int)):Prop:=b.length=G.length/\∀ (i:Nat) g,G[i]?=aw g->∃d,0<=d/\d<=25/\b[i]?=aw (g.set 3 (g.getD 2 0+d))
def Nr.nil:Nr [] []:=⟨rfl,λi g h=>by cases h⟩
def Nr.snoc{d:Int}(h:Nr G l)(v:0<=d)(q:d<=25):Nr (G++[g]) (l++[g.set 3 (g.getD 2 0+d)]):=by
 refine⟨by rw[Zg,Zg,h.1];rfl,λi x f=>?_⟩;by_cases hi:i < G.length
 ·rw[Zw hi] at f;obtain⟨u,a,b,c⟩:=h.2 i x f;exact⟨u,a,b,by rw[Zw (by rw[h.1];exact hi)];exact c⟩
 ·have j:i=G.length:=by
   have:=(Zb.mp f).1;rw[Zg,Zt] at this
   lia
  subst j;rw[Zp (Zi _),Z8] at f;cases f;exact⟨d,v,q,by rw[<-h.1,Zp (Zi _),Z8];rfl⟩
def Iq(l:SkOk K)(gb:∀g ∈ K.G,GB K.M.length K.r K.s g)(h:Nr K.G q):SkOk { K with G:=q }:=by
 have b:∀ (i:Nat) c,q[i]?=aw c->∃g d,K.G[i]?=aw g/\0<=d/\d<=25/\c=g.set 3 (g.getD 2 0+d):=λi c e=>by
  have hi:i < K.G.length:=by rw[<-h.1];exact(Zb.mp e).1
  obtain⟨d,y,u,B⟩:=h.2 i _ (gEG hi);rw[e] at B;cases B;exact⟨_,d,gEG hi,y,u,rfl⟩
 refine⟨l.me,by show q.length<=7;rw[h.1];exact l.g7,λc f=>?_,l.nd,λx T=>by show _/\x < (q.length:Int);rw[h.1];exact l.bd x T,λj c f=>?_,l.ah⟩
 ·obtain⟨i,hi⟩:=Yw f;obtain⟨g,d,e,y,u,rfl⟩:=b i c hi;obtain⟨C,J,z,la,L,I,O,v,hb⟩:=gb g (Zd e);subst v;have s0:=l.me.s0;exact⟨C,J,z,z+d,L,I,O,rfl,by dsimp only;omega⟩
 ·obtain⟨g,d,e,y,u,rfl⟩:=b j c f;obtain⟨C,J,z,la,L,I,O,v,hb⟩:=gb g (Zd e);have:=l.rg j g e;subst v;exact this
def wz(h:Pot p S)(q:∀K S',Dr p S S'->SkOk K->K.G.length<=7->Q (skE K) S'):Ok (evC ae (k+5) 55 [.ref p] S) Q:=by
 refine ay (d:=dZ) (ρ:=[aw (.ref p),aD,aD,aD,aD,aD,aD]) rfl rfl ?_;dsimp only[dZ,hY];k_is;refine⟨rfl,aA h (by decide) (by decide) λx T Z x1 U=>?_⟩;k_is;refine aa (show Bv (.bl (decide (x=1))) T=aw (.int (if decide (x=1)=aN then 1 else 0),T) from by cases decide (x=1) <;> rfl) ?_
 obtain⟨W,eW,X,w7⟩:∃W:Int,atI [D.int 6,D.int 7] (if decide (x=1)=aN then 1 else 0)=aw (.int W)/\0<=W/\W<=7:=by
  cases decide (x=1)
  ·exact⟨6,rfl,by decide,by decide⟩
  ·exact⟨7,rfl,by decide,by decide⟩
 refine⟨_,eW,rfl,Ip (k:=k) X w7 U.pot λK S1 O sk gb h5=>?_⟩;k_is;show wTp _ (.tup [meE K,ahE K.ah,.tup (K.G.map ag),.tup (K.F.map D.int)]) _ _;k_is;refine⟨rfl,aA O.pot (by decide) (by decide) λw S2 X w1 L=>?_⟩;k_is
 obtain⟨fr,B,h3⟩:∃e:Int,atI [D.int 1,D.int 4,D.int 12,D.int 25] w=aw (D.int e)/\0 < e/\e<=25:=by
  have:w=0\/w=1\/w=2\/w=3:=by lia
  rcases this with rfl |rfl |rfl |rfl
  ·exact⟨1,rfl,by decide,by decide⟩
  ·exact⟨4,rfl,by decide,by decide⟩
  ·exact⟨12,rfl,by decide,by decide⟩
  ·exact⟨25,rfl,by decide,by decide⟩
 refine⟨_,B,?_⟩;k_is;refine mS K.G.length (λi=>((K.G.map ag)[i]?).getD .non) (λi f S'=>Dr p S2 S'/\∃b:List (List Int),f=b.map ag/\Nr (K.G.take i) b) (λi f S' hi _=>?_) (by lia) (λi f j hi y=>?_) (λes j I=>?_) ⟨Dr.refl L.pot,[],rfl,Nr.nil⟩
 ·show aw ((K.G.map ag)[i]?)=_;by_cases c:i < K.G.length
  ·rw[if_pos c,gEG (by rw[Za];exact c)];rfl
  ·rw[if_neg c,Zv (by rw[Za];lia)]
 ·obtain⟨v,b,C,u⟩:=y;have hg:K.G[i]?=aw K.G[i]:=gEG hi;obtain⟨Y,J,z,la,du,we,ri,eg,_⟩:=gb K.G[i] (ZO hi);have ez:((K.G.map ag)[i]?).getD .non = .tup [.int Y,.int J,.int z,.int la,.int du,.int we,.int ri]:=by rw[Zl,hg,eg];rfl
  rw[ez];refine⟨_,rfl,?_⟩;k_is;refine aa (show ixS (.tup [.int Y,.int J,.int z,.int la,.int du,.int we,.int ri]) (.int 2) j=aw (.int z,j) from rfl) ⟨rfl,aA v.pot h3.1 (by lia) λx S4 Z x1 d4=>?_⟩;k_is;refine⟨show 3+1<=1000 by decide,show 4+3<=1000 by decide,v.trans d4,b++[K.G[i].set 3 (K.G[i].getD 2 0+x)],?_,?_⟩
  ·rw[C,ZQ,eg];rfl
  ·rw[Z5 hi];exact Nr.snoc u Z (by lia)
 ·obtain⟨v,b,C,u⟩:=I;rw[Yz] at u;subst C;refine⟨by rw[Za,u.1];lia,?_⟩;k_is;refine aa (show ao cX (.ref j.length) (j++[Ob.lst (b.map ag)])=aw (.tup (b.map ag),j++[Ob.lst (b.map ag)]) by simp only[ao,av,aE (Zu (l:=j) (a:=Ob.lst (b.map ag)))];rfl) ?_;k_is;exact q { K with G:=b } _ (((U.trans O).trans (L.trans v)).thenSm (Sm.app _ _)) (Iq sk gb u) (by show b.length<=7;rw[u.1];exact h5)
abbrev z6(ns:List Int)(S:Sto):Prop:=S[0]?=aw (.frz (ns.map D.int))/\Ii S
def z6.keep{ns:List Int}(h:z6 ns S)(s:Sm S S'):z6 ns S':=⟨s _ _ h.1,s _ _ h.2⟩
def wD{n:Nat}{A:List (List Int)}(h:Pot p S)(e:S[n]?=aw (.lst (A.map ag))):n ≠ p:=h.ne e λx z=>by
 cases A with
 |nil=>cases z
 |cons r A=>cases z
structure Mn(K:Sky)(ns:List Int)(p m a b:Nat)(S:Sto):Prop where
 base:z6 ns S
 pot:Pot p S
 p1:1 < p
 lm:S[m]?=aw (.lst ((slots K.G.length).map ag))
 la:S[a]?=aw (.lst ((stk K).map ag))
 lb:S[b]?=aw (.lst ((snt K).map ag))
def Mn.dr{ns:List Int}{m a b:Nat}(h:Mn K ns p m a b S)(d:Dr p S S'):Mn K ns p m a b S':=
 have:=h.p1
 ⟨⟨d.kp _ _ (by lia) h.base.1,d.kp _ _ (by lia) h.base.2⟩,d.pot,h.p1,d.kp _ _ (wD h.pot h.lm) h.lm,d.kp _ _ (wD h.pot h.la) h.la,d.kp _ _ (wD h.pot h.lb) h.lb⟩
def Mn.sm{ns:List Int}{m a b:Nat}(h:Mn K ns p m a b S)(s:Sm S S'):Mn K ns p m a b S':=h.dr (Dr.sm h.pot s)
def D7{n:Nat}{l:List Int}{c:List Int->Bool}(b:n<=7)(h:l ∈ pk c (slots n) []):l ∈ aG n:=(aX b).mp (pF h).1
def JI{ns:List Int}{m a b:Nat}(T:SkOk K)(B:K.G.length<=7)(mn:Mn K ns p m a b S) :
  rW (wSs (evC ae 39) (gO ae) 54 (CD.drop 6)) [aw (.ref 0),aw (.ref p),aw (skE K),aw (.tup ((Ze K.G.length).map λj=>.int (Int.ofNat j))),aw (.ref m),aw (.ref a),aw (.ref b),aD,aD,aD,aD] S (out λd _=>d = .bl aN):=by
 have ls:=jR (c:=λl=>!lnd K l) B;have lt:=jR (c:=λl=>lnd K (bj K.G.length l)) B;have sl:=gK B;have s128:=gu B;dsimp only[CD,Xu];k_is;refine⟨by decide,?_⟩;refine ko (by decide) (λ_ u S'=>Mn K ns p m a b S'/\∃e f g,u=[aw (.ref 0),aw (.ref p),aw (skE K),aw (.tup ((Ze K.G.length).map λj=>.int (Int.ofNat j))),aw (.ref m),aw (.ref a),aw (.ref b),e,f,g,aD]) (λt u v ht I=>?_) (λu v I=>?_) ⟨mn,_,_,_,rfl⟩
 ·obtain⟨mn,e,f,g,rfl⟩:=I;refine⟨_,rfl,?_⟩;k_is;refine aa (gJ mn.lm) ?_;rw[Za];have sp:0 < (slots K.G.length).length:=by rw[sl];exact Wo (by decide)
  refine⟨rfl,aA mn.pot (by lia) (by lia) λj S6 j0 j1 d6=>?_⟩;have mn:=mn.dr d6;have z:j.toNat < (slots K.G.length).length:=by lia
  obtain⟨l,U⟩:∃l,(slots K.G.length)[j.toNat]?=aw l:=⟨_,gEG z⟩;have Y:=(aX B).mp (Zd U);refine aa (iA mn.lm j0 (d:=ag l) (by rw[Zl,U];rfl)) ?_;k_is;refine⟨by rw[aE mn.la];rfl,?_⟩;have z1:=ls.1;refine bh (stk K) ag (λo=>[.bl (o.all λx=>decide (x ∈ l))]) (by unfold stk;lia) (λa _=>by simp) (ei mn.la) (λj o v Z s5=>⟨_,rfl,?_⟩) λS7 s7=>?_
  ·k_is;show mW (.tup (o.map D.int)) v _;k_is;have:=ls.2 o (Zd Z);refine bh o D.int (λx=>[.bl (decide (x ∈ l))]) (by lia) (λa _=>by simp) bH (λi x C hx s2=>⟨_,rfl,?_⟩) λC s2=>?_
   ·k_is;refine aa (show am .isin (.int x) (ag l) C=aw (.bl (aS != decide (x ∈ l)),C) from cJ aS l x C) ?_;rw[Xd];exact⟨rfl,Sm.refl _⟩
   ·rw[bc];exact aa (Ev.fq o (λx=>decide (x ∈ l)) C) ⟨rfl,s2⟩
  ·rw[bc];refine aa (kO (λo:List Int=>o.all λx=>decide (x ∈ l)) _) ?_;k_is;refine⟨rfl,iB (k:=17) T Y λO X=>?_⟩;have e:lnd K l = !((stk K).any λo=>o.all λx=>decide (x ∈ l)):=yq T Y;rw[e];have mn:=(mn.sm s7).sm X;generalize (!((stk K).any λo=>o.all λx=>decide (x ∈ l)))=r at *;k_is;refine aa (show am .ne (.bl r) (.bl r) O=aw (.bl aS,O) from by cases r <;> rfl) ?_;k_is;exact⟨mn,_,_,_,rfl⟩
 ·obtain⟨mn,e,f,g,rfl⟩:=I;k_is;refine aa (qS (j:=6) mn.lb) ?_;have q:(v++[Ob.lst (((snt K).map ag).take 6)])[v.length]?=aw (.lst (((snt K).map ag).take 6)):=Zu;have mn:=mn.sm (Sm.app v [Ob.lst (((snt K).map ag).take 6)]);generalize v++[Ob.lst (((snt K).map ag).take 6)]=S6 at *;generalize v.length=L at *;k_is;refine⟨by rw[aE q];rfl,?_⟩;refine pf (by rw[Yh];lia) (λ_ u S'=>(Mn K ns p m a b S'/\S'[L]?=aw (.lst (((snt K).map ag).take 6)))/\∃e f g h,u=[aw (.ref 0),aw (.ref p),aw (skE K),aw (.tup ((Ze K.G.length).map λj=>.int (Int.ofNat j))),aw (.ref m),aw (.ref a),aw (.ref b),e,f,g,h]) (λi u S' h=>h.1.2) (λi d u S7 hd I=>?_) (λu S7 I=>?_) ⟨⟨mn,q⟩,_,_,_,_,rfl⟩
  ·obtain⟨⟨mn,q⟩,e,f,g,h,rfl⟩:=I;rw[<-XF,Zl] at hd;obtain⟨l,U,rfl⟩:=ZC.mp hd;have hs:l ∈ snt K:=YQ (Zd U);have Y:=D7 B hs;have l7:=lt.2 l hs;refine⟨_,rfl,?_⟩;k_is;refine bh (Ze K.G.length) (λ(j:Nat)=>D.int (Int.ofNat j)) (λ(j:Nat)=>if (!decide ((j:Int) ∈ l))=aN then [D.int (j:Int)] else []) (by rw[ZB];lia) (λa _=>by split <;> simp) bH (λi j S' z sm=>⟨_,rfl,?_⟩) λO X=>?_
   ·k_is;refine aa (show am .notin (.int (Int.ofNat j)) (ag l) S'=aw (.bl (aN != decide ((j:Int) ∈ l)),S') from cJ aN l j S') ?_;rw[show(aN != decide ((j:Int) ∈ l)) = !decide ((j:Int) ∈ l) by cases decide ((j:Int) ∈ l) <;> rfl];k_is;cases c:!decide ((j:Int) ∈ l) with
    |true=>exact⟨rfl,Sm.refl _⟩
    |false=>exact⟨rfl,Sm.refl _⟩
   ·rw[bx];refine aa (show cX aS _ O=aw (.tup _,O) from rfl) ?_;have mn:=mn.sm X;have q:=X _ _ q;have er:D.tup (((Ze K.G.length).filter λ(j:Nat)=>!decide ((j:Int) ∈ l)).map λ(j:Nat)=>D.int (j:Int))=ag (bj K.G.length l):=by unfold ag bj;rw[Z0];rfl
    rw[er];refine⟨rfl,iB (k:=17) T cF λS9 s9=>?_⟩;rw[ww hs];have mn:=mn.sm s9;have q:=s9 _ _ q;refine aa (show am .isnot (.bl aN) (.bl aN) S9=aw (.bl aS,S9) from rfl) ?_;k_is;show mW (.tup (l.map D.int)) S9 _;k_is;refine JB (by rw[Za];lia) (λ_ u S'=>(Mn K ns p m a b S'/\S'[L]?=aw (.lst (((snt K).map ag).take 6)))/\∃g h,u=[aw (.ref 0),aw (.ref p),aw (skE K),aw (.tup ((Ze K.G.length).map λj=>.int (Int.ofNat j))),aw (.ref m),aw (.ref a),aw (.ref b),e,aw (ag l),g,h]) (λi2 d2 u Sa J I=>?_) (λu Sa I=>?_) ⟨⟨mn,q⟩,_,_,rfl⟩
    ·obtain⟨⟨mn,q⟩,g,h,rfl⟩:=I;rw[Zl] at J;obtain⟨y,hy,rfl⟩:=ZC.mp J;have hyl:=Zd hy;refine⟨_,rfl,?_⟩;k_is;refine bh (Ze K.G.length) (λ(j:Nat)=>D.int (Int.ofNat j)) (λ(j:Nat)=>if (!decide ((j:Int) ∈ l) || decide ((j:Int)=y))=aN then [D.int (j:Int)] else []) (by rw[ZB];lia) (λa _=>by split <;> simp) bH (λi j S' z sm=>⟨_,rfl,?_⟩) λSb sb=>?_
     ·k_is;refine aa (show am .notin (.int (Int.ofNat j)) (ag l) S'=aw (.bl (aN != decide ((j:Int) ∈ l)),S') from cJ aN l j S') ?_;rw[show(aN != decide ((j:Int) ∈ l)) = !decide ((j:Int) ∈ l) by cases decide ((j:Int) ∈ l) <;> rfl];k_is;cases c:!decide ((j:Int) ∈ l) with
      |true=>exact⟨rfl,Sm.refl _⟩
      |false=>
       k_is;show wIf (decide ((j:Int)=y)) _ _;cases c2:decide ((j:Int)=y) with
       |true=>exact⟨rfl,Sm.refl _⟩
       |false=>exact⟨rfl,Sm.refl _⟩
     ·rw[bx];refine aa (show cX aS _ Sb=aw (.tup _,Sb) from rfl) ?_;have mn:=mn.sm sb;have q:=sb _ _ q;have cm:=jQ (λ(j:Nat)=>!decide ((j:Int) ∈ l) || decide ((j:Int)=y)) K.G.length;have er:D.tup (((Ze K.G.length).filter λ(j:Nat)=>!decide ((j:Int) ∈ l) || decide ((j:Int)=y)).map λ(j:Nat)=>D.int (j:Int))=ag (((Ze K.G.length).filter λ(j:Nat)=>!decide ((j:Int) ∈ l) || decide ((j:Int)=y)).map λ(j:Nat)=>(j:Int)):=by unfold ag;rw[Z0];rfl
      rw[er];refine⟨rfl,iB (k:=17) T cm λSc sc=>?_⟩;rw[wx T hs hyl cm λx x0 x1=>?_]
      ·have mn:=mn.sm sc;have q:=sc _ _ q;refine aa (show am .isnot (.bl aS) (.bl aS) Sc=aw (.bl aS,Sc) from rfl) ?_;k_is;exact⟨⟨mn,q⟩,_,_,rfl⟩
      ·rw[ZA];refine⟨λ⟨j,z,ej⟩=>?_,λhx=>⟨x.toNat,?_,by lia⟩⟩
       ·rw[ZH] at z;subst ej
        simpa using z.2
       ·have ex:((x.toNat:Nat):Int)=x:=by lia
        rw[ZH,ZJ,ex];exact⟨by lia,by simpa using hx⟩
    ·obtain⟨⟨mn,q⟩,g,h,rfl⟩:=I;k_is;exact⟨⟨mn,q⟩,_,_,_,_,rfl⟩
  ·obtain⟨mn,e,f,g,h,rfl⟩:=I;k_is
def main(ns:List Int)(hl:ns.length<=63):∃S',evC ae 40 57 [.ref 0] [.frz (ns.map D.int),.tbl "all_lots" kz.2.1 kz.2.2]=aw (.bl aN,S'):=by
 have T:Ok (evC ae 40 57 [.ref 0] [.frz (ns.map D.int),.tbl "all_lots" kz.2.1 kz.2.2]) λd _=>d = .bl aN:=by
  refine ay (d:=xN) (ρ:=[aw (.ref 0),aD,aD,aD,aD,aD,aD,aD,aD,aD,aD]) rfl rfl ?_;have z:z6 ns [.frz (ns.map D.int),.tbl "all_lots" kz.2.1 kz.2.2]:=⟨rfl,rfl⟩;generalize [Ob.frz (ns.map D.int),Ob.tbl "all_lots" kz.2.1 kz.2.2]=S1 at *;dsimp only[xN,CD];k_is;refine⟨rfl,HC (k:=38) z.1 λx=>?_⟩;refine⟨rfl,Oj (k:=38) λm=>?_⟩;have n0:1 < S1.length:=(Zb.mp z.2).1;have I:z6 ns (S1++[Ob.lst [D.int m]]):=⟨Sm.app _ _ _ _ z.1,Sm.app _ _ _ _ z.2⟩;have pt:Pot S1.length (S1++[Ob.lst [D.int m]]):=⟨m,bv⟩;generalize S1++[Ob.lst [D.int m]]=S2 at *;generalize S1.length=p at *;k_is;refine⟨rfl,wz (k:=34) pt λK S3 C q j=>?_⟩;have X:z6 ns S3:=⟨C.kp _ _ (by lia) I.1,C.kp _ _ (by lia) I.2⟩;have g7:=q.g7;k_is;refine aa sk2 (aa bI ?_);k_is;refine⟨⟨by lia,by lia⟩,?_⟩;rw[ZI];refine aa sk2 (aa bI ?_);refine⟨rfl,DY (k:=38) j λm S4 O U=>?_⟩;have h4:=X.keep O;have J:=(Dr.sm C.pot O).pot;have p1:1 < p:=n0;k_is;refine⟨rfl,uo (k:=14) q j h4.2 λa S5 u l5 Z=>?_⟩;refine⟨rfl,Ik (k:=13) q j (h4.keep u).2 λb S6 v l6 hb=>?_⟩;have mn:Mn K ns p m a b S6:=⟨(h4.keep u).keep v,((Dr.sm J u).trans (Dr.sm (Dr.sm J u).pot v)).pot,p1,v _ _ (u _ _ U),v _ _ Z,hb⟩;clear Z hb U O u v C I X h4 pt J;have Y:=jR (c:=λl=>!lnd K l) j;have lt:=jR (c:=λl=>lnd K (bj K.G.length l)) j;k_is;refine⟨rfl,yr (k:=38) (os:=stk K) j mn.lm mn.la (by have:=Y.1;unfold stk;lia) (λo L=>by have:=Y.2 o L;lia) λf S7 s7 l7 y=>?_⟩;have mn:=mn.sm s7;rw[<-jj q] at y;k_is;refine aa (kP y mn.lb) ?_;rw[decide_eq_true rfl];k_is;refine aa (kP (A:=snt K) (B:=[[]]) ((Sm.app _ _) _ _ mn.lb) Zu) ?_;have mn:=mn.sm (Sm.app S7 [Ob.lst [D.tup []]]);generalize S7++[Ob.lst [D.tup []]]=S8 at *;cases c:decide (snt K=[[]]) with
  |false=>
   k_is;refine⟨rfl,yr (k:=38) (os:=snt K) j mn.lm mn.lb (by have:=lt.1;unfold snt;lia) (λo L=>by have:=lt.2 o L;lia) λf S9 s9 l9 y=>?_⟩;have mn:=mn.sm s9;rw[<-D4 q] at y;k_is;refine aa (kP y mn.la) ?_;rw[decide_eq_true rfl];k_is;refine aa (yn (A:=snt K) (B:=[[]]) ((Sm.app _ _) _ _ mn.lb) Zu) ?_;rw[c];k_is;exact JI q j (mn.sm (Sm.app _ _))
  |true=>
   k_is;refine aa (yn (A:=snt K) (B:=[[]]) ((Sm.app _ _) _ _ mn.lb) Zu) ?_;rw[c];have mn:=mn.sm (Sm.app S8 [Ob.lst [D.tup []]]);k_is;refine aa (kP (A:=stk K) (B:=[]) ((Sm.app _ _) _ _ mn.la) Zu) ?_;rw[decide_eq_true (D5 q (of_decide_eq_true c))];k_is;exact JI q j (mn.sm (Sm.app _ _))
 obtain⟨d,S',e,rfl⟩:=T;exact⟨S',e⟩
end Lw
theorem PySem.Challenge.cw_downrings_k54_whole_stuck_lots_and_sendi_holds : PySem.Challenge.rw_downrings_k54_whole_stuck_lots_and_sendi.Holds :=
 Lw.head Lw.main
