import PyProof.Rows.All
import KE.KDictOf
import KE.KIsAll
import KE.KLam
import KE.KMinBuiltin
import KE.KNestM
import KE.KRevSl
import KE.KSortTup
import KE.KStateDown
import PySem.Challenge.RW_downrings_k53_least_stuck_and_least_send
set_option Elab.async false
set_option linter.all false
set_option maxRecDepth 100000
set_option maxHeartbeats 4000000
local macro_rules|`(abbrev $n:declId $s:optDeclSig $v:declVal)=>`(noncomputable def $n $s:optDeclSig $v:declVal)
local macro_rules|`(def $n:declId $s:optDeclSig $v:declVal)=>do let d:=⟨Lean.mkNode `Lean.Parser.Command.declSig #[s.raw[0],s.raw[1][0]]⟩;`(theorem $n $d $v:declVal)
open Option renaming some → aw,none → aD
open Bool renaming true → aN,false → aS
namespace Xobt
variable{P:Prop}
def ex1{p:A→Prop}(h:∃a,p a)(k:∀a,p a→P):P:=let⟨a,h⟩:=h;k a h
def ex2{p:A→B→Prop}(h:∃a b,p a b)(k:∀a b,p a b→P):P:=let⟨a,b,h⟩:=h;k a b h
def ex3{p:A→B→C→Prop}(h:∃a b c,p a b c)(k:∀a b c,p a b c→P):P:=let⟨a,b,c,h⟩:=h;k a b c h
def ex4{p:A→B→C→D→Prop}(h:∃a b c d,p a b c d)(k:∀a b c d,p a b c d→P):P:=let⟨a,b,c,d,h⟩:=h;k a b c d h
def ex5{p:A→B→C→D→E→Prop}(h:∃a b c d e,p a b c d e)(k:∀a b c d e,p a b c d e→P):P:=let⟨a,b,c,d,e,h⟩:=h;k a b c d e h
def ex6{p:A→B→C→D→E→F→Prop}(h:∃a b c d e f,p a b c d e f)(k:∀a b c d e f,p a b c d e f→P):P:=let⟨a,b,c,d,e,f,h⟩:=h;k a b c d e f h
def ex7{p:A→B→C→D→E→F→G→Prop}(h:∃a b c d e f g,p a b c d e f g)(k:∀a b c d e f g,p a b c d e f g→P):P:=let⟨a,b,c,d,e,f,g,h⟩:=h;k a b c d e f g h
def ex8{p:A→B→C→D→E→F→G→I→Prop}(h:∃a b c d e f g i,p a b c d e f g i)(k:∀a b c d e f g i,p a b c d e f g i→P):P:=let⟨a,b,c,d,e,f,g,i,h⟩:=h;k a b c d e f g i h
def ex9{p:A→B→C→D→E→F→G→I→J→Prop}(h:∃a b c d e f g i j,p a b c d e f g i j)(k:∀a b c d e f g i j,p a b c d e f g i j→P):P:=let⟨a,b,c,d,e,f,g,i,j,h⟩:=h;k a b c d e f g i j h
def ex10{p:A→B→C→D→E→F→G→I→J→L→Prop}(h:∃a b c d e f g i j l,p a b c d e f g i j l)(k:∀a b c d e f g i j l,p a b c d e f g i j l→P):P:=let⟨a,b,c,d,e,f,g,i,j,l,h⟩:=h;k a b c d e f g i j l h
def ex14{p:A→B→C→D→E→F→G→I→J→L→M→N→O→Q→Prop}(h:∃a b c d e f g i j l m n o q,p a b c d e f g i j l m n o q)(k:∀a b c d e f g i j l m n o q,p a b c d e f g i j l m n o q→P):P:=let⟨a,b,c,d,e,f,g,i,j,l,m,n,o,q,h⟩:=h;k a b c d e f g i j l m n o q h
def an2(h:a∧b)(k:a→b→P):P:=k h.1 h.2
def an3(h:a∧b∧c)(k:a→b→c→P):P:=k h.1 h.2.1 h.2.2
def an4(h:a∧b∧c∧d)(k:a→b→c→d→P):P:=k h.1 h.2.1 h.2.2.1 h.2.2.2
def an5(h:a∧b∧c∧d∧e)(k:a→b→c→d→e→P):P:=k h.1 h.2.1 h.2.2.1 h.2.2.2.1 h.2.2.2.2
def an6(h:a∧b∧c∧d∧e∧f)(k:a→b→c→d→e→f→P):P:=k h.1 h.2.1 h.2.2.1 h.2.2.2.1 h.2.2.2.2.1 h.2.2.2.2.2
def an7(h:a∧b∧c∧d∧e∧f∧g)(k:a→b→c→d→e→f→g→P):P:=k h.1 h.2.1 h.2.2.1 h.2.2.2.1 h.2.2.2.2.1 h.2.2.2.2.2.1 h.2.2.2.2.2.2
def an8(h:a∧b∧c∧d∧e∧f∧g∧i)(k:a→b→c→d→e→f→g→i→P):P:=k h.1 h.2.1 h.2.2.1 h.2.2.2.1 h.2.2.2.2.1 h.2.2.2.2.2.1 h.2.2.2.2.2.2.1 h.2.2.2.2.2.2.2
def an9(h:a∧b∧c∧d∧e∧f∧g∧i∧j)(k:a→b→c→d→e→f→g→i→j→P):P:=k h.1 h.2.1 h.2.2.1 h.2.2.2.1 h.2.2.2.2.1 h.2.2.2.2.2.1 h.2.2.2.2.2.2.1 h.2.2.2.2.2.2.2.1 h.2.2.2.2.2.2.2.2
def an10(h:a∧b∧c∧d∧e∧f∧g∧i∧j∧l)(k:a→b→c→d→e→f→g→i→j→l→P):P:=k h.1 h.2.1 h.2.2.1 h.2.2.2.1 h.2.2.2.2.1 h.2.2.2.2.2.1 h.2.2.2.2.2.2.1 h.2.2.2.2.2.2.2.1 h.2.2.2.2.2.2.2.2.1 h.2.2.2.2.2.2.2.2.2
def an13(h:a∧b∧c∧d∧e∧f∧g∧i∧j∧l∧m∧n∧o)(k:a→b→c→d→e→f→g→i→j→l→m→n→o→P):P:=k h.1 h.2.1 h.2.2.1 h.2.2.2.1 h.2.2.2.2.1 h.2.2.2.2.2.1 h.2.2.2.2.2.2.1 h.2.2.2.2.2.2.2.1 h.2.2.2.2.2.2.2.2.1 h.2.2.2.2.2.2.2.2.2.1 h.2.2.2.2.2.2.2.2.2.2.1 h.2.2.2.2.2.2.2.2.2.2.2.1 h.2.2.2.2.2.2.2.2.2.2.2.2
def in2{p:A→B→Prop}(a:A)(b:B)(h:p a b):∃a b,p a b:=⟨a,b,h⟩
def in3{p:A→B→C→Prop}(a:A)(b:B)(c:C)(h:p a b c):∃a b c,p a b c:=⟨a,b,c,h⟩
def in4{p:A→B→C→D→Prop}(a:A)(b:B)(c:C)(d:D)(h:p a b c d):∃a b c d,p a b c d:=⟨a,b,c,d,h⟩
def in5{p:A→B→C→D→E→Prop}(a:A)(b:B)(c:C)(d:D)(e:E)(h:p a b c d e):∃a b c d e,p a b c d e:=⟨a,b,c,d,e,h⟩
def in6{p:A→B→C→D→E→F→Prop}(a:A)(b:B)(c:C)(d:D)(e:E)(f:F)(h:p a b c d e f):∃a b c d e f,p a b c d e f:=⟨a,b,c,d,e,f,h⟩
def in7{p:A→B→C→D→E→F→G→Prop}(a:A)(b:B)(c:C)(d:D)(e:E)(f:F)(g:G)(h:p a b c d e f g):∃a b c d e f g,p a b c d e f g:=⟨a,b,c,d,e,f,g,h⟩
def in8{p:A→B→C→D→E→F→G→I→Prop}(a:A)(b:B)(c:C)(d:D)(e:E)(f:F)(g:G)(i:I)(h:p a b c d e f g i):∃a b c d e f g i,p a b c d e f g i:=⟨a,b,c,d,e,f,g,i,h⟩
def in9{p:A→B→C→D→E→F→G→I→J→Prop}(a:A)(b:B)(c:C)(d:D)(e:E)(f:F)(g:G)(i:I)(j:J)(h:p a b c d e f g i j):∃a b c d e f g i j,p a b c d e f g i j:=⟨a,b,c,d,e,f,g,i,j,h⟩
def in10{p:A→B→C→D→E→F→G→I→J→L→Prop}(a:A)(b:B)(c:C)(d:D)(e:E)(f:F)(g:G)(i:I)(j:J)(l:L)(h:p a b c d e f g i j l):∃a b c d e f g i j l,p a b c d e f g i j l:=⟨a,b,c,d,e,f,g,i,j,l,h⟩
def in12{p:A→B→C→D→E→F→G→I→J→L→M→N→Prop}(a:A)(b:B)(c:C)(d:D)(e:E)(f:F)(g:G)(i:I)(j:J)(l:L)(m:M)(n:N)(h:p a b c d e f g i j l m n):∃a b c d e f g i j l m n,p a b c d e f g i j l m n:=⟨a,b,c,d,e,f,g,i,j,l,m,n,h⟩
end Xobt
local macro_rules
|`(tactic|obtain⟨$ps,*⟩:=$e:term)=>do
 let ps:=ps.getElems
 let n:=ps.size
 if n<2 then Lean.Macro.throwUnsupported
 let I (s:String):Lean.MacroM (Lean.TSyntax `ident):=return Lean.mkIdent (Lean.Name.mkSimple s)
 let mut vs:Array (Lean.TSyntax `ident):=#[]
 let mut sb:Array (Lean.TSyntax `tactic):=#[]
 for p in ps do
  let y ← I s!"ξ{vs.size}"
  match p with
  |`(Lean.Parser.Tactic.rcasesPatLo|$x:ident)=>
   if x.getId==`rfl then
    vs:=vs.push y
    sb:=sb.push (← `(tactic|subst $y))
   else vs:=vs.push x
  |`(Lean.Parser.Tactic.rcasesPatLo|_)=>vs:=vs.push y
  |_=>Lean.Macro.throwUnsupported
 let z ← I "ξ"
 let w ← I "ζ"
 let N (s:String):=Lean.mkIdent (`Xobt++Lean.Name.mkSimple s)
 let mk (e:Lean.TSyntax `term)(c:Array (Lean.TSyntax `tactic)):Lean.MacroM (Lean.TSyntax `tactic):=do
  let mut al:=#[]
  for i in [0:n] do
   let k:=n-1-i
   let m:=n-k
   if k>16||m>18 then continue
   let a:=vs.extract 0 k
   let b:=vs.extract k n
   let E:=N s!"ex{k}"
   let A:=N s!"an{m}"
   al:=al.push (← if k==0 then `(tacticSeq|(refine $A $e λ$b*=>?_;$[$c]*)) else if m==1 then `(tacticSeq|(refine $E $e λ$vs*=>?_;$[$c]*)) else `(tacticSeq|(refine $E $e λ$a* $z=>$A $z λ$b*=>?_;clear $z;$[$c]*)))
  al:=al.push (← `(tacticSeq|fail))
  `(tactic|first $[| $al]*)
 let t ← mk e sb
 if e.raw.isIdent then
  let i:Lean.TSyntax `ident:=⟨e.raw⟩
  let s ← mk w (#[← `(tactic|clear $w)]++sb)
  `(tactic|first|(revert $i;intro $w:ident;$s:tactic)|$t:tactic)
 else return t
|`(tactic|exact⟨$ps,*⟩)=>do
 let ps:=ps.getElems
 let n:=ps.size
 if n<3 then Lean.Macro.throwUnsupported
 let mut al:=#[]
 for i in [1:n-1] do
  let k:=n-i
  if k>12 then continue
  let a:=ps.extract 0 k
  let b:=ps.extract k n
  let E:=Lean.mkIdent (`Xobt++Lean.Name.mkSimple s!"in{k}")
  let r ← if b.size==1 then pure b[0]! else `(⟨$b,*⟩)
  al:=al.push (← `(tacticSeq|exact $E $a* $r))
 `(tactic|first $[| $al]*)
|`(tactic|refine⟨$ps,*⟩)=>do
 let ps:=ps.getElems
 let n:=ps.size
 if n<3 then Lean.Macro.throwUnsupported
 let mut al:=#[]
 for i in [1:n-1] do
  let k:=n-i
  if k>12 then continue
  let a:=ps.extract 0 k
  let b:=ps.extract k n
  let E:=Lean.mkIdent (`Xobt++Lean.Name.mkSimple s!"in{k}")
  let r ← if b.size==1 then pure b[0]! else `(⟨$b,*⟩)
  al:=al.push (← `(tacticSeq|refine $E $a* $r))
 `(tactic|first $[| $al]*)
local macro "&"t:term:tactic=>`(tactic|exact $t)
local macro "~"t:term:tactic=>`(tactic|refine $t)
local macro "#"p:Lean.Parser.Tactic.rcasesPatMed":="t:term:tactic=>`(tactic|obtain $p:rcasesPatMed:=$t)
local macro(priority:=high)"&""{"p:term,*"}":tactic=>`(tactic|exact⟨$p,*⟩)
local macro(priority:=high)"~""{"p:term,*"}":tactic=>`(tactic|refine⟨$p,*⟩)
local macro "#""{"p:Lean.Parser.Tactic.rcasesPatLo,*"}"":="t:term:tactic=>`(tactic|obtain⟨$p,*⟩:=$t)
local macro "!"d:letDecl:tactic=>`(tactic|have $d:letDecl)
open List renaming length_map → Za, getElem?_eq_some_iff → Zb, mem_of_getElem? → Zd, length_append → Ze, mem_cons_of_mem → Zg, range → Zi, mem_cons_self → Zj, size_toArray → Zk, length → Zl, length_singleton → Zm, mem_cons → Zn, length_cons → Zo, getElem?_append_right → Zp, getElem?_map → Zq, getD_eq_getElem?_getD → Zr, getElem?_append_left → Zt, getElem?_eq_none → Zw, getElem?_set_ne → Zx, map_cons → Zy, mem_map → Zz, getElem?_concat_length → ZA, mem_append_right → ZB, length_range → ZC, map_append → ZF, mem_singleton → ZG, mem_filter → ZM, replicate → ZP, mem_range → ZQ, mem_append → ZR, getElem_mem → ZS, map_map → ZT, getElem?_set_self → ZV, mem_append_left → ZW, filter_cons → ZZ, map_nil → Z0, length_eq_zero_iff → Z1, getElem?_eq_none_iff → Z3, length_nil → Z4, take_succ_eq_append_getElem → Z6, pairwise_cons → Z7, append_nil → Z8, nodup_cons → Z9, length_set → Yb, all_eq_true → Yc, take_of_length_le → Yd, nodup_append → Ye, zip_cons_cons → Yg, length_take → Yi, mem_flatMap → Yj, append_assoc → Yk, reverse_cons → Yl, map_congr_left → Ym, getElem?_range → Yn, length_reverse → Yo, prefix_refl → Yp, drop → Yr, filterMap_cons → Ys, all_cons → Yt, any_cons → Yu, lookup_cons → Yv, take_length → Yx, mem_filterMap → Yy, prefix_append → YA, length_filter_le → YB, getElem?_set → YC, getElem?_of_mem → YF, getElem?_replicate → YH, length_drop → YI, eraseIdx_cons_succ → YJ, take_zero → YK, getElem?_cons_succ → YL, toArray → YO, find?_cons → YQ, ext_getElem? → YS, pairwise_map → YU, filter_congr → YV, mem_of_mem_take → YW, getLast?_append → YX, perm_ext_iff_of_nodup → YY, getElem_inj → Y1, drop_length → Y4, nodup_range → Y5, drop_eq_getElem_cons → Y6, filter_sublist → Y7, idxOf_lt_length_iff → Xa, filter_map → Xc, getLast?_cons → Xd, filter_append → Xe, nodup_nil → Xf, all_map → Xg, map_inj_left → Xi, filter_eq_nil_iff → Xj, flatMap_cons → Xk, drop_eq_nil_of_le → Xl, eraseIdxIfInBounds_toArray → Xm, countP_cons → Xo, mem_of_getLast? → Xq, perm_cons_erase → Xr, take_append_of_le_length → Xs, of_mem_zip → Xv, range_succ → Xw, length_zip → Xx, length_pos_iff → Xz, filter_eq_self → XB, take_length_add_append → XC, forIn_nil → XF, getElem?_take_of_lt → XJ, map_take → XM, any_eq_true → XN, not_mem_nil → XQ, cons_append → XR, sublist_cons_self → XX, nil_append → XZ, any_append → X1, length_replicate → X2, eq_nil_or_concat → X4, concat_eq_append → X5, mem_iff_getElem → X7, mem_erase_of_ne → Wb, toList_toArray → Wd, flatMap_append → We, filterMap_map → Wi, getElem_idxOf → Wl, getElem_range → Wn, filter_filter → Wo, take_sublist → Wq, any_map → Wr, map_snd_zip → WB, getElem_map → WD, forIn_cons → WE, take_succ → WK, take_left → WL, cons → WQ, sum → WW
open PySem.Heap renaming get?_push_of_some → Zc, get?_push_size → Zs, lt_size → Zv, get?_update_other → ZO, get?_update_self → Z5, size_update → Yw, size_push → Yz, get?_push_ne → Xh, get?_update_ne → Xy
open Nat renaming le_refl → Zf, lt_of_lt_of_le → ZD, ne_of_lt → ZH, lt_irrefl → ZI, le_trans → ZJ, sub_self → ZY, zero_le → Z2, lt_of_le_of_lt → Yh, lt_succ_of_lt → YD, zero_add → YE, pow_le_pow_right → YG, le_succ → YM, mul_le_mul_right → YZ, le_of_lt → Y0, lt_succ_self → Y2, le_add_right → Y3, add_assoc → Y8, le_of_succ_le → XG, succ_mul → XU, min_self → XV, not_lt_zero → XY, ne_of_gt → Wp, le_of_eq → Wt, succ_le_succ → Ww, le_max_right → Wx, min_eq_right → WC, le_max_left → WF, min_eq_left → WH, mul_le_mul → WM, lt_trans → WT, zero_mul → WU, log2_lt → WV, pow_pos → WX
open Bool renaming false_ne_true → Zh, false_eq_true → ZN, true_and → YR, or_false → Y9, or_eq_true → Xb, beq_eq_decide_eq → Xn, not_true → Xp, eq_iff_iff → Xu, false_and → XD, and_false → X8, and_eq_true_iff → Wa, false_bne → Wc, false_or → Wg, and_self → Wh, and_true → WN, or_assoc → WO
open Array renaming length_toList → Zu, forIn_toList → YN, toList_push → XH, getElem?_toList → X3, mem_toList_iff → X6, toArray_toList → X9, toList_append → Wf, append_empty → Wk, getElem_mem → Ws, toList_inj → Wy, toList_map → Wz, toList_zip → WA, size_push → WG
open Option renaming map_eq_some_iff → ZE, map_some → ZL, getD_some → ZX, isSome_iff_exists → Yq, isSome_map → YT, isSome_some → Wj, getD_none → Wv
open Int renaming toNat_natCast → ZK, le_refl → ZU, zero_add → XW, emod_lt_of_pos → Wm, le_trans → Wu, emod_nonneg → WJ, ediv_one → WR
open PyProof.Rows renaming boot_list → WY, boot_max → WZ, boot_min → W0, boot_range → W1, boot_sorted → W2, boot_tuple → W3, callWith_type1 → W4, slot_tuple_getitem → W5
open PySem renaming Arguments → W6, Comprehension → W9, FuncData → VI, HeapKind → VJ, IsRangeIter → VL, NameKind → VM, Operator → VN, Spec → VV, TriplesOk → VW, assignEach → Os, assignInOrder → OF, attributeBase → ON, backToKw → OR, behindInMarks → OS, binaryOp → No, bindArgs → NE, bindName → NO, bootBuiltins → Zaa, boot_len → Zab, builtinsNs → Zac, callSpecialIfBoundUnlessNone? → Zad, call_meets → Zae, cellsFrom → Zaf, closureFor → Zag, codeAmong → Zah, codeAny_builtin → Zai, codeAny_mono → Zaj, compareOp → Zak, concat_meets → Zal, defaultsOf → Zam, eqIsQuiet → Zan, eqIsQuiet_byValue → Zao, evalPart_none → Zap, foldedSetIterable → Zaq, intItems → Zar, intItems_at → Zas, isSubtype_tuple_tuple → Zat, keywordEach → Zau, letOwnedTupleGo → Zav, mainGlobals → Zaw, mem_of_lookup → Zax, newFunctionEnv → Zay, noFill_tuple_add → Zaz, not_mem_of_deeper → ZaA, numAt_eq → ZaB, nums_intItems → ZaC, old_kept → ZaD, plainId_quiet → ZaE, pushCells → ZaF, pushCells_keeps → ZaG, rangeSize_one → ZaH, richCompare → ZaI, richCompare_meets_room → ZaJ, seqIndex_neg → ZaK, seqIndex_of → ZaL, seqItems? → ZaM, seq_tuple_add → ZaN, sizeLine_eq → ZaO, sliceBounds → ZaP, starEach → ZaQ, strLen_append → ZaR, swappedStores → ZaS, swapsWith → ZaT, swapsWithSole → ZaU, sysModules → ZaV, textFrom → ZaW, updateSeq → ZaX, wpAny_Call_Name_kw → ZaY, wpAny_attempt → ZaZ, wpAny_bind → Za0, wpAny_call_entry → Za1, wpAny_comprehension_free → Za2, wpAny_dictEntries → Za3, wpAny_dictEpoch → Za4, wpAny_execs_nil → Za5, wpAny_field → Za6, wpAny_forIn_list → Za7, wpAny_getItem_list_slice → Za8, wpAny_holding → Za9, wpAny_isInstance → Zba, wpAny_isOneOf_keyiter → Zbb, wpAny_letGo → Zbc, wpAny_loadPart' → Zbd, wpAny_mono → Zbe, wpAny_newFunctionEnv_cells → Zbf, wpAny_newList → Zbg, wpAny_newObj_type → Zbh, wpAny_notOrdered_dict → Zbi, wpAny_of_eq → Zbj, wpAny_passesOwn → Zbk, wpAny_pure → Zbl, wpAny_pyIter_list → Zbm, wpAny_pyIter_rangeiter → Zbn, wpAny_pyIter_tuple → Zbo, wpAny_pyNext_list_end → Zbp, wpAny_pyNext_list_item → Zbq, wpAny_pyNext_range_end → Zbr, wpAny_rule → Zbs, wpAny_seqItems → Zbt, wpAny_sequenceKey → Zbu, wpAny_specialOf → Zbv, wpAny_standAt → Zbw, wpAny_truthy_bool → Zbx, wpAny_tryCatch → Zby, wpAny_typeNameOfWhole_keyiter → Zbz, wpAny_typeOf → ZbA, wpAny_updateSeq → ZbB
open PySem.Calls renaming Name_function_global → W7, callWith_builtin → W8
open PySem.F renaming args_dict_keyiterator_next_1 → Vh, args_object_init_2 → Vi, args_tuple_add_2 → Vj, args_tuple_iterator_next_1 → Vk, args_tuple_lt_2 → Vl, entry_dict_keyiterator_next → Vm, entry_max_loop → Vn, entry_min_loop → Vo, entry_tuple_add → Vp, entry_tuple_iterator_next → Vq, entry_tuple_lt → Vr, plainAttrs_list → Vs, plainAttrs_tuple → Vt, plain_max_loop → Vu, plain_min_loop → Vv, slot_NoneType_hash → Vw, slot_dict_keyiterator_next → Vx, slot_list_append → Vy, slot_list_insert → Vz, slot_list_pop → VA, slot_tuple_add → VB, slot_tuple_count → VC, slot_tuple_index → VE, slot_tuple_iterator_next → VF, slot_tuple_lt → VG, type_list_pop → VH
open PySem.PyData renaming depth → VO, depthAll → VP, depthKv → VQ, shown → VR, shownAll → VS
open PySem.SeqAt renaming EqAt → VT, RcNeAt → VU
open PySem.W renaming CodeHd → VX, Frag → VY, cellsFrom_some → VZ, codeIn → V0, findIn → V1, fnOf → V2, instObj → V3, kas_item → V4, kas_sort → V5, kat_kind → V6, kat_run → V7, kat_snds → V8, keepIn → V9, kia_one → Up, kitOne → UP, kitx_dict → Tm, kitx_list → ST, lookIn → Rw, methodObj → RW, plainGet → Pi, rangeSize_down → Of, tabObj → On
def gEG {b:Type _} {l:List b} {i:Nat} (h:i < l.length):l[i]?=aw l[i]:=List.getElem?_eq_getElem h
def bAE (a b:Bool):((a && b)=aN)=(a=aN/\b=aN):=Bool.and_eq_true a b
namespace L2
open PySem PySem.Spec PyProof.Rows
@[inline]abbrev Key:=Sum Int Str
abbrev ip:Key->Value->Bool
 |.inl k,v=>Value.isInt k v
 |.inr x,v=>Value.isStrOf x v
abbrev Q2(w:World):Key->Int
 |.inl k=>hashInt k
 |.inr x=>hashStr w x
def ax:∀ {k:Key} {v:Value},ip k v=aN->(∃i t,k=Sum.inl i/\v=Value.int i t)\/(∃x t,k=Sum.inr x/\v=Value.str x t)
 |.inl i,v,h=>by
  #{t,e}:=Value.isInt_shape (k:=i) (v:=v) h;&.inl ⟨i,t,rfl,e⟩
 |.inr x,v,h=>by
  #{t,e}:=Value.isStrOf_shape (x:=x) (v:=v) h;&.inr ⟨x,t,rfl,e⟩
def zA(i:Int)(t:Tok):ip (.inl i) (.int i t)=aN:=by simp[ip,Value.isInt]
def zB(x:Str)(t:Tok):ip (.inr x) (.str x t)=aN:=by simp[ip,Value.isStrOf]
def Lx(a b:Int):decide ((Sum.inl a:Key)=Sum.inl b)=(a == b):=by
 by_cases e:a=b
 ·subst e;simp
 ·!h:¬ (Sum.inl a:Key)=Sum.inl b:=λq=>e (Sum.inl.inj q);rw[decide_eq_false h];&(beq_eq_false_iff_ne.mpr e).symm
def Ly(a b:Str):decide ((Sum.inr a:Key)=Sum.inr b)=decide (a=b):=by
 by_cases e:a=b
 ·subst e;simp
 ·!h:¬ (Sum.inr a:Key)=Sum.inr b:=λq=>e (Sum.inr.inj q);rw[decide_eq_false h,decide_eq_false e]
def Bi(a:Int)(b:Str):decide ((Sum.inl a:Key)=Sum.inr b)=aS:=decide_eq_false (λq=>nomatch q)
def Bj(a:Str)(b:Int):decide ((Sum.inr a:Key)=Sum.inl b)=aS:=decide_eq_false (λq=>nomatch q)
abbrev bf(prog:Program)(w:World):PySem.KeyKind prog w Key where
 is:=ip
 hash:=Q2 w
 inj:=λv a b d hb=>by
  rcases ax d with ⟨i,t,rfl,rfl⟩ |⟨x,t,rfl,rfl⟩
  ·rcases ax hb with ⟨j,u,rfl,e⟩ |⟨y,u,rfl,e⟩
   ·injection e with e1 _;rw[e1]
   ·&nomatch e
  ·rcases ax hb with ⟨j,u,rfl,e⟩ |⟨y,u,rfl,e⟩
   ·&nomatch e
   ·injection e with e1 _;rw[e1]
 byValue:=λk v h=>by
  rcases ax h with ⟨i,t,rfl,rfl⟩ |⟨x,t,rfl,rfl⟩ <;> rfl
 pyHash:=λc h=>by
  rcases ax c with ⟨i,t,rfl,rfl⟩ |⟨x,t,rfl,rfl⟩
  ·&wpAny_pyHash_int h
  ·&wpAny_pyHash_str h
 eqBool:=λf c h=>by
  rcases ax f with ⟨i,t,rfl,rfl⟩ |⟨x,t,rfl,rfl⟩
  ·rcases ax c with ⟨j,u,rfl,rfl⟩ |⟨y,u,rfl,rfl⟩
   ·rw[Lx] at h;&wpAny_eqBool_int h
   ·rw[Bi] at h;&SeqAt.EqAt.int_str i t y u _ _ _ _ h
  ·rcases ax c with ⟨j,u,rfl,rfl⟩ |⟨y,u,rfl,rfl⟩
   ·rw[Bj] at h;&SeqAt.EqAt.str_int x t j u _ _ _ _ h
   ·rw[Ly] at h;&wpAny_eqBool_str h
 «strs»:=λk x t v h=>by
  rcases ax h with ⟨i,u,rfl,e⟩ |⟨y,u,rfl,e⟩
  ·&nomatch e
  ·injection e with e1 _;subst e1;cases v <;> rfl
def tv(prog:Program)(w:World)(i:Int)(t:Tok):(bf prog w).is (.inl i) (.int i t)=aN:=zA i t
def tw(prog:Program)(w:World)(x:Str)(t:Tok):(bf prog w).is (.inr x) (.str x t)=aN:=zB x t
inductive NK where
 |non |one (k:Key) |tup (ks:List Key)
 deriving DecidableEq
def FC{c d:Type}{F G:c->d->Prop}(f:∀a b,F a b->G a b):∀ {l:List c} {m:List d},Paired F l m->Paired G l m
 |_,_,.nil=>.nil
 |_,_,.cons h t=>.cons (f _ _ h) (FC f t)
section
variable {P:Program} {w:World}
abbrev NIs(P:Program)(w:World)(h:Heap):NK->Value->Prop
 |.non,v=>v = .none
 |.one k,v=>ip k v=aN
 |.tup ks,v=>∃b,v = .ref b/\IsTupleKey (bf P w) h ks b
abbrev eD(P:Program)(w:World)(h:Heap)(ks:List NK)(a:Addr):Prop:=∃o I n,h.get? a=aw o/\o.cls = .type "tuple"/\o.data = .seq I n/\Paired (NIs P w h) ks I.toList
def NIs.inj{h:Heap}{x y:NK}{v:Value}(d:NIs P w h x v)(c:NIs P w h y v):x=y:=by
 cases x with
 |non=>
  cases d;cases y with
  |non=>rfl
  |one k=>rcases ax c with ⟨i,t,_,e⟩ |⟨i,t,_,e⟩ <;> cases e
  |tup ks=>#{b,e,_}:=c;cases e
 |one k=>
  rcases ax d with ⟨i,t,rfl,rfl⟩ |⟨i,t,rfl,rfl⟩
  ·cases y with
   |non=>cases c
   |one j=>rw[(bf P w).inj (Value.int i t) (Sum.inl i) j (by &d) (by &c)]
   |tup ks=>#{b,e,_}:=c;cases e
  ·cases y with
   |non=>cases c
   |one j=>rw[(bf P w).inj (Value.str i t) (Sum.inr i) j (by &d) (by &c)]
   |tup ks=>#{b,e,_}:=c;cases e
 |tup ks=>
  #{b,rfl,hb}:=d;cases y with
  |non=>cases c
  |one k=>rcases ax c with ⟨i,t,_,e⟩ |⟨i,t,_,e⟩ <;> cases e
  |tup l=>#{B,e,f}:=c;cases e;rw[hb.inj f]
def pW{h:Heap}:∀ {x y:List NK} {v:List Value},Paired (NIs P w h) x v->Paired (NIs P w h) y v->x=y
 |[],y,_,.nil,hy=>by cases hy;rfl
 |a::x,y,_,.cons h1 t1,hy=>by
  cases hy with
  |cons b T=>rw[h1.inj b,pW t1 T]
def eD.inj{h:Heap}{a:Addr}{x y:List NK}(j:eD P w h x a)(l:eD P w h y a):x=y:=by
 #{o,d,n,k,_,hd,hi}:=j;#{o',I,p,f,_,b,c}:=l;obtain rfl:o=o':=Option.some.inj (k.symm.trans f);rw[hd] at b;injection b with h1 _;subst h1;&pW hi c
def NIs.keeps{h h':Heap}{k:NK}{v:Value}{d:Addr}{o:Obj}{E c}(x:NIs P w h k v)(f:h.get? d=aw o)(hd:o.data = .dict E c)(hs:Heap.SameBut d h h'):NIs P w h' k v:=by
 cases k with
 |non=>&x
 |one k=>&x
 |tup ks=>#{b,e,hb}:=x;&{b,e,hb.keeps f hd hs}
def eD.keeps{h h':Heap}{ks:List NK}{a d:Addr}{o:Obj}{E k}(x:eD P w h ks a)(j:h.get? d=aw o)(hd:o.data = .dict E k)(hs:Heap.SameBut d h h'):eD P w h' ks a:=by
 #{O,I,n,c,l,b,hi}:=x
 !f:a ≠ d:=by
  rintro rfl;obtain rfl:O=o:=Option.some.inj (c.symm.trans j);rw[hd] at b;&nomatch b
 &{O,I,n,(hs.2 a f).trans c,l,b,FC (λ_ _ z=>z.keeps j hd hs) hi}
def eD.typeIs{s:Shared}{ks:List NK}{a:Addr}(x:eD P w s.heap ks a):s.TypeIs (.ref a) "tuple" := let ⟨o,_,_,ho,hc,_⟩:=x;⟨o,ho,hc⟩
abbrev nkH(P:Program)(w:World):NK->Int
 |.non=>0xFCA86420
 |.one k=>Q2 w k
 |.tup ks=>tupleKeyHash (bf P w) ks
abbrev nkN:NK->Nat
 |.tup ks=>ks.length+1
 |_=>1
def zC{A:Around}{E:Value->Shared->Prop}{s:Shared}{Q:Int->Shared->Prop}(h:Q 0xFCA86420 { s with toks:=s.toks+1 }):wpAny (model P w) A (pyHash .none) Q E s:=by
 !b:s.TypeIs .none "NoneType" := typeIs_none s;unfold pyHash;!c:[Value.none].any Value.onHeap=aS:=rfl;~Za0 ?_;rw[cRoomFor,if_neg (by rw[c];&Zh)];~Zbl ?_;~Za0 (Zbv b F.slot_NoneType_hash.lookup ?_);show wpAny _ _ (if (aw (Value.builtin "NoneType.__hash__") == aw Value.none)=aN then _ else _) Q E s;rw[if_neg (by rw[beq_builtin_none];&Zh)];~Za0 (Zbv b F.slot_NoneType_hash.lookup ?_);show wpAny _ _ (Zad .none "__hash__" _ >>= _) Q E s;~Za0 (wpAny_callSpecialIfBoundUnlessNone?_slot b Vw (Za1 Vw b F.entry_NoneType_hash ?_ (F.args_NoneType_hash_1 _)));show wpAny _ _ (slotArgs "__hash__" 0 _ >>= λ_=>retInt 0xFCA86420) _ _ s;~Za0 (m:=slotArgs "__hash__" 0 _) (Zbl ?_);~wpAny_ret_mkInt ?_;show wpAny _ _ (pure (0xFCA86420:Int)) Q E _;&Zbl h
def Bk{A:Around}{E:Value->Shared->Prop}{s:Shared}{k:NK}{v:Value}{Q:Int->Shared->Prop}(d:A.units < cLine)(c:NIs P w s.heap k v)(h:Q (nkH P w k) { s with toks:=s.toks+nkN k }):wpAny (model P w) A (pyHash v) Q E s:=by
 cases k with
 |non=>cases c;&zC h
 |one k=>&(bf P w).pyHash c h
 |tup ks=>#{b,rfl,hb}:=c;&wpAny_pyHash_tuple d hb h
abbrev Bl(P:Program)(w:World)(ks:List NK):Int:=reduceHash (Builtin.Tuple.tupleHashOf (ks.map (nkH P w)))
abbrev tz(ks:List NK):Nat:=(ks.map nkN).sum
def zD{A:Around}{E:Value->Shared->Prop}{s:Shared}{ks:List NK}{a:Addr}{Q:Int->Shared->Prop}(p:A.units+1 < cLine)(l:eD P w s.heap ks a)(h:Q (Bl P w ks) { s with toks:=s.toks+(tz ks+1) }):wpAny (model P w) A (pyHash (.ref a)) Q E s:=by
 !d:=l.typeIs;#{o,I,n,q,_,hd,hi}:=l;unfold pyHash
 first |unfold pyHashByItsType |skip
 first |~Za0 (wpAny_cRoomFor_or (.inr (by omega)) ?_) |skip
 ~Za0 (Zbv d F.slot_tuple_hash.lookup ?_);show wpAny _ _ (if (aw (Value.builtin "tuple.__hash__") == aw Value.none)=aN then _ else _) Q E s;rw[if_neg (by rw[beq_builtin_none];&Zh)];~Za0 (Zbv d F.slot_tuple_hash.lookup ?_);show wpAny _ _ (Zad (.ref a) "__hash__" _ >>= _) Q E s;~Za0 (wpAny_callSpecialIfBoundUnlessNone?_slot d F.slot_tuple_hash (Za1 F.slot_tuple_hash d F.entry_tuple_hash ?_ (F.args_tuple_hash_1 _)));show wpAny _ _ (Builtin.Tuple.tupleItemsOf (.ref a) >>= _) _ _ s;~Za0 (wpAny_tupleItemsOf q hd ?_);~Za0 ?_;rw[<-YN]
 ~Za7 _
  (λc (b:Array Int) j=>∃done left,ks=done++left/\Paired (NIs P w s.heap) left c/\b.toList=done.map (nkH P w)/\j={ s with toks:=s.toks+tz done })
  _ ?_ ?_ _ _ ⟨[],ks,rfl,hi,rfl,rfl⟩
 ·rintro x c b j ⟨done,left,rfl,hl,hb,rfl⟩;cases hl with
  |@cons k _ ks' _ h1 hl'=>
   ~Za0 (Bk p h1 ?_)
   first
    |&Zbl ⟨done++[k],ks',by simp,hl',by simp[hb],by simp[tz,Y8]⟩
    |&Za0 (Zbl (Zbl ⟨done++[k],ks',by simp,hl',by simp[hb],by simp[tz,Y8]⟩))
 ·rintro b j ⟨done,left,rfl,hl,hb,rfl⟩;cases hl;rw[Z8] at h;show wpAny _ _ (retInt (Builtin.Tuple.tupleHashOf b.toList)) _ _ _;rw[hb];~wpAny_ret_mkInt ?_;show wpAny _ _ (if (decide (-(2:Int) ^ 63<=Builtin.Tuple.tupleHashOf (done.map (nkH P w))) && decide (Builtin.Tuple.tupleHashOf (done.map (nkH P w)) < 2 ^ 63))=aN then _ else _) Q E _;unfold Bl reduceHash at h;by_cases f:(decide (-(2:Int) ^ 63<=Builtin.Tuple.tupleHashOf (done.map (nkH P w))) && decide (Builtin.Tuple.tupleHashOf (done.map (nkH P w)) < 2 ^ 63))=aN
  ·rw[if_pos f];rw[if_pos f] at h;&Zbl (by simpa[Y8] using h)
  ·rw[if_neg f];rw[if_neg f] at h;&Za0 (Zbs (Zbl (by simpa[Y8] using h)))
def vW{b:Type}[DecidableEq b](x y:List b):((Zi (min x.length y.length)).all (λj=>decide (x[j]?=y[j]?)) && x.length == y.length)=decide (x=y):=by
 rw[Xu,bAE,Yc,decide_eq_true_eq,beq_iff_eq];constructor
 ·rintro⟨h,d⟩;~YS λj=>?_;by_cases c:j < x.length
  ·&of_decide_eq_true (h j (ZQ.mpr (by omega)))
  ·rw[Zw (by omega),Zw (by omega)]
 ·rintro rfl;&{λj _=>decide_eq_true rfl,rfl}
def tB{A:Around}{s:Shared}{x y:Key}{u v:Value}(c:ip x u=aN)(h:ip y v=aN):VT A s u v (decide (x=y)):=by
 rcases ax c with ⟨i,t,rfl,rfl⟩ |⟨a,t,rfl,rfl⟩
 ·rcases ax h with ⟨j,r,rfl,rfl⟩ |⟨b,r,rfl,rfl⟩
  ·rw[show decide ((Sum.inl i:Key)=Sum.inl j)=(i == j) by simp[Xn]];&.int_int i t j r
  ·rw[Bi];&.int_str i t b r
 ·rcases ax h with ⟨j,r,rfl,rfl⟩ |⟨b,r,rfl,rfl⟩
  ·rw[Bj];&.str_int a t j r
  ·rw[show decide ((Sum.inr a:Key)=Sum.inr b)=(a == b) by simp[Xn]];&.str_str a t b r
def mG{h:Heap}:∀ {ks:List Key} {b:List Value},ItemsAre (bf P w) ks b->∀ (j:Nat) v,b[j]?=aw v->∃k,ks[j]?=aw k/\ip k v=aN
 |_,_,.nil,j,v,e=>by simp at e
 |_,_,.cons h1 t,0,v,e=>by cases e;&{_,rfl,h1}
 |_,_,.cons h1 t,j+1,v,e=>mG (h:=h) t j v (by simpa using e)
def Bm{A:Around}{s:Shared}{x y:NK}{u v:Value}(q:A.units < cLine)(C:NIs P w s.heap x u)(f:NIs P w s.heap y v):VT A s u v (decide (x=y)):=by
 !tup:∀ {ks:List Key} {b:Addr},IsTupleKey (bf P w) s.heap ks b->∃I:Array Value,s.heap.IsTuple b I/\ItemsAre (bf P w) ks I.toList:=λ⟨o,I,n,U,E,hd,hi⟩=>⟨I,⟨o,U,E,n,hd⟩,hi⟩;cases x with
 |non=>
  cases C;cases y with
  |non=>cases f;&.same _
  |one k=>
   rw[decide_eq_false (λz=>nomatch z)];rcases ax f with ⟨i,t,rfl,rfl⟩ |⟨i,t,rfl,rfl⟩
   ·&.none_int i t
   ·&.none_str i t
  |tup ks=>
   #{b,rfl,hb}:=f;#{I,l,_}:=tup hb;rw[decide_eq_false (λz=>nomatch z)];&.none_tuple l q
 |one k=>
  cases y with
  |non=>
   cases f;rw[decide_eq_false (λz=>nomatch z)];rcases ax C with ⟨i,t,rfl,rfl⟩ |⟨i,t,rfl,rfl⟩
   ·&.int_none i t
   ·&.str_none i t
  |one B=>
   rw[show decide (NK.one k=NK.one B)=decide (k=B) by simp];&tB C f
  |tup ks=>
   #{b,rfl,hb}:=f;#{I,l,_}:=tup hb;rw[decide_eq_false (λz=>nomatch z)];rcases ax C with ⟨i,t,rfl,rfl⟩ |⟨i,t,rfl,rfl⟩
   ·&.int_tuple i t l q
   ·&.str_tuple i t l q
 |tup ks=>
  #{b,rfl,hb}:=C;#{I,l,L}:=tup hb;cases y with
  |non=>cases f;rw[decide_eq_false (λz=>nomatch z)];&.tuple_none l q
  |one k=>
   rw[decide_eq_false (λz=>nomatch z)];rcases ax f with ⟨i,t,rfl,rfl⟩ |⟨i,t,rfl,rfl⟩
   ·&.tuple_int i t l q
   ·&.tuple_str i t l q
  |tup d=>
   #{c,rfl,E}:=f;#{p,X,J}:=tup E;by_cases e:b=c
   ·subst e;rw[hb.inj E,decide_eq_true rfl];&.same _
   ·~.of_refs e ?_
    !z:=SeqAt.RcAt.tuples (e:=λj=>decide (ks[j]?=d[j]?)) l X q λj j1 Z=>by
     #{k,Y,m1}:=mG (h:=s.heap) L j I[j] (by simp[j1]);#{B,Q,T}:=mG (h:=s.heap) J j p[j] (by simp[Z]);rw[Y,Q,show decide (aw k=aw B)=decide (k=B) by simp];&tB m1 T
    !l1:ks.length=I.size:=L.length.trans Zu;!O:d.length=p.size:=J.length.trans Zu;rw[<-l1,<-O,vW] at z;rw[show decide (NK.tup ks=NK.tup d)=decide (ks=d) by simp];&z
def mH{h:Heap}:∀ {ks:List NK} {b:List Value},Paired (NIs P w h) ks b->∀ (j:Nat) v,b[j]?=aw v->∃k,ks[j]?=aw k/\NIs P w h k v
 |_,_,.nil,j,v,e=>by simp at e
 |_,_,.cons h1 t,0,v,e=>by cases e;&{_,rfl,h1}
 |_,_,.cons h1 t,j+1,v,e=>mH t j v (by simpa using e)
def FD{A:Around}{E:Value->Shared->Prop}{s:Shared}{x y:List NK}{a b:Addr}{Q:Bool->Shared->Prop}(hu:A.units+1 < cLine)(B:eD P w s.heap x a)(v:eD P w s.heap y b)(h:Q (decide (x=y)) s):wpAny (model P w) A (eqBool (.ref a) (.ref b)) Q E s:=by
 by_cases e:a=b
 ·subst e;rw[B.inj v,decide_eq_true rfl] at h;&SeqAt.EqAt.same _ _ _ _ _ h
 ·#{o,c,n,T,U,hd,u}:=B;#{o2,I,J,d,f,l,p}:=v
  !z:=SeqAt.RcAt.tuples (A:=A) (e:=λj=>decide (x[j]?=y[j]?)) (show s.heap.IsTuple a c from ⟨o,T,U,n,hd⟩) (show s.heap.IsTuple b I from ⟨o2,d,f,J,l⟩) (by omega) λj Z Y=>by
   #{k,X,m1}:=mH u j c[j] (by simp[Z]);#{q,C,O}:=mH p j I[j] (by simp[Y]);rw[X,C,show decide (aw k=aw q)=decide (k=q) by simp];&Bm hu m1 O
  !l1:x.length=c.size:=u.length.trans Zu;!L:y.length=I.size:=p.length.trans Zu;rw[<-l1,<-L,vW] at z;&SeqAt.EqAt.of_refs e z _ _ _ _ h
def zE{A:Around}{E:Value->Shared->Prop}{s:Shared}{x:NK}{v:Value}{Q:Bool->Shared->Prop}(f:NIs P w s.heap x v)(h:Q aN s):wpAny (model P w) A (Zan 7 v) Q E s:=by
 cases x with
 |non=>cases f;rw[Zao _ rfl];&Zbl h
 |one k=>rw[Zao _ ((bf P w).byValue k v (by &f))];&Zbl h
 |tup ks=>
  #{b,rfl,y}:=f;!q:=y.typeIs;#{o,I,n,z,_,hd,hi}:=y;unfold Zan;~Za0 (Zbv q F.slot_tuple_eq.lookup ?_);show wpAny _ _ (isInstance (.ref b) (.type "tuple") >>= _) _ _ s;~Za0 (Zba q Zat ?_);simp only[Xp,ZN,if_false];~Za0 (Zbt z hd ?_);~Za0 ?_;show wpAny _ _ (forIn I _ _) _ _ s;rw[<-YN];~Za7 _ (λc r l=>r.1=aD/\l=s/\∀v ∈ c,carriedByValue v=aN) _ ?_ ?_ _ _ ⟨rfl,rfl,hi.byValue⟩
  ·rintro v c r l ⟨j,rfl,d⟩;rw[Zao _ (d v Zj)];~Za0 (Zbl ?_);simp only[Xp,ZN,if_false];&Zbl ⟨rfl,rfl,λu p=>d u (Zg _ p)⟩
  ·rintro⟨r1,r2⟩ l ⟨j,rfl,_⟩;simp only at j;subst j;&Zbl h
def vX{A:Around}{E:Value->Shared->Prop}{s:Shared}{ks:List NK}{a:Addr}{Q:Bool->Shared->Prop}(j:eD P w s.heap ks a)(h:Q aN s):wpAny (model P w) A (Zan 8 (.ref a)) Q E s:=by
 !f:=j.typeIs;#{o,I,n,k,_,hd,hi}:=j;unfold Zan;~Za0 (Zbv f F.slot_tuple_eq.lookup ?_);show wpAny _ _ (isInstance (.ref a) (.type "tuple") >>= _) _ _ s;~Za0 (Zba f Zat ?_);simp only[Xp,ZN,if_false];~Za0 (Zbt k hd ?_);~Za0 ?_;show wpAny _ _ (forIn I _ _) _ _ s;rw[<-YN];~Za7 _ (λb r d=>r.1=aD/\d=s/\∃left,Paired (NIs P w s.heap) left b) _ ?_ ?_ _ _ ⟨rfl,rfl,ks,hi⟩
 ·rintro v b r d ⟨c,rfl,left,hl⟩;cases hl with
  |cons l p=>
   ~Za0 (zE l ?_);simp only[Xp,ZN,if_false];&Zbl ⟨rfl,rfl,_,p⟩
 ·rintro⟨r1,r2⟩ d ⟨c,rfl,_⟩;simp only at c;subst c;&Zbl h
end
abbrev fb(P:Program)(w:World):VJ P w (List NK) where
 is:=eD P w
 hash:=Bl P w
 draws:=λks=>tz ks+1
 room:=λA=>A.units+1 < cLine
 inj:=λb f=>b.inj f
 keeps:=λx j hd hs=>x.keeps j hd hs
 pyHash:=λd c h=>zD d c h
 eqBool:=λd b f h=>FD d b f h
 quiet:=λc h=>vX c h
inductive V where
 |non |bl (b:Bool) |int (i:Int) |str (x:Str) |byt (b:Array UInt8) |flt (b:UInt64) |ref (a:Addr) |ty (n:String)
 deriving DecidableEq
abbrev aE:V->Value->Prop
 |.non,u=>u=Value.none
 |.bl b,u=>u=Value.bool b
 |.int i,u=>∃t,u=Value.int i t
 |.str x,u=>∃t,u=Value.str x t
 |.byt b,u=>∃t,u=Value.bytes b t
 |.flt b,u=>∃t,u=Value.float b t
 |.ref a,u=>u=Value.ref a
 |.ty n,u=>u=Value.type n
@[inline]abbrev aJ:List V->List Value->Prop:=Paired aE
def aJ.length{xs:List V}{u:List Value}(r:aJ xs u):xs.length=u.length:=Paired.length r
def aJ.get:∀ {xs:List V} {U:List Value} {i:Nat} {x:V},aJ xs U->xs[i]?=aw x->∃u,U[i]?=aw u/\aE x u
 |_,_,_,_,.nil,e=>by simp at e
 |_,_,0,_,.cons r _,e=>by simp at e;subst e;&{_,rfl,r}
 |_,_,i+1,x,.cons _ t,e=>by
  #{u,b,h}:=aJ.get (i:=i) (x:=x) t (by simpa using e);&{u,by simpa using b,h}
def aJ.set{x:V}{u:Value}(r:aE x u):∀ {xs:List V} {U:List Value} (i:Nat),aJ xs U->aJ (xs.set i x) (U.set i u)
 |_,_,_,.nil=>.nil
 |_,_,0,.cons _ t=>.cons r t
 |_,_,i+1,.cons q t=>.cons q (aJ.set r i t)
def aJ.append:∀ {xs y:List V} {u b:List Value},aJ xs u->aJ y b->aJ (xs++y) (u++b)
 |_,_,_,_,.nil,s=>s
 |_,_,_,_,.cons r t,s=>.cons r (aJ.append t s)
def aJ.take:∀ {xs:List V} {u:List Value} (n:Nat),aJ xs u->aJ (xs.take n) (u.take n)
 |_,_,0,_=>.nil
 |_,_,_+1,.nil=>.nil
 |_,_,n+1,.cons r t=>.cons r (aJ.take n t)
def aJ.drop:∀ {xs:List V} {u:List Value} (n:Nat),aJ xs u->aJ (xs.drop n) (u.drop n)
 |_,_,0,r=>r
 |_,_,_+1,.nil=>.nil
 |_,_,n+1,.cons _ t=>aJ.drop n t
abbrev vY:Option V->Option Value->Prop
 |some v,aw u=>aE v u
 |none,aD=>True
 |_,_=>False
abbrev KV{b:Type}:List (b × V)->List (b × Value)->Prop:=Paired λ(p:b × V) (q:b × Value)=>p.1=q.1/\aE p.2 q.2
abbrev kV:Key->V
 |.inl i=>.int i
 |.inr x=>.str x
abbrev ra(h:Heap)(a:Addr)(I:Array Value):Prop:=∃o,h.get? a=aw o/\o.cls = .type "tuple"/\∃n,o.data = .seq I n/\o.dict=aD
def ra.isTup(x:ra h a items):IsTup h a items:=let ⟨o,e,c,n,d,_⟩:=x;⟨o,e,c,n,d⟩
def ra.lt(x:ra h a I):a < h.objs.size:=x.isTup.lt
def ra.new(h:Heap)(items:Array Value):ra (h.push { cls:=.type "tuple", data:=.seq items }) h.objs.size items:=⟨_,Zs _ rfl,rfl,_,rfl,rfl⟩
inductive HO where
  |lst (xs:List V)
  |tup (xs:List V)
  |dK (kvs:List (Key × V)) |dT (kvs:List (List NK × V))
  |set (S:Int->Bool) (n:Nat)
  |ins (C dx:Addr) (fs:List (Str × V))
  |own (x:Addr)
  |xd (fs:List (Str × V))
  |met (f x:Addr)
  |rng (lo hi:Int)
  |frz (o:Obj) (u:HO)
  |tbl (ps:Array Value)
  |ext (φ:Heap->Prop)
@[inline]abbrev Hp:=Addr->Option HO
abbrev upd(H:Hp)(a:Addr)(o:HO):Hp:=λb=>if b=a then aw o else H b
def az{H:Hp}{a:Addr}{o:HO}:upd H a o a=aw o:=by unfold upd;rw[if_pos rfl]
def ae{H:Hp}{a b:Addr}{o:HO}(h:b ≠ a):upd H a o b=H b:=by unfold upd;rw[if_neg h]
def pX{H:Hp}{a b:Addr}{o u:HO}(h:H a=aw o)(h':H b=aw u)(d:o ≠ u):a ≠ b:=by
 intro e;subst e;rw[h] at h';&d (Option.some.inj h')
def aP{H:Hp}{a b:Addr}{o:HO}(h:H a=aw o)(h':H b=aD):a ≠ b:=by
 intro e;subst e;rw[h] at h';cases h'
abbrev vZ(H:Hp):NK->V->Prop
 |.non,x=>x = .non
 |.one k,x=>x=kV k
 |.tup ks,x=>∃b,x = .ref b/\H b=aw (.tup (ks.map kV))
abbrev iK(H:Hp)(ks:List NK)(a:Addr):Prop:=∃X,H a=aw (.tup X)/\Paired (vZ H) ks X
def vZ.mono{H c:Hp}(d:∀b xs,H b=aw (.tup xs)->c b=aw (.tup xs)){k:NK}{x:V}(h:vZ H k x):vZ c k x:=by
 cases k with
 |non=>&h
 |one k=>&h
 |tup ks=>#{b,e,q}:=h;&{b,e,d _ _ q}
def iK.mono{H c:Hp}{ks:List NK}{a:Addr}(h:iK H ks a)(d:∀b xs,H b=aw (.tup xs)->c b=aw (.tup xs)):iK c ks a:=
 let ⟨xs,e,r⟩:=h;⟨xs,d _ _ e,FC (λ_ _ z=>z.mono d) r⟩
section
variable (P:Program) (w:World)
abbrev ba(H:Hp)(h:Heap)(a:Addr):HO->Prop
 |.lst X=>X.length<=sizeLine/\∃ (I:List Value) (n:Nat),aJ X I/\h.get? a=aw { cls:=.type "list", data:=.seq I.toArray n }
 |.tup X=>X.length<=sizeLine/\∃I:List Value,aJ X I/\ra h a I.toArray
 |.dK kvs=>kvs.length<=sizeLine/\(a == ZaV)=aS/\∃c,KV kvs c/\h.DictOf (bf P w) a c
 |.dT kvs=>kvs.length<=sizeLine/\(a == ZaV)=aS/\∃X:List (List NK × Addr × Value),
   Paired (λ(p:List NK × V) (q:List NK × Addr × Value)=>p.1=q.1/\iK H p.1 q.2.1/\aE p.2 q.2.2) kvs X ∧
   ∃o E k,h.get? a=aw o/\o.ExactDict/\o.data = .dict E k/\E.toList=X.map (entryOfKey (fb P w))/\(X.map (·.1)).Nodup
 |.set S n=>h.SetOf (intKind P w) a S n
 |.ins C dx fs=>H dx=aw (.own a)/\fs.length<=1000/\dx ≠ a/\h.get? a=aw (V3 C dx) ∧
   ∃b,h.Ns1 dx b/\(∀f,vY (fs.lookup f) (b f))/\PySem.Within b (fs.map (·.1))
 |.own _=>∃o,h.get? a=aw o
 |.xd fs=>∃b,h.Ns1 a b/\∀f,vY (fs.lookup f) (b f)
 |.rng lo hi=>∃t u v,h.get? a=aw { cls:=.type "range", data:=.fields #[.int lo t,.int hi u,.int 1 v] }
 |.frz o u=>h.get? a=aw o/\ba H h a u
 |.tbl ps=>h.get? a=aw { cls:=.none,data:=.fields ps }
 |.met f x=>h.get? a=aw (RW (.ref f) (.ref x))
 |.ext φ=>φ h/\(∃o,h.get? a=aw o)/\∀d j:Heap,φ d->(∀o,d.get? a=aw o->j.get? a=aw o)->φ j
abbrev HOk(H:Hp)(h:Heap):Prop:=∀a o,H a=aw o->ba P w H h a o
end
section
variable {P:Program} {w:World} {H H':Hp} {h h':Heap} {a:Addr} {o:HO}
def ba.lt(x:ba P w H h a o):a < h.objs.size:=by
 cases o with
 |lst X=>#{_,_,_,_,e}:=x;&Zv e
 |tup X=>#{_,_,_,p}:=x;&p.lt
 |dK k=>#{_,_,_,_,o,_,_,e,_}:=x;&Zv e
 |dT k=>#{_,_,_,_,o,_,_,e,_}:=x;&Zv e
 |set S n=>#{o,_,_,_,e,_}:=x;&Zv e
 |ins C d fs=>#{_,_,_,e,_}:=x;&Zv e
 |own y=>#{_,e}:=x;&Zv e
 |xd fs=>#{_,⟨_,_,_,e,_⟩,_}:=x;&Zv e
 |rng lo hi=>#{_,_,_,e}:=x;&Zv e
 |frz ob u=>#{e,_}:=x;&Zv e
 |tbl ps=>&Zv (show h.get? a=aw _ from x)
 |met f y=>&Zv (show h.get? a=aw _ from x)
 |ext b=>#{_,⟨_,e⟩,_}:=x;&Zv e
def Paired.mapP{d c:Type}{F G:d->c->Prop}:∀ {L:List d} {l:List c},Paired F L l->(∀a b,F a b->G a b)->Paired G L l
 |_,_,.nil,_=>.nil
 |_,_,.cons r t,f=>.cons (f _ _ r) (Paired.mapP t f)
def ba.stay(x:ba P w H h a o)(k:∀b u,(b=a\/H b=aw (.own a))->h.get? b=aw u->h'.get? b=aw u)
  (L:∀b,H b=aw (.own a)->H' b=aw (.own a)) (U:∀b xs,H b=aw (.tup xs)->H' b=aw (.tup xs)):ba P w H' h' a o:=by
 induction o with
 |lst xs=>#{z,I,n,r,e}:=x;&{z,I,n,r,k _ _ (.inl rfl) e}
 |tup xs=>#{z,I,r,ob,e,c}:=x;&{z,I,r,ob,k _ _ (.inl rfl) e,c}
 |dK l=>#{z,y,Q,r,ob,j,E,e,c}:=x;&{z,y,Q,r,ob,j,E,k _ _ (.inl rfl) e,c}
 |dT l=>
  #{z,y,xs,r,ob,j,E,e,c}:=x;&{z,y,xs,Paired.mapP r λp q z=>⟨z.1,z.2.1.mono U,z.2.2⟩,ob,j,E,k _ _ (.inl rfl) e,c}
 |set S n=>#{ob,j,E,t,e,c}:=x;&{ob,j,E,t,k _ _ (.inl rfl) e,c}
 |ins C X fs=>
  #{d,z,ne,e,B,⟨O,j,E,J,c⟩,r}:=x;&{L _ d,z,ne,k _ _ (.inl rfl) e,B,⟨O,j,E,k _ _ (.inr d) J,c⟩,r}
 |own y=>#{ob,e}:=x;&{ob,k _ _ (.inl rfl) e}
 |xd fs=>#{B,⟨O,j,E,e,c⟩,r}:=x;&{B,⟨O,j,E,k _ _ (.inl rfl) e,c⟩,r}
 |rng lo hi=>#{t,u,v,e}:=x;&{t,u,v,k _ _ (.inl rfl) e}
 |frz ob u T=>#{e,q}:=x;&{k _ _ (.inl rfl) e,T q}
 |tbl ps=>
  !e:h.get? a=aw { cls:=.none,data:=.fields ps }:=x;show h'.get? a=aw { cls:=.none,data:=.fields ps };&k a _ (.inl rfl) e
 |met f y=>
  !e:h.get? a=aw (RW (.ref f) (.ref y)):=x;show h'.get? a=aw (RW (.ref f) (.ref y));&k a _ (.inl rfl) e
 |ext Y=>#{p,⟨o,e⟩,st}:=x;&{st _ _ p λo q=>k _ _ (.inl rfl) q,⟨o,k _ _ (.inl rfl) e⟩,st}
def HOk.lt(x:HOk P w H h)(e:H a=aw o):a < h.objs.size:=(x a o e).lt
def HOk.fresh(x:HOk P w H h)(e:h.objs.size<=a):H a=aD:=by
 cases q:H a with
 |none=>rfl
 |some u=>&absurd (ZD (x.lt q) e) (ZI _)
def HOk.kept(x:HOk P w H h)(k:∀b u,h.get? b=aw u->h'.get? b=aw u):HOk P w H h':=λa o e=>
 (x a o e).stay (λb u _ q=>k b u q) (λ_ q=>q) λ_ _ q=>q
def HOk.laid(x:HOk P w H h)(k:∀b u,h.get? b=aw u->h'.get? b=aw u)(f:h.objs.size<=a)(new:ba P w (upd H a o) h' a o):HOk P w (upd H a o) h':=λb u e=>by
 !d:=x.fresh f;by_cases hb:b=a
 ·subst hb;rw[az] at e;cases e;&new
 ·rw[ae hb] at e;&(x b u e).stay (λc v _ q=>k c v q) (λc q=>by rw[ae (aP q d)];&q) λc X q=>by rw[ae (aP q d)];&q
end
abbrev Rd(H:Hp)(a:Addr)(u:HO):Prop:=H a=aw u\/∃o,H a=aw (.frz o u)
def Rd.ok{P:Program}{w:World}{H:Hp}{h:Heap}{a:Addr}{u:HO}(r:Rd H a u)(x:HOk P w H h):ba P w H h a u:=by
 rcases r with r |⟨o,r⟩
 ·&x a u r
 ·#{_,q}:=x a _ r;&q
abbrev Mut:Option HO->Prop
 |some (.lst _)=>True
 |some (.dK _)=>True
 |some (.dT _)=>True
 |some (.set _ _)=>True
 |some (.ins _ _ _)=>True
 |some (.ext _)=>True
 |_=>False
section
variable {P:Program} {w:World} {H:Hp} {h h':Heap} {x e:Addr} {o':HO}
def HOk.write(ok:HOk P w H h)(mu:Mut (H x))(l:e=x\/H e=aw (.own x))(k:∀b u,b ≠ e->h.get? b=aw u->h'.get? b=aw u)(j:∃u,h'.get? e=aw u)
  (new:ba P w (upd H x o') h' x o'):HOk P w (upd H x o') h':=λb u q=>by
 !n:∀c y,H c=aw (.own y)->c ≠ x:=λc y r z=>by subst z;rw[r] at mu;&mu
 !f:∀c X,H c=aw (.tup X)->c ≠ x:=λc X r z=>by subst z;rw[r] at mu;&mu
 by_cases hb:b=x
 ·subst hb;rw[az] at q;cases q;&new
 ·rw[ae hb] at q;by_cases d:b=e
  ·!Q:H b=aw (.own x):=by
    rcases l with z |z
    ·&absurd (d.trans z) hb
    ·rw[d];&z
   rw[q] at Q;cases Q;#{v,p}:=j;&{v,by rw[d];&p}
  ·~(ok b u q).stay (λc v hc r=>k c v ?_ r) (λc r=>by rw[ae (n c b r)];&r) λc X r=>by rw[ae (f c X r)];&r
   rcases hc with rfl |hc
   ·&d
   ·rintro rfl;rcases l with z |z
    ·&n c b hc z
    ·rw[hc] at z;cases z;&hb rfl
end
structure Un(fs ex:List Addr)(H H':Hp)(h h':Heap):Prop where
 keep:∀b o,h.get? b=aw o->H b=aD->b ∉ fs->b ∉ ex->h'.get? b=aw o
 slot:∀b o,h.get? b=aw o->H b=aD->b ∈ fs->b ∉ ex->∃sl,h'.get? b=aw { o with slots:=sl }
 free:∀b o,h.get? b=aw o->H b=aD->b ∉ ex->H' b=aD
 there:∀b o,h.get? b=aw o->b ∉ ex->∃o',h'.get? b=aw o'
 tups:∀b xs,H b=aw (.tup xs)->H' b=aw (.tup xs)
 frzs:∀b o u,H b=aw (.frz o u)->H' b=aw (.frz o u)
 tbls:∀b ps,H b=aw (.tbl ps)->∃more,H' b=aw (.tbl (ps++more))
section
variable {fs fs' ex ex':List Addr} {H H1 H2:Hp} {h h1 h2 h':Heap} {a x e:Addr} {o:HO}
def Un.any(u:Un fs ex H H1 h h1){b:Addr}{ob:Obj}(q:h.get? b=aw ob)(n:H b=aD)(c:b ∉ ex):∃sl,h1.get? b=aw { ob with slots:=sl }:=by
 by_cases hb:b ∈ fs
 ·&u.slot b ob q n hb c
 ·&{ob.slots,u.keep b ob q n hb c}
def Un.kept(k:∀b u,h.get? b=aw u->h'.get? b=aw u):Un fs ex H H h h':=
 ⟨λb ob q _ _ _=>k b ob q,λb ob q _ _ _=>⟨ob.slots,k b ob q⟩,λ_ _ _ n _=>n,λb ob q _=>⟨ob,k b ob q⟩,λ_ _ q=>q,λ_ _ _ q=>q,λ_ ps q=>⟨#[],by rw[q];simp⟩⟩
def Un.refl:Un fs ex H H h h:=Un.kept λ_ _ q=>q
def Un.laid(k:∀b u,h.get? b=aw u->h'.get? b=aw u)(d:h.objs.size<=a)(c:H a=aD):Un fs ex H (upd H a o) h h' where
 keep:=λb u q _ _ _=>k b u q
 slot:=λb u q _ _ _=>⟨u.slots,k b u q⟩
 free:=λb u q n _=>by rw[ae (ZH (ZD (Zv q) d))];&n
 there:=λb u q _=>⟨u,k b u q⟩
 tups:=λb X q=>by rw[ae (aP q c)];&q
 frzs:=λb u X q=>by rw[ae (aP q c)];&q
 tbls:=λb ps q=>⟨#[],by rw[ae (aP q c),q];simp⟩
def Un.write(mu:Mut (H x))(l:e=x\/H e=aw (.own x))(k:∀b u,b ≠ e->h.get? b=aw u->h'.get? b=aw u)(d:∃u,h'.get? e=aw u):Un fs ex H (upd H x o) h h':=by
 !j:∀b,H b=aD->b ≠ x:=λb n z=>by subst z;rw[n] at mu;&mu
 !hb:∀b,H b=aD->b ≠ e:=λb n z=>by
  subst z;rcases l with r |r
  ·&j b n r
  ·rw[n] at r;cases r
 !f:∀b u,H b=aw u->¬ Mut (aw u)->b ≠ x:=λb u q nm z=>by subst z;rw[q] at mu;&nm mu
 ~⟨λb u q n _ _=>k b u (hb b n) q,λb u q n _ _=>⟨u.slots,k b u (hb b n) q⟩,λb u q n _=>by rw[ae (j b n)];&n,λb u q _=>?_,
  λb X q=>by rw[ae (f b _ q λz=>z)];&q,λb u X q=>by rw[ae (f b _ q λz=>z)];&q,λb ps q=>⟨#[],by rw[ae (f b _ q λz=>z),q];simp⟩⟩
 by_cases c:b=e
 ·subst c;&d
 ·&{u,k b u c q}
end
abbrev trk(h:Heap)(H:Hp):List Addr:=(Zi h.objs.size).filter λa=>(H a).isSome
abbrev mI(h:Heap)(H:Hp):Heap:=PySem.W.hideAll h (trk h H)
def zF(h:Heap)(H:Hp):(mI h H).objs.size=h.objs.size:=PySem.W.hideAll_size _ _
def Bn(e:h.get? b=aw o)(n:H b=aD):(mI h H).get? b=aw o:=
 PySem.W.hideAll_get _ e λc=>by
  !q:(H b).isSome=aN:=(ZM.mp c).2;rw[n] at q;simp at q
def FE(e:(mI h H).get? b=aw o):h.get? b=aw o/\H b=aD:=by
 !E:h.get? b=aw o:=PySem.W.of_hideAll (trk h H) e;~{E,?_};cases q:H b with
 |none=>rfl
 |some x=>
  !c:b ∈ trk h H:=ZM.mpr ⟨ZQ.mpr (Zv E),by simp[q]⟩;!z:(mI h H).get? b=aD:=PySem.W.hideAll_none (trk h H) c;rw[z] at e;cases e
structure Mod(K:VY)(mg:Str->Option Value)(base:Heap):Prop where
 kin:K.In base
 glob:base.Ns Zaw mg
 blt:∃mb,base.Ns Zac mb/\∀x:Str,x ≠ "__name__"->mb x=Zaa x
 nolimit:base.NoLimit
structure Cx where
 prog:Program
 w:World
 K:VY
 mg:Str->Option Value
 base:Heap
 A:Around
 N:List Str
 s₀:Shared
 H₀:Hp
 env:Env
 outer:List Env
 stack:List Env
 ex:List Addr
 fn:Str->Bool
 calm:Bool
 pn:List (Addr × Obj)
 xe:Value->Shared->Prop
abbrev frs(l:List Env):List Addr:=l.filterMap (·.frame)
noncomputable abbrev Cx.fs(X:Cx):List Addr:=frs X.outer
abbrev Vis(sc:Scope)(x:Str):Prop:=sc.names.lookup x=aw .local\/sc.names.lookup x=aw .cell\/sc.names.lookup x=aw .free
abbrev Loc(sc:Scope)(x:Str):Prop:=sc.names.lookup x=aw .local\/sc.names.lookup x=aw .cell
abbrev Uu(env:Env)(h:Heap)(m:Str->Option Value)(x:Str)(u:Value):Prop:=
 (env.kindOf x=aw .local/\m x=aw u)\/((env.kindOf x=aw .cell\/env.kindOf x=aw .free)/\∃c,env.cells.lookup x=aw c/\h.IsCell c (aw u))
structure Cx.Ok(X:Cx):Prop where
 mod:Mod X.K X.mg X.base
 kind:X.env.scope.kind = .function
 glob:X.env.globals=Zaw
 blt:X.env.builtins=Zac
 above:X.s₀.heap.objs.size<=X.env.locals
 inj:∀x y c,X.env.cells.lookup x=aw c->X.env.cells.lookup y=aw c->x=y
 has:∀x,(X.env.kindOf x=aw .cell\/X.env.kindOf x=aw .free)->∃c,X.env.cells.lookup x=aw c
 cab:∀x c,X.fn x=aN->X.env.cells.lookup x=aw c->X.s₀.heap.objs.size<=c
 hd:X.calm=aN->X.A.handled=aD
 frames:X.A.frames=aw X.stack
 stk:X.stack=X.outer\/(X.stack=X.env::X.outer/\X.env.frame=aw X.env.locals)
 exf:∀b ∈ X.ex,b ≠ X.env.locals/\∀x c,X.env.cells.lookup x=aw c->c ≠ b
 bs:∀b o,X.base.get? b=aw o->X.s₀.heap.get? b=aw o/\X.H₀ b=aD
 bsz:X.base.objs.size<=X.s₀.heap.objs.size
 noex:∀b o,X.base.get? b=aw o->b ∉ X.ex
 exfs:∀b ∈ X.ex,b ∉ X.fs
 funs:X.s₀.heap.FunFrames X.base X.outer
 frf:∀b ∈ X.fs,X.H₀ b=aD
structure Inv(X:Cx)(pins:List (Addr × Obj))(σ:List (Option V))(H:Hp)(s:Shared):Prop where
 ok:X.Ok
 os:s.os=X.s₀.os
 bare:AllBare s.gens
 base:Un X.fs X.ex X.H₀ H X.s₀.heap s.heap
 loc:∃m,s.heap.Ns X.env.locals m/\∀ (i:Nat) (x:Str) (v:V),X.N[i]?=aw x->σ[i]?=aw (aw v)->Vis X.env.scope x->∃u,aE v u/\Uu X.env s.heap m x u
 cell:∀x c,X.env.cells.lookup x=aw c->∃v,s.heap.IsCell c v
 free:H X.env.locals=aD
 freeC:∀x c,X.env.cells.lookup x=aw c->H c=aD
 pin:∀p ∈ X.pn++pins,s.heap.get? p.1=aw p.2/\H p.1=aD/\p.1 ≠ X.env.locals/\p.1 ∉ X.fs/\∀v,p.2.data ≠ .cell v
 hok:HOk X.prog X.w H s.heap
 len:σ.length=X.N.length
section
variable {X:Cx} {pins:List (Addr × Obj)} {σ:List (Option V)} {H H':Hp} {s:Shared} {h':Heap}
def Cx.Ok.nofr(ok:X.Ok)(e:X.base.get? b=aw o):b ∉ X.fs:=λhb=>by
 !:=(ok.funs.mem hb).1;rw[e] at this;cases this
def Inv.bs(I:Inv X pins σ H s):∀b o,X.base.get? b=aw o->s.heap.get? b=aw o/\H b=aD:=λb o e=>
 ⟨I.base.keep b o (I.ok.bs b o e).1 (I.ok.bs b o e).2 (I.ok.nofr e) (I.ok.noex b o e),I.base.free b o (I.ok.bs b o e).1 (I.ok.bs b o e).2 (I.ok.noex b o e)⟩
def Inv.bk(I:Inv X pins σ H s):∀b o,X.base.get? b=aw o->s.heap.get? b=aw o:=λb o e=>(I.bs b o e).1
def Inv.mod(I:Inv X pins σ H s):Mod X.K X.mg X.base:=I.ok.mod
def Inv.kIn(I:Inv X pins σ H s):X.K.In s.heap:=I.ok.mod.kin.keeps I.bk
def Inv.lt(I:Inv X pins σ H s):X.env.locals < s.heap.objs.size:=let ⟨_,hn,_⟩:=I.loc;hn.lt
def Inv.sz(I:Inv X pins σ H s):X.s₀.heap.objs.size<=s.heap.objs.size:=ZJ I.ok.above (Y0 I.lt)
def Inv.nofs(I:Inv X pins σ H s)(h:s.heap.objs.size<=a):a ∉ X.fs:=λhb=>by
 #{_,o,b,_}:=I.ok.funs.mem hb;&absurd (ZD (Zv b) (ZJ I.sz h)) (ZI _)
def Inv.cne(I:Inv X pins σ H s):∀x c,X.env.cells.lookup x=aw c->c ≠ X.env.locals:=λx c e z=>by
 #{v,o,d,hd}:=I.cell x c e;#{m,⟨O,E,f,h,b,_⟩,_}:=I.loc;rw[z,h] at d;cases d;rw[b] at hd;cases hd
def Inv.funs(I:Inv X pins σ H s):s.heap.FunFrames X.base X.outer:=by
 !all:∀ (l:List Env),(∀b ∈ frs l,b ∈ X.fs)->X.s₀.heap.FunFrames X.base l->s.heap.FunFrames X.base l:=by
  intro l
  induction l with
  |nil=>intro _ _;trivial
  |cons env r p=>
   intro hs n;#{d,⟨L,o,c,j,k,hd⟩,f}:=n;!h:L ∈ X.fs:=hs L (by unfold frs;rw[Ys,c];&Zj);#{sl,e}:=I.base.slot L o k (I.ok.frf L h) h λz=>I.ok.exfs L z h;&{d,⟨L,_,c,j,e,hd⟩,p (λb hb=>hs b (by unfold frs;rw[Ys,c];&Zg _ hb)) f}
 &all X.outer (λ_ hb=>hb) I.ok.funs
def Inv.stack(I:Inv X pins σ H s):s.heap.FunFrames X.base X.stack:=by
 rcases I.ok.stk with e |⟨e,hf⟩
 ·rw[e];&I.funs
 ·rw[e];#{m,h,_}:=I.loc;~.cons (by rw[I.ok.kind];decide) hf h ?_ I.funs;&Heap.get?_none_of_le (ZJ I.ok.bsz I.ok.above)
def Inv.stkSub(I:Inv X pins σ H s):∀b ∈ frs X.stack,b ∈ X.env.locals::X.fs:=λb hb=>by
 rcases I.ok.stk with e |⟨e,hf⟩
 ·rw[e] at hb;&Zg _ hb
 ·rw[e] at hb;unfold frs at hb;rw[Ys,hf] at hb;&hb
def Inv.stkFree(I:Inv X pins σ H s):∀b ∈ frs X.stack,H b=aD:=λb hb=>by
 rcases Zn.mp (I.stkSub b hb) with e |hb
 ·rw[e];&I.free
 ·#{_,o,h,_}:=I.ok.funs.mem hb;&I.base.free b o h (I.ok.frf b hb) λz=>I.ok.exfs b z hb
def Inv.step{g':Array GenState}{t':Nat}{d':Drawn}{ch:List Addr}(I:Inv X pins σ H s)
  (f:∀b ∈ ch,(b ∈ X.ex\/X.s₀.heap.objs.size<=b)/\b ≠ X.env.locals/\(∀x c,X.env.cells.lookup x=aw c->c ≠ b)/\∀p ∈ X.pn++pins,p.1 ≠ b)
  (keep:∀b o,b ≠ X.env.locals->b ∉ X.fs->b ∉ ch->s.heap.get? b=aw o->H b=aD->h'.get? b=aw o)
  (slot:∀b o,b ≠ X.env.locals->b ∈ X.fs->b ∉ ch->s.heap.get? b=aw o->H b=aD->∃sl,h'.get? b=aw { o with slots:=sl }) (free:∀b o,b ∉ ch->s.heap.get? b=aw o->H b=aD->H' b=aD)
  (there:∀b o,b ∉ ch->s.heap.get? b=aw o->∃O,h'.get? b=aw O)
  (tups:∀b xs,H b=aw (.tup xs)->H' b=aw (.tup xs)) (frzs:∀b o u,H b=aw (.frz o u)->H' b=aw (.frz o u)) (tbls:∀b ps,H b=aw (.tbl ps)->∃more,H' b=aw (.tbl (ps++more)))
  (ns:∀m,s.heap.Ns X.env.locals m->h'.Ns X.env.locals m) (hok:HOk X.prog X.w H' h') (hg:AllBare g') :
  Inv X pins σ H' { s with heap:=h',gens:=g',drawn:=d',toks:=t' }:=by
 !L:∀b o,X.s₀.heap.get? b=aw o->b ≠ X.env.locals:=λb o e=>ZH (ZD (Zv e) I.ok.above)
 !y:∀b o,X.s₀.heap.get? b=aw o->b ∉ X.ex->b ∉ ch:=λb o e h hb=>by
  rcases (f b hb).1 with z |z
  ·&h z
  ·&absurd (ZD (Zv e) z) (ZI _)
 !C:∀x c,X.env.cells.lookup x=aw c->∀v,s.heap.IsCell c v->h'.IsCell c v:=λx c e v ⟨o,B,hd⟩=>by
  !j:c ∉ ch:=λz=>(f c z).2.2.1 x c e rfl;by_cases U:c ∈ X.fs
  ·#{sl,q}:=slot c o (I.cne x c e) U j B (I.freeC x c e);&{_,q,hd}
  ·&{o,keep c o (I.cne x c e) U j B (I.freeC x c e),hd}
 ~{I.ok,I.os,hg,⟨λb o e n hb h=>?_,λb o e n hb h=>?_,λb o e n h=>?_,λb o e h=>?_,λb xs e=>tups b xs (I.base.tups b xs e),λb o xs e=>frzs b o xs (I.base.frzs b o xs e),λb ps e=>?_⟩,?_,λx c e=>?_,?_,λx c e=>?_,λp T=>?_,hok,I.len}
 ·&keep b o (L b o e) hb (y b o e h) (I.base.keep b o e n hb h) (I.base.free b o e n h)
 ·#{sl,E}:=I.base.slot b o e n hb h;#{Q,J}:=slot b _ (L b o e) hb (y b o e h) E (I.base.free b o e n h);&{Q,J}
 ·#{O,E}:=I.base.there b o e h;&free b O (y b o e h) E (I.base.free b o e n h)
 ·#{O,E}:=I.base.there b o e h;&there b O (y b o e h) E
 ·#{m1,E}:=I.base.tbls b ps e;#{m2,J}:=tbls b _ E;&{m1++m2,by rw[J,Array.append_assoc]}
 ·#{m,hn,hl}:=I.loc;~{m,ns m hn,λi x v E J Z=>?_};#{u,r,l}:=hl i x v E J Z;~{u,r,?_};rcases l with l |⟨k,c,e,z⟩
  ·&.inl l
  ·&.inr ⟨k,c,e,C x c e _ z⟩
 ·#{v,z}:=I.cell x c e;&{v,C x c e v z}
 ·#{m,⟨o,_,_,B,_⟩,_}:=I.loc;&free _ o (λz=>(f _ z).2.1 rfl) B I.free
 ·#{v,o,B,hd}:=I.cell x c e;&free c o (λz=>(f c z).2.2.1 x c e rfl) B (I.freeC x c e)
 ·#{e,n,ne,Y,d}:=I.pin p T;!j:p.1 ∉ ch:=λz=>(f p.1 z).2.2.2 p T rfl;&{keep p.1 p.2 ne Y j e n,free p.1 p.2 j e n,ne,Y,d}
def Inv.un{t':Nat}(I:Inv X pins σ H s)(u:Un X.fs [] H H' s.heap h')(hok:HOk X.prog X.w H' h'):Inv X pins σ H' { s with heap:=h',toks:=t' }:=by
 #{m,⟨o,l,p,d,r⟩,_}:=id I.loc;#{sl,f}:=u.any d I.free (by simp)
 &I.step (g':=s.gens) (d':=s.drawn) (ch:=[]) (λ_ z=>nomatch z) (λb o _ hb _ e n=>u.keep b o e n hb (by simp)) (λb o _ hb _ e n=>u.slot b o e n hb (by simp)) (λb o _ e n=>u.free b o e n (by simp)) (λb o _ e=>u.there b o e (by simp)) u.tups u.frzs u.tbls (λq k=>by
  #{O,E,c,h,j}:=k;rw[d] at h;cases h;&{_,E,c,f,j}) hok I.bare
def Inv.call{g':Array GenState}{t':Nat}{d':Drawn}{ch:List Addr}(I:Inv X pins σ H s)(u:Un (frs X.stack) ch H H' s.heap h')(hok:HOk X.prog X.w H' h')(v:AllBare g')
  (d:∀b ∈ ch,(b ∈ X.ex\/X.s₀.heap.objs.size<=b)/\b ≠ X.env.locals/\(∀x c,X.env.cells.lookup x=aw c->c ≠ b)/\∀p ∈ X.pn++pins,p.1 ≠ b) :
  Inv X pins σ H' { s with heap:=h',gens:=g',drawn:=d',toks:=t' }:=by
 #{m,⟨o,C,B,l,r⟩,_}:=id I.loc;#{sl,j}:=u.any l I.free λz=>(d _ z).2.1 rfl
 &I.step (ch:=ch) d (λb o j hb h e n=>u.keep b o e n (λz=>(Zn.mp (I.stkSub b z)).elim j hb) h) (λb o _ _ h e n=>u.any e n h) (λb o h e n=>u.free b o e n h) (λb o h e=>u.there b o e h) u.tups u.frzs u.tbls (λJ y=>by
  #{O,k,E,f,q}:=y;rw[l] at f;cases f;&{_,k,E,j,q}) hok v
def Inv.turned{t':Nat}{it:Addr}(I:Inv X pins σ H s)(k:∀b o,b ≠ it->s.heap.get? b=aw o->h'.get? b=aw o)(j:H it=aD)(f:it ≠ X.env.locals)
  (J:it ∈ X.ex\/X.s₀.heap.objs.size<=it) (B:∀x c,X.env.cells.lookup x=aw c->c ≠ it) (C:∀p ∈ X.pn++pins,p.1 ≠ it):Inv X pins σ H { s with heap:=h',toks:=t' }:=by
 !d:∀b u,H b=aw u->b ≠ it:=λb u e z=>by rw[z,j] at e;cases e
 ~I.step (g':=s.gens) (d':=s.drawn) (ch:=[it]) (λb hb=>?_) (λb o _ _ h e _=>k b o (λz=>h (by simp[z])) e) (λb o _ _ h e _=>⟨o.slots,k b o (λz=>h (by simp[z])) e⟩) (λ_ _ _ _ n=>n)
  (λb o h e=>⟨o,k b o (λz=>h (by simp[z])) e⟩) (λ_ _ e=>e) (λ_ _ _ e=>e) (λb ps e=>⟨#[],by rw[e];simp⟩) (λm L=>?_) (λb u e=>?_) I.bare
 ·!e:b=it:=by simpa using hb
  subst e;&{J,f,B,C}
 ·#{o,l,E,y,r}:=L;&{o,l,E,k _ o (Ne.symm f) y,r}
 ·~(I.hok b u e).stay (λc v h q=>k c v ?_ q) (λ_ q=>q) λ_ _ q=>q;rcases h with z |z
  ·rw[z];&d b u e
  ·&d c _ z
def Inv.tok(I:Inv X pins σ H s)(t:Nat):Inv X pins σ H { s with toks:=t }:=I.un (h':=s.heap) (t':=t) Un.refl I.hok
def Inv.kept{t':Nat}(I:Inv X pins σ H s)(k:∀b u,s.heap.get? b=aw u->h'.get? b=aw u):Inv X pins σ H { s with heap:=h',toks:=t' }:=I.un (Un.kept k) (I.hok.kept k)
def Inv.laid{a:Addr}{o:HO}{t':Nat}(I:Inv X pins σ H s)(k:∀b u,s.heap.get? b=aw u->h'.get? b=aw u)(h:s.heap.objs.size<=a)(new:ba X.prog X.w (upd H a o) h' a o) :
  Inv X pins σ (upd H a o) { s with heap:=h',toks:=t' }:=I.un (Un.laid k h (I.hok.fresh h)) (I.hok.laid k h new)
def Inv.write{t':Nat}(I:Inv X pins σ H s)(mu:Mut (H x))(c:e=x\/H e=aw (.own x))(k:∀b u,b ≠ e->s.heap.get? b=aw u->h'.get? b=aw u)(h:∃u,h'.get? e=aw u)
  (new:ba X.prog X.w (upd H x o) h' x o):Inv X pins σ (upd H x o) { s with heap:=h',toks:=t' }:=I.un (Un.write mu c k h) (I.hok.write mu c k h new)
def Inv.pins_of(I:Inv X pins σ H s)(h:∀p ∈ b,s.heap.get? p.1=aw p.2/\H p.1=aD/\p.1 ≠ X.env.locals/\p.1 ∉ X.fs/\∀v,p.2.data ≠ .cell v):Inv X b σ H s:=
 ⟨I.ok,I.os,I.bare,I.base,I.loc,I.cell,I.free,I.freeC,λp c=>(ZR.mp c).elim (λz=>I.pin p (ZW _ z)) (h p),I.hok,I.len⟩
def tD{N:List Str}(hN:N.Nodup){i j:Nat}{x:Str}(a:N[i]?=aw x)(b:N[j]?=aw x):i=j:=by
 #{h,E}:=Zb.mp a;#{d,c}:=Zb.mp b;&(Y1 hN).mp (E.trans c.symm)
def pY{M:Model}{A:Around}{E:Value->Shared->Prop}{i:Nat}{x:Str}{v:V}{u:Value}{Q:Unit->Shared->Prop}(I:Inv X pins σ H s)(hN:X.N.Nodup)(hi:X.N[i]?=aw x)(l:Loc X.env.scope x)(r:aE v u)
  (h:∀s',Inv X pins (σ.set i (aw v)) H s'->(∃a,Heap.SameBut a s.heap s'.heap/\(a=X.env.locals\/X.env.cells.lookup x=aw a))->Q () s') (hf:X.fn x=aN\/X.env.scope.names.lookup x=aw .local:=by first |&.inl rfl |&.inr rfl |assumption):wpAny M A (storeName X.env x u) Q E s:=by
 #{m,hn,hl}:=id I.loc;!hcls:(X.env.scope.kind == .class || (X.env.scope.kind == .module && X.env.locals != X.env.globals))=aS:=by rw[I.ok.kind];rfl
 !J:i < σ.length:=by rw[I.len];&(Zb.mp hi).1
 !cne:=I.cne
 !T:∀ {a:Addr} {h':Heap},(∃o,s.heap.get? a=aw o/\H a=aD)->Heap.SameBut a s.heap h'->HOk X.prog X.w H h':=λ{a h'} ha hs b ob e=>by
  #{_,_,B}:=ha;~(I.hok b ob e).stay (λc w' hc q=>(hs.2 c ?_).trans q) (λ_ q=>q) λ_ _ q=>q;rintro rfl;rcases hc with rfl |hc
  ·rw[B] at e;cases e
  ·rw[B] at hc;cases hc
 rcases l with hk |hk
 ·~wpAny_storeName_local hk hn (λh' hn' hs=>?_) hcls;#{oL,_,_,hoL,_}:=id hn;~h _ ⟨I.ok,I.os,I.bare,⟨λb o e n hb l=>?_,λb o e n hb l=>?_,I.base.free,λb o e l=>?_,I.base.tups,I.base.frzs,I.base.tbls⟩,⟨_,hn',λj y v' f C e3=>?_⟩,λy c e=>?_,I.free,I.freeC,λp hp=>?_,T ⟨oL,hoL,I.free⟩ hs,by simpa using I.len⟩ ⟨_,hs,.inl rfl⟩
  ·&(hs.2 b (ZH (ZD (Zv e) I.ok.above))).trans (I.base.keep b o e n hb l)
  ·#{sl,f}:=I.base.slot b o e n hb l;&{sl,(hs.2 b (ZH (ZD (Zv e) I.ok.above))).trans f}
  ·#{o',f}:=I.base.there b o e l;&{o',(hs.2 b (ZH (ZD (Zv e) I.ok.above))).trans f}
  ·by_cases L:j=i
   ·subst L;rw[hi] at f;cases f;rw[ZV J] at C;cases C;&{u,r,.inl ⟨hk,by simp⟩}
   ·rw[Zx (Ne.symm L)] at C;#{u',r',q}:=hl j y v' f C e3;~{u',r',?_};rcases q with ⟨k,e⟩ |⟨k,c,e,z⟩
    ·~.inl ⟨k,?_⟩;!:y ≠ x:=λe=>L (tD hN f (e ▸ hi));simp[this,e]
    ·&.inr ⟨k,c,e,z.sameBut hs (cne y c e)⟩
  ·#{w',z}:=I.cell y c e;&{w',z.sameBut hs (cne y c e)}
  ·#{e,n,ne,nf,d}:=I.pin p hp;&{(hs.2 p.1 ne).trans e,n,ne,nf,d}
 ·!O:X.fn x=aN:=by
   rcases hf with z |z
   ·&z
   ·rw[z] at hk;cases hk
  #{c,hc}:=I.ok.has x (.inl hk);#{w',z}:=I.cell x c hc;~wpAny_storeName_cell I.ok.kind hk hc z (λh' hc' hs=>?_);#{oc,Y,U}:=id z;~h { s with heap:=h' } ⟨I.ok,I.os,I.bare,⟨λb o e n hb l=>?_,λb o e n hb l=>?_,I.base.free,λb o e l=>?_,I.base.tups,I.base.frzs,I.base.tbls⟩,⟨m,hn.sameBut hs (Ne.symm (cne x c hc)),λj y v' f C e3=>?_⟩,λy c' e=>?_,I.free,I.freeC,λp hp=>?_,T ⟨oc,Y,I.freeC x c hc⟩ hs,by simpa using I.len⟩ ⟨c,hs,.inr hc⟩
  ·&(hs.2 b (ZH (ZD (Zv e) (I.ok.cab x c O hc)))).trans (I.base.keep b o e n hb l)
  ·#{sl,f}:=I.base.slot b o e n hb l;&{sl,(hs.2 b (ZH (ZD (Zv e) (I.ok.cab x c O hc)))).trans f}
  ·#{o',f}:=I.base.there b o e l;&{o',(hs.2 b (ZH (ZD (Zv e) (I.ok.cab x c O hc)))).trans f}
  ·by_cases L:j=i
   ·subst L;rw[hi] at f;cases f;rw[ZV J] at C;cases C;&{u,r,.inr ⟨.inl hk,c,hc,hc'⟩}
   ·rw[Zx (Ne.symm L)] at C;#{u',r',q}:=hl j y v' f C e3;~{u',r',?_};rcases q with q |⟨k,c',e,z'⟩
    ·&.inl q
    ·~.inr ⟨k,c',e,z'.sameBut hs ?_⟩;rintro rfl;&L (tD hN f (I.ok.inj _ _ _ e hc ▸ hi))
  ·by_cases Z:c'=c
   ·subst Z;&{_,hc'}
   ·#{w2,z2}:=I.cell y c' e;&{w2,z2.sameBut hs Z}
  ·#{e,n,ne,nf,d}:=I.pin p hp;~{(hs.2 p.1 ?_).trans e,n,ne,nf,d};intro q;rw[q,Y] at e;!q':oc=p.2:=Option.some.inj e;&d w' (by rw[<-q'];&U)
def jj{i:Nat}(I:Inv X pins σ H s)(hN:X.N.Nodup)(hi:X.N[i]?=aw x)(c:Loc X.env.scope x)(r:aE v u)
  (h:∀b,Inv X pins (σ.set i (aw v)) H b->Q () b) (f:X.fn x=aN\/X.env.scope.names.lookup x=aw .local:=by first |&.inl rfl |&.inr rfl |assumption):wpAny M A (storeName X.env x u) Q E s:=
 pY I hN hi c r (λb d _=>h b d) f
def Inv.call'(I:Inv X pins σ H s)(j:s'.os=s.os)(u:Un (frs X.stack) ch H H' s.heap s'.heap)(hok:HOk X.prog X.w H' s'.heap)(f:AllBare s'.gens)
  (h:∀b ∈ ch,(b ∈ X.ex\/X.s₀.heap.objs.size<=b)/\b ≠ X.env.locals/\(∀x c,X.env.cells.lookup x=aw c->c ≠ b)/\∀p ∈ X.pn++pins,p.1 ≠ b):Inv X pins σ H' s':=by
 #{h',d,k,T,O}:=s';!e:O=s.os:=j;subst e;&I.call (g':=d) (t':=T) (d':=k) u hok f h
end
@[inline]abbrev XK:=Value->Option Addr->Hp->Prop
@[inline]abbrev St:=List (Option V)
@[inline]abbrev VK:=V->Hp->Prop
@[inline]abbrev TE:=St->Hp->VK->Prop
@[inline]abbrev TT:=St->Hp->(Bool->Hp->Prop)->Prop
@[inline]abbrev TA:=St->Hp->(List V->Hp->Prop)->Prop
structure Ends where
 nx:St->Hp->Prop
 rt:VK
 bk:St->Hp->Prop:=λ_ _=>False
 ct:St->Hp->Prop:=λ_ _=>False
@[inline]abbrev TS:=Ends->St->Hp->Prop
abbrev EP(X:Cx)(p:List (Addr × Obj))(b:St)(Q:VK)(u:Value)(c:Shared):Prop:=∃v h,Inv X p b h c/\aE v u/\Q v h
abbrev TP(X:Cx)(p:List (Addr × Obj))(c:St)(Q:Bool->Hp->Prop)(b:Bool)(d:Shared):Prop:=∃h,Inv X p c h d/\Q b h
abbrev AP(X:Cx)(p:List (Addr × Obj))(b:St)(Q:List V->Hp->Prop)(u:List Value)(c:Shared):Prop:=∃v h,Inv X p b h c/\aJ v u/\Q v h
abbrev SP(X:Cx)(p:List (Addr × Obj))(D:Ends)(f:Flow)(c:Shared):Prop:=
 match f with
 |.next=>∃b h,Inv X p b h c/\D.nx b h
 |.brk=>∃b h,Inv X p b h c/\D.bk b h
 |.cont=>∃b h,Inv X p b h c/\D.ct b h
 |.ret u=>∃v b h,Inv X p b h c/\aE v u/\D.rt v h
abbrev PE(X:Cx)(e:Expr)(t:TE):Prop:=
 ∀ (p:List (Addr × Obj)) (s:Shared) (b:St) (H:Hp) (Q:VK),Inv X p b H s->t b H Q->wpAny (model X.prog X.w) X.A (eval e X.env) (EP X p b Q) X.xe s
abbrev PT(X:Cx)(e:Expr)(t:TT):Prop:=
 ∀ (p:List (Addr × Obj)) (s:Shared) (b:St) (H:Hp) (Q:Bool->Hp->Prop),Inv X p b H s->t b H Q->wpAny (model X.prog X.w) X.A (isTrue e X.env (eval e X.env)) (TP X p b Q) X.xe s
abbrev PW(X:Cx)(e:Expr)(t:TT):Prop:=
 ∀ (b:Sem Value) (p:List (Addr × Obj)) (s:Shared) (c:St) (H:Hp) (Q:Bool->Hp->Prop),Inv X p c H s->t c H Q->wpAny (model X.prog X.w) X.A (isTrue e X.env b) (TP X p c Q) X.xe s
def PW.pt(h:PW X e t):PT X e t:=h _
abbrev PA(X:Cx)(E:List Expr)(t:TA):Prop:=
 ∀ (c:Pos) (p:List (Addr × Obj)) (s:Shared) (b:St) (H:Hp) (Q:List V->Hp->Prop),Inv X p b H s->t b H Q->wpAny (model X.prog X.w) X.A (spliced (backTo c (ZaQ E X.env))) (AP X p b Q) X.xe s
abbrev PS(X:Cx)(st:Stmt)(t:TS):Prop:=
 ∀ (p:List (Addr × Obj)) (s:Shared) (b:St) (H:Hp) (D:Ends),Inv X p b H s->t D b H->wpAny (model X.prog X.w) X.A (exec st X.env) (SP X p D) X.xe s
abbrev PSs(X:Cx)(st:List Stmt)(t:TS):Prop:=
 ∀ (p:List (Addr × Obj)) (s:Shared) (b:St) (H:Hp) (D:Ends),Inv X p b H s->t D b H->wpAny (model X.prog X.w) X.A (execs st X.env) (SP X p D) X.xe s
def thn{b:Type}{t:Sem b}{Q q:b->Shared->Prop}{M:Model}{A:Around}{E:Value->Shared->Prop}{s:Shared}(h:wpAny M A t Q E s)(c:∀a s,Q a s->q a s):wpAny M A t q E s:=Zbe h c λ_ _ x=>x
section
variable {X:Cx}
abbrev zG(i:Nat):TE:=λb H Q=>∃v,b[i]?=aw (aw v)/\Q v H
abbrev tC(v:V):TE:=λ_ H Q=>Q v H
def v5{i:Nat}(hN:X.N[i]?=aw x)(y:Vis X.env.scope x)(hd:(x == ("__debug__" : Str))=aS:=by decide)(d:(x == ("__classdict__" : Str))=aS:=by decide):PE X (.Name x n) (zG i):=by
 intro p s k H Q I h;#{v,e,h}:=h;#{m,q,z}:=I.loc;#{u,r,l}:=z i x v hN e y;!f:EP X p k Q u s:=⟨v,H,I,r,h⟩;rcases l with ⟨hk,B⟩ |⟨hk,c,j,b⟩
 ·&wpAny_Name (wpAny_loadName_local I.ok.kind hk q B f) hd
 ·rcases hk with hk |hk
  ·&wpAny_Name (wpAny_loadName_cell I.ok.kind hk j b f) hd
  ·&wpAny_Name (wpAny_loadName_free I.ok.kind hk j b f d) hd
def mJ{i j p}:PE X (.Constant (.int i) j p) (tC (.int i)):=λ_ _ _ H _ I h=>wpAny_Constant_int ⟨.int i,H,I.tok _,⟨_,rfl⟩,h⟩
def Q4{b j p}:PE X (.Constant (.bool b) j p) (tC (.bl b)):=λ_ _ _ H _ I h=>Constant_bool ⟨.bl b,H,I,rfl,h⟩
def Bo{j pos}:PE X (.Constant .none j pos) (tC .non):=λ_ _ _ H _ I h=>Constant_none ⟨.non,H,I,rfl,h⟩
def Lz{x j p}:PE X (.Constant (.str x) j p) (tC (.str x)):=λ_ _ _ H _ I h=>Calls.Constant_str ⟨.str x,H,I.tok _,⟨_,rfl⟩,h⟩
abbrev Gl(X:Cx)(x:Str):Prop:=X.env.kindOf x=aw .globalImplicit
def xY(I:Inv X p f H s)(c:Gl X x)(d:X.mg x=aw u)(h:Q u s)
  (hd:(x == ("__debug__" : Str))=aS:=by decide):wpAny (model X.prog X.w) X.A (eval (.Name x b) X.env) Q E s:=
 W7 I.ok.kind c (Calls.loadGlobal_global (by rw[I.ok.glob];&I.mod.glob.keeps I.bk) d h) hd
def eF(I:Inv X p n H s)(d:Gl X x)(l:X.mg x=aD)(f:Zaa x=aw u)(h:Q u s)
  (c:x ≠ "__name__" := by decide) (hd:(x == ("__debug__" : Str))=aS:=by decide):wpAny (model X.prog X.w) X.A (eval (.Name x b) X.env) Q E s:=by
 #{q,j,k}:=I.mod.blt;&W7 I.ok.kind d (Calls.loadGlobal_builtin (by rw[I.ok.glob];&I.mod.glob.keeps I.bk) l (by rw[I.ok.blt];&j.keeps I.bk) ((k x c).trans f) h) hd
def FF(b:Gl X x)(c:X.mg x=aw u)(r:aE v u)(hd:(x == ("__debug__" : Str))=aS:=by decide):PE X (.Name x p) (tC v):=
 λ_ _ _ H _ I h=>xY I b c ⟨v,H,I,r,h⟩ hd
def jk(c:Gl X x)(f:X.mg x=aD)(d:Zaa x=aw u)(r:aE v u)(b:x ≠ "__name__" := by decide)(hd:(x == ("__debug__" : Str))=aS:=by decide):PE X (.Name x p) (tC v):=
 λ_ _ _ H _ I h=>eF I c f d ⟨v,H,I,r,h⟩ b hd
variable {a b:Expr} {ta tb:TE} {pos:Pos}
variable {tA tB':TT} {rest:List Expr}
abbrev Q5(t u:TT):TT:=λd H Q=>t d H λc h=>if c=aN then u d h Q else Q aS h
abbrev tOr(t u:TT):TT:=λd H Q=>t d H λc h=>if c=aN then Q aN h else u d h Q
abbrev Q6(t:TT):TT:=λd H Q=>t d H λc h=>Q (!c) h
def FG(d:PT X a tA):PW X (.BoolOp .And [a] pos) tA:=by
 intro j p s f H Q I h;~isTrue_and (thn (d p s f H Q I h) λc k e=>?_);cases c with
 |true=>&isTrue_and_nil e
 |false=>&e
def LA(d:PT X a tA):PW X (.BoolOp .Or [a] pos) tA:=by
 intro j p s f H Q I h;~isTrue_or (thn (d p s f H Q I h) λc k e=>?_);cases c with
 |false=>&isTrue_or_nil e
 |true=>&e
def Bp(k:PT X a tA)(hb:PW X (.BoolOp .And (b::rest) pos) tB'):PW X (.BoolOp .And (a::b::rest) pos) (Q5 tA tB'):=by
 intro l p s j H Q I h;~isTrue_and (thn (k p s j H _ I h) λc n ⟨d,f,q⟩=>?_);cases c with
 |true=>&hb l p n j d Q f q
 |false=>&{d,f,q}
def Kb(k:PT X a tA)(hb:PW X (.BoolOp .Or (b::rest) pos) tB'):PW X (.BoolOp .Or (a::b::rest) pos) (tOr tA tB'):=by
 intro l p s j H Q I h;~isTrue_or (thn (k p s j H _ I h) λc n ⟨d,f,q⟩=>?_);cases c with
 |true=>&{d,f,q}
 |false=>&hb l p n j d Q f q
def LB(f:PT X a tA):PT X (.UnaryOp .Not a pos) (Q6 tA):=by
 intro p s j H Q I h;&isTrue_not (f p s j H (λc d=>Q (!c) d) I h)
abbrev Kc(ta tb:TE):TE:=λd H Q=>ta d H λx h=>∃c,x = .bl c/\if c=aN then tb d h Q else Q (.bl aS) h
abbrev Q7(ta tb:TE):TE:=λd H Q=>ta d H λx h=>∃c,x = .bl c/\if c=aN then Q (.bl aN) h else tb d h Q
abbrev Kd(ta:TE):TE:=λd H Q=>ta d H λx h=>∃c,x = .bl c/\Q (.bl (!c)) h
def Bq{op}(h:PE X a t):PE X (.BoolOp op [a] pos) t:=λp s d H Q I c=>BoolOp_one (h p s d H Q I c)
def Bs(k:PE X a ta)(hb:PE X (.BoolOp .And (b::rest) pos) tb):PE X (.BoolOp .And (a::b::rest) pos) (Kc ta tb):=by
 intro p s j H Q I h;~BoolOp_and (thn (k p s j H _ I h) λv l ⟨x,d,f,r1,q⟩=>?_);#{c,rfl,q}:=q;cases r1;~Zbx ?_;cases c with
 |true=>&hb p l j d Q f q
 |false=>&{.bl aS,d,f,rfl,q}
def Ke(k:PE X a ta)(hb:PE X (.BoolOp .Or (b::rest) pos) tb):PE X (.BoolOp .Or (a::b::rest) pos) (Q7 ta tb):=by
 intro p s j H Q I h;~BoolOp_or (thn (k p s j H _ I h) λv l ⟨x,d,f,r1,q⟩=>?_);#{c,rfl,q}:=q;cases r1;~Zbx ?_;cases c with
 |false=>&hb p l j d Q f q
 |true=>&{.bl aN,d,f,rfl,q}
def LC(j:PE X a ta):PE X (.UnaryOp .Not a pos) (Kd ta):=by
 intro p s k H Q I h;~UnaryOp_ (thn (j p s k H _ I h) λv l ⟨x,d,f,r1,q⟩=>?_);#{c,rfl,q}:=q;cases r1;&not_of (Zbx ⟨.bl (!c),d,f,rfl,q⟩)
abbrev tIf(t:TT)(ta tb:TE):TE:=λd H Q=>t d H λc h=>if c=aN then ta d h Q else tb d h Q
def Bt{c:Expr}(u:PT X c tA)(n:PE X a ta)(hb:PE X b tb):PE X (.IfExp c a b pos) (tIf tA ta tb):=by
 intro p s f H Q I h;~wpAny_IfExp (thn (u p s f H _ I h) λd l ⟨j,k,q⟩=>?_);cases d with
 |true=>&n p l f j Q k q
 |false=>&hb p l f j Q k q
end
abbrev SqL(K:VY)(H:Hp)(a:Addr)(xs:List V):Prop:=
 Rd H a (.lst xs) ∨
  ∃ (o:Obj) (I:Array Value) (n:Nat),K.lookup a=aw o/\o.cls = .type "list"/\o.dict=aD/\o.data = .seq I n/\I.size<=sizeLine/\aJ xs I.toList
abbrev SqT(K:VY)(H:Hp)(a:Addr)(xs:List V):Prop:=
 Rd H a (.tup xs) ∨
  ∃ (o:Obj) (I:Array Value) (n:Nat),K.lookup a=aw o/\o.cls = .type "tuple"/\o.data = .seq I n/\I.size<=sizeLine/\aJ xs I.toList
abbrev Uv:Value->Option V
 |.none=>aw .non
 |.bool b=>aw (.bl b)
 |.int i _=>aw (.int i)
 |.str x _=>aw (.str x)
 |.bytes b _=>aw (.byt b)
 |.float b _=>aw (.flt b)
 |.ref a=>aw (.ref a)
 |.type n=>aw (.ty n)
 |_=>aD
def aE.abs(r:aE x u):Uv u=aw x:=by
 cases x with
 |non=>cases r;rfl
 |bl _=>cases r;rfl
 |int _=>#{t,rfl}:=r;rfl
 |str _=>#{t,rfl}:=r;rfl
 |byt _=>#{t,rfl}:=r;rfl
 |flt _=>#{t,rfl}:=r;rfl
 |ref _=>cases r;rfl
 |ty _=>cases r;rfl
def aE.inj{x y:V}{u:Value}(r:aE x u)(q:aE y u):x=y:=Option.some.inj (r.abs.symm.trans q.abs)
def aJ.inj:∀ {xs y:List V} {u:List Value},aJ xs u->aJ y u->xs=y
 |_,_,_,.nil,.nil=>rfl
 |_,_,_,.cons r t,.cons r' t'=>by rw[r.inj r',aJ.inj t t']
section
variable {X:Cx} {pins:List (Addr × Obj)} {σ:St} {H:Hp} {s:Shared} {a:Addr} {xs ys:List V}
def SqL.of{K:VY}(h:H a=aw (.lst xs)):SqL K H a xs:=.inl (.inl h)
def SqT.of{K:VY}(h:H a=aw (.tup xs)):SqT K H a xs:=.inl (.inl h)
def Inv.list(I:Inv X pins σ H s)(h:SqL X.K H a xs):∃its:List Value,aJ xs its/\PlainL s.heap a its.toArray/\xs.length<=sizeLine:=by
 rcases h with h |⟨o,its,n,hk,hc,hd,hs,hz,r⟩
 ·#{z,its,n,r,e}:=h.ok I.hok;&{its,r,⟨_,n,e,rfl,rfl,rfl⟩,z}
 ·~{its.toList,r,⟨o,n,I.kIn a o hk,hc,hd,by simpa using hs⟩,?_};!e:=r.length;simp only[Zu] at e
  lia
def Inv.tuple(I:Inv X pins σ H s)(h:SqT X.K H a xs):∃its:List Value,aJ xs its/\IsTup s.heap a its.toArray/\xs.length<=sizeLine:=by
 rcases h with h |⟨o,its,n,hk,hc,hs,hz,r⟩
 ·#{z,its,r,p}:=h.ok I.hok;&{its,r,p.isTup,z}
 ·~{its.toList,r,⟨o,I.kIn a o hk,hc,n,by simpa using hs⟩,?_};!e:=r.length;simp only[Zu] at e
  lia
def Inv.list_inj(I:Inv X pins σ H s)(h:SqL X.K H a xs)(h':SqL X.K H a ys):xs=ys:=by
 #{b,r,⟨o,n,e,_,_,d⟩,_}:=I.list h;#{its',f,⟨O,j,E,_,_,c⟩,_}:=I.list h';rw[e] at E;cases E;rw[d] at c;injection c with d1 _;!:b=its':=by simpa using congrArg Array.toList d1
 subst this;&r.inj f
def Inv.tuple_inj(I:Inv X pins σ H s)(h:SqT X.K H a xs)(h':SqT X.K H a ys):xs=ys:=by
 #{b,r,⟨o,e,_,n,d⟩,_}:=I.tuple h;#{its',f,⟨O,E,_,j,c⟩,_}:=I.tuple h';rw[e] at E;cases E;rw[d] at c;injection c with d1 _;!:b=its':=by simpa using congrArg Array.toList d1
 subst this;&r.inj f
end
noncomputable abbrev Cx.wish(X:Cx)(E:Value->Shared->Prop):Cx:={ X with xe:=E }
noncomputable abbrev Cx.nox(X:Cx):Cx:=X.wish λ_ _=>False
def Cx.Ok.wish{X:Cx}(ok:X.Ok)(E:Value->Shared->Prop):(X.wish E).Ok:=
 ⟨ok.mod,ok.kind,ok.glob,ok.blt,ok.above,ok.inj,ok.has,ok.cab,ok.hd,ok.frames,ok.stk,ok.exf,ok.bs,ok.bsz,ok.noex,ok.exfs,ok.funs,ok.frf⟩
def Cx.Ok.unwish{X:Cx}{E:Value->Shared->Prop}(ok:(X.wish E).Ok):X.Ok:=
 ⟨ok.mod,ok.kind,ok.glob,ok.blt,ok.above,ok.inj,ok.has,ok.cab,ok.hd,ok.frames,ok.stk,ok.exf,ok.bs,ok.bsz,ok.noex,ok.exfs,ok.funs,ok.frf⟩
section
variable {X:Cx} {pins:List (Addr × Obj)} {σ:St} {H:Hp} {s:Shared} {E:Value->Shared->Prop}
def Inv.wish(I:Inv X pins σ H s)(E:Value->Shared->Prop):Inv (X.wish E) pins σ H s:=⟨I.ok.wish E,I.os,I.bare,I.base,I.loc,I.cell,I.free,I.freeC,I.pin,I.hok,I.len⟩
def Inv.unwish(I:Inv (X.wish E) pins σ H s):Inv X pins σ H s:=⟨I.ok.unwish,I.os,I.bare,I.base,I.loc,I.cell,I.free,I.freeC,I.pin,I.hok,I.len⟩
def SP.unwish{D:Ends}{f:Flow}{s':Shared}(h:SP (X.wish E) pins D f s'):SP X pins D f s':=by
 cases f with
 |next=>#{b,c,I,q}:=h;&{b,c,I.unwish,q}
 |brk=>#{b,c,I,q}:=h;&{b,c,I.unwish,q}
 |cont=>#{b,c,I,q}:=h;&{b,c,I.unwish,q}
 |ret u=>#{v,b,c,I,r,q}:=h;&{v,b,c,I.unwish,r,q}
def PSs.nox{st:List Stmt}{t:TS}(h:PSs X.nox st t):PSs X st t:=λpins s σ H D I b=>
 Zbe (h pins s σ H D (I.wish _) b) (λ_ _ q=>q.unwish) λ_ _ z=>False.elim z
end
section
variable {X:Cx} {st:Stmt} {rest:List Stmt} {t u:TS} {e:Expr} {te:TE} {pos:Pos}
abbrev Kf:TS:=λD b H=>D.nx b H
abbrev Q8(t u:TS):TS:=λD b H=>t { D with nx:=u D } b H
def FH:PSs X [] Kf:=λ_ _ b H _ I h=>Za5 ⟨b,H,I,h⟩
def Bu(l:PS X st t)(n:PSs X rest u):PSs X (st::rest) (Q8 t u):=by
 intro p s d H D I h;~wpAny_execs_cons (thn (l p s d H { D with nx:=u D } I h) λf j q=>?_);cases f with
 |next=>
  #{b,c,k,q}:=q;&n p j b c D k q
 |ret v=>&q
 |brk=>&q
 |cont=>&q
def FI(c:PS X st t):PSs X [st] t:=by
 intro p s b H D I h;~wpAny_execs_cons (thn (c p s b H D I h) λf d q=>?_);cases f with
 |next=>&Za5 q
 |ret v=>&q
 |brk=>&q
 |cont=>&q
abbrev Kg:TS:=λD b H=>D.ct b H
def tG:PS X (.Continue pos) Kg:=λ_ _ b H _ I h=>wpAny_Continue ⟨b,H,I,h⟩
def Inv.quiet{p:List (Addr × Obj)}{b:St}{H:Hp}{s:Shared}(I:Inv X p b H s):interactive X.env=aS:=by simp[interactive,I.ok.kind]
abbrev Kh(te:TE):TS:=λD b H=>te b H λ_ h=>D.nx b h
def FJ(f:PE X e te)(hs:ZaT e aD pos.line X.env=pure aS:=by rfl):PS X (.Expr e pos) (Kh te):=by
 intro p s b H D I h;&wpAny_Expr_any (thn (f p s b H _ I h) λv j ⟨x,c,d,r1,q⟩=>⟨b,c,d,q⟩) I.quiet hs
abbrev LG(te:TE):TS:=λD b H=>te b H D.rt
def Bv(f:PE X e te):PS X (.Return (aw e) pos) (LG te):=by
 intro p s b H D I h;&wpAny_Return_some (thn (f p s b H _ I h) λv j ⟨x,c,d,r1,q⟩=>⟨x,b,c,d,r1,q⟩)
abbrev Q9(c:TT)(t u:TS):TS:=λD d H=>c d H λb h=>if b=aN then t D d h else u D d h
def Ra{c:Expr}{a b:List Stmt}{T:TT}(v:PT X c T)(n:PSs X a t)(hb:PSs X b u):PS X (.If c a b pos) (Q9 T t u):=by
 intro p s f H D I h;~wpAny_If (thn (v p s f H _ I h) λd l ⟨j,k,q⟩=>?_);cases d with
 |true=>&n p l f j D k q
 |false=>&hb p l f j D k q
abbrev LH:TS:=λ_ _ _=>False
def Bw:PS X st LH:=λ_ _ _ _ _ _ h=>h.elim
end
@[inline]abbrev TG:=V->St->Hp->(St->Hp->Prop)->Prop
@[inline]abbrev TGs:=List V->St->Hp->(St->Hp->Prop)->Prop
abbrev PG(X:Cx)(T:Expr)(t:TG):Prop:=
 ∀ (p:List (Addr × Obj)) (s:Shared) (c:St) (H:Hp) (v:V) (u:Value) (Q:St->Hp->Prop),Inv X p c H s->aE v u->t v c H Q ->
  wpAny (model X.prog X.w) X.A (assign T X.env u) (λ_ d=>∃b h,Inv X p b h d/\Q b h) X.xe s
abbrev PGs(X:Cx)(T:List Expr)(t:TGs):Prop:=
 ∀ (p:List (Addr × Obj)) (s:Shared) (c:St) (H:Hp) (v:List V) (u:List Value) (Q:St->Hp->Prop),Inv X p c H s->aJ v u->t v c H Q ->
  wpAny (model X.prog X.w) X.A (OF ((Os T X.env).map (·.2)) u) (λ_ d=>∃b h,Inv X p b h d/\Q b h) X.xe s
@[inline]abbrev FK:=V->V->V->Hp->(Hp->Prop)->Prop
abbrev LI(X:Cx)(t:FK):Prop:=
 ∀ (p:List (Addr × Obj)) (s:Shared) (b:St) (H:Hp) (o i v:V) (O I u:Value) (Q:Hp->Prop),Inv X p b H s->aE o O->aE i I->aE v u->t o i v H Q ->
  wpAny (model X.prog X.w) X.A (setItem O I u) (λ_ c=>∃h,Inv X p b h c/\Q h) X.xe s
section
variable {X:Cx} {pos:Pos}
abbrev tH(i:Nat):TG:=λv b H Q=>Q (b.set i (aw v)) H
def FL{i:Nat}(hN:X.N.Nodup)(hi:X.N[i]?=aw x)(b:Loc X.env.scope x)(d:X.fn x=aN\/X.env.scope.names.lookup x=aw .local:=by first |&.inl rfl |&.inr rfl |assumption):PG X (.Name x pos) (tH i):=by
 intro p s f H v u Q I r h;&wpAny_assign_Name (jj I hN hi b r (λj c=>⟨_,H,c,h⟩) d)
abbrev Rb:TGs:=λv b H Q=>v=[]/\Q b H
abbrev Ki(t:TG)(u:TGs):TGs:=λc d H Q=>∃v r,c=v::r/\t v d H λb h=>u r b h Q
def FM:PGs X [] Rb:=by
 intro p s b H v u Q I r h;#{e,h}:=h;subst e;cases r;&assignInOrder_nil ⟨b,H,I,h⟩
def Bx{e:Expr}{E:List Expr}{t:TG}{u:TGs}(y:PG X e t)(j:PGs X E u)
  (hs:(Os (e::E) X.env).map (·.2)=assign e X.env::(Os E X.env).map (·.2):=by rfl):PGs X (e::E) (Ki t u):=by
 intro p s f H B U Q I r h;#{v,z,l,h}:=h;subst l;cases r with
 |cons r c=>
  rw[hs];~assignInOrder_cons (thn (y p s f H _ _ _ I r h) λ_ n ⟨b,k,d,q⟩=>?_);&j p n b k _ _ Q d c q
abbrev Rc(K:VY)(n:Nat)(t:TGs):TG:=λv c H Q=>∃a b,v = .ref a/\SqT K H a b/\b.length=n/\t b c H Q
def LJ{k:Nat}{n:Nat}(J:X.calm=aN)(h:PGs X E t)
  (q:(Os E X.env).length=n:=by rfl) (c:(Os E X.env).findIdx? (·.1)=aD:=by rfl):PG X (.Tuple E k pos) (Rc X.K n t):=by
 intro p s f H v u Q I r d;#{a,z,L,y,C,d}:=d;subst L;cases r;#{T,j,U,Y}:=I.tuple y;~assign_Tuple_tuple (I.ok.hd J) U (by simp[q,<-C,j.length]) c λl O=>?_;!B:Inv X p f H { s with heap:=l }:=I.kept (t':=s.toks) λb o e=>O b o (ZH (Zv e)) e;&h p _ f H z _ Q B (by simpa using j) d
abbrev Re(c T:TE)(t:FK):TG:=λv b H Q=>c b H λo h=>T b h λi d=>t o i v d λf=>Q b f
def LK{o i:Expr}{d T:TE}{t:FK}(n:PE X o d)(hi:PE X i T)(hs:LI X t)
  (k:∀v,assign (.Subscript o i pos) X.env v=(do
   let O <-holding [v] (eval o X.env)
   let b <-holding [v,O] (eval i X.env)
   standAt pos
   holding [v,O,b] (setItem O b v)
   release [v,O,b] []):=by intro _;rfl):PG X (.Subscript o i pos) (Re d T t):=by
 intro p s c H v u Q I r h;rw[k];~Za0 (Za9 (thn (n p s c H _ I h) λO L ⟨x,B,j,r1,q⟩=>?_));~Za0 (Za9 (thn (hi p L c B _ j q) λb E ⟨y,z,C,r2,f⟩=>?_));~Za0 (Zbw (Za0 (Za9 (thn (hs p E c z x y v O b u _ C r1 r2 r f) λ_ Y ⟨U,J,l⟩=>?_))));&wpAny_release ⟨c,U,J,l⟩
abbrev Bz(T:TE)(g:TG):TS:=λD b H=>T b H λx h=>g x b h D.nx
def BA{T e:Expr}{b:TE}{g:TG}(u:PE X e b)(l:PG X T g)(hs:ZaU [T] e pos.line X.env=pure aS:=by rfl)(j:ZaS [T] e X.env=pure aD:=by rfl)
  (n:(Os [T] X.env).map (·.2)=[assign T X.env]:=by rfl):PS X (.Assign [T] e pos) (Bz b g):=by
 intro p s c H D I h;~wpAny_Assign_stores (thn (u p s c H _ I h) λv k ⟨x,d,f,r1,Q⟩=>?_) hs j;rw[n];&thn (l p k c d x v _ f r1 Q) λ_ y q=>q
def LL{i:Nat}{x:Str}{e:Expr}{T:TE}{p:Pos}(hN:X.N.Nodup)(hi:X.N[i]?=aw x)(j:Loc X.env.scope x)(l:PE X e T)(hs:ZaT e (aw (.Name x p)) pos.line X.env=pure aS:=by rfl)(n:X.fn x=aN\/X.env.scope.names.lookup x=aw .local:=by first |&.inl rfl |&.inr rfl |assumption) :
  PS X (.Assign [.Name x p] e pos) (Bz T (tH i)):=by
 intro b s k H D I h;~wpAny_Assign_Name (thn (l b s k H _ I h) λv u ⟨y,c,d,r1,q⟩=>?_) hs;&jj d hN hi j r1 (λz f=>⟨_,c,f,q⟩) n
abbrev Rf(i j:Nat)(T:TA):TS:=λD b H=>T b H λc h=>∃v w,c=[v,w]/\D.nx ((b.set i (aw v)).set j (aw w)) h
def LM{i j:Nat}{x y:Str}{a b:Expr}{T:TA}{E J pt:Pos}{C n f}(hc:X.calm=aN)(hN:X.N.Nodup)(hi:X.N[i]?=aw x)(hj:X.N[j]?=aw y)(B:i ≠ j)
  (Y:X.env.scope.names.lookup x=aw .local) (O:X.env.scope.names.lookup y=aw .local) (ha:PA X [a,b] T)
  (hw:ZaS [.Tuple [.Name x E,.Name y J] C pt] (.Tuple [a,b] n f) X.env=pure (aw [x,y]))
  (hs:ZaU [.Tuple [.Name x E,.Name y J] C pt] (.Tuple [a,b] n f) pos.line X.env=pure aS:=by rfl) :
  PS X (.Assign [.Tuple [.Name x E,.Name y J] C pt] (.Tuple [a,b] n f) pos) (Rf i j T):=by
 intro c s L H D I h;rw[exec_Assign_arm];~Za0 (Zbw ?_);rw[hs];~Za0 (Zbl ?_);rw[if_neg (by decide)];~Za0 (Tuple_ (thn (ha _ c s L H _ I h) λus k ⟨vs,U,I1,r1,Q⟩=>?_));#{v,w,e1,Q}:=Q;subst e1
 obtain⟨u,u2,rfl,rv,l⟩:∃u u2,us=[u,u2]/\aE v u/\aE w u2:=by
  cases r1 with
  |cons p q=>
   cases q with
   |cons p' q'=>
    cases q';&{_,_,rfl,p,p'}
 ~Zbh ?_ (by show 2<=sizeLine;decide);!I2:Inv X c L U { k with heap:=k.heap.push { cls:=.type "tuple", data:=.seq [u,u2].toArray } }:=I1.kept (t':=k.toks) λb o e=>Zc _ e;rw[hw];~Za0 (Zbl ?_);show wpAny (model X.prog X.w) X.A (do rule "assign.swapped-stores"; let d <-unpackItems (.ref k.heap.objs.size) 2 aD;OF [λv=>NO X.env y v,λv=>NO X.env x v] d.reverse;pure Flow.next) _ _ _;~Za0 (Zbs (Za0 (unpackItems_tuple (items:=#[u,u2]) (I.ok.hd hc) (IsTup.new k.heap _) λh' z=>?_)));!I3:=I2.kept (h':=h') (t':=k.toks) λb o e=>z b o (ZH (Zv e)) e;show wpAny _ _ (OF [λv=>NO X.env y v,λv=>NO X.env x v] [u2,u] >>= λ_=>pure Flow.next) _ _ _;~Za0 (assignInOrder_cons (wpAny_bindName (jj I3 hN hj (.inl O) l (λs2 I4=>?_) (.inr O))));~assignInOrder_cons (wpAny_bindName (jj I4 hN hi (.inl Y) rv (λs3 Z=>assignInOrder_nil (Zbl ?_)) (.inr Y)));rw[List.set_comm _ _ (Ne.symm B)] at Z;&{_,U,Z,Q}
end
section
variable {X:Cx} {pos:Pos}
abbrev BC(c:TT)(T:TS):TS:=λD d H=>∃W:Nat->St->Hp->Prop,(∃m,W m d H)/\∀m d H,W m d H ->
 c d H λb h=>if b=aN then ∃N:St->Hp->Prop,(∀f j,N f j->∃k,k < m/\W k f j)/\T { D with nx:=N,ct:=N,bk:=D.nx } d h else D.nx d h
def BD(E:PassesOwn (model X.prog X.w) X.A X.env X.xe)(hc:PT X c tc)(hb:PSs X body tb):PS X (.While c body [] pos) (BC tc tb):=by
 intro p s Z H D I h;#{W,⟨m0,w0⟩,T}:=h;~wpAny_While (codeAny_whileLoop (λn s'=>∃k U,Inv X p k U s'/\W n k U) ?_ m0 ⟨Z,H,I,w0⟩);rintro n s1 ⟨j,L,Y,w1⟩;~Zbk E (thn (hc p s1 j L _ Y (T n j L w1)) λb s2 ⟨J,O,q⟩=>?_);cases b with
 |true=>
  #{N,hN,q}:=q;rw[if_pos rfl];~Zbk E (thn (hb p s2 j J _ O q) λf s3 Q=>?_);cases f with
  |next=>
   #{d,l,y,z}:=Q;#{u,C,B}:=hN d l z;&{u,C,d,l,y,B}
  |cont=>
   #{d,l,y,z}:=Q;#{u,C,B}:=hN d l z;&{u,C,d,l,y,B}
  |brk=>&Q
  |ret v=>&Q
 |false=>
  rw[if_neg Zh];&Za5 ⟨j,J,O,q⟩
end
structure It where
 go:Nat->Hp->Prop
 yld:Nat->Hp->V->Hp->Prop
 stop:Nat->Hp->Prop
abbrev iL(X:Cx)(d:List (Addr × Obj))(H:Hp)(b:Addr):Prop:=
 H b=aD/\b ≠ X.env.locals/\b ∉ X.fs/\(b ∈ X.ex\/X.s₀.heap.objs.size<=b)/\(∀x c,X.env.cells.lookup x=aw c->c ≠ b)/\∀p ∈ X.pn++d,p.1 ≠ b
def Inv.fpOk(I:Inv X d k H s)(hb:s.heap.objs.size<=b)(j:h b=aD):iL X d h b:=by
 ~{j,Wp (ZD I.lt hb),I.nofs hb,.inr (ZJ I.sz hb),λx c e z=>?_,λp f z=>?_}
 ·#{v,q}:=I.cell x c e;&absurd (ZD q.lt (by rw[z];&hb)) (ZI _)
 ·&absurd (ZD (Zv (I.pin p f).1) (by rw[z];&hb)) (ZI _)
structure Turn(P:Program)(w:World)(K:VY)(tg:Expr)(J:It)(fp:List Addr)(it:Addr)(tn:Nat->Heap->Prop):Prop where
 mem:it ∈ fp
 obj:∀i h,tn i h->∀b ∈ fp,∃o,h.get? b=aw o/\∀v,o.data ≠ .cell v
 keep:∀i h h',tn i h->(∀b ∈ fp,∀o,h.get? b=aw o->h'.get? b=aw o)->tn i h'
 item:∀ (X:Cx),X.prog=P->X.w=w->X.K=K->X.calm=aN->∀ (i:Nat) (pins:List (Addr × Obj)) (s:Shared) (σ:St) (H:Hp) (E:Value->Shared->Prop),Inv X pins σ H s->(∀b ∈ fp,iL X pins H b)->tn i s.heap->J.go i H ->
  wpAny (model P w) X.A (pyNext (.ref it)) (λr s1=>∃u,r=aw u ∧
   wpAny (model P w) X.A (Zav tg (.ref it) u) (λ_ s2=>∃x H',Inv X pins σ H' s2/\aE x u/\J.yld i H x H'/\tn (i+1) s2.heap/\∀b ∈ fp,H' b=aD) E s1) E s
 done:∀ (X:Cx),X.prog=P->X.w=w->X.K=K->X.calm=aN->∀ (i:Nat) (pins:List (Addr × Obj)) (s:Shared) (σ:St) (H:Hp) (E:Value->Shared->Prop),Inv X pins σ H s->(∀b ∈ fp,iL X pins H b)->tn i s.heap->J.stop i H ->
  wpAny (model P w) X.A (pyNext (.ref it)) (λr s1=>r=aD/\Inv X pins σ H s1) E s
 self:∀ (A:Around) (i:Nat) (s:Shared) (Q:Value->Shared->Prop) (E:Value->Shared->Prop),tn i s.heap->Q (.ref it) s->wpAny (model P w) A (pyIter (.ref it)) Q E s
@[inline]abbrev TI:=St->Hp->(It->Hp->Prop)->Prop
abbrev PIE(X:Cx)(p:List (Addr × Obj))(j:St)(k:Expr)(R:It->Hp->Prop)(I:Value)(c:Shared):Prop:=
 ∃ (d:Addr) (f:List Addr) (T:Nat->Heap->Prop) (J:It) (h:Hp),I = .ref d/\Inv X p j h c/\Turn X.prog X.w X.K k J f d T/\T 0 c.heap/\(∀b ∈ f,iL X p h b)/\R J h
abbrev PI(X:Cx)(T I:Expr)(wi:TI):Prop:=
 ∀ (p:List (Addr × Obj)) (s:Shared) (b:St) (H:Hp) (R:It->Hp->Prop),Inv X p b H s->wi b H R ->
  wpAny (model X.prog X.w) X.A (eval I X.env) (λv c=>wpAny (model X.prog X.w) X.A (pyIter v) (PIE X p b T R) X.xe c) X.xe s
def tI(d:s.heap.get? it=aw o)(f:o.cls = .type n)(hd:o.data = .fields v)
  (c:["enumerate", "zip", "dict_itemiterator", "dict_reverseitemiterator", "odict_iterator", "itertools.zip_longest", "itertools.pairwise"].contains n=aS) (b:Q () s):wpAny M A (Zav T (.ref it) u) Q E s:=by
 unfold Zav
 cases T <;> first
  |&Zbl b
  | (cases u <;> first
    |&Zbl b
    | (~Za0 (wpAny_load d ?_)
       rw[f,hd];show wpAny M A (if (["enumerate", "zip", "dict_itemiterator", "dict_reverseitemiterator", "odict_iterator", "itertools.zip_longest", "itertools.pairwise"].contains n && v[0]? == aw (rawInt _))=aN then _ else _) Q E s;rw[if_neg (by intro h;rw[c,XD] at h;cases h)];&Zbl b))
abbrev Itl(K:VY)(a:Addr):It:=
 ⟨λi H=>∃X x,SqL K H a X/\X[i]?=aw x,λi H x h=>h=H/\∀X,SqL K H a X->X[i]?=aw x,λi H=>∃X,SqL K H a X/\X.length<=i⟩
abbrev Itt(K:VY)(a:Addr):It:=
 ⟨λi H=>∃X x,SqT K H a X/\X[i]?=aw x,λi H x h=>h=H/\∀X,SqT K H a X->X[i]?=aw x,λi H=>∃X,SqT K H a X/\X.length<=i⟩
abbrev Itr(lo:Int)(n:Nat):It:=⟨λi _=>i < n,λi H x h=>h=H/\x = .int (lo+i),λi _=>n<=i⟩
def zH{P:Program}{w:World}{K:VY}{tg:Expr}(a it:Addr):Turn P w K tg (Itl K a) [it] it (λi h=>h.IsListIter it a i) where
 mem:=by simp
 obj:=λi h st b hb=>by
  !e:b=it:=by simpa using hb
  subst e;#{o,e,c,d}:=st;&{o,e,λv z=>by rw[d] at z;cases z}
 keep:=λi h l st k=>st.at λo e=>k it (by simp) o e
 item:=by
  intro X y C L hc i f s σ H E I q st U;subst y C L;#{xs,x,n,Q}:=U;#{T,rv,p,hz}:=I.list n;#{u,hu,ru}:=rv.get Q;#{O,Z,f2,B,Y,J}:=q it (by simp);~Zbq st p.isList (x:=u) (by simpa using hu) λl j sb=>?_;!I1:Inv X f σ H { s with heap:=l }:=I.turned (t':=s.toks) (λb o hb e=>(sb.2 b hb).trans e) O Z B Y J;#{o,e,c,d}:=id j;&{u,rfl,tI (s:={ s with heap:=l }) e c d (by decide) ⟨x,H,I1,ru,⟨rfl,λys hy=>by rw[I.list_inj hy n];&Q⟩,j,λb hb=>(q b hb).1⟩}
 done:=by
  intro X y C L hc i f s σ H E I q st U;subst y C L;#{xs,n,Q}:=U;#{T,rv,p,hz}:=I.list n;#{O,Z,f2,B,Y,J}:=q it (by simp);!hl:=rv.length;&Zbp (I.ok.hd hc) st p.isList (by simp;lia) λl eb=>⟨rfl,I.turned (t':=s.toks) (λb o hb e=>eb b o hb e) O Z B Y J⟩
 self:=λ_ _ _ _ _ st h=>wpAny_pyIter_listiter st h
def v7{P:Program}{w:World}{K:VY}{tg:Expr}(a it:Addr):Turn P w K tg (Itt K a) [it] it (λi h=>h.IsTupleIter it a i) where
 mem:=by simp
 obj:=λi h st b hb=>by
  !e:b=it:=by simpa using hb
  subst e;#{o,e,c,d}:=st;&{o,e,λv z=>by rw[d] at z;cases z}
 keep:=λi h n st k=>st.at λo e=>k it (by simp) o e
 item:=by
  intro X B J O hc i f s σ H E I y st U;subst B J O;#{xs,x,q,T}:=U;#{j,rv,p,hz}:=I.tuple q;#{u,hu,ru}:=rv.get T;#{Q,Z,f2,C,Y,L}:=y it (by simp);~wpAny_pyNext_tuple_item st (show s.heap.IsTuple a j.toArray from p) (x:=u) (by simpa using hu) λn l sb=>?_;!I1:Inv X f σ H { s with heap:=n }:=I.turned (t':=s.toks) (λb o hb e=>(sb.2 b hb).trans e) Q Z C Y L;#{o,e,c,d}:=id l;&{u,rfl,tI (s:={ s with heap:=n }) e c d (by decide) ⟨x,H,I1,ru,⟨rfl,λys hy=>by rw[I.tuple_inj hy q];&T⟩,l,λb hb=>(y b hb).1⟩}
 done:=by
  intro X B J O hc i f s σ H E I y st U;subst B J O;#{xs,q,T}:=U;#{j,rv,p,hz}:=I.tuple q;#{Q,Z,f2,C,Y,L}:=y it (by simp);!hl:=rv.length;&wpAny_pyNext_tuple_end (I.ok.hd hc) st (show s.heap.IsTuple a j.toArray from p) (by simp;lia) λn eb=>⟨rfl,I.turned (t':=s.toks) (λb o hb e=>eb b o hb e) Q Z C Y L⟩
 self:=λ_ _ _ _ _ st h=>wpAny_pyIter_tupleiter st h
def v8{P:Program}{w:World}{K:VY}{tg:Expr}(it:Addr)(lo:Int)(n:Nat):Turn P w K tg (Itr lo n) [it] it (λi h=>VL h it (lo+(i:Nat) * 1) ((n:Int) - (i:Nat)) 1) where
 mem:=by simp
 obj:=λi h st b hb=>by
  !e:b=it:=by simpa using hb
  subst e
  &⟨_,st,λv z=>by
   !z':Data.fields _=Data.cell v:=z;cases z'⟩
 keep:=λi h d st k=>k it (by simp) _ st
 item:=by
  intro X j q y B i p s Q H E I f st J;subst j q y;#{C,L,f2,l,O,u}:=f it (by simp);!W:=Walks.range (prog:=X.prog) (w:=X.w) (I.ok.hd B) it lo 1 n;~W.item i s _ _ J st λv d T hv c Y=>?_;#{t,rfl}:=hv;!Z:Inv X p Q H { s with heap:=d,toks:=T }:=I.turned (λb o hb e=>Y b o (by simpa using hb) e) C L l O u;~⟨_,rfl,tI (s:={ s with heap:=d,toks:=T }) (n := "range_iterator") c rfl rfl (by decide) ⟨.int (lo+i),H,Z,⟨t,?_⟩,⟨rfl,rfl⟩,c,λb hb=>(f b hb).1⟩⟩;rw[Int.mul_one]
 done:=by
  intro X j q y B i p s Q H E I f st J;subst j q y;#{C,L,f2,l,O,u}:=f it (by simp);&Zbr (I.ok.hd B) st (by !:n<=i:=J;lia) λd U=>⟨rfl,I.turned (t':=s.toks) (λb o hb e=>U b o hb e) C L l O u⟩
 self:=λ_ _ _ _ _ st h=>Zbn st h
section
variable {X:Cx} {tg:Expr}
abbrev BE(K:VY)(T:TE):TI:=λc H R=>T c H λx h=>∃a,x = .ref a/\(∃b,SqL K h a b)/\R (Itl K a) h
abbrev Rg(K:VY)(T:TE):TI:=λc H R=>T c H λx h=>∃a,x = .ref a/\(∃b,SqT K h a b)/\R (Itt K a) h
def xZ{l:Expr}{T:TE}(n:PE X l T):PI X tg l (BE X.K T):=by
 intro c s k H R I h;~thn (n c s k H _ I h) λv f ⟨x,u,d,r1,Q⟩=>?_;#{a,e,⟨z,j⟩,q}:=Q;subst e;cases r1;#{y,C,p,B}:=d.list j;~Zbm p.isList ?_;~{f.heap.objs.size,[f.heap.objs.size],_,_,u,rfl,d.kept (t':=f.toks) λb o e=>Zc _ e,zH a _,⟨_,Zs _ rfl,rfl,rfl⟩,λb hb=>?_,q};!e:b=f.heap.objs.size:=by simpa using hb
 subst e;&d.fpOk (Zf _) (d.hok.fresh (Zf _))
def LN{l:Expr}{T:TE}(u:PE X l T):PI X tg l (Rg X.K T):=by
 intro d s n H R I h;~thn (u d s n H _ I h) λv c ⟨x,y,f,r1,Q⟩=>?_;#{a,e,⟨z,k⟩,q}:=Q;subst e;cases r1;#{j,C,p,B}:=f.tuple k;~Zbo (show c.heap.IsTuple a j.toArray from p) ?_;~{c.heap.objs.size,[c.heap.objs.size],_,_,y,rfl,f.kept (t':=c.toks) λb o e=>Zc _ e,v7 a _,⟨_,Zs _ rfl,rfl,rfl⟩,λb hb=>?_,q};!e:b=c.heap.objs.size:=by simpa using hb
 subst e;&f.fpOk (Zf _) (f.hok.fresh (Zf _))
def tJ{lo hi:Int}{T:Nat}(I:Inv X p d H s)(k:-(2 ^ 62)<=lo)(l:lo < 2 ^ 62)(h:-(2 ^ 62)<=hi)(h4:hi < 2 ^ 62)
  (q:R (Itr lo (hi - lo).toNat) H):wpAny (model X.prog X.w) X.A (pyIter (.ref s.heap.objs.size)) (PIE X p d tg R) E { s with heap:=s.heap.push { cls:=.type "range", data:=.fields #[.int lo t,.int hi u,.int 1 v] },toks:=T }:=by
 ~wpAny_pyIter_range (IsRange.new ..) (small_one k l h h4) ?_;!c:Inv X p d H { s with heap:=s.heap.push { cls:=.type "range", data:=.fields #[.int lo t,.int hi u,.int 1 v] },toks:=T }:=I.kept λb o e=>Zc _ e
 ~⟨(s.heap.push { cls:=.type "range", data:=.fields #[.int lo t,.int hi u,.int 1 v] }).objs.size,[(s.heap.push { cls:=.type "range", data:=.fields #[.int lo t,.int hi u,.int 1 v] }).objs.size],_,_,H,rfl,
  c.kept (t':=T) λb o e=>Zc _ e,v8 _ lo (hi - lo).toNat,?_,λb hb=>?_,q⟩
 ·!f:lo+((0:Nat):Int) * 1=lo:=by simp
  !j:(((hi - lo).toNat:Nat):Int) - ((0:Nat):Int)=Builtin.Range.rangeSize lo hi 1:=by rw[ZaH];split <;> lia
  show VL _ _ (lo+((0:Nat):Int) * 1) ((((hi - lo).toNat:Nat):Int) - ((0:Nat):Int)) 1;rw[f,j];&Zs _ rfl
 ·!e:b=(s.heap.push { cls:=.type "range", data:=.fields #[.int lo t,.int hi u,.int 1 v] }).objs.size:=by simpa using hb
  subst e;&c.fpOk (Zf _) (c.hok.fresh (Zf _))
abbrev Kj(T:TA):TI:=λb H R=>T b H λv h=>∃j:Int,v=[.int j]/\-(2 ^ 62)<=j/\j < 2 ^ 62/\R (Itr 0 j.toNat) h
abbrev Kk(T:TA):TI:=λb H R=>T b H λv h=>∃i j:Int,v=[.int i,.int j]/\(-(2 ^ 62)<=i/\i < 2 ^ 62/\-(2 ^ 62)<=j/\j < 2 ^ 62)/\R (Itr i (j - i).toNat) h
def zI(u:Gl X "range")(v:X.mg "range" = aD)(l:PA X [a] T)(hs:ZaQ [a] X.env=[(aS,eval a X.env)]:=by rfl):PI X tg (.Call (.Name "range" p) [a] [] c) (Kj T):=by
 intro b s n H R I h;~Call_ (eF I u v boot_range (W4 (thn (l c b s n H _ I h) λU B ⟨z,y,k,r1,Q⟩=>?_) hs rfl));#{j,e,Q,d,q}:=Q;subst e;cases r1 with
 |cons r f=>
  cases f;#{t,rfl}:=r;&call_range_1 (tJ k (by lia) (by lia) Q d (by simpa using q))
def zJ(C:Gl X "range")(E:X.mg "range" = aD)(u:PA X [a,b] T)(hs:ZaQ [a,b] X.env=[(aS,eval a X.env),(aS,eval b X.env)]:=by rfl)(c:ZaQ [b] X.env=[(aS,eval b X.env)]:=by rfl) :
  PI X tg (.Call (.Name "range" p) [a,b] [] k) (Kk T):=by
 intro d s v H R I h;~Call_ (eF I C E boot_range (W4 (thn (u k d s v H _ I h) λU Y ⟨O,L,n,r1,Q⟩=>?_) (by rw[hs,c]) (by rw[c];rfl)));#{i,j,e,⟨Q,l,y,z⟩,q}:=Q;subst e;cases r1 with
 |cons r f=>
  cases f with
  |cons B f=>
   cases f;#{t,rfl}:=r;#{J,rfl}:=B;&call_range_2 (tJ n Q l y z q)
abbrev Rh(wi:TI)(g:TG)(T:TS):TS:=λD b H=>wi b H λJ j=>∃W:Nat->Nat->St->Hp->Prop,(∃m,W 0 m b j)/\∀i m b H,W i m b H ->
 (J.stop i H/\D.nx b H)\/(J.go i H/\∃N:St->Hp->Prop,(∀c h,N c h->∃f,f < m/\W (i+1) f c h)/\∀x h,J.yld i H x h->g x b h λd k=>T { D with nx:=N,ct:=N,bk:=D.nx } d k)
abbrev mL(f:List Addr)(h:Heap):List (Addr × Obj):=f.filterMap λb=>(h.get? b).map λo=>(b,o)
def fD(hb:b ∈ f)(e:h.get? b=aw o):(b,o) ∈ mL f h:=Yy.mpr ⟨b,hb,by rw[e];rfl⟩
def zK(c:p ∈ mL f h):p.1 ∈ f/\h.get? p.1=aw p.2:=by
 #{b,hb,e}:=Yy.mp c;cases q:h.get? b with
 |none=>rw[q] at e;cases e
 |some o=>
  rw[q] at e;!E:(b,o)=p:=Option.some.inj e;subst E;&{hb,q}
def Inv.pinned(I:Inv X c k H s)(u:∀b ∈ f,iL X c H b)(n:∀b ∈ f,∃o,s.heap.get? b=aw o/\∀v,o.data ≠ .cell v):Inv X (c++mL f s.heap) k H s:=
 I.pins_of λp j=>(ZR.mp j).elim (λz=>I.pin p (ZB _ z)) λz=>by
  #{hb,e}:=zK z;#{h,q,l,_}:=u p.1 hb;#{o,E,d}:=n p.1 hb;rw[e] at E;cases E;&{e,h,q,l,d}
def Inv.unpinned(I:Inv X (b++d) c H s):Inv X b c H s:=I.pins_of λp h=>I.pin p (ZB _ (ZW _ h))
def LP(C:PassesOwn (model X.prog X.w) X.A X.env X.xe)(hc:X.calm=aN)(hi:PI X tg z wi)(hg:PG X tg g)(hb:PSs X body tb)
  (hs:∀x,Zaq z X.env x=pure x:=by intro _;rfl):PS X (.For tg z body [] pos) (Rh wi g tb):=by
 intro p s σ H D I h;~wpAny_For (thn (hi p s σ H _ I h) λv s1 h1=>thn h1 λitv s2 h2=>?_) hs;#{it,Y,tn,J,H2,e,I2,T,st2,f2,W,⟨m0,w0⟩,E}:=h2;subst e;!q:∀ {H':Hp},(∀b ∈ Y,H' b=aD)->∀b ∈ Y,iL X p H' b:=λhn b hb=>⟨hn b hb,(f2 b hb).2⟩;~codeAny_forLoop_any (λn s'=>∃i y H',Inv X p y H' s'/\tn i s'.heap/\(∀b ∈ Y,H' b=aD)/\W i n y H') ?_ m0 ⟨0,σ,H2,I2,st2,λb hb=>(f2 b hb).1,w0⟩;rintro n s3 ⟨i,j,Z,I3,L,O,w3⟩;rcases E i n j Z w3 with ⟨stop,qn⟩ |⟨go,N,hN,step⟩
 ·~Zbk C (thn (T.done X rfl rfl rfl hc i p s3 j Z X.xe I3 (q O) L stop) λr s4 ⟨hr,I4⟩=>?_);subst hr;&Za5 ⟨j,Z,I4,qn⟩
 ·~Zbk C (thn (T.item X rfl rfl rfl hc i p s3 j Z X.xe I3 (q O) L go) λr s4 ⟨u,hr,h4⟩=>?_);subst hr;~Zbk C (thn h4 λ_ s5 ⟨x,H5,I5,r5,y5,B,fr5⟩=>?_);!I5':=I5.pinned (q fr5) (T.obj _ _ B);~Zbk C (thn (hg _ s5 j H5 x u _ I5' r5 (step x H5 y5)) λ_ s6 ⟨σ6,H6,I6,q6⟩=>?_);~Zbk C (thn (hb _ s6 σ6 H6 _ I6 q6) λf s7 Q=>?_)
  !again:∀ {c:St} {k:Hp},Inv X (p++mL Y s5.heap) c k s7->N c k->∃m,m < n/\∃i y H',Inv X p y H' s7/\tn i s7.heap/\(∀b ∈ Y,H' b=aD)/\W i m y H':=λ{c k} l U=>by
   #{m',hm,w7}:=hN c k U;~{m',hm,i+1,c,k,l.unpinned,T.keep _ _ _ B λb hb o e=>(l.pin (b,o) (ZB _ (ZB _ (fD hb e)))).1,λb hb=>?_,w7};#{o,e,d}:=T.obj _ _ B b hb;&(l.pin (b,o) (ZB _ (ZB _ (fD hb e)))).2.1
  cases f with
  |next=>#{c,k,l,U}:=Q;&again l U
  |cont=>#{c,k,l,U}:=Q;&again l U
  |brk=>#{c,k,l,Q}:=Q;&{c,k,l.unpinned,Q}
  |ret v=>#{x7,c,k,l,r7,Q}:=Q;&{x7,c,k,l.unpinned,r7,Q}
end
@[inline]abbrev R2:=V->V->Hp->VK->Prop
abbrev OpR(X:Cx)(f:Value->Value->Sem Value)(r:R2):Prop:=
 ∀ (p:List (Addr × Obj)) (s:Shared) (b:St) (H:Hp) (x y:V) (v u:Value) (Q:VK),Inv X p b H s->aE x v->aE y u->r x y H Q ->
  wpAny (model X.prog X.w) X.A (f v u) (EP X p b Q) X.xe s
abbrev UnR(X:Cx)(f:Value->Sem Value)(r:V->Hp->VK->Prop):Prop:=
 ∀ (p:List (Addr × Obj)) (s:Shared) (b:St) (H:Hp) (x:V) (v:Value) (Q:VK),Inv X p b H s->aE x v->r x H Q ->
  wpAny (model X.prog X.w) X.A (f v) (EP X p b Q) X.xe s
abbrev aV(X:Cx)(f:Value)(r:List V->Hp->VK->Prop):Prop:=
 ∀ (p:List (Addr × Obj)) (s:Shared) (b:St) (H:Hp) (c:List V) (u:List Value) (Q:VK),Inv X p b H s->aJ c u->r c H Q ->
  wpAny (model X.prog X.w) X.A (call f u) (EP X p b Q) X.xe s
abbrev Uw(X:Cx)(r:V->Hp->(Bool->Hp->Prop)->Prop):Prop:=
 ∀ (p:List (Addr × Obj)) (s:Shared) (b:St) (H:Hp) (x:V) (v:Value) (Q:Bool->Hp->Prop),Inv X p b H s->aE x v->r x H Q ->
  wpAny (model X.prog X.w) X.A (truthy v) (TP X p b Q) X.xe s
abbrev tOp(r:R2)(T d:TE):TE:=λb H Q=>T b H λx h=>d b h λy c=>r x y c Q
abbrev tUn(r:V->Hp->VK->Prop)(T:TE):TE:=λb H Q=>T b H λx h=>r x h Q
abbrev rI(C:Int->Int->Prop)(g:Int->Int->V):R2:=λx y H Q=>∃i j,x = .int i/\y = .int j/\C i j/\Q (g i j) H
abbrev rI0(g:Int->Int->V):R2:=λx y H Q=>∃i j,x = .int i/\y = .int j/\Q (g i j) H
abbrev rU(g:Int->V):V->Hp->VK->Prop:=λx H Q=>∃i,x = .int i/\Q (g i) H
section
variable {X:Cx} {a b c:Expr} {ta tb tc:TE} {pos:Pos}
def LQ(B:PE X a ta)(hb:PE X b tb){p:List (Addr × Obj)}{s:Shared}{d:St}{H:Hp}{R:V->V->Hp->Prop}(I:Inv X p d H s)
  (h:ta d H λx q=>tb d q λy j=>R x y j) {Q:Value->Shared->Prop} {f:Value->Value->Sem Value}
  (O:∀v u n x y j,Inv X p d j n->aE x v->aE y u->R x y j->wpAny (model X.prog X.w) X.A (f v u) Q X.xe n) :
  wpAny (model X.prog X.w) X.A (eval a X.env) (λv k=>wpAny (model X.prog X.w) X.A (eval b X.env) (λu l=>wpAny (model X.prog X.w) X.A (f v u) Q X.xe l) X.xe k) X.xe s:=by
 ~thn (B p s d H _ I h) λv L ⟨x,q,z,r1,C⟩=>?_;~thn (hb p L d q _ z C) λu n ⟨y,j,E,r2,J⟩=>?_;&O v u n x y j E r1 r2 J
def Ri{op:VN}{r:R2}(z:OpR X (No op) r)(d:PE X a ta)(hb:PE X b tb):PE X (.BinOp a op b pos) (tOp r ta tb):=by
 intro p s j H Q I h;&wpAny_BinOp (LQ d hb I h λv u n x y B f l k q=>z p n j B x y v u Q f l k q)
def x5(n:UnR X (unaryOp op) r)(k:PE X a ta):PE X (.UnaryOp op a pos) (tUn r ta):=by
 intro p s d H Q I h;&UnaryOp_ (thn (k p s d H _ I h) λv l ⟨x,f,j,r1,q⟩=>n p l d f x v Q j r1 q)
def opI{f:Value->Value->Sem Value}{C:Int->Int->Prop}{g:Int->Int->Int}
  (rule:∀ (i j:Int) (t u:Tok) (s:Shared) (Q:Value->Shared->Prop) (E:Value->Shared->Prop),C i j->Q (.int (g i j) s.toks) { s with toks:=s.toks+1 }->wpAny (model X.prog X.w) X.A (f (.int i t) (.int j u)) Q E s) :
  OpR X f (rI C λi j=>.int (g i j)):=by
 intro p s n H x y v u Q I k d h;#{i,j,rfl,rfl,l,q}:=h;#{t,rfl}:=k;#{T,rfl}:=d;&rule i j t T s _ _ l ⟨.int (g i j),H,I.tok _,⟨_,rfl⟩,q⟩
def Rj{f:Value->Value->Sem Value}{g:Int->Int->Int}
  (rule:∀ (i j:Int) (t u:Tok) (s:Shared) (Q:Value->Shared->Prop) (E:Value->Shared->Prop),Q (.int (g i j) s.toks) { s with toks:=s.toks+1 }->wpAny (model X.prog X.w) X.A (f (.int i t) (.int j u)) Q E s) :
  OpR X f (rI0 λi j=>.int (g i j)):=by
 intro p s l H x y v u Q I k d h;#{i,j,rfl,rfl,q}:=h;#{t,rfl}:=k;#{T,rfl}:=d;&rule i j t T s _ _ ⟨.int (g i j),H,I.tok _,⟨_,rfl⟩,q⟩
def FN{f:Value->Value->Sem Value}{g:Int->Int->Bool}
  (rule:∀ (i j:Int) (t u:Tok) (s:Shared) (Q:Value->Shared->Prop) (E:Value->Shared->Prop),Q (.bool (g i j)) s->wpAny (model X.prog X.w) X.A (f (.int i t) (.int j u)) Q E s) :
  OpR X f (rI0 λi j=>.bl (g i j)):=by
 intro p s l H x y v u Q I k d h;#{i,j,rfl,rfl,q}:=h;#{t,rfl}:=k;#{T,rfl}:=d;&rule i j t T s _ _ ⟨.bl (g i j),H,I,rfl,q⟩
abbrev Ux(i j:Int):Prop:=0<=j/\j<=1000000/\i.natAbs < 2 ^ 64
abbrev Rk(i j:Int):Prop:=(-(2 ^ 64) < i/\i < 2 ^ 64)\/(-(2 ^ 64) < j/\j < 2 ^ 64)
def Rk.ok{i j:Int}(h:Rk i j):IntMulOk i j:=by
 rcases h with ⟨f,d⟩ |⟨f,d⟩
 ·&.of_left (intBits_le_64 f d)
 ·&.of_right (intBits_le_64 f d)
def LR:OpR X (No .Add) (rI0 λi j=>.int (i+j)):=Rj λ_ _ _ _ _ _ _ q=>add_int q
def LS:OpR X (No .Sub) (rI0 λi j=>.int (i - j)):=Rj λ_ _ _ _ _ _ _ q=>sub_int q
def LU:OpR X (No .Mult) (rI Rk λi j=>.int (i * j)):=opI λ_ _ _ _ _ _ _ h q=>mul_int q h.ok
def LV:OpR X (No .Mod) (rI (λ_ j=>0 < j) λi j=>.int (i % j)):=opI λi j _ _ _ _ _ h q=>by
 !d:(0:Int) < j:=h;&mod_int' (by lia) (by rw[Int.fmod_eq_emod_of_nonneg i (by lia)];&q)
def LW:OpR X (No .Pow) (rI Ux λi j=>.int (i ^ j.toNat)):=opI λ_ _ _ _ _ _ _ h q=>pow_int_small h.1 h.2.1 h.2.2 q
def unI{f:Value->Sem Value}{g:Int->Int}
  (rule:∀ (i:Int) (t:Tok) (s:Shared) (Q:Value->Shared->Prop) (E:Value->Shared->Prop),Q (.int (g i) s.toks) { s with toks:=s.toks+1 }->wpAny (model X.prog X.w) X.A (f (.int i t)) Q E s) :
  UnR X f (rU λi=>.int (g i)):=by
 intro p s j H x v Q I d h;#{i,rfl,q}:=h;#{t,rfl}:=d;&rule i t s _ _ ⟨.int (g i),H,I.tok _,⟨_,rfl⟩,q⟩
def rb:UnR X (unaryOp .USub) (rU λi=>.int (-i)):=unI λ_ _ _ _ _ q=>neg_int q
end
section
variable {X:Cx} {a b c:Expr} {ta tb tc:TE} {pos:Pos}
def BF(I:Inv X p d H s)(q:Q (.bl k) H)(e:k=f):EP X p d Q (.bool f) s:=by
 subst e;&{.bl k,H,I,rfl,q}
def Rm:OpR X (Zak .Lt) (rI0 λi j=>.bl (decide (i < j))):=FN λ_ _ _ _ _ _ _ q=>lt_int q
def Rn:OpR X (Zak .LtE) (rI0 λi j=>.bl (decide (i<=j))):=FN λ_ _ _ _ _ _ _ q=>le_int q
def Ro:OpR X (Zak .Gt) (rI0 λi j=>.bl (decide (j < i))):=FN λ_ _ _ _ _ _ _ q=>gt_int q
def Rp:OpR X (Zak .GtE) (rI0 λi j=>.bl (decide (j<=i))):=FN λ_ _ _ _ _ _ _ q=>ge_int q
def LX:OpR X (Zak .Is) (λx y H Q=>y = .non/\Q (.bl (decide (x = .non))) H):=by
 intro p s j H x y v u Q I d f h;#{rfl,q}:=h;cases f;~is_none_gen (BF I q ?_)
 cases x <;> first
  |(cases d;rfl)
  |(#{t,rfl}:=d;rfl)
def FO:OpR X (Zak .IsNot) (λx y H Q=>y = .non/\Q (.bl (!decide (x = .non))) H):=by
 intro p s j H x y v u Q I d f h;#{rfl,q}:=h;cases f;~isnot_none_gen (BF I q ?_)
 cases x <;> first
  |(cases d;rfl)
  |(#{t,rfl}:=d;rfl)
def FP{op:CmpOp}{r:R2}(z:OpR X (Zak op) r)(d:PE X a ta)(hb:PE X b tb)(C:OS op b=aS):PE X (.Compare a [op] [b] pos) (tOp r ta tb):=by
 intro p s j H Q I h;&wpAny_Compare1 (LQ d hb I h λv u n x y B f l k q=>z p n j B x y v u Q f l k q) C
abbrev Kl(t:TE):TT:=λd H Q=>t d H λx h=>∃k,x = .bl k/\Q k h
def FQ(B:OpR X (Zak op) r)(l:PE X a ta)(hb:PE X b tb)(Z:OS op b=aS):PT X (.Compare a [op] [b] pos) (Kl (tOp r ta tb)):=by
 intro p s d H Q I h
 ~wpAny_isTrue_Compare1 (thn (l p s d H _ I h) λv U ⟨x,E,j,r1,q⟩=>thn (hb p U d E _ j q) λu O ⟨y,C,J,r2,f⟩=>
  thn (B p O d C x y v u _ J r1 r2 f) λc s3 ⟨z,Y,T,L,k,e,n⟩=>?_) Z
 subst e;cases L;&Zbx ⟨Y,T,n⟩
abbrev v9(r l:R2)(ta tb tc:TE):TE:=λd H Q=>ta d H λx f=>tb d f λy n=>r x y n λz h=>∃k,z = .bl k ∧
 (if k=aN then tc d h λp j=>l y p j Q else Q (.bl aS) h)
def BG(Y:OpR X (Zak op) r)(j:OpR X (Zak O) r')(T:PE X a ta)(hb:PE X b tb)(hc:PE X c tc)
  (hm:lastMarks [op,O] [b,c]=aS:=by with_unfolding_all rfl):PE X (.Compare a [op,O] [b,c] pos) (v9 r r' ta tb tc):=by
 intro p s f H Q I h
 ~Compare_chain (thn (T p s f H _ I h) λv s1 ⟨x,H1,L,r1,B⟩=>chain_link (thn (hb p s1 f H1 _ L B) λu s2 ⟨y,Z,I2,r2,E⟩=>
  thn (Y p s2 f Z x y v u _ I2 r1 r2 E) λd C ⟨z,n,l,r3,k,e,q⟩=>?_)) hm
 subst e;cases r3;~Zbx ?_;cases k with
 |false=>&ite_ff ⟨.bl aS,n,l,rfl,q⟩
 |true=>&ite_tt (chain_last (thn (hc p C f n _ l q) λw' s4 ⟨z',H4,I4,J,U⟩=>j p s4 f H4 y z' u w' Q I4 r2 J U))
def BH(ho:OpR X (Zak op) r)(j:OpR X (Zak O) r')(Y:PE X a ta)(hb:PE X b tb)(hc:PE X c tc)
  (hm:lastMarks [op,O] [b,c]=aS:=by with_unfolding_all rfl):PT X (.Compare a [op,O] [b,c] pos) (Kl (v9 r r' ta tb tc)):=by
 intro p s f H Q I h
 ~isTrue_chain (thn (Y p s f H _ I h) λv s1 ⟨x,H1,U,r1,B⟩=>test_link (thn (hb p s1 f H1 _ U B) λu s2 ⟨y,H2,I2,r2,E⟩=>
  thn (ho p s2 f H2 x y v u _ I2 r1 r2 E) λd C ⟨z,n,l,r3,k,e,q⟩=>?_)) hm
 subst e;cases r3;~Zbx ?_;cases k with
 |false=>
  #{k',e',q'}:=q;cases e';&ite_ff ⟨n,l,q'⟩
 |true=>
  ~ite_tt (test_last (thn (hc p C f n _ l q) λw' s4 ⟨z',H4,I4,J,q4⟩=>thn (j p s4 f H4 y z' u w' _ I4 r2 J q4) λd' s5 ⟨z2,Z,I5,L,k2,T,q5⟩=>?_));subst T;cases L;&Zbx ⟨Z,I5,q5⟩
abbrev FR(K:VY)(x:V)(H:Hp)(k:Bool):Prop:=
 match x with
 |.non=>k=aS
 |.bl b=>k=b
 |.int i=>k=(i != 0)
 |.str y=>y.length<=sizeLine/\k=((y.length:Int) != 0)
 |.byt y=>y.size<=sizeLine/\k=((y.size:Int) != 0)
 |.ref p=>(∃f,SqL K H p f/\k = !f.isEmpty)\/(∃f,SqT K H p f/\k = !f.isEmpty)\/∃d,H p=aw (.dK d)/\k = !d.isEmpty
 |_=>False
def wa{d:Type}{k:List (d × V)}{v:List (d × Value)}(r:KV k v):(!v.isEmpty) = !k.isEmpty:=by
 cases r <;> rfl
def mM{xs:List V}{its:List Value}(r:aJ xs its):(!its.toArray.isEmpty) = !xs.isEmpty:=by
 cases r <;> simp
def jY:(sizeLine:Nat) < 2 ^ 63:=by rw[ZaO];decide
def LY:Uw X (λx H Q=>∃k,FR X.K x H k/\Q k H):=by
 intro C s O H x v Q I l h;#{k,e,q}:=h;!T:=jY;!hs:sizeLine=16777216:=ZaO;cases x with
 |non=>
  cases l;!E:k=aS:=e;subst E;&truthy_none ⟨H,I,q⟩
 |bl b=>
  cases l;!E:k=b:=e;subst E;&Zbx ⟨H,I,q⟩
 |int i=>
  #{t,rfl}:=l;!E:k=(i != 0):=e;subst E;&PySem.P.truthy_int ⟨H,I,q⟩
 |str y=>
  #{t,rfl}:=l;obtain⟨L,E⟩:y.length<=sizeLine/\k=((y.length:Int) != 0):=e;subst E;&PySem.P.truthy_str (by lia) ⟨H,I.tok _,q⟩
 |byt y=>
  #{t,rfl}:=l;obtain⟨L,E⟩:y.size<=sizeLine/\k=((y.size:Int) != 0):=e;subst E;&PySem.W.truthy_bytes (by lia) ⟨H,I.tok _,q⟩
 |ref p=>
  cases l;!E:(∃j,SqL X.K H p j/\k = !j.isEmpty)\/(∃j,SqT X.K H p j/\k = !j.isEmpty)\/∃d,H p=aw (.dK d)/\k = !d.isEmpty:=e;rcases E with ⟨j,n,E⟩ |⟨j,n,E⟩ |⟨d,n,E⟩
  ·subst E;#{z,r,u,B}:=I.list n;!f:=r.length;&wpAny_truthy_list u.isList (by simp only[Zk];lia) ⟨H,I.tok _,by rw[mM r];&q⟩
  ·subst E;#{z,r,u,B}:=I.tuple n;!f:=r.length;&truthy_tuple u (by simp only[Zk];lia) ⟨H,I.tok _,by rw[mM r];&q⟩
  ·subst E;obtain⟨B,J,vs,r,m⟩:d.length<=sizeLine/\(p == ZaV)=aS/\∃vs,KV d vs/\s.heap.DictOf (bf X.prog X.w) p vs:=I.hok p _ n;!f:d.length=vs.length:=Paired.length r;&wpAny_truthy_dict J m (by lia) ⟨H,I.tok _,by rw[wa r];&q⟩
 |_=>&(show False from e).elim
def BI(q:PE X a ta)(z:∀d,isTrue a X.env d=(do let v <-d;standAt a.pos;holding [v] (truthy v))) :
  PT X a (λf H Q=>ta f H λx j=>∃k,FR X.K x j k/\Q k j):=by
 intro p s f H Q I h;&isTrue_plain (thn (q p s f H _ I h) λv y ⟨x,l,n,r1,u⟩=>LY p y f l x v Q n r1 u) (z _)
def wb:OpR X (No .Add) (λx y H Q=>∃i j,x = .str i/\y = .str j/\i.length+j.length<=sizeLine/\Q (.str (i++j)) H):=by
 intro p s l H x y v u Q I f d h;#{i,j,rfl,rfl,k,q}:=h;#{t,rfl}:=f;#{T,rfl}:=d;&add_str (λT n=>⟨.str (i++j),H,I.tok _,⟨_,rfl⟩,q⟩) k
def bQ(r:aJ [x] U):∃u,U=[u]/\aE x u:=by
 cases r with
 |cons r1 r2=>cases r2;&{_,rfl,r1}
def mN(r:aJ [x,y] U):∃u w',U=[u,w']/\aE x u/\aE y w':=by
 cases r with
 |cons r1 r2=>
  cases r2 with
  |cons d f=>cases f;&{_,_,rfl,r1,d}
def zL(f:X.calm=aN):aV X (.builtin "max") (λxs H Q=>∃i j,xs=[.int i,.int j]/\Q (.int (if j > i then j else i)) H):=by
 intro p s n H xs U Q I r h;#{i,j,rfl,q}:=h;#{u,y,rfl,⟨t,rfl⟩,⟨T,rfl⟩}:=mN r;~max_two_ints (I.ok.hd f) λl v k=>⟨_,H,I.kept k,?_,q⟩;by_cases d:j > i
 ·rw[if_pos d,if_pos d];&{_,rfl}
 ·rw[if_neg d,if_neg d];&{_,rfl}
def zM(f:X.calm=aN):aV X (.builtin "min") (λxs H Q=>∃i j,xs=[.int i,.int j]/\Q (.int (if j < i then j else i)) H):=by
 intro p s n H xs U Q I r h;#{i,j,rfl,q}:=h;#{u,y,rfl,⟨t,rfl⟩,⟨T,rfl⟩}:=mN r;~min_two_ints (I.ok.hd f) λl v k=>⟨_,H,I.kept k,?_,q⟩;by_cases d:j < i
 ·rw[if_pos d,if_pos d];&{_,rfl}
 ·rw[if_neg d,if_neg d];&{_,rfl}
end
structure ObjM(h:Heap)(x dx C:Addr)(mA:Str->Option Value):Prop where
 obj:h.get? x=aw (V3 C dx)
 ns:h.Ns1 dx mA
 ne:dx ≠ x
def zN{h:Heap}{d:Addr}{c:Str->Option Value}(n:h.Ns1 d c):∃O,h.get? d=aw O/\∀name,Rw name O=aw (c name):=by
 #{o,E,u,j,hd,f,_,l}:=n;~{o,j,λname=>?_};!e:=l name;unfold nsFind findBy at e;rw[<-Array.find?_toList] at e;unfold Rw;rw[hd];dsimp only;split
 ·rename_i y q;rw[q] at e;&congrArg aw e
 ·rename_i q;rw[q] at e
  !a:E.toList.any (·.refKey)=aS:=by
   rw[List.any_eq_false];intro y p;#{z,t,b}:=f y (X6.mp p);simp[DictEntry.refKey,b]
  !k:¬ E.toList.any (·.refKey)=aN:=by rw[a];&Zh
  rw[if_neg k];&congrArg aw e
def ObjM.look(I:ObjM h x d C b):∃O,PySem.W.InstAt h x (V3 C d) C (aw O)/\∀name,Rw name O=aw (b name):=
 let ⟨O,ho,hl⟩:=zN I.ns
 ⟨O,⟨I.obj,rfl,rfl,ho⟩,hl⟩
def vY.some_of(r:vY (aw v) o):∃u,o=aw u/\aE v u:=by
 cases o with
 |none=>&(show False from r).elim
 |some u=>&{u,rfl,r}
section
variable {P:Program} {w:World} {H H':Hp} {h h':Heap} {a C dx:Addr} {fs fs':List (Str × V)}
def FS(hok:HOk P w H h)(e:H a=aw (.ins C dx fs)):∃b,ObjM h a dx C b/\(∀f,vY (fs.lookup f) (b f))/\PySem.Within b (fs.map (·.1))/\fs.length<=1000/\H dx=aw (.own a):=by
 #{d,z,ne,ob,b,n,r,q}:=(show ba P w H h a (.ins C dx fs) from hok a _ e);&{b,⟨ob,n,ne⟩,r,q,z,d}
end
structure Cls(K:VY)(C:Addr):Prop where
 pg:Pi K C Str.empty=aN
 hd:PySem.W.hasDictIn K C=aN
 po:PySem.W.plainOver K C=aN
 sa:V1 K (.ref C) "__setattr__" = aw (aw (.builtin "object.__setattr__"))
def Cls.get{K:VY}{C:Addr}(c:Cls K C)(f:Str):Pi K C f=aN:=c.pg
section
variable {X:Cx} {pins:List (Addr × Obj)} {σ:St} {H:Hp} {s:Shared} {A:Around} {E:Value->Shared->Prop} {Q:Value->Shared->Prop} {c:Value} {b:Bool}
inductive TyOf(K:VY)(H:Hp):V->Value->Prop where
 |non:TyOf K H .non (.type "NoneType")
 |bl (x:Bool):TyOf K H (.bl x) (.type "bool")
 |int (i:Int):TyOf K H (.int i) (.type "int")
 |str (x:Str):TyOf K H (.str x) (.type "str")
 |flt (x:UInt64):TyOf K H (.flt x) (.type "float")
 |lst {a:Addr} {xs:List V} (e:H a=aw (.lst xs)):TyOf K H (.ref a) (.type "list")
 |frz {a:Addr} {o:Obj} {xs:List V} (e:H a=aw (.frz o (.lst xs))):TyOf K H (.ref a) (.type "list")
 |tup {a:Addr} {xs:List V} (e:H a=aw (.tup xs)):TyOf K H (.ref a) (.type "tuple")
 |dK {a:Addr} {kvs:List (Key × V)} (e:H a=aw (.dK kvs)):TyOf K H (.ref a) (.type "dict")
 |dT {a:Addr} {kvs:List (List NK × V)} (e:H a=aw (.dT kvs)):TyOf K H (.ref a) (.type "dict")
 |ins {a C dx:Addr} {fs:List (Str × V)} (e:H a=aw (.ins C dx fs)) (cl:Cls K C) (ha:V1 K (.ref C) "__class__" = aw (aw (.builtin "object.__class__")))
   (hn:PySem.W.specialIn K (.builtin "object.__class__") "__get__" = aw (aw (.builtin "getset_descriptor.__get__"))) (htk:PySem.W.takesIn K (.builtin "object.__class__")=aw aN)
   (hm:PySem.W.mroIn K C (.type "object")=aw aN):TyOf K H (.ref a) (.ref C)
def zO(I:Inv X pins σ H s)(d:aE x u)(ty:TyOf X.K H x t)(e:UP X.K t c=aw b)(h:∀T,Q (.bool b) { s with toks:=T }) :
  wpAny (model X.prog X.w) A (call (.builtin "isinstance") [u,c]) Q E s:=by
 cases ty with
 |non=>cases (show u=Value.none from d);&Up PySem.W.kitx_none I.kIn True.intro e (λz=>nomatch z) h
 |bl y=>cases (show u=Value.bool y from d);&Up PySem.W.kitx_bool I.kIn True.intro e (λz=>nomatch z) h
 |int i=>#{t,q}:=(show ∃t,u=Value.int i t from d);cases q;&Up PySem.W.kitx_int I.kIn True.intro e (λz=>nomatch z) h
 |str y=>#{t,q}:=(show ∃t,u=Value.str y t from d);cases q;&Up PySem.W.kitx_str I.kIn True.intro e (λz=>nomatch z) h
 |flt y=>#{t,q}:=(show ∃t,u=Value.float y t from d);cases q;&Up PySem.W.kitx_float I.kIn True.intro e (λz=>nomatch z) h
 |@lst a j ea=>
  cases (show u=Value.ref a from d);#{_,_,n,_,f}:=(show ba X.prog X.w H s.heap a (.lst j) from I.hok a _ ea);&Up ST I.kIn ⟨_,f,rfl⟩ e (λz=>nomatch z) h
 |@frz a ob j ea=>
  cases (show u=Value.ref a from d);#{_,_,_,n,_,f}:=(show ba X.prog X.w H s.heap a (.frz ob (.lst j)) from I.hok a _ ea);&Up ST I.kIn ⟨_,f,rfl⟩ e (λz=>nomatch z) h
 |@tup a j ea=>
  cases (show u=Value.ref a from d);#{_,_,_,p}:=(show ba X.prog X.w H s.heap a (.tup j) from I.hok a _ ea);#{o,f,k,_}:=p;&Up PySem.W.kitx_tuple I.kIn ⟨o,f,k⟩ e (λz=>nomatch z) h
 |@dK a kvs ea=>
  cases (show u=Value.ref a from d);#{_,_,L,_,p}:=(show ba X.prog X.w H s.heap a (.dK kvs) from I.hok a _ ea);#{o,v,l,f,k,_}:=p;&Up Tm I.kIn ⟨o,f,k.1⟩ e (λz=>nomatch z) h
 |@dT a kvs ea=>
  cases (show u=Value.ref a from d);#{_,_,j,_,o,v,l,f,k,_}:=(show ba X.prog X.w H s.heap a (.dT kvs) from I.hok a _ ea);&Up Tm I.kIn ⟨o,f,k.1⟩ e (λz=>nomatch z) h
 |@ins a C dx fs ea cl ha hn htk hm=>
  cases (show u=Value.ref a from d);#{U,O,_}:=FS I.hok ea;#{B,J,_}:=O.look;&Up (PySem.W.kitx_own (cl.get _) cl.hd ha hn htk hm) I.kIn J e (λz=>nomatch z) h
end
structure Room(k:Nat)(A:Around):Prop where
 hd:A.handled=aD
 dp:A.depth+3 * k+5 < recursionLimit
 un:A.units+16 * k+200 < cLine
 gd:A.guards=aw []
def Room.deeper{k:Nat}(r:Room (k+1) A)(env:Env):Room k (A.deeper env):=
 ⟨r.hd,by !:=r.dp;show A.depth+1+3 * k+5 < _;lia,by !:=r.un;show A.units+3+16 * k+200 < _;lia,r.gd⟩
def Room.in1{k:Nat}(r:Room (k+1) A):Room k A.in1:=
 ⟨r.hd,by !:=r.dp;show A.depth+3 * k+5 < _;lia,by !:=r.un;show A.units+1+16 * k+200 < _;lia,r.gd⟩
def Room.depth{k:Nat}(r:Room k A):A.depth < recursionLimit:=by !:=r.dp;lia
def Room.units{k:Nat}(r:Room k A):A.units+64 < cLine:=by !:=r.un;lia
def Room.units0{k:Nat}(r:Room k A):A.units < cLine:=by !:=r.un;lia
abbrev jl:TA:=λ_ H Q=>Q [] H
abbrev cf(T:TE)(tr:TA):TA:=λb H Q=>T b H λx h=>tr b h λX c=>Q (x::X) c
section
variable {X:Cx} {e:Expr} {es:List Expr} {te:TE} {t:TA} {pos:Pos}
def rc:PA X [] jl:=λ_ _ _ _ H Q I h=>Calls.spliced_nil ⟨[],H,I,.nil,h⟩
def l9(f:PE X e te)(n:PA X es t)(hs:ZaQ (e::es) X.env=(aS,eval e X.env)::ZaQ es X.env:=by rfl):PA X (e::es) (cf te t):=by
 intro pos p s b H Q I h;rw[hs];show wpAny _ _ (spliced ((aS,eval e X.env)::backTo pos (ZaQ es X.env))) _ _ s;~Calls.spliced_cons (thn (f p s b H _ I h) λu l ⟨x,c,d,r1,q⟩=>?_);&thn (n pos p l b c _ d q) λU z ⟨y,v,j,r2,k⟩=>⟨x::y,v,j,.cons r1 r2,k⟩
abbrev LZ(t:TA):TE:=λc H Q=>t c H λb h=>b.length<=sizeLine/\∀p,h p=aD->Q (.ref p) (upd h p (.tup b))
abbrev Rq(t:TA):TE:=λc H Q=>t c H λb h=>b.length<=sizeLine/\∀p,h p=aD->Q (.ref p) (upd h p (.lst b))
def BJ{l}(h:PA X es t):PE X (.Tuple es l pos) (LZ t):=by
 intro p s k H Q I n;~wpAny_Tuple_spliced (thn (h pos p s k H _ I n) λU c ⟨j,d,f,r,z,q⟩=>⟨by rw[<-r.length];&z,?_⟩);!v:d c.heap.objs.size=aD:=f.hok.fresh (Zf _);~{.ref c.heap.objs.size,upd d c.heap.objs.size (.tup j),f.laid (t':=c.toks) (λb u e=>Zc _ e) (Zf _) ?_,rfl,q _ v};&{z,U,r,ra.new _ _}
def L0(h:PA X es t):PE X (.List es pos) (Rq t):=by
 intro p s k H Q I l;~wpAny_List_spliced (thn (h pos p s k H _ I l) λU c ⟨j,d,f,r,z,q⟩=>⟨by rw[<-r.length];&z,?_⟩);!n:d c.heap.objs.size=aD:=f.hok.fresh (Zf _);~{.ref c.heap.objs.size,upd d c.heap.objs.size (.lst j),f.laid (t':=c.toks) (λb u e=>Zc _ e) (Zf _) ?_,rfl,q _ n};&{z,U,0,r,Zs _ rfl}
end
@[inline]abbrev Sp:=List V->Hp->VK->XK->Prop
@[inline]abbrev CXT:=List Env->Hp->Shared->XK->Value->Shared->Prop
structure Env0(P:Program)(w:World)(K:VY)(mg:Str->Option Value)(base:Heap)(A:Around)(outer:List Env)(s:Shared)(H:Hp):Prop where
 frames:A.frames=aw outer
 mod:Mod K mg base
 bs:∀b o,base.get? b=aw o->s.heap.get? b=aw o/\H b=aD
 bsz:base.objs.size<=s.heap.objs.size
 funs:s.heap.FunFrames base outer
 frf:∀b ∈ frs outer,H b=aD
 hok:HOk P w H s.heap
 bare:AllBare s.gens
abbrev CE(outer:List Env)(P:Program)(w:World)(H:Hp)(s:Shared)(Q:VK)(u:Value)(b:Shared):Prop:=
 ∃v h,b.os=s.os/\AllBare b.gens/\Un (frs outer) [] H h s.heap b.heap/\HOk P w h b.heap/\aE v u/\Q v h
abbrev CR(C:CXT)(outer:List Env)(P:Program)(w:World)(H:Hp)(s:Shared)(Q:VK)(E:XK)(r:Result)(b:Shared):Prop:=
 match r with
 |.ok (.ret u)=>CE outer P w H s Q u b
 |.ok _=>False
 |.error e=>C outer H s E e b
structure FnOk(P:Program)(w:World)(K:VY)(mg:Str->Option Value)(base:Heap)(CX:CXT)(k:Nat)(f:Addr)(fd:VI)(ps:List Str)(sp:Sp):Prop where
 len:∀vs H Q E,sp vs H Q E->vs.length=ps.length
 run:∀ (A:Around) (outer:List Env) (s:Shared) (H:Hp) (args:Args) (us:List Value) (vs:List V) (Q:VK) (E:XK),Room k A->Env0 P w K mg base A outer s H->BindsTo s fd args (ps.zip us)->aJ vs us->sp vs H Q E ->
  codeAny (model P w) A (.call (.ref f) args) (CR CX outer P w H s Q E) s
def Env0.in1{P:Program}{w:World}{K:VY}{mg:Str->Option Value}{base:Heap}{A:Around}{outer:List Env}{s:Shared}{H:Hp}(e:Env0 P w K mg base A outer s H) :
  Env0 P w K mg base A.in1 outer s H:=⟨e.frames,e.mod,e.bs,e.bsz,e.funs,e.frf,e.hok,e.bare⟩
section
variable {X:Cx} {pins:List (Addr × Obj)} {σ:St} {H:Hp} {s s':Shared}
def Inv.env0(I:Inv X pins σ H s):Env0 X.prog X.w X.K X.mg X.base X.A X.stack s H:=
 ⟨I.ok.frames,I.ok.mod,I.bs,ZJ I.ok.bsz I.sz,I.stack,I.stkFree,I.hok,I.bare⟩
def Inv.after(I:Inv X pins σ H s)(h:CE X.stack X.prog X.w H s Q u s'):EP X pins σ Q u s':=by
 #{v,f,os,bare,un,hok,r,q}:=h;#{c,g,d,t,O}:=s';obtain rfl:O=s.os:=os;&{v,f,I.call (h':=c) (g':=g) (d':=d) (t':=t) (ch:=[]) un hok bare (λb z=>absurd z (by simp)),r,q}
end
abbrev Km(c:Sp)(d:List V)(E:XK)(t:TA):TE:=λb H Q=>t b H λv h=>c (v++d) h Q E
abbrev pZ(K:VY)(f:VI)(ps:List Str)(d:List Value):Prop:=
 ∀ (s:Shared) (u:List Value),K.In s.heap->(u++d).length=ps.length->BindsTo s f ⟨u,[]⟩ (ps.zip (u++d))
def pZ.all{K:VY}{f:VI}{ps:List Str}(h:∀u:List Value,u.length=ps.length->NE f ⟨u,[]⟩=pure (ps.zip u)):pZ K f ps []:=λs u _ b=>by
 rw[Z8] at b ⊢;&.of_eq (h u b)
abbrev wc(C:CXT)(X:Cx)(E:XK):Prop:=∀ (p:List (Addr × Obj)) (c:St) (H:Hp) (s:Shared) (e:Value) (b:Shared),Inv X p c H s->C X.stack H s E e b->X.xe e b
section
variable {X:Cx} {CX:CXT} {k:Nat} {f C:Addr} {fd:VI} {ps:List Str} {sp:Sp} {dvs:List V} {ds:List Value} {E:XK} {x m:Str} {p pos apos:Pos} {e o:Expr} {es:List Expr} {ta:TE} {t:TA}
def L1(F:FnOk X.prog X.w X.K X.mg X.base CX k f fd ps sp)(l:Room k X.A)(hb:pZ X.K fd ps ds)(hd:aJ dvs ds)(j:wc CX X E)
  (I:Inv X b d H s) (r:aJ v U) (h:sp (v++dvs) H Q E):wpAny (model X.prog X.w) X.A (call (.ref f) U) (EP X b d Q) X.xe s:=by
 !r2:aJ (v++dvs) (U++ds):=r.append hd;!q:(U++ds).length=ps.length:=by rw[<-r2.length];&F.len _ _ _ _ h
 ~wpAny_call (Zaj (F.run X.A X.stack s H ⟨U,[]⟩ (U++ds) (v++dvs) Q E l I.env0 (hb s U I.kIn q) r2 h) λr n c=>?_);cases r with
 |error e=>&j b d H s e n I c
 |ok y=>
  cases y with
  |ret u=>&I.after c
  |next=>&False.elim c
  |brk=>&False.elim c
  |cont=>&False.elim c
def FT(F:FnOk X.prog X.w X.K X.mg X.base CX k f fd ps sp)(v:Room k X.A)(B:Gl X x)(J:X.mg x=aw (.ref f))(u:V9 X.K (.ref f)=aN)(hb:pZ X.K fd ps ds)(hd:aJ dvs ds)(z:wc CX X E)
  (l:PA X (e::es) t) (d:(x == ("__debug__" : Str))=aS:=by decide) (y:ZaQ (e::es) X.env=(aS,eval e X.env)::ZaQ es X.env:=by rfl) (c:(backTo pos (ZaQ es X.env)).any (·.1)=aS:=by rfl) :
  PE X (.Call (.Name x p) (e::es) [] pos) (Km sp dvs E t):=by
 intro b s n H Q I h;~ZaY (xY I B J ?_ d);~PySem.W.callWith_K (h₀:=X.base) I.ok.mod.kin u (thn (l pos b s n H _ I h) λU T ⟨O,L,j,r,q⟩=>⟨j.kIn,?_⟩) y c;&L1 F v hb hd z j r q
end
abbrev PK(X:Cx)(k:List Keyword)(t:TA):Prop:=
 ∀ (c:Pos) (p:List (Addr × Obj)) (s:Shared) (b:St) (H:Hp) (Q:List V->Hp->Prop),Inv X p b H s->t b H Q->wpAny (model X.prog X.w) X.A (evalAll ((OR c (Zau k X.env)).map (·.2))) (AP X p b Q) X.xe s
section
variable {X:Cx} {CX:CXT} {k:Nat} {f C:Addr} {fd:VI} {ps ks:List Str} {sp:Sp} {E:XK} {x m:Str} {p pos apos kpos:Pos} {e o:Expr} {es:List Expr} {kws:List Keyword} {te ta:TE} {t tk:TA} {nm:Option Str}
def wg:PK X [] jl:=λ_ _ _ _ H Q I h=>wpAny_evalAll_nil ⟨[],H,I,.nil,h⟩
def rd(n:PE X e te)(y:PK X kws t):PK X (⟨nm,e,kpos⟩::kws) (cf te t):=by
 intro pos b s c H Q I h;show wpAny _ _ (evalAll ((do let v <-eval e X.env;standAt pos;pure v)::(OR pos (Zau kws X.env)).map (·.2))) _ _ s;~wpAny_evalAll_cons (Za0 (thn (n b s c H _ I h) λu L ⟨x,B,l,r1,q⟩=>Za0 (Zbw (Zbl ?_))));&thn (y pos b L c B _ l q) λU O ⟨j,z,J,r2,d⟩=>⟨x::j,z,J,.cons r1 r2,d⟩
variable {g:List Value->List Value->List Value} {gV:List V->List V->List V}
end
structure FnScope(N P:List Str)(sc:Scope):Prop where
 kind:sc.kind = .function
 co:sc.isCoroutine=aS
 gen:sc.isGenerator=aS
 nd:N.Nodup
 pre:N.take P.length=P
 par:∀x ∈ P,sc.names.lookup x=aw .local\/sc.names.lookup x=aw .cell
 nofree:∀y ∈ sc.names,y.2 ≠ .free
def p0{kindOf:Str->Option VM}{x:Str}:∀ {binds:List (Str × Value)} {m:Str->Option Value},(∀v,(x,v) ∉ binds)->bindL kindOf binds m x=m x
 |[],_,_=>rfl
 |(n,v)::r,m,h=>by
  unfold bindL;rw[p0 λw b=>h w (Zg _ b)];split
  ·!:x ≠ n:=by rintro rfl;&h v Zj
   simp[this]
  ·rfl
def p9{kindOf:Str->Option VM}{x:Str}:∀ {binds:List (Str × Value)} {m:Str->Option Value},(∀v,(x,v) ∉ binds)->bindC kindOf binds m x=m x
 |[],_,_=>rfl
 |(n,v)::r,m,h=>by
  unfold bindC;rw[p9 λw b=>h w (Zg _ b)];split
  ·rfl
  ·!:x ≠ n:=by rintro rfl;&h v Zj
   simp[this]
def qa{kindOf:Str->Option VM}{x:Str}{v:Value}:∀ {P:List Str} {b:List Value} {i:Nat} {m:Str->Option Value},P.Nodup->P[i]?=aw x->b[i]?=aw v->kindOf x=aw .local ->
  bindL kindOf (P.zip b) m x=aw v
 |[],_,_,_,_,h,_,_=>by simp at h
 |_::_,[],_,_,_,_,h,_=>by simp at h
 |p::P,w::b,0,m,nd,h1,h2,hk=>by
  simp at h1 h2;subst h1;subst h2;show bindL kindOf ((p,w)::P.zip b) m p=_;unfold bindL;rw[p0 λv c=>(Z9.mp nd).1 (Xv c).1,if_pos hk];simp
 |p::P,w::b,i+1,m,nd,h1,h2,hk=>by
  show bindL kindOf ((p,w)::P.zip b) m x=_;unfold bindL;&qa (i:=i) (Z9.mp nd).2 (by simpa using h1) (by simpa using h2) hk
def qb{kindOf:Str->Option VM}{x:Str}{v:Value}:∀ {P:List Str} {b:List Value} {i:Nat} {m:Str->Option Value},P.Nodup->P[i]?=aw x->b[i]?=aw v->kindOf x ≠ aw .local ->
  bindC kindOf (P.zip b) m x=aw v
 |[],_,_,_,_,h,_,_=>by simp at h
 |_::_,[],_,_,_,_,h,_=>by simp at h
 |p::P,w::b,0,m,nd,h1,h2,hk=>by
  simp at h1 h2;subst h1;subst h2;show bindC kindOf ((p,w)::P.zip b) m p=_;unfold bindC;rw[p9 λv c=>(Z9.mp nd).1 (Xv c).1,if_neg hk];simp
 |p::P,w::b,i+1,m,nd,h1,h2,hk=>by
  show bindC kindOf ((p,w)::P.zip b) m x=_;unfold bindC;&qb (i:=i) (Z9.mp nd).2 (by simpa using h1) (by simpa using h2) hk
abbrev fc(N:List Str)(v:List V):St:=v.map aw++ZP (N.length - v.length) aD
abbrev jm(C:CXT)(P:Program)(w:World)(K:VY)(mg:Str->Option Value)(base:Heap)(N:List Str)(q:Str)(b:Scope)(f:Addr)(cd:Value)(A:Around)(outer:List Env)(s:Shared)(H:Hp)(E:XK):Cx where
 prog:=P
 w:=w
 K:=K
 mg:=mg
 base:=base
 A:=A.deeper (envOfC q b s.heap.objs.size f cd)
 N:=N
 s₀:=s
 H₀:=H
 env:=envOfC q b s.heap.objs.size f cd
 outer:=outer
 stack:=envOfC q b s.heap.objs.size f cd::outer
 ex:=[]
 calm:=true
 fn:=λ_=>aN
 pn:=[]
 xe:=λe d=>wpAny (model P w) (A.deeper (envOfC q b s.heap.objs.size f cd)) (leaving (envOfC q b s.heap.objs.size f cd) e) (λ_ c=>C outer H s E e c) (λh c=>C outer H s E h c) d
def tK{sc:Scope}{n:Nat}{x:Str}(h:sc.names.lookup x=aw .cell):∃c,(Zaf n sc.names []).lookup x=aw c:=by
 !q:=VZ sc.names n [] (.inl h);&Yq.mp q
def qd{X:CXT}{P:Program}{w:World}{K:VY}{mg:Str->Option Value}{base:Heap}{N ps:List Str}{Q:Str}{d:Scope}{f:Addr}{cd:Value}{A:Around}{outer:List Env}{s s1:Shared}{H:Hp}{E:XK}{U:List Value}{C:List V}
  (S:FnScope N ps d) (hd:A.handled=aD) (l:Env0 P w K mg base A outer s H) (hl:C.length=ps.length) (r:aJ C U)
  (x:InCallC s s.heap.objs.size (bindL (envOfC Q d s.heap.objs.size f cd).kindOf (ps.zip U) λ_=>aD) (Zaf (s.heap.objs.size+1) d.names []) (bindC (envOfC Q d s.heap.objs.size f cd).kindOf (ps.zip U) λ_=>aD) s1) :
  Inv (jm X P w K mg base N Q d f cd A outer s H E) [] (fc N C) H s1:=by
 !Z:ps.length<=N.length:=by !:=congrArg Zl S.pre;rw[Yi] at this;lia
 #{L,tk,rfl,O}:=x.done;!B:∀b:Addr,b ∉ (jm X P w K mg base N Q d f cd A outer s H E).ex:=λb z=>absurd (show b ∈ ([]:List Addr) from z) (by simp)
 ~⟨⟨l.mod,S.kind,rfl,rfl,Zf _,λy z c L j=>?_,λy hy=>?_,λy c _ h=>?_,λ_=>hd,Around.frames_deeper l.frames,.inr ⟨rfl,rfl⟩,λb z=>absurd z (B b),l.bs,l.bsz,λb _ _=>B b,λb z=>absurd z (B b),l.funs,l.frf⟩,
  rfl,l.bare,Un.kept O,⟨_,x.toInCall.ns,λi y v L j h3=>?_⟩,λy c h=>⟨_,x.cell y c h⟩,l.hok.fresh (Zf _),λy c h=>?_,λp I=>absurd (show p ∈ ([]:List (Addr × Obj)) from I) (by simp),l.hok.kept O,?_⟩
 ·&name_of_addr x.apart (Zax L) (Zax j)
 ·!hy:d.names.lookup y=aw .cell\/d.names.lookup y=aw .free:=hy;rcases hy with hy |hy
  ·&tK hy
  ·&absurd rfl (S.nofree _ (Zax hy))
 ·&Y0 (x.above y c (Zax h))
 ·!hi:i < C.length:=by
   unfold fc at j;by_cases hi:i < C.length
   ·&hi
   ·rw[Zp (by simpa using hi)] at j;rw[YH] at j;split at j <;> cases j
  !Y:C[i]?=aw v:=by
   unfold fc at j;rw[Zt (by simpa using hi),Zq] at j;cases e:C[i]? with
   |none=>rw[e] at j;cases j
   |some a=>rw[e] at j;cases j;rfl
  #{u,T,rv}:=r.get Y
  !I:ps[i]?=aw y:=by
   rw[<-S.pre,XJ (by lia)];&L
  !J:ps.Nodup:=by rw[<-S.pre];&S.nd.sublist (Wq _ _)
  ~{u,rv,?_};rcases S.par y (Zd I) with k |k
  ·&.inl ⟨k,qa J I T k⟩
  ·#{c,e}:=tK (n:=s.heap.objs.size+1) k;~.inr ⟨.inl k,c,e,?_⟩;!q:=x.cell y c e;rw[qb J I T (by show d.names.lookup y ≠ _;rw[k];decide)] at q;&q
 ·&l.hok.fresh (Y0 (x.above y c (Zax h)))
 ·unfold fc;show _=N.length;rw[Ze,Za,X2]
  lia
def Ko{X:CXT}{P:Program}{w:World}{K:VY}{mg:Str->Option Value}{base:Heap}{k:Nat}{f:Addr}{name d:Str}{p:W6}{body:List Stmt}{c:Scope}{dV kV L pm C ct oc:Value}{an od:Option Addr}
  {osl:Array (Option Value)} {N ps:List Str} {sp:Sp} (lk:K.lookup f=aw ⟨oc,od,.func (V2 name d p body c dV kV L pm an C ct),osl⟩) (Y:V0 K C d=aN) (S:FnScope N ps c)
  (len:∀h H Q E,sp h H Q E->h.length=ps.length)
  (B:∀ (A:Around) (outer:List Env) (s:Shared) (H:Hp) (h:List V) (Q:VK) (E:XK),Room k (A.deeper (envOfC d c s.heap.objs.size f C))->sp h H Q E ->
   ∃t,PSs (jm X P w K mg base N d c f C A outer s H E) body t/\t { nx:=λ_ l=>Q .non l,rt:=Q } (fc N h) H) :
  FnOk P w K mg base X (k+1) f (V2 name d p body c dV kV L pm an C ct) ps sp:=by
 ~{len,λA outer s H args us h Q E Z O hb r T=>?_};!hl:=len _ _ _ _ T;!KX:K.In s.heap:=O.mod.kin.keeps λb o e=>(O.bs b o e).1;!lim:s.heap.NoLimit:=O.mod.nolimit.keeps λb o e=>(O.bs b o e).1
 !z:∀y ∈ ps.zip us,c.names.lookup y.1=aw .local\/(c.names.lookup y.1=aw .cell/\((Zaf (s.heap.objs.size+1) c.names []).lookup y.1).isSome=aN):=λ⟨n,v⟩ hy=>by
  rcases S.par n (Xv hy).1 with q |q
  ·&.inl q
  ·&.inr ⟨q,VZ _ _ _ (.inl q)⟩
 ~codeAny_call_function Z.depth (KX _ _ lk) rfl S.co S.gen rfl (PySem.W.codeRec_of KX Y) (hb _ _ _ _ ?_);~Zbf S.kind z λenv he s1 x=>?_;subst he;~{lim.keeps x.toInCall.keep,codeAny_func ?_};#{t,ht,hq}:=B A outer s H h Q E (Z.deeper _) T;!I:Inv (jm X P w K mg base N d c f C A outer s H E) [] (fc N h) H s1:=qd S Z.hd O hl r x;~Zbe (ht [] s1 (fc N h) H _ I hq) (λfl s' hs=>?_) λe s' hs=>hs
 !U:∀ {j:St} {l:Hp} {v:V} {u:Value},Inv (jm X P w K mg base N d c f C A outer s H E) [] j l s'->aE v u->Q v l->CE outer P w H s Q u s':=
  λ{j l v u} J rv q=>⟨v,l,J.os,J.bare,J.base,J.hok,rv,q⟩
 cases fl with
 |ret u=>
  #{v,j,l,J,rv,q}:=hs;&U J rv q
 |next=>
  #{j,l,J,q}:=hs;&U (v:=V.non) (u:=Value.none) J rfl q
 |brk=>
  #{_,_,_,q}:=hs;&False.elim q
 |cont=>
  #{_,_,_,q}:=hs;&False.elim q
section
variable {X:Cx} {x:Str} {p pos:Pos} {e:Expr} {es:List Expr} {t:TA} {id T:String} {r:List V->Hp->VK->Prop}
abbrev tCB(r:List V->Hp->VK->Prop)(t:TA):TE:=λb H Q=>t b H λv h=>r v h Q
def f9(u:aV X (.builtin id) r)(z:Gl X x)(E:X.mg x=aD)(B:Zaa x=aw (.builtin id))(l:PA X (e::es) t)(j:x ≠ "__name__" := by decide)(d:(x == ("__debug__" : Str))=aS:=by decide)
  (n:ZaQ (e::es) X.env=(aS,eval e X.env)::ZaQ es X.env:=by rfl) (c:(backTo pos (ZaQ es X.env)).any (·.1)=aS:=by rfl):PE X (.Call (.Name x p) (e::es) [] pos) (tCB r t):=by
 intro b s f H Q I h;~ZaY (eF I z E B ?_ j d);&PyProof.Rows.callWith_builtin1 (thn (l pos b s f H _ I h) λU C ⟨y,v,k,r1,q⟩=>u b C f v y U Q k r1 q) n c
def fe(u:aV X (.type T) r)(z:Gl X x)(E:X.mg x=aD)(B:Zaa x=aw (.type T))(l:PA X (e::es) t)(j:x ≠ "__name__" := by decide)(d:(x == ("__debug__" : Str))=aS:=by decide)
  (n:ZaQ (e::es) X.env=(aS,eval e X.env)::ZaQ es X.env:=by rfl) (c:(backTo pos (ZaQ es X.env)).any (·.1)=aS:=by rfl):PE X (.Call (.Name x p) (e::es) [] pos) (tCB r t):=by
 intro b s f H Q I h;~ZaY (eF I z E B ?_ j d);&W4 (thn (l pos b s f H _ I h) λU C ⟨y,v,k,r1,q⟩=>u b C f v y U Q k r1 q) n c
end
end L2
namespace HT
open PySem PyProof.Rows
abbrev dD:List Int->List Int->Bool
 |[],[]=>aS
 |[],_::_=>aN
 |_::_,[]=>aS
 |x::xs,y::ys=>if x=y then dD xs ys else decide (x < y)
def mO(x y:Int)(xs Y:List Int):dD (x::xs) (y::Y)=if x=y then dD xs Y else decide (x < y):=rfl
def pD:dD [] []=aS:=rfl
def mP(y:Int)(Y:List Int):dD [] (y::Y)=aN:=rfl
def mQ(x:Int)(xs:List Int):dD (x::xs) []=aS:=rfl
def tL(A:Around)(s:Shared)(a:Int)(t:Tok)(c:Int)(u:Tok):∃e,VT A s (.int a t) (.int c u) e/\(e=aN ↔ a=c):=
 ⟨(a == c),SeqAt.EqAt.int_int a t c u,by simp⟩
def tM(A:Around)(s:Shared)(a:Int)(t:Tok)(c:Int)(u:Tok)(prog:Program)(w:World)(E:Value->Shared->Prop)(Q:Value->Shared->Prop)(h:Q (.bool (decide (a < c))) s) :
  wpAny (model prog w) A (ZaI .Lt (.int a t) (.int c u)) Q E s:=
 (PyProof.Rows.lt_int h:wpAny (model prog w) A (Zak .Lt (.int a t) (.int c u)) Q E s)
section
open PySem.SeqAt
open PySem.AutoSeq1 (wpAny_loadPart')
open PySem.MeetsSeq PySem.MeetsSeq2 PySem.MeetsSeq3
def pE(l b:Addr)(f I:Array Value)(n n2:Nat)(dd dd2:Option Addr)(sl sl2:Array (Option Value))(ns Y:List Int)(hi:IntsAre f.toList ns)(hj:IntsAre I.toList Y) :
  Meets (Builtin.«tuple.__lt__» ⟨[.ref l,.ref b],[]⟩)
   (λ_ R s=>s.heap.get? l=aw { cls:=.type "tuple", dict:=dd,data:=.seq f n,slots:=sl }/\s.heap.get? b=aw { cls:=.type "tuple", dict:=dd2,data:=.seq I n2,slots:=sl2 } ∧
    R (.ok (.ret (.bool (dD ns Y)))) s):=
 .of_wp λprog w A R s h=>by
  #{T,g,d,Z,os}:=s;#{hl,hb,h}:=h;!f2:=AutoSeq1.sub_tuple_tuple;!z1:f.size=ns.length:=by rw[<-hi.length];simp
  !z2:I.size=Y.length:=by rw[<-hj.length];simp
  wp_walk using Zbd hl,Zbd hb,Za7 _ (λB b s'=>b.1=aD/\s'=⟨T,g,d,Z,os⟩/\∃ (U X:List Value) (p k:List Int),B=U.zip X ∧
   IntsAre U p/\IntsAre X k/\p.length+I.size=k.length+f.size/\R (.ok (.ret (.bool (dD p k)))) ⟨T,g,d,Z,os⟩) _
  case turn=>
   rintro⟨y,x⟩ B b s' ⟨J,rfl,U,X,p,k,v,L,z,j,C⟩;cases L with
   |nil=>rw[List.zip_nil_left] at v;cases v
   |cons a t Q=>
    cases z with
    |nil=>rw[List.zip_nil_right] at v;cases v
    |cons c u O=>
     rw[Yg] at v;injection v with hyx hrest;injection hyx with hy hx;subst hy hx;rw[mO] at C;simp only[Zo] at j;#{e,he,E}:=tL A.in1 ⟨T,g,d,Z,os⟩ a t c u;~Za0 (he prog w _ _ ?_);cases e with
     |true=>
      rw[if_pos (E.mp rfl)] at C
      wp_walk
      &{rfl,rfl,_,_,_,_,hrest,Q,O,by lia,C}
     |false=>
      rw[if_neg (λq=>absurd (E.mpr q) Zh)] at C;!hri:=tM A.in1 ⟨T,g,d,Z,os⟩ a t c u prog w
      wp_walk using hri
      &{_,rfl,by simpa using C}
  case fin=>
   rintro⟨b1,b2⟩ s' ⟨J,rfl,U,X,p,k,v,L,z,j,C⟩;simp only at J;subst J
   !hv:dD p k=decide (f.size < I.size):=by
    cases L with
    |nil=>
     cases z with
     |nil=>
      simp only[Z4] at j;rw[pD];&(decide_eq_false (by lia)).symm
     |cons c u hw=>
      simp only[Z4,Zo] at j;rw[mP];&(decide_eq_true (by lia)).symm
    |cons a t hv=>
     cases z with
     |nil=>
      simp only[Z4,Zo] at j;rw[mQ];&(decide_eq_false (by lia)).symm
     |cons c u hw=>
      rw[Yg] at v;cases v
   rw[hv] at C
   wp_walk
   &{_,rfl,by simpa[Builtin.Tuple.tupleCompareSizes] using C}
  case h=>
   &{rfl,rfl,f.toList,I.toList,ns,Y,rfl,hi,hj,by lia,h}
end
section
variable {prog:Program} {w:World} {A:Around} {E:Value->Shared->Prop} {s:Shared}
def mR(J:IsTup s.heap l c)(hb:IsTup s.heap b I)(hi:IntsAre c.toList ns)(z:IntsAre I.toList k)
  (L:A.units < cLine) (h:Q (.bool (dD ns k)) s):wpAny (model prog w) A (Zak .Lt (.ref l) (.ref b)) Q E s:=by
 #{⟨O,T,u,sl⟩,v,y,n,hd}:=id J;#{⟨C,p,data2,q⟩,d,f,B,j}:=id hb;simp only at y hd f j;subst y hd f j
 &ZaJ (op:=.Lt) ⟨_,v,rfl⟩ ⟨_,d,rfl⟩ VG Vr (Vl _ _) (pE l b c I n B T p sl q ns k hi z)
  ⟨v,d,show Value.bool (dD ns k) ≠ Value.notImplemented/\Q (.bool (dD ns k)) s from ⟨(λx=>nomatch x),h⟩⟩ L
def FV(J:IsTup s.heap t v.toArray)(hb:IsTup s.heap b c.toArray)(z:v ≠ [])
  (L:c=[]->Q (.ref t) s) (I:c ≠ []->Q (.ref s.heap.objs.size) { s with heap:=s.heap.push { cls:=.type "tuple", data:=.seq (v++c).toArray } })
  (q:v.length+c.length<=sizeLine):wpAny (model prog w) A (No .Add (.ref t) (.ref b)) Q E s:=by
 #{⟨cls,B,data,sl⟩,p,y,n,hd}:=id J;#{⟨C,d,data2,j⟩,h,f,u,k}:=id hb;simp only at y hd f k;subst y hd f k;!e:v.toArray++c.toArray=(v++c).toArray:=by simp
 by_cases l:c=[]
 ·&Zal ⟨_,p,rfl⟩ ⟨_,h,rfl⟩ Zaz ZaN VB Vp (Vj _ _)
   (tuple_addW1 t b v.toArray c.toArray n u B d sl j (by simpa using z) (by simp[l])) ⟨p,h,L l⟩
 ·~Zal ⟨_,p,rfl⟩ ⟨_,h,rfl⟩ Zaz ZaN VB Vp (Vj _ _)
   (tuple_addW2 t b v.toArray c.toArray n u B d sl j (by simpa using z) (by simpa using l) (by rw[Zk,Zk];&q)) ⟨p,h,?_⟩
  rw[e];&I l
abbrev sIx(n d:Nat):Option Int->Nat
 |none=>d
 |some v=>if v < 0 then (v+(n:Int)).toNat else min v.toNat n
def BK(n d:Nat):sIx n d aD=d:=rfl
def L3(n d:Nat)(hd:d<=n)(o:Option Int):sIx n d o<=n:=by
 cases o with
 |none=>&hd
 |some v=>
  show(if v < 0 then (v+(n:Int)).toNat else min v.toNat n)<=n;by_cases h:v < 0
  ·rw[if_pos h];lia
  ·rw[if_neg h];&Nat.min_le_right _ _
def x6(v:Int)(n d:Nat):(if v < 0 then max (v+(n:Int)) 0 else min v (n:Int))=((sIx n d (aw v):Nat):Int):=by
 show(if v < 0 then max (v+(n:Int)) 0 else min v (n:Int))=(((if v < 0 then (v+(n:Int)).toNat else min v.toNat n):Nat):Int);by_cases h:v < 0
 ·simp only[if_pos h];lia
 ·simp only[if_neg h];lia
def wj(lo hi:Option Int)(n:Nat):Builtin.Slice.sliceAdjust lo hi 1 (n:Int)=(((sIx n 0 lo:Nat):Int),((sIx n n hi:Nat):Int)):=by
 !h:¬ ((1:Int) < 0):=by lia
 unfold Builtin.Slice.sliceAdjust;simp only[h,if_false];~Prod.ext ?_ ?_
 ·cases lo with
  |none=>rfl
  |some v=>&x6 v n 0
 ·cases hi with
  |none=>rfl
  |some v=>&x6 v n n
def wk(i j:Nat):Builtin.Slice.slicePlaces (i:Int) (j:Int) 1=j - i:=by
 unfold Builtin.Slice.slicePlaces;!h:(1:Int) > 0:=by lia
 simp only[h,if_true,WR];split <;> lia
def mS(p:IsPart v o)(h:Q o s):wpAny (model prog w) A (Builtin.Slice.slicePartIndex v) Q E s:=by
 cases p with
 |none=>&slicePart_none h
 |int i t=>&slicePart_int h
def ff{sl:Addr}{d v:Value}{lo hi:Option Int}{n:Nat}{Q:Int × Int × Nat->Shared->Prop}(hs:s.heap.IsSliceOf sl d v .none)(j:IsPart d lo)(p:IsPart v hi)
  (h:Q (((sIx n 0 lo:Nat):Int),1,sIx n n hi - sIx n 0 lo) s):wpAny (model prog w) A (Builtin.Slice.sliceApplied (.ref sl) (pure (n:Int))) Q E s:=by
 #{os,c,f,b}:=id hs;unfold Builtin.Slice.sliceApplied Builtin.Slice.sliceFields;~Za0 (Za0 (Za6 c b (x:=d) rfl (Za0 (Za6 c b (x:=v) rfl (Za0 (Za6 c b (x:=.none) rfl (Zbl ?_)))))));~Za0 (slicePart_none ?_);show wpAny _ _ (if ((1:Int) == 0)=aN then _ else _) _ _ s;rw[if_neg (by decide)];~Za0 (mS j (Za0 (mS p (Za0 (Zbl ?_)))));show wpAny _ _ (match Builtin.Slice.sliceAdjust lo hi 1 (n:Int) with |(lo,hi)=>pure (lo,(1:Int),Builtin.Slice.slicePlaces lo hi 1)) _ _ s;rw[wj lo hi n];show wpAny _ _ (pure (((sIx n 0 lo:Nat):Int),(1:Int),Builtin.Slice.slicePlaces ((sIx n 0 lo:Nat):Int) ((sIx n n hi:Nat):Int) 1)) _ _ s;rw[wk];&Zbl h
def BL(xs:Array Value)(i k:Nat):((Zi k).filterMap λ(m:Nat)=>xs[((i:Int)+(m:Int) * 1).toNat]?).toArray=((xs.toList.drop i).take k).toArray:=by
 !e:(λ(m:Nat)=>xs[((i:Int)+(m:Int) * 1).toNat]?)=λm=>xs[i+m]?:=by
  funext m
  !:((i:Int)+(m:Int) * 1).toNat=i+m:=by lia
  rw[this]
 rw[e];!:=pick_run xs i k;rw[Wi] at this;!b:((λx=>xs[x]?) ∘ λx=>i+x)=λm=>xs[i+m]?:=rfl;rw[b] at this;rw[this]
def jp{t sl:Addr}{I:Array Value}{l v:Value}{lo hi:Option Int}{Q:Value->Shared->Prop}(c:IsTup s.heap t I)(hs:s.heap.IsSliceOf sl l v .none)(u:IsPart l lo)(p:IsPart v hi)
  (n:¬ (sIx I.size 0 lo=0/\sIx I.size I.size hi=I.size))
  (h:Q (.ref s.heap.objs.size) { s with heap:=s.heap.push { cls:=.type "tuple", data:=.seq ((I.toList.drop (sIx I.size 0 lo)).take (sIx I.size I.size hi - sIx I.size 0 lo)).toArray } })
  (z:I.size<=sizeLine):wpAny (model prog w) A (getItem (.ref t) (.ref sl)) Q E s:=by
 !b:sizeOk (.seq ((I.toList.drop (sIx I.size 0 lo)).take (sIx I.size I.size hi - sIx I.size 0 lo)).toArray):=by
  show((I.toList.drop (sIx I.size 0 lo)).take (sIx I.size I.size hi - sIx I.size 0 lo)).toArray.size<=sizeLine;rw[Zk,Yi,YI,Zu]
  lia
 !J:sIx I.size I.size hi<=I.size:=L3 _ _ (Zf _) hi;#{os,d,f,y}:=id hs;!j:s.TypeIs (.ref sl) "slice" := ⟨os,d,f⟩;unfold getItem
 try with_reducible ~Za9 ?_
 first |~Za0 (Zbl ?_) |skip
 ~Za0 (Zbu c.typeIs (by decide) ?_)
 ~Za0 (wpAny_callSpecial?_slot (name:=Str.ofString "__getitem__") c.typeIs W5
  (Za1 W5 c.typeIs entry_tuple_getitem ?_ (args_tuple_getitem _ _)))
 show wpAny _ _ (Builtin.Tuple.tupleItemsOf (.ref t) >>= _) _ _ s;~Za0 (tupleItemsOf_ c ?_);~Za0 (ZbA j ?_);rw[if_pos (by decide)];~Za0 (ff hs u p ?_)
 !k:¬ ((((sIx I.size 0 lo:Nat):Int) == 0 && (1:Int) == 1 && (sIx I.size I.size hi - sIx I.size 0 lo) == I.size)=aN):=by
  intro q;rw[bAE,bAE] at q;!B:((sIx I.size 0 lo:Nat):Int)=0:=eq_of_beq q.1.1;!C:sIx I.size I.size hi - sIx I.size 0 lo=I.size:=eq_of_beq q.2;&n ⟨by lia,by lia⟩
 show wpAny _ _ (if (((sIx I.size 0 lo:Nat):Int) == 0 && (1:Int) == 1 && (sIx I.size I.size hi - sIx I.size 0 lo) == I.size)=aN then _ else _) _ _ s;rw[if_neg k,BL]
 first
  |&Za0 (m:=Builtin.Tuple.tupleExact _) (Zbh (Zbl ⟨_,rfl,Zbl h⟩) b)
  |&Za0 (m:=Builtin.Tuple.tupleExact _) (Zbh (Za0 (Zbl (Zbl ⟨_,rfl,Zbl h⟩))) b)
  |&Za0 (Za0 (m:=Builtin.Tuple.tupleExact _) (Zbh (Zbl (Zbl ⟨_,rfl,Zbl h⟩)) b))
  |&Za0 (Za0 (m:=Builtin.Tuple.tupleExact _) (Zbh (Zbl ⟨_,rfl,Zbl h⟩) b))
end
end HT
namespace L2
open PySem PySem.Spec PyProof.Rows
@[inline]abbrev TO:=St->Hp->(Option Int->Hp->Prop)->Prop
abbrev PO(X:Cx)(e:Option Expr)(t:TO):Prop:=
 ∀ (p:List (Addr × Obj)) (s:Shared) (b:St) (H:Hp) (Q:Option Int->Hp->Prop),Inv X p b H s->t b H Q ->
  wpAny (model X.prog X.w) X.A (evalPart e X.env) (λu c=>∃o h,Inv X p b h c/\IsPart u o/\Q o h) X.xe s
abbrev x8:TO:=λ_ H Q=>Q aD H
abbrev Kq(t:TE):TO:=λb H Q=>t b H λx h=>∃i,x = .int i/\Q (aw i) h
def wm:∀ {u:List Value},aJ (ns.map V.int) u->IntsAre u ns:=by
 induction ns with
 |nil=>intro u r;rw[Z0] at r;cases r;&.nil
 |cons n ns I=>
  intro u r;rw[Zy] at r;cases r with
  |cons r1 r2=>
   #{t,e}:=r1;subst e;&.cons n t (I r2)
section
variable {X:Cx} {e:Expr} {te:TE} {lo hi:Option Expr} {tl th:TO} {pos p2:Pos}
def FW:PO X aD x8:=by
 intro p s b H Q I h;rw[Zap];&Zbl ⟨aD,H,I,.none,h⟩
def x9(h:PE X e te):PO X (aw e) (Kq te):=by
 intro p s j H Q I d;rw[evalPart_some];~thn (h p s j H _ I d) λu k ⟨x,b,c,r1,f⟩=>?_;#{i,rfl,q}:=f;#{t,rfl}:=r1;&{aw i,b,c,.int i t,q}
abbrev SlR(X:Cx)(r:V->Option Int->Option Int->Hp->VK->Prop):Prop:=
 ∀ (p:List (Addr × Obj)) (s:Shared) (b:St) (H:Hp) (x:V) (v d c:Value) (lo hi:Option Int) (sl:Addr) (Q:VK),Inv X p b H s->aE x v->s.heap.IsSliceOf sl d c .none->IsPart d lo->IsPart c hi->r x lo hi H Q ->
  ∃T id,typeLookup (.type T) "__getitem__" = pure (aw (.builtin id))/\s.TypeIs v T/\wpAny (model X.prog X.w) X.A (getItem v (.ref sl)) (EP X p b Q) X.xe s
def SlR.or{r f:V->Option Int->Option Int->Hp->VK->Prop}(h:SlR X r)(h':SlR X f):SlR X (λx lo hi H Q=>r x lo hi H Q\/f x lo hi H Q):=by
 intro p s c H x v l k lo hi sl Q I j hs d b q;rcases q with q |q
 ·&h p s c H x v l k lo hi sl Q I j hs d b q
 ·&h' p s c H x v l k lo hi sl Q I j hs d b q
abbrev tSl(r:V->Option Int->Option Int->Hp->VK->Prop)(te:TE)(tl th:TO):TE:=λb H Q=>te b H λx h=>tl b h λl c=>th b c λu d=>r x l u d Q
def BM(J:SlR X r)(U:PE X e te)(L:PO X lo tl)(hu:PO X hi th):PE X (.Subscript e (.Slice lo hi aD p2) pos) (tSl r te tl th):=by
 intro p s d H Q I h;~Subscript_ (thn (U p s d H _ I h) λv s1 ⟨x,Y,z,r1,n⟩=>?_);~wpAny_Slice (thn (L p s1 d Y _ z n) λj s2 ⟨l,O,Z,E,y⟩=>thn (hu p s2 d O _ Z y) λf c ⟨u,k,I3,B,C⟩=>?_);rw[Zap];~Zbl ?_;!I4:Inv X p d k { c with heap:=c.heap.push { cls:=.type "slice", data:=.fields #[j,f,.none] } }:=I3.kept (t':=c.toks) λb ob q=>Zc _ q;#{T,id,hT,ht,hg}:=J p { c with heap:=c.heap.push { cls:=.type "slice", data:=.fields #[j,f,.none] } } d k x v j f l u c.heap.objs.size Q I4 r1 (Heap.IsSliceOf.new ..) E B C;show wpAny (model X.prog X.w) X.A (subscriptTail e (.Slice lo hi aD p2) v (.ref c.heap.objs.size)) (EP X p d Q) X.xe { c with heap:=c.heap.push { cls:=.type "slice", data:=.fields #[j,f,.none] } };&tail_any (ops:=[.ref c.heap.objs.size,v]) ht hT hg (by with_unfolding_all rfl)
abbrev mU(xs:List V)(lo hi:Option Int):List V:=(xs.drop (HT.sIx xs.length 0 lo)).take (HT.sIx xs.length xs.length hi - HT.sIx xs.length 0 lo)
def kQ(xs:List V)(lo hi:Option Int):(mU xs lo hi).length<=xs.length:=by
 unfold mU;rw[Yi,YI]
 lia
abbrev Uy(K:VY):V->Option Int->Option Int->Hp->VK->Prop:=λx lo hi H Q=>∃a b,x = .ref a/\SqT K H a b ∧
 ¬ (HT.sIx b.length 0 lo=0/\HT.sIx b.length b.length hi=b.length)/\∀p,H p=aD->Q (.ref p) (upd H p (.tup (mU b lo hi)))
def L4:SlR X (Uy X.K):=by
 intro p s C H x v E B lo hi sl Q I y hs u n h;#{a,d,rfl,z,l,q}:=h;cases y;#{f,r,k,j}:=I.tuple z;!c:f.toArray.size=d.length:=by rw[Zk];&r.length.symm
 ~⟨"tuple", _,PyProof.Rows.slot_tuple_getitem.lookup,k.typeIs,?_⟩;~HT.jp k hs u n (by rw[c];&l) ?_ (by rw[c];&j);rw[c];~{.ref s.heap.objs.size,_,I.laid (t':=s.toks) (o:=.tup (mU d lo hi)) (λb ob q=>Zc _ q) (Zf _) ?_,rfl,q _ (I.hok.fresh (Zf _))};&{ZJ (kQ d lo hi) j,_,(r.drop (HT.sIx d.length 0 lo)).take (HT.sIx d.length d.length hi - HT.sIx d.length 0 lo),ra.new _ _}
abbrev Rr(K:VY):R2:=λx y H Q=>∃a b c Y,x = .ref a/\y = .ref b/\SqT K H a c/\SqT K H b Y/\c ≠ []/\c.length+Y.length<=sizeLine ∧
 (Y=[]->Q (.ref a) H)/\(Y ≠ []->∀p,H p=aD->Q (.ref p) (upd H p (.tup (c++Y))))
def aJ.nil_iff(r:aJ xs u):u=[] ↔ xs=[]:=by
 cases r with
 |nil=>simp
 |cons _ _=>simp
def FX:OpR X (No .Add) (Rr X.K):=by
 intro p s L H x y v u Q I B J h;#{a,b,k,Y,rfl,rfl,l,hb,C,c,f,j}:=h;cases B;cases J;#{E,r1,n,_}:=I.tuple l;#{d,r2,p2,_}:=I.tuple hb;~HT.FV n p2 (λz=>C (r1.nil_iff.mp z)) (λz=>⟨.ref a,H,I,rfl,f (r2.nil_iff.mp z)⟩) (λz=>?_) (by rw[<-r1.length,<-r2.length];&c);~{.ref s.heap.objs.size,_,I.laid (t':=s.toks) (o:=.tup (k++Y)) (λb ob q=>Zc _ q) (Zf _) ?_,rfl,j (λw=>z (r2.nil_iff.mpr w)) _ (I.hok.fresh (Zf _))};&{by rw[Ze];&c,_,r1.append r2,ra.new _ _}
end
abbrev ixN(n:Nat)(i:Int):Option Nat:=if 0<=i then (if i < n then aw i.toNat else aD) else if -(n:Int)<=i then aw (i+n).toNat else aD
abbrev atI{α:Type}(xs:List α)(i:Int):Option α:=(ixN xs.length i).bind λj=>xs[j]?
def re{n:Nat}{i:Int}{j:Nat}(h:ixN n i=aw j):seqIndex? i n=aw j/\j < n/\-(n:Int)<=i/\i < n:=by
 unfold ixN at h;by_cases c:0<=i
 ·rw[if_pos c] at h;by_cases b:i < n
  ·rw[if_pos b] at h;!e:i.toNat=j:=Option.some.inj h;&{by rw[ZaL c b,e],by lia,by lia,b}
  ·rw[if_neg b] at h;cases h
 ·rw[if_neg c] at h;by_cases b:-(n:Int)<=i
  ·rw[if_pos b] at h;!e:(i+n).toNat=j:=Option.some.inj h;&{by rw[ZaK (by lia) b,e],by lia,b,by lia}
  ·rw[if_neg b] at h;cases h
def rf{b:Type}{xs:List b}{i:Int}{v:b}(h:atI xs i=aw v):∃j,seqIndex? i xs.length=aw j/\xs[j]?=aw v/\j < xs.length/\-(xs.length:Int)<=i/\i < xs.length:=by
 unfold atI at h;cases e:ixN xs.length i with
 |none=>rw[e] at h;cases h
 |some j=>
  rw[e] at h;#{d,f,c,h4}:=re e;&{j,d,h,f,c,h4}
def yb{b:Type}{xs:List b}{j:Nat}{v:b}(h:xs[j]?=aw v):atI xs (j:Int)=aw v:=by
 !c:j < xs.length:=(Zb.mp h).1
 !e:ixN xs.length (j:Int)=aw j:=by
  unfold ixN;rw[if_pos (by lia),if_pos (by lia)];simp
 unfold atI;rw[e];&h
abbrev yc(b:Expr):Prop:=∀o i,subscripted b aS o i=operate [o,i] (getItem o i)
abbrev IxR(X:Cx)(r:R2):Prop:=
 ∀ (c b:Expr) (p:List (Addr × Obj)) (s:Shared) (d:St) (H:Hp) (x y:V) (v u:Value) (Q:VK),Inv X p d H s->aE x v->aE y u->r x y H Q ->
  subscripted b aS v u=operate [v,u] (getItem v u)->wpAny (model X.prog X.w) X.A (subscriptTail c b v u) (EP X p d Q) X.xe s
abbrev MtR(X:Cx)(id:String)(r:V->List V->Hp->VK->Prop):Prop:=
 ∀ (p:List (Addr × Obj)) (s:Shared) (b:St) (H:Hp) (x:V) (c:List V) (v:Value) (u:List Value) (Q:VK),Inv X p b H s->aE x v->aJ c u->r x c H Q ->
  wpAny (model X.prog X.w) X.A (call (.builtin id) (v::u)) (EP X p b Q) X.xe s
section
variable {X:Cx} {a b:Expr} {ta tb:TE} {pos:Pos}
def IxR.or{r k:R2}(h:IxR X r)(h':IxR X k):IxR X (λx y H Q=>r x y H Q\/k x y H Q):=by
 intro d c p s f H x y v u Q I l j q hs;rcases q with q |q
 ·&h d c p s f H x y v u Q I l j q hs
 ·&h' d c p s f H x y v u Q I l j q hs
def Kr(k:IxR X r)(c:PE X a ta)(hb:PE X b tb)(hs:yc b):PE X (.Subscript a b pos) (tOp r ta tb):=by
 intro p s f H Q I h;&Subscript_ (LQ c hb I h λv u n x y z d l j q=>k a b p n f z x y v u Q d l j q (hs _ _))
abbrev Rs(K:VY):R2:=λx y H Q=>∃p c i v,x = .ref p/\y = .int i/\SqL K H p c/\atI c i=aw v/\Q v H
abbrev Rt(K:VY):R2:=λx y H Q=>∃p c i v,x = .ref p/\y = .int i/\SqT K H p c/\atI c i=aw v/\Q v H
abbrev Ru:R2:=λx y H Q=>∃z i c,x = .str z/\y = .int i/\z.length<=sizeLine/\atI z.cps.toList i=aw c/\Q (.str ⟨#[c]⟩) H
def Us:IxR X (Rs X.K):=by
 intro C E c s L H x y v u Q I Z ry h hs;#{p,xs,i,z,rfl,rfl,U,he,q}:=h;cases Z;#{t,rfl}:=ry;#{B,r,n,hz}:=I.list U;#{j,d,h2,h3,h4,T}:=rf he;#{w,O,l}:=r.get h2;!hl:=r.length;!hn:=jY;!f:EP X c L Q w s:=⟨z,H,I,l,q⟩;by_cases J:0<=i
 ·!k:i.toNat=j:=by
   rw[ZaL J T] at d;&Option.some.inj d
  &item_listR n.isList J (by lia) (by rw[k];simpa using O) f hs
 ·!k:(i+(B.toArray.size:Int)).toNat=j:=by
   rw[ZaK (by lia) h4] at d;rw[Zk,<-hl];&Option.some.inj d
  &subscriptTail_builtinR (x:=w) n.isList.typeIs slot_list_getitem.lookup
   (wpAny_getItem_list_neg (Q:=λr Y=>r=w/\EP X c L Q r Y) n.isList (by lia) (by rw[Zk] <;> lia) (by lia) (by rw[k];simpa using O) ⟨rfl,f⟩) hs
def BN:IxR X (Rt X.K):=by
 intro k l c s n H x y v u Q I J Z h hs;#{p,xs,i,z,rfl,rfl,C,T,q}:=h;cases J;#{t,rfl}:=Z;#{U,r,B,hz}:=I.tuple C;#{j,h1,O,h3,h4,h5}:=rf T;#{w,Y,d}:=r.get O;!L:=r.length;!hn:=jY;!f:EP X c n Q w s:=⟨z,H,I,d,q⟩
 &subscriptTail_builtinR (x:=w) B.typeIs slot_tuple_getitem.lookup
  (getItem_tuple (j:=j) (Q:=λr E=>r=w/\EP X c n Q r E) B (by lia) (by lia) (by rw[Zk,<-L];&h1) (by simpa using Y) ⟨rfl,f⟩) hs
def L5:IxR X Ru:=by
 intro d f p s U H x y v u Q I n O h hs;#{z,i,c,rfl,rfl,Z,J,q}:=h;#{t,rfl}:=n;#{Y,rfl}:=O;#{j,k,C,h3,h4,l}:=rf J;!B:z.cps.toList.length=z.length:=by simp[Str.length]
 rw[B] at k h4 l;!T:=jY
 &tail_any (typeIs_str s z t) slot_str_getitem.lookup (getItem_str (c:=c) (by
  !L:decide (i < -(2 ^ 63:Int))=aS:=decide_eq_false (by lia);!E:decide (i ≥ 2 ^ 63)=aS:=decide_eq_false (by lia);rw[L,E,Y9]) (by rw[k];simpa using C) ⟨.str ⟨#[c]⟩,H,I.tok _,⟨_,rfl⟩,q⟩) hs
abbrev rIx(K:VY):R2:=λx y H Q=>Rs K x y H Q\/Rt K x y H Q\/Ru x y H Q
def BO:IxR X (rIx X.K):=Us.or (BN.or L5)
def wn(its:List Value)(n j:Nat)(u:Value):Obj.mapSeq (·.setIfInBounds j u) { cls:=.type "list", data:=.seq its.toArray n }={ cls:=.type "list", data:=.seq (its.set j u).toArray n }:=by
 simp[Obj.mapSeq]
def Inv.lst{c:List (Addr × Obj)}{d:St}{H:Hp}{s:Shared}{p:Addr}{xs:List V}(I:Inv X c d H s)(h:H p=aw (.lst xs)) :
  ∃ (its:List Value) (n:Nat),aJ xs its/\s.heap.get? p=aw { cls:=.type "list", data:=.seq its.toArray n }/\xs.length<=sizeLine:=by
 #{z,its,n,r,e}:=I.hok p _ h;&{its,n,r,e,z}
def Inv.lstUpd{c:List (Addr × Obj)}{j:St}{H:Hp}{s:Shared}{p:Addr}{xs y:List V}{its its':List Value}{n d:Nat}{f:Obj->Obj}(I:Inv X c j H s)(h:H p=aw (.lst xs))
  (l:s.heap.get? p=aw { cls:=.type "list", data:=.seq its.toArray n }) (k:f { cls:=.type "list", data:=.seq its.toArray n }={ cls:=.type "list", data:=.seq its'.toArray d }) (r:aJ y its') (v:y.length<=sizeLine) (t:Nat) :
  Inv X c j (upd H p (.lst y)) { s with heap:=s.heap.update p f,toks:=t }:=by
 !e:(s.heap.update p f).get? p=aw { cls:=.type "list", data:=.seq its'.toArray d }:=by
  rw[Z5 f l (by rw[k] <;> rfl),k]
 ~I.write (x:=p) (e:=p) (by rw[h];trivial) (.inl rfl) (λb u hb q=>(ZO _ _ (Ne.symm hb)).trans q) ⟨_,e⟩ ?_;&{v,its',d,r,e}
abbrev Rv:V->V->V->Hp->(Hp->Prop)->Prop:=λo i v H Q=>∃p c k j,o = .ref p/\i = .int k/\H p=aw (.lst c)/\ixN c.length k=aw j/\Q (upd H p (.lst (c.set j v)))
def BP:LI X Rv:=by
 intro d s T H o i v ov iv u Q I ro Y Z h;#{p,O,k,j,rfl,rfl,B,L,q}:=h;cases ro;#{t,rfl}:=Y;#{c,n,r,y,U}:=I.lst B;#{f,h2,E,h4}:=re L;!z:=r.length;!hn:=jY
 !J:Inv X d T (upd H p (.lst (O.set j v))) { s with heap:=s.heap.update p (Obj.mapSeq (·.setIfInBounds j u)) }:=
  I.lstUpd B y (wn c n j u) (r.set Z j) (by rw[Yb];&U) s.toks
 by_cases C:0<=k
 ·!l:k.toNat=j:=by
   rw[ZaL C h4] at f;&Option.some.inj f
  &PySem.W.ki_setAt y C (by lia) (by rw[Zk,<-z];&h4) (by rw[l];&{_,J,q})
 ·!l:(k+(c.toArray.size:Int)).toNat=j:=by
   rw[ZaK (by lia) E] at f;rw[Zk,<-z];&Option.some.inj f
  &PySem.W.ki_setBack y (by lia) (by rw[Zk,<-z];&E) (by lia) (by rw[l];&{_,J,q})
def rh(lo hi:Option Int)(n:Nat):(ZaP lo hi aD n).1=((HT.sIx n 0 lo:Nat):Int)/\(ZaP lo hi aD n).2.1=((HT.sIx n n hi:Nat):Int)/\(ZaP lo hi aD n).2.2=1:=by
 ~{?_,?_,rfl}
 ·cases lo with
  |none=>simp[ZaP,HT.sIx]
  |some i=>
   simp only[ZaP,HT.sIx,Wv,show(1:Int) > 0 by decide,if_true];by_cases h:i < 0
   ·simp only[h,if_true] <;> lia
   ·simp only[h,if_false] <;> lia
 ·cases hi with
  |none=>simp[ZaP,HT.sIx]
  |some i=>
   simp only[ZaP,HT.sIx,Wv,show(1:Int) > 0 by decide,if_true];by_cases h:i < 0
   ·simp only[h,if_true] <;> lia
   ·simp only[h,if_false] <;> lia
def pF(its:List Value)(lo hi:Option Int):slicePick its.toArray lo hi aD=((its.drop (HT.sIx its.length 0 lo)).take (HT.sIx its.length its.length hi - HT.sIx its.length 0 lo)).toArray:=by
 #{d,h,c}:=rh lo hi its.toArray.size;unfold slicePick;rw[d,h,c];simp only[sliceRange_one,pick_run,Zk] <;> rfl
abbrev Uz(K:VY):V->Option Int->Option Int->Hp->VK->Prop:=λx lo hi H Q=>∃a c,x = .ref a/\SqL K H a c/\∀p,H p=aD->Q (.ref p) (upd H p (.lst (mU c lo hi)))
def FY:SlR X (Uz X.K):=by
 intro p s z H x v C B lo hi sl Q I u hs l j h;#{a,c,rfl,k,q}:=h;cases u;#{n,r,f,y}:=I.list k;!d:=r.length;~⟨"list", _,slot_list_getitem.lookup,f.isList.typeIs,?_⟩;~Za8 f.isList hs l j .none (by simp) ?_ (by rw[Zk] <;> lia);rw[pF,<-d];~{.ref s.heap.objs.size,_,I.laid (t':=s.toks) (o:=.lst (mU c lo hi)) (λb ob q=>Zc _ q) (Zf _) ?_,rfl,q _ (I.hok.fresh (Zf _))};&{ZJ (kQ c lo hi) y,_,0,(r.drop (HT.sIx c.length 0 lo)).take (HT.sIx c.length c.length hi - HT.sIx c.length 0 lo),Zs _ rfl}
abbrev dU:V->Bool
 |.non=>aN
 |.bl _=>aN
 |.int _=>aN
 |.str _=>aN
 |_=>aS
abbrev eqV:V->V->Bool
 |.non,.non=>aN
 |.bl a,.bl b=>a == b
 |.bl a,.int b=>(if a then 1 else 0) == b
 |.int a,.bl b=>a == (if b then 1 else 0)
 |.int a,.int b=>a == b
 |.str a,.str b=>a == b
 |_,_=>aS
def L6(d:aE y u)(c:aE x v)(f:dU y=aN)(fx:dU x=aN):VT A s u v (eqV y x):=by
 cases y with
 |non=>
  cases d;cases x with
  |non=>cases c;&SeqAt.EqAt.same _
  |bl b=>cases c;&SeqAt.EqAt.none_bool b
  |int b=>#{t,rfl}:=c;&SeqAt.EqAt.none_int b t
  |str b=>#{t,rfl}:=c;&SeqAt.EqAt.none_str b t
  |_=>&absurd (show aS=aN from fx) Zh
 |bl a=>
  cases d;cases x with
  |non=>cases c;&SeqAt.EqAt.bool_none a
  |bl b=>cases c;&SeqAt.EqAt.bool_bool a b
  |int b=>#{t,rfl}:=c;&SeqAt.EqAt.bool_int a b t
  |str b=>#{t,rfl}:=c;&SeqAt.EqAt.bool_str a b t
  |_=>&absurd (show aS=aN from fx) Zh
 |int a=>
  #{T,rfl}:=d;cases x with
  |non=>cases c;&SeqAt.EqAt.int_none a T
  |bl b=>cases c;&SeqAt.EqAt.int_bool a T b
  |int b=>#{t,rfl}:=c;&SeqAt.EqAt.int_int a T b t
  |str b=>#{t,rfl}:=c;&SeqAt.EqAt.int_str a T b t
  |_=>&absurd (show aS=aN from fx) Zh
 |str a=>
  #{T,rfl}:=d;cases x with
  |non=>cases c;&SeqAt.EqAt.str_none a T
  |bl b=>cases c;&SeqAt.EqAt.str_bool a T b
  |int b=>#{t,rfl}:=c;&SeqAt.EqAt.str_int a T b t
  |str b=>#{t,rfl}:=c;&SeqAt.EqAt.str_str a T b t
  |_=>&absurd (show aS=aN from fx) Zh
 |_=>&absurd (show aS=aN from f) Zh
abbrev eqU(x:V)(u:Value):Bool:=match u with
 |.none=>eqV .non x
 |.bool b=>eqV (.bl b) x
 |.int i _=>eqV (.int i) x
 |.str z _=>eqV (.str z) x
 |_=>aS
def wo(r:aE y u)(f:dU y=aN):eqU x u=eqV y x:=by
 cases y with
 |non=>cases r;rfl
 |bl b=>cases r;rfl
 |int i=>#{t,rfl}:=r;rfl
 |str z=>#{t,rfl}:=r;rfl
 |_=>&absurd (show aS=aN from f) Zh
def jq:∀ {xs:List V} {U:List Value},aJ xs U->xs.all dU=aN->U.any (eqU x)=xs.any λy=>eqV y x
 |_,_,.nil,_=>rfl
 |y::xs,u::U,.cons r t,f=>by
  rw[Yt,bAE] at f;rw[Yu,Yu,wo r f.1,jq t f.2]
def dE(c:aE x v)(fx:dU x=aN):∀ {xs:List V} {U:List Value},aJ xs U->xs.all dU=aN->∀u ∈ U,VT A s u v (eqU x u)
 |_,_,.nil,_=>λu hu=>by cases hu
 |y::xs,u::U,.cons r t,f=>λd hu=>by
  rw[Yt,bAE] at f;rcases Zn.mp hu with rfl |hu
  ·rw[wo r f.1];&L6 r c f.1 fx
  ·&dE c fx t f.2 d hu
abbrev inV(x:V)(xs:List V):Bool:=xs.any λy=>eqV y x
abbrev rIn(K:VY)(neg:Bool):R2:=λx y H Q=>∃p c,y = .ref p/\(SqL K H p c\/SqT K H p c)/\dU x=aN/\c.all dU=aN/\Q (.bl (if neg then !inV x c else inV x c)) H
def zP:OpR X (Zak .In) (rIn X.K aS):=by
 intro j s B H x y v u Q I k l h;#{p,z,rfl,hq,fx,fs,q}:=h;cases l;rcases hq with hq |hq
 ·#{c,r,f,n}:=I.list hq;~SeqAt.in_listAt (eqU x) f.isList (λw d=>dE k fx r fs w (by simpa using d)) ⟨.bl _,H,I,rfl,?_⟩;rw[show c.toArray.any (eqU x)=c.any (eqU x) by simp,jq r fs];&q
 ·#{c,r,f,n}:=I.tuple hq;~SeqAt.in_tupleAt (eqU x) f (λw d=>dE k fx r fs w (by simpa using d)) ⟨.bl _,H,I,rfl,?_⟩;rw[show c.toArray.any (eqU x)=c.any (eqU x) by simp,jq r fs];&q
def rj:OpR X (Zak .NotIn) (rIn X.K aN):=by
 intro j s B H x y v u Q I k l h;#{p,z,rfl,hq,fx,fs,q}:=h;cases l;rcases hq with hq |hq
 ·#{c,r,f,n}:=I.list hq;~SeqAt.notIn_listAt (eqU x) f.isList (λw d=>dE k fx r fs w (by simpa using d)) ⟨.bl _,H,I,rfl,?_⟩;rw[show c.toArray.any (eqU x)=c.any (eqU x) by simp,jq r fs];&q
 ·#{c,r,f,n}:=I.tuple hq;~SeqAt.notIn_tupleAt (eqU x) f (λw d=>dE k fx r fs w (by simpa using d)) ⟨.bl _,H,I,rfl,?_⟩;rw[show c.toArray.any (eqU x)=c.any (eqU x) by simp,jq r fs];&q
def jr:aV X (.builtin "len") (λxs H Q=>∃p y,xs=[.ref p]/\(SqL X.K H p y\/SqT X.K H p y)/\Q (.int y.length) H):=by
 intro k s v H xs U Q I r h;#{p,y,rfl,hq,q}:=h;#{u,rfl,l}:=bQ r;cases l;!z:=jY;rcases hq with hq |hq
 ·#{f,j,d,n}:=I.list hq;!c:=j.length;&Calls.call_len_list d.isList (by simp only[Zk] <;> lia) ⟨.int y.length,H,I.tok _,⟨s.toks+1,by rw[Zk,c]⟩,q⟩
 ·#{f,j,d,n}:=I.tuple hq;!c:=j.length;&len_tuple d (by simp only[Zk] <;> lia) ⟨.int y.length,H,I.tok _,⟨s.toks+1,by rw[Zk,c]⟩,q⟩
def pG:aV X (.type "tuple") (λxs H Q=>∃p y,xs=[.ref p]/\((SqL X.K H p y/\∀l,H l=aD->Q (.ref l) (upd H l (.tup y)))\/(SqT X.K H p y/\Q (.ref p) H))):=by
 intro c s z H xs U Q I r h;#{p,y,rfl,h}:=h;#{u,rfl,E}:=bQ r;cases E;rcases h with ⟨j,q⟩ |⟨j,q⟩
 ·#{d,n,k,B}:=I.list j;!C:=n.length;~call_tuple_list k.isList (λf kp=>?_) (by simp only[Zk] <;> lia);!v:Inv X c z H { s with heap:=f }:=I.kept (t':=s.toks) kp
  !J:Inv X c z (upd H f.objs.size (.tup y)) { s with heap:=f.push { cls:=.type "tuple", data:=.seq d.toArray } }:=
   v.laid (t':=s.toks) (λb o e=>Zc _ e) (Zf _) (show ba X.prog X.w _ _ _ (.tup y) from ⟨B,d,n,ra.new _ _⟩)
  &{.ref f.objs.size,_,J,rfl,q _ (v.hok.fresh (Zf _))}
 ·#{d,n,k,B}:=I.tuple j;&call_tuple_same k ⟨.ref p,H,I,rfl,q⟩
abbrev tyV(K:VY)(T:String)(x:V)(H:Hp):Prop:=match x with
 |.str _=>T = "str"
 |.int _=>T = "int"
 |.ref p=>(T = "list"/\∃c,SqL K H p c)\/(T = "tuple"/\((∃o,K.lookup p=aw o/\o.cls = .type "tuple"/\o.dict=aD)\/∃c,H p=aw (.tup c))) ∨
   (T = "dict"/\((∃k,H p=aw (.dK k))\/∃k,H p=aw (.dT k)))\/(T = "set"/\∃S n,H p=aw (.set S n))
 |_=>False
def BQ(I:Inv X l y H s)(r:aE x v)(ty:tyV X.K T x H) :
  s.TypeIs v T/\∀a,v = .ref a->∃ob,s.heap.get? a=aw ob/\ob.dict=aD:=by
 cases x with
 |str z=>
  #{t,rfl}:=r;cases (show T = "str" from ty);&{typeIs_str s z t,λ_ e=>nomatch e}
 |int i=>
  #{t,rfl}:=r;cases (show T = "int" from ty);&{typeIs_int s i t,λ_ e=>nomatch e}
 |ref p=>
  cases r;rcases ty with ⟨rfl,q,u⟩ |⟨rfl,⟨o,h,f,hd⟩ |⟨q,h⟩⟩ |⟨rfl,h⟩ |⟨rfl,S,n,h⟩
  ·#{d,_,j,_}:=I.list u;~{j.isList.typeIs,λa e=>?_};cases e;#{o,n,e,c,hd,_}:=j;&{o,e,hd}
  ·~{⟨o,I.kIn p o h,f⟩,λa e=>?_};cases e;&{o,I.kIn _ o h,hd}
  ·#{_,d,_,o,e,f,_,_,hd}:=I.hok p _ h;~{⟨o,e,f⟩,λa E=>?_};cases E;&{o,e,hd}
  ·!z:∃o,s.heap.get? p=aw o/\o.ExactDict:=by
    rcases h with ⟨k,h⟩ |⟨k,h⟩
    ·#{_,_,_,_,o,_,_,e,ex,_}:=I.hok p _ h;&{o,e,ex}
    ·#{_,_,_,_,o,_,_,e,ex,_}:=I.hok p _ h;&{o,e,ex}
   #{o,e,ex}:=z;~{⟨o,e,ex.1⟩,λa E=>?_};cases E;&{o,e,ex.2.1}
  ·#{o,_,_,_,e,ex,_}:=I.hok p _ h;~{⟨o,e,ex.1⟩,λa E=>?_};cases E;&{o,e,ex.2.1}
 |_=>&False.elim ty
abbrev Rx(K:VY)(T:String)(r:V->List V->Hp->VK->Prop)(d:TE):TE:=λc H Q=>d c H λx h=>tyV K T x h/\r x [] h Q
abbrev tBM(K:VY)(T:String)(r:V->List V->Hp->VK->Prop)(d:TE)(t:TA):TE:=λc H Q=>d c H λx h=>tyV K T x h/\t c h λj f=>r x j f Q
variable {o e:Expr} {es:List Expr} {to:TE} {t:TA} {name:Str} {apos cpos:Pos} {T id:String} {r:V->List V->Hp->VK->Prop}
def L7(y:PlainAttrs T)(slot:Slot T name id)(f:typeOf (.builtin id)=pure (.type "method_descriptor"))(C:MtR X id r)(z:PE X o to)
  (d:ON o name X.env (eval o X.env)=eval o X.env:=by rfl) (c:(apos.endLine == cpos.line)=aN:=by rfl):PE X (.Call (.Attribute o name apos) [] [] cpos) (Rx X.K T r to):=by
 intro p s k H Q I h;~wpAny_Call_method0_late d c (thn (z p s k H _ I h) λv u ⟨x,l,j,r1,ty,q⟩=>?_);#{n,B}:=BQ j r1 ty;&{T,id,y,slot,f,n,B,W8 rfl (PySem.evalArgs_none (C p u k l x [] v [] Q j r1 .nil q))}
def tN(Y:PlainAttrs T)(slot:Slot T name id)(k:typeOf (.builtin id)=pure (.type "method_descriptor"))(hm:MtR X id r)(B:PE X o to)(z:PA X (e::es) t)
  (f:ON o name X.env (eval o X.env)=eval o X.env:=by rfl)
  (j:((backTo cpos (ZaQ (e::es) X.env)).all (λx=>!x.1) && (OR cpos (Zau [] X.env)).all (λx=>x.1.isSome)
   && decide ((e::es).length+([]:List Keyword).length+(if ([]:List Keyword).isEmpty then 0 else 1) < 30))=aN:=by rfl)
  (d:(apos.endLine == cpos.line)=aN:=by rfl) (hs:ZaQ (e::es) X.env=(aS,eval e X.env)::ZaQ es X.env:=by rfl) (c:(backTo cpos (ZaQ es X.env)).any (·.1)=aS:=by rfl) :
  PE X (.Call (.Attribute o name apos) (e::es) [] cpos) (tBM X.K T r to t):=by
 intro p s l H Q I h;~wpAny_Call_method_late f j d rfl (thn (B p s l H _ I h) λv s1 ⟨x,J,q,r1,ty,u⟩=>?_);#{h1,E}:=BQ q r1 ty;~{T,id,Y,slot,k,h1,E,?_};!n:=z cpos p s1 l J _ q u;rw[hs] at n ⊢;~W8 (by show(aS || (backTo cpos (ZaQ es X.env)).any (·.1))=aS;rw[c] <;> rfl) (Calls.evalArgs_plain ?_);&thn n λU Z ⟨O,C,L,r2,y⟩=>hm p Z l C x O v U Q L r1 r2 y
end
abbrev MtM(X:Cx)(id:String)(r:V->List V->Hp->VK->Prop):Prop:=
 ∀ (p:List (Addr × Obj)) (s:Shared) (b:St) (H:Hp) (x:V) (c:List V) (v:Value) (u:List Value) (Q:VK),Inv X p b H s->aE x v->aJ c u->r x c H Q ->
  wpAny (model X.prog X.w) X.A (call (.builtin id) (v::u)) (EP X p b Q) X.xe s
def aJ.one:∀ {x:V} {U:List Value},aJ [x] U->∃u,U=[u]/\aE x u
 |_,_,.cons r .nil=>⟨_,rfl,r⟩
def aJ.zero:∀ {u:List Value},aJ [] u->u=[]
 |_,.nil=>rfl
def aJ.dropLast{xs:List V}{u:List Value}(h:aJ xs u):aJ xs.dropLast u.dropLast:=by
 induction h with
 |nil=>&.nil
 |cons r t I=>
  cases t with
  |nil=>&.nil
  |cons q T=>&.cons r I
def aJ.eraseIdx:∀ {xs:List V} {u:List Value} (i:Nat),aJ xs u->aJ (xs.eraseIdx i) (u.eraseIdx i)
 |_,_,_,.nil=>.nil
 |_,_,0,.cons _ t=>t
 |_,_,i+1,.cons r t=>.cons r (aJ.eraseIdx i t)
def iM{c:Type}(l:List c):l.eraseIdx (l.length - 1)=l.dropLast:=by
 induction l with
 |nil=>rfl
 |cons a r I=>
  cases r with
  |nil=>rfl
  |cons b r=>
   !e:(a::b::r).length - 1=((b::r).length - 1)+1:=by
    !h:(a::b::r).length=r.length+2:=rfl;!d:(b::r).length=r.length+1:=rfl
    lia
   rw[e,YJ,I]
   all_goals rfl
def qe{b:Type}:∀ (l:List b) (i:Nat),(l.eraseIdx i).length<=l.length
 |[],_=>Zf _
 |_::_,0=>YM _
 |_::r,i+1=>Ww (qe r i)
section
variable {X:Cx} {pins:List (Addr × Obj)} {σ:St} {H:Hp} {s:Shared} {l b:Addr} {xs ys zs:List V}
def Inv.lset{its its':List Value}{n:Nat}{f:Array Value->Array Value}{t':Nat}(I:Inv X pins σ H s)(h:H l=aw (.lst xs))
  (e:s.heap.get? l=aw { cls:=.type "list", data:=.seq its.toArray n }) (k:f its.toArray=its'.toArray) (d:aJ ys its') (j:ys.length<=sizeLine) :
  Inv X pins σ (upd H l (.lst ys)) { s with heap:=s.heap.update l (Obj.mapSeq f),toks:=t' }:=by
 !q:=PySem.IsL.update e f;rw[k] at q;~I.write (x:=l) (e:=l) (by rw[h];&trivial) (.inl rfl) (λB u hb c=>(ZO s.heap (Obj.mapSeq f) (Ne.symm hb)).trans c) ⟨_,q⟩ ?_;&{j,its',_,d,q}
def Inv.lnew{t':Nat}(I:Inv X pins σ H s)(h:aJ ys its)(c:ys.length<=sizeLine) :
  Inv X pins σ (upd H s.heap.objs.size (.lst ys)) { s with heap:=s.heap.push { cls:=.type "list", data:=.seq its.toArray },toks:=t' }:=
 I.laid (λ_ _ q=>Zc _ q) (Zf _) ⟨c,its,0,h,Zs _ rfl⟩
def Inv.fresh(I:Inv X pins σ H s):H s.heap.objs.size=aD:=I.hok.fresh (Zf _)
def Inv.lstM(I:Inv X pins σ H s)(h:H l=aw (.lst xs)):xs.length<=sizeLine/\∃ (its:List Value) (n:Nat),aJ xs its/\xs.length=its.length/\s.heap.get? l=aw { cls:=.type "list", data:=.seq its.toArray n }:=by
 #{z,its,n,r,e}:=I.hok l _ h;&{z,its,n,r,r.length,e}
end
section
variable {X:Cx}
abbrev FZ:V->List V->Hp->VK->Prop:=λx v H Q=>∃l b y,x = .ref l/\v=[y]/\H l=aw (.lst b)/\b.length < sizeLine/\Q .non (upd H l (.lst (b++[y])))
def qg:MtM X "list.append" FZ:=by
 intro p s B H x J v U Q I d f h;#{l,k,y,rfl,rfl,c,E,q}:=h;cases d;#{u,rfl,j}:=f.one;#{z,b,n,r,C,e}:=I.lstM c;~Zae Vy ⟨_,e,rfl⟩ F.entry_list_append (F.args_list_append_2 _ _) (PySem.list_append l b.toArray n u (by rw[Zk];lia)) ⟨e,?_⟩;~{.non,_,I.lset (its':=b++[u]) c e (by simp) (r.append (.cons j .nil)) ?_,rfl,q};rw[Ze,Zm]
 lia
abbrev UA:V->List V->Hp->VK->Prop:=λx v H Q=>∃l b y,x = .ref l/\v=[]/\H l=aw (.lst b)/\b[b.length - 1]?=aw y/\Q y (upd H l (.lst b.dropLast))
def L8:MtM X "list.pop" UA:=by
 intro p s O H x T v U Q I j E h;#{l,L,y,rfl,rfl,f,B,q}:=h;cases j;!d:=E.zero;subst d;#{z,b,n,r,k,e}:=I.lstM f;#{u,C,J}:=r.get B
 !c:b.toArray[b.toArray.size - 1]?=aw u:=by
  show b.toArray[b.length - 1]?=aw u;rw[<-X3,<-k];&C
 ~Zae VA ⟨_,e,rfl⟩ F.entry_list_pop (F.args_list_pop_1 _) (MeetsSeq.list_pop_last l b.toArray n u c (by rw[Zk];lia)) ⟨e,?_⟩;~{y,_,I.lset (its':=b.dropLast) f e ?_ r.dropLast ?_,J,q}
 ·show b.toArray.eraseIdxIfInBounds (b.toArray.size - 1)=b.dropLast.toArray;rw[Zk,Xm,iM]
 ·rw[List.length_dropLast]
  lia
abbrev L9:V->List V->Hp->VK->Prop:=λx v H Q=>∃l b i k y,x = .ref l/\v=[.int i]/\H l=aw (.lst b)/\-(2 ^ 63)<=i/\i < 2 ^ 63/\seqIndex? i b.length=aw k/\b[k]?=aw y/\Q y (upd H l (.lst (b.eraseIdx k)))
def BR:MtM X "list.pop" L9:=by
 intro p s Y H x vs v Z Q I C O h;#{l,f,i,k,y,rfl,rfl,d,T,J,B,L,q}:=h;cases C;#{u,rfl,U}:=O.one;#{t,rfl}:=U;#{z,b,n,r,E,e}:=I.lstM d;#{w,j,c}:=r.get L
 ~Zae VA ⟨_,e,rfl⟩ F.entry_list_pop (F.args_list_pop_2 _ _)
  (MeetsSeq.list_pop_at l b.toArray n i t k w (fitsIndex_both T J) (by rw[Zk,<-E];&B) (by rw[<-X3];&j) (by rw[Zk];lia)) ⟨e,?_⟩
 ~{y,_,I.lset (its':=b.eraseIdx k) d e ?_ (r.eraseIdx k) ?_,c,q}
 ·show b.toArray.eraseIdxIfInBounds k=(b.eraseIdx k).toArray;rw[Xm]
 ·!:=qe f k
  lia
abbrev UB:R2:=λx y H Q=>∃l b c z,x = .ref l/\y = .ref b/\H l=aw (.lst c)/\H b=aw (.lst z)/\c.length+z.length<=sizeLine/\∀p,H p=aD->Q (.ref p) (upd H p (.lst (c++z)))
def Ma:OpR X (No .Add) UB:=by
 intro p s T H x y v u Q I k C h;#{l,b,O,Z,rfl,rfl,B,J,Y,q}:=h;cases k;cases C;#{z,d,n,r,U,e}:=I.lstM B;#{z2,c,L,r2,f,j}:=I.lstM J;~PySem.P.add_list e j ?_ (by rw[Zk,Zk];lia);!E:d.toArray++c.toArray=(d++c).toArray:=by simp
 rw[E];&{.ref _,_,I.lnew (t':=s.toks) (r.append r2) (by rw[Ze];lia),rfl,q _ I.fresh}
end
end L2
namespace Att
open PySem PySem.W PySem.Calls PyProof.Rows
def lQ:∀ (ns:List Int) (v:List Value),WellAll P h v (ns.map WData.int)->IntsAre v ns:=by
 intro ns
 induction ns with
 |nil=>
  intro v w;rw[Z0] at w;cases w;&.nil
 |cons n ns I=>
  intro v w;rw[Zy] at w;cases w with
  |cons a b=>
   cases a;&.cons _ _ (I _ b)
def zQ{l:OpenLaw}{n:Nat}(z:l.most=aw n){P:Params}{h:Heap}{args:List WData}{v:List Value}
  (b:l.row.toRowW.claim.pre args=aN) (k:WellAll P h v args) :
  ∃a y ns,v=[Value.ref a]/\args=[WData.list (ns.map WData.int)]/\h.get? a=aw { cls:=.type "list", data:=.seq y.toArray }/\IntsAre y ns/\ns.length<=n:=by
 !p:WShape.hasAll [] args [.list .int]=aN:=(pre_splitW b).1;!u:l.pre.holds [] { args:=args }=aN:=(pre_splitW b).2;#{d,r,rfl,J,C}:=hasAllW_cons p;obtain rfl:=hasAllW_nil C;#{X,rfl,I}:=hasW_list J;#{ns,rfl}:=items_int I
 !f:ns.length<=n:=by
  unfold OpenLaw.pre at u
  !h4:(WTm.not (.lt (.lit (.int (n:Int))) (.len (.arg 0)))).holds [] { args:=[.list (ns.map .int)] }=aN:=by
   !h4:=(holds_andW u).1;rw[z] at h4;&h4
  !j:=condW_of h4 (w_not (w_lt w_lit (w_len_list (w_arg rfl))));rw[Za] at j;~Nat.le_of_not_lt λq=>?_;!Q:(n:Int) < ((ns.length:Nat):Int):=by lia
  first
   |(rw[decide_eq_true Q] at j;&absurd j (by decide))
   |(simp at j;lia)
 cases k with
 |cons E w2=>
  cases w2;cases E with
  |list B c=>&{_,_,ns,rfl,rfl,B,lQ ns _ c,f}
def zR(l:OpenLaw)(args:List WData):l.row.toRowW.claim.post args (.bool aN) args=aN:=
 postW_of (r:=l.row.toRowW) (X:=(aN == aN))
  (show WShape.has [] (.bool aN) .bool=aN by first |rfl |decide |simp[WShape.has,WShape.arms,WShape.armsAll])
  (show(WTm.eq .res (.lit (.bool aN))).value [] { args:=args,res:=aw (.bool aN),after:=args }=aw (.bool (aN == aN)) from w_eq_bool (w_res rfl) w_lit) rfl
def attach_call{l:OpenLaw}{n:Nat}{q:Program}{loose:List Str}{X:(Str->Option Value)->Heap->Prop}{J:World->Heap->Prop}{d:DefRec}
  (hn:l.most=aw n) (I:d.params.defaults=[])
  (call:∀ (w:World) (s₀ b:Shared) (mg z:Str->Option Value) (k:Addr) (o:Obj) (pm cd c:Value) (a:Addr) (v:List Value) (ns:List Int),
   Ground q loose [] X w s₀ mg z b.heap->J w b.heap ->
   b.heap.get? k=aw o->o.data = .func (docDef d.name d.params d.body d.scope pm cd c)->b.heap.CodeRec cd d.name->mg d.name=aw (.ref k) ->
   b.heap.get? a=aw { cls:=.type "list", data:=.seq v.toArray }->IntsAre v ns->ns.length<=n->b.gens=#[] ->
   codeAny (model l.prog w) callerA (.call (.ref k) ⟨[.ref a],[]⟩) (λr y=>r = .ok (.ret (.bool aN))/\OldK b.heap y.heap/\y.os=b.os/\AllBare y.gens) b) :
  WalkO q loose X J l.row.toRowW d [] (λf v=>PySem.call f v):=by
 intro w s₀ b mg z G Y k o pm cd c U kV ho hd B Q E hg O T as p L Z C hlo;obtain rfl:U = .none:=Dflts.none Q I;obtain rfl:kV = .none:=Dflts.noKw Q;#{a,v,ns,rfl,rfl,j,h,u}:=zQ hn p C;~enter_call (Zaj (call w s₀ b mg z k o pm cd c a v ns G Y ho (fd_plain hd) B E j h u hg) λr y hq=>?_);#{rfl,h2,h3,h4}:=hq;&{.inl ⟨.bool aN,.bool aN,[],rfl,λ_=>rfl,.bool aN,zR l _,λ_=>⟨List.Pairwise.nil,λ_ hm=>(nomatch hm)⟩⟩,h2,h3,h4}
end Att
namespace L2
open PySem PySem.Spec PyProof.Rows
def jZ:∀ {v:List Value} {ns:List Int},IntsAre v ns->aJ (ns.map V.int) v
 |_,_,.nil=>.nil
 |_,_,.cons n t h=>.cons ⟨t,rfl⟩ (jZ h)
abbrev fE(s:Stmt):W6:=match s with
 |.FunctionDef _ a _ _ _ _ _ _ _ _=>a
 |_=>{ posonlyargs:=[],args:=[],vararg:=aD,kwonlyargs:=[],kw_defaults:=[],kwarg:=aD,defaults:=[] }
abbrev b9(s:Stmt):List Stmt:=match s with
 |.FunctionDef _ _ b _ _ _ _ _ _ _=>b
 |_=>[]
abbrev aH(s:Stmt):Scope:=match s with
 |.FunctionDef _ _ _ _ _ _ sc _ _ _=>sc
 |_=>{ kind:=.function,names:=[],isGenerator:=false,isCoroutine:=false }
@[inline]abbrev CX0:CXT:=λ_ _ _ _ _ _=>False
@[inline]abbrev E0:XK:=λ_ _ _=>False
def Ry:wc CX0 X E0:=λ_ _ _ _ _ _ _ h=>h.elim
structure Fun(K:VY)(x qual:Str)(st:Stmt)(f:Addr)(fd:VI):Prop where
 ex:∃ (oc:Value) (od:Option Addr) (kV doc pm:Value) (an:Option Addr) (cdv ct:Value) (osl:Array (Option Value)),
  fd=V2 x qual (fE st) (b9 st) (aH st) .none kV doc pm an cdv ct/\K.lookup f=aw ⟨oc,od,.func fd,osl⟩/\V0 K cdv qual=aN
 kp:V9 K (.ref f)=aN
section
variable {P:Program} {w:World} {K:VY} {mg:Str->Option Value} {base:Heap}
def Fun.ok{x b:Str}{st:Stmt}{f:Addr}{n:VI}{N ps:List Str}{k:Nat}{sp:Sp}(F:Fun K x b st f n)(S:FnScope N ps (aH st))(len:∀v H Q E,sp v H Q E->v.length=ps.length)
  (d:∀ (c:Value) (A:Around) (outer:List Env) (s:Shared) (H:Hp) (v:List V) (Q:VK) (E:XK),Room k (A.deeper (envOfC b (aH st) s.heap.objs.size f c))->sp v H Q E ->
   ∃t,PSs (jm CX0 P w K mg base N b (aH st) f c A outer s H E).nox (b9 st) t/\t { nx:=λ_ y=>Q .non y,rt:=Q } (fc N v) H):FnOk P w K mg base CX0 (k+1) f n ps sp:=by
 #{C,z,kV,p,pm,B,c,ct,O,rfl,L,j}:=F.ex;~Ko L j S len λA outer s H v Q E u l=>?_;#{t,h,q}:=d c A outer s H v Q E u l;&{t,h.nox,q}
def Fun.binds{x q:Str}{st:Stmt}{f:Addr}{j:VI}{ps:List Str}(F:Fun K x q st f j)
  (h:∀ (kV d pm:Value) (b:Option Addr) (c ct:Value) (u:List Value),u.length=ps.length->NE (V2 x q (fE st) (b9 st) (aH st) .none kV d pm b c ct) ⟨u,[]⟩=pure (ps.zip u)):pZ K j ps []:=by
 #{l,n,kV,d,pm,b,c,ct,O,rfl,L,k}:=F.ex;&.all (h kV d pm b c ct)
def Mb{x qual:Str}{st:Stmt}{f:Addr}{j:Value}{h b:Option Addr}{O:Array (Option Value)}{kV d pm C ct:Value}(l:K.lookup f=aw ⟨j,h,.func (V2 x qual (fE st) (b9 st) (aH st) .none kV d pm b C ct),O⟩)
  (c:V0 K C qual=aN) (k:V9 K (.ref f)=aN):Fun K x qual st f (V2 x qual (fE st) (b9 st) (aH st) .none kV d pm b C ct):=⟨⟨j,h,kV,d,pm,b,C,ct,O,rfl,l,c⟩,k⟩
end
def zS{n:Nat}(h:n<=1000):n < sizeLine:=Yh h (by decide)
abbrev cdO(c:Addr)(q:Str):HO:=.ext λh=>h.CodeRec (.ref c) q
structure TabOk(T:Addr)(pos:Pos)(qual:Str)(H:Hp)(ps:Array Value):Prop where
 at_:H T=aw (.tbl ps)
 tr:VW ps.toList
 cd:∀cv,Zah pos ps.toList=aw cv->∃c',cv = .ref c'/\H c'=aw (cdO c' qual)
abbrev F0(K:VY)(x:Str)(a:Addr):Prop:=∀ (f:Addr) (o:Obj) (b:VI) (c:Addr) (O:Obj) (v:Array Value) (P:Addr),K.lookup f=aw o->o.data = .func b->b.qualname=x->b.code = .ref c->K.lookup c=aw O->O.data = .fields v->v[11]?=aw (.ref P)->P=a
abbrev rm(ifs:List Expr)(env:Env):Sem Bool:=
 forIn ifs aN λc r=>if r=aN then do let ok <-isTrue c env (eval c env);pure (ForInStep.yield ok) else pure (ForInStep.yield r)
def F1{d:Nat}
  (hg:b[d]?=aw ⟨T,C,ifs,0⟩)
  (h:wpAny M A (pyNext it) (λr y=>match r with
   |none=>Q (.done .next) y
   | some v=>wpAny M A (Zav T it v) (λ_ L=>wpAny M A (assign T env v) (λ_ z=>wpAny M A (rm ifs env) (λok n=>if ok=aN then (match b[d+1]? with
     |none=>wpAny M A (eval f env) (λx k=>wpAny M A (call (.builtin "list.append") [j,x]) (λ_ l=>Q (.again (.compLoop (.ListComp f b c p) d it j env)) l) E k) E n
     | some g'=>g'.is_async=0/\wpAny M A (eval g'.iter env) (λx k=>wpAny M A (Zaq g'.iter env x) (λX l=>wpAny M A (pyIter X) (λI J=>
       wpAny M A (runOwn (.compStart (.ListComp f b c p) (d+1) I j env) env) (λ_ O=>Q (.again (.compLoop (.ListComp f b c p) d it j env)) O) E J) E l) E k) E n)
    else Q (.again (.compLoop (.ListComp f b c p) d it j env)) n) E z) E L) E y) E s) :
  wpAny M A (compTurn (.ListComp f b c p) d it j env) Q E s:=by
 unfold compTurn;simp only[hg];~Za0 (Zbw ?_);show wpAny M A (pyNext it >>= _) Q E s;~Za0 (Zbe h (λr y U=>?_) λ_ _ x=>x);cases r with
 |none=>&Zbl U
 |some v=>
  ~Za0 (Zbe U (λ_ L h2=>?_) λ_ _ x=>x);~Za0 (Zbe h2 (λ_ z h3=>?_) λ_ _ x=>x);~Za0 (Zbe h3 (λok n h4=>?_) λ_ _ x=>x);cases ok with
  |false=>&Zbl h4
  |true=>
   simp only[if_true] at h4 ⊢;cases B:b[d+1]? with
   |none=>
    rw[B] at h4;~Za0 (Za0 (Zbe h4 (λx k q=>?_) λ_ _ x=>x));&Za0 (Zbe q (λ_ l u=>Zbl (Zbl u)) λ_ _ x=>x)
   |some g'=>
    rw[B] at h4;#{Z,h4}:=h4;~Za0 (Zbe h4 (λx k q=>Za0 (Zbw ?_)) λ_ _ x=>x);rw[Z];show wpAny M A (Zaq g'.iter env x >>= _) Q E k;~Za0 (Zbe q (λX l u=>?_) λ_ _ x=>x);~Za0 (Za9 (Zbe u (λI J h7=>?_) λ_ _ x=>x));&Za0 (Zbe h7 (λ_ O Y=>Zbl Y) λ_ _ x=>x)
abbrev cm(c:List (Str × Addr)):List (Str × VM)->List (Str × Addr)->List (Str × Addr)
 |[],acc=>acc
 |(n,k)::r,acc=>if k == .free then cm c r ((n,(c.lookup n).getD 0)::acc) else cm c r acc
def iO:∀ (b:List (Str × VM)) (d:List (Str × Addr)),(∀y ∈ b,y.2 = .free->∃c,env.cells.lookup y.1=aw c) ->
  (forIn b d λ(x:Str × VM) (C:List (Str × Addr))=>(match x with |(name,kind)=>if kind == .free then (do let a <-cellOf env name;pure (ForInStep.yield ((name,a)::C))) else pure (ForInStep.yield C):Sem (ForInStep (List (Str × Addr)))))
   = (pure (cm env.cells b d):Sem (List (Str × Addr)))
 |[],d,_=>by rw[XF];rfl
 |(n,k)::r,d,h=>by
  rw[WE];!j:∀y ∈ r,y.2 = .free->∃c,env.cells.lookup y.1=aw c:=λy p=>h y (Zg _ p);cases f:(k == NameKind.free) with
  |true=>
   #{c,l}:=h (n,k) Zj (by simpa using f);!e:cellOf env n=pure c:=by unfold cellOf;rw[show env.cells.lookup n=aw c from l]
   simp only[f,if_true,e,pure_bind];rw[iO r _ j]
   conv=>rhs;rw[cm]
   simp only[f,if_true];rw[show env.cells.lookup n=aw c from l];rfl
  |false=>
   simp only[f,ZN,if_false,pure_bind];rw[iO r _ j]
   conv=>rhs;rw[cm]
   simp only[f,ZN,if_false]
def yd(h:∀y ∈ b.names,y.2 = .free->∃c,env.cells.lookup y.1=aw c):Zag b env=pure (cm env.cells b.names []):=by
 !e:=iO (env:=env) b.names [] h;unfold Zag;~Eq.trans ?_ e
 first
  |rfl
  |(rw[bind_pure])
  |(simp only[bind_pure])
def j6:∀ {b:List (Str × VM)} {d:List (Str × Addr)} {x:Str} {c:Addr},(x,c) ∈ cm C b d->(x,c) ∈ d\/((x,NameKind.free) ∈ b/\c=(C.lookup x).getD 0)
 |[],_,_,_,h=>.inl h
 |(n,k)::r,d,x,c,h=>by
  unfold cm at h;split at h
  ·rename_i j;!f:k = .free:=by simpa using j
   rcases j6 h with e |⟨e,q⟩
   ·rcases Zn.mp e with e |e
    ·cases e;&.inr ⟨by rw[f];&Zj,rfl⟩
    ·&.inl e
   ·&.inr ⟨Zg _ e,q⟩
  ·rcases j6 h with e |⟨e,q⟩
   ·&.inl e
   ·&.inr ⟨Zg _ e,q⟩
def ga:∀ {l:List (Str × Addr)},(∃c,(x,c) ∈ l)->∃c,l.lookup x=aw c
 |[],⟨_,h⟩=>nomatch h
 |(n,c)::r,⟨c',h⟩=>by
  rw[Yv];cases hb:x == n with
  |true=>&{c,rfl}
  |false=>
   rcases Zn.mp h with e |e
   ·cases e;simp at hb
   ·&ga ⟨c',e⟩
def hU:∀ {b:List (Str × VM)} {acc:List (Str × Addr)},(x,NameKind.free) ∈ b\/(∃c,(x,c) ∈ acc)->∃c,(x,c) ∈ cm cells b acc
 |[],_,h=>h.elim (λe=>nomatch e) id
 |(n,k)::r,acc,h=>by
  unfold cm;split
  ·rename_i d;~hU ?_;rcases h with h |⟨c,h⟩
   ·rcases Zn.mp h with e |e
    ·cases e;&.inr ⟨_,Zj⟩
    ·&.inl e
   ·&.inr ⟨c,Zg _ h⟩
  ·rename_i d;~hU ?_;rcases h with h |⟨c,h⟩
   ·rcases Zn.mp h with e |e
    ·cases e;&absurd rfl d
    ·&.inl e
   ·&.inr ⟨c,h⟩
def cK:∀ (b:List (Str × VM)) (n:Nat) (c:List (Str × Addr)),Zaf n b c=Zaf n b []++c
 |[],_,_=>rfl
 |(y,k)::r,n,c=>by
  unfold Zaf;split
  ·rw[cK r (n+1) ((y,n)::c),cK r (n+1) [(y,n)],Yk];rfl
  ·&cK r n c
def eG:∀ (b:List (Str × VM)) (n:Nat) (d:List (Str × Addr)) (x:Str) (c:Addr),(x,c) ∈ Zaf n b d->(x,c) ∈ d\/(x,NameKind.cell) ∈ b
 |[],_,_,_,_,h=>.inl h
 |(y,k)::r,n,d,x,c,h=>by
  unfold Zaf at h;split at h
  ·rename_i j;!f:k = .cell:=by simpa using j
   rcases eG r _ _ x c h with e |e
   ·rcases Zn.mp e with e |e
    ·cases e;&.inr (by rw[f];&Zj)
    ·&.inl e
   ·&.inr (Zg _ e)
  ·rcases eG r _ _ x c h with e |e
   ·&.inl e
   ·&.inr (Zg _ e)
abbrev pH(sc:Scope)(n:Str)(k:VM):VM:=if (k == .free && sc.kind == .function && sc.names.lookup n == aw .cell) then .cell else k
abbrev gf(b sc:Scope):Scope:={ b with names:=b.names.map λy=>(y.1,pH sc y.1 y.2) }
def F2(b:Scope)(env:Env):relabel b env=gf b env.scope:=by
 unfold relabel gf
 congr 1
 ~Ym λy _=>?_;#{n,k}:=y;unfold pH;dsimp only;show(if (k == NameKind.free && env.scope.kind == ScopeKind.function && List.lookup n env.scope.names == aw NameKind.cell)=aN then (n,NameKind.cell) else (n,k))=_;split <;> rfl
def gg(sc:Scope)(x:Str):∀b:List (Str × VM),(b.map λy=>(y.1,pH sc y.1 y.2)).lookup x=(b.lookup x).map (pH sc x)
 |[]=>rfl
 |(n,k)::r=>by
  rw[Zy,Yv,Yv];dsimp only;cases hb:x == n with
  |true=>
   !q:x=n:=by simpa using hb
   subst q;rfl
  |false=>&gg sc x r
abbrev wp(scope:Scope)(C:Addr)(env:Env):Env:=
 { scope:=gf scope env.scope,locals:=C,globals:=env.globals,cells:=Zaf (C+1) scope.names (cm env.cells scope.names []),qual:=env.qual,func:=aD,code:=env.code,frame:=env.frame,builtins:=env.builtins }
def zU
  (h:Q { scope:=scope,locals:=s.heap.objs.size,globals:=env.globals,cells:=Zaf (s.heap.objs.size+1) scope.names cl,qual:=env.qual,func:=aD,code:=env.code,frame:=env.frame,builtins:=env.builtins }
   { s with heap:=ZaF (s.heap.push { cls:=.type "dict", data:=.dict #[] }) scope.names }) :
  wpAny M A (Zay scope env.globals cl [] env.qual aD .none (aw env)) Q E s:=by
 simp only[Zay,Wj,if_true];~Za0 (wpAny_alloc ?_);~Za0 (wpAny_layCells _ (λname kind cells=>by cases b:kind == NameKind.cell <;> simp[b]) _ _ _ _ ?_);rw[show({ s with heap:=s.heap.push { cls:=.type "dict", data:=.dict #[] } }:Shared).heap.objs.size=s.heap.objs.size+1 from Yz ..];simp only[XF]
 first
  |&Za0 (Zbl (Zbl h))
  |&Zbl h
abbrev BS(i:Nat):Str:=⟨#[i]⟩
abbrev dF:List Nat->List Str->List Str
 |[],N=>N
 |i::hs,N=>dF hs (N.set i (BS i))
def j7:∀ (hs:List Nat) (N:List Str),(dF hs N).length=N.length
 |[],_=>rfl
 |i::hs,N=>by rw[dF,j7 hs,Yb]
def qh:∀ (hs:List Nat) (N:List Str) {i:Nat} {x:Str},(dF hs N)[i]?=aw x->N[i]?=aw x\/∃j ∈ hs,x=BS j
 |[],_,_,_,h=>.inl h
 |k::hs,N,i,x,h=>by
  rw[dF] at h;rcases qh hs (N.set k (BS k)) h with e |⟨j,hj,e⟩
  ·rw[YC] at e;split at e
   ·split at e
    ·&.inr ⟨k,Zj,(Option.some.inj e).symm⟩
    ·cases e
   ·&.inl e
  ·&.inr ⟨j,Zg _ hj,e⟩
structure CmScope(own:List Str)(hs:List Nat)(N:List Str)(scope sc:Scope):Prop where
 kind:scope.kind = .function
 nd:(dF hs N++own).Nodup
 uniq:(scope.names.map (·.1)).Nodup
 dis:∀x ∈ dF hs N,scope.names.lookup x ≠ aw .local/\scope.names.lookup x ≠ aw .cell
 fr:∀y ∈ scope.names,y.2 = .free->sc.names.lookup y.1=aw .cell\/sc.names.lookup y.1=aw .free
 hd:∀i ∈ hs,scope.names.lookup (BS i)=aD
def dB:∀ {l:List (Str × VM)} {x:Str} {k:VM},(l.map (·.1)).Nodup->(x,k) ∈ l->l.lookup x=aw k
 |(n,k')::r,x,k,nd,h=>by
  rw[Zy,Z9] at nd;rw[Yv];rcases Zn.mp h with e |e
  ·cases e;simp
  ·!ne:(x == n)=aS:=by
    cases hb:x == n with
    |false=>rfl
    |true=>
     !q:x=n:=by simpa using hb
     subst q;&absurd (Zz.mpr ⟨(x,k),e,rfl⟩) nd.1
   rw[ne];&dB nd.2 e
abbrev cxC(X:Cx)(own:List Str)(hs:List Nat)(b:Scope)(C:Addr)(ex:List Addr)(s:Shared)(H:Hp):Cx where
 prog:=X.prog
 w:=X.w
 K:=X.K
 mg:=X.mg
 base:=X.base
 A:=X.A
 N:=dF hs X.N++own
 s₀:=s
 H₀:=H
 env:=wp b C X.env
 outer:=X.stack
 stack:=X.stack
 ex:=ex
 fn:=λx=>b.names.lookup x == aw .cell
 calm:=X.calm
 pn:=[]
 xe:=λ_ _=>False
section
variable {X:Cx} {pins:List (Addr × Obj)} {σ:St} {H:Hp} {s:Shared} {own:List Str} {hs:List Nat} {scope:Scope} {fp:List Addr}
def Inv.compStart(I:Inv X pins σ H s)(S:CmScope own hs X.N scope X.env.scope)(hf:∀b ∈ fp,iL X pins H b)(hfo:∀b ∈ fp,b < s.heap.objs.size) :
  Inv (cxC X own hs scope s.heap.objs.size fp s H) [] (σ++ZP own.length aD) H { s with heap:=ZaF (s.heap.push { cls:=.type "dict", data:=.dict #[] }) scope.names }:=by
 !keep:∀b o,s.heap.get? b=aw o->(ZaF (s.heap.push { cls:=.type "dict", data:=.dict #[] }) scope.names).get? b=aw o:=λb o e=>ZaG _ _ b o (Zc _ e);!ok:=cellsFrom_ok scope.names (s.heap.push { cls:=.type "dict", data:=.dict #[] }) (s.heap.objs.size+1) [] ⟨λ_ _ hm=>(nomatch hm),List.Pairwise.nil⟩ (by rw[Yz];&Zf _);rw[Yz] at ok;!C:(wp scope s.heap.objs.size X.env).cells=Zaf (s.heap.objs.size+1) scope.names []++cm X.env.cells scope.names []:=cK _ _ _;!Z:∀x,(x,NameKind.free) ∈ scope.names->∃c,X.env.cells.lookup x=aw c:=λx h=>I.ok.has x (S.fr (x,.free) h rfl)
 !old:∀x c,(x,c) ∈ cm X.env.cells scope.names []->X.env.cells.lookup x=aw c/\(x,NameKind.free) ∈ scope.names:=λx c h=>by
  rcases j6 h with e |⟨e,q⟩
  ·&nomatch e
  ·#{c',T}:=Z x e;rw[T] at q;&{by rw[T,q];rfl,e}
 !O:∀x c,X.env.cells.lookup x=aw c->c < s.heap.objs.size:=λx c h=>let ⟨_,z⟩:=I.cell x c h;z.lt
 !d:∀x c,(wp scope s.heap.objs.size X.env).cells.lookup x=aw c->((x,c) ∈ Zaf (s.heap.objs.size+1) scope.names [])\/(X.env.cells.lookup x=aw c/\(x,NameKind.free) ∈ scope.names):=λx c h=>by
  !m:=Zax h;rw[C] at m;rcases ZR.mp m with e |e
  ·&.inl e
  ·&.inr (old x c e)
 !n:∀x c,(x,c) ∈ Zaf (s.heap.objs.size+1) scope.names []->s.heap.objs.size+1<=c:=λx c h=>(ok.empty x c h).2
 !noFs:∀b ∈ fp,b ∉ frs X.stack:=λb hb z=>by
  rcases Zn.mp (I.stkSub b z) with e |e
  ·&(hf b hb).2.1 e
  ·&(hf b hb).2.2.1 e
 !xok:(cxC X own hs scope s.heap.objs.size fp s H).Ok:=by
  ~{I.ok.mod,S.kind,I.ok.glob,I.ok.blt,Zf _,?_,?_,?_,I.ok.hd,I.ok.frames,.inl rfl,?_,I.bs,ZJ I.ok.bsz I.sz,?_,noFs,I.stack,I.stkFree}
  ·intro x y c Q L;rcases d x c Q with a |⟨a,_⟩ <;> rcases d y c L with b |⟨b,_⟩
   ·&name_of_addr ok.apart a b
   ·&absurd (ZD (O y c b) (XG (n x c a))) (ZI _)
   ·&absurd (ZD (O x c a) (XG (n y c b))) (ZI _)
   ·&I.ok.inj x y c a b
  ·intro x hx;!hx':(gf scope X.env.scope).names.lookup x=aw .cell\/(gf scope X.env.scope).names.lookup x=aw .free:=hx;!e:=gg X.env.scope x scope.names
   !key:(x,NameKind.cell) ∈ scope.names\/(x,NameKind.free) ∈ scope.names:=by
    cases E:scope.names.lookup x with
    |none=>rw[E] at e;rcases hx' with z |z <;> (rw[show(gf scope X.env.scope).names.lookup x=aD from e] at z;cases z)
    |some k=>
     !m:=Zax E;rw[E] at e;cases k with
     |cell=>&.inl m
     |free=>&.inr m
     |_=>rcases hx' with z |z <;> (rw[show(gf scope X.env.scope).names.lookup x=_ from e] at z;simp[pH] at z)
   rcases key with h |h
   ·!q:=VZ scope.names (s.heap.objs.size+1) (cm X.env.cells scope.names []) (x:=x) (.inl (dB S.uniq h));&Yq.mp q
   ·#{c,T}:=hU (cells:=X.env.cells) (acc:=[]) (.inl h);!q:∃c,(x,c) ∈ (wp scope s.heap.objs.size X.env).cells:=⟨c,by rw[C];&ZB _ T⟩;&ga q
  ·intro x c hfn E
   !J:scope.names.lookup x=aw .cell:=by
    !z:(scope.names.lookup x == aw NameKind.cell)=aN:=hfn
    simpa using z
   rcases d x c E with a |⟨_,b⟩
   ·&ZJ (YM _) (n x c a)
   ·rw[dB S.uniq b] at J;cases J
  ·intro b hb;~{ZH (hfo b hb),λx c h z=>?_};rcases d x c h with a |⟨a,_⟩
   ·&absurd (ZD (z ▸ hfo b hb) (XG (n x c a))) (ZI _)
   ·&(hf b hb).2.2.2.2.1 x c a z
  ·intro b o e hb;rcases (hf b hb).2.2.2.1 with z |z
   ·&I.ok.noex b o e z
   ·!Q:=Zv e;&absurd (ZD Q (ZJ I.ok.bsz z)) (ZI _)
 !m0:(ZaF (s.heap.push { cls:=.type "dict", data:=.dict #[] }) scope.names).Ns s.heap.objs.size (λ_=>aD):=(Heap.Ns.new s.heap (.type "dict")).keeps (ZaG _ _);~{xok,rfl,I.bare,Un.kept keep,⟨_,m0,?_⟩,?_,I.hok.fresh (Zf _),?_,λp hp=>absurd (show p ∈ ([]:List (Addr × Obj)) from hp) (by simp),I.hok.kept keep,?_}
 ·intro i x v Q L h3
  !hi:i < σ.length:=by
   by_cases hi:i < σ.length
   ·&hi
   ·rw[Zp (by lia),YH] at L;split at L <;> cases L
  rw[Zt hi] at L;!hN:i < X.N.length:=by rw[<-I.len];&hi
  !h1h:(dF hs X.N)[i]?=aw x:=by
   !Q:(dF hs X.N++own)[i]?=aw x:=Q
   rwa [Zt (by rw[j7];&hN)] at Q
  !dx:=S.dis x (Zd h1h);!e:=gg X.env.scope x scope.names;!h3':(gf scope X.env.scope).names.lookup x=aw .local\/(gf scope X.env.scope).names.lookup x=aw .cell\/(gf scope X.env.scope).names.lookup x=aw .free:=h3
  !f:scope.names.lookup x=aw .free:=by
   cases E:scope.names.lookup x with
   |none=>rw[E] at e;rcases h3' with z |z |z <;> (rw[show(gf scope X.env.scope).names.lookup x=aD from e] at z;cases z)
   |some k=>
    rw[E] at e dx;cases k with
    |free=>rfl
    |«local»=>&absurd rfl dx.1
    |cell=>&absurd rfl dx.2
    |_=>rcases h3' with z |z |z <;> (rw[show(gf scope X.env.scope).names.lookup x=_ from e] at z;simp[pH] at z)
  !h1':X.N[i]?=aw x:=by
   rcases qh hs X.N h1h with z |⟨j,hj,z⟩
   ·&z
   ·rw[z,S.hd j hj] at f;cases f
  !B:=Zax f;!kX:=S.fr (x,.free) B rfl;#{m,hn,E}:=I.loc;#{u,r,l}:=E i x v h1' L (kX.elim (λz=>.inr (.inl z)) λz=>.inr (.inr z));~{u,r,.inr ⟨?_,?_⟩}
  ·!k3:(gf scope X.env.scope).names.lookup x=aw (pH X.env.scope x .free):=by rw[f] at e;&e
   !k4:pH X.env.scope x .free = .cell\/pH X.env.scope x .free = .free:=by unfold pH;split <;> simp
   rcases k4 with z |z
   ·&.inl (by show(gf scope X.env.scope).names.lookup x=_;rw[k3,z])
   ·&.inr (by show(gf scope X.env.scope).names.lookup x=_;rw[k3,z])
  ·rcases l with ⟨lk,_⟩ |⟨_,c,T,z⟩
   ·!U:X.env.scope.names.lookup x=aw .local:=lk;rcases kX with q |q <;> (rw[q] at U;cases U)
   ·~{c,?_,z.keeps keep};#{c',hc'}:=hU (cells:=X.env.cells) (acc:=[]) (.inl B);#{c2,Y}:=ga (l:=(wp scope s.heap.objs.size X.env).cells) ⟨c',by rw[C];&ZB _ hc'⟩;rcases d x c2 Y with a |⟨a,_⟩
    ·rcases eG _ _ _ _ _ a with q |q
     ·&nomatch q
     ·rw[dB S.uniq q] at f;cases f
    ·rw[T] at a;cases a;&Y
 ·intro x c h;rcases d x c h with a |⟨a,_⟩
  ·&{_,(ok.empty x c a).1}
  ·#{v,z}:=I.cell x c a;&{v,z.keeps keep}
 ·intro x c h;rcases d x c h with a |⟨a,_⟩
  ·&I.hok.fresh (ZJ (YM _) (n x c a))
  ·&I.freeC x c a
 ·show(σ++ZP own.length aD).length=(dF hs X.N++own).length;rw[Ze,Ze,X2,j7,I.len]
end
abbrev tP(J:It)(g:TG)(T:TS)(D:Ends)(b:St)(H:Hp):Prop:=∃W:Nat->Nat->St->Hp->Prop,(∃m,W 0 m b H)/\∀i m b H,W i m b H ->
 (J.stop i H/\D.nx b H)\/(J.go i H/\∃N:St->Hp->Prop,(∀c h,N c h->∃f,f < m/\W (i+1) f c h)/\∀x h,J.yld i H x h->g x b h λd j=>T { D with nx:=N,ct:=N,bk:=D.nx } d j)
abbrev PTs(Y:Cx)(ifs:List Expr)(t:TT):Prop:=
 ∀ (p:List (Addr × Obj)) (s:Shared) (b:St) (H:Hp) (Q:Bool->Hp->Prop),Inv Y p b H s->t b H Q->wpAny (model Y.prog Y.w) Y.A (rm ifs Y.env) (TP Y p b Q) Y.xe s
abbrev F3:TT:=λ_ H Q=>Q aN H
def F4:PTs Y [] F3:=λ_ _ _ H _ I h=>by
 unfold rm;rw[XF];&Zbl ⟨H,I,h⟩
def F5(f:PT Y c t):PTs Y [c] t:=λp s d H Q I h=>by
 unfold rm;rw[WE];simp only[if_true,XF];~Za0 (Za0 (thn (f p s d H Q I h) λb j q=>Zbl ?_));&Zbl q
abbrev PTl(Y:Cx)(E:Expr)(c:List W9)(f:Scope)(l:Pos)(j:Addr)(d:Nat)(t:TS):Prop:=
 ∀ (p:List (Addr × Obj)) (s:Shared) (u:St) (H:Hp) (D:Ends),Inv Y p u H s->t D u H ->
  match c[d+1]? with
  |none=>wpAny (model Y.prog Y.w) Y.A (eval E Y.env) (λx q=>wpAny (model Y.prog Y.w) Y.A (call (.builtin "list.append") [.ref j,x]) (λ_ n=>∃b h,Inv Y p b h n/\D.nx b h) (λ_ _=>False) q) (λ_ _=>False) s
  | some k=>k.is_async=0/\wpAny (model Y.prog Y.w) Y.A (eval k.iter Y.env) (λx q=>wpAny (model Y.prog Y.w) Y.A (Zaq k.iter Y.env x) (λX n=>wpAny (model Y.prog Y.w) Y.A (pyIter X) (λI v=>
    wpAny (model Y.prog Y.w) Y.A (runOwn (.compStart (.ListComp E c f l) (d+1) I (.ref j) Y.env) Y.env) (λ_ y=>∃b h,Inv Y p b h y/\D.nx b h) (λ_ _=>False) v) (λ_ _=>False) n) (λ_ _=>False) q) (λ_ _=>False) s
abbrev fX(T:TT)(t:TS):TS:=λD b H=>T b H λc h=>if c=aN then t D b h else D.nx b h
abbrev Ks(b:Addr)(T:TE):TS:=λD c H=>T c H λx h=>∃X,h b=aw (.lst X)/\X.length < sizeLine/\D.nx c (upd h b (.lst (X++[x])))
section
variable {Y:Cx} {elt:Expr} {gens:List W9} {scope:Scope} {pos:Pos} {acc:Addr} {d:Nat}
def BU(f:Y.xe=λ_ _=>False)(j:gens[d+1]?=aD)(u:PE Y elt T):PTl Y elt gens scope pos acc d (Ks acc T):=by
 intro p s b H D I h;rw[j];!c:=u p s b H _ I h;rw[f] at c;~thn c λx C ⟨v,l,J,k,X,L,n,q⟩=>?_;!z:=qg p C b l (.ref acc) [v] (.ref acc) [x] (λy E=>y = .non/\D.nx b E) J rfl (.cons k .nil) ⟨acc,X,v,rfl,rfl,L,n,rfl,q⟩;rw[f] at z;&thn z λy s6 ⟨U,O,B,r6,Z,Q⟩=>⟨b,O,B,Q⟩
def mV{A:Around}{R:Result->Shared->Prop}{prog:Program}{w:World}{s:Shared}{T I:Expr}{ifs:List Expr}{it acc:Value}{env:Env}(l:gens[d]?=aw ⟨T,I,ifs,0⟩)
  (k:codeAny (model prog w) A (.compLoop (.ListComp elt gens scope pos) d it acc env) R s)
  (h:wpAny (model prog w) A (pyIter it) (λb c=>codeAny (model prog w) A (.compLoop (.ListComp elt gens scope pos) d b acc env) R c) (notedBy (model prog w) A env λx c=>R (.error x) c) s) :
  codeAny (model prog w) A (.compStart (.ListComp elt gens scope pos) d it acc env) R s:=by
 ~codeAny_of_tree ?_;show wpAny _ _ ((compStart (.ListComp elt gens scope pos) d it acc env).onRaise (λx=>do noteFrame x env;standAt theWindowsPlace)) _ _ s;~wpAny_notedAt ?_;unfold compStart;!j:(clausesOf (.ListComp elt gens scope pos))[d]?=aw ⟨T,I,ifs,0⟩:=l;simp only[j,Option.elim];show wpAny _ _ (ask >>= _) _ _ s;~Za0 (wpAny_askSetting (wpAny_ite ?_));split
 ·first
   |&Za0 (Zbl (Zbl (And.intro rfl k)))
   |&Zbl (And.intro rfl k)
 ·first
   |&Za0 (Zbs (Za0 (Zbw (Za0 (Zbe h (λb c f=>Zbl (And.intro rfl f)) λ_ _ x=>x)))))
   |(~Za0 (Zbs ?_);show wpAny _ _ (standAt I.pos >>= _) _ _ s;&Za0 (Zbw (Za0 (Zbe h (λb c f=>Zbl (And.intro rfl f)) λ_ _ x=>x))))
def qi
  (hx:Y.xe=λ_ _=>False) (hc:Y.calm=aN) (hg:gens[d]?=aw ⟨tg,iter,ifs,0⟩) (T:Turn Y.prog Y.w Y.K tg J B it tn) (I2:Inv Y p σ H s) (st2:tn 0 s.heap) (f2:∀b ∈ B,iL Y p H b)
  (hgt:PG Y tg g) (hts:PTs Y ifs ti) (htl:PTl Y elt gens scope pos acc d t) (hW:tP J g (fX ti t) D σ H) :
  codeAny (model Y.prog Y.w) Y.A (.compLoop (.ListComp elt gens scope pos) d (.ref it) (.ref acc) Y.env) (λr Z=>r = .ok .next/\∃c H',Inv Y p c H' Z/\D.nx c H') s:=by
 #{W,⟨m0,w0⟩,Q}:=hW;!h:∀ {H':Hp},(∀b ∈ B,H' b=aD)->∀b ∈ B,iL Y p H' b:=λhn b hb=>⟨hn b hb,(f2 b hb).2⟩;~codeAny_loop rfl (λn Z=>∃i c H',Inv Y p c H' Z/\tn i Z.heap/\(∀b ∈ B,H' b=aD)/\W i n c H') (λn s3 hI=>?_) m0 ⟨0,σ,H,I2,st2,λb hb=>(f2 b hb).1,w0⟩;#{i,f,U,I3,L,O,w3}:=hI;show wpAny _ _ ((compTurn (.ListComp elt gens scope pos) d (.ref it) (.ref acc) Y.env).onRaise (λx=>do noteFrame x Y.env;theTreesLotGoes x)) _ _ s3;~wpAny_noted (Zbe (E:=λ_ _=>False) ?_ (λ_ _ q=>q) λ_ _ z=>z.elim);~F1 hg ?_;rcases Q i n f U w3 with ⟨stop,qn⟩ |⟨go,N,hN,step⟩
 ·~thn (T.done Y rfl rfl rfl hc i p s3 f U _ I3 (h O) L stop) λr s4 ⟨hr,I4⟩=>?_;subst hr;&{rfl,f,U,I4,qn}
 ·~thn (T.item Y rfl rfl rfl hc i p s3 f U _ I3 (h O) L go) λr s4 ⟨u,hr,h4⟩=>?_;subst hr;~thn h4 λ_ s5 ⟨x,H5,I5,r5,y5,k,fr5⟩=>?_;!I5':=I5.pinned (h fr5) (T.obj _ _ k)
  !again:∀ {j:St} {l:Hp} {v:Shared},Inv Y (p++mL B s5.heap) j l v->N j l->∃m,m < n/\∃i c H',Inv Y p c H' v/\tn i v.heap/\(∀b ∈ B,H' b=aD)/\W i m c H':=λ{j l v} I n7=>by
   #{m',hm,w7}:=hN j l n7;~{m',hm,i+1,j,l,I.unpinned,T.keep _ _ _ k λb hb o e=>(I.pin (b,o) (ZB _ (ZB _ (fD hb e)))).1,λb hb=>?_,w7};#{o,e,dd}:=T.obj _ _ k b hb;&(I.pin (b,o) (ZB _ (ZB _ (fD hb e)))).2.1
  !hG:=hgt _ s5 f H5 x u _ I5' r5 (step x H5 y5);rw[hx] at hG;~thn hG λ_ s6 ⟨C,H6,I6,q6⟩=>?_;!hT:=hts _ s6 C H6 _ I6 q6;rw[hx] at hT;~thn hT λok v ⟨l,I,X⟩=>?_;cases ok with
  |false=>
   simp only[ZN,if_false] at X ⊢;&{by trivial,again I X}
  |true=>
   simp only[if_true] at X ⊢;!y:=htl _ v C l _ I X;cases hn:gens[d+1]? with
   |none=>
    rw[hn] at y;&thn y λx s8 h8=>thn h8 λ_ s9 ⟨σ9,H9,I9,q9⟩=>⟨by trivial,again I9 q9⟩
   |some g'=>
    rw[hn] at y;#{ha,y}:=y;&{ha,thn y λx s8 h8=>thn h8 λx' s9 h9=>thn h9 λit' s10 h10=>thn h10 λ_ s11 ⟨σ9,H9,I9,q9⟩=>⟨by trivial,again I9 q9⟩}
abbrev BV(wi:TI)(g:TG)(T:TT)(t:TS):TS:=λD b H=>wi b H λJ h=>tP J g (fX T t) D b h
def F6(f:gens[d+1]?=aw ⟨y,b,ifs,0⟩)
  (hi:PI Y y b wi) (k:PG Y y g) (l:PTs Y ifs z) (j:PTl Y elt gens scope pos acc (d+1) t) (u:Y.xe=λ_ _=>False:=by rfl) (Q:Y.calm=aN:=by rfl) (hs:∀x,Zaq b Y.env x=pure x:=by intro _;rfl) :
  PTl Y elt gens scope pos acc d (BV wi g z t):=by
 intro p s C H D I h;rw[f];~{rfl,?_};!n:=hi p s C H _ I h;rw[u] at n;~thn n λv s5 B=>Zbj (hs v) (thn B λitv X O=>?_);#{it,fp,tn,J,H6,e,U,T,c,Z,W}:=O;subst e;!L:=qi (elt:=elt) (gens:=gens) (scope:=scope) (pos:=pos) (acc:=acc) u Q f T U c Z k l j W;~wpAny_runOwn (Zaj (mV f L (T.self _ 0 X _ _ c L)) λr s8 E=>?_);#{rfl,q}:=E;&q
end
abbrev BW(own:Nat)(wi:TI)(g:TG)(T:Addr->TS):TE:=λc H Q=>wi c H λJ h=>∀b,h b=aD ->
 tP J g (T b) { nx:=λ_ d=>Q (.ref b) d,rt:=λ_ _=>False } (c++ZP own aD) (upd h b (.lst []))
section
variable {X:Cx} {elt tg iter:Expr} {ifs:List Expr} {rest:List W9} {scope:Scope} {pos:Pos} {own:List Str} {hs:List Nat} {wi:TI} {g:TG} {ti:TT} {t:Addr->TS}
def mW{j:List (Addr × Obj)}{σ:St}{Q:VK}{Z:Value}{s2:Shared}{E:Value->Shared->Prop}(hc:X.calm=aN)(S:CmScope own hs X.N scope X.env.scope)
  (hgt:∀C ex s H,PG (cxC X own hs scope C ex s H) tg g) (hts:∀C ex s H,PTs (cxC X own hs scope C ex s H) ifs ti)
  (htl:∀C ex s H f,PTl (cxC X own hs scope C ex s H) elt (⟨tg,iter,ifs,0⟩::rest) scope pos f 0 (t f))
  (h2:PIE X j σ tg (λJ H1=>∀f,H1 f=aD->tP J g (fX ti (t f)) { nx:=λ_ l=>Q (.ref f) l,rt:=λ_ _=>False } (σ++ZP own.length aD) (upd H1 f (.lst []))) Z s2)
  {RR:Value->Addr->Result->Shared->Prop} (hRR:∀f C l z,Inv X j σ l z->iL X j l C->(∃m,z.heap.Ns C m)->Q (.ref f) l->RR (.ref f) C (.ok .next) z) :
  wpAny (model X.prog X.w) X.A (newList []) (λf h=>wpAny (model X.prog X.w) X.A (Zay scope X.env.globals (cm X.env.cells scope.names []) [] X.env.qual aD .none (aw X.env)) (λk v=>
   codeAny (model X.prog X.w) X.A (.compStart (.ListComp elt (⟨tg,iter,ifs,0⟩::rest) scope pos) 0 Z f { k with scope:=relabel scope X.env }) (RR f k.locals) v) E h) E s2:=by
 #{it,u,tn,J,H2,e,I2,T,st2,f2,R}:=h2;subst e;~Zbh ?_;!U:Inv X j σ (upd H2 s2.heap.objs.size (.lst [])) { s2 with heap:=s2.heap.push { cls:=.type "list", dict:=aD,data:=.seq ([]:List Value).toArray } }:=I2.lnew (its:=[]) (t':=s2.toks) .nil (Z2 _);!W:=R s2.heap.objs.size (I2.hok.fresh (Zf _));generalize hs3:({ s2 with heap:=s2.heap.push { cls:=.type "list", dict:=aD,data:=.seq ([]:List Value).toArray } }:Shared)=h at U ⊢;!e3:h.heap=s2.heap.push { cls:=.type "list", dict:=aD,data:=.seq ([]:List Value).toArray }:=by rw[<-hs3]
 !k3:∀b o,s2.heap.get? b=aw o->h.heap.get? b=aw o:=λb o e=>by rw[e3];&Zc _ e
 !O:tn 0 h.heap:=T.keep _ _ _ st2 λb _ o e=>k3 b o e;!fne:∀b ∈ u,b < s2.heap.objs.size:=λb hb=>let ⟨o,e,_⟩:=T.obj _ _ st2 b hb;Zv e;!n:∀b ∈ u,iL X j (upd H2 s2.heap.objs.size (.lst [])) b:=λb hb=>⟨by rw[ae (ZH (fne b hb))];&(f2 b hb).1,(f2 b hb).2⟩;!B:∀b ∈ u,b < h.heap.objs.size:=λb hb=>let ⟨o,e,_⟩:=T.obj _ _ O b hb;Zv e;~zU ?_;!I4:=U.compStart S n B;generalize hH3:upd H2 s2.heap.objs.size (.lst [])=H3 at U I4 n W
 !eE:({ scope:=relabel scope X.env,locals:=h.heap.objs.size,globals:=X.env.globals,cells:=Zaf (h.heap.objs.size+1) scope.names (cm X.env.cells scope.names []),qual:=X.env.qual,func:=aD,code:=X.env.code,frame:=X.env.frame,builtins:=X.env.builtins }:Env)=wp scope h.heap.objs.size X.env:=by
  unfold wp;rw[F2]
 generalize hs4:({ h with heap:=ZaF (h.heap.push { cls:=.type "dict", data:=.dict #[] }) scope.names }:Shared)=v at I4 ⊢;!k4:∀b o,h.heap.get? b=aw o->v.heap.get? b=aw o:=λb o e=>by rw[<-hs4];&ZaG _ _ b o (Zc _ e)
 !y:tn 0 v.heap:=T.keep _ _ _ O λb _ o e=>k4 b o e
 !f4:∀b ∈ u,iL (cxC X own hs scope h.heap.objs.size u h H3) [] H3 b:=λb hb=>by
  ~{(n b hb).1,ZH (B b hb),I4.ok.exfs b hb,.inl hb,λx c hl=>(I4.ok.exf b hb).2 x c hl,λp hp=>absurd (show p ∈ ([]:List (Addr × Obj)) from hp) (by simp)}
 !L:=qi (Y:=cxC X own hs scope h.heap.objs.size u h H3) (elt:=elt) (gens:=⟨tg,iter,ifs,0⟩::rest) (d:=0) (scope:=scope) (pos:=pos) (acc:=s2.heap.objs.size) rfl hc rfl T I4 y f4 (hgt _ _ _ _) (hts _ _ _ _) (htl _ _ _ _ _) W;!C:=mV (elt:=elt) (gens:=⟨tg,iter,ifs,0⟩::rest) (d:=0) (scope:=scope) (pos:=pos) rfl L (T.self _ 0 v _ _ y L);show codeAny (model X.prog X.w) X.A (.compStart (.ListComp elt (⟨tg,iter,ifs,0⟩::rest) scope pos) 0 (.ref it) (.ref s2.heap.objs.size) { scope:=relabel scope X.env,locals:=h.heap.objs.size,globals:=X.env.globals,cells:=Zaf (h.heap.objs.size+1) scope.names (cm X.env.cells scope.names []),qual:=X.env.qual,func:=aD,code:=X.env.code,frame:=X.env.frame,builtins:=X.env.builtins }) (RR (.ref s2.heap.objs.size) h.heap.objs.size) v;rw[eE];~Zaj C λr z hr=>?_;#{rfl,σ',l,I,q}:=hr;#{mC,nC,_}:=id I.loc;!freeC:l h.heap.objs.size=aD:=I.free;~hRR _ _ l z ?_ (U.fpOk (Zf _) freeC) ⟨mC,nC⟩ q;&U.call' (ch:=u) I.os I.base I.hok I.bare λb hb=>⟨(n b hb).2.2.2.1,(n b hb).2.1,(n b hb).2.2.2.2.1,(n b hb).2.2.2.2.2⟩
def F7(E:X.calm=aN)(S:CmScope own hs X.N scope X.env.scope)(hi:PI X tg iter wi)
  (l:∀C ex s H,PG (cxC X own hs scope C ex s H) tg g) (n:∀C ex s H,PTs (cxC X own hs scope C ex s H) ifs ti)
  (k:∀C ex s H c,PTl (cxC X own hs scope C ex s H) elt (⟨tg,iter,ifs,0⟩::rest) scope pos c 0 (t c))
  (hs:∀x,Zaq iter X.env x=pure x:=by intro _;rfl) :
  PE X (.ListComp elt (⟨tg,iter,ifs,0⟩::rest) scope pos) (BW own.length wi g λc=>fX ti (t c)):=by
 intro p s u H Q I h;rw[eval_ListComp];~Za2 (use:=aD) (cl:=cm X.env.cells scope.names []) rfl hs (yd λy j d=>I.ok.has y.1 (S.fr y j d)) S.kind (λy j d=>dB S.uniq (by rw[<-d];&j)) ?_;~thn (hi p s u H _ I h) λv s1 Y=>thn Y λU s2 B=>?_;~mW E S l n k B (RR:=λc C=>compPost (model X.prog X.w) X.A X.xe aD (EP X p u Q) c C) λc C T z J f L q=>?_;#{m,nm}:=L;~{m,nm,λZ O=>⟨.ref c,T,?_,rfl,q⟩};&J.turned (t':=z.toks) (λb o hb e=>(O.2 b hb).trans e) f.1 f.2.1 f.2.2.2.1 f.2.2.2.2.1 f.2.2.2.2.2
def F8{i:Nat}(hc:X.calm=aN)(S:CmScope own hs X.N scope X.env.scope)(hN:X.N.Nodup)(J:X.N[i]?=aw x)(hx:X.env.scope.names.lookup x=aw .local)(hi:PI X tg iter wi)
  (U:∀C ex s H,PG (cxC X own hs scope C ex s H) tg g) (Z:∀C ex s H,PTs (cxC X own hs scope C ex s H) ifs ti)
  (L:∀C ex s H c,PTl (cxC X own hs scope C ex s H) elt (⟨tg,iter,ifs,0⟩::rest) scope pos c 0 (t c))
  (u:ZaT (.ListComp elt (⟨tg,iter,ifs,0⟩::rest) scope pos) (aw (.Name x p)) j.line X.env=pure aN:=by rfl)
  (hs:∀x,Zaq iter X.env x=pure x:=by intro _;rfl) :
  PS X (.Assign [.Name x p] (.ListComp elt (⟨tg,iter,ifs,0⟩::rest) scope pos) j) (Bz (BW own.length wi g λc=>fX ti (t c)) (tH i)):=by
 intro d s σ H D I h;rw[exec_Assign_Name_used _ _ _ _ u];~Za0 (Zbw (Za0 ?_));show wpAny _ X.A (do let _ <-comprehension (.ListComp elt (⟨tg,iter,ifs,0⟩::rest) scope pos) scope X.env _ (newList []) aS (eval iter X.env) (aw (assign (.Name x p) X.env))) _ _ s
 ~Za0 (Zbe (Za2 (use:=aw (assign (.Name x p) X.env)) (Q:=λ_ k=>SP X d D .next k) (cl:=cm X.env.cells scope.names []) rfl hs (yd λy E B=>I.ok.has y.1 (S.fr y E B)) S.kind (λy E B=>dB S.uniq (by rw[<-B];&E))
  ?_) (λ_ k hq=>Zbl (Zbl hq)) λ_ _ e=>e)
 ~thn (hi d s σ H _ I h) λv s1 h1=>thn h1 λitv s2 h2=>?_;~mW (Q:=λy O=>tH i y σ O D.nx) hc S U Z L h2 (RR:=λc C=>compPost (model X.prog X.w) X.A X.xe (aw (assign (.Name x p) X.env)) (λ_ k=>SP X d D .next k) c C) λc C O k I' f m' q=>?_;#{m,nm}:=m';show wpAny _ X.A (assign (.Name x p) X.env (.ref c)) _ _ _;~wpAny_assign_Name (pY (v:=.ref c) I' hN J (.inl hx) rfl (λY T n=>?_) (.inr hx));#{a,l,ha}:=n
 !ne:C ≠ a:=by
  rcases ha with e |e
  ·rw[e];&f.2.1
  ·exactλz=>f.2.2.2.2.1 x a e z.symm
 ~{m,nm.sameBut l ne,λh' sb=>⟨_,O,?_,q⟩};&T.turned (t':=Y.toks) (λb o hb e=>(sb.2 b hb).trans e) f.1 f.2.1 f.2.2.2.1 f.2.2.2.2.1 f.2.2.2.2.2
end
end L2
namespace HT
open PySem PyProof.Rows
section
variable {prog:Program} {w:World} {A:Around} {E:Value->Shared->Prop} {s:Shared}
def BX{t b:Addr}{l:List Value}{Q:Value->Shared->Prop}(v:IsTup s.heap t ([]:List Value).toArray)(hb:IsTup s.heap b l.toArray)(h:Q (.ref b) s):wpAny (model prog w) A (No .Add (.ref t) (.ref b)) Q E s:=by
 #{⟨B,y,u,sl⟩,p,q,n,hd}:=id v;#{⟨C,k,data2,j⟩,d,c,z,f}:=id hb;simp only at q hd c f;subst q hd c f
 &Zal ⟨_,p,rfl⟩ ⟨_,d,rfl⟩ Zaz ZaN VB Vp (Vj _ _)
   (tuple_addW0 t b _ l.toArray n z y k sl j (by simp)) ⟨p,d,h⟩
def il{t sl:Addr}{I:Array Value}{l v:Value}{lo hi:Option Int}{Q:Value->Shared->Prop}(b:IsTup s.heap t I)(hs:s.heap.IsSliceOf sl l v .none)(y:IsPart l lo)(p:IsPart v hi)
  (k:sIx I.size 0 lo=0/\sIx I.size I.size hi=I.size) (h:Q (.ref t) s):wpAny (model prog w) A (getItem (.ref t) (.ref sl)) Q E s:=by
 #{os,j,d,u}:=id hs;!f:s.TypeIs (.ref sl) "slice" := ⟨os,j,d⟩;#{o,z,B,n,hd}:=id b;unfold getItem
 try with_reducible ~Za9 ?_
 first |~Za0 (Zbl ?_) |skip
 ~Za0 (Zbu b.typeIs (by decide) ?_)
 ~Za0 (wpAny_callSpecial?_slot (name:=Str.ofString "__getitem__") b.typeIs W5
  (Za1 W5 b.typeIs entry_tuple_getitem ?_ (args_tuple_getitem _ _)))
 show wpAny _ _ (Builtin.Tuple.tupleItemsOf (.ref t) >>= _) _ _ s;~Za0 (tupleItemsOf_ b ?_);~Za0 (ZbA f ?_);rw[if_pos (by decide)];~Za0 (ff hs y p ?_)
 !c:((((sIx I.size 0 lo:Nat):Int) == 0 && (1:Int) == 1 && (sIx I.size I.size hi - sIx I.size 0 lo) == I.size)=aN):=by
  rw[k.1,k.2];simp
 show wpAny _ _ (if (((sIx I.size 0 lo:Nat):Int) == 0 && (1:Int) == 1 && (sIx I.size I.size hi - sIx I.size 0 lo) == I.size)=aN then _ else _) _ _ s;rw[if_pos c];!q:s.TypeIs (.ref t) "tuple" := b.typeIs
 first
  | (~Za0 (m:=Builtin.Tuple.tupleIsExact _) ?_
     unfold Builtin.Tuple.tupleIsExact;~Za0 (ZbA q (Zbl ?_));rw[if_pos (by decide)];&Za0 (Zbs (Zbl ⟨_,rfl,Zbl h⟩)))
end
end HT
namespace L2
open PySem PySem.Spec PyProof.Rows
def tQ{s:Shared}{h':Heap}{o:Obj}(h:∀b x,b ∉ [s.heap.objs.size]->(s.heap.push o).get? b=aw x->h'.get? b=aw x):∀b x,s.heap.get? b=aw x->h'.get? b=aw x:=
 λb x e=>h b x (λc=>by rw[ZG.mp c] at e;&ZI _ (Zv e)) (Zc _ e)
section
variable {X:Cx}
abbrev Rz(K:VY):R2:=λx y H Q=>∃a b c Y,x = .ref a/\y = .ref b/\SqT K H a c/\SqT K H b Y/\c.length+Y.length<=sizeLine ∧
 (c=[]->Q (.ref b) H)/\(c ≠ []->Y=[]->Q (.ref a) H)/\(c ≠ []->Y ≠ []->∀p,H p=aD->Q (.ref p) (upd H p (.tup (c++Y))))
def F9:OpR X (No .Add) (Rz X.K):=by
 intro p s B H x y v u Q I j l h;#{a,b,d,Y,rfl,rfl,f,hb,E,z,q,n}:=h;by_cases c:d=[]
 ·subst c;cases j;cases l;#{L,r1,C,_}:=I.tuple f;#{k,r2,J,_}:=I.tuple hb;cases r1;&HT.BX C J ⟨.ref b,H,I,rfl,z rfl⟩
 ·&FX p s B H _ _ v u Q I j l ⟨a,b,d,Y,rfl,rfl,f,hb,c,E,q c,n c⟩
abbrev UC(K:VY):V->Option Int->Option Int->Hp->VK->Prop:=λx lo hi H Q=>∃a b,x = .ref a/\SqT K H a b ∧
 ((HT.sIx b.length 0 lo=0/\HT.sIx b.length b.length hi=b.length)->Q (.ref a) H) ∧
 (¬ (HT.sIx b.length 0 lo=0/\HT.sIx b.length b.length hi=b.length)->∀p,H p=aD->Q (.ref p) (upd H p (.tup (mU b lo hi))))
def Ga:SlR X (UC X.K):=by
 intro p s B H x v C z lo hi sl Q I l hs k j h;#{a,b,rfl,n,u,y}:=h;by_cases d:(HT.sIx b.length 0 lo=0/\HT.sIx b.length b.length hi=b.length)
 ·cases l;#{f,r,q,E}:=I.tuple n;!c:f.toArray.size=b.length:=by rw[Zk];&r.length.symm
  ~⟨"tuple", _,PyProof.Rows.slot_tuple_getitem.lookup,q.typeIs,?_⟩;&HT.il q hs k j (by rw[c];&d) ⟨.ref a,H,I,rfl,u d⟩
 ·&L4 p s B H _ v C z lo hi sl Q I l hs k j ⟨a,b,rfl,n,d,y d⟩
def tR:aV X (.builtin "isinstance") (λxs H Q=>∃x n t b,xs=[x,.ty n]/\TyOf X.K H x t/\UP X.K t (.type n)=aw b/\Q (.bl b) H):=by
 intro p s f H xs U Q I r h;#{x,n,t,b,rfl,ty,e,q}:=h;#{u,j,rfl,d,c}:=mN r;cases c;&zO I d ty e λT=>⟨.bl b,H,I.tok T,rfl,q⟩
def iP:∀ {bs:List Bool} {u:List Value},aJ (bs.map V.bl) u->u=bs.map Value.bool
 |[],_,.nil=>rfl
 |_::_,_,.cons r t=>by rw[Zy,iP t];cases r;rfl
def zV(B:X.calm=aN):aV X (.builtin "all") (λxs H Q=>∃ (l:Addr) (bs:List Bool),xs=[.ref l]/\SqL X.K H l (bs.map V.bl)/\Q (.bl (bs.all id)) H):=by
 intro k s U H xs us Q I r h;#{l,bs,rfl,z,q}:=h;#{u,rfl,L}:=bQ r;cases L;#{C,E,p,Z}:=I.list z;!e:=iP E;subst e;!d:=p.isList;!f:l < s.heap.objs.size:=by #{_,e,_}:=d;&Zv e
 ~call_all_walk (Zbm d ?_)
 ~⟨s.heap.objs.size,[s.heap.objs.size,l],[s.heap.objs.size],_,_,_,λi=>(bs[i]?).getD aN,rfl,Walks.list (A:=X.A.in1) (I.ok.hd B) _ l (ZH f) _,
  ⟨⟨_,Zs _ rfl,rfl,rfl⟩,d.push _⟩,λi v Y Q' E' n j=>?_,λO T y=>?_⟩
 ·!c:(bs.map Value.bool)[i]?=aw v:=by simpa using n
  rw[Zq] at c;cases hb:bs[i]? with
  |none=>rw[hb] at c;cases c
  |some b=>
   rw[hb] at c;!J:Value.bool b=v:=Option.some.inj c;subst J;simp only[hb,ZX] at j;&Zbx j
 ·!e:((Zi (bs.map Value.bool).toArray.size).all λi=>(bs[i]?).getD aN)=bs.all id:=by
   rw[Zk,Za,Xu];simp only[Yc,ZQ,id];constructor
   ·intro h b hb;#{i,hi,rfl}:=X7.mp hb;!:=h i hi
    rwa [gEG hi,ZX] at this
   ·intro h i hi;rw[gEG hi,ZX];&h _ (ZS hi)
  rw[e];&{.bl (bs.all id),H,I.kept (t':=T) (tQ y),rfl,q}
def zW(B:X.calm=aN):aV X (.builtin "any") (λxs H Q=>∃ (l:Addr) (bs:List Bool),xs=[.ref l]/\SqL X.K H l (bs.map V.bl)/\Q (.bl (bs.any id)) H):=by
 intro k s U H xs us Q I r h;#{l,bs,rfl,z,q}:=h;#{u,rfl,L}:=bQ r;cases L;#{C,E,p,Z}:=I.list z;!e:=iP E;subst e;!d:=p.isList;!f:l < s.heap.objs.size:=by #{_,e,_}:=d;&Zv e
 ~call_any_walk (Zbm d ?_)
 ~⟨s.heap.objs.size,[s.heap.objs.size,l],[s.heap.objs.size],_,_,_,λi=>(bs[i]?).getD aS,rfl,Walks.list (A:=X.A.in1) (I.ok.hd B) _ l (ZH f) _,
  ⟨⟨_,Zs _ rfl,rfl,rfl⟩,d.push _⟩,λi v Y Q' E' n j=>?_,λO T y=>?_⟩
 ·!c:(bs.map Value.bool)[i]?=aw v:=by simpa using n
  rw[Zq] at c;cases hb:bs[i]? with
  |none=>rw[hb] at c;cases c
  |some b=>
   rw[hb] at c;!J:Value.bool b=v:=Option.some.inj c;subst J;simp only[hb,ZX] at j;&Zbx j
 ·!e:((Zi (bs.map Value.bool).toArray.size).any λi=>(bs[i]?).getD aS)=bs.any id:=by
   rw[Zk,Za,Xu];simp only[XN,ZQ,id];constructor
   ·rintro⟨i,hi,h⟩;rw[gEG hi,ZX] at h;&{_,ZS hi,h}
   ·rintro⟨b,hb,h⟩;#{i,hi,rfl}:=X7.mp hb;&{i,hi,by rw[gEG hi,ZX];&h}
  rw[e];&{.bl (bs.any id),H,I.kept (t':=T) (tQ y),rfl,q}
def Mc:OpR X (Zak .Is) (λx y H Q=>∃b c,x = .bl b/\y = .bl c/\Q (.bl (b == c)) H):=by
 intro p s j H x y v u Q I f d h;#{b,c,rfl,rfl,q}:=h;cases f;cases d;&is_bool ⟨.bl _,H,I,rfl,q⟩
def zX:OpR X (Zak .IsNot) (λx y H Q=>∃b c,x = .bl b/\y = .bl c/\Q (.bl (b != c)) H):=by
 intro p s j H x y v u Q I f d h;#{b,c,rfl,rfl,q}:=h;cases f;cases d;&isnot_bool ⟨.bl _,H,I,rfl,q⟩
def mX(hc:X.calm=aN):∀ {p:List (Addr × Obj)} {s:Shared} {z:St} {H:Hp} {Q:VK} {r:Addr} {n:Nat} {t u v:Tok},Inv X p z H s->IsRange s.heap r 0 n 1 t u v->n<=1000->(∀l,H l=aD->Q (.ref l) (upd H l (.lst ((Zi n).map λ(i:Nat)=>V.int i)))) ->
  wpAny (model X.prog X.w) X.A (call (.type "list") [.ref r]) (EP X p z Q) X.xe s:=by
 intro p s z H Q r n t u v I U J q;!f:Builtin.Range.small 0 n 1=aN:=small_one (by lia) (by lia) (by lia) (by lia);~call_list_range (n:=n) (I.ok.hd hc) U f (by rw[ZaH];split <;> lia) (by lia) λh' C b L O B h=>?_;~{.ref s.heap.objs.size,_,I.laid (t':=C) (o:=.lst ((Zi n).map λ(i:Nat)=>V.int i)) O (Zf _) ?_,rfl,q _ (I.hok.fresh (Zf _))};!E:b.size=n:=h.1;~{by rw[Za,ZC];&Y0 (zS J),b.toList,L,?_,by simpa using B}
 !go:∀ (m:Nat) (k:Nat) (l:List Value),l.length=m->(∀j x,l[j]?=aw x->∃C,x=Value.int (((k+j:Nat):Nat):Int) C)->aJ ((List.range' k m).map λ(i:Nat)=>V.int i) l:=by
  intro m
  induction m with
  |zero=>intro k l c _;cases l with |nil=>&.nil |cons _ _=>cases c
  |succ m ih=>
   intro k l c d;cases l with
   |nil=>cases c
   |cons x l=>
    rw[List.range'_succ,Zy];#{t,e}:=d 0 x rfl;~.cons ⟨t,by simpa using e⟩ (ih (k+1) l (by simpa using c) λj y hy=>?_);#{Y,Z}:=d (j+1) y (by simpa using hy);&{Y,by rw[Z,show((k+(j+1):Nat):Int)=((k+1+j:Nat):Int) from by lia]}
 rw[List.range_eq_range'];~go n 0 b.toList (by simpa using E) λj x d=>?_;#{T,e}:=h.2 j x (by simpa using d);&{T,by rw[e,show(0:Int)+(j:Nat) * 1=((0+j:Nat):Int) from by lia]}
end
section
variable {κ:Type} [DecidableEq κ]
abbrev j8(b:List (κ × V))(k:κ):Option V:=(b.find? λc=>decide (c.1=k)).map (·.2)
abbrev mY(b:List (κ × V))(k:κ)(v:V):List (κ × V):=
 if (b.any λc=>decide (c.1=k))=aN then b.map (λc=>if c.1=k then (c.1,v) else c) else b++[(k,v)]
def jt{p:κ × V}{r:List (κ × V)}{k:κ}(e:p.1=k):j8 (p::r) k=aw p.2:=by simp[j8,YQ,e]
def gh{p:κ × V}{r:List (κ × V)}{k:κ}(e:¬ p.1=k):j8 (p::r) k=j8 r k:=by simp[j8,YQ,e]
def mZ(k:κ):∀b:List (κ × V),(b.any λc=>decide (c.1=k))=(j8 b k).isSome
 |[]=>rfl
 |p::r=>by
  rw[Yu];by_cases e:p.1=k
  ·simp only[jt e,decide_eq_true e,Bool.true_or,Wj]
  ·rw[gh e,decide_eq_false e,Wg];&mZ k r
def kR(b:List (κ × V))(k:κ)(v:V):(mY b k v).length<=b.length+1:=by
 unfold mY;split
 ·rw[Za];omega
 ·rw[Ze,Zo,Z4];omega
def vY.isSome_eq(r:vY o u):o.isSome=u.isSome:=by
 cases o with
 |none=>cases u with
  |none=>rfl
  |some _=>&(show False from r).elim
 |some _=>cases u with
  |none=>&(show False from r).elim
  |some _=>rfl
def KV.val{c:List (κ × V)}{v:List (κ × Value)}(r:KV c v)(k:κ):vY (j8 c k) (valueAt v k):=by
 unfold KV at r
 induction r with
 |nil=>&True.intro
 |@cons p q ps qs h t ih=>
  #{d,f}:=h;by_cases e:p.1=k
  ·!E:q.1=k:=d.symm.trans e;!b:valueAt (q::qs) k=aw q.2:=by simp[valueAt,YQ,E]
   rw[jt e,b];&f
  ·!E:¬ q.1=k:=λz=>e (d.trans z);!b:valueAt (q::qs) k=valueAt qs k:=by simp[valueAt,YQ,E]
   rw[gh e,b];&ih
def KV.any{b:List (κ × V)}{v:List (κ × Value)}(r:KV b v)(k:κ):(b.any λc=>decide (c.1=k))=v.any λc=>decide (c.1=k):=by
 unfold KV at r
 induction r with
 |nil=>rfl
 |cons h t I=>rw[Yu,Yu,I,h.1]
def KV.repl(r:KV d v)(k:κ)(f:aE y u) :
  KV (d.map λb=>if b.1=k then (b.1,y) else b) (v.map λb=>if b.1=k then (b.1,u) else b):=by
 unfold KV at r ⊢
 induction r with
 |nil=>&.nil
 |@cons p q ps qs h t ih=>
  rw[Zy,Zy];~.cons ?_ ih;#{c,j}:=h;by_cases e:p.1=k
  ·rw[if_pos e,if_pos (c.symm.trans e)];&{c,f}
  ·rw[if_neg e,if_neg (λz=>e (c.trans z))];&{c,j}
def KV.put(r:KV b v)(k:κ)(c:aE y u):KV (mY b k y) (stored v k u):=by
 unfold mY stored;rw[r.any k];by_cases e:(v.any λd=>decide (d.1=k))=aN
 ·rw[if_pos e,if_pos e];&r.repl k c
 ·rw[if_neg e,if_neg e];&Paired.snoc r ⟨rfl,c⟩
def KV.length(r:KV k v):k.length=v.length:=Paired.length r
end
def qj(r:aE (kV k) u):(bf P w).is k u=aN:=by
 cases k with
 |inl i=>#{t,e}:=(show ∃t,u=Value.int i t from r);subst e;&tv P w i t
 |inr x=>#{t,e}:=(show ∃t,u=Value.str x t from r);subst e;&tw P w x t
def qk:∀ {ks:List Key} {u:List Value},aJ (ks.map kV) u->ItemsAre (bf P w) ks u
 |[],_,r=>by rw[Z0] at r;cases r;&.nil
 |k::ks,_,r=>by
  rw[Zy] at r;cases r with
  |cons h t=>&.cons (qj h) (qk t)
@[inline]abbrev KT(H:Hp):List (List NK × V)->List (List NK × Addr × Value)->Prop:=Paired λp q=>p.1=q.1/\iK H p.1 q.2.1/\aE p.2 q.2.2
def KT.val{H:Hp}{c:List (List NK × V)}{xs:List (List NK × Addr × Value)}(r:KT H c xs)(k:List NK):vY (j8 c k) ((atKey xs k).map (·.2)):=by
 induction r with
 |nil=>&True.intro
 |@cons p q ps qs h t ih=>
  #{d,_,f}:=h;by_cases e:p.1=k
  ·!E:q.1=k:=d.symm.trans e;!b:atKey (q::qs) k=aw q.2:=by simp[atKey,YQ,E]
   rw[jt e,b];&f
  ·!E:¬ q.1=k:=λz=>e (d.trans z);!b:atKey (q::qs) k=atKey qs k:=by simp[atKey,YQ,E]
   rw[gh e,b];&ih
def KT.repl(r:KT H c xs)(k:List NK)(l:aE y u) :
  KT H (c.map λd=>if d.1=k then (d.1,y) else d) (xs.map (putAt k u)):=by
 induction r with
 |nil=>&.nil
 |@cons p q ps qs h t ih=>
  rw[Zy,Zy];~.cons ?_ ih;#{b,f,j}:=h;unfold putAt;by_cases e:p.1=k
  ·rw[if_pos e,if_pos (b.symm.trans e)];&{b,f,l}
  ·rw[if_neg e,if_neg (λz=>e (b.trans z))];&{b,f,j}
def KT.put(r:KT H c xs)(k:List NK)(hb:iK H k b)(d:aE y u) :
  KT H (mY c k y) (storedH xs k b u):=by
 !e:(c.any λf=>decide (f.1=k))=(atKey xs k).isSome:=by
  rw[mZ,(r.val k).isSome_eq,YT]
 unfold mY storedH;rw[e];by_cases q:(atKey xs k).isSome=aN
 ·rw[if_pos q,if_pos q];&r.repl k d
 ·rw[if_neg q,if_neg q];&Paired.snoc r ⟨rfl,hb,d⟩
def KT.keeps(r:KT H k xs)(c:∀b y,H b=aw (.tup y)->h b=aw (.tup y)):KT h k xs:=
 Paired.mapP r λ_ _ z=>⟨z.1,z.2.1.mono c,z.2.2⟩
section
variable {P:Program} {w:World} {H:Hp} {h:Heap} {a:Addr}
def Kt(ok:HOk P w H h)(e:Rd H a u):ba P w H h a u:=e.ok ok
def tS(ok:HOk P w H h)(e:Rd H a (.dK k)):k.length<=sizeLine/\(a == ZaV)=aS/\∃vs,KV k vs/\h.DictOf (bf P w) a vs:=
 show ba P w H h a (.dK k) from Kt ok e
def RA(ok:HOk P w H h)(e:H a=aw (.dK k)):k.length<=sizeLine/\(a == ZaV)=aS/\∃vs,KV k vs/\h.DictOf (bf P w) a vs:=tS ok (.inl e)
def BZ(ok:HOk P w H h)(e:H a=aw (.tup (ks.map kV))):IsTupleKey (bf P w) h ks a:=by
 #{_,I,r,o,c,d,n,b,_}:=(show ba P w H h a (.tup (ks.map kV)) from ok a _ e);&{o,I.toArray,n,c,d,b,by simpa using qk r}
def eI{ks:List NK}(ok:HOk P w H h)(e:iK H ks a):(fb P w).is h ks a:=by
 #{X,E,f}:=e;#{_,I,r,o,j,l,n,c,_}:=(show ba P w H h a (.tup X) from ok a _ E);~{o,I.toArray,n,j,l,c,?_}
 !all:∀ {ks:List NK} {X:List V} {us:List Value},Paired (vZ H) ks X->aJ X us->Paired (NIs P w h) ks us:=by
  intro ks X us p
  induction p generalizing us with
  |nil=>intro q;cases q;&.nil
  |@cons k x ks X hk _ ih=>
   intro q;cases q with
   |cons Q d=>
    ~.cons ?_ (ih d);cases k with
    |non=>cases hk;&Q
    |one k=>cases hk;&qj (P:=P) (w:=w) Q
    |tup u=>#{b,rfl,hb}:=hk;cases Q;&{b,rfl,BZ ok hb}
 simpa using all f r
def tU(ok:HOk P w H h)(e:Rd H a (.dT k)):k.length<=sizeLine/\(a == ZaV)=aS ∧
  ∃xs,KT H k xs/\h.DictOfH (fb P w) a xs:=by
 #{z,y,xs,r,o,E,d,f,j,b,h4,c}:=(show ba P w H h a (.dT k) from Kt ok e);~{z,y,xs,r,o,E,d,f,j,b,h4,λx hx=>?_,c}
 !all:∀ {l:List (List NK × V)} {m:List (List NK × Addr × Value)},KT H l m->∀x ∈ m,(fb P w).is h x.1 x.2.1:=by
  intro l m q
  induction q with
  |nil=>intro x hx;&nomatch hx
  |@cons p q ps qs hq t ih=>
   intro x hx;rcases Zn.mp hx with e |hx
   ·subst e;&eI ok (by rw[<-hq.1];&hq.2.1)
   ·&ih x hx
 &all r x hx
def RB(ok:HOk P w H h)(e:H a=aw (.dT k)):k.length<=sizeLine/\(a == ZaV)=aS ∧
  ∃xs,KT H k xs/\h.DictOfH (fb P w) a xs:=tU ok (.inl e)
end
abbrev B0(H:Hp)(a:Addr)(y:V)(r:Option V):Prop:=
 (∃c k,Rd H a (.dK c)/\y=kV k/\r=j8 c k)\/∃c k b,Rd H a (.dT c)/\y = .ref b/\iK H k b/\r=j8 c k
abbrev RC(H:Hp)(a:Addr)(y v:V)(h:Hp):Prop:=
 (∃c k,H a=aw (.dK c)/\y=kV k/\c.length < sizeLine/\h=upd H a (.dK (mY c k v))) ∨
 ∃c k b,H a=aw (.dT c)/\y = .ref b/\iK H k b/\c.length < sizeLine/\h=upd H a (.dT (mY c k v))
section
variable {X:Cx} {pins:List (Addr × Obj)} {σ:St} {H:Hp} {s:Shared} {a:Addr} {y v:V} {u r:Value} {o:Option V} {A:Around} {E:Value->Shared->Prop}
def Inv.big(I:Inv X pins σ H s):ZaV < s.heap.objs.size:=by
 !h:Zaw < s.heap.objs.size:=(I.mod.glob.keeps I.bk).lt;&WT (by decide) h
def zY(Y:A.units+2 < cLine)(I:Inv X pins σ H s)(g:B0 H a y (aw v))(J:aE y u)(h:∀d C,Inv X pins σ H C->aE v d->Q d C) :
  wpAny (model X.prog X.w) A (getItem (.ref a) u) Q E s:=by
 rcases g with ⟨j,k,e,n,l⟩ |⟨j,k,b,e,n,L,l⟩
 ·subst n;#{z,hd,U,rel,B}:=tS I.hok e;#{d,f,c}:=vY.some_of (v:=v) (o:=valueAt U k) (by rw[l];&rel.val k);&wpAny_getItem_of (qj J) B.mapOf f (h d _ (I.tok _) c)
 ·subst n;cases (show u=Value.ref b from J);#{z,hd,T,rel,B}:=tU I.hok e;#{d,f,c}:=vY.some_of (v:=v) (o:=(atKey T k).map (·.2)) (by rw[l];&rel.val k);#{p,O,q}:=ZE.mp f;~wpAny_getItem_heap (show _+1 < _ from Y) (eI I.hok L) B O ?_;rw[q];&h d _ (I.tok _) c
def UD(B:A.units+2 < cLine)(I:Inv X pins σ H s)(g:B0 H a y o)(j:aE y u)(h:∀n,Inv X pins σ H n->Q (.bool o.isSome) n) :
  wpAny (model X.prog X.w) A (Zak .In u (.ref a)) Q E s:=by
 rcases g with ⟨c,k,e,d,l⟩ |⟨c,k,b,e,d,p,l⟩
 ·subst d;#{z,hd,J,rel,f}:=tS I.hok e;~wpAny_in_of (qj j) hd f.mapOf ?_;rw[<-(rel.val k).isSome_eq,<-l];&h _ (I.tok _)
 ·subst d;cases (show u=Value.ref b from j);#{z,hd,C,rel,f}:=tU I.hok e;~wpAny_in_heap (show _+1 < _ from B) (eI I.hok p) hd f ?_;!q:=(rel.val k).isSome_eq;rw[YT] at q;rw[<-q,<-l];&h _ (I.tok _)
def Gb(B:A.units+2 < cLine)(I:Inv X pins σ H s)(g:B0 H a y o)(j:aE y u)(h:∀n,Inv X pins σ H n->Q (.bool (!o.isSome)) n) :
  wpAny (model X.prog X.w) A (Zak .NotIn u (.ref a)) Q E s:=by
 rcases g with ⟨c,k,e,d,l⟩ |⟨c,k,b,e,d,p,l⟩
 ·subst d;#{z,hd,J,rel,f}:=tS I.hok e;~wpAny_notIn_of (qj j) hd f.mapOf ?_;rw[<-(rel.val k).isSome_eq,<-l];&h _ (I.tok _)
 ·subst d;cases (show u=Value.ref b from j);#{z,hd,C,rel,f}:=tU I.hok e;~wpAny_notIn_heap (show _+1 < _ from B) (eI I.hok p) hd f ?_;!q:=(rel.val k).isSome_eq;rw[YT] at q;rw[<-q,<-l];&h _ (I.tok _)
def ye{t':Nat}(I:Inv X pins σ H s)(mu:Mut (H a))(hs:Heap.SameBut a s.heap h')(h:∃q,h'.get? a=aw q)(new:ba X.prog X.w (upd H a ob) h' a ob) :
  Inv X pins σ (upd H a ob) { s with heap:=h',toks:=t' }:=
 I.write (x:=a) (e:=a) mu (.inl rfl) (λb q hb z=>(hs.2 b hb).trans z) h new
def Md(z:k.length<=sizeLine)(hd:(a == ZaV)=aS)(rel:KV k b)(d:h'.DictOf (bf P w) a b) :
  ba P w h h' a (.dK k):=⟨z,hd,b,rel,d⟩
def zZ(hu:A.units+2 < cLine)(I:Inv X pins σ H s)(g:RC H a y v H')(Z:aE y u)(Y:aE v r)(h:∀T,Inv X pins σ H' T->Q () T) :
  wpAny (model X.prog X.w) A (setItem (.ref a) u r) Q E s:=by
 rcases g with ⟨d,k,e,C,l,B⟩ |⟨d,k,b,e,C,L,l,B⟩
 ·subst C B;#{z,hd,vs,rel,J}:=RA I.hok e;!p:vs.length<=sizeLine:=by rw[<-rel.length];&z
  !n:(mY d k v).length<=sizeLine:=by !:=kR d k v;omega
  ~wpAny_setItem_pairs (hsz:=p) (qj Z) J λO f hs=>h _ ?_;!he:∃q,O.get? a=aw q:=let ⟨q,_,_,j,_⟩:=f;⟨q,j⟩;&ye I (by rw[e];&True.intro) hs he (Md n hd (rel.put k Y) f)
 ·subst C B;cases (show u=Value.ref b from Z);#{z,hd,xs,rel,J}:=RB I.hok e;!p:xs.length<=sizeLine:=by rw[<-Paired.length rel];&z
  !n:(mY d k v).length<=sizeLine:=by !:=kR d k v;omega
  ~wpAny_setItem_heap (hsz:=p) (show _+1 < _ from hu) (eI I.hok L) J λO f hs=>h _ ?_;#{q,es,ep,j,h2,h3,h4,_,h5}:=f;~ye I (by rw[e];&True.intro) hs ⟨q,j⟩ ⟨n,hd,_,(rel.put k L Y).keeps λc ys U=>?_,q,es,ep,j,h2,h3,h4,h5⟩;rw[ae (pX U e (λz=>nomatch z))];&U
end
def tV(I:Inv X p f H s)(g:B0 H a y o):s.TypeIs (.ref a) "dict" := by
 rcases g with ⟨c,k,e,_,_⟩ |⟨c,k,b,e,_,_,_⟩
 ·#{_,_,v,_,d}:=tS I.hok e;&d.typeIs
 ·#{_,_,h,_,d}:=tU I.hok e;&d.typeIs
def B1(h:Heap)(hb:ZaV < h.objs.size):ba P w H (h.push { cls:=.type "dict", data:=.dict #[] }) h.objs.size (.dT []):=
 ⟨Z2 _,beq_eq_false_iff_ne.mpr (Ne.symm (ZH hb)),[],.nil,_,#[],0,Zs _ rfl,⟨rfl,rfl,rfl⟩,rfl,rfl,Xf⟩
abbrev B2:TE:=λ_ H Q=>∀p,H p=aD->Q (.ref p) (upd H p (.dT []))
section
variable {X:Cx} {pos:Pos}
def B3:PE X (.Dict [] [] pos) B2:=λp s b H Q I h=>
 wpAny_Dict_empty ⟨.ref s.heap.objs.size,_,I.laid (a:=s.heap.objs.size) (o:=.dT []) (t':=s.toks) (λ_ _ q=>Zc _ q) (Zf _) (B1 s.heap I.big),rfl,h _ (I.hok.fresh (Zf _))⟩
end
end L2
namespace HT
open PySem PyProof.Rows
open AutoSeq1 (wpAny_loadPart')
section
variable {prog:Program} {w:World} {A:Around} {E:Value->Shared->Prop} {s:Shared}
def lU{i:Nat}(h:s.heap.IsTupleIter it t i)(k:s.heap.IsTuple t I)(f:I[i]?=aw x)
  (j:∀h',h'.IsTupleIter it t (i+1)->Heap.SameBut it s.heap h'->Q x { s with heap:=h' }):wpAny (model prog w) A (Builtin.SmallTypes.nextOf (.ref it)) Q E s:=by
 #{o,b,l,hd}:=id h;#{O,c,_,n,d}:=k;unfold Builtin.SmallTypes.nextOf
 ~Za0 (wpAny_callSpecial?_slot (name:=Str.ofString "__next__") h.typeIs VF
  (Za1 VF h.typeIs Vq ?_ (Vk _)))
 show wpAny _ _ (field (.ref it) 0 >>= _) _ _ s;~Za0 (Za6 b hd (x:=.ref t) rfl ?_);show wpAny _ _ (if (Value.ref t == Value.none)=aN then _ else _) _ _ s;rw[if_neg (show ¬ ((Value.ref t == Value.none)=aN) from Zh)];show wpAny _ _ (field (.ref it) 1 >>= _) _ _ s;~Za0 (Za6 b hd (x:=.int i 0) rfl ?_);show wpAny _ _ (ZaM (.ref t) >>= _) _ _ s;~Za0 (Zbt c d ?_);simp only[ZK,f];~Za0 (wpAny_setField b hd (by simp) (Zbl ⟨x,rfl,Zbl (j _ ?_ (Heap.SameBut.update ..))⟩))
 &⟨_,Z5 _ b (Obj.isFreed_of_fields (Obj.data_mapFields hd _)),(Obj.cls_mapFields ..).trans l,by
  rw[Obj.data_mapFields hd];simp[rawInt]⟩
def m6{i:Nat}(f:A.handled=aD)(h:s.heap.IsTupleIter it t i)(l:s.heap.IsTuple t I)(k:I[i]?=aD)
  (j:∀h' e,Heap.ExtBut it s.heap h'->(∃o,h'.get? e=aw o/\o.cls = .type "StopIteration")->E (.ref e) { s with heap:=h' }):wpAny (model prog w) A (Builtin.SmallTypes.nextOf (.ref it)) Q E s:=by
 #{o,d,p,hd}:=id h;#{O,b,_,n,c}:=l;unfold Builtin.SmallTypes.nextOf
 ~Za0 (wpAny_callSpecial?_slot (name:=Str.ofString "__next__") h.typeIs VF
  (Za1 VF h.typeIs Vq ?_ (Vk _)))
 show wpAny _ _ (field (.ref it) 0 >>= _) _ _ s;~Za0 (Za6 d hd (x:=.ref t) rfl ?_);show wpAny _ _ (if (Value.ref t == Value.none)=aN then _ else _) _ _ s;rw[if_neg (show ¬ ((Value.ref t == Value.none)=aN) from Zh)];show wpAny _ _ (field (.ref it) 1 >>= _) _ _ s;~Za0 (Za6 d hd (x:=.int i 0) rfl ?_);show wpAny _ _ (ZaM (.ref t) >>= _) _ _ s;~Za0 (Zbt b c ?_);simp only[ZK,k];~Za0 (Zbs (Za0 (wpAny_setField d hd (by simp) ?_)));show wpAny _ _ (newExc (.type "StopIteration") [] >>= _) _ _ _;~Za0 ?_;simp only[newExc,newTuple];~Za0 (Zbh ?_ (by size_fits));~Za0 (m:=firstArgMember _ _) (Zbj (a:=Value.none) (by first |rfl |(simp only[firstArgMember];rfl)) ?_);~Zbh ?_ (by size_fits);simp only[raiseNew];~Za0 (wpAny_handled ?_)
 first |rw[show A.in1.handled=aD from f] |rw[f]
 ~Za0 (Zbl (wpAny_throw ?_));&j _ _ (((Heap.SameBut.update ..).extBut.push _).push _) ⟨_,Zs _ rfl,rfl⟩
end
def B4(j:A.handled=aD)(it l:Addr)(d:l ≠ it)(I:Array Value) :
  Draws prog w A it [it,l] I.size (λi v=>I[i]?=aw v) (λi h=>h.IsTupleIter it l i/\h.IsTuple l I) where
 live:=λ_ _ st=>let ⟨o,ho,_⟩:=st.1;⟨o,ho⟩
 frame:=λ_ _ _ st f=>⟨st.1.at λo e=>f it (by simp) o e,let ⟨o,e,r⟩:=st.2;⟨o,f l (by simp) o e,r⟩⟩
 item:=λi s Q E hi st p=>by
  ~lU st.1 st.2 (x:=I[i]) (by simp[hi]) λn c b=>?_;&p _ n s.toks (by simp[hi]) ⟨c,let ⟨o,e,r⟩:=st.2;⟨o,b.extBut l o d e,r⟩⟩ b
 done:=λs Q E st k=>m6 j st.1 st.2 (by simp) k
def tW(l:Addr)(items:Array Value)(n:Nat)(j:Option Addr)(sl:Array (Option Value)) :
  Meets (Builtin.«enumerate.__new__» ⟨[.type "enumerate", .ref l],[]⟩) (λ_ R s=>s.heap.get? l=aw { cls:=.type "tuple", dict:=j,data:=.seq items n,slots:=sl } ∧
   R (.ok (.ret (.ref (s.heap.push { cls:=.type "tuple_iterator", data:=.fields #[.ref l,.int 0 0] }).objs.size)))
    { s with heap:=(s.heap.push { cls:=.type "tuple_iterator", data:=.fields #[.ref l,.int 0 0] }).push { cls:=.type "enumerate", data:=.fields #[.none,.bool aS,.ref s.heap.objs.size,rawInt 0,.none,.none] } }):=
 .of_wp λprog w A R s h=>by
  #{p,g,d,T,os}:=s;#{b,h}:=h;!k:=sub_enumerate;!f:Heap.IsTuple (Shared.heap ⟨p,g,d,T,os⟩) l items:=⟨_,b,rfl,n,rfl⟩
  wp_walk using Zbd b
  ~wpAny_stack_any λst=>Zbl ?_;split
  ·rename_i c _ _ _ _ _;cases (c == Value.type "enumerate")
   ·wp_walk using Zbd b,Zbo f
    &{_,rfl,h}
   ·wp_walk using Zbd b,Zbo f
    &{_,rfl,h}
  ·wp_walk using Zbd b,Zbo f
   &{_,rfl,h}
def wq(p:IsTup s.heap l I)
  (h:∀h',IsEnum h' (s.heap.objs.size+1) s.heap.objs.size 0 .none->h'.IsTupleIter s.heap.objs.size l 0->h'.objs.size=s.heap.objs.size+2 ->
   (∀b o,s.heap.get? b=aw o->h'.get? b=aw o)->Q (.ref (s.heap.objs.size+1)) { s with heap:=h' }) :
  wpAny (model prog w) A (call (.type "enumerate") [.ref l]) Q E s:=by
 #{⟨c,d,q,sl⟩,u,j,n,hd}:=p;replace j:c = .type "tuple" := j;replace hd:q = .seq I n:=hd;subst j hd
 ~callType_new PySem.F.called_enumerate (by decide) (PySem.F.typeCall_enumerate_1 _) (PySem.F.newCall_enumerate_1 _) (λobj=>Vi obj _) PySem.F.entry_enumerate_new
  (tW l I n d sl) ⟨u,?_⟩
 !f:(s.heap.push { cls:=.type "tuple_iterator", data:=.fields #[.ref l,.int 0 0] }).objs.size=s.heap.objs.size+1:=Yz ..;show _/\_;rw[f]
 !k:IsEnum ((s.heap.push { cls:=.type "tuple_iterator", data:=.fields #[.ref l,.int 0 0] }).push
   { cls:=.type "enumerate", data:=.fields #[.none,.bool aS,.ref s.heap.objs.size,rawInt 0,.none,.none] }) (s.heap.objs.size+1) s.heap.objs.size 0 .none:=by
  !:=Zs (s.heap.push { cls:=.type "tuple_iterator", data:=.fields #[.ref l,.int 0 0] })
   (o:={ cls:=.type "enumerate", data:=.fields #[.none,.bool aS,.ref s.heap.objs.size,rawInt 0,.none,.none] }) rfl
  rw[f] at this;&this
 &{⟨_,k,rfl⟩,h _ k ⟨_,Zc _ (Zs _ rfl),rfl,rfl⟩ (by rw[Yz,f]) λb o x=>Zc _ (Zc _ x)}
end HT
namespace L2
open PySem PySem.Spec PyProof.Rows
abbrev Ite(K:VY)(a:Addr)(b:VY->Hp->Addr->List V->Prop):It:=
 ⟨λi H=>∃X x,b K H a X/\X[i]?=aw x,λi H x h=>∃T,H T=aD/\x = .ref T/\∀X v,b K H a X->X[i]?=aw v->h=upd H T (.tup [.int i,v]),λi H=>∃X,b K H a X/\X.length=i⟩
def Inv.turnedLaid{X:Cx}{p:List (Addr × Obj)}{y:St}{H:Hp}{s:Shared}{h':Heap}{T:Addr}{o:HO}{t':Nat}{ch:List Addr}(I:Inv X p y H s)(d:∀b ∈ ch,iL X p H b)
  (k:∀b ob,b ∉ ch->s.heap.get? b=aw ob->h'.get? b=aw ob) (j:s.heap.objs.size<=T) (new:ba X.prog X.w (upd H T o) h' T o):Inv X p y (upd H T o) { s with heap:=h',toks:=t' }:=by
 !fr:=I.hok.fresh j;!neT:∀b ob,s.heap.get? b=aw ob->b ≠ T:=λb ob e=>ZH (ZD (Zv e) j)
 ~I.step (g':=s.gens) (d':=s.drawn) (ch:=ch) (λb hb=>⟨(d b hb).2.2.2.1,(d b hb).2.1,(d b hb).2.2.2.2.1,(d b hb).2.2.2.2.2⟩) (λb ob _ _ h e _=>k b ob h e) (λb ob _ _ h e _=>⟨ob.slots,k b ob h e⟩)
  (λb ob _ e n=>by rw[ae (neT b ob e)];&n) (λb ob h e=>⟨ob,k b ob h e⟩) (λb l q=>by rw[ae (aP q fr)];&q) (λb u l q=>by rw[ae (aP q fr)];&q)
  (λb ps q=>⟨#[],by rw[ae (aP q fr),q];simp⟩) (λm J=>?_) (λb u q=>?_) I.bare
 ·#{ob,B,E,f,C}:=J;&{ob,B,E,k _ ob (λz=>(d _ z).2.1 rfl) f,C}
 ·by_cases hb:b=T
  ·subst hb;rw[az] at q;cases q;&new
  ·rw[ae hb] at q;~(I.hok b u q).stay (λc v h Q=>k c v (λz=>?_) Q) (λc q=>by rw[ae (aP q fr)];&q) λc l q=>by rw[ae (aP q fr)];&q
   !n:=(d c z).1;rcases h with w |w
   ·rw[w,q] at n;cases n
   ·rw[w] at n;cases n
def Inv.turnedAll{X:Cx}{p:List (Addr × Obj)}{l:St}{H:Hp}{s:Shared}{h':Heap}{t':Nat}{ch:List Addr}(I:Inv X p l H s)(d:∀b ∈ ch,iL X p H b)
  (k:∀b ob,b ∉ ch->s.heap.get? b=aw ob->h'.get? b=aw ob):Inv X p l H { s with heap:=h',toks:=t' }:=by
 ~I.step (g':=s.gens) (d':=s.drawn) (ch:=ch) (λb hb=>⟨(d b hb).2.2.2.1,(d b hb).2.1,(d b hb).2.2.2.2.1,(d b hb).2.2.2.2.2⟩) (λb ob _ _ h e _=>k b ob h e) (λb ob _ _ h e _=>⟨ob.slots,k b ob h e⟩)
  (λb ob _ e n=>n) (λb ob h e=>⟨ob,k b ob h e⟩) (λb j q=>q) (λb u j q=>q)
  (λb ps q=>⟨#[],by rw[q];simp⟩) (λm C=>?_) (λb u q=>?_) I.bare
 ·#{ob,y,E,f,B}:=C;&{ob,y,E,k _ ob (λz=>(d _ z).2.1 rfl) f,B}
 ·~(I.hok b u q).stay (λc v h Q=>k c v (λz=>?_) Q) (λc q=>q) λc j q=>q;!n:=(d c z).1;rcases h with w |w
  ·rw[w,q] at n;cases n
  ·rw[w] at n;cases n
def wu{P:Program}{w:World}{K:VY}{elts:List Expr}{x1:Nat}{tp:Pos}(a e it:Addr)(L:e ≠ it) :
  Turn P w K (.Tuple elts x1 tp) (Ite K a SqT) [e,it] e (λi h=>(∃O,IsEnum h e it i O)/\h.IsTupleIter it a i) where
 mem:=by simp
 obj:=λi h st b hb=>by
  #{⟨O,B⟩,o,U,c,d}:=st;rcases Zn.mp hb with z |z
  ·subst z;&{_,B,λv z=>by !z':Data.fields _=Data.cell v:=z;cases z'}
  ·!z':=ZG.mp z;subst z';&{o,U,λv z=>by rw[d] at z;cases z}
 keep:=λi h h' st k=>⟨let ⟨O,B⟩:=st.1;⟨O,k e (by simp) _ B⟩,st.2.at λo U=>k it (by simp) o U⟩
 item:=by
  intro X Z hw hK hc i pins s σ H E I hf st hg;subst Z hw hK;#{xs,x,hq,hx}:=hg;#{f,rv,p,hz}:=I.tuple hq;#{u,hu,ru}:=rv.get hx;#{⟨O,B⟩,l}:=st;!hL:s.heap.IsTuple a f.toArray:=p
  !hae:e ≠ a:=λz=>by
   subst z;#{o,C,hc',n,j}:=id hL;rw[B] at C;cases C;!z':Data.fields _=Data.seq f.toArray n:=j;cases z'
  !Y:a ≠ it:=λz=>by
   subst z;#{o,C,hc',n,j}:=id hL;#{o',Q,c',d'}:=id l;rw[Q] at C;cases C;rw[d'] at j;cases j
  !hi:i < f.toArray.size:=by
   !:=(Zb.mp hu).1
   simpa using this
  ~wpAny_pyNext_enum_itemD (HT.B4 (A:=X.A.in1) (I.ok.hd hc) it a Y f.toArray) B ⟨l,hL⟩ hi L (by simp[L,hae]) λy h' tk Z C hs' hT hsz hk=>?_
  !ey:y=u:=by
   !z:f.toArray[i]?=aw u:=by simpa using hu
   rw[z] at Z;&(Option.some.inj Z).symm
  subst ey;~{_,rfl,?_};~wpAny_letOwnedTupleGo_enum C λh2 he2 T=>?_;!J:e < s.heap.objs.size:=Zv B;!hilt:it < s.heap.objs.size:=by #{o,U,_}:=l;&Zv U
  !hT2:h2.get? s.heap.objs.size=aw { cls:=.type "tuple", data:=.seq #[.int i tk,y] }:=(T.2 _ (Wp J)).trans hT;!fresh:=I.hok.fresh (Zf s.heap.objs.size);~{.ref s.heap.objs.size,upd H s.heap.objs.size (.tup [.int i,x]),?_,rfl,⟨_,fresh,rfl,λys v hy hv=>?_⟩,⟨⟨y,by simpa using he2⟩,hs'.1.at λo U=>(T.2 it (Ne.symm L)).trans U⟩,λb hb=>?_}
  ·&I.turnedLaid (t':=tk+1) hf (λb ob hb eb=>(T.2 b λz=>hb (by simp[z])).trans (hk b ob (λz=>hb (by simp[z])) (λz=>hb (by simp[z])) eb)) (Zf _)
    ⟨by show 2<=sizeLine;decide,[.int i tk,y],.cons ⟨tk,rfl⟩ (.cons ru .nil),⟨_,hT2,rfl,_,rfl,rfl⟩⟩
  ·rw[I.tuple_inj hy hq,hx] at hv;cases hv;rfl
  ·rcases Zn.mp hb with z |z
   ·rw[z,ae (ZH J)];&(hf e (by simp)).1
   ·rw[ZG.mp z,ae (ZH hilt)];&(hf it (by simp)).1
 done:=by
  intro X Z hw hK hc i pins s σ H E I hf st hg;subst Z hw hK;#{xs,hq,hx}:=hg;#{f,rv,p,hz}:=I.tuple hq;#{⟨O,B⟩,l}:=st;!hL:s.heap.IsTuple a f.toArray:=p
  !Y:a ≠ it:=λz=>by
   subst z;#{o,C,hc',n,j}:=id hL;#{o',Q,c',d'}:=id l;rw[Q] at C;cases C;rw[d'] at j;cases j
  !hn:f.toArray.size=i:=by rw[Zk,<-rv.length,hx]
  subst hn;~wpAny_pyNext_enum_endD (HT.B4 (A:=X.A.in1) (I.ok.hd hc) it a Y f.toArray) B ⟨l,hL⟩ λh' eb=>⟨rfl,?_⟩;&I.turnedAll (t':=s.toks) hf λb ob hb q=>eb b ob (λz=>hb (by simp[z])) q
 self:=λ_ _ _ _ _ st h=>let ⟨⟨O,B⟩,_⟩:=st;wpAny_pyIter_enum B h
abbrev RD(K:VY)(T:TA):TI:=λb H R=>T b H λv h=>∃a X,v=[.ref a]/\SqT K h a X/\R (Ite K a SqT) h
section
variable {X:Cx} {elts:List Expr} {x1:Nat} {tp:Pos}
def Me{a:Expr}{T:TA}{p d:Pos}(Y:Gl X "enumerate")(hm:X.mg "enumerate" = aD)(C:PA X [a] T)(hs:ZaQ [a] X.env=[(aS,eval a X.env)]:=by rfl):PI X (.Tuple elts x1 tp) (.Call (.Name "enumerate" p) [a] [] d) (RD X.K T):=by
 intro c s v H R I h;~Call_ (eF I Y hm PyProof.Rows.boot_enumerate (W4 (thn (C d c s v H _ I h) λus f ⟨vs,k,j,r1,Q⟩=>?_) hs rfl));#{l,xs,e,L,q}:=Q;subst e;#{u,rfl,ru}:=bQ r1;cases ru;#{U,rv,J,hz}:=j.tuple L;~HT.wq J λB y n Z E=>wpAny_pyIter_enum y ?_;!O:Inv X c v k { f with heap:=B }:=j.kept (t':=f.toks) E;!fr:∀b,f.heap.objs.size<=b->iL X c k b:=λb hb=>j.fpOk hb (j.hok.fresh hb);~{_,[f.heap.objs.size+1,f.heap.objs.size],_,_,k,rfl,O,wu l _ _ (Nat.succ_ne_self _),⟨⟨_,y⟩,n⟩,λb hb=>?_,q};rcases Zn.mp hb with z |z
 ·rw[z];&fr _ (YM _)
 ·rw[ZG.mp z];&fr _ (Zf _)
end
section
variable {X:Cx}
def kT:aV X (.type "range") (λxs H Q=>∃j:Int,xs=[.int j]/\∀p,H p=aD->Q (.ref p) (upd H p (.rng 0 j))):=by
 intro c s f H xs U Q I r h;#{j,rfl,q}:=h;#{u,rfl,d}:=bQ r;#{t,rfl}:=d;&call_range_1 ⟨.ref s.heap.objs.size,_,I.laid (t':=s.toks+1+1) (o:=.rng 0 j) (λb o e=>Zc _ e) (Zf _) ⟨_,_,_,Zs _ rfl⟩,rfl,q _ (I.hok.fresh (Zf _))⟩
def rq(d:X.calm=aN):aV X (.type "list") (λxs H Q=>∃ (p:Addr) (n:Nat),xs=[.ref p]/\H p=aw (.rng 0 n)/\n<=1000/\∀l,H l=aD->Q (.ref l) (upd H l (.lst ((Zi n).map λ(i:Nat)=>V.int i)))):=by
 intro b s k H xs U Q I r h;#{p,n,rfl,c,f,q}:=h;#{u,rfl,j}:=bQ r;cases j;#{t,u,v,e}:=(show ba X.prog X.w H s.heap p (.rng 0 n) from I.hok p _ c);&mX d I e f q
end
abbrev j9:List Str->Bool
 |[]=>aN
 |x::r=>!r.contains x && j9 r
def ju:∀ {l:List Str},j9 l=aN->l.Nodup
 |[],_=>Xf
 |x::r,h=>by
  unfold j9 at h;rw[bAE] at h;~Z9.mpr ⟨λm=>?_,ju h.2⟩;!:=h.1;simp[m] at this
abbrev cmB(own:List Str)(hs:List Nat)(N:List Str)(b sc:Scope):Bool:=
 (b.kind == .function) && j9 (dF hs N++own) && j9 (b.names.map (·.1)) && ((dF hs N).all λx=>b.names.lookup x != aw .local && b.names.lookup x != aw .cell) &&
 (b.names.all λy=>y.2 != .free || (sc.names.lookup y.1 == aw .cell || sc.names.lookup y.1 == aw .free)) && hs.all λi=>(b.names.lookup (BS i)).isNone
def B5(hs:List Nat)(h:cmB own hs N b sc=aN):CmScope own hs N b sc:=by
 unfold cmB at h;simp only[bAE,Yc] at h;#{⟨⟨⟨⟨k,l⟩,c⟩,h4⟩,d⟩,n}:=h;~{by simpa using k,ju l,ju c,λx f=>?_,λy p j=>?_,λi hi=>by simpa using n i hi}
 ·!:=h4 x f
  simpa using this
 ·!:=d y p;rw[j] at this
  simpa using this
section
variable {X:Cx} {tg l a:Expr} {tl:TE} {ta:TA} {es:List Expr} {t:TGs} {p pos:Pos} {n k:Nat} {elts:List Expr} {x1:Nat} {tp:Pos} {o e:Expr} {to:TE} {tt:TA} {name:Str} {apos cpos:Pos}
abbrev Ku(K:VY):List V->Hp->VK->Prop:=λc H Q=>∃x n t b,c=[x,.ty n]/\TyOf K H x t/\UP K t (.type n)=aw b/\Q (.bl b) H
def rA(K:VY)(h:X.K=K:=by rfl):aV X (.builtin "isinstance") (Ku K):=h ▸ tR
end
def m7:∀ {xs:List V} {U:List Value},aJ xs U->xs.all dU=aN->U.countP (eqU x)=xs.countP λy=>eqV y x
 |_,_,.nil,_=>rfl
 |y::xs,u::U,.cons r t,f=>by
  rw[Yt,bAE] at f;rw[Xo,Xo,wo r f.1,m7 t f.2]
section
variable {X:Cx}
abbrev Gc(K:VY):V->List V->Hp->VK->Prop:=λx v H Q=>∃p b y,x = .ref p/\v=[y]/\SqT K H p b/\dU y=aN/\b.all dU=aN/\Q (.int ((b.countP λz=>eqV z y:Nat):Int)) H
def z4(K:VY)(C:X.K=K:=by rfl):MtR X "tuple.count" (Gc K):=by
 subst C;intro f s U H x vs v Z Q I E L h;#{p,k,y,rfl,rfl,l,j,fs,q}:=h;cases E;#{u,rfl,T}:=L.one;#{b,r,⟨⟨J,O,d,sl⟩,e,c,n,hd⟩,Y}:=I.tuple l;simp only at c hd;subst c hd;~Zae VC ⟨_,e,rfl⟩ F.entry_tuple_count (F.args_tuple_count_2 _ _) (SeqAt.tuple_countAt p b.toArray n O sl u (eqU y)) ⟨e,λw B=>dE T j r fs w (by simpa using B),?_⟩;~{.int _,H,I.tok _,⟨_,rfl⟩,?_}
 !z:(b.toArray.toList.countP (eqU y))=k.countP λz=>eqV z y:=by
  rw[Wd];&m7 r fs
 rw[z];&q
end
end L2
namespace Dw
open PySem PySem.Spec PyProof.Rows L2
inductive D where
 |non |bl (b:Bool) |int (i:Int) |str (x:Str) |tup (ds:List D) |lst (ds:List D) |dic (ks:List Key) (ds:List D)
mutual
noncomputable def Br(N:List Addr)(H:Hp):D->V->Prop
 |.non,v=>v = .non
 |.bl b,v=>v = .bl b
 |.int i,v=>v = .int i
 |.str x,v=>v = .str x
 |.tup ds,v=>∃a X,v = .ref a/\H a=aw (.tup X)/\BrL N H ds X
 |.lst ds,v=>∃a X,v = .ref a/\a ∉ N/\H a=aw (.lst X)/\BrL N H ds X
 |.dic ks ds,v=>∃a X,v = .ref a/\a ∉ N/\H a=aw (.dK (ks.zip X))/\ks.length=ds.length/\BrL N H ds X
noncomputable def BrL(N:List Addr)(H:Hp):List D->List V->Prop
 |[],xs=>xs=[]
 |d::ds,xs=>∃x r,xs=x::r/\Br N H d x/\BrL N H ds r
end
mutual
noncomputable def dep:D->Nat
 |.tup ds=>lV ds+1
 |.lst ds=>lV ds+1
 |.dic _ ds=>lV ds+1
 |_=>0
noncomputable def lV:List D->Nat
 |[]=>0
 |d::ds=>max (dep d) (lV ds)
end
mutual
noncomputable def wid:D->Nat
 |.tup ds=>max ds.length (ww ds)
 |.lst ds=>max ds.length (ww ds)
 |.dic _ ds=>max ds.length (ww ds)
 |_=>0
noncomputable def ww:List D->Nat
 |[]=>0
 |d::ds=>max (wid d) (ww ds)
end
abbrev isB:D->Bool |.bl _=>aN |_=>aS
abbrev isW(d:D):Bool:=match d with |.int _=>aN |_=>aS
abbrev iQ(d:D)(a b:Int):Bool:=match d with |.int i=>decide (a<=i) && decide (i<=b) |_=>aS
abbrev isT(d:D)(a b:Int):Bool:=match d with |.tup ds=>decide (a<=(ds.length:Int)) && decide ((ds.length:Int)<=b) |_=>aS
def ql{b:Type}(n:Nat)(f:Nat->List b):(Zi (n+1)).flatMap f=(Zi n).flatMap f++f n:=by
 rw[Xw,We];simp
def yf{b:Type}{n m:Nat}{f:Nat->List b}(h:∀i,i < n->(f i).length<=m):((Zi n).flatMap f).length<=n * m:=by
 induction n with
 |zero=>simp
 |succ n I=>
  rw[ql,Ze];!:=I λi hi=>h i (by omega);!:=h n (by omega);rw[XU];omega
abbrev jv(d:List D)(lo hi:Option Int):List D:=(d.drop (HT.sIx d.length 0 lo)).take (HT.sIx d.length d.length hi - HT.sIx d.length 0 lo)
def yg{n:Nat}:∀ {ds:List D},(∀d ∈ ds,dep d<=n)->lV ds<=n
 |[],_=>by rw[lV];omega
 |e::ds,h=>by
  rw[lV];!:=h e Zj;!:=yg (ds:=ds) λd hd=>h d (Zg _ hd);omega
def yh{n:Nat}:∀ {ds:List D},(∀d ∈ ds,wid d<=n)->ww ds<=n
 |[],_=>by rw[ww];omega
 |e::ds,h=>by
  rw[ww];!:=h e Zj;!:=yh (ds:=ds) λd hd=>h d (Zg _ hd);omega
structure Fit(n m:Nat)(d:D):Prop where
 de:dep d<=n
 wi:wid d<=m
def Fit.up{n m b c:Nat}(h:Fit n m d)(f:n<=b)(j:m<=c):Fit b c d:=⟨ZJ h.de f,ZJ h.wi j⟩
def Fit.tup{n m:Nat}(c:b.length<=m)(h:∀d ∈ b,Fit n m d):Fit (n+1) m (.tup b):=by
 ~{?_,?_}
 ·rw[dep];!:=yg (n:=n) λd hd=>(h d hd).de;omega
 ·rw[wid];!:=yh (n:=m) λd hd=>(h d hd).wi;omega
def Mf(n:Nat)(a:Int)(h:0<=a):HT.sIx n 0 (aw a)=min a.toNat n:=by
 show(if a < 0 then (a+(n:Int)).toNat else min a.toNat n)=_;rw[if_neg (by omega)]
def B6(n:Nat)(a:Int)(h:0<=a):HT.sIx n n (aw a)=min a.toNat n:=by
 show(if a < 0 then (a+(n:Int)).toNat else min a.toNat n)=_;rw[if_neg (by omega)]
def Fit.lst{n m:Nat}(h:Fit n m (.tup d)):Fit n m (.lst d):=⟨by !:=h.de;simp only[dep] at this ⊢;&this,by !:=h.wi;simp only[wid] at this ⊢;&this⟩
abbrev qm(q:Int × Int):D:=.tup [.int q.1,.int q.2]
abbrev mg2(M:List (List Int))(i j:Nat):Int:=(((M[i]?).getD [])[j]?).getD 0
structure Mat(n:Nat)(M:List (List Int)):Prop where
 len:M.length=n
 row:∀r ∈ M,r.length=n
 ent:∀r ∈ M,∀x ∈ r,1<=x/\x<=99
def Mat.at{n:Nat}(h:Mat n M){i j:Nat}(hi:i < n)(k:j < n):∃r,M[i]?=aw r/\r.length=n/\r[j]?=aw (mg2 M i j)/\1<=mg2 M i j/\mg2 M i j<=99:=by
 !c:i < M.length:=by rw[h.len];&hi
 !E:M[i]?=aw M[i]:=gEG c;!d:=h.row _ (ZS c);!b:j < M[i].length:=by omega
 !f:mg2 M i j=M[i][j]:=by unfold mg2;rw[E,ZX,gEG b,ZX]
 !:=h.ent _ (ZS c) _ (ZS b);&{M[i],E,d,by rw[f,gEG b],by omega,by omega}
abbrev tX(n k:Nat)(M:List (List Int)):Prop:=∀a b q,a < n->b < n->q < k->mg2 M a b<=mg2 M a q+mg2 M q b
def B7{n k:Nat}(h:Mat n M)(d:k < n)(p:tX n k M)(u:∀i j,i < n->j < n->mg2 M' i j=min (mg2 M i j) (mg2 M i k+mg2 M k j)):tX n (k+1) M':=by
 intro a b q f hb y;!c:q < n:=by omega
 #{_,_,_,_,B,_}:=h.at f hb;#{_,_,_,_,I,_}:=h.at f d;#{_,_,_,_,O,_}:=h.at d hb;#{_,_,_,_,Q,_}:=h.at d d;#{_,_,_,_,z,_}:=h.at f c;#{_,_,_,_,J,_}:=h.at c hb;#{_,_,_,_,E,_}:=h.at d c;#{_,_,_,_,v,_}:=h.at c d;rw[u a b f hb,u a q f c,u q b c hb];by_cases e:q=k
 ·subst e;omega
 ·!l:q < k:=by omega
  !T:=p a b q f hb l;!L:=p k b q d hb l;!C:=p a k q f d l;omega
abbrev iR(M:List (List Int)):List D:=M.map λr=>.tup (r.map .int)
abbrev aY(M:List (List Int))(n c i:Nat):List Int:=(Zi n).map λj=>if mg2 M i c+mg2 M c j < mg2 M i j then mg2 M i c+mg2 M c j else mg2 M i j
def tY(M:List (List Int))(n c i:Nat):(aY M n c i).length=n:=by unfold aY;rw[Za,ZC]
def tZ(M:List (List Int)){n c i j:Nat}(h:j < n):(aY M n c i)[j]?=aw (if mg2 M i c+mg2 M c j < mg2 M i j then mg2 M i c+mg2 M c j else mg2 M i j):=by
 unfold aY;rw[Zq,Yn h];rfl
def Gd{n c:Nat}(h:Mat n M)(d:c < n):∀i j,i < n->j < n->mg2 ((Zi n).map (aY M n c)) i j=min (mg2 M i j) (mg2 M i c+mg2 M c j):=λi j hi b=>by
 !e:mg2 ((Zi n).map (aY M n c)) i j=if mg2 M i c+mg2 M c j < mg2 M i j then mg2 M i c+mg2 M c j else mg2 M i j:=by
  show((((Zi n).map (aY M n c))[i]?.getD [])[j]?).getD 0=_;rw[Zq,Yn hi];show((aY M n c i)[j]?).getD 0=_;rw[tZ M b];rfl
 rw[e];split <;> omega
def B8{n c:Nat}(h:Mat n M)(l:c < n):Mat n ((Zi n).map (aY M n c)):=by
 ~{by rw[Za,ZC],λr d=>?_,λr d x k=>?_}
 ·#{u,_,rfl}:=Zz.mp d;&tY M n c u
 ·#{u,b,rfl}:=Zz.mp d;rw[ZQ] at b;unfold aY at k;#{j,f,rfl}:=Zz.mp k;rw[ZQ] at f;#{_,_,_,_,y,q}:=h.at b f;#{_,_,_,_,p,Q}:=h.at b l;#{_,_,_,_,z,v}:=h.at l f;split <;> omega
def cg:∀ (n:Nat) (l:List Int),l.Nodup->(∀x ∈ l,0<=x/\x < (n:Int))->l.length<=n
 |0,l,_,h=>by
  cases l with
  |nil=>&Zf _
  |cons x l=>have:=h x Zj;lia
 |n+1,l,nd,h=>by
  by_cases c:(n:Int) ∈ l
  ·!I:=cg n (l.erase n) (nd.erase _) λx b=>by
    !d:=h x (List.mem_of_mem_erase b);!f:x ≠ (n:Int):=λe=>(List.Nodup.not_mem_erase nd) (e ▸ b)
    lia
   rw[List.length_erase_of_mem c] at I;!:=List.length_pos_of_mem c
   lia
  ·!I:=cg n l nd λx b=>by
    !d:=h x b;!f:x ≠ (n:Int):=λe=>c (e ▸ b)
    lia
   lia
abbrev yi:Key->PyData
 |.inl i=>.int i
 |.inr x=>.str x
mutual
noncomputable def bc:D->PyData
 |.non=>.none
 |.bl b=>.bool b
 |.int i=>.int i
 |.str x=>.str x
 |.tup ds=>.tuple (bG ds)
 |.lst ds=>.list (bG ds)
 |.dic ks ds=>.dict ((ks.map yi).zip (bG ds))
noncomputable def bG:List D->List PyData
 |[]=>[]
 |d::ds=>bc d::bG ds
end
mutual
noncomputable def shw:D->Prop
 |.int i=>i.natAbs.log2 < 1920
 |.tup ds=>m8 ds
 |.lst ds=>m8 ds
 |.dic _ _=>False
 |_=>True
noncomputable def m8:List D->Prop
 |[]=>True
 |d::ds=>shw d/\m8 ds
end
section
variable {P:Program} {w:World} {N:List Addr} {H:Hp} {h:Heap}
mutual
theorem gj(ok:HOk P w H h):∀ (d:D) {v:V} {u:Value},Br N H d v->aE v u->shw d->∃k,Reads h u (bc d) k
 |.non,v,u,b,r,hs=>by simp only[Br] at b;subst b;cases r;&{_,by simp only[bc];&.none}
 |.bl x,v,u,b,r,hs=>by simp only[Br] at b;subst b;cases r;&{_,by simp only[bc];&.bool _}
 |.int i,v,u,b,r,hs=>by simp only[Br] at b;subst b;#{t,rfl}:=r;&{_,by simp only[bc];&.int _ _}
 |.str x,v,u,b,r,hs=>by simp only[Br] at b;subst b;#{t,rfl}:=r;&{_,by simp only[bc];&.str _ _}
 |.tup ds,v,u,b,r,hs=>by
  simp only[Br] at b;#{a,X,rfl,f,l}:=b;cases r;#{_,I,j,o,e,c,n,q,_}:=ok a _ f;#{k,z}:=kc ok ds l j (by simpa only[shw] using hs);simp only[bc];&{_,.tuple e c q (by simpa using z)}
 |.lst ds,v,u,b,r,hs=>by
  simp only[Br] at b;#{a,X,rfl,_,f,l}:=b;cases r;#{_,I,n,j,e}:=ok a _ f;#{k,z}:=kc ok ds l j (by simpa only[shw] using hs);simp only[bc];&{_,.list e rfl rfl (by simpa using z)}
 |.dic ks ds,v,u,b,r,hs=>by simp only[shw] at hs
theorem kc(ok:HOk P w H h):∀ (c:List D) {xs:List V} {u:List Value},BrL N H c xs->aJ xs u->m8 c->∃f,ReadsAll h u (bG c) f
 |[],xs,u,b,r,_=>by simp only[BrL] at b;subst b;cases r;&{_,by simp only[bG];&.nil}
 |d::c,xs,u,b,r,hs=>by
  simp only[BrL] at b;#{x,l,rfl,k,j}:=b;cases r with
  |cons r1 r2=>
   #{f,z}:=gj ok d k r1 (by simp only[m8] at hs;&hs.1);#{bs,Z}:=kc ok c j r2 (by simp only[m8] at hs;&hs.2);simp only[bG];&{_,.cons z Z}
end
mutual
theorem Gf(ok:HOk P w H h):∀ (d:D) {v:V} {u:Value},Br N H d v->aE v u->shw d->(bc d).shown.length<=sizeLine->∃bs,ReadAtMost h (bc d).depth bs/\ReprK P w bs h (bc d).depth u (bc d).shown
 |.non,v,u,b,r,_,_=>by simp only[Br] at b;subst b;cases r;&{[],(λ_ m=>nomatch m),by simp only[bc,VR];&.of_is ReprIs.none _ _ _}
 |.bl x,v,u,b,r,_,_=>by simp only[Br] at b;subst b;cases r;&{[],(λ_ m=>nomatch m),by simp only[bc,VR];&.of_is (ReprIs.bool _) _ _ _}
 |.int i,v,u,b,r,hs,_=>by simp only[Br] at b;subst b;#{t,rfl}:=r;&{[],(λ_ m=>nomatch m),by simp only[bc,VR];&.of_is (ReprIs.int t (by simpa only[shw] using hs)) _ _ _}
 |.str x,v,u,b,r,_,hz=>by simp only[Br] at b;subst b;#{t,rfl}:=r;&{[],(λ_ m=>nomatch m),by simp only[bc,VR] at hz ⊢;&.of_is (ReprIs.str x t hz) _ _ _}
 |.tup ds,v,u,b,r,hs,hz=>by
  #{J,f}:=gj ok (.tup ds) b r hs;simp only[Br] at b;#{a,X,rfl,p,z}:=b;cases r;#{_,I,B,o,e,c,n,q,_}:=ok a _ p;simp only[bc,VR,VO] at hz f ⊢;#{bs,m,k}:=gk ok ds z B (by simpa only[shw] using hs) λt C=>ZJ (tupleText_mem_le C) hz;!out:a ∉ bs:=ZaA f (by simp only[VO];lia) m;!j:=ReadAtMost.cons f (by simp only[VO];lia) m;simp only[VO] at j;&{a::bs,j,ReprK.tuple e c q out (by simpa using k)}
 |.lst ds,v,u,b,r,hs,hz=>by
  #{J,f}:=gj ok (.lst ds) b r hs;simp only[Br] at b;#{a,X,rfl,_,p,z}:=b;cases r;#{_,I,n,B,e}:=ok a _ p;simp only[bc,VR,VO] at hz f ⊢;#{bs,m,k}:=gk ok ds z B (by simpa only[shw] using hs) λt C=>ZJ (listText_mem_le C) hz;!out:a ∉ bs:=ZaA f (by simp only[VO];lia) m;!j:=ReadAtMost.cons f (by simp only[VO];lia) m;simp only[VO] at j;~{a::bs,j,?_};cases I with
  |nil=>
   cases E:VS (bG ds) with
   |nil=>simp only[listText_nil];&ReprK.listEmpty e rfl rfl
   |cons _ _=>rw[E] at k;cases k
  |cons y l=>&ReprK.list e rfl rfl out (by simpa using k.length_eq) (λi Y Q=>k.item i Y (by simpa using Q))
 |.dic ks ds,v,u,b,r,hs,hz=>by simp only[shw] at hs
theorem gk(ok:HOk P w H h):∀ (c:List D) {xs:List V} {u:List Value},BrL N H c xs->aJ xs u->m8 c->(∀t ∈ VS (bG c),t.length<=sizeLine)->∃bs,ReadAtMost h (VP (bG c)) bs/\ReprAllK P w bs h (VP (bG c)) u (VS (bG c))
 |[],xs,u,b,r,_,_=>by simp only[BrL] at b;subst b;cases r;&{[],(λ_ m=>nomatch m),by simp only[bG,VS];&.nil}
 |d::c,xs,u,b,r,hs,hz=>by
  simp only[BrL] at b;#{x,l,rfl,p,q}:=b;cases r with
  |cons r1 r2=>
   simp only[bG,VS,VP,m8] at hz hs ⊢;#{B,m1,v}:=Gf ok d p r1 hs.1 (hz _ Zj);#{j,f,k}:=gk ok c q r2 hs.2 λt n=>hz t (Zg _ n);~{B++j,(m1.mono (WF _ _)).append (f.mono (Wx _ _)),?_};&.cons ((v.more λb z=>ZW _ z).level_le (WF _ _)) (k.more_le (λb z=>ZB _ z) (Wx _ _))
end
end
section
variable {X:Cx}
structure Shn(d:D):Prop where
 sh:shw d
 sz:(bc d).shown.length<=sizeLine
 dp:(bc d).depth<=100
abbrev Mg:List V->Hp->VK->Prop:=λb H Q=>∃x N d,b=[x]/\Br N H d x/\Shn d/\Q (.str (bc d).shown) H
def wx{k:Nat}(hr:Room k X.A):aV X (.builtin "repr") Mg:=by
 intro U s σ H xs us Q I r h;#{x,N,d,rfl,b,⟨hs,B,hd⟩,q}:=h;#{u,rfl,p}:=bQ r;!hun:=hr.un;!J:X.A.units+1 < cLine:=by lia
 !Y:X.A.in1.guards=aw []:=hr.gd;!j:∀v t T,(∀b o,s.heap.get? b=aw o->v.get? b=aw o)->∃x' t',Value.str (bc d).shown t=Value.str x' t'/\EP X U σ Q (Value.str (bc d).shown t) { s with heap:=v,toks:=T }:=λv t T L=>⟨_,_,rfl,.str _,H,I.kept (t':=T) L,⟨t,rfl⟩,q⟩;cases d with
 |non=>
  simp only[Br] at b;subst b;cases p;&P.repr_of_none ⟨.str _,H,I.tok _,⟨_,rfl⟩,by simpa only[bc,VR] using q⟩
 |bl y=>
  simp only[Br] at b;subst b;cases p;&P.repr_of_bool ⟨.str _,H,I.tok _,⟨_,rfl⟩,by simpa only[bc,VR] using q⟩
 |int i=>
  simp only[Br] at b;subst b;#{t,rfl}:=p;&P.repr_of_int (by simpa only[shw] using hs) ⟨.str _,H,I.tok _,⟨_,rfl⟩,by simpa only[bc,VR] using q⟩
 |str y=>
  simp only[Br] at b;subst b;#{t,rfl}:=p;&P.repr_of_str ⟨.str _,H,I.tok _,⟨_,rfl⟩,by simpa only[bc,VR] using q⟩ (by simpa only[bc,VR] using B)
 |tup C=>
  #{as,f}:=gj I.hok (.tup C) b p hs;simp only[Br] at b;#{a,ys,rfl,Z,hx}:=b;cases p;#{_,O,rv,o,e,c,n,q',_}:=I.hok a _ Z;simp only[bc,VR,VO] at B f hd j;#{bs,m,E}:=gk I.hok C hx rv (by simpa only[shw] using hs) λt ht=>ZJ (tupleText_mem_le ht) B;!out:a ∉ bs:=ZaA f (by simp only[VO];lia) m;~call_repr_slot J ⟨o,e,c⟩ F.slot_tuple_repr ?_;&call_tuple_reprK e c q' out (by simpa using E) Y (λb _=>Clear.nil b) (by show X.A.units+1+(_+1) < cLine;lia) (λ_ _ z=>z) (λv t T L=>j v t T L) B
 |lst C=>
  #{as,f}:=gj I.hok (.lst C) b p hs;simp only[Br] at b;#{a,ys,rfl,_,Z,hx}:=b;cases p;#{_,O,n,rv,e}:=I.hok a _ Z;simp only[bc,VR,VO] at B f hd j;#{bs,m,E}:=gk I.hok C hx rv (by simpa only[shw] using hs) λt ht=>ZJ (listText_mem_le ht) B;!out:a ∉ bs:=ZaA f (by simp only[VO];lia) m;~call_repr_slot J ⟨_,e,rfl⟩ F.slot_list_repr.toG ?_;cases O with
  |nil=>
   cases k2:VS (bG C) with
   |nil=>
    rw[k2] at j;simp only[listText_nil] at j;&call_list_repr_empty ⟨_,e,rfl⟩ e rfl (j s.heap _ _ λ_ _ z=>z)
   |cons _ _=>rw[k2] at E;cases E
  |cons y l=>
   &call_list_reprK e rfl rfl out (by simpa using E.length_eq) (λi y' q2=>E.item i y' (by simpa using q2)) Y (λb _=>Clear.nil b) (by show X.A.units+1+(_+1) < cLine;lia) (λ_ _ z=>z) (λv t T L=>j v t T L) B
 |dic ks C=>simp only[shw] at hs
end
mutual
noncomputable def sz:D->Nat
 |.non=>10
 |.bl _=>10
 |.int _=>60
 |.str x=>(reprText x).length
 |.tup ds=>szL ds+4
 |.lst ds=>szL ds+4
 |.dic ks ds=>szL ds+62 * ks.length+4
noncomputable def szL:List D->Nat
 |[]=>0
 |d::ds=>sz d+2+szL ds
end
mutual
noncomputable def bnd(B:Nat):D->Prop
 |.int i=>i.natAbs < B
 |.tup ds=>jw B ds
 |.lst ds=>jw B ds
 |.dic _ _=>False
 |_=>True
noncomputable def jw(B:Nat):List D->Prop
 |[]=>True
 |d::ds=>bnd B d/\jw B ds
end
def Mh{i:Int}(h:i.natAbs < 10 ^ 50):i.natAbs.log2 < 1920:=by
 by_cases z:i.natAbs=0
 ·rw[z];decide
 ·!:i.natAbs.log2 < 167:=(WV z).mpr (ZD h (by decide))
  lia
mutual
theorem yj:∀ (d:D),bnd (10 ^ 50) d->shw d
 |.non,_=>by simp only[shw]
 |.bl _,_=>by simp only[shw]
 |.str _,_=>by simp only[shw]
 |.int i,h=>by simp only[shw,bnd] at h ⊢;&Mh h
 |.tup ds,h=>by simp only[shw,bnd] at h ⊢;&m9 ds h
 |.lst ds,h=>by simp only[shw,bnd] at h ⊢;&m9 ds h
 |.dic ks ds,h=>by simp only[bnd] at h
theorem m9:∀ (b:List D),jw (10 ^ 50) b->m8 b
 |[],_=>by simp only[m8]
 |d::b,h=>by simp only[m8,jw] at h ⊢;&{yj d h.1,m9 b h.2}
end
def yk:∀ (T:List Str) (k:Nat) (b:Str),(ZaW k b T).length<=b.length+piled T
 |[],k,b=>by show b.length<=_;lia
 |t::r,k,b=>by
  !I:=yk r (k+1) (b++(if k > 0 then ", " else "" : String)++t);show(ZaW (k+1) (b++(if k > 0 then ", " else "" : String)++t) r).length<=_;rw[piled_cons]
  !e:(b++(if k > 0 then ", " else "" : String)++t).length<=b.length+2+t.length:=by
   rw[ZaR,ZaR];!:(Str.ofString (if k > 0 then ", " else "" : String)).length<=2:=by split <;> decide
   lia
  lia
def rB(ts:List Str):(Str.join ", " ts).length<=piled ts:=by
 cases ts with
 |nil=>decide
 |cons t r=>have:=join_length_add (t::r) (by simp);lia
def Gg(ts:List Str):(listText ts).length<=piled ts+4:=by
 unfold listText;rw[ZaR];!b:=yk ts 0 "[";!c:(Str.ofString "[").length=1:=by decide
 !d:(Str.ofString "]").length=1:=by decide
 !h:(ZaW 0 (Str.ofString "[") ts).length<=(Str.ofString "[").length+piled ts:=b;show(ZaW 0 (Str.ofString "[") ts).length+(Str.ofString "]").length<=_
 lia
def B9(T:List Str):(tupleText T).length<=piled T+4:=by
 unfold tupleText;rw[ZaR,ZaR];!c:=rB T;!h:(Str.ofString "(").length=1:=by decide
 !b:(Str.ofString (if T.length == 1 then ",)" else ")" : String)).length<=2:=by split <;> decide
 show(Str.ofString "(").length+_+(Str.ofString (if T.length == 1 then ",)" else ")" : String)).length<=_
 lia
def Mi{i:Int}(h:i.natAbs < 10 ^ 50):(Str.ofString (toString i)).length<=51:=by
 rw[ofString_len];&int_text_length_le10 (by decide) h
mutual
theorem t0:∀ (d:D),bnd (10 ^ 50) d->(bc d).shown.length<=sz d
 |.non,_=>by simp only[bc,VR,sz];decide
 |.bl b,_=>by simp only[bc,VR,sz];cases b <;> decide
 |.int i,h=>by
  simp only[bc,VR,sz,bnd] at h ⊢;!:=Mi h;show(Str.ofString (toString i)).length<=60
  lia
 |.str x,_=>by simp only[bc,VR,sz];&Zf _
 |.tup ds,h=>by
  simp only[bc,VR,sz,bnd] at h ⊢;!:=kf ds h;!:=B9 (VS (bG ds))
  lia
 |.lst ds,h=>by
  simp only[bc,VR,sz,bnd] at h ⊢;!:=kf ds h;!:=Gg (VS (bG ds))
  lia
 |.dic ks ds,h=>by simp only[bnd] at h
theorem kf:∀ (b:List D),jw (10 ^ 50) b->piled (VS (bG b))<=szL b
 |[],_=>by simp[bG,VS,piled,szL]
 |d::b,h=>by
  simp only[bG,VS,szL,jw,piled_cons] at h ⊢;!f:=t0 d h.1;!c:=kf b h.2
  lia
end
def ua:∀ (ks:List Key) (b:List PyData),VQ ((ks.map yi).zip b)<=VP b
 |[],b=>by simp[VQ]
 |k::ks,[]=>by simp[VQ]
 |k::ks,d::b=>by
  !I:=ua ks b;simp only[Zy,Yg,VQ,VP];!:(yi k).depth=0:=by cases k <;> simp[yi,VO]
  rw[this]
  lia
mutual
theorem ub:∀ (d:D),(bc d).depth<=dep d
 |.non=>by simp[bc,VO]
 |.bl _=>by simp[bc,VO]
 |.int _=>by simp[bc,VO]
 |.str _=>by simp[bc,VO]
 |.tup ds=>by simp only[bc,VO,dep];!:=hV ds;lia
 |.lst ds=>by simp only[bc,VO,dep];!:=hV ds;lia
 |.dic ks ds=>by
  simp only[bc,VO,dep];!:=hV ds;!:=ua ks (bG ds)
  lia
theorem hV:∀ (b:List D),VP (bG b)<=lV b
 |[]=>by simp[bG,VP,lV]
 |d::b=>by
  simp only[bG,VP,lV];!:=ub d;!:=hV b
  lia
end
structure Bd(B s:Nat)(d:D):Prop where
 bn:bnd B d
 sz:sz d<=s
mutual
theorem Ca{B b:Nat}(h:B<=b):∀ (d:D),bnd B d->bnd b d
 |.non,_=>by simp only[bnd]
 |.bl _,_=>by simp only[bnd]
 |.str _,_=>by simp only[bnd]
 |.int i,z=>by simp only[bnd] at z ⊢;lia
 |.tup ds,z=>by simp only[bnd] at z ⊢;&rC h ds z
 |.lst ds,z=>by simp only[bnd] at z ⊢;&rC h ds z
 |.dic ks ds,z=>by simp only[bnd] at z
theorem rC{B c:Nat}(h:B<=c):∀ (b:List D),jw B b->jw c b
 |[],_=>by simp only[jw]
 |d::b,z=>by simp only[jw] at z ⊢;&{Ca h d z.1,rC h b z.2}
end
def Bd.shn{B s:Nat}(h:Bd B s d)(c:B<=10 ^ 50)(hs:s<=sizeLine)(hd:dep d<=100):Shn d:=
 have b:=Ca c d h.bn
 ⟨yj d b,ZJ (t0 d b) (ZJ h.sz hs),ZJ (ub d) hd⟩
def ym{B:Nat}:∀ {b:List D},(∀d ∈ b,bnd B d)->jw B b
 |[],_=>by simp only[jw]
 |d::b,h=>by simp only[jw];&{h d Zj,ym λe m=>h e (Zg _ m)}
def Mj{B s:Nat}(h:∀d ∈ b,bnd B d)(hs:szL b+4<=s):Bd B s (.tup b):=⟨by simp only[bnd];&ym h,by simp only[sz];&hs⟩
def Ml{B s:Nat}(h:Bd B s (.tup d)):Bd B s (.lst d):=by
 !b:=h.bn;!c:=h.sz;&{by simp only[bnd] at b ⊢;&b,by simp only[sz] at c ⊢;&c}
end Dw
namespace Ev
open PySem PySem.Spec PyProof.Rows L2
inductive D where
 |non |bl (b:Bool) |int (i:Int) |str (x:Str) |tup (ds:List D) |ref (n:Nat)
inductive Ob where
 |lst (ds:List D) |frz (ds:List D) |dic (ks:List (List NK)) (ds:List D) |tbl (x:Str) (pos:Pos) (qual:Str) |dfz (ks:List (List NK)) (ds:List D)
@[inline]abbrev Sto:=List Ob
@[inline]abbrev Rho:=List (Option D)
mutual
noncomputable def VD(K:VY)(m:List Addr)(H:Hp):D->V->Prop
 |.non,v=>v = .non
 |.bl b,v=>v = .bl b
 |.int i,v=>v = .int i
 |.str x,v=>v = .str x
 |.tup ds,v=>∃a X,v = .ref a/\H a=aw (.tup X)/\VDs K m H ds X
 |.ref n,v=>∃a,m[n]?=aw a/\v = .ref a
noncomputable def VDs(K:VY)(m:List Addr)(H:Hp):List D->List V->Prop
 |[],xs=>xs=[]
 |d::ds,xs=>∃x r,xs=x::r/\VD K m H d x/\VDs K m H ds r
end
structure Ext(m:List Addr)(H:Hp)(m':List Addr)(H':Hp):Prop where
 pre:m <+: m'
 keep:∀a o,H a=aw o->a ∉ m->H' a=aw o
 new:∀a,a ∈ m'->a ∉ m->H a=aD
abbrev DfO(o:Obj)(ks:List (List NK))(d:List D):Prop:=ks.length=d.length/\∃E,o.data = .dict E ks.length
abbrev ObR(K:VY)(m:List Addr)(H:Hp)(a:Addr):Ob->Prop
 |.lst ds=>∃v,H a=aw (.lst v)/\VDs K m H ds v
 |.frz ds=>∃o v,H a=aw (.frz o (.lst v))/\VDs K m H ds v
 |.dic ks ds=>∃v,H a=aw (.dT (ks.zip v))/\ks.length=ds.length/\VDs K m H ds v
 |.tbl x pos qual=>F0 K x a/\∃ps,TabOk a pos qual H ps
 |.dfz ks ds=>∃o v,H a=aw (.frz o (.dT (ks.zip v)))/\DfO o ks ds/\VDs K m H ds v
structure Rel(K:VY)(m:List Addr)(S:Sto)(H:Hp):Prop where
 len:m.length=S.length
 nd:m.Nodup
 ob:∀ (i:Nat) (o:Ob),S[i]?=aw o->∃a,m[i]?=aw a/\ObR K m H a o
structure EnvR(K:VY)(m:List Addr)(H:Hp)(ρ:Rho)(σ:L2.St):Prop where
 len:ρ.length=σ.length
 at_:∀ (i:Nat) (d:D),ρ[i]?=aw (aw d)->∃v,σ[i]?=aw (aw v)/\VD K m H d v
def Ext.refl(m:List Addr)(H:Hp):Ext m H m H:=⟨Yp m,λ_ _ h _=>h,λ_ h n=>absurd h n⟩
def Ext.trans(x:Ext m H m1 c)(y:Ext m1 c d H2):Ext m H d H2:=by
 ~{x.pre.trans y.pre,λa o h n=>?_,λa h n=>?_}
 ·!f:a ∉ m1:=λz=>by !:=x.new a z n;rw[this] at h;cases h
  &y.keep a o (x.keep a o h n) f
 ·by_cases b:a ∈ m1
  ·&x.new a b n
  ·cases e:H a with
   |none=>rfl
   |some o=>
    !:=x.keep a o e n;rw[y.new a h b] at this;cases this
section
variable {K:VY} {m m':List Addr} {S S':Sto} {H H':Hp} {a:Addr}
def Rel.ex(R:Rel K m S H)(j:a ∈ m):∃o ob,H a=aw o/\ObR K m H a ob:=by
 #{i,hi,e}:=List.getElem_of_mem j;!f:i < S.length:=by rw[<-R.len];&hi
 #{b,hb,r}:=R.ob i S[i] (gEG f);!:b=a:=by rw[gEG hi] at hb;rw[<-e];&(Option.some.inj hb).symm
 subst this;cases c:S[i] with
 |lst d=>rw[c] at r;#{v,h,q}:=r;&{_,.lst d,h,v,h,q}
 |frz d=>rw[c] at r;#{o,v,h,q}:=r;&{_,.frz d,h,o,v,h,q}
 |dic ks d=>rw[c] at r;#{v,h,q}:=r;&{_,.dic ks d,h,v,h,q}
 |tbl T p q=>rw[c] at r;#{e,ps,h}:=r;&{_,.tbl T p q,h.at_,e,ps,h}
 |dfz ks d=>rw[c] at r;#{o,v,h,q}:=r;&{_,.dfz ks d,h,o,v,h,q}
def Rel.no(R:Rel K m S H)(h:H a=aD):a ∉ m:=λz=>by
 #{o,_,e,_}:=R.ex z;rw[h] at e;cases e
def Rel.notTup(R:Rel K m S H)(h:H a=aw (.tup xs)):a ∉ m:=λz=>by
 #{o,ob,e,r}:=R.ex z;cases ob with
 |lst d=>#{v,q,_}:=r;rw[q] at h;cases h
 |frz d=>#{o,v,q,_}:=r;rw[q] at h;cases h
 |dic ks d=>#{v,q,_}:=r;rw[q] at h;cases h
 |tbl T p q=>#{e,ps,z}:=r;rw[z.at_] at h;cases h
 |dfz ks d=>#{o,v,q,_}:=r;rw[q] at h;cases h
def Rel.notCd{c:Addr}{Q:Str}(R:Rel K m S H)(h:H a=aw (cdO c Q)):a ∉ m:=λz=>by
 unfold cdO at h;#{o,ob,e,r}:=R.ex z;cases ob with
 |lst d=>#{v,q,_}:=r;rw[q] at h;cases h
 |frz d=>#{o,v,q,_}:=r;rw[q] at h;cases h
 |dic ks d=>#{v,q,_}:=r;rw[q] at h;cases h
 |tbl T p q=>#{e,ps,z}:=r;rw[z.at_] at h;cases h
 |dfz ks d=>#{o,v,q,_}:=r;rw[q] at h;cases h
def Tup.ext(R:Rel K m S H)(x:Ext m H m' H')(h:H a=aw (.tup xs)):H' a=aw (.tup xs):=x.keep _ _ h (R.notTup h)
def ma{i:Nat}(h:m <+: m')(e:m[i]?=aw a):m'[i]?=aw a:=by
 #{t,rfl}:=h;!hi:i < m.length:=(Zb.mp e).1;rw[Zt hi];&e
mutual
theorem VD.mono0(pre:m <+: m')(T:∀a xs,H a=aw (.tup xs)->H' a=aw (.tup xs)):∀ {d:D} {v:V},VD K m H d v->VD K m' H' d v
 |.non,v,h=>by rw[VD] at h ⊢;&h
 |.bl _,v,h=>by rw[VD] at h ⊢;&h
 |.int _,v,h=>by rw[VD] at h ⊢;&h
 |.str _,v,h=>by rw[VD] at h ⊢;&h
 |.tup ds,v,h=>by
  rw[VD] at h ⊢;#{a,xs,e,q,r}:=h;&{a,xs,e,T a xs q,VDs.mono0 pre T r}
 |.ref n,v,h=>by
  rw[VD] at h ⊢;#{a,q,e}:=h;&{a,ma pre q,e}
theorem VDs.mono0(pre:m <+: m')(T:∀a xs,H a=aw (.tup xs)->H' a=aw (.tup xs)):∀ {b:List D} {v:List V},VDs K m H b v->VDs K m' H' b v
 |[],v,h=>by rw[VDs] at h ⊢;&h
 |d::b,v,h=>by
  rw[VDs] at h ⊢;#{y,r,e,p,q}:=h;&{y,r,e,VD.mono0 pre T p,VDs.mono0 pre T q}
end
def VD.mono(R:Rel K m S H)(x:Ext m H m' H')(h:VD K m H d v):VD K m' H' d v:=VD.mono0 x.pre (λ_ _=>Tup.ext R x) h
def VDs.mono(R:Rel K m S H)(x:Ext m H m' H')(h:VDs K m H d vs):VDs K m' H' d vs:=VDs.mono0 x.pre (λ_ _=>Tup.ext R x) h
def EnvR.mono(R:Rel K m S H)(x:Ext m H m' H')(h:EnvR K m H b σ):EnvR K m' H' b σ:=
 ⟨h.len,λi d e=>let ⟨v,p,q⟩:=h.at_ i d e;⟨v,p,VD.mono R x q⟩⟩
def VDs.length:∀ {b:List D} {v:List V},VDs K m H b v->b.length=v.length
 |[],v,h=>by rw[VDs] at h;rw[h];rfl
 |d::b,v,h=>by
  rw[VDs] at h;#{y,r,e,_,q}:=h;rw[e,Zo,Zo,VDs.length q]
def VDs.nil:VDs K m H [] []:=by rw[VDs]
def VDs.cons(h:VD K m H d v)(t:VDs K m H c b):VDs K m H (d::c) (v::b):=by rw[VDs];&{v,b,rfl,h,t}
def VDs.get:∀ {c:List D} {b:List V} {i:Nat} {d:D},VDs K m H c b->c[i]?=aw d->∃v,b[i]?=aw v/\VD K m H d v
 |[],_,_,_,_,e=>by simp at e
 |d::c,b,0,d',h,e=>by
  rw[VDs] at h;#{y,r,rfl,p,q}:=h;simp at e;subst e;&{y,rfl,p}
 |d::c,b,i+1,d',h,e=>by
  rw[VDs] at h;#{y,r,rfl,p,q}:=h;#{v,j,f}:=VDs.get (i:=i) q (by simpa using e);&{v,by simpa using j,f}
def VDs.append:∀ {c E:List D} {v b:List V},VDs K m H c v->VDs K m H E b->VDs K m H (c++E) (v++b)
 |[],_,v,_,h,t=>by rw[VDs] at h;subst h;&t
 |d::c,E,v,b,h,t=>by
  rw[VDs] at h;#{y,r,rfl,p,q}:=h;&.cons p (VDs.append q t)
def VDs.drop:∀ {b:List D} {v:List V} (n:Nat),VDs K m H b v->VDs K m H (b.drop n) (v.drop n)
 |b,v,0,h=>h
 |[],v,n+1,h=>by rw[VDs] at h;subst h;&.nil
 |d::b,v,n+1,h=>by
  rw[VDs] at h;#{y,r,rfl,p,q}:=h;&VDs.drop n q
def VDs.take:∀ {b:List D} {v:List V} (n:Nat),VDs K m H b v->VDs K m H (b.take n) (v.take n)
 |b,v,0,h=>by simp only[YK];&.nil
 |[],v,n+1,h=>by rw[VDs] at h;subst h;&.nil
 |d::b,v,n+1,h=>by
  rw[VDs] at h;#{y,r,rfl,p,q}:=h;&.cons p (VDs.take n q)
def VDs.set:∀ {c:List D} {b:List V} {i:Nat} {d:D} {v:V},VDs K m H c b->VD K m H d v->VDs K m H (c.set i d) (b.set i v)
 |[],b,_,_,_,h,_=>by rw[VDs] at h;subst h;&.nil
 |_::c,b,0,d,v,h,p=>by
  rw[VDs] at h;#{y,r,rfl,_,q}:=h;&.cons p q
 |_::c,b,i+1,d,v,h,p=>by
  rw[VDs] at h;#{y,r,rfl,f,q}:=h;&.cons f (VDs.set q p)
def Ext.beside(R:Rel K m S H)(h:H a=aD)(o:HO):Ext m H m (upd H a o):=
 ⟨Yp m,λb u e _=>by rw[ae (aP e h)];&e,λb z n=>absurd z n⟩
def Rel.ext_keep(R:Rel K m S H)(x:Ext m H m H')(k:∀b ∈ m,H' b=H b):Rel K m S H':=by
 ~{R.len,R.nd,λi o e=>?_};#{b,hb,r}:=R.ob i o e;!h:b ∈ m:=Zd hb;~{b,hb,?_};cases o with
 |lst d=>#{v,p,q}:=r;&{v,(k b h).trans p,VDs.mono R x q}
 |frz d=>#{o,v,p,q}:=r;&{o,v,(k b h).trans p,VDs.mono R x q}
 |dic ks d=>#{v,p,l,q}:=r;&{v,(k b h).trans p,l,VDs.mono R x q}
 |tbl T p q=>
  #{e,ps,z}:=r;~{e,ps,(k _ h).trans z.at_,z.tr,λC n=>?_};#{c,j,E}:=z.cd C n;~{c,j,?_};by_cases f:c ∈ m
  ·&(k _ f).trans E
  ·&x.keep _ _ E f
 |dfz ks d=>#{o,v,p,l,q}:=r;&{o,v,(k b h).trans p,l,VDs.mono R x q}
def Rel.beside(R:Rel K m S H)(h:H a=aD)(o:HO):Rel K m S (upd H a o):=
 R.ext_keep (Ext.beside R h o) λb hb=>ae λz=>R.no h (z ▸ hb)
def Rel.adoptP{a:Addr}{ob:Ob}(R:Rel K m S H)(n:a ∉ m)(h:ObR K (m++[a]) H a ob):Rel K (m++[a]) (S++[ob]) H:=by
 !p:=YA m [a];!g:∀ {E:List D} {ws:List V},VDs K m H E ws->VDs K (m++[a]) H E ws:=λz=>VDs.mono0 p (λ_ _ t=>t) z;~{by simp[R.len],Ye.mpr ⟨R.nd,by simp,λx j y f=>by simp at f;subst f;exactλz=>n (z ▸ j)⟩,λi o e=>?_};by_cases hi:i < S.length
 ·rw[Zt hi] at e;#{b,hb,r}:=R.ob i o e;~{b,ma p hb,?_};cases o with
  |lst d=>#{v,p,q}:=r;&{v,p,g q}
  |frz d=>#{o,v,p,q}:=r;&{o,v,p,g q}
  |dic ks d=>#{v,p,l,q}:=r;&{v,p,l,g q}
  |tbl T p q=>&r
  |dfz ks d=>#{o,v,p,l,q}:=r;&{o,v,p,l,g q}
 ·rw[Zp (by lia)] at e
  !c:i - S.length=0:=by
   !:=(Zb.mp e).1;simp at this;lia
  rw[c] at e;!k:ob=o:=by simpa using e
  subst k;~{a,?_,h};rw[Zp (by rw[R.len];lia),R.len,c];rfl
def Rel.adopt(R:Rel K m S H)(n:a ∉ m)(h:H a=aw (.lst v))(q:VDs K m H d v):Rel K (m++[a]) (S++[.lst d]) H:=R.adoptP n ⟨v,h,VDs.mono0 (YA m [a]) (λ_ _ t=>t) q⟩
def Ext.adopt(x:Ext m H m H')(h:H a=aD):Ext m H (m++[a]) H':=
 ⟨YA m [a],x.keep,λb hb nb=>by
  rcases ZR.mp hb with z |z
  ·&absurd z nb
  ·simp at z;subst z;&h⟩
def Rel.write(R:Rel K m S H){i:Nat}(hi:m[i]?=aw a)(q:VDs K m H O v):Ext m H m (upd H a (.lst v))/\Rel K m (S.set i (.lst O)) (upd H a (.lst v)):=by
 !f:a ∈ m:=Zd hi;!x:Ext m H m (upd H a (.lst v)):=⟨Yp m,λb u e n=>by rw[ae (show b ≠ a fromλz=>n (by rw[z];&f))];&e,λb z n=>absurd z n⟩;~{x,by simp[R.len],R.nd,λj o e=>?_};rw[YC] at e;by_cases h:i=j
 ·subst h;rw[if_pos rfl] at e;split at e
  ·!J:=Option.some.inj e;subst J;&{a,hi,v,az,VDs.mono R x q}
  ·cases e
 ·rw[if_neg h] at e;#{b,hb,r}:=R.ob j o e
  !ne:b ≠ a:=λz=>by
   subst z;!Q:=Zb.mp hi;!I:=Zb.mp hb;&h ((Y1 R.nd).mp (Q.2.trans I.2.symm))
  ~{b,hb,?_};cases o with
  |lst E=>#{c,p,q}:=r;&{c,by rw[ae ne];&p,VDs.mono R x q}
  |frz E=>#{o,c,p,q}:=r;&{o,c,by rw[ae ne];&p,VDs.mono R x q}
  |dic ks E=>#{c,p,l,q}:=r;&{c,by rw[ae ne];&p,l,VDs.mono R x q}
  |tbl T p q=>
   #{e,ps,z}:=r;~{e,ps,by rw[ae ne];&z.at_,z.tr,λk B=>?_};#{C,L,d}:=z.cd k B;&{C,L,by rw[ae (show C ≠ a fromλy=>R.notCd d (y.symm ▸ f))];&d}
  |dfz ks E=>#{o,c,p,l,q}:=r;&{o,c,by rw[ae ne];&p,l,VDs.mono R x q}
def Rel.lst(R:Rel K m S H){i:Nat}(e:S[i]?=aw (.lst d)):∃a vs,m[i]?=aw a/\H a=aw (.lst vs)/\VDs K m H d vs:=by
 #{a,h,vs,p,q}:=R.ob i _ e;&{a,vs,h,p,q}
end
abbrev aR(S:Sto)(n:Nat):Option (List D):=match S[n]? with
 |some (.lst ds)=>aw ds
 |some (.frz ds)=>aw ds
 |_=>aD
def Rel.seq{K:VY}{m:List Addr}{S:Sto}{H:Hp}(R:Rel K m S H){i:Nat}{d:List D}(e:aR S i=aw d):∃a vs,m[i]?=aw a/\SqL K H a vs/\VDs K m H d vs:=by
 unfold aR at e;cases h:S[i]? with
 |none=>rw[h] at e;cases e
 |some o=>
  rw[h] at e;cases o with
  |lst E=>cases e;#{a,b,vs,p,q}:=R.ob i _ h;&{a,vs,b,.inl (.inl p),q}
  |frz E=>cases e;#{a,b,o,vs,p,q}:=R.ob i _ h;&{a,vs,b,.inl (.inr ⟨o,p⟩),q}
  |dic ks E=>cases e
  |tbl T p q=>cases e
  |dfz ks d=>cases e
@[inline]abbrev XE:=Rho->Sto->Option (D × Sto)
@[inline]abbrev XT:=Rho->Sto->Option (Bool × Sto)
@[inline]abbrev XA:=Rho->Sto->Option (List D × Sto)
abbrev bnd{b c:Type}(x:Option (b × Sto))(f:b->Sto->Option (c × Sto)):Option (c × Sto):=match x with
 |none=>aD
 |some (a,S)=>f a S
def ac{b c:Type}{x:Option (b × Sto)}{f:b->Sto->Option (c × Sto)}{r:c × Sto}(h:bnd x f=aw r):∃a S,x=aw (a,S)/\f a S=aw r:=by
 unfold bnd at h;cases x with
 |none=>cases h
 |some p=>&{p.1,p.2,rfl,h}
structure Aft(K:VY)(m:List Addr)(H:Hp)(S':Sto)(m':List Addr)(H':Hp):Prop where
 ext:Ext m H m' H'
 rel:Rel K m' S' H'
abbrev tE(K:VY)(x:XE):TE:=λj H Q=>∃m c S d b,EnvR K m H c j/\Rel K m S H/\x c S=aw (d,b)/\∀f h v,Aft K m H b f h->VD K f h d v->Q v h
abbrev tT(K:VY)(x:XT):TT:=λf H Q=>∃m d S b c,EnvR K m H d f/\Rel K m S H/\x d S=aw (b,c)/\∀j h,Aft K m H c j h->Q b h
abbrev tAr(K:VY)(x:XA):TA:=λj H Q=>∃m c S d b,EnvR K m H c j/\Rel K m S H/\x c S=aw (d,b)/\∀f h v,Aft K m H b f h->VDs K f h d v->Q v h
abbrev SqB(K:VY)(T:Bool)(H:Hp)(a:Addr)(v:List V):Prop:=if T=aN then H a=aw (.tup v) else SqL K H a v
abbrev jx(K:VY)(x:XA):TE:=λk H Q=>∃m f S j d,EnvR K m H f k/\Rel K m S H/\x f S=aw (j,d)/\∀c h a v,Aft K m H d c h->h a=aw (.lst v)->a ∉ c->(∀b,b ∈ m->b ≠ a)->H a=aD->VDs K c h j v->Q (.ref a) h
section
variable {X:Cx} {e:Expr} {K:VY} {m m1 m2:List Addr} {H H1 H2:Hp} {S S1 S2:Sto}
def PE.imp(h:PE X e t)(f:∀b H Q,t' b H Q->t b H Q):PE X e t':=λp s b H Q I q=>h p s b H Q I (f b H Q q)
def PT.imp(h:PT X e t)(f:∀b H Q,t' b H Q->t b H Q):PT X e t':=λp s b H Q I q=>h p s b H Q I (f b H Q q)
def PA.imp(h:PA X E t)(f:∀b H Q,t' b H Q->t b H Q):PA X E t':=λp c s b H Q I q=>h p c s b H Q I (f b H Q q)
def PS.imp{st:Stmt}{t t':TS}(h:PS X st t)(f:∀D b H,t' D b H->t D b H):PS X st t':=λp s b H D I q=>h p s b H D I (f D b H q)
def PSs.imp{st:List Stmt}{t t':TS}(h:PSs X st t)(f:∀D b H,t' D b H->t D b H):PSs X st t':=λp s b H D I q=>h p s b H D I (f D b H q)
def PI.imp(h:PI X T it t)(f:∀b H Q,t' b H Q->t b H Q):PI X T it t':=λp s b H Q I q=>h p s b H Q I (f b H Q q)
def PI.or(h:PI X T it t)(h':PI X T it t'):PI X T it (λb H Q=>t b H Q\/t' b H Q):=λp s b H Q I q=>q.elim (h p s b H Q I) (h' p s b H Q I)
def OpR.imp(h:OpR X f r)(g:∀x y H Q,r' x y H Q->r x y H Q):OpR X f r':=λp s b H x y v u Q I d c q=>h p s b H x y v u Q I d c (g _ _ _ _ q)
def OpR.or(h:OpR X f r)(h':OpR X f j):OpR X f (λx y H Q=>r x y H Q\/j x y H Q):=λp s b H x y v u Q I d c q=>
 q.elim (h p s b H x y v u Q I d c) (h' p s b H x y v u Q I d c)
def aV.imp(h:aV X f r)(g:∀x H Q,r' x H Q->r x H Q):aV X f r':=λp s c H b u Q I d q=>h p s c H b u Q I d (g _ _ _ q)
def aV.or(h:aV X f r)(h':aV X f j):aV X f (λx H Q=>r x H Q\/j x H Q):=λp s c H b u Q I d q=>
 q.elim (h p s c H b u Q I d) (h' p s c H b u Q I d)
def Aft.refl(R:Rel K m S H):Aft K m H S m H:=⟨Ext.refl m H,R⟩
def Aft.trans(x:Aft K m H S1 m1 H1)(y:Aft K m1 H1 S2 m2 H2):Aft K m H S2 m2 H2:=⟨x.ext.trans y.ext,y.rel⟩
abbrev rS(K:VY)(f:D->D->Sto->Option (D × Sto)):R2:=λv w H Q=>∃m S a b d c,Rel K m S H/\VD K m H a v/\VD K m H b w/\f a b S=aw (d,c)/\∀j h u,Aft K m H c j h->VD K j h d u->Q u h
abbrev rS1(K:VY)(f:D->Sto->Option (D × Sto)):V->Hp->VK->Prop:=λv H Q=>∃m S a d b,Rel K m S H/\VD K m H a v/\f a S=aw (d,b)/\∀c h u,Aft K m H b c h->VD K c h d u->Q u h
abbrev rSA(K:VY)(f:List D->Sto->Option (D × Sto)):List V->Hp->VK->Prop:=λv H Q=>∃m S j d b,Rel K m S H/\VDs K m H j v/\f j S=aw (d,b)/\∀c h u,Aft K m H b c h->VD K c h d u->Q u h
abbrev rSq(K:VY)(f:Bool->List D->Sto->Option (D × Sto)):V->Hp->VK->Prop:=λv H Q=>∃m S T j a c d b,Rel K m S H/\v = .ref a/\SqB K T H a c/\VDs K m H j c/\f T j S=aw (d,b)/\∀k h u,Aft K m H b k h->VD K k h d u->Q u h
abbrev uc(f:D->D->Sto->Option (D × Sto))(x y:XE):XE:=λc S=>bnd (x c S) λa S1=>bnd (y c S1) λb S2=>f a b S2
abbrev xUn(f:D->Sto->Option (D × Sto))(x:XE):XE:=λb S=>bnd (x b S) λa S1=>f a S1
abbrev ng(f:List D->Sto->Option (D × Sto))(x:XA):XE:=λb S=>bnd (x b S) λa S1=>f a S1
abbrev lW(f:Bool->List D->Sto->Option (D × Sto))(x:XA):XE:=λb S=>bnd (x b S) λd S1=>f aS d S1
abbrev ay(d:D)(S:Sto):Option (Bool × List D):=match d with
 |.tup b=>aw (aN,b)
 |.ref n=>(aR S n).map λb=>(aS,b)
 |_=>aD
abbrev ak(f:Bool->List D->Sto->Option (D × Sto))(d:D)(S:Sto):Option (D × Sto):=match ay d S with
 |some r=>f r.1 r.2 S
 |none=>aD
abbrev lX(f:Bool->List D->Sto->Option (D × Sto))(x:XE):XE:=λb S=>bnd (x b S) λd S1=>ak f d S1
def rD{f:D->D->Sto->Option (D × Sto)}{x y:XE}{k:L2.St}{H:Hp}{Q:VK}(h:tE K (uc f x y) k H Q):tOp (rS K f) (tE K x) (tE K y) k H Q:=by
 #{m,l,S,d,C,E,R,e,q}:=h;#{a,S1,I,e}:=ac e;#{b,S2,p,e}:=ac e;~{m,l,S,a,S1,E,R,I,λm1 H1 v c B=>⟨m1,l,S1,b,S2,E.mono R c.ext,c.rel,p,λm2 H2 w j J=>?_⟩};&{m2,S2,a,b,d,C,j.rel,B.mono c.rel j.ext,J,e,λn L u z vd=>q n L u ((c.trans j).trans z) vd}
def Cb{f:D->Sto->Option (D × Sto)}{x:XE}{c:L2.St}{H:Hp}{Q:VK}(h:tE K (xUn f x) c H Q):tUn (rS1 K f) (tE K x) c H Q:=by
 #{m,p,S,d,n,E,R,e,q}:=h;#{a,S1,l,e}:=ac e;&{m,p,S,a,S1,E,R,l,λm1 H1 v b k=>⟨m1,S1,a,d,n,b.rel,k,e,λy z u j vd=>q y z u (b.trans j) vd⟩}
def Cc{f:List D->Sto->Option (D × Sto)}{x:XA}{c:L2.St}{H:Hp}{Q:VK}(h:tE K (ng f x) c H Q):tCB (rSA K f) (tAr K x) c H Q:=by
 #{m,p,S,d,n,E,R,e,q}:=h;#{a,S1,l,e}:=ac e;&{m,p,S,a,S1,E,R,l,λm1 H1 v b k=>⟨m1,S1,a,d,n,b.rel,k,e,λy z u j vd=>q y z u (b.trans j) vd⟩}
def Mm{f:Bool->List D->Sto->Option (D × Sto)}{x:XA}{c:L2.St}{H:Hp}{Q:VK}(h:tE K (lW f x) c H Q):tUn (rSq K f) (jx K x) c H Q:=by
 #{m,y,S,d,p,E,R,e,q}:=h;#{j,S1,n,e}:=ac e;&{m,y,S,j,S1,E,R,n,λm1 H1 a v b l _ _ _ vd=>⟨m1,S1,aS,j,a,v,d,p,b.rel,rfl,show SqL K H1 a v from SqL.of l,vd,e,λz B u k vd=>q z B u (b.trans k) vd⟩}
abbrev z5(i:Nat):XE:=λb S=>match b[i]? with
 |some (aw d)=>aw (d,S)
 |_=>aD
abbrev xC(d:D):XE:=λ_ S=>aw (d,S)
def Mn{i:Nat}(h:tE K (z5 i) f H Q):zG i f H Q:=by
 #{m,j,S,d,k,E,R,e,q}:=h;unfold z5 at e;cases b:j[i]? with
 |none=>rw[b] at e;cases e
 |some o=>
  rw[b] at e;cases o with
  |none=>cases e
  |some l=>
   cases e;#{v,c,vd}:=E.at_ i d b;&{v,c,q m H v (Aft.refl R) vd}
def Cd(c:∀m H,VD K m H d v)(h:tE K (xC d) b H Q):tC v b H Q:=by
 #{m,f,S,k,j,E,R,e,q}:=h;cases e;&q m H v (Aft.refl R) (c m H)
def kh:VD K m H .non .non:=by rw[VD]
def cp:VD K m H (.bl b) (.bl b):=by rw[VD]
def bg{i:Int}:VD K m H (.int i) (.int i):=by rw[VD]
def nh:VD K m H (.str x) (.str x):=by rw[VD]
def iS(h:H a=aw (.tup v))(q:VDs K m H d v):VD K m H (.tup d) (.ref a):=by rw[VD];&{a,v,rfl,h,q}
def VD.ints{i:Int}(h:VD K m H (.int i) v):v = .int i:=by rw[VD] at h;&h
def VD.bls(h:VD K m H (.bl i) v):v = .bl i:=by rw[VD] at h;&h
def VD.strs(h:VD K m H (.str i) v):v = .str i:=by rw[VD] at h;&h
def VD.nons(h:VD K m H .non v):v = .non:=by rw[VD] at h;&h
def VD.tups(h:VD K m H (.tup d) v):∃a vs,v = .ref a/\H a=aw (.tup vs)/\VDs K m H d vs:=by rw[VD] at h;&h
def VD.refs{n:Nat}(h:VD K m H (.ref n) v):∃a,m[n]?=aw a/\v = .ref a:=by rw[VD] at h;&h
abbrev z6:XA:=λ_ S=>aw ([],S)
abbrev yn(x:XE)(y:XA):XA:=λb S=>bnd (x b S) λa S1=>bnd (y b S1) λc S2=>aw (a::c,S2)
def Mo(h:tAr K z6 b H Q):jl b H Q:=by
 #{m,c,S,f,d,E,R,e,q}:=h;cases e;&q m H [] (Aft.refl R) .nil
def Gh{x:XE}{y:XA}{d:L2.St}{H:Hp}{Q:List V->Hp->Prop}(h:tAr K (yn x y) d H Q):cf (tE K x) (tAr K y) d H Q:=by
 #{m,f,S,z,u,E,R,e,q}:=h;#{a,S1,n,e}:=ac e;#{b,S2,p,e}:=ac e;cases e;~{m,f,S,a,S1,E,R,n,λm1 H1 v c l=>⟨m1,f,S1,b,_,E.mono R c.ext,c.rel,p,λm2 H2 w j k=>?_⟩};&q m2 H2 _ (c.trans j) (.cons (l.mono c.rel j.ext) k)
abbrev ni(d:List D)(S:Sto):Option (D × Sto):=if d.length<=1000 then aw (.tup d,S) else aD
def nj{n:Nat}(h:n<=1000):n<=sizeLine:=by rw[ZaO];lia
def jy{d:List D}{v:List V}{Q:VK}(R:Rel K m S H)(vd:VDs K m H d v)(q:∀c h u,Aft K m H S c h->VD K c h (.tup d) u->Q u h):∀p,H p=aD->Q (.ref p) (upd H p (.tup v)):=λp b=>
 q m _ _ ⟨Ext.beside R b _,R.beside b _⟩ (iS az (vd.mono R (Ext.beside R b _)))
def rE{d:List D}{v:List V}{Q:VK}(R:Rel K m S H)(vd:VDs K m H d v)(q:∀c b u,Aft K m H (S++[.lst d]) c b->VD K c b (.ref S.length) u->Q u b):∀p,H p=aD->Q (.ref p) (upd H p (.lst v)):=λp h=>by
 !x:=Ext.beside R h (.lst v);~q (m++[p]) _ _ ⟨x.adopt h,(R.beside h _).adopt (R.no h) az (vd.mono R x)⟩ ?_;rw[VD];&{p,by rw[Zp (by rw[R.len];&Zf _),R.len,ZY];rfl,rfl}
def rF{f:List D}{v:List V}{Q:VK}(R:Rel K m S H)(vd:VDs K m H f v)(q:∀d c a v,Aft K m H S d c->c a=aw (.lst v)->a ∉ d->(∀b,b ∈ m->b ≠ a)->H a=aD->VDs K d c f v->Q (.ref a) c):∀p,H p=aD->Q (.ref p) (upd H p (.lst v)):=λp h=>
 q m _ _ _ ⟨Ext.beside R h _,R.beside h _⟩ az (R.no h) (λb hb z=>R.no h (z ▸ hb)) h (vd.mono R (Ext.beside R h _))
def Mp{x:XA}{c:L2.St}{H:Hp}{Q:VK}(h:tE K (ng ni x) c H Q):LZ (tAr K x) c H Q:=by
 #{m,j,S,B,z,E,R,e,q}:=h;#{a,S1,f,e}:=ac e;unfold ni at e;split at e
 ·rename_i l;cases e;&{m,j,S,a,_,E,R,f,λm1 H1 y b v=>⟨nj (by rw[<-v.length];&l),jy b.rel v λn d u k p=>q n d u (b.trans k) p⟩}
 ·cases e
abbrev qo(x:XA):XA:=λb S=>bnd (x b S) λd S1=>if d.length<=1000 then aw (d,S1) else aD
def Gi{x:XA}{d:L2.St}{H:Hp}{Q:VK}(h:jx K (qo x) d H Q):Rq (tAr K x) d H Q:=by
 #{m,p,S,Y,O,E,R,e,q}:=h;#{a,S1,C,e}:=ac e;split at e
 ·rename_i z;cases e;~{m,p,S,_,_,E,R,C,λm1 H1 T c v=>⟨nj (by rw[<-v.length];&z),rF c.rel v λI J u U y L B n f l=>?_⟩}
  !k:H u=aD:=by
   cases e:H u with
   |none=>rfl
   |some o=>
    by_cases j:u ∈ m
    ·&absurd rfl (n u (c.ext.pre.subset j))
    ·!:=c.ext.keep u o e j;rw[this] at f;cases f
  &q I J u U (c.trans y) L B (λb hb=>n b (c.ext.pre.subset hb)) k l
 ·cases e
def gm{d:D}{v:V}{tu:Bool}{ds:List D}(R:Rel K m S H)(vd:VD K m H d v)(e:ay d S=aw (tu,ds)):∃a vs,v = .ref a/\SqB K tu H a vs/\VDs K m H ds vs:=by
 unfold ay at e;cases d with
 |tup E=>
  cases e;#{a,vs,e,q,r}:=vd.tups;&{a,vs,e,q,r}
 |ref n=>
  #{a,h,c}:=vd.refs;cases hs:aR S n with
  |none=>simp[hs] at e
  |some E=>
   simp[hs] at e;#{rfl,rfl}:=e;#{b,vs,hb,q,r}:=R.seq hs;rw[h] at hb;cases hb;&{a,vs,c,q,r}
 |_=>cases e
def Mq{f:Bool->List D->Sto->Option (D × Sto)}{x:XE}{j:L2.St}{H:Hp}{Q:VK}(h:tE K (lX f x) j H Q):tUn (rSq K f) (tE K x) j H Q:=by
 #{m,y,S,d,p,E,R,e,q}:=h;#{a,S1,z,e}:=ac e;~{m,y,S,a,S1,E,R,z,λm1 H1 v c n=>?_};unfold ak at e;split at e
 ·rename_i r hi;#{b,B,C,I,vds}:=gm (tu:=r.1) (ds:=r.2) c.rel n hi;&{m1,S1,r.1,r.2,b,B,d,p,c.rel,C,I,vds,e,λk J u l vd=>q k J u (c.trans l) vd}
 ·cases e
abbrev fF(x:XA):XE:=λb S=>bnd (x b S) λd S1=>aw (.ref S1.length,S1++[.lst d])
def ud{x:XA}{f:L2.St}{H:Hp}{Q:VK}(h:tE K (fF x) f H Q):jx K x f H Q:=by
 #{m,l,S,d,y,E,R,e,q}:=h;#{u,S1,k,e}:=ac e;cases e;~{m,l,S,u,S1,E,R,k,λm1 H1 a v c j n B p vd=>?_};~q (m1++[a]) H1 _ ⟨⟨c.ext.pre.trans (YA _ _),c.ext.keep,λb hb nb=>?_⟩,c.rel.adopt n j vd⟩ ?_
 ·rcases ZR.mp hb with z |z
  ·&c.ext.new b z nb
  ·simp at z;subst z;&p
 ·rw[VD];&{a,by rw[Zp (by rw[c.rel.len];&Zf _),c.rel.len,ZY];rfl,rfl}
end
abbrev eqL(f:D->D->Option Bool):List D->List D->Option Bool
 |[],[]=>aw aN
 |x::xs,y::ys=>match f x y,eqL f xs ys with
  |some a,aw b=>aw (a && b)
  |_,_=>aD
 |_,_=>aw aS
abbrev eqB:D->D->Option Bool
 |.non,.non=>aw aN
 |.bl a,.bl b=>aw (a == b)
 |.int a,.int b=>aw (a == b)
 |.str a,.str b=>aw (a == b)
 |.bl a,.int b=>aw ((if a then 1 else 0) == b)
 |.int a,.bl b=>aw (a == (if b then 1 else 0))
 |_,_=>aD
abbrev eqD(_:Nat)(S:Sto)(x y:D):Option Bool:=match x,y with
 |.tup xs,.tup ys=>eqL eqB xs ys
 |.ref a,.ref b=>match aR S a,aR S b with
  |some xs,aw ys=>if a=b then aw aN else if xs.length=ys.length then eqL eqB xs ys else aw aS
  |_,_=>aD
 |x,y=>eqB x y
section
variable {X:Cx} {K:VY} {m:List Addr} {H:Hp} {S:Sto}
def ue{f:D->D->Option Bool}:∀ {xs Y:List D} {b:Bool},eqL f xs Y=aw b->∃g:Nat->Bool,(∀j x y,xs[j]?=aw x->Y[j]?=aw y->f x y=aw (g j))/\b=((Zi (min xs.length Y.length)).all g && (xs.length == Y.length))
 |[],[],b,h=>by simp[eqL] at h;&{λ_=>aN,λj x y e=>by simp at e,by simp[<-h]}
 |[],_::_,b,h=>by simp[eqL] at h;&{λ_=>aN,λj x y e=>by simp at e,by simp[<-h]}
 |_::_,[],b,h=>by simp[eqL] at h;&{λ_=>aN,λj x y _ e=>by simp at e,by simp[<-h]}
 |x::xs,y::Y,b,h=>by
  rw[eqL] at h;split at h
  ·rename_i a c n p;cases h;#{g,l,u}:=ue p;~{λj=>match j with |0=>a |j+1=>g j,λj q k E d=>?_,?_}
   ·cases j with
    |zero=>cases E;cases d;&n
    |succ j=>&l j q k E d
   ·rw[u];simp only[Zo,Nat.succ_min_succ,List.range_succ_eq_map,Yt,Xg];rw[Bool.and_assoc,show(xs.length+1 == Y.length+1)=(xs.length == Y.length) by simp];rfl
  ·cases h
def yo{b:List V}{its:List Value}{xs:List D}(p:VDs K m H xs b)(r:aJ b its){j:Nat}(f:j < its.toArray.size):∃x v,xs[j]?=aw x/\VD K m H x v/\aE v its.toArray[j]:=by
 !h:j < its.length:=by simpa using f
 !l1:=p.length;!L:=r.length;#{v,k,vd}:=p.get (i:=j) (d:=xs[j]'(by lia)) (gEG _);#{u,c,l}:=r.get k;rw[gEG h] at c;cases c;&{_,v,gEG (by lia),vd,l}
def Ce{A:Around}{s:Shared}{x y:D}{v w:V}{u U:Value}{b:Bool}(c:VD K m H x v)(d:VD K m H y w)(r1:aE v u)(r2:aE w U)(h:eqB x y=aw b):VT A s u U b/\SeqAt.RcAt A s u U b/\VU A s u U (!b):=by
 unfold eqB at h;split at h
 ·cases h;cases c.nons;cases d.nons;cases r1;cases r2;&{.same _,.none_none,.none_none}
 ·cases h;cases c.bls;cases d.bls;cases r1;cases r2;&{.bool_bool _ _,.bool_bool _ _,.bool_bool _ _}
 ·cases h;cases c.ints;cases d.ints;#{t,rfl}:=r1;#{T,rfl}:=r2;&{.int_int _ _ _ _,.int_int _ _ _ _,.int_int _ _ _ _}
 ·cases h;cases c.strs;cases d.strs;#{t,rfl}:=r1;#{T,rfl}:=r2;&{.str_str _ _ _ _,.str_str _ _ _ _,.str_str _ _ _ _}
 ·cases h;cases c.bls;cases d.ints;cases r1;#{T,rfl}:=r2;&{.bool_int _ _ _,.bool_int _ _ _,.bool_int _ _ _}
 ·cases h;cases c.ints;cases d.bls;#{t,rfl}:=r1;cases r2;&{.int_bool _ _ _,.int_bool _ _ _,.int_bool _ _ _}
 ·cases h
def uf{s:Shared}{A:Around}{xs Y:List D}{l n:List V}{c I:List Value}{b:Bool}(p:VDs K m H xs l)(q:VDs K m H Y n)(r1:aJ l c)(r2:aJ n I)(h:eqL eqB xs Y=aw b):∃g:Nat->Bool,(∀j (u:j < c.toArray.size) (k:j < I.toArray.size),VT A.in1 s c.toArray[j] I.toArray[j] (g j))/\b=((Zi (min c.toArray.size I.toArray.size)).all g && (c.toArray.size == I.toArray.size)):=by
 #{g,C,hb}:=ue h;~{g,λj u k=>?_,by rw[hb,Zk,Zk,<-r1.length,<-p.length,<-r2.length,<-q.length]};#{x,v,z,J,d}:=yo p r1 u;#{y,w,E,B,f}:=yo q r2 k;&(Ce J B d f (C j x y z E)).1
def RE{A:Around}{O:List (Addr × Obj)}{σ:L2.St}{s:Shared}{x y:D}{v w:V}{u u':Value}{b:Bool}(I:Inv X O σ H s)(R:Rel X.K m S H)(n:Nat)(U:VD X.K m H x v)(J:VD X.K m H y w)(r1:aE v u)(r2:aE w u')(h:eqD n S x y=aw b)(f:A.units < cLine) :
  SeqAt.RcAt A s u u' b/\VU A s u u' (!b):=by
 unfold eqD at h;split at h
 ·#{a,vs,rfl,sq,p}:=U.tups;#{a',ws,rfl,B,q}:=J.tups;cases r1;cases r2;#{E,Z,T,_}:=I.tuple (.of sq);#{Y,k2,C,_}:=I.tuple (.of B);#{g,L,rfl}:=uf (s:=s) (A:=A) p q Z k2 h;&{SeqAt.RcAt.tuples T C f L,PySem.SeqAt.RcNeAt.tuples T C f L}
 ·rename_i k k';#{c,hc,rfl}:=U.refs;#{c',Q,rfl}:=J.refs;cases r1;cases r2;split at h
  ·rename_i es es' hs hs';#{b1,vs,hb,sq,p}:=R.seq hs;rw[hb] at hc;cases hc;#{b2,ws,l,B,q}:=R.seq hs';rw[l] at Q;cases Q;#{E,Z,T,_}:=I.list sq;#{Y,k2,C,_}:=I.list B;split at h
   ·rename_i hk;subst hk;rw[hb] at l;cases l;cases h;!z:=SeqAt.RcAt.lists (A:=A) (e:=λ_=>aN) T.isList T.isList rfl f λj U J=>SeqAt.EqAt.same _;!z':=PySem.SeqAt.RcNeAt.lists (A:=A) (e:=λ_=>aN) T.isList T.isList rfl f λj U J=>SeqAt.EqAt.same _;rw[show(Zi E.toArray.size).all (λ_=>aN)=aN by simp] at z z';&{z,z'}
   ·!l1:E.toArray.size=es.length:=by rw[Zk,<-Z.length,<-p.length]
    !l2:Y.toArray.size=es'.length:=by rw[Zk,<-k2.length,<-q.length]
    split at h
    ·rename_i hl;#{g,L,rfl}:=uf (s:=s) (A:=A) p q Z k2 h;!d:E.toArray.size=Y.toArray.size:=by rw[l1,l2,hl]
     rw[<-d,XV,beq_self_eq_true,WN];&{SeqAt.RcAt.lists T.isList C.isList d f L,PySem.SeqAt.RcNeAt.lists T.isList C.isList d f L}
    ·rename_i hl;cases h;!d:(E.toArray.size != Y.toArray.size)=aN:=by rw[l1,l2];simpa using hl
     &{SeqAt.RcAt.lists_lengths T.isList C.isList d f,PySem.SeqAt.RcNeAt.lists_lengths T.isList C.isList d f}
  ·cases h
 ·&(Ce U J r1 r2 h).2
abbrev eqS(x y:D)(S:Sto):Option (D × Sto):=(eqD 60 S x y).map λb=>(.bl b,S)
abbrev neS(x y:D)(S:Sto):Option (D × Sto):=(eqD 60 S x y).map λb=>(.bl (!b),S)
def pX{x y:D}{b:Bool}(h:eqD 60 S x y=aw b):neS x y S=aw (.bl (!b),S):=by unfold neS;rw[h];rfl
def Mr(C:X.A.units+64 < cLine):OpR X (Zak .Eq) (rS X.K eqS):=by
 intro p s B H x y v u Q I j n h;#{m,S,a,b,d,z,R,f,l,e,q}:=h;#{c,k,e}:=ZE.mp e;cases e;&(RE I R 60 f l j n k (by lia)).1 _ _ _ _ ⟨.bl c,H,I,rfl,q m H _ (Aft.refl R) cp⟩
def Ms(C:X.A.units+64 < cLine):OpR X (Zak .NotEq) (rS X.K neS):=by
 intro p s B H x y v u Q I j n h;#{m,S,a,b,d,z,R,f,l,e,q}:=h;#{c,k,e}:=ZE.mp e;cases e;&(RE I R 60 f l j n k (by lia)).2 _ _ _ _ ⟨.bl (!c),H,I,rfl,q m H _ (Aft.refl R) cp⟩
end
abbrev fh:List D->Option (List Key)
 |[]=>aw []
 |.int i::ds=>(fh ds).map (.inl i::·)
 |.str x::ds=>(fh ds).map (.inr x::·)
 |_=>aD
abbrev z7:D->Option NK
 |.non=>aw .non
 |.int i=>aw (.one (.inl i))
 |.str x=>aw (.one (.inr x))
 |.tup ds=>(fh ds).map .tup
 |_=>aD
abbrev kU:List D->Option (List NK)
 |[]=>aw []
 |d::ds=>match z7 d,kU ds with
  |some k,aw ks=>aw (k::ks)
  |_,_=>aD
abbrev lY:D->Option (List NK)
 |.tup ds=>kU ds
 |_=>aD
abbrev atD:List (List NK)->List D->List NK->Option D
 |a::kss,d::ds,k=>if a=k then aw d else atD kss ds k
 |_,_,_=>aD
abbrev gr(k:List NK)(v:D):List (List NK)->List D->List D
 |a::kss,d::ds=>(if a=k then v else d)::gr k v kss ds
 |_,_=>[]
section
variable {K:VY} {m:List Addr} {H:Hp} {S:Sto}
def nk:∀ {d:List D} {ks:List Key} {b:List V},fh d=aw ks->VDs K m H d b->b=ks.map kV
 |[],_,_,e,h=>by cases e;rw[VDs] at h;&h
 |.int i::d,ks,b,e,h=>by
  simp only[fh] at e;#{k,E,rfl}:=ZE.mp e;rw[VDs] at h;#{v,r,rfl,c,f}:=h;rw[c.ints,nk E f];rfl
 |.str x::d,ks,b,e,h=>by
  simp only[fh] at e;#{k,E,rfl}:=ZE.mp e;rw[VDs] at h;#{v,r,rfl,c,f}:=h;rw[c.strs,nk E f];rfl
 |.non::_,_,_,e,_=>by simp[fh] at e
 |.bl _::_,_,_,e,_=>by simp[fh] at e
 |.tup _::_,_,_,e,_=>by simp[fh] at e
 |.ref _::_,_,_,e,_=>by simp[fh] at e
def Gj{d:D}{k:NK}{v:V}(e:z7 d=aw k)(h:VD K m H d v):vZ H k v:=by
 cases d with
 |non=>cases e;&h.nons
 |int i=>cases e;&h.ints
 |str x=>cases e;&h.strs
 |tup f=>
  simp only[z7] at e;#{ks,E,rfl}:=ZE.mp e;#{a,c,rfl,b,q}:=h.tups;&{a,rfl,by rw[<-nk E q];&b}
 |_=>cases e
def ug:∀ {c:List D} {ks:List NK} {b:List V},kU c=aw ks->VDs K m H c b->Paired (vZ H) ks b
 |[],_,_,e,h=>by cases e;rw[VDs] at h;subst h;&.nil
 |d::c,ks,b,e,h=>by
  rw[VDs] at h;#{v,r,rfl,j,l}:=h;simp only[kU] at e;split at e
  ·rename_i k n E f;cases e;&.cons (Gj E j) (ug f l)
  ·cases e
def rG{d:D}{ks:List NK}{v:V}(e:lY d=aw ks)(h:VD K m H d v):∃a,v = .ref a/\iK H ks a:=by
 cases d with
 |tup f=>
  #{a,c,rfl,b,q}:=h.tups;&{a,rfl,c,b,ug e q}
 |_=>cases e
def Rel.dic(R:Rel K m S H){n:Nat}{k:List (List NK)}{d:List D}{x:V}(j:S[n]?=aw (.dic k d))(v:VD K m H (.ref n) x):∃a vs,x = .ref a/\m[n]?=aw a/\H a=aw (.dT (k.zip vs))/\k.length=d.length/\VDs K m H d vs:=by
 #{a,b,vs,f,l,c}:=R.ob n _ j;#{p,h,rfl}:=v.refs;rw[b] at h;cases h;&{a,vs,rfl,b,f,l,c}
def Rel.dicR(R:Rel K m S H){n:Nat}{k:List (List NK)}{d:List D}{x:V}(hn:S[n]?=aw (.dic k d)\/S[n]?=aw (.dfz k d))(v:VD K m H (.ref n) x):∃a vs,x = .ref a/\m[n]?=aw a/\Rd H a (.dT (k.zip vs))/\k.length=d.length/\VDs K m H d vs:=by
 rcases hn with hn |hn
 ·#{a,vs,E,l,j,q}:=R.dic hn v;&{a,vs,E,l,.inl j,q}
 ·#{a,b,o,vs,f,p,c}:=R.ob n _ hn;#{u,h,rfl}:=v.refs;rw[b] at h;cases h;&{a,vs,rfl,b,.inr ⟨o,f⟩,p.1,c}
def rH:∀ {b:List (List NK)} {c:List D} {f:List V} {k:List NK},b.length=c.length->VDs K m H c f->atD b c k=aD->j8 (b.zip f) k=aD/\k ∉ b
 |[],_,_,_,_,_,_=>⟨rfl,by simp⟩
 |a::b,d::c,f,k,hl,h,e=>by
  rw[VDs] at h;#{v,r,rfl,n,l}:=h;simp only[atD] at e;split at e
  ·cases e
  ·rename_i ne;#{j,I}:=rH (by simpa using hl) l e;~{?_,λz=>(Zn.mp z).elim (λz=>ne z.symm) I};rw[Yg,gh ne];&j
 |_::_,[],_,_,hl,_,_=>by simp at hl
def md:∀ {b:List (List NK)} {f:List D} {c:List V} {k:List NK} {d:D},VDs K m H f c->atD b f k=aw d->∃v,j8 (b.zip c) k=aw v/\VD K m H d v
 |[],_,_,_,_,_,e=>by simp[atD] at e
 |a::b,d::f,c,k,d',h,e=>by
  rw[VDs] at h;#{v,r,rfl,j,l}:=h;simp only[atD] at e;rw[Yg];split at e
  ·rename_i eq;cases e;&{v,jt eq,j}
  ·rename_i ne;rw[gh ne];&md l e
 |_::_,[],_,_,_,_,e=>by simp[atD] at e
abbrev inK(neg:Bool)(x y:D)(S:Sto):Option (D × Sto):=match lY x,y with
 | some k,.ref n=>(match S[n]? with
  |some (.dic kss ds)=>aw (.bl (neg != (atD kss ds k).isSome),S)
  | _=>aD)
 |_,_=>aD
def uh{neg:Bool}{x y d:D}{f:Sto}(e:inK neg x y S=aw (d,f)):∃k n b c,lY x=aw k/\y = .ref n/\S[n]?=aw (.dic b c)/\d = .bl (neg != (atD b c k).isSome)/\f=S:=by
 unfold inK at e;split at e
 ·rename_i k n h;split at e
  ·rename_i b c j;cases e;&{k,n,b,c,h,rfl,j,rfl,rfl}
  ·cases e
 ·cases e
def rJ(R:Rel K m S H){n:Nat}{c:List (List NK)}{f:List D}{x y:D}{k:List NK}{u v:V}(p:lY x=aw k)(z:S[n]?=aw (.dic c f)\/S[n]?=aw (.dfz c f))(I:VD K m H x u)(B:VD K m H (.ref n) v):∃a b,v = .ref a/\u = .ref b/\∃o,B0 H a (.ref b) o/\o.isSome=(atD c f k).isSome/\∀d,atD c f k=aw d->∃w,o=aw w/\VD K m H d w:=by
 #{b,rfl,j}:=rG p I;#{a,l,rfl,_,q,C,vds}:=R.dicR z B;~{a,b,rfl,rfl,j8 (c.zip l) k,.inr ⟨_,k,b,q,rfl,j,rfl⟩,?_,λd e=>?_}
 ·cases e:atD c f k with
  |none=>rw[(rH C vds e).1];rfl
  |some d=>#{w,E,_}:=md vds e;rw[E];rfl
 ·#{w,E,h}:=md vds e;&{w,E,h}
abbrev ixK(d y:D)(S:Sto):Option (D × Sto):=match lY y,d with
 | some k,.ref n=>(match S[n]? with
  |some (.dic kss ds)=>(atD kss ds k).map λv=>(v,S)
  |some (.dfz kss ds)=>(atD kss ds k).map λv=>(v,S)
  | _=>aD)
 |_,_=>aD
def Cf{x y d:D}{j:Sto}(e:ixK x y S=aw (d,j)):∃k n b c,lY y=aw k/\x = .ref n/\(S[n]?=aw (.dic b c)\/S[n]?=aw (.dfz b c))/\atD b c k=aw d/\j=S:=by
 unfold ixK at e;split at e
 ·rename_i k n l;split at e
  ·rename_i b c h;#{v,E,f}:=ZE.mp e;cases f;&{k,n,b,c,l,rfl,.inl h,E,rfl}
  ·rename_i b c h;#{v,E,f}:=ZE.mp e;cases f;&{k,n,b,c,l,rfl,.inr h,E,rfl}
  ·cases e
 ·cases e
abbrev Cg(o y v:D)(S:Sto):Option Sto:=match lY y,o with
 | some k,.ref n=>(match S[n]? with
  |some (.dic kss ds)=>if kss.length < 100000 then aw (if (atD kss ds k).isSome=aN then S.set n (.dic kss (gr k v kss ds)) else S.set n (.dic (kss++[k]) (ds++[v]))) else aD
  | _=>aD)
 |_,_=>aD
def z8{o y v:D}{c:Sto}(e:Cg o y v S=aw c):∃k n b d,lY y=aw k/\o = .ref n/\S[n]?=aw (.dic b d)/\b.length < 100000/\c=if (atD b d k).isSome=aN then S.set n (.dic b (gr k v b d)) else S.set n (.dic (b++[k]) (d++[v])):=by
 unfold Cg at e;split at e
 ·rename_i k n h;split at e
  ·rename_i b d f;split at e
   ·rename_i j;&{k,n,b,d,h,rfl,f,j,(Option.some.inj e).symm}
   ·cases e
  ·cases e
 ·cases e
def Ch{k:List NK}{v:D}{w:V}(n:VD K m H v w):∀ {b:List (List NK)} {j:List D} {f:List V},b.length=j.length->VDs K m H j f->∃c,(b.zip f).map (λl=>if l.1=k then (l.1,w) else l)=b.zip c/\VDs K m H (gr k v b j) c
 |[],[],f,_,h=>⟨[],by simp,by simp only[gr];rw[VDs]⟩
 |[],_::_,_,hl,_=>by simp at hl
 |_::_,[],_,hl,_=>by simp at hl
 |a::b,d::j,f,hl,h=>by
  rw[VDs] at h;#{u,r,rfl,q,y}:=h;#{c,p,E}:=Ch n (by simpa using hl) y;rw[Yg,Zy,p];simp only[gr];by_cases e:a=k
  ·rw[if_pos e,if_pos e];&{w::c,by rw[Yg],.cons n E}
  ·rw[if_neg e,if_neg e];&{u::c,by rw[Yg],.cons q E}
def rK{k:List NK}{v:D}:∀ {b:List (List NK)} {c:List D},b.length=c.length->b.length=(gr k v b c).length
 |[],[],_=>rfl
 |[],_::_,hl=>by simp at hl
 |_::_,[],hl=>by simp at hl
 |a::b,d::c,hl=>by simp only[gr,Zo];rw[rK (by simpa using hl)]
def Rel.writeD(R:Rel K m S H){i:Nat}{a:Addr}{k:List (List NK)}{d:List D}{v:List V}(hi:m[i]?=aw a)(L:k.length=d.length)(q:VDs K m H d v):Aft K m H (S.set i (.dic k d)) m (upd H a (.dT (k.zip v))):=by
 !B:a ∈ m:=Zd hi;!x:Ext m H m (upd H a (.dT (k.zip v))):=⟨Yp m,λb u e n=>by rw[ae (show b ≠ a fromλz=>n (by rw[z];&B))];&e,λb z n=>absurd z n⟩;~{x,by simp[R.len],R.nd,λj o e=>?_};rw[YC] at e;by_cases h:i=j
 ·subst h;rw[if_pos rfl] at e;split at e
  ·!Q:=Option.some.inj e;subst Q;&{a,hi,v,az,L,VDs.mono R x q}
  ·cases e
 ·rw[if_neg h] at e;#{b,hb,r}:=R.ob j o e
  !ne:b ≠ a:=λz=>by
   subst z;!X:=Zb.mp hi;!O:=Zb.mp hb;&h ((Y1 R.nd).mp (X.2.trans O.2.symm))
  ~{b,hb,?_};cases o with
  |lst E=>#{c,p,q}:=r;&{c,by rw[ae ne];&p,VDs.mono R x q}
  |frz E=>#{o,c,p,q}:=r;&{o,c,by rw[ae ne];&p,VDs.mono R x q}
  |dic ks E=>#{c,p,l,q}:=r;&{c,by rw[ae ne];&p,l,VDs.mono R x q}
  |tbl T p q=>
   #{e,ps,z}:=r;~{e,ps,by rw[ae ne];&z.at_,z.tr,λI J=>?_};#{C,U,f}:=z.cd I J;&{C,U,by rw[ae (show C ≠ a fromλy=>R.notCd f (y.symm ▸ B))];&f}
  |dfz ks E=>#{o,c,p,l,q}:=r;&{o,c,by rw[ae ne];&p,l,VDs.mono R x q}
def Gk(R:Rel K m S H){n:Nat}{f:List (List NK)}{h:List D}{y v:D}{k:List NK}{u o w:V}(J:lY y=aw k)(C:S[n]?=aw (.dic f h))(Y:f.length < 100000)(E:VD K m H y u)(Q:VD K m H (.ref n) o)(z:VD K m H v w) :
  ∃a b H',o = .ref a/\u = .ref b/\RC H a (.ref b) w H'/\Aft K m H (if (atD f h k).isSome=aN then S.set n (.dic f (gr k v f h)) else S.set n (.dic (f++[k]) (h++[v]))) m H':=by
 #{b,rfl,B}:=rG J E;#{a,l,rfl,q,U,j,vds}:=R.dic C Q;!p:f.length=l.length:=by rw[j,vds.length]
 !L:(f.zip l).length < sizeLine:=by rw[Xx,ZaO];lia
 ~{a,b,_,rfl,rfl,.inr ⟨_,k,b,U,rfl,B,L,rfl⟩,?_}
 !any:((f.zip l).any λX=>decide (X.1=k))=(atD f h k).isSome:=by
  rw[mZ];cases e:atD f h k with
  |none=>rw[(rH j vds e).1];rfl
  |some d=>#{w,O,_}:=md vds e;rw[O];rfl
 unfold mY;rw[any];by_cases c:(atD f h k).isSome=aN
 ·rw[if_pos c,if_pos c];#{Z,T,I}:=Ch z j vds;rw[T];&R.writeD q (rK j) I
 ·rw[if_neg c,if_neg c];!e:f.zip l++[(k,w)]=(f++[k]).zip (l++[w]):=by rw[List.zip_append p];rfl
  rw[e];&R.writeD q (by rw[Ze,Ze,j];rfl) (vds.append (.cons z .nil))
end
abbrev Mu(a b:Nat)(S:Sto):Option (D × Sto):=match S[a]? with
 | some (.lst xs)=>(match S[b]? with
  |some (.lst ys)=>if xs.length+ys.length<=100000 then aw (.ref S.length,S++[.lst (xs++ys)]) else aD
  | _=>aD)
 |_=>aD
abbrev lZ:D->D->Sto->Option (D × Sto)
 |.int i,.int j,S=>aw (.int (i+j),S)
 |.tup xs,.tup ys,S=>if xs.length+ys.length<=1000 then aw (.tup (xs++ys),S) else aD
 |.ref a,.ref b,S=>Mu a b S
 |.str x,.str y,S=>if x.length+y.length<=100000 then aw (.str (x++y),S) else aD
 |_,_,_=>aD
abbrev RF:D->D->Sto->Option (D × Sto)
 |.int i,.int j,S=>aw (.int (i - j),S)
 |_,_,_=>aD
abbrev ir(i j:Int):Bool:=(decide (-(2 ^ 64) < i) && decide (i < 2 ^ 64)) || (decide (-(2 ^ 64) < j) && decide (j < 2 ^ 64))
abbrev z9:D->D->Sto->Option (D × Sto)
 |.int i,.int j,S=>if ir i j=aN then aw (.int (i * j),S) else aD
 |_,_,_=>aD
abbrev Mv:D->D->Sto->Option (D × Sto)
 |.int i,.int j,S=>if 0 < j then aw (.int (i % j),S) else aD
 |_,_,_=>aD
abbrev Ci:D->D->Sto->Option (D × Sto)
 |.int i,.int j,S=>if 0 < j/\j < 1298074214633706907132624082305024 then aw (.int (i / j),S) else aD
 |_,_,_=>aD
abbrev Mw:D->D->Sto->Option (D × Sto)
 |.int i,.int j,S=>if 0<=j/\j<=1000000/\i.natAbs < 2 ^ 64 then aw (.int (i ^ j.toNat),S) else aD
 |_,_,_=>aD
inductive BOp where |add |sub |mul |mod |fdiv |pow
abbrev bX:BOp->D->D->Sto->Option (D × Sto)
 |.add=>lZ |.sub=>RF |.mul=>z9 |.mod=>Mv |.fdiv=>Ci |.pow=>Mw
abbrev BOp.op:BOp->VN
 |.add=>.Add |.sub=>.Sub |.mul=>.Mult |.mod=>.Mod |.fdiv=>.FloorDiv |.pow=>.Pow
section
variable {X:Cx} {K:VY} {m:List Addr} {H:Hp} {S:Sto}
def hX{op:VN}{f:D->D->Sto->Option (D × Sto)}{C:Int->Int->Prop}{g:Int->Int->Int}(n:OpR X (No op) (rI C λi j=>.int (g i j)))
  (p:∀a b S d k,f a b S=aw (d,k)->∃i j,a = .int i/\b = .int j/\C i j/\d = .int (g i j)/\k=S):OpR X (No op) (rS X.K f):=by
 ~OpR.imp n λx y H Q h=>?_;#{m,S,a,b,d,k,R,l,v,e,q}:=h;#{i,j,rfl,rfl,c,rfl,rfl}:=p _ _ _ _ _ e;&{i,j,l.ints,v.ints,c,q m H _ (Aft.refl R) bg}
def wy:OpR X (No .Add) (λx y H Q=>∃m S xs Y,Rel X.K m S H/\VD X.K m H (.tup xs) x/\VD X.K m H (.tup Y) y/\xs.length+Y.length<=1000/\∀j c u,Aft X.K m H S j c->VD X.K j c (.tup (xs++Y)) u->Q u c):=by
 ~OpR.imp F9 λx y H Q h=>?_;#{m,S,xs,Y,R,v,k,B,q}:=h;#{a,n,rfl,sa,f}:=v.tups;#{b,p,rfl,z,d}:=k.tups;!l1:=f.length;!l:=d.length;~{a,b,n,p,rfl,rfl,.of sa,.of z,nj (by lia),λe=>?_,λ_ e=>?_,λ_ _=>jy R (f.append d) q}
 ·subst e;!e:xs=[]:=Z1.mp (by simpa using l1);subst e;&q m H _ (Aft.refl R) k
 ·subst e;!e:Y=[]:=Z1.mp (by simpa using l);subst e;rw[Z8] at q;&q m H _ (Aft.refl R) v
def Gm:OpR X (No .Add) (rS X.K lZ):=by
 ~OpR.imp (OpR.or LR (OpR.or wy (OpR.or wb Ma))) λx y H Q h=>?_;#{m,S,a,b,d,S',R,v,l,e,q}:=h;cases a with
 |int i=>
  cases b with
  |int j=>cases e;&.inl ⟨i,j,v.ints,l.ints,q m H _ (Aft.refl R) bg⟩
  |_=>simp[lZ] at e
 |tup z=>
  cases b with
  |tup Y=>
   simp only[lZ] at e;split at e
   ·rename_i n;cases e;&.inr (.inl ⟨m,S,z,Y,R,v,l,n,q⟩)
   ·cases e
  |_=>simp[lZ] at e
 |str i=>
  cases b with
  |str j=>
   simp only[lZ] at e;split at e
   ·rename_i n;cases e;&.inr (.inr (.inl ⟨i,j,v.strs,l.strs,by rw[ZaO];lia,q m H _ (Aft.refl R) nh⟩))
   ·cases e
  |_=>simp[lZ] at e
 |ref i=>
  cases b with
  |ref j=>
   simp only[lZ,Mu] at e;split at e
   ·rename_i z L;split at e
    ·rename_i Y I;split at e
     ·rename_i n;cases e;#{a,O,B,U,p}:=R.lst L;#{c,T,C,Z,u}:=R.lst I;#{a',f,J}:=v.refs;#{c',k,E}:=l.refs;rw[B] at f;cases f;rw[C] at k;cases k;&.inr (.inr (.inr ⟨a,c,O,T,J,E,U,Z,by rw[ZaO,<-p.length,<-u.length];lia,rE R (p.append u) q⟩))
     ·cases e
    ·cases e
   ·cases e
  |_=>simp[lZ] at e
 |_=>cases b <;> simp[lZ] at e
def Gn:OpR X (No .Mult) (rS X.K z9):=by
 ~OpR.imp LU λx y H Q h=>?_;#{m,S,a,b,d,k,R,f,v,e,q}:=h;cases a with
 |int i=>
  cases b with
  |int j=>
   simp only[z9] at e;split at e
   ·rename_i c;cases e;simp only[ir,Xb,bAE,decide_eq_true_eq] at c;&{i,j,f.ints,v.ints,c,q m H _ (Aft.refl R) bg}
   ·cases e
  |_=>simp[z9] at e
 |_=>cases b <;> simp[z9] at e
def Cj:OpR X (No .FloorDiv) (rI (λ_ j=>0 < j/\j < 1298074214633706907132624082305024) λi j=>.int (i / j)):=opI λi j _ _ _ _ _ h q=>by
 !c:(0:Int) < j:=h.1;!d:j < 1298074214633706907132624082305024:=h.2
 &floordiv_int (by lia) (by rw[Int.fdiv_eq_ediv_of_nonneg i (by lia)];&q) (.inl (PyProof.noPylong_of_log2 (by
  !b:j.natAbs ≠ 0:=by lia
  !:j.natAbs.log2 < 110:=(WV b).mpr (by lia)
  lia)))
def Go(o:BOp):OpR X (No o.op) (rS X.K (bX o)):=by
 cases o with
 |add=>&Gm
 |sub=>
  ~hX (C:=λ_ _=>True) (g:=λi j=>i - j) (OpR.imp LS λx y H Q ⟨i,j,a,b,_,q⟩=>⟨i,j,a,b,q⟩) λa b S d c e=>?_;cases a <;> cases b <;> simp[bX,RF] at e;&{_,_,rfl,rfl,trivial,e.1.symm,e.2.symm}
 |mul=>&Gn
 |mod=>
  ~hX LV λa b S d c e=>?_;cases a <;> cases b <;> simp[bX,Mv] at e;rename_i i j;&{i,j,rfl,rfl,e.1,e.2.1.symm,e.2.2.symm}
 |fdiv=>
  ~hX Cj λa b S d c e=>?_;cases a <;> cases b <;> simp[bX,Ci] at e;rename_i i j;&{i,j,rfl,rfl,e.1,e.2.1.symm,e.2.2.symm}
 |pow=>
  ~hX LW λa b S d c e=>?_;cases a <;> cases b <;> simp[bX,Mw] at e;rename_i i j;&{i,j,rfl,rfl,e.1,e.2.1.symm,e.2.2.symm}
abbrev Aa(p:Int->Int->Bool):D->D->Sto->Option (D × Sto)
 |.int i,.int j,S=>aw (.bl (p i j),S)
 |_,_,_=>aD
abbrev Kv:D->Bool
 |.non=>aN
 |_=>aS
abbrev isB(neg:Bool):D->D->Sto->Option (D × Sto)
 |d,.non,S=>aw (.bl (neg != Kv d),S)
 |.bl a,.bl b,S=>aw (.bl (neg != (a == b)),S)
 |_,_,_=>aD
abbrev cN:D->Bool
 |.non=>aN |.bl _=>aN |.int _=>aN |.str _=>aN |_=>aS
abbrev eqF:D->D->Bool
 |.non,.non=>aN
 |.bl a,.bl b=>a == b
 |.bl a,.int b=>(if a then 1 else 0) == b
 |.int a,.bl b=>a == (if b then 1 else 0)
 |.int a,.int b=>a == b
 |.str a,.str b=>a == b
 |_,_=>aS
abbrev inF(x:D)(d:List D):Bool:=d.any λy=>eqF y x
abbrev inS(neg:Bool)(x y:D)(S:Sto):Option (D × Sto):=match ay y S with
 |some (_,ds)=>if cN x=aN/\ds.all cN=aN then aw (.bl (neg != inF x ds),S) else aD
 |none=>inK neg x y S
inductive COp where |eq |ne |lt |le |gt |ge |is |isnot |isin |notin
abbrev ao:COp->D->D->Sto->Option (D × Sto)
 |.eq=>eqS |.ne=>neS
 |.lt=>Aa λi j=>decide (i < j) |.le=>Aa λi j=>decide (i<=j) |.gt=>Aa λi j=>decide (j < i) |.ge=>Aa λi j=>decide (j<=i)
 |.is=>isB aS |.isnot=>isB aN |.isin=>inS aS |.notin=>inS aN
abbrev COp.op:COp->CmpOp
 |.eq=>.Eq |.ne=>.NotEq |.lt=>.Lt |.le=>.LtE |.gt=>.Gt |.ge=>.GtE |.is=>.Is |.isnot=>.IsNot |.isin=>.In |.notin=>.NotIn
def fG(f:OpR X (Zak op) (rI0 λi j=>.bl (p i j))):OpR X (Zak op) (rS X.K (Aa p)):=by
 ~OpR.imp f λx y H Q h=>?_;#{m,S,a,b,d,k,R,c,v,e,q}:=h;cases a <;> cases b <;> simp[Aa] at e;#{rfl,rfl}:=e;&{_,_,c.ints,v.ints,q m H _ (Aft.refl R) cp}
def mf(h:VD K m H x v)(f:cN x=aN):dU v=aN:=by
 cases x <;> simp[cN] at f
 ·cases h.nons;rfl
 ·cases h.bls;rfl
 ·cases h.ints;rfl
 ·cases h.strs;rfl
def Ck(h:VD K m H x v)(f:cN x=aN)(h':VD K m H y w)(b:cN y=aN):eqV v w=eqF x y:=by
 cases x <;> simp[cN] at f <;> cases y <;> simp[cN] at b <;> simp[VD] at h h' <;> subst h <;> subst h' <;> rfl
def jz:∀ {b:List D} {v:List V},VDs K m H b v->b.all cN=aN->v.all dU=aN
 |[],v,h,_=>by rw[VDs] at h;rw[h];rfl
 |d::b,v,h,f=>by
  rw[VDs] at h;#{x,r,rfl,p,q}:=h;rw[Yt,bAE] at f;rw[Yt,mf p f.1,jz q f.2];rfl
def wz(h:VD K m H x v)(f:cN x=aN):∀ {c:List D} {b:List V},VDs K m H c b->c.all cN=aN->inV v b=inF x c
 |[],b,h,_=>by rw[VDs] at h;rw[h];rfl
 |d::c,b,h',f'=>by
  rw[VDs] at h';#{y,r,rfl,p,q}:=h';rw[Yt,bAE] at f';!I:=wz h f q f'.2;unfold inV inF at I ⊢;rw[Yu,Yu,Ck p f'.1 h f,I]
def qp(h:VD K m H x v)(f:cN x=aN):∀ {c:List D} {b:List V},VDs K m H c b->c.all cN=aN->(b.countP λz=>eqV z v)=c.countP λz=>eqF z x
 |[],b,h,_=>by rw[VDs] at h;rw[h];rfl
 |d::c,b,h',f'=>by
  rw[VDs] at h';#{y,r,rfl,p,q}:=h';rw[Yt,bAE] at f';rw[Xo,Xo,Ck p f'.1 h f,qp h f q f'.2]
def rL(h:SqB K T H a vs):SqL K H a vs\/SqT K H a vs:=by
 cases T with
 |false=>&.inl h
 |true=>&.inr (.of h)
def Mx(hu:X.A.units+64 < cLine):OpR X (Zak .In) (rS X.K (inS aS)):=by
 intro c s E H x y v u Q I l B h;#{m,S,a,b,d,S',R,j,z,e,q}:=h;unfold inS at e;split at e
 ·rename_i tu U hi;#{p,O,rfl,Z,vds}:=gm R z hi;split at e
  ·rename_i f;cases e;~zP c s E H x _ v u Q I l B ⟨p,O,rfl,rL Z,mf j f.1,jz vds f.2,q m H _ (Aft.refl R) ?_⟩;rw[if_neg (by decide),wz j f.1 vds f.2]
   simpa using cp
  ·cases e
 ·#{k,n,Y,U,J,rfl,C,rfl,rfl}:=uh e;#{a,b,rfl,rfl,o,g,L,_}:=rJ (y:=.ref n) R J (.inl C) j z;cases B;~UD (show X.A.units+2 < cLine by lia) I g l λs' T=>⟨.bl _,H,T,rfl,?_⟩;rw[L];&q m H _ (Aft.refl R) (by simpa using cp)
def Ab(hu:X.A.units+64 < cLine):OpR X (Zak .NotIn) (rS X.K (inS aN)):=by
 intro c s E H x y v u Q I l B h;#{m,S,a,b,d,S',R,j,z,e,q}:=h;unfold inS at e;split at e
 ·rename_i tu U hi;#{p,O,rfl,Z,vds}:=gm R z hi;split at e
  ·rename_i f;cases e;~rj c s E H x _ v u Q I l B ⟨p,O,rfl,rL Z,mf j f.1,jz vds f.2,q m H _ (Aft.refl R) ?_⟩;rw[if_pos rfl,wz j f.1 vds f.2]
   simpa using cp
  ·cases e
 ·#{k,n,Y,U,J,rfl,C,rfl,rfl}:=uh e;#{a,b,rfl,rfl,o,g,L,_}:=rJ (y:=.ref n) R J (.inl C) j z;cases B;~Gb (show X.A.units+2 < cLine by lia) I g l λs' T=>⟨.bl _,H,T,rfl,?_⟩;rw[L];&q m H _ (Aft.refl R) (by simpa using cp)
def Cm(h:VD K m H d v):decide (v=V.non)=Kv d:=by
 cases d with
 |non=>cases h.nons;rfl
 |bl _=>cases h.bls;rfl
 |int _=>cases h.ints;rfl
 |str _=>cases h.strs;rfl
 |tup _=>#{_,_,e,_}:=h.tups;subst e;rfl
 |ref _=>#{_,_,e}:=h.refs;subst e;rfl
def My:OpR X (Zak .Is) (rS X.K (isB aS)):=by
 ~OpR.imp (OpR.or LX Mc) λx y H Q h=>?_;#{m,S,a,b,d,f,R,c,v,e,q}:=h;cases b with
 |non=>
  simp[isB] at e;#{rfl,rfl}:=e;&.inl ⟨v.nons,q m H _ (Aft.refl R) (by rw[Cm c];&cp)⟩
 |bl j=>
  cases a with
  |bl i=>
   simp[isB] at e;#{rfl,rfl}:=e;&.inr ⟨i,j,c.bls,v.bls,q m H _ (Aft.refl R) cp⟩
  |_=>simp[isB] at e
 |_=>cases a <;> simp[isB] at e
def Ac:OpR X (Zak .IsNot) (rS X.K (isB aN)):=by
 ~OpR.imp (OpR.or FO zX) λx y H Q h=>?_;#{m,S,a,b,d,f,R,c,v,e,q}:=h;cases b with
 |non=>
  simp[isB] at e;#{rfl,rfl}:=e;&.inl ⟨v.nons,q m H _ (Aft.refl R) (by rw[Cm c];&cp)⟩
 |bl j=>
  cases a with
  |bl i=>
   simp[isB] at e;#{rfl,rfl}:=e;&.inr ⟨i,j,c.bls,v.bls,q m H _ (Aft.refl R) (by simpa[bne] using cp)⟩
  |_=>simp[isB] at e
 |_=>cases a <;> simp[isB] at e
def hY(h:X.A.units+64 < cLine)(o:COp):OpR X (Zak o.op) (rS X.K (ao o)):=by
 cases o with
 |eq=>&Mr h
 |ne=>&Ms h
 |lt=>&fG Rm
 |le=>&fG Rn
 |gt=>&fG Ro
 |ge=>&fG Rp
 |is=>&My
 |isnot=>&Ac
 |isin=>&Mx h
 |notin=>&Ab h
end
section
variable {X:Cx} {K:VY} {m:List Addr} {H:Hp} {S:Sto}
abbrev ixS(d i:D)(S:Sto):Option (D × Sto):=match i with
 | .int k=>(match d with
  |.str z=>if z.length<=100000 then (atI z.cps.toList k).map λc=>(.str ⟨#[c]⟩,S) else aD
  | d=>(match ay d S with
   |some (_,ds)=>(atI ds k).map λx=>(x,S)
   | none=>aD))
 |i=>ixK d i S
def Mz{k:Int}(h:VDs K m H b c)(e:atI b k=aw d):∃v,atI c k=aw v/\VD K m H d v:=by
 unfold atI at e ⊢;rw[<-h.length];cases hi:ixN b.length k with
 |none=>rw[hi] at e;cases e
 |some j=>
  rw[hi] at e;&h.get e
def Cn{k:Int}(c:SqB K tu H a b)(vd:VDs K m H h b)(e:atI h k=aw d)(q:∀v,VD K m H d v->Q v H):rIx K (.ref a) (.int k) H Q:=by
 #{v,E,f}:=Mz vd e;cases tu with
 |false=>&.inl ⟨a,b,k,v,rfl,rfl,c,E,q v f⟩
 |true=>&.inr (.inl ⟨a,b,k,v,rfl,rfl,.of c,E,q v f⟩)
def UE(hu:X.A.units+64 < cLine):IxR X (rS X.K ixS):=by
 intro f j l s T H x y v u Q I U ry h hs;#{m,S,a,b,d,O,R,J,Z,e,q}:=h
 !B:ixK a b S=aw (d,O)->wpAny (model X.prog X.w) X.A (subscriptTail f j v u) (EP X l T Q) X.xe s:=λe=>by
  #{k,n,kss,Y,hk,rfl,hn,hd,rfl}:=Cf e;#{a',b',rfl,rfl,o,g,ho,hv}:=rJ (y:=.ref n) R hk hn Z J;#{w,rfl,vw}:=hv d hd;cases U;cases ry;&tail_any (tV I g) PySem.F.slot_dict_getitem.lookup (zY (show X.A.units+2 < cLine by lia) I g rfl λw' s' I' C=>⟨w,H,I',C,q m H _ (Aft.refl R) vw⟩) hs
 cases b with
 |int k=>
  ~BO f j l s T H x y v u Q I U ry ?_ hs;cases Z.ints
  !main:∀r,ay a S=aw r->(atI r.2 k).map (λx=>(x,S))=aw (d,O)->rIx X.K x (.int k) H Q:=by
   intro r hi e;cases E:atI r.2 k with
   |none=>rw[E] at e;cases e
   |some z=>
    rw[E] at e;cases e;#{p,vs,rfl,sq,vds}:=gm (tu:=r.1) (ds:=r.2) R J hi;&Cn sq vds E λv vv=>q m H v (Aft.refl R) vv
  cases a with
  |str z=>
   simp only[ixS] at e;split at e
   ·rename_i hl;cases L:atI z.cps.toList k with
    |none=>rw[L] at e;cases e
    |some c=>
     rw[L] at e;cases e;&.inr (.inr ⟨z,k,c,J.strs,rfl,by rw[ZaO];lia,L,q m H _ (Aft.refl R) nh⟩)
   ·cases e
  |tup Y=>&main (aN,Y) rfl e
  |ref n=>
   simp only[ixS] at e;cases hi:ay (.ref n) S with
   |none=>rw[hi] at e;cases e
   |some r=>rw[hi] at e;&main r hi e
  |_=>simp[ixS,ay] at e
 |_=>&B e
abbrev wD(x:XA)(y:XE):XE:=λb S=>bnd (x b S) λh f=>bnd (y b f) λi c=>match i with
 |.int k=>(atI h k).map λd=>(d,c)
 |_=>aD
def MA(h:tE K (wD x y) C H Q):tOp (rIx K) (jx K x) (tE K y) C H Q:=by
 #{m,j,S,d,S',E,R,e,q}:=h;#{p,l,L,e}:=ac e;#{i,Y,B,e}:=ac e;~{m,j,S,p,l,E,R,L,λm1 H1 a O b U J Z n3 vd=>⟨m1,j,l,i,Y,E.mono R b.ext,b.rel,B,λI n w f T=>?_⟩};cases i with
 |int k=>
  cases T.ints;dsimp only at e;cases c:atI p k with
  |none=>rw[c] at e;cases e
  |some z=>
   rw[c] at e;cases e;&Cn (tu:=false) (show SqL K n a O from SqL.of (f.ext.keep _ _ U J)) (vd.mono b.rel f.ext) c λv u=>q I n v (b.trans f) u
 |_=>cases e
abbrev jv(d:List D)(lo hi:Option Int):List D:=(d.drop (HT.sIx d.length 0 lo)).take (HT.sIx d.length d.length hi - HT.sIx d.length 0 lo)
def wG(h:VDs K m H d v)(lo hi:Option Int):VDs K m H (jv d lo hi) (mU v lo hi):=by
 unfold jv mU;rw[<-h.length];&(h.drop _).take _
abbrev slS(lo hi:Option Int)(d:D)(S:Sto):Option (D × Sto):=match d with
 |.tup b=>aw (.tup (jv b lo hi),S)
 | .ref n=>(match aR S n with
  |some b=>aw (.ref S.length,S++[.lst (jv b lo hi)])
  | none=>aD)
 |_=>aD
abbrev rSl(K:VY):V->Option Int->Option Int->Hp->VK->Prop:=λv lo hi H Q=>∃m S a d b,Rel K m S H/\VD K m H a v/\slS lo hi a S=aw (d,b)/\∀c h u,Aft K m H b c h->VD K c h d u->Q u h
def wH{vs:List V}{lo hi:Option Int}(h:HT.sIx vs.length 0 lo=0/\HT.sIx vs.length vs.length hi=vs.length):mU vs lo hi=vs:=by
 unfold mU;rw[h.1,h.2];simp
def UF:SlR X (rSl X.K):=by
 intro c s C H x v O y lo hi sl Q I J hs E B h;~(SlR.or Ga FY) c s C H x v O y lo hi sl Q I J hs E B ?_;#{m,S,a,d,T,R,l,e,q}:=h;cases a with
 |tup L=>
  cases e;#{p,k,rfl,f,vds}:=l.tups;~.inl ⟨p,k,rfl,.of f,λz=>?_,λ_=>jy R (wG vds lo hi) q⟩;!:=wG vds lo hi;rw[wH z] at this;&q m H _ (Aft.refl R) (iS f this)
 |ref n=>
  simp only[slS] at e;cases j:aR S n with
  |none=>rw[j] at e;cases e
  |some L=>
   rw[j] at e;cases e;#{p,k,u,f,vds}:=R.seq j;#{U,b,rfl}:=l.refs;rw[u] at b;cases b;&.inr ⟨p,k,rfl,f,rE R (wG vds lo hi) q⟩
 |_=>cases e
@[inline]abbrev XO:=Rho->Sto->Option (Option Int × Sto)
abbrev tOI(K:VY)(x:XO):TO:=λd H Q=>∃m c S o b,EnvR K m H c d/\Rel K m S H/\x c S=aw (o,b)/\∀f h,Aft K m H b f h->Q o h
abbrev wJ:XO:=λ_ S=>aw (aD,S)
abbrev wK(x:XE):XO:=λb S=>bnd (x b S) λd c=>match d with
 |.int i=>aw (aw i,c)
 |_=>aD
def Gp(h:tOI K wJ b H Q):x8 b H Q:=by
 #{m,c,S,o,d,E,R,e,q}:=h;cases e;&q m H (Aft.refl R)
def Gq(h:tOI K (wK x) j H Q):Kq (tE K x) j H Q:=by
 #{m,k,S,o,n,E,R,e,q}:=h;#{d,l,f,e}:=ac e;~{m,k,S,d,l,E,R,f,λm1 b v c vd=>?_};cases d with
 |int i=>cases e;&{i,vd.ints,q m1 b c}
 |_=>cases e
def PO.imp(h:PO X e t)(f:∀b H Q,t' b H Q->t b H Q):PO X e t':=λp s b H Q I q=>h p s b H Q I (f b H Q q)
abbrev xSl(x:XE)(lo hi:XO):XE:=λb S=>bnd (x b S) λd j=>bnd (lo b j) λl f=>bnd (hi b f) λh c=>slS l h d c
def RG{x:XE}{lo hi:XO}{n:L2.St}{H:Hp}{Q:VK}(h:tE K (xSl x lo hi) n H Q):tSl (rSl K) (tE K x) (tOI K lo) (tOI K hi) n H Q:=by
 #{m,j,S,d,J,E,R,e,q}:=h;#{a,p,T,e}:=ac e;#{l,y,I,e}:=ac e;#{u,k,B,e}:=ac e;~{m,j,S,a,p,E,R,T,λm1 Z v b vd=>⟨m1,j,p,l,y,E.mono R b.ext,b.rel,I,λL Y c=>⟨L,j,y,u,k,E.mono R (b.trans c).ext,c.rel,B,λC H3 f=>?_⟩⟩};&{C,k,a,d,J,f.rel,vd.mono b.rel (c.trans f).ext,e,λm4 U w z O=>q m4 U w (((b.trans c).trans f).trans z) O}
abbrev nu(d:D)(S:Sto):Option (Bool × Sto):=match d with
 |.non=>aw (aS,S)
 |.bl b=>aw (b,S)
 |.int i=>aw (i != 0,S)
 |.str y=>if y.length<=100000 then aw ((y.length:Int) != 0,S) else aD
 |.tup c=>aw (!c.isEmpty,S)
 | .ref n=>(match aR S n with
  |some c=>aw (!c.isEmpty,S)
  | none=>aD)
def nv(h:VDs K m H d v):d.isEmpty=v.isEmpty:=by
 !:=h.length;cases d <;> cases v <;> simp at this ⊢
def MB(R:Rel K m S H)(vd:VD K m H d v)(e:nu d S=aw (b,l)):l=S/\FR K v H b:=by
 cases d with
 |non=>cases e;cases vd.nons;&{rfl,rfl}
 |bl _=>cases e;cases vd.bls;&{rfl,rfl}
 |int _=>cases e;cases vd.ints;&{rfl,rfl}
 |str y=>
  simp only[nu] at e;split at e
  ·rename_i u;cases e;cases vd.strs;&{rfl,by rw[ZaO];lia,rfl}
  ·cases e
 |tup q=>
  cases e;#{a,f,rfl,c,vds}:=vd.tups;&{rfl,.inr (.inl ⟨f,.of c,by rw[nv vds]⟩)}
 |ref n=>
  simp only[nu] at e;cases j:aR S n with
  |none=>rw[j] at e;cases e
  |some q=>
   rw[j] at e;cases e;#{p,f,k,c,vds}:=R.seq j;#{z,h,rfl}:=vd.refs;rw[k] at h;cases h;&{rfl,.inl ⟨f,c,by rw[nv vds]⟩}
abbrev Gr(x:XE):XT:=λb S=>bnd (x b S) λd c=>nu d c
def MC(h:tT K (Gr x) l H Q):(tE K x) l H λv H'=>∃k,FR K v H' k/\Q k H':=by
 #{m,n,S,b,u,E,R,e,q}:=h;#{d,p,j,e}:=ac e;~{m,n,S,d,p,E,R,j,λm1 f v c vd=>?_};#{rfl,t}:=MB c.rel vd e;&{b,t,q m1 f c}
abbrev xB(x:XE):XT:=λc S=>bnd (x c S) λd f=>match d with
 |.bl b=>aw (b,f)
 |_=>aD
def RH(h:tT K (xB x) l H Q):(tE K x) l H λv H'=>∃k,v = .bl k/\Q k H':=by
 #{m,n,S,b,u,E,R,e,q}:=h;#{d,p,j,e}:=ac e;~{m,n,S,d,p,E,R,j,λm1 c v f vd=>?_};cases d with
 |bl k=>cases e;&{b,vd.bls,q m1 c f}
 |_=>cases e
abbrev dh(_:Bool)(d:List D)(S:Sto):Option (D × Sto):=aw (.int d.length,S)
abbrev cO(_:Bool)(d:List D)(S:Sto):Option (D × Sto):=aw (.tup d,S)
abbrev Ae:D->Bool
 |.bl _=>aN
 |_=>aS
abbrev pJ:D->Bool
 |.bl b=>b
 |_=>aS
abbrev l5(T:Bool)(d:List D)(S:Sto):Option (D × Sto):=if T=aS/\d.all Ae=aN then aw (.bl (d.all pJ),S) else aD
abbrev pK(T:Bool)(d:List D)(S:Sto):Option (D × Sto):=if T=aS/\d.all Ae=aN then aw (.bl (d.any pJ),S) else aD
abbrev r1(r:V->Hp->VK->Prop):List V->Hp->VK->Prop
 |[x],H,Q=>r x H Q
 |_,_,_=>False
def ca(h:r1 r xs H Q):∃x,xs=[x]/\r x H Q:=by
 match xs,h with
 |[x],h=>&{x,rfl,h}
def Af:aV X (.builtin "len") (r1 (rSq X.K dh)):=by
 ~aV.imp jr λc H Q h=>?_;#{_,rfl,m,S,T,j,a,v,d,f,R,rfl,b,vd,e,q}:=ca h;cases e;&{a,v,rfl,rL b,q m H _ (Aft.refl R) (by rw[vd.length];&bg)}
def Ag:aV X (.type "tuple") (r1 (rSq X.K cO)):=by
 ~aV.imp pG λc H Q h=>?_;#{_,rfl,m,S,T,j,a,v,d,f,R,rfl,b,vd,e,q}:=ca h;cases e;cases T with
 |false=>&{a,v,rfl,.inl ⟨b,jy R vd q⟩}
 |true=>&{a,v,rfl,.inr ⟨.of b,q m H _ (Aft.refl R) (iS b vd)⟩}
def wL:∀ {c:List D} {v:List V},VDs K m H c v->c.all Ae=aN->v=(c.map pJ).map V.bl
 |[],v,h,_=>by rw[VDs] at h;rw[h];rfl
 |d::c,v,h,f=>by
  rw[VDs] at h;#{x,r,rfl,p,q}:=h;rw[Yt,bAE] at f;cases d with
  |bl b=>rw[p.bls,wL q f.2];rfl
  |_=>simp[Ae] at f
def MD(d:List D):(d.map pJ).all id=d.all pJ:=by rw[Xg];rfl
def ME(d:List D):(d.map pJ).any id=d.any pJ:=by rw[Wr];rfl
def Ah(f:X.calm=aN):aV X (.builtin "all") (r1 (rSq X.K l5)):=by
 ~aV.imp (zV f) λk H Q h=>?_;#{_,rfl,m,S,T,j,a,v,d,l,R,rfl,c,vd,e,q}:=ca h;unfold l5 at e;split at e
 ·rename_i b;cases e;#{rfl,b}:=b;~{a,j.map pJ,rfl,?_,q m H _ (Aft.refl R) (by rw[MD];&cp)};rw[<-wL vd b];&c
 ·cases e
def Ai(f:X.calm=aN):aV X (.builtin "any") (r1 (rSq X.K pK)):=by
 ~aV.imp (zW f) λk H Q h=>?_;#{_,rfl,m,S,T,j,a,v,d,l,R,rfl,c,vd,e,q}:=ca h;unfold pK at e;split at e
 ·rename_i b;cases e;#{rfl,b}:=b;~{a,j.map pJ,rfl,?_,q m H _ (Aft.refl R) (by rw[ME];&cp)};rw[<-wL vd b];&c
 ·cases e
abbrev rTm(K:VY)(f:Bool->List D->Option (List D)):V->Hp->VK->Prop:=λv H Q=>∃m S T k a d E,Rel K m S H/\v = .ref a/\SqB K T H a d/\VDs K m H k d/\f T k=aw E ∧
 ∀c h p j,Aft K m H S c h->h p=aw (.lst j)->p ∉ c->(∀b,b ∈ m->b ≠ p)->H p=aD->VDs K c h E j->Q (.ref p) h
abbrev Co:D->D->Sto->Option (D × Sto)
 |.int i,.int j,S=>aw (.int (if j > i then j else i),S)
 |_,_,_=>aD
abbrev Cp:D->D->Sto->Option (D × Sto)
 |.int i,.int j,S=>aw (.int (if j < i then j else i),S)
 |_,_,_=>aD
abbrev two(f:D->D->Sto->Option (D × Sto)):List D->Sto->Option (D × Sto)
 |[a,b],S=>f a b S
 |_,_=>aD
def wM(h:VDs K m H [a,b] c):∃v w,c=[v,w]/\VD K m H a v/\VD K m H b w:=by
 rw[VDs] at h;#{v,r,rfl,p,q}:=h;rw[VDs] at q;#{w,f,rfl,d,Q}:=q;rw[VDs] at Q;subst Q;&{v,w,rfl,p,d}
def Gu(h:VDs K m H [a] b):∃v,b=[v]/\VD K m H a v:=by
 rw[VDs] at h;#{v,r,rfl,p,q}:=h;rw[VDs] at q;subst q;&{v,rfl,p}
def ui(h:two f c S=aw r):∃a b,c=[a,b]/\f a b S=aw r:=by
 match c,h with
 |[a,b],h=>&{a,b,rfl,h}
def wN(f:X.calm=aN):aV X (.builtin "max") (rSA X.K (two Co)):=by
 ~aV.imp (zL f) λj H Q h=>?_;#{m,S,l,d,k,R,vd,e,q}:=h;#{a,b,rfl,E}:=ui e;#{v,w,rfl,p,c}:=wM vd;cases a <;> cases b <;> simp[Co] at E;#{rfl,rfl}:=E;&{_,_,by rw[p.ints,c.ints],q m H _ (Aft.refl R) bg}
def wP(f:X.calm=aN):aV X (.builtin "min") (rSA X.K (two Cp)):=by
 ~aV.imp (zM f) λj H Q h=>?_;#{m,S,l,d,k,R,vd,e,q}:=h;#{a,b,rfl,E}:=ui e;#{v,w,rfl,p,c}:=wM vd;cases a <;> cases b <;> simp[Cp] at E;#{rfl,rfl}:=E;&{_,_,by rw[p.ints,c.ints],q m H _ (Aft.refl R) bg}
inductive Ty where |int |bool |tuple |list |str
abbrev Ty.nm:Ty->String
 |.int => "int" |.bool => "bool" |.tuple => "tuple" |.list => "list" |.str => "str"
abbrev tyN(d:D)(S:Sto):Option String:=match d with
 |.non=>aw "NoneType" |.bl _=>aw "bool" |.int _=>aw "int" |.str _=>aw "str" |.tup _=>aw "tuple"
 | .ref n=>(match S[n]? with
  |some (.lst _)=>aw "list"
  |some (.frz _)=>aw "list"
  |some (.dic _ _)=>aw "dict"
  |some (.tbl _ _ _)=>aD
  |some (.dfz _ _)=>aD
  | none=>aD)
abbrev gu(t:Ty)(n:String):Bool:=n == t.nm || (match t with |.int=>n == "bool" |_=>aS)
abbrev nA(t:Ty)(d:D)(S:Sto):Option (D × Sto):=(tyN d S).map λn=>(.bl (gu t n),S)
def Gv(K:VY)(t:Ty):(UP K (.type "NoneType") (.type t.nm)=aw (gu t "NoneType"))/\(UP K (.type "bool") (.type t.nm)=aw (gu t "bool"))/\(UP K (.type "int") (.type t.nm)=aw (gu t "int")) ∧
  (UP K (.type "str") (.type t.nm)=aw (gu t "str"))/\(UP K (.type "tuple") (.type t.nm)=aw (gu t "tuple"))/\(UP K (.type "list") (.type t.nm)=aw (gu t "list"))/\(UP K (.type "dict") (.type t.nm)=aw (gu t "dict")):=by
 cases t <;> &{by kernel_rfl,by kernel_rfl,by kernel_rfl,by kernel_rfl,by kernel_rfl,by kernel_rfl,by kernel_rfl}
def RI(R:Rel K m S H)(vd:VD K m H d v)(e:tyN d S=aw n):TyOf K H v (.type n):=by
 cases d with
 |non=>cases e;cases vd.nons;&.non
 |bl _=>cases e;cases vd.bls;&.bl _
 |int _=>cases e;cases vd.ints;&.int _
 |str _=>cases e;cases vd.strs;&.str _
 |tup c=>cases e;#{a,f,rfl,u,_}:=vd.tups;&.tup u
 |ref k=>
  simp only[tyN] at e;#{a,l,rfl}:=vd.refs;cases j:S[k]? with
  |none=>rw[j] at e;cases e
  |some o=>
   rw[j] at e;#{y,b,r}:=R.ob k o j;rw[l] at b;cases b;cases o with
   |lst c=>cases e;#{f,h,_}:=r;&.lst h
   |frz c=>cases e;#{o,f,h,_}:=r;&.frz h
   |dic ks c=>cases e;#{f,h,_}:=r;&.dT h
   |tbl T p q=>cases e
   |dfz ks c=>cases e
def Cq(e:tyN d S=aw n):n = "NoneType"\/n = "bool"\/n = "int"\/n = "str"\/n = "tuple"\/n = "list"\/n = "dict" := by
 cases d with
 |ref k=>
  simp only[tyN] at e;cases h:S[k]? with
  |none=>rw[h] at e;cases e
  |some o=>rw[h] at e;cases o <;> cases e <;> simp
 |_=>cases e <;> simp
def MF(K:VY)(t:Ty)(h:n = "NoneType"\/n = "bool"\/n = "int"\/n = "str"\/n = "tuple"\/n = "list"\/n = "dict"):UP K (.type n) (.type t.nm)=aw (gu t n):=by
 #{a,b,c,d,e,f,g}:=Gv K t;rcases h with rfl |rfl |rfl |rfl |rfl |rfl |rfl <;> assumption
abbrev RJ(K:VY)(t:Ty)(T:TE):TE:=tCB (Ku K) (cf T (cf (tC (.ty t.nm)) jl))
def Gw(h:tE K (xUn (nA t) x) p H Q):RJ K t (tE K x) p H Q:=by
 #{m,u,S,d,y,E,R,e,q}:=h;#{a,f,l,e}:=ac e;~{m,u,S,a,f,E,R,l,λm1 j v c k=>?_};unfold nA at e;cases b:tyN a f with
 |none=>rw[b] at e;cases e
 |some n=>
  rw[b] at e;cases e;&{v,t.nm,_,_,rfl,RI c.rel k b,MF K t (Cq b),q m1 j _ c cp}
end
end Ev
namespace HT
open PySem PySem.Spec PyProof.Rows
section
variable {prog:Program} {w:World} {A:Around} {E:Value->Shared->Prop} {s:Shared}
def kj{sl:Addr}{n:Nat}{T:Tok}{Q:Int × Int × Nat->Shared->Prop}(hs:s.heap.IsSliceOf sl .none .none (.int (-1) T))
  (h:Q ((n:Int) - 1,-1,n) s):wpAny (model prog w) A (Builtin.Slice.sliceApplied (.ref sl) (pure (n:Int))) Q E s:=by
 #{os,c,d,b}:=id hs;unfold Builtin.Slice.sliceApplied Builtin.Slice.sliceFields;~Za0 (Za0 (Za6 c b (x:=.none) rfl (Za0 (Za6 c b (x:=.none) rfl (Za0 (Za6 c b (x:=.int (-1) T) rfl (Zbl ?_)))))));~Za0 (slicePart_int ?_);show wpAny _ _ (if ((-1:Int) == 0)=aN then _ else _) _ _ s;rw[if_neg (by decide)];~Za0 (slicePart_none (Za0 (slicePart_none (Za0 (Zbl ?_)))));show wpAny _ _ (match Builtin.Slice.sliceAdjust aD aD (-1) (n:Int) with |(lo,hi)=>pure (lo,(-1:Int),Builtin.Slice.slicePlaces lo hi (-1))) _ _ s
 !f:Builtin.Slice.sliceAdjust aD aD (-1) (n:Int)=((n:Int) - 1,-1):=by
  unfold Builtin.Slice.sliceAdjust;simp
 rw[f];show wpAny _ _ (pure ((n:Int) - 1,(-1:Int),Builtin.Slice.slicePlaces ((n:Int) - 1) (-1) (-1))) _ _ s
 !j:Builtin.Slice.slicePlaces ((n:Int) - 1) (-1) (-1)=n:=by
  unfold Builtin.Slice.slicePlaces;!k:¬ ((-1:Int) > 0):=by decide
  simp only[k,if_false,show(- -1:Int)=1 from rfl,WR];split <;> omega
 rw[j];&Zbl h
def Cr(xs:Array Value):((Zi xs.size).filterMap λ(m:Nat)=>xs[((xs.size:Int) - 1+(m:Int) * -1).toNat]?).toArray=xs.toList.reverse.toArray:=by
 !e:(Zi xs.size).filterMap (λ(m:Nat)=>xs[((xs.size:Int) - 1+(m:Int) * -1).toNat]?)=((Zi xs.size).map λk=>xs.size - 1 - k).filterMap (xs[·]?):=by
  rw[Wi]
  congr 1
  funext m
  show xs[((xs.size:Int) - 1+(m:Int) * -1).toNat]?=xs[xs.size - 1 - m]?
  congr 1
  omega
 rw[e,PySem.W.krv_range,List.filterMap_reverse,PySem.W.krv_all]
def jA{t sl:Addr}{I:Array Value}{T:Tok}{Q:Value->Shared->Prop}(c:IsTup s.heap t I)(hs:s.heap.IsSliceOf sl .none .none (.int (-1) T))
  (h:Q (.ref s.heap.objs.size) { s with heap:=s.heap.push { cls:=.type "tuple", data:=.seq I.toList.reverse.toArray } })
  (j:I.size<=sizeLine):wpAny (model prog w) A (getItem (.ref t) (.ref sl)) Q E s:=by
 !b:sizeOk (.seq I.toList.reverse.toArray):=by
  show I.toList.reverse.toArray.size<=sizeLine;rw[Zk,Yo,Zu];&j
 #{os,k,d,l}:=id hs;!f:s.TypeIs (.ref sl) "slice" := ⟨os,k,d⟩;unfold getItem
 try with_reducible ~Za9 ?_
 first |~Za0 (Zbl ?_) |skip
 ~Za0 (Zbu c.typeIs (by decide) ?_)
 ~Za0 (wpAny_callSpecial?_slot (name:=Str.ofString "__getitem__") c.typeIs W5
  (Za1 W5 c.typeIs entry_tuple_getitem ?_ (args_tuple_getitem _ _)))
 show wpAny _ _ (Builtin.Tuple.tupleItemsOf (.ref t) >>= _) _ _ s;~Za0 (tupleItemsOf_ c ?_);~Za0 (ZbA f ?_);rw[if_pos (by decide)];~Za0 (kj hs ?_);show wpAny _ _ (if (((I.size:Int) - 1) == 0 && (-1:Int) == 1 && I.size == I.size)=aN then _ else _) _ _ s;rw[if_neg (by rw[show((-1:Int) == 1)=aS from rfl,X8,XD];&Zh),Cr]
 first
  |&Za0 (m:=Builtin.Tuple.tupleExact _) (Zbh (Zbl ⟨_,rfl,Zbl h⟩) b)
  |&Za0 (m:=Builtin.Tuple.tupleExact _) (Zbh (Za0 (Zbl (Zbl ⟨_,rfl,Zbl h⟩))) b)
  |&Za0 (Za0 (m:=Builtin.Tuple.tupleExact _) (Zbh (Zbl (Zbl ⟨_,rfl,Zbl h⟩)) b))
  |&Za0 (Za0 (m:=Builtin.Tuple.tupleExact _) (Zbh (Zbl ⟨_,rfl,Zbl h⟩) b))
end
end HT
namespace Ev
open PySem PySem.Spec PyProof.Rows L2
section
variable {X:Cx} {e:Expr} {te:TE} {pos p2 p3 p4:Pos}
def aJ.rev:∀ {xs:List V} {u:List Value},aJ xs u->aJ xs.reverse u.reverse
 |[],_,.nil=>.nil
 |_::_,_,.cons r t=>by rw[Yl,Yl];&(aJ.rev t).append (.cons r .nil)
def VDs.rev{K:VY}:∀ {b:List D} {v:List V},VDs K m H b v->VDs K m H b.reverse v.reverse
 |[],v,h=>by rw[VDs] at h;subst h;&.nil
 |d::b,v,h=>by
  rw[VDs] at h;#{y,r,rfl,p,q}:=h;rw[Yl,Yl];&(VDs.rev q).append (.cons p .nil)
abbrev wQ(d:D)(S:Sto):Option (D × Sto):=match d with
 |.tup b=>aw (.tup b.reverse,S)
 | .ref n=>(match aR S n with
  |some b=>aw (.ref S.length,S++[.lst b.reverse])
  | none=>aD)
 |_=>aD
def MG{k:Nat}(he:PE X e te):PE X (.Subscript e (.Slice aD aD (aw (.UnaryOp .USub (.Constant (.int 1) k p3) p4)) p2) pos) (tUn (rS1 X.K wQ) te):=by
 intro c s J H Q I h;~Subscript_ (thn (he c s J H _ I h) λv s1 ⟨x,Y,I1,r1,q1⟩=>?_);~wpAny_Slice ?_;rw[Zap];~Zbl (Zbl ?_);~thn (x9 (x5 rb mJ) c s1 J Y (λo L=>o=aw (-1)/\L=Y) I1 ⟨_,rfl,_,rfl,rfl,rfl⟩) λvk B ⟨o,L,I2,pk,ho,hH⟩=>?_;subst ho hH;cases pk with
 |int i Z=>
  !l:L2.Inv X c J L { B with heap:=B.heap.push { cls:=.type "slice", data:=.fields #[.none,.none,.int (-1) Z] } }:=I2.kept (t':=B.toks) λb ob q=>Zc _ q;#{m,S,a,d,S',R,T,E,q}:=q1;cases a with
  |tup ds=>
   cases E;#{p,z,rfl,O,vds}:=T.tups;cases r1;#{j,r,ht,y}:=l.tuple (.of O);!f:j.toArray.size=z.length:=by rw[Zk];&r.length.symm
   ~tail_any (ops:=[.ref p,.ref B.heap.objs.size]) ht.typeIs PyProof.Rows.slot_tuple_getitem.lookup (HT.jA ht (Heap.IsSliceOf.new ..) ?_ (by rw[f];&y)) (by with_unfolding_all rfl);~{.ref _,_,l.laid (o:=.tup z.reverse) (λb ob q=>Zc _ q) (Zf _) ?_,rfl,jy R (VDs.rev vds) q _ (l.hok.fresh (Zf _))};&{by rw[Yo];&y,_,aJ.rev r,ra.new _ _}
  |ref n=>
   simp only[wQ] at E;cases C:aR S n with
   |none=>rw[C] at E;cases E
   |some ds=>
    rw[C] at E;cases E;#{p,z,hp,O,vds}:=R.seq C;#{p',u,rfl}:=T.refs;rw[hp] at u;cases u;cases r1;#{j,r,U,y}:=l.list O;!f:j.toArray.size=z.length:=by rw[Zk];&r.length.symm
    ~tail_any (ops:=[.ref p,.ref B.heap.objs.size]) U.isList.typeIs PySem.slot_list_getitem.lookup (Za8 U.isList (Heap.IsSliceOf.new ..) .none .none (.int (-1) Z) (by decide) ?_ (by rw[f];&y)) (by with_unfolding_all rfl);rw[PySem.W.krv_pick];~{.ref _,_,l.laid (o:=.lst z.reverse) (λb ob q=>Zc _ q) (Zf _) ?_,rfl,rE R (VDs.rev vds) q _ (l.hok.fresh (Zf _))};&{by rw[Yo];&y,_,0,aJ.rev r,Zs _ rfl}
  |_=>cases E
end
end Ev
namespace Ev
open PySem PySem.Spec PyProof.Rows L2
open PySem.W (KasT kas_sort kas_asc kas_desc kas_tail3 kas_descPart kas_count kas_place kas_bin kas_rev kas_ask KatTups)
abbrev bV{b:Type}(lt:Nat->Nat->Bool):KasT b->b
 |.ret a=>a
 |.ask i j k=>bV lt (k (lt i j))
abbrev KT{c:Type}(n:Nat)(P:c->Prop):KasT c->Prop
 |.ret a=>P a
 |.ask i j k=>i < n/\j < n/\∀b,KT n P (k b)
def KT.bind{c d:Type}{n:Nat}{P:c->Prop}{R:d->Prop}{f:c->KasT d}(l:∀a,P a->KT n R (f a)):∀ {t:KasT c},KT n P t->KT n R (t.bind f)
 |.ret a,h=>l a h
 |.ask i j k,h=>⟨h.1,h.2.1,λb=>KT.bind l (h.2.2 b)⟩
def KT.run{b:Type}{n:Nat}{P:b->Prop}{lt:Nat->Nat->Bool}:∀ {t:KasT b},KT n P t->P (bV lt t)
 |.ret a,h=>h
 |.ask i j k,h=>KT.run (t:=k (lt i j)) (h.2.2 (lt i j))
def nB{b:Type}{n:Nat}{P:b->Prop}{lt:Nat->Nat->Bool}{cmp:Nat->Nat->(Bool->Shared->Prop)->Shared->Prop}{s:Shared}(c:∀i j,i < n->j < n->∀C:Bool->Shared->Prop,C (lt i j) s->cmp i j C s){Q:b->Shared->Prop} :
  ∀ {t:KasT b},KT n P t->Q (bV lt t) s->t.kasWp cmp Q s
 |.ret a,_,q=>q
 |.ask i j k,h,q=>c i j h.1 h.2.1 _ (nB c (h.2.2 (lt i j)) q)
abbrev Pm(n:Nat)(p:Array Nat):Prop:=p.Perm (YO (Zi n))
def Pm.at{n i:Nat}(h:Pm n p)(c:0 < n):p.getD i 0 < n:=by
 by_cases hi:i < p.size
 ·!e:p.getD i 0=p[i]:=by simp[Array.getD,hi]
  rw[e];!b:p[i] ∈ p:=Ws hi;!:=h.mem_iff.mp b
  simpa using this
 ·!e:p.getD i 0=0:=by simp[Array.getD,hi]
  omega
def Pm.rev{n i j:Nat}(h:Pm n p):Pm n (kas_rev p i j):=(mirror_perm p i j _).trans h
def wR{n:Nat}(h:Pm n p)(c:0 < n):∀f m,KT n (λ_=>True) (kas_asc p f m)
 |0,_=>trivial
 | f+1,m=>⟨h.at c,h.at c,λb=>by
  cases b with
  |true=>&trivial
  | false=>&wR h c f (m+1)⟩
def mh{n:Nat}(c:0 < n):∀f (p:Array Nat) m q,Pm n p->KT n (λr:Array Nat × Nat × Nat=>Pm n r.1) (kas_desc f p m q)
 |0,p,m,q,h=>h
 | f+1,p,m,q,h=>⟨h.at c,h.at c,λb=>by
  cases b with
  |true=>
   show KT n _ (if q > 0 then kas_desc f (kas_rev p (m - (q+1)) m) (m+1) 0 else kas_desc f p (m+1) 0);split
   ·&mh c f _ _ _ h.rev
   ·&mh c f _ _ _ h
  | false=>&⟨h.at c,h.at c,λd=>by
   cases d with
   |true=>&h
   | false=>&mh c f _ _ _ h⟩⟩
def uj{n:Nat}{p:Array Nat}(b:0 < n)(h:Pm n p)(m r:Nat):KT n (λr:Nat × Array Nat=>Pm n r.2) (kas_tail3 m r p):=KT.bind (P:=λ_=>True) (f:=λm=>KasT.ret (m,kas_rev p 0 _)) (λ_ _=>(show KT n (λr:Nat × Array Nat=>Pm n r.2) (KasT.ret (_,kas_rev p 0 _)) from h.rev)) (wR h.rev b _ _)
def kW{n:Nat}{p:Array Nat}(b:0 < n)(h:Pm n p)(m r:Nat):KT n (λr:Nat × Array Nat=>Pm n r.2) (kas_descPart m r p):=KT.bind (λa c=>by
 show KT n _ (if a.2.2 > 0 then _ else _);split
 ·&uj b (Pm.rev c) _ _
 ·&uj b c _ _) (mh b _ _ _ _ h)
def Cs{n:Nat}{p:Array Nat}(c:0 < n)(h:Pm n p)(r:Nat):KT n (λr:Nat × Array Nat=>Pm n r.2) (kas_count r p):=KT.bind (λa _=>by
 show KT n _ (if (a == r)=aN then _ else if a > 1 then _ else _);split
 ·&h
 ·split
  ·&⟨h.at c,h.at c,λb=>by
    cases b with
    |true=>&h
    | false=>&kW c h.rev _ _⟩
  ·&kW c h _ _) (wR h c _ _)
def nD{n:Nat}{p:Array Nat}(c:0 < n)(h:Pm n p)(m:Nat):∀f l r,KT n (λ_=>True) (kas_place p m f l r)
 |0,_,_=>trivial
 |f+1,l,r=>by
  show KT n _ (if l ≥ r then _ else _);split
  ·&trivial
  ·&⟨h.at c,h.at c,λb=>by
    cases b with
    |true=>&nD c h m f _ _
    | false=>&nD c h m f _ _⟩
def Ct{n:Nat}(b:0 < n):∀f (p:Array Nat) m,Pm n p->KT n (Pm n) (kas_bin f p m)
 |0,p,_,h=>h
 |f+1,p,m,h=>KT.bind (λl _=>Ct b f _ _ ((bubble_perm p m _).trans h)) (nD b h m _ _ _)
def jB{n:Nat}(h:0 < n):KT n (Pm n) (kas_sort n):=KT.bind (λr b=>by
 show KT n _ (if r.1 < n then _ else _);split
 ·&Ct h _ _ _ b
 ·&b) (Cs h (Array.Perm.refl _) n)
section
variable {prog:Program} {w:World} {A:Around} {E:Value->Shared->Prop} {s:Shared}
def rN{a:Addr}{v:List Value}{n:Nat}{P:PySem.Fin->Shared->Prop}(y:s.heap.get? a=aw (seqObj "list" v.toArray n))(B:v.length < 64)(O:SortKind)(lt:Nat->Nat->Bool)
  (Y:2<=v.length->∀ (Q:SortKind->Shared->Prop),Q O { s with heap:=((s.heap.update a (Obj.mapSeq λ_=>#[])).push (seqObj "tuple" v.toArray 0)).push (seqObj "list" #[] 0) }->wpAny (model prog w) A (keyKind' v.toArray) Q E { s with heap:=((s.heap.update a (Obj.mapSeq λ_=>#[])).push (seqObj "tuple" v.toArray 0)).push (seqObj "list" #[] 0) })
  (L:∀i j,i < v.length->j < v.length->∀C:Bool->Shared->Prop,C (lt i j) { s with heap:=((s.heap.update a (Obj.mapSeq λ_=>#[])).push (seqObj "tuple" v.toArray 0)).push (seqObj "list" #[] 0) } ->
   kas_ask prog w A O v i j C { s with heap:=((s.heap.update a (Obj.mapSeq λ_=>#[])).push (seqObj "tuple" v.toArray 0)).push (seqObj "list" #[] 0) })
  (h:P (.done (.ret .none)) { s with heap:=sortedHeap s.heap a v (if v.length < 2 then v.toArray else YO ((bV lt (kas_sort v.length)).toList.map λi=>v.getD i Value.none)) }) :
  wpAny (model prog w) A (Builtin.«list.sort» ⟨[.ref a],[]⟩) P E s:=by
 rw[list_sort_plain];!U:a < s.heap.objs.size:=Zv y;~Za0 (listItems_at y rfl ?_);~Za0 (listUpdate_at y rfl ?_);obtain⟨J,d⟩:∃J,(s.heap.update a (Obj.mapSeq λ_=>#[])).get? a=aw (seqObj "list" #[] J):=⟨_,get?_update_seq y (λ_=>#[])⟩;~Za0 (seqEpoch_at d rfl ?_);~Za0 (wpAny_newTuple ?_);~Za0 (Zbg ?_);~Za9 ?_
 !c:(((s.heap.update a (Obj.mapSeq λ_=>#[])).push (seqObj "tuple" v.toArray 0)).push (seqObj "list" #[] 0)).get? a=aw (seqObj "list" #[] J):=by
  rw[Xh _ _ _ (by rw[size_push',Yw];&ZH (YD U)),Xh _ _ _ (by rw[Yw];&ZH U)];&d
 show wpAny (model prog w) A _ P E { s with heap:=((s.heap.update a (Obj.mapSeq λ_=>#[])).push (seqObj "tuple" v.toArray 0)).push (seqObj "list" #[] 0) };dsimp only;!T:v.toArray.size=v.length:=by simp
 by_cases k:v.toArray.size < 2
 ·rw[if_pos k,if_pos k];~Za0 (Zbl ?_);rw[StateT.run_pure];~Za0 (Zbl ?_);dsimp only;~Za0 (seqEpoch_at c rfl ?_);~Za0 (listUpdate_at c rfl ?_ (hsz2:=by rw[Array.size_map];show(pairsOf v).size<=_;rw[pairsOf_size,ZaO];omega));simp only[bne_self_eq_false,ZN,if_false];rw[if_pos (by rw[<-T];&k)] at h
  !e:Array.map (λx:Keyed=>x.2) (v.toArray.zip v.toArray)=v.toArray:=by
   apply Wy.mp;rw[Wz,WA,WB (by simp)]
  ~Zbl ?_;show P _ { s with heap:=sortedHeap s.heap a v (Array.map (λx:Keyed=>x.2) (v.toArray.zip v.toArray)) };rw[e];&h
 ·!u:2<=v.length:=by omega
  rw[if_neg k,if_neg k];rw[if_neg (by omega)] at h;~Za0 (Y u _ ?_)
  ~Za0 (Zbe (V7 (κ:=O) (ks:=v) (Q:=λb f=>f={ s with heap:=((s.heap.update a (Obj.mapSeq λ_=>#[])).push (seqObj "tuple" v.toArray 0)).push (seqObj "list" #[] 0) }/\arrOf b=(bV lt (kas_sort v.length)).map (V4 (v.toArray.zip v.toArray))/\(bV lt (kas_sort v.length)).size=v.length/\failedOf b=aD)
   (G:=λp f=>f={ s with heap:=((s.heap.update a (Obj.mapSeq λ_=>#[])).push (seqObj "tuple" v.toArray 0)).push (seqObj "list" #[] 0) }/\p=bV lt (kas_sort v.length)) rfl u B (λp b f a1 X a3 I=>⟨I.1,I.2 ▸ X,I.2 ▸ a1,a3⟩) (nB L (jB (by omega)) ⟨rfl,rfl⟩)) ?_ λ_ _ e=>e)
  rintro⟨⟨⟩,b⟩ f ⟨rfl,z,q,Z⟩;dsimp only;!l:=V8 rfl z;~Za0 (seqEpoch_at c rfl ?_);rw[l];~Za0 (listUpdate_at c rfl ?_ (hsz2:=by rw[Zk,Za,Zu,q,ZaO];omega));rw[Z];simp only[bne_self_eq_false,ZN,if_false];&Zbl h
end
section
variable {prog:Program} {w:World} {A:Around} {E:Value->Shared->Prop} {s:Shared}
def Aj(J:s.heap.IsList l v.toArray)(p:v.length < 64)(u:SortKind)(lt:Nat->Nat->Bool)
  (I:2<=v.length->∀ (A:Around) (f:Shared),(∀b o,s.heap.get? b=aw o->f.heap.get? b=aw o)->∀ (E:Value->Shared->Prop) (Q:SortKind->Shared->Prop),Q u f->wpAny (model prog w) A (keyKind' v.toArray) Q E f)
  (d:∀ (y:Around) (f:Shared),y=A.in1.in1->(∀b o,s.heap.get? b=aw o->f.heap.get? b=aw o)->∀i j,i < v.length->j < v.length->∀C:Bool->Shared->Prop,C (lt i j) f->kas_ask prog w y u v i j C f)
  (h:Q (.ref (s.heap.objs.size+1)) { s with heap:=sortedAll s.heap v (if v.length < 2 then v.toArray else YO ((bV lt (kas_sort v.length)).toList.map λi=>v.getD i Value.none)) }) :
  wpAny (model prog w) A (call (.builtin "sorted") [.ref l]) Q E s:=by
 ~Calls.call_function_entry kind_sorted plain_sorted entry_sorted (args_sorted1 _) ?_;unfold Builtin.«sorted»;~Za0 (m:=checkCount "sorted" 1 1 _) (Zbl ?_);~Za0 (collect_list J ?_);~Za0 (Zbg ?_)
 !n:((s.heap.push (seqObj "list" #[] 0)).update s.heap.objs.size (Obj.mapSeq (·++v.toArray))).objs.size=s.heap.objs.size+1:=by
  rw[Yw,size_push']
 !k:(((s.heap.push (seqObj "list" #[] 0)).update s.heap.objs.size (Obj.mapSeq (·++v.toArray))).push (seqObj "list" v.toArray 0)).get? (s.heap.objs.size+1)=aw (seqObj "list" v.toArray 0):=by
  rw[<-n];&Zs _ rfl
 !keep:∀b o,s.heap.get? b=aw o->(((((s.heap.push (seqObj "list" #[] 0)).update s.heap.objs.size (Obj.mapSeq (·++v.toArray))).push (seqObj "list" v.toArray 0)).update (s.heap.objs.size+1) (Obj.mapSeq λ_=>#[])).push (seqObj "tuple" v.toArray 0)).get? b=aw o:=λb o q=>by
  !d:b < s.heap.objs.size:=Zv q;~Zc _ ?_;rw[Xy _ _ _ _ (ZH (YD d))];~Zc _ ?_;rw[Xy _ _ _ _ (ZH d)];&Zc _ q
 show wpAny _ _ _ _ _ { s with heap:=((s.heap.push (seqObj "list" #[] 0)).update s.heap.objs.size (Obj.mapSeq (·++v.toArray))).push (seqObj "list" v.toArray 0) };rw[n];~Za0 (Za9 (Za1 slot_list_sort ⟨_,k,rfl⟩ entry_list_sort (rN k p u lt (λL Q q=>I L _ _ (λb o z=>Zc _ (keep b o z)) _ Q q) (λi j hi B C c=>d _ _ rfl (λb o z=>Zc _ (keep b o z)) i j hi B C c) ⟨_,rfl,?_⟩) (args_list_sort _)));&Zbl ⟨_,rfl,h⟩
end
end Ev
namespace Ev
open PySem PySem.Spec PyProof.Rows L2
open PySem.W (kas_sort KatTups)
section
variable {X:Cx} {K:VY} {m:List Addr} {H:Hp} {S:Sto}
def yp(r:aJ v its){i:Nat}(hi:i < v.length):aE (v.getD i .non) (its.getD i Value.none):=by
 #{u,e,b}:=r.get (gEG hi);rw[Zr,Zr,gEG hi,e];&b
def qr{v:List V}{its:List Value}(r:aJ v its):∀ (l:List Nat),(∀i ∈ l,i < v.length)->aJ (l.map λi=>v.getD i .non) (l.map λi=>its.getD i Value.none)
 |[],_=>.nil
 |i::l,h=>.cons (yp r (h i Zj)) (qr r l λj b=>h j (Zg _ b))
def gw{n:Nat}{lt:Nat->Nat->Bool}(b:0 < n):(∀i ∈ (bV lt (kas_sort n)).toList,i < n)/\(bV lt (kas_sort n)).toList.length=n:=by
 !h:Pm n (bV lt (kas_sort n)):=(jB b).run;~{λi hi=>?_,?_}
 ·!:=h.mem_iff.mp (X6.mp hi)
  simpa using this
 ·!:=h.size_eq;rw[Zu,this];simp
abbrev wU(x:Int):List Int->List Int
 |[]=>[x]
 |y::l=>if x<=y then x::y::l else y::wU x l
abbrev gx:List Int->List Int
 |[]=>[]
 |x::l=>wU x (gx l)
def km(x:Int):∀l,(wU x l).Perm (x::l)
 |[]=>List.Perm.refl _
 |y::l=>by
  unfold wU;split
  ·&List.Perm.refl _
  ·&((km x l).cons y).trans (List.Perm.swap x y l)
def cE:∀l,(gx l).Perm l
 |[]=>List.Perm.refl _
 |x::l=>(km x (gx l)).trans ((cE l).cons x)
def kY(x:Int):∀l:List Int,l.Pairwise (·<=·)->(wU x l).Pairwise (·<=·)
 |[],_=>by unfold wU;simp
 |y::l,h=>by
  unfold wU;rw[Z7] at h;split
  ·rename_i c;~Z7.mpr ⟨λz hz=>?_,Z7.mpr h⟩;rcases Zn.mp hz with rfl |hz
   ·&c
   ·!:=h.1 z hz;lia
  ·rename_i c;~Z7.mpr ⟨λz hz=>?_,kY x l h.2⟩;rcases Zn.mp ((km x l).mem_iff.mp hz) with rfl |hz
   ·lia
   ·&h.1 z hz
def dj:∀l,(gx l).Pairwise (·<=·)
 |[]=>List.Pairwise.nil
 |x::l=>kY x _ (dj l)
def nF:∀ {a b:List Int},a.Perm b->a.Pairwise (·<=·)->b.Pairwise (·<=·)->a=b
 |[],b,p,_,_=>(List.Perm.nil_eq p)
 |x::a,[],p,_,_=>(List.Perm.nil_eq p.symm).symm
 |x::a,y::b,p,ha,hb=>by
  rw[Z7] at ha hb
  !e:x=y:=by
   !h1:=p.mem_iff.mp (Zj (a:=x) (l:=a));!h2:=p.mem_iff.mpr (Zj (a:=y) (l:=b));rcases Zn.mp h1 with rfl |h1
   ·rfl
   ·rcases Zn.mp h2 with h2 |h2
    ·&h2.symm
    ·!:=ha.1 y h2;!:=hb.1 x h1
     lia
  subst e;rw[nF (List.Perm.cons_inv p) ha.2 hb.2]
def bv:∀ {ns:List Int} {u:List Value},aJ (ns.map V.int) u->IntsAre u ns
 |[],_,h=>by cases h;&.nil
 |n::ns,_,h=>by
  cases h with
  |cons r1 r2=>#{t,rfl}:=r1;&.cons n t (bv r2)
def wV:aV X (.builtin "sorted") (λxs H Q=>∃a ns,xs=[.ref a]/\SqL X.K H a (ns.map V.int)/\ns.length < 64/\∀p,H p=aD->Q (.ref p) (upd H p (.lst ((gx ns).map V.int)))):=by
 intro k s O H xs U Q I r h;#{a,ns,rfl,E,l,q}:=h;#{u,rfl,L}:=bQ r;cases L;#{d,j,v,f}:=I.list E;!c:=j.length;rw[Za] at c f;~sorted_ints v.isList (bv j) (by lia) λout n J y C=>?_;!e:n=gx ns:=nF (y.trans (cE ns).symm) C (dj ns);subst e;#{e,B}:=sortedAll_at s.heap d out;~{.ref (s.heap.objs.size+1),_,I.laid (t':=s.toks) (a:=s.heap.objs.size+1) (o:=.lst ((gx ns).map V.int)) (λb o z=>sortedAll_old z) (YM _) ⟨by rw[Za,(cE ns).length_eq];&f,out.toList,e,jZ J,by simpa using B⟩,rfl,q _ (I.hok.fresh (YM _))}
abbrev cP:List D->Option (List Int)
 |[]=>aw []
 |d::ds=>match d,cP ds with
  |.int i,aw ms=>aw (i::ms)
  |_,_=>aD
abbrev uk(_:Bool)(d:List D):Option (List D):=match cP d with
 |some ns=>if ns.length < 64 then aw ((gx ns).map D.int) else aD
 |none=>aD
def cQ:∀ {b:List D} {ns:List Int},cP b=aw ns->b=ns.map D.int
 |[],_,e=>by cases e;rfl
 |d::b,ns,e=>by
  simp only[cP] at e;split at e
  ·rename_i i c h;cases e;rw[cQ h];rfl
  ·cases e
def bO:∀ {ns:List Int} {b:List V},VDs K m H (ns.map D.int) b->b=ns.map V.int
 |[],_,h=>by rw[Z0,VDs] at h;&h
 |n::ns,_,h=>by
  rw[Zy,VDs] at h;#{v,r,rfl,d,c}:=h;rw[d.ints,bO c];rfl
def qt:∀ (ns:List Int),VDs K m H (ns.map D.int) (ns.map V.int)
 |[]=>by rw[Z0,Z0,VDs]
 |n::ns=>by rw[Zy,Zy,VDs];&{_,_,rfl,bg,qt ns}
def rO(h:VDs K m H d b):∀ (l:List Nat),(∀i ∈ l,i < d.length)->VDs K m H (l.map λi=>d.getD i .non) (l.map λi=>b.getD i .non)
 |[],_=>by rw[Z0,Z0,VDs]
 |i::l,hl=>by
  rw[Zy,Zy,VDs];#{v,e,c}:=h.get (gEG (hl i Zj));~{_,_,rfl,?_,rO h l λj f=>hl j (Zg _ f)};rw[Zr,Zr,gEG (hl i Zj),e];&c
def Ak:aV X (.builtin "sorted") (r1 (rTm X.K λT d=>if T=aS then uk T d else aD)):=by
 ~aV.imp wV λj H Q h=>?_;#{_,rfl,m,S,T,d,a,v,es,R,rfl,b,vd,e,q}:=ca h;cases T with
 |true=>cases e
 |false=>
  !e:uk aS d=aw es:=by simpa using e
  unfold uk at e;cases hi:cP d with
  |none=>rw[hi] at e;cases e
  |some ns=>
   rw[hi] at e;dsimp only at e;split at e
   ·rename_i f;cases e;!c:=cQ hi;subst c;!E:=bO vd;subst E;&{a,ns,rfl,b,f,rF R (qt _) q}
   ·cases e
end
end Ev
namespace Ev
open PySem PySem.Spec PyProof.Rows L2
abbrev iT:List Int->Int
 |[]=>0
 |n::ns=>ns.foldl (λa b=>if a < b then b else a) n
def jC:∀ (ns:List Int) (n:Int),(ns.foldl (λa b=>if a < b then b else a) n) ∈ n::ns/\∀x ∈ n::ns,x<=ns.foldl (λa b=>if a < b then b else a) n
 |[],n=>⟨Zj,λx hx=>by simp at hx;subst hx;&ZU _⟩
 |m::ns,n=>by
  #{f,d}:=jC ns (if n < m then m else n);rw[List.foldl_cons];~{?_,λx hx=>?_}
  ·rcases Zn.mp f with h |h
   ·rw[h];split <;> simp
   ·&Zg _ (Zg _ h)
  ·!c:=d _ Zj;rcases Zn.mp hx with rfl |hx
   ·split at c <;> split <;> omega
   ·rcases Zn.mp hx with rfl |hx
    ·split at c <;> split <;> omega
    ·&d x (Zg _ hx)
def wW{M:Int}(h:M ∈ ns)(c:∀a,a ∈ ns->a<=M):M=iT ns:=by
 cases ns with
 |nil=>simp at h
 |cons n ns=>
  #{a,b}:=jC ns n;!:=c _ a;!:=b _ h;show M=ns.foldl _ n;omega
section
variable {X:Cx} {K:VY} {m:List Addr} {H:Hp} {S:Sto}
def Al(T:X.calm=aN):aV X (.builtin "max") (λxs H Q=>∃a ns,xs=[.ref a]/\SqL X.K H a (ns.map V.int)/\ns ≠ []/\Q (.int (iT ns)) H):=by
 intro p s E H xs us Q I r h;#{a,ns,rfl,sq,c,q}:=h;#{u,rfl,ru}:=bQ r;cases ru;#{U,rv,L,hz}:=I.list sq;!hi:=bv rv;!n:=L.isList;#{y,e}:=hi.allInts.items
 !b:ns=y.toList.map (·.1):=by
  !f:=hi.numsOf;rw[<-ZaC,<-e];&f.symm
 !d:0 < y.size:=by
  !z:0 < ns.length:=Xz.mpr c;rw[b,Za,Zu] at z;&z
 rw[e] at n;~max_intList (I.ok.hd T) n d λv B Z Y J=>?_;#{t,rfl}:=Zas Y;#{b1,b2}:=argBest_gt (numAt y) (y.size - 1);!k:∀M:Int,M ∈ ns->(∀a,a ∈ ns->a<=M)->∃x H',Inv X p E H' { s with heap:=B,toks:=Z }/\aE x (.int M t)/\Q x H':=λM f O=>⟨.int (iT ns),H,I.kept J,⟨t,by rw[wW f O]⟩,q⟩;~k _ ?_ λa l=>?_
 ·rw[b,ZaB];&getD_mem (by rw[Za,Zu];omega)
 ·rw[b] at l;#{j,C,rfl}:=mem_getD l;rw[Za,Zu] at C;rw[<-ZaB];&b2 j (by omega)
def rP(n:A.handled=aD)(k:s.heap.IsTuple l (Zar xs))(f:0 < xs.size)
  (h:∀v h' T,(Zar xs)[argBest (λi j=>decide (numAt xs i > numAt xs j)) (xs.size - 1)]?=aw v->(∀b o,s.heap.get? b=aw o->h'.get? b=aw o)->Q v { s with heap:=h',toks:=T }) :
  wpAny (model prog w) A (call (.builtin "max") [.ref l]) Q E s:=by
 !d:l < s.heap.objs.size:=by #{_,e,_}:=k;&Zv e
 ~call_max_walk (Zbo k ?_);~{_,[_,l],[_],_,_,_,_,rfl,Walks.tuple (A:=A.in1) n _ l (ZH d) (Zar xs),⟨⟨_,Zs _ rfl,rfl,rfl⟩,k.push _⟩,λc hc=>?_,by simpa[Zar] using f,CmpOf.ints_gt (numAt xs) (λ_ _=>Zas),λv h' T p q=>?_}
 ·show c < (s.heap.push _).objs.size;rw[Yz];rcases Zn.mp hc with rfl |hc
  ·&Y2 _
  ·rcases Zn.mp hc with rfl |hc
   ·&YD d
   ·cases hc
 ·~h v h' T (by simpa[Zar] using p) λb o e=>q b o (λhm=>?_) (Zc _ e);rcases Zn.mp hm with e1 |hm
  ·&absurd (e1 ▸ Zv e) (ZI _)
  ·cases hm
def Am(U:X.calm=aN):aV X (.builtin "max") (λxs H Q=>∃a ns,xs=[.ref a]/\SqT X.K H a (ns.map V.int)/\ns ≠ []/\Q (.int (iT ns)) H):=by
 intro p s J H xs us Q I r h;#{a,ns,rfl,sq,c,q}:=h;#{u,rfl,ru}:=bQ r;cases ru;#{d,rv,O,hz}:=I.tuple sq;!hi:=bv rv;!z:s.heap.IsTuple a d.toArray:=O;#{y,e}:=hi.allInts.items
 !b:ns=y.toList.map (·.1):=by
  !l:=hi.numsOf;rw[<-ZaC,<-e];&l.symm
 !f:0 < y.size:=by
  !B:0 < ns.length:=Xz.mpr c;rw[b,Za,Zu] at B;&B
 rw[e] at z;~rP (I.ok.hd U) z f λv C Z Y L=>?_;#{t,rfl}:=Zas Y;#{b1,b2}:=argBest_gt (numAt y) (y.size - 1);!k:∀M:Int,M ∈ ns->(∀a,a ∈ ns->a<=M)->∃x H',Inv X p J H' { s with heap:=C,toks:=Z }/\aE x (.int M t)/\Q x H':=λM l T=>⟨.int (iT ns),H,I.kept L,⟨t,by rw[wW l T]⟩,q⟩;~k _ ?_ λa n=>?_
 ·rw[b,ZaB];&getD_mem (by rw[Za,Zu];omega)
 ·rw[b] at n;#{j,E,rfl}:=mem_getD n;rw[Za,Zu] at E;rw[<-ZaB];&b2 j (by omega)
abbrev pL(T:Bool)(d:List D)(S:Sto):Option (D × Sto):=match cP d with
 |some (n::ns)=>aw (.int (iT (n::ns)),S)
 |_=>aD
def An(b:X.calm=aN):aV X (.builtin "max") (r1 (rSq X.K pL)):=by
 ~aV.imp (aV.or (Al b) (Am b)) λf H Q h=>?_;#{_,rfl,m,S,T,k,a,v,d,j,R,rfl,sq,vd,e,q}:=ca h;unfold pL at e;split at e
 ·rename_i n ns hi;cases e;!c:=cQ hi;subst c;!E:=bO vd;subst E;rcases rL sq with sq |sq
  ·&.inl ⟨a,n::ns,rfl,sq,by simp,q m H _ (Aft.refl R) bg⟩
  ·&.inr ⟨a,n::ns,rfl,sq,by simp,q m H _ (Aft.refl R) bg⟩
 ·cases e
abbrev ul(T:Bool)(d:List D)(S:Sto):Option (D × Sto):=match T,cP d with
 |false,aw ns=>aw (.int (WW ns),S)
 |_,_=>aD
def Ao(j:X.calm=aN):aV X (.builtin "sum") (λxs H Q=>∃ (a:Addr) (ns:List Int),xs=[.ref a]/\SqL X.K H a (ns.map V.int)/\Q (.int (WW ns)) H):=by
 intro p s C H xs U Q I r h;#{a,ns,rfl,l,q}:=h;#{u,rfl,z}:=bQ r;cases z;#{k,n,f,E}:=I.list l;!hi:=bv n;!c:=f.isList;#{y,e}:=hi.allInts.items
 !b:ns=y.toList.map (·.1):=by
  !v:=hi.numsOf;rw[<-ZaC,<-e];&v.symm
 rw[e] at c;~sum_intListG (I.ok.hd j) c λB J T d=>⟨.int (WW ns),H,I.kept d,⟨T,?_⟩,q⟩;rw[preSum_eq,b,Yd (by rw[Za,Zu];&Zf _)]
def Ap(f:X.calm=aN):aV X (.builtin "sum") (r1 (rSq X.K ul)):=by
 ~aV.imp (Ao f) λk H Q h=>?_;#{_,rfl,m,S,T,l,a,v,d,j,R,rfl,b,vd,e,q}:=ca h;unfold ul at e;split at e
 ·rename_i ns hi;cases e;!c:=cQ hi;subst c;!E:=bO vd;subst E;&{a,ns,rfl,b,q m H _ (Aft.refl R) bg}
 ·cases e
end
def Cu(a d:Value):argsOk "max" ⟨[a],[(Str.ofString "default", d)]⟩:=by unfold argsOk;kernel_rfl
section
variable {prog:Program} {w:World} {A:Around} {R:Result->Shared->Prop} {I S:Addr} {fp wr:List Addr} {n:Nat} {P:Nat->Value->Prop} {St:Nat->Heap->Prop} {bt:Nat->Nat->Bool} {kw:List (Str × Value)}
def yq:(toString "max" ++ toString ".loop" : String) = "max.loop" := by decide
def nG(W:Walks prog w A.in1 I fp wr n P St)(E:CmpOf prog w A.in1 .Gt P bt)(u:S ∉ fp):∀ (m i:Nat) (s:Shared) (b:Value) (c:Nat),i+1+m=n->St (i+1) s.heap->P (argBest bt i) b->s.heap.get? S=aw { cls:=.type "list", dict:=aD,data:=.seq #[b,b] c,slots:=#[] } ->
  (∀v h' y,P (argBest bt (n - 1)) v->(∀a o,a ∉ wr->a ≠ S->s.heap.get? a=aw o->h'.get? a=aw o)->R (.ok (.ret v)) { s with heap:=h',toks:=y })->codeAny (model prog w) A (.builtin "max.loop" ⟨[.ref I,.none,.ref S],kw⟩) R s
 |0,i,s,b,c,e,st,pb,gs,r=>by
  !C:S ∉ wr:=λh=>u (W.sub _ h);~Zai Vn ?_;rw[Around.under_plainId Vu _];show wpAny _ A.in1 (ZaM (.ref S) >>= _) _ _ s;~Za0 (Zbt gs rfl ?_);show wpAny _ A.in1 (tryCatch (pyNext (.ref I)) _ >>= _) _ _ s;~Za0 (Zby (W.done s _ _ (by rw[<-e];&st) λh' y l=>?_));show wpAny _ A.in1 (ZaX S (λ_=>#[]) >>= _) _ _ _;~Za0 (ZbB (l S _ C gs) rfl (Za0 (Zbc (Zbl ?_))));&r b _ y (by rw[<-e];&pb) λa o j k z=>(ZO _ _ (Ne.symm k)).trans (l a o j z)
 |m+1,i,s,b,c,e,st,pb,gs,r=>by
  !C:S ∉ wr:=λh=>u (W.sub _ h);~Zai Vn ?_;rw[Around.under_plainId Vu _];show wpAny _ A.in1 (ZaM (.ref S) >>= _) _ _ s;~Za0 (Zbt gs rfl ?_);show wpAny _ A.in1 (tryCatch (pyNext (.ref I)) _ >>= _) _ _ s;~Za0 (Zby (W.item (i+1) s _ _ (by lia) st λv h' y L q l=>?_));!f:=l S _ C gs;show wpAny _ A.in1 (tryCatch (holding [v,v] (ZaI .Gt v b >>= _)) _ >>= _) _ _ _;~Za0 (Zby (Za9 (Za0 (E (i+1) (argBest bt i) v b _ _ _ L pb ?_))));~Za0 (Za9 (Zbx ?_));~Za0 (Zbc (Zbl ?_));cases hb:bt (i+1) (argBest bt i) with
  |true=>
   simp only[if_true];~Za0 (ZbB f rfl (Za0 (Zbc ?_)));rw[yq];~Zbl ⟨ZaE Vu _,nG W E u m (i+1) _ v _ (by lia) (W.frame _ _ _ q λa af o z=>?_) (by simp only[argBest,hb,if_true];&L) (Z5 _ f rfl) λJ d T p B=>?_⟩
   ·&(ZO _ _ (λz:S=a=>u (by rw[z];&af))).trans z
   ·&r J d T p λa o j k z=>B a o j k ((ZO _ _ (Ne.symm k)).trans (l a o j z))
  |false=>
   simp only[ZN,if_false];~Za0 (Zbc ?_);rw[yq];~Zbl ⟨ZaE Vu _,nG W E u m (i+1) _ b c (by lia) q (by simp only[argBest,hb,ZN,if_false];&pb) f λJ d T p B=>?_⟩;&r J d T p λa o j k z=>B a o j k (l a o j z)
def Aq(W:Walks prog w A.in1 I fp wr n P St)(C:CmpOf prog w A.in1 .Gt P bt)(j:S ∉ fp)(L:0 < n){c:Nat}(st:St 0 s.heap)(gs:s.heap.get? S=aw { cls:=.type "list", dict:=aD,data:=.seq #[] c,slots:=#[] })
  (r:∀v h' q,P (argBest bt (n - 1)) v->(∀a o,a ∉ wr->a ≠ S->s.heap.get? a=aw o->h'.get? a=aw o)->R (.ok (.ret v)) { s with heap:=h',toks:=q }):codeAny (model prog w) A (.builtin "max.loop" ⟨[.ref I,.none,.ref S],kw⟩) R s:=by
 !B:S ∉ wr:=λh=>j (W.sub _ h);~Zai Vn ?_;rw[Around.under_plainId Vu _];show wpAny _ A.in1 (ZaM (.ref S) >>= _) _ _ s;~Za0 (Zbt gs rfl ?_);show wpAny _ A.in1 (tryCatch (pyNext (.ref I)) _ >>= _) _ _ s;~Za0 (Zby (W.item 0 s _ _ L st λv h' q J f l=>?_));!b:=l S _ B gs;show wpAny _ A.in1 (ZaX S (λ_=>#[v,v]) >>= _) _ _ _;~Za0 (ZbB b rfl ?_);rw[yq];~Zbl ⟨ZaE Vu _,nG W C j (n - 1) 0 _ v _ (by lia) (W.frame _ _ _ f λa af o z=>?_) J (Z5 _ b rfl) λE d T p y=>?_⟩
 ·&(ZO _ _ (λz:S=a=>j (by rw[z];&af))).trans z
 ·&r E d T p λa o u k z=>y a o u k ((ZO _ _ (Ne.symm k)).trans (l a o u z))
def Cv(W:Walks prog w A.in1 I fp wr 0 P St)(b:S ∉ fp){c:Nat}(st:St 0 s.heap)(gs:s.heap.get? S=aw { cls:=.type "list", dict:=aD,data:=.seq #[] c,slots:=#[] })
  (r:∀h' T,(∀a o,a ∉ wr->s.heap.get? a=aw o->h'.get? a=aw o)->R (.ok (.ret d)) { s with heap:=h',toks:=T }):codeAny (model prog w) A (.builtin "max.loop" ⟨[.ref I,.none,.ref S],[(Str.ofString "default", d)]⟩) R s:=by
 ~Zai Vn ?_;rw[Around.under_plainId Vu _];show wpAny _ A.in1 (ZaM (.ref S) >>= _) _ _ s;~Za0 (Zbt gs rfl ?_);show wpAny _ A.in1 (tryCatch (pyNext (.ref I)) _ >>= _) _ _ s;~Za0 (Zby (W.done s _ _ st λh' T k=>?_));&Za0 (Zbs (Zbl (r h' T k)))
variable {E:Value->Shared->Prop} {s:Shared} {l:Addr} {xs:Array (Int × Tok)}
def Cw(p:A.handled=aD)(y:s.heap.IsList l (Zar xs))
  (z:0 < xs.size->∀v h' T,(Zar xs)[argBest (λi j=>decide (numAt xs i > numAt xs j)) (xs.size - 1)]?=aw v->(∀b o,s.heap.get? b=aw o->h'.get? b=aw o)->Q v { s with heap:=h',toks:=T })
  (B:xs.size=0->∀h' T,(∀b o,s.heap.get? b=aw o->h'.get? b=aw o)->Q d { s with heap:=h',toks:=T }):wpAny (model prog w) A (call (.builtin "max") [.ref l] [(Str.ofString "default", d)]) Q E s:=by
 ~kmb_tree F.kind_max F.plain_max F.entry_max (Cu _ _) ?_;show wpAny _ A.in1 (Builtin.Builtins.bindParams "max" ["key", "default"] 0 ⟨[],[(Str.ofString "default", d)]⟩ >>= _) _ _ s;~Za0 (Zbj (show Builtin.Builtins.bindParams "max" ["key", "default"] 0 ⟨[],[(Str.ofString "default", d)]⟩=pure [aD,aw d] from rfl) ?_);~Za0 (Zbl ?_);~Za0 (iter_intList y λJ e st f L=>?_);subst e;!W:=Walks.list (prog:=prog) (w:=w) (A:=A.in1) p s.heap.objs.size l L (Zar xs);~Za0 (Zbh ?_);!C:∀b ∈ [s.heap.objs.size,l],b < (s.heap.push { cls:=.type "list_iterator", data:=.fields #[.ref l,.int 0 0] }).objs.size:=f;rw[yq];by_cases k:xs.size=0
 ·!u:(Zar xs).size=0:=by simpa[Zar] using k
  rw[u] at W;~Zbl ⟨ZaE Vu _,Cv W (λc=>ZI _ (f _ c)) (W.frame _ _ _ st λb _ o e=>Zc _ e) (Zs _ rfl) λh' T h=>?_⟩;&B k h' T (ZaD λb o hb e=>h b o hb (Zc _ e))
 ·~Zbl ⟨ZaE Vu _,Aq W (CmpOf.ints_gt (numAt xs) (λ_ _=>Zas)) (λc=>ZI _ (f _ c)) (by simp[Zar];lia) (W.frame _ _ _ st λb _ o e=>Zc _ e) (Zs _ rfl) λv h' T q h=>?_⟩;&z (by lia) v h' T (by simpa[Zar] using q) (ZaD λb o hb e=>h b o hb (ZH (Zv e)) (Zc _ e))
end
abbrev pM(c:Int):List Int->Int
 |[]=>c
 |n::ns=>iT (n::ns)
abbrev fY(c:Int)(T:Bool)(d:List D)(S:Sto):Option (D × Sto):=match T,cP d with
 |false,aw ns=>aw (.int (pM c ns),S)
 |_,_=>aD
section
variable {X:Cx} {K:VY} {m:List Addr} {H:Hp} {S:Sto} {e:Expr} {t:TA} {p pos kp vp:Pos} {c:Int} {j:Nat}
def MH(hc:X.calm=aN)(hg:Gl X "max")(hm:X.mg "max" = aD)(J:(("max" : Str) == ("__debug__" : Str))=aS){de:Expr}(hd:PE X de (tC (.int c)))(z:PA X [e] t)(he:ZaQ [e] X.env=(aS,eval e X.env)::ZaQ [] X.env) :
  PE X (.Call (.Name "max" p) [e] [⟨aw "default", de,kp⟩] pos) (tCB (r1 (rSq X.K (fY c))) t):=by
 intro b s B H Q I h;~ZaY (eF I hg hm WZ ?_ (by decide) J);~callWith_kw (thn (z pos b s B H _ I h) λus s1 ⟨vs,O,I1,r,q1⟩=>?_) (by rw[he];rfl) (by rw[he];rfl) rfl rfl;~thn (rd (nm:=aw "default") (kpos:=kp) hd wg pos b s1 B O _ I1 (show cf (tC (.int c)) jl B O (λzs k=>zs=[.int c]/\k=O) from ⟨rfl,rfl⟩)) λks s2 ⟨zs,k,C,rz,ez,eH⟩=>?_;subst ez eH;#{u,rfl,ru}:=bQ rz;#{tk,rfl}:=ru;#{_,rfl,m,S,tu,ds,a,ws,d,S',R,rfl,Z,vd,E,q}:=ca q1;#{u',rfl,U}:=bQ r;cases U;unfold fY at E;split at E
 ·rename_i ns hi;cases E;!ed:=cQ hi;subst ed;!ev:=bO vd;subst ev;!Z:SqL X.K k a (ns.map V.int):=Z;#{its,rv,pl,hz}:=C.list Z;!hi:=bv rv;!hl:=pl.isList;#{y,ey}:=hi.allInts.items
  !f:ns=y.toList.map (·.1):=by
   !h1:=hi.numsOf;rw[<-ZaC,<-ey];&h1.symm
  !l:ns.length=y.size:=by rw[f,Za,Zu]
  rw[ey] at hl;~Cw (C.ok.hd hc) hl (λhsz v h' T hv L=>?_) (λhsz h' T L=>?_)
  ·#{t',rfl}:=Zas hv;#{b1,b2}:=argBest_gt (numAt y) (y.size - 1)
   !et:pM c ns=iT ns:=by
    cases ns with
    |nil=>rw[Z4] at l;lia
    |cons n ns=>rfl
   !Y:∀M:Int,M ∈ ns->(∀a,a ∈ ns->a<=M)->∃x H',Inv X b B H' { s2 with heap:=h',toks:=T }/\aE x (.int M t')/\Q x H':=λM h1 h2=>⟨.int (pM c ns),k,C.kept L,⟨t',by rw[wW h1 h2,et]⟩,q m k _ (Aft.refl R) bg⟩;~Y _ ?_ λa z=>?_
   ·rw[f,ZaB];&getD_mem (by rw[Za,Zu];lia)
   ·rw[f] at z;#{j,hj,rfl}:=mem_getD z;rw[Za,Zu] at hj;rw[<-ZaB];&b2 j (by lia)
  ·!en:ns=[]:=Z1.mp (by lia);subst en;&{.int c,k,C.kept L,⟨tk,rfl⟩,q m k _ (Aft.refl R) bg}
 ·cases E
end
section
variable {X:Cx} {K:VY} {m:List Addr} {H:Hp} {S:Sto}
abbrev cD(d:D)(S:Sto):Bool:=match d with
 |.ref n=>(aR S n).isSome
 |_=>aS
abbrev isTup:D->Bool
 |.tup _=>aN
 |_=>aS
abbrev rQ(c:D->Sto->Bool)(f:D->List D->Sto->Option (D × Sto))(x:XE)(y:XA):XE:=λb S=>bnd (x b S) λd h=>if c d h=aN then bnd (y b h) λk j=>f d k j else aD
abbrev rM(K:VY)(f:D->List D->Sto->Option (D × Sto)):V->List V->Hp->VK->Prop:=λv k H Q=>∃m S a j d b,Rel K m S H/\VD K m H a v/\VDs K m H j k/\f a j S=aw (d,b)/\∀c h u,Aft K m H b c h->VD K c h d u->Q u h
def nI(Y:∀ {m H S d v},Rel K m S H->VD K m H d v->c d S=aN->tyV K T v H)(h:tE K (rQ c f x y) L H Q):tBM K T (rM K f) (tE K x) (tAr K y) L H Q:=by
 #{m,l,S,d,J,E,R,e,q}:=h;#{a,n,Z,e}:=ac e;split at e
 ·rename_i U;#{p,z,C,e}:=ac e;~{m,l,S,a,n,E,R,Z,λm1 H1 v b k=>⟨Y b.rel k U,m1,l,n,p,z,E.mono R b.ext,b.rel,C,λO H2 vs j vb=>?_⟩};&{O,z,a,p,d,J,j.rel,k.mono b.rel j.ext,vb,e,λB H3 u I vd=>q B H3 u ((b.trans j).trans I) vd}
 ·cases e
def Gx(I:∀ {m H S d v},Rel K m S H->VD K m H d v->c d S=aN->tyV K T v H)(h:tE K (rQ c f x z6) z H Q):Rx K T (rM K f) (tE K x) z H Q:=by
 #{m,B,S,d,y,E,R,e,q}:=h;#{a,k,J,e}:=ac e;split at e
 ·rename_i C;#{U,Y,n,e}:=ac e;cases n;&{m,B,S,a,k,E,R,J,λm1 O v b j=>⟨I b.rel j C,m1,k,a,[],d,y,b.rel,j,.nil,e,λl L u p vd=>q l L u (b.trans p) vd⟩}
 ·cases e
def rR(R:Rel K m S H)(vd:VD K m H d v)(h:cD d S=aN):tyV K "list" v H:=by
 cases d with
 |ref n=>
  simp only[cD] at h;#{k,hs}:=Yq.mp h;#{p,j,f,c,vds}:=R.seq hs;#{l,b,rfl}:=vd.refs;rw[f] at b;cases b;&.inl ⟨rfl,j,c⟩
 |_=>cases h
def Cy(R:Rel K m S H)(vd:VD K m H d v)(h:(λd (_:Sto)=>isTup d) d S=aN):tyV K "tuple" v H:=by
 cases d with
 |tup f=>
  #{a,c,rfl,b,_}:=vd.tups;&.inr (.inl ⟨rfl,.inr ⟨c,b⟩⟩)
 |_=>cases h
abbrev chg(n:Nat)(S:Sto)(f:List D->Option (D × List D)):Option (D × Sto):=match S[n]? with
 |some (.lst ds)=>(f ds).map λr=>(r.1,S.set n (.lst r.2))
 |_=>aD
def jD{n:Nat}(h:chg n S f=aw (d,k)):∃b E,S[n]?=aw (.lst b)/\f b=aw (d,E)/\k=S.set n (.lst E):=by
 unfold chg at h;cases j:S[n]? with
 |none=>rw[j] at h;cases h
 |some o=>
  rw[j] at h;cases o with
  |lst b=>
   dsimp only at h;cases c:f b with
   |none=>rw[c] at h;cases h
   |some r=>rw[c] at h;cases h;&{b,r.2,rfl,c,rfl}
  |_=>cases h
abbrev rV(d:D)(c:List D)(S:Sto):Option (D × Sto):=match d,c with
 |.ref n,[e]=>chg n S λb=>if b.length < 100000 then aw (.non,b++[e]) else aD
 |_,_=>aD
abbrev wX(d:D)(c:List D)(S:Sto):Option (D × Sto):=match d,c with
 |.ref n,[]=>chg n S λb=>(b[b.length - 1]?).map λx=>(x,b.dropLast)
 |_,_=>aD
abbrev iU(d:D)(c:List D)(S:Sto):Option (D × Sto):=match d,c with
 |.ref n,[.int i]=>chg n S λb=>match ixN b.length i with
  |some k=>(b[k]?).map λx=>(x,b.eraseIdx k)
  |none=>aD
 |_,_=>aD
def nJ{n:Nat}(R:Rel K m S H)(vd:VD K m H (.ref n) v)(d:S[n]?=aw (.lst f)):∃a vs,v = .ref a/\m[n]?=aw a/\H a=aw (.lst vs)/\VDs K m H f vs:=by
 #{a,vs,b,c,q}:=R.lst d;#{j,h,e}:=vd.refs;rw[b] at h;cases h;&{a,vs,e,b,c,q}
def fj{n:Nat}(R:Rel K m S H)(h:m[n]?=aw a)(vd:VDs K m H E b):Aft K m H (S.set n (.lst E)) m (upd H a (.lst b)):=let ⟨x,y⟩:=R.write h vd;⟨x,y⟩
def MI:MtR X "list.append" (rM X.K rV):=by
 intro b s C H x u v U Q I E j h;~qg b s C H x u v U Q I E j ?_;#{m,S,a,as,d,Y,R,B,J,e,q}:=h;unfold rV at e;split at e
 ·rename_i n z;#{ds,T,k,c,rfl}:=jD e;split at c
  ·rename_i Z;cases c;#{p,L,rfl,f,O,vds}:=nJ R B k;#{y,rfl,l}:=Gu J;~{p,L,y,rfl,rfl,O,by rw[ZaO,<-vds.length];lia,q m _ _ (fj R f (vds.append (.cons l .nil))) kh}
  ·cases c
 ·cases e
def Gy(h:VDs K m H d b)(e:d[d.length - 1]?=aw x):∃v,b[b.length - 1]?=aw v/\VD K m H x v:=by rw[<-h.length];&h.get e
def nK:∀ {b:List D} {v:List V} (k:Nat),VDs K m H b v->VDs K m H (b.eraseIdx k) (v.eraseIdx k)
 |[],v,k,h=>by rw[VDs] at h;subst h;&.nil
 |d::b,v,0,h=>by
  rw[VDs] at h;#{y,r,rfl,p,q}:=h;&q
 |d::b,v,k+1,h=>by
  rw[VDs] at h;#{y,r,rfl,p,q}:=h;&.cons p (nK k q)
def um(h:VDs K m H d v):VDs K m H d.dropLast v.dropLast:=by
 rw[<-iM,<-iM,<-h.length];&nK _ h
def Gz:MtR X "list.pop" (rM X.K wX):=by
 intro b s L H x E v U Q I O u h;~L8 b s L H x E v U Q I O u ?_;#{m,S,a,as,d,S',R,J,j,e,q}:=h;unfold wX at e;split at e
 ·rename_i n;#{k,es,B,c,rfl}:=jD e;cases f:k[k.length - 1]? with
  |none=>rw[f] at c;cases c
  |some z=>
   rw[f] at c;cases c;#{p,Y,rfl,l,Z,vds}:=nJ R J B;rw[VDs] at j;subst j;#{y,T,C}:=Gy vds f;!A:=fj R l (um vds);&{p,Y,y,rfl,rfl,Z,T,q m _ _ A (C.mono R A.ext)}
 ·cases e
def Ar:MtR X "list.pop" (rM X.K iU):=by
 intro c s T H x L v us Q I U C h;~BR c s T H x L v us Q I U C ?_;#{m,S,a,as,d,S',R,O,vs,e,q}:=h;unfold iU at e;split at e
 ·rename_i n i;#{u,es,E,b,rfl}:=jD e;cases f:ixN u.length i with
  |none=>rw[f] at b;cases b
  |some k=>
   rw[f] at b;dsimp only at b;cases j:u[k]? with
   |none=>rw[j] at b;cases b
   |some z=>
    rw[j] at b;cases b;#{p,ws,rfl,B,l,vds}:=nJ R O E;#{y,rfl,vi}:=Gu vs;cases vi.ints;#{y,Z,J}:=vds.get j;!A:=fj R B (nK k vds);#{h1,h2,h3,h4}:=re f;!Y:=(I.lst l).choose_spec.choose_spec.2.2;!hle:=vds.length;rw[ZaO] at Y;&{p,ws,i,k,y,rfl,rfl,l,by lia,by lia,by rw[<-vds.length];&h1,Z,q m _ _ A (J.mono R A.ext)}
 ·cases e
abbrev wY(d:D)(b:List D)(S:Sto):Option (D × Sto):=match d,b with
 |.tup ds,[x]=>if cN x=aN/\ds.all cN=aN then aw (.int (ds.countP λz=>eqF z x:Nat),S) else aD
 |_,_=>aD
def GA:MtR X "tuple.count" (rM X.K wY):=by
 intro b s n H x k v U Q I u j h;~z4 X.K rfl b s n H x k v U Q I u j ?_;#{m,S,a,O,d,J,R,l,B,e,q}:=h;unfold wY at e;split at e
 ·rename_i L z;split at e
  ·rename_i c;cases e;#{p,C,rfl,E,vds}:=l.tups;#{y,rfl,f}:=Gu B;&{p,C,y,rfl,rfl,.of E,mf f c.1,jz vds c.2,q m H _ (Aft.refl R) (by rw[qp f c.1 vds c.2];&bg)}
  ·cases e
 ·cases e
abbrev ko(o i v:D)(S:Sto):Option Sto:=match o,i with
 | .ref n,.int k=>(match S[n]? with
  |some (.lst ds)=>(ixN ds.length k).map λj=>S.set n (.lst (ds.set j v))
  | _=>aD)
 |o,i=>Cg o i v S
abbrev RK(K:VY):FK:=λo i v H Q=>∃m S a b c d,Rel K m S H/\VD K m H a o/\VD K m H b i/\VD K m H c v/\ko a b c S=aw d/\∀f h,Aft K m H d f h->Q h
def RL(hu:X.A.units+64 < cLine):LI X (RK X.K):=by
 intro f s U H o i v ov iv u Q I L O J h;#{m,S,a,b,c,S',R,z,C,y,e,q}:=h;unfold ko at e;split at e
 ·rename_i n k;cases d:S[n]? with
  |none=>rw[d] at e;cases e
  |some ob=>
   rw[d] at e;cases ob with
   |lst B=>
    dsimp only at e;cases l:ixN B.length k with
    |none=>rw[l] at e;cases e
    |some j=>
     rw[l] at e;cases e;#{p,ws,rfl,T,hH,vds}:=nJ R z d;cases C.ints;&BP f s U H _ _ v ov iv u Q I L O J ⟨p,ws,k,j,rfl,rfl,hH,by rw[<-vds.length];&l,q m _ (fj R T (vds.set y))⟩
   |_=>cases e
 ·#{k,n,kss,B,Y,rfl,d,Z,rfl}:=z8 e;#{a,b,E,rfl,rfl,g,A}:=Gk R Y d Z C z y;cases L;cases O;&zZ (show X.A.units+2 < cLine by lia) I g rfl J λs' I'=>⟨E,I',q m E A⟩
mutual
noncomputable def fZ(t:D->Option Dw.D):List D->Option (List Dw.D)
 |[]=>aw []
 |d::ds=>match t d,fZ t ds with
  |some x,aw xs=>aw (x::xs)
  |_,_=>aD
end
abbrev dS:Nat->Sto->D->Option Dw.D
 |0,_,_=>aD
 |n+1,S,d=>match d with
  |.non=>aw .non
  |.bl b=>aw (.bl b)
  |.int i=>aw (.int i)
  |.str x=>aw (.str x)
  |.tup ds=>(fZ (dS n S) ds).map .tup
  | .ref k=>(match S[k]? with
   |some (.lst ds)=>(fZ (dS n S) ds).map .lst
   | _=>aD)
def nM(k:∀d x v,t d=aw x->VD K m H d v->Dw.Br [] H x v):∀ {c:List D} {xs:List Dw.D} {b:List V},fZ t c=aw xs->VDs K m H c b->Dw.BrL [] H xs b
 |[],xs,b,e,h=>by rw[VDs] at h;simp only[fZ] at e;cases e;rw[h,Dw.BrL]
 |d::c,xs,b,e,h=>by
  rw[VDs] at h;#{y,r,rfl,p,q}:=h;simp only[fZ] at e;cases f:t d with
  |none=>rw[f] at e;cases e
  |some x=>
   cases j:fZ t c with
   |none=>rw[f,j] at e;cases e
   |some Y=>
    rw[f,j] at e;cases e;rw[Dw.BrL];&{y,r,rfl,k _ _ _ f p,nM k j q}
def rX(R:Rel K m S H):∀ (n:Nat) (d:D) (x:Dw.D) (v:V),dS n S d=aw x->VD K m H d v->Dw.Br [] H x v
 |0,_,_,_,e,_=>by simp[dS] at e
 |n+1,d,x,v,e,h=>by
  cases d with
  |non=>simp only[dS] at e;cases e;rw[Dw.Br];&h.nons
  |bl _=>simp only[dS] at e;cases e;rw[Dw.Br];&h.bls
  |int _=>simp only[dS] at e;cases e;rw[Dw.Br];&h.ints
  |str _=>simp only[dS] at e;cases e;rw[Dw.Br];&h.strs
  |tup c=>
   simp only[dS] at e;cases b:fZ (dS n S) c with
   |none=>rw[b] at e;cases e
   |some z=>
    rw[b] at e;cases e;#{a,j,rfl,y,p}:=h.tups;rw[Dw.Br];&{a,j,rfl,y,nM (rX R n) b p}
  |ref k=>
   simp only[dS] at e;#{a,u,rfl}:=h.refs;cases l:S[k]? with
   |none=>rw[l] at e;cases e
   |some o=>
    rw[l] at e;#{C,f,r}:=R.ob k o l;rw[u] at f;cases f;cases o with
    |lst c=>
     dsimp only at e;cases b:fZ (dS n S) c with
     |none=>rw[b] at e;cases e
     |some z=>
      rw[b] at e;cases e;#{j,B,p}:=r;rw[Dw.Br];&{a,j,rfl,by simp,B,nM (rX R n) b p}
    |frz c=>cases e
    |dic ks c=>cases e
    |tbl T p q=>cases e
    |dfz ks c=>cases e
open Classical in
abbrev nP(d:D)(S:Sto):Option (D × Sto):=match dS 100 S d with
 |some t=>if Dw.Shn t then aw (.str (Dw.bc t).shown,S) else aD
 |none=>aD
def wZ{k:Nat}(c:Room k X.A):aV X (.builtin "repr") (r1 (rS1 X.K nP)):=by
 ~aV.imp (Dw.wx c) λf H Q h=>?_;#{x,rfl,m,S,a,d,j,R,v,e,q}:=ca h;unfold nP at e;cases b:dS 100 S a with
 |none=>rw[b] at e;cases e
 |some t=>
  rw[b] at e;dsimp only at e;split at e
  ·rename_i hs;cases e;&{x,[],t,rfl,rX R 100 a t x b v,hs,q m H _ (Aft.refl R) nh}
  ·cases e
end
section
variable {X:Cx} {K:VY} {m:List Addr} {H:Hp} {S:Sto}
abbrev kZ{α:Type}(xs:List α)(k:Nat)(y:α):List α:=xs.take k++y::xs.drop k
def MJ:MtM X "list.insert" (λx j H Q=>∃l xs i y,x = .ref l/\j=[.int i,y]/\H l=aw (.lst xs)/\0<=i/\i<=100000/\xs.length < sizeLine/\Q .non (upd H l (.lst (kZ xs (min i.toNat xs.length) y)))):=by
 intro p s O H x j v U Q I B c h;#{l,xs,i,y,rfl,rfl,k,L,Y,T,q}:=h;cases B;cases c with
 |cons E c=>
  #{u,rfl,J}:=aJ.one (show aJ [y] _ from c);#{t,rfl}:=E;#{z,b,n,r,C,e}:=I.lstM k
  !f:¬ (!Builtin.List.listFitsIndex i)=aN:=by
   unfold Builtin.List.listFitsIndex;simp;omega
  ~Zae Vz ⟨_,e,rfl⟩ F.entry_list_insert (F.args_list_insert_3 _ _ _) (PySem.AutoListH.list_insert_list_int_val_1 l b.toArray n i t u f (by rw[Zk];omega)) ⟨e,?_⟩;!d:xs.length=b.length:=C;~{.non,_,I.lset (its':=kZ b (min i.toNat b.length) u) k e ?_ ?_ ?_,rfl,q}
  ·simp only[if_neg (show ¬ i < 0 by omega),Zk];unfold kZ;simp[Yk];rw[Yd (by rw[YI];omega)]
  ·rw[d];&aJ.append (aJ.take _ r) (.cons J (aJ.drop _ r))
  ·unfold kZ;rw[Ze,Zo,Yi,YI];omega
abbrev w4(d:D)(c:List D)(S:Sto):Option (D × Sto):=match d,c with
 |.ref n,[.int i,e]=>if 0<=i/\i<=100000 then chg n S λb=>if b.length < 100000 then aw (.non,kZ b (min i.toNat b.length) e) else aD else aD
 |_,_=>aD
def ML(k:Nat)(h:VDs K m H d v)(b:VD K m H x y):VDs K m H (kZ d k x) (kZ v k y):=(h.take k).append (.cons b (h.drop k))
def GC:MtR X "list.insert" (rM X.K w4):=by
 intro b s B H x l v U Q I C j h;~MJ b s B H x l v U Q I C j ?_;#{m,S,a,as,d,Z,R,u,E,e,q}:=h;unfold w4 at e;split at e
 ·rename_i n i z;split at e
  ·rename_i hi;#{ds,Y,k,c,rfl}:=jD e;split at c
   ·rename_i hl;cases c;#{p,J,rfl,f,L,vds}:=nJ R u k;#{y1,y,rfl,T,O}:=wM E;cases T.ints;~{p,J,i,y,rfl,rfl,L,hi.1,hi.2,by rw[ZaO,<-vds.length];omega,?_};rw[<-vds.length];&q m _ _ (fj R f (ML _ vds O)) kh
   ·cases c
  ·cases e
 ·cases e
end
@[inline]abbrev Nxt:=Nat->Sto->Option (Option D)
@[inline]abbrev XI:=Rho->Sto->Option (Nxt × Sto)
structure ExtB(B:List Addr)(m:List Addr)(H:Hp)(m':List Addr)(H':Hp):Prop where
 pre:m <+: m'
 keep:∀a o,H a=aw o->a ∉ m->a ∉ B->H' a=aw o
 new:∀a,a ∈ m'->a ∉ m->H a=aD
 nb:∀b,b ∈ B->b ∉ m'
abbrev AtB(B:List Addr)(m:List Addr)(H:Hp):Prop:=∀b,b ∈ B->(∃v,H b=aw (.lst v))/\b ∉ m
def Ext.toB(c:AtB B m H)(x:Ext m H d H'):ExtB B m H d H':=⟨x.pre,λa o h n _=>x.keep a o h n,x.new,λb hb z=>by
 #{⟨v,e⟩,n}:=c b hb;!:=x.new b z n;rw[e] at this;cases this⟩
def ExtB.trans(x:ExtB B m H m1 c)(y:ExtB B m1 c d H2):ExtB B m H d H2:=by
 ~{x.pre.trans y.pre,λa o h n nb=>?_,λa h n=>?_,y.nb}
 ·!f:a ∉ m1:=λz=>by !:=x.new a z n;rw[this] at h;cases h
  &y.keep a o (x.keep a o h n nb) f nb
 ·by_cases b:a ∈ m1
  ·&x.new a b n
  ·cases e:H a with
   |none=>rfl
   |some o=>
    by_cases hb:a ∈ B
    ·&absurd h (y.nb a hb)
    ·!:=x.keep a o e n hb;rw[y.new a h b] at this;cases this
def AtB.ext(h:AtB B m H)(x:Ext m H c H'):AtB B c H':=λb hb=>by
 #{⟨v,e⟩,n}:=h b hb;&{⟨v,x.keep _ _ e n⟩,(x.toB h).nb b hb}
abbrev IOk(K:VY)(B:List Addr)(J:It)(nx:Nxt)(m0:List Addr)(b:Hp):Prop:=∀ (m:List Addr) (S:Sto) (H:Hp) (i:Nat),ExtB B m0 b m H->Rel K m S H ->
 (nx i S=aw aD->J.stop i H)/\(∀d,nx i S=aw (aw d)->J.go i H/\∀x h,J.yld i H x h->Aft K m H S m h/\VD K m h d x)
abbrev tIt(K:VY)(B:List Addr)(x:XI):TI:=λf H R=>∃m c S nx b,EnvR K m H c f/\Rel K m S H/\AtB B m H/\x c S=aw (nx,b)/\∀d h J,Aft K m H b d h->IOk K B J nx d h->R J h
abbrev nxL(d:List D):Nxt:=λi _=>aw d[i]?
abbrev nxS(n:Nat):Nxt:=λi S=>(aR S n).map λd=>d[i]?
abbrev nxR(lo:Int)(n:Nat):Nxt:=λi _=>aw (if i < n then aw (.int (lo+i)) else aD)
abbrev qm(i:Nat)(d:D):D:=.tup [.int i,d]
abbrev enm(d:List D)(i:Nat):Option (Option D):=if i<=d.length then aw (d[i]?.map (qm i)) else aD
abbrev GD(d:List D):Nxt:=λi _=>enm d i
section
variable {X:Cx} {K:VY} {m B:List Addr} {H:Hp} {S:Sto}
def GF(R:Rel K m0 d b)(c:AtB B m0 b)(x:ExtB B m0 b m H)(h:b a=aw (.tup xs)):H a=aw (.tup xs):=x.keep _ _ h (R.notTup h) λz=>by
 #{⟨v,e⟩,_}:=c a z;rw[e] at h;cases h
def VDs.monoB(R:Rel K m0 f b)(c:AtB B m0 b)(x:ExtB B m0 b m H)(h:VDs K m0 b d vs):VDs K m H d vs:=VDs.mono0 x.pre (λ_ _=>GF R c x) h
def VD.monoB(R:Rel K m0 f b)(c:AtB B m0 b)(x:ExtB B m0 b m H)(h:VD K m0 b d v):VD K m H d v:=VD.mono0 x.pre (λ_ _=>GF R c x) h
def EnvR.monoB(R:Rel K m0 j b)(f:AtB B m0 b)(x:ExtB B m0 b m H)(h:EnvR K m0 b c σ):EnvR K m H c σ:=
 ⟨h.len,λi d e=>let ⟨v,p,q⟩:=h.at_ i d e;⟨v,p,VD.monoB R f x q⟩⟩
def uo(h:∀m S H i o,ExtB B m0 H0 m H->Rel K m S H->nx i S=aw o->∃f b,o=f[i]?/\SqL K H a b/\VDs K m H f b):IOk K B (Itl K a) nx m0 H0:=by
 intro m S H i x R;~{λe=>?_,λd e=>?_}
 ·#{f,b,E,c,vd}:=h m S H i _ x R e;&{b,c,by rw[<-vd.length];&Z3.mp E.symm}
 ·#{f,b,E,c,vd}:=h m S H i _ x R e;#{v,j,k}:=vd.get E.symm;~{⟨b,v,c,j⟩,λy p ⟨l,n⟩=>?_};subst l;!:=n b c;rw[j] at this;cases this;&{Aft.refl R,k}
def GG(j:Rel K m0 u H0)(h:AtB B m0 H0)(k:H0 a=aw (.tup vs))(vd:VDs K m0 H0 n vs):IOk K B (Itt K a) (nxL n) m0 H0:=by
 intro m S H i x R;!b:SqT K H a vs:=.of (GF j h x k);!c:=vd.monoB j h x;~{λe=>⟨vs,b,?_⟩,λd e=>?_}
 ·rw[<-c.length];&Z3.mp (Option.some.inj e)
 ·#{v,f,l}:=c.get (Option.some.inj e);~{⟨vs,v,b,f⟩,λy q ⟨E,p⟩=>?_};subst E;!:=p vs b;rw[f] at this;cases this;&{Aft.refl R,l}
def yr{lo:Int}{n:Nat}:IOk K B (Itr lo n) (nxR lo n) m0 H0:=by
 intro m S H i x R;unfold nxR;~{λe=>?_,λd e=>?_}
 ·split at e
  ·cases e
  ·show n<=i;lia
 ·split at e
  ·rename_i hi;cases e;&{hi,λy b ⟨E,h⟩=>by subst E;subst h;&{Aft.refl R,bg}}
  ·cases e
def GH(h:∀m S H i o,ExtB B m0 H0 m H->Rel K m S H->nx i S=aw o->∃c b,enm c i=aw o/\j K H a b/\VDs K m H c b):IOk K B (Ite K a j) nx m0 H0:=by
 intro m S H i x R;~{λe=>?_,λd e=>?_}
 ·#{c,b,E,f,vd}:=h m S H i _ x R e;unfold enm at E;split at E
  ·rename_i I;~{b,f,?_};rw[<-vd.length];cases hd:c[i]? with
   |none=>have:=Z3.mp hd;lia
   |some z=>rw[hd] at E;cases E
  ·cases E
 ·#{c,b,E,f,vd}:=h m S H i _ x R e;unfold enm at E;split at E
  ·cases hd:c[i]? with
   |none=>rw[hd] at E;cases E
   |some z=>
    rw[hd] at E;cases E;#{v,l,p}:=vd.get hd;~{⟨b,v,f,l⟩,λy J ⟨T,k,C,u⟩=>?_};subst C;!q:=u b v f l;subst q;!n:=Ext.beside R k (.tup [.int i,v]);&{⟨n,R.beside k _⟩,iS az (.cons bg (.cons (p.mono R n) .nil))}
  ·cases E
abbrev Vg(d:D):Option Nxt:=match d with
 |.tup ds=>aw (nxL ds)
 |.ref n=>aw (nxS n)
 |_=>aD
abbrev xIV(x:XE):XI:=λc S=>bnd (x c S) λd b=>match d with
 |.tup ds=>aw (nxL ds,b)
 |.ref n=>if (aR b n).isSome=aN then aw (nxS n,b) else aD
 |_=>aD
abbrev xIT(x:XA):XI:=λb S=>bnd (x b S) λd c=>aw (nxL d,c)
abbrev xEV(x:XE):XI:=λb S=>bnd (x b S) λd c=>match d with
 |.tup ds=>aw (GD ds,c)
 |_=>aD
abbrev lim(i:Int):Bool:=decide (-(2 ^ 62)<=i) && decide (i < 2 ^ 62)
abbrev xR1(x:XE):XI:=λb S=>bnd (x b S) λd c=>match d with
 |.int j=>if lim j=aN then aw (nxR 0 j.toNat,c) else aD
 |_=>aD
abbrev xR2(x y:XE):XI:=λb S=>bnd (x b S) λd f=>bnd (y b f) λe c=>match d,e with
 |.int i,.int j=>if lim i=aN/\lim j=aN then aw (nxR i (j - i).toNat,c) else aD
 |_,_=>aD
def gy{i:Int}(h:lim i=aN):-(2 ^ 62)<=i/\i < 2 ^ 62:=by simpa[lim] using h
def yt{n:Nat}(b:m0[n]?=aw a)(x:m0 <+: m)(R:Rel K m S H)(hs:aR S n=aw d):∃vs,SqL K H a vs/\VDs K m H d vs:=by
 #{p,vs,h,c,vd}:=R.seq hs;!:=ma x b;rw[this] at h;cases h;&{vs,c,vd}
def UG(b:AtB B m H)(h:H a=aD):a ∉ B:=λz=>by
 #{⟨v,e⟩,_}:=b a z;rw[h] at e;cases e
def UH(h:tIt K B (xIV x) C H R):BE K (tE K x) C H R\/Rg K (tE K x) C H R:=by
 #{m,I,S,nx,S',E,L,Y,e,q}:=h;#{d,S1,J,e}:=ac e;cases d with
 |tup U=>
  cases e;~.inr ⟨m,I,S,_,_,E,L,J,λm1 k v b vd=>?_⟩;#{a,p,rfl,f,vds}:=vd.tups;&{a,rfl,⟨p,.of f⟩,q m1 k _ b (GG b.rel (Y.ext b.ext) f vds)}
 |ref n=>
  dsimp only at e;split at e
  ·rename_i hs;cases e;~.inl ⟨m,I,S,_,_,E,L,J,λm1 k v b vd=>?_⟩;#{a,z,rfl}:=vd.refs;#{U,y}:=Yq.mp hs;#{p,f,vds}:=yt z (Yp _) b.rel y;~{a,rfl,⟨p,f⟩,q m1 k _ b (uo λm2 Z H2 i o Q R2 c=>?_)};unfold nxS at c;cases j:aR Z n with
   |none=>rw[j] at c;cases c
   |some O=>
    rw[j] at c;cases c;#{T,u,l}:=yt z Q.pre R2 j;&{O,T,rfl,u,l}
  ·cases e
 |_=>cases e
def UI(h:tIt K B (xIT x) k H R):BE K (jx K x) k H R:=by
 #{m,l,S,nx,J,E,C,f,e,q}:=h;#{y,O,u,e}:=ac e;cases e;~{m,l,S,_,_,E,C,u,λm1 p a v b d n I z vd=>⟨a,rfl,⟨v,.of d⟩,q m1 p _ b (uo λL T Q i o c R2 j=>?_)⟩};cases j;&{y,v,rfl,.of (c.keep _ _ d n (UG f z)),vd.monoB b.rel (f.ext b.ext) c}
def RM(h:tIt K B (xEV x) n H R):RD K (cf (tE K x) jl) n H R:=by
 #{m,p,S,nx,I,E,C,k,e,q}:=h;#{d,L,y,e}:=ac e;cases d with
 |tup z=>
  cases e;~{m,p,S,_,_,E,C,y,λm1 u v b vd=>?_};#{a,c,rfl,j,vds}:=vd.tups;~{a,c,rfl,.of j,q m1 u _ b (GH λJ Q O i o f R2 l=>⟨z,c,l,.of (GF b.rel (k.ext b.ext) f j),vds.monoB b.rel (k.ext b.ext) f⟩)}
 |_=>cases e
def RN(h:tIt K B (xR1 x) l H R):Kj (cf (tE K x) jl) l H R:=by
 #{m,n,S,nx,y,E,p,z,e,q}:=h;#{d,u,k,e}:=ac e;~{m,n,S,d,u,E,p,k,λm1 c v f vd=>?_};cases d with
 |int j=>
  dsimp only at e;split at e
  ·rename_i b;cases e;&{j,by rw[vd.ints],(gy b).1,(gy b).2,q m1 c _ f yr}
  ·cases e
 |_=>cases e
def RO(h:tIt K B (xR2 x y) z H R):Kk (cf (tE K x) (cf (tE K y) jl)) z H R:=by
 #{m,k,S,nx,Q,E,n,U,e,q}:=h;#{d,l,L,e}:=ac e;#{c,O,u,e}:=ac e;~{m,k,S,d,l,E,n,L,λm1 T v f vd=>⟨m1,k,l,c,O,E.mono n f.ext,f.rel,u,λI J w C p=>?_⟩};cases d with
 |int i=>
  cases c with
  |int j=>
   dsimp only at e;split at e
   ·rename_i b;cases e;&{i,j,by rw[vd.ints,p.ints],⟨(gy b.1).1,(gy b.1).2,(gy b.2).1,(gy b.2).2⟩,q I J _ (f.trans C) yr}
   ·cases e
  |_=>cases e
 |_=>cases e
inductive Tg where
 |name (i:Nat) |tup (ts:List Tg)
mutual
noncomputable def aA:Tg->D->Rho->Option Rho
 |.name i,d,ρ=>if i < ρ.length then aw (ρ.set i (aw d)) else aD
 |.tup ts,.tup ds,ρ=>aO ts ds ρ
 |_,_,_=>aD
noncomputable def aO:List Tg->List D->Rho->Option Rho
 |[],[],ρ=>aw ρ
 |t::ts,d::ds,ρ=>match aA t d ρ with
  |some b=>aO ts ds b
  |none=>aD
 |_,_,_=>aD
end
abbrev tTg(K:VY)(t:Tg):TG:=λx h H Q=>∃m S f d c,Rel K m S H/\EnvR K m H f h/\VD K m H d x/\aA t d f=aw c/\∀b,EnvR K m H c b->Q b H
abbrev Cz(K:VY)(T:List Tg):TGs:=λj h H Q=>∃m S d f c,Rel K m S H/\EnvR K m H d h/\VDs K m H f j/\aO T f d=aw c/\∀b,EnvR K m H c b->Q b H
def EnvR.set{i:Nat}(E:EnvR K m H f c)(h:VD K m H d v):EnvR K m H (f.set i (aw d)) (c.set i (aw v)):=by
 ~{by simp[E.len],λj l e=>?_};rw[YC] at e;rw[YC,<-E.len];by_cases b:i=j
 ·rw[if_pos b] at e ⊢;split at e
  ·rename_i k;rw[if_pos k];cases e;&{v,rfl,h}
  ·cases e
 ·rw[if_neg b] at e ⊢;&E.at_ j l e
def rY{i:Nat}(h:tTg K (.name i) x b H Q):tH i x b H Q:=by
 #{m,S,f,d,c,R,E,vd,e,q}:=h;simp only[aA] at e;split at e
 ·cases e;&q _ (E.set vd)
 ·cases e
def MM{n:Nat}(l:n=T.length)(h:tTg K (.tup T) x k H Q):Rc K n (Cz K T) x k H Q:=by
 #{m,S,f,d,b,R,E,vd,e,q}:=h;cases d with
 |tup c=>
  simp only[aA] at e;#{a,v,rfl,j,vds}:=vd.tups;~{a,v,rfl,.of j,?_,m,S,f,c,b,R,E,vds,e,q}
  !len:∀ (T:List Tg) (c:List D) (f b:Rho),aO T c f=aw b->T.length=c.length:=by
   intro T
   induction T with
   |nil=>intro c f b e;cases c with |nil=>rfl |cons _ _=>simp[aO] at e
   |cons t T I=>
    intro c f b e;cases c with
    |nil=>simp[aO] at e
    |cons d c=>
     simp only[aO] at e;split at e
     ·simp[I _ _ _ e]
     ·cases e
  rw[l,<-vds.length];&(len _ _ _ _ e).symm
 |_=>simp[aA] at e
def GI(h:Cz K [] xs b H Q):Rb xs b H Q:=by
 #{m,S,f,d,c,R,E,vd,e,q}:=h;cases d with
 |nil=>simp[aO] at e;subst e;rw[VDs] at vd;&{vd,q _ E}
 |cons _ _=>simp[aO] at e
def CA(h:Cz K (t::T) xs l H Q):Ki (tTg K t) (Cz K T) xs l H Q:=by
 #{m,S,j,c,f,R,E,vd,e,q}:=h;cases c with
 |nil=>simp[aO] at e
 |cons d c=>
  simp only[aO] at e;rw[VDs] at vd;#{y,r,rfl,p,n}:=vd;cases hb:aA t d j with
  |none=>rw[hb] at e;cases e
  |some b=>
   rw[hb] at e;&{y,r,rfl,m,S,j,d,b,R,E,p,hb,λu k=>⟨m,S,b,c,f,R,k,n,e,q⟩}
def PG.imp(h:PG X e t)(f:∀x b H Q,t' x b H Q->t x b H Q):PG X e t':=λp s b H v u Q I r q=>h p s b H v u Q I r (f v b H Q q)
def PGs.imp(h:PGs X E t)(f:∀x b H Q,t' x b H Q->t x b H Q):PGs X E t':=λp s b H v u Q I r q=>h p s b H v u Q I r (f v b H Q q)
end
inductive Fl where
 |nx |bk |ct |rt (d:D)
@[inline]abbrev XS:=Rho->Sto->Option (Fl × Rho × Sto)
abbrev CB(K:VY)(m:List Addr)(H:Hp)(f:Fl)(c:Rho)(D:Ends):Prop:=match f with
 |.nx=>∀b,EnvR K m H c b->D.nx b H
 |.bk=>∀b,EnvR K m H c b->D.bk b H
 |.ct=>∀b,EnvR K m H c b->D.ct b H
 |.rt d=>∀v,VD K m H d v->D.rt v H
abbrev tSt(K:VY)(x:XS):TS:=λD k H=>∃m d S j b c,EnvR K m H d k/\Rel K m S H/\x d S=aw (j,b,c)/\∀f h,Aft K m H c f h->CB K f h j b D
section
variable {X:Cx} {K:VY} {m:List Addr} {H:Hp} {S:Sto}
abbrev CC(x y:XS):XS:=λb S=>match x b S with
 |none=>aD
 |some (.nx,ρ1,S1)=>y ρ1 S1
 |some r=>aw r
abbrev Kw:XS:=λb S=>aw (.nx,b,S)
def GJ{D:Ends}{b:L2.St}{H:Hp}(h:tSt K Kw D b H):Kf D b H:=by
 #{m,d,S,j,c,f,E,R,e,q}:=h;cases e;&q m H (Aft.refl R) b E
def MN{x y:XS}{D:Ends}{l:L2.St}{H:Hp}(h:tSt K (CC x y) D l H):Q8 (tSt K x) (tSt K y) D l H:=by
 #{m,n,S,J,f,z,E,R,e,q}:=h;unfold CC at e;cases k:x n S with
 |none=>rw[k] at e;cases e
 |some r=>
  #{u,c,p}:=r;rw[k] at e;~{m,n,S,u,c,p,E,R,k,λm1 j b=>?_};cases u with
  |nx=>exactλL v=>⟨m1,c,p,J,f,z,v,b.rel,e,λC I B=>q C I (b.trans B)⟩
  |bk=>cases e;&q m1 j b
  |ct=>cases e;&q m1 j b
  |rt d=>cases e;&q m1 j b
abbrev uq(x:XE):XS:=λb S=>match x b S with
 |none=>aD
 |some (_,S1)=>aw (.nx,b,S1)
abbrev CD(x:XE):XS:=λb S=>match x b S with
 |none=>aD
 |some (d,S1)=>aw (.rt d,b,S1)
abbrev RP:XS:=λb S=>aw (.ct,b,S)
def GK{x:XE}{D:Ends}{c:L2.St}{H:Hp}(h:tSt K (uq x) D c H):Kh (tE K x) D c H:=by
 #{m,j,S,u,l,n,E,R,e,q}:=h;unfold uq at e;cases b:x j S with
 |none=>rw[b] at e;cases e
 |some r=>
  #{d,p}:=r;rw[b] at e;cases e;&{m,j,S,d,_,E,R,b,λm1 k v f _=>q m1 k f c (E.mono R f.ext)}
def MO{x:XE}{D:Ends}{c:L2.St}{H:Hp}(h:tSt K (CD x) D c H):LG (tE K x) D c H:=by
 #{m,f,S,u,l,n,E,R,e,q}:=h;unfold CD at e;cases b:x f S with
 |none=>rw[b] at e;cases e
 |some r=>
  #{d,p}:=r;rw[b] at e;cases e;&{m,f,S,d,_,E,R,b,λm1 j v k vd=>q m1 j k v vd}
def MP{D:Ends}{b:L2.St}{H:Hp}(h:tSt K RP D b H):Kg D b H:=by
 #{m,d,S,j,c,f,E,R,e,q}:=h;cases e;&q m H (Aft.refl R) b E
abbrev xIf(c:XT)(x y:XS):XS:=λd S=>match c d S with
 |none=>aD
 |some (b,S1)=>if b=aN then x d S1 else y d S1
def RQ{c:XT}{x y:XS}{D:Ends}{z:L2.St}{H:Hp}(h:tSt K (xIf c x y) D z H):Q9 (tT K c) (tSt K x) (tSt K y) D z H:=by
 #{m,j,S,B,f,v,E,R,e,q}:=h;unfold xIf at e;cases l:c j S with
 |none=>rw[l] at e;cases e
 |some r=>
  #{b,p}:=r;rw[l] at e;dsimp only at e;~{m,j,S,b,p,E,R,l,λm1 C d=>?_};dsimp only;split
  ·rename_i hb;rw[if_pos hb] at e;&{m1,j,p,B,f,v,E.mono R d.ext,d.rel,e,λn u k=>q n u (d.trans k)}
  ·rename_i hb;rw[if_neg hb] at e;&{m1,j,p,B,f,v,E.mono R d.ext,d.rel,e,λn u k=>q n u (d.trans k)}
abbrev pO(x:XE)(t:Tg):XS:=λc S=>match x c S with
 |none=>aD
 |some (d,S1)=>(aA t d c).map λb=>(.nx,b,S1)
def w5{x:XE}{t:Tg}{D:Ends}{k:L2.St}{H:Hp}(h:tSt K (pO x t) D k H):Bz (tE K x) (tTg K t) D k H:=by
 #{m,b,S,B,u,y,E,R,e,q}:=h;unfold pO at e;cases f:x b S with
 |none=>rw[f] at e;cases e
 |some r=>
  #{d,z}:=r;rw[f] at e;dsimp only at e;cases hb:aA t d b with
  |none=>rw[hb] at e;cases e
  |some p=>
   rw[hb] at e;cases e;&{m,b,S,d,_,E,R,f,λm1 l v c vd=>⟨m1,_,b,d,_,c.rel,E.mono R c.ext,vd,hb,λj n=>q m1 l c j n⟩}
abbrev ur(v o i:XE):XS:=λb S=>match v b S with
 |none=>aD
 |some (dv,S1)=>match o b S1 with
  |none=>aD
  |some (d_o,S2)=>match i b S2 with
   |none=>aD
   |some (di,S3)=>(ko d_o di dv S3).map λc=>(.nx,b,c)
def GL{v o i:XE}{D:Ends}{n:L2.St}{H:Hp}(h:tSt K (ur v o i) D n H):Bz (tE K v) (Re (tE K o) (tE K i) (RK K)) D n H:=by
 #{m,b,S,fl,T,S',E,R,e,q}:=h;unfold ur at e;cases C:v b S with
 |none=>rw[C] at e;cases e
 |some r1=>
  #{j,y}:=r1;rw[C] at e;dsimp only at e;cases z:o b y with
  |none=>rw[z] at e;cases e
  |some r2=>
   #{l,L}:=r2;rw[z] at e;dsimp only at e;cases B:i b L with
   |none=>rw[B] at e;cases e
   |some Z=>
    #{p,k}:=Z;rw[B] at e;dsimp only at e;cases h4:ko l p j k with
    |none=>rw[h4] at e;cases e
    |some S4=>
     rw[h4] at e;cases e;~{m,b,S,j,y,E,R,C,λm1 H1 v1 d J=>⟨m1,b,y,l,L,E.mono R d.ext,d.rel,z,λU H2 v2 c I=>⟨U,b,L,p,k,E.mono R (d.trans c).ext,c.rel,B,λQ H3 v3 f u=>?_⟩⟩};&{Q,k,l,p,j,_,f.rel,I.mono c.rel f.ext,u,J.mono d.rel (c.trans f).ext,h4,λm4 Y O=>q m4 Y (((d.trans c).trans f).trans O) n (E.mono R (((d.trans c).trans f).trans O).ext)}
abbrev eJ(nx:Nxt)(T:Tg)(b:XS):Nat->Nat->XS
 |0,_=>λ_ _=>aD
 |k+1,i=>λf S=>match nx i S with
  |none=>aD
  |some aD=>aw (.nx,f,S)
  |some (aw d)=>match aA T d f with
   |none=>aD
   |some c=>match b c S with
    |none=>aD
    |some (.nx,ρ2,S2)=>eJ nx T b k (i+1) ρ2 S2
    |some (.ct,ρ2,S2)=>eJ nx T b k (i+1) ρ2 S2
    |some (.bk,ρ2,S2)=>aw (.nx,ρ2,S2)
    |some (.rt d,ρ2,S2)=>aw (.rt d,ρ2,S2)
abbrev CF(it:XI)(T:Tg)(b:XS)(k:Nat):XS:=λc S=>match it c S with
 |none=>aD
 |some (nx,S1)=>eJ nx T b k 0 c S1
abbrev lpW(K:VY)(nx:Nxt)(T:Tg)(b:XS)(m1:List Addr)(n:Hp)(D:Ends)(i k:Nat)(p:L2.St)(H:Hp):Prop:=∃m f S l c d,EnvR K m H f p/\Rel K m S H/\Ext m1 n m H/\eJ nx T b k i f S=aw (l,c,d)/\∀j h,Aft K m H d j h->CB K j h l c D
def GM{nx:Nxt}{T:Tg}{b:XS}{J:It}{m1:List Addr}{Z:Hp}{D:Ends}(hI:IOk K [] J nx m1 Z)(k:Nat){m:List Addr}{C:Rho}{S:Sto}{j:L2.St}{H:Hp}{I:Fl}{c:Rho}{B:Sto}(E:EnvR K m H C j)(R:Rel K m S H)(x:Ext m1 Z m H)(e:eJ nx T b k 0 C S=aw (I,c,B))(q:∀Q h,Aft K m H B Q h->CB K Q h I c D) :
  ∃W:Nat->Nat->L2.St->Hp->Prop,(∃m,W 0 m j H)/\∀i m j H,W i m j H ->
   (J.stop i H/\D.nx j H)\/(J.go i H/\∃N:L2.St->Hp->Prop,(∀u h,N u h->∃Q,Q < m/\W (i+1) Q u h)/\∀x h,J.yld i H x h->tTg K T x j h λL H2=>tSt K b { D with nx:=N,ct:=N,bk:=D.nx } L H2):=by
 ~{lpW K nx T b m1 Z D,⟨k,m,C,S,I,c,B,E,R,x,e,q⟩,?_};intro i k j H z;#{m,C,S,I,c,B,E,R,x,e,q}:=z;cases k with
 |zero=>simp[eJ] at e
 |succ k=>
  simp only[eJ] at e;cases U:nx i S with
  |none=>rw[U] at e;cases e
  |some o=>
   rw[U] at e;#{h1,h2}:=hI m S H i (x.toB λb hb=>absurd hb (by simp)) R;cases o with
   |none=>cases e;&.inl ⟨h1 U,q m H (Aft.refl R) j E⟩
   |some d=>
    #{go,hy}:=h2 d U;dsimp only at e;cases hb:aA T d C with
    |none=>rw[hb] at e;cases e
    |some p=>
     rw[hb] at e;dsimp only at e;cases hx:b p S with
     |none=>rw[hx] at e;cases e
     |some r=>
      #{f2,n,S2}:=r;rw[hx] at e;~.inr ⟨go,lpW K nx T b m1 Z D (i+1) k,λu h z=>⟨k,Y2 k,z⟩,λy h yl=>?_⟩;#{A,vd}:=hy y h yl;~{m,S,C,d,p,A.rel,E.mono R A.ext,vd,hb,λL E2=>⟨m,p,S,f2,n,S2,E2,A.rel,hx,λY H3 f=>?_⟩};cases f2 with
      |nx=>exactλl O=>⟨Y,n,S2,I,c,B,O,f.rel,(x.trans A.ext).trans f.ext,e,λm4 H4 A4=>q m4 H4 ((A.trans f).trans A4)⟩
      |ct=>exactλl O=>⟨Y,n,S2,I,c,B,O,f.rel,(x.trans A.ext).trans f.ext,e,λm4 H4 A4=>q m4 H4 ((A.trans f).trans A4)⟩
      |bk=>cases e;exactλl O=>q Y H3 (A.trans f) l O
      |rt d=>cases e;exactλv vd=>q Y H3 (A.trans f) v vd
def MQ{it:XI}{T:Tg}{b:XS}{k:Nat}{D:Ends}{d:L2.St}{H:Hp}(h:tSt K (CF it T b k) D d H):Rh (tIt K [] it) (tTg K T) (tSt K b) D d H:=by
 #{m,f,S,B,v,z,E,R,e,q}:=h;unfold CF at e;cases hi:it f S with
 |none=>rw[hi] at e;cases e
 |some r=>
  #{nx,p}:=r;rw[hi] at e;&{m,f,S,nx,p,E,R,λb hb=>absurd hb (by simp),hi,λm1 y J c j=>GM j k (E.mono R c.ext) c.rel (Ext.refl _ _) e λn u l=>q n u (c.trans l)}
abbrev bH(c:XT)(b:XS):Nat->XS
 |0=>λ_ _=>aD
 |k+1=>λf S=>match c f S with
  |none=>aD
  |some (aS,S1)=>aw (.nx,f,S1)
  |some (aN,S1)=>match b f S1 with
   |none=>aD
   |some (.nx,ρ2,S2)=>bH c b k ρ2 S2
   |some (.ct,ρ2,S2)=>bH c b k ρ2 S2
   |some (.bk,ρ2,S2)=>aw (.nx,ρ2,S2)
   |some (.rt d,ρ2,S2)=>aw (.rt d,ρ2,S2)
def CG{c:XT}{b:XS}{k:Nat}{D:Ends}{p:L2.St}{H:Hp}(h:tSt K (bH c b k) D p H):BC (tT K c) (tSt K b) D p H:=by
 ~{λk p H=>tSt K (bH c b k) D p H,⟨k,h⟩,λk p H h=>?_};#{m,I,S,fl,u,Y,E,R,e,q}:=h;cases k with
 |zero=>simp[bH] at e
 |succ k=>
  simp only[bH] at e;cases O:c I S with
  |none=>rw[O] at e;cases e
  |some r=>
   #{bb,L}:=r;rw[O] at e;~{m,I,S,bb,L,E,R,O,λm1 H1 f=>?_};cases bb with
   |false=>cases e;&q m1 H1 f p (E.mono R f.ext)
   |true=>
    dsimp only at e;cases Q:b I L with
    |none=>rw[Q] at e;cases e
    |some r=>
     #{Z,l,U}:=r;rw[Q] at e;~{λB H'=>tSt K (bH c b k) D B H',λB H' z=>⟨k,Y2 k,z⟩,m1,I,L,Z,l,U,E.mono R f.ext,f.rel,Q,λC H3 n=>?_};cases Z with
     |nx=>exactλj y=>⟨C,l,U,fl,u,Y,y,n.rel,e,λm4 T J=>q m4 T ((f.trans n).trans J)⟩
     |ct=>exactλj y=>⟨C,l,U,fl,u,Y,y,n.rel,e,λm4 T J=>q m4 T ((f.trans n).trans J)⟩
     |bk=>cases e;exactλj y=>q C H3 (f.trans n) j y
     |rt d=>cases e;exactλv vd=>q C H3 (f.trans n) v vd
end
mutual
noncomputable def dW:Tg->Rho->Bool
 |.name i,ρ=>match ρ[i]? with
  |some aD=>aN
  |_=>aS
 |.tup ts,ρ=>gz ts ρ
noncomputable def gz:List Tg->Rho->Bool
 |[],_=>aN
 |t::ts,ρ=>dW t ρ && gz ts ρ
end
structure LeR(ρ ρ':Rho):Prop where
 len:ρ.length=ρ'.length
 at_:∀ (i:Nat) (d:D),ρ[i]?=aw (aw d)->ρ'[i]?=aw (aw d)
def LeR.refl(ρ:Rho):LeR ρ ρ:=⟨rfl,λ_ _ h=>h⟩
mutual
theorem ut:∀ {t:Tg} {d:D} {k b:Rho},LeR c k->dW t c=aN->aA t d k=aw b->LeR c b
 |.name i,d,k,b,l,f,e=>by
  simp only[aA] at e;split at e
  ·cases e;~{by simp[l.len],λj p h=>?_};rw[YC];by_cases n:i=j
   ·subst n;simp only[dW] at f;rw[h] at f;cases f
   ·rw[if_neg n];&l.at_ j p h
  ·cases e
 |.tup ts,.tup ds,k,b,l,f,e=>by
  simp only[aA] at e;simp only[dW] at f;&qu l f e
 |.tup ts,.non,_,_,_,_,e=>by simp[aA] at e
 |.tup ts,.bl _,_,_,_,_,e=>by simp[aA] at e
 |.tup ts,.int _,_,_,_,_,e=>by simp[aA] at e
 |.tup ts,.str _,_,_,_,_,e=>by simp[aA] at e
 |.tup ts,.ref _,_,_,_,_,e=>by simp[aA] at e
theorem qu:∀ {T:List Tg} {j:List D} {c b:Rho},LeR h c->gz T h=aN->aO T j c=aw b->LeR h b
 |[],[],c,b,l,_,e=>by simp only[aO] at e;cases e;&l
 |[],_::_,_,_,_,_,e=>by simp[aO] at e
 |_::_,[],_,_,_,_,e=>by simp[aO] at e
 |t::T,d::j,c,b,l,f,e=>by
  simp only[aO] at e;simp only[gz,bAE] at f;cases hb:aA t d c with
  |none=>rw[hb] at e;cases e
  |some k=>rw[hb] at e;&qu (ut l f.1 hb) f.2 e
end
section
variable {X:Cx} {K:VY} {m:List Addr} {H:Hp} {S:Sto}
def EnvR.weaken(E:EnvR K m H b σ)(l:LeR c b):EnvR K m H c σ:=⟨l.len.trans E.len,λi d h=>E.at_ i d (l.at_ i d h)⟩
abbrev bC(nx:Nxt)(T:Tg)(c:XA)(f:Rho):Nat->Nat->Sto->Option (List D × Sto)
 |0,_,_=>aD
 |k+1,i,S=>match nx i S with
  |none=>aD
  |some aD=>aw ([],S)
  |some (aw d)=>match aA T d f with
   |none=>aD
   |some b=>bnd (c b S) λE l=>bnd (bC nx T c f k (i+1) l) λh j=>aw (E++h,j)
abbrev CH(t:XT)(c:XA):XA:=λd S=>bnd (t d S) λb f=>if b=aN then c d f else aw ([],f)
abbrev Kx(x:XE):XA:=λb S=>bnd (x b S) λd c=>aw ([d],c)
abbrev kq(it:XI)(T:Tg)(c:XA)(k:Nat):XA:=λb S=>if dW T b=aN then bnd (it b S) λnx d=>bC nx T c b k 0 d else aD
abbrev nQ(own:Nat)(it:XI)(T:Tg)(c:XA)(k:Nat):XA:=λb S=>bnd (it b S) λnx f=>if dW T (b++ZP own aD)=aN then
 (bnd (bC nx T c (b++ZP own aD) k 0 f) λE d=>if E.length<=100000 then aw (E,d) else aD) else aD
abbrev tCl(K:VY)(b:Addr)(c:XA):TS:=λD n H=>∃m j S E k z l,EnvR K m H j n/\Rel K m S H/\b ∉ m/\H b=aw (.lst l)/\VDs K m H z l/\z.length+E.length<=100000/\c j S=aw (E,k) ∧
 ∀f h d v,ExtB [b] m H f h->Rel K f k h->h b=aw (.lst v)->VDs K f h (z++E) v->EnvR K f h j d->D.nx d h
def CJ(h:H c=aw (.lst v))(n:c ∉ m):AtB [c] m H:=λb hb=>by simp at hb;subst hb;&{⟨v,h⟩,n}
def ExtB.refl(n:c ∉ m):ExtB [c] m H m H:=⟨Yp m,λ_ _ h _ _=>h,λ_ h n=>absurd h n,λb hb=>by simp at hb;subst hb;&n⟩
def ExtB.put(n:c ∉ m)(o:HO):ExtB [c] m H m (upd H c o):=⟨Yp m,λa u h _ nb=>by
 rw[ae (λz=>nb (by simp[z]))];&h,λ_ h n=>absurd h n,λb hb=>by simp at hb;subst hb;&n⟩
def Rel.extB(R:Rel K m S H)(h:AtB [j] m H)(x:ExtB [j] m H m H')(k:∀b ∈ m,H' b=H b):Rel K m S H':=by
 ~{R.len,R.nd,λi o e=>?_};#{b,hb,r}:=R.ob i o e;!c:b ∈ m:=Zd hb;~{b,hb,?_};cases o with
 |lst f=>#{v,p,q}:=r;&{v,(k b c).trans p,VDs.monoB R h x q}
 |frz f=>#{o,v,p,q}:=r;&{o,v,(k b c).trans p,VDs.monoB R h x q}
 |dic ks f=>#{v,p,l,q}:=r;&{v,(k b c).trans p,l,VDs.monoB R h x q}
 |tbl T p q=>
  #{e,ps,z}:=r;~{e,ps,(k _ c).trans z.at_,z.tr,λn u=>?_};#{C,B,d}:=z.cd n u;~{C,B,x.keep _ _ d (R.notCd d) λy=>?_};#{⟨v,E⟩,_}:=h C y;rw[d] at E;unfold cdO at E;cases E
 |dfz ks f=>#{o,v,p,l,q}:=r;&{o,v,(k b c).trans p,l,VDs.monoB R h x q}
def GN{c:Addr}{x:XE}{D:Ends}{u:L2.St}{H:Hp}(h:tCl K c (Kx x) D u H):Ks c (tE K x) D u H:=by
 #{m,J,S,T,U,Z,p,E,R,I,y,C,L,e,q}:=h;#{d,Y,O,e}:=ac e;cases e;~{m,J,S,d,_,E,R,O,λm1 B v j vd=>?_};!Q:=CJ y I;!k:B c=aw (.lst p):=j.ext.keep _ _ y I;!xB:=j.ext.toB Q;!n:c ∉ m1:=xB.nb c (by simp);!l:=ExtB.put (H:=B) n (.lst (p++[v]));!f:=CJ k n;!lz:=C.length;simp only[Zm] at L;~{p,k,by rw[ZaO];lia,q m1 _ u (p++[v]) (xB.trans l) (j.rel.extB f l λb hb=>ae λz=>n (z ▸ hb)) az ?_ ((E.mono R j.ext).monoB j.rel f l)};&VDs.append ((C.mono R j.ext).monoB j.rel f l) (.cons (vd.monoB j.rel f l) .nil)
def GO{d:Addr}{t:XT}{c:XA}{D:Ends}{l:L2.St}{H:Hp}(h:tCl K d (CH t c) D l H):fX (tT K t) (tCl K d c) D l H:=by
 #{m,y,S,J,L,Z,n,E,R,I,u,C,Q,e,q}:=h;#{b,z,Y,e}:=ac e;~{m,y,S,b,z,E,R,Y,λm1 B f=>?_};!hB:=CJ u I;!j:B d=aw (.lst n):=f.ext.keep _ _ u I;!xB:=f.ext.toB hB;!p:d ∉ m1:=xB.nb d (by simp);dsimp only;split
 ·rename_i hb;rw[if_pos hb] at e;&{m1,y,z,J,L,Z,n,E.mono R f.ext,f.rel,p,j,C.mono R f.ext,Q,e,λO T k v x2 R2 U v2 E2=>q O T k v (xB.trans x2) R2 U v2 E2}
 ·rename_i hb;rw[if_neg hb] at e;cases e;~q m1 B l n xB f.rel j ?_ (E.mono R f.ext);rw[Z8];&C.mono R f.ext
def uu{t:TS}{D:Ends}{b:L2.St}{H:Hp}(h:t D b H):fX F3 t D b H:=by
 show if aN=aN then t D b H else D.nx b H
 rw[if_pos rfl];&h
def MR{b:Addr}{c:XA}{D:Ends}{d:L2.St}{H:Hp}(h:tCl K b c D d H):fX F3 (tCl K b c) D d H:=by
 &uu h
abbrev clW(K:VY)(b:Addr)(nx:Nxt)(T:Tg)(c:XA)(j:Rho)(m1:List Addr)(p:Hp)(q:Ends)(i k:Nat)(u:L2.St)(H:Hp):Prop:=∃m S n E z l,EnvR K m H j u/\Rel K m S H/\ExtB [b] m1 p m H/\H b=aw (.lst l)/\VDs K m H z l/\z.length+E.length<=100000/\bC nx T c j k i S=aw (E,n)/\∀f h d v,ExtB [b] m H f h->Rel K f n h->h b=aw (.lst v)->VDs K f h (z++E) v->EnvR K f h j d->q.nx d h
def yu(hI:IOk K [b] J nx m1 H1)(hts:∀D l H,tCl K b c D l H->ts D l H)(k:Nat)
  (fr:dW T f=aN) (E:EnvR K m H f l) (R:Rel K m S H) (x:ExtB [b] m1 H1 m H) (n:H b=aw (.lst vs)) (C:VDs K m H zs vs) (Y:zs.length+B.length<=100000) (e:bC nx T c f k 0 S=aw (B,U))
  (q:∀I h j v,ExtB [b] m H I h->Rel K I U h->h b=aw (.lst v)->VDs K I h (zs++B) v->EnvR K I h f j->O.nx j h):tP J (tTg K T) ts O l H:=by
 ~{clW K b nx T c f m1 H1 O,⟨k,m,S,U,B,zs,vs,E,R,x,n,C,Y,e,q⟩,?_};intro i k l H z;#{m,S,U,B,zs,vs,E,R,x,n,C,Y,e,q}:=z;!L:b ∉ m:=x.nb b (by simp);!hB:=CJ n L;cases k with
 |zero=>simp[bC] at e
 |succ k=>
  simp only[bC] at e;cases u:nx i S with
  |none=>rw[u] at e;cases e
  |some o=>
   rw[u] at e;#{h1,h2}:=hI m S H i x R;cases o with
   |none=>
    cases e;&.inl ⟨h1 u,q m H l vs (ExtB.refl L) R n (by rw[Z8];&C) E⟩
   |some d=>
    #{go,hy}:=h2 d u;dsimp only at e;cases hb:aA T d f with
    |none=>rw[hb] at e;cases e
    |some p=>
     rw[hb] at e;dsimp only at e;#{e1,S1,c1,e}:=ac e;#{rs,S2,c2,e}:=ac e;cases e;rw[Ze] at Y;~.inr ⟨go,clW K b nx T c f m1 H1 O (i+1) k,λj h z=>⟨k,Y2 k,z⟩,λy h yl=>?_⟩;#{A,vd}:=hy y h yl;!xA:=A.ext.toB hB;!ha':h b=aw (.lst vs):=A.ext.keep _ _ n L;~{m,S,f,d,p,A.rel,E.mono R A.ext,vd,hb,λσ2 E2=>hts _ _ _ ⟨m,p,S,e1,S1,zs,vs,E2,A.rel,L,ha',C.mono R A.ext,by lia,c1,λm3 H3 σ3 vs3 x3 R3 h3 v3 E3=>?_⟩};~{m3,S1,_,rs,zs++e1,vs3,E3.weaken (ut (LeR.refl f) fr hb),R3,(x.trans xA).trans x3,h3,v3,by rw[Ze];lia,c2,λm4 H4 Q Z x4 R4 h4 v4 E4=>?_};~q m4 H4 Q Z ((xA.trans x3).trans x4) R4 h4 ?_ E4;rw[<-Yk];&v4
def CK{b:Addr}{it:XI}{T:Tg}{t:TT}{c C:XA}{k:Nat}{D:Ends}{d:L2.St}{H:Hp}(l:∀D d H,tCl K b c D d H->fX t (tCl K b C) D d H)(h:tCl K b (kq it T c k) D d H):BV (tIt K [b] it) (tTg K T) t (tCl K b C) D d H:=by
 #{m,z,S,es,S',zs,vs,E,R,y,p,vz,L,e,q}:=h;unfold kq at e;split at e
 ·rename_i fr;#{nx,I,Y,e}:=ac e;!u:=CJ p y;~{m,z,S,nx,I,E,R,u,Y,λm1 H1 J f U=>?_};!xB:=f.ext.toB u;!n:b ∉ m1:=xB.nb b (by simp);&yu U l k fr (E.mono R f.ext) f.rel (ExtB.refl n) (f.ext.keep _ _ p y) (vz.mono R f.ext) L e λB O j v Z R2 Q v2 E2=>q B O j v (xB.trans Z) R2 Q v2 E2
 ·cases e
def EnvR.more(E:EnvR K m H b c)(n:Nat):EnvR K m H (b++ZP n aD) (c++ZP n aD):=by
 ~{by simp[E.len],λi d e=>?_};by_cases hi:i < b.length
 ·rw[Zt hi] at e;rw[Zt (by rw[<-E.len];&hi)];&E.at_ i d e
 ·rw[Zp (by lia),YH] at e;split at e <;> cases e
def yv{own:Nat}{k:Nat}(B:∀acc D p H,tCl K acc c D p H->fX t (tCl K acc Z) D p H)(h:jx K (nQ own it tg c k) p H Q):BW own (tIt K [] it) (tTg K tg) (λacc=>fX t (tCl K acc Z)) p H Q:=by
 #{m,ρ,S,es,S',E,R,e,q}:=h;#{nx,S1,e1,e}:=ac e;split at e
 ·rename_i fr;#{es',O,Y,e}:=ac e;split at e
  ·rename_i hl;cases e;~{m,ρ,S,nx,S1,E,R,λb hb=>absurd hb (by simp),e1,λm1 I J f hI acc d=>?_};!x0:=Ext.beside f.rel d (.lst []);!R0:=f.rel.beside d (.lst []);!C:=f.rel.no d
   !v:IOk K [acc] J nx m1 (upd I acc (.lst [])):=by
    intro u O H2 i j R2;~hI u O H2 i ⟨j.pre,λa o h n _=>?_,λa h n=>?_,λb hb=>absurd hb (by simp)⟩ R2
    ·!ne:a ≠ acc:=aP h d;&j.keep a o (by rw[ae ne];&h) n (by simp[ne])
    ·!:=j.new a h n;by_cases l:a=acc
     ·subst l;&d
     ·rw[ae l] at this;&this
   ~yu (zs:=[]) (vs:=[]) v (B acc) k fr ((E.mono R f.ext |>.mono f.rel x0).more own) R0 (ExtB.refl C) az .nil (by simpa using hl) Y λu H2 T y j R2 h2 v2 E2=>?_
   !xx:Ext m1 I u H2:=⟨j.pre,λa o h n=>by
    !ne:a ≠ acc:=aP h d;&j.keep a o (by rw[ae ne];&h) n (by simp[ne]),λa h n=>by
    !:=j.new a h n;by_cases l:a=acc
    ·subst l;&d
    ·rw[ae l] at this;&this⟩
   !U:H acc=aD:=by
    cases eh:H acc with
    |none=>rfl
    |some o=>
     by_cases L:acc ∈ m
     ·&absurd (f.ext.pre.subset L) C
     ·!:=f.ext.keep acc o eh L;rw[d] at this;cases this
   &q u H2 acc y (f.trans ⟨xx,R2⟩) h2 (j.nb acc (by simp)) (λb hb z=>C (f.ext.pre.subset (z ▸ hb))) U (by simpa using v2)
  ·cases e
 ·cases e
end
section
variable {X:Cx} {K:VY} {m:List Addr} {H:Hp} {S:Sto}
abbrev CL(x y:XE):XE:=λb S=>bnd (x b S) λd c=>match d with
 |.bl aN=>y b c
 |.bl aS=>aw (.bl aS,c)
 |_=>aD
abbrev xOr(x y:XE):XE:=λb S=>bnd (x b S) λd c=>match d with
 |.bl aN=>aw (.bl aN,c)
 |.bl aS=>y b c
 |_=>aD
abbrev As:D->Sto->Option (D × Sto)
 |.bl b,S=>aw (.bl (!b),S)
 |_,_=>aD
abbrev MS:D->Sto->Option (D × Sto)
 |.int i,S=>aw (.int (-i),S)
 |_,_=>aD
abbrev MU(c:XT)(x y:XE):XE:=λd S=>bnd (c d S) λb f=>if b=aN then x d f else y d f
def CM(h:tE K (CL x y) u H Q):Kc (tE K x) (tE K y) u H Q:=by
 #{m,f,S,d,p,E,R,e,q}:=h;#{a,j,n,e}:=ac e;~{m,f,S,a,j,E,R,n,λm1 k v c l=>?_};cases a with
 |bl b=>
  ~{b,l.bls,?_};cases b with
  |true=>&{m1,f,j,d,p,E.mono R c.ext,c.rel,e,λB C w z vd=>q B C w (c.trans z) vd}
  |false=>cases e;&q m1 k _ c cp
 |_=>cases e
def Ky(h:tE K (xOr x y) u H Q):Q7 (tE K x) (tE K y) u H Q:=by
 #{m,f,S,d,p,E,R,e,q}:=h;#{a,j,n,e}:=ac e;~{m,f,S,a,j,E,R,n,λm1 k v c l=>?_};cases a with
 |bl b=>
  ~{b,l.bls,?_};cases b with
  |false=>&{m1,f,j,d,p,E.mono R c.ext,c.rel,e,λB C w z vd=>q B C w (c.trans z) vd}
  |true=>cases e;&q m1 k _ c cp
 |_=>cases e
def MV(h:tE K (xUn As x) l H Q):Kd (tE K x) l H Q:=by
 #{m,n,S,d,u,E,R,e,q}:=h;#{a,p,k,e}:=ac e;~{m,n,S,a,p,E,R,k,λm1 c v f j=>?_};cases a with
 |bl b=>cases e;&{b,j.bls,q m1 c _ f cp}
 |_=>cases e
def GP:UnR X (unaryOp .USub) (rS1 X.K MS):=by
 intro p s c H x v Q I f h;~rb p s c H x v Q I f ?_;#{m,S,a,d,j,R,b,e,q}:=h;cases a with
 |int i=>cases e;&{i,b.ints,q m H _ (Aft.refl R) bg}
 |_=>cases e
def MW(h:tE K (MU c x y) z H Q):tIf (tT K c) (tE K x) (tE K y) z H Q:=by
 #{m,j,S,d,u,E,R,e,q}:=h;#{b,n,v,e}:=ac e;~{m,j,S,b,n,E,R,v,λm1 B f=>?_};dsimp only;split
 ·rename_i hb;rw[if_pos hb] at e;&{m1,j,n,d,u,E.mono R f.ext,f.rel,e,λl p w k vd=>q l p w (f.trans k) vd}
 ·rename_i hb;rw[if_neg hb] at e;&{m1,j,n,d,u,E.mono R f.ext,f.rel,e,λl p w k vd=>q l p w (f.trans k) vd}
abbrev Au(f g:D->D->Sto->Option (D × Sto))(x y z:XE):XE:=λd S=>bnd (x d S) λa l=>bnd (y d l) λb k=>bnd (f a b k) λr h=>match r with
 |.bl aN=>bnd (z d h) λc j=>g b c j
 |.bl aS=>aw (.bl aS,h)
 |_=>aD
def CN(h:tE K (Au f g x y z) σ H Q):v9 (rS K f) (rS K g) (tE K x) (tE K y) (tE K z) σ H Q:=by
 #{m,B,S,d,S',E,R,e,q}:=h;#{a,L,e1,e}:=ac e;#{b,T,e2,e}:=ac e;#{r,C,Y,e}:=ac e;~{m,B,S,a,L,E,R,e1,λm1 H1 v l va=>⟨m1,B,L,b,T,E.mono R l.ext,l.rel,e2,λm2 H2 w j O=>?_⟩};~{m2,T,a,b,r,C,j.rel,va.mono l.rel j.ext,O,Y,λI H3 u n U=>?_};cases r with
 |bl k=>
  ~{k,U.bls,?_};cases k with
  |true=>
   dsimp only at e;#{c,J,e4,e}:=ac e;&{I,B,C,c,J,E.mono R ((l.trans j).trans n).ext,n.rel,e4,λm4 H4 y p Z=>⟨m4,J,b,c,d,S',p.rel,O.mono j.rel (n.trans p).ext,Z,e,λm5 H5 t A5 vd=>q m5 H5 t ((((l.trans j).trans n).trans p).trans A5) vd⟩}
  |false=>cases e;&q I H3 _ ((l.trans j).trans n) cp
 |_=>cases e
abbrev CO(x y:XT):XT:=λc S=>bnd (x c S) λb d=>if b=aN then y c d else aw (aS,d)
abbrev MX(x y:XT):XT:=λc S=>bnd (x c S) λb d=>if b=aN then aw (aN,d) else y c d
abbrev CP(x:XT):XT:=λc S=>bnd (x c S) λb d=>aw (!b,d)
def CQ(h:tT K (CO x y) p H Q):Q5 (tT K x) (tT K y) p H Q:=by
 #{m,f,S,d,n,E,R,e,q}:=h;#{b,j,l,e}:=ac e;~{m,f,S,b,j,E,R,l,λm1 k c=>?_};dsimp only;split
 ·rename_i hb;rw[if_pos hb] at e;&{m1,f,j,d,n,E.mono R c.ext,c.rel,e,λv z u=>q v z (c.trans u)}
 ·rename_i hb;rw[if_neg hb] at e;cases e;&q m1 k c
def Kz(h:tT K (MX x y) p H Q):tOr (tT K x) (tT K y) p H Q:=by
 #{m,f,S,d,n,E,R,e,q}:=h;#{b,j,l,e}:=ac e;~{m,f,S,b,j,E,R,l,λm1 k c=>?_};dsimp only;split
 ·rename_i hb;rw[if_pos hb] at e;cases e;&q m1 k c
 ·rename_i hb;rw[if_neg hb] at e;&{m1,f,j,d,n,E.mono R c.ext,c.rel,e,λv z u=>q v z (c.trans u)}
def MY(h:tT K (CP x) k H Q):Q6 (tT K x) k H Q:=by
 #{m,l,S,d,n,E,R,e,q}:=h;#{b,p,j,e}:=ac e;cases e;&{m,l,S,b,_,E,R,j,λm1 c f=>q m1 c f}
@[inline]abbrev Calls:=Nat->List D->Sto->Option (D × Sto)
abbrev spC(K:VY)(g:List D->Sto->Option (D × Sto))(n:Nat):Sp:=λj H Q _=>∃m b S d c,VDs K m H b j/\Rel K m S H/\b.length=n/\g b S=aw (d,c)/\∀f h v,Aft K m H c f h->VD K f h d v->Q v h
abbrev uv(g:List D->Sto->Option (D × Sto))(n:Nat)(x:XA):XE:=λb S=>bnd (x b S) λd c=>if d.length=n then g d c else aD
def GQ{n:Nat}(h:tE K (uv g n x) l H Q):Km (spC K g n) [] E0 (tAr K x) l H Q:=by
 #{m,p,S,d,k,E,R,e,q}:=h;#{f,b,C,e}:=ac e;split at e
 ·rename_i z;~{m,p,S,f,b,E,R,C,λm1 I J c vd=>⟨m1,f,b,d,k,by rw[Z8];&vd,c.rel,z,e,λy B v u j=>q y B v (c.trans u) j⟩}
 ·cases e
end
abbrev cS(x y:Int × List Int):Bool:=if x.1=y.1 then HT.dD x.2 y.2 else decide (x.1 < y.1)
def nR:∀ns:List Int,HT.dD ns ns=aS
 |[]=>rfl
 |n::ns=>by rw[HT.mO,if_pos rfl];&nR ns
def mi{b:List Value}{ns:List Int}(h:IntsAre b ns):∀ (j:Nat) v,b[j]?=aw v->∃n t,ns[j]?=aw n/\v = .int n t:=by
 induction h with
 |nil=>intro j v e;simp at e
 |cons a t _ I=>
  intro j v e;cases j with
  |zero=>cases e;&{a,t,rfl,rfl}
  |succ j=>&I j v (by simpa using e)
def qv{A:Around}{s:Shared}{p q:Addr}{xs y:Array Value}{ns ms:List Int}(T:A.units < cLine)(B:s.heap.IsTuple p xs)(z:s.heap.IsTuple q y)(d:IntsAre xs.toList ns)(I:IntsAre y.toList ms):∃e,VT A s (.ref p) (.ref q) e/\(e=aN ↔ ns=ms):=by
 by_cases e:p=q
 ·subst e;#{o,J,_,n,hd}:=B;#{Y,h,_,X,c}:=z;rw[J] at h;cases h;rw[hd] at c;cases c
  !en:ns=ms:=by
   !l1:=d.length;!L:=I.length;~YS λj=>?_;cases f:xs.toList[j]? with
   |none=>
    !:=Z3.mp f;rw[Zw (by lia),Zw (by lia)]
   |some v=>
    #{a,t,l,rfl}:=mi d j v f;#{b,U,k,E}:=mi I j _ f;cases E;rw[l,k]
  &{aN,.same _,by simp[en]}
 ·~{_,.of_refs e (SeqAt.RcAt.tuples (e:=λj=>decide (ns[j]?=ms[j]?)) B z T λj Q O=>?_),?_}
  ·#{a,t,l,E}:=mi d j xs[j] (by simp[Q]);#{b,u,k,C}:=mi I j y[j] (by simp[O]);rw[l,k,E,C,show decide (aw a=aw b)=(a == b) by simp[Xn]];&.int_int a t b u
  ·!l1:ns.length=xs.size:=by rw[<-d.length];&Zu
   !L:ms.length=y.size:=by rw[<-I.length];&Zu
   rw[<-l1,<-L,vW,decide_eq_true_eq]
section
open PySem.SeqAt
open PySem.AutoSeq1 (wpAny_loadPart')
open PySem.MeetsSeq PySem.MeetsSeq2 PySem.MeetsSeq3
def pP(l b:Addr)(x y:Int)(t u:Tok)(p q:Addr)(n n2:Nat)(dd J:Option Addr)(sl U:Array (Option Value))(ns I:List Int) :
  Meets (Builtin.«tuple.__lt__» ⟨[.ref l,.ref b],[]⟩)
   (λA R s=>s.heap.get? l=aw { cls:=.type "tuple", dict:=dd,data:=.seq #[.int x t,.ref p] n,slots:=sl }/\s.heap.get? b=aw { cls:=.type "tuple", dict:=J,data:=.seq #[.int y u,.ref q] n2,slots:=U } ∧
    (∃xs Y,IsTup s.heap p xs/\IsTup s.heap q Y/\IntsAre xs.toList ns/\IntsAre Y.toList I)/\A.in1.units < cLine ∧
    R (.ok (.ret (.bool (cS (x,ns) (y,I))))) s):=
 .of_wp λprog w A R s h=>by
  #{k,g,d,T,os}:=s;#{hl,hb,⟨xs,Y,Z,tq,i1,X⟩,hu,h}:=h;!f2:=AutoSeq1.sub_tuple_tuple
  wp_walk using Zbd hl,Zbd hb,Za7 _ (λf b L=>b.1=aD/\L=⟨k,g,d,T,os⟩/\((f=[(.int x t,.int y u),(.ref p,.ref q)])\/(f=[(.ref p,.ref q)]/\x=y)\/(f=[]/\x=y/\ns=I))) _
  case turn=>
   rintro⟨v,z⟩ f b L ⟨C,rfl,j⟩;rcases j with j |⟨j,hxy⟩ |⟨j,_⟩
   ·injection j with hvz hrest;injection hvz with hv hz;subst hv hz;#{e,O,c}:=HT.tL A.in1 ⟨k,g,d,T,os⟩ x t y u;~Za0 (O prog w _ _ ?_);cases e with
    |true=>
     wp_walk
     &{rfl,rfl,.inr (.inl ⟨hrest,c.mp rfl⟩)}
    |false=>
     !B:=HT.tM A.in1 ⟨k,g,d,T,os⟩ x t y u prog w
     wp_walk using B
     ~{_,rfl,?_};unfold cS at h;rw[if_neg (λq=>absurd (c.mpr q) Zh)] at h
     simpa using h
   ·injection j with hvz hrest;injection hvz with hv hz;subst hv hz hxy;#{e,O,c}:=qv (A:=A.in1) (s:=⟨k,g,d,T,os⟩) hu Z tq i1 X;~Za0 (O prog w _ _ ?_);unfold cS at h;rw[if_pos rfl] at h;cases e with
    |true=>
     wp_walk
     &{rfl,rfl,.inr (.inr ⟨hrest,rfl,c.mp rfl⟩)}
    |false=>
     !B:∀ (E:Value->Shared->Prop) (Q:Value->Shared->Prop),Q (.bool (HT.dD ns I)) ⟨k,g,d,T,os⟩->wpAny (model prog w) A.in1 (ZaI .Lt (.ref p) (.ref q)) Q E ⟨k,g,d,T,os⟩:=λE Q hq=>HT.mR (s:=⟨k,g,d,T,os⟩) Z tq i1 X hu hq
     wp_walk using B
     &{_,rfl,by simpa using h}
   ·cases j
  case fin=>
   rintro⟨b1,b2⟩ L ⟨C,rfl,j⟩;simp only at C;subst C;rcases j with j |⟨j,_⟩ |⟨_,hxy,hnm⟩
   ·cases j
   ·cases j
   ·subst hxy hnm;unfold cS at h;rw[if_pos rfl,nR] at h
    wp_walk
    &{_,rfl,by simpa[Builtin.Tuple.tupleCompareSizes] using h}
  case h=>&{rfl,rfl,.inl rfl}
end
section
variable {prog:Program} {w:World} {A:Around} {R:Result->Shared->Prop} {I S:Addr} {fp wr:List Addr} {n:Nat} {P:Nat->Value->Prop} {St:Nat->Heap->Prop} {bt:Nat->Nat->Bool} {base:Heap} {d:Value}
abbrev MZ(prog:Program)(w:World)(A:Around)(base:Heap)(P:Nat->Value->Prop)(bt:Nat->Nat->Bool):Prop:=
 ∀i j b v (s:Shared) (Q:Value->Shared->Prop) (E:Value->Shared->Prop),(∀a o,base.get? a=aw o->s.heap.get? a=aw o)->P i b->P j v->Q (.bool (bt i j)) s->wpAny (model prog w) A (ZaI .Lt b v) Q E s
def CT(a d:Value):argsOk "min" ⟨[a],[(Str.ofString "default", d)]⟩:=by unfold argsOk;kernel_rfl
def yw:(toString "min" ++ toString ".loop" : String) = "min.loop" := by decide
def nS(W:Walks prog w A.in1 I fp wr n P St)(O:MZ prog w A.in1 base P bt)(B:S ∉ fp)(bw:∀a ∈ wr,base.get? a=aD)(L:base.get? S=aD):∀ (m i:Nat) (s:Shared) (b:Value) (c:Nat),i+1+m=n->St (i+1) s.heap->P (argBest bt i) b->(∀a o,base.get? a=aw o->s.heap.get? a=aw o)->s.heap.get? S=aw { cls:=.type "list", dict:=aD,data:=.seq #[b,b] c,slots:=#[] } ->
  (∀v h' C,P (argBest bt (n - 1)) v->(∀a o,a ∉ wr->a ≠ S->s.heap.get? a=aw o->h'.get? a=aw o)->R (.ok (.ret v)) { s with heap:=h',toks:=C })->codeAny (model prog w) A (.builtin "min.loop" ⟨[.ref I,.none,.ref S],[(Str.ofString "default", d)]⟩) R s
 |0,i,s,b,c,e,st,pb,kb,gs,r=>by
  !J:S ∉ wr:=λh=>B (W.sub _ h);~Zai Vo ?_;rw[Around.under_plainId Vv _];show wpAny _ A.in1 (ZaM (.ref S) >>= _) _ _ s;~Za0 (Zbt gs rfl ?_);show wpAny _ A.in1 (tryCatch (pyNext (.ref I)) _ >>= _) _ _ s;~Za0 (Zby (W.done s _ _ (by rw[<-e];&st) λh' C k=>?_));show wpAny _ A.in1 (ZaX S (λ_=>#[]) >>= _) _ _ _;~Za0 (ZbB (k S _ J gs) rfl (Za0 (Zbc (Zbl ?_))));&r b _ C (by rw[<-e];&pb) λa o l u z=>(ZO _ _ (Ne.symm u)).trans (k a o l z)
 |m+1,i,s,b,c,e,st,pb,kb,gs,r=>by
  !J:S ∉ wr:=λh=>B (W.sub _ h);~Zai Vo ?_;rw[Around.under_plainId Vv _];show wpAny _ A.in1 (ZaM (.ref S) >>= _) _ _ s;~Za0 (Zbt gs rfl ?_);show wpAny _ A.in1 (tryCatch (pyNext (.ref I)) _ >>= _) _ _ s;~Za0 (Zby (W.item (i+1) s _ _ (by lia) st λv h' C X y k=>?_));!j:=k S _ J gs;!U:∀a o,base.get? a=aw o->a ∉ wr/\a ≠ S:=λa o h=>⟨λz=>(by rw[bw a z] at h;cases h),λz=>(by rw[z,L] at h;cases h)⟩;!q:∀a o,base.get? a=aw o->h'.get? a=aw o:=λa o h=>k a o (U a o h).1 (kb a o h);show wpAny _ A.in1 (tryCatch (holding [v,v] (ZaI .Lt v b >>= _)) _ >>= _) _ _ _;~Za0 (Zby (Za9 (Za0 (O (i+1) (argBest bt i) v b _ _ _ q X pb ?_))));~Za0 (Za9 (Zbx ?_));~Za0 (Zbc (Zbl ?_));cases hb:bt (i+1) (argBest bt i) with
  |true=>
   simp only[if_true];~Za0 (ZbB j rfl (Za0 (Zbc ?_)));rw[yw];~Zbl ⟨ZaE Vv _,nS W O B bw L m (i+1) _ v _ (by lia) (W.frame _ _ _ y λa af o z=>?_) (by simp only[argBest,hb,if_true];&X) (λa o h=>(ZO _ _ (Ne.symm (U a o h).2)).trans (q a o h)) (Z5 _ j rfl) λQ f T p E=>?_⟩
   ·&(ZO _ _ (λz:S=a=>B (by rw[z];&af))).trans z
   ·&r Q f T p λa o l u z=>E a o l u ((ZO _ _ (Ne.symm u)).trans (k a o l z))
  |false=>
   simp only[ZN,if_false];~Za0 (Zbc ?_);rw[yw];~Zbl ⟨ZaE Vv _,nS W O B bw L m (i+1) _ b c (by lia) y (by simp only[argBest,hb,ZN,if_false];&pb) q j λQ f T p E=>?_⟩;&r Q f T p λa o l u z=>E a o l u (k a o l z)
def Av{s:Shared}(W:Walks prog w A.in1 I fp wr n P St)(O:MZ prog w A.in1 base P bt)(l:S ∉ fp)(bw:∀a ∈ wr,base.get? a=aD)(B:base.get? S=aD)(X:0 < n){c:Nat}(st:St 0 s.heap)(E:∀a o,base.get? a=aw o->s.heap.get? a=aw o)(gs:s.heap.get? S=aw { cls:=.type "list", dict:=aD,data:=.seq #[] c,slots:=#[] })
  (r:∀v h' u,P (argBest bt (n - 1)) v->(∀a o,a ∉ wr->a ≠ S->s.heap.get? a=aw o->h'.get? a=aw o)->R (.ok (.ret v)) { s with heap:=h',toks:=u }):codeAny (model prog w) A (.builtin "min.loop" ⟨[.ref I,.none,.ref S],[(Str.ofString "default", d)]⟩) R s:=by
 !L:S ∉ wr:=λh=>l (W.sub _ h);~Zai Vo ?_;rw[Around.under_plainId Vv _];show wpAny _ A.in1 (ZaM (.ref S) >>= _) _ _ s;~Za0 (Zbt gs rfl ?_);show wpAny _ A.in1 (tryCatch (pyNext (.ref I)) _ >>= _) _ _ s;~Za0 (Zby (W.item 0 s _ _ X st λv h' u U j k=>?_));!b:=k S _ L gs;!C:∀a o,base.get? a=aw o->a ∉ wr/\a ≠ S:=λa o h=>⟨λz=>(by rw[bw a z] at h;cases h),λz=>(by rw[z,B] at h;cases h)⟩;show wpAny _ A.in1 (ZaX S (λ_=>#[v,v]) >>= _) _ _ _;~Za0 (ZbB b rfl ?_);rw[yw];~Zbl ⟨ZaE Vv _,nS W O l bw B (n - 1) 0 _ v _ (by lia) (W.frame _ _ _ j λa af o z=>?_) U (λa o h=>(ZO _ _ (Ne.symm (C a o h).2)).trans (k a o (C a o h).1 (E a o h))) (Z5 _ b rfl) λQ f T p J=>?_⟩
 ·&(ZO _ _ (λz:S=a=>l (by rw[z];&af))).trans z
 ·&r Q f T p λa o y q z=>J a o y q ((ZO _ _ (Ne.symm q)).trans (k a o y z))
def CU{s:Shared}(W:Walks prog w A.in1 I fp wr 0 P St)(b:S ∉ fp){c:Nat}(st:St 0 s.heap)(gs:s.heap.get? S=aw { cls:=.type "list", dict:=aD,data:=.seq #[] c,slots:=#[] })
  (r:∀h' T,(∀a o,a ∉ wr->s.heap.get? a=aw o->h'.get? a=aw o)->R (.ok (.ret d)) { s with heap:=h',toks:=T }):codeAny (model prog w) A (.builtin "min.loop" ⟨[.ref I,.none,.ref S],[(Str.ofString "default", d)]⟩) R s:=by
 ~Zai Vo ?_;rw[Around.under_plainId Vv _];show wpAny _ A.in1 (ZaM (.ref S) >>= _) _ _ s;~Za0 (Zbt gs rfl ?_);show wpAny _ A.in1 (tryCatch (pyNext (.ref I)) _ >>= _) _ _ s;~Za0 (Zby (W.done s _ _ st λh' T k=>?_));&Za0 (Zbs (Zbl (r h' T k)))
variable {E:Value->Shared->Prop} {s:Shared} {l:Addr} {its:Array Value} {Q:Value->Shared->Prop}
def CV(j:s.heap.IsList l its)
  (h:∀c:Shared,c={ s with heap:=s.heap.push { cls:=.type "list_iterator", data:=.fields #[.ref l,.int 0 0] } } ->
   (c.heap.IsListIter s.heap.objs.size l 0/\c.heap.IsList l its)->(∀b ∈ [s.heap.objs.size,l],b < c.heap.objs.size)->l ≠ s.heap.objs.size->Q (.ref s.heap.objs.size) c) :
  wpAny (model prog w) A (pyIter (.ref l)) Q E s:=by
 !f:l < s.heap.objs.size:=by #{_,e,_}:=j;&Zv e
 ~Zbm j (h _ rfl ⟨⟨_,Zs _ rfl,rfl,rfl⟩,j.push _⟩ (λb hb=>?_) (ZH f));show b < (s.heap.push _).objs.size;rw[Yz];simp only[Zn,XQ,or_false] at hb;rcases hb with rfl |rfl
 ·&Y2 _
 ·&YD f
def CW(p:A.handled=aD)(u:s.heap.IsList l its)(z:MZ prog w A.in1 s.heap (λi v=>its[i]?=aw v) bt)
  (J:0 < its.size->∀v h' T,its[argBest bt (its.size - 1)]?=aw v->(∀b o,s.heap.get? b=aw o->h'.get? b=aw o)->Q v { s with heap:=h',toks:=T })
  (y:its.size=0->∀h' T,(∀b o,s.heap.get? b=aw o->h'.get? b=aw o)->Q d { s with heap:=h',toks:=T }):wpAny (model prog w) A (call (.builtin "min") [.ref l] [(Str.ofString "default", d)]) Q E s:=by
 ~kmb_tree F.kind_min F.plain_min F.entry_min (CT _ _) ?_;show wpAny _ A.in1 (Builtin.Builtins.bindParams "min" ["key", "default"] 0 ⟨[],[(Str.ofString "default", d)]⟩ >>= _) _ _ s;~Za0 (Zbj (show Builtin.Builtins.bindParams "min" ["key", "default"] 0 ⟨[],[(Str.ofString "default", d)]⟩=pure [aD,aw d] from rfl) ?_);~Za0 (Zbl ?_);~Za0 (CV u λO e st f L=>?_);subst e;!W:=Walks.list (prog:=prog) (w:=w) (A:=A.in1) p s.heap.objs.size l L its;~Za0 (Zbh ?_);!U:∀b ∈ [s.heap.objs.size,l],b < (s.heap.push { cls:=.type "list_iterator", data:=.fields #[.ref l,.int 0 0] }).objs.size:=f;rw[yw]
 !B:s.heap.get? s.heap.objs.size=aD:=by
  cases q:s.heap.get? s.heap.objs.size with
  |none=>rfl
  |some o=>&absurd (Zv q) (ZI _)
 by_cases j:its.size=0
 ·rw[j] at W;~Zbl ⟨ZaE Vv _,CU W (λc=>ZI _ (f _ c)) (W.frame _ _ _ st λb _ o e=>Zc _ e) (Zs _ rfl) λh' T h=>?_⟩;&y j h' T (ZaD λb o hb e=>h b o hb (Zc _ e))
 ·~Zbl ⟨ZaE Vv _,Av (base:=s.heap) W z (λc=>ZI _ (f _ c)) ?_ ?_ (by lia) (W.frame _ _ _ st λb _ o e=>Zc _ e) (λa o e=>Zc _ (Zc _ e)) (Zs _ rfl) λv h' T C h=>?_⟩
  ·intro a k;rw[ZG.mp k];&B
  ·cases q:s.heap.get? (s.heap.push { cls:=.type "list_iterator", data:=.fields #[.ref l,.int 0 0] }).objs.size with
   |none=>rfl
   |some o=>have:=Zv q;rw[Yz] at this;lia
  ·&J (by lia) v h' T C (ZaD λb o hb e=>h b o hb (ZH (Zv e)) (Zc _ e))
end
abbrev yx:D->Option (Int × List Int)
 |.tup [.int n,.tup es]=>(cP es).map λns=>(n,ns)
 |_=>aD
abbrev iu:List D->Option (List (Int × List Int))
 |[]=>aw []
 |d::ds=>match yx d,iu ds with
  |some w,aw ws=>aw (w::ws)
  |_,_=>aD
abbrev dG(b:List (Int × List Int))(i j:Nat):Bool:=cS (b.getD i (0,[])) (b.getD j (0,[]))
abbrev pQ(T:Bool)(d:List D)(S:Sto):Option (D × Sto):=match T,iu d with
 |false,aw ws=>aw (d.getD (argBest (dG ws) (d.length - 1)) .non,S)
 |_,_=>aD
def rZ:∀ {c:List D} {b:List (Int × List Int)},iu c=aw b->b.length=c.length/\∀ (i:Nat) d,c[i]?=aw d->∃w,b[i]?=aw w/\d = .tup [.int w.1,.tup (w.2.map D.int)]
 |[],_,e=>by cases e;&{rfl,λi d h=>by simp at h}
 |d::c,b,e=>by
  simp only[iu] at e;split at e
  ·rename_i w j f k;cases e;#{l,r}:=rZ k;~{by rw[Zo,Zo,l],λi p h=>?_};cases i with
   |zero=>
    cases h;~{w,rfl,?_};unfold yx at f;split at f
    ·rename_i n q;#{ns,E,rfl}:=ZE.mp f;rw[cQ E]
    ·cases f
   |succ i=>&r i p (by simpa using h)
  ·cases e
def yy{b:Nat->Nat->Bool}:∀n,argBest b n<=n
 |0=>Zf _
 |n+1=>by
  simp only[argBest];split
  ·&Zf _
  ·&Nat.le_succ_of_le (yy n)
section
variable {X:Cx} {K:VY} {m:List Addr} {H:Hp} {S:Sto} {e:Expr} {t:TA} {p pos kp vp:Pos} {j:Nat}
def qw{c:List (Addr × Obj)}{C:L2.St}{s:Shared}(I:Inv X c C H s){n:Int}{ns:List Int}{v:V}{u:Value}(vd:VD X.K m H (.tup [.int n,.tup (ns.map D.int)]) v)(r:aE v u) :
  ∃l t q o nn d sl xs,u = .ref l/\o=(⟨.type "tuple", d,.seq #[.int n t,.ref q] nn,sl⟩:Obj)/\s.heap.get? l=aw o/\IsTup s.heap q xs/\IntsAre xs.toList ns:=by
 #{l,vs,rfl,L,Q}:=vd.tups;#{a,b,rfl,B,U}:=wM Q;clear Q;cases B.ints;#{q,ws,rfl,z,E}:=U.tups;!Z:=bO E;subst Z;cases r;#{_,O,rv,o,h1,h,nn,k,h4}:=I.hok l _ L;#{x,y,rfl,r1,r2}:=mN rv;#{T,rfl}:=r1;cases r2;#{xs,J,tx,_}:=I.tuple (.of z);#{Y,d,f,sl}:=o;simp only at h k;subst h k;&{l,T,q,_,nn,d,sl,xs.toArray,rfl,rfl,h1,tx,by simpa using bv J}
def M0(hu:X.A.units+64 < cLine)(hc:X.calm=aN)(hg:Gl X "min")(hm:X.mg "min" = aD)(hdb:(("min" : Str) == ("__debug__" : Str))=aS)(ha:PA X [e] t)(he:ZaQ [e] X.env=(aS,eval e X.env)::ZaQ [] X.env) :
  PE X (.Call (.Name "min" p) [e] [⟨aw "default", .Constant .none j vp,kp⟩] pos) (tCB (r1 (rSq X.K pQ)) t):=by
 intro f s σ H Q I h;~ZaY (eF I hg hm W0 ?_ (by decide) hdb);~callWith_kw (thn (ha pos f s σ H _ I h) λus s1 ⟨vs,H1,I1,r,q1⟩=>?_) (by rw[he];rfl) (by rw[he];rfl) rfl rfl;~thn (rd (nm:=aw "default") (kpos:=kp) (Bo (X:=X) (j:=j) (pos:=vp)) wg pos f s1 σ H1 _ I1 (show cf (tC .non) jl σ H1 (λzs c=>zs=[.non]/\c=H1) from ⟨rfl,rfl⟩)) λks s2 ⟨zs,c,n,rz,ez,eH⟩=>?_;subst ez eH;#{u,rfl,ru}:=bQ rz;cases ru;#{_,rfl,m,S,tu,k,a,ws,d,S',R,rfl,sq,vd,L,q}:=ca q1;#{u',rfl,ru'}:=bQ r;cases ru';unfold pQ at L;split at L
 ·rename_i J hw;cases L;#{lw,at_}:=rZ hw;!sq:SqL X.K c a ws:=sq;#{b,rv,pl,hz}:=n.list sq;!ld:=vd.length;!lr:=rv.length
  !there:∀ (i:Nat) v,b.toArray[i]?=aw v->∃x d,k[i]?=aw d/\J[i]?=aw x/\d = .tup [.int x.1,.tup (x.2.map D.int)]/\∃y,ws[i]?=aw y/\VD X.K m c d y/\aE y v:=λi v B=>by
   !B:b[i]?=aw v:=by simpa using B
   !hi:i < k.length:=by !:=(Zb.mp B).1;lia
   #{y,O,vy}:=vd.get (gEG hi);#{v',C,ry}:=rv.get O;rw[B] at C;cases C;#{x,T,ex}:=at_ i _ (gEG hi);&{x,_,gEG hi,T,ex,y,O,vy,ry}
  ~CW (bt:=dG J) (n.ok.hd hc) pl.isList ?_ (λE v h' tk' B hk=>?_) (λE h' tk' hk=>?_)
  ·intro i j vi vj s3 Q3 E3 kp pi pj hq;#{x,d1,l,T,rfl,y1,_,v1,r1}:=there i vi pi;#{y,d2,hd2,O,rfl,y2,_,v2,r2}:=there j vj pj;#{l1,t1,p1,o1,n1,Z,sl1,Y,rfl,rfl,g1,tp1,i1}:=qw n v1 r1;#{l2,t2,p2,o2,n2,dd2,sl2,U,rfl,rfl,g2,tp2,i2}:=qw n v2 r2
   !e:dG J i j=cS x y:=by
    unfold dG;rw[Zr,Zr,T,O];rfl
   rw[e] at hq
   &ZaJ (op:=.Lt) ⟨_,kp _ _ g1,rfl⟩ ⟨_,kp _ _ g2,rfl⟩ VG Vr (Vl _ _) (pP l1 l2 x.1 y.1 t1 t2 p1 p2 n1 n2 Z dd2 sl1 sl2 x.2 y.2)
    ⟨kp _ _ g1,kp _ _ g2,⟨Y,U,tp1.keeps kp,tp2.keeps kp,i1,i2⟩,(show X.A.units+1+1 < cLine by lia),show Value.bool (cS x y) ≠ Value.notImplemented/\Q3 (.bool (cS x y)) s3 from ⟨(λz=>nomatch z),hq⟩⟩ (show X.A.units+1 < cLine by lia)
  ·!hn:0 < k.length:=by !:b.toArray.size=b.length:=Zk;lia
   #{x,d1,l,T,ed,y1,_,v1,r1}:=there _ v B;!e:b.toArray.size=k.length:=by rw[Zk];lia
   rw[e] at l;~{y1,c,n.kept hk,r1,?_};rw[show k.getD (argBest (dG J) (k.length - 1)) .non=d1 by rw[Zr,l];rfl] at q;&q m c _ (Aft.refl R) v1
  ·!en:k=[]:=Z1.mp (by rw[Zk] at E;lia);subst en;&{.non,c,n.kept hk,rfl,q m c _ (Aft.refl R) kh}
 ·cases L
end
end Ev
namespace L2
open PySem PySem.Spec PyProof.Rows PySem.SeqAt AutoSeq1
def M1{d:Type}(f:Nat->d->Sem (ForInStep d))(I:Nat->d->Shared->Prop)(Q:d->Shared->Prop)(n:Nat)
  (T:∀i b s,i < n->I i b s->wpAny M A (f i b) (λr k=>match r with |.yield B=>I (i+1) B k |.done B=>Q B k) E s)
  (l:∀b s,I n b s->Q b s) (b:d) (h:I 0 b s):wpAny M A (forIn [0:n] b f) Q E s:=by
 rw[Std.Legacy.Range.forIn_eq_forIn_range'];~Za7 _ (λc b s=>∃i,i<=n/\c=List.range' i (n - i)/\I i b s) _ (λx c b s ⟨i,hi,e,h⟩=>?_) (λb s ⟨i,hi,e,h⟩=>?_) _ _ ⟨0,Z2 _,by simp[Std.Legacy.Range.size],h⟩
 ·!j:i < n:=Nat.lt_of_not_le λz=>by rw[show n - i=0 by omega] at e;cases e
  rw[show n - i=(n - i - 1)+1 by omega,List.range'_succ] at e;cases e;~Zbe (T _ b s j h) (λr k p=>?_) λ_ _ u=>u;cases r with
  |done B=>&p
  |yield B=>&{x+1,j,by rw[show n - x - 1=n - (x+1) by omega],p}
 ·!:n - i=0:=by
   cases q:n - i with
   |zero=>rfl
   |succ m=>rw[q,List.range'_succ] at e;cases e
  obtain rfl:i=n:=by omega
  &l b s h
def pR(l:Addr)(I:Array Value)(n:Nat)(E:Option Addr)(sl:Array (Option Value))(x:Value)(e:Value->Bool)(j:Nat)(J:j < I.size)
  (k:e I[j]=aN) (p:∀m (L:m < I.size),m < j->e I[m]=aS) :
  Meets (Builtin.«tuple.index» ⟨[.ref l,x],[]⟩)
   (λA R s=>s.heap.get? l=aw { cls:=.type "tuple", dict:=E,data:=.seq I n,slots:=sl }/\(∀y,y ∈ I->EqAt A.in1 s y x (e y))/\R (.ok (.ret (.int j s.toks))) { s with toks:=s.toks+1 }):=
 .of_wp λprog w A R s h=>by
  #{u,g,d,T,os}:=s;#{z,C,h}:=h
  wp_walk using Zbd z,M1 _ (λi b f=>b.1=aD/\i<=j/\f=⟨u,g,d,T,os⟩) _
  case turn=>
   rintro i b f hi ⟨hb,v,rfl⟩;!c:i < I.size:=by simpa using hi
   rw[Array.getElem?_eq_getElem c];~Za0 (C _ (Ws c) prog w _ _ ?_);by_cases q:i=j
   ·subst q;rw[k]
    wp_walk
    &{_,rfl,h}
   ·rw[p i c (by omega)]
    wp_walk
    &{rfl,by omega,rfl}
  case fin=>
   rintro b f ⟨_,B,_⟩;rw[XV] at B;omega
  case h=>&{rfl,Z2 _,rfl}
end L2
namespace L2
open PySem PySem.Spec PyProof.Rows PySem.SeqAt AutoSeq1
variable {P:Program} {w:World} {A:Around} {E:Value->Shared->Prop} {s:Shared} {d it:Addr} {o:Obj} {es:Array DictEntry} {ep i:Nat}
def Aw(hd:(d == ZaV)=aS)(c:s.heap.get? d=aw o)(j:o.ExactDict)(h:o.data = .dict es ep)
  (f:Q (.ref s.heap.objs.size) { s with heap:=s.heap.push { cls:=.type "dict_keyiterator", data:=.fields #[.ref d,.int 0 0,.int es.size 0,.int ep 0] } }):wpAny (model P w) A (pyIter (.ref d)) Q E s:=by
 !b:s.TypeIs (.ref d) "dict" := ⟨o,c,j.1⟩;~wpAny_pyIter_slot b F.slot_dict_iter (Za1 F.slot_dict_iter b F.entry_dict_iter ?_ (F.args_dict_iter_1 _));!z:Builtin.Dict.showsAll d=pure ():=by unfold Builtin.Dict.showsAll;rw[hd];rfl
 unfold Builtin.«dict.__iter__»;unfold Builtin.Dict.dictSlotNone;~Za0 (Za0 (Zbi b (Zbl ?_)));show wpAny _ _ (Builtin.Dict.showsAll d >>= _) _ _ s;rw[z];~Za0 (Zbl (Za0 (Za3 c h (Za0 (Za4 c h ?_)))));~Za0 (Zbh (Zbl ⟨_,rfl, "dict_keyiterator", _,⟨_,Zs _ rfl,rfl⟩,F.slot_dict_keyiterator_next.lookup,?_⟩));&f
def Ax(h:s.heap.IsKeyIter it d i es.size ep)(j:s.heap.get? d=aw o)(c:o.data = .dict es ep)(l:es[i]?=aw e)
  (n:∀h',h'.IsKeyIter it d (i+1) es.size ep->Heap.SameBut it s.heap h'->Q (aw e.key) { s with heap:=h' }):wpAny (model P w) A (pyNext (.ref it)) Q E s:=by
 #{O,hi,p,b}:=id h;unfold pyNext
 ~Za0 (ZaZ (wpAny_callSpecial?_slot (name:=Str.ofString "__next__") h.typeIs Vx
  (Za1 Vx h.typeIs Vm ?_ (Vh _))))
 wp_walk using Zbz h.typeIs,wpAny_fieldsOf hi b,Za3 j c,Za4 j c,Zbb h.typeIs
 !k:(if (i:Int) < 0 then aD else es[(i:Int).toNat]?)=aw e:=by rw[if_neg (by omega)];&l
 rw[k]
 !f:(s.heap.update it (Obj.mapFields (·.setIfInBounds 1 (rawInt ((i:Int)+1))))).IsKeyIter it d (i+1) es.size ep:=
  ⟨_,Z5 _ hi (Obj.isFreed_of_fields (Obj.data_mapFields b _)),(Obj.cls_mapFields ..).trans p,by rw[Obj.data_mapFields b];simp[rawInt]⟩
 !own:Builtin.Dict_items.ownsTuple "dict_keyiterator" = aS:=by decide
 wp_walk using Zbz h.typeIs,Zbb h.typeIs
 simp only[own,ZN,if_false];rw[b];show wpAny _ _ (if 0+1 < 4 then update it (Obj.mapFields λx=>x.setIfInBounds 1 (rawInt ((i:Int)+1))) else _) _ _ _;rw[if_pos (by decide)];~wpAny_update hi ?_
 wp_walk using Zbb f.typeIs
 &{_,rfl,Zbl (n _ f (Heap.SameBut.update ..))}
def CY(l:A.handled=aD)(h:s.heap.IsKeyIter it d i es.size ep)(k:s.heap.get? d=aw o)(c:o.data = .dict es ep)(p:es.size<=i)
  (q:∀h',Heap.ExtBut it s.heap h'->Q aD { s with heap:=h' }):wpAny (model P w) A (pyNext (.ref it)) Q E s:=by
 #{O,hi,u,f}:=id h;unfold pyNext
 ~Za0 (ZaZ (wpAny_callSpecial?_slot (name:=Str.ofString "__next__") h.typeIs Vx
  (Za1 Vx h.typeIs Vm ?_ (Vh _))))
 wp_walk using Zbz h.typeIs,wpAny_fieldsOf hi f,Za3 k c,Za4 k c,Zbb h.typeIs
 !n:(if (i:Int) < 0 then aD else es[(i:Int).toNat]?)=aD:=by rw[if_neg (by omega)];&Array.getElem?_eq_none p
 rw[n];!own:Builtin.Dict_items.ownsTuple "dict_keyiterator" = aS:=by decide
 wp_walk using Zbz h.typeIs
 simp only[own,ZN,if_false];rw[f];show wpAny _ _ (if 0 < 4 then update it _ else _) _ _ _;rw[if_pos (by decide)];~wpAny_update hi ?_;!j:A.in1.handled=aD:=l
 wp_walk
 simp only[raiseNew];~Za0 (wpAny_handled ?_);rw[j];~Za0 (Zbl (wpAny_throw ?_));~Za0 (Zba (T := "StopIteration") (b:=true) ⟨_,Zs _ rfl,rfl⟩ isSubtype_stop ?_);&Zbl (q _ (((Heap.SameBut.update ..).extBut.push _).push _))
end L2
namespace L2
open PySem PySem.Spec PyProof.Rows PySem.SeqAt AutoSeq1
section
variable {P:Program} {w:World} {κ:Type} [DecidableEq κ] {knd:VJ P w κ} {A:Around} {E:Value->Shared->Prop} {s:Shared}
structure DQ(knd:VJ P w κ)(h:Heap)(q:Addr)(xs:List (κ × Addr × Value)):Prop where
 ex:∃o es,h.get? q=aw o/\o.ExactDict/\o.data = .dict es xs.length/\es.toList=xs.map (entryOfKey knd)
def GR(f:knd.room A)(h:knd.is s.heap k a)(B:DQ knd s.heap q xs)(b:∀x ∈ xs,knd.is s.heap x.1 x.2.1)(z:(xs.map (·.1)).Nodup)(l:k ∉ xs.map (·.1))(y:xs.length<=sizeLine)
  (u:∀h' t,DQ knd h' q (xs++[(k,a,v)])->Heap.SameBut q s.heap h'->Q () { s with heap:=h',toks:=t }):wpAny (model P w) A (dictSet q (.ref a) v) Q E s:=by
 #{o,C,c,n,hd,d}:=B.ex;unfold dictSet
 try with_reducible ~Za9 ?_
 ~Za0 (knd.pyHash f h ?_);unfold dictSetHashed
 try with_reducible ~Za9 ?_
 ~Za0 (wpAny_dictFind_heap (s:={ s with toks:=s.toks+knd.draws k }) f h c hd d b z (λ_=>?_) λj p e=>absurd (Zz.mpr ⟨_,Zd e,rfl⟩) l);~Za0 (Zbs (wpAny_updateDictKeys (hz:=by !e:=size_of_entries d;omega) (s:={ s with toks:=s.toks+knd.draws k }) c hd (u _ _ ⟨_,_,Z5 _ c (Obj.isFreed_of_dict (Obj.data_mapDictKeys hd _)),n.mapDictKeys _,(Obj.data_mapDictKeys hd _).trans (by rw[Ze];rfl),?_⟩ (Heap.SameBut.update ..))));simp[d,entryOfKey]
def hZ:plainId "dict.update.loop" = aN:=by decide +kernel
def qx:entryFor table "dict.update.loop" = aw Builtin.«dict.update.loop»:=entryFor_of_tree (by kernel_rfl)
abbrev Kpt(c h:Heap):Prop:=∀b o,c.get? b=aw o->h.get? b=aw o
def CZ{h0:Heap}{l q it:Addr}{ts:List Addr}{xs:List (κ × Addr × Value)}(hl:h0.IsList l (ts.map Value.ref).toArray)(ht:∀ (j:Nat) x,xs[j]?=aw x->∃t,ts[j]?=aw t/\h0.IsTuple t #[.ref x.2.1,x.2.2])(hlen:ts.length=xs.length)(hn:(xs.map (·.1)).Nodup)(hK:∀h,Kpt h0 h->∀x ∈ xs,knd.is h x.1 x.2.1)(hsz:xs.length<=sizeLine)(hq:h0.objs.size<=q)(hi:h0.objs.size<=it)(f:q ≠ it)(k:Nat) :
  ∀i:Nat,xs.length - i=k->i<=xs.length->MeetsIn P w (Builtin.«dict.update.loop» ⟨[.ref q,.ref it,rawInt i,.none],[]⟩)
   (λA R s=>A.handled=aD/\knd.room A.in1/\Kpt h0 s.heap/\DQ knd s.heap q (xs.take i)/\s.heap.IsListIter it l i/\∀h' t',Kpt h0 h'->DQ knd h' q xs->R (.ok (.ret .none)) { s with heap:=h',toks:=t' }):=by
 !O:∀ {b:Addr} {o:Obj},h0.get? b=aw o->b ≠ q/\b ≠ it:=λ{b o} e=>⟨λz=>absurd (Zv e) (by rw[z];&Nat.not_lt.mpr hq),λz=>absurd (Zv e) (by rw[z];&Nat.not_lt.mpr hi)⟩
 induction k with
 |zero=>
  intro i hk hle A R s h;#{B,g,d,p,os}:=s;#{X,hu,kp,J,st,h}:=h;!hij:i=xs.length:=by omega
  subst hij;#{ol,L,cl,n,dl}:=hl;!hL:B.IsList l (ts.map Value.ref).toArray:=⟨ol,kp _ _ L,cl,n,dl⟩;!fin:=λ(Q:Option Value->Shared->Prop) (E:Value->Shared->Prop)=>Zbp (prog:=P) (w:=w) (A:=A.in1) (E:=E) (Q:=Q) (s:=⟨B,g,d,p,os⟩) X st hL (by simp;omega)
  wp_walk using fin _ _
  intro h' eb;~Za0 (Zbl (Zbl ?_));~h h' p (λb o e=>eb b o (O e).2 (kp b o e)) ?_;rw[Yx] at J;#{o,U,eq,r}:=J.ex;&{o,U,eb _ _ f eq,r}
 |succ k ih=>
  intro i hk hle A R s h;#{B,g,d,p,os}:=s;#{X,hu,kp,J,st,h}:=h;#{ol,L,cl,n,dl}:=hl;!hL:B.IsList l (ts.map Value.ref).toArray:=⟨ol,kp _ _ L,cl,n,dl⟩;obtain⟨x,hx⟩:∃x,xs[i]?=aw x:=⟨_,gEG (by omega)⟩;#{t,e1,ot,et,ct,nt,dt}:=ht i x hx;!itm:=λ(Q:Option Value->Shared->Prop) (E:Value->Shared->Prop)=>Zbq (prog:=P) (w:=w) (A:=A.in1) (E:=E) (Q:=Q) (s:=⟨B,g,d,p,os⟩) (x:=.ref t) st hL (by simp[e1])
  wp_walk using itm _ _
  intro h1 Z u;#{cls,dd,data,sl}:=ot;simp only at ct dt;subst ct dt;!c:Kpt h0 h1:=λb o e=>(u.2 b (O e).2).trans (kp b o e);!I:=c _ _ et
  !dq1:DQ knd h1 q (xs.take i):=by
   #{o,U,eq,r}:=J.ex;&{o,U,(u.2 q f).trans eq,r}
  !mem:∀y ∈ xs.take i,y ∈ xs:=λy hy=>YW hy;!Y:x ∈ xs:=Zd hx;!split:xs.take (i+1)=xs.take i++[x]:=by rw[WK,hx];rfl
  !nd:((xs.take i++[x]).map (·.1)).Nodup:=by
   rw[<-split,XM];&List.Sublist.nodup (Wq _ _) hn
  rw[ZF,Ye] at nd;!st:=λ(Q:Unit->Shared->Prop) (E:Value->Shared->Prop)=>GR (A:=A.in1) (E:=E) (Q:=Q) (s:=⟨h1,g,d,p,os⟩) (v:=x.2.2) hu (hK h1 c x Y) dq1 (λy hy=>hK h1 c y (mem y hy)) nd.1 (λz=>nd.2.2 _ z _ (by simp) rfl) (by rw[Yi];omega)
  !prs:∀ (Q:List Value->Shared->Prop) (E:Value->Shared->Prop),Q [.ref x.2.1,x.2.2] ⟨h1,g,d,p,os⟩->wpAny (model P w) A.in1 (Builtin.Dict.pairItems (.ref t)) Q E ⟨h1,g,d,p,os⟩:=λQ E q=>by
   unfold Builtin.Dict.pairItems;~Za0 (ZbA (T := "tuple") ⟨_,I,rfl⟩ ?_);rw[if_pos (by decide)];&Za0 (Zbt I rfl (Zbl q))
  ~Za0 (Za9 (Za0 (Zby (prs _ _ ?_))));~Za9 (st _ _ λh2 t2 dq2 C=>?_);~Zbl ⟨ZaE hZ _,Zai qx ?_⟩;rw[Around.under_plainId hZ _];!hc:((i:Int)+1)=((i+1:Nat):Int):=by push_cast;rfl
  rw[hc];#{oi,ei,ri}:=Z;~ih (i+1) (by omega) (by omega) A R _ ⟨X,hu,λb o e=>(C.2 b (O e).1).trans (c b o e),?_,⟨oi,(C.2 it (Ne.symm f)).trans ei,ri⟩,h⟩;rw[split];&dq2
def GS:typeLookup (.type "list") "keys" = pure aD:=by rw[typeLookup_type,builtinLookup_eq_fast];kernel_rfl
end
section
variable {P:Program} {w:World} {A:Around} {E:Value->Shared->Prop} {s:Shared} {a:Addr} {its:Array Value} {n:Nat} {sl:Array (Option Value)}
def GU(j:A.handled=aD)(c:s.heap.get? a=aw { cls:=.type "list", dict:=aD,data:=.seq its n,slots:=sl })(k:∀h' t',Kpt s.heap h'->Q aD { s with heap:=h',toks:=t' }) :
  wpAny (model P w) A (getAttr? (.ref a) "keys") Q E s:=by
 #{f,g,d,y,os}:=s;!b:∀T,(⟨f,g,d,T,os⟩:Shared).TypeIs (.ref a) "list" := λ_=>⟨_,c,rfl⟩;!p:=sub_AttributeError;!v:=F.slot_list_getattribute.lookup;!q:=F.slot_list_getattribute.bind (.ref a);!l:=am_list_getattr_none;unfold getAttr? getAttrBy? getAttrBy
 repeat (any_goals (first |assumption |&b _ |((with_reducible show wpAny _ _ (call (Value.builtin "list.__getattribute__") _ _) _ _ _);~Zae F.slot_list_getattribute (b _) am_entry_list_getattribute (F.args_list_getattribute_2 _ _) (meets_getattribute_miss_list a its n sl "keys" _ GS (by decide)) ⟨c,j,λh' T e h=>?_⟩) |wp_step))
 #{t',u,z}:=h.there;!kp:Kpt f h':=h.keeps;show wpAny _ _ (getattributeRaised _ _ _ _ _ _ _) _ _ _;unfold getattributeRaised
 repeat (any_goals (first |assumption |wp_step))
 &k h' T kp
end
section
variable {P:Program} {w:World} {κ:Type} [DecidableEq κ] {knd:VJ P w κ} {A:Around} {E:Value->Shared->Prop} {s:Shared}
def w6{l:Addr}{ts:List Addr}{xs:List (κ × Addr × Value)}{Q:Value->Shared->Prop}{n:Nat}{sl:Array (Option Value)}(f:s.heap.get? l=aw { cls:=.type "list", dict:=aD,data:=.seq (ts.map Value.ref).toArray n,slots:=sl })(Z:∀ (j:Nat) x,xs[j]?=aw x->∃t,ts[j]?=aw t/\s.heap.IsTuple t #[.ref x.2.1,x.2.2])(d:ts.length=xs.length)(I:(xs.map (·.1)).Nodup)(O:∀h,Kpt s.heap h->∀x ∈ xs,knd.is h x.1 x.2.1)(z:xs.length<=sizeLine)(B:A.handled=aD)(X:knd.room A.in1.in1)
  (h:∀h' t',Kpt s.heap h'->DQ knd h' s.heap.objs.size xs->Q (.ref s.heap.objs.size) { s with heap:=h',toks:=t' }):wpAny (model P w) A (call (.type "dict") [.ref l]) Q E s:=by
 ~callType_codes (Q₁:=λobj c=>obj = .ref s.heap.objs.size/\c={ s with heap:=s.heap.push { cls:=.type "dict", data:=.dict #[] } }) F.kt_called_dict (F.kt_typeCall_dict_1 _) F.entry_dict_init (kt_code_dict_new _ ⟨rfl,rfl⟩) ?_;rintro obj c ⟨rfl,rfl⟩;!T:({ s with heap:=s.heap.push { cls:=.type "dict", data:=.dict #[] } }:Shared).TypeIs (.ref s.heap.objs.size) "dict" := ⟨_,Zs _ rfl,rfl⟩;!kp:Kpt s.heap (s.heap.push { cls:=.type "dict", data:=.dict #[] }):=λb o e=>Zc _ e;!v:A.in1.in1.handled=aD:=B;!J:({ s with heap:=s.heap.push { cls:=.type "dict", data:=.dict #[] } }:Shared).TypeIs (.ref l) "list" := ⟨_,kp _ _ f,rfl⟩;~{T,F.args_dict_init_2 _ _,?_};unfold Builtin.«dict.__init__»;~Za0 ?_;unfold Builtin.Dict.selfAndRest;~Za0 (Zbi T (Zbl ?_));show wpAny _ _ (Builtin.Dict.updateFrom "dict.__init__" s.heap.objs.size (.ref l) [] .none) _ _ _;unfold Builtin.Dict.updateFrom;~Za0 (ZbA J ?_);rw[if_pos (by decide)];~Za0 (GU v (kp _ _ f) λp C k=>?_);rw[if_pos (show(aD:Option Value).isNone=aN from rfl)];~Za0 (Zbs (Za0 ?_));!y:=k _ _ (kp _ _ f);~Zbm (s:={ s with heap:=p,toks:=C }) ⟨_,y,rfl,n,rfl⟩ ?_;~Zbl ⟨ZaE hZ _,Zai qx ?_⟩;rw[Around.under_plainId hZ _];!L:s.heap.objs.size < p.objs.size:=Zv (k _ _ (Zs _ rfl));!u:Kpt s.heap (p.push { cls:=.type "list_iterator", data:=.fields #[.ref l,.int 0 0] }):=λb o e=>Zc _ (k _ _ (kp _ _ e));~CZ (knd:=knd) (h0:=s.heap) (q:=s.heap.objs.size) (it:=p.objs.size) (ts:=ts) (xs:=xs) ⟨_,f,rfl,n,rfl⟩ Z d I O z (Zf _) (Y0 L) (ZH L) _ 0 rfl (Z2 _) A.in1 _ _ ⟨B,X,u,⟨_,#[],Zc _ (k _ _ (Zs _ rfl)),⟨rfl,rfl,rfl⟩,rfl,rfl⟩,⟨_,Zs _ rfl,rfl,rfl⟩,λh' t' U Y=>⟨rfl,h h' t' U Y⟩⟩
end
section
variable {P:Program} {w:World} {A:Around} {E:Value->Shared->Prop} {s:Shared} {r:Addr} {n:Nat} {t u v:Tok}
@[inline]abbrev KA:Nat->Value->Prop:=λi v=>∃t,v = .int (0+i * 1) t
def pS(q:A.handled=aD)(C:IsRange s.heap r 0 n 1 t u v)(k:Builtin.Range.small 0 n 1=aN)(I:Builtin.Range.rangeSize 0 n 1=n)(c:n<=2 ^ 24)
  (B:∀ (h':Heap) (T:Nat) (f:Array Value),s.heap.objs.size<=h'.objs.size->(∀b o,s.heap.get? b=aw o->h'.get? b=aw o)->ItemsOf KA f n->Q f.toList { s with heap:=h',toks:=T }):wpAny (model P w) A (collect (.ref r)) Q E s:=by
 unfold collect;~Za0 (wpAny_runValue (Zai F.entry_proto_collect ?_));rw[Around.under_plainId F.plain_proto_collect _];show wpAny _ A.in1 (newList [] >>= λl=>again (.builtin "list.__iadd__" ⟨[l,.ref r],[]⟩)) _ _ s;~Za0 (Zbh ?_);~Zbl ⟨ZaE F.plain_list_iadd _,Zai F.entry_list_iadd ?_⟩;rw[Around.under_plainId F.plain_list_iadd _];!y:(s.heap.push { cls:=.type "list", data:=.seq ([]:List Value).toArray }).get? s.heap.objs.size=aw { cls:=.type "list", data:=.seq ([]:List Value).toArray }:=Zs _ rfl;show wpAny _ A.in1 (Builtin.List.listExtendWith (.ref s.heap.objs.size) (.ref r) (.ref s.heap.objs.size)) _ _ _;~wpAny_extend_range (A:=A) (n:=n) (R:=λr p=>match r with |.ok (.ret v)=>wpAny (model P w) A (match v with |.ref a=>(do match (<-load a).data with |.seq xs _=>pure xs.toList |_=>unsupported "internal:collect") |_=>unsupported "internal:collect") Q E p |.ok _=>False |.error e=>E e p) (s:={ s with heap:=s.heap.push { cls:=.type "list", data:=.seq ([]:List Value).toArray } }) (c₀:=0) q (Zc _ C) k I c _ _ y λh' T j J z h d=>?_;show wpAny _ A (load s.heap.objs.size >>= _) _ _ _;~Za0 (wpAny_load h ?_);&Zbl (B h' T j (Y0 (Zv h)) (λb o e=>z b o (ZH (Zv e)) (Zc _ e)) d)
def uw(z:A.handled=aD)(p:IsRange s.heap r 0 n 1 t u v)(j:Builtin.Range.small 0 n 1=aN)(y:Builtin.Range.rangeSize 0 n 1=n)(f:n<=2 ^ 24)
  (I:∀ (h':Heap) (T:Nat) (acc:Array Value),s.heap.objs.size<=h'.objs.size->(∀b o,s.heap.get? b=aw o->h'.get? b=aw o)->ItemsOf KA acc n->Q (.ref h'.objs.size) { s with heap:=h'.push { cls:=.type "tuple", data:=.seq acc },toks:=T }):wpAny (model P w) A (call (.type "tuple") [.ref r]) Q E s:=by
 ~callType_codes (Q₁:=λobj c=>c.TypeIs obj "tuple"/\Q obj c) F.called_tuple (F.typeCall_tuple_1 _) F.entry_object_init ?_ λobj c h=>?_
 ·~codeAny_call_builtin F.plain_tuple_new F.entry_tuple_new (Zbj (F.newCall_tuple_1 _) ?_);!q:=sub_tuple_self;!k:=init_tuple_lookup;!J:=madeHere_tuple;!C:s.TypeIs (.ref r) "range" := ⟨_,p,rfl⟩;!O:=F.sub_range_tuple;!L:=λ(Q:List Value->Shared->Prop) (E:Value->Shared->Prop)=>pS (P:=P) (w:=w) (A:=A.in1.in1) (E:=E) (Q:=Q) (s:=s) (show A.in1.in1.handled=aD from z) p j y f
  wp_walk using ZbA C,L _ _
  intro h' T acc l B d;~Za0 (Zbl ?_);show wpAny _ _ (Builtin.Tuple.tupleExact acc.toList.toArray >>= λv=>ret v) _ _ _;unfold Builtin.Tuple.tupleExact;!e:acc.toList.toArray=acc:=by simp
  rw[e];~Za0 (Zbh ?_ (by show acc.size<=sizeLine;rw[d.1,ZaO];omega));&Zbl ⟨⟨_,Zs _ rfl,rfl⟩,I h' T acc l B d⟩
 ·&{h.1,Vi obj _,object_init_meets F.called_tuple.init.lookup F.called_tuple.made (by decide) P w A.in1 _ c ⟨h.1,rfl,h.2⟩}
end
end L2
namespace Ev
open PySem PySem.Spec PyProof.Rows L2
open PySem.W (KasT kas_sort kas_ask)
section
variable {prog:Program} {w:World} {A:Around} {E:Value->Shared->Prop} {s:Shared} {a kS:Addr} {vs:List Value} {f:Value} {P:PySem.Fin->Shared->Prop} {e1:Nat}
def C0(J:Nat->Array Value->Shared->Prop)(u:vs.length < 64)(sz:∀i b c,J i b c->b.size=i)(at_:∀i b c,J i b c->∃e,c.heap.get? kS=aw (seqObj "list" b e))
  (T:∀i v b c,vs[i]?=aw v->J i b c->wpAny (model prog w) A (call f [v]) (λk d=>(∃e,d.heap.get? kS=aw (seqObj "list" b e))/\J (i+1) (b.push k) { d with heap:=d.heap.update kS (Obj.mapSeq (·.push k)) }) (λ_ _=>False) c)
  (p:∀b c,J vs.length b c->wpAny (model prog w) A (ksk_end a aS vs.toArray e1 (.ref kS) b) P E c) (B:J 0 #[] s):wpAny (model prog w) A (ksk_rest a f aS vs.toArray e1 (.ref kS)) P E s:=by
 unfold ksk_rest;~Za0 (Zbs ?_)
 first
  |rw[List.forIn_toArray]
  |(rw[<-YN];simp only[Wd])
  |rw[<-YN]
 ~Za0 (ksk_fold (λi c=>∃b,J i b c) vs 0 s ⟨#[],B⟩ (λj x c q h=>?_) λc h=>?_)
 ·#{b,h}:=h;rw[YE] at h ⊢;!C:=(Zb.mp q).1;!I:=sz _ _ _ h;~Za0 (ZaZ (Zbe (T j x b c q h) (λk d y=>?_) λ_ _ z=>z.elim));#{⟨e,n⟩,l}:=y
  try dsimp only
  ~Za0 (listUpdate_at n rfl ?_ (by rw[ZaO];omega) (ZJ (Wt (WG ..)) (by rw[ZaO];omega)));&Zbl ⟨rfl,b.push k,l⟩
 ·#{b,h}:=h;rw[YE] at h;#{e,n}:=at_ _ _ _ h
  try dsimp only
  &Za0 (listItems_at n rfl (p b c h))
def GV{e:Nat}(Y:SortKind)(lt:Nat->Nat->Bool)(hk:s.heap.get? kS=aw (seqObj "list" k e))(ha:s.heap.get? a=aw (seqObj "list" #[] e1))(y:kS ≠ a)(O:k.toList.length=vs.length)(B:vs.length < 64)
  (kd:2<=vs.length->∀ (Q:SortKind->Shared->Prop),Q Y s->wpAny (model prog w) A (keyKind' k) Q E s)
  (U:∀i j,i < vs.length->j < vs.length->∀C:Bool->Shared->Prop,C (lt i j) s->kas_ask prog w A Y k.toList i j C s)
  (h:∀h' c,(∀b o,b ≠ a->b ≠ kS->s.heap.get? b=aw o->h'.get? b=aw o)->h'.get? a=aw (seqObj "list" (if vs.length < 2 then vs.toArray else YO ((bV lt (kas_sort vs.length)).toList.map λi=>vs.getD i Value.none)) c)->h'.objs.size=s.heap.objs.size->P (.done (.ret .none)) { s with heap:=h' }) :
  wpAny (model prog w) A (ksk_end a aS vs.toArray e1 (.ref kS) k) P E s:=by
 !kz:k.size=vs.length:=by rw[<-Zu];&O
 !T:∀ {st:SortSt} {out:List Value},(arrOf st).map (·.2)=out.toArray->out.length=vs.length->failedOf st=aD->(if vs.length < 2 then vs.toArray else YO ((bV lt (kas_sort vs.length)).toList.map λi=>vs.getD i Value.none))=out.toArray->wpAny (model prog w) A (ksk_tail a aS e1 (.ref kS) st) P E s:=λ{st out} ho hlo X he=>by
  !Z:=Heap.SameBut.update s.heap kS (Obj.mapSeq λ_=>(#[]:Array Value));!n:(s.heap.update kS (Obj.mapSeq λ_=>(#[]:Array Value))).get? a=aw (seqObj "list" #[] e1):=(Z.2 a y.symm).trans ha;obtain⟨J,I⟩:∃J,((s.heap.update kS (Obj.mapSeq λ_=>(#[]:Array Value))).update a (Obj.mapSeq λ_=>(arrOf st).map (·.2))).get? a=aw (seqObj "list" ((arrOf st).map (·.2)) J):=⟨_,get?_update_seq n λ_=>(arrOf st).map (·.2)⟩;!s2:=Heap.SameBut.update (s.heap.update kS (Obj.mapSeq λ_=>(#[]:Array Value))) a (Obj.mapSeq λ_=>(arrOf st).map (·.2));unfold ksk_tail
  try dsimp only
  ~Za0 (listUpdate_at hk rfl ?_ (by rw[kz,ZaO];omega) (Z2 _));~Za0 (Zbc ?_);~Za0 (seqEpoch_at n rfl ?_);simp only[ZN,if_false];~Za0 (listUpdate_at n rfl ?_ (Z2 _) (by rw[ho,Zk,hlo,ZaO];omega));rw[X];simp only[bne_self_eq_false,ZN,if_false];~Zbl (h _ J (λb o n1 n2 e=>?_) (by rw[he,<-ho];&I) (by rw[Yw,Yw]));&(s2.2 b n1).trans ((Z.2 b n2).trans e)
 unfold ksk_end
 try dsimp only
 simp only[ZN,if_false];by_cases l:vs.toArray.size < 2
 ·rw[if_pos l,if_pos l];~Za0 (Zbl ?_);rw[StateT.run_pure];~Za0 (Zbl ?_);dsimp only;~T (out:=vs) ?_ rfl rfl (by rw[if_pos (by simpa using l)]);show Array.map (λx:Keyed=>x.2) (k.zip vs.toArray)=_;apply Wy.mp;rw[Wz,WA,WB (by simp[kz])]
 ·rw[if_neg l,if_neg l];!v:2<=vs.length:=by simpa using l
  ~Za0 (kd v _ ?_);!er:k.zip vs.toArray=k.toList.toArray.zip vs.toArray:=by rw[X9]
  rw[er]
  ~Za0 (Zbe (V7 (κ:=Y) (ks:=k.toList) (vs:=vs) (Q:=λd q=>q=s/\arrOf d=(bV lt (kas_sort vs.length)).map (V4 (k.toList.toArray.zip vs.toArray))/\(bV lt (kas_sort vs.length)).size=vs.length/\failedOf d=aD)
   (G:=λp q=>q=s/\p=bV lt (kas_sort vs.length)) O v B (λp d q a1 a2 a3 L=>⟨L.1,L.2 ▸ a2,L.2 ▸ a1,a3⟩) (nB U (jB (by omega)) ⟨rfl,rfl⟩)) ?_ λ_ _ e=>e)
  rintro⟨⟨⟩,d⟩ q ⟨rfl,z,u,X⟩;dsimp only;&T (out:=(bV lt (kas_sort vs.length)).toList.map λi=>vs.getD i Value.none) (V8 O z) (by rw[Za,Zu];&u) X (by rw[if_neg (by omega)])
end
section
variable {prog:Program} {w:World} {A:Around} {E:Value->Shared->Prop} {s:Shared} {l q:Addr} {vs:List Value} {Q:Value->Shared->Prop}
def w8(hl:s.heap.IsList l vs.toArray)(U:vs.length < 64)(κ:SortKind)(lt:Nat->Nat->Bool)(J:Nat->Nat->Array Value->Shared->Prop)
  (J0:∀Y f,(∀b o,s.heap.get? b=aw o->Y.get? b=aw o)->Y.get? (s.heap.objs.size+1)=aw (seqObj "list" #[] f)->Y.get? (s.heap.objs.size+3)=aw (seqObj "list" #[] 0)->Y.objs.size=s.heap.objs.size+4->J f 0 #[] { s with heap:=Y })
  (at_:∀f i n d,J f i n d->n.size=i/\(∃e,d.heap.get? (s.heap.objs.size+3)=aw (seqObj "list" n e))/\d.heap.get? (s.heap.objs.size+1)=aw (seqObj "list" #[] f))
  (X:∀f i v n d,vs[i]?=aw v->J f i n d->wpAny (model prog w) A.in1.in1 (call (.ref q) [v]) (λk L=>(∃e,L.heap.get? (s.heap.objs.size+3)=aw (seqObj "list" n e))/\J f (i+1) (n.push k) { L with heap:=L.heap.update (s.heap.objs.size+3) (Obj.mapSeq (·.push k)) }) (λ_ _=>False) d)
  (kd:∀f n d,J f vs.length n d->2<=vs.length->∀ (A:Around) (E:Value->Shared->Prop) (Q:SortKind->Shared->Prop),Q κ d->wpAny (model prog w) A (keyKind' n) Q E d)
  (p:∀f n d,J f vs.length n d->∀i j,i < vs.length->j < vs.length->∀C:Bool->Shared->Prop,C (lt i j) d->kas_ask prog w A.in1.in1 κ n.toList i j C d)
  (h:∀f n d h' c,J f vs.length n d->(∀b o,b ≠ s.heap.objs.size+1->b ≠ s.heap.objs.size+3->d.heap.get? b=aw o->h'.get? b=aw o)->h'.get? (s.heap.objs.size+1)=aw (seqObj "list" (if vs.length < 2 then vs.toArray else YO ((bV lt (kas_sort vs.length)).toList.map λi=>vs.getD i Value.none)) c)->h'.objs.size=d.heap.objs.size->Q (.ref (s.heap.objs.size+1)) { d with heap:=h' }) :
  wpAny (model prog w) A (call (.builtin "sorted") [.ref l] [(Str.ofString "key", .ref q)]) Q E s:=by
 ~call_function_entry_kw kind_sorted plain_sorted entry_sorted (ksk_s1 _ _) ?_;unfold Builtin.«sorted»;~Za0 (m:=checkCount "sorted" 1 1 _) (Zbl ?_);~Za0 (collect_list hl ?_ (by rw[ZaO];omega));~Za0 (Zbg ?_ (by rw[ZaO];omega));!y:((s.heap.push (seqObj "list" #[] 0)).update s.heap.objs.size (Obj.mapSeq (·++vs.toArray))).objs.size=s.heap.objs.size+1:=by rw[Yw,size_push']
 !u:(((s.heap.push (seqObj "list" #[] 0)).update s.heap.objs.size (Obj.mapSeq (·++vs.toArray))).push (seqObj "list" vs.toArray 0)).get? (s.heap.objs.size+1)=aw (seqObj "list" vs.toArray 0):=by
  rw[<-y];&Zs _ rfl
 !keep:∀b o,s.heap.get? b=aw o->(((s.heap.push (seqObj "list" #[] 0)).update s.heap.objs.size (Obj.mapSeq (·++vs.toArray))).push (seqObj "list" vs.toArray 0)).get? b=aw o:=λb o q=>by
  !p:b < s.heap.objs.size:=Zv q;rw[Xh _ _ _ (by rw[y];&ZH (YD p)),Xy _ _ _ _ (ZH p),Xh _ _ _ (ZH p)];&q
 !Z:(((s.heap.push (seqObj "list" #[] 0)).update s.heap.objs.size (Obj.mapSeq (·++vs.toArray))).push (seqObj "list" vs.toArray 0)).objs.size=s.heap.objs.size+2:=by rw[size_push',y]
 show wpAny _ _ _ _ _ { s with heap:=((s.heap.push (seqObj "list" #[] 0)).update s.heap.objs.size (Obj.mapSeq (·++vs.toArray))).push (seqObj "list" vs.toArray 0) };rw[y];generalize (((s.heap.push (seqObj "list" #[] 0)).update s.heap.objs.size (Obj.mapSeq (·++vs.toArray))).push (seqObj "list" vs.toArray 0))=B at *;~Za0 (Za9 (wpAny_call_entry_kw slot_list_sort ⟨_,u,rfl⟩ entry_list_sort ?body (ksk_l1 _ _)))
 case body=>
  show wpAny (model prog w) A.in1.in1 (Builtin.«list.sort» ⟨[.ref (s.heap.objs.size+1)],[(Str.ofString "key", .ref q)]⟩) _ _ { s with heap:=B };rw[ksk_t1];unfold ksk_tree;obtain⟨f,T⟩:∃f,(B.update (s.heap.objs.size+1) (Obj.mapSeq λ_=>(#[]:Array Value))).get? (s.heap.objs.size+1)=aw (seqObj "list" #[] f):=⟨_,get?_update_seq u λ_=>#[]⟩;!s1:=Heap.SameBut.update B (s.heap.objs.size+1) (Obj.mapSeq λ_=>(#[]:Array Value));~Za0 (listItems_at u rfl ?_);~Za0 (listUpdate_at u rfl ?_ (by rw[Zk,ZaO];omega) (Z2 _));~Za0 (seqEpoch_at T rfl ?_);~Za0 (wpAny_newTuple ?_ (by show vs.length<=_;rw[ZaO];omega));~Za0 (Zbg ?_ (Z2 _));~Za9 ?_;!O:((B.update (s.heap.objs.size+1) (Obj.mapSeq λ_=>(#[]:Array Value))).push (seqObj "tuple" vs.toArray 0)).objs.size=s.heap.objs.size+3:=by rw[size_push',Yw,Z]
  !g:∀kS,((B.update (s.heap.objs.size+1) (Obj.mapSeq λ_=>(#[]:Array Value))).push (seqObj "tuple" vs.toArray 0)).objs.size=kS->kS=s.heap.objs.size+3:=λkS e=>by rw[<-e];&O
  try dsimp only
  rw[O];~C0 (s:={ s with heap:=((B.update (s.heap.objs.size+1) (Obj.mapSeq λ_=>(#[]:Array Value))).push (seqObj "tuple" vs.toArray 0)).push (seqObj "list" #[] 0) }) (J f) U (λi n d I=>(at_ f i n d I).1) (λi n d I=>(at_ f i n d I).2.1) (X f) (λn d I=>?_) (J0 _ f (λb o e=>?_) ?_ ?_ ?_)
  ·#{z,⟨e,O⟩,ha}:=at_ _ _ _ _ I;~GV (kS:=s.heap.objs.size+3) (a:=s.heap.objs.size+1) κ lt O ha (show s.heap.objs.size+3 ≠ s.heap.objs.size+1 by omega) (by rw[Zu];&z) U (λB Q qq=>kd f n d I B _ _ Q qq) (λi j hi hj C c=>p f n d I i j hi hj C c) λh' c k1 k2 k3=>⟨_,rfl,?_⟩;&Zbl ⟨_,rfl,h f n d h' c I k1 k2 k3⟩
  ·~Zc _ (Zc _ ?_);&(s1.2 b (ZH (YD (Zv e)))).trans (keep b o e)
  ·&Zc _ (Zc _ T)
  ·rw[<-O];&Zs _ rfl
  ·rw[size_push',O]
end
end Ev
namespace L2
open PySem PySem.Spec PyProof.Rows
open PySem.W (kla_fn kla_obj kla_callFunE kla_codeExpr)
def GW{P:Program}{w:World}{K:VY}{mg:Str->Option Value}{base:Heap}{k:Nat}{q C:Addr}{name d:Str}{p:W6}{body:Expr}{c:Scope}{pm l:Value}{N ps:List Str}{A:Around}{outer:List Env}{s:Shared}{H:Hp}{U:List Value}{j:List V}{Q:VK}{t:TE}
  (S:FnScope N ps c) (B:Room (k+1) A) (E:Env0 P w K mg base A outer s H) (L:s.heap.get? q=aw (kla_obj name d p body c [] pm C l)) (z:s.heap.CodeRec (.ref C) d)
  (hb:NE (kla_fn name d p body c [] pm (.ref C) l) ⟨U,[]⟩=pure (ps.zip U)) (T:j.length=ps.length) (r:aJ j U)
  (f:PE (jm CX0 P w K mg base N d c q (.ref C) A outer s H E0) body t) (ht:t (fc N j) H Q) :
  codeAny (model P w) A (.call (.ref q) ⟨U,[]⟩) (CR CX0 outer P w H s Q E0) s:=by
 !lim:s.heap.NoLimit:=E.mod.nolimit.keeps λb o e=>(E.bs b o e).1
 !h:∀y ∈ ps.zip U,c.names.lookup y.1=aw .local\/(c.names.lookup y.1=aw .cell/\((Zaf (s.heap.objs.size+1) c.names []).lookup y.1).isSome=aN):=λ⟨n,v⟩ Y=>by
  rcases S.par n (Xv Y).1 with q |q
  ·&.inl q
  ·&.inr ⟨q,VZ _ _ _ (.inl q)⟩
 ~kla_callFunE B.depth L rfl S.co S.gen rfl z ?_;rw[hb];~Zbl ?_;~Zbf S.kind h λenv X s1 x=>?_;subst X;~{lim.keeps x.toInCall.keep,kla_codeExpr ?_};!I:Inv (jm CX0 P w K mg base N d c q (.ref C) A outer s H E0) [] (fc N j) H s1:=qd S B.hd E T r x;~Zbe (f [] s1 (fc N j) H _ I ht) (λu O hs=>?_) λe O hs=>hs;#{v,Z,J,rv,q}:=hs;&{v,Z,J.os,J.bare,J.base,J.hok,rv,q}
end L2
namespace L2
open PySem PySem.Spec PyProof.Rows
open PySem.W (kla_fn kla_obj kla_eval kla_makeFunction kla_makeFunctionHit CodeHd tabObj)
abbrev fnO(q:Addr)(o:Obj):HO:=.ext λh=>h.get? q=aw o
def RS(x:h.CodeRec (.ref C) q):ba P w H h C (cdO C q):=by
 #{c,O,v,t,e,b,r}:=x;cases e;&{⟨C,O,v,t,rfl,b,r⟩,⟨O,b⟩,λd f ⟨c,O,v,t,e,b,r⟩ k=>by cases e;&{C,O,v,t,rfl,k _ b,r}}
def KC(x:h.get? q=aw o):ba P w H h q (fnO q o):=⟨x,⟨o,x⟩,λb c e k=>k _ e⟩
def Inv.grow{t':Nat}(I:Inv X p L H s)(h:H T=aw (.tbl ps))(d:c T=aw (.tbl (ps++more)))
  (kp:∀b o,b ≠ T->s.heap.get? b=aw o->h'.get? b=aw o) (j:h'.get? T=aw { cls:=.none,data:=.fields (ps++more) })
  (O:∀b o,b ≠ T->H b=aw o->c b=aw o) (k:∀b o,c b=aw o->(b=T\/H b=aw o)\/(s.heap.objs.size<=b/\ba X.prog X.w c h' b o)):Inv X p L c { s with heap:=h',toks:=t' }:=by
 !tT:=I.hok T _ h;!tT:s.heap.get? T=aw { cls:=.none,data:=.fields ps }:=tT;!neT:∀ {b:Addr},H b=aD->b ≠ T:=λe z=>by rw[z,h] at e;cases e
 ~I.step (g':=s.gens) (d':=s.drawn) (ch:=[]) (λ_ z=>nomatch z) (λb o _ _ _ e n=>kp b o (neT n) e) (λb o _ _ _ e n=>⟨o.slots,kp b o (neT n) e⟩) (λb o _ e n=>?_) (λb o _ e=>?_) (λb C e=>O b _ (λz=>by rw[z,h] at e;cases e) e) (λb o u e=>O b _ (λz=>by rw[z,h] at e;cases e) e) (λb Q e=>?_) (λm v=>?_) (λb o e=>?_) I.bare
 ·cases q:c b with
  |none=>rfl
  |some u=>
   rcases k b u q with (z |z) |z
   ·&absurd z (neT n)
   ·rw[n] at z;cases z
   ·&absurd (ZD (Zv e) z.1) (ZI _)
 ·by_cases z:b=T
  ·subst z;&{_,j}
  ·&{o,kp b o z e}
 ·by_cases z:b=T
  ·subst z;rw[h] at e;cases e;&{more,d}
  ·&{#[],by rw[O b _ z e];simp}
 ·#{o,J,l,e,r}:=v;&{o,J,l,kp _ _ (neT I.free) e,r}
 ·by_cases Z:b=T
  ·subst Z;rw[d] at e;cases e;&j
  ·rcases k b o e with (z |z) |z
   ·&absurd z Z
   ·~(I.hok b o z).stay (λB u f E=>?_) (λB E=>O B _ (λz=>by rw[z,h] at E;cases E) E) λB C E=>O B _ (λz=>by rw[z,h] at E;cases E) E;~kp B u (λy=>?_) E;rcases f with y' |y'
    ·&Z (y'.symm.trans y)
    ·rw[y,h] at y';cases y'
   ·&z.2
def M2(I:Inv X pins σ H s)(U:H T=aw (.tbl ps))(u:VW ps.toList)
  (v:X.env.code = .ref c) (C:CodeHd s.heap c T) (hg:s.heap.Ns Zaw mg) (hb:s.heap.BuiltinsAt mg T) (hgT:Zaw ≠ T) (J:Zag d X.env=pure []) (L:Zam p X.env=([],[]))
  (hin:∀cv,Zah k ps.toList=aw cv->∃c',cv = .ref c'/\H c'=aw (cdO c' (X.env.qual ++ "<lambda>")))
  (h:∀c' q B f E s',Inv X pins σ E s'->E T=aw (.tbl B)->VW B.toList->Zah k B.toList=aw (.ref c')->E c'=aw (cdO c' (X.env.qual ++ "<lambda>")) ->
   E q=aw (fnO q (kla_obj "<lambda>" (X.env.qual ++ "<lambda>") p body d [] ((mg "__name__").getD .none) c' f))->(∀b o,b ≠ T->H b=aw o->E b=aw o)->(∀b o,E b=aw o->b=T\/H b=aw o\/s.heap.objs.size<=b)->s.heap.objs.size<=q->Q (.ref q) s') :
  wpAny (model X.prog X.w) X.A (eval (.Lambda p body d k) X.env) Q X.xe s:=by
 !tT:s.heap.get? T=aw { cls:=.none,data:=.fields ps }:=I.hok T _ U;!lT:=Zv tT;~kla_eval L ?_;cases hf:Zah k ps.toList with
 |none=>
  ~kla_makeFunction J I.ok.glob hg v C tT u hf hgT hb λc' f j tk hx l hlt Y htb=>?_;!nT:c' ≠ T:=λz=>by rw[z] at l;&absurd (ZD lT l) (ZI _)
  !qT:j.objs.size ≠ T:=λz=>by !:=ZD lT l;omega
  !qc:j.objs.size ≠ c':=λz=>by omega
  !kp:∀b o,b ≠ T->s.heap.get? b=aw o->(j.push (kla_obj "<lambda>" (X.env.qual ++ "<lambda>") p body d [] ((mg "__name__").getD .none) c' f)).get? b=aw o:=λb o nb e=>Zc _ (hx b o nb e);!gq:(j.push (kla_obj "<lambda>" (X.env.qual ++ "<lambda>") p body d [] ((mg "__name__").getD .none) c' f)).get? j.objs.size=aw (kla_obj "<lambda>" (X.env.qual ++ "<lambda>") p body d [] ((mg "__name__").getD .none) c' f):=Zs _ rfl;!y:∀ {b:Addr},s.heap.objs.size<=b->H b=aD:=λe=>I.hok.fresh e
  ~h c' j.objs.size (ps++#[rawInt k.line,rawInt k.col,.ref c']) f (upd (upd (upd H T (.tbl (ps++#[rawInt k.line,rawInt k.col,.ref c']))) c' (cdO c' (X.env.qual ++ "<lambda>"))) j.objs.size (fnO j.objs.size _)) _
   (I.grow (more:=#[rawInt k.line,rawInt k.col,.ref c']) U ?_ kp (Zc _ htb) (λb o nb e=>?_) λb o e=>?_) ?_ ?_ ?_ ?_ az (λb o nb e=>?_) (λb o e=>?_) (by omega)
  ·rw[ae qT.symm,ae nT.symm,az]
  ·rw[ae (λz=>by rw[z,y (by omega)] at e;cases e),ae (λz=>by rw[z,y l] at e;cases e),ae nb];&e
  ·by_cases Z:b=j.objs.size
   ·subst Z;rw[az] at e;cases e;&.inr ⟨by omega,KC gq⟩
   ·rw[ae Z] at e;by_cases z2:b=c'
    ·subst z2;rw[az] at e;cases e;&.inr ⟨l,RS (Y.push _)⟩
    ·rw[ae z2] at e;by_cases O:b=T
     ·&.inl (.inl O)
     ·rw[ae O] at e;&.inl (.inr e)
  ·rw[ae qT.symm,ae nT.symm,az]
  ·rw[Wf];&TriplesOk_snoc _ _ _ _ u
  ·rw[Wf];&codeAmong_snoc _ u hf
  ·rw[ae qc.symm,az]
  ·rw[ae (λz=>by rw[z,y (by omega)] at e;cases e),ae (λz=>by rw[z,y l] at e;cases e),ae nb];&e
  ·by_cases Z:b=j.objs.size
   ·&.inr (.inr (by rw[Z];omega))
   ·rw[ae Z] at e;by_cases z2:b=c'
    ·&.inr (.inr (by rw[z2];omega))
    ·rw[ae z2] at e;by_cases O:b=T
     ·&.inl O
     ·rw[ae O] at e;&.inr (.inl e)
 |some cv=>
  #{c',rfl,hc'}:=hin cv hf;~kla_makeFunctionHit J I.ok.glob hg v C tT u hf hb λf j tk hk n=>?_;!kp:∀b o,b ≠ T->s.heap.get? b=aw o->(j.push (kla_obj "<lambda>" (X.env.qual ++ "<lambda>") p body d [] ((mg "__name__").getD .none) c' f)).get? b=aw o:=λb o _ e=>Zc _ (hk b o e);!gq:(j.push (kla_obj "<lambda>" (X.env.qual ++ "<lambda>") p body d [] ((mg "__name__").getD .none) c' f)).get? j.objs.size=aw (kla_obj "<lambda>" (X.env.qual ++ "<lambda>") p body d [] ((mg "__name__").getD .none) c' f):=Zs _ rfl;!y:∀ {b:Addr},s.heap.objs.size<=b->H b=aD:=λe=>I.hok.fresh e;!qT:j.objs.size ≠ T:=λz=>absurd (ZD lT (z ▸ n)) (ZI _);!qc:j.objs.size ≠ c':=λz=>absurd (ZD (I.hok.lt hc') (z ▸ n)) (ZI _);~h c' j.objs.size ps f (upd H j.objs.size (fnO j.objs.size _)) _ (I.grow (more:=#[]) U ?_ kp ?_ (λb o nb e=>?_) λb o e=>?_) ?_ u hf ?_ az (λb o nb e=>?_) (λb o e=>?_) n
  ·rw[ae qT.symm,Wk];&U
  ·rw[Wk];&Zc _ (hk _ _ tT)
  ·rw[ae (λz=>by rw[z,y n] at e;cases e)];&e
  ·by_cases Z:b=j.objs.size
   ·subst Z;rw[az] at e;cases e;&.inr ⟨n,KC gq⟩
   ·rw[ae Z] at e;&.inl (.inr e)
  ·rw[ae qT.symm];&U
  ·rw[ae qc.symm];&hc'
  ·rw[ae (λz=>by rw[z,y n] at e;cases e)];&e
  ·by_cases Z:b=j.objs.size
   ·&.inr (.inr (by rw[Z];omega))
   ·rw[ae Z] at e;&.inr (.inl e)
end L2
namespace Ev
open PySem PySem.Spec PyProof.Rows L2
open PySem.W (KasT kas_sort kas_ask)
abbrev GY(H:Hp)(k:V->List V)(v:List V)(ks:List Value):Prop:=ks.length<=v.length/\∀ (j:Nat) x,j < ks.length->v[j]?=aw x->∃r,ks[j]?=aw (.ref r)/\H r=aw (.tup (k x))
section
variable {X:Cx} {pins:List (Addr × Obj)} {σ:L2.St} {H:Hp} {s:Shared} {l q:Addr} {vs:List V} {Q:Value->Shared->Prop}
def iw(r:aJ vs its):∀ {is:List Nat},aJ (is.map λi=>vs.getD i .non) (is.map λi=>its.getD i Value.none)
 |[]=>.nil
 | i::is=>.cons (by
   show L2.aE (vs.getD i .non) (its.getD i Value.none);by_cases h:i < vs.length
   ·#{u,b,c}:=r.get (gEG h);rw[Zr,Zr,b,gEG h];&c
   ·rw[Zr,Zr,Zw (by omega),Zw (by rw[<-r.length];omega)];&rfl) (iw r)
def Ay(I:L2.Inv X pins σ H s)(hl:SqL X.K H l vs)(h64:vs.length < 64)(κ:SortKind)(lt:Nat->Nat->Bool)(Z:V->List V)
  (hlam:∀ (f:Shared) (d:Hp) (x:V) (u:Value),Env0 X.prog X.w X.K X.mg X.base X.A.in1.in1 X.stack f d->(∀b o,H b=aw o->d b=aw o)->x ∈ vs->aE x u->codeAny (model X.prog X.w) X.A.in1.in1 (.call (.ref q) ⟨[u],[]⟩) (CR CX0 X.stack X.prog X.w d f (λv L=>(∃r,v = .ref r/\L r=aw (.tup (Z x)))/\∀b o,d b=aw o->L b=aw o) E0) f)
  (kd:∀f d ks,L2.Inv X pins σ d f->GY d Z vs ks->ks.length=vs.length->(∀b o,H b=aw o->d b=aw o)->2<=vs.length->∀ (A:Around) (E:Value->Shared->Prop) (Q:SortKind->Shared->Prop),Q κ f->wpAny (model X.prog X.w) A (keyKind' ks.toArray) Q E f)
  (hlt:∀f d ks,L2.Inv X pins σ d f->GY d Z vs ks->ks.length=vs.length->(∀b o,H b=aw o->d b=aw o)->∀i j,i < vs.length->j < vs.length->∀C:Bool->Shared->Prop,C (lt i j) f->kas_ask X.prog X.w X.A.in1.in1 κ ks i j C f)
  (h:∀a d f,L2.Inv X pins σ d f->d a=aw (.lst (if vs.length < 2 then vs else (bV lt (kas_sort vs.length)).toList.map λi=>vs.getD i .non))->H a=aD->(∀b o,H b=aw o->d b=aw o)->Q (.ref a) f) :
  wpAny (model X.prog X.w) X.A (call (.builtin "sorted") [.ref l] [(Str.ofString "key", .ref q)]) Q X.xe s:=by
 #{B,rv,pl,hz}:=I.list hl;!lv:vs.length=B.length:=rv.length;!Hn:∀ {b:Addr},s.heap.objs.size<=b->H b=aD:=λe=>I.hok.fresh e
 ~w8 (J:=λe1 i T f=>∃d,L2.Inv X pins σ d f/\(∀b o,H b=aw o->d b=aw o)/\f.heap.get? (s.heap.objs.size+1)=aw (seqObj "list" #[] e1)/\d (s.heap.objs.size+1)=aD/\(∃e,f.heap.get? (s.heap.objs.size+3)=aw (seqObj "list" T e))/\d (s.heap.objs.size+3)=aD/\T.size=i/\GY d Z vs T.toList)
  pl.isList (by omega) κ lt (λh1 e1 k1 k2 k3 k4=>⟨H,I.kept k1,λ_ _ e=>e,k2,Hn (by omega),⟨0,k3⟩,Hn (by omega),rfl,Z2 _,λj x hj=>absurd hj (XY j)⟩)
  (λe1 i T f hJ=>let ⟨d,_,_,a1,_,a3,_,z,_⟩:=hJ;⟨z,a3,a1⟩) (λe1 i v T f hv hJ=>?turn) (λe1 T f hJ h2 A E Q qq=>?kd) (λe1 T f hJ i j hi hj C c=>?lt) λe1 T f h' c hJ k1 k2 k3=>?fin
 case turn=>
  #{d,Y,mo,a1,n1,⟨e,a3⟩,n3,z,ky}:=hJ
  obtain⟨x,hx,rx⟩:∃x,vs[i]?=aw x/\aE x v:=by
   !hi:i < vs.length:=by rw[lv];&(Zb.mp hv).1
   #{u,hu,ru}:=rv.get (gEG hi);rw[hv] at hu;cases hu;&{_,gEG hi,ru}
  ~wpAny_call (Zaj (hlam f d x v Y.env0.in1.in1 mo (Zd hx) rx) λr s'' hq=>?_);cases r with
  |error e=>&hq.elim
  |ok fl=>
   cases fl with
   |next=>&False.elim hq
   |brk=>&False.elim hq
   |cont=>&False.elim hq
   |ret u=>
    #{w,L,os,bare,un,hok,rw',⟨r,rfl,hr⟩,mo2}:=hq;obtain rfl:u = .ref r:=rw'
    !nst:∀ {b:Addr},s.heap.objs.size<=b->b ∉ frs X.stack:=λ{b} hb hm=>by
     rcases Zn.mp (I.stkSub b hm) with e |e
     ·&absurd (ZD I.lt (e ▸ hb)) (ZI _)
     ·&I.nofs hb e
    !b1:=un.keep _ _ a1 n1 (nst (by omega)) (by simp);!b3:=un.keep _ _ a3 n3 (nst (by omega)) (by simp);!m1:=un.free _ _ a1 n1 (by simp);!m3:=un.free _ _ a3 n3 (by simp);#{v',H3,I3,rv3,⟨e3,eH⟩}:=Y.after (Q:=λv H3=>v = .ref r/\H3=L) ⟨.ref r,L,os,bare,un,hok,rfl,rfl,rfl⟩;subst eH;!s1:=Heap.SameBut.update s''.heap (s.heap.objs.size+3) (Obj.mapSeq (·.push (.ref r)));~{⟨e,b3⟩,H3,?_,λb o eb=>mo2 b o (mo b o eb),(s1.2 _ (show s.heap.objs.size+1 ≠ s.heap.objs.size+3 by omega)).trans b1,m1,⟨_,get?_update_seq b3 (·.push (.ref r))⟩,m3,by rw[WG,z],?_}
    ·!tk:=I3.turned (it:=s.heap.objs.size+3) (t':=s''.toks) (λb o nb eb=>(s1.2 b nb).trans eb) m3 (λO=>absurd (Yh (Y3 _ 3) (O.symm ▸ I.lt:s.heap.objs.size+3 < s.heap.objs.size)) (ZI _)) (.inr (by !:=I.sz;omega)) (λy c ey O=>by
      #{vv,oo,ho,_}:=I.cell y c ey;&absurd (Yh (Y3 _ 3) (O ▸ Zv ho:s.heap.objs.size+3 < s.heap.objs.size)) (ZI _)) (λpp hp O=>absurd (Yh (Y3 _ 3) (O ▸ Zv (I.pin pp hp).1:s.heap.objs.size+3 < s.heap.objs.size)) (ZI _))
     &tk
    ·~{by rw[XH,Ze,Zm,Zu,z];!:=(Zb.mp hx).1;omega,λj y hj hy=>?_};rw[XH,Ze,Zm,Zu,z] at hj;rw[XH];by_cases hji:j < i
     ·#{rr,er,hr'}:=ky.2 j y (by rw[Zu,z];&hji) hy;&{rr,by rw[Zt (by rw[Zu,z];&hji)];&er,mo2 _ _ hr'}
     ·obtain rfl:j=i:=by omega
      rw[hx] at hy;cases hy;&{r,by rw[Zp (by rw[Zu,z];&Zf _),Zu,z,ZY];rfl,hr}
 case kd=>
  #{d,Y,mo,a1,n1,a3,n3,z,ky}:=hJ;!:=kd f d T.toList Y ky (by rw[Zu,z,lv]) mo (by omega) A E Q qq
  rwa [X9] at this
 case lt=>
  #{d,Y,mo,a1,n1,a3,n3,z,ky}:=hJ;&hlt f d T.toList Y ky (by rw[Zu,z,lv]) mo i j (by omega) (by omega) C c
 case fin=>
  #{d,Y,mo,a1,n1,⟨e,a3⟩,n3,z,ky}:=hJ;!big:∀ {b k:Nat},b=s.heap.objs.size+k->¬ b < s.heap.objs.size:=λ{b k} e=>by omega
  !hch:∀b ∈ [s.heap.objs.size+1,s.heap.objs.size+3],(b ∈ X.ex\/X.s₀.heap.objs.size<=b)/\b ≠ X.env.locals/\(∀x c,X.env.cells.lookup x=aw c->c ≠ b)/\∀p ∈ X.pn++pins,p.1 ≠ b:=λb hb=>by
   obtain⟨k,ek⟩:∃k:Nat,b=s.heap.objs.size+k:=by
    rcases Zn.mp hb with e |hb
    ·&{1,e}
    ·&{3,ZG.mp hb}
   ~{.inr (by !:=I.sz;omega),λO=>big ek (O.symm ▸ I.lt),λy c ey O=>?_,λpp hp O=>big ek (O ▸ Zv (I.pin pp hp).1)};#{vv,oo,ho,_}:=I.cell y c ey;&big ek (O ▸ Zv ho)
  !out:∃os:List Value,aJ (if vs.length < 2 then vs else (bV lt (kas_sort vs.length)).toList.map λi=>vs.getD i .non) os/\(if B.length < 2 then B.toArray else YO ((bV lt (kas_sort B.length)).toList.map λi=>B.getD i Value.none))=os.toArray:=by
   rw[lv];by_cases h2:B.length < 2
   ·rw[if_pos h2,if_pos h2];&{B,rv,rfl}
   ·rw[if_neg h2,if_neg h2];&{_,iw rv,rfl}
  #{os,ro,eo}:=out;rw[eo] at k2;~h (s.heap.objs.size+1) (upd d (s.heap.objs.size+1) (.lst _)) { f with heap:=h' } ?_ az (Hn (by omega)) λb o eb=>by rw[ae (λz=>by rw[z,Hn (by omega)] at eb;cases eb)];&mo b o eb
  !nn:∀ {b u},d b=aw u->b ≠ s.heap.objs.size+1/\b ≠ s.heap.objs.size+3:=λ{b u} e=>⟨(λz=>by rw[z,n1] at e;cases e),(λz=>by rw[z,n3] at e;cases e)⟩;!nc:∀ {b:Addr},b ∉ [s.heap.objs.size+1,s.heap.objs.size+3]->b ≠ s.heap.objs.size+1/\b ≠ s.heap.objs.size+3:=λ{b} hb=>⟨λz=>hb (by simp[z]),λz=>hb (by simp[z])⟩;!cl:=λb hb=>(hch b hb).2.1;~Y.step (g':=f.gens) (d':=f.drawn) (t':=f.toks) (ch:=[s.heap.objs.size+1,s.heap.objs.size+3]) hch (λb o _ _ U e _=>k1 b o (nc U).1 (nc U).2 e) (λb o _ _ U e _=>⟨o.slots,k1 b o (nc U).1 (nc U).2 e⟩) (λb o U e n=>by rw[ae (nc U).1];&n) (λb o U e=>⟨o,k1 b o (nc U).1 (nc U).2 e⟩) (λb xs e=>by rw[ae (nn e).1];&e) (λb o u e=>by rw[ae (nn e).1];&e) (λb ps e=>⟨#[],by rw[ae (nn e).1,e];simp⟩) (λm hm=>?_) (λb u e=>?_) Y.bare
  ·#{o,es,ep,ho,r}:=hm;&{o,es,ep,k1 _ o (Ne.symm (cl _ (by simp))) (Ne.symm (cl _ (by simp))) ho,r}
  ·by_cases zb:b=s.heap.objs.size+1
   ·subst zb;rw[az] at e;cases e;~{?_,os,c,ro,k2};!:=ro.length;!e2:=congrArg Array.size eo;rw[this];!e2:_=os.length:=e2.trans Zk;rw[<-e2,ZaO];split
    ·rw[Zk];omega
    ·rw[Zk,Za,Zu];!pm:Pm B.length (bV lt (kas_sort B.length)):=(jB (n:=B.length) (by omega)).run (lt:=lt);!:(bV lt (kas_sort B.length)).size=B.length:=(Array.Perm.size_eq pm).trans (by simp);omega
   ·rw[ae zb] at e;~(Y.hok b u e).stay (λb' v hb' q=>k1 b' v ?_ ?_ q) (λb' q=>by rw[ae (nn q).1];&q) λb' xs q=>by rw[ae (nn q).1];&q
    ·rcases hb' with y |y
     ·rw[y];&(nn e).1
     ·&(nn y).1
    ·rcases hb' with y |y
     ·rw[y];&(nn e).2
     ·&(nn y).2
end
section
open PySem.SeqAt
variable {prog:Program} {w:World} {A:Around} {E:Value->Shared->Prop} {s:Shared}
def yz{a b:Int}{n k:Nat}(j:A.units < cLine)(L:s.heap.get? x=aw O)(J:O.data = .seq #[.int a u,.ref p] n)(z:s.heap.get? y=aw Q)(B:Q.data = .seq #[.int b X,.ref q] k)
  (T:IsTup s.heap p xs) (f:IsTup s.heap q Y) (d:IntsAre xs.toList ns) (I:IntsAre Y.toList U) (h:C (cS (a,ns) (b,U)) s):wpAny (model prog w) A (keyLt' (tuples' aN) (.ref x) (.ref y)) C E s:=by
 ~PySem.W.kat_lt L J z B ?_;show PySem.W.KatLex prog w A aN _ C [(.int a u,.int b X),(.ref p,.ref q)] 0 s;unfold cS at h;~wpAny_eqBool_int ?_;cases l:a == b with
 |true=>
  rw[if_pos rfl];rw[if_pos (by simpa using l)] at h;#{e,v,c}:=qv (A:=A) (s:=s) j T f d I;~v prog w _ _ ?_;cases e with
  |true=>
   !:=c.mp rfl;subst this;rw[nR] at h;&h
  |false=>
   rw[if_neg Zh];&PySem.W.kat_one _ _ (HT.mR T f d I j h)
 |false=>
  rw[if_neg Zh];rw[if_neg (by simpa using l)] at h;&oneLt_int h
end
end Ev
namespace Ev
open PySem PySem.Spec PyProof.Rows L2
open PySem.W (kas_sort kas_ask KatTups)
abbrev GZ(h:Heap)(v:Value)(w:Int × List Int):Prop:=∃r o t p n X,v = .ref r/\h.get? r=aw o/\o.cls = .type "tuple"/\o.data = .seq #[.int w.1 t,.ref p] n/\IsTup h p X/\IntsAre X.toList w.2
def r9:∀ {its:List Value} {ws:List (Int × List Int)},(∀i,i < its.length->GZ h (its.getD i Value.none) (ws.getD i (0,[])))->∃fs:List Value,KatTups h its fs/\fs.length=its.length/\∀v ∈ fs,∃i t,v = .int i t
 |[],_,_=>⟨[],KatTups.nil,rfl,λv c=>by simp at c⟩
 |v::its,ws,hp=>by
  #{r,o,t,p,n,X,b,e,f,hd,_}:=hp 0 (by simp)
  #{fs,k,d,hi}:=r9 (its:=its) (ws:=ws.tail) λi hi=>by
   !:=hp (i+1) (by simpa using hi);cases ws with
   |nil=>simpa using this
   |cons _ _=>simpa using this
  !E:v = .ref r:=by simpa using b
  subst E
  &⟨.int (ws.getD 0 (0,[])).1 t::fs,KatTups.cons e f hd rfl k,by simp[d],λw hw=>by
   rcases Zn.mp hw with rfl |hw
   ·&{_,_,rfl}
   ·&hi w hw⟩
inductive LotsV(H:Hp):List V->List (List Int)->Prop where
 |nil:LotsV H [] []
 |cons {r:Addr} {ns:List Int} {vs:List V} {ls:List (List Int)}:H r=aw (.tup (ns.map V.int))->LotsV H vs ls->LotsV H (.ref r::vs) (ns::ls)
def LotsV.at(h:LotsV H v ls):v.length=ls.length/\∀ (i:Nat) x,v[i]?=aw x->∃r ns,x = .ref r/\ls[i]?=aw ns/\H r=aw (.tup (ns.map V.int)):=by
 induction h with
 |nil=>&{rfl,λi x e=>by cases e}
 |cons b _ I=>
  ~{by simp[I.1],λi x e=>?_};cases i with
  |zero=>cases e;&{_,_,rfl,rfl,b}
  |succ i=>&I.2 i x e
abbrev M3(H:Hp):V->Int
 | .ref r=>(match H r with
  |some (.tup xs)=>xs.length
  | _=>0)
 |_=>0
abbrev Az(H:Hp)(x:V):List V:=[.int (M3 H x),x]
abbrev eK(ls:List (List Int))(i:Nat):Int × List Int:=((ls.getD i []).length,ls.getD i [])
section
variable {X:Cx} {pins:List (Addr × Obj)} {σ:L2.St} {H:Hp} {s:Shared} {l q:Addr} {vs:List V} {ls:List (List Int)} {Q:Value->Shared->Prop}
def nU(I:L2.Inv X pins σ f j)(v:LotsV H vs ls)(z:∀b o,H b=aw o->f b=aw o)(O:GY f (Az H) vs ks)(Y:ks.length=vs.length)(i:Nat)(hi:i < vs.length):GZ j.heap (ks.getD i Value.none) (eK ls i):=by
 #{p,ns,ex,E,d}:=v.at.2 i _ (gEG hi);#{r,C,h}:=O.2 i _ (by omega) (gEG hi);rw[Zr,C];unfold eK;rw[Zr,E];rw[ex] at h
 !E:M3 H (.ref p)=ns.length:=by
  show(match H p with |some (.tup c)=>(c.length:Int) |_=>0)=_;rw[d];simp
 unfold Az at h;rw[E] at h;#{_,B,J,o,U,n,nn,u,h4}:=I.hok r _ h;#{x,y,rfl,r1,r2}:=mN J;#{T,rfl}:=r1;cases r2;#{c,k,L,_}:=I.tuple (.of (z _ _ d));&{r,o,T,p,nn,c.toArray,rfl,U,n,u,L,by simpa using bv k}
def AA(I:L2.Inv X pins σ H s)(hu:X.A.in1.in1.units < cLine)(hl:SqL X.K H l vs)(U:LotsV H vs ls)(O:vs.length < 64)
  (k:∀ (f:Shared) (d:Hp) (x:V) (u:Value),Env0 X.prog X.w X.K X.mg X.base X.A.in1.in1 X.stack f d->(∀b o,H b=aw o->d b=aw o)->x ∈ vs->aE x u->codeAny (model X.prog X.w) X.A.in1.in1 (.call (.ref q) ⟨[u],[]⟩) (CR CX0 X.stack X.prog X.w d f (λv y=>(∃r,v = .ref r/\y r=aw (.tup (Az H x)))/\∀b o,d b=aw o->y b=aw o) E0) f)
  (h:∀a d f,L2.Inv X pins σ d f->d a=aw (.lst (if vs.length < 2 then vs else (bV (λi j=>cS (eK ls i) (eK ls j)) (kas_sort vs.length)).toList.map λi=>vs.getD i .non))->H a=aD->(∀b o,H b=aw o->d b=aw o)->Q (.ref a) f) :
  wpAny (model X.prog X.w) X.A (call (.builtin "sorted") [.ref l] [(Str.ofString "key", .ref q)]) Q X.xe s:=by
 ~Ay I hl O (tuples' aN) (λi j=>cS (eK ls i) (eK ls j)) (Az H) k (λf d ks J L z B h2 A E Q qq=>?_) (λf d ks J L z B i j hi Y C c=>?_) h
 ·!ws:∀i,i < ks.length->GZ f.heap (ks.getD i Value.none) (((Zi vs.length).map (eK ls)).getD i (0,[])):=λi hi=>by
   !:=nU J U B L z i (by omega);!e:((Zi vs.length).map (eK ls)).getD i (0,[])=eK ls i:=by rw[Zr,Zq,Yn (by omega)];rfl
   rw[e];&this
  #{fs,kt,fl,fi}:=r9 ws
  &V6 (T:=.type "int") kt (by omega) (λv hv=>by
   #{i,t,rfl}:=fi v hv;&PySem.W.Looks.of_pure rfl) (by decide) qq
 ·#{r,o,t,p,n,xs,e1,Z,e3,e4,e5,e6}:=nU J U B L z i hi;#{r',o',t',p',n',xs',d1,d2,d3,d4,d5,d6}:=nU J U B L z j Y;unfold kas_ask;rw[e1,d1];&yz hu Z e4 d2 d4 e5 d5 e6 d6 c
end
end Ev
namespace L2
open PySem PySem.Spec PyProof.Rows
abbrev Itd(hi:Int)(n:Nat):It:=⟨λi _=>i < n,λi H x h=>h=H/\x = .int (hi - i),λi _=>n<=i⟩
def AB{P:Program}{w:World}{K:VY}{tg:Expr}(it:Addr)(lo:Int)(n:Nat):Turn P w K tg (Itd lo n) [it] it (λi h=>VL h it (lo+(i:Nat) * (-1)) ((n:Int) - (i:Nat)) (-1)) where
 mem:=by simp
 obj:=λi h st b hb=>by
  !e:b=it:=by simpa using hb
  subst e
  &⟨_,st,λv z=>by
   !z':Data.fields _=Data.cell v:=z;cases z'⟩
 keep:=λi h d st k=>k it (by simp) _ st
 item:=by
  intro X j q y B i p s Q H E I f st J;subst j q y;#{C,L,f2,l,O,u}:=f it (by simp);!W:=Walks.range (prog:=X.prog) (w:=X.w) (I.ok.hd B) it lo (-1) n;~W.item i s _ _ J st λv d T hv c Y=>?_;#{t,rfl}:=hv;!Z:Inv X p Q H { s with heap:=d,toks:=T }:=I.turned (λb o hb e=>Y b o (by simpa using hb) e) C L l O u;~⟨_,rfl,tI (s:={ s with heap:=d,toks:=T }) (n := "range_iterator") c rfl rfl (by decide) ⟨.int (lo - i),H,Z,⟨t,?_⟩,⟨rfl,rfl⟩,c,λb hb=>(f b hb).1⟩⟩
  congr 1
  omega
 done:=by
  intro X j q y B i p s Q H E I f st J;subst j q y;#{C,L,f2,l,O,u}:=f it (by simp);&Zbr (I.ok.hd B) st (by !:n<=i:=J;omega) λd U=>⟨rfl,I.turned (t':=s.toks) (λb o hb e=>U b o hb e) C L l O u⟩
 self:=λ_ _ _ _ _ st h=>Zbn st h
section
variable {X:Cx} {tg:Expr}
def w9{a:Int}(b:-(2 ^ 62)<=a)(h:a < 2 ^ 62):Builtin.Range.small a (-1) (-1)=aN:=by
 unfold Builtin.Range.small;rw[Of];simp only[Builtin.Range.rangeFitsLong,bAE,Xb,decide_eq_true_eq,beq_iff_eq,show ¬ (-1:Int) > 0 by decide,if_false];split <;> omega
def G0{p:List (Addr × Obj)}{d:St}{H:Hp}{s:Shared}{R:It->Hp->Prop}{E:Value->Shared->Prop}{lo:Int}{t u v:Tok}{T:Nat}(I:Inv X p d H s)(j:-(2 ^ 62)<=lo)(k:lo < 2 ^ 62)
  (q:R (Itd lo (lo+1).toNat) H):wpAny (model X.prog X.w) X.A (pyIter (.ref s.heap.objs.size)) (PIE X p d tg R) E { s with heap:=s.heap.push { cls:=.type "range", data:=.fields #[.int lo t,.int (-1) u,.int (-1) v] },toks:=T }:=by
 ~wpAny_pyIter_range (IsRange.new ..) (w9 j k) ?_;!c:Inv X p d H { s with heap:=s.heap.push { cls:=.type "range", data:=.fields #[.int lo t,.int (-1) u,.int (-1) v] },toks:=T }:=I.kept λb o e=>Zc _ e
 ~⟨(s.heap.push { cls:=.type "range", data:=.fields #[.int lo t,.int (-1) u,.int (-1) v] }).objs.size,[(s.heap.push { cls:=.type "range", data:=.fields #[.int lo t,.int (-1) u,.int (-1) v] }).objs.size],_,_,H,rfl,
  c.kept (t':=T) λb o e=>Zc _ e,AB _ lo (lo+1).toNat,?_,λb hb=>?_,q⟩
 ·!f:lo+((0:Nat):Int) * (-1)=lo:=by simp
  !h:(((lo+1).toNat:Nat):Int) - ((0:Nat):Int)=Builtin.Range.rangeSize lo (-1) (-1):=by rw[Of];split <;> omega
  show VL _ _ (lo+((0:Nat):Int) * (-1)) ((((lo+1).toNat:Nat):Int) - ((0:Nat):Int)) (-1);rw[f,h];&Zs _ rfl
 ·!e:b=(s.heap.push { cls:=.type "range", data:=.fields #[.int lo t,.int (-1) u,.int (-1) v] }).objs.size:=by simpa using hb
  subst e;&c.fpOk (Zf _) (c.hok.fresh (Zf _))
abbrev iDn(T:TA):TI:=λb H R=>T b H λv h=>∃i:Int,v=[.int i,.int (-1),.int (-1)]/\(-(2 ^ 62)<=i/\i < 2 ^ 62)/\R (Itd i (i+1).toNat) h
def RT{a b c:Expr}{T:TA}{p d:Pos}(B:Gl X "range")(E:X.mg "range" = aD)(v:PA X [a,b,c] T)(hs:ZaQ [a,b,c] X.env=(aS,eval a X.env)::ZaQ [b,c] X.env)(k:(backTo d (ZaQ [b,c] X.env)).any (·.1)=aS) :
  PI X tg (.Call (.Name "range" p) [a,b,c] [] d) (iDn T):=by
 intro j s y H R I h;~Call_ (eF I B E boot_range (W4 (thn (v d j s y H _ I h) λU Y ⟨O,L,u,r1,Q⟩=>?_) hs k));#{i,e,⟨Q,n⟩,q}:=Q;subst e;cases r1 with
 |cons r f=>
  cases f with
  |cons z f=>
   cases f with
   |cons l f=>
    cases f;#{t,rfl}:=r;#{J,rfl}:=z;#{C,rfl}:=l;&call_range_3 (by decide) (G0 u Q n q) (.inl (PyProof.noPylong_of_log2 (by decide +kernel)))
end
end L2
namespace Ev
open PySem PySem.Spec PyProof.Rows L2
abbrev nxD(hi:Int)(n:Nat):Nxt:=λi _=>aw (if i < n then aw (.int (hi - i)) else aD)
section
variable {K:VY} {m m0:List Addr} {H H0:Hp} {S:Sto} {B:List Addr}
def M4{lo:Int}{n:Nat}:IOk K B (Itd lo n) (nxD lo n) m0 H0:=by
 intro m S H i x R;unfold nxD;~{λe=>?_,λd e=>?_}
 ·split at e
  ·cases e
  ·show n<=i;lia
 ·split at e
  ·rename_i hi;cases e;&{hi,λy b ⟨E,h⟩=>by subst E;subst h;&{Aft.refl R,bg}}
  ·cases e
abbrev xDn(x:XE):XI:=λb S=>bnd (x b S) λd c=>match d with
 |.int j=>if lim j=aN then aw (nxD j (j+1).toNat,c) else aD
 |_=>aD
def RU(h:tIt K B (xDn x) k H R):iDn (cf (tE K x) (cf (tC (.int (-1))) (cf (tC (.int (-1))) jl))) k H R:=by
 #{m,l,S,nx,u,E,n,y,e,q}:=h;#{d,p,j,e}:=ac e;~{m,l,S,d,p,E,n,j,λm1 c v f vd=>?_};cases d with
 |int i=>
  dsimp only at e;split at e
  ·rename_i b;cases e;&{i,by rw[vd.ints],⟨(gy b).1,(gy b).2⟩,q m1 c _ f M4}
  ·cases e
 |_=>cases e
end
end Ev
namespace Ev
open PySem PySem.Spec PyProof.Rows L2
open PySem.W (kas_sort KatTups)
section
variable {X:Cx} {K:VY} {m:List Addr} {H:Hp} {S:Sto}
abbrev xa(d:D)(b:List D)(S:Sto):Option (D × Sto):=match d,b with
 | .tup ds,[.int x]=>(match cP ds with
  |some ns=>if x ∈ ns then aw (.int (ns.idxOf x:Nat),S) else aD
  | none=>aD)
 |_,_=>aD
def G1:MtR X "tuple.index" (rM X.K xa):=by
 intro E s σ H x xs v us Q I Y L h;#{m,S,a,as,d,S',R,U,Z,e,q}:=h;unfold xa at e;split at e
 ·rename_i ds z;cases hi:cP ds with
  |none=>rw[hi] at e;cases e
  |some ns=>
   rw[hi] at e;dsimp only at e;split at e
   ·rename_i hm;cases e;#{p,ws,rfl,sq,vds}:=U.tups;#{y,rfl,O}:=Gu Z;!ed:=cQ hi;subst ed;!ew:=bO vds;subst ew;cases O.ints;cases Y;#{u,rfl,ru}:=bQ L;#{b,r,⟨⟨cls,dd,l,sl⟩,e,C,n,hd⟩,hz}:=I.tuple (SqT.of (K:=X.K) sq);simp only at C hd;subst C hd;!B:b.length=ns.length:=by rw[<-r.length];simp
    !c:ns.idxOf z < ns.length:=Xa.mpr hm
    !at_:∀ (j:Nat) (k:j < b.toArray.size) (f:j < ns.length),eqU (.int z) b.toArray[j]=(ns[j] == z):=λj k f=>by
     #{u,J,t,rt}:=r.get (i:=j) (x:=.int ns[j]) (by rw[Zq,gEG f];rfl)
     !:b.toArray[j]=u:=by
      !:=Zb.mp J
      simpa using this.2
     rw[this,rt];rfl
    ~Zae VE ⟨_,e,rfl⟩ F.entry_tuple_index (F.args_tuple_index_2 _ _) (pR p b.toArray n dd sl u (eqU (.int z)) (ns.idxOf z) (by simpa[B] using c) ?_ λj k f=>?_) ⟨e,λw T=>dE ru rfl r (by simp[dU]) w (by simpa using T),?_⟩
    ·rw[at_ _ (by simpa[B] using c) c,Wl c];simp
    ·rw[at_ _ k (WT f c)];!:=List.not_of_lt_findIdx (p:=(· == z)) (xs:=ns) f
     simpa using this
    ·&{.int _,H,I.tok _,⟨_,rfl⟩,q m H _ (Aft.refl R) bg}
   ·cases e
 ·cases e
def ux(hc:X.calm=aN):aV X (.type "tuple") (λxs H Q=>∃ (p:Addr) (n:Nat),xs=[.ref p]/\H p=aw (.rng 0 n)/\n<=1000/\∀l,H l=aD->Q (.ref l) (upd H l (.tup ((Zi n).map λ(i:Nat)=>V.int i)))):=by
 intro L s σ H xs us Q I r h;#{p,n,rfl,O,hn,q}:=h;#{u,rfl,ru}:=bQ r;cases ru;#{t,u,v,e}:=(show ba X.prog X.w H s.heap p (.rng 0 n) from I.hok p _ O);!E:Builtin.Range.small 0 n 1=aN:=small_one (by lia) (by lia) (by lia) (by lia);~uw (n:=n) (I.ok.hd hc) e E (by rw[ZaH];split <;> lia) (by lia) λC J d f U c=>?_;~{.ref C.objs.size,_,I.laid (t':=J) (a:=C.objs.size) (o:=.tup ((Zi n).map λ(i:Nat)=>V.int i)) (λb o e=>Zc _ (U b o e)) f ?_,rfl,q _ (I.hok.fresh f)};~{by rw[Za,ZC,ZaO];lia,d.toList,?_,by simpa using ra.new C d}
 !go:∀ (m:Nat) (k:Nat) (l:List Value),l.length=m->(∀j x,l[j]?=aw x->∃J,x=Value.int (((k+j:Nat):Nat):Int) J)->aJ ((List.range' k m).map λ(i:Nat)=>V.int i) l:=by
  intro m
  induction m with
  |zero=>intro k l z _;cases l with |nil=>&.nil |cons _ _=>cases z
  |succ m ih=>
   intro k l z B;cases l with
   |nil=>cases z
   |cons x l=>
    rw[List.range'_succ,Zy];#{t,e}:=B 0 x rfl;~.cons ⟨t,by simpa using e⟩ (ih (k+1) l (by simpa using z) λj y hy=>?_);#{Y,Z}:=B (j+1) y (by simpa using hy);&{Y,by rw[Z,show((k+(j+1):Nat):Int)=((k+1+j:Nat):Int) from by lia]}
 rw[List.range_eq_range'];~go n 0 d.toList (by simpa using c.1) λj x B=>?_;#{T,e}:=c.2 j x (by simpa using B);&{T,by rw[e,show(0:Int)+(j:Nat) * 1=((0+j:Nat):Int) from by lia]}
abbrev C1(x:XE):XE:=λb S=>bnd (x b S) λd c=>match d with
 |.int i=>if 0<=i/\i<=1000 then aw (.tup ((Zi i.toNat).map λj=>.int (Int.ofNat j)),c) else aD
 |_=>aD
def G2(f:List Nat):VDs K m H (f.map λj=>D.int (Int.ofNat j)) (f.map λ(j:Nat)=>V.int j):=by
 induction f with
 |nil=>rw[Z0,Z0,VDs]
 |cons i l I=>rw[Zy,Zy,VDs];&{_,_,rfl,bg,I}
def G3(h:tE K (C1 x) B H Q):tE K x B H λv b=>∃i:Nat,v = .int i/\i<=1000/\∀p,b p=aD->∀l,upd b p (.rng 0 i) l=aD->Q (.ref l) (upd (upd b p (.rng 0 i)) l (.tup ((Zi i).map λ(j:Nat)=>V.int j))):=by
 #{m,C,S,J,k,E,R,e,q}:=h;#{d,I,z,e}:=ac e;cases d with
 |int i=>
  dsimp only at e;split at e
  ·rename_i hi;cases e;~{m,C,S,.int i,_,E,R,z,λm1 b v c vd=>⟨i.toNat,by rw[vd.ints];congr 1;lia,by lia,λp n l u=>?_⟩};!f:Aft K m1 b k m1 (upd b p (.rng 0 i.toNat)):=⟨Ext.beside c.rel n _,c.rel.beside n _⟩;!y:Aft K m1 (upd b p (.rng 0 i.toNat)) k m1 (upd (upd b p (.rng 0 i.toNat)) l (.tup ((Zi i.toNat).map λ(j:Nat)=>V.int j))):=⟨Ext.beside f.rel u _,f.rel.beside u _⟩;&q m1 _ _ (c.trans (f.trans y)) (iS az (G2 _))
  ·cases e
 |_=>cases e
end
section
variable {X:Cx} {K:VY} {m:List Addr} {H:Hp} {S:Sto}
abbrev prK:List D->Option (List (List NK) × List D)
 |[]=>aw ([],[])
 | .tup [k,v]::ds=>(match lY k,prK ds with
  |some k,aw r=>aw (k::r.1,v::r.2)
  | _,_=>aD)
 |_=>aD
abbrev pT(T:Bool)(d:List D)(S:Sto):Option (D × Sto):=if T=aS then (match prK d with
 |some r=>if r.1.Nodup/\r.1.length<=1000 then aw (.ref S.length,S++[.dfz r.1 r.2]) else aD
 | none=>aD) else aD
structure PrV(P:Program)(w:World)(K:VY)(m:List Addr)(H:Hp)(h:Heap)(ks:List (List NK))(es:List D)(ts:List Addr)(ys:List V)(xs:List (List NK × Addr × Value)):Prop where
 len:ts.length=xs.length
 keys:xs.map (·.1)=ks
 pr:Paired (λ(p:List NK × V) (q:List NK × Addr × Value)=>p.1=q.1/\iK H p.1 q.2.1/\aE p.2 q.2.2) (ks.zip ys) xs
 kl:ks.length=es.length
 vds:VDs K m H es ys
 tup:∀ (j:Nat) x,xs[j]?=aw x->∃t,ts[j]?=aw t/\h.IsTuple t #[.ref x.2.1,x.2.2]
def prs{c:List (Addr × Obj)}{s:Shared}{Z:L2.St}(I:Inv X c Z H s):∀ {B:List D} {r:List (List NK) × List D} {q:List V} {its:List Value},prK B=aw r->VDs X.K m H B q->aJ q its->∃T Y xs,its=T.map Value.ref/\PrV X.prog X.w X.K m H s.heap r.1 r.2 T Y xs
 |[],_,_,_,e,h,v=>by
  cases e;rw[VDs] at h;subst h;cases v;&{[],[],[],rfl,rfl,rfl,.nil,rfl,by rw[VDs],λj x z=>by simp at z}
 |d::B,r,q,its,e,h,v=>by
  rw[VDs] at h;#{y,rs,rfl,h1,h2}:=h;unfold prK at e;split at e
  ·rename_i l;cases l
  ·rename_i k0 v0 E l;cases l;split at e
   ·rename_i k r' hk hr;cases e;#{t,ws,rfl,sq,vw}:=h1.tups;#{a,b,rfl,Q,vb}:=wM vw;#{p,rfl,J}:=rG hk Q;cases v with
    |@cons _ u _ us r1 r2=>
     cases r1;#{T,Y,xs,rfl,P}:=prs I hr h2 r2;#{O,L,⟨o,U,hc,n,hd⟩,_}:=I.tuple (SqT.of (K:=X.K) sq);#{u1,u2,rfl,f,C}:=mN L;cases f;~{t::T,b::Y,(k,p,u2)::xs,rfl,by simp[P.len],by simp[P.keys],.cons ⟨rfl,J,C⟩ P.pr,by simp[P.kl],?_,λj x z=>?_}
     ·rw[VDs];&{_,_,rfl,vb,P.vds}
     ·cases j with
      |zero=>cases z;&{t,rfl,o,U,hc,n,hd}
      |succ j=>&P.tup j x z
   ·cases e
  ·cases e
def AC(hc:X.calm=aN)(hu:X.A.units+64 < cLine):aV X (.type "dict") (r1 (rSq X.K pT)):=by
 intro Y s σ H j us Q I r h;#{_,rfl,m,S,tu,ds,a,vs,d,S',R,rfl,sq,vd,e,q}:=ca h;unfold pT at e;split at e
 ·rename_i ht;subst ht;split at e
  ·rename_i f hr;split at e
   ·rename_i k;cases e;#{u,rfl,ru}:=bQ r;cases ru;#{its,rv,⟨o,n,eo,T,O,U⟩,hz}:=I.list sq;#{ts,y,j,rfl,P}:=prs I hr vd rv;#{cls,dd,v,sl}:=o;simp only at T O U;subst T O U;!C:j.length=f.1.length:=by rw[<-P.keys];simp
    ~w6 (knd:=fb X.prog X.w) (ts:=ts) (xs:=j) eo P.tup P.len (by rw[P.keys];&k.1) (λh kp x hx=>?_) (by rw[C,ZaO];lia) (I.ok.hd hc) (show X.A.units+1+1+1 < cLine by lia) λh' t' kp dq=>?_
    ·!hk:HOk X.prog X.w H h:=(I.kept (t':=s.toks) kp).hok
     !:∀ {l:List (List NK × V)} {L:List (List NK × Addr × Value)},Paired (λ(p:List NK × V) (q:List NK × Addr × Value)=>p.1=q.1/\iK H p.1 q.2.1/\aE p.2 q.2.2) l L->∀x ∈ L,iK H x.1 x.2.1:=by
      intro l L z
      induction z with
      |nil=>intro x hx;cases hx
      |cons Z _ ih=>
       intro x hx;rcases Zn.mp hx with rfl |hx
       ·rw[<-Z.1];&Z.2.1
       ·&ih x hx
     &eI hk (this P.pr x hx)
    ·#{o,B,J,e2,E,e4}:=dq.ex;!c:H s.heap.objs.size=aD:=I.hok.fresh (Zf _);!yl:y.length=f.1.length:=by rw[<-P.vds.length,P.kl]
     ~{.ref s.heap.objs.size,_,I.laid (t':=t') (o:=.frz o (.dT (f.1.zip y))) kp (Zf _) ⟨J,by rw[Xx,ZaO];lia,?_,j,FC (λ_ _ z=>⟨z.1,z.2.1.mono λb y e=>by rw[ae (aP e c)];&e,z.2.2⟩) P.pr,o,B,_,J,e2,E,e4,by rw[P.keys];&k.1⟩,rfl,?_}
     ·!:=I.big;simp only[beq_eq_false_iff_ne];&Wp this
     ·!nm:s.heap.objs.size ∉ m:=R.no c;!x0:Ext m H m (upd H s.heap.objs.size (.frz o (.dT (f.1.zip y)))):=Ext.beside R c _;~q (m++[s.heap.objs.size]) _ _ ⟨x0.adopt c,(R.beside c _).adoptP nm ⟨o,y,az,⟨P.kl,B,by rw[E,C]⟩,?_⟩⟩ ?_
      ·&VDs.mono0 (YA m _) (λb y e=>by rw[ae (aP e c)];&e) P.vds
      ·rw[VD];&{s.heap.objs.size,by rw[Zp (by rw[R.len];&Zf _),R.len,ZY];rfl,rfl}
   ·cases e
  ·cases e
 ·cases e
abbrev kD:Key->D
 |.inl i=>.int i
 |.inr x=>.str x
abbrev nkD:NK->D
 |.non=>.non
 |.one k=>kD k
 |.tup ks=>.tup (ks.map kD)
abbrev nkT(ks:List NK):D:=.tup (ks.map nkD)
def C2(k:Key):VD K m H (kD k) (kV k):=by
 cases k with
 |inl i=>&bg
 |inr x=>&nh
def yA:∀ks:List Key,VDs K m H (ks.map kD) (ks.map kV)
 |[]=>by rw[Z0,Z0,VDs]
 |k::ks=>by rw[Zy,Zy,VDs];&{_,_,rfl,C2 k,yA ks}
def RV{k:NK}{x:V}(h:vZ H k x):VD K m H (nkD k) x:=by
 cases k with
 |non=>cases h;&kh
 |one k=>cases h;&C2 k
 |tup ks=>#{b,rfl,hb}:=h;&iS hb (yA ks)
def M5{ks:List NK}{b:Addr}(h:iK H ks b):VD K m H (nkT ks) (.ref b):=by
 #{c,e,r}:=h;~iS e ?_;clear e
 induction r with
 |nil=>rw[Z0,VDs]
 |cons h _ I=>rw[Zy,VDs];&{_,_,rfl,RV h,I}
abbrev Itk(a:Addr)(n:Nat):It:=
 ⟨λi H=>∃o E k p,H a=aw (.frz o (.dT k))/\o.data = .dict E n/\k.length=n/\k[i]?=aw p,
   λi H x h=>h=H/\∃b,x = .ref b/\∀o k p,H a=aw (.frz o (.dT k))->k[i]?=aw p->iK H p.1 b,
   λi H=>∃o E k,H a=aw (.frz o (.dT k))/\o.data = .dict E n/\k.length=n/\n<=i⟩
def qy{c b:Type}{F:c->b->Prop}:∀ {l:List c} {L:List b},Paired F l L->l.length=L.length/\∀ (i:Nat) x,l[i]?=aw x->∃y,L[i]?=aw y/\F x y
 |_,_,.nil=>⟨rfl,λi x e=>by simp at e⟩
 |_,_,.cons h t=>by
  #{d,f}:=qy t;~{by simp[d],λi x e=>?_};cases i with
  |zero=>cases e;&{_,rfl,h}
  |succ i=>&f i x e
def sd{P:Program}{w:World}{h:Heap}{a:Addr}{o:Obj}{k:List (List NK × V)}{E:Array DictEntry}{n:Nat}(x:ba P w H h a (.frz o (.dT k)))(hd:o.data = .dict E n) :
  h.get? a=aw o/\(a == ZaV)=aS/\o.ExactDict/\E.size=k.length/\∀ (i:Nat) p,k[i]?=aw p->∃b en,E[i]?=aw en/\en.key = .ref b/\iK H p.1 b:=by
 #{j,J,hs,I,pr,O,z,C,f,u,c,d,_}:=x;rw[j] at f;cases f;rw[hd] at c;cases c;#{l1,l}:=qy pr;~{j,hs,u,by rw[size_of_entries d,l1],λi p q=>?_};#{y,B,L,v,_}:=l i p q;&{y.2.1,_,by rw[entry_at d,B];rfl,rfl,v}
def AE{P:Program}{w:World}{K:VY}{tg:Expr}(a it:Addr)(n:Nat):Turn P w K tg (Itk a n) [it] it (λi h=>h.IsKeyIter it a i n n) where
 mem:=by simp
 obj:=λi h st b hb=>by
  !e:b=it:=by simpa using hb
  subst e;#{o,e,c,d}:=st;&{o,e,λv z=>by rw[d] at z;cases z}
 keep:=λi h u st k=>st.at λo e=>k it (by simp) o e
 item:=by
  intro X C L T hc i j s σ H E I B st hg;subst C L T;#{o,q,Q,p,y,hd,U,hp}:=hg;#{Y,f1,f2,J,f4,O}:=B it (by simp);#{Z,_,_,sz,ent}:=sd (I.hok a _ y) hd;#{b,en,e1,e2,e3}:=ent i p hp;!f:n=q.size:=by rw[sz,U]
  ~Ax (es:=q) (ep:=n) (i:=i) (by rw[<-f];&st) Z hd e1 λu l sb=>?_;rw[<-f] at l;!I1:Inv X j σ H { s with heap:=u }:=I.turned (t':=s.toks) (λb o hb e=>(sb.2 b hb).trans e) Y f1 J f4 O;#{o2,g1,g2,g3}:=id l;~{_,rfl,tI (s:={ s with heap:=u }) g1 g2 g3 (by decide) ⟨.ref b,H,I1,e2,⟨rfl,b,rfl,λo' kvs' p' h1 h2=>?_⟩,l,λb hb=>(B b hb).1⟩};rw[y] at h1;cases h1;rw[hp] at h2;cases h2;&e3
 done:=by
  intro X C L T hc i j s σ H E I B st hg;subst C L T;#{o,q,Q,y,hd,U,hx}:=hg;#{Y,f1,f2,J,f4,O}:=B it (by simp);#{Z,_,_,sz,ent}:=sd (I.hok a _ y) hd;!f:n=q.size:=by rw[sz,U]
  &CY (es:=q) (ep:=n) (i:=i) (I.ok.hd hc) (by rw[<-f];&st) Z hd (by lia) λu eb=>⟨rfl,I.turned (t':=s.toks) (λb o hb e=>eb b o hb e) Y f1 J f4 O⟩
 self:=λ_ _ _ _ _ st h=>wpAny_pyIter_keyiter st h
abbrev KD(T:TE):TI:=λb H R=>T b H λx h=>∃a o E k n,x = .ref a/\h a=aw (.frz o (.dT k))/\o.data = .dict E n/\k.length=n/\R (Itk a n) h
def G4{B l:Expr}{T:TE}(u:PE X l T):PI X B l (KD T):=by
 intro p s j H R I h;~thn (u p s j H _ I h) λv d ⟨x,y,c,r1,Q⟩=>?_;#{a,o,C,k,n,rfl,z,hd,f,q}:=Q;cases r1;#{E,hs,ex,sz,_}:=sd (c.hok a _ z) hd;~Aw hs E ex hd ?_;rw[sz,f];~{d.heap.objs.size,[d.heap.objs.size],_,_,y,rfl,c.kept (t':=d.toks) λb o e=>Zc _ e,AE a _ n,⟨_,Zs _ rfl,rfl,rfl⟩,λb hb=>?_,q};!e:b=d.heap.objs.size:=by simpa using hb
 subst e;&c.fpOk (Zf _) (c.hok.fresh (Zf _))
abbrev nxK(p:Nat)(ks:List (List NK)):Nxt:=λi S=>match S[p]? with
 |some (.dfz ks' _)=>if ks'=ks then aw ((ks.map nkT)[i]?) else aD
 |_=>aD
def C3{B m0:List Addr}{H0:Hp}{p:Nat}{a:Addr}{ks:List (List NK)}(I:m0[p]?=aw a):IOk K B (Itk a ks.length) (nxK p ks) m0 H0:=by
 intro m S H i x R
 !l:∀ {r:Option D},nxK p ks i S=aw r->r=(ks.map nkT)[i]?/\∃o E v,H a=aw (.frz o (.dT (ks.zip v)))/\o.data = .dict E ks.length/\(ks.zip v).length=ks.length/\v.length=ks.length:=λ{r} e=>by
  unfold nxK at e;split at e
  ·rename_i u U J;split at e
   ·rename_i q;subst q;cases e;#{T,n,o,v,h,⟨f,E,j⟩,h4}:=R.ob p _ J;rw[ma x.pre I] at n;cases n;!z:v.length=u.length:=by rw[<-h4.length,f]
    &{rfl,o,E,v,h,j,by rw[Xx,z,XV],z}
   ·cases e
  ·cases e
 ~{λe=>?_,λd e=>?_}
 ·#{c,o,E,v,h,f,j,h4}:=l e;&{o,E,_,h,f,j,by simpa using Z3.mp c.symm}
 ·#{c,o,E,v,h,f,j,h4}:=l e;rw[Zq] at c;#{k,q,c}:=ZE.mp c.symm;subst c;!hi:=(Zb.mp q).1
  !C:(ks.zip v)[i]?=aw (k,v[i]'(by lia)):=by
   rw[List.getElem?_zip_eq_some];&{q,gEG (by lia)}
  ~{⟨o,E,_,_,h,f,j,C⟩,λy Y ⟨L,b,Q,O⟩=>?_};subst L;subst Q;&{Aft.refl R,M5 (O o _ _ h C)}
abbrev xDK(x:XE):XI:=λc S=>bnd (x c S) λd b=>match d with
 | .ref n=>(match b[n]? with
  |some (.dfz ks _)=>aw (nxK n ks,b)
  | _=>aD)
 |_=>aD
def RX{B:List Addr}{x:XE}{f:L2.St}{R:It->Hp->Prop}(h:tIt K B (xDK x) f H R):KD (tE K x) f H R:=by
 #{m,p,S,nx,O,E,I,Y,e,q}:=h;#{d,Q,C,e}:=ac e;cases d with
 |ref n=>
  dsimp only at e;split at e
  ·rename_i ks U l;cases e;~{m,p,S,_,_,E,I,C,λm1 y v j vd=>?_};#{a,c,rfl}:=vd.refs;#{L,b,o,T,J,⟨u,k,z⟩,h4}:=j.rel.ob n _ l;rw[c] at b;cases b;&{a,o,k,_,ks.length,rfl,J,z,by rw[Xx,<-h4.length,u,XV],q m1 y _ j (C3 c)}
  ·cases e
 |_=>cases e
abbrev iy{α:Type}(b:List (Int × List Int))(d:α)(v:List α):List α:=if v.length < 2 then v else (bV (dG b) (kas_sort v.length)).toList.map λi=>v.getD i d
abbrev M6(d:List D):Option (List D):=match iu d with
 |some b=>if d.length < 64 then aw (iy b .non d) else aD
 |none=>aD
abbrev KF(H:Hp)(c:List V)(b:List (Int × List Int)):Prop:=c.length=b.length/\∀ (i:Nat) v,c[i]?=aw v->∃w r p,b[i]?=aw w/\v = .ref r/\H r=aw (.tup [.int w.1,.ref p])/\H p=aw (.tup (w.2.map V.int))
def xc(hu:X.A.units+64 < cLine):aV X (.builtin "sorted") (λxs H Q=>∃a f d,xs=[.ref a]/\SqL X.K H a f/\KF H f d/\f.length < 64/\∀p,H p=aD->Q (.ref p) (upd H p (.lst (iy d .non f)))):=by
 intro pins s σ H xs us Q I r h;#{a,f,d,rfl,sq,⟨wl,wv⟩,h64,q}:=h;#{u,rfl,ru}:=bQ r;cases ru;#{c,B,pl,hz}:=I.list sq;!k:=B.length
 !Y:∀i,i < c.length->GZ s.heap (c.getD i Value.none) (d.getD i (0,[])):=λi hi=>by
  !l:i < f.length:=by lia
  #{w,r,p,e1,e2,Z,e4}:=wv i _ (gEG l);!y:=yp B l;rw[Zr,gEG l,ZX,e2] at y;!y:c.getD i Value.none = .ref r:=y;rw[y,Zr,e1];#{it2,r2,⟨o,eo,hc,n,hd⟩,_}:=I.tuple (SqT.of (K:=X.K) Z);#{u1,u2,rfl,⟨J,rfl⟩,U}:=mN r2;cases U;#{it3,r3,tp,_}:=I.tuple (SqT.of (K:=X.K) e4);&{r,o,J,p,n,_,rfl,eo,hc,hd,tp,by simpa using wm r3}
 ~Aj pl.isList (by lia) (tuples' aN) (dG d) (λh2 A L kp E Q' hq=>?_) (λA L eA kp i j hi hj C hC=>?_) ?_
 ·#{fs,kt,hf,hi}:=r9 (h:=L.heap) (ws:=d) λi hi=>by
   #{r,o,J,p,n,xs,e1,e2,Z,e4,⟨O,e5,e6⟩,e7}:=Y i hi;&{r,o,J,p,n,xs,e1,kp _ _ e2,Z,e4,⟨O,kp _ _ e5,e6⟩,e7}
  ~V6 (T:=.type "int") kt (by lia) (λv hv=>?_) (by decide) hq;#{i,t,rfl}:=hi v hv;&PySem.W.Looks.of_pure rfl
 ·#{r1,o1,J,p1,n1,x1,a1,a2,a3,a4,⟨O,a5,a6⟩,a7}:=Y i hi;#{r2,o2,t3,p2,n2,x2,b1,b2,b3,b4,⟨o6,b5,b6⟩,b7}:=Y j hj;show wpAny _ A (keyLt' (tuples' aN) (c.getD i Value.none) (c.getD j Value.none)) C _ L;rw[a1,b1];&yz (by rw[eA];show X.A.units+1+1 < cLine;lia) (kp _ _ a2) a4 (kp _ _ b2) b4 ⟨O,kp _ _ a5,a6⟩ ⟨o6,kp _ _ b5,b6⟩ a7 b7 hC
 ·!hv:aJ (iy d .non f) (if c.length < 2 then c else (bV (dG d) (kas_sort c.length)).toList.map λi=>c.getD i Value.none):=by
   unfold iy;rw[k];split
   ·&B
   ·&qr B _ λi hi=>by rw[k];&(gw (by lia)).1 i hi
  !sl:(iy d V.non f).length=f.length:=by
   unfold iy;split
   ·rfl
   ·rw[Za,(gw (by lia)).2]
  !eo:(if c.length < 2 then c.toArray else YO ((bV (dG d) (kas_sort c.length)).toList.map λi=>c.getD i Value.none))=(if c.length < 2 then c else (bV (dG d) (kas_sort c.length)).toList.map λi=>c.getD i Value.none).toArray:=by split <;> rfl
  rw[eo];#{e,he}:=sortedAll_at s.heap c (if c.length < 2 then c else (bV (dG d) (kas_sort c.length)).toList.map λi=>c.getD i Value.none).toArray;&{.ref (s.heap.objs.size+1),_,I.laid (t':=s.toks) (a:=s.heap.objs.size+1) (o:=.lst (iy d .non f)) (λb o z=>sortedAll_old z) (YM _) ⟨by rw[sl];&hz,_,e,hv,he⟩,rfl,q _ (I.hok.fresh (YM _))}
abbrev C4(T:Bool)(d:List D):Option (List D):=if T=aS then (match uk T d with
 |some r=>aw r
 | none=>M6 d) else aD
def RY{d:List D}{c:List V}{ws:List (Int × List Int)}(e:iu d=aw ws)(h:VDs K m H d c):KF H c ws:=by
 #{l,f}:=rZ e;~{by rw[l,h.length],λi v j=>?_};!hi:i < d.length:=by !:=(Zb.mp j).1;rw[h.length];&this
 #{L,E,b}:=h.get (gEG hi);rw[j] at E;cases E;#{w,C,z}:=f i _ (gEG hi);rw[z] at b;#{r,J,rfl,q,u}:=b.tups;#{x,y,rfl,I,B}:=wM u;cases I.ints;#{p,Y,rfl,k,n}:=B.tups;!:=bO n;subst this;&{w,r,p,C,rfl,q,k}
def qz(k:X.A.units+64 < cLine):aV X (.builtin "sorted") (r1 (rTm X.K C4)):=by
 ~aV.imp (aV.or Ak (xc k)) λp H Q h=>?_;#{_,rfl,m,S,T,d,a,v,E,R,rfl,c,vd,e,q}:=ca h;unfold C4 at e;split at e
 ·rename_i l;subst l;cases b:uk aS d with
  |some r=>
   rw[b] at e;cases e;&.inl ⟨m,S,aS,d,a,v,E,R,rfl,c,vd,b,q⟩
  |none=>
   rw[b] at e;dsimp only at e;unfold M6 at e;split at e
   ·rename_i j f;split at e
    ·rename_i n;cases e;~.inr ⟨a,v,j,rfl,c,RY f vd,by rw[<-vd.length];&n,rF R ?_ q⟩;unfold iy;rw[<-vd.length];split
     ·&vd
     ·&rO vd _ λi hi=>(gw (by lia)).1 i hi
    ·cases e
   ·cases e
 ·cases e
end
end Ev
namespace Ev
open PySem PySem.Spec PyProof.Rows L2
open PySem.W (CodeHd kla_obj kla_fn)
abbrev UJ(T:Addr)(p:Pos)(c:Str)(ob:Addr->Value->Obj):TE:=λ_ H Q=>∃ps,TabOk T p c H ps/\∀f q d C h,TabOk T p c h d->h f=aw (cdO f c)->h q=aw (fnO q (ob f C))->H q=aD->(∀b o,b ≠ T->H b=aw o->h b=aw o)->Q (.ref q) h
def M7(b:X.env.code = .ref c)(C:CodeHd X.base c T)(hb:X.base.BuiltinsAt X.mg T)(l:Zaw ≠ T)(k:Zag scope X.env=pure [])(f:Zam params X.env=([],[])) :
  PE X (.Lambda params body scope pos) (UJ T pos (X.env.qual ++ "<lambda>") λj d=>kla_obj "<lambda>" (X.env.qual ++ "<lambda>") params body scope [] ((X.mg "__name__").getD .none) j d):=by
 intro y s Z H Q I h;#{ps,n,h}:=h;~M2 I n.at_ n.tr b (C.keeps I.bk) (I.mod.glob.keeps I.bk) (hb.keeps I.bk) l k f n.cd λj q p d v s' L z J E u U O new B=>?_;~{.ref q,v,L,rfl,h j q p d v ⟨z,J,λY e=>?_⟩ u U (I.hok.fresh B) O};rw[E] at e;cases e;&{j,rfl,u}
end Ev
namespace Ev
open PySem PySem.Spec PyProof.Rows L2
open PySem.W (CodeHd kla_obj kla_fn kas_sort)
abbrev M8(v:List V)(ls:List (List Int)):List V:=if v.length < 2 then v else (bV (λi j=>cS (eK ls i) (eK ls j)) (kas_sort v.length)).toList.map λi=>v.getD i .non
abbrev KG(K:VY)(T:Addr)(p:Pos)(q:Str)(t:TA):TE:=λf H Q=>t f H λu h=>∃a v l ps,u=[.ref a]/\SqL K h a v/\LotsV h v l/\v.length < 64/\a ≠ T/\TabOk T p q h ps/\∀r c d,TabOk T p q c d->c r=aw (.lst (M8 v l))->h r=aD->(∀b o,b ≠ T->h b=aw o->c b=aw o)->Q (.ref r) c
abbrev uy(x:Str)(b p f d h:Pos)(c:Nat):Expr:=.Tuple [.Call (.Name "len" b) [.Name x p] [] f,.Name x d] c h
def G5{P:Program}{w:World}{K:VY}{mg:Str->Option Value}{base:Heap}{k O:Nat}{q C r:Addr}{x name Q:Str}{d:W6}{c:Scope}{pm n:Value}{A:Around}{outer:List Env}{s:Shared}{H:Hp}{ns:List Int}{U I X L T:Pos}
  (S:FnScope [x] [x] c) (h:c.names.lookup x=aw .local) (E:c.names.lookup ("len" : Str)=aw NameKind.globalImplicit) (y:mg "len" = aD) (f:(x == ("__debug__" : Str))=aS) (u:(x == ("__classdict__" : Str))=aS) (hr:Room (k+1) A) (J:Env0 P w K mg base A outer s H)
  (hq:H q=aw (fnO q (kla_obj name Q d (uy x U I X L T O) c [] pm C n))) (B:H C=aw (cdO C Q)) (hb:NE (kla_fn name Q d (uy x U I X L T O) c [] pm (.ref C) n) ⟨[.ref r],[]⟩=pure [(x,.ref r)]) (l:H r=aw (.tup (ns.map V.int))) :
  codeAny (model P w) A (.call (.ref q) ⟨[.ref r],[]⟩) (CR CX0 outer P w H s (λv j=>(∃t,v = .ref t/\j t=aw (.tup [.int ns.length,.ref r]))/\∀b o,H b=aw o->j b=aw o) E0) s:=by
 !Y:PE (jm CX0 P w K mg base [x] Q c q (.ref C) A outer s H E0) (.Name x I) (zG 0):=v5 (i:=0) rfl (.inl h) f u;!v1:PE (jm CX0 P w K mg base [x] Q c q (.ref C) A outer s H E0) (.Name x L) (zG 0):=v5 (i:=0) rfl (.inl h) f u;~GW (t:=LZ (cf (tCB _ (cf (zG 0) jl)) (cf (zG 0) jl))) S hr J (J.hok q _ hq).1 (J.hok C _ B).1 hb rfl (.cons (show L2.aE (.ref r) (.ref r) from rfl) .nil) (BJ (l9 (f9 jr E y Zab (l9 Y rc)) (l9 v1 rc))) ?_;~{.ref r,rfl,r,_,rfl,.inr (.of l),.ref r,rfl,by rw[ZaO];show 2<=16777216;decide,λp Z=>⟨⟨p,rfl,?_⟩,λb o e=>?_⟩}
 ·rw[az,Za]
 ·rw[ae (λz=>by rw[z,Z] at e;cases e)];&e
def LotsV.mono(h:LotsV H v ls)(m:∀b xs,H b=aw (.tup xs)->c b=aw (.tup xs)):LotsV c v ls:=by
 induction h with
 |nil=>&.nil
 |cons d _ I=>&.cons (m _ _ d) I
def G6{k cx:Nat}(hr:Room (k+3) X.A)(hg:Gl X "sorted")(hm:X.mg "sorted" = aD)(hdb:(("sorted" : Str) == ("__debug__" : Str))=aS)
  (S:FnScope [x] [x] scope) (Y:scope.names.lookup x=aw .local) (hgl:scope.names.lookup ("len" : Str)=aw NameKind.globalImplicit) (hml:X.mg "len" = aD) (hd1:(x == ("__debug__" : Str))=aS) (hd2:(x == ("__classdict__" : Str))=aS)
  (E:∀pm n d u,NE (kla_fn "<lambda>" (X.env.qual ++ "<lambda>") params (uy x p1 p2 p3 p4 p5 cx) scope [] pm (.ref n) d) ⟨[u],[]⟩=pure [(x,u)])
  (B:X.env.code = .ref c) (C:CodeHd X.base c T) (hb:X.base.BuiltinsAt X.mg T) (hgT:Zaw ≠ T) (hcl:Zag scope X.env=pure []) (U:Zam params X.env=([],[]))
  (ha:PA X [e] t) (he:ZaQ [e] X.env=(aS,eval e X.env)::ZaQ [] X.env) :
  PE X (.Call (.Name "sorted" p) [e] [⟨aw "key", .Lambda params (uy x p1 p2 p3 p4 p5 cx) scope lp,kp⟩] pos) (KG X.K T lp (X.env.qual ++ "<lambda>") t):=by
 intro v s σ H Q I h;~ZaY (eF I hg hm W2 ?_ (by decide) hdb);~callWith_kw (thn (ha pos v s σ H _ I h) λus s1 ⟨vs,H1,I1,r,q1⟩=>?_) (by rw[he];rfl) (by rw[he];rfl) rfl rfl;#{a,vs',ls,ps,rfl,sq,hL,h64,aT,tb,q}:=q1
 ~thn (rd (nm:=aw "key") (kpos:=kp) (M7 (X:=X) (pos:=lp) (params:=params) (body:=uy x p1 p2 p3 p4 p5 cx) (scope:=scope) B C hb hgT hcl U) wg pos v s1 σ H1 (λzs l=>∃n L f d,zs=[.ref L]/\TabOk T lp (X.env.qual ++ "<lambda>") l f/\l n=aw (cdO n (X.env.qual ++ "<lambda>"))/\l L=aw (fnO L (kla_obj "<lambda>" (X.env.qual ++ "<lambda>") params (uy x p1 p2 p3 p4 p5 cx) scope [] ((X.mg "__name__").getD .none) n d))/\∀b o,b ≠ T->H1 b=aw o->l b=aw o) I1
  ⟨ps,tb,λn L f d H' O t2 t3 _ J=>⟨n,L,f,d,rfl,O,t2,t3,J⟩⟩) λks s2 ⟨zs,l,I2,rz,n,L,f,d,ez,O,t2,t3,J⟩=>?_
 subst ez;#{u,rfl,ru}:=bQ rz;cases ru;#{u',rfl,ru'}:=bQ r;cases ru';!nT:∀ {b xs},H1 b=aw (.tup xs)->b ≠ T:=λ{b xs} e z=>by rw[z,tb.at_] at e;cases e
 !sq2:SqL X.K l a vs':=by
  rcases sq with (z |⟨o,z⟩) |z
  ·&.inl (.inl (J _ _ aT z))
  ·&.inl (.inr ⟨o,J _ _ aT z⟩)
  ·&.inr z
 !hL2:=hL.mono λb xs e=>J b _ (nT e) e;~AA I2 (hr.in1.in1.units0) sq2 hL2 h64 (λs' H' y u e0 mo hy ry=>?_) λr H3 s3 I3 z1 z2 z3=>?_
 ·#{j,hj}:=YF hy;#{r,ns,rfl,_,Z}:=hL2.at.2 j y hj;obtain rfl:u = .ref r:=ry
  !key:Az l (.ref r)=[.int ns.length,.ref r]:=by
   unfold Az
   !:M3 l (.ref r)=ns.length:=by
    show(match l r with |some (.tup xs)=>(xs.length:Int) |_=>0)=_;rw[Z];simp
   rw[this]
  rw[key];&G5 (k:=k) S Y hgl hml hd1 hd2 hr.in1.in1 e0 (mo _ _ t3) (mo _ _ t2) (E _ _ _ _) (mo _ _ Z)
 ·~{.ref r,H3,I3,rfl,q r H3 f ⟨z3 _ _ O.at_,O.tr,λcv e=>?_⟩ z1 ?_ λb o nb e=>z3 _ _ (J b o nb e)}
  ·#{c2,e1,e2}:=O.cd cv e;&{c2,e1,z3 _ _ e2}
  ·cases hz:H1 r with
   |none=>rfl
   |some o=>
    by_cases rT:r=T
    ·rw[rT,O.at_] at z2;cases z2
    ·rw[J _ _ rT hz] at z2;cases z2
end Ev
namespace Ev
open PySem PySem.Spec PyProof.Rows L2
mutual
inductive CE where |non |bl (b:Bool) |int (i:Int) |str (x:Str) |var (i:Nat) |con (k:Nat)(v:Int) |tup (es:List CE) |lst (es:List CE) |dic0 |bin (o:BOp)(a b:CE) |neg (a:CE) |cmp (o:COp)(a b:CE) |chn (o p:COp)(a b c:CE) |and (a b:CE) |or (a b:CE) |not (a:CE) |ite (c a b:CE) |ix (a b:CE) |sl (a:CE)(lo hi:Option CE) |call (f:Nat)(es:List CE) |inst (t:Ty)(a:CE) |len (a:CE) |all (a:CE) |any (a:CE) |tupOf (a:CE) |listR (a:CE) |srt (a:CE) |mxL (a:CE) |mxD (a:CE)(c:Int) |sm (a:CE) |rev (a:CE) |mnN (a:CE) |mx (a b:CE) |mn (a b:CE) |rep (a:CE) |comp (own:List Str)(elt:CE)(cls:List Cl) |app (o e:CE) |pop (o:CE) |popAt (o e:CE) |ins (o i e:CE) |cnt (o e:CE) |idx (o e:CE) |tupR (a:CE) |dcO (a:CE)
inductive CI where
 |val (a:CE) |r1 (a:CE) |r2 (a b:CE) |dn (a:CE) |dk (a:CE) |en (a:CE)
inductive Cl where
 |mk (tg:Tg) (it:CI) (cond:Option CE)
end
abbrev ai:CE->Bool
 |.lst _=>aN |.comp _ _ _=>aN |.listR _=>aN |.srt _=>aN
 |_=>aS
abbrev LF:Nat:=1000000
abbrev xNo{b:Type}:Rho->Sto->Option (b × Sto):=λ_ _=>aD
abbrev cT(T:Bool)(d:List D):Option (List D):=C4 T d
abbrev AF(f:Bool->List D->Option (List D))(x:XA):XA:=λc S=>bnd (x c S) λd b=>(f aS d).map λE=>(E,b)
abbrev AG(f:Bool->List D->Option (List D))(x:XE):XA:=λc S=>bnd (x c S) λd b=>match ay d b with
 |some r=>(f r.1 r.2).map λE=>(E,b)
 |none=>aD
abbrev AH(x:XE):XA:=λb S=>bnd (x b S) λd c=>match d with
 |.int i=>if 0<=i/\i<=1000 then aw ((Zi i.toNat).map λj=>.int (Int.ofNat j),c) else aD
 |_=>aD
abbrev C5:XE:=λ_ S=>aw (.ref S.length,S++[.dic [] []])
abbrev cnd(t:CE->XT):Option CE->XA->XA
 |some c,x=>CH (t c) x
 |none,x=>x
abbrev opt(t:CE->XE):Option CE->XO
 |some l=>wK (t l)
 |none=>wJ
mutual
noncomputable def evE(C:Calls)(h:Nat->Nat):Nat->CE->XE
 |0,_=>xNo
 |n+1,e=>match e with
  |.non=>xC .non
  |.bl b=>xC (.bl b)
  |.int i=>xC (.int i)
  |.str x=>xC (.str x)
  |.var i=>z5 i
  |.con _ v=>xC (.int v)
  |.tup es=>ng ni (evA C h n es)
  |.lst es=>fF (qo (evA C h n es))
  |.dic0=>C5
  |.bin o a b=>uc (bX o) (evE C h n a) (evE C h n b)
  |.neg a=>xUn MS (evE C h n a)
  |.cmp o a b=>uc (ao o) (evE C h n a) (evE C h n b)
  |.chn o p a b c=>Au (ao o) (ao p) (evE C h n a) (evE C h n b) (evE C h n c)
  |.and a b=>CL (evE C h n a) (evE C h n b)
  |.or a b=>xOr (evE C h n a) (evE C h n b)
  |.not a=>xUn As (evE C h n a)
  |.ite c a b=>MU (evT C h n c) (evE C h n a) (evE C h n b)
  |.ix a b=>if ai a=aN then wD (dH C h n a) (evE C h n b) else uc ixS (evE C h n a) (evE C h n b)
  |.sl a lo hi=>xSl (evE C h n a) (opt (evE C h n) lo) (opt (evE C h n) hi)
  |.call f es=>uv (C f) (h f) (evA C h n es)
  |.inst t a=>xUn (nA t) (evE C h n a)
  |.len a=>if ai a=aN then lW dh (dH C h n a) else lX dh (evE C h n a)
  |.all a=>if ai a=aN then lW l5 (dH C h n a) else lX l5 (evE C h n a)
  |.any a=>if ai a=aN then lW pK (dH C h n a) else lX pK (evE C h n a)
  |.tupOf a=>if ai a=aN then lW cO (dH C h n a) else lX cO (evE C h n a)
  |.listR a=>fF (AH (evE C h n a))
  |.srt a=>fF (if ai a=aN then AF cT (dH C h n a) else AG cT (evE C h n a))
  |.mxL a=>if ai a=aN then lW pL (dH C h n a) else lX pL (evE C h n a)
  |.mxD a c=>if ai a=aN then lW (fY c) (dH C h n a) else lX (fY c) (evE C h n a)
  |.sm a=>if ai a=aN then lW ul (dH C h n a) else lX ul (evE C h n a)
  |.rev a=>xUn wQ (evE C h n a)
  |.mnN a=>if ai a=aN then lW pQ (dH C h n a) else lX pQ (evE C h n a)
  |.mx a b=>ng (two Co) (evA C h n [a,b])
  |.mn a b=>ng (two Cp) (evA C h n [a,b])
  |.rep a=>xUn nP (evE C h n a)
  | .comp own elt cls=>fF (match cls with
   |[]=>xNo
   | ⟨tg,it,cond⟩::rest=>nQ own.length (evI C h n it) tg (cnd (evT C h n) cond (im C h n elt rest)) LF)
  |.app o a=>rQ cD rV (evE C h n o) (evA C h n [a])
  |.pop o=>rQ cD wX (evE C h n o) z6
  |.popAt o a=>rQ cD iU (evE C h n o) (evA C h n [a])
  |.ins o i a=>rQ cD w4 (evE C h n o) (evA C h n [i,a])
  |.cnt o a=>rQ (λd _=>isTup d) wY (evE C h n o) (evA C h n [a])
  |.idx o a=>rQ (λd _=>isTup d) xa (evE C h n o) (evA C h n [a])
  |.tupR a=>C1 (evE C h n a)
  |.dcO a=>if ai a=aN then lW pT (dH C h n a) else lX pT (evE C h n a)
noncomputable def evA(C:Calls)(b:Nat->Nat):Nat->List CE->XA
 |0,_=>xNo
 |n+1,es=>match es with
  |[]=>z6
  |e::es=>yn (evE C b n e) (evA C b n es)
noncomputable def dH(C:Calls)(b:Nat->Nat):Nat->CE->XA
 |0,_=>xNo
 |n+1,e=>match e with
  |.lst es=>qo (evA C b n es)
  |.listR a=>AH (evE C b n a)
  |.srt a=>if ai a=aN then AF cT (dH C b n a) else AG cT (evE C b n a)
  |.comp own elt cls=>match cls with
   |[]=>xNo
   |⟨tg,it,cond⟩::rest=>nQ own.length (evI C b n it) tg (cnd (evT C b n) cond (im C b n elt rest)) LF
  |_=>xNo
noncomputable def im(C:Calls)(b:Nat->Nat):Nat->CE->List Cl->XA
 |0,_,_=>xNo
 |n+1,elt,cls=>match cls with
  |[]=>Kx (evE C b n elt)
  |⟨tg,it,cond⟩::rest=>kq (evI C b n it) tg (cnd (evT C b n) cond (im C b n elt rest)) LF
noncomputable def evI(C:Calls)(c:Nat->Nat):Nat->CI->XI
 |0,_=>xNo
 |n+1,it=>match it with
  |.val a=>if ai a=aN then xIT (dH C c n a) else xIV (evE C c n a)
  |.r1 a=>xR1 (evE C c n a)
  |.dn a=>xDn (evE C c n a)
  |.dk a=>xDK (evE C c n a)
  |.r2 a b=>xR2 (evE C c n a) (evE C c n b)
  |.en a=>xEV (evE C c n a)
noncomputable def evT(C:Calls)(d:Nat->Nat):Nat->CE->XT
 |0,_=>xNo
 |n+1,e=>match e with
  |.cmp o a b=>xB (uc (ao o) (evE C d n a) (evE C d n b))
  |.chn o p a b c=>xB (Au (ao o) (ao p) (evE C d n a) (evE C d n b) (evE C d n c))
  |.and a b=>CO (evT C d n a) (evT C d n b)
  |.or a b=>MX (evT C d n a) (evT C d n b)
  |.not a=>CP (evT C d n a)
  |.ite _ _ _=>xNo
  |e=>Gr (evE C d n e)
end
abbrev gA:List Str:=["len", "isinstance", "all", "any", "tuple", "list", "max", "min", "repr", "range", "enumerate", "int", "bool", "str", "sorted", "zip", "sum", "dict"]
structure Tab where
 con:List (Str × Int)
 fns:List (Str × Nat)
structure Blk where
 sc:Scope
 fs:Option Scope
 N:List Str
abbrev Blk.glo(b:Blk)(x:Str):Bool:=b.sc.names.lookup x == aw .globalImplicit && !(x == ("__debug__" : Str))
abbrev Blk.vis(b:Blk)(x:Str):Bool:=(match b.sc.names.lookup x with
 |some .local=>aN
 |some .cell=>aN
 |some .free=>aN
 | _=>aS) && !(x == ("__debug__" : Str)) && !(x == ("__classdict__" : Str))
abbrev Blk.own(b:Blk)(x:Str):Bool:=match b.sc.names.lookup x with
 |some .local=>aN
 | some .cell=>(match b.fs with
  |none=>aN
  | some sc=>sc.names.lookup x == aw .cell)
 |_=>aS
def bR{P:Prop}[Decidable P]{f:P->Bool}(h:(if p:P then f p else aS)=aN):∃p,f p=aN:=by
 by_cases p:P
 ·rw[dif_pos p] at h;&{p,h}
 ·rw[dif_neg p] at h;cases h
def an2{a b:Bool}(h:(a && b)=aN):a=aN/\b=aN:=by cases a;cases h;&{rfl,h}
def an3{a b c:Bool}(h:(a && b && c)=aN):a=aN/\b=aN/\c=aN:=⟨(an2 (an2 h).1).1,(an2 (an2 h).1).2,(an2 h).2⟩
def an4{a b c d:Bool}(h:(a && b && c && d)=aN):a=aN/\b=aN/\c=aN/\d=aN:=⟨(an3 (an2 h).1).1,(an3 (an2 h).1).2.1,(an3 (an2 h).1).2.2,(an2 h).2⟩
def an5{a b c d e:Bool}(h:(a && b && c && d && e)=aN):a=aN/\b=aN/\c=aN/\d=aN/\e=aN:=⟨(an4 (an2 h).1).1,(an4 (an2 h).1).2.1,(an4 (an2 h).1).2.2.1,(an4 (an2 h).1).2.2.2,(an2 h).2⟩
def an6{a b c d e f:Bool}(h:(a && b && c && d && e && f)=aN):a=aN/\b=aN/\c=aN/\d=aN/\e=aN/\f=aN:=⟨(an5 (an2 h).1).1,(an5 (an2 h).1).2.1,(an5 (an2 h).1).2.2.1,(an5 (an2 h).1).2.2.2.1,(an5 (an2 h).1).2.2.2.2,(an2 h).2⟩
abbrev l1{b:Type}(l:List b)(k:b->Bool):Bool:=match l with
 |[]=>aS
 |x::t=>t.isEmpty && k x
abbrev lC{b:Type}(l:List b)(k:b->List b->Bool):Bool:=match l with
 |[]=>aS
 |x::t=>k x t
def fk{b:Type}{l:List b}{k:b->List b->Bool}(h:lC l k=aN):∃x t,l=x::t/\k x t=aN:=by
 cases l with
 |nil=>cases h
 |cons x t=>&{x,t,rfl,h}
def fH{b:Type}{l:List b}(h:l.isEmpty=aN):l=[]:=by cases l;rfl;cases h
def iV{b:Type}{l:List b}{k:b->Bool}(h:l1 l k=aN):∃x,l=[x]/\k x=aN:=by
 cases l with
 |nil=>cases h
 |cons x t=>#{c,d}:=an2 h;cases fH c;&{x,rfl,d}
abbrev aF(e:Expr):Bool:=!(e.ctorIdx == 22 || e.ctorIdx == 26 || e.ctorIdx == 7)
abbrev se(e:Expr)(k:BoolOp->List Expr->Pos->Bool):Bool:=if h:e.ctorIdx=0 then @Expr.BoolOp.elim (λ_=>Bool) e h k else aS
def qA{e:Expr}{k:BoolOp->List Expr->Pos->Bool}(h:se e k=aN):∃c b X,e = .BoolOp c b X/\k c b X=aN:=by
 #{d,h}:=bR h;&Expr.BoolOp.elim (motive_1:=λe=>∀j,@Expr.BoolOp.elim (λ_=>Bool) e j k=aN->∃c b X,e = .BoolOp c b X/\k c b X=aN) e d (λc b X _ f=>⟨c,b,X,rfl,f⟩) d h
abbrev C6(e:Expr)(k:Expr->VN->Expr->Pos->Bool):Bool:=if h:e.ctorIdx=2 then @Expr.BinOp.elim (λ_=>Bool) e h k else aS
def C7{e:Expr}{k:Expr->VN->Expr->Pos->Bool}(h:C6 e k=aN):∃c b X d,e = .BinOp c b X d/\k c b X d=aN:=by
 #{f,h}:=bR h;&Expr.BinOp.elim (motive_1:=λe=>∀l,@Expr.BinOp.elim (λ_=>Bool) e l k=aN->∃c b X d,e = .BinOp c b X d/\k c b X d=aN) e f (λc b X d _ j=>⟨c,b,X,d,rfl,j⟩) f h
abbrev jE(e:Expr)(k:UnaryOp->Expr->Pos->Bool):Bool:=if h:e.ctorIdx=3 then @Expr.UnaryOp.elim (λ_=>Bool) e h k else aS
def nV{e:Expr}{k:UnaryOp->Expr->Pos->Bool}(h:jE e k=aN):∃c b X,e = .UnaryOp c b X/\k c b X=aN:=by
 #{d,h}:=bR h;&Expr.UnaryOp.elim (motive_1:=λe=>∀j,@Expr.UnaryOp.elim (λ_=>Bool) e j k=aN->∃c b X,e = .UnaryOp c b X/\k c b X=aN) e d (λc b X _ f=>⟨c,b,X,rfl,f⟩) d h
abbrev C8(e:Expr)(k:Expr->Expr->Expr->Pos->Bool):Bool:=if h:e.ctorIdx=5 then @Expr.IfExp.elim (λ_=>Bool) e h k else aS
def C9{e:Expr}{k:Expr->Expr->Expr->Pos->Bool}(h:C8 e k=aN):∃c b X d,e = .IfExp c b X d/\k c b X d=aN:=by
 #{f,h}:=bR h;&Expr.IfExp.elim (motive_1:=λe=>∀l,@Expr.IfExp.elim (λ_=>Bool) e l k=aN->∃c b X d,e = .IfExp c b X d/\k c b X d=aN) e f (λc b X d _ j=>⟨c,b,X,d,rfl,j⟩) f h
abbrev KH(e:Expr)(k:List (Option Expr)->List Expr->Pos->Bool):Bool:=if h:e.ctorIdx=6 then @Expr.Dict.elim (λ_=>Bool) e h k else aS
def G7{e:Expr}{k:List (Option Expr)->List Expr->Pos->Bool}(h:KH e k=aN):∃c b X,e = .Dict c b X/\k c b X=aN:=by
 #{d,h}:=bR h;&Expr.Dict.elim (motive_1:=λe=>∀j,@Expr.Dict.elim (λ_=>Bool) e j k=aN->∃c b X,e = .Dict c b X/\k c b X=aN) e d (λc b X _ f=>⟨c,b,X,rfl,f⟩) d h
abbrev kr(e:Expr)(k:Expr->List W9->Scope->Pos->Bool):Bool:=if h:e.ctorIdx=8 then @Expr.ListComp.elim (λ_=>Bool) e h k else aS
def k8{e:Expr}{k:Expr->List W9->Scope->Pos->Bool}(h:kr e k=aN):∃c b X d,e = .ListComp c b X d/\k c b X d=aN:=by
 #{f,h}:=bR h;&Expr.ListComp.elim (motive_1:=λe=>∀l,@Expr.ListComp.elim (λ_=>Bool) e l k=aN->∃c b X d,e = .ListComp c b X d/\k c b X d=aN) e f (λc b X d _ j=>⟨c,b,X,d,rfl,j⟩) f h
abbrev nW(e:Expr)(k:Expr->List CmpOp->List Expr->Pos->Bool):Bool:=if h:e.ctorIdx=15 then @Expr.Compare.elim (λ_=>Bool) e h k else aS
def nX{e:Expr}{k:Expr->List CmpOp->List Expr->Pos->Bool}(h:nW e k=aN):∃c b X d,e = .Compare c b X d/\k c b X d=aN:=by
 #{f,h}:=bR h;&Expr.Compare.elim (motive_1:=λe=>∀l,@Expr.Compare.elim (λ_=>Bool) e l k=aN->∃c b X d,e = .Compare c b X d/\k c b X d=aN) e f (λc b X d _ j=>⟨c,b,X,d,rfl,j⟩) f h
abbrev yB(e:Expr)(k:Expr->List Expr->List Keyword->Pos->Bool):Bool:=if h:e.ctorIdx=16 then @Expr.Call.elim (λ_=>Bool) e h k else aS
def yC{e:Expr}{k:Expr->List Expr->List Keyword->Pos->Bool}(h:yB e k=aN):∃c b X d,e = .Call c b X d/\k c b X d=aN:=by
 #{f,h}:=bR h;&Expr.Call.elim (motive_1:=λe=>∀l,@Expr.Call.elim (λ_=>Bool) e l k=aN->∃c b X d,e = .Call c b X d/\k c b X d=aN) e f (λc b X d _ j=>⟨c,b,X,d,rfl,j⟩) f h
abbrev fm(e:Expr)(k:Const->Nat->Pos->Bool):Bool:=if h:e.ctorIdx=19 then @Expr.Constant.elim (λ_=>Bool) e h k else aS
def dX{e:Expr}{k:Const->Nat->Pos->Bool}(h:fm e k=aN):∃c b X,e = .Constant c b X/\k c b X=aN:=by
 #{d,h}:=bR h;&Expr.Constant.elim (motive_1:=λe=>∀j,@Expr.Constant.elim (λ_=>Bool) e j k=aN->∃c b X,e = .Constant c b X/\k c b X=aN) e d (λc b X _ f=>⟨c,b,X,rfl,f⟩) d h
abbrev nY(e:Expr)(k:Expr->Str->Pos->Bool):Bool:=if h:e.ctorIdx=20 then @Expr.Attribute.elim (λ_=>Bool) e h k else aS
def sf{e:Expr}{k:Expr->Str->Pos->Bool}(h:nY e k=aN):∃c b X,e = .Attribute c b X/\k c b X=aN:=by
 #{d,h}:=bR h;&Expr.Attribute.elim (motive_1:=λe=>∀j,@Expr.Attribute.elim (λ_=>Bool) e j k=aN->∃c b X,e = .Attribute c b X/\k c b X=aN) e d (λc b X _ f=>⟨c,b,X,rfl,f⟩) d h
abbrev dI(e:Expr)(k:Expr->Expr->Pos->Bool):Bool:=if h:e.ctorIdx=21 then @Expr.Subscript.elim (λ_=>Bool) e h k else aS
def dm{e:Expr}{k:Expr->Expr->Pos->Bool}(h:dI e k=aN):∃c b X,e = .Subscript c b X/\k c b X=aN:=by
 #{d,h}:=bR h;&Expr.Subscript.elim (motive_1:=λe=>∀j,@Expr.Subscript.elim (λ_=>Bool) e j k=aN->∃c b X,e = .Subscript c b X/\k c b X=aN) e d (λc b X _ f=>⟨c,b,X,rfl,f⟩) d h
abbrev Da(e:Expr)(k:Str->Pos->Bool):Bool:=if h:e.ctorIdx=23 then @Expr.Name.elim (λ_=>Bool) e h k else aS
def yD{e:Expr}{k:Str->Pos->Bool}(h:Da e k=aN):∃b X,e = .Name b X/\k b X=aN:=by
 #{c,h}:=bR h;&Expr.Name.elim (motive_1:=λe=>∀f,@Expr.Name.elim (λ_=>Bool) e f k=aN->∃b X,e = .Name b X/\k b X=aN) e c (λb X _ d=>⟨b,X,rfl,d⟩) c h
abbrev KJ(e:Expr)(k:List Expr->Pos->Bool):Bool:=if h:e.ctorIdx=24 then @Expr.List.elim (λ_=>Bool) e h k else aS
def G8{e:Expr}{k:List Expr->Pos->Bool}(h:KJ e k=aN):∃b X,e = .List b X/\k b X=aN:=by
 #{c,h}:=bR h;&Expr.List.elim (motive_1:=λe=>∀f,@Expr.List.elim (λ_=>Bool) e f k=aN->∃b X,e = .List b X/\k b X=aN) e c (λb X _ d=>⟨b,X,rfl,d⟩) c h
abbrev Db(e:Expr)(k:List Expr->Nat->Pos->Bool):Bool:=if h:e.ctorIdx=25 then @Expr.Tuple.elim (λ_=>Bool) e h k else aS
def Dc{e:Expr}{k:List Expr->Nat->Pos->Bool}(h:Db e k=aN):∃c b X,e = .Tuple c b X/\k c b X=aN:=by
 #{d,h}:=bR h;&Expr.Tuple.elim (motive_1:=λe=>∀j,@Expr.Tuple.elim (λ_=>Bool) e j k=aN->∃c b X,e = .Tuple c b X/\k c b X=aN) e d (λc b X _ f=>⟨c,b,X,rfl,f⟩) d h
abbrev xf(e:Expr)(k:Option Expr->Option Expr->Option Expr->Pos->Bool):Bool:=if h:e.ctorIdx=26 then @Expr.Slice.elim (λ_=>Bool) e h k else aS
def uz{e:Expr}{k:Option Expr->Option Expr->Option Expr->Pos->Bool}(h:xf e k=aN):∃c b X d,e = .Slice c b X d/\k c b X d=aN:=by
 #{f,h}:=bR h;&Expr.Slice.elim (motive_1:=λe=>∀l,@Expr.Slice.elim (λ_=>Bool) e l k=aN->∃c b X d,e = .Slice c b X d/\k c b X d=aN) e f (λc b X d _ j=>⟨c,b,X,d,rfl,j⟩) f h
abbrev xg(e:Expr):Bool:=!(e.ctorIdx == 22 || yB e λf E ks _=>f.ctorIdx == 23 && E.isEmpty && ks.isEmpty)
abbrev M9(e:Expr):Bool:=!(e.ctorIdx == 0 || e.ctorIdx == 5 || e.ctorIdx == 15 || jE e λo _ _=>decide (o = .Not))
abbrev nZ(own N:List Str):List Nat:=(Zi N.length).filter λi=>match N[i]? with
 |some x=>own.contains x
 |none=>aS
abbrev Blk.inner(b:Blk)(own:List Str)(c:Scope):Blk:=⟨gf c b.sc,aw c,dF (nZ own b.N) b.N++own⟩
abbrev Dd(e:Expr):Option (Str × Pos):=if h:e.ctorIdx=23 then aw (@Expr.Name.elim (λ_=>Str × Pos) e h λx p=>(x,p)) else aD
abbrev AI(e:Expr):Option (List Expr × Nat × Pos):=if h:e.ctorIdx=25 then aw (@Expr.Tuple.elim (λ_=>List Expr × Nat × Pos) e h λE k p=>(E,k,p)) else aD
def KL{b:Type}{P:Prop}[Decidable P]{f:P->b}{r:b}(h:(if p:P then aw (f p) else aD)=aw r):∃p,f p=r:=by
 by_cases p:P
 ·rw[dif_pos p] at h;cases h;&{p,rfl}
 ·rw[dif_neg p] at h;cases h
def sg{e:Expr}{x:Str}{p:Pos}(h:Dd e=aw (x,p)):e = .Name x p:=by
 #{b,h}:=KL h;&Expr.Name.elim (motive_1:=λe=>∀d,Expr.Name.elim (motive_1:=λ_=>Str × Pos) e d (λx p=>(x,p))=(x,p)->e = .Name x p) e b (λ_ _ _ c=>by cases c;rfl) b h
def si{e:Expr}{E:List Expr}{k:Nat}{p:Pos}(h:AI e=aw (E,k,p)):e = .Tuple E k p:=by
 #{b,h}:=KL h;&Expr.Tuple.elim (motive_1:=λe=>∀d,Expr.Tuple.elim (motive_1:=λ_=>List Expr × Nat × Pos) e d (λE k p=>(E,k,p))=(E,k,p)->e = .Tuple E k p) e b (λ_ _ _ _ c=>by cases c;rfl) b h
abbrev oA{b:Type}(o:Option b)(k:b->Bool):Bool:=match o with
 |some r=>k r
 |none=>aS
def AJ{b:Type}{o:Option b}{k:b->Bool}(h:oA o k=aN):∃r,o=aw r/\k r=aN:=by
 cases o with
 |none=>cases h
 |some r=>&{r,rfl,h}
def De{a b:Bool}(h:(a || b)=aN):a=aN\/b=aN:=by cases a;&.inr h;&.inl rfl
mutual
noncomputable def xh(b:Blk)(e:Expr):Tg->Bool
 |.name i=>oA (Dd e) λr=>b.N[i]? == aw r.1 && b.own r.1
 |.tup ts=>oA (AI e) λr=>n4 b r.1 ts
noncomputable def n4(b:Blk)(E:List Expr):List Tg->Bool
 |[]=>E.isEmpty
 |t::ts=>lC E λe E=>xh b e t && aF e && n4 b E ts
end
abbrev Na(e:Expr):Bool:=fm e λc _ _=>decide (c = .none)
abbrev sBl(v:Bool)(e:Expr):Bool:=fm e λc _ _=>decide (c = .bool v)
abbrev n5(v:Int)(e:Expr):Bool:=fm e λc _ _=>decide (c = .int v)
abbrev RZ(v:Str)(e:Expr):Bool:=fm e λc _ _=>decide (c = .str v)
abbrev yE(k:Str->Bool)(e:Expr):Bool:=Da e λx _=>k x
abbrev Nb(k:List Expr->Bool)(e:Expr):Bool:=Db e λE _ _=>k E
abbrev R5(k:List Expr->Bool)(e:Expr):Bool:=KJ e λE _=>k E
abbrev R6(o:VN)(k l:Expr->Bool)(e:Expr):Bool:=C6 e λx op y _=>decide (op=o) && k x && l y
abbrev uA(k:Expr->Bool)(e:Expr):Bool:=jE e λo x _=>decide (o = .USub) && k x
abbrev Nc(k:Expr->Bool)(e:Expr):Bool:=jE e λo x _=>decide (o = .Not) && k x
abbrev Ng(o:CmpOp)(k l:Expr->Bool)(e:Expr):Bool:=nW e λx os Y _=>l1 os λop=>l1 Y λy=>decide (op=o) && k x && l y && aF y
abbrev Nh(o p:CmpOp)(k l m:Expr->Bool)(e:Expr):Bool:=nW e λx os Y _=>lC os λop os=>l1 os λO=>lC Y λy Y=>l1 Y λz=>decide (op=o) && decide (O=p) && k x && l y && m z && aF z
abbrev Df(o:BoolOp)(k l:Expr->Bool)(e:Expr):Bool:=se e λop v _=>lC v λx v=>l1 v λy=>decide (op=o) && k x && l y
abbrev Dg(o:BoolOp)(k l:Expr->Bool)(e:Expr):Bool:=se e λop v p=>lC v λx v=>lC v λy v=>lC v λz Y=>decide (op=o) && k x && l (.BoolOp o (y::z::Y) p)
abbrev R7(k l m:Expr->Bool)(e:Expr):Bool:=C8 e λx y z _=>k x && l y && m z
abbrev sIx(k l:Expr->Bool)(e:Expr):Bool:=dI e λx y _=>k x && l y && aF y
abbrev sSl(k:Expr->Bool)(l m:Option Expr->Bool)(e:Expr):Bool:=dI e λx s _=>xf s λy z w _=>w.isNone && k x && l y && m z
abbrev R8(k:Expr->Bool)(e:Expr):Bool:=dI e λx s _=>xf s λy z w _=>y.isNone && z.isNone && k x && oA w λe=>uA (n5 1) e
abbrev sCN(e:Expr)(k:Str->List Expr->List Keyword->Bool):Bool:=yB e λf E ks _=>Da f λx _=>k x E ks
abbrev KM(k:Str->Bool)(l:List Expr->Bool)(e:Expr):Bool:=sCN e λx E ks=>lC E λe E=>ks.isEmpty && k x && l (e::E)
abbrev xi(b:Blk)(f:Str)(k:List Expr->Bool)(e:Expr):Bool:=sCN e λx E ks=>lC E λe E=>ks.isEmpty && x == f && b.glo x && k (e::E)
abbrev bW(b:Blk)(f:Str)(k:Expr->Bool)(e:Expr):Bool:=sCN e λx E ks=>l1 E λe=>ks.isEmpty && x == f && b.glo x && k e && aF e
abbrev R9(c:Int)(ks:List Keyword):Bool:=l1 ks λw=>w.arg == aw (Str.ofString "default") && (n5 c w.value || uA (n5 (-c)) w.value)
abbrev KN(b:Blk)(k:Expr->Bool)(e:Expr):Bool:=sCN e λx E ks=>l1 E λe=>(l1 ks λw=>w.arg == aw (Str.ofString "default") && Na w.value) && x == "min" && b.glo x && k e && aF e
abbrev sDn(b:Blk)(k:Expr->Bool)(e:Expr):Bool:=sCN e λx E ks=>lC E λc E=>lC E λf E=>l1 E λd=>ks.isEmpty && x == "range" && b.glo x && (k c && aF c && uA (n5 1) f && uA (n5 1) d)
abbrev KO(b:Blk)(c:Int)(k:Expr->Bool)(e:Expr):Bool:=sCN e λx E ks=>l1 E λe=>R9 c ks && x == "max" && b.glo x && k e && aF e
abbrev xj(b:Blk)(f:Str)(k l:Expr->Bool)(e:Expr):Bool:=sCN e λx E ks=>lC E λe E=>l1 E λc=>ks.isEmpty && (x == f && b.glo x && k e && aF e && l c && aF c)
abbrev xk(m:Str)(k:Expr->Bool)(l:List Expr->Bool)(e:Expr):Bool:=yB e λf E ks p=>nY f λx c b=>ks.isEmpty && c == m && xg x && (b.endLine == p.line) && k x && l E
abbrev KP(k:Expr->Expr->Expr->List Expr->List W9->Scope->Bool)(e:Expr):Bool:=kr e λe gs b _=>lC gs λg gs=>decide (g.is_async=0) && k e g.target g.iter g.ifs gs b
abbrev KQ(e:Expr):Bool:=KH e λks v _=>ks.isEmpty && v.isEmpty
def bI{x y:Str}(h:(x == y)=aN):x=y:=eq_of_beq h
section
variable {e:Expr} {k l m:Expr->Bool}
def Dh(h:Na e=aN):∃a p,e = .Constant .none a p:=by
 #{c,a,p,rfl,h}:=dX h;cases of_decide_eq_true h;&{a,p,rfl}
def Se{v:Bool}(h:sBl v e=aN):∃a p,e = .Constant (.bool v) a p:=by
 #{c,a,p,rfl,h}:=dX h;cases of_decide_eq_true h;&{a,p,rfl}
def ku{v:Int}(h:n5 v e=aN):∃a p,e = .Constant (.int v) a p:=by
 #{c,a,p,rfl,h}:=dX h;cases of_decide_eq_true h;&{a,p,rfl}
def Ni{v:Str}(h:RZ v e=aN):∃a p,e = .Constant (.str v) a p:=by
 #{c,a,p,rfl,h}:=dX h;cases of_decide_eq_true h;&{a,p,rfl}
def sj{k:Str->Bool}(h:yE k e=aN):∃x p,e = .Name x p/\k x=aN:=yD h
def Di{k:List Expr->Bool}(h:Nb k e=aN):∃x a p,e = .Tuple x a p/\k x=aN:=Dc h
def Nj{k:List Expr->Bool}(h:R5 k e=aN):∃x p,e = .List x p/\k x=aN:=G8 h
def Nk{o:VN}(h:R6 o k l e=aN):∃x y p,e = .BinOp x o y p/\k x=aN/\l y=aN:=by
 #{x,op,y,p,rfl,h}:=C7 h;#{b,z}:=an3 h;cases of_decide_eq_true b;&{x,y,p,rfl,z}
def n6(h:uA k e=aN):∃x p,e = .UnaryOp .USub x p/\k x=aN:=by
 #{op,x,p,rfl,h}:=nV h;#{b,z}:=an2 h;cases of_decide_eq_true b;&{x,p,rfl,z}
def Dj(h:Nc k e=aN):∃x p,e = .UnaryOp .Not x p/\k x=aN:=by
 #{op,x,p,rfl,h}:=nV h;#{b,z}:=an2 h;cases of_decide_eq_true b;&{x,p,rfl,z}
def Dk{o:CmpOp}(h:Ng o k l e=aN):∃x y p,e = .Compare x [o] [y] p/\k x=aN/\l y=aN/\aF y=aN:=by
 #{x,os,Y,p,rfl,h}:=nX h;#{op,rfl,h}:=iV h;#{y,rfl,h}:=iV h;#{b,z}:=an4 h;cases of_decide_eq_true b;&{x,y,p,rfl,z}
def Dm{o p:CmpOp}(h:Nh o p k l m e=aN):∃x y z q,e = .Compare x [o,p] [y,z] q/\k x=aN/\l y=aN/\m z=aN/\aF z=aN:=by
 #{x,os,Y,q,rfl,h}:=nX h;#{op,os,rfl,h}:=fk h;#{O,rfl,h}:=iV h;#{y,Y,rfl,h}:=fk h;#{z,rfl,h}:=iV h;#{c,b,Z}:=an6 h;cases of_decide_eq_true c;cases of_decide_eq_true b;&{x,y,z,q,rfl,Z}
def sr{o:BoolOp}(h:Df o k l e=aN):∃x y p,e = .BoolOp o [x,y] p/\k x=aN/\l y=aN:=by
 #{op,v,p,rfl,h}:=qA h;#{x,v,rfl,h}:=fk h;#{y,rfl,h}:=iV h;#{b,z}:=an3 h;cases of_decide_eq_true b;&{x,y,p,rfl,z}
def su{o:BoolOp}(h:Dg o k l e=aN):∃x y z Y p,e = .BoolOp o (x::y::z::Y) p/\k x=aN/\l (.BoolOp o (y::z::Y) p)=aN:=by
 #{op,v,p,rfl,h}:=qA h;#{x,v,rfl,h}:=fk h;#{y,v,rfl,h}:=fk h;#{z,v,rfl,h}:=fk h;#{b,Z}:=an3 h;cases of_decide_eq_true b;&{x,y,z,v,p,rfl,Z}
def Nm(h:R7 k l m e=aN):∃x y z p,e = .IfExp x y z p/\k x=aN/\l y=aN/\m z=aN:=by
 #{x,y,z,p,rfl,h}:=C9 h;&{x,y,z,p,rfl,an3 h}
def Sf(h:sIx k l e=aN):∃x y p,e = .Subscript x y p/\k x=aN/\l y=aN/\aF y=aN:=by
 #{x,y,p,rfl,h}:=dm h;&{x,y,p,rfl,an3 h}
def Sg{l m:Option Expr->Bool}(h:sSl k l m e=aN):∃x y z p q,e = .Subscript x (.Slice y z aD p) q/\k x=aN/\l y=aN/\m z=aN:=by
 #{x,s,q,rfl,h}:=dm h;#{y,z,w,p,rfl,h}:=uz h;#{b,Z}:=an4 h;cases w;&{x,y,z,p,q,rfl,Z};cases b
def Nn(h:R8 k e=aN):∃x n p j c b,e = .Subscript x (.Slice aD aD (aw (.UnaryOp .USub (.Constant (.int 1) n c) b)) j) p/\k x=aN:=by
 #{x,s,q,rfl,h}:=dm h;#{y,z,w,p,rfl,h}:=uz h;#{B,C,d,h4}:=an4 h;#{u,rfl,h4}:=AJ h4;#{v,b,rfl,f}:=n6 h4;#{n,c,rfl}:=ku f;cases y <;> cases z <;> first |&⟨x,n,q,p,c,b,rfl,d⟩ |(cases B;done) |(cases C;done)
def n8{k:Str->List Expr->List Keyword->Bool}(h:sCN e k=aN):∃x p E ks q,e = .Call (.Name x p) E ks q/\k x E ks=aN:=by
 #{f,E,ks,q,rfl,h}:=yC h;#{x,p,rfl,h}:=yD h;&{x,p,E,ks,q,rfl,h}
def G9{k:Str->Bool}{l:List Expr->Bool}(h:KM k l e=aN):∃x X E p q,e = .Call (.Name x p) (X::E) [] q/\k x=aN/\l (X::E)=aN:=by
 #{x,p,E,ks,q,rfl,h}:=n8 h;#{X,E,rfl,h}:=fk h;#{b,z}:=an3 h;cases fH b;&{x,X,E,p,q,rfl,z}
def uB{b:Blk}{f:Str}{k:List Expr->Bool}(h:xi b f k e=aN):∃x E p q,e = .Call (.Name f p) (x::E) [] q/\b.glo f=aN/\k (x::E)=aN:=by
 #{x,p,E,ks,q,rfl,h}:=n8 h;#{X,E,rfl,h}:=fk h;#{c,d,z}:=an4 h;cases fH c;cases bI d;&{X,E,p,q,rfl,z}
def aW{b:Blk}{f:Str}(h:bW b f k e=aN):∃x p q,e = .Call (.Name f p) [x] [] q/\b.glo f=aN/\k x=aN/\aF x=aN:=by
 #{x,p,E,ks,q,rfl,h}:=n8 h;#{X,rfl,h}:=iV h;#{c,d,z}:=an5 h;cases fH c;cases bI d;&{X,p,q,rfl,z}
def Np{c:Int}{ks:List Keyword}(h:R9 c ks=aN):∃v q,ks=[⟨aw "default", v,q⟩]/\(n5 c v || uA (n5 (-c)) v)=aN:=by
 #{⟨a,v,q⟩,rfl,h}:=iV h;#{b,z}:=an2 h;obtain E:=eq_of_beq b;&{v,q,by rw[show a=_ from E],z}
def Ha{b:Blk}{c:Int}(h:KO b c k e=aN):∃x p q v Q,e = .Call (.Name "max" p) [x] [⟨aw "default", v,Q⟩] q/\(n5 c v || uA (n5 (-c)) v)=aN/\b.glo "max" = aN/\k x=aN/\aF x=aN:=by
 #{x,p,E,ks,q,rfl,h}:=n8 h;#{X,rfl,h}:=iV h;#{f,j,z}:=an5 h;#{v,Q,rfl,d}:=Np f;cases bI j;&{X,p,q,v,Q,rfl,d,z}
def Hb{b:Blk}(h:KN b k e=aN):∃x p q j c Q,e = .Call (.Name "min" p) [x] [⟨aw "default", .Constant .none j c,Q⟩] q/\b.glo "min" = aN/\k x=aN/\aF x=aN:=by
 #{x,p,B,ks,q,rfl,h}:=n8 h;#{X,rfl,h}:=iV h;#{n,u,z}:=an5 h;#{⟨a,v,Q⟩,rfl,d}:=iV n;#{h4,f}:=an2 d;#{j,c,E}:=Dh f;!y:=eq_of_beq h4;cases bI u;&{X,p,q,j,c,Q,by rw[show v=_ from E,show a=_ from y],z}
def KR{b:Blk}(h:sDn b k e=aN):∃x p q n f r2 v y j,e = .Call (.Name "range" p) [x,.UnaryOp .USub (.Constant (.int 1) n f) r2,.UnaryOp .USub (.Constant (.int 1) v y) j] [] q/\b.glo "range" = aN/\k x=aN/\aF x=aN:=by
 #{x,p,E,ks,q,rfl,h}:=n8 h;#{J,E,rfl,h}:=fk h;#{Q,E,rfl,h}:=fk h;#{O,rfl,h}:=iV h;#{L,B,I,h4}:=an4 h;#{z,C,d,c}:=an4 h4;#{u,r2,rfl,d}:=n6 d;#{n,f,rfl}:=ku d;#{u,j,rfl,c}:=n6 c;#{v,y,rfl}:=ku c;cases bI B;cases fH L;&{J,p,q,n,f,r2,v,y,j,rfl,I,z,C}
def n9{b:Blk}{f:Str}(h:xj b f k l e=aN):∃x y p q,e = .Call (.Name f p) [x,y] [] q/\b.glo f=aN/\k x=aN/\aF x=aN/\l y=aN/\aF y=aN:=by
 #{x,p,E,ks,q,rfl,h}:=n8 h;#{X,E,rfl,h}:=fk h;#{y,rfl,h}:=iV h;#{c,Y}:=an2 h;#{d,z}:=an6 Y;cases fH c;cases bI d;&{X,y,p,q,rfl,z}
def kB{m:Str}{l:List Expr->Bool}(h:xk m k l e=aN):∃x b E p,e = .Call (.Attribute x m b) E [] p/\xg x=aN/\(b.endLine == p.line)=aN/\k x=aN/\l E=aN:=by
 #{f,E,ks,p,rfl,h}:=yC h;#{x,j,b,rfl,h}:=sf h;#{c,d,z}:=an6 h;cases fH c;cases bI d;&{x,b,E,p,rfl,z}
def yF{k:Expr->Expr->Expr->List Expr->List W9->Scope->Bool}(h:KP k e=aN):∃E t i ifs gs b p,e = .ListComp E (⟨t,i,ifs,0⟩::gs) b p/\k E t i ifs gs b=aN:=by
 #{E,gs,b,p,rfl,h}:=k8 h;#{⟨t,i,ifs,d⟩,gs,rfl,h}:=fk h;#{c,z}:=an2 h;cases of_decide_eq_true c;&{E,t,i,ifs,gs,b,p,rfl,z}
def Hc(h:KQ e=aN):∃p,e = .Dict [] [] p:=by
 #{ks,v,p,rfl,h}:=G7 h;#{c,b}:=an2 h;cases fH c;cases fH b;&{p,rfl}
end
abbrev Dn(f:Expr->CE->Bool)(l:Option Expr):Option CE->Bool
 |none=>l.isNone
 |some c=>oA l λe=>f e c
abbrev Dp(f:Expr->CE->Bool)(l:List Expr):Option CE->Bool
 |none=>l.isEmpty
 |some c=>l1 l λe=>f e c
abbrev clC(c:List Cl)(k:Tg->CI->Option CE->List Cl->Bool):Bool:=match c with
 |[]=>aS
 |⟨tg,it,cond⟩::rest=>k tg it cond rest
def KS{c:List Cl}{k:Tg->CI->Option CE->List Cl->Bool}(h:clC c k=aN):∃T it cond b,c=⟨T,it,cond⟩::b/\k T it cond b=aN:=by
 cases c with
 |nil=>cases h
 |cons g b=>#{T,it,cond}:=g;&{T,it,cond,b,rfl,h}
mutual
noncomputable def aG(T:Tab):Nat->Blk->Expr->CE->Bool
 |0,_,_,_=>aS
 |n+1,b,e,c=>match c with
  |.non=>Na e
  |.bl v=>sBl v e
  |.int i=>n5 i e
  |.str x=>RZ x e
  |.var i=>yE (λx=>b.N[i]? == aw x && b.vis x) e
  |.con k v=>yE (λx=>T.con[k]? == aw (x,v) && b.glo x) e
  |.tup cs=>Nb (λE=>fo T n b E cs) e
  |.lst cs=>R5 (λE=>fo T n b E cs) e
  |.dic0=>KQ e
  |.bin o a c=>R6 o.op (λx=>aG T n b x a) (λx=>aG T n b x c) e
  |.neg a=>uA (λx=>aG T n b x a) e
  |.cmp o a c=>Ng o.op (λx=>aG T n b x a) (λx=>aG T n b x c) e
  |.chn o p a c d=>Nh o.op p.op (λx=>aG T n b x a) (λx=>aG T n b x c) (λx=>aG T n b x d) e
  |.and a c=>Df .And (λx=>aG T n b x a) (λx=>aG T n b x c) e || Dg .And (λx=>aG T n b x a) (λx=>aG T n b x c) e
  |.or a c=>Df .Or (λx=>aG T n b x a) (λx=>aG T n b x c) e || Dg .Or (λx=>aG T n b x a) (λx=>aG T n b x c) e
  |.not a=>Nc (λx=>aG T n b x a) e
  |.ite t a c=>R7 (λx=>fI T n b x t) (λx=>aG T n b x a) (λx=>aG T n b x c) e
  |.ix a c=>sIx (λx=>aG T n b x a) (λx=>aG T n b x c) e
  |.sl a lo hi=>sSl (λx=>aG T n b x a) (λl=>Dn (aG T n b) l lo) (λl=>Dn (aG T n b) l hi) e
  |.call f cs=>KM (λx=>oA T.fns[f]? (λy=>y.1 == x) && b.glo x) (λE=>fo T n b E cs) e
  |.inst t a=>xj b "isinstance" (λx=>aG T n b x a) (yE λy=>y == Str.ofString t.nm && b.glo y) e
  |.len a=>bW b "len" (λx=>aG T n b x a) e
  |.all a=>bW b "all" (λx=>aG T n b x a) e
  |.any a=>bW b "any" (λx=>aG T n b x a) e
  |.tupOf a=>bW b "tuple" (λx=>aG T n b x a) e
  |.listR a=>bW b "list" (bW b "range" λx=>aG T n b x a) e
  |.srt a=>bW b "sorted" (λx=>aG T n b x a) e
  |.mxL a=>bW b "max" (λx=>aG T n b x a) e
  |.mxD a c=>KO b c (λx=>aG T n b x a) e
  |.sm a=>bW b "sum" (λx=>aG T n b x a) e
  |.rev a=>R8 (λx=>aG T n b x a) e
  |.mnN a=>KN b (λx=>aG T n b x a) e
  |.mx a c=>xi b "max" (λE=>fo T n b E [a,c]) e
  |.mn a c=>xi b "min" (λE=>fo T n b E [a,c]) e
  |.rep a=>bW b "repr" (λx=>aG T n b x a) e
  |.comp own elt cls=>clC cls λq I cond j=>KP (λu t i ifs gs h=>cmB own (nZ own b.N) b.N h b.sc && uC T n b t i I && xh (b.inner own h) t q && Dp (fI T n (b.inner own h)) ifs cond && qB T n (b.inner own h) u gs elt j) e
  |.app o a=>xk "append" (λx=>aG T n b x o) (λE=>fo T n b E [a]) e
  |.pop o=>xk "pop" (λx=>aG T n b x o) (λE=>E.isEmpty) e
  |.popAt o a=>xk "pop" (λx=>aG T n b x o) (λE=>fo T n b E [a]) e
  |.ins o i a=>xk "insert" (λx=>aG T n b x o) (λE=>fo T n b E [i,a]) e
  |.cnt o a=>xk "count" (λx=>aG T n b x o) (λE=>fo T n b E [a]) e
  |.idx o a=>xk "index" (λx=>aG T n b x o) (λE=>fo T n b E [a]) e
  |.tupR a=>bW b "tuple" (bW b "range" λx=>aG T n b x a) e
  |.dcO a=>bW b "dict" (λx=>aG T n b x a) e
noncomputable def fo(T:Tab):Nat->Blk->List Expr->List CE->Bool
 |0,_,_,_=>aS
 |n+1,b,E,cs=>match cs with
  |[]=>E.isEmpty
  |c::cs=>lC E λe E=>aG T n b e c && aF e && fo T n b E cs
noncomputable def qB(T:Tab):Nat->Blk->Expr->List W9->CE->List Cl->Bool
 |0,_,_,_,_,_=>aS
 |n+1,b,e,gs,elt,cls=>match cls with
  |[]=>gs.isEmpty && aG T n b e elt
  |⟨tg,it,cond⟩::rest=>lC gs λg gs=>decide (g.is_async=0) && uC T n b g.target g.iter it && xh b g.target tg && Dp (fI T n b) g.ifs cond && qB T n b e gs elt rest
noncomputable def uC(T:Tab):Nat->Blk->Expr->Expr->CI->Bool
 |0,_,_,_,_=>aS
 |n+1,b,t,e,c=>match c with
  |.val a=>aG T n b e a && aF e
  |.r1 a=>bW b "range" (λx=>aG T n b x a) e
  |.dn a=>sDn b (λx=>aG T n b x a) e
  |.dk a=>aG T n b e a && aF e
  |.r2 a c=>xj b "range" (λx=>aG T n b x a) (λx=>aG T n b x c) e
  |.en a=>bW b "enumerate" (λx=>aG T n b x a) e && Nb (λ_=>aN) t
noncomputable def fI(T:Tab):Nat->Blk->Expr->CE->Bool
 |0,_,_,_=>aS
 |n+1,b,e,c=>match c with
  |.cmp o a c=>Ng o.op (λx=>aG T n b x a) (λx=>aG T n b x c) e
  |.chn o p a c d=>Nh o.op p.op (λx=>aG T n b x a) (λx=>aG T n b x c) (λx=>aG T n b x d) e
  |.and a c=>Df .And (λx=>fI T n b x a) (λx=>fI T n b x c) e || Dg .And (λx=>fI T n b x a) (λx=>fI T n b x c) e
  |.or a c=>Df .Or (λx=>fI T n b x a) (λx=>fI T n b x c) e || Dg .Or (λx=>fI T n b x a) (λx=>fI T n b x c) e
  |.not a=>Nc (λx=>fI T n b x a) e
  |.ite _ _ _=>aS
  |c=>aG T n b e c && M9 e
end
def ia{T:Tab}{n:Nat}{b:Blk}{t e:Expr}{c:CI}(h:uC T n b t e c=aN)(d:∀e,aF e=aN->∀env x,Zaq e env x=pure x):∀env x,Zaq e env x=pure x:=by
 cases n with
 |zero=>cases h
 |succ n=>
  cases c with
  |val a=>&d e (an2 h).2
  |dk a=>&d e (an2 h).2
  |r1 a=>#{x,p,q,rfl,_}:=aW h;intro _ _;rfl
  |dn a=>#{x,p,q,l,f,r2,j,u,k,rfl,_}:=KR h;intro _ _;rfl
  |r2 a c=>#{x,y,p,q,rfl,_}:=n9 h;intro _ _;rfl
  |en a=>#{x,p,q,rfl,_}:=aW (an2 h).1;intro _ _;rfl
structure CtxOk(T:Tab)(C:Calls)(ar:Nat->Nat)(k:Nat)(b:Blk)(X:Cx):Prop where
 calm:X.calm=aN
 xe:X.xe=λ_ _=>False
 hN:X.N=b.N
 hs:X.env.scope=b.sc
 nd:b.N.Nodup
 fn:∀x,(match b.fs with |none=>aN |some sc=>sc.names.lookup x == aw .cell)=aN->X.fn x=aN
 room:Room k X.A
 con:∀ (i:Nat) (x:Str) (v:Int),T.con[i]?=aw (x,v)->∃tk,X.mg x=aw (.int v tk)
 bl:∀x,x ∈ gA->X.mg x=aD
 fns:∀ (i:Nat) (y:Str × Nat),T.fns[i]?=aw y->ar i=y.2/\∃f fd ps,X.mg y.1=aw (.ref f)/\V9 X.K (.ref f)=aN/\pZ X.K fd ps []/\FnOk X.prog X.w X.K X.mg X.base CX0 k f fd ps (spC X.K (C i) (ar i))
section
variable {T:Tab} {C:Calls} {ar:Nat->Nat} {k:Nat} {b:Blk} {X:Cx}
def am{e:Expr}{E:List Expr}{env:Env}(h:aF e=aN):ZaQ (e::E) env=(aS,eval e env)::ZaQ E env:=by
 cases e <;> first |rfl |(&absurd h Zh)
def uD{e:Expr}(h:aF e=aN):yc e:=by
 intro o i;cases e <;> first |rfl |(&absurd h Zh)
def iW{e:Expr}{op:CmpOp}(h:aF e=aN):OS op e=aS:=by
 cases e <;> first |rfl |(&absurd h Zh)
def oe{e f:Expr}{op O:CmpOp}(h:aF e=aN):lastMarks [op,O] [f,e]=aS:=by
 show OS O e=aS;&iW h
def fJ{e:Expr}{env:Env}(h:aF e=aN):∀x,Zaq e env x=pure x:=by
 intro x;cases e <;> first |rfl |(&absurd h Zh)
def cF{e:Expr}{m:Str}{env:Env}{w:Sem Value}(h:xg e=aN):ON e m env w=w:=by
 cases e with
 |Call f c ks p=>
  cases f with
  |Name x q=>
   cases c with
   |nil=>cases ks with |nil=>&absurd h Zh |cons _ _=>rfl
   |cons _ _=>rfl
  |_=>rfl
 |_=>first |rfl |(&absurd h Zh)
def xm{e:Expr}{env:Env}(h:M9 e=aN):∀c,isTrue e env c=(do let v <-c;standAt e.pos;holding [v] (truthy v)):=by
 intro c;cases e with
 |UnaryOp op x p=>cases op <;> first |rfl |(&absurd h Zh)
 |_=>first |rfl |(&absurd h Zh)
def kC{E:List Expr}{env:Env}{p:Pos}(h:∀e ∈ E,aF e=aN):(backTo p (ZaQ E env)).any (·.1)=aS:=by
 induction E with
 |nil=>rfl
 |cons e E I=>
  rw[am (h e Zj)];show(aS || (backTo p (ZaQ E env)).any (·.1))=aS;rw[I λe c=>h e (Zg _ c)];rfl
def bz:∀ {n:Nat} {E:List Expr} {d:List CE},fo T n b E d=aN->∀e ∈ E,aF e=aN
 |0,_,_,h=>absurd h Zh
 |n+1,E,[],h=>λx hx=>by rw[fH h] at hx;cases hx
 |n+1,E,c::d,h=>by
  #{e,E,rfl,h}:=fk h;#{_,f,h}:=an3 h;intro x hx;rcases Zn.mp hx with rfl |hx
  ·&f
  ·&bz h x hx
def CtxOk.gl(G:CtxOk T C ar k b X){x:Str}(h:b.glo x=aN):Gl X x/\(x == ("__debug__" : Str))=aS:=by
 unfold Blk.glo at h;rw[bAE] at h;~{?_,by simpa using h.2};show X.env.scope.names.lookup x=_;rw[G.hs]
 simpa using h.1
def CtxOk.vis(G:CtxOk T C ar k b X){x:Str}(h:b.vis x=aN):Vis X.env.scope x/\(x == ("__debug__" : Str))=aS/\(x == ("__classdict__" : Str))=aS:=by
 unfold Blk.vis at h;rw[bAE,bAE] at h;~{?_,by simpa using h.1.2,by simpa using h.2};unfold Vis;rw[G.hs];!c:=h.1.1;split at c
 ·rename_i e;&.inl e
 ·rename_i e;&.inr (.inl e)
 ·rename_i e;&.inr (.inr e)
 ·cases c
def CtxOk.own(G:CtxOk T C ar k b X){x:Str}(h:b.own x=aN):L2.Loc X.env.scope x/\(X.fn x=aN\/X.env.scope.names.lookup x=aw .local):=by
 unfold Blk.own at h;unfold L2.Loc;rw[G.hs];split at h
 ·rename_i e;&{.inl e,.inr e}
 ·rename_i e;~{.inr e,.inl (G.fn x ?_)};cases c:b.fs with
  |none=>rfl
  |some sc=>rw[c] at h;&h
 ·cases h
def CtxOk.inner(G:CtxOk T C ar k b X){own:List Str}{c:Scope}(S:CmScope own (nZ own b.N) b.N c b.sc){C':Addr}{ex:List Addr}{s:Shared}{H:Hp}:CtxOk T C ar k (b.inner own c) (cxC X own (nZ own b.N) c C' ex s H):=
 ⟨G.calm,rfl,by show dF (nZ own b.N) X.N++own=_;rw[G.hN];rfl,by show gf c X.env.scope=_;rw[G.hs];rfl,S.nd,λx h=>h,G.room,G.con,G.bl,G.fns⟩
def qC{e:Expr}{E:List Expr}{env:Env}(h:aF e=aN):Os (e::E) env=(aS,assign e env)::Os E env:=by
 cases e <;> first |rfl |(&absurd h Zh)
mutual
theorem ib(G:CtxOk T C ar k b X):∀ {e:Expr} {t:Tg},xh b e t=aN->PG X e (tTg X.K t)
 |e,.name i,h=>by
  #{r,c,h}:=AJ h;#{j,l}:=an2 h;rw[sg c];!o:=G.own l;&PG.imp (FL (i:=i) (x:=r.1) (by rw[G.hN];&G.nd) (by rw[G.hN];&eq_of_beq j) o.1 o.2) λx f H Q q=>rY q
 |e,.tup ts,h=>by
  #{r,c,h}:=AJ h;rw[si c];!d:=qD h;&PG.imp (LJ G.calm (uE G h) rfl d.2) λx f H Q q=>MM d.1 q
theorem uE(G:CtxOk T C ar k b X):∀ {E:List Expr} {c:List Tg},n4 b E c=aN->PGs X E (Cz X.K c)
 |E,[],h=>by
  rw[fH h];&PGs.imp FM λx d H Q q=>GI q
 |E,t::c,h=>by
  #{e,E,rfl,h}:=fk h;#{f,j,h}:=an3 h;&PGs.imp (Bx (ib G f) (uE G h) (by rw[qC j];rfl)) λx d H Q q=>CA q
theorem qD:∀ {E:List Expr} {c:List Tg},n4 b E c=aN->(Os E X.env).length=c.length/\(Os E X.env).findIdx? (·.1)=aD
 |E,[],h=>by
  rw[fH h];&{rfl,rfl}
 |E,t::c,h=>by
  #{e,E,rfl,h}:=fk h;#{f,d,h}:=an3 h;!I:=qD h;rw[qC d];~{congrArg (·+1) I.1,?_};rw[List.findIdx?_cons];simp[I.2]
end
end
structure Snd(T:Tab)(C:Calls)(ar:Nat->Nat)(k n:Nat):Prop where
 e:∀ (b:Blk) (X:Cx) (e:Expr) (c:CE),CtxOk T C ar k b X->aG T n b e c=aN->PE X e (tE X.K (evE C ar n c))
 tm:∀ (b:Blk) (X:Cx) (e:Expr) (c:CE),CtxOk T C ar k b X->ai c=aN->aG T n b e c=aN->PE X e (jx X.K (dH C ar n c))
 a:∀ (b:Blk) (X:Cx) (es:List Expr) (cs:List CE),CtxOk T C ar k b X->fo T n b es cs=aN->PA X es (tAr X.K (evA C ar n cs))
 t:∀ (b:Blk) (X:Cx) (e:Expr) (c:CE),CtxOk T C ar k b X->fI T n b e c=aN->PT X e (tT X.K (evT C ar n c))
 i:∀ (B:List Addr) (b:Blk) (X:Cx) (t e:Expr) (c:CI),CtxOk T C ar k b X->uC T n b t e c=aN->PI X t e (tIt X.K B (evI C ar n c))
 cl:∀ (b:Blk) (X:Cx) (e:Expr) (gs:List W9) (elt:CE) (cls:List Cl),CtxOk T C ar k b X->qB T n b e gs elt cls=aN ->
  ∀ (gens:List W9) (scope:Scope) (pos:Pos) (acc:Addr) (d:Nat),gens.drop (d+1)=gs->PTl X e gens scope pos acc d (tCl X.K acc (im C ar n elt cls))
section
variable {T:Tab} {C:Calls} {ar:Nat->Nat} {k n:Nat} {b:Blk} {X:Cx}
def fq{e:Expr}{E:List Expr}{c:TE}{t:TA}(h:PE X e c)(f:PA X E t)(d:aF e=aN):PA X (e::E) (cf c t):=l9 h f (am d)
def Sh(I:Snd T C ar k n)(E:List Expr)(d:List CE)(G:CtxOk T C ar k b X)(h:fo T (n+1) b E d=aN):PA X E (tAr X.K (evA C ar (n+1) d)):=by
 cases d with
 |nil=>rw[fH h];&PA.imp rc λf H Q q=>Mo q
 |cons c d=>
  #{e,E,rfl,h}:=fk h;#{j,l,h}:=an3 h;&PA.imp (fq (I.e b X e c G j) (I.a b X E d G h) l) λf H Q q=>Gh q
def cq{e:Expr}{c:TE}(h:PE X e c)(d:aF e=aN):PA X [e] (cf c jl):=fq h rc d
def dY{x:Str}{id:String}{e:Expr}{d:TE}{r:V->Hp->VK->Prop}{p c:Pos}(v:aV X (.builtin id) (r1 r))(G:CtxOk T C ar k b X)(j:b.glo x=aN)(hb:x ∈ gA)(u:Zaa x=aw (.builtin id))(l:x ≠ "__name__")(h:PE X e d)(f:aF e=aN) :
  PE X (.Call (.Name x p) [e] [] c) (tUn r d):=
 PE.imp (f9 v (G.gl j).1 (G.bl x hb) u (cq h f) l (G.gl j).2 (am f) rfl) λy H Q q=>q
def yG{x:Str}{id:String}{e:Expr}{d:TE}{r:V->Hp->VK->Prop}{p c:Pos}(v:aV X (.type id) (r1 r))(G:CtxOk T C ar k b X)(j:b.glo x=aN)(hb:x ∈ gA)(u:Zaa x=aw (.type id))(l:x ≠ "__name__")(h:PE X e d)(f:aF e=aN) :
  PE X (.Call (.Name x p) [e] [] c) (tUn r d):=
 PE.imp (fe v (G.gl j).1 (G.bl x hb) u (cq h f) l (G.gl j).2 (am f) rfl) λy H Q q=>q
def fK{x:Str}{e:Expr}{a:CE}{f:Bool->List D->Sto->Option (D × Sto)}{ks:List Keyword}{p c:Pos}(I:Snd T C ar k n)(G:CtxOk T C ar k b X)(j:∀d:TE,PE X e d->PE X (.Call (.Name x p) [e] ks c) (tUn (rSq X.K f) d))(h:aG T n b e a=aN) :
  PE X (.Call (.Name x p) [e] ks c) (tE X.K (if ai a=aN then lW f (dH C ar n a) else lX f (evE C ar n a))):=by
 split
 ·rename_i u;&PE.imp (j _ (I.tm b X e a G u h)) λl H Q q=>Mm q
 ·&PE.imp (j _ (I.e b X e a G h)) λl H Q q=>Mq q
def yH{x y:Str}(h:(x == y)=aN):x=y:=eq_of_beq h
def mj{K:VY}{x:XE}{j:L2.St}{H:Hp}{Q Q':VK}(h:tE K x j H Q)(f:∀v c,Q v c->Q' v c):tE K x j H Q':=by
 #{m,p,S,d,l,E,R,e,q}:=h;&{m,p,S,d,l,E,R,e,λu c v A vd=>f _ _ (q u c v A vd)}
abbrev ifT(C:Calls)(ar:Nat->Nat)(n:Nat)(K:VY):Option CE->TT
 |none=>F3
 |some c=>tT K (evT C ar n c)
def oh(I:Snd T C ar k n)(G:CtxOk T C ar k b X){ifs:List Expr}{cond:Option CE}(h:Dp (fI T n b) ifs cond=aN):PTs X ifs (ifT C ar n X.K cond):=by
 cases cond with
 |none=>rw[fH h];&F4
 |some c=>#{e,rfl,h}:=iV h;&F5 (I.t b X e c G h)
def xn{K:VY}{cond:Option CE}{d:Addr}{c:XA}{D:Ends}{f:L2.St}{H:Hp}(q:tCl K d (cnd (evT C ar n) cond c) D f H):fX (ifT C ar n K cond) (tCl K d c) D f H:=by
 cases cond with
 |none=>&MR q
 |some c=>&GO q
def uF(I:Snd T C ar k n)(G:CtxOk T C ar k b X){l:Option Expr}{lo:Option CE}(h:Dn (aG T n b) l lo=aN):PO X l (tOI X.K (opt (evE C ar n) lo)):=by
 cases lo with
 |none=>
  cases l with
  |none=>&PO.imp FW λd H Q q=>Gp q
  |some _=>cases h
 |some c=>#{e,rfl,h}:=AJ h;&PO.imp (x9 (I.e b X e c G h)) λd H Q q=>Gq q
def Nq(J:Snd T C ar k n)(e:Expr)(gs:List W9)(E:CE)(v:List Cl)(G:CtxOk T C ar k b X)(h:qB T (n+1) b e gs E v=aN)(c:List W9)(j:Scope)(p:Pos)(l:Addr)(d:Nat)(hd:c.drop (d+1)=gs) :
  PTl X e c j p l d (tCl X.K l (im C ar (n+1) E v)):=by
 !imp:∀ {t t':TS},PTl X e c j p l d t->(∀D u H,t' D u H->t D u H)->PTl X e c j p l d t':=λh f B s u H D I q=>h B s u H D I (f D u H q);cases v with
 |nil=>
  #{O,h}:=an2 h;cases fH O
  !L:c[d+1]?=aD:=by
   !:=congrArg Zl hd;simp at this;&Z3.mpr (by omega)
  &imp (BU G.xe L (J.e b X e E G h)) λD u H q=>GN q
 |cons g y=>
  #{tg,Z,cond}:=g;#{⟨t,i,ifs,as⟩,gs',rfl,h}:=fk h;#{O,Y,h2,h3,h4}:=an5 h;cases of_decide_eq_true O
  !L:c[d+1]?=aw ⟨t,i,ifs,0⟩:=by
   !:=congrArg (·[0]?) hd
   simpa using this
  !Q:c.drop (d+1+1)=gs':=by
   !:=congrArg (Yr 1) hd
   simpa[List.drop_drop] using this
  !U:=ia Y (λe he env=>fJ he) X.env;&imp (F6 L (J.i [l] b X t i Z G Y) (ib G h2) (oh J G h3) (J.cl b X e gs' E y G h4 c j p l (d+1) Q) G.xe G.calm U) λD u H q=>CK (λD u H z=>xn z) q
def Si(I:Snd T C ar k n)(B:List Addr)(t e:Expr)(c:CI)(G:CtxOk T C ar k b X)(h:uC T (n+1) b t e c=aN):PI X t e (tIt X.K B (evI C ar (n+1) c)):=by
 cases c with
 |val a=>
  !h:=an2 h;show PI X t _ (tIt X.K B (if ai a=aN then xIT (dH C ar n a) else xIV (evE C ar n a)));split
  ·rename_i v;&PI.imp (xZ (I.tm b X _ a G v h.1)) λd H R q=>UI q
  ·&PI.imp (PI.or (xZ (I.e b X _ a G h.1)) (LN (I.e b X _ a G h.1))) λd H R q=>UH q
 |r1 a=>
  #{x,p,q,rfl,f,j,h4}:=aW h;&PI.imp (zI (G.gl f).1 (G.bl _ (by decide)) (cq (I.e b X x a G j) h4) (am h4)) λd H R q=>RN q
 |dk a=>&PI.imp (G4 (I.e b X _ a G (an2 h).1)) λd H R q=>RX q
 |dn a=>
  #{x,p,q,J,O,r2,Y,Z,U,rfl,f,j,h4}:=KR h;!m1:∀ {n p r},PE X (.UnaryOp .USub (.Constant (.int 1) n p) r) (tC (.int (-1))):=λ{n p r}=>PE.imp (x5 rb mJ) λd H Q q=>⟨1,rfl,q⟩;&PI.imp (RT (G.gl f).1 (G.bl _ (by decide)) (fq (I.e b X x a G j) (fq m1 (cq m1 rfl) rfl) h4) (am h4) rfl) λd H R q=>RU q
 |r2 a c=>
  #{x,y,p,q,rfl,f,j,h4,u,l}:=n9 h;&PI.imp (zJ (G.gl f).1 (G.bl _ (by decide)) (fq (I.e b X x a G j) (cq (I.e b X y c G u) l) h4) (by rw[am h4,am l];rfl) (am l)) λd H R q=>RO q
 |en a=>
  !h:=an2 h;#{x,p,q,rfl,f,j,h4}:=aW h.1;#{E,z,L,rfl,_}:=Di h.2;&PI.imp (Me (G.gl f).1 (G.bl _ (by decide)) (cq (I.e b X x a G j) h4) (am h4)) λd H R q=>RM q
end
section
variable {T:Tab} {C:Calls} {ar:Nat->Nat} {k n:Nat} {b:Blk} {X:Cx}
def fu{k:Nat}{A:Around}(r:Room k A):A.units+64 < cLine:=r.units
def jF(K:VY)(m:List Addr)(H:Hp):∀l:List Nat,VDs K m H (l.map λj=>D.int (Int.ofNat j)) (l.map λ(j:Nat)=>V.int j)
 |[]=>by rw[Z0,Z0,VDs]
 |a::l=>by rw[Zy,Zy,VDs];&{_,_,rfl,bg,jF K m H l}
def Hd{K:VY}{m:List Addr}{H:Hp}{S:Sto}{p:Addr}{ks:List (List NK)}{d:List D}{v:List V}{Q:VK}(R:Rel K m S H)(h:H p=aD)(vd:VDs K m H d v)(l:ks.length=d.length)(q:∀f c u,Aft K m H (S++[.dic ks d]) f c->VD K f c (.ref S.length) u->Q u c):Q (.ref p) (upd H p (.dT (ks.zip v))):=by
 !x:=Ext.beside R h (.dT (ks.zip v));!j:=R.beside h (.dT (ks.zip v));~q (m++[p]) _ _ ⟨x.adopt h,?_⟩ ?_
 ·&j.adoptP (R.no h) (ob:=.dic ks d) ⟨v,az,l,VDs.mono0 (YA m [p]) (λ_ _ t=>t) (vd.mono R x)⟩
 ·rw[VD];&{p,by rw[Zp (by rw[R.len];&Zf _),R.len,ZY];rfl,rfl}
def oj{E:List Expr}{a:CE}(h:fo T n b E [a]=aN):∃y,E=[y]:=by
 cases n with
 |zero=>&absurd h Zh
 |succ n=>
  #{e,E,rfl,h}:=fk h;!h:=(an2 h).2;cases n with
  |zero=>&absurd h Zh
  |succ n=>cases fH h;&{e,rfl}
def He(I:Snd T C ar k n){own:List Str}{E:CE}{l:Tg}{it:CI}{cond:Option CE}{d:List Cl}{e t i:Expr}{ifs:List Expr}{gs:List W9}{c:Scope}{p:Pos}(G:CtxOk T C ar k b X)
  (v:cmB own (nZ own b.N) b.N c b.sc=aN) (u:uC T n b t i it=aN) (J:xh (b.inner own c) t l=aN) (O:Dp (fI T n (b.inner own c)) ifs cond=aN) (h4:qB T n (b.inner own c) e gs E d=aN) :
  PE X (.ListComp e (⟨t,i,ifs,0⟩::gs) c p) (jx X.K (nQ own.length (evI C ar n it) l (cnd (evT C ar n) cond (im C ar n E d)) LF)):=by
 !S:CmScope own (nZ own b.N) b.N c b.sc:=B5 _ v;!y:CmScope own (nZ own b.N) X.N c X.env.scope:=by rw[G.hN,G.hs];&S
 !j:=ia u (λe L env=>fJ L) X.env
 ~PE.imp (F7 (g:=tTg X.K l) (ti:=ifT C ar n X.K cond) (t:=λf=>tCl X.K f (im C ar n E d)) G.calm y (I.i [] b X t i it G u) (λh ex s H=>ib (G.inner S (C':=h) (ex:=ex) (s:=s) (H:=H)) J) (λh ex s H=>oh I (G.inner S (C':=h) (ex:=ex) (s:=s) (H:=H)) O)
  (λh ex s H f=>I.cl _ _ e gs E d (G.inner S (C':=h) (ex:=ex) (s:=s) (H:=H)) h4 _ c p f 0 rfl) j) λB H Q q=>?_
 &yv (λf D B H z=>xn z) q
def Nt{x:XE}{O:L2.St}{H:Hp}{Q:VK}{K:VY}(h:jx K (AH x) O H Q):tE K x O H λv c=>∃i:Nat,v = .int i/\i<=1000/\∀p,c p=aD->∀l,upd c p (.rng 0 i) l=aD->Q (.ref l) (upd (upd c p (.rng 0 i)) l (.lst ((Zi i).map λ(j:Nat)=>V.int j))):=by
 #{m,ρ,S,ds,L,E,R,e,q}:=h;#{d,S1,e1,e}:=ac e;cases d with
 |int i=>
  dsimp only at e;split at e
  ·rename_i hi;cases e;~{m,ρ,S,.int i,_,E,R,e1,λm1 c v f vd=>⟨i.toNat,by rw[vd.ints];congr 1;lia,by lia,λp I l u=>?_⟩};!B:Aft K m1 c L m1 (upd c p (.rng 0 i.toNat)):=⟨Ext.beside f.rel I _,f.rel.beside I _⟩;!A3:Aft K m1 (upd c p (.rng 0 i.toNat)) L m1 (upd (upd c p (.rng 0 i.toNat)) l (.lst ((Zi i.toNat).map λ(j:Nat)=>V.int j))):=⟨Ext.beside B.rel u _,B.rel.beside u _⟩;!y:l ∉ m1:=B.rel.no u
   !U:c l=aD:=by
    cases J:c l with
    |none=>rfl
    |some o=>rw[(Ext.beside f.rel I (.rng 0 i.toNat)).keep l o J y] at u;cases u
   !Z:H l=aD:=by
    cases J:H l with
    |none=>rfl
    |some o=>
     by_cases Y:l ∈ m
     ·&absurd (f.ext.pre.subset Y) y
     ·rw[f.ext.keep l o J Y] at U;cases U
   ~q m1 _ l _ (f.trans (B.trans A3)) az y (λb hb z=>y (z ▸ f.ext.pre.subset hb)) Z ?_;&jF _ _ _ _
  ·cases e
 |_=>cases e
def Hf{c:L2.St}{H:Hp}{Q:VK}{K:VY}(h:tE K C5 c H Q):B2 c H Q:=by
 #{m,j,S,d,l,E,R,e,q}:=h;cases e;exactλp f=>Hd R f (show VDs K m H [] [] by rw[VDs]) rfl q
def Nu{f:Bool->List D->Option (List D)}{x:XE}{u:L2.St}{H:Hp}{Q:VK}{K:VY}(h:jx K (AG f x) u H Q):tUn (rTm K f) (tE K x) u H Q:=by
 #{m,I,S,ds,S',E,R,e,q}:=h;#{d,O,e1,e}:=ac e;cases hi:ay d O with
 |none=>rw[hi] at e;cases e
 |some r=>
  rw[hi] at e;dsimp only at e;cases j:f r.1 r.2 with
  |none=>rw[j] at e;cases e
  |some es=>
  rw[j] at e;cases e;~{m,I,S,d,_,E,R,e1,λm1 H1 v c vd=>?_};#{a,vs,ev,sq,vds}:=gm (tu:=r.1) (ds:=r.2) c.rel vd hi;~{m1,_,r.1,r.2,a,vs,ds,c.rel,ev,sq,vds,j,λL U p ws J z Z l n3 vw=>?_}
  !B:H p=aD:=by
   cases Y:H p with
   |none=>rfl
   |some o=>
    by_cases y:p ∈ m
    ·&absurd rfl (l p (c.ext.pre.subset y))
    ·!:=c.ext.keep p o Y y;rw[n3] at this;cases this
  &q L U p ws (c.trans J) z Z (λb hb=>l b (c.ext.pre.subset hb)) B vw
def Nv{f:Bool->List D->Option (List D)}{x:XA}{u:L2.St}{H:Hp}{Q:VK}{K:VY}(h:jx K (AF f x) u H Q):tUn (rTm K f) (jx K x) u H Q:=by
 #{m,L,S,I,S',E,R,e,q}:=h;#{d,S1,e1,e}:=ac e;cases j:f aS d with
 |none=>rw[j] at e;cases e
 |some es'=>
 rw[j] at e;cases e;~{m,L,S,d,_,E,R,e1,λm1 H1 a v c J na _ _ vd=>?_};~{m1,_,aS,d,a,v,I,c.rel,rfl,show SqL K H1 a v from SqL.of J,vd,j,λU Y p ws O z n1 l n3 vw=>?_}
 !B:H p=aD:=by
  cases Z:H p with
  |none=>rfl
  |some o=>
   by_cases y:p ∈ m
   ·&absurd rfl (l p (c.ext.pre.subset y))
   ·!:=c.ext.keep p o Z y;rw[n3] at this;cases this
 &q U Y p ws (c.trans O) z n1 (λb hb=>l b (c.ext.pre.subset hb)) B vw
def Dq(I:Snd T C ar k n)(e:Expr)(c:CE)(G:CtxOk T C ar k b X)(J:ai c=aN)(h:aG T (n+1) b e c=aN):PE X e (jx X.K (dH C ar (n+1) c)):=by
 cases c with
 |lst cs=>
  #{Z,p,rfl,u}:=Nj h;&PE.imp (L0 (I.a b X Z cs G u)) λB H Q q=>Gi q
 |listR a=>
  #{x,p,q,rfl,d,j,h4}:=aW h;#{y,p',q',rfl,L,h6,O}:=aW j
  &PE.imp (fe (rq G.calm) (G.gl d).1 (G.bl _ (by decide)) WY (cq (fe kT (G.gl L).1 (G.bl _ (by decide)) W1 (cq (I.e b X y a G h6) O) (by decide) (G.gl L).2 (am O) rfl) h4) (by decide) (G.gl d).2 (am h4) rfl) λB H Q q=>mj (Nt q) λv H1 ⟨i,ev,hi,z⟩=>by
    subst ev;&{i,rfl,λp Y=>⟨p,i,rfl,az,hi,λl hl=>z p Y l hl⟩}
 |srt a=>
  #{x,p,q,rfl,d,j,h4}:=aW h;show PE X _ (jx X.K (if ai a=aN then AF cT (dH C ar n a) else AG cT (evE C ar n a)));split
  ·rename_i J;&PE.imp (dY (qz (fu G.room)) G d (by decide) W2 (by decide) (I.tm b X x a G J j) h4) λB H Q q=>Nv (f:=cT) q
  ·&PE.imp (dY (qz (fu G.room)) G d (by decide) W2 (by decide) (I.e b X x a G j) h4) λB H Q q=>Nu (f:=cT) q
 |comp own elt cls=>
  #{tg,it,cond,U,rfl,hc}:=KS h;#{el,t,i,ifs,gs,E,p,rfl,u}:=yF hc;#{h0,h1,d,j,h4}:=an5 u;&He I G h0 h1 d j h4
 |_=>cases J
def mq{y:Expr}{p:Pos}(h:aF y=aN):((backTo p (ZaQ [y] X.env)).all (λx=>!x.1) && (OR p (Zau [] X.env)).all (λx=>x.1.isSome) && decide (([y]:List Expr).length+([]:List Keyword).length+(if ([]:List Keyword).isEmpty then 0 else 1) < 30))=aN:=by
 rw[am h];rfl
def Nw{E:List Expr}{a c:CE}(h:fo T n b E [a,c]=aN):∃y z,E=[y,z]:=by
 cases n with
 |zero=>&absurd h Zh
 |succ n=>
  #{e,E,rfl,h}:=fk h;#{z,rfl}:=oj (an2 h).2;&{e,z,rfl}
def Sj(I:Snd T C ar k n)(e:Expr)(c:CE)(G:CtxOk T C ar k b X)(h:aG T (n+1) b e c=aN):PE X e (tE X.K (evE C ar (n+1) c)):=by
 !hu:=fu G.room
 !tmp:ai c=aN->evE C ar (n+1) c=fF (dH C ar (n+1) c)->PE X e (tE X.K (evE C ar (n+1) c)):=λht he=>by
  rw[he];&PE.imp (Dq I e c G ht h) λL H Q q=>ud q
 cases c with
 |non=>#{_,_,rfl}:=Dh h;&PE.imp Bo λL H Q q=>Cd (λ_ _=>kh) q
 |bl v=>#{_,_,rfl}:=Se h;&PE.imp Q4 λL H Q q=>Cd (λ_ _=>cp) q
 |int v=>#{_,_,rfl}:=ku h;&PE.imp mJ λL H Q q=>Cd (λ_ _=>bg) q
 |str v=>#{_,_,rfl}:=Ni h;&PE.imp Lz λL H Q q=>Cd (λ_ _=>nh) q
 |var i=>
  #{x,p,rfl,hh}:=sj h;!hh:=an2 hh;!v:=G.vis hh.2;&PE.imp (v5 (i:=i) (by rw[G.hN];&eq_of_beq hh.1) v.1 v.2.1 v.2.2) λL H Q q=>Mn q
 |con k' v=>
  #{x,p,rfl,hh}:=sj h;!hh:=an2 hh;!g:=G.gl hh.2;#{tk,hm}:=G.con k' x v (eq_of_beq hh.1);&PE.imp (FF (v:=.int v) g.1 hm ⟨tk,rfl⟩ g.2) λL H Q q=>Cd (λ_ _=>bg) q
 |tup cs=>#{Y,_,_,rfl,hh}:=Di h;&PE.imp (BJ (I.a b X Y cs G hh)) λL H Q q=>Mp q
 |lst cs=>&tmp rfl rfl
 |dic0=>#{p,rfl}:=Hc h;&PE.imp B3 λL H Q q=>Hf q
 |bin o a U=>#{l,r,p,rfl,B,E}:=Nk h;&PE.imp (Ri (Go o) (I.e b X l a G B) (I.e b X r U G E)) λL H Q q=>rD q
 |neg a=>#{x,p,rfl,hh}:=n6 h;&PE.imp (x5 GP (I.e b X x a G hh)) λL H Q q=>Cb q
 |cmp o a U=>#{l,r,p,rfl,B,E,h4}:=Dk h;&PE.imp (FP (hY hu o) (I.e b X l a G B) (I.e b X r U G E) (iW h4)) λL H Q q=>rD q
 |chn o Z a U d=>#{l,r,s,p,rfl,B,E,h4,O}:=Dm h;&PE.imp (BG (hY hu o) (hY hu Z) (I.e b X l a G B) (I.e b X r U G E) (I.e b X s d G h4) (oe O)) λL H Q q=>CN q
 |and a U=>
  rcases De h with h |h
  ·#{x,y,p,rfl,h1,B}:=sr h;&PE.imp (Bs (I.e b X x a G h1) (Bq (I.e b X y U G B))) λL H Q q=>CM q
  ·#{x,y,z,ys,p,rfl,h1,B}:=su h;&PE.imp (Bs (I.e b X x a G h1) (I.e b X _ U G B)) λL H Q q=>CM q
 |or a U=>
  rcases De h with h |h
  ·#{x,y,p,rfl,h1,B}:=sr h;&PE.imp (Ke (I.e b X x a G h1) (Bq (I.e b X y U G B))) λL H Q q=>Ky q
  ·#{x,y,z,ys,p,rfl,h1,B}:=su h;&PE.imp (Ke (I.e b X x a G h1) (I.e b X _ U G B)) λL H Q q=>Ky q
 |not a=>#{x,p,rfl,hh}:=Dj h;&PE.imp (LC (I.e b X x a G hh)) λL H Q q=>MV q
 |ite t a U=>#{x,y,z,p,rfl,h1,B,E}:=Nm h;&PE.imp (Bt (I.t b X x t G h1) (I.e b X y a G B) (I.e b X z U G E)) λL H Q q=>MW q
 |ix a U=>
  #{x,y,p,rfl,h1,B,E}:=Sf h;show PE X _ (tE X.K (if ai a=aN then wD (dH C ar n a) (evE C ar n U) else uc ixS (evE C ar n a) (evE C ar n U)));split
  ·rename_i ht;&PE.imp (Kr BO (I.tm b X x a G ht h1) (I.e b X y U G B) (uD E)) λL H Q q=>MA q
  ·&PE.imp (Kr (UE hu) (I.e b X x a G h1) (I.e b X y U G B) (uD E)) λL H Q q=>rD q
 |sl a lo hi=>#{x,y,z,p,Z,rfl,h1,B,E}:=Sg h;&PE.imp (BM UF (I.e b X x a G h1) (uF I G B) (uF I G E)) λL H Q q=>RG q
 |call f cs=>
  #{x,e,Y,p,Z,rfl,h12,E}:=G9 (k:=λx=>oA T.fns[f]? (λy=>y.1 == x) && b.glo x) (l:=λY=>fo T n b Y cs) (e:=e) h;#{h1,B}:=an2 h12
  ·#{y,hy,h1}:=AJ h1;!hx:=yH h1;subst hx;#{ha,fa,fd,ps,hm,hk,hb,F}:=G.fns f y hy;!J:=bz E;!g:=G.gl B;&PE.imp (FT F G.room g.1 hm hk hb .nil Ry (I.a b X (e::Y) cs G E) g.2 (am (J e Zj)) (kC λe he=>J e (Zg _ he))) λL H Q q=>GQ q
 |inst t a=>
  #{x,y,p,Z,rfl,B,O,h6,h7,_}:=n9 h;#{y,p'',rfl,h8}:=sj h7;#{E,h4}:=an2 h8;!hy:=yH E;subst hy
  !ty:PE X (.Name (Str.ofString t.nm) p'') (tC (.ty t.nm)):=by
   !g:=G.gl h4;cases t with
   |int=>&jk g.1 (G.bl _ (by decide)) PyProof.Rows.boot_int rfl (by decide) g.2
   |bool=>&jk g.1 (G.bl _ (by decide)) PyProof.Rows.boot_bool rfl (by decide) g.2
   |tuple=>&jk g.1 (G.bl _ (by decide)) W3 rfl (by decide) g.2
   |list=>&jk g.1 (G.bl _ (by decide)) WY rfl (by decide) g.2
   |str=>&jk g.1 (G.bl _ (by decide)) PyProof.Rows.boot_str rfl (by decide) g.2
  &PE.imp (f9 (rA X.K) (G.gl B).1 (G.bl _ (by decide)) PyProof.Rows.boot_isinstance (fq (I.e b X x a G O) (cq ty rfl) h6) (by decide) (G.gl B).2 (am h6) rfl) λL H Q q=>Gw q
 |len a=>#{x,p,Z,rfl,B,E,h4}:=aW h;&fK I G (λte z=>dY Af G B (by decide) Zab (by decide) z h4) E
 |all a=>#{x,p,Z,rfl,B,E,h4}:=aW h;&fK I G (λte z=>dY (Ah G.calm) G B (by decide) PyProof.Rows.boot_all (by decide) z h4) E
 |any a=>#{x,p,Z,rfl,B,E,h4}:=aW h;&fK I G (λte z=>dY (Ai G.calm) G B (by decide) PyProof.Rows.boot_any (by decide) z h4) E
 |mxL a=>#{x,p,Z,rfl,B,E,h4}:=aW h;&fK I G (λte z=>dY (An G.calm) G B (by decide) WZ (by decide) z h4) E
 |mxD a c=>
  #{x,p,q,v,q',rfl,h1,B,E,h4}:=Ha h
  !hd:PE X v (tC (.int c)):=by
   rcases De h1 with h1 |h1
   ·#{j,p,rfl}:=ku h1;&mJ
   ·#{u,r,rfl,h1}:=n6 h1;#{j,p,rfl}:=ku h1;&PE.imp (x5 rb mJ) λL H Q q=>⟨-c,rfl,by show Q (.int (- -c)) H;rw[Int.neg_neg];&q⟩
  &fK I G (λte z=>PE.imp (MH G.calm (G.gl B).1 (G.bl _ (by decide)) (G.gl B).2 hd (cq z h4) (am h4)) λL H Q q=>q) E
 |rev a=>#{x,k,p,p2,p3,p4,rfl,h1}:=Nn h;&PE.imp (MG (I.e b X x a G h1)) λL H Q q=>Cb q
 |mnN a=>
  #{x,p,q,j,Z,q',rfl,B,E,h4}:=Hb h;&fK I G (λte z=>PE.imp (M0 hu G.calm (G.gl B).1 (G.bl _ (by decide)) (G.gl B).2 (cq z h4) (am h4)) λL H Q q=>q) E
 |sm a=>#{x,p,Z,rfl,B,E,h4}:=aW h;&fK I G (λte z=>dY (Ap G.calm) G B (by decide) PyProof.Rows.boot_sum (by decide) z h4) E
 |tupOf a=>#{x,p,Z,rfl,B,E,h4}:=aW h;&fK I G (λte z=>yG Ag G B (by decide) W3 (by decide) z h4) E
 |listR a=>&tmp rfl rfl
 |srt a=>&tmp rfl rfl
 |mx a U=>
  #{x,Y,p,Z,rfl,B,E}:=uB (b:=b) (f := "max") (k:=λY=>fo T n b Y [a,U]) (e:=e) h;!J:=bz E;&PE.imp (f9 (wN G.calm) (G.gl B).1 (G.bl _ (by decide)) WZ (I.a b X (x::Y) [a,U] G E) (by decide) (G.gl B).2 (am (J x Zj)) (kC λe he=>J e (Zg _ he))) λL H Q q=>Cc q
 |mn a U=>
  #{x,Y,p,Z,rfl,B,E}:=uB (b:=b) (f := "min") (k:=λY=>fo T n b Y [a,U]) (e:=e) h;!J:=bz E;&PE.imp (f9 (wP G.calm) (G.gl B).1 (G.bl _ (by decide)) W0 (I.a b X (x::Y) [a,U] G E) (by decide) (G.gl B).2 (am (J x Zj)) (kC λe he=>J e (Zg _ he))) λL H Q q=>Cc q
 |rep a=>#{x,p,Z,rfl,B,E,h4}:=aW h;&PE.imp (dY (wZ G.room) G B (by decide) PyProof.Rows.boot_repr (by decide) (I.e b X x a G E) h4) λL H Q q=>Cb q
 |comp own elt cls=>&tmp rfl rfl
 |app o a=>
  #{x,ap,Y,p,rfl,B,E,h4,O}:=kB h;#{y,rfl}:=oj O;!J:=bz O y (by simp);&PE.imp (tN Vs Vy PySem.F.type_list_append MI (I.e b X x o G h4) (I.a b X [y] [a] G O) (cF B) (mq J) E (am J) rfl) λL H Q q=>nI (λR vd c=>rR R vd c) q
 |pop o=>
  #{x,ap,Y,p,rfl,B,E,h4,O}:=kB h;cases Y with
  |cons _ _=>cases O
  |nil=>&PE.imp (L7 Vs VA VH Gz (I.e b X x o G h4) (cF B) E) λL H Q q=>Gx (λR vd c=>rR R vd c) q
 |popAt o a=>
  #{x,ap,Y,p,rfl,B,E,h4,O}:=kB h;#{y,rfl}:=oj O;!J:=bz O y (by simp);&PE.imp (tN Vs VA VH Ar (I.e b X x o G h4) (I.a b X [y] [a] G O) (cF B) (mq J) E (am J) rfl) λL H Q q=>nI (λR vd c=>rR R vd c) q
 |ins o i a=>
  #{x,ap,Y,p,rfl,B,E,h4,O}:=kB h;#{y,z,rfl}:=Nw O;!J:=bz O y (by simp);!hpz:=bz O z (by simp);&PE.imp (tN Vs Vz PySem.F.type_list_insert GC (I.e b X x o G h4) (I.a b X [y,z] [i,a] G O) (cF B) (by rw[am J,am hpz];rfl) E (am J) (by rw[am hpz];rfl)) λL H Q q=>nI (λR vd c=>rR R vd c) q
 |cnt o a=>
  #{x,ap,Y,p,rfl,B,E,h4,O}:=kB h;#{y,rfl}:=oj O;!J:=bz O y (by simp);&PE.imp (tN Vt VC PySem.F.type_tuple_count GA (I.e b X x o G h4) (I.a b X [y] [a] G O) (cF B) (mq J) E (am J) rfl) λL H Q q=>nI (λR vd c=>Cy R vd c) q
 |idx o a=>
  #{x,ap,Y,p,rfl,B,E,h4,O}:=kB h;#{y,rfl}:=oj O;!J:=bz O y (by simp);&PE.imp (tN Vt VE PySem.F.type_tuple_index G1 (I.e b X x o G h4) (I.a b X [y] [a] G O) (cF B) (mq J) E (am J) rfl) λL H Q q=>nI (λR vd c=>Cy R vd c) q
 |tupR a=>
  #{x,p,q,rfl,B,E,h4}:=aW h;#{y,Z,q',rfl,O,h6,h7}:=aW E
  &PE.imp (fe (ux G.calm) (G.gl B).1 (G.bl _ (by decide)) W3 (cq (fe kT (G.gl O).1 (G.bl _ (by decide)) W1 (cq (I.e b X y a G h6) h7) (by decide) (G.gl O).2 (am h7) rfl) h4) (by decide) (G.gl B).2 (am h4) rfl) λL H Q q=>mj (G3 q) λv H1 ⟨i,ev,hi,z⟩=>by
    subst ev;&{i,rfl,λp hp=>⟨p,i,rfl,az,hi,λl hl=>z p hp l hl⟩}
 |dcO a=>#{x,p,Z,rfl,B,E,h4}:=aW h;&fK I G (λte z=>yG (AC G.calm (fu G.room)) G B (by decide) boot_dict (by decide) z h4) E
end
section
variable {T:Tab} {C:Calls} {ar:Nat->Nat} {k n:Nat} {b:Blk} {X:Cx}
def yI{op:BoolOp}{v:List Expr}{p:Pos}{t:TT}(h:PT X (.BoolOp op v p) t):PW X (.BoolOp op v p) t:=λd c s f H Q I q=>h c s f H Q I q
def Sk(I:Snd T C ar k n)(e:Expr)(c:CE)(G:CtxOk T C ar k b X)(h:fI T (n+1) b e c=aN):PT X e (tT X.K (evT C ar (n+1) c)):=by
 !J:=fu G.room
 !dflt:evT C ar (n+1) c=Gr (evE C ar n c)->(aG T n b e c && M9 e)=aN->PT X e (tT X.K (evT C ar (n+1) c)):=λO B=>by
  rw[O];!B:=an2 B;&PT.imp (BI (I.e b X e c G B.1) (xm B.2)) λv H Q q=>MC q
 cases c with
 |cmp o a j=>#{l,r,p,rfl,f,E,h4}:=Dk h;&PT.imp (FQ (hY J o) (I.e b X l a G f) (I.e b X r j G E) (iW h4)) λv H Q q=>rD (RH q)
 |chn o U a j d=>#{l,r,s,p,rfl,f,E,h4,L}:=Dm h;&PT.imp (BH (hY J o) (hY J U) (I.e b X l a G f) (I.e b X r j G E) (I.e b X s d G h4) (oe L)) λv H Q q=>CN (RH q)
 |and a j=>
  rcases De h with h |h
  ·#{x,y,p,rfl,u,f}:=sr h;&PT.imp (Bp (I.t b X x a G u) (FG (I.t b X y j G f))).pt λv H Q q=>CQ q
  ·#{x,y,z,Y,p,rfl,u,f}:=su h;&PT.imp (Bp (I.t b X x a G u) (yI (I.t b X _ j G f))).pt λv H Q q=>CQ q
 |or a j=>
  rcases De h with h |h
  ·#{x,y,p,rfl,u,f}:=sr h;&PT.imp (Kb (I.t b X x a G u) (LA (I.t b X y j G f))).pt λv H Q q=>Kz q
  ·#{x,y,z,Y,p,rfl,u,f}:=su h;&PT.imp (Kb (I.t b X x a G u) (yI (I.t b X _ j G f))).pt λv H Q q=>Kz q
 |not a=>#{x,p,rfl,u}:=Dj h;&PT.imp (LB (I.t b X x a G u)) λv H Q q=>MY q
 |ite _ _ _=>cases h
 |_=>&dflt rfl h
def snd:∀n,Snd T C ar k n
 |0=>⟨λb X e c _ h=>absurd h Zh,λb X e c _ _ h=>absurd h Zh,λb X e c _ h=>absurd h Zh,λb X e c _ h=>absurd h Zh,λB b X t e c _ h=>absurd h Zh,λb X e gs E d _ h=>absurd h Zh⟩
 |n+1=>⟨λb X e c G h=>Sj (snd n) e c G h,λb X e c G l h=>Dq (snd n) e c G l h,λb X f j G h=>Sh (snd n) f j G h,λb X e c G h=>Sk (snd n) e c G h,λB b X t e c G h=>Si (snd n) B t e c G h,λb X e gs E d G h=>Nq (snd n) e gs E d G h⟩
end
inductive CS where |asg (t:Tg)(e:CE) |setI (v o i:CE) |ex (e:CE) |ret (e:CE) |ifs (c:CE)(a b:List CS) |for_ (t:Tg)(it:CI)(b:List CS) |while_ (c:CE)(b:List CS) |cnt |never
abbrev Hg:XS:=λ_ _=>aD
mutual
noncomputable def evS(C:Calls)(d:Nat->Nat):Nat->CS->XS
 |0,_=>Hg
 |n+1,s=>match s with
  |.asg t e=>pO (evE C d n e) t
  |.setI v o i=>ur (evE C d n v) (evE C d n o) (evE C d n i)
  |.ex e=>uq (evE C d n e)
  |.ret e=>CD (evE C d n e)
  |.ifs c a b=>xIf (evT C d n c) (eM C d n a) (eM C d n b)
  |.for_ t it b=>CF (evI C d n it) t (eM C d n b) LF
  |.while_ c b=>bH (evT C d n c) (eM C d n b) LF
  |.cnt=>RP
  |.never=>Hg
noncomputable def eM(C:Calls)(b:Nat->Nat):Nat->List CS->XS
 |0,_=>Hg
 |n+1,ss=>match ss with
  |[]=>Kw
  |s::ss=>CC (evS C b n s) (eM C b n ss)
end
abbrev Ds:Expr->Bool
 |.Starred _ _=>aN
 |_=>aS
abbrev ic(sc:Scope)(l:Nat)(T:List Expr):List Str:=T.filterMap λ
 |.Name id pos=>if sc.names.lookup id == aw .local && pos.line == l then aw id else aD
 |_=>aD
abbrev yJ(sc:Scope)(ts vs:List Expr):Option (Option (List Str)):=
 if (!(ts.length == 2 || ts.length == 3) || vs.length != ts.length)=aN then aw aD
 else if (vs.any Ds)=aN then aw aD
 else if ((ic sc ((ts.head?.map (·.pos.line)).getD 0) ts).length != ts.length || (ic sc ((ts.head?.map (·.pos.line)).getD 0) ts).eraseDups.length != (ic sc ((ts.head?.map (·.pos.line)).getD 0) ts).length)=aN then aw aD
 else if (vs.all (foldedForSure 8))=aN then aw aD
 else if (vs.all (constantsAlone 8))=aN then aD
 else aw (aw (ic sc ((ts.head?.map (·.pos.line)).getD 0) ts))
def Sl{k k2:Nat}(j:env.blockKind = .function)(hs:env.scope=sc)(h:yJ sc ts v=aw r):ZaS [.Tuple ts k p] (.Tuple v k2 p2) env=pure r:=by
 unfold yJ at h;unfold ZaS
 !E:(v.any λ|.Starred ..=>aN |_=>aS)=v.any Ds:=by
  congr 1
 !f:(ts.filterMap λ
   |.Name id pos=>if env.kindOf id == aw .local && pos.line == ((ts.head?.map (·.pos.line)).getD 0) then aw id else aD
   | _=>aD)=ic sc ((ts.head?.map (·.pos.line)).getD 0) ts:=by
  unfold ic Env.kindOf;rw[hs]
 !l:(env.blockKind != .function)=aS:=by rw[j];rfl
 simp only[l,Y9];split at h
 ·rename_i C;rw[if_pos C];cases h;rfl
 rename_i C;rw[if_neg C];split at h
 ·rename_i b;cases h;&if_pos (E.trans b)
 rename_i b;~Eq.trans (if_neg λz=>b (E.symm.trans z)) ?_;split at h
 ·rename_i c;cases h;rw[<-f] at c;&if_pos c
 rename_i c;rw[<-f] at c h;~Eq.trans (if_neg c) ?_;split at h
 ·rename_i d;cases h;&if_pos d
 rename_i d;~Eq.trans (if_neg d) ?_;split at h
 ·cases h
 rename_i n;cases h;&if_neg n
abbrev Dt:Expr->Option (Scope × Pos)
 |.ListComp _ _ s p=>aw (s,p)
 |.SetComp _ _ s p=>aw (s,p)
 |.DictComp _ _ _ s p=>aw (s,p)
 |_=>aD
abbrev swW(sc:Scope)(v:Expr)(t:Str)(b:Pos):Bool:=match Dt v with
 |none=>aS
 |some (s,p)=>sc.names.lookup t == aw .local && b.line == p.line && !(s.names.any λy=>y.1 == t && (y.2 == .local || y.2 == .cell))
def Nx{line:Nat}(h:env.blockKind = .function)(hs:env.scope=sc):ZaT v (aw (.Name t pos)) line env=pure (swW sc v t pos):=by
 unfold ZaT swW Dt;!E:(env.blockKind == .function)=aN:=by rw[h];rfl
 cases v <;> first |rfl |(simp only[E,YR,Env.kindOf,hs];rfl)
def uG{l:Nat}(h:∀x p,T ≠ .Name x p):ZaU [T] v l env=pure aS:=by
 show ZaT v (aw T) l env=pure aS;unfold ZaT;cases v <;> first |rfl |(cases T <;> first |rfl |(&absurd rfl (h _ _)))
def yK(h:(∀E k p,v ≠ .Tuple E k p)\/(∃x p,T = .Name x p)\/(∃o i p,T = .Subscript o i p)):ZaS [T] v env=pure aD:=by
 unfold ZaS;rcases h with h |⟨x,p,rfl⟩ |⟨o,i,p,rfl⟩
 ·split
  ·rename_i e;split at e
   ·&absurd rfl (h _ _ _)
   ·&absurd rfl (h _ _ _)
   ·cases e
  ·rfl
 ·rfl
 ·rfl
abbrev nmL:List Expr->Option (List Str)
 |[]=>aw []
 |e::es=>match Dd e,nmL es with
  |some r,aw xs=>aw (r.1::xs)
  |_,_=>aD
def uH(h:nmL b=aw (x::xs)):∃p E,b = .Name x p::E/\nmL E=aw xs:=by
 cases b with
 |nil=>cases h
 |cons e b=>
  rw[nmL] at h;split at h
  ·rename_i r y c d;cases h;&{_,b,by rw[sg c],d}
  ·cases h
def Hh(h:nmL E=aw []):E=[]:=by
 cases E with
 |nil=>rfl
 |cons e E=>
  rw[nmL] at h;split at h <;> cases h
abbrev tgL:List Tg->Option (List Nat)
 |[]=>aw []
 |.name i::ts=>match tgL ts with
  |some is=>aw (i::is)
  |none=>aD
 |.tup _::_=>aD
def Du:∀ {T:List Tg} {is:List Nat},tgL T=aw is->T=is.map Tg.name
 |[],_,h=>by cases h;rfl
 |.name i::T,is,h=>by
  rw[tgL] at h;cases e:tgL T with
  |none=>rw[e] at h;cases h
  |some js=>rw[e] at h;cases h;rw[Du e];rfl
 |.tup _::_,_,h=>by cases h
abbrev So(b:Blk)(ns:List Str)(is:List Nat):Bool:=match ns with
 | [x,y]=>(match is with
  |[i,j]=>b.N[i]? == aw x && b.N[j]? == aw y && i != j && b.sc.names.lookup x == aw .local && b.sc.names.lookup y == aw .local
  | _=>aS)
 |_=>aS
abbrev UK(e:Expr):Bool:=kr e λ_ _ _ _=>aN
abbrev UL(e:Expr):Bool:=e.ctorIdx == 24
abbrev xo(T:Tab)(n:Nat)(b:Blk)(d e:Expr)(t:Tg)(c:CE):Bool:=match t with
 | .name i=>(match Dd d with
  |some r=>aG T n b e c && b.N[i]? == aw r.1 && b.own r.1 && (!(swW b.sc e r.1 r.2) || (UK e && b.sc.names.lookup r.1 == aw .local))
  | none=>aS)
 | .tup gs=>(match AI d with
  | some r=>aG T n b e c && (match AI e with
   | some q=>(match yJ b.sc r.1 q.1 with
    |some aD=>n4 b r.1 gs
    | some (aw ns)=>(match tgL gs with
     |some is=>nmL r.1 == aw ns && q.1.length == ns.length && So b ns is
     | none=>aS)
    | none=>aS)
   | none=>!(UL e) && n4 b r.1 gs)
  | none=>aS)
abbrev yL(e:Stmt)(k:Option Expr->Pos->Bool):Bool:=if h:e.ctorIdx=3 then @Stmt.Return.elim (λ_=>Bool) e h k else aS
def AK(h:yL e k=aN):∃b X,e = .Return b X/\k b X=aN:=by
 #{c,h}:=bR h;&Stmt.Return.elim (motive_2:=λe=>∀f,@Stmt.Return.elim (λ_=>Bool) e f k=aN->∃b X,e = .Return b X/\k b X=aN) e c (λb X _ d=>⟨b,X,rfl,d⟩) c h
abbrev sv(e:Stmt)(k:List Expr->Expr->Pos->Bool):Bool:=if h:e.ctorIdx=5 then @Stmt.Assign.elim (λ_=>Bool) e h k else aS
def qE(h:sv e k=aN):∃c b X,e = .Assign c b X/\k c b X=aN:=by
 #{d,h}:=bR h;&Stmt.Assign.elim (motive_2:=λe=>∀j,@Stmt.Assign.elim (λ_=>Bool) e j k=aN->∃c b X,e = .Assign c b X/\k c b X=aN) e d (λc b X _ f=>⟨c,b,X,rfl,f⟩) d h
abbrev Sq(e:Stmt)(k:Expr->Expr->List Stmt->List Stmt->Pos->Bool):Bool:=if h:e.ctorIdx=9 then @Stmt.For.elim (λ_=>Bool) e h k else aS
def Ny(h:Sq e k=aN):∃c b X f d,e = .For c b X f d/\k c b X f d=aN:=by
 #{j,h}:=bR h;&Stmt.For.elim (motive_2:=λe=>∀n,@Stmt.For.elim (λ_=>Bool) e n k=aN->∃c b X f d,e = .For c b X f d/\k c b X f d=aN) e j (λc b X f d _ l=>⟨c,b,X,f,d,rfl,l⟩) j h
abbrev Dv(e:Stmt)(k:Expr->List Stmt->List Stmt->Pos->Bool):Bool:=if h:e.ctorIdx=11 then @Stmt.While.elim (λ_=>Bool) e h k else aS
def Dx(h:Dv e k=aN):∃c b X d,e = .While c b X d/\k c b X d=aN:=by
 #{f,h}:=bR h;&Stmt.While.elim (motive_2:=λe=>∀l,@Stmt.While.elim (λ_=>Bool) e l k=aN->∃c b X d,e = .While c b X d/\k c b X d=aN) e f (λc b X d _ j=>⟨c,b,X,d,rfl,j⟩) f h
abbrev jIf(e:Stmt)(k:Expr->List Stmt->List Stmt->Pos->Bool):Bool:=if h:e.ctorIdx=12 then @Stmt.If.elim (λ_=>Bool) e h k else aS
def Sr(h:jIf e k=aN):∃c b X d,e = .If c b X d/\k c b X d=aN:=by
 #{f,h}:=bR h;&Stmt.If.elim (motive_2:=λe=>∀l,@Stmt.If.elim (λ_=>Bool) e l k=aN->∃c b X d,e = .If c b X d/\k c b X d=aN) e f (λc b X d _ j=>⟨c,b,X,d,rfl,j⟩) f h
abbrev KU(e:Stmt)(k:Expr->Pos->Bool):Bool:=if h:e.ctorIdx=24 then @Stmt.Expr.elim (λ_=>Bool) e h k else aS
def Hi(h:KU e k=aN):∃b X,e = .Expr b X/\k b X=aN:=by
 #{c,h}:=bR h;&Stmt.Expr.elim (motive_2:=λe=>∀f,@Stmt.Expr.elim (λ_=>Bool) e f k=aN->∃b X,e = .Expr b X/\k b X=aN) e c (λb X _ d=>⟨b,X,rfl,d⟩) c h
abbrev qF(e:Stmt)(k:Pos->Bool):Bool:=if h:e.ctorIdx=27 then @Stmt.Continue.elim (λ_=>Bool) e h k else aS
def uI(h:qF e k=aN):∃X,e = .Continue X/\k X=aN:=by
 #{b,h}:=bR h;&Stmt.Continue.elim (motive_2:=λe=>∀d,@Stmt.Continue.elim (λ_=>Bool) e d k=aN->∃X,e = .Continue X/\k X=aN) e b (λX _ c=>⟨X,rfl,c⟩) b h
abbrev sx(e:Expr):Bool:=e.ctorIdx == 8 || e.ctorIdx == 9 || e.ctorIdx == 10
abbrev Ss(k:Expr->Expr->Bool)(s:Stmt):Bool:=sv s λT v _=>l1 T λb=>k b v
abbrev KW(k l m:Expr->Bool)(s:Stmt):Bool:=sv s λT z _=>l1 T λb=>dI b λx y _=>k z && l x && m y && aF y
abbrev zEx(k:Expr->Bool)(s:Stmt):Bool:=KU s λv _=>k v && !(sx v)
abbrev Su(k:Expr->Bool)(s:Stmt):Bool:=yL s λv _=>oA v k
abbrev zIf(k:Expr->Bool)(l m:List Stmt->Bool)(s:Stmt):Bool:=jIf s λt p q _=>k t && l p && m q
abbrev Sv(k:Expr->Expr->Bool)(l:List Stmt->Bool)(s:Stmt):Bool:=Sq s λT i p q _=>q.isEmpty && k T i && l p
abbrev Dy(k:Expr->Bool)(l:List Stmt->Bool)(s:Stmt):Bool:=Dv s λt p q _=>q.isEmpty && k t && l p
abbrev Sw(s:Stmt):Bool:=qF s λ_=>aN
section
variable {s:Stmt} {k l m:Expr->Bool}
def Nz{k:Expr->Expr->Bool}(h:Ss k s=aN):∃T v p,s = .Assign [T] v p/\k T v=aN:=by
 #{b,v,p,rfl,h}:=qE h;#{T,rfl,h}:=iV h;&{T,v,p,rfl,h}
def Hj(h:KW k l m s=aN):∃x y q z p,s = .Assign [.Subscript x y q] z p/\k z=aN/\l x=aN/\m y=aN/\aF y=aN:=by
 #{T,v,p,rfl,h}:=qE h;#{b,rfl,h}:=iV h;#{x,y,q,rfl,h}:=dm h;&{x,y,q,v,p,rfl,an4 h}
def Sx(h:zEx k s=aN):∃v p,s = .Expr v p/\k v=aN/\sx v=aS:=by
 #{v,p,rfl,h}:=Hi h;#{c,b}:=an2 h;&{v,p,rfl,c,by cases e:sx v;rfl;rw[e] at b;cases b}
def NA(h:Su k s=aN):∃v p,s = .Return (aw v) p/\k v=aN:=by
 #{v,p,rfl,h}:=AK h;#{v,rfl,h}:=AJ h;&{v,p,rfl,h}
def Sy{l m:List Stmt->Bool}(h:zIf k l m s=aN):∃t p q r,s = .If t p q r/\k t=aN/\l p=aN/\m q=aN:=by
 #{t,p,q,r,rfl,h}:=Sr h;&{t,p,q,r,rfl,an3 h}
def NB{k:Expr->Expr->Bool}{l:List Stmt->Bool}(h:Sv k l s=aN):∃T i p q,s = .For T i p [] q/\k T i=aN/\l p=aN:=by
 #{T,i,p,q,r,rfl,h}:=Ny h;#{b,z}:=an3 h;cases fH b;&{T,i,p,r,rfl,z}
def Dz{l:List Stmt->Bool}(h:Dy k l s=aN):∃t p q,s = .While t p [] q/\k t=aN/\l p=aN:=by
 #{t,p,q,r,rfl,h}:=Dx h;#{b,z}:=an3 h;cases fH b;&{t,p,r,rfl,z}
def NC(h:Sw s=aN):∃p,s = .Continue p:=by #{p,rfl,_}:=uI h;&{p,rfl}
end
mutual
noncomputable def Sz(T:Tab):Nat->Blk->Stmt->CS->Bool
 |0,_,_,_=>aS
 |n+1,b,s,c=>match c with
  |.asg t e=>Ss (λd v=>xo T n b d v t e) s
  |.setI v o i=>KW (λx=>aG T n b x v) (λx=>aG T n b x o) (λx=>aG T n b x i) s
  |.ex e=>zEx (λx=>aG T n b x e) s
  |.ret e=>Su (λx=>aG T n b x e) s
  |.ifs c x y=>zIf (λe=>fI T n b e c) (λp=>om T n b p x) (λp=>om T n b p y) s
  |.for_ t it x=>Sv (λd i=>uC T n b d i it && xh b d t) (λp=>om T n b p x) s
  |.while_ c x=>Dy (λe=>fI T n b e c) (λp=>om T n b p x) s
  |.cnt=>Sw s
  |.never=>aN
noncomputable def om(T:Tab):Nat->Blk->List Stmt->List CS->Bool
 |0,_,_,_=>aS
 |n+1,b,ss,cs=>match cs with
  |[]=>ss.isEmpty
  |c::cs=>lC ss λs ss=>Sz T n b s c && om T n b ss cs
end
section
variable {T:Tab} {C:Calls} {ar:Nat->Nat} {k n:Nat} {b:Blk} {X:Cx}
def Hk{c:Nat}(h:aG T (n+1) b (.Tuple E c p) (.tup d)=aN):fo T n b E d=aN:=h
def DA{j:Nat}(h:aG T (n+1) b (.Tuple l j p) c=aN):∃cs,c = .tup cs:=by
 cases c with
 |tup cs=>&{cs,rfl}
 |comp own E d=>
  cases d with
  |nil=>&absurd h Zh
  |cons g f=>#{q,I,cond}:=g;&absurd h Zh
 |_=>&absurd h Zh
def oq:∀ (h:List Tg) (f:List D) (j c:Rho),aO h f j=aw c->h.length=f.length
 |[],[],_,_,_=>rfl
 |[],_::_,_,_,e=>by simp[aO] at e
 |_::_,[],_,_,e=>by simp[aO] at e
 |t::h,d::f,j,c,e=>by
  simp only[aO] at e;split at e
  ·simp[oq _ _ _ _ e]
  ·cases e
def DB{K:VY}{x:XA}{v:List Tg}{D:Ends}{p:L2.St}{H:Hp}(h:tSt K (pO (ng ni x) (.tup v)) D p H):tAr K x p H λz H1=>∃m1 f d j,EnvR K m1 H1 f p/\VDs K m1 H1 j z/\aO v j f=aw d/\∀c,EnvR K m1 H1 d c->D.nx c H1:=by
 #{m,f,S,Q,d,L,E,R,e,q}:=h;unfold pO at e;cases u:ng ni x f S with
 |none=>rw[u] at e;cases e
 |some r=>
  rw[u] at e;#{j,O,B,l}:=ac u;unfold ni at l;split at l
  ·cases l;dsimp only at e;simp only[aA] at e;cases hb:aO v j f with
   |none=>rw[hb] at e;cases e
   |some I=>
    rw[hb] at e;cases e;&{m,f,S,j,_,E,R,B,λm1 H1 z y vd=>⟨m1,f,_,j,E.mono R y.ext,vd,hb,λc J=>q m1 H1 y c J⟩}
  ·cases l
def DC{K:VY}{x:XA}{j:L2.St}{H:Hp}{Q Q':List V->Hp->Prop}(h:tAr K x j H Q)(f:∀v c,Q v c->Q' v c):tAr K x j H Q':=by
 #{m,p,S,d,l,E,R,e,q}:=h;&{m,p,S,d,l,E,R,e,λu c v A vd=>f _ _ (q u c v A vd)}
def DD{f c:Rho}{i:Nat}{d:D}(h:(if i < f.length then aw (f.set i (aw d)) else aD)=aw c):c=f.set i (aw d):=by
 split at h
 ·cases h;rfl
 ·cases h
def Hl{K:VY}{x:XA}{i j:Nat}{D:Ends}{d:L2.St}{H:Hp}(h:tSt K (pO (ng ni x) (.tup [.name i,.name j])) D d H):Rf i j (tAr K x) D d H:=by
 ~DC (DB h) λL I ⟨m1,J,f,y,E,vd,e,q⟩=>?_;!u:=oq _ _ _ _ e
 match y,u with
 |[a,c],_=>
  #{v,w,rfl,l,p}:=wM vd;~{v,w,rfl,q _ ?_};simp only[aO,aA] at e;split at e
  ·rename_i r1 z;!:=DD z;subst this;split at e
   ·rename_i r2 B;!:=DD B;subst this;cases e;&(E.set l).set p
   ·cases e
  ·cases e
def DE(h:aG T (n+1) b (.ListComp e gs d p) c=aN):∃own E l it cond f t i ifs j,c = .comp own E (⟨l,it,cond⟩::f)/\gs=⟨t,i,ifs,0⟩::j ∧
  cmB own (nZ own b.N) b.N d b.sc=aN/\uC T n b t i it=aN/\xh (b.inner own d) t l=aN/\Dp (fI T n (b.inner own d)) ifs cond=aN/\qB T n (b.inner own d) e j E f=aN:=by
 cases c with
 |comp own E L=>
  ·#{l,it,cond,f,rfl,J}:=KS h;#{Q,t,i,ifs,j,q,O,I,v}:=yF J;cases I;#{u,z,B,y,h4}:=an5 v;&{own,E,l,it,cond,f,t,i,ifs,j,rfl,rfl,u,z,B,y,h4}
 |_=>&absurd h Zh
end
section
variable {T:Tab} {C:Calls} {ar:Nat->Nat} {k n:Nat} {b:Blk} {X:Cx}
def Hm(h:X.env.scope.kind = .function):X.env.blockKind = .function:=by
 unfold Env.blockKind;rw[h];rfl
def Ho{c:Type}{l:List c}(h:l.length=2):∃a b,l=[a,b]:=by
 match l,h with
 |[a,b],_=>&{a,b,rfl}
def ND(G:CtxOk T C ar k b X)(hk:X.env.scope.kind = .function){tg e:Expr}{t:Tg}{c:CE}{p:Pos}(h:xo T n b tg e t c=aN):PS X (.Assign [tg] e p) (tSt X.K (pO (evE C ar n c) t)):=by
 !hb:=Hm hk;unfold xo at h;cases t with
 |name i=>
  dsimp only at h;cases l:Dd tg with
  |none=>rw[l] at h;cases h
  |some r=>
  #{x,px}:=r;rw[l] at h;rw[sg l];simp only[bAE] at h;#{⟨⟨I,h2⟩,d⟩,h4}:=h;!hi:X.N[i]?=aw x:=by rw[G.hN];simpa using h2
  !nd:X.N.Nodup:=by rw[G.hN];&G.nd
  !o:=G.own d;!sw:=Nx (sc:=b.sc) (v:=e) (t:=x) (pos:=px) (line:=p.line) hb G.hs;cases B:swW b.sc e x px with
  |false=>
   rw[B] at sw;&PS.imp (LL nd hi o.1 ((snd n).e b X e c G I) sw o.2) λD σ H q=>mj (w5 q) λv H' z=>rY z
  |true=>
   rw[B] at h4 sw;simp only[Xp,Wg,bAE] at h4;#{h5,h4}:=h4;#{el,gs,f,pp,rfl,_}:=k8 h5
   ·cases n with
    |zero=>&absurd I Zh
    |succ n=>
     #{own,Z,tg',it,cond,E,tt,ii,ifs,gs',rfl,rfl,c0,c1,c2,c3,c4}:=DE I;!S:CmScope own (nZ own b.N) b.N f b.sc:=B5 _ c0;!S':CmScope own (nZ own b.N) X.N f X.env.scope:=by rw[G.hN,G.hs];&S
     !hpl:=ia c1 (λe he env=>fJ he) X.env;!l:X.env.scope.names.lookup x=aw .local:=by rw[G.hs];simpa using h4
     ~PS.imp (F8 (g:=tTg X.K tg') (ti:=ifT C ar n X.K cond) (t:=λu=>tCl X.K u (im C ar n Z E)) G.calm S' nd hi l ((snd n).i [] b X tt ii it G c1) (λU ex s H=>ib (G.inner S (C':=U) (ex:=ex) (s:=s) (H:=H)) c2) (λU ex s H=>oh (snd n) (G.inner S (C':=U) (ex:=ex) (s:=s) (H:=H)) c3)
      (λU ex s H u=>(snd n).cl _ _ el gs' Z E (G.inner S (C':=U) (ex:=ex) (s:=s) (H:=H)) c4 _ f pp u 0 rfl) sw hpl) λD σ H q=>?_
     &yv (λu D σ H z=>xn z) (ud (mj (w5 q) λv H' z=>rY z))
 |tup gs=>
  dsimp only at h;cases l:AI tg with
  |none=>rw[l] at h;cases h
  |some r=>
  #{J,Q,pt}:=r;rw[l] at h;rw[si l];simp only[bAE] at h;#{I,d}:=h;!so:ZaU [.Tuple J Q pt] e p.line X.env=pure aS:=uG λx p z=>nomatch z
  !plain:∀ (B:ZaS [.Tuple J Q pt] e X.env=pure aD) (hg:n4 b J gs=aN),PS X (.Assign [.Tuple J Q pt] e p) (tSt X.K (pO (evE C ar n c) (.tup gs))):=λB hg=>
   PS.imp (BA ((snd n).e b X e c G I) (ib G (e:=.Tuple J Q pt) (t:=.tup gs) hg) so B rfl) λD σ H q=>w5 q
  cases Y:AI e with
  |none=>
   rw[Y] at d;simp only[bAE] at d;&plain (yK (.inl λes k p z=>by rw[z] at Y;cases Y)) d.2
  |some q=>
   #{es,ke,pe}:=q;rw[Y] at d;obtain rfl:=si Y;cases n with
   |zero=>&absurd I Zh
   |succ n=>
    #{cs,rfl}:=DA I;!ha:=Hk I;dsimp only at d;cases hr:yJ b.sc J es with
    |none=>rw[hr] at d;cases d
    |some w=>
     !B:=Sl (k:=Q) (p:=pt) (k2:=ke) (p2:=pe) hb G.hs hr;rw[hr] at d;cases w with
     |none=>&plain B d
     |some ns=>
      dsimp only at d;cases ht:tgL gs with
      |none=>rw[ht] at d;cases d
      |some is=>
       rw[ht] at d;simp only[bAE] at d;#{⟨L,O⟩,d}:=d;!hn:nmL J=aw ns:=by simpa using L
       !hl:es.length=ns.length:=by simpa using O
       clear L O;obtain rfl:=Du ht;unfold So at d;split at d
       ·rename_i x y;split at d
        ·rename_i i j;#{p1,t1,rfl,hn1}:=uH hn;#{p2,t2,rfl,hn2}:=uH hn1;obtain rfl:=Hh hn2;#{a1,a2,rfl}:=Ho hl;simp only[bAE] at d;#{⟨⟨⟨q2,q3⟩,q4⟩,q5⟩,q6}:=d;&PS.imp (LM (i:=i) (j:=j) G.calm (by rw[G.hN];&G.nd) (by rw[G.hN];simpa using q2) (by rw[G.hN];simpa using q3) (by simpa using q4) (by rw[G.hs];simpa using q5) (by rw[G.hs];simpa using q6) ((snd n).a b X _ cs G ha) B so) λD σ H q=>Hl q
        ·cases d
       ·cases d
def DF{l:Nat}(h:sx v=aS):ZaT v aD l X.env=pure aS:=by
 unfold ZaT;cases v <;> first |rfl |(&absurd h (λz=>Zh z.symm))
structure SndS(T:Tab)(C:Calls)(ar:Nat->Nat)(k n:Nat):Prop where
 s:∀ (b:Blk) (X:Cx) (s:Stmt) (c:CS),CtxOk T C ar k b X->X.env.scope.kind = .function->Sz T n b s c=aN->PS X s (tSt X.K (evS C ar n c))
 ss:∀ (b:Blk) (X:Cx) (s:List Stmt) (c:List CS),CtxOk T C ar k b X->X.env.scope.kind = .function->om T n b s c=aN->PSs X s (tSt X.K (eM C ar n c))
def SA{K:VY}{D:Ends}{c:L2.St}{H:Hp}(h:tSt K Hg D c H):False:=by
 #{m,f,S,l,d,j,E,R,e,q}:=h;cases e
def SB:∀n,SndS T C ar k n
 |0=>⟨λb X s c _ _ h=>absurd h Zh,λb X s c _ _ h=>absurd h Zh⟩
 |n+1=>by
  !I:=SB n;~{λb X s c G l h=>?_,λb X ss B G l h=>?_}
  ·!E:PassesOwn (model X.prog X.w) X.A X.env X.xe:=by rw[G.xe];&PassesOwn.never
   cases c with
   |asg t e=>#{Q,v,p,rfl,d}:=Nz h;&ND G l d
   |setI v o i=>
    #{x,y,Y,z,p,rfl,d,j,u,J}:=Hj h
    &PS.imp (BA ((snd n).e b X z v G d) (LK ((snd n).e b X x o G j) ((snd n).e b X y i G u) (RL (fu G.room)) (λv=>by
     cases y <;> first | rfl | (&absurd J Zh))) (uG λx p z=>nomatch z) (yK (.inr (.inr ⟨_,_,_,rfl⟩))) rfl) λD f H q=>GL q
   |ex e=>#{v,p,rfl,d,j}:=Sx h;&PS.imp (FJ ((snd n).e b X v e G d) (DF j)) λD f H q=>GK q
   |ret e=>#{v,p,rfl,d}:=NA h;&PS.imp (Bv ((snd n).e b X _ _ G d)) λD f H q=>MO q
   |ifs c x y=>#{t,p,q,r,rfl,d,j,u}:=Sy h;&PS.imp (Ra ((snd n).t b X _ _ G d) (I.ss b X _ _ G l j) (I.ss b X _ _ G l u)) λD f H q=>RQ q
   |for_ t U x=>
    #{Q,i,p,O,rfl,d,j}:=NB h;!d:=an2 d;&PS.imp (LP E G.calm ((snd n).i [] b X _ _ _ G d.1) (ib G d.2) (I.ss b X _ _ G l j) (ia d.1 (λe L env=>fJ L) X.env)) λD f H q=>MQ q
   |while_ c x=>#{t,p,q,rfl,d,j}:=Dz h;&PS.imp (BD E ((snd n).t b X _ _ G d) (I.ss b X _ _ G l j)) λD f H q=>CG q
   |cnt=>#{p,rfl}:=NC h;&PS.imp tG λD f H q=>MP q
   |never=>&PS.imp Bw λD f H q=>(SA q).elim
  ·cases B with
   |nil=>rw[fH h];&PSs.imp FH λD f H q=>GJ q
   |cons c B=>
    #{s,ss,rfl,h}:=fk h;!h:=an2 h;&PSs.imp (Bu (I.s b X s c G l h.1) (I.ss b X ss B G l h.2)) λD f H q=>MN q
end
structure DefE where
 x:Str
 st:Stmt
 N:List Str
 ps:List Str
 body:List CS
 ks:Option (CE × Pos × Str):=aD
abbrev FU:Nat:=60
abbrev cu(ab:List DefE)(f:Nat):Nat:=match ab[f]? with
 |some d=>d.ps.length
 |none=>0
abbrev NF(C:Calls)(c:Nat->Nat)(d:DefE)(b:List D)(S:Sto):Option (D × Sto):=
 match eM C c FU d.body (b.map aw++ZP (d.N.length - b.length) aD) S with
 |some (.rt v,_,S')=>aw (v,S')
 |some (.nx,_,S')=>aw (.non,S')
 |_=>aD
abbrev KY:D->Option (List Int)
 |.tup ds=>cP ds
 |_=>aD
abbrev qG:List D->Option (List (List Int))
 |[]=>aw []
 |d::ds=>match KY d,qG ds with
  |some l,aw ls=>aw (l::ls)
  |_,_=>aD
abbrev c9{α:Type}(ls:List (List Int))(d:α)(v:List α):List α:=if v.length < 2 then v else (bV (λi j=>cS (eK ls i) (eK ls j)) (V5 v.length)).toList.map λi=>v.getD i d
abbrev xq(x:Str)(p:Pos)(q:Str)(n:Nat)(S:Sto)(ls:List (List Int))(E:List D):Prop:=S[1]?=aw (.tbl x p q)/\S[n]?=aw (.lst E)/\qG E=aw ls/\E.length < 64
open Classical in
abbrev DG(C:Calls)(c:Nat->Nat)(d:DefE)(z:CE × Pos × Str)(b:List D)(S:Sto):Option (D × Sto):=
 match evE C c FU z.1 (b.map aw++ZP (d.N.length - b.length) aD) S with
 |some (.ref n,S1)=>if h:∃l E,xq d.x z.2.1 z.2.2 n S1 l E then aw (.ref S1.length,S1++[.lst (c9 h.choose .non h.choose_spec.choose)]) else aD
 |_=>aD
def Hq{x:Str}{p:Pos}{q:Str}{n:Nat}{S:Sto}{ls l:List (List Int)}{E es':List D}(h:xq x p q n S ls E)(h':xq x p q n S l es'):ls=l/\E=es':=by
 #{_,a,b,_}:=h;#{_,c,B,_}:=h';rw[a] at c;cases c;rw[b] at B;cases B;&{rfl,rfl}
def Hr{C:Calls}{l:Nat->Nat}{d:DefE}{z:CE × Pos × Str}{f:List D}{S c:Sto}{n:Nat}{ls:List (List Int)}{es:List D}(e:evE C l FU z.1 (f.map aw++ZP (d.N.length - f.length) aD) S=aw (.ref n,c))(h:xq d.x z.2.1 z.2.2 n c ls es):DG C l d z f S=aw (.ref c.length,c++[.lst (c9 ls .non es)]):=by
 unfold DG;rw[e];dsimp only;!j:∃ls es,xq d.x z.2.1 z.2.2 n c ls es:=⟨ls,es,h⟩;rw[dif_pos j];#{E,p}:=Hq j.choose_spec.choose_spec h;!k:∀ (a:List (List Int)) (b:List D),a=ls->b=es->aw (D.ref c.length,c++[Ob.lst (c9 a .non b)])=aw (.ref c.length,c++[.lst (c9 ls .non es)]):=by rintro _ _ rfl rfl;rfl
 &k _ _ E p
def NG{C:Calls}{h:Nat->Nat}{d:DefE}{z:CE × Pos × Str}{c:List D}{S f:Sto}{v:D}(e:DG C h d z c S=aw (v,f)):∃n b ls E,evE C h FU z.1 (c.map aw++ZP (d.N.length - c.length) aD) S=aw (.ref n,b)/\xq d.x z.2.1 z.2.2 n b ls E/\v = .ref b.length/\f=b++[.lst (c9 ls .non E)]:=by
 unfold DG at e;split at e
 ·rename_i n b j;split at e
  ·rename_i k;cases e;&{n,b,_,_,j,k.choose_spec.choose_spec,rfl,rfl}
  ·cases e
 ·cases e
abbrev evC(ab:List DefE):Nat->Calls
 |0=>λ_ _ _=>aD
 |k+1=>λf b S=>match ab[f]? with
  | some d=>(match d.ks with
   |none=>NF (evC ab k) (cu ab) d b S
   | some z=>if 3<=k then DG (evC ab k) (cu ab) d z b S else aD)
  |none=>aD
abbrev uJ(N ps:List Str)(sc:Scope):Bool:=sc.kind == .function && sc.isCoroutine == aS && sc.isGenerator == aS && j9 N && N.take ps.length == ps && (ps.all λx=>sc.names.lookup x == aw .local || sc.names.lookup x == aw .cell) && sc.names.all λy=>y.2 != .free
def sy{N ps:List Str}{sc:Scope}(h:uJ N ps sc=aN):FnScope N ps sc:=by
 unfold uJ at h;simp only[bAE,Yc] at h;#{⟨⟨⟨⟨⟨j,k⟩,b⟩,h4⟩,c⟩,l⟩,d}:=h;~{by simpa using j,by simpa using k,by simpa using b,ju h4,by simpa using c,λx f=>?_,λy n=>by simpa using d y n};!:=l x f
 simpa using this
abbrev Hs(T:Tab)(d:DefE):Bool:=d.ks.isSome || uJ d.N d.ps (aH d.st) && om T FU ⟨aH d.st,aD,d.N⟩ (b9 d.st) d.body
open PySem.W (CodeHd kla_fn) in
structure SrtOk(Tb:Tab)(d:DefE)(z:CE × Pos × Str):Prop where
 ex:∃ (x:Str) (params:W6) (scope:Scope) (e:Expr) (p kp pos p1 p2 p3 p4 p5 rp:Pos) (cx:Nat),
  b9 d.st=[.Return (aw (.Call (.Name "sorted" p) [e] [⟨aw "key", .Lambda params (uy x p1 p2 p3 p4 p5 cx) scope z.2.1,kp⟩] pos)) rp] ∧
  aG Tb FU ⟨aH d.st,aD,d.N⟩ e z.1=aN/\(aF e && (⟨aH d.st,aD,d.N⟩:Blk).glo "sorted" && uJ d.N d.ps (aH d.st) && uJ [x] [x] scope && (scope.names.lookup x == aw .local) && (scope.names.lookup ("len" : Str) == aw NameKind.globalImplicit) && !(x == ("__debug__" : Str)) && !(x == ("__classdict__" : Str)))=aN ∧
  (∀pm c' ctv u,NE (kla_fn "<lambda>" z.2.2 params (uy x p1 p2 p3 p4 p5 cx) scope [] pm (.ref c') ctv) ⟨[u],[]⟩=pure [(x,u)]) ∧
  (∀L f cd,z.2.2=(envOfC d.x (aH d.st) L f cd).qual ++ "<lambda>")/\(∀env,Zag scope env=pure [])/\(∀env,Zam params env=([],[]))
abbrev SC(base:Heap)(mg:Str->Option Value)(f:VI):Prop:=∃c T,f.code = .ref c/\VX base c T/\base.BuiltinsAt mg T/\Zaw ≠ T
abbrev UM(st:Stmt):Pos:=match b9 st with
 |[.Return (aw (.Call _ _ [⟨_,.Lambda _ _ _ p,_⟩] _)) _]=>p
 |_=>⟨0,0,0,0⟩
abbrev Ht(con:List (Str × Int))(ab:List DefE):Prop:=∀d ∈ ab,∀z,d.ks=aw z->SrtOk (⟨con,ab.map λd=>(d.x,d.ps.length)⟩) d z
def Hu{con:List (Str × Int)}{ab:List DefE}{f:Nat}{dz:DefE}{z:CE × Pos × Str}(p:ab[f]?=aw dz)(l:dz.ks=aw z)(k:(ab.take f++ab.drop (f+1)).all (λd=>d.ks.isNone)=aN)(O:SrtOk (⟨con,ab.map λd=>(d.x,d.ps.length)⟩) dz z):Ht con ab:=λd hd y c=>by
 #{j,b}:=YF hd;by_cases e:j=f
 ·subst e;rw[p] at b;cases b;rw[l] at c;cases c;&O
 ·!n:d ∈ ab.take f++ab.drop (f+1):=by
   rcases Nat.lt_or_gt_of_ne e with h |h
   ·&ZW _ (Zd (i:=j) (by rw[XJ h];&b))
   ·&ZB _ (Zd (i:=j - (f+1)) (by rw[List.getElem?_drop,show f+1+(j - (f+1))=j by lia];&b))
  !:=Yc.mp k d n;rw[c] at this;cases this
abbrev yM(con:List (Str × Int))(ab:List DefE):Tab:=⟨con,ab.map λd=>(d.x,d.ps.length)⟩
structure TextOk(K:VY)(mg:Str->Option Value)(con:List (Str × Int))(ab:List DefE):Prop where
 con:∀ (i:Nat) (x:Str) (v:Int),con[i]?=aw (x,v)->∃tk,mg x=aw (.int v tk)
 bl:∀x,x ∈ gA->mg x=aD
 fn:∀ (i:Nat) (d:DefE),ab[i]?=aw d->∃f fd,mg d.x=aw (.ref f)/\V9 K (.ref f)=aN/\pZ K fd d.ps []/\Fun K d.x d.x d.st f fd
section
variable {P:Program} {w:World} {K:VY} {mg:Str->Option Value} {base:Heap} {con:List (Str × Int)} {ab:List DefE}
def Hv{f:Addr}{k:VI}{ps:List Str}{i n:Nat}:FnOk P w K mg base CX0 0 f k ps (spC K (evC ab 0 i) n):=
 ⟨λv H Q E h=>(by #{m,j,S,d,c,_,_,_,e,_}:=h;cases e),λA outer s H b u v Q E _ _ _ _ h=>(by #{m,j,S,d,c,_,_,_,e,_}:=h;cases e)⟩
def qH{m:List Addr}{H:Hp}{N:List Str}{b:List D}{c:List V}(vd:VDs K m H b c):EnvR K m H (b.map aw++ZP (N.length - b.length) aD) (L2.fc N c):=by
 !j:=vd.length;unfold L2.fc;~{by simp[j],λi d e=>?_};by_cases hi:i < b.length
 ·rw[Zt (by simpa using hi),Zq] at e;cases h:b[i]? with
  |none=>rw[h] at e;cases e
  |some l=>
   rw[h] at e;cases e;#{v,k,f}:=vd.get h;&{v,by rw[Zt (by simp;omega),Zq,k];rfl,f}
 ·rw[Zp (by simpa using hi),YH] at e;split at e <;> cases e
def yN{m:List Addr}{H:Hp}:∀ {c:List D} {b:List V} {ls:List (List Int)},qG c=aw ls->VDs K m H c b->LotsV H b ls
 |[],b,ls,e,h=>by cases e;rw[VDs] at h;subst h;&.nil
 |d::c,b,ls,e,h=>by
  rw[VDs] at h;#{v,r,rfl,n,p}:=h;simp only[qG] at e;split at e
  ·rename_i l L E k;cases e;cases d with
   |tup q=>
    #{a,X,rfl,f,j}:=n.tups;!:=cQ E;subst this;!:=bO j;subst this;&.cons f (yN k p)
   |_=>cases E
  ·cases e
def Rel.tabs{m:List Addr}{S:Sto}{H H2:Hp}{x:Str}{c:Pos}{Q:Str}{T:Addr}{ps:Array Value}(R:Rel K m S H)(u:S[1]?=aw (.tbl x c Q))(h:m[1]?=aw T)(L:F0 K x T)(O:TabOk T c Q H2 ps)(kp:∀b o,b ≠ T->H b=aw o->H2 b=aw o):Aft K m H S m H2:=by
 !hm:T ∈ m:=Zd h;!X:Ext m H m H2:=⟨Yp m,λb o e n=>kp b o (λz=>n (z ▸ hm)) e,λb z n=>absurd z n⟩;~{X,R.len,R.nd,λi o e=>?_};#{b,hb,r}:=R.ob i o e;by_cases hi:i=1
 ·subst hi;rw[h] at hb;cases hb;rw[u] at e;cases e;&{T,h,L,ps,O}
 ·!nb:b ≠ T:=λz=>by
   subst z;!Y:=Zb.mp h;!B:=Zb.mp hb;&hi ((Y1 R.nd).mp (B.2.trans Y.2.symm))
  ~{b,hb,?_};#{T',d,_,pz,Z}:=R.ob 1 _ u;rw[h] at d;cases d;cases o with
  |lst k=>#{v,p,q}:=r;&{v,kp _ _ nb p,VDs.mono R X q}
  |frz k=>#{o,v,p,q}:=r;&{o,v,kp _ _ nb p,VDs.mono R X q}
  |dic ks k=>#{v,p,l,q}:=r;&{v,kp _ _ nb p,l,VDs.mono R X q}
  |dfz ks k=>#{o,v,p,l,q}:=r;&{o,v,kp _ _ nb p,l,VDs.mono R X q}
  |tbl y p' q'=>
   #{J,f,z}:=r;~{J,f,kp _ _ nb z.at_,z.tr,λC I=>?_};#{E,U,j}:=z.cd C I;&{E,U,kp _ _ (λy=>by rw[y,Z.at_] at j;cases j) j}
def NH{k:Nat}{f:Addr}{fd:VI}{i:Nat}{d:DefE}{z:CE × Pos × Str}{Tb:Tab}(hz:d.ks=aw z)(hk:3<=k)(F:Fun K d.x d.x d.st f fd)(h0:SC base mg fd)(O:SrtOk Tb d z)(KX:K.In base)(hd:ab[i]?=aw d)
  (ctx:∀ (j:Value) (A:Around) (outer:List Env) (s:Shared) (H:Hp) (E:XK),d.N.Nodup->Room k (A.deeper (envOfC d.x (aH d.st) s.heap.objs.size f j))->CtxOk Tb (evC ab k) (cu ab) k ⟨aH d.st,aD,d.N⟩ (jm CX0 P w K mg base d.N d.x (aH d.st) f j A outer s H E).nox) (bl:∀x,x ∈ gA->mg x=aD) :
  FnOk P w K mg base CX0 (k+1) f fd d.ps (spC K (evC ab (k+1) i) d.ps.length):=by
 #{c,T,hc,C,hb,hgT}:=h0;#{x,l,I,e,p,kp,pos,p1,p2,p3,p4,p5,rp,cx,eb,ce,bs,bd,eq,cl,df}:=O.ex;simp only[bAE,beq_iff_eq,Bool.not_eq_true'] at bs;#{⟨⟨⟨⟨⟨⟨pe,gs⟩,fs⟩,ls⟩,l1⟩,l2⟩,d1⟩,d2}:=bs;!S:=sy fs;#{oc,od,kV,doc,pm,an,j,ct,osl,rfl,lk,b}:=F.ex;!hcv:j = .ref c:=hc;subst hcv
 !TF:∀ {a:Addr},F0 K d.x a->T=a:=λ{a} h=>by
  #{o',vs',_,_,_,_,_,_,_,e1,e2,e3,e4,_}:=C;unfold V0 at b;dsimp only at b;cases J:K.lookup c with
  |none=>rw[J] at b;cases b
  |some oc'=>
   !z1:=KX c oc' J;rw[e1] at z1;cases z1;&h f _ _ c o' vs' T lk rfl rfl rfl J e3 e4
 ~Ko lk b S (λvs H Q E h=>?_) λA outer s H vs Q E hr h=>?_
 ·#{m,ds,S,d',S',vd,_,J,_}:=h;rw[<-vd.length,J]
 ·!G:=ctx (.ref c) A outer s H E S.nd hr;!hr3:Room (k - 3+3) (jm CX0 P w K mg base d.N d.x (aH d.st) f (.ref c) A outer s H E).nox.A:=by rw[Nat.sub_add_cancel hk];&hr
  ~{LG (KG K T z.2.1 z.2.2 (cf (tE K (evE (evC ab k) (cu ab) FU z.1)) jl)),?_,?_}
  ·rw[eb];~PSs.nox (FI (Bv ?_))
   !:=G6 (X:=(jm CX0 P w K mg base d.N d.x (aH d.st) f (.ref c) A outer s H E).nox) (k:=k - 3) (cx:=cx) (T:=T) (c:=c) (x:=x) (params:=l) (scope:=I) (e:=e) (p:=p) (lp:=z.2.1) (kp:=kp) (pos:=pos) (p1:=p1) (p2:=p2) (p3:=p3) (p4:=p4) (p5:=p5) hr3 (G.gl gs).1 (bl _ (by decide)) (G.gl gs).2 (sy ls) l1 l2 (bl _ (by decide)) d1 d2
    (λpm c' ctv u=>by !y:=bd pm c' ctv u;rw[eq s.heap.objs.size f (.ref c)] at y;&y) rfl C hb hgT (cl _) (df _) (cq ((snd FU).e _ _ e z.1 G ce) pe) (am pe)
   rw[eq s.heap.objs.size f (.ref c)];&this
  ·#{m,ds,S0,r,S',vd,R,J,e,q}:=h;simp only[evC,hd,hz,if_pos hk] at e;#{n,S1,L,es,e1,⟨t1,t2,t3,t4⟩,rfl,rfl}:=NG e;~{m,_,S0,_,S1,qH vd,R,e1,λm1 H1 v B vv=>?_};#{a,ha,rfl}:=vv.refs;#{a',Y,ws,hw,Z}:=B.rel.ob n _ t2;rw[ha] at Y;cases Y;#{T',hT',tF,ps,tO}:=B.rel.ob 1 _ t1;!eT:=TF tF;subst eT;~{a,ws,L,ps,rfl,.of hw,yN t3 Z,by rw[<-Z.length];&t4,(λy=>by rw[y,tO.at_] at hw;cases hw),tO,λr H2 ps' u1 u2 u3 u4=>?_};!A2:=B.rel.tabs t1 hT' tF u1 u4;!nr:r ∉ m1:=B.rel.no u3
   !vw2:VDs K m1 H2 (c9 L .non es) (M8 ws L):=by
    !U:=VDs.mono B.rel A2.ext Z;unfold c9 M8;rw[<-Z.length];split
    ·&U
    ·&rO U _ λi hi=>(gw (by lia)).1 i hi
   ~q (m1++[r]) H2 (.ref r) (B.trans ⟨A2.ext.adopt u3,A2.rel.adopt nr u2 vw2⟩) ?_;rw[VD];&{r,by rw[Zp (by rw[B.rel.len];&Zf _),B.rel.len,ZY];rfl,rfl}
def yO(T:TextOk K mg con ab)(hc:ab.all (Hs (yM con ab))=aN)(KX:K.In base)(hA:Ht con ab)(hS:∀d ∈ ab,d.ks ≠ aD->∀f l,mg d.x=aw (.ref f)->Fun K d.x d.x d.st f l->SC base mg l):∀ (k i:Nat) (d:DefE),ab[i]?=aw d->∀f l,mg d.x=aw (.ref f)->Fun K d.x d.x d.st f l->FnOk P w K mg base CX0 k f l d.ps (spC K (evC ab k i) d.ps.length)
 |0,i,d,_,f,l,_,_=>Hv
 |k+1,i,d,hd,f,l,hm,F=>by
  !ih:=yO T hc KX hA hS k;!p:=Zd hd;!O:=Yc.mp hc d p
  !L:∀ (c:Value) (A:Around) (outer:List Env) (s:Shared) (H:Hp) (E:XK),d.N.Nodup->Room k (A.deeper (envOfC d.x (aH d.st) s.heap.objs.size f c))->CtxOk (yM con ab) (evC ab k) (cu ab) k ⟨aH d.st,aD,d.N⟩ (jm CX0 P w K mg base d.N d.x (aH d.st) f c A outer s H E).nox:=λc A outer s H E nd Z=>by
    ~{rfl,rfl,rfl,rfl,nd,λ_ _=>rfl,Z,T.con,T.bl,λj y hy=>?_};!b:(ab.map λd=>(d.x,d.ps.length))[j]?=aw y:=hy;rw[Zq] at b;cases B:ab[j]? with
    |none=>rw[B] at b;cases b
    |some e=>
     rw[B] at b;cases b;!ha:cu ab j=e.ps.length:=by unfold cu;rw[B]
     #{f',J,C,k',b',F'}:=T.fn j e B;~{ha,f',J,e.ps,C,k',b',?_};rw[ha];&ih j e B f' J C F'
  cases n:d.ks with
  |some z=>
   by_cases Y:3<=k
   ·!h0:=hS d p (by rw[n];simp) f l hm F;&NH (k:=k) n Y F h0 (hA d p z n) KX hd L T.bl
   ·~{λvs H Q E h=>?_,λA outer s H args us vs Q E _ _ _ _ h=>?_}
    ·#{m,I,S,d',X,_,_,_,e,_}:=h;simp only[evC,hd,n,if_neg Y] at e;cases e
    ·#{m,I,S,d',X,_,_,_,e,_}:=h;simp only[evC,hd,n,if_neg Y] at e;cases e
  |none=>
  unfold Hs at O;rw[n,Option.isSome_none,Wg,bAE] at O;!S:=sy O.1;~F.ok S (λvs H Q E h=>?_) λc A outer s H vs Q E Z h=>?_
  ·#{m,I,S,d',X,vd,_,hl,_}:=h;rw[<-vd.length,hl]
  ·!G:=L c A outer s H E S.nd Z;~{_,(SB FU).ss _ _ (b9 d.st) d.body G S.kind O.2,?_};#{m,I,S0,r,X,vd,R,hl,e,q}:=h;simp only[evC,hd,n,NF] at e;cases hx:eM (evC ab k) (cu ab) FU d.body (I.map aw++ZP (d.N.length - I.length) aD) S0 with
   |none=>rw[hx] at e;cases e
   |some z=>
    #{fl,U,S1}:=z;rw[hx] at e;~{m,_,S0,fl,U,S1,qH vd,R,hx,λC H' A'=>?_};cases fl with
    |nx=>cases e;exactλσ _=>q C H' .non A' kh
    |rt v=>cases e;exactλu vu=>q C H' u A' vu
    |bk=>cases e
    |ct=>cases e
end
end Ev
namespace L2
open PySem PySem.Spec PyProof.Rows
abbrev KZ(T:Addr)(ps:Array Value)(H:Hp):Prop:=H T=aw (.tbl ps)/\∀b,b ≠ T->H b=aD\/∃o X,H b=aw (.frz o (.lst X))
def AL{P:Program}{w:World}{K:VY}{mg mb:Str->Option Value}{CX:CXT}{k:Nat}{fa a T c:Addr}{ps:Array Value}{fd:VI}{x:Str}{sp:Sp}{s₁:Shared}{j:List Value}{ns:List Int}
  (KX:K.In s₁.heap) (hns:s₁.heap.Ns Zaw mg) (hb:s₁.heap.Ns Zac mb) (hbb:∀x:Str,x ≠ "__name__"->mb x=Zaa x) (U:s₁.heap.NoLimit) (hg:s₁.gens=#[])
  (p:s₁.heap.TableAt c T ps) (hTK:K.lookup T=aD)
  (J:s₁.heap.get? a=aw { cls:=.type "list", data:=.seq j.toArray }) (hi:IntsAre j ns) (hl:ns.length<=sizeLine) (hr:Room k callerA)
  (hcd:VX s₁.heap c T) (hbm:s₁.heap.BuiltinsAt mg T) (F:∀base:Heap,K.In base->base.Ns Zaw mg->VX base c T->base.BuiltinsAt mg T->FnOk P w K mg base CX k fa fd [x] sp) (I:∀ (s:Shared) (u:Value),BindsTo s fd ⟨[u],[]⟩ [(x,u)])
  (hsp:∀H:Hp,KZ T ps H->SqL K H a (ns.map V.int)->sp [.ref a] H (λv _=>v = .bl aN) λ_ _ _=>False)
  (hCX:∀H e f,CX [] H s₁ (λ_ _ _=>False) e f->False) :
  codeAny (model P w) callerA (.call (.ref fa) ⟨[.ref a],[]⟩) (λr f=>r = .ok (.ret (.bool aN))/\OldK s₁.heap f.heap/\f.os=s₁.os/\AllBare f.gens) s₁:=by
 !rv:=jZ hi;!Q:=hi.length;!O:=p.2;!aT:a ≠ T:=λe=>by rw[e,O] at J;cases J
 !C:∀H:Hp,KZ T ps H->SqL K H a (ns.map V.int)->HOk P w H s₁.heap->(∀b,H b ≠ aD->b=a\/b=T)->(H a ≠ aD->K.lookup a=aD) ->
   codeAny (model P w) callerA (.call (.ref fa) ⟨[.ref a],[]⟩) (λr f=>r = .ok (.ret (.bool aN))/\OldK s₁.heap f.heap/\f.os=s₁.os/\AllBare f.gens) s₁:=by
  intro H hO hS hok hA hK;!B:∀ {b:Addr} {o:Obj},s₁.heap.get? b=aw o->H b=aD->(mI s₁.heap H).get? b=aw o:=λe n=>Bn e n
  !noA:∀ {b:Addr} {o:Obj} {L:Array DictEntry} {ep:Nat},s₁.heap.get? b=aw o->o.data = .dict L ep->H b=aD:=λ{b o L ep} e d=>by
   cases q:H b with
   |none=>rfl
   |some u=>
    rcases hA b (by rw[q];simp) with e' |e'
    ·subst e';rw[J] at e;cases e;!d':Data.seq j.toArray _=Data.dict L ep:=d;cases d'
    ·subst e';rw[O] at e;cases e;!d':Data.fields ps=Data.dict L ep:=d;cases d'
  !l:∀ {b:Addr} {m:Str->Option Value},s₁.heap.Ns b m->(mI s₁.heap H).Ns b m:=λ{b m} ⟨o,L,ep,e,d,r⟩=>⟨o,L,ep,B e (noA e d),d,r⟩
  !hKb:K.In (mI s₁.heap H):=λb o e=>B (KX b o e) (by
   cases q:H b with
   |none=>rfl
   |some u=>
    rcases hA b (by rw[q];simp) with e' |e'
    ·subst e';rw[hK (by rw[q];simp)] at e;cases e
    ·subst e';rw[hTK] at e;cases e)
  !hM:Mod K mg (mI s₁.heap H):=⟨hKb,l hns,⟨mb,l hb,hbb⟩,let ⟨mc,h1,h2⟩:=U;⟨mc,l h1,h2⟩⟩;!e0:Env0 P w K mg (mI s₁.heap H) callerA [] s₁ H:=⟨rfl,hM,λb o e=>FE e,Wt (zF _ _),trivial,λb hb=>absurd (show b ∈ ([]:List Addr) from hb) (by simp),hok,.of_eq hg⟩
  !noC:∀ {b:Addr} {o:Obj} {n:String},s₁.heap.get? b=aw o->o.cls = .type n->n ≠ "list"->b ≠ T->H b=aD:=λ{b o n} e d hn nb=>by
   cases q:H b with
   |none=>rfl
   |some u=>
    rcases hA b (by rw[q];simp) with e' |e'
    ·subst e';rw[J] at e;cases e;!d':Value.type "list" = Value.type n:=d;cases d';&absurd rfl hn
    ·&absurd e' nb
  !hcd':VX (mI s₁.heap H) c T:=by
   #{o,j,file,tf,E,tg,inF,text,tt,e1,e2,r}:=hcd;&{o,j,file,tf,E,tg,inF,text,tt,B e1 (noC e1 e2 (by decide) r.2.2.2.2.2.2.2),e2,r}
  !Y:(mI s₁.heap H).BuiltinsAt mg T:=by
   #{bm,o,b1,b2,b3,b4,b5,b6,r}:=hbm;&{bm,o,b1,b2,b3,b4,B b5 (noC b5 b6 (by decide) b4),b6,r}
  ~Zaj ((F _ hKb (l hns) hcd' Y).run callerA [] s₁ H ⟨[.ref a],[]⟩ [.ref a] [.ref a] _ _ hr e0 (I s₁ (.ref a)) (.cons rfl .nil) (hsp H hO hS)) λr f h=>?_;cases r with
  |error e=>&(hCX H e f h).elim
  |ok fl=>
   cases fl with
   |next=>&False.elim h
   |brk=>&False.elim h
   |cont=>&False.elim h
   |ret u=>
    #{v,H',os,bare,un,y,r',q}:=h;!q':v = .bl aN:=q;subst q';obtain rfl:u=Value.bool aN:=r'
    !X:∀b o,b ≠ T->s₁.heap.get? b=aw o->f.heap.get? b=aw o:=λb o nb e=>by
     cases q:H b with
     |none=>&un.keep b o e q (by intro z;&absurd (show b ∈ ([]:List Addr) from z) (by simp)) (by simp)
     |some u=>
      rcases hO.2 b nb with z |⟨ob,xs,z⟩
      ·rw[q] at z;cases z
      ·!z2:=un.frzs b ob _ z;#{e1,_}:=hok b _ z;#{e2,_}:=y b _ z2;rw[e] at e1;cases e1;&e2
    #{more,em}:=un.tbls T ps hO.1;!gT:f.heap.get? T=aw { cls:=.none,data:=.fields (ps++more) }:=y T _ em;~{rfl,⟨λb o e=>?_,λb o e=>?_⟩,os,bare}
    ·by_cases nb:b=T
     ·subst nb;rw[O] at e;cases e;&.inr (.inl ⟨p.isCodeTable,rfl,ps,more,rfl,gT⟩)
     ·&.inl (X b o nb e)
    ·by_cases nb:b=T
     ·subst nb;&{_,gT}
     ·&{o,X b o nb e}
 !okT:∀ (H:Hp),H T=aw (.tbl ps)->ba P w H s₁.heap T (.tbl ps):=λH e=>O;cases hk:K.lookup a with
 |some o=>
  !e:=KX a o hk;rw[J] at e;cases e;~C (λb=>if b=T then aw (.tbl ps) else aD) ⟨if_pos rfl,λb nb=>.inl (if_neg nb)⟩ (.inr ⟨_,j.toArray,_,hk,rfl,rfl,rfl,by rw[Zk,Q];&hl,by simpa using rv⟩) (λb u z=>?_) (λb z=>?_) λz=>absurd (if_neg aT) z
  ·by_cases hb:b=T
   ·!Z:=(if_pos hb).symm.trans z;cases Z;subst hb;&O
   ·!Z:=(if_neg hb).symm.trans z;cases Z
  ·by_cases hb:b=T
   ·&.inr hb
   ·&absurd (if_neg hb) z
 |none=>
  ~C (λb=>if b=T then aw (.tbl ps) else if b=a then aw (.frz { cls:=.type "list", data:=.seq j.toArray } (.lst (ns.map V.int))) else aD) ⟨if_pos rfl,λb nb=>?_⟩ (.inl (.inr ⟨{ cls:=.type "list", data:=.seq j.toArray },(if_neg aT).trans (if_pos rfl)⟩)) (λb u z=>?_) (λb z=>?_) λ_=>hk
  ·by_cases hb:b=a
   ·&.inr ⟨_,_,(if_neg nb).trans (if_pos hb)⟩
   ·&.inl ((if_neg nb).trans (if_neg hb))
  ·by_cases p:b=T
   ·!Z:=(if_pos p).symm.trans z;cases Z;subst p;&O
   ·!z:=(if_neg p).symm.trans z;by_cases hb:b=a
    ·!Z:=(if_pos hb).symm.trans z;cases Z;subst hb;&{J,by rw[Za];&hl,j,_,rv,J}
    ·!Z:=(if_neg hb).symm.trans z;cases Z
  ·by_cases p:b=T
   ·&.inr p
   ·by_cases hb:b=a
    ·&.inl hb
    ·&absurd ((if_neg p).trans (if_neg hb)) z
end L2
namespace Ev
open PySem PySem.Spec PyProof.Rows L2
@[inline]abbrev yP:=(Str × Str) × (W6 × List Stmt) × (Scope × Addr) × (List (Str × Addr) × Value) × (Addr × Option Str)
abbrev K0(h:Heap):Value->Option Str
 | .ref c=>(match h.get? c with
  |some ⟨_,_,.fields vs,_⟩=>(match vs.toList with |_ :: .str n _::_=>aw n |_=>aD)
  | _=>aD)
 |_=>aD
abbrev SD(h:Heap):Option Obj->Option yP
 |some ⟨_,_,.func ⟨nm,qn,ps,.stmts b,sc,gl,cl,dv,_,_,_,_,cd,_,bi⟩,_⟩=>aw ((nm,qn),(ps,b),(sc,gl),(cl,dv),(bi,K0 h cd))
 |_=>aD
abbrev Hw(h:Heap)(x:Str):Option yP:=match h.nsMap Zaw x with
 |some (.ref f)=>SD h (h.get? f)
 |_=>aD
abbrev yQ(d:DefE):Option yP:=aw ((d.x,d.x),(fE d.st,b9 d.st),(aH d.st,Zaw),([],.none),(Zac,aw d.x))
abbrev SE(h:Heap)(x:Str):Option Int:=match h.nsMap Zaw x with
 |some (.int v _)=>aw v
 |_=>aD
abbrev SF:Option Obj->Bool
 |some ⟨.none,aD,.fields ps,sl⟩=>ps.isEmpty && sl.isEmpty
 |_=>aS
abbrev SG(h:Heap)(c:Addr):Option Obj->Bool
 | some ⟨oc,od,.fields vs,os⟩=>(match (vs[11]?:Option Value) with
  |some (.ref P)=>PySem.W.codeHdIn [(c,⟨oc,od,.fields vs,os⟩)] c P && SF (h.get? P) && Zaw != P
  | _=>aS)
 |_=>aS
abbrev NI(h:Heap)(x:Str):Bool:=match h.nsMap Zaw x with
 | some (.ref f)=>(match h.get? f with
  | some ⟨_,_,.func fd,_⟩=>(match fd.code with
   |.ref c=>SG h c (h.get? c)
   | _=>aS)
  | _=>aS)
 |_=>aS
def NJ{h:Heap}{x:Str}(e:NI h x=aN):∃f o d c O v T,h.nsMap Zaw x=aw (.ref f)/\h.get? f=aw o/\o.data = .func d/\d.code = .ref c/\h.get? c=aw O/\O.data = .fields v/\v[11]?=aw (.ref T)/\VX h c T/\h.get? T=aw (On #[])/\Zaw ≠ T:=by
 unfold NI at e;split at e
 ·rename_i f I;split at e
  ·rename_i L Q d J z;split at e
   ·rename_i c B;cases j:h.get? c with
    |none=>rw[j] at e;cases e
    |some O=>
     rw[j] at e;unfold SG at e;split at e
     ·rename_i O u v os k;cases k;split at e
      ·rename_i P p;simp only[bAE] at e;#{⟨C,E⟩,l}:=e
       !y:h.get? P=aw (On #[]):=by
        unfold SF at E;split at E
        ·rename_i ps sl n;simp only[bAE,Array.isEmpty_iff] at E;#{rfl,rfl}:=E;&n
        ·cases E
       ~{f,_,d,c,_,v,P,I,z,rfl,B,j,rfl,p,PySem.W.codeHd_of_K (K:=[(c,⟨O,u,.fields v,os⟩)]) (λb o q=>?_) C,y,by simpa using l};rw[Yv] at q;cases hb:b == c with
       |true=>
        rw[hb] at q;cases q;!:b=c:=by simpa using hb
        rw[this];&j
       |false=>rw[hb] at q;cases q
      ·cases e
     ·cases e
   ·cases e
  ·cases e
 ·cases e
abbrev SH(h:Heap)(d:DefE):Bool:=match d.ks with
 |none=>aN
 |some _=>NI h d.x
@[inline]abbrev DH:=Bool × List (Option yP) × List (Option Int) × List Bool × List Bool
abbrev NL(con:List (Str × Int))(ab:List DefE)(h:Heap):DH:=(h.isNs Zaw,ab.map (λd=>Hw h d.x),con.map (λc=>SE h c.1),gA.map (λx=>(h.nsMap Zaw x).isNone),ab.map (SH h))
abbrev DI(con:List (Str × Int))(ab:List DefE):DH:=(aN,ab.map yQ,con.map (λc=>aw c.2),gA.map (λ_=>aN),ab.map λ_=>aN)
abbrev K1(d:DefE):Prop:=∀ (kV b pm:Value) (f:Option Addr) (c ct:Value) (u:List Value),u.length=d.ps.length->NE (V2 d.x d.x (fE d.st) (b9 d.st) (aH d.st) .none kV b pm f c ct) ⟨u,[]⟩=pure (d.ps.zip u)
abbrev AM:List DefE->Prop
 |[]=>True
 |d::ds=>K1 d/\AM ds
def AM.at:∀ {b:List DefE} {d:DefE},AM b->d ∈ b->K1 d
 |e::b,d,h,hd=>by
  rcases Zn.mp hd with rfl |hd
  ·&h.1
  ·&AM.at h.2 hd
abbrev k9(h:Heap)(f:Addr):VY:=match h.get? f with
 | some o=>(f,o)::(match o.data with
  | .func fd=>(match fd.code with
   |.ref c=>(match h.get? c with |some O=>[(c,O)] |none=>[])
   | _=>[])
  | _=>[])
 |none=>[]
abbrev cU(h:Heap)(d:DefE):VY:=match h.nsMap Zaw d.x with
 |some (.ref f)=>k9 h f
 |_=>[]
abbrev SI(K:VY):Prop:=∀a o,K.lookup a=aw o->∀I n,o.data ≠ .seq I n
abbrev UN(h:Heap)(K:VY)(x:Str)(T:Addr):Prop:=h.get? T=aw (On #[])/\Zaw ≠ T/\K.lookup T=aD/\F0 K x T/\∃f o b c,h.nsMap Zaw x=aw (.ref f)/\h.get? f=aw o/\o.data = .func b/\b.code = .ref c/\VX h c T
structure Says(con:List (Str × Int))(ab:List DefE)(h:Heap):Prop where
 ns:∃m,h.Ns Zaw m
 frag:∃K:VY,K.In h/\SI K/\(∀d ∈ ab,d.ks ≠ aD->∃T,UN h K d.x T)/\∀mg,h.Ns Zaw mg->TextOk K mg con ab
def dJ{K:VY}{a:Addr}{o:Obj}(h:K.lookup a=aw o):(a,o) ∈ K:=by
 induction K with
 |nil=>cases h
 |cons p K I=>
  #{b,q}:=p;rw[Yv] at h;cases hb:a == b with
  |true=>
   rw[hb] at h;cases h;!:a=b:=by simpa using hb
   subst this;&Zj
  |false=>rw[hb] at h;&Zg _ (I h)
def DJ{K:VY}{a:Addr}{o:Obj}(h:(a,o) ∈ K):∃o',K.lookup a=aw o':=by
 induction K with
 |nil=>cases h
 |cons p K I=>
  #{b,q}:=p;rw[Yv];cases hb:a == b with
  |true=>&{_,rfl}
  |false=>
   rcases Zn.mp h with e |h
   ·cases e;simp at hb
   ·&I h
def DK{h:Heap}{f a:Addr}{o:Obj}(e:(a,o) ∈ k9 h f):h.get? a=aw o:=by
 unfold k9 at e;cases d:h.get? f with
 |none=>rw[d] at e;cases e
 |some of=>
  rw[d] at e;dsimp only at e;rcases Zn.mp e with q |e
  ·cases q;&d
  ·split at e
   ·split at e
    ·rename_i c j;cases b:h.get? c with
     |none=>rw[b] at e;cases e
     |some O=>
      rw[b] at e;dsimp only at e;rcases Zn.mp e with q |e
      ·cases q;&b
      ·cases e
    ·cases e
   ·cases e
def sC{h:Heap}{a:Addr}{mg:Str->Option Value}(N:h.Ns a mg):h.nsMap a=mg:=by
 #{o,E,d,b,hd,_,c}:=N
 funext x
 unfold Heap.nsMap;rw[b];dsimp only;rw[hd];&c x
def uK{h:Heap}{d:DefE}(e:Hw h d.x=yQ d):∃f p k kV j pm l c ct O C cd v a t r q,h.nsMap Zaw d.x=aw (.ref f)/\h.get? f=aw ⟨p,k,.func (V2 d.x d.x (fE d.st) (b9 d.st) (aH d.st) .none kV j pm l (.ref c) ct),O⟩ ∧
  h.get? c=aw ⟨C,cd,.fields v,q⟩/\v.toList=a :: .str d.x t::r:=by
 unfold Hw yQ at e;split at e
 ·rename_i f E;unfold SD at e;split at e
  ·rename_i p k nm Q ps b sc gl cl I kV j pm l u ct J O z;simp only[Option.some.injEq,Prod.mk.injEq] at e;#{⟨rfl,rfl⟩,⟨rfl,rfl⟩,⟨rfl,rfl⟩,⟨rfl,rfl⟩,rfl,e}:=e;unfold K0 at e;split at e
   ·rename_i c;split at e
    ·rename_i C cd v q y;split at e
     ·rename_i a n t r B;cases e;&{f,p,k,kV,j,pm,l,c,ct,O,C,cd,v,a,t,r,q,E,z,y,B}
     ·cases e
    ·cases e
   ·cases e
  ·cases e
 ·cases e
def Hx{con:List (Str × Int)}{ab:List DefE}(hb:AM ab){h:Heap}(e:NL con ab h=DI con ab):Says con ab h:=by
 unfold NL DI at e;simp only[Prod.mk.injEq] at e;#{e0,e1,e2,e3,e4}:=e;!N:=Heap.Ns.of_isNs e0;!D:∀d ∈ ab,Hw h d.x=yQ d:=λd hd=>Xi.mp e1 d hd
 !inK:∀a o,(a,o) ∈ ab.flatMap (cU h)->h.get? a=aw o:=λa o he=>by
  #{d,hd,he}:=Yj.mp he;#{f,U,Y,kV,j,pm,I,c,ct,O,J,cd,Q,E,t,r,X,b,k,p,u}:=uK (D d hd);unfold cU at he;rw[b] at he;&DK he
 !lk:∀a o,(a,o) ∈ ab.flatMap (cU h)->(ab.flatMap (cU h)).lookup a=aw o:=λa o he=>by
  #{o',q}:=DJ he;!z:=inK a o' (dJ q);rw[inK a o he] at z;cases z;&q
 ~{⟨_,N⟩,ab.flatMap (cU h),λa o q=>inK a o (dJ q),λa o q its n hs=>?_,λd hd hk=>?_,λmg G=>?_}
 ·#{d,hd,he}:=Yj.mp (dJ q);#{f,U,Y,kV,j,pm,I,c,ct,O,J,cd,Q,E,t,r,X,b,k,p,u}:=uK (D d hd);unfold cU at he;rw[b] at he;dsimp only at he;unfold k9 at he;rw[k] at he;dsimp only at he;rw[p] at he;dsimp only at he;rcases Zn.mp he with z |he
  ·cases z;cases hs
  ·rcases Zn.mp he with z |he
   ·cases z;cases hs
   ·cases he
 ·!z:=Xi.mp e4 d hd;unfold SH at z;cases hz:d.ks with
  |none=>&absurd hz hk
  |some y=>
   rw[hz] at z;#{f,o,fd,c,U,Q,T,b,k,p,u,g5,g6,g7,g8,g9,g10}:=NJ z;~{T,g9,g10,?_,?_,f,o,fd,c,b,k,p,u,g8}
   ·cases hl:(ab.flatMap (cU h)).lookup T with
    |none=>rfl
    |some q=>
     !iq:=inK T q (dJ hl);rw[g9] at iq;cases iq;#{L,l,he}:=Yj.mp (dJ hl);#{f,U,Y,kV,j,pm,I,c,ct,O,J,cd,Q,E,t,r,X,B,C,Z,k4}:=uK (D L l);unfold cU at he;rw[B] at he;dsimp only at he;unfold k9 at he;rw[C] at he;dsimp only at he;rw[Z] at he;dsimp only at he;rcases Zn.mp he with y |he
     ·cases y
     ·rcases Zn.mp he with y |he
      ·cases y;simp at k4
      ·cases he
   ·intro f' o' fd' c' oc' vs' P' q1 q2 q3 q4 q5 q6 q7;#{L,l,he}:=Yj.mp (dJ q1);#{f2,oc2,od2,kV,j,pm,I,c2,ct,O,J,cd,vs2,E,t,r,X,B,C,Z,k4}:=uK (D L l);unfold cU at he;rw[B] at he;dsimp only at he;unfold k9 at he;rw[C] at he;dsimp only at he;rw[Z] at he;dsimp only at he;rcases Zn.mp he with y |he
    ·cases y;cases q2;!ex:L.x=d.x:=q3;rw[ex,b] at B;cases B;rw[k] at C;cases C;cases p;rw[u] at q4;cases q4;!:=inK c oc' (dJ q5);rw[g5] at this;cases this;rw[g6] at q6;cases q6;rw[g7] at q7;cases q7;rfl
    ·rcases Zn.mp he with y |he
     ·cases y;cases q2
     ·cases he
 ·!hm:=sC G;~{λi x v hi=>?_,λx hx=>?_,λi d hi=>?_}
  ·!z:=Xi.mp e2 (x,v) (Zd hi);unfold SE at z;rw[hm] at z;dsimp only at z;split at z
   ·rename_i v' t hv;cases z;&{t,hv}
   ·cases z
  ·!z:=Xi.mp e3 x hx;rw[hm] at z
   simpa using z
  ·!hd:=Zd hi;#{f,U,Y,kV,j,pm,I,c,ct,O,J,cd,Q,E,t,r,X,b,k,p,u}:=uK (D d hd)
   !m1:(f,_) ∈ ab.flatMap (cU h):=Yj.mpr ⟨d,hd,by
    show _ ∈ cU h d;unfold cU;rw[b];dsimp only;unfold k9;rw[k];&Zj⟩
   !m2:(c,_) ∈ ab.flatMap (cU h):=Yj.mpr ⟨d,hd,by
    show _ ∈ cU h d;unfold cU;rw[b];dsimp only;unfold k9;rw[k];dsimp only;rw[p];&Zg _ Zj⟩
   !l1:=lk _ _ m1;!l2:=lk _ _ m2;!kp:V9 (ab.flatMap (cU h)) (.ref f)=aN:=by unfold V9;dsimp only;rw[l1]
   !cdI:V0 (ab.flatMap (cU h)) (.ref c) d.x=aN:=by
    unfold V0;dsimp only;rw[l2];dsimp only;rw[u];simp
   !F:=Mb (st:=d.st) (x:=d.x) (qual:=d.x) l1 cdI kp;~{f,_,by rw[<-hm];&b,kp,F.binds (hb.at hd),F}
def xr{con:List (Str × Int)}{ab:List DefE}{h h':Heap}(x:Says con ab h)(k:∀b o,h.get? b=aw o->h'.get? b=aw o):Says con ab h':=by
 #{⟨m,N⟩,K,KX,ns,J,T}:=x
 !B:∀mg,h'.Ns Zaw mg->h.Ns Zaw mg:=λmg ⟨o,l,E,n,r⟩=>by
  #{o',X,I,j,r'}:=N;!z:=k _ _ j;rw[n] at z;cases z;&{o,l,E,j,r}
 !p:h'.Ns Zaw m:=let ⟨o,l,E,n,r⟩:=N;⟨o,l,E,k _ _ n,r⟩;~{⟨m,p⟩,K,λa o q=>k _ _ (KX a o q),ns,λd hd v=>?_,λmg G=>T mg (B mg G)};#{T,u,U,C,O,f,o,L,c,t5,Y,Q,Z,y}:=J d hd v;&{T,k _ _ u,U,C,O,f,o,L,c,by rw[sC p,<-sC N];&t5,k _ _ Y,Q,Z,y.keeps k}
abbrev sD(con:List (Str × Int))(ab:List DefE)(hb:AM ab):PySem.W.Hook:=
 ⟨DH,λs=>NL con ab s.heap,λ_=>DI con ab,λ_ h=>Says con ab h,λ_ _ e=>Hx hb e,λ_ _ _ x k=>xr x k⟩
def ou{K:VY}{m:List Addr}{H:Hp}:∀ns:List Int,VDs K m H (ns.map D.int) (ns.map V.int)
 |[]=>by rw[Z0,Z0,VDs]
 |a::l=>by rw[Zy,Zy,VDs];&{_,_,rfl,bg,ou l}
def UO:VW (#[]:Array Value).toList:=by first |&.nil |trivial |(unfold VW;simp)
def Hy{l:PySem.W.OpenLaw}{n k i:Nat}{q:Program}{loose:List Str}{XP:(Str->Option Value)->Heap->Prop}{d:DefRec}{con:List (Str × Int)}{ab:List DefE}{hb:AM ab}{dl B:DefE}{z:CE × Pos × Str}{x:Str}
  (hn:l.most=aw n) (hn2:n<=sizeLine) (hdf:d.params.defaults=[]) (hr:Room k callerA) (hx:d.name=dl.x) (hi:ab[i]?=aw dl) (h:dl.ps=[x]) (hc:ab.all (Hs (yM con ab))=aN) (hA:Ht con ab) (hdz:B ∈ ab) (hz:B.ks=aw z) (U:(ab.all λd=>d.ks.isNone || d.x == B.x)=aN)
  (main:∀ns:List Int,ns.length<=n->∃S',evC ab k i [.ref 0] [.frz (ns.map D.int),.tbl B.x z.2.1 z.2.2]=aw (.bl aN,S')) :
  PySem.W.WalkO q loose XP (sD con ab hb).says l.row.toRowW d [] (λf vs=>PySem.call f vs):=by
 ~Att.attach_call hn hdf λw s₀ p mg mb fa o pm cd C a vs ns G Y ho hd Q E O I b hg=>?_;#{_,K,KX,noS,tb,TX}:=(show Says con ab p.heap from Y);!TX:=TX mg G.T.g;#{f,fd,hm,kp,_,F}:=TX.fn i dl hi;rw[hx] at E;rw[E] at hm;cases hm
 !bd:∀ (s:Shared) (u:Value),BindsTo s fd ⟨[u],[]⟩ [(x,u)]:=λs u=>by
  #{oc,od,kV,C,pm,an,L,ct,osl,rfl,lk,Q}:=F.ex;!z:=(hb.at (Zd hi)) kV C pm an L ct [u] (by rw[h];rfl);rw[h] at z;&.of_eq z
 #{T,t1,t2,t3,t4,fz',oz,fdz,c,t5,t6,t7,t8,t9}:=tb B hdz (by rw[hz];simp);!hmz:mg B.x=aw (.ref fz'):=by rw[<-sC G.T.g];&t5
 !bm:p.heap.BuiltinsAt mg T:=by
  #{bm,ob,b1,b2,X,b4,b5,b6}:=G.T.bmain;~{bm,ob,b1,b2,λy=>?_,λy=>?_,X,b4,b5,b6}
  ·#{o,es,ep,ho,hd,_}:=G.T.g;rw[y,ho] at X;cases X;rw[hd] at b6;cases b6
  ·rw[y,t1] at X;cases X;cases b4
 ~AL (CX:=CX0) (T:=T) (c:=c) (ps:=#[]) (sp:=spC K (evC ab k i) dl.ps.length) KX G.T.g G.T.b G.T.builtins G.T.nolimit hg (t9.tab t1) t3 O I (ZJ b hn2) hr t9 bm (λbase KB _ cB bB=>by
  !:=yO (P:=l.row.toRowW.prog) (w:=w) (base:=base) TX hc KB hA (λd' hd' hk' f' fd' J F'=>?_) k i dl hi fa fd E F
  ·rw[h] at this ⊢;&this
  ·!Z:=Yc.mp U d' hd'
   !ex:d'.x=B.x:=by
    cases hk2:d'.ks with
    |none=>&absurd hk2 hk'
    |some y=>rw[hk2] at Z;simpa using Z
   rw[ex,hmz] at J;cases J;#{oc,od,kV,C,pm,an,L,ct,osl,ef,lk,Q}:=F'.ex;!:=KX _ _ lk;rw[t6] at this;cases this;cases t7;&{c,T,t8,cB,bB,t2}) bd (λH hO hS=>?_) λH e s' z=>z
 !fz:∃o,H a=aw (.frz o (.lst (ns.map V.int))):=by
  rcases hS with (z |⟨o,z⟩) |⟨o,its,n',hk,hc,hdd,hdt,_⟩
  ·by_cases aT:a=T
   ·rw[aT,hO.1] at z;cases z
   ·rcases hO.2 a aT with y |⟨o',xs,y⟩
    ·rw[y] at z;cases z
    ·rw[y] at z;cases z
  ·&{o,z}
  ·&absurd hdt (noS a o hk its n')
 #{o,fz}:=fz;!aT:a ≠ T:=λy=>by rw[y,hO.1] at fz;cases fz
 #{S',e}:=main ns b;~{[a,T],[.ref 0],[.frz (ns.map D.int),.tbl B.x z.2.1 z.2.2],.bl aN,S',?_,⟨rfl,by simp[aT],λj ob ej=>?_⟩,by rw[h];rfl,e,λm' H' v A vv=>vv.bls}
 ·rw[VDs];&{_,_,rfl,by rw[VD];&{a,rfl,rfl},by rw[VDs]}
 ·cases j with
  |zero=>cases ej;&{a,rfl,o,_,fz,ou ns}
  |succ j=>
   cases j with
   |zero=>cases ej;&{T,rfl,t4,#[],hO.1,UO,λcv ec=>by cases ec}
   |succ j=>simp at ej
end Ev
namespace Lw
open PySem Ev
abbrev top(i:Nat):Stmt:=PySem.Challenge.pw_downrings_k53_least_stuck_and_least_send.main.body.getD i (.Pass ⟨0,0,0,0⟩)
abbrev ow:List CS:=[.ret (.and (.inst .int (.var 0)) (.not (.inst .bool (.var 0))))]
abbrev lc:List CS:=[.ret (.and (.call 0 [.var 0]) (.chn .le .le (.var 1) (.var 0) (.var 2)))]
abbrev lh:List CS:=[.ret (.call 1 [.var 0,.int 0,.con 0 9999])]
abbrev oB:List CS:=[.ret (.and (.inst .tuple (.var 0)) (.chn .le .le (.var 1) (.len (.var 0)) (.var 2)))]
abbrev jG:List CS:=[.ifs (.or (.not (.call 3 [.var 0,.int 0,.var 1])) (.not (.all (.comp ["number"] (.call 1 [.var 2,.int 0,.bin .sub (.var 1) (.int 1)]) [⟨.name 2,.val (.var 0),aD⟩])))) [.ret (.bl aS)] [],.ret (.all (.comp ["number"] (.cmp .eq (.cnt (.var 0) (.var 2)) (.int 1)) [⟨.name 2,.val (.var 0),aD⟩]))]
abbrev qI:List CS:=[.ret (.tupOf (.comp ["other"] (.var 2) [⟨.name 2,.val (.var 0),aw (.cmp .ne (.var 2) (.var 1))⟩]))]
abbrev qJ:List CS:=[.asg (.name 1) (.lst [.tup []]),.for_ (.name 2) (.val (.var 0)) [.asg (.name 1) (.bin .add (.var 1) (.comp ["lot"] (.bin .add (.var 3) (.tup [.var 2])) [⟨.name 3,.val (.var 1),aD⟩]))],.ret (.var 1)]
abbrev lj:List CS:=[.ifs (.not (.call 3 [.var 0,.int 4,.int 4])) [.ret (.bl aS)] [],.asg (.tup [.name 1,.name 2,.name 3,.name 4]) (.var 0),.ret (.and (.call 1 [.var 1,.int 0,.con 1 8]) (.and (.call 1 [.var 2,.int 0,.con 2 60]) (.and (.call 8 [.var 3]) (.call 11 [.var 4]))))]
abbrev oC:List CS:=[.ifs (.not (.call 3 [.var 0,.int 1,.con 3 4])) [.ret (.bl aS)] [],.ret (.and (.all (.comp ["row"] (.call 9 [.var 1,.len (.var 0)]) [⟨.name 1,.val (.var 0),aD⟩])) (.call 10 [.var 0]))]
abbrev jH:List CS:=[.ret (.and (.call 3 [.var 0,.var 1,.var 1]) (.all (.comp ["gap"] (.call 1 [.var 2,.int 1,.con 4 99]) [⟨.name 2,.val (.var 0),aD⟩])))]
abbrev bT:List CS:=[.asg (.name 1) (.listR (.len (.var 0))),.ret (.all (.comp ["a", "b", "c"] (.cmp .le (.ix (.ix (.var 0) (.var 2)) (.var 3)) (.bin .add (.ix (.ix (.var 0) (.var 2)) (.var 4)) (.ix (.ix (.var 0) (.var 4)) (.var 3)))) [⟨.name 2,.val (.var 1),aD⟩,⟨.name 3,.val (.var 1),aD⟩,⟨.name 4,.val (.var 1),aD⟩]))]
abbrev ll:List CS:=[.ifs (.or (.not (.call 3 [.var 0,.int 0,.con 5 4])) (.not (.all (.comp ["part"] (.call 12 [.var 1]) [⟨.name 1,.val (.var 0),aD⟩])))) [.ret (.bl aS)] [],.ret (.all (.comp ["at"] (.cmp .gt (.ix (.ix (.var 0) (.var 1)) (.int 0)) (.ix (.ix (.var 0) (.bin .sub (.var 1) (.int 1))) (.int 1))) [⟨.name 1,.r2 (.int 1) (.len (.var 0)),aD⟩]))]
abbrev jI:List CS:=[.ret (.and (.call 3 [.var 0,.int 2,.int 2]) (.and (.call 2 [.ix (.var 0) (.int 0)]) (.and (.call 2 [.ix (.var 0) (.int 1)]) (.cmp .lt (.ix (.var 0) (.int 0)) (.ix (.var 0) (.int 1))))))]
abbrev qK:List CS:=[.ret (.call 1 [.var 1,.int 0,.bin .sub (.len (.ix (.var 0) (.int 2))) (.int 1)])]
abbrev fv:List CS:=[.for_ (.tup [.name 2,.name 3]) (.val (.ix (.var 0) (.int 3))) [.ifs (.chn .le .lt (.var 2) (.var 1) (.var 3)) [.ret (.var 3)] []],.ret (.var 1)]
abbrev uL:List CS:=[.ifs (.not (.call 3 [.var 0,.int 4,.int 4])) [.ret (.bl aS)] [],.asg (.tup [.name 1,.name 2,.name 3,.name 4]) (.var 0),.ret (.and (.call 7 [.var 1]) (.and (.call 16 [.var 1,.var 2]) (.and (.call 17 [.var 1,.var 3]) (.call 19 [.var 3,.var 4]))))]
abbrev oE:List CS:=[.ifs (.cmp .is (.var 1) .non) [.ret (.bl aN)] [],.ret (.and (.call 3 [.var 1,.int 2,.int 2]) (.and (.call 13 [.var 0,.ix (.var 1) (.int 0)]) (.call 2 [.ix (.var 1) (.int 1)])))]
abbrev iz:List CS:=[.ret (.and (.call 3 [.var 1,.int 0,.con 6 7]) (.all (.comp ["part"] (.call 18 [.var 0,.var 2]) [⟨.name 2,.val (.var 1),aD⟩])))]
abbrev lm:List CS:=[.ifs (.not (.call 3 [.var 1,.int 7,.int 7])) [.ret (.bl aS)] [],.asg (.tup [.name 2,.name 3,.name 4,.name 5,.name 6,.name 7,.name 8]) (.var 1),.ifs (.not (.all (.comp ["minute"] (.call 2 [.var 9]) [⟨.name 9,.val (.tup [.var 3,.var 4,.var 5,.var 6]),aD⟩]))) [.ret (.bl aS)] [],.ifs (.not (.chn .le .le (.bin .add (.var 3) (.ix (.var 0) (.int 1))) (.var 4) (.var 5))) [.ret (.bl aS)] [],.ret (.and (.call 13 [.var 0,.var 2]) (.and (.call 1 [.var 7,.int 0,.con 7 99]) (.call 1 [.var 8,.int 0,.ix (.var 0) (.int 0)])))]
abbrev lu:List CS:=[.ifs (.not (.call 4 [.var 1,.len (.var 0)])) [.ret (.bl aS)] [],.ret (.all (.comp ["number", "glider"] (.or (.cmp .eq (.ix (.var 3) (.int 6)) (.int 0)) (.cmp .isin (.var 2) (.var 1))) [⟨.tup [.name 2,.name 3],.en (.var 0),aD⟩]))]
abbrev lx:List CS:=[.ret (.tupOf (.comp ["number"] (.var 1) [⟨.name 1,.r1 (.len (.ix (.var 0) (.int 2))),aw (.cmp .notin (.var 1) (.ix (.var 0) (.int 3)))⟩]))]
abbrev lA:List CS:=[.ifs (.not (.call 15 [.var 0])) [.never] []]
abbrev iA:List CS:=[.asg (.tup [.name 2,.name 3,.name 4,.name 5,.name 6,.name 7,.name 8]) (.var 0),.ret (.bin .mul (.var 7) (.mx (.int 0) (.bin .sub (.var 1) (.var 6))))]
abbrev f7:List CS:=[.ifs (.not (.var 1)) [.ret (.ix (.var 0) (.int 1))] [],.asg (.tup [.name 2,.name 3]) (.ix (.var 1) (.neg (.int 1))),.ret (.tup [.ix (.ix (.ix (.var 0) (.int 2)) (.var 2)) (.int 0),.var 3])]
abbrev qL:List CS:=[.ifs (.cmp .is (.var 1) .non) [.ret (.int 0)] [],.ret (.bin .add (.ix (.var 1) (.int 1)) (.ix (.ix (.ix (.ix (.var 0) (.int 0)) (.int 2)) (.ix (.var 1) (.int 0))) (.var 2)))]
abbrev oG:List CS:=[.asg (.tup [.name 3,.name 4]) (.var 1),.ret (.chn .le .lt (.ix (.ix (.ix (.var 0) (.int 2)) (.var 3)) (.int 1)) (.var 2) (.bin .sub (.var 4) (.ix (.ix (.var 0) (.int 0)) (.int 1))))]
abbrev f8:List CS:=[.ret (.len (.comp ["landing"] (.var 3) [⟨.name 3,.val (.var 1),aw (.call 25 [.var 0,.var 3,.var 2])⟩]))]
abbrev dZ:List CS:=[.ret (.srt (.comp ["glider"] (.ix (.var 1) (.int 1)) [⟨.name 1,.val (.ix (.var 0) (.int 2)),aD⟩]))]
abbrev iB:List CS:=[.asg (.tup [.name 3,.name 4,.name 5,.name 6,.name 7,.name 8,.name 9]) (.ix (.ix (.var 0) (.int 2)) (.ix (.ix (.var 1) (.var 2)) (.int 0))),.ret (.and (.cmp .gt (.var 9) (.int 0)) (.and (.call 25 [.var 0,.ix (.var 1) (.var 2),.var 4]) (.cmp .gt (.call 29 [.var 0,.var 1,.var 2,.var 4]) (.var 9))))]
abbrev iC:List CS:=[.asg (.name 4) (.sl (.var 1) aD (aw (.var 2))),.asg (.name 5) (.comp ["when"] (.var 6) [⟨.name 6,.val (.call 27 [.var 0]),aw (.and (.cmp .gt (.var 6) (.var 3)) (.call 25 [.var 0,.ix (.var 1) (.var 2),.var 6]))⟩]),.ret (.mxL (.comp ["when"] (.bin .add (.int 1) (.call 26 [.var 0,.var 4,.var 6])) [⟨.name 6,.val (.bin .add (.lst [.var 3]) (.var 5)),aD⟩]))]
abbrev dM:List CS:=[.asg (.name 2) (.lst []),.for_ (.tup [.name 3,.name 4]) (.en (.var 1)) [.asg (.name 5) (.call 32 [.var 0,.call 23 [.var 0,.var 2],.var 4,.var 3]),.ifs (.cmp .is (.var 5) .non) [.ret (.var 2)] [],.ex (.app (.var 2) (.tup [.var 4,.var 5])),.ifs (.call 28 [.var 0,.var 2,.var 3]) [.ret (.sl (.var 2) aD (aw (.var 3)))] []],.ret (.var 2)]
abbrev fw:List CS:=[.asg (.name 1) (.call 30 [.var 0,.ix (.var 0) (.int 3)]),.ret (.ite (.cmp .eq (.len (.var 1)) (.len (.ix (.var 0) (.int 3)))) (.var 1) .non)]
abbrev fA:List CS:=[.asg (.tup [.name 4,.name 5,.name 6,.name 7,.name 8,.name 9,.name 10]) (.ix (.ix (.var 0) (.int 2)) (.var 2)),.asg (.name 11) (.call 14 [.ix (.var 0) (.int 0),.mx (.var 6) (.call 24 [.var 0,.var 1,.var 4])]),.ifs (.or (.cmp .gt (.var 11) (.var 7)) (.call 33 [.var 0,.var 3,.var 11])) [.ret .non] [],.ret (.var 11)]
abbrev eB:List CS:=[.asg (.tup [.name 3,.name 4,.name 5,.name 6]) (.ix (.var 0) (.int 0)),.asg (.name 7) (.call 27 [.var 0]),.asg (.name 8) (.bin .add (.var 3) (.var 1)),.ret (.and (.cmp .lt (.var 8) (.len (.var 7))) (.cmp .gt (.bin .sub (.var 2) (.var 4)) (.ix (.var 7) (.var 8))))]
abbrev jJ:List CS:=[.asg (.name 2) (.call 31 [.var 0]),.ifs (.cmp .is (.var 2) .non) [.ret .non] [],.asg (.name 3) (.call 36 [.var 0,.var 1,.call 23 [.var 0,.var 2],.call 20 [.var 0],.dic0]),.ifs (.cmp .is (.var 3) .non) [.ret .non] [],.asg (.tup [.name 4,.name 5]) (.var 3),.for_ (.tup [.name 6,.name 7]) (.val (.rev (.var 2))) [.asg (.name 4) (.call 35 [.var 1,.ix (.ix (.var 0) (.int 2)) (.var 6),.var 7,.var 4])],.ret (.tup [.var 4,.bin .add (.ix (.var 0) (.int 3)) (.var 5)])]
abbrev uM:List CS:=[.ifs (.cmp .eq (.var 0) (.str "last")) [.ret (.mx (.var 2) (.var 3))] [],.ifs (.cmp .eq (.var 0) (.str "cost")) [.ret (.bin .add (.call 22 [.var 1,.var 2]) (.var 3))] [],.ret (.mx (.call 22 [.var 1,.var 2]) (.var 3))]
abbrev eN:List CS:=[.ifs (.not (.var 3)) [.ret (.tup [.int 0,.tup []])] [],.asg (.name 5) (.tup [.var 2,.var 3]),.ifs (.cmp .notin (.var 5) (.var 4)) [.asg (.name 6) (.comp ["number"] (.call 37 [.var 0,.var 1,.var 2,.var 3,.var 7,.var 4]) [⟨.name 7,.val (.var 3),aD⟩]),.setI (.mnN (.comp ["way"] (.var 7) [⟨.name 7,.val (.var 6),aw (.cmp .isnot (.var 7) .non)⟩])) (.var 4) (.var 5)] [],.ret (.ix (.var 4) (.var 5))]
abbrev lB:List CS:=[.asg (.name 6) (.call 32 [.var 0,.var 2,.var 4,.bin .sub (.len (.ix (.var 0) (.int 2))) (.len (.var 3))]),.ifs (.cmp .is (.var 6) .non) [.ret .non] [],.asg (.name 7) (.ix (.ix (.var 0) (.int 2)) (.var 4)),.asg (.name 8) (.call 36 [.var 0,.var 1,.tup [.ix (.var 7) (.int 0),.var 6],.call 5 [.var 3,.var 4],.var 5]),.ifs (.cmp .is (.var 8) .non) [.ret .non] [],.ret (.tup [.call 35 [.var 1,.var 7,.var 6,.ix (.var 8) (.int 0)],.bin .add (.tup [.var 4]) (.ix (.var 8) (.int 1))])]
abbrev iE:List CS:=[.ex (.call 21 [.var 0]),.asg (.name 1) (.lst []),.for_ (.name 2) (.val (.call 42 [.var 0])) [.ifs (.and (.not (.call 44 [.var 2,.var 1])) (.not (.call 41 [.call 40 [.var 0,.var 2]]))) [.ex (.app (.var 1) (.var 2))] []],.ret (.var 1)]
abbrev fB:List CS:=[.asg (.name 1) (.call 38 [.var 0]),.asg (.name 2) (.lst []),.for_ (.name 3) (.val (.call 42 [.var 0])) [.ifs (.and (.not (.call 44 [.var 3,.var 2])) (.not (.call 44 [.call 43 [.var 0,.var 3],.var 1]))) [.ex (.app (.var 2) (.var 3))] []],.ret (.var 2)]
abbrev iG:List CS:=[.asg (.tup [.name 2,.name 3,.name 4,.name 5]) (.var 0),.asg (.name 6) (.tupOf (.comp ["number"] (.ix (.var 4) (.var 7)) [⟨.name 7,.val (.var 1),aD⟩])),.ret (.tup [.var 2,.var 3,.var 6,.tupOf (.comp ["number"] (.idx (.var 1) (.var 7)) [⟨.name 7,.val (.var 5),aw (.cmp .isin (.var 7) (.var 1))⟩])])]
abbrev yR:List CS:=[.ret (.cmp .isnot (.call 34 [.var 0,.str "last"]) .non)]
abbrev kz:CE × Pos × Str:=(.call 6 [.listR (.len (.ix (.var 0) (.int 2)))],Ev.UM (top 60), "all_lots.<locals>.<lambda>")
abbrev qM:List CS:=[.ret (.tupOf (.comp ["number"] (.var 2) [⟨.name 2,.r1 (.len (.ix (.var 0) (.int 2))),aw (.cmp .notin (.var 2) (.var 1))⟩]))]
abbrev gC:List CS:=[.ret (.any (.comp ["other"] (.all (.comp ["number"] (.cmp .isin (.var 3) (.var 0)) [⟨.name 3,.val (.var 2),aD⟩])) [⟨.name 2,.val (.var 1),aD⟩]))]
abbrev iH:List CS:=[.ifs (.cmp .lt (.var 1) (.len (.var 0))) [.ret (.ix (.var 0) (.var 1))] [],.ret (.int 0)]
abbrev qN:List CS:=[.ifs (.cmp .ge (.var 0) (.bin .pow (.int 10) (.int 18))) [.ret (.lst [.bin .sub (.var 0) (.bin .pow (.int 10) (.int 18))])] [],.asg (.name 1) (.int 0),.for_ (.name 2) (.r1 (.int 64)) [.asg (.name 3) (.bin .mod (.bin .mul (.bin .add (.bin .add (.bin .mod (.var 0) (.int 2147483629)) (.bin .mul (.int 7919) (.var 2))) (.int 1)) (.int 48271)) (.int 2147483647)),.asg (.name 3) (.bin .mod (.bin .add (.bin .add (.bin .mul (.var 3) (.var 3)) (.bin .mul (.int 69621) (.var 2))) (.int 7)) (.int 2147483587)),.asg (.name 1) (.bin .add (.bin .mul (.var 1) (.int 2147483587)) (.var 3))],.ret (.lst [.var 1])]
abbrev oH:List CS:=[.asg (.name 2) (.bin .mod (.ix (.var 0) (.int 0)) (.var 1)),.setI (.bin .fdiv (.ix (.var 0) (.int 0)) (.var 1)) (.var 0) (.int 0),.ret (.var 2)]
abbrev fL:List CS:=[.asg (.tup [.name 1,.name 2]) (.tup [.bin .add (.int 1) (.call 47 [.var 0,.int 4]),.ix (.lst [.int 3,.int 12,.int 40]) (.call 47 [.var 0,.int 3])]),.asg (.name 3) (.comp ["_law_a"] (.comp ["_law_b"] (.bin .add (.int 1) (.call 47 [.var 0,.var 2])) [⟨.name 7,.r1 (.var 1),aD⟩]) [⟨.name 6,.r1 (.var 1),aD⟩]),.for_ (.name 4) (.r1 (.var 1)) [.for_ (.name 5) (.r1 (.var 1)) [.setI (.comp ["_law_b"] (.mn (.ix (.ix (.var 3) (.var 5)) (.var 6)) (.bin .add (.ix (.ix (.var 3) (.var 5)) (.var 4)) (.ix (.ix (.var 3) (.var 4)) (.var 6)))) [⟨.name 6,.r1 (.var 1),aD⟩]) (.var 3) (.var 5)]],.ret (.tupOf (.comp ["_law_row"] (.tupOf (.var 6)) [⟨.name 6,.val (.var 3),aD⟩]))]
abbrev jK:List CS:=[.asg (.tup [.name 1,.name 2]) (.tup [.lst [],.int 0]),.for_ (.name 3) (.r1 (.call 47 [.var 0,.ix (.lst [.int 1,.int 5]) (.call 47 [.var 0,.int 2])])) [.asg (.name 4) (.bin .add (.var 2) (.call 47 [.var 0,.int 25])),.ex (.app (.var 1) (.tup [.var 4,.bin .add (.bin .add (.var 4) (.int 1)) (.call 47 [.var 0,.int 25])])),.asg (.name 2) (.bin .add (.ix (.ix (.var 1) (.neg (.int 1))) (.int 1)) (.int 1))],.ret (.tup [.ix (.lst [.int 8,.int 1,.int 2,.int 3,.int 0]) (.call 47 [.var 0,.int 5]),.ix (.lst [.int 0,.int 2,.int 9,.int 60]) (.call 47 [.var 0,.int 4]),.call 48 [.var 0],.tupOf (.var 1)])]
abbrev ie:List CS:=[.asg (.tup [.name 2,.name 3]) (.tup [.call 49 [.var 0],.lst []]),.asg (.tup [.name 4,.name 5]) (.tup [.ix (.lst [.int 5,.int 20,.int 60]) (.call 47 [.var 0,.int 3]),.ix (.lst [.int 4,.int 30,.int 90,.int 400]) (.call 47 [.var 0,.int 4])]),.for_ (.name 6) (.r1 (.call 47 [.var 0,.bin .add (.var 1) (.int 1)])) [.asg (.name 7) (.call 47 [.var 0,.var 4]),.asg (.name 8) (.bin .add (.bin .add (.var 7) (.ix (.var 2) (.int 1))) (.ix (.lst [.int 0,.call 47 [.var 0,.int 9]]) (.call 47 [.var 0,.int 2]))),.asg (.tup [.name 9,.name 10]) (.tup [.bin .add (.var 8) (.call 47 [.var 0,.var 5]),.bin .add (.var 7) (.call 47 [.var 0,.var 5])]),.ex (.app (.var 3) (.lst [.call 47 [.var 0,.len (.ix (.var 2) (.int 2))],.var 7,.var 8,.var 9,.var 10,.ix (.lst [.int 0,.int 1,.int 7,.int 99]) (.call 47 [.var 0,.int 4]),.int 0]))],.asg (.tup [.name 11,.name 12]) (.tup [.listR (.len (.var 3)),.lst []]),.for_ (.name 13) (.r1 (.ix (.lst [.int 0,.call 47 [.var 0,.bin .add (.len (.var 3)) (.int 1)]]) (.call 47 [.var 0,.int 2]))) [.ex (.app (.var 12) (.popAt (.var 11) (.call 47 [.var 0,.len (.var 11)]))),.ifs (.and (.cmp .gt (.ix (.var 2) (.int 0)) (.int 0)) (.cmp .eq (.call 47 [.var 0,.int 3]) (.int 0))) [.setI (.bin .add (.int 1) (.call 47 [.var 0,.ix (.var 2) (.int 0)])) (.ix (.var 3) (.ix (.var 12) (.neg (.int 1)))) (.int 6)] []],.asg (.name 14) (.ix (.lst [.non,.tup [.call 47 [.var 0,.len (.ix (.var 2) (.int 2))],.call 47 [.var 0,.int 30]]]) (.call 47 [.var 0,.int 2])),.ret (.tup [.var 2,.var 14,.tupOf (.comp ["_law_one"] (.tupOf (.var 15)) [⟨.name 15,.val (.var 3),aD⟩]),.tupOf (.var 12)])]
abbrev oI:List CS:=[.for_ (.tup [.name 2,.name 3]) (.val (.var 0)) [.ifs (.chn .le .lt (.var 2) (.var 1) (.var 3)) [.asg (.name 1) (.var 3)] []],.ret (.var 1)]
abbrev lH:List CS:=[.ret (.comp ["_law_one", "_law_minute"] (.var 3) [⟨.tup [.name 3,.name 4],.val (.var 1),aw (.chn .le .lt (.ix (.ix (.ix (.var 0) (.int 2)) (.var 3)) (.int 1)) (.var 2) (.bin .sub (.var 4) (.ix (.ix (.var 0) (.int 0)) (.int 1))))⟩])]
abbrev oJ:List CS:=[.asg (.name 4) (.ix (.ix (.ix (.var 0) (.int 2)) (.var 2)) (.int 1)),.asg (.name 5) (.bin .add (.lst [.var 4]) (.comp ["_law_one", "_law_when"] (.ix (.ix (.ix (.var 0) (.int 2)) (.var 7)) (.int 1)) [⟨.tup [.name 7,.name 8],.val (.var 1),aD⟩])),.asg (.name 6) (.comp ["_law_at"] (.bin .add (.int 1) (.len (.call 52 [.var 0,.var 1,.var 7]))) [⟨.name 7,.val (.var 5),aw (.chn .le .lt (.var 4) (.var 7) (.bin .sub (.var 3) (.ix (.ix (.var 0) (.int 0)) (.int 1))))⟩]),.ret (.mxD (.var 6) 0)]
abbrev fM:List CS:=[.asg (.tup [.name 4,.name 5,.name 6,.name 7]) (.sl (.ix (.ix (.var 0) (.int 2)) (.var 2)) aD (aw (.int 4))),.ifs (.cmp .isnot (.var 1) .non) [.asg (.name 6) (.mx (.var 6) (.bin .add (.ix (.var 1) (.int 1)) (.ix (.ix (.ix (.ix (.var 0) (.int 0)) (.int 2)) (.ix (.var 1) (.int 0))) (.var 4))))] [],.asg (.name 8) (.call 51 [.ix (.ix (.var 0) (.int 0)) (.int 3),.var 6]),.asg (.name 9) (.sl (.srt (.comp ["_law_one"] (.ix (.var 10) (.int 1)) [⟨.name 10,.val (.ix (.var 0) (.int 2)),aD⟩])) (aw (.bin .add (.ix (.ix (.var 0) (.int 0)) (.int 0)) (.var 3))) aD),.ifs (.or (.cmp .gt (.var 8) (.var 7)) (.and (.cmp .ne (.var 9) (.lst [])) (.cmp .gt (.bin .sub (.var 8) (.ix (.ix (.var 0) (.int 0)) (.int 1))) (.ix (.var 9) (.int 0))))) [.ret .non] [],.ret (.var 8)]
abbrev iI:List CS:=[.asg (.tup [.name 2,.name 3]) (.tup [.ix (.var 0) (.int 1),.lst []]),.for_ (.tup [.name 4,.name 5]) (.en (.var 1)) [.asg (.tup [.name 6,.name 7]) (.tup [.call 54 [.var 0,.var 2,.var 5,.var 4],.ix (.ix (.ix (.var 0) (.int 2)) (.var 5)) (.int 6)]),.ifs (.or (.cmp .is (.var 6) .non) (.chn .lt .lt (.int 0) (.var 7) (.call 53 [.var 0,.var 3,.var 5,.var 6]))) [.ret (.tup [.str "stuck", .var 4])] [],.ex (.app (.var 3) (.tup [.var 5,.var 6])),.asg (.name 2) (.tup [.ix (.ix (.ix (.var 0) (.int 2)) (.var 5)) (.int 0),.var 6])],.ret (.tup [.str "lands", .var 3])]
abbrev lJ:List CS:=[.ifs (.cmp .eq (.var 2) (.str "last")) [.ret (.mxD (.comp ["_law_one", "_law_minute"] (.var 4) [⟨.tup [.name 3,.name 4],.val (.var 1),aD⟩]) 0)] [],.ret (.sm (.comp ["_law_one", "_law_minute"] (.bin .mul (.ix (.ix (.ix (.var 0) (.int 2)) (.var 3)) (.int 5)) (.mx (.int 0) (.bin .sub (.var 4) (.ix (.ix (.ix (.var 0) (.int 2)) (.var 3)) (.int 4))))) [⟨.tup [.name 3,.name 4],.val (.var 1),aD⟩]))]
abbrev bA:List CS:=[.asg (.tup [.name 2,.name 3]) (.tup [.call 55 [.var 0,.ix (.var 0) (.int 3)],.non]),.asg (.name 4) (.ite (.cmp .eq (.ix (.var 2) (.int 0)) (.str "lands")) (.lst [.tup [.ix (.var 0) (.int 3),.ix (.var 2) (.int 1)]]) (.lst [])),.while_ (.cmp .ne (.var 4) (.lst [])) [.asg (.tup [.name 5,.name 6]) (.pop (.var 4)),.asg (.name 7) (.ite (.cmp .eq (.var 5) (.tup [])) (.ix (.var 0) (.int 1)) (.tup [.ix (.ix (.ix (.var 0) (.int 2)) (.ix (.var 5) (.neg (.int 1)))) (.int 0),.ix (.ix (.var 6) (.neg (.int 1))) (.int 1)])),.ifs (.cmp .eq (.len (.var 5)) (.len (.ix (.var 0) (.int 2)))) [.asg (.name 8) (.call 56 [.var 0,.var 6,.var 1]),.ifs (.or (.cmp .is (.var 3) .non) (.cmp .lt (.var 8) (.ix (.var 3) (.int 0)))) [.asg (.name 3) (.tup [.var 8,.var 5])] []] [],.for_ (.name 9) (.dn (.bin .sub (.len (.ix (.var 0) (.int 2))) (.int 1))) [.ifs (.cmp .notin (.var 9) (.var 5)) [.asg (.name 10) (.call 54 [.var 0,.var 7,.var 9,.len (.var 5)]),.ifs (.cmp .isnot (.var 10) .non) [.ex (.app (.var 4) (.tup [.bin .add (.var 5) (.tup [.var 9]),.bin .add (.var 6) (.lst [.tup [.var 9,.var 10]])]))] []] []]],.ret (.var 3)]
abbrev gD:List CS:=[.asg (.tup [.name 2,.name 3,.name 4,.name 5]) (.var 0),.asg (.name 6) (.tupOf (.comp ["_law_one"] (.idx (.var 1) (.var 7)) [⟨.name 7,.val (.var 5),aw (.cmp .isin (.var 7) (.var 1))⟩])),.ret (.tup [.var 2,.var 3,.tupOf (.comp ["_law_one"] (.ix (.var 4) (.var 7)) [⟨.name 7,.val (.var 1),aD⟩]),.var 6])]
abbrev lK:List CS:=[.ret (.cmp .isnot (.call 57 [.call 58 [.var 0,.var 1],.str "last"]) .non)]
abbrev oK:List CS:=[.asg (.name 1) (.lst [.tup []]),.for_ (.name 2) (.r1 (.var 0)) [.asg (.name 1) (.bin .add (.var 1) (.comp ["_law_lot"] (.bin .add (.var 3) (.tup [.var 2])) [⟨.name 3,.val (.var 1),aD⟩]))],.ret (.comp ["_law_long", "_law_lot"] (.var 4) [⟨.tup [.name 3,.name 4],.val (.srt (.comp ["_law_lot"] (.tup [.len (.var 3),.var 3]) [⟨.name 3,.val (.var 1),aD⟩])),aD⟩])]
abbrev iJ:List CS:=[.asg (.tup [.name 1,.name 2,.name 3,.name 4]) (.call 50 [.var 0,.int 5]),.asg (.name 5) (.ix (.lst [.int 1,.int 4,.int 25]) (.call 47 [.var 0,.int 3])),.asg (.name 6) (.comp ["_law_one"] (.bin .add (.bin .add (.sl (.var 7) aD (aw (.int 3))) (.tup [.bin .add (.ix (.var 7) (.int 2)) (.call 47 [.var 0,.var 5])])) (.sl (.var 7) (aw (.int 4)) aD)) [⟨.name 7,.val (.var 3),aD⟩]),.ret (.tup [.var 1,.var 2,.tupOf (.var 6),.var 4])]
abbrev sE:List CS:=[.ret (.any (.comp ["_law_other"] (.all (.comp ["_law_one"] (.cmp .isin (.var 3) (.var 0)) [⟨.name 3,.val (.var 2),aD⟩])) [⟨.name 2,.val (.var 1),aD⟩]))]
abbrev fC:List CS:=[.asg (.name 1) (.tupR (.len (.ix (.var 0) (.int 2)))),.asg (.name 2) (.dcO (.comp ["_law_lot"] (.tup [.var 6,.call 59 [.var 0,.var 6]]) [⟨.name 6,.val (.call 60 [.len (.ix (.var 0) (.int 2))]),aD⟩])),.asg (.tup [.name 3,.name 4]) (.tup [.lst [],.lst []]),.for_ (.name 5) (.dk (.var 2)) [.ifs (.and (.not (.ix (.var 2) (.var 5))) (.not (.call 62 [.var 5,.var 3]))) [.ex (.app (.var 3) (.var 5))] [],.ifs (.and (.ix (.var 2) (.tupOf (.comp ["_law_one"] (.var 6) [⟨.name 6,.val (.var 1),aw (.cmp .notin (.var 6) (.var 5))⟩]))) (.not (.call 62 [.var 5,.var 4]))) [.ex (.app (.var 4) (.var 5))] []],.ret (.lst [.var 3,.var 4])]
abbrev K2:List CS:=[.for_ (.name 1) (.r1 (.mx (.int 1) (.mn (.len (.var 0)) (.int 3)))) [.asg (.name 2) (.call 46 [.call 45 [.var 0,.var 1]]),.asg (.name 3) (.call 61 [.var 2]),.asg (.tup [.name 4,.name 5]) (.tup [.rep (.var 3),.rep (.call 63 [.var 3])]),.for_ (.name 6) (.r1 (.int 2)) [.asg (.name 7) (.lst [.call 38 [.var 3],.call 39 [.var 3]]),.ifs (.or (.cmp .ne (.rep (.var 7)) (.var 5)) (.cmp .ne (.rep (.var 3)) (.var 4))) [.ret (.bl aS)] [],.for_ (.name 8) (.val (.var 7)) [.ex (.ins (.var 8) (.int 0) (.tup [.int 7]))]]],.ret (.bl aN)]
abbrev iX:DefE:=⟨"is_whole", top 5,["thing"],["thing"],ow,aD⟩
abbrev gF:DefE:=⟨"is_within", top 6,["thing", "least", "most"],["thing", "least", "most"],lc,aD⟩
abbrev gG:DefE:=⟨"is_minute", top 7,["thing"],["thing"],lh,aD⟩
abbrev iY:DefE:=⟨"is_tuple", top 8,["thing", "least", "most"],["thing", "least", "most"],oB,aD⟩
abbrev fN:DefE:=⟨"are_unlike", top 9,["thing", "many"],["thing", "many"],jG,aD⟩
abbrev kE:DefE:=⟨"without", top 10,["numbers", "number"],["numbers", "number"],qI,aD⟩
abbrev kF:DefE:=⟨"lots_of", top 11,["numbers", "lots", "number"],["numbers"],qJ,aD⟩
abbrev gH:DefE:=⟨"is_meadow", top 18,["thing", "rings", "sink", "gaps", "shuts"],["thing"],lj,aD⟩
abbrev iZ:DefE:=⟨"are_gaps", top 19,["thing"],["thing"],oC,aD⟩
abbrev fO:DefE:=⟨"is_gap_row", top 20,["thing", "many"],["thing", "many"],jH,aD⟩
abbrev bu:DefE:=⟨"no_glider_between_helps", top 21,["gaps", "kinds"],["gaps"],bT,aD⟩
abbrev gI:DefE:=⟨"are_shuts", top 22,["thing"],["thing"],ll,aD⟩
abbrev fP:DefE:=⟨"is_stretch", top 23,["thing"],["thing"],jI,aD⟩
abbrev kG:DefE:=⟨"is_kind", top 24,["meadow", "thing"],["meadow", "thing"],qK,aD⟩
abbrev cG:DefE:=⟨"first_not_shut", top 25,["meadow", "minute", "begin", "end"],["meadow", "minute"],fv,aD⟩
abbrev oM:DefE:=⟨"is_sky", top 29,["thing", "meadow", "ahead", "gliders", "fixed"],["thing"],uL,aD⟩
abbrev i6:DefE:=⟨"is_ahead", top 30,["meadow", "thing"],["meadow", "thing"],oE,aD⟩
abbrev eO:DefE:=⟨"are_gliders", top 31,["meadow", "thing"],["meadow", "thing"],iz,aD⟩
abbrev gJ:DefE:=⟨"is_glider", top 32,["meadow", "thing", "kind", "joins", "first", "last", "due", "weight", "ring"],["meadow", "thing"],lm,aD⟩
abbrev gK:DefE:=⟨"are_fixed", top 33,["gliders", "thing"],["gliders", "thing"],lu,aD⟩
abbrev gL:DefE:=⟨"free_ones", top 34,["sky"],["sky"],lx,aD⟩
abbrev gM:DefE:=⟨"check_sky", top 35,["thing"],["thing"],lA,aD⟩
abbrev eP:DefE:=⟨"glider_cost", top 37,["glider", "minute", "kind", "joins", "first", "last", "due", "weight", "ring"],["glider", "minute"],iA,aD⟩
abbrev c6:DefE:=⟨"landing_ahead", top 38,["sky", "sooner", "number", "minute"],["sky", "sooner"],f7,aD⟩
abbrev kH:DefE:=⟨"gap_end", top 39,["sky", "ahead", "kind"],["sky", "ahead", "kind"],qL,aD⟩
abbrev i7:DefE:=⟨"waits_at", top 40,["sky", "landing", "minute", "number", "lands"],["sky", "landing", "minute"],oG,aD⟩
abbrev c7:DefE:=⟨"how_many_wait", top 41,["sky", "landings", "minute"],["sky", "landings", "minute"],f8,aD⟩
abbrev cw:DefE:=⟨"joining_minutes", top 42,["sky"],["sky"],dZ,aD⟩
abbrev eS:DefE:=⟨"is_too_high", top 43,["sky", "landings", "place", "kind", "joins", "first", "last", "due", "weight", "ring"],["sky", "landings", "place"],iB,aD⟩
abbrev eU:DefE:=⟨"ring_needed", top 44,["sky", "landings", "place", "minute", "sooner", "later"],["sky", "landings", "place", "minute"],iC,aD⟩
abbrev cb:DefE:=⟨"soonest_landings", top 46,["sky", "numbers", "landings", "place", "number", "minute"],["sky", "numbers"],dM,aD⟩
abbrev cH:DefE:=⟨"fixed_landings", top 47,["sky", "landings"],["sky"],fw,aD⟩
abbrev cI:DefE:=⟨"soonest_minute", top 48,["sky", "ahead", "number", "place", "kind", "joins", "first", "last", "due", "weight", "ring", "minute"],["sky", "ahead", "number", "place"],fA,aD⟩
abbrev cy:DefE:=⟨"leaves_too_late", top 49,["sky", "place", "minute", "rings", "sink", "gaps", "shuts", "joins", "one_too_many"],["sky", "place", "minute"],eB,aD⟩
abbrev fQ:DefE:=⟨"best_order", top 51,["sky", "aim", "landings", "best", "number", "order", "glider", "minute"],["sky", "aim"],jJ,aD⟩
abbrev oO:DefE:=⟨"joined", top 52,["aim", "glider", "minute", "number"],["aim", "glider", "minute", "number"],uM,aD⟩
abbrev bZ:DefE:=⟨"best_behind", top 53,["sky", "aim", "ahead", "left", "known", "key", "ways"],["sky", "aim", "ahead", "left", "known"],eN,aD⟩
abbrev gN:DefE:=⟨"best_with", top 54,["sky", "aim", "ahead", "left", "number", "known", "minute", "glider", "best"],["sky", "aim", "ahead", "left", "number", "known"],lB,aD⟩
abbrev eV:DefE:=⟨"least_stuck", top 56,["sky", "found", "lot"],["sky"],iE,aD⟩
abbrev cJ:DefE:=⟨"least_sendings", top 57,["sky", "stuck", "found", "lot"],["sky"],fB,aD⟩
abbrev eW:DefE:=⟨"narrowed_to", top 58,["sky", "lot", "meadow", "ahead", "gliders", "fixed", "kept"],["sky", "lot"],iG,aD⟩
abbrev sF:DefE:=⟨"lands", top 59,["sky"],["sky"],yR,aD⟩
abbrev fR:DefE:=⟨"all_lots", top 60,["sky"],["sky"],[],aw kz⟩
abbrev kI:DefE:=⟨"all_but", top 61,["sky", "lot"],["sky", "lot"],qM,aD⟩
abbrev lP:DefE:=⟨"holds_one", top 62,["lot", "others"],["lot", "others"],gC,aD⟩
abbrev eX:DefE:=⟨"_law_cell_at", top 64,["_law_script", "_law_k"],["_law_script", "_law_k"],iH,aD⟩
abbrev kJ:DefE:=⟨"_law_pot", top 65,["_law_cell", "_law_number", "_law_j", "_law_more"],["_law_cell"],qN,aD⟩
abbrev i8:DefE:=⟨"_law_take", top 66,["_law_pot_here", "_law_wide", "_law_found"],["_law_pot_here", "_law_wide"],oH,aD⟩
abbrev i9:DefE:=⟨"_law_gaps", top 67,["_law_pot_here", "_law_many", "_law_far", "_law_found", "_law_c", "_law_a"],["_law_pot_here"],fL,aD⟩
abbrev fS:DefE:=⟨"_law_meadow", top 68,["_law_pot_here", "_law_shuts", "_law_at", "_law_turn", "_law_begin"],["_law_pot_here"],jK,aD⟩
abbrev kK:DefE:=⟨"_law_sky", top 69,["_law_pot_here", "_law_most", "_law_meadow_here", "_law_gliders", "_law_wide", "_law_long", "_law_number", "_law_joins", "_law_first", "_law_last", "_law_due_here", "_law_left", "_law_fixed", "_law_turn", "_law_ahead"],["_law_pot_here", "_law_most"],ie,aD⟩
abbrev ja:DefE:=⟨"_law_open", top 70,["_law_shuts", "_law_minute", "_law_begin", "_law_end"],["_law_shuts", "_law_minute"],oI,aD⟩
abbrev gO:DefE:=⟨"_law_waits", top 71,["_law_sky_here", "_law_landed", "_law_at"],["_law_sky_here", "_law_landed", "_law_at"],lH,aD⟩
abbrev jb:DefE:=⟨"_law_need", top 72,["_law_sky_here", "_law_landed", "_law_number", "_law_minute", "_law_joins", "_law_known", "_law_counts"],["_law_sky_here", "_law_landed", "_law_number", "_law_minute"],oJ,aD⟩
abbrev jc:DefE:=⟨"_law_step", top 73,["_law_sky_here", "_law_ahead", "_law_number", "_law_place", "_law_kind", "_law_joins", "_law_first", "_law_last", "_law_minute", "_law_late"],["_law_sky_here", "_law_ahead", "_law_number", "_law_place"],fM,aD⟩
abbrev eY:DefE:=⟨"_law_soonest", top 74,["_law_sky_here", "_law_order", "_law_ahead", "_law_landed", "_law_place", "_law_number", "_law_minute", "_law_ring"],["_law_sky_here", "_law_order"],iI,aD⟩
abbrev gP:DefE:=⟨"_law_worth", top 75,["_law_sky_here", "_law_landed", "_law_aim"],["_law_sky_here", "_law_landed", "_law_aim"],lJ,aD⟩
abbrev jd:DefE:=⟨"_law_best", top 76,["_law_sky_here", "_law_aim", "_law_start", "_law_found", "_law_left", "_law_order", "_law_landed", "_law_ahead", "_law_worth_here", "_law_number", "_law_minute"],["_law_sky_here", "_law_aim"],bA,aD⟩
abbrev dN:DefE:=⟨"_law_narrowed", top 77,["_law_sky_here", "_law_lot", "_law_meadow_here", "_law_ahead", "_law_gliders", "_law_fixed", "_law_kept"],["_law_sky_here", "_law_lot"],gD,aD⟩
abbrev gQ:DefE:=⟨"_law_lands", top 78,["_law_sky_here", "_law_lot"],["_law_sky_here", "_law_lot"],lK,aD⟩
abbrev je:DefE:=⟨"_law_lots", top 79,["_law_many", "_law_found", "_law_one"],["_law_many"],oK,aD⟩
abbrev eZ:DefE:=⟨"_law_crowded", top 80,["_law_pot_here", "_law_meadow_here", "_law_ahead", "_law_gliders", "_law_fixed", "_law_far", "_law_some"],["_law_pot_here"],iJ,aD⟩
abbrev jL:DefE:=⟨"_law_within", top 81,["_law_lot", "_law_others"],["_law_lot", "_law_others"],sE,aD⟩
abbrev kL:DefE:=⟨"_law_due", top 82,["_law_sky_here", "_law_every", "_law_lands_here", "_law_stuck", "_law_sent", "_law_lot"],["_law_sky_here"],fC,aD⟩
abbrev yS:DefE:=⟨"law", top 83,["_law_script", "_law_k", "_law_pot_here", "_law_sky_here", "_law_kept", "_law_due_here", "_law_turn", "_law_found", "_law_some"],["_law_script"],K2,aD⟩
abbrev ab:List DefE:=[iX,gF,gG,iY,fN,kE,kF,gH,iZ,fO,bu,gI,fP,kG,cG,oM,i6,eO,gJ,gK,gL,gM,eP,c6,kH,i7,c7,cw,eS,eU,cb,cH,cI,cy,fQ,oO,bZ,gN,eV,cJ,eW,sF,fR,kI,lP,eX,kJ,i8,i9,fS,kK,ja,gO,jb,jc,eY,gP,jd,dN,gQ,je,eZ,jL,kL,yS]
abbrev con:List (Str × Int):=[("LAST_MINUTE", 9999),("MOST_RINGS", 8),("MOST_SINK", 60),("MOST_KINDS", 4),("MOST_GAP", 99),("MOST_SHUTS", 4),("MOST_GLIDERS", 7),("MOST_WEIGHT", 99)]
def chk:ab.all (Hs (yM con ab))=aN:=by kernel_rfl
def UQ:Ht con ab:=Hu (f:=42) (dz:=fR) (z:=kz) rfl rfl (by kernel_rfl) ⟨_,_,_,_,_,_,_,_,_,_,_,_,_,_,rfl,by kernel_rfl,by kernel_rfl,λ_ _ _ _=>rfl,λ_ _ _=>rfl,λ_=>rfl,λ_=>rfl⟩
def us1:∀ {u:List Value},u.length=1->∃b,u=[b]
 |[b],_=>⟨b,rfl⟩
def us2:∀ {u:List Value},u.length=2->∃c b,u=[c,b]
 |[c,b],_=>⟨c,b,rfl⟩
def us3:∀ {u:List Value},u.length=3->∃d b c,u=[d,b,c]
 |[d,b,c],_=>⟨d,b,c,rfl⟩
def us4:∀ {u:List Value},u.length=4->∃f d c b,u=[f,d,c,b]
 |[f,d,c,b],_=>⟨f,d,c,b,rfl⟩
def us5:∀ {u:List Value},u.length=5->∃h f d c b,u=[h,f,d,c,b]
 |[h,f,d,c,b],_=>⟨h,f,d,c,b,rfl⟩
def us6:∀ {u:List Value},u.length=6->∃h f d c b j,u=[h,f,d,c,b,j]
 |[h,f,d,c,b,j],_=>⟨h,f,d,c,b,j,rfl⟩
def bind:AM ab:=by
 repeat' apply And.intro
 all_goals first |trivial |(intro _ _ _ _ _ _ u h;first |(#{_,rfl}:=us1 h;rfl) |(#{_,_,rfl}:=us2 h;rfl) |(#{_,_,_,rfl}:=us3 h;rfl) |(#{_,_,_,_,rfl}:=us4 h;rfl) |(#{_,_,_,_,_,rfl}:=us5 h;rfl) |(#{_,_,_,_,_,_,rfl}:=us6 h;rfl))
end Lw
section
open PySem PySem.W PyProof.Rows
noncomputable abbrev Lw.view:Program:={ PySem.Challenge.pw_downrings_k53_least_stuck_and_least_send with main:={ PySem.Challenge.pw_downrings_k53_least_stuck_and_least_send.main with body:=[Lw.top 83] } }
noncomputable abbrev Lw.loose:List PySem.Str:=List.map PySem.Str.ofString ["is_whole", "is_within", "is_minute", "is_tuple", "are_unlike", "without", "lots_of", "is_meadow", "are_gaps", "is_gap_row", "no_glider_between_helps", "are_shuts", "is_stretch", "is_kind", "first_not_shut", "is_sky", "is_ahead", "are_gliders", "is_glider", "are_fixed", "free_ones", "check_sky", "glider_cost", "landing_ahead", "gap_end", "waits_at", "how_many_wait", "joining_minutes", "is_too_high", "ring_needed", "soonest_landings", "fixed_landings", "soonest_minute", "leaves_too_late", "best_order", "joined", "best_behind", "best_with", "least_stuck", "least_sendings", "narrowed_to", "lands", "all_lots", "all_but", "holds_one", "_law_cell_at", "_law_pot", "_law_take", "_law_gaps", "_law_meadow", "_law_sky", "_law_open", "_law_waits", "_law_need", "_law_step", "_law_soonest", "_law_worth", "_law_best", "_law_narrowed", "_law_lands", "_law_lots", "_law_crowded", "_law_within", "_law_due", "LAST_MINUTE", "MOST_RINGS", "MOST_SINK", "MOST_KINDS", "MOST_GAP", "MOST_SHUTS", "MOST_GLIDERS", "MOST_WEIGHT", "RingError", "NoSky"]
set_option maxHeartbeats 0 in
def Lw.said:PySem.Challenge.rw_downrings_k53_least_stuck_and_least_send.wellSaid=aN:=by kernel_rfl
set_option maxHeartbeats 0 in
def Lw.head(h:∀ns:List Int,ns.length<=63->∃b,Ev.evC Lw.ab 40 64 [.ref 0] [.frz (ns.map Ev.D.int),.tbl "all_lots" Lw.kz.2.1 Lw.kz.2.2]=aw (.bl aN,b)):PySem.Challenge.rw_downrings_k53_least_stuck_and_least_send.Holds:=by
 w_on;~holds_law Lw.said λsaid=>?_
 ~holds_open (q:=Lw.view) (loose:=Lw.loose) (Xt:=(λs=>xlAt Lw.view [] s && recOk (RowW.records PySem.Challenge.rw_downrings_k53_least_stuck_and_least_send.row.toRowW) s)) (XP:=XL Lw.view []) (Yf:=(Hook.obs (Ev.sD Lw.con Lw.ab Lw.bind))) (Ya:=(Hook.val (Ev.sD Lw.con Lw.ab Lw.bind))) (YP:=Hook.says (Ev.sD Lw.con Lw.ab Lw.bind)) (N:=20000) ?hl (Hook.of _) (Hook.keeps _) (λs e=>xl_of s (Wa.mp e).1) XL.keeps (by rfl) (by rfl) (by rfl) (λs e=>recFacts_of (Wa.mp e).2) (by rfl) (by first |assumption |decide +kernel) (by decide +kernel) ⟨rfl,rfl,rfl,rfl,rfl,by decide +kernel⟩ ?hw ?hc
 case hw=>w_witness2
 case hl=>exactλw=>by kernel_rfl
 case hc=>&Ev.Hy (l:=PySem.Challenge.rw_downrings_k53_least_stuck_and_least_send) (n:=63) (k:=40) (i:=64) (dl:=Lw.yS) rfl (by decide) rfl ⟨rfl,by decide,by decide,rfl⟩ rfl rfl rfl Lw.chk Lw.UQ (dz:=Lw.fR) (z:=Lw.kz) (Zd (i:=42) rfl) rfl (by kernel_rfl) h
end
namespace Ev
open PySem PySem.Spec PyProof.Rows L2
abbrev Ok{b:Type}(x:Option (b × Sto))(Q:b->Sto->Prop):Prop:=∃a S,x=aw (a,S)/\Q a S
abbrev OkS(x:Option (Fl × Rho × Sto))(Q:Fl->Rho->Sto->Prop):Prop:=∃f b S,x=aw (f,b,S)/\Q f b S
section
variable {α β:Type} {S S':Sto} {ρ ρ':Rho}
def aK{a:α}{Q:α->Sto->Prop}:Ok (aw (a,S)) Q=Q a S:=by
 apply propext;&{λ⟨_,_,e,q⟩=>by cases e;&q,λq=>⟨a,S,rfl,q⟩}
def bh{Q:α->Sto->Prop}:Ok aD Q=False:=propext ⟨λ⟨_,_,e,_⟩=>(nomatch e),λh=>h.elim⟩
def bJ{x:Option (α × Sto)}{f:α->Sto->Option (β × Sto)}{Q:β->Sto->Prop}:Ok (bnd x f) Q=Ok x λa S=>Ok (f a S) Q:=by
 apply propext;constructor
 ·rintro⟨b,S',e,q⟩;#{a,S,c,E}:=ac e;&{a,S,c,b,S',E,q}
 ·rintro⟨a,S,c,b,S',E,q⟩;&{b,S',by rw[c];&E,q}
def dP{c:Prop}[Decidable c]{x y:Option (α × Sto)}{Q:α->Sto->Prop}:Ok (if c then x else y) Q=if c then Ok x Q else Ok y Q:=by split <;> rfl
def NM{x:Option β}{f:β->α × Sto}{Q:α->Sto->Prop}:Ok (x.map f) Q=∃b,x=aw b/\Q (f b).1 (f b).2:=by
 apply propext;cases x with
 |none=>&{λ⟨_,_,e,_⟩=>(nomatch e),λ⟨_,e,_⟩=>(nomatch e)}
 |some b=>&{λ⟨a,S,e,q⟩=>⟨b,rfl,by !E:=Option.some.inj e;rw[E];&q⟩,λ⟨B,e,q⟩=>by cases e;&{_,_,rfl,q}}
def Ok.mono{x:Option (α × Sto)}{Q Q':α->Sto->Prop}(h:Ok x Q)(f:∀a S,Q a S->Q' a S):Ok x Q':=let ⟨a,S,e,q⟩:=h;⟨a,S,e,f a S q⟩
def OkS.mono{x:Option (Fl × Rho × Sto)}{Q Q':Fl->Rho->Sto->Prop}(h:OkS x Q)(f:∀a ρ S,Q a ρ S->Q' a ρ S):OkS x Q':=let ⟨a,ρ,S,e,q⟩:=h;⟨a,ρ,S,e,f a ρ S q⟩
abbrev nxt(y:XS)(Q:Fl->Rho->Sto->Prop)(f:Fl)(ρ:Rho)(S:Sto):Prop:=match f with
 |.nx=>OkS (y ρ S) Q
 |f=>Q f ρ S
def Hz{x y:XS}{Q:Fl->Rho->Sto->Prop}:OkS (CC x y ρ S) Q=OkS (x ρ S) (nxt y Q):=by
 apply propext;unfold CC;constructor
 ·rintro⟨f,b,c,e,q⟩;split at e
  ·cases e
  ·rename_i d j h;&{_,_,_,h,f,b,c,e,q}
  ·rename_i r n h;cases e;cases f with
   |nx=>&absurd rfl (n b c)
   |_=>&{_,_,_,h,q}
 ·rintro⟨f,b,c,e,q⟩;rw[e];cases f with
  |nx=>&q
  |_=>&{_,_,_,rfl,q}
def NN{c:XT}{x y:XS}{Q:Fl->Rho->Sto->Prop}:OkS (xIf c x y ρ S) Q=Ok (c ρ S) λb j=>if b=aN then OkS (x ρ j) Q else OkS (y ρ j) Q:=by
 apply propext;unfold xIf;constructor
 ·rintro⟨f,d,j,e,q⟩;cases h:c ρ S with
  |none=>rw[h] at e;cases e
  |some r=>
   #{b,k}:=r;rw[h] at e;~{b,k,rfl,?_};dsimp only at e ⊢;split
   ·rename_i hb;rw[if_pos hb] at e;&{f,d,j,e,q}
   ·rename_i hb;rw[if_neg hb] at e;&{f,d,j,e,q}
 ·rintro⟨b,k,e,q⟩;rw[e];dsimp only;split
  ·rename_i hb;rw[if_pos hb] at q;&q
  ·rename_i hb;rw[if_neg hb] at q;&q
def HA{x:XE}{t:Tg}{Q:Fl->Rho->Sto->Prop}:OkS (pO x t ρ S) Q=Ok (x ρ S) λd S1=>∃b,aA t d ρ=aw b/\Q .nx b S1:=by
 apply propext;unfold pO;constructor
 ·rintro⟨f,b,S1,e,q⟩;cases h:x ρ S with
  |none=>rw[h] at e;cases e
  |some r=>
   #{d,k}:=r;rw[h] at e;dsimp only at e;cases c:aA t d ρ with
   |none=>rw[c] at e;cases e
   |some j=>rw[c] at e;cases e;&{d,_,rfl,b,c,q}
 ·rintro⟨d,k,e,b,E,q⟩;rw[e];dsimp only;rw[E];&{_,_,_,rfl,q}
def DM{x:XE}{Q:Fl->Rho->Sto->Prop}:OkS (uq x ρ S) Q=Ok (x ρ S) λ_ S1=>Q .nx ρ S1:=by
 apply propext;unfold uq;constructor
 ·rintro⟨f,b,S1,e,q⟩;cases h:x ρ S with
  |none=>rw[h] at e;cases e
  |some r=>rw[h] at e;cases e;&{_,_,rfl,q}
 ·rintro⟨d,c,e,q⟩;rw[e];&{_,_,_,rfl,q}
def HB{x:XE}{Q:Fl->Rho->Sto->Prop}:OkS (CD x ρ S) Q=Ok (x ρ S) λd S1=>Q (.rt d) ρ S1:=by
 apply propext;unfold CD;constructor
 ·rintro⟨f,b,S1,e,q⟩;cases h:x ρ S with
  |none=>rw[h] at e;cases e
  |some r=>rw[h] at e;cases e;&{_,_,rfl,q}
 ·rintro⟨d,c,e,q⟩;rw[e];&{_,_,_,rfl,q}
def DN{v o i:XE}{Q:Fl->Rho->Sto->Prop}:OkS (ur v o i ρ S) Q=Ok (v ρ S) λa j=>Ok (o ρ j) λb p=>Ok (i ρ p) λc l=>∃S4,ko b c a l=aw S4/\Q .nx ρ S4:=by
 apply propext;unfold ur;constructor
 ·rintro⟨f,y,j,e,q⟩;cases h:v ρ S with
  |none=>rw[h] at e;cases e
  |some r=>
   rw[h] at e;dsimp only at e;cases k:o ρ r.2 with
   |none=>rw[k] at e;cases e
   |some r2=>
    rw[k] at e;dsimp only at e;cases d:i ρ r2.2 with
    |none=>rw[d] at e;cases e
    |some n=>
     rw[d] at e;dsimp only at e;cases h4:ko r2.1 n.1 r.1 n.2 with
     |none=>rw[h4] at e;cases e
     |some S4=>rw[h4] at e;cases e;&{_,_,rfl,_,_,k,_,_,d,_,h4,q}
 ·rintro⟨a,j,E,b,p,z,c,l,u,S4,B,q⟩;rw[E];dsimp only;rw[z];dsimp only;rw[u];dsimp only;rw[B];&{_,_,_,rfl,q}
def HC{it:XI}{T:Tg}{b:XS}{k:Nat}{Q:Fl->Rho->Sto->Prop}:OkS (CF it T b k ρ S) Q=Ok (it ρ S) λnx c=>OkS (eJ nx T b k 0 ρ c) Q:=by
 apply propext;unfold CF;constructor
 ·rintro⟨f,j,c,e,q⟩;cases h:it ρ S with
  |none=>rw[h] at e;cases e
  |some r=>rw[h] at e;&{_,_,rfl,_,_,_,e,q}
 ·rintro⟨d,l,e,q⟩;rw[e];&q
abbrev out(Q:D->Sto->Prop)(f:Fl)(_:Rho)(S:Sto):Prop:=match f with
 |.rt v=>Q v S
 |.nx=>Q .non S
 |_=>False
def NP{Q:D->Sto->Prop}{d:D}:out Q (.rt d) ρ S=Q d S:=rfl
def NQ{Q:D->Sto->Prop}:out Q .nx ρ S=Q .non S:=rfl
def av{ab:List DefE}{k f:Nat}{d:DefE}{c:List D}{Q:D->Sto->Prop}(hd:ab[f]?=aw d)(b:c.map aw++ZP (d.N.length - c.length) aD=ρ)(h:OkS (eM (evC ab k) (cu ab) 60 d.body ρ S) (out Q))(l:d.ks=aD:=by rfl):Ok (evC ab (k+1) f c S) Q:=by
 subst b;simp only[evC,hd,l,NF];#{n,j,p,e,q}:=h;show Ok (match eM (evC ab k) (cu ab) FU d.body _ S with |some (.rt v,_,S')=>aw (v,S') |some (.nx,_,S')=>aw (.non,S') |_=>aD) Q;unfold FU;rw[e];cases n with
 |rt v=>&{_,_,rfl,q}
 |nx=>&{_,_,rfl,q}
 |bk=>&q.elim
 |ct=>&q.elim
def qO{nx:Nxt}{T:Tg}{c:XA}{N:Nat}(I:Nat->List D->Sto->Prop)
  (step:∀i b S,i < N->I i b S->∃d f,nx i S=aw (aw d)/\aA T d ρ=aw f/\Ok (c f S) λE j=>I (i+1) (b++E) j) (stop:∀b S,I N b S->nx N S=aw aD) :
  ∀ (n i k:Nat) (b:List D) (S:Sto),N=i+n->n < k->I i b S->Ok (bC nx T c ρ k i S) λE S'=>I N (b++E) S'
 |0,i,k+1,b,S,hN,hk,h=>by
  obtain rfl:N=i:=by omega
  simp only[bC,stop b S h];&{_,_,rfl,by show I _ (b++[]) S;rw[Z8];&h}
 |n+1,i,k+1,b,S,hN,hk,h=>by
  #{d,f,l,y,E,j,q,p}:=step i b S (by omega) h;simp only[bC,l,y,q,bnd];#{u,v,B,z}:=qO I step stop n (i+1) k (b++E) j (by omega) (by omega) p;simp only[B];&{_,_,rfl,by show I _ (b++(E++u)) v;rw[<-Yk];&z}
def gR{nx:Nxt}{T:Tg}{c:XA}{k:Nat}(N:Nat)(I:Nat->List D->Sto->Prop)(j:N < k)
  (step:∀i b S,i < N->I i b S->∃d f,nx i S=aw (aw d)/\aA T d ρ=aw f/\Ok (c f S) λE l=>I (i+1) (b++E) l) (stop:∀b S,I N b S->nx N S=aw aD) (h:I 0 [] S) :
  Ok (bC nx T c ρ k 0 S) (I N):=(qO I step stop N 0 k [] S (by omega) j h).mono λE S' z=>by rw[XZ] at z;&z
def oP{nx:Nxt}{T:Tg}{b:XS}{N:Nat}{Q:Fl->Rho->Sto->Prop}(I:Nat->Rho->Sto->Prop)
  (step:∀i ρ S,i < N->I i ρ S->∃d f,nx i S=aw (aw d)/\aA T d ρ=aw f/\OkS (b f S) λp c j=>match p with |.nx=>I (i+1) c j |.ct=>I (i+1) c j |.bk=>Q .nx c j |.rt d=>Q (.rt d) c j)
  (stop:∀ρ S,I N ρ S->nx N S=aw aD/\Q .nx ρ S) :
  ∀ (n i k:Nat) (ρ:Rho) (S:Sto),N=i+n->n < k->I i ρ S->OkS (eJ nx T b k i ρ S) Q
 |0,i,k+1,ρ,S,hN,hk,h=>by
  obtain rfl:N=i:=by omega
  simp only[eJ,(stop ρ S h).1];&{_,_,_,rfl,(stop ρ S h).2}
 |n+1,i,k+1,ρ,S,hN,hk,h=>by
  #{d,f,E,u,p,c,j,q,l}:=step i ρ S (by omega) h;simp only[eJ,E,u,q];cases p with
  |nx=>&oP I step stop n (i+1) k c j (by omega) (by omega) l
  |ct=>&oP I step stop n (i+1) k c j (by omega) (by omega) l
  |bk=>&{_,_,_,rfl,l}
  |rt d=>&{_,_,_,rfl,l}
def ig{nx:Nxt}{T:Tg}{b:XS}{k:Nat}{Q:Fl->Rho->Sto->Prop}(N:Nat)(I:Nat->Rho->Sto->Prop)(l:N < k)
  (step:∀i ρ S,i < N->I i ρ S->∃d f,nx i S=aw (aw d)/\aA T d ρ=aw f/\OkS (b f S) λn c j=>match n with |.nx=>I (i+1) c j |.ct=>I (i+1) c j |.bk=>Q .nx c j |.rt d=>Q (.rt d) c j)
  (stop:∀ρ S,I N ρ S->nx N S=aw aD/\Q .nx ρ S) (h:I 0 ρ S):OkS (eJ nx T b k 0 ρ S) Q:=oP I step stop N 0 k ρ S (by omega) l h
end
mutual
noncomputable def TD(p:Nat)(S:Sto):Dw.D->D->Prop
 |.non,d=>d = .non
 |.bl b,d=>d = .bl b
 |.int i,d=>d = .int i
 |.str x,d=>d = .str x
 |.tup ts,d=>∃c,d = .tup c/\TDs p S ts c
 |.lst ts,d=>∃n c,d = .ref n/\n ≠ p/\S[n]?=aw (.lst c)/\TDs p S ts c
 |.dic _ _,_=>False
noncomputable def TDs(p:Nat)(S:Sto):List Dw.D->List D->Prop
 |[],ds=>ds=[]
 |t::ts,ds=>∃d r,ds=d::r/\TD p S t d/\TDs p S ts r
end
abbrev Kp(p:Nat)(S b:Sto):Prop:=∀i o,i ≠ p->S[i]?=aw o->b[i]?=aw o
abbrev Sm(S b:Sto):Prop:=∀ (i:Nat) (o:Ob),S[i]?=aw o->b[i]?=aw o
def Sm.kp{p:Nat}{S S':Sto}(h:Sm S S'):Kp p S S':=λi o _ e=>h i o e
def Sm.refl(S:Sto):Sm S S:=λ_ _ e=>e
def Sm.trans{S c S2:Sto}(a:Sm S c)(b:Sm c S2):Sm S S2:=λi o e=>b i o (a i o e)
def Sm.app(S X:Sto):Sm S (S++X):=λi o e=>by
 !hi:=(Zb.mp e).1;rw[Zt hi];&e
def Kp.refl(p:Nat)(S:Sto):Kp p S S:=λ_ _ _ e=>e
def Kp.trans{p:Nat}{S c S2:Sto}(a:Kp p S c)(b:Kp p c S2):Kp p S S2:=λi o n e=>b i o n (a i o n e)
section
variable {p:Nat} {S S':Sto}
def NR:TD p S .non .non:=by rw[TD]
def bK{i:Int}:TD p S (.int i) (.int i):=by rw[TD]
def bL{T:List Dw.D}{d:List D}(h:TDs p S T d):TD p S (.tup T) (.tup d):=by rw[TD];&{d,rfl,h}
def bP:TDs p S [] []:=by rw[TDs]
def au{t:Dw.D}{d:D}{T:List Dw.D}{b:List D}(h:TD p S t d)(q:TDs p S T b):TDs p S (t::T) (d::b):=by rw[TDs];&{d,b,rfl,h,q}
def TD.non{d:D}(h:TD p S .non d):d = .non:=by rw[TD] at h;&h
def TD.bl{b:Bool}{d:D}(h:TD p S (.bl b) d):d = .bl b:=by rw[TD] at h;&h
def TD.int{i:Int}{d:D}(h:TD p S (.int i) d):d = .int i:=by rw[TD] at h;&h
def TD.str{x:Str}{d:D}(h:TD p S (.str x) d):d = .str x:=by rw[TD] at h;&h
def TD.tup{T:List Dw.D}{d:D}(h:TD p S (.tup T) d):∃ds,d = .tup ds/\TDs p S T ds:=by rw[TD] at h;&h
def TDs.cons{t:Dw.D}{T:List Dw.D}{b:List D}(h:TDs p S (t::T) b):∃d r,b=d::r/\TD p S t d/\TDs p S T r:=by rw[TDs] at h;&h
def TDs.nil{d:List D}(h:TDs p S [] d):d=[]:=by rw[TDs] at h;&h
def TDs.len:∀ {T:List Dw.D} {b:List D},TDs p S T b->b.length=T.length
 |[],_,h=>by rw[h.nil];rfl
 |t::T,_,h=>by #{d,r,rfl,_,q}:=h.cons;simp[q.len]
abbrev tyT:Dw.D->String
 |.non => "NoneType" |.bl _ => "bool" |.int _ => "int" |.str _ => "str" |.tup _ => "tuple" |.lst _ => "list" |.dic _ _ => "dict"
def SJ{t:Dw.D}{d:D}(h:TD p S t d):tyN d S=aw (tyT t):=by
 cases t with
 |non=>rw[h.non];rfl
 |bl _=>rw[h.bl];rfl
 |int _=>rw[h.int];rfl
 |str _=>rw[h.str];rfl
 |tup _=>#{_,rfl,_}:=h.tup;rfl
 |lst _=>rw[TD] at h;#{n,b,rfl,_,e,_}:=h;simp only[tyN,e];rfl
 |dic _ _=>rw[TD] at h;&h.elim
def sG{ty:Ty}{t:Dw.D}{d:D}(h:TD p S t d):nA ty d S=aw (.bl (gu ty (tyT t)),S):=by
 unfold nA;rw[SJ h];rfl
end
def HD{n:Nat}:Ok (uv g n x c S) Q=Ok (x c S) λd b=>d.length=n/\Ok (g d b) Q:=by
 unfold uv;rw[bJ]
 congr 1
 funext d b
 rw[dP,bh];apply propext;split
 ·rename_i h;&{λz=>⟨h,z⟩,λz=>z.2}
 ·rename_i h;&{λz=>z.elim,λz=>(h z.1).elim}
def NS:Ok (CL x y c S) Q=Ok (x c S) λd S1=>∃b,d = .bl b/\if b=aN then Ok (y c S1) Q else Q (.bl aS) S1:=by
 unfold CL;rw[bJ]
 congr 1
 funext d S1
 apply propext;cases d with
 |bl b=>cases b <;> simp[aK]
 |_=>simp[bh]
def SK:Ok (xOr x y f S) Q=Ok (x f S) λd c=>∃b,d = .bl b/\if b=aN then Q (.bl aN) c else Ok (y f c) Q:=by
 unfold xOr;rw[bJ]
 congr 1
 funext d c
 apply propext;cases d with
 |bl b=>cases b <;> simp[aK]
 |_=>simp[bh]
def NT:Ok (As d S) Q=∃b,d = .bl b/\Q (.bl (!b)) S:=by
 apply propext;cases d with
 |bl b=>simp[As,aK]
 |_=>simp[As,bh]
def NU:Ok (Au f g x y z d S) Q=Ok (x d S) λa j=>Ok (y d j) λb h=>Ok (f a b h) λr S3=>∃c,r = .bl c/\if c=aN then Ok (z d S3) λe k=>Ok (g b e k) Q else Q (.bl aS) S3:=by
 unfold Au;rw[bJ]
 congr 1
 funext a j
 rw[bJ]
 congr 1
 funext b h
 rw[bJ]
 congr 1
 funext r S3
 apply propext;cases r with
 |bl c=>cases c <;> simp[aK,bJ]
 |_=>simp[bh]
def NV{i:Nat}:Ok (z5 i b S) Q=∃d,b[i]?=aw (aw d)/\Q d S:=by
 apply propext;unfold z5;cases h:b[i]? with
 |none=>simp[bh]
 |some o=>cases o with
  |none=>simp[bh]
  |some d=>simp[aK]
def SL{i j:Int}:Ok (ao .le (.int i) (.int j) S) Q=Q (.bl (decide (i<=j))) S:=aK
def SM{i j:Int}:Ok (ao .lt (.int i) (.int j) S) Q=Q (.bl (decide (i < j))) S:=aK
def SN{i j:Int}:Ok (ao .gt (.int i) (.int j) S) Q=Q (.bl (decide (j < i))) S:=aK
def SO{i j:Int}:Ok (ao .ge (.int i) (.int j) S) Q=Q (.bl (decide (j<=i))) S:=aK
def NW{i j:Int}:Ok (bX .add (.int i) (.int j) S) Q=Q (.int (i+j)) S:=aK
def NX{i j:Int}:Ok (bX .sub (.int i) (.int j) S) Q=Q (.int (i - j)) S:=aK
def SQ:Ok (xB x c S) Q=Ok (x c S) λd S1=>∃b,d = .bl b/\Q b S1:=by
 unfold xB;rw[bJ]
 congr 1
 funext d S1
 apply propext;cases d with
 |bl b=>simp[aK]
 |_=>simp[bh]
def HE{own k:Nat}:Ok (nQ own it T c k b S) Q=Ok (it b S) λnx d=>dW T (b++ZP own aD)=aN/\Ok (bC nx T c (b++ZP own aD) k 0 d) λE S2=>E.length<=100000/\Q E S2:=by
 unfold nQ;rw[bJ]
 congr 1
 funext nx d
 rw[dP,bh];apply propext
 !e:Ok (bnd (bC nx T c (b++ZP own aD) k 0 d) λE S2=>if E.length<=100000 then aw (E,S2) else aD) Q=Ok (bC nx T c (b++ZP own aD) k 0 d) λE S2=>E.length<=100000/\Q E S2:=by
  rw[bJ]
  congr 1
  funext E S2
  rw[dP,bh,aK];apply propext;split
  ·rename_i h;&{λz=>⟨h,z⟩,λz=>z.2}
  ·rename_i h;&{λz=>z.elim,λz=>(h z.1).elim}
 rw[e];split
 ·rename_i h;&{λz=>⟨h,z⟩,λz=>z.2}
 ·rename_i h;&{λz=>z.elim,λz=>(h z.1).elim}
def DP{k:Nat}:Ok (kq it T c k b S) Q=(dW T b=aN/\Ok (it b S) λnx d=>Ok (bC nx T c b k 0 d) Q):=by
 unfold kq;rw[dP,bh,bJ];apply propext;split
 ·rename_i h;&{λz=>⟨h,z⟩,λz=>z.2}
 ·rename_i h;&{λz=>z.elim,λz=>(h z.1).elim}
def HF:Ok (qo x b S) Q=Ok (x b S) λd S1=>d.length<=1000/\Q d S1:=by
 unfold qo;rw[bJ]
 congr 1
 funext d S1
 rw[dP,bh,aK];apply propext;split
 ·rename_i h;&{λz=>⟨h,z⟩,λz=>z.2}
 ·rename_i h;&{λz=>z.elim,λz=>(h z.1).elim}
def HG:Ok (ni d S) Q=(d.length<=1000/\Q (.tup d) S):=by
 unfold ni;rw[dP,bh,aK];apply propext;split
 ·rename_i h;&{λz=>⟨h,z⟩,λz=>z.2}
 ·rename_i h;&{λz=>z.elim,λz=>(h z.1).elim}
def mv{b:Type}(l:List b)(g:b->Bool)(S:Sto):l5 aS (l.map λt=>D.bl (g t)) S=aw (.bl (l.all g),S):=by
 unfold l5;!c:(l.map λt=>D.bl (g t)).all Ae=aN:=by rw[Xg];simp[Function.comp_def,Ae]
 !h:(l.map λt=>D.bl (g t)).all pJ=l.all g:=by rw[Xg];rfl
 rw[if_pos ⟨rfl,c⟩,h]
def HH{S:Sto}{n:Nat}{lo:Int}{T:Tg}{c:XA}{l:Rho}{Q:List D->Sto->Prop}(u:n<=100000)(g:Nat->Bool)
  (step:∀ (i:Nat) b,i < n->Sm S b->∃d,aA T (.int (lo+i)) l=aw d/\Ok (c d b) λE j=>E=[.bl (g i)]/\Sm b j) (q:∀b,Sm S b->Q ((Zi n).map λi=>.bl (g i)) b) :
  Ok (bC (nxR lo n) T c l LF 0 S) λE S2=>E.length<=100000/\Q E S2:=by
 ~(gR n (λi f b=>Sm S b/\f=(Zi i).map λt=>.bl (g t)) (by unfold LF;lia) (λi f b hi ⟨sm,h⟩=>?_) (λf b ⟨sm,h⟩=>?_) ⟨Sm.refl S,by simp⟩).mono λE b ⟨sm,h⟩=>?_
 ·#{d,v,E,j,p,rfl,k}:=step i b hi sm;~{_,d,by show aw (if i < n then aw (D.int (lo+i)) else aD)=_;rw[if_pos hi],v,_,j,p,sm.trans k,?_};rw[h,Xw,ZF];rfl
 ·show aw (if n < n then aw (D.int (lo+n)) else aD)=_;rw[if_neg (ZI n)]
 ·subst h;&{by rw[Za,ZC];&u,q b sm}
def xt{m n:Nat}(u:S[m]?=aw (.lst ((Zi n).map λj=>.int (Int.ofNat j))))(B:n<=1000)(f:Nat->List D)
  (step:∀ (i:Nat) b,i < n->Sm S b->∃d,aA T (.int i) y=aw d/\Ok (c d b) λE l=>E=f i/\Sm b l):Ok (bC (nxS m) T c y LF 0 S) λE S2=>E=(Zi n).flatMap f/\Sm S S2:=by
 ~(gR n (λi h b=>Sm S b/\h=(Zi i).flatMap f) (by unfold LF;lia) (λi h b hi ⟨sm,k⟩=>?_) (λh b ⟨sm,k⟩=>?_) ⟨Sm.refl S,by simp⟩).mono λE b ⟨sm,k⟩=>⟨k,sm⟩
 ·#{d,z,E,l,v,rfl,q}:=step i b hi sm;~{.int i,d,?_,z,_,l,v,sm.trans q,?_}
  ·show(aR b m).map (λp=>p[i]?)=_;simp only[aR,sm _ _ u,ZL,Zq,Yn hi];rfl
  ·rw[k,Dw.ql]
 ·show(aR b m).map (λp=>p[n]?)=_;simp only[aR,sm _ _ u,ZL];rw[Zw (by simp)]
def DR:Ok (fF x c S) Q=Ok (x c S) λd b=>Q (.ref b.length) (b++[.lst d]):=by
 unfold fF;rw[bJ]
 congr 1
 funext d b
 rw[aK]
def NY(h:Ok (x c S) λd b=>∃i:Nat,d = .int i/\i<=1000/\Q ((Zi i).map λj=>.int (Int.ofNat j)) b):Ok (AH x c S) Q:=by
 unfold AH;rw[bJ];~h.mono λd b ⟨i,e,hi,q⟩=>?_;subst e;dsimp only;rw[if_pos (by lia),aK,ZK];&q
def uN(is:List Int):(is.map D.int).all cN=aN:=by rw[Xg];simp[Function.comp_def,cN]
def DS(is:List Int)(i:Int)(S:Sto):wY (.tup (is.map D.int)) [.int i] S=aw (.int (is.count i:Nat),S):=by
 !e:((is.map D.int).countP λz=>eqF z (.int i))=is.count i:=by
  rw[List.countP_map];unfold List.count
  congr 1
 simp only[wY];rw[if_pos ⟨rfl,uN is⟩,e]
def eC(neg:Bool)(is:List Int)(i:Int)(S:Sto):inS neg (.int i) (.tup (is.map D.int)) S=aw (.bl (neg != decide (i ∈ is)),S):=by
 !e:inF (.int i) (is.map D.int)=decide (i ∈ is):=by
  unfold inF;rw[Wr,Xu,XN];simp only[Function.comp_def,eqF,beq_iff_eq,decide_eq_true_eq];&{λ⟨x,b,e⟩=>e ▸ b,λh=>⟨i,h,rfl⟩}
 simp only[inS,ay];rw[if_pos ⟨rfl,uN is⟩,e]
def HI(i j:Int)(S:Sto):ao .eq (.int i) (.int j) S=aw (.bl (decide (i=j)),S):=by
 simp only[ao,eqS];!:eqD 60 S (.int i) (.int j)=aw (i == j):=rfl;rw[this];rfl
def HJ(i j:Int)(S:Sto):ao .ne (.int i) (.int j) S=aw (.bl (!decide (i=j)),S):=pX (x:=.int i) (y:=.int j) (b:=decide (i=j)) rfl
def NZ{i j:Int}:Ok (ao .eq (.int i) (.int j) S) Q=Q (.bl (decide (i=j))) S:=by rw[HI,aK]
def N0{i j:Int}:Ok (ao .ne (.int i) (.int j) S) Q=Q (.bl (!decide (i=j))) S:=by rw[HJ,aK]
def HK{i:Nat}:aA (.name i) d b=if i < b.length then aw (b.set i (aw d)) else aD:=by simp only[aA]
def DT:aA (.tup T) (.tup d) ρ=aO T d ρ:=by simp only[aA]
def yT:aO [] [] ρ=aw ρ:=by simp only[aO]
def uO{i:Nat}:aO (.name i::T) (d::f) c=if i < c.length then aO T f (c.set i (aw d)) else aD:=by
 simp only[aO,aA];split
 ·rename_i j h;split at h
  ·rename_i b;cases h;rw[if_pos b]
  ·cases h
 ·rename_i h;split at h
  ·cases h
  ·rename_i b;rw[if_neg b]
def fT{i j:Nat}(d:i < c.length)(h:j < c.length):aA (.tup [.name i,.name j]) (.tup [a,b]) c=aw ((c.set i (aw a)).set j (aw b)):=by
 rw[DT,uO,if_pos d,uO,if_pos (by rw[Yb];&h),yT]
def aB{a:Nat}(h:S[a]?=aw (.lst es)):aR S a=aw es:=by simp only[aR,h]
def HL{a b n:Nat}(c:S[a]?=aw (.lst E))(d:S[b]?=aw (.lst []))(h:a ≠ b):eqD (n+1) S (.ref a) (.ref b)=aw E.isEmpty:=by
 show(match aR S a,aR S b with |some X,aw ys=>if a=b then aw aN else if X.length=ys.length then eqL eqB X ys else aw aS |_,_=>aD)=_;rw[aB c,aB d];show(if a=b then aw aN else if E.length=([]:List D).length then eqL eqB E [] else aw aS)=_;rw[if_neg h];cases E with
 |nil=>simp[eqL]
 |cons x X=>simp
def DU{a b:Nat}(c:S[a]?=aw (.lst E))(d:S[b]?=aw (.lst []))(h:a ≠ b):ao .ne (.ref a) (.ref b) S=aw (.bl (!E.isEmpty),S):=pX (HL c d h)
def DV(d:List D)(k:Nat)(h:k<=d.length):jv d aD (aw (k:Int))=d.take k:=by
 unfold jv;rw[Dw.B6 _ _ (by lia),ZK,WH h];rfl
def N5{p:Nat}(h:TDs p S T d):ak dh (.tup d) S=aw (.int T.length,S):=by
 simp only[ak,ay,dh,h.len]
section
variable {S S' S1 S2:Sto} {p:Nat} {Q:D->Sto->Prop} {ρ:Rho}
def N6{i j:Int}:Ok (bX .mod (.int i) (.int j) S) Q=(0 < j/\Q (.int (i % j)) S):=by
 simp only[bX,Mv,dP,aK,bh];apply propext;split
 ·rename_i h;&{λz=>⟨h,z⟩,λz=>z.2}
 ·rename_i h;&{λz=>z.elim,λz=>(h z.1).elim}
def HM{i j:Int}:Ok (bX .fdiv (.int i) (.int j) S) Q=((0 < j/\j < 1298074214633706907132624082305024)/\Q (.int (i / j)) S):=by
 simp only[bX,Ci,dP,aK,bh];apply propext;split
 ·rename_i h;&{λz=>⟨h,z⟩,λz=>z.2}
 ·rename_i h;&{λz=>z.elim,λz=>(h z.1).elim}
def N7{i j:Int}:Ok (bX .mul (.int i) (.int j) S) Q=(ir i j=aN/\Q (.int (i * j)) S):=by
 simp only[bX,z9,dP,aK,bh];apply propext;split
 ·rename_i h;&{λz=>⟨h,z⟩,λz=>z.2}
 ·rename_i h;&{λz=>z.elim,λz=>(h z.1).elim}
def N8{i j:Int}:Ok (bX .pow (.int i) (.int j) S) Q=((0<=j/\j<=1000000/\i.natAbs < 2 ^ 64)/\Q (.int (i ^ j.toNat)) S):=by
 simp only[bX,Mw,dP,aK,bh];apply propext;split
 ·rename_i h;&{λz=>⟨h,z⟩,λz=>z.2}
 ·rename_i h;&{λz=>z.elim,λz=>(h z.1).elim}
def yU{i j:Int}(b:-(2 ^ 64) < j)(h:j < 2 ^ 64):ir i j=aN:=by simp only[ir,Xb,bAE,decide_eq_true_eq];&.inr ⟨b,h⟩
def sH{i j:Int}(b:-(2 ^ 64) < i)(h:i < 2 ^ 64):ir i j=aN:=by simp only[ir,Xb,bAE,decide_eq_true_eq];&.inl ⟨b,h⟩
abbrev Pot(p:Nat)(S:Sto):Prop:=∃n:Int,S[p]?=aw (.lst [.int n])
structure Dr(p:Nat)(S S':Sto):Prop where
 kp:Kp p S S'
 pot:Pot p S'
def Dr.refl(h:Pot p S):Dr p S S:=⟨Kp.refl p S,h⟩
def Dr.trans(a:Dr p S S1)(b:Dr p S1 S2):Dr p S S2:=⟨a.kp.trans b.kp,b.pot⟩
def Dr.sm(h:Pot p S)(s:Sm S S'):Dr p S S':=⟨s.kp,let ⟨n,e⟩:=h;⟨n,s _ _ e⟩⟩
def Dr.thenSm(a:Dr p S S1)(s:Sm S1 S2):Dr p S S2:=a.trans (Dr.sm a.pot s)
def Pot.lt(h:Pot p S):p < S.length:=let ⟨_,e⟩:=h;(Zb.mp e).1
def N9:Kp p S (S.set p o):=λi u n e=>by rw[Zx (Ne.symm n)];&e
def e8(h:p < S.length):(S.set p o)[p]?=aw o:=by rw[ZV h]
def jM{n:Nat}{lo:Int}{T:Tg}{b:XS}{Q:Fl->Rho->Sto->Prop}(l:n<=100000)(I:Nat->Rho->Sto->Prop)
  (step:∀ (i:Nat) ρ S,i < n->I i ρ S->∃f,aA T (.int (lo+i)) ρ=aw f/\OkS (b f S) λk c S2=>match k with |.nx=>I (i+1) c S2 |.ct=>I (i+1) c S2 |.bk=>Q .nx c S2 |.rt d=>Q (.rt d) c S2)
  (q:∀ρ S',I n ρ S'->Q .nx ρ S') (j:I 0 ρ S):OkS (eJ (nxR lo n) T b LF 0 ρ S) Q:=by
 ~ig n I (by unfold LF;lia) (λi ρ S' hi h=>?_) (λρ S' h=>⟨?_,q ρ S' h⟩) j
 ·#{f,E,z}:=step i ρ S' hi h;&{_,f,by show aw (if i < n then aw (D.int (lo+i)) else aD)=_;rw[if_pos hi],E,z}
 ·show aw (if n < n then aw (D.int (lo+n)) else aD)=_;rw[if_neg (ZI n)]
def xu{n:Nat}{lo:Int}{T:Tg}{c:XA}{Q:List D->Sto->Prop}(k:n<=100000)(I:Nat->List D->Sto->Prop)
  (step:∀ (i:Nat) b S',i < n->I i b S'->∃d,aA T (.int (lo+i)) ρ=aw d/\Ok (c d S') λE S1=>I (i+1) (b++E) S1) (q:∀E S',I n E S'->E.length<=100000/\Q E S') (h:I 0 [] S) :
  Ok (bC (nxR lo n) T c ρ LF 0 S) λE S2=>E.length<=100000/\Q E S2:=by
 ~(gR n I (by unfold LF;lia) (λi b S' hi f=>?_) (λb S' f=>?_) h).mono q
 ·#{d,j,z}:=step i b S' hi f;&{_,d,by show aw (if i < n then aw (D.int (lo+i)) else aD)=_;rw[if_pos hi],j,z}
 ·show aw (if n < n then aw (D.int (lo+n)) else aD)=_;rw[if_neg (ZI n)]
def Oa:Ok (wD x y ρ S) Q=Ok (x ρ S) λb S1=>Ok (y ρ S1) λi S2=>∃k,i = .int k/\∃d,atI b k=aw d/\Q d S2:=by
 unfold wD;rw[bJ]
 congr 1
 funext b S1
 rw[bJ]
 congr 1
 funext i S2
 apply propext;cases i with
 |int k=>simp[NM]
 |_=>simp[bh]
def Oc{i:Int}(h:0<=i)(b:i < ds.length):∃d,atI ds i=aw d/\ds[i.toNat]?=aw d:=by
 !hi:i.toNat < ds.length:=by lia
 ~{ds[i.toNat],?_,gEG hi};unfold atI ixN;rw[if_pos h,if_pos (by lia)];&gEG hi
def oQ{nx:Nxt}{T:Tg}{c:XA}{Q:List D->Sto->Prop}(n:Nat)(j:Nat->D)(I:Nat->List D->Sto->Prop)(h:∀i b S',i<=n->I i b S'->nx i S'=aw (if i < n then aw (j i) else aD))(u:n<=100000)
  (step:∀ (i:Nat) b S',i < n->I i b S'->∃d,aA T (j i) ρ=aw d/\Ok (c d S') λE S1=>I (i+1) (b++E) S1) (q:∀E S',I n E S'->E.length<=100000/\Q E S') (k:I 0 [] S) :
  Ok (bC nx T c ρ LF 0 S) λE S2=>E.length<=100000/\Q E S2:=by
 ~(gR n I (by unfold LF;lia) (λi b S' hi f=>?_) (λb S' f=>?_) k).mono q
 ·#{d,l,z}:=step i b S' hi f;&{_,d,by rw[h i b S' (by lia) f,if_pos hi],l,z}
 ·rw[h n b S' (Zf _) f,if_neg (ZI n)]
def DW{m i:Nat}(h:S[m]?=aw (.lst b))(E:Nat->D)(c:∀i d,b[i]?=aw d->E i=d):nxS m i S=aw (if i < b.length then aw (E i) else aD):=by
 show(aR S m).map (λb=>b[i]?)=_;rw[aB h,ZL];split
 ·rename_i hi;rw[gEG hi,c i _ (gEG hi)]
 ·rename_i hi;rw[Zw (by lia)]
structure RowsS(p:Nat)(S:Sto)(rs:List D)(M:List (List Int)):Prop where
 len:rs.length=M.length
 row:∀ (i:Nat) r,M[i]?=aw r->∃a,rs[i]?=aw (.ref a)/\a ≠ p/\S[a]?=aw (.lst (r.map D.int))
def RowsS.keep(h:RowsS p S b M)(k:Kp p S S'):RowsS p S' b M:=⟨h.len,λi r c=>let ⟨a,e,n,z⟩:=h.row i r c;⟨a,e,n,k _ _ n z⟩⟩
def RowsS.nil:RowsS p S [] []:=⟨rfl,λi r h=>by simp at h⟩
def RowsS.snoc{a:Nat}(h:RowsS p S f M)(n:a ≠ p)(z:S[a]?=aw (.lst (r.map D.int))):RowsS p S (f++[.ref a]) (M++[r]):=by
 ~{by simp[h.len],λi j c=>?_};by_cases hi:i < M.length
 ·rw[Zt hi] at c;#{b,e,nb,Z}:=h.row i j c;&{b,by rw[Zt (by rw[h.len];&hi)];&e,nb,Z}
 ·rw[Zp (by lia)] at c
  !d:i - M.length=0:=by
   !:=(Zb.mp c).1;simp at this;lia
  rw[d] at c;cases c;&{a,by rw[Zp (by rw[h.len];lia),h.len,d];rfl,n,z}
def aM:(S++[o])[S.length]?=aw o:=by rw[Zp (Zf _),ZY];rfl
def Kp.setNew{f:Nat}(h:Kp p S S')(b:S.length<=f):Kp p S (S'.set f o):=λi u n e=>by
 !hi:=(Zb.mp e).1;rw[Zx (by lia)];&h i u n e
def Pot.setNe{f:Nat}(h:Pot p S)(b:f ≠ p):Pot p (S.set f o):=by
 #{n,e}:=h;&{n,by rw[Zx b];&e}
abbrev aj(q:Int × Int):D:=.tup [.int q.1,.int q.2]
def gU:∀ (E:List (Int × Int)),TDs p S (E.map Dw.qm) (E.map aj)
 |[]=>bP
 |e::E=>au (bL (au bK (au bK bP))) (gU E)
def jf{f:Nat}(h:S[f]?=aw (.lst d))(b:d.length < 100000):Ok (rV (.ref f) [e] S) Q=Q .non (S.set f (.lst (d++[e]))):=by
 simp only[rV,chg,h];rw[if_pos b];&aK
def cV{f:Nat}(h:S[f]?=aw (.lst d)):cD (.ref f) S=aN:=by simp only[cD,aB h];rfl
def mw{f:Nat}(h:S[f]?=aw (.lst (ds++[e]))):ixS (.ref f) (.int (-1)) S=aw (e,S):=by
 !:atI (ds++[e]) (-1:Int)=aw e:=by
  unfold atI ixN;rw[if_neg (by decide),if_pos (by rw[Ze,Zm];lia)];show(ds++[e])[((-1:Int)+((ds++[e]).length:Int)).toNat]?=aw e;!:((-1:Int)+((ds++[e]).length:Int)).toNat=ds.length:=by rw[Ze,Zm];lia
  rw[this,Zp (Zf _),ZY];rfl
 simp only[ixS,ay,aB h,ZL,this]
def BN{i:Nat}(h:b[i]?=aw d):ixS (.tup b) (.int i) S=aw (d,S):=by
 !hi:=(Zb.mp h).1
 !E:atI b (i:Int)=aw d:=by
  unfold atI ixN;rw[if_pos (by lia),if_pos (by lia),ZK];&h
 simp only[ixS,ay,E,ZL]
def yb{i:Nat}(h:b[i]?=aw d):atI b (i:Int)=aw d:=by
 !hi:=(Zb.mp h).1;unfold atI ixN;rw[if_pos (by lia),if_pos (by lia),ZK];&h
def xv{n:Nat}(b:n ≠ p)(h:S[n]?=aw (.lst d))(q:TDs p S T d):TD p S (.lst T) (.ref n):=by rw[TD];&{n,d,rfl,b,h,q}
def HN:ao .eq (.tup d) (.tup []) S=aw (.bl d.isEmpty,S):=by
 simp only[ao,eqS]
 !:eqD 60 S (.tup d) (.tup [])=aw d.isEmpty:=by
  cases d <;> rfl
 rw[this];rfl
def HP:ao .ne (.tup d) (.tup []) S=aw (.bl (!d.isEmpty),S):=pX (x:=.tup d) (y:=.tup []) (b:=d.isEmpty) (by cases d <;> rfl)
def Od:Ok (bX .add (.tup xs) (.tup y) S) Q=(xs.length+y.length<=1000/\Q (.tup (xs++y)) S):=by
 simp only[bX,lZ,dP,aK,bh];apply propext;split
 ·rename_i h;&{λz=>⟨h,z⟩,λz=>z.2}
 ·rename_i h;&{λz=>z.elim,λz=>(h z.1).elim}
end
@[inline]abbrev WP(b:Type):=Rho->Sto->(b->Sto->Prop)->Prop
abbrev Sd{c:Type}(w:WP c)(x:Rho->Sto->Option (c × Sto)):Prop:=∀b S Q,w b S Q->Ok (x b S) Q
def aZ{b c:Type}{x:Option (b × Sto)}{f:b->Sto->Option (c × Sto)}{Q:c->Sto->Prop}(h:Ok x λa S=>Ok (f a S) Q):Ok (bnd x f) Q:=bJ ▸ h
def bF{b:Type}{a:b}{S:Sto}{Q:b->Sto->Prop}(h:Q a S):Ok (aw (a,S)) Q:=⟨_,_,rfl,h⟩
abbrev wIf(b:Bool)(A B:Prop):Prop:=match b with
 |true=>A
 |false=>B
abbrev wBl(d:D)(Q:Bool->Prop):Prop:=match d with
 |.bl b=>Q b
 |.non=>False |.int _=>False |.str _=>False |.tup _=>False |.ref _=>False
abbrev cW(d:D)(Q:Int->Prop):Prop:=match d with
 |.int i=>Q i
 |.non=>False |.bl _=>False |.str _=>False |.tup _=>False |.ref _=>False
def oT{d:D}{Q:Bool->Prop}(h:wBl d Q):∃b,d = .bl b/\Q b:=by cases d <;> first |&h.elim |&{_,rfl,h}
def cL{d:D}{Q:Int->Prop}(h:cW d Q):∃b,d = .int b/\Q b:=by cases d <;> first |&h.elim |&{_,rfl,h}
abbrev UR(o:Option D)(Q:D->Prop):Prop:=match o with
 |some d=>Q d
 |none=>False
abbrev xw:Rho->Nat->(D->Prop)->Prop
 |[],_,_=>False
 |o::_,0,Q=>UR o Q
 |_::ρ,i+1,Q=>xw ρ i Q
def yV:∀ {ρ:Rho} {i:Nat} {Q:D->Prop},xw ρ i Q->∃d,ρ[i]?=aw (aw d)/\Q d
 |[],_,_,h=>h.elim
 |some d::_,0,_,h=>⟨d,rfl,h⟩
 |none::_,0,_,h=>h.elim
 |o::ρ,i+1,_,h=>by rw[YL];&yV (ρ:=ρ) h
abbrev SR(i:Nat):WP D:=λb S Q=>xw b i λd=>Q d S
def SS{i:Nat}:Sd (SR i) (z5 i):=λb S Q h=>by
 rw[NV];&yV h
abbrev wC(d:D):WP D:=λ_ S Q=>Q d S
def s_c{d:D}:Sd (wC d) (xC d):=λ_ _ _ h=>bF h
abbrev HQ(g:D->D->Sto->(D->Sto->Prop)->Prop)(x y:WP D):WP D:=λc S Q=>x c S λa f=>y c f λb d=>g a b d Q
def DX{g:D->D->Sto->(D->Sto->Prop)->Prop}{f:D->D->Sto->Option (D × Sto)}{w v:WP D}{x y:XE}(c:Sd w x)(j:Sd v y)(d:∀ {a b S Q},g a b S Q->Ok (f a b S) Q):Sd (HQ g w v) (uc f x y):=
 λ_ _ _ h=>aZ ((c _ _ _ h).mono λ_ _ h=>aZ ((j _ _ _ h).mono λ_ _ h=>d h))
abbrev wUn{b β:Type}(g:b->Sto->(β->Sto->Prop)->Prop)(x:WP b):WP β:=λc S Q=>x c S λa d=>g a d Q
def HR{b c:Type}{g:b->Sto->(c->Sto->Prop)->Prop}{f:b->Sto->Option (c × Sto)}{w:WP b}{x:Rho->Sto->Option (b × Sto)}(d:Sd w x)(k:∀ {a S Q},g a S Q->Ok (f a S) Q):Sd (wUn g w) (λj S=>bnd (x j S) f):=
 λ_ _ _ h=>aZ ((d _ _ _ h).mono λ_ _ h=>k h)
abbrev wOk{b c:Type}(f:b->Sto->Option (c × Sto))(a:b)(S:Sto)(Q:c->Sto->Prop):Prop:=Ok (f a S) Q
abbrev wII:BOp->Int->Int->Sto->(D->Sto->Prop)->Prop
 |.add,i,j,S,Q=>Q (.int (i+j)) S
 |.sub,i,j,S,Q=>Q (.int (i - j)) S
 |.mul,i,j,S,Q=>ir i j=aN/\Q (.int (i * j)) S
 |.mod,i,j,S,Q=>0 < j/\Q (.int (i % j)) S
 |.fdiv,i,j,S,Q=>(0 < j/\j < 1298074214633706907132624082305024)/\Q (.int (i / j)) S
 |.pow,i,j,S,Q=>(0<=j/\j<=1000000/\i.natAbs < 2 ^ 64)/\Q (.int (i ^ j.toNat)) S
def Oe{o:BOp}{i j:Int}{S:Sto}{Q:D->Sto->Prop}(h:wII o i j S Q):Ok (bX o (.int i) (.int j) S) Q:=by
 cases o with
 |add=>rw[NW];&h
 |sub=>rw[NX];&h
 |mul=>rw[N7];&h
 |mod=>rw[N6];&h
 |fdiv=>rw[HM];&h
 |pow=>rw[N8];&h
abbrev wTT:BOp->List D->List D->Sto->(D->Sto->Prop)->Prop
 |.add,xs,ys,S,Q=>xs.length+ys.length<=1000/\Q (.tup (xs++ys)) S
 |.sub,_,_,_,_=>False
 |.mul,_,_,_,_=>False
 |.mod,_,_,_,_=>False
 |.fdiv,_,_,_,_=>False
 |.pow,_,_,_,_=>False
def Og{o:BOp}{i j:List D}{S:Sto}{Q:D->Sto->Prop}(h:wTT o i j S Q):Ok (bX o (.tup i) (.tup j) S) Q:=by
 cases o with
 |add=>rw[Od];&h
 |_=>&h.elim
abbrev DY(o:BOp)(i:Int)(y:D)(S:Sto)(Q:D->Sto->Prop):Prop:=match y with
 |.int j=>wII o i j S Q
 |.non=>False |.bl _=>False |.str _=>False |.ref _=>False
 |.tup ys=>Ok (bX o (.int i) (.tup ys) S) Q
abbrev yW(o:BOp)(xs:List D)(y:D)(S:Sto)(Q:D->Sto->Prop):Prop:=match y with
 |.tup ys=>wTT o xs ys S Q
 |.non=>False |.bl _=>False |.str _=>False |.ref _=>False
 |.int j=>Ok (bX o (.tup xs) (.int j) S) Q
abbrev uQ(o:BOp)(x y:D)(S:Sto)(Q:D->Sto->Prop):Prop:=match x with
 |.int i=>DY o i y S Q
 |.tup xs=>yW o xs y S Q
 |.non=>Ok (bX o .non y S) Q
 |.bl b=>Ok (bX o (.bl b) y S) Q
 |.str b=>Ok (bX o (.str b) y S) Q
 |.ref b=>Ok (bX o (.ref b) y S) Q
def HS{o:BOp}{x y:D}{S:Sto}{Q:D->Sto->Prop}(h:uQ o x y S Q):Ok (bX o x y S) Q:=by
 cases x with
 |int i=>cases y with
  |int j=>&Oe h
  |tup Y=>&h
  |_=>&h.elim
 |tup X=>cases y with
  |int j=>&h
  |tup Y=>&Og h
  |_=>&h.elim
 |_=>&h
abbrev wCI:COp->Int->Int->Sto->(D->Sto->Prop)->Prop
 |.eq,i,j,S,Q=>Q (.bl (decide (i=j))) S
 |.ne,i,j,S,Q=>Q (.bl (!decide (i=j))) S
 |.lt,i,j,S,Q=>Q (.bl (decide (i < j))) S
 |.le,i,j,S,Q=>Q (.bl (decide (i<=j))) S
 |.gt,i,j,S,Q=>Q (.bl (decide (j < i))) S
 |.ge,i,j,S,Q=>Q (.bl (decide (j<=i))) S
 |.is,_,_,_,_=>False
 |.isnot,_,_,_,_=>False
 |.isin,_,_,_,_=>False
 |.notin,_,_,_,_=>False
def Oh{o:COp}{i j:Int}{S:Sto}{Q:D->Sto->Prop}(h:wCI o i j S Q):Ok (ao o (.int i) (.int j) S) Q:=by
 cases o with
 |eq=>rw[NZ];&h
 |ne=>rw[N0];&h
 |lt=>rw[SM];&h
 |le=>rw[SL];&h
 |gt=>rw[SN];&h
 |ge=>rw[SO];&h
 |_=>&h.elim
abbrev Oi(o:COp)(i:Int)(y:D)(S:Sto)(Q:D->Sto->Prop):Prop:=match y with
 |.int j=>wCI o i j S Q
 |.non=>Ok (ao o (.int i) .non S) Q
 |.bl b=>Ok (ao o (.int i) (.bl b) S) Q
 |.str b=>Ok (ao o (.int i) (.str b) S) Q
 |.ref b=>Ok (ao o (.int i) (.ref b) S) Q
 |.tup b=>Ok (ao o (.int i) (.tup b) S) Q
abbrev AN(o:COp)(xs:List D)(y:D)(S:Sto)(Q:D->Sto->Prop):Prop:=match o with
 |.eq=>match y with
  |.tup ys=>match ys with
   |[]=>Q (.bl xs.isEmpty) S
   |y::ys=>Ok (ao .eq (.tup xs) (.tup (y::ys)) S) Q
  |.non=>Ok (ao .eq (.tup xs) .non S) Q
  |.bl b=>Ok (ao .eq (.tup xs) (.bl b) S) Q
  |.str b=>Ok (ao .eq (.tup xs) (.str b) S) Q
  |.ref b=>Ok (ao .eq (.tup xs) (.ref b) S) Q
  |.int b=>Ok (ao .eq (.tup xs) (.int b) S) Q
 |.ne=>match y with
  |.tup ys=>match ys with
   |[]=>Q (.bl (!xs.isEmpty)) S
   |y::ys=>Ok (ao .ne (.tup xs) (.tup (y::ys)) S) Q
  |.non=>Ok (ao .ne (.tup xs) .non S) Q
  |.bl b=>Ok (ao .ne (.tup xs) (.bl b) S) Q
  |.str b=>Ok (ao .ne (.tup xs) (.str b) S) Q
  |.ref b=>Ok (ao .ne (.tup xs) (.ref b) S) Q
  |.int b=>Ok (ao .ne (.tup xs) (.int b) S) Q
 |.is=>Ok (ao .is (.tup xs) y S) Q
 |.isnot=>Ok (ao .isnot (.tup xs) y S) Q
 |.isin=>Ok (ao .isin (.tup xs) y S) Q
 |.notin=>Ok (ao .notin (.tup xs) y S) Q
 |.lt=>False |.le=>False |.gt=>False |.ge=>False
abbrev wCx(o:COp)(x y:D)(S:Sto)(Q:D->Sto->Prop):Prop:=match x with
 |.int i=>Oi o i y S Q
 |.tup xs=>AN o xs y S Q
 |.non=>Ok (ao o .non y S) Q
 |.bl b=>Ok (ao o (.bl b) y S) Q
 |.str b=>Ok (ao o (.str b) y S) Q
 |.ref b=>Ok (ao o (.ref b) y S) Q
def Oj{o:COp}{x y:D}{S:Sto}{Q:D->Sto->Prop}(h:wCx o x y S Q):Ok (ao o x y S) Q:=by
 cases x with
 |int i=>cases y with
  |int j=>&Oh h
  |_=>&h
 |tup X=>cases o with
  |eq=>cases y with
   |tup Y=>cases Y with
    |nil=>rw[HN,aK];&h
    |cons y Y=>&h
   |_=>&h
  |ne=>cases y with
   |tup Y=>cases Y with
    |nil=>rw[HP,aK];&h
    |cons y Y=>&h
   |_=>&h
  |lt=>&h.elim
  |le=>&h.elim
  |gt=>&h.elim
  |ge=>&h.elim
  |_=>&h
 |_=>&h
abbrev wCm(o:COp)(x y:D)(S:Sto)(Q:D->Sto->Prop):Prop:=match o with
 |.is=>Ok (ao .is x y S) Q
 |.isnot=>Ok (ao .isnot x y S) Q
 |.isin=>Ok (ao .isin x y S) Q
 |.notin=>Ok (ao .notin x y S) Q
 |.eq=>wCx .eq x y S Q
 |.ne=>wCx .ne x y S Q
 |.lt=>wCx .lt x y S Q
 |.le=>wCx .le x y S Q
 |.gt=>wCx .gt x y S Q
 |.ge=>wCx .ge x y S Q
def sI{o:COp}{x y:D}{S:Sto}{Q:D->Sto->Prop}(h:wCm o x y S Q):Ok (ao o x y S) Q:=by
 cases o <;> first |&Oj h |&h
abbrev Ol(o p:COp)(x y z:WP D):WP D:=λd S Q=>x d S λa k=>y d k λb j=>wCm o a b j λr f=>wBl r λc=>wIf c (z d f λe h=>wCm p b e h Q) (Q (.bl aS) f)
def K3{o p:COp}{w v u:WP D}{x y z:XE}(d:Sd w x)(j:Sd v y)(f:Sd u z):Sd (Ol o p w v u) (Au (ao o) (ao p) x y z):=λ_ _ _ h=>by
 rw[NU];~(d _ _ _ h).mono λa q h=>(j _ _ _ h).mono λb n h=>(sI h).mono λr k h=>?_;#{c,e,h}:=oT h;~{c,e,?_};cases c with
 |true=>&(f _ _ _ h).mono λe l h=>sI h
 |false=>&h
abbrev SU(x y:WP D):WP D:=λc S Q=>x c S λd f=>wBl d λb=>wIf b (y c f Q) (Q (.bl aS) f)
def SV{w v:WP D}{x y:XE}(b:Sd w x)(d:Sd v y):Sd (SU w v) (CL x y):=λ_ _ _ h=>by
 rw[NS];~(b _ _ _ h).mono λa f h=>?_;#{c,e,h}:=oT h;~{c,e,?_};cases c with
 |true=>&d _ _ _ h
 |false=>&h
abbrev wOr(x y:WP D):WP D:=λc S Q=>x c S λd f=>wBl d λb=>wIf b (Q (.bl aN) f) (y c f Q)
def US{w v:WP D}{x y:XE}(b:Sd w x)(d:Sd v y):Sd (wOr w v) (xOr x y):=λ_ _ _ h=>by
 rw[SK];~(b _ _ _ h).mono λa f h=>?_;#{c,e,h}:=oT h;~{c,e,?_};cases c with
 |false=>&d _ _ _ h
 |true=>&h
abbrev SW(x:WP D):WP D:=λc S Q=>x c S λd f=>wBl d λb=>Q (.bl (!b)) f
def SX{w:WP D}{x:XE}(b:Sd w x):Sd (SW w) (xUn As x):=λ_ _ _ h=>aZ ((b _ _ _ h).mono λa c h=>by
 rw[NT];&oT h)
abbrev SY(x:WP D):WP D:=λb S Q=>x b S λd c=>cW d λi=>Q (.int (-i)) c
def SZ{w:WP D}{x:XE}(b:Sd w x):Sd (SY w) (xUn MS x):=λ_ _ _ h=>aZ ((b _ _ _ h).mono λa c h=>by
 #{i,rfl,h}:=cL h;&bF h)
abbrev Ta{α:Type}(c:WP Bool)(x y:WP α):WP α:=λd S Q=>c d S λb f=>wIf b (x d f Q) (y d f Q)
def Tc{c:WP Bool}{w v:WP D}{t:XT}{x y:XE}(j:Sd c t)(d:Sd w x)(f:Sd v y):Sd (Ta c w v) (MU t x y):=λ_ _ _ h=>aZ ((j _ _ _ h).mono λb k h=>by
 cases b with
 |true=>&d _ _ _ h
 | false=>&f _ _ _ h)
abbrev wO:Option (WP D)->WP (Option Int)
 |none=>λ_ S Q=>Q aD S
 |some w=>λb S Q=>w b S λd c=>cW d λi=>Q (aw i) c
abbrev xy(lo hi:Option Int)(d:D)(S:Sto)(Q:D->Sto->Prop):Prop:=match d with
 |.tup ds=>Q (.tup (jv ds lo hi)) S
 |.ref n=>Ok (slS lo hi (.ref n) S) Q
 |.non=>False |.bl _=>False |.str _=>False |.int _=>False
abbrev wSl(x:WP D)(lo hi:WP (Option Int)):WP D:=λb S Q=>x b S λd j=>lo b j λl f=>hi b f λh c=>xy l h d c Q
def UT:Sd (wO aD) wJ:=λ_ _ _ h=>bF h
def UU{w:WP D}{x:XE}(b:Sd w x):Sd (wO (aw w)) (wK x):=λ_ _ _ h=>aZ ((b _ _ _ h).mono λd c h=>by
 #{i,rfl,h}:=cL h;&bF h)
def UV{w:WP D}{l u:WP (Option Int)}{x:XE}{lo hi:XO}(c:Sd w x)(j:Sd l lo)(f:Sd u hi):Sd (wSl w l u) (xSl x lo hi):=λ_ _ _ h=>aZ ((c _ _ _ h).mono λd q h=>aZ ((j _ _ _ h).mono λa p h=>aZ ((f _ _ _ h).mono λb k h=>by
 cases d with
 |tup v=>&bF h
 |ref n=>&h
 | _=>&h.elim)))
abbrev K4(g:List D->Sto->Option (D × Sto))(n:Nat)(x:WP (List D)):WP D:=λb S Q=>x b S λd c=>d.length=n/\Ok (g d c) Q
def Om{g:List D->Sto->Option (D × Sto)}{n:Nat}{w:WP (List D)}{x:XA}(b:Sd w x):Sd (K4 g n w) (uv g n x):=λ_ _ _ h=>by
 rw[HD];&b _ _ _ h
abbrev oU(x:WP (List D)):WP D:=λc S Q=>x c S λd b=>Q (.ref b.length) (b++[.lst d])
def jN{w:WP (List D)}{x:XA}(b:Sd w x):Sd (oU w) (fF x):=λ_ _ _ h=>by rw[DR];&b _ _ _ h
abbrev fU:Nat->List CE->Prop->Prop
 |_,[],A=>A
 |0,_::_,_=>False
 |n+1,_::es,A=>fU n es A
def jO:∀ {n:Nat} {es:List CE} {A:Prop},fU n es A->es.length<=n/\A
 |n,[],_,h=>⟨Z2 _,by cases n <;> &h⟩
 |0,_::_,_,h=>h.elim
 |n+1,_::es,_,h=>by rw[Zo];&{Ww (jO (es:=es) h).1,(jO (es:=es) h).2}
abbrev wSh{α:Type}(E:List CE)(x:WP α):WP α:=λb S Q=>fU 60 E (x b S Q)
abbrev xz(c:D->Sto->Bool)(f:D->List D->Sto->Option (D × Sto))(x:WP D)(y:WP (List D)):WP D:=λb S Q=>x b S λd h=>c d h=aN/\y b h λk j=>Ok (f d k j) Q
def qP{c:D->Sto->Bool}{f:D->List D->Sto->Option (D × Sto)}{w:WP D}{v:WP (List D)}{x:XE}{y:XA}(b:Sd w x)(j:Sd v y):Sd (xz c f w v) (rQ c f x y):=λ_ _ _ h=>aZ ((b _ _ _ h).mono λd k h=>by
 rw[if_pos h.1];&aZ (j _ _ _ h.2))
abbrev Oo(x:WP D):WP (List D):=λb S Q=>x b S λd c=>∃i:Nat,d = .int i/\i<=1000/\Q ((Zi i).map λj=>.int (Int.ofNat j)) c
def K5{w:WP D}{x:XE}(b:Sd w x):Sd (Oo w) (AH x):=λ_ _ _ h=>NY (b _ _ _ h)
abbrev Op:WP (List D):=λ_ S Q=>Q [] S
def K6:Sd Op z6:=λ_ _ _ h=>bF h
abbrev K7(x:WP D)(y:WP (List D)):WP (List D):=λb S Q=>x b S λa d=>y b d λf c=>Q (a::f) c
def Oq{w:WP D}{v:WP (List D)}{x:XE}{y:XA}(b:Sd w x)(c:Sd v y):Sd (K7 w v) (yn x y):=λ_ _ _ h=>aZ ((b _ _ _ h).mono λd j h=>aZ ((c _ _ _ h).mono λk f h=>bF h))
abbrev UW(o:Option D)(A:Prop):Prop:=match o with
 |none=>A
 |some _=>False
abbrev wFr:Rho->Nat->Prop->Prop
 |[],_,_=>False
 |o::_,0,A=>UW o A
 |_::ρ,i+1,A=>wFr ρ i A
def sJ:∀ {ρ:Rho} {i:Nat} {A:Prop},wFr ρ i A->ρ[i]?=aw aD/\A
 |[],_,_,h=>h.elim
 |none::_,0,_,h=>⟨rfl,h⟩
 |some _::_,0,_,h=>h.elim
 |o::ρ,i+1,_,h=>by rw[YL];&sJ (ρ:=ρ) h
abbrev uR:List Tg->Rho->Prop->Prop
 |[],_,A=>A
 |.name i::ts,ρ,A=>wFr ρ i (uR ts ρ A)
 |.tup us::ts,ρ,A=>dW (.tup us) ρ=aN/\uR ts ρ A
abbrev wFt:Tg->Rho->Prop->Prop
 |.name i,ρ,A=>wFr ρ i A
 |.tup ts,ρ,A=>uR ts ρ A
def qQ{i:Nat}{b:Rho}(h:b[i]?=aw aD):dW (.name i) b=aN:=by rw[dW,h]
def sK:∀ {T:List Tg} {b:Rho} {A:Prop},uR T b A->gz T b=aN/\A
 |[],_,_,h=>⟨by rw[gz],h⟩
 |.name i::T,b,_,h=>by
  #{e,h}:=sJ h;#{E,h}:=sK h;&{by rw[gz,qQ e,E];rfl,h}
 |.tup us::T,b,_,h=>by
  #{e,h}:=h;#{E,h}:=sK h;&{by rw[gz,e,E];rfl,h}
def xD{t:Tg}{b:Rho}{A:Prop}(h:wFt t b A):dW t b=aN/\A:=by
 cases t with
 |name i=>&{qQ (sJ h).1,(sJ h).2}
 |tup T=>rw[dW];&sK h
abbrev uS:List Str->Rho->(Rho->Prop)->Prop
 |[],r,Q=>Q r
 |_::own,r,Q=>uS own (aD::r) Q
abbrev uT:Rho->Rho->(Rho->Prop)->Prop
 |[],r,Q=>Q r
 |o::ρ,r,Q=>uT ρ r λb=>Q (o::b)
def yX:∀ {ρ r:Rho} {Q:Rho->Prop},uT ρ r Q->Q (ρ++r)
 |[],_,_,h=>h
 |o::ρ,r,Q,h=>yX (ρ:=ρ) (Q:=λb=>Q (o::b)) h
def yY:∀ {own:List Str} {k:Nat} {Q:Rho->Prop},uS own (ZP k aD) Q->Q (ZP (own.length+k) aD)
 |[],k,_,h=>by rw[Z4,YE];&h
 |_::own,k,Q,h=>by
  !:=yY (own:=own) (k:=k+1) h;rw[Zo,show own.length+1+k=own.length+(k+1) by lia];&this
abbrev K8(own:List Str)(it:WP Nxt)(T:Tg)(c:XA)(k:Nat):WP (List D):=λd S Q=>it d S λnx h=>uS own [] λr=>uT d r λb=>wFt T b (Ok (bC nx T c b k 0 h) λE f=>E.length<=100000/\Q E f)
def DZ{own:List Str}{k:Nat}{w:WP Nxt}{it:XI}{T:Tg}{c:XA}(b:Sd w it):Sd (K8 own w T c k) (nQ own.length it T c k):=λ_ _ _ h=>by
 rw[HE]
 &(b _ _ _ h).mono λnx d h=>by
  !h:=yX (yY (own:=own) (k:=0) h);&xD h
abbrev D0(it:WP Nxt)(T:Tg)(c:XA)(k:Nat):WP (List D):=λb S Q=>wFt T b (it b S λnx d=>Ok (bC nx T c b k 0 d) Q)
def HU{k:Nat}{w:WP Nxt}{it:XI}{T:Tg}{c:XA}(b:Sd w it):Sd (D0 w T c k) (kq it T c k):=λ_ _ _ h=>by
 rw[DP];&{(xD h).1,b _ _ _ (xD h).2}
abbrev uU(d:D)(b:Sto)(Q:Nxt->Sto->Prop):Prop:=match d with
 |.tup ds=>Q (nxL ds) b
 |.ref n=>(aR b n).isSome=aN/\Q (nxS n) b
 |.non=>False |.bl _=>False |.str _=>False |.int _=>False
def UX{w:WP D}{x:XE}(c:Sd w x):Sd (λf S Q=>w f S λd b=>uU d b Q) (xIV x):=λ_ _ _ h=>aZ ((c _ _ _ h).mono λd b h=>by
 cases d with
 |tup j=>&bF h
 |ref n=>dsimp only;rw[if_pos h.1];&bF h.2
 | _=>&h.elim)
abbrev HV(d:D)(b:Sto)(Q:Nxt->Sto->Prop):Prop:=match d with
 |.tup ds=>Q (GD ds) b
 |_=>False
def UY{w:WP D}{x:XE}(c:Sd w x):Sd (λf S Q=>w f S λd b=>HV d b Q) (xEV x):=λ_ _ _ h=>aZ ((c _ _ _ h).mono λd b h=>by
 cases d with
 |tup j=>&bF h
 | _=>&h.elim)
abbrev wOn{b β:Type}(f:b->β)(x:WP b):WP β:=λc S Q=>x c S λa d=>Q (f a) d
def K9{b l:Type}{f:b->l}{w:WP b}{x:Rho->Sto->Option (b × Sto)}(j:Sd w x):Sd (wOn f w) (λk S=>bnd (x k S) λa c=>aw (f a,c)):=λ_ _ _ h=>aZ ((j _ _ _ h).mono λd c h=>bF h)
abbrev wR1(x:WP D):WP Nxt:=λb S Q=>x b S λd c=>cW d λj=>lim j=aN/\Q (nxR 0 j.toNat) c
def UZ{w:WP D}{x:XE}(b:Sd w x):Sd (wR1 w) (xR1 x):=λ_ _ _ h=>aZ ((b _ _ _ h).mono λd c h=>by
 #{i,rfl,h}:=cL h;dsimp only;rw[if_pos h.1];&bF h.2)
abbrev wDn(x:WP D):WP Nxt:=λb S Q=>x b S λd c=>cW d λj=>lim j=aN/\Q (nxD j (j+1).toNat) c
def U0{w:WP D}{x:XE}(b:Sd w x):Sd (wDn w) (xDn x):=λ_ _ _ h=>aZ ((b _ _ _ h).mono λd c h=>by
 cases d with
 |int j=>#{h,q}:=h;dsimp only;rw[if_pos h];&bF q
 | _=>&h.elim)
abbrev Ot(d:D)(P:Nat->Prop):Prop:=match d with
 |.ref n=>P n
 |_=>False
abbrev wDK(x:WP D):WP Nxt:=λc S Q=>x c S λd b=>Ot d λn=>∃ks f,b[n]?=aw (.dfz ks f)/\Q (nxK n ks) b
def U1{w:WP D}{x:XE}(b:Sd w x):Sd (wDK w) (xDK x):=λ_ _ _ h=>aZ ((b _ _ _ h).mono λd c h=>by
 cases d with
 |ref n=>#{ks,f,e,q}:=h;dsimp only;rw[e];&bF q
 | _=>&h.elim)
abbrev La(x:WP D):WP D:=λb S Q=>x b S λd c=>cW d λi=>(0<=i/\i<=1000)/\Q (.tup ((Zi i.toNat).map λj=>.int (Int.ofNat j))) c
def Ou{w:WP D}{x:XE}(b:Sd w x):Sd (La w) (C1 x):=λ_ _ _ h=>aZ ((b _ _ _ h).mono λd c h=>by
 cases d with
 |int j=>#{h,q}:=h;dsimp only;rw[if_pos h];&bF q
 | _=>&h.elim)
abbrev wR2(x y:WP D):WP Nxt:=λb S Q=>x b S λd f=>y b f λe c=>cW d λi=>cW e λj=>(lim i=aN/\lim j=aN)/\Q (nxR i (j - i).toNat) c
def U2{w v:WP D}{x y:XE}(c:Sd w x)(k:Sd v y):Sd (wR2 w v) (xR2 x y):=λ_ _ _ h=>aZ ((c _ _ _ h).mono λd n h=>aZ ((k _ _ _ h).mono λe l h=>by
 #{i,rfl,f}:=cL h;#{j,rfl,b}:=cL f;dsimp only;rw[if_pos b.1];&bF b.2))
abbrev cX(d:D)(S:Sto)(Q:Bool->Sto->Prop):Prop:=match d with
 |.bl b=>Q b S
 |.tup ds=>Q (!ds.isEmpty) S
 |.int i=>Q (i != 0) S
 |.non=>Q aS S
 |.str y=>Ok (nu (.str y) S) Q
 |.ref y=>Ok (nu (.ref y) S) Q
def D1{d:D}{S:Sto}{Q:Bool->Sto->Prop}(h:cX d S Q):Ok (nu d S) Q:=by cases d <;> first |&bF h |&h
abbrev wB(x:WP D):WP Bool:=λc S Q=>x c S λd f=>wBl d λb=>Q b f
def s_b{w:WP D}{x:XE}(b:Sd w x):Sd (wB w) (xB x):=λ_ _ _ h=>by
 rw[SQ];&(b _ _ _ h).mono λd c h=>oT h
abbrev Lb(x y:WP Bool):WP Bool:=λc S Q=>x c S λb d=>wIf b (y c d Q) (Q aS d)
abbrev Td(x y:WP Bool):WP Bool:=λc S Q=>x c S λb d=>wIf b (Q aN d) (y c d Q)
abbrev Lc(x:WP Bool):WP Bool:=λc S Q=>x c S λb d=>Q (!b) d
def Ov{w v:WP Bool}{x y:XT}(c:Sd w x)(d:Sd v y):Sd (Lb w v) (CO x y):=λ_ _ _ h=>aZ ((c _ _ _ h).mono λb f h=>by
 cases b with
 |true=>&d _ _ _ h
 | false=>&bF h)
def Te{w v:WP Bool}{x y:XT}(c:Sd w x)(d:Sd v y):Sd (Td w v) (MX x y):=λ_ _ _ h=>aZ ((c _ _ _ h).mono λb f h=>by
 cases b with
 |false=>&d _ _ _ h
 | true=>&bF h)
def Ow{w:WP Bool}{x:XT}(c:Sd w x):Sd (Lc w) (CP x):=λ_ _ _ h=>aZ ((c _ _ _ h).mono λb d h=>bF h)
abbrev Lg(t:WP Bool)(c:WP (List D)):WP (List D):=λd S Q=>t d S λb f=>wIf b (c d f Q) (Q [] f)
def Ox{t:WP Bool}{c:WP (List D)}{x:XT}{y:XA}(d:Sd t x)(f:Sd c y):Sd (Lg t c) (CH x y):=λ_ _ _ h=>aZ ((d _ _ _ h).mono λb j h=>by
 cases b with
 |true=>&f _ _ _ h
 | false=>&bF h)
abbrev HW(f:Bool->List D->Option (List D))(d:List D)(S:Sto)(Q:List D->Sto->Prop):Prop:=∃E,f aS d=aw E/\Q E S
abbrev HX(f:Bool->List D->Option (List D))(d:D)(S:Sto)(Q:List D->Sto->Prop):Prop:=∃r E,ay d S=aw r/\f r.1 r.2=aw E/\Q E S
def Tf{f:Bool->List D->Option (List D)}{w:WP (List D)}{x:XA}(c:Sd w x):Sd (λj S Q=>w j S λd b=>HW f d b Q) (AF f x):=λ_ _ _ h=>aZ ((c _ _ _ h).mono λd b ⟨E,e,h⟩=>by rw[e];&bF h)
def Th{f:Bool->List D->Option (List D)}{w:WP D}{x:XE}(c:Sd w x):Sd (λj S Q=>w j S λd b=>HX f d b Q) (AG f x):=λ_ _ _ h=>aZ ((c _ _ _ h).mono λd b ⟨r,k,E,e,h⟩=>by
 rw[E];dsimp only;rw[e];&bF h)
abbrev wNo{α:Type}:WP α:=λ_ _ _=>False
def sL{b:Type}{x:Rho->Sto->Option (b × Sto)}:Sd wNo x:=λ_ _ _ h=>h.elim
abbrev aQ(b:Bool)(x:WP (List D))(y:WP D)(c:Rho)(S:Sto)(KT:List D->Sto->Prop)(KV:D->Sto->Prop):Prop:=match b with
 |true=>x c S KT
 |false=>y c S KV
abbrev wOf{α:Type}(b:Bool)(x:WP (List D))(y:WP D)(gt:List D->Sto->(α->Sto->Prop)->Prop)(j:D->Sto->(α->Sto->Prop)->Prop):WP α:=λf S Q=>aQ b x y f S (λh c=>gt h c Q) (λd c=>j d c Q)
def s_of{h:Type}{b:Bool}{w:WP (List D)}{v:WP D}{gt:List D->Sto->(h->Sto->Prop)->Prop}{j:D->Sto->(h->Sto->Prop)->Prop}{x y:Rho->Sto->Option (h × Sto)}(k:Sd (λc S Q=>w c S λn f=>gt n f Q) x)(l:Sd (λc S Q=>v c S λd f=>j d f Q) y):Sd (wOf b w v gt j) (if b=aN then x else y):=by
 cases b with
 |true=>&k
 |false=>&l
def U3{b:Bool}{w:WP (List D)}{v u:WP D}{x:XA}{y z:XE}(p:Sd w x)(q:Sd u z)(n:Sd v y):Sd (λc S Q=>aQ b w u c S (λl f=>v c f λi j=>cW i λk=>∃d,atI l k=aw d/\Q d j) (λd f=>v c f λi j=>Ok (ixS d i j) Q)) (if b=aN then wD x y else uc ixS z y):=λc S Q h=>by
 cases b with
 |true=>
  show Ok (wD x y c S) Q;rw[Oa];&(p _ _ _ h).mono λl f h=>(n _ _ _ h).mono λi j h=>cL h
 |false=>&aZ ((q _ _ _ h).mono λl f h=>aZ (n _ _ _ h))
abbrev wO2(t:CE->WP D):Option CE->Option (WP D)
 |none=>aD
 |some e=>aw (t e)
abbrev HY(t:CE->WP Bool):Option CE->WP (List D)->WP (List D)
 |some c,x=>Lg (t c) x
 |none,x=>x
abbrev D2(x y:D)(S:Sto)(Q:D->Sto->Prop):Prop:=cW x λi=>cW y λj=>Q (.int (if j > i then j else i)) S
abbrev D3(x y:D)(S:Sto)(Q:D->Sto->Prop):Prop:=cW x λi=>cW y λj=>Q (.int (if j < i then j else i)) S
abbrev w2(g:D->D->Sto->(D->Sto->Prop)->Prop):List D->Sto->(D->Sto->Prop)->Prop
 |[],_,_=>False
 |[_],_,_=>False
 |[x,y],S,Q=>g x y S Q
 |_::_::_::_,_,_=>False
def Lh{g:D->D->Sto->(D->Sto->Prop)->Prop}{f:D->D->Sto->Option (D × Sto)}(c:∀ {a b S Q},g a b S Q->Ok (f a b S) Q):∀ {d:List D} {S:Sto} {Q:D->Sto->Prop},w2 g d S Q->Ok (two f d S) Q
 |[],_,_,h=>h.elim
 |[_],_,_,h=>h.elim
 |[x,y],_,_,h=>c h
 |_::_::_::_,_,_,h=>h.elim
abbrev Li:WP D:=λ_ S Q=>Q (.ref (Zl S)) (S++[.dic [] []])
abbrev wCf(i:CI->WP Nxt)(own:List Str)(t:CE->XT)(e:List Cl->XA):List Cl->WP (List D)
 |[]=>wNo
 |⟨tg,it,cond⟩::rest=>K8 own (i it) tg (cnd t cond (e rest)) LF
mutual
noncomputable def wE(C:Calls)(h:Nat->Nat):Nat->CE->WP D
 |0,_=>wNo
 |n+1,e=>match e with
  |.non=>wC .non
  |.bl b=>wC (.bl b)
  |.int i=>wC (.int i)
  |.str x=>wC (.str x)
  |.var i=>SR i
  |.con _ v=>wC (.int v)
  |.tup es=>wSh es (wOn D.tup (wA C h n es))
  |.lst es=>oU (wSh es (wA C h n es))
  |.dic0=>Li
  |.bin o a b=>HQ (uQ o) (wE C h n a) (wE C h n b)
  |.neg a=>SY (wE C h n a)
  |.cmp o a b=>HQ (wCm o) (wE C h n a) (wE C h n b)
  |.chn o p a b c=>Ol o p (wE C h n a) (wE C h n b) (wE C h n c)
  |.and a b=>SU (wE C h n a) (wE C h n b)
  |.or a b=>wOr (wE C h n a) (wE C h n b)
  |.not a=>SW (wE C h n a)
  |.ite c a b=>Ta (wT C h n c) (wE C h n a) (wE C h n b)
  |.ix a b=>λj S Q=>aQ (ai a) (wTm C h n a) (wE C h n a) j S (λu q=>wE C h n b j q λi l=>cW i λk=>∃d,atI u k=aw d/\Q d l) (λd q=>wE C h n b j q λi l=>Ok (ixS d i l) Q)
  |.sl a lo hi=>wSl (wE C h n a) (wO (wO2 (wE C h n) lo)) (wO (wO2 (wE C h n) hi))
  |.call f es=>K4 (C f) (h f) (wA C h n es)
  |.inst t a=>wUn (wOk (nA t)) (wE C h n a)
  |.len a=>wOf (ai a) (wTm C h n a) (wE C h n a) (wOk (dh aS)) (wOk (ak dh))
  |.all a=>wOf (ai a) (wTm C h n a) (wE C h n a) (wOk (l5 aS)) (wOk (ak l5))
  |.any a=>wOf (ai a) (wTm C h n a) (wE C h n a) (wOk (pK aS)) (wOk (ak pK))
  |.tupOf a=>wOf (ai a) (wTm C h n a) (wE C h n a) (wOk (cO aS)) (wOk (ak cO))
  |.listR a=>oU (Oo (wE C h n a))
  |.srt a=>oU (wOf (ai a) (wTm C h n a) (wE C h n a) (HW cT) (HX cT))
  |.mxL a=>wOf (ai a) (wTm C h n a) (wE C h n a) (wOk (pL aS)) (wOk (ak pL))
  |.mxD a c=>wOf (ai a) (wTm C h n a) (wE C h n a) (wOk (fY c aS)) (wOk (ak (fY c)))
  |.sm a=>wOf (ai a) (wTm C h n a) (wE C h n a) (wOk (ul aS)) (wOk (ak ul))
  |.rev a=>wUn (wOk wQ) (wE C h n a)
  |.mnN a=>wOf (ai a) (wTm C h n a) (wE C h n a) (wOk (pQ aS)) (wOk (ak pQ))
  |.mx a b=>wUn (w2 D2) (wA C h n [a,b])
  |.mn a b=>wUn (w2 D3) (wA C h n [a,b])
  |.rep a=>wUn (wOk nP) (wE C h n a)
  |.comp own elt cls=>oU (wCf (wI C h n) own (evT C h n) (im C h n elt) cls)
  |.app o a=>xz cD rV (wE C h n o) (wA C h n [a])
  |.pop o=>xz cD wX (wE C h n o) Op
  |.popAt o a=>xz cD iU (wE C h n o) (wA C h n [a])
  |.ins o i a=>xz cD w4 (wE C h n o) (wA C h n [i,a])
  |.cnt o a=>xz (λd _=>isTup d) wY (wE C h n o) (wA C h n [a])
  |.idx o a=>xz (λd _=>isTup d) xa (wE C h n o) (wA C h n [a])
  |.tupR a=>La (wE C h n a)
  |.dcO a=>wOf (ai a) (wTm C h n a) (wE C h n a) (wOk (pT aS)) (wOk (ak pT))
noncomputable def wA(C:Calls)(b:Nat->Nat):Nat->List CE->WP (List D)
 |0,_=>wNo
 |n+1,es=>match es with
  |[]=>Op
  |e::es=>K7 (wE C b n e) (wA C b n es)
noncomputable def wTm(C:Calls)(b:Nat->Nat):Nat->CE->WP (List D)
 |0,_=>wNo
 |n+1,e=>match e with
  |.lst es=>wSh es (wA C b n es)
  |.listR a=>Oo (wE C b n a)
  |.srt a=>wOf (ai a) (wTm C b n a) (wE C b n a) (HW cT) (HX cT)
  |.comp own elt cls=>wCf (wI C b n) own (evT C b n) (im C b n elt) cls
  |_=>wNo
noncomputable def wI(C:Calls)(c:Nat->Nat):Nat->CI->WP Nxt
 |0,_=>wNo
 |n+1,it=>match it with
  |.val a=>wOf (ai a) (wTm C c n a) (wE C c n a) (λj S Q=>Q (nxL j) S) uU
  |.r1 a=>wR1 (wE C c n a)
  |.dn a=>wDn (wE C c n a)
  |.dk a=>wDK (wE C c n a)
  |.r2 a b=>wR2 (wE C c n a) (wE C c n b)
  |.en a=>λf S Q=>wE C c n a f S λd h=>HV d h Q
noncomputable def wT(C:Calls)(d:Nat->Nat):Nat->CE->WP Bool
 |0,_=>wNo
 |n+1,e=>match e with
  |.cmp o a b=>wB (HQ (wCm o) (wE C d n a) (wE C d n b))
  |.chn o p a b c=>wB (Ol o p (wE C d n a) (wE C d n b) (wE C d n c))
  |.and a b=>Lb (wT C d n a) (wT C d n b)
  |.or a b=>Td (wT C d n a) (wT C d n b)
  |.not a=>Lc (wT C d n a)
  |.ite _ _ _=>wNo
  |e=>wUn cX (wE C d n e)
end
abbrev wCl(C:Calls)(b:Nat->Nat)(n:Nat)(E:CE):List Cl->WP (List D)
 |[]=>wOn (λd=>[d]) (wE C b n E)
 |⟨tg,it,cond⟩::rest=>D0 (wI C b n it) tg (cnd (evT C b n) cond (im C b n E rest)) LF
def sM{C:Calls}{f:Nat->Nat}:∀ {n:Nat} {E:List CE} {c:Rho} {S b:Sto} {d:List D},evA C f n E c S=aw (d,b)->d.length=E.length
 |0,_,_,_,_,_,h=>by simp only[evA,xNo] at h;cases h
 |n+1,[],_,_,_,_,h=>by simp only[evA,z6] at h;cases h;rfl
 |n+1,e::E,_,_,_,_,h=>by
  simp only[evA,yn] at h;#{a,p,k,h}:=ac h;#{q,l,j,h}:=ac h;cases h;rw[Zo,Zo,sM j]
structure SndW(C:Calls)(ar:Nat->Nat)(n:Nat):Prop where
 e:∀ {e:CE},Sd (wE C ar n e) (evE C ar n e)
 a:∀ {es:List CE},Sd (wA C ar n es) (evA C ar n es)
 m:∀ {e:CE},Sd (wTm C ar n e) (dH C ar n e)
 i:∀ {i:CI},Sd (wI C ar n i) (evI C ar n i)
 t:∀ {e:CE},Sd (wT C ar n e) (evT C ar n e)
section
variable {C:Calls} {ar:Nat->Nat} {n:Nat}
def Ti(h:SndW C ar n){E:List CE}:Sd (wSh E (wOn D.tup (wA C ar n E))) (ng ni (evA C ar n E)):=λf S Q w=>by
 #{le,w}:=jO w;#{d,c,b,q}:=h.a _ _ _ w;~aZ ⟨d,c,b,?_⟩;!l:=sM b;show Ok (ni d c) Q;rw[HG];&{by lia,q}
def D4(h:SndW C ar n){E:List CE}:Sd (wSh E (wA C ar n E)) (qo (evA C ar n E)):=λf S Q w=>by
 #{le,w}:=jO w;#{d,c,b,q}:=h.a _ _ _ w;rw[HF];!l:=sM b;&{d,c,b,by lia,q}
def Lj(h:SndW C ar n){o:Option CE}:Sd (wO (wO2 (wE C ar n) o)) (opt (evE C ar n) o):=by
 cases o with
 |none=>&UT
 |some e=>&UU h.e
def HZ{a b:D}{S:Sto}{Q:D->Sto->Prop}(h:D2 a b S Q):Ok (Co a b S) Q:=by
 #{i,rfl,d}:=cL h;#{j,rfl,c}:=cL d;&bF c
def H8{a b:D}{S:Sto}{Q:D->Sto->Prop}(h:D3 a b S Q):Ok (Cp a b S) Q:=by
 #{i,rfl,d}:=cL h;#{j,rfl,c}:=cL d;&bF c
end
section
variable {C:Calls} {ar:Nat->Nat} {n:Nat}
def Tj(h:SndW C ar n){o:Option CE}{w:WP (List D)}{x:XA}(b:Sd w x):Sd (HY (wT C ar n) o w) (cnd (evT C ar n) o x):=by
 cases o with
 |none=>&b
 |some c=>&Ox h.t b
def D5{b c:Type}{f:b->Sto->Option (c × Sto)}{a:b}{S:Sto}{Q:c->Sto->Prop}(h:wOk f a S Q):Ok (f a S) Q:=h
def s_q(h:SndW C ar n){f:Bool->List D->Sto->Option (D × Sto)}{a:CE}:Sd (wOf (ai a) (wTm C ar n a) (wE C ar n a) (wOk (f aS)) (wOk (ak f))) (if ai a=aN then lW f (dH C ar n a) else lX f (evE C ar n a)):=
 s_of (HR (f:=f aS) h.m D5) (HR (f:=ak f) h.e D5)
def Ll(h:SndW C ar n){a:CE}:Sd (wOf (ai a) (wTm C ar n a) (wE C ar n a) (HW cT) (HX cT)) (if ai a=aN then AF cT (dH C ar n a) else AG cT (evE C ar n a)):=s_of (Tf h.m) (Th h.e)
def s_u{g:D->Sto->Option (D × Sto)}{w:WP D}{x:XE}(h:Sd w x):Sd (wUn (wOk g) w) (xUn g x):=HR (f:=g) h D5
def U4{w:WP (List D)}{x:XA}(b:Sd w x):Sd (wUn (w2 D2) w) (ng (two Co) x):=λ_ _ _ h=>aZ ((b _ _ _ h).mono λ_ _ h=>Lh (λz=>HZ z) h)
def U5{w:WP (List D)}{x:XA}(b:Sd w x):Sd (wUn (w2 D3) w) (ng (two Cp) x):=λ_ _ _ h=>aZ ((b _ _ _ h).mono λ_ _ h=>Lh (λz=>H8 z) h)
def Oy:Sd Li C5:=λ_ _ _ h=>bF h
def Tk{w:WP D}{x:XE}(h:Sd w x):Sd (wUn cX w) (Gr x):=HR (f:=nu) h D1
def oV:∀n,SndW C ar n
 |0=>⟨sL,sL,sL,sL,sL⟩
 |n+1=>by
  !h:=oV n;~{λ{e}=>?_,λ{E}=>?_,λ{e}=>?_,λ{i}=>?_,λ{e}=>?_}
  ·cases e with
   |non=>&s_c
   |bl b=>&s_c
   |int b=>&s_c
   |str b=>&s_c
   |var b=>&SS
   |con b v=>&s_c
   |tup E=>&Ti h
   |lst E=>&jN (D4 h)
   |dic0=>&Oy
   |bin o a b=>&DX h.e h.e HS
   |neg a=>&SZ h.e
   |cmp o a b=>&DX h.e h.e sI
   |chn o p a b c=>&K3 h.e h.e h.e
   |and a b=>&SV h.e h.e
   |or a b=>&US h.e h.e
   |not a=>&SX h.e
   |ite c a b=>&Tc h.t h.e h.e
   |ix a b=>&U3 h.m h.e h.e
   |sl a lo hi=>&UV h.e (Lj h) (Lj h)
   |call f E=>&Om h.a
   |inst t a=>&s_u h.e
   |len a=>&s_q h
   |all a=>&s_q h
   |any a=>&s_q h
   |tupOf a=>&s_q h
   |listR a=>&jN (K5 h.e)
   |srt a=>&jN (Ll h)
   |mxL a=>&s_q h
   |mxD a c=>&s_q h
   |rev a=>&s_u h.e
   |mnN a=>&s_q h
   |sm a=>&s_q h
   |mx a b=>&U4 h.a
   |mn a b=>&U5 h.a
   |rep a=>&s_u h.e
   |comp own k d=>cases d with
    |nil=>&jN sL
    |cons c j=>cases c with |mk T I cond=>&jN (DZ h.i)
   |app o a=>&qP h.e h.a
   |pop o=>&qP h.e K6
   |popAt o a=>&qP h.e h.a
   |ins o i a=>&qP h.e h.a
   |cnt o a=>&qP h.e h.a
   |idx o a=>&qP h.e h.a
   |tupR a=>&Ou h.e
   |dcO a=>&s_q h
  ·cases E with
   |nil=>&K6
   |cons e E=>&Oq h.e h.a
  ·cases e with
   |lst E=>&D4 h
   |listR a=>&K5 h.e
   |srt a=>&Ll h
   |comp own k d=>cases d with
    |nil=>&sL
    |cons c j=>cases c with |mk T I cond=>&DZ h.i
   |_=>&sL
  ·cases i with
   |val a=>&s_of (K9 h.m) (UX h.e)
   |r1 a=>&UZ h.e
   |dn a=>&U0 h.e
   |dk a=>&U1 h.e
   |r2 a b=>&U2 h.e h.e
   |en a=>&UY h.e
  ·cases e with
   |cmp o a b=>&s_b (DX h.e h.e sI)
   |chn o p a b c=>&s_b (K3 h.e h.e h.e)
   |and a b=>&Ov h.t h.t
   |or a b=>&Te h.t h.t
   |not a=>&Ow h.t
   |ite a b c=>&sL
   |_=>&Tk h.e
def U6{E:CE}{b:List Cl}:Sd (wCl C ar n E b) (im C ar (n+1) E b):=by
 cases b with
 |nil=>&K9 (oV n).e
 |cons c d=>cases c with |mk T I cond=>&HU (oV n).i
def Oz{E:CE}{c:List Cl}{o:Option CE}{b:Rho}{S:Sto}{Q:List D->Sto->Prop}(h:HY (wT C ar (n+1)) o (wCl C ar n E c) b S Q):Ok (cnd (evT C ar (n+1)) o (im C ar (n+1) E c) b S) Q:=Tj (oV (n+1)) U6 _ _ _ h
abbrev wNm:Nat->D->Rho->(Rho->Prop)->Prop
 |_,_,[],_=>False
 |0,d,_::ρ,Q=>Q (aw d::ρ)
 |i+1,d,o::ρ,Q=>wNm i d ρ λb=>Q (o::b)
def sN:∀ {i:Nat} {d:D} {ρ:Rho} {Q:Rho->Prop},wNm i d ρ Q->i < ρ.length/\Q (ρ.set i (aw d))
 |i,_,[],_,h=>by cases i <;> &h.elim
 |0,d,_::ρ,Q,h=>⟨by simp,h⟩
 |i+1,d,o::ρ,Q,h=>by
  !:=sN (ρ:=ρ) (Q:=λb=>Q (o::b)) h;&{by rw[Zo];lia,this.2}
abbrev wBs:List Tg->List D->Rho->(Rho->Prop)->Prop
 |[],[],ρ,Q=>Q ρ
 |[],_::_,_,_=>False
 |.name _::_,[],_,_=>False
 |.tup _::_,[],_,_=>False
 |.name i::ts,d::ds,ρ,Q=>wNm i d ρ λb=>wBs ts ds b Q
 |.tup us::ts,d::ds,ρ,Q=>∃b,aA (.tup us) d ρ=aw b/\wBs ts ds b Q
abbrev wTp(T:List Tg)(d:D)(b:Rho)(Q:Rho->Prop):Prop:=match d with
 |.tup ds=>wBs T ds b Q
 |.non=>False |.bl _=>False |.str _=>False |.int _=>False |.ref _=>False
abbrev wBd:Tg->D->Rho->(Rho->Prop)->Prop
 |.name i,d,ρ,Q=>wNm i d ρ Q
 |.tup ts,d,ρ,Q=>wTp ts d ρ Q
def D6{i:Nat}{d:D}{b:Rho}{Q:Rho->Prop}(h:wNm i d b Q):∃ρ1,aA (.name i) d b=aw ρ1/\Q ρ1:=⟨_,by rw[HK,if_pos (sN h).1],(sN h).2⟩
def xE:∀ {T:List Tg} {j:List D} {f:Rho} {Q:Rho->Prop},wBs T j f Q->∃b,aO T j f=aw b/\Q b
 |[],[],f,Q,h=>⟨f,yT,h⟩
 |[],_::_,_,_,h=>h.elim
 |.name _::_,[],_,_,h=>h.elim
 |.tup _::_,[],_,_,h=>h.elim
 |.name i::T,d::j,f,Q,h=>by
  #{b,e,q}:=D6 h;#{c,E,q}:=xE q;&{c,by rw[aO,e];&E,q}
 |.tup us::T,d::j,f,Q,h=>by
  #{b,e,q}:=h;#{c,E,q}:=xE q;&{c,by rw[aO,e];&E,q}
def OA{t:Tg}{d:D}{b:Rho}{Q:Rho->Prop}(h:wBd t d b Q):∃ρ1,aA t d b=aw ρ1/\Q ρ1:=by
 cases t with
 |name i=>&D6 h
 |tup T=>cases d with
  |tup c=>rw[DT];&xE h
  |_=>&h.elim
@[inline]abbrev WS:=Rho->Sto->(Fl->Rho->Sto->Prop)->Prop
abbrev rW(y:WS)(b:Rho)(S:Sto)(Q:Fl->Rho->Sto->Prop):Prop:=y b S Q
abbrev wNx(y:WS)(Q:Fl->Rho->Sto->Prop)(f:Fl)(b:Rho)(S:Sto):Prop:=match f with
 |.nx=>rW y b S Q
 |.rt d=>Q (.rt d) b S
 |.bk=>Q .bk b S
 |.ct=>Q .ct b S
mutual
noncomputable def wS(C:Calls)(ar:Nat->Nat):Nat->CS->WS
 |0,_=>λ_ _ _=>False
 |n+1,s=>match s with
  |.asg t e=>λf S Q=>wE C ar n e f S λd h=>wBd t d f λj=>Q .nx j h
  |.setI v o i=>λf S Q=>wE C ar n v f S λa h=>wE C ar n o f h λb p=>wE C ar n i f p λc l=>∃k,ko b c a l=aw k/\Q .nx f k
  |.ex e=>λf S Q=>wE C ar n e f S λ_ h=>Q .nx f h
  |.ret e=>λf S Q=>wE C ar n e f S λd h=>Q (.rt d) f h
  |.ifs c a b=>λf S Q=>wT C ar n c f S λt h=>wIf t (rW (wSs C ar n a) f h Q) (rW (wSs C ar n b) f h Q)
  |.for_ t it b=>λf S Q=>wI C ar n it f S λnx h=>OkS (eJ nx t (eM C ar n b) LF 0 f h) Q
  |.while_ c b=>λf S Q=>OkS (bH (evT C ar n c) (eM C ar n b) LF f S) Q
  |.cnt=>λf S Q=>Q .ct f S
  |.never=>λ_ _ _=>False
noncomputable def wSs(C:Calls)(ar:Nat->Nat):Nat->List CS->WS
 |0,_=>λ_ _ _=>False
 |n+1,ss=>match ss with
  |[]=>λb S Q=>Q .nx b S
  |s::ss=>λb S Q=>wS C ar n s b S (wNx (wSs C ar n ss) Q)
end
structure SdS(C:Calls)(ar:Nat->Nat)(n:Nat):Prop where
 s:∀ {s:CS} {ρ S Q},wS C ar n s ρ S Q->OkS (evS C ar n s ρ S) Q
 ss:∀ {ss:List CS} {ρ S Q},wSs C ar n ss ρ S Q->OkS (eM C ar n ss ρ S) Q
def D7:∀n,SdS C ar n
 |0=>⟨λh=>by simp only[wS] at h,λh=>by simp only[wSs] at h⟩
 |n+1=>by
  !h:=D7 n;!g:SndW C ar n:=oV n;~{λ{s ρ S Q} w=>?_,λ{ss ρ S Q} w=>?_}
  ·cases s with
   |asg t e=>simp only[evS,HA];simp only[wS] at w;&(g.e _ _ _ w).mono λd j w=>OA w
   |setI v o i=>simp only[evS,DN];simp only[wS] at w;&(g.e _ _ _ w).mono λa j w=>(g.e _ _ _ w).mono λb l w=>g.e _ _ _ w
   |ex e=>simp only[evS,DM];simp only[wS] at w;&g.e _ _ _ w
   |ret e=>simp only[evS,HB];simp only[wS] at w;&g.e _ _ _ w
   |ifs c a b=>
    simp only[evS,NN];simp only[wS] at w;~(g.t _ _ _ w).mono λt j w=>?_;cases t with
    |true=>&h.ss w
    |false=>&h.ss w
   |for_ t I b=>simp only[evS,HC];simp only[wS] at w;&g.i _ _ _ w
   |while_ c b=>simp only[wS] at w;simp only[evS];&w
   |cnt=>simp only[wS] at w;simp only[evS];&{_,_,_,rfl,w}
   |never=>simp only[wS] at w
  ·cases ss with
   |nil=>simp only[wSs] at w;simp only[eM];&{_,_,_,rfl,w}
   |cons s ss=>
    simp only[wSs] at w;simp only[eM,Hz];~(h.s w).mono λf k j w=>?_;cases f with
    |nx=>&h.ss w
    |_=>&w
def OB{ss:List CS}{b:Rho}{S:Sto}{Q:Fl->Rho->Sto->Prop}(h:rW (wSs C ar n ss) b S Q):OkS (eM C ar n ss b S) Q:=(D7 n).ss h
def D8{s:CS}{ss:List CS}{b:Rho}{S:Sto}{Q:Fl->Rho->Sto->Prop}(h:wS C ar n s b S (wNx (wSs C ar n ss) Q)):rW (wSs C ar (n+1) (s::ss)) b S Q:=h
def Ia{b:Rho}{S:Sto}{Q:Fl->Rho->Sto->Prop}(h:Q .nx b S):rW (wSs C ar (n+1) []) b S Q:=h
end
def OC{ab:List DefE}{k f:Nat}{d:DefE}{z:CE × Pos × Str}{j:List D}{ρ:Rho}{S:Sto}{Q:D->Sto->Prop}(hd:ab[f]?=aw d)(p:d.ks=aw z)(l:3<=k)(c:j.map aw++ZP (d.N.length - j.length) aD=ρ)
  (h:wE (evC ab k) (cu ab) 60 z.1 ρ S λv b=>∃n ls E,v = .ref n/\xq d.x z.2.1 z.2.2 n b ls E/\Q (.ref b.length) (b++[.lst (c9 ls .non E)])):Ok (evC ab (k+1) f j S) Q:=by
 subst c;simp only[evC,hd,p,if_pos l];#{v,b,e,n,ls,E,rfl,hs,q}:=(oV 60).e _ _ _ h;&{_,_,Hr (by unfold FU;&e) hs,q}
section
variable {C:Calls} {ar:Nat->Nat} {A B:Prop} {S S1:Sto} {Q:D->Sto->Prop} {Ql:List D->Sto->Prop} {Qn:Nxt->Sto->Prop} {Qb:Bool->Prop} {Qi:Int->Prop} {Qd:D->Prop} {Qr:Rho->Prop} {Qt:Bool->Sto->Prop} {Qs:Fl->Rho->Sto->Prop} {t:Bool} {d x y:D} {i j:Int} {n m f:Nat} {s:Str} {o:BOp} {c p:COp} {ds xs ys:List D} {l h:Option Int} {tg:Tg} {ts:List Tg} {ρ ρ2:Rho} {es:List CE} {a b e:CE} {oa ob cd:Option CE} {own:List Str} {it:CI} {rest:List Cl} {ty:Ty} {w wl:WP (List D)} {wv:WP D} {sa sb:List CS} {ws:WS} {od:Option D} {g:D->D->Sto->(D->Sto->Prop)->Prop}
def OD:wE C ar (n+1) (.non) ρ S Q=(Q .non S):=rfl
def Tl:wE C ar (n+1) (.bl t) ρ S Q=(Q (.bl t) S):=rfl
def OE:wE C ar (n+1) (.int i) ρ S Q=(Q (.int i) S):=rfl
def OG:wE C ar (n+1) (.str s) ρ S Q=(Q (.str s) S):=rfl
def OH:wE C ar (n+1) (.con m i) ρ S Q=(Q (.int i) S):=rfl
def OI:wE C ar (n+1) (.var m) ρ S Q=(xw ρ m λd=>Q d S):=rfl
def OJ:wE C ar (n+1) (.tup es) ρ S Q=(fU 60 es (wA C ar n es ρ S λds S1=>Q (.tup ds) S1)):=rfl
def OK:wE C ar (n+1) (.lst es) ρ S Q=(fU 60 es (wA C ar n es ρ S λds S1=>Q (.ref S1.length) (S1++[.lst ds]))):=rfl
def Ib:wE C ar (n+1) (.dic0) ρ S Q=(Q (.ref (Zl S)) (S++[.dic [] []])):=rfl
def OL:wE C ar (n+1) (.bin o a b) ρ S Q=(wE C ar n a ρ S λx S1=>wE C ar n b ρ S1 λy k=>uQ o x y k Q):=rfl
def OM:wE C ar (n+1) (.neg a) ρ S Q=(wE C ar n a ρ S λd S1=>cW d λi=>Q (.int (-i)) S1):=rfl
def OO:wE C ar (n+1) (.cmp c a b) ρ S Q=(wE C ar n a ρ S λx S1=>wE C ar n b ρ S1 λy k=>wCm c x y k Q):=rfl
def OP:wE C ar (n+1) (.chn c p a b e) ρ S Q=(wE C ar n a ρ S λx S1=>wE C ar n b ρ S1 λy q=>wCm c x y q λr k=>wBl r λt=>wIf t (wE C ar n e ρ k λz u=>wCm p y z u Q) (Q (.bl aS) k)):=rfl
def OQ:wE C ar (n+1) (.and a b) ρ S Q=(wE C ar n a ρ S λd S1=>wBl d λt=>wIf t (wE C ar n b ρ S1 Q) (Q (.bl aS) S1)):=rfl
def Tn:wE C ar (n+1) (.or a b) ρ S Q=(wE C ar n a ρ S λd S1=>wBl d λt=>wIf t (Q (.bl aN) S1) (wE C ar n b ρ S1 Q)):=rfl
def OT:wE C ar (n+1) (.not a) ρ S Q=(wE C ar n a ρ S λd S1=>wBl d λt=>Q (.bl (!t)) S1):=rfl
def OU:wE C ar (n+1) (.ite e a b) ρ S Q=(wT C ar n e ρ S λt S1=>wIf t (wE C ar n a ρ S1 Q) (wE C ar n b ρ S1 Q)):=rfl
def To:wE C ar (n+1) (.ix a b) ρ S Q=(aQ (ai a) (wTm C ar n a) (wE C ar n a) ρ S (λds S1=>wE C ar n b ρ S1 λi q=>cW i λk=>∃d,atI ds k=aw d/\Q d q) (λd S1=>wE C ar n b ρ S1 λi q=>Ok (ixS d i q) Q)):=rfl
def Ic:wE C ar (n+1) (.sl a aD aD) ρ S Q=(wE C ar n a ρ S λd S1=>xy aD aD d S1 Q):=rfl
def Ie:wE C ar (n+1) (.sl a aD (aw b)) ρ S Q=(wE C ar n a ρ S λd S1=>wE C ar n b ρ S1 λy k=>cW y λj=>xy aD (aw j) d k Q):=rfl
def Ig:wE C ar (n+1) (.sl a (aw b) aD) ρ S Q=(wE C ar n a ρ S λd S1=>wE C ar n b ρ S1 λy k=>cW y λj=>xy (aw j) aD d k Q):=rfl
def Ih:wE C ar (n+1) (.sl a (aw b) (aw e)) ρ S Q=(wE C ar n a ρ S λd S1=>wE C ar n b ρ S1 λy q=>cW y λj=>wE C ar n e ρ q λz u=>cW z λk=>xy (aw j) (aw k) d u Q):=rfl
def Ii:wE C ar (n+1) (.call f es) ρ S Q=(wA C ar n es ρ S λds S1=>ds.length=ar f/\Ok (C f ds S1) Q):=rfl
def Ij:wE C ar (n+1) (.inst ty a) ρ S Q=(wE C ar n a ρ S λd S1=>Ok (nA ty d S1) Q):=rfl
def OV:wE C ar (n+1) (.len a) ρ S Q=(aQ (ai a) (wTm C ar n a) (wE C ar n a) ρ S (λds S1=>Ok (dh aS ds S1) Q) (λd S1=>Ok (ak dh d S1) Q)):=rfl
def OW:wE C ar (n+1) (.all a) ρ S Q=(aQ (ai a) (wTm C ar n a) (wE C ar n a) ρ S (λds S1=>Ok (l5 aS ds S1) Q) (λd S1=>Ok (ak l5 d S1) Q)):=rfl
def OX:wE C ar (n+1) (.any a) ρ S Q=(aQ (ai a) (wTm C ar n a) (wE C ar n a) ρ S (λds S1=>Ok (pK aS ds S1) Q) (λd S1=>Ok (ak pK d S1) Q)):=rfl
def D9:wE C ar (n+1) (.tupOf a) ρ S Q=(aQ (ai a) (wTm C ar n a) (wE C ar n a) ρ S (λds S1=>Ok (cO aS ds S1) Q) (λd S1=>Ok (ak cO d S1) Q)):=rfl
def OY:wE C ar (n+1) (.mxL a) ρ S Q=(aQ (ai a) (wTm C ar n a) (wE C ar n a) ρ S (λds S1=>Ok (pL aS ds S1) Q) (λd S1=>Ok (ak pL d S1) Q)):=rfl
def OZ:wE C ar (n+1) (.mxD a i) ρ S Q=(aQ (ai a) (wTm C ar n a) (wE C ar n a) ρ S (λds S1=>Ok (fY i aS ds S1) Q) (λd S1=>Ok (ak (fY i) d S1) Q)):=rfl
def Tp:wE C ar (n+1) (.sm a) ρ S Q=(aQ (ai a) (wTm C ar n a) (wE C ar n a) ρ S (λds S1=>Ok (ul aS ds S1) Q) (λd S1=>Ok (ak ul d S1) Q)):=rfl
def Ea:wE C ar (n+1) (.listR a) ρ S Q=(wE C ar n a ρ S λd S1=>∃i:Nat,d = .int i/\i<=1000/\Q (.ref S1.length) (S1++[.lst ((Zi i).map λj=>.int (Int.ofNat j))])):=rfl
def O0:wE C ar (n+1) (.srt a) ρ S Q=(aQ (ai a) (wTm C ar n a) (wE C ar n a) ρ S (λds S1=>∃es,cT aS ds=aw es/\Q (.ref S1.length) (S1++[.lst es])) (λd S1=>∃r es,ay d S1=aw r/\cT r.1 r.2=aw es/\Q (.ref S1.length) (S1++[.lst es]))):=rfl
def O1:wE C ar (n+1) (.rev a) ρ S Q=(wE C ar n a ρ S λd S1=>Ok (wQ d S1) Q):=rfl
def O2:wE C ar (n+1) (.mnN a) ρ S Q=(aQ (ai a) (wTm C ar n a) (wE C ar n a) ρ S (λds S1=>Ok (pQ aS ds S1) Q) (λd S1=>Ok (ak pQ d S1) Q)):=rfl
def Tq:wE C ar (n+1) (.mx a b) ρ S Q=(wA C ar n [a,b] ρ S λds S1=>w2 D2 ds S1 Q):=rfl
def Tr:wE C ar (n+1) (.mn a b) ρ S Q=(wA C ar n [a,b] ρ S λds S1=>w2 D3 ds S1 Q):=rfl
def O3:wE C ar (n+1) (.rep a) ρ S Q=(wE C ar n a ρ S λd S1=>Ok (nP d S1) Q):=rfl
def Ik:wE C ar (n+1) (.comp own a (⟨tg,it,cd⟩::rest)) ρ S Q=(wI C ar n it ρ S λnx S1=>uS own [] λr=>uT ρ r λk=>wFt tg k (Ok (bC nx tg (cnd (evT C ar n) cd (im C ar n a rest)) k LF 0 S1) λes q=>es.length<=100000/\Q (.ref q.length) (q++[.lst es]))):=rfl
def O4:wE C ar (n+1) (.app a b) ρ S Q=(wE C ar n a ρ S λd S1=>cD d S1=aN/\wA C ar n [b] ρ S1 λk q=>Ok (rV d k q) Q):=rfl
def O5:wE C ar (n+1) (.pop a) ρ S Q=(wE C ar n a ρ S λd S1=>cD d S1=aN/\Ok (wX d [] S1) Q):=rfl
def Eb:wE C ar (n+1) (.popAt a b) ρ S Q=(wE C ar n a ρ S λd S1=>cD d S1=aN/\wA C ar n [b] ρ S1 λk q=>Ok (iU d k q) Q):=rfl
def O6:wE C ar (n+1) (.ins a b e) ρ S Q=(wE C ar n a ρ S λd S1=>cD d S1=aN/\wA C ar n [b,e] ρ S1 λk q=>Ok (w4 d k q) Q):=rfl
def O7:wE C ar (n+1) (.idx a b) ρ S Q=(wE C ar n a ρ S λd S1=>isTup d=aN/\wA C ar n [b] ρ S1 λk q=>Ok (xa d k q) Q):=rfl
def Il:wE C ar (n+1) (.tupR a) ρ S Q=(wE C ar n a ρ S λd S1=>cW d λi=>(0<=i/\i<=1000)/\Q (.tup ((Zi i.toNat).map λj=>.int (Int.ofNat j))) S1):=rfl
def O8:wE C ar (n+1) (.dcO a) ρ S Q=(aQ (ai a) (wTm C ar n a) (wE C ar n a) ρ S (λds S1=>Ok (pT aS ds S1) Q) (λd S1=>Ok (ak pT d S1) Q)):=rfl
def O9:wE C ar (n+1) (.cnt a b) ρ S Q=(wE C ar n a ρ S λd S1=>isTup d=aN/\wA C ar n [b] ρ S1 λk q=>Ok (wY d k q) Q):=rfl
def U7:wA C ar (n+1) [] ρ S Ql=Ql [] S:=rfl
def U8:wA C ar (n+1) (a::es) ρ S Ql=(wE C ar n a ρ S λd S1=>wA C ar n es ρ S1 λds k=>Ql (d::ds) k):=rfl
def Pa:wTm C ar (n+1) (.lst es) ρ S Ql=fU 60 es (wA C ar n es ρ S Ql):=rfl
def Ec:wTm C ar (n+1) (.listR a) ρ S Ql=(wE C ar n a ρ S λd S1=>∃i:Nat,d = .int i/\i<=1000/\Ql ((Zi i).map λj=>.int (Int.ofNat j)) S1):=rfl
def Pb:wTm C ar (n+1) (.srt a) ρ S Ql=(aQ (ai a) (wTm C ar n a) (wE C ar n a) ρ S (λds S1=>∃es,cT aS ds=aw es/\Ql es S1) (λd S1=>∃r es,ay d S1=aw r/\cT r.1 r.2=aw es/\Ql es S1)):=rfl
def Im:wTm C ar (n+1) (.comp own a (⟨tg,it,cd⟩::rest)) ρ S Ql=(wI C ar n it ρ S λnx S1=>uS own [] λr=>uT ρ r λk=>wFt tg k (Ok (bC nx tg (cnd (evT C ar n) cd (im C ar n a rest)) k LF 0 S1) λes q=>es.length<=100000/\Ql es q)):=rfl
def Pc:wI C ar (n+1) (.val a) ρ S Qn=(aQ (ai a) (wTm C ar n a) (wE C ar n a) ρ S (λds S1=>Qn (nxL ds) S1) (λd S1=>uU d S1 Qn)):=rfl
def Ts:wI C ar (n+1) (.en a) ρ S Qn=(wE C ar n a ρ S λd S1=>HV d S1 Qn):=rfl
def Tt:wI C ar (n+1) (.r1 a) ρ S Qn=(wE C ar n a ρ S λd S1=>cW d λj=>lim j=aN/\Qn (nxR 0 j.toNat) S1):=rfl
def Tu:wI C ar (n+1) (.dk a) ρ S Qn=(wE C ar n a ρ S λd S1=>Ot d λn=>∃ks ds,S1[n]?=aw (.dfz ks ds)/\Qn (nxK n ks) S1):=rfl
def Tv:wI C ar (n+1) (.dn a) ρ S Qn=(wE C ar n a ρ S λd S1=>cW d λj=>lim j=aN/\Qn (nxD j (j+1).toNat) S1):=rfl
def Tw:wI C ar (n+1) (.r2 a b) ρ S Qn=(wE C ar n a ρ S λd S1=>wE C ar n b ρ S1 λe k=>cW d λi=>cW e λj=>(lim i=aN/\lim j=aN)/\Qn (nxR i (j - i).toNat) k):=rfl
def Pd:wT C ar (n+1) (.cmp c a b) ρ S Qt=(wE C ar n a ρ S λx S1=>wE C ar n b ρ S1 λy k=>wCm c x y k λd q=>wBl d λt=>Qt t q):=rfl
def Pe:wT C ar (n+1) (.chn c p a b e) ρ S Qt=(wE C ar n a ρ S λx S1=>wE C ar n b ρ S1 λy v=>wCm c x y v λr k=>wBl r λt=>wIf t (wE C ar n e ρ k λz q=>wCm p y z q λd u=>wBl d λt=>Qt t u) (wBl (.bl aS) λt=>Qt t k)):=rfl
def Pf:wT C ar (n+1) (.and a b) ρ S Qt=(wT C ar n a ρ S λt S1=>wIf t (wT C ar n b ρ S1 Qt) (Qt aS S1)):=rfl
def Tx:wT C ar (n+1) (.or a b) ρ S Qt=(wT C ar n a ρ S λt S1=>wIf t (Qt aN S1) (wT C ar n b ρ S1 Qt)):=rfl
def Pg:wT C ar (n+1) (.not a) ρ S Qt=(wT C ar n a ρ S λt S1=>Qt (!t) S1):=rfl
def Tz:wT C ar (n+1) (.bl t) ρ S Qt=(wE C ar n (.bl t) ρ S λd S1=>cX d S1 Qt):=rfl
def Ph:wT C ar (n+1) (.var m) ρ S Qt=(wE C ar n (.var m) ρ S λd S1=>cX d S1 Qt):=rfl
def Io:wT C ar (n+1) (.call f es) ρ S Qt=(wE C ar n (.call f es) ρ S λd S1=>cX d S1 Qt):=rfl
def Ip:wT C ar (n+1) (.inst ty a) ρ S Qt=(wE C ar n (.inst ty a) ρ S λd S1=>cX d S1 Qt):=rfl
def Pj:wT C ar (n+1) (.all a) ρ S Qt=(wE C ar n (.all a) ρ S λd S1=>cX d S1 Qt):=rfl
def Pk:wT C ar (n+1) (.any a) ρ S Qt=(wE C ar n (.any a) ρ S λd S1=>cX d S1 Qt):=rfl
def Pl:wT C ar (n+1) (.len a) ρ S Qt=(wE C ar n (.len a) ρ S λd S1=>cX d S1 Qt):=rfl
def TB:wT C ar (n+1) (.ix a b) ρ S Qt=(wE C ar n (.ix a b) ρ S λd S1=>cX d S1 Qt):=rfl
def Pn:wT C ar (n+1) (.lst es) ρ S Qt=(wE C ar n (.lst es) ρ S λd S1=>cX d S1 Qt):=rfl
def Po:wT C ar (n+1) (.tup es) ρ S Qt=(wE C ar n (.tup es) ρ S λd S1=>cX d S1 Qt):=rfl
def U9:wCl C ar n a [] ρ S Ql=(wE C ar n a ρ S λd S1=>Ql [d] S1):=rfl
def Va:wCl C ar n a (⟨tg,it,cd⟩::rest) ρ S Ql=(wFt tg ρ (wI C ar n it ρ S λnx S1=>Ok (bC nx tg (cnd (evT C ar n) cd (im C ar n a rest)) ρ LF 0 S1) Ql)):=rfl
def Vb:HY (wT C ar n) aD w ρ S Ql=w ρ S Ql:=rfl
def Vc:HY (wT C ar n) (aw a) w ρ S Ql=(wT C ar n a ρ S λt S1=>wIf t (w ρ S1 Ql) (Ql [] S1)):=rfl
def Pp:wS C ar (n+1) (.asg tg a) ρ S Qs=(wE C ar n a ρ S λd S1=>wBd tg d ρ λk=>Qs .nx k S1):=rfl
def Iq:wS C ar (n+1) (.setI a b e) ρ S Qs=(wE C ar n a ρ S λx S1=>wE C ar n b ρ S1 λy q=>wE C ar n e ρ q λz u=>∃k,ko y z x u=aw k/\Qs .nx ρ k):=rfl
def TC:wS C ar (n+1) (.ex a) ρ S Qs=(wE C ar n a ρ S λ_ S1=>Qs .nx ρ S1):=rfl
def Pq:wS C ar (n+1) (.ret a) ρ S Qs=(wE C ar n a ρ S λd S1=>Qs (.rt d) ρ S1):=rfl
def Pr:wS C ar (n+1) (.ifs a sa sb) ρ S Qs=(wT C ar n a ρ S λt S1=>wIf t (rW (wSs C ar n sa) ρ S1 Qs) (rW (wSs C ar n sb) ρ S1 Qs)):=rfl
def Ps:wS C ar (n+1) (.for_ tg it sa) ρ S Qs=(wI C ar n it ρ S λnx S1=>OkS (eJ nx tg (eM C ar n sa) LF 0 ρ S1) Qs):=rfl
def Ed:wS C ar (n+1) (.while_ a sa) ρ S Qs=OkS (bH (evT C ar n a) (eM C ar n sa) LF ρ S) Qs:=rfl
def Pt:wS C ar (n+1) .cnt ρ S Qs=Qs .ct ρ S:=rfl
def TH:wNx ws Qs .nx ρ S=rW ws ρ S Qs:=rfl
def TJ:wNx ws Qs (.rt d) ρ S=Qs (.rt d) ρ S:=rfl
def TK:wNx ws Qs .bk ρ S=Qs .bk ρ S:=rfl
def TL:wNx ws Qs .ct ρ S=Qs .ct ρ S:=rfl
def Pu:wIf (aN && t) A B=wIf t A B:=rfl
def Pv:wIf (aS && t) A B=B:=rfl
def Pw:wIf (aN || t) A B=A:=rfl
def Ir:wIf (aS || t) A B=wIf t A B:=rfl
def Iu:wIf (!(aN && t)) A B=wIf (!t) A B:=rfl
def Iv:wIf (!(aS && t)) A B=A:=rfl
def Iw:wIf (!(aN || t)) A B=B:=rfl
def Ix:wIf (!(aS || t)) A B=wIf (!t) A B:=rfl
def TM:wIf aN A B=A:=rfl
def TN:wIf aS A B=B:=rfl
def Px:wIf (!aN) A B=B:=rfl
def Py:wIf (!aS) A B=A:=rfl
def TQ:wBl (.bl t) Qb=Qb t:=rfl
def Pz:cW (.int i) Qi=Qi i:=rfl
def PC:xw (aw d::ρ) 0 Qd=Qd d:=rfl
def PD:xw (od::ρ) (n+1) Qd=xw ρ n Qd:=rfl
def TR:wFr (aD::ρ) 0 A=A:=rfl
def TU:wFr (od::ρ) (n+1) A=wFr ρ n A:=rfl
def PF:uR [] ρ A=A:=rfl
def PH:uR (.name m::ts) ρ A=wFr ρ m (uR ts ρ A):=rfl
def TV:wFt (.name m) ρ A=wFr ρ m A:=rfl
def TW:wFt (.tup ts) ρ A=uR ts ρ A:=rfl
def PJ:uS [] ρ Qr=Qr ρ:=rfl
def PL:uS (s::own) ρ Qr=uS own (aD::ρ) Qr:=rfl
def PM:uT [] ρ Qr=Qr ρ:=rfl
def PN:uT (od::ρ) ρ2 Qr=uT ρ ρ2 λr=>Qr (od::r):=rfl
def TY:fU (n+1) [] A=A:=rfl
def TZ:fU (n+1) (a::es) A=fU n es A:=rfl
def T0:wNm 0 d (od::ρ) Qr=Qr (aw d::ρ):=rfl
def T1:wNm (n+1) d (od::ρ) Qr=wNm n d ρ λr=>Qr (od::r):=rfl
def T2:wBs [] [] ρ Qr=Qr ρ:=rfl
def T3:wBs (.name m::ts) (d::ds) ρ Qr=wNm m d ρ λr=>wBs ts ds r Qr:=rfl
def T4:wBd (.name m) d ρ Qr=wNm m d ρ Qr:=rfl
def T5:wBd (.tup ts) d ρ Qr=wTp ts d ρ Qr:=rfl
def T6:wTp ts (.tup ds) ρ Qr=wBs ts ds ρ Qr:=rfl
def Iy:wII .add i j S Q=Q (.int (i+j)) S:=rfl
def Iz:wII .sub i j S Q=Q (.int (i - j)) S:=rfl
def IA:wII .mul i j S Q=(ir i j=aN/\Q (.int (i * j)) S):=rfl
def IB:wII .mod i j S Q=(0 < j/\Q (.int (i % j)) S):=rfl
def Ee:wII .fdiv i j S Q=((0 < j/\j < 1298074214633706907132624082305024)/\Q (.int (i / j)) S):=rfl
def IC:wII .pow i j S Q=((0<=j/\j<=1000000/\i.natAbs < 2 ^ 64)/\Q (.int (i ^ j.toNat)) S):=rfl
def IE:wTT .add xs ys S Q=(xs.length+ys.length<=1000/\Q (.tup (xs++ys)) S):=rfl
def IG:DY o i (.int j) S Q=wII o i j S Q:=rfl
def IH:yW o xs (.tup ys) S Q=wTT o xs ys S Q:=rfl
def II:yW o xs (.int j) S Q=Ok (bX o (.tup xs) (.int j) S) Q:=rfl
def PP:uQ o (.int i) y S Q=DY o i y S Q:=rfl
def PQ:uQ o (.tup xs) y S Q=yW o xs y S Q:=rfl
def PR:uQ o (.ref n) y S Q=Ok (bX o (.ref n) y S) Q:=rfl
def PU:uQ o (.str s) y S Q=Ok (bX o (.str s) y S) Q:=rfl
def PV:wCI .eq i j S Q=Q (.bl (decide (i=j))) S:=rfl
def PX:wCm .eq x y S Q=wCx .eq x y S Q:=rfl
def PY:wCI .ne i j S Q=Q (.bl (!decide (i=j))) S:=rfl
def PZ:wCm .ne x y S Q=wCx .ne x y S Q:=rfl
def P0:wCI .lt i j S Q=Q (.bl (decide (i < j))) S:=rfl
def P1:wCm .lt x y S Q=wCx .lt x y S Q:=rfl
def P2:wCI .le i j S Q=Q (.bl (decide (i<=j))) S:=rfl
def P3:wCm .le x y S Q=wCx .le x y S Q:=rfl
def P4:wCI .gt i j S Q=Q (.bl (decide (j < i))) S:=rfl
def P5:wCm .gt x y S Q=wCx .gt x y S Q:=rfl
def P6:wCI .ge i j S Q=Q (.bl (decide (j<=i))) S:=rfl
def P7:wCm .ge x y S Q=wCx .ge x y S Q:=rfl
def P8:wCm .is x y S Q=Ok (ao .is x y S) Q:=rfl
def AO:wCm .isnot x y S Q=Ok (ao .isnot x y S) Q:=rfl
def Ef:wCm .isin x y S Q=Ok (ao .isin x y S) Q:=rfl
def AQ:wCm .notin x y S Q=Ok (ao .notin x y S) Q:=rfl
def T7:wCx c (.int i) y S Q=Oi c i y S Q:=rfl
def T8:wCx c (.tup xs) y S Q=AN c xs y S Q:=rfl
def T9:wCx c .non y S Q=Ok (ao c .non y S) Q:=rfl
def Ua:wCx c (.bl t) y S Q=Ok (ao c (.bl t) y S) Q:=rfl
def Ub:wCx c (.str s) y S Q=Ok (ao c (.str s) y S) Q:=rfl
def Uc:wCx c (.ref n) y S Q=Ok (ao c (.ref n) y S) Q:=rfl
def P9:Oi c i (.int j) S Q=wCI c i j S Q:=rfl
def Qa:AN .eq xs (.tup []) S Q=Q (.bl xs.isEmpty) S:=rfl
def Qc:AN .ne xs (.tup []) S Q=Q (.bl (!xs.isEmpty)) S:=rfl
def IJ:AN .eq xs (.tup (y::ys)) S Q=Ok (ao .eq (.tup xs) (.tup (y::ys)) S) Q:=rfl
def IK:AN .ne xs (.tup (y::ys)) S Q=Ok (ao .ne (.tup xs) (.tup (y::ys)) S) Q:=rfl
def Qe:xy l h (.tup ds) S Q=Q (.tup (jv ds l h)) S:=rfl
def Qg:xy l h (.ref n) S Q=Ok (slS l h (.ref n) S) Q:=rfl
def Qh:uU (.tup ds) S Qn=Qn (nxL ds) S:=rfl
def Qj:uU (.ref n) S Qn=((aR S n).isSome=aN/\Qn (nxS n) S):=rfl
def Qk:HV (.tup ds) S Qn=Qn (GD ds) S:=rfl
def IL:cX (.bl t) S Qt=Qt t S:=rfl
def IM:cX (.tup ds) S Qt=Qt (!ds.isEmpty) S:=rfl
def IP:cX (.int i) S Qt=Qt (i != 0) S:=rfl
def IQ:cX (.ref n) S Qt=Ok (nu (.ref n) S) Qt:=rfl
def Ve:w2 g [x,y] S Q=g x y S Q:=rfl
def Qm:D2 (.int i) (.int j) S Q=Q (.int (if j > i then j else i)) S:=rfl
def Qo:D3 (.int i) (.int j) S Q=Q (.int (if j < i then j else i)) S:=rfl
def IR:aQ (ai (.lst es)) wl wv ρ S Ql Q=wl ρ S Ql:=rfl
def AR:aQ (ai (.listR a)) wl wv ρ S Ql Q=wl ρ S Ql:=rfl
def IS:aQ (ai (.srt a)) wl wv ρ S Ql Q=wl ρ S Ql:=rfl
def Eg:aQ (ai (.comp own a rest)) wl wv ρ S Ql Q=wl ρ S Ql:=rfl
def IT:aQ (ai (.non)) wl wv ρ S Ql Q=wv ρ S Q:=rfl
def Qp:aQ (ai (.bl t)) wl wv ρ S Ql Q=wv ρ S Q:=rfl
def IU:aQ (ai (.int i)) wl wv ρ S Ql Q=wv ρ S Q:=rfl
def IV:aQ (ai (.str s)) wl wv ρ S Ql Q=wv ρ S Q:=rfl
def IW:aQ (ai (.var m)) wl wv ρ S Ql Q=wv ρ S Q:=rfl
def IX:aQ (ai (.con m i)) wl wv ρ S Ql Q=wv ρ S Q:=rfl
def IY:aQ (ai (.tup es)) wl wv ρ S Ql Q=wv ρ S Q:=rfl
def Eh:aQ (ai (.dic0)) wl wv ρ S Ql Q=wv ρ S Q:=rfl
def IZ:aQ (ai (.bin o a b)) wl wv ρ S Ql Q=wv ρ S Q:=rfl
def I0:aQ (ai (.neg a)) wl wv ρ S Ql Q=wv ρ S Q:=rfl
def I8:aQ (ai (.cmp c a b)) wl wv ρ S Ql Q=wv ρ S Q:=rfl
def Ja:aQ (ai (.chn c p a b e)) wl wv ρ S Ql Q=wv ρ S Q:=rfl
def Jb:aQ (ai (.and a b)) wl wv ρ S Ql Q=wv ρ S Q:=rfl
def Qq:aQ (ai (.or a b)) wl wv ρ S Ql Q=wv ρ S Q:=rfl
def Jc:aQ (ai (.not a)) wl wv ρ S Ql Q=wv ρ S Q:=rfl
def Jd:aQ (ai (.ite e a b)) wl wv ρ S Ql Q=wv ρ S Q:=rfl
def Qu:aQ (ai (.ix a b)) wl wv ρ S Ql Q=wv ρ S Q:=rfl
def Qv:aQ (ai (.sl a oa ob)) wl wv ρ S Ql Q=wv ρ S Q:=rfl
def Ei:aQ (ai (.call f es)) wl wv ρ S Ql Q=wv ρ S Q:=rfl
def Ej:aQ (ai (.inst ty a)) wl wv ρ S Ql Q=wv ρ S Q:=rfl
def Je:aQ (ai (.len a)) wl wv ρ S Ql Q=wv ρ S Q:=rfl
def Jf:aQ (ai (.all a)) wl wv ρ S Ql Q=wv ρ S Q:=rfl
def Jg:aQ (ai (.any a)) wl wv ρ S Ql Q=wv ρ S Q:=rfl
def AS:aQ (ai (.tupOf a)) wl wv ρ S Ql Q=wv ρ S Q:=rfl
def Jh:aQ (ai (.mxL a)) wl wv ρ S Ql Q=wv ρ S Q:=rfl
def Ji:aQ (ai (.mxD a i)) wl wv ρ S Ql Q=wv ρ S Q:=rfl
def Qw:aQ (ai (.sm a)) wl wv ρ S Ql Q=wv ρ S Q:=rfl
def Jj:aQ (ai (.rev a)) wl wv ρ S Ql Q=wv ρ S Q:=rfl
def Jk:aQ (ai (.mnN a)) wl wv ρ S Ql Q=wv ρ S Q:=rfl
def Qx:aQ (ai (.mx a b)) wl wv ρ S Ql Q=wv ρ S Q:=rfl
def Qy:aQ (ai (.mn a b)) wl wv ρ S Ql Q=wv ρ S Q:=rfl
def Jl:aQ (ai (.rep a)) wl wv ρ S Ql Q=wv ρ S Q:=rfl
def Jm:aQ (ai (.app a b)) wl wv ρ S Ql Q=wv ρ S Q:=rfl
def Jn:aQ (ai (.pop a)) wl wv ρ S Ql Q=wv ρ S Q:=rfl
def AU:aQ (ai (.popAt a b)) wl wv ρ S Ql Q=wv ρ S Q:=rfl
def Jo:aQ (ai (.ins a b e)) wl wv ρ S Ql Q=wv ρ S Q:=rfl
def Jp:aQ (ai (.idx a b)) wl wv ρ S Ql Q=wv ρ S Q:=rfl
def Ek:aQ (ai (.tupR a)) wl wv ρ S Ql Q=wv ρ S Q:=rfl
def Jq:aQ (ai (.dcO a)) wl wv ρ S Ql Q=wv ρ S Q:=rfl
def Qz{n:Nat}{P:Nat->Prop}:Ot (.ref n) P=P n:=rfl
def Jr:aQ (ai (.cnt a b)) wl wv ρ S Ql Q=wv ρ S Q:=rfl
def aa{u:Type}{z:Option (u × Sto)}{r:u}{k:Sto}{K:u->Sto->Prop}(e:z=aw (r,k))(q:K r k):Ok z K:=⟨r,k,e,q⟩
def dC(q:t=aN->A)(k:t=aS->B):wIf t A B:=by
 cases t with
 |true=>&q rfl
 |false=>&k rfl
end
end Ev
local macro_rules|`(tactic|k_go)=>do
 let f s:Lean.MacroM (Lean.TSyntax ``Lean.Parser.Tactic.simpLemma):=`(Lean.Parser.Tactic.simpLemma|↓$(Lean.mkIdent (`Ev++s.toName)):ident)
 let a ← ("OD Tl OE OG OH OI OJ OK Ib OL OM OO OP OQ Tn OT OU To Ic Ie Ig Ih Ii Ij OV OW OX D9 OY OZ Tp Ea O0 O1 O2 Tq Tr O3 Ik O4 O5 Eb O6 O9 O7 Il O8 U7 U8 Pa Ec Pb Im Pc Ts Tt Tw Tv Tu Qz Pd Pe Pf Tx Pg Tz Ph Io Ip Pj Pk Pl TB Pn Po U9 Va Vb Vc Pp Iq TC Pq Pr Ps Ed Pt TH TJ TK TL Pu Pv Pw Ir Iu Iv Iw Ix TM TN Px Py TQ Pz PC PD TR TU PF PH TV TW PJ PL PM PN TY TZ T0 T1 T2 T3 T4 T5 T6 Iy Iz IA IB Ee IC IE IG IH II PP PQ PR PU PV PX PY PZ P0 P1 P2 P3 P4 P5 P6 P7 P8 AO Ef AQ T7 T8 T9 Ua Ub Uc P9 Qa Qc IJ IK Qe Qg Qh Qj Qk IL IM IP IQ Ve Qm Qo IR AR IS Eg IT Qp IU IV IW IX IY Eh IZ I0 I8 Ja Jb Qq Jc Jd Qu Qv Ei Ej Je Jf Jg AS Jh Ji Qw Jj Jk Qx Qy Jl Jm Jn AU Jo Jr Jp Ek Jq NP NQ".splitOn).toArray.mapM f
 `(tactic|dsimp only[$a,*])
local macro_rules |`(tactic|k_is)=>`(tactic|((with_reducible first |refine Ev.OB ?_ |refine Ev.Oz ?_ |refine Ev.wcl_ok ?_ |skip);(try dsimp only[List.set_cons_zero,List.set_cons_succ]);(try k_go);(repeat ((with_reducible first |refine Ev.D8 ?_ |refine Ev.Ia ?_);(try k_go)))))
namespace Lw
open PySem Ev
variable {p:Nat} {S:Sto} {k:Nat} {Q:D->Sto->Prop}
def El(h:TD p S t d)(q:Q (.bl (Dw.isW t)) S):Ok (evC ab (k+1) 0 [d] S) Q:=by
 ~av (d:=iX) (ρ:=[aw d]) rfl rfl ?_;dsimp only[iX,ow];k_is;~aa (sG h) ?_;k_is;cases t <;> first |&q |(k_is;rw[sG h,aK];&q)
def qR{a b:Int}(h:TD p S t d)(q:Q (.bl (Dw.iQ t a b)) S):Ok (evC ab (k+2) 1 [d,.int a,.int b] S) Q:=by
 ~av (d:=gF) (ρ:=[aw d,aw (.int a),aw (.int b)]) rfl rfl ?_;dsimp only[gF,lc];k_is;~{rfl,El h ?_};k_is;cases t with
 |int i=>
  obtain rfl:=h.int;dsimp only[Dw.isW];k_is;dsimp only[Dw.iQ] at q;cases c:decide (a<=i) with
  |true=>rw[c] at q;&q
  |false=>rw[c] at q;&q
 |_=>&q
def AV(h:TD p S t d)(q:Q (.bl (Dw.iQ t 0 9999)) S):Ok (evC ab (k+3) 2 [d] S) Q:=by
 ~av (d:=gG) (ρ:=[aw d]) rfl rfl ?_;dsimp only[gG,lh];k_is;&{rfl,qR h q}
def Em{a b:Int}(h:TD p S t d)(q:Q (.bl (Dw.isT t a b)) S):Ok (evC ab (k+1) 3 [d,.int a,.int b] S) Q:=by
 ~av (d:=iY) (ρ:=[aw d,aw (.int a),aw (.int b)]) rfl rfl ?_;dsimp only[iY,oB];k_is;~aa (sG h) ?_;k_is;cases t with
 |tup T=>
  #{f,rfl,hs}:=h.tup;rw[show gu Ty.tuple (tyT (Dw.D.tup T))=aN from rfl];k_is;~aa (N5 hs) ?_;k_is;dsimp only[Dw.isT] at q;cases c:decide (a<=(T.length:Int)) with
  |true=>rw[c] at q;&q
  |false=>rw[c] at q;&q
 |_=>&q
def aI{f:Int}(h:Pot p S)(b:0 < f)(j:f < 1298074214633706907132624082305024)(q:∀ (r:Int) c,0<=r->r < f->Dr p S c->Q (.int r) c):Ok (evC ab (k+1) 47 [.ref p,.int f] S) Q:=by
 #{n,e}:=h;!lt:p < S.length:=(Zb.mp e).1;~av (d:=i8) (ρ:=[aw (.ref p),aw (.int f),aD]) rfl rfl ?_;dsimp only[i8,oH];k_is;!ix:ixS (.ref p) (.int 0) S=aw (.int n,S):=by simp only[ixS,ay,aR,e];rfl
 ~aa ix ?_;k_is;~{b,?_};k_is;~aa ix ?_;k_is;~{⟨b,j⟩,?_};k_is;~{S.set p (.lst [.int (n / f)]),by simp only[ko,e];rfl,?_};&q _ _ (WJ _ (by omega)) (Wm _ b) ⟨N9,_,e8 lt⟩
def Js{c:Nat}{ns:List Int}(h:S[0]?=aw (.frz (ns.map D.int)))(q:∀i:Int,Q (.int i) S):Ok (evC ab (k+1) 45 [.ref 0,.int c] S) Q:=by
 ~av (d:=eX) (ρ:=[aw (.ref 0),aw (.int c)]) rfl rfl ?_;dsimp only[eX,iH];k_is;!ln:ak dh (.ref 0) S=aw (.int ns.length,S):=by simp only[ak,ay,aR,h,ZL,dh,Za]
 ~aa ln ?_;k_is;~dC (λb=>?_) λb=>?_
 ·k_is;!l:=of_decide_eq_true b;#{d,j,E}:=Oc (ds:=ns.map D.int) (i:=c) (by omega) (by rw[Za];omega);!ix:ixS (.ref 0) (.int c) S=aw (d,S):=by simp only[ixS,ay,aR,h,ZL,j]
  ~aa ix ?_;rw[Zq] at E;cases f:ns[(c:Int).toNat]? with
  |none=>rw[f] at E;cases E
  |some i=>rw[f] at E;cases E;&q i
 ·k_is;&q 0
def QA{c:Int}(q:∀n:Int,Q (.ref S.length) (S++[.lst [.int n]])):Ok (evC ab (k+1) 46 [.int c] S) Q:=by
 ~av (d:=kJ) (ρ:=[aw (.int c),aD,aD,aD]) rfl rfl ?_;dsimp only[kJ,qN];k_is;~{⟨by decide,by decide,by decide⟩,?_};k_is;~dC (λ_=>?_) λ_=>?_
 ·k_is;~{⟨by decide,by decide,by decide⟩,?_};k_is;&q _
 ·k_is;~{by decide,?_};~jM (by decide) (λi f b=>b=S/\∃n:Int,∃u v,f=[aw (.int c),aw (.int n),u,v]) (λi f b hi ⟨E,n,u,v,h⟩=>?_) (λf b ⟨E,n,u,v,h⟩=>?_) ⟨rfl,0,aD,aD,rfl⟩
  ·subst E h;~{_,rfl,?_};k_is;~{by decide,?_};k_is;~{sH (by decide) (by decide),?_};k_is;~{yU (by decide) (by decide),by decide,?_};k_is;!l:=WJ ((c % 2147483629+7919 * (0+(i:Int))+1) * 48271) (show(2147483647:Int) ≠ 0 by decide);!j:=Wm ((c % 2147483629+7919 * (0+(i:Int))+1) * 48271) (show(0:Int) < 2147483647 by decide);~{sH (by omega) (by omega),?_};k_is;~{sH (by decide) (by decide),?_};k_is;~{by decide,?_};k_is;~{yU (by decide) (by decide),?_};k_is;&{rfl,_,_,_,rfl}
  ·subst E h;k_is;&q n
end Lw
namespace Sn
open Ev
structure Sky where
 r:Int
 s:Int
 M:List (List Int)
 H:List (Int × Int)
 ah:Option (Int × Int)
 G:List (List Int)
 F:List Int
abbrev gi(G:List (List Int))(i:Int)(k:Nat):Int:=((G[i.toNat]?).getD []).getD k 0
abbrev fns:List (Int × Int)->Int->Int
 |[],m=>m
 |p::l,m=>if p.1<=m/\m < p.2 then p.2 else fns l m
abbrev opm:List (Int × Int)->Int->Int
 |[],m=>m
 |p::l,m=>opm l (if p.1<=m/\m < p.2 then p.2 else m)
abbrev Ris:Int->List (Int × Int)->Prop
 |_,[]=>True
 |lo,p::l=>lo < p.1/\p.1 < p.2/\Ris p.2 l
def jP:∀ {l:List (Int × Int)} {lo m:Int},Ris lo l->m<=lo->opm l m=m
 |[],_,_,_,_=>rfl
 |p::l,lo,m,h,hm=>by
  rw[Ris] at h;rw[opm,if_neg (by lia)];&jP h.2.2 (by lia)
def yZ:∀ {l:List (Int × Int)} {lo m:Int},Ris lo l->opm l m=fns l m
 |[],_,_,_=>rfl
 |p::l,lo,m,h=>by
  rw[Ris] at h;rw[opm,fns];split
  ·&jP h.2.2 (ZU _)
  ·&yZ h.2.2
section
variable (K:Sky)
abbrev jn(g:Int):Int:=gi K.G g 1
abbrev gp(a b:Int):Int:=Dw.mg2 K.M a.toNat b.toNat
abbrev AW(ah:Option (Int × Int))(k:Int):Int:=match ah with
 |none=>0
 |some p=>p.2+gp K p.1 k
abbrev be(ah:Option (Int × Int))(g:Int):Int:=match ah with
 |none=>gi K.G g 2
 |some p=>if p.2+gp K p.1 (gi K.G g 0) > gi K.G g 2 then p.2+gp K p.1 (gi K.G g 0) else gi K.G g 2
abbrev js:List Int:=gx (K.G.map λg=>g.getD 1 0)
abbrev l8(p:Nat)(m:Int):Bool:=match (js K)[(K.r+p).toNat]? with
 |some j=>decide (j < m - K.s)
 |none=>aS
abbrev step(ah:Option (Int × Int))(g:Int)(p:Nat):Option Int:=if (decide (gi K.G g 3 < opm K.H (be K ah g)) || l8 K p (opm K.H (be K ah g)))=aN then aD else aw (opm K.H (be K ah g))
abbrev aC(t:Int)(p:Int × Int):Bool:=decide (jn K p.1<=t) && decide (t < p.2 - K.s)
abbrev wts(L:List (Int × Int))(t:Int):Nat:=(L.filter (aC K t)).length
abbrev dg(L:List (Int × Int))(g m:Int):List Int:=((jn K g::L.map λp=>jn K p.1).filter λt=>decide (jn K g<=t) && decide (t < m - K.s))
abbrev gW(L:List (Int × Int))(g m:Int):Int:=pM 0 ((dg K L g m).map λt=>1+(wts K L t:Int))
abbrev jg(L:List (Int × Int))(g m:Int):List Int:=jn K g::(js K).filter λt=>decide (jn K g < t) && aC K t (g,m)
abbrev uV(L:List (Int × Int))(g m:Int):Int:=iT ((jg K L g m).map λt=>1+(wts K L t:Int))
abbrev uW(L:List (Int × Int))(g m:Int):Bool:=decide (0 < gi K.G g 6) && (aC K (jn K g) (g,m) && decide (gi K.G g 6 < uV K L g m))
abbrev cz(L:List (Int × Int))(g m:Int):Bool:=decide (0 < gi K.G g 6) && decide (gi K.G g 6 < gW K L g m)
abbrev rn:List Int->Option (Int × Int)->List (Int × Int)->Nat ⊕ List (Int × Int)
 |[],_,L=>.inr L
 |g::os,ah,L=>match step K ah g L.length with
  |none=>.inl L.length
  |some m=>if cz K L g m=aN then .inl L.length else rn os (aw (gi K.G g 0,m)) (L++[(g,m)])
end
variable {K:Sky}
def y3(h:ns ≠ []):iT ns ∈ ns:=by
 cases ns with
 |nil=>&absurd rfl h
 |cons n ns=>&(jC ns n).1
def QB{x:Int}(h:x ∈ ns):x<=iT ns:=by
 cases ns with
 |nil=>simp at h
 |cons n ns=>&(jC ns n).2 x h
def xF(c:A ≠ [])(h:∀x ∈ A,∃y ∈ B,x<=y):iT A<=iT B:=by
 #{y,d,b}:=h _ (y3 c);&Wu b (QB d)
def jQ{c:Int}(h:ns ≠ []):pM c ns=iT ns:=by
 cases ns with
 |nil=>&absurd rfl h
 |cons n ns=>rfl
def my{b:Type}{p q:b->Bool}:∀ {l:List b},(∀x ∈ l,p x=aN->q x=aN)->(l.filter p).length<=(l.filter q).length
 |[],_=>Zf _
 |a::l,h=>by
  !I:=my (l:=l) λx f=>h x (Zg _ f);!d:=h a Zj;rw[ZZ,ZZ];split
  ·rename_i c;rw[if_pos (d c),Zo,Zo]
   lia
  ·split
   ·rw[Zo];lia
   ·&I
def En{j t:Int}(f:j<=t):∀ (L:List (Int × Int)),∃u,(u=j\/∃p ∈ L,u=jn K p.1)/\j<=u/\u<=t/\∀p ∈ L,aC K t p=aN->jn K p.1<=u
 |[]=>⟨j,.inl rfl,ZU _,f,λp l=>by simp at l⟩
 |p::L=>by
  #{u,b,n,k,h4}:=En f L;by_cases d:aC K t p=aN/\u < jn K p.1
  ·~{jn K p.1,.inr ⟨p,Zj,rfl⟩,by lia,?_,λq hq h=>?_}
   ·!:=d.1;simp only[aC,bAE,decide_eq_true_eq] at this;&this.1
   ·rcases Zn.mp hq with rfl |hq
    ·&ZU _
    ·!:=h4 q hq h;lia
  ·~{u,?_,n,k,λq hq h=>?_}
   ·rcases b with b |⟨q,hq,b⟩
    ·&.inl b
    ·&.inr ⟨q,Zg _ hq,b⟩
   ·rcases Zn.mp hq with rfl |hq
    ·by_cases c:u < jn K q.1
     ·&absurd ⟨h,c⟩ d
     ·lia
    ·&h4 q hq h
def Jt{L:List (Int × Int)}{g m:Int}(h:jn K g < m - K.s)(n:∀p ∈ L,jn K p.1 ∈ js K):uV K L g m=gW K L g m:=by
 !l:jn K g ∈ dg K L g m:=by
  unfold dg;rw[ZM];&{Zj,by simp[h]}
 !k:(dg K L g m).map (λt=>1+(wts K L t:Int)) ≠ []:=λz=>by
  rw[List.map_eq_nil_iff] at z;rw[z] at l;simp at l
 unfold gW uV;rw[jQ k];~Int.le_antisymm (xF (by simp[jg]) λx c=>?_) (xF k λx c=>?_)
 ·#{t,ht,rfl}:=Zz.mp c
  !d:jn K g<=t/\t < m - K.s:=by
   rcases Zn.mp ht with rfl |ht
   ·&{ZU _,h}
   ·!:=(ZM.mp ht).2;simp only[aC,bAE,decide_eq_true_eq] at this;&{this.2.1,this.2.2}
  #{u,h1,f,q,h4}:=En (K:=K) d.1 L;~{1+(wts K L u:Int),Zz.mpr ⟨u,?_,rfl⟩,?_}
  ·unfold dg;~ZM.mpr ⟨?_,by simp only[bAE,decide_eq_true_eq];lia⟩;rcases h1 with rfl |⟨p,b,rfl⟩
   ·&Zj
   ·&Zg _ (Zz.mpr ⟨p,b,rfl⟩)
  ·!:wts K L t<=wts K L u:=my λp b j=>by
    !a:=h4 p b j;simp only[aC,bAE,decide_eq_true_eq] at j ⊢
    lia
   lia
 ·#{t,ht,rfl}:=Zz.mp c;~{1+(wts K L t:Int),Zz.mpr ⟨t,?_,rfl⟩,ZU _};unfold dg at ht;#{h1,f}:=ZM.mp ht;simp only[bAE,decide_eq_true_eq] at f;unfold jg;by_cases e:t=jn K g
  ·rw[e];&Zj
  ·~Zg _ (ZM.mpr ⟨?_,by simp only[aC,bAE,decide_eq_true_eq];lia⟩);rcases Zn.mp h1 with rfl |h1
   ·&absurd rfl e
   ·#{p,b,rfl}:=Zz.mp h1;&n p b
def AX{g m:Int}(h:¬ jn K g < m - K.s):gW K L g m=0:=by
 !:dg K L g m=[]:=by
  unfold dg;rw[Xj];intro t _;simp only[bAE,decide_eq_true_eq]
  lia
 unfold gW;rw[this];rfl
def Ju{g m:Int}(c:∀p ∈ L,jn K p.1 ∈ js K):uW K L g m=cz K L g m:=by
 unfold uW cz;by_cases h:jn K g < m - K.s
 ·rw[Jt h c];!:aC K (jn K g) (g,m)=aN:=by simp only[aC,bAE,decide_eq_true_eq];&{ZU _,h}
  rw[this,YR]
 ·rw[AX h];!:aC K (jn K g) (g,m)=aS:=by simp[aC,h]
  rw[this,XD];by_cases b:0 < gi K.G g 6
  ·!e:decide (gi K.G g 6 < 0)=aS:=by simp;lia
   rw[e]
  ·rw[decide_eq_false b];rfl
def Eo{g:Int}(h:0<=gi K.G g 2):(if AW K ah (gi K.G g 0) > gi K.G g 2 then AW K ah (gi K.G g 0) else gi K.G g 2)=be K ah g:=by
 cases ah with
 |none=>unfold AW be;dsimp only;rw[if_neg (by lia)]
 |some p=>rfl
end Sn
namespace Lw
open PySem Ev Sn
variable {p:Nat} {S:Sto} {k:Nat} {Q:D->Sto->Prop}
def Lm{f:List D}{T:Tg}{b:XS}{c:Rho}{Q:Fl->Rho->Sto->Prop}(B:f.length<=100000)(I:Nat->Rho->Sto->Prop)
  (step:∀ (i:Nat) d c j,f[i]?=aw d->I i c j->∃l,aA T d c=aw l/\OkS (b l j) λy h n=>match y with |.nx=>I (i+1) h n |.ct=>I (i+1) h n |.bk=>Q .nx h n |.rt d=>Q (.rt d) h n)
  (q:∀c j,I f.length c j->Q .nx c j) (v:I 0 c S):OkS (eJ (nxL f) T b LF 0 c S) Q:=by
 ~ig f.length I (by unfold LF;lia) (λi c j hi u=>?_) (λc j u=>⟨?_,q c j u⟩) v
 ·#{l,E,z}:=step i f[i] c j (gEG hi) u;&{f[i],l,by show aw f[i]?=_;rw[gEG hi],E,z}
 ·show aw f[f.length]?=_;rw[Zw (Zf _)]
def Ep{f:List D}{T:Tg}{b:XS}{c:Rho}{Q:Fl->Rho->Sto->Prop}(B:f.length<=100000)(I:Nat->Rho->Sto->Prop)
  (step:∀ (i:Nat) d c j,f[i]?=aw d->I i c j->∃l,aA T (.tup [.int i,d]) c=aw l/\OkS (b l j) λy h n=>match y with |.nx=>I (i+1) h n |.ct=>I (i+1) h n |.bk=>Q .nx h n |.rt d=>Q (.rt d) h n)
  (q:∀c j,I f.length c j->Q .nx c j) (v:I 0 c S):OkS (eJ (GD f) T b LF 0 c S) Q:=by
 ~ig f.length I (by unfold LF;lia) (λi c j hi u=>?_) (λc j u=>⟨?_,q c j u⟩) v
 ·#{l,E,z}:=step i f[i] c j (gEG hi) u;~{.tup [.int i,f[i]],l,?_,E,z};show enm f i=_;unfold enm;rw[if_pos (by lia),gEG hi];rfl
 ·show enm f f.length=_;unfold enm;rw[if_pos (Zf _),Zw (Zf _)];rfl
def a9{z:Type}{nx:Nxt}{T:Tg}{c:XA}{I:Rho}{Q:List D->Sto->Prop}(l:List z)(E:z->D)(f:z->List D)(Y:l.length<=1000)(X:∀a ∈ l,(f a).length<=1)
  (y:∀i d,Sm S d->nx i d=aw ((l[i]?).map E))
  (step:∀ (i:Nat) a d,l[i]?=aw a->Sm S d->∃j,aA T (E a) I=aw j/\Ok (c j d) λn B=>n=f a/\Sm d B) (q:∀d,Sm S d->Q (l.flatMap f) d) :
  Ok (bC nx T c I LF 0 S) λn S2=>n.length<=100000/\Q n S2:=by
 ~(gR l.length (λi u d=>Sm S d/\u=(l.take i).flatMap f) (by unfold LF;lia) (λi u d hi ⟨sm,v⟩=>?_) (λu d ⟨sm,v⟩=>?_) ⟨Sm.refl S,by simp⟩).mono λn d ⟨sm,v⟩=>?_
 ·#{j,L,n,B,J,O,C}:=step i l[i] d (gEG hi) sm;~{E l[i],j,by rw[y i d sm,gEG hi];rfl,L,n,B,J,sm.trans C,?_};rw[v,O,Z6 hi,We];simp
 ·rw[y _ d sm,Zw (Zf _)];rfl
 ·rw[Yx] at v;subst v;~{?_,q d sm}
  !:∀m:List z,(∀a ∈ m,(f a).length<=1)->(m.flatMap f).length<=m.length:=λm=>by
   induction m with
   |nil=>intro _;simp
   |cons a m U=>
    intro h;rw[Xk,Ze,Zo];!:=h a Zj;!:=U λb hb=>h b (Zg _ hb)
    lia
  !:=this l X
  lia
def bN{c:Type}{l:List c}{E:c->D}:∀i b,Sm S b->nxL (l.map E) i b=aw ((l[i]?).map E):=λi b _=>by
 show aw (l.map E)[i]?=_;rw[Zq]
def c8{c:Type}{n:Nat}{l:List c}{E:c->D}(h:S[n]?=aw (.lst (l.map E))):∀i b,Sm S b->nxS n i b=aw ((l[i]?).map E):=λi b sm=>by
 show(aR b n).map (λd=>d[i]?)=_;rw[aB (sm _ _ h),ZL,Zq]
def bp{b:Type}(l:List b)(f:b->D):(l.flatMap λa=>[f a])=l.map f:=by
 induction l with
 |nil=>rfl
 |cons a l I=>rw[Xk,I];rfl
def bj{b:Type}(l:List b)(c:b->Bool)(f:b->D):(l.flatMap λa=>if c a=aN then [f a] else [])=(l.filter c).map f:=by
 induction l with
 |nil=>rfl
 |cons a l I=>
  rw[Xk,I,ZZ];split <;> rfl
abbrev ag(r:List Int):D:=.tup (r.map D.int)
abbrev ahE:Option (Int × Int)->D
 |none=>.non
 |some q=>.tup [.int q.1,.int q.2]
abbrev meE(K:Sky):D:=.tup [.int K.r,.int K.s,.tup (K.M.map ag),.tup (K.H.map aj)]
abbrev skE(K:Sky):D:=.tup [meE K,ahE K.ah,.tup (K.G.map ag),.tup (K.F.map D.int)]
structure Vd(K:Sky):Prop where
 r0:0<=K.r
 r8:K.r<=8
 s0:0<=K.s
 s60:K.s<=60
 m0:1<=K.M.length
 m4:K.M.length<=4
 row:∀r ∈ K.M,r.length=K.M.length
 ris:Ris (-1) K.H
 h4:K.H.length<=4
 ah0:∀q,K.ah=aw q->0<=q.1/\q.1 < K.M.length
 g7:K.G.length<=7
 gl:∀g ∈ K.G,g.length=7/\0<=g.getD 0 0/\g.getD 0 0 < K.M.length/\0<=g.getD 2 0
variable {K:Sky}
def sk0:ixS (skE K) (.int 0) S=aw (meE K,S):=rfl
def sk1:ixS (skE K) (.int 1) S=aw (ahE K.ah,S):=rfl
def sk2:ixS (skE K) (.int 2) S=aw (.tup (K.G.map ag),S):=rfl
def sk3:ixS (skE K) (.int 3) S=aw (.tup (K.F.map D.int),S):=rfl
def me0:ixS (meE K) (.int 0) S=aw (.int K.r,S):=rfl
def me1:ixS (meE K) (.int 1) S=aw (.int K.s,S):=rfl
def me2:ixS (meE K) (.int 2) S=aw (.tup (K.M.map ag),S):=rfl
def me3:ixS (meE K) (.int 3) S=aw (.tup (K.H.map aj),S):=rfl
def gl7(V:Vd K){g:Int}(q:0<=g)(u:g < K.G.length):∃a b c d e f h,K.G[g.toNat]?=aw [a,b,c,d,e,f,h]/\gi K.G g 0=a/\gi K.G g 1=b/\gi K.G g 2=c/\gi K.G g 3=d/\gi K.G g 6=h/\0<=a/\a < K.M.length/\0<=c:=by
 !hi:g.toNat < K.G.length:=by lia
 #{L,n,l,C}:=V.gl K.G[g.toNat] (ZS hi)
 match j:K.G[g.toNat],L with
 |[a,b,c,d,e,f,h],_=>
  !eq:K.G[g.toNat]?=aw [a,b,c,d,e,f,h]:=by rw[gEG hi,j]
  rw[j] at n l C;~⟨a,b,c,d,e,f,h,eq,?_,?_,?_,?_,?_,n,l,C⟩ <;> (unfold gi;rw[eq];rfl)
def jR{i:Int}(c:0<=i)(h:b[i.toNat]?=aw d):ixS (.tup b) (.int i) S=aw (d,S):=by
 obtain⟨n,rfl⟩:∃n:Nat,i=(n:Int):=⟨i.toNat,by lia⟩;&BN h
def dQ{g:Int}(b:0<=g)(h:K.G[g.toNat]?=aw r):ixS (.tup (K.G.map ag)) (.int g) S=aw (ag r,S):=jR b (by rw[Zq,h];rfl)
def oW(V:Vd K){a b:Int}(c:0<=a)(j:a < K.M.length)(B:0<=b)(d:b < K.M.length):∃r,ixS (.tup (K.M.map ag)) (.int a) S=aw (ag r,S)/\ixS (ag r) (.int b) S=aw (.int (gp K a b),S):=by
 !hi:a.toNat < K.M.length:=by lia
 !f:=V.row K.M[a.toNat] (ZS hi);!h:b.toNat < K.M[a.toNat].length:=by lia
 ~{K.M[a.toNat],jR c (by rw[Zq,gEG hi];rfl),jR B ?_};rw[Zq,gEG h];!:gp K a b=K.M[a.toNat][b.toNat]:=by unfold gp Dw.mg2;rw[gEG hi,ZX,gEG h];rfl
 rw[this];rfl
end Lw
namespace Lw
open PySem Ev Sn
variable {p:Nat} {S:Sto} {k:Nat} {Q:D->Sto->Prop} {K:Sky}
def uX{t u:Bool}{A B:Prop}(h:t=aN->u=aN->A)(hb:(t && u)=aS->B):wIf t (wIf u A B) B:=by
 cases t with
 |false=>&hb rfl
 |true=>cases u with
  |true=>&h rfl rfl
  |false=>&hb rfl
def mz{b:Type}{l:List b}{i:Nat}{a:b}(h:l[i]?=aw a):l.drop i=a::l.drop (i+1):=by
 #{hi,e}:=Zb.mp h;rw[Y6 hi,e]
def oX{b:Type}{l:List b}{E:b->D}{i:Nat}{d:D}(h:(l.map E)[i]?=aw d):∃a,l[i]?=aw a/\d=E a:=by
 rw[Zq] at h;cases e:l[i]? with
 |none=>rw[e] at h;cases h
 |some a=>rw[e] at h;cases h;&{a,rfl,rfl}
def QC{m:Int}(B:K.H.length<=4)(q:Q (.int (fns K.H m)) S):Ok (evC ab (k+1) 14 [meE K,.int m] S) Q:=by
 ~av (d:=cG) (ρ:=[aw (meE K),aw (.int m),aD,aD]) rfl rfl ?_;dsimp only[cG,fv];k_is;~aa me3 ?_;k_is;~Lm (by rw[Za];lia) (λi f c=>c=S/\fns K.H m=fns (K.H.drop i) m/\∃u v,f=[aw (meE K),aw (.int m),u,v]) (λi d f c hd ⟨b,E,u,v,j⟩=>?_) (λf c ⟨b,E,u,v,j⟩=>?_) ⟨rfl,rfl,aD,aD,rfl⟩
 ·subst b j;#{pr,l,rfl}:=oX hd;~{_,show aA (.tup [.name 2,.name 3]) (.tup [.int pr.1,.int pr.2]) _=_ from fT (by simp) (by simp),?_};k_is;rw[mz l,fns] at E;~uX (λn y=>?_) λh=>?_
  ·k_is;rw[if_pos ⟨of_decide_eq_true n,of_decide_eq_true y⟩] at E;rw[E] at q;&q
  ·k_is;rw[if_neg (λz=>by rw[decide_eq_true z.1,decide_eq_true z.2] at h;cases h)] at E;&{rfl,E,_,_,rfl}
 ·subst b j;k_is;rw[Za,Y4,fns] at E;rw[E] at q;&q
abbrev aq(K:Sky)(L:List (Int × Int)):Option (Int × Int):=match L.getLast? with
 |none=>K.ah
 |some p=>aw (gi K.G p.1 0,p.2)
abbrev InG(K:Sky)(L:List (Int × Int)):Prop:=∀p ∈ L,0<=p.1/\p.1 < K.G.length
def uY(V:Vd K){L:List (Int × Int)}{n:Nat}(j:S[n]?=aw (.lst (L.map aj)))(u:InG K L)(q:Q (ahE (aq K L)) S):Ok (evC ab (k+1) 23 [skE K,.ref n] S) Q:=by
 ~av (d:=c6) (ρ:=[aw (skE K),aw (.ref n),aD,aD]) rfl rfl ?_;dsimp only[c6,f7];k_is;!tr:nu (.ref n) S=aw (!(L.map aj).isEmpty,S):=by simp only[nu,aB j]
 ~aa tr ?_;k_is;rcases X4 L with rfl |⟨L',z,rfl⟩
 ·k_is;&aa sk1 q
 ·rw[X5] at j u q ⊢;rw[show(!!((L'++[z]).map aj).isEmpty)=aS by simp];k_is;!l:=u z (by simp);~aa (mw (ds:=L'.map aj) (e:=aj z) (by rw[j,ZF];rfl)) ?_;rw[show aj z = .tup [.int z.1,.int z.2] from rfl];k_is;~aa sk2 ?_;#{a,b,c,d,e,f,h,v,E,_}:=gl7 V l.1 l.2;~aa (dQ l.1 v) (aa (show ixS (ag [a,b,c,d,e,f,h]) (.int 0) S=aw (.int a,S) from rfl) ?_);k_is
  !:aq K (L'++[z])=aw (a,z.2):=by
   unfold aq;rw[YX];simp[E]
  rw[this] at q;&q
def Jv(V:Vd K){a:Option (Int × Int)}{b:Int}(c:∀q,a=aw q->0<=q.1/\q.1 < K.M.length)(f:0<=b)(n:b < K.M.length)(q:Q (.int (AW K a b)) S):Ok (evC ab (k+1) 24 [skE K,ahE a,.int b] S) Q:=by
 ~av (d:=kH) (ρ:=[aw (skE K),aw (ahE a),aw (.int b)]) rfl rfl ?_;dsimp only[kH,qL];k_is;cases a with
 |none=>&aa (show ao .is (ahE aD) .non S=aw (.bl aN,S) from rfl) (by k_is;&q)
 |some z=>
  ~aa (show ao .is (ahE (aw z)) .non S=aw (.bl aS,S) from rfl) ?_;k_is;#{h,l}:=c z rfl;~aa (show ixS (ahE (aw z)) (.int 1) S=aw (.int z.2,S) from rfl) ?_;~aa sk0 (aa me2 (aa (show ixS (ahE (aw z)) (.int 0) S=aw (.int z.1,S) from rfl) ?_));#{r,j,u}:=oW (S:=S) V h l f n;~aa j (aa u ?_);k_is;&q
def oY(V:Vd K){z:Int × Int}{t:Int}(j:0<=z.1)(u:z.1 < K.G.length)(q:Q (.bl (aC K t z)) S):Ok (evC ab (k+1) 25 [skE K,aj z,.int t] S) Q:=by
 ~av (d:=i7) (ρ:=[aw (skE K),aw (aj z),aw (.int t),aD,aD]) rfl rfl ?_;dsimp only[i7,oG];rw[show aj z = .tup [.int z.1,.int z.2] from rfl];k_is;~aa sk2 ?_;#{a,b,c,d,e,f,h,n,_,l,_}:=gl7 V j u;~aa (dQ j n) (aa (show ixS (ag [a,b,c,d,e,f,h]) (.int 1) S=aw (.int b,S) from rfl) ?_);k_is;!E:aC K t z=(decide (b<=t) && decide (t < z.2 - K.s)):=by unfold aC jn;rw[l]
 rw[E] at q;cases C:decide (b<=t) with
 |false=>rw[C] at q;k_is;&q
 |true=>
  rw[C] at q;k_is;~aa sk0 (aa me1 ?_);k_is;&q
def QD(V:Vd K){L:List (Int × Int)}{n:Nat}{t:Int}(h:S[n]?=aw (.lst (L.map aj)))(c:InG K L)(f:L.length<=1000)(q:∀b,Sm S b->Q (.int (wts K L t)) b):Ok (evC ab (k+2) 26 [skE K,.ref n,.int t] S) Q:=by
 ~av (d:=c7) (ρ:=[aw (skE K),aw (.ref n),aw (.int t)]) rfl rfl ?_;dsimp only[c7,f8];k_is;~{by rw[aB h];rfl,?_};~a9 L aj (λz=>if aC K t z=aN then [aj z] else []) f (λz _=>by split <;> simp) (c8 h) (λi z b j sm=>⟨_,rfl,?_⟩) λb sm=>?_
 ·!:=c z (Zd j);k_is;~{rfl,oY V this.1 this.2 ?_};k_is;cases aC K t z with
  |true=>k_is;&{rfl,Sm.refl _}
  |false=>k_is;&{rfl,Sm.refl _}
 ·rw[bj];~aa (show dh aS ((L.filter (aC K t)).map aj) b=aw (.int (wts K L t),b) by unfold dh wts;rw[Za]) ?_;k_is;&q b sm
def dr:∀ (xs:List Int),cP (xs.map D.int)=aw xs
 |[]=>rfl
 |x::xs=>by simp only[Zy,cP,dr xs]
def uZ{xs:List Int}(h:xs.length < 64):cT aS (xs.map D.int)=aw ((gx xs).map D.int):=by
 unfold cT C4 uk;rw[if_pos rfl,dr];dsimp only;rw[if_pos h]
def Er:(js K).length=K.G.length:=by unfold js;rw[(cE _).length_eq,Za]
def ve(V:Vd K)(q:∀S',Sm S S'->S'[Zl S' - 1]?=aw (.lst ((js K).map D.int))->Zl S<=Zl S' - 1->Q (.ref (Zl S' - 1)) S'):Ok (evC ab (k+1) 27 [skE K] S) Q:=by
 ~av (d:=cw) (ρ:=[aw (skE K)]) rfl rfl ?_;dsimp only[cw,dZ];k_is;~aa sk2 ?_;k_is;~a9 K.G ag (λg=>[.int (g.getD 1 0)]) (by !:=V.g7;lia) (λ_ _=>Zf _) bN (λi g S' n sm=>⟨_,rfl,?_⟩) λS' sm=>?_
 ·#{L,_}:=V.gl g (Zd n)
  match g,L with
  |[a,b,c,d,e,f,h],_=>
   k_is;&aa (show ixS (ag [a,b,c,d,e,f,h]) (.int 1) S'=aw (.int b,S') from rfl) ⟨rfl,Sm.refl _⟩
 ·rw[bp];~{_,show cT aS (K.G.map λg=>D.int (g.getD 1 0))=aw ((js K).map D.int) from ?_,?_}
  ·!:=uZ (xs:=K.G.map λg=>g.getD 1 0) (by rw[Za];!:=V.g7;lia);rw[ZT] at this;&this
  ·!e:Zl (S'++[Ob.lst ((js K).map D.int)]) - 1=Zl S':=by simp
   !sl:Zl S<=Zl S':=by
    cases l:decide (Zl S<=Zl S') with
    |true=>&of_decide_eq_true l
    |false=>
     exfalso;!j:Zl S' < Zl S:=by !:=of_decide_eq_false l;lia
     !:=sm (Zl S') S[Zl S'] (gEG j);rw[Zw (Zf _)] at this;cases this
   !:=q (S'++[Ob.lst ((js K).map D.int)]) (sm.trans (Sm.app _ _)) (by rw[e];&aM) (by rw[e];&sl);rw[e] at this;&this
def jh{n:Nat}{b:List D}{i:Int}{d:D}(c:S[n]?=aw (.lst b))(f:0<=i)(h:b[i.toNat]?=aw d):ixS (.ref n) (.int i) S=aw (d,S):=by
 obtain⟨j,rfl⟩:∃j:Nat,i=(j:Int):=⟨i.toNat,by lia⟩;rw[ZK] at h;simp only[ixS,ay,aB c,ZL,Ev.yb h]
def y4{n:Nat}{d:List D}{j:Nat}(b:S[n]?=aw (.lst d)):slS aD (aw (j:Int)) (.ref n) S=aw (.ref (Zl S),S++[.lst (d.take j)]):=by
 !:jv d aD (aw (j:Int))=d.take j:=by
  by_cases h:j<=d.length
  ·&DV d j h
  ·unfold jv;rw[Dw.B6 _ _ (by lia),ZK,WC (by lia)];show(d.drop 0).take (d.length - 0)=d.take j;rw[List.drop_zero,Yd (by lia),Yd (by lia)]
 simp only[slS,aB b,this]
def mB{a b:Nat}{xs y:List D}(h:S[a]?=aw (.lst xs))(hb:S[b]?=aw (.lst y))(c:xs.length+y.length<=100000):bX .add (.ref a) (.ref b) S=aw (.ref (Zl S),S++[.lst (xs++y)]):=by
 simp only[bX,lZ,Mu,h,hb];rw[if_pos c]
def ij{n:Nat}{d:List D}(h:S[n]?=aw (.lst d)):ak dh (.ref n) S=aw (.int d.length,S):=by simp only[ak,ay,aB h,ZL,dh]
def Es{xs:List Int}(h:xs ≠ []):pL aS (xs.map D.int) S=aw (.int (iT xs),S):=by
 cases xs with
 |nil=>&absurd rfl h
 |cons x xs=>unfold pL;rw[dr]
def Jw(V:Vd K){L:List (Int × Int)}{n j:Nat}{z:Int × Int}(I:S[n]?=aw (.lst (L.map aj)))(O:L[j]?=aw z)(U:InG K L)(hl:L.length<=100)(q:∀f,Sm S f->Q (.int (uV K (L.take j) z.1 z.2)) f):Ok (evC ab (k+3) 29 [skE K,.ref n,.int j,.int (jn K z.1)] S) Q:=by
 ~av (d:=eU) (ρ:=[aw (skE K),aw (.ref n),aw (.int j),aw (.int (jn K z.1)),aD,aD]) rfl rfl ?_;dsimp only[eU,iC];!h:=U z (Zd O);k_is;~aa (y4 I) ?_;k_is;!Z:Sm S (S++[Ob.lst ((L.map aj).take j)]):=Sm.app _ _;!a1:(S++[Ob.lst ((L.map aj).take j)])[Zl S]?=aw (Ob.lst ((L.take j).map aj)):=by rw[aM,XM]
 generalize Zl S=N1 at *;generalize S++[Ob.lst ((L.map aj).take j)]=S1 at *;~{rfl,ve V λS2 u E _=>?_};k_is;~{by rw[aB E];rfl,?_};!y:(js K).length<=7:=by rw[Er];&V.g7
 ~a9 (js K) D.int (λt=>if (decide (jn K z.1 < t) && aC K t z)=aN then [D.int t] else []) (by lia) (λ_ _=>by split <;> simp) (c8 E) (λi t f ht sm=>⟨_,rfl,?_⟩) λb B=>?_
 ·k_is;cases c:decide (jn K z.1 < t) with
  |false=>k_is;&{rfl,Sm.refl _}
  |true=>
   k_is;!v:=sm _ _ (u _ _ (Z _ _ I));~aa (jh v (by lia) (show(L.map aj)[((j:Nat):Int).toNat]?=aw (aj z) by rw[ZK,Zq,O];rfl)) ?_;~{rfl,oY V h.1 h.2 ?_};k_is;cases aC K t z with
   |true=>k_is;&{rfl,Sm.refl _}
   |false=>k_is;&{rfl,Sm.refl _}
 ·rw[bj];k_is;!lt3:Zl b < Zl (b++[Ob.lst (((js K).filter λt=>decide (jn K z.1 < t) && aC K t z).map D.int)]):=by simp
  !a3:(b++[Ob.lst (((js K).filter λt=>decide (jn K z.1 < t) && aC K t z).map D.int)])[Zl b]?=aw (Ob.lst (((js K).filter λt=>decide (jn K z.1 < t) && aC K t z).map D.int)):=aM;!X:Sm b (b++[Ob.lst (((js K).filter λt=>decide (jn K z.1 < t) && aC K t z).map D.int)]):=Sm.app _ _;!lf:((js K).filter λt=>decide (jn K z.1 < t) && aC K t z).length<=7:=ZJ (YB _ _) y;generalize Zl b=N3 at *;generalize b++[Ob.lst (((js K).filter λt=>decide (jn K z.1 < t) && aC K t z).map D.int)]=S4 at *;!l:Sm S4 (S4++[Ob.lst [D.int (jn K z.1)]]):=Sm.app _ _;~aa (mB (xs:=[D.int (jn K z.1)]) aM (l _ _ a3) (by rw[Za,Zm];lia)) ?_;k_is;!T:Sm (S4++[Ob.lst [D.int (jn K z.1)]]) (S4++[Ob.lst [D.int (jn K z.1)]]++[Ob.lst ([D.int (jn K z.1)]++((js K).filter λt=>decide (jn K z.1 < t) && aC K t z).map D.int)]):=Sm.app _ _;!C:(S4++[Ob.lst [D.int (jn K z.1)]]++[Ob.lst ([D.int (jn K z.1)]++((js K).filter λt=>decide (jn K z.1 < t) && aC K t z).map D.int)])[Zl (S4++[Ob.lst [D.int (jn K z.1)]])]?=aw (Ob.lst ((jg K (L.take j) z.1 z.2).map D.int)):=aM;~{by rw[aB C];rfl,?_};!sA:=((((Z.trans u).trans B).trans X).trans l).trans T;!aL:=(((((u.trans B).trans X).trans l).trans T)) _ _ a1;~a9 (jg K (L.take j) z.1 z.2) D.int (λt=>[D.int (1+(wts K (L.take j) t:Int))]) (by show((js K).filter λt=>decide (jn K z.1 < t) && aC K t z).length+1<=1000;lia) (λ_ _=>Zf _) (c8 C) (λi t f ht sm=>⟨_,rfl,?_⟩) λY s7=>?_
  ·k_is;~{rfl,QD V (sm _ _ aL) (λw hw=>U w (YW hw)) (by rw[Yi];lia) λS8 s8=>?_};k_is;&{rfl,s8}
  ·rw[bp];!J:=Es (S:=Y) (xs:=(jg K (L.take j) z.1 z.2).map λt=>1+(wts K (L.take j) t:Int)) (by unfold jg;simp);rw[ZT] at J;&aa J (by k_is;&q Y (sA.trans s7))
def Jx(V:Vd K){L:List (Int × Int)}{n j:Nat}{z:Int × Int}(B:S[n]?=aw (.lst (L.map aj)))(v:L[j]?=aw z)(I:InG K L)(T:L.length<=100)(q:∀u,Sm S u->Q (.bl (uW K (L.take j) z.1 z.2)) u):Ok (evC ab (k+4) 28 [skE K,.ref n,.int j] S) Q:=by
 ~av (d:=eS) (ρ:=[aw (skE K),aw (.ref n),aw (.int j),aD,aD,aD,aD,aD,aD,aD]) rfl rfl ?_;dsimp only[eS,iB];!l:=I z (Zd v);#{a,b,c,d,e,f,h,eg,e0,Y,e2,e3,X,_}:=gl7 V l.1 l.2;!hi:=jh B (show(0:Int)<=(j:Int) by lia) (show(L.map aj)[((j:Nat):Int).toNat]?=aw (aj z) by rw[ZK,Zq,v];rfl);k_is;~aa sk2 (aa hi (aa (show ixS (aj z) (.int 0) S=aw (.int z.1,S) from rfl) (aa (dQ l.1 eg) ?_)));rw[show ag [a,b,c,d,e,f,h] = .tup [.int a,.int b,.int c,.int d,.int e,.int f,.int h] from rfl];k_is;!J:jn K z.1=b:=Y;!U:uW K (L.take j) z.1 z.2=(decide (0 < h) && (aC K b z && decide (h < uV K (L.take j) z.1 z.2))):=by unfold uW;rw[X,J]
 rw[U] at q;cases C:decide (0 < h) with
 |false=>rw[C] at q;k_is;&q S (Sm.refl S)
 |true=>
  rw[C] at q;k_is;~aa hi ?_;~{rfl,oY V l.1 l.2 ?_};k_is;cases E:aC K b z with
  |false=>rw[E] at q;k_is;&q S (Sm.refl S)
  |true=>
   rw[E] at q;k_is
   !rg:=Jw (k:=k) (Q:=λy Z=>wCx .gt y (.int h) Z λd O=>Q d O) V B v I T λu sm=>by
    k_is;&q u sm
   rw[J] at rg;&{rfl,rg}
def Jy(V:Vd K){j:Nat}{m:Int}(q:∀f,Sm S f->Q (.bl (l8 K j m)) f):Ok (evC ab (k+2) 33 [skE K,.int j,.int m] S) Q:=by
 ~av (d:=cy) (ρ:=[aw (skE K),aw (.int j),aw (.int m),aD,aD,aD,aD,aD,aD]) rfl rfl ?_;dsimp only[cy,eB];k_is;~aa sk0 ?_;rw[show meE K = .tup [.int K.r,.int K.s,.tup (K.M.map ag),.tup (K.H.map aj)] from rfl];k_is;~{rfl,ve V λu l n _=>?_};k_is;~aa (ij n) ?_;k_is;rw[Za];!r0:=V.r0;!E:l8 K j m=match (js K)[(K.r+j).toNat]? with |some t=>decide (t < m - K.s) |none=>aS:=rfl
 ~dC (λh=>?_) λh=>?_
 ·!b:(K.r+j).toNat < (js K).length:=by !:=of_decide_eq_true h;lia
  rw[gEG b] at E;k_is;~aa (jh n (by lia) (show((js K).map D.int)[(K.r+(j:Int)).toNat]?=aw (.int (js K)[(K.r+(j:Int)).toNat]) by rw[Zq,gEG b];rfl)) ?_;k_is;!:=q u l;rw[E] at this;&this
 ·!c:(js K).length<=(K.r+j).toNat:=by !:=of_decide_eq_false h;lia
  rw[Zw c] at E;!:=q u l;rw[E] at this;&this
abbrev jS:Option Int->D
 |none=>.non
 |some m=>.int m
def qS(V:Vd K){a:Option (Int × Int)}{g:Int}{j:Nat}(O:∀q,a=aw q->0<=q.1/\q.1 < K.M.length)(y:0<=g)(U:g < K.G.length)(q:∀n,Sm S n->Q (jS (Sn.step K a g j)) n):Ok (evC ab (k+3) 32 [skE K,ahE a,.int g,.int j] S) Q:=by
 ~av (d:=cI) (ρ:=[aw (skE K),aw (ahE a),aw (.int g),aw (.int j),aD,aD,aD,aD,aD,aD,aD,aD]) rfl rfl ?_;dsimp only[cI,fA];#{l,b,c,d,e,f,h,Z,Y,e1,E,B,e6,T,J,X}:=gl7 V y U;k_is;~aa sk2 (aa (dQ y Z) ?_);rw[show ag [l,b,c,d,e,f,h] = .tup [.int l,.int b,.int c,.int d,.int e,.int f,.int h] from rfl];k_is;~aa sk0 ?_;~{rfl,Jv V O T J ?_};k_is;~{rfl,QC V.h4 ?_};k_is
 !I:fns K.H (if AW K a l > c then AW K a l else c)=opm K.H (be K a g):=by
  !:=Eo (K:=K) (ah:=a) (g:=g) (by rw[E];&X);rw[Y,E] at this;rw[this,yZ V.ris]
 rw[I];!L:Sn.step K a g j=if (decide (d < opm K.H (be K a g)) || l8 K j (opm K.H (be K a g)))=aN then aD else aw (opm K.H (be K a g)):=by unfold Sn.step;rw[B]
 rw[L] at q;cases C:decide (d < opm K.H (be K a g)) with
 |true=>rw[C] at q;k_is;&q S (Sm.refl S)
 |false=>
  rw[C] at q;k_is;~{rfl,Jy V λv z=>?_};k_is;cases u:l8 K j (opm K.H (be K a g)) with
  |true=>rw[u] at q;k_is;&q v z
  |false=>rw[u] at q;k_is;&q v z
def Sm.setNew{S b:Sto}{f:Nat}{o:Ob}(h:Sm S b)(c:S.length<=f):Sm S (b.set f o):=λi u e=>by
 !hi:=(Zb.mp e).1;rw[Zx (by lia)];&h i u e
def QE{g:Int}(b:0<=g)(c:g < K.G.length):jn K g ∈ js K:=by
 !hi:g.toNat < K.G.length:=by lia
 ~(cE _).mem_iff.mpr (Zz.mpr ⟨K.G[g.toNat],ZS hi,?_⟩);unfold jn gi;rw[gEG hi];rfl
def jT(V:Vd K){L:List (Int × Int)}(u:InG K L):∀q,aq K L=aw q->0<=q.1/\q.1 < K.M.length:=λq e=>by
 unfold aq at e;cases h:L.getLast? with
 |none=>rw[h] at e;&V.ah0 q e
 |some z=>
  rw[h] at e;cases e;!j:=u z (Xq h);#{a,b,c,d,e,f,h,J,E,I,y,v,B,n,l,C}:=gl7 V j.1 j.2;show 0<=gi K.G z.1 0/\gi K.G z.1 0 < K.M.length;rw[E];&{n,l}
def aU{L:List (Int × Int)}{z:Int × Int}:aq K (L++[z])=aw (gi K.G z.1 0,z.2):=by
 unfold aq;rw[YX];rfl
def gw:∀ (os:List Int) (a:Option (Int × Int)) (L:List (Int × Int)) (j:Nat),rn K os a L = .inl j->j < L.length+os.length
 |[],_,_,_,h=>by cases h
 |g::os,a,L,j,h=>by
  rw[rn] at h;rw[Zo];split at h
  ·cases h;lia
  ·split at h
   ·cases h;lia
   ·!:=gw os _ _ j h;rw[Ze,Zm] at this
    lia
def jU:∀ (os:List Int) (a:Option (Int × Int)) (L R:List (Int × Int)),rn K os a L = .inr R->R.length=L.length+os.length
 |[],_,_,_,h=>by cases h;rfl
 |g::os,a,L,R,h=>by
  rw[rn] at h;rw[Zo];split at h
  ·cases h
  ·split at h
   ·cases h
   ·!:=jU os _ _ R h;rw[Ze,Zm] at this
    lia
structure Ends(K:Sky)(os:List Int)(L:List (Int × Int)):Prop where
 stuck:∀j,rn K os K.ah [] = .inl j->L.length=j
 lands:∀R,rn K os K.ah [] = .inr R->L=R
def vf(V:Vd K){os:List Int}(ho:∀g ∈ os,0<=g/\g < K.G.length)(lo:os.length<=7)
  (q:∀n L B,Sm S B->B[n]?=aw (.lst (L.map aj))->Zl S<=n->Ends K os L->Q (.ref n) B):Ok (evC ab (k+5) 30 [skE K,.tup (os.map D.int)] S) Q:=by
 ~av (d:=cb) (ρ:=[aw (skE K),aw (.tup (os.map D.int)),aD,aD,aD,aD]) rfl rfl ?_;dsimp only[cb,dM];k_is;~Ep (by rw[Za];lia) (λi Z B=>Sm S B/\∃L u v w,Z=[aw (skE K),aw (.tup (os.map D.int)),aw (.ref (Zl S)),u,v,w]/\B[Zl S]?=aw (.lst (L.map aj))/\L.length=i/\InG K L/\rn K os K.ah []=rn K (os.drop i) (aq K L) L) (λi d Z S1 hd ⟨X,L,u,v,w,er,E,hi,C,b⟩=>?_) (λZ S1 ⟨X,L,u,v,w,er,E,hi,C,b⟩=>?_) ⟨Sm.app _ _,[],aD,aD,aD,rfl,aM,rfl,λ_ h=>(by simp at h),rfl⟩
 ·subst er;#{g,hg,rfl}:=oX hd;!y:=ho g (Zd hg);!hil:i < os.length:=(Zb.mp hg).1;rw[mz hg,rn,hi] at b;~{_,fT (by simp) (by simp),?_};k_is;~{rfl,uY V E C ?_};~{rfl,qS V (jT V C) y.1 y.2 λf U=>?_};k_is;cases I:Sn.step K (aq K L) g i with
  |none=>
   rw[I] at b;~aa (show ao .is (jS aD) .non f=aw (.bl aN,f) from rfl) ?_;k_is;&q _ L f (X.trans U) (U _ _ E) (Zf _) ⟨λj e=>by rw[b] at e;cases e;&hi,λR e=>by rw[b] at e;cases e⟩
  |some m=>
   rw[I] at b;~aa (show ao .is (jS (aw m)) .non f=aw (.bl aS,f) from rfl) ?_;rw[show jS (aw m) = .int m from rfl];k_is;!l:=U _ _ E;~{cV l,?_};rw[jf l (by rw[Za];lia)];k_is;!Y:Zl S < f.length:=(Zb.mp l).1;!c:(f.set (Zl S) (Ob.lst (L.map aj++[D.tup [D.int g,D.int m]])))[Zl S]?=aw (.lst ((L++[(g,m)]).map aj)):=by rw[e8 Y,ZF];rfl
   !s3:Sm S (f.set (Zl S) (Ob.lst (L.map aj++[D.tup [D.int g,D.int m]]))):=Sm.setNew (X.trans U) (Zf _);generalize f.set (Zl S) (Ob.lst (L.map aj++[D.tup [D.int g,D.int m]]))=S3 at *
   !T:InG K (L++[(g,m)]):=λz hz=>by
    rcases ZR.mp hz with hz |hz
    ·&C z hz
    ·rw[ZG.mp hz];&y
   !hz3:(L++[(g,m)])[i]?=aw (g,m):=by rw[Zp (by lia),hi,ZY];rfl
   !J:(L++[(g,m)]).take i=L:=by rw[<-hi,WL]
   ~{rfl,Jx V c hz3 T (by rw[Ze,Zm];lia) λS4 O=>?_};rw[J,Ju λz hz=>QE (C z hz).1 (C z hz).2];k_is;dsimp only at b;cases hh:cz K L g m with
   |true=>
    rw[hh,if_pos rfl] at b;k_is;~aa (y4 (O _ _ c)) ?_;k_is;!a5:(S4++[Ob.lst (((L++[(g,m)]).map aj).take i)])[Zl S4]?=aw (.lst (L.map aj)):=by rw[aM,<-XM,J]
    !l4:Zl S<=Zl S4:=Y0 (Zb.mp (O _ _ c)).1;&q _ L _ ((s3.trans O).trans (Sm.app _ _)) a5 l4 ⟨λj e=>by rw[b] at e;cases e;&hi,λR e=>by rw[b] at e;cases e⟩
   |false=>
    rw[hh,if_neg Zh] at b;k_is;&{s3.trans O,L++[(g,m)],_,_,_,rfl,O _ _ c,by rw[Ze,Zm];lia,T,by rw[aU];&b}
 ·subst er;k_is;rw[Za,Y4,rn] at b;&q _ L S1 X E (Zf _) ⟨λj e=>(by rw[b] at e;cases e),λR e=>(by rw[b] at e;cases e;rfl)⟩
end Lw
namespace Lw
open PySem Ev
variable {p:Nat} {S:Sto} {k:Nat} {Q:D->Sto->Prop}
end Lw
namespace Lw
open PySem Ev Sn
variable {p:Nat} {S:Sto} {k:Nat} {Q:D->Sto->Prop} {K:Sky}
def ik(r:List Int):TDs p S (r.map Dw.D.int) (r.map D.int):=by
 induction r with
 |nil=>&bP
 |cons a r I=>&au bK I
def e9:∀ (M:List (List Int)),TDs p S (Dw.iR M) (M.map ag)
 |[]=>bP
 |r::M=>au (bL (ik r)) (e9 M)
abbrev ahT:Option (Int × Int)->Dw.D
 |none=>.non
 |some q=>.tup [.int q.1,.int q.2]
abbrev skT(K:Sky):Dw.D:=.tup [.tup [.int K.r,.int K.s,.tup (Dw.iR K.M),.tup (K.H.map Dw.qm)],ahT K.ah,.tup (Dw.iR K.G),.tup (K.F.map Dw.D.int)]
def Ln:∀ (a:Option (Int × Int)),TD p S (ahT a) (ahE a)
 |none=>NR
 |some q=>bL (au bK (au bK bP))
def Ud:TD p S (skT K) (skE K):=bL (au (bL (au bK (au bK (au (bL (e9 K.M)) (au (bL (gU K.H)) bP))))) (au (Ln K.ah) (au (bL (e9 K.G)) (au (bL (ik K.F)) bP))))
structure Ord(K:Sky)(os:List Int):Prop where
 nd:os.Nodup
 bd:∀g ∈ os,0<=g/\g < K.G.length
 ln:os.length=K.G.length
 fx:∃r,os=K.F++r
 pm:os.Perm ((Zi K.G.length).map λi=>Int.ofNat i)
abbrev Res(K:Sky)(os:List Int)(b:Nat)(d:D)(c:Sto):Prop:=match rn K os K.ah [] with
 |.inl j=>d = .tup [.str "stuck", .int j]
 |.inr R=>∃n,d = .tup [.str "lands", .ref n]/\c[n]?=aw (.lst (R.map aj))/\b<=n
def Et{H:List (Int × Int)}{m:Int}(C:H.length<=4)(q:Q (.int (opm H m)) S):Ok (evC ab (k+1) 51 [.tup (H.map aj),.int m] S) Q:=by
 ~av (d:=ja) (ρ:=[aw (.tup (H.map aj)),aw (.int m),aD,aD]) rfl rfl ?_;dsimp only[ja,oI];k_is;~Lm (by rw[Za];lia) (λi j f=>f=S/\∃ (b:Int) (u v:Option D),opm H m=opm (H.drop i) b/\j=[aw (.tup (H.map aj)),aw (.int b),u,v]) (λi d j f hd ⟨c,b,u,v,E,l⟩=>?_) (λj f ⟨c,b,u,v,E,l⟩=>?_) ⟨rfl,m,aD,aD,rfl,rfl⟩
 ·subst c l;#{pr,n,rfl}:=oX hd;~{_,show aA (.tup [.name 2,.name 3]) (.tup [.int pr.1,.int pr.2]) _=_ from fT (by simp) (by simp),?_};k_is;rw[mz n,opm] at E;~uX (λy B=>?_) λh=>?_
  ·k_is;rw[if_pos ⟨of_decide_eq_true y,of_decide_eq_true B⟩] at E;&{rfl,_,_,_,E,rfl}
  ·k_is;rw[if_neg (λz=>by rw[decide_eq_true z.1,decide_eq_true z.2] at h;cases h)] at E;&{rfl,_,_,_,E,rfl}
 ·subst c l;k_is;rw[Za,Y4,opm] at E;rw[E] at q;&q
def AY(V:Vd K){L:List (Int × Int)}{n:Nat}{t:Int}(l:S[n]?=aw (.lst (L.map aj)))(C:InG K L)(y:L.length<=1000)(q:∀N v j,Sm S j->j[N]?=aw (.lst v)->v.length=wts K L t->Q (.ref N) j):Ok (evC ab (k+1) 52 [skE K,.ref n,.int t] S) Q:=by
 ~av (d:=gO) (ρ:=[aw (skE K),aw (.ref n),aw (.int t)]) rfl rfl ?_;dsimp only[gO,lH];k_is;~{by rw[aB l];rfl,?_};~a9 L aj (λz=>if aC K t z=aN then [.int z.1] else []) y (λz _=>by split <;> simp) (c8 l) (λi z j B sm=>⟨_,show aA (.tup [.name 3,.name 4]) (.tup [.int z.1,.int z.2]) _=_ from fT (by simp) (by simp),?_⟩) λj sm=>?_
 ·#{u,O}:=C z (Zd B);#{a,b,c,d,e,f,h,J,_,E,_}:=gl7 V u O;k_is;~aa sk2 (aa (dQ u J) (aa (show ixS (ag [a,b,c,d,e,f,h]) (.int 1) j=aw (.int b,j) from rfl) ?_));k_is;!I:aC K t z=(decide (b<=t) && decide (t < z.2 - K.s)):=by unfold aC jn;rw[E]
  rw[I];cases T:decide (b<=t) with
  |false=>k_is;&{rfl,Sm.refl _}
  |true=>
   k_is;~aa sk0 (aa me1 ?_);k_is;cases U:decide (t < z.2 - K.s) with
   |true=>k_is;&{rfl,Sm.refl _}
   |false=>k_is;&{rfl,Sm.refl _}
 ·rw[bj];k_is;&q _ _ _ (sm.trans (Sm.app _ _)) aM (by rw[Za];rfl)
def AZ{c:Int}{xs:List Int}{n:Nat}(h:S[n]?=aw (.lst (xs.map D.int))):ak (fY c) (.ref n) S=aw (.int (pM c xs),S):=by
 simp only[ak,ay,aB h,ZL,fY,dr]
def Eu(V:Vd K){L:List (Int × Int)}{n:Nat}{g m:Int}(J:S[n]?=aw (.lst (L.map aj)))(X:InG K L)(hl:L.length<=100)(U:0<=g)(g1:g < K.G.length)(q:∀l,Sm S l->Q (.int (gW K L g m)) l):Ok (evC ab (k+2) 53 [skE K,.ref n,.int g,.int m] S) Q:=by
 ~av (d:=jb) (ρ:=[aw (skE K),aw (.ref n),aw (.int g),aw (.int m),aD,aD,aD]) rfl rfl ?_;dsimp only[jb,oJ];#{a,b,c,d,e,f,h,C,_,E,_}:=gl7 V U g1;!Z:jn K g=b:=E;k_is;~aa sk2 (aa (dQ U C) (aa (show ixS (ag [a,b,c,d,e,f,h]) (.int 1) S=aw (.int b,S) from rfl) ?_));k_is;!s1:Sm S (S++[Ob.lst [D.int b]]):=Sm.app _ _;!a1:(S++[Ob.lst [D.int b]])[Zl S]?=aw (Ob.lst [D.int b]):=aM;generalize Zl S=N1 at *;generalize S++[Ob.lst [D.int b]]=S1 at *;!u:=s1 _ _ J;~{by rw[aB u];rfl,?_};~a9 L aj (λz=>[.int (jn K z.1)]) (by lia) (λ_ _=>Zf _) (c8 u) (λi z l hz sm=>⟨_,show aA (.tup [.name 7,.name 8]) (.tup [.int z.1,.int z.2]) _=_ from fT (by simp) (by simp),?_⟩) λj Y=>?_
 ·#{O,h1}:=X z (Zd hz);#{a,b,c,d,e,f,h,C,_,E,_}:=gl7 V O h1;k_is;~aa sk2 (aa (dQ O C) (aa (show ixS (ag [a,b,c,d,e,f,h]) (.int 1) l=aw (.int b,l) from rfl) ?_));&{by rw[show jn K z.1=b from E],Sm.refl _}
 ·rw[bp];!I:Sm j (j++[Ob.lst (L.map λz=>D.int (jn K z.1))]):=Sm.app _ _;~aa (mB (I _ _ (Y _ _ a1)) aM (by rw[Za,Zm];lia)) ?_;k_is;!s4:Sm (j++[Ob.lst (L.map λz=>D.int (jn K z.1))]) (j++[Ob.lst (L.map λz=>D.int (jn K z.1))]++[Ob.lst ([D.int b]++L.map λz=>D.int (jn K z.1))]):=Sm.app _ _
  !T:(j++[Ob.lst (L.map λz=>D.int (jn K z.1))]++[Ob.lst ([D.int b]++L.map λz=>D.int (jn K z.1))])[Zl (j++[Ob.lst (L.map λz=>D.int (jn K z.1))])]?=aw (Ob.lst ((jn K g::L.map λz=>jn K z.1).map D.int)):=by
   rw[aM,Z,Zy,ZT];rfl
  !sA:=((s1.trans Y).trans I).trans s4;!y:=sA _ _ J;generalize Zl (j++[Ob.lst (L.map λz=>D.int (jn K z.1))])=N4 at *;generalize j++[Ob.lst (L.map λz=>D.int (jn K z.1))]++[Ob.lst ([D.int b]++L.map λz=>D.int (jn K z.1))]=S4 at *;~{by rw[aB T];rfl,?_};~a9 (jn K g::L.map λz=>jn K z.1) D.int (λt=>if (decide (jn K g<=t) && decide (t < m - K.s))=aN then [D.int (1+(wts K L t:Int))] else []) (by rw[Zo,Za];lia) (λ_ _=>by split <;> simp) (c8 T) (λi t l ht sm=>⟨_,rfl,?_⟩) λv s5=>?_
  ·k_is;rw[Z];cases c1:decide (b<=t) with
   |false=>k_is;&{rfl,Sm.refl _}
   |true=>
    k_is;~aa sk0 (aa me1 ?_);k_is;cases c2:decide (t < m - K.s) with
    |false=>k_is;&{rfl,Sm.refl _}
    |true=>
     k_is;~{rfl,AY V (sm _ _ y) X (by lia) λN ds S6 B hN hd=>?_};~aa (ij hN) ?_;k_is;rw[hd];&{rfl,B}
  ·rw[bj];k_is;!B:Sm v (v++[Ob.lst ((dg K L g m).map λt=>D.int (1+(wts K L t:Int)))]):=Sm.app _ _;!a6:(v++[Ob.lst ((dg K L g m).map λt=>D.int (1+(wts K L t:Int)))])[Zl v]?=aw (Ob.lst (((dg K L g m).map λt=>1+(wts K L t:Int)).map D.int)):=by rw[aM,ZT];rfl
   ~aa (AZ a6) ?_;k_is;&q _ ((sA.trans s5).trans B)
def Ew{d:List D}{i:Int}(b:0<=i):jv d (aw i) aD=d.drop i.toNat:=by
 unfold jv;rw[Dw.Mf _ _ b,HT.BK];by_cases h:i.toNat<=d.length
 ·rw[WH h,Yd (by rw[YI];lia)]
 ·rw[WC (by lia),Y4,List.take_nil,Xl (by lia)]
def Ex{n:Nat}{d:List D}{i:Int}(b:S[n]?=aw (.lst d))(h:0<=i):slS (aw i) aD (.ref n) S=aw (.ref (Zl S),S++[.lst (d.drop i.toNat)]):=by
 simp only[slS,aB b,Ew h]
def xG(V:Vd K){a:Option (Int × Int)}{g:Int}{j:Nat}{kd jo L:Int}{w1 w2:Option D}(T:gi K.G g 3=L)(q:∀n,Sm S n->Q (jS (Sn.step K a g j)) n) :
  rW (wSs (evC ab (k+1)) (cu ab) 58 (fM.drop 2)) [aw (skE K),aw (ahE a),aw (.int g),aw (.int j),aw (.int kd),aw (.int jo),aw (.int (be K a g)),aw (.int L),aD,aD] S (out Q):=by
 dsimp only[fM,Yr];k_is;~aa sk0 (aa me3 ?_);~{rfl,Et V.h4 ?_};k_is;!X:Sn.step K a g j=if (decide (L < opm K.H (be K a g)) || l8 K j (opm K.H (be K a g)))=aN then aD else aw (opm K.H (be K a g)):=by unfold Sn.step;rw[T]
 rw[X] at q;generalize opm K.H (be K a g)=m at *;~aa sk2 ?_;k_is;~a9 K.G ag (λg=>[.int (g.getD 1 0)]) (by !:=V.g7;lia) (λ_ _=>Zf _) bN (λi g n Y sm=>⟨_,rfl,?_⟩) λl s1=>?_
 ·#{l7,_}:=V.gl g (Zd Y)
  match g,l7 with
  |[a,b,c,d,e,f,h],_=>
   k_is;&aa (show ixS (ag [a,b,c,d,e,f,h]) (.int 1) n=aw (.int b,n) from rfl) ⟨rfl,Sm.refl _⟩
 ·rw[bp];~{_,show cT aS (K.G.map λg=>D.int (g.getD 1 0))=aw ((js K).map D.int) from ?_,?_}
  ·!:=uZ (xs:=K.G.map λg=>g.getD 1 0) (by rw[Za];!:=V.g7;lia);rw[ZT] at this;&this
  ·~aa sk0 (aa me0 ?_);k_is;!Z:Sm l (l++[Ob.lst ((js K).map D.int)]):=Sm.app _ _;!U:(l++[Ob.lst ((js K).map D.int)])[Zl l]?=aw (Ob.lst ((js K).map D.int)):=aM;generalize Zl l=N1 at *;generalize l++[Ob.lst ((js K).map D.int)]=S2 at *;!r0:=V.r0;~aa (Ex U (by lia)) ?_;k_is;!O:Sm S2 (S2++[Ob.lst (((js K).map D.int).drop (K.r+(j:Int)).toNat)]):=Sm.app _ _;!I:(S2++[Ob.lst (((js K).map D.int).drop (K.r+(j:Int)).toNat)])[Zl S2]?=aw (Ob.lst (((js K).map D.int).drop (K.r+(j:Int)).toNat)):=aM;!l3:Zl S2 < Zl (S2++[Ob.lst (((js K).map D.int).drop (K.r+(j:Int)).toNat)]):=by simp
   generalize Zl S2=N2 at *;generalize S2++[Ob.lst (((js K).map D.int).drop (K.r+(j:Int)).toNat)]=S3 at *;!J:=(s1.trans Z).trans O;cases C:decide (L < m) with
   |true=>rw[C] at q;k_is;&q _ J
   |false=>
    rw[C] at q;k_is;~aa (DU (Sm.app _ _ _ _ I) aM (by lia)) ?_;k_is;!y:Sm S (S3++[Ob.lst []]):=J.trans (Sm.app _ _);!z:=Sm.app S3 [Ob.lst []] _ _ I;generalize S3++[Ob.lst []]=S4 at *;!E:l8 K j m=match (js K)[(K.r+j).toNat]? with |some t=>decide (t < m - K.s) |none=>aS:=rfl
    by_cases u:(K.r+(j:Int)).toNat < (js K).length
    ·rw[gEG u] at E;dsimp only at E
     !v:((js K).map D.int).drop (K.r+(j:Int)).toNat = .int (js K)[(K.r+(j:Int)).toNat]::((js K).map D.int).drop ((K.r+(j:Int)).toNat+1):=by
      rw[Y6 (by rw[Za];&u),WD]
     rw[v] at z;rw[v,show(!(D.int (js K)[(K.r+(j:Int)).toNat]::((js K).map D.int).drop ((K.r+(j:Int)).toNat+1)).isEmpty)=aN from rfl];k_is;~aa sk0 (aa me1 ?_);k_is;~aa (jh (i:=0) z (by lia) rfl) ?_;k_is;rw[E] at q;cases B:decide ((js K)[(K.r+(j:Int)).toNat] < m - K.s) with
     |true=>rw[B] at q;k_is;&q _ y
     |false=>rw[B] at q;k_is;&q _ y
    ·rw[Zw (by lia)] at E;!v:((js K).map D.int).drop (K.r+(j:Int)).toNat=[]:=Xl (by rw[Za];lia);rw[v,show(!([]:List D).isEmpty)=aS from rfl];k_is;rw[E] at q;&q _ y
def vg(V:Vd K){a:Option (Int × Int)}{g:Int}{j:Nat}(C:∀q,a=aw q->0<=q.1/\q.1 < K.M.length)(v:0<=g)(J:g < K.G.length)(q:∀u,Sm S u->Q (jS (Sn.step K a g j)) u):Ok (evC ab (k+2) 54 [skE K,ahE a,.int g,.int j] S) Q:=by
 ~av (d:=jc) (ρ:=[aw (skE K),aw (ahE a),aw (.int g),aw (.int j),aD,aD,aD,aD,aD,aD]) rfl rfl ?_;dsimp only[jc,fM];#{l,b,c,d,e,f,h,X,O,e1,n,y,e6,I,B,c0}:=gl7 V v J;k_is;~aa sk2 (aa (dQ v X) ?_);rw[show ag [l,b,c,d,e,f,h] = .tup [.int l,.int b,.int c,.int d,.int e,.int f,.int h] from rfl];k_is;rw[show jv [D.int l,.int b,.int c,.int d,.int e,.int f,.int h] aD (aw 4)=[.int l,.int b,.int c,.int d] from rfl];k_is;!T:=xG (k:=k) (S:=S) (Q:=Q) V (a:=a) (g:=g) (j:=j) (kd:=l) (jo:=b) (w1:=aD) (w2:=aD) y q;dsimp only[fM,Yr] at T;cases a with
 |none=>
  !E:be K aD g=c:=n;rw[E] at T;~aa (show ao .isnot (ahE aD) .non S=aw (.bl aS,S) from rfl) ?_;k_is;&T
 |some z=>
  #{Z,U}:=C z rfl;~aa (show ao .isnot (ahE (aw z)) .non S=aw (.bl aN,S) from rfl) ?_;k_is;~aa (show ixS (ahE (aw z)) (.int 1) S=aw (.int z.2,S) from rfl) ?_;~aa sk0 (aa me2 (aa (show ixS (ahE (aw z)) (.int 0) S=aw (.int z.1,S) from rfl) ?_));#{r,Y,L}:=oW (S:=S) V Z U I B;~aa Y (aa L ?_);k_is;!E:be K (aw z) g=if z.2+gp K z.1 l > c then z.2+gp K z.1 l else c:=by unfold be;rw[O,n]
  rw[E] at T;&T
def oZ(V:Vd K){L:List (Int × Int)}{j:Sto}{N i:Nat}{g m h:Int}{O ad:D}(n:j[N]?=aw (.lst (L.map aj)))(B:L.length<=100)(l:0<=g)(y:g < K.G.length){Qf:Fl->Rho->Sto->Prop}
  (q:Qf .nx [aw (skE K),aw O,aw (ahE (aq K (L++[(g,m)]))),aw (.ref N),aw (.int i),aw (.int g),aw (.int m),aw (.int h)] (j.set N (.lst (L.map aj++[.tup [.int g,.int m]])))) :
  cD (.ref N) j=aN/\Ok (rV (.ref N) [.tup [.int g,.int m]] j) λ_ v=>rW (wSs (evC ab (k+2)) (cu ab) 54 [CS.asg (Tg.name 2) (CE.tup [(((CE.var 0).ix (CE.int 2)).ix (CE.var 5)).ix (CE.int 0),CE.var 6])]) [aw (skE K),aw O,aw ad,aw (.ref N),aw (.int i),aw (.int g),aw (.int m),aw (.int h)] v Qf:=by
 ~{cV n,?_};rw[jf n (by rw[Za];lia)];#{a,b,c,d,e,f,u,z,E,_}:=gl7 V l y;k_is;~aa sk2 (aa (dQ l z) (aa (show ixS (ag [a,b,c,d,e,f,u]) (.int 0) (j.set N (.lst (L.map aj++[.tup [.int g,.int m]])))=aw (.int a,_) from rfl) ?_));k_is;rw[aU,E] at q;&q
def vh(V:Vd K){os:List Int}(ho:∀g ∈ os,0<=g/\g < K.G.length)(lo:os.length<=7)(q:∀d S',Sm S S'->Res K os (Zl S) d S'->Q d S'):Ok (evC ab (k+3) 55 [skE K,.tup (os.map D.int)] S) Q:=by
 ~av (d:=eY) (ρ:=[aw (skE K),aw (.tup (os.map D.int)),aD,aD,aD,aD,aD,aD]) rfl rfl ?_;dsimp only[eY,iI];k_is;~aa sk1 ?_;k_is;~Ep (by rw[Za];lia) (λi Y S'=>Sm S S'/\∃L u v w x,Y=[aw (skE K),aw (.tup (os.map D.int)),aw (ahE (aq K L)),aw (.ref (Zl S)),u,v,w,x]/\S'[Zl S]?=aw (.lst (L.map aj))/\L.length=i/\InG K L/\rn K os K.ah []=rn K (os.drop i) (aq K L) L) (λi d Y S1 hd ⟨E,L,u,v,w,x,er,X,hi,T,l⟩=>?_) (λY S1 ⟨E,L,u,v,w,x,er,X,hi,T,l⟩=>?_) ⟨Sm.app _ _,[],aD,aD,aD,aD,rfl,aM,rfl,λ_ h=>(by simp at h),rfl⟩
 ·subst er;#{g,Z,rfl}:=oX hd;!j:=ho g (Zd Z);!hil:i < os.length:=(Zb.mp Z).1;rw[mz Z,rn,hi] at l;~{_,fT (by simp) (by simp),?_};k_is;~{rfl,vg V (jT V T) j.1 j.2 λB J=>?_};#{a,b,c,d,e,f,h,eg,e0,e1,e2,e3,e6,k0,k1,c0}:=gl7 V j.1 j.2;~aa sk2 (aa (dQ j.1 eg) (aa (show ixS (ag [a,b,c,d,e,f,h]) (.int 6) B=aw (.int h,B) from rfl) ?_));k_is;!n:=J _ _ X;!stuck:rn K os K.ah [] = .inl i->∀S',Sm S S'->Q (.tup [.str "stuck", .int i]) S':=λe S' s=>q _ S' s (by unfold Res;rw[e]);cases I:Sn.step K (aq K L) g i with
  |none=>
   rw[I] at l;~aa (show ao .is (jS aD) .non B=aw (.bl aN,B) from rfl) ?_;k_is;&stuck l B (E.trans J)
  |some m=>
   rw[I] at l;~aa (show ao .is (jS (aw m)) .non B=aw (.bl aS,B) from rfl) ?_;rw[show jS (aw m) = .int m from rfl];k_is;dsimp only at l;!eh:cz K L g m=(decide (0 < h) && decide (h < gW K L g m)):=by unfold cz;rw[e6]
   rw[eh] at l
   !O:∀y,Sm S y->y[Zl S]?=aw (.lst (L.map aj))->rn K os K.ah []=rn K (os.drop (i+1)) (aw (gi K.G g 0,m)) (L++[(g,m)])->Sm S (y.set (Zl S) (.lst (L.map aj++[.tup [.int g,.int m]])))/\∃L' u v w x,[aw (skE K),aw (.tup (os.map D.int)),aw (ahE (aq K (L++[(g,m)]))),aw (.ref (Zl S)),aw (.int (i:Int)),aw (.int g),aw (.int m),aw (.int h)]=[aw (skE K),aw (.tup (os.map D.int)),aw (ahE (aq K L')),aw (.ref (Zl S)),u,v,w,x]/\(y.set (Zl S) (.lst (L.map aj++[.tup [.int g,.int m]])))[Zl S]?=aw (.lst (L'.map aj))/\L'.length=i+1/\InG K L'/\rn K os K.ah []=rn K (os.drop (i+1)) (aq K L') L':=λy C h3 l=>by
    !lt3:Zl S < y.length:=(Zb.mp h3).1;~{Sm.setNew C (Zf _),L++[(g,m)],_,_,_,_,rfl,by rw[e8 lt3,ZF];rfl,by rw[Ze,Zm];lia,λz hz=>?_,by rw[aU];&l};rcases ZR.mp hz with hz |hz
    ·&T z hz
    ·rw[ZG.mp hz];&j
   ~dC (λU=>?_) λU=>?_
   ·rw[U,YR] at l;k_is;~{rfl,Eu (k:=k) V n T (by lia) j.1 j.2 λy C=>?_};k_is;cases c2:decide (h < gW K L g m) with
    |true=>
     rw[c2,if_pos rfl] at l;k_is;&stuck l y ((E.trans J).trans C)
    |false=>
     rw[c2,if_neg Zh] at l;k_is;~oZ V (C _ _ n) (by lia) j.1 j.2 ?_;&O y ((E.trans J).trans C) (C _ _ n) l
   ·rw[U,XD,if_neg Zh] at l;k_is;~oZ V n (by lia) j.1 j.2 ?_;&O B (E.trans J) n l
 ·subst er;k_is;rw[Za,Y4,rn] at l;&q _ S1 E (by unfold Res;rw[l];&{_,rfl,X,Zf _})
def Lp{b:List D}(i:Nat)(d:D)(h:b[i]?=aw d):(λi=>(b[i]?).getD .non) i=d:=by
 show(b[i]?).getD .non=d;rw[h];rfl
def fV{i:Int}(h:0<=i)(b:i < 1000):lim i=aN:=by simp only[lim,bAE,decide_eq_true_eq];lia
def QF{n:Nat}{lo:Int}{T:Tg}{c:XA}{u:Rho}{Q:List D->Sto->Prop}(f:Nat->D)(C:n<=1000)(step:∀ (i:Nat),i < n->∃b,aA T (.int (lo+i)) u=aw b/\Ok (c b S) λE l=>E=[f i]/\l=S)(q:Q ((Zi n).map f) S) :
  Ok (bC (nxR lo n) T c u LF 0 S) λE S2=>E.length<=100000/\Q E S2:=by
 ~xu (by lia) (λi d h=>h=S/\d=(Zi i).map f) (λi d h hi ⟨e,j⟩=>?_) (λE h ⟨e,j⟩=>?_) ⟨rfl,rfl⟩
 ·subst e;#{b,z,E,l,y,B,v}:=step i hi;&{b,z,E,l,y,v,by rw[j,B,Xw,ZF];rfl}
 ·subst e j;&{by rw[Za,ZC];lia,q}
abbrev mid(M:List (List Int))(n c a:Nat):List (List Int):=(Zi n).map λi=>if i < a then Dw.aY M n c i else (M[i]?).getD []
def jV{M:List (List Int)}{n c a i:Nat}(hi:i < n):(mid M n c a)[i]?=aw (if i < a then Dw.aY M n c i else (M[i]?).getD []):=by
 unfold mid;rw[Zq,Yn hi];rfl
def Ey{M:List (List Int)}{n c:Nat}(h:Dw.Mat n M):mid M n c 0=M:=by
 apply YS;intro i;by_cases hi:i < n
 ·rw[jV hi,if_neg (by lia)];!:i < M.length:=by rw[h.len];&hi
  rw[gEG this];rfl
 ·rw[Zw (by unfold mid;rw[Za,ZC];lia),Zw (by rw[h.len];lia)]
def Jz{M:List (List Int)}{n c:Nat}:mid M n c n=(Zi n).map (Dw.aY M n c):=by
 unfold mid;~Ym λi hi=>?_;rw[if_pos (ZQ.mp hi)]
def JA{M:List (List Int)}{n c a:Nat}(d:a < n):(mid M n c a).set a (Dw.aY M n c a)=mid M n c (a+1):=by
 apply YS;intro i;by_cases hi:i < n
 ·rw[jV hi];by_cases b:i=a
  ·subst b;rw[ZV (by unfold mid;rw[Za,ZC];lia),if_pos (by lia)]
  ·rw[Zx (Ne.symm b),jV hi];by_cases h:i < a
   ·rw[if_pos h,if_pos (by lia)]
   ·rw[if_neg h,if_neg (by lia)]
 ·rw[Zw (by rw[Yb];unfold mid;rw[Za,ZC];lia),Zw (by unfold mid;rw[Za,ZC];lia)]
def Ue{M:List (List Int)}{n c a b:Nat}(h:Dw.Mat n M)(d:c < n)(hb:b < n):Dw.mg2 (mid M n c a) c b=Dw.mg2 M c b:=by
 unfold Dw.mg2;rw[jV d];split
 ·rw[ZX,Dw.tZ M hb];#{_,_,_,_,f,_}:=h.at d d;show(if Dw.mg2 M c c+Dw.mg2 M c b < Dw.mg2 M c b then Dw.mg2 M c c+Dw.mg2 M c b else Dw.mg2 M c b)=_;rw[if_neg (by lia)];rfl
 ·rfl
def Uf{M:List (List Int)}{n c a b:Nat}(h:a < n):Dw.mg2 (mid M n c a) a b=Dw.mg2 M a b:=by
 unfold Dw.mg2;rw[jV h,if_neg (ZI _)];rfl
def RowsS.at{b:List D}{M:List (List Int)}(h:RowsS p S b M){n:Nat}{L:Nat}(d:S[L]?=aw (.lst b)){i j:Int}(I:0<=i)(J:0<=j)(l:∃r x,M[i.toNat]?=aw r/\r[j.toNat]?=aw x/\x=Dw.mg2 M i.toNat j.toNat) :
  ∃a,ixS (.ref L) (.int i) S=aw (.ref a,S)/\ixS (.ref a) (.int j) S=aw (.int (Dw.mg2 M i.toNat j.toNat),S):=by
 #{r,x,f,c,ex}:=l;#{a,E,q,z}:=h.row _ r f;&{a,jh d I E,jh z J (by rw[Zq,c,ex];rfl)}
def xH{M:List (List Int)}{n i j:Nat}(f:M.length=n)(c:∀r ∈ M,r.length=n)(hi:i < n)(d:j < n):∃r x,M[i]?=aw r/\r[j]?=aw x/\x=Dw.mg2 M i j:=by
 !h:i < M.length:=by lia
 !b:j < M[i].length:=by rw[c _ (ZS h)];&d
 ~{M[i],M[i][j],gEG h,gEG b,?_};unfold Dw.mg2;rw[gEG h,ZX,gEG b];rfl
def Ez{M:List (List Int)}{n c a:Nat}(h:Dw.Mat n M):∀r ∈ mid M n c a,r.length=n:=λr b=>by
 unfold mid at b;#{i,hi,rfl}:=Zz.mp b;!hi:=ZQ.mp hi;split
 ·&Dw.tY M n c i
 ·!:i < M.length:=by rw[h.len];&hi
  rw[gEG this];&h.row _ (ZS this)
def JB{M:List (List Int)}{n c a:Nat}:(mid M n c a).length=n:=by unfold mid;rw[Za,ZC]
def RowsS.set{c:List D}{M:List (List Int)}{L i a:Nat}{r:List Int}(h:RowsS p S c M)(v:S[L]?=aw (.lst c))(hi:i < M.length)(u:a ≠ p)(z:S[a]?=aw (.lst (r.map D.int)))(n:a ≠ L)(q:∀ (i:Nat) r b,M[i]?=aw r->c[i]?=aw (D.ref b)->b ≠ L):RowsS p (S.set L (.lst (c.set i (.ref a)))) (c.set i (.ref a)) (M.set i r):=by
 ~{by rw[Yb,Yb];&h.len,λj l d=>?_};by_cases f:j=i
 ·subst f;rw[ZV hi] at d;cases d;&{a,by rw[ZV (by rw[h.len];&hi)],u,by rw[Zx (Ne.symm n)];&z}
 ·rw[Zx (Ne.symm f)] at d;#{b,E,nb,Z}:=h.row j l d;!:=q j l b d E;&{b,by rw[Zx (Ne.symm f)];&E,nb,by rw[Zx (Ne.symm this)];&Z}
def JC{c:List D}{M:List (List Int)}{L n:Nat}(h:RowsS p S c M)(q:S[L]?=aw (.lst c))(u:∀r ∈ M,0 < r.length):∀ (i:Nat) r b,M[i]?=aw r->c[i]?=aw (D.ref b)->b ≠ L:=λi r b j E l=>by
 #{B,f,_,z}:=h.row i r j;rw[E] at f;cases f;rw[l,q] at z;cases z;rw[Zq] at E;cases d:r[i]? with
 |none=>rw[d] at E;cases E
 |some x=>rw[d] at E;cases E
end Lw
namespace Lw
open PySem Ev Sn L2
variable {p:Nat} {S:Sto} {k:Nat} {Q:D->Sto->Prop} {K:Sky}
def Kp.len{p:Nat}{S b:Sto}(h:Ev.Kp p S b)(f:p < b.length):S.length<=b.length:=by
 by_cases d:S.length<=b.length
 ·&d
 ·exfalso;!c:b.length < S.length:=by lia
  !:=h b.length S[b.length] (by lia) (gEG c);rw[Zw (Zf _)] at this;cases this
def y6{n:Nat}{d:List D}{i:Int}{v:D}(b:S[n]?=aw (.lst d))(c:0<=i)(f:i.toNat < d.length):ko (.ref n) (.int i) v S=aw (S.set n (.lst (d.set i.toNat v))):=by
 !h:ixN d.length i=aw i.toNat:=by
  unfold ixN;rw[if_pos (by lia),if_pos (by lia)]
 simp only[ko,b,h,ZL]
def EA{n L:Nat}{f:List D}{M:List (List Int)}{u v w x:Option D}{pt:D}(l:S[L]?=aw (.lst f))(z:RowsS p S f M)(j:Dw.Mat n M)(I:n<=4)(q:∀d,Sm S d->Q (.tup (M.map ag)) d) :
  rW (wSs (evC ab (k+1)) (cu ab) 57 (fL.drop 3)) [aw pt,u,v,aw (.ref L),w,x] S (out Q):=by
 dsimp only[fL,Yr];k_is;~{by rw[aB l];rfl,?_};!le:f.length=n:=by rw[z.len,j.len]
 ~oQ n (λi=>(f[i]?).getD .non) (λi b d=>d=S/\b=(M.take i).map ag) (λi b d hi ⟨e,_⟩=>by subst e;rw[<-le];&DW l _ Lp) (by lia) (λi b c hi ⟨h,E⟩=>?_) (λC c ⟨h,E⟩=>⟨by rw[E,Za,Yi];lia,?_⟩) ⟨rfl,rfl⟩
 ·subst h;!y:i < M.length:=by rw[j.len];&hi
  #{a,B,J,Z}:=z.row i M[i] (gEG y);simp only[B,ZX];~{_,rfl,?_};k_is;~aa (show ak cO (.ref a) c=aw (.tup (M[i].map D.int),c) by simp only[ak,ay,aB Z,ZL,cO]) ?_;~{rfl,?_};rw[E,Z6 y,ZF];rfl
 ·subst h;rw[Yd (by rw[j.len];&Zf _)] at E;subst E;~aa (show cO aS (M.map ag) c=aw (.tup (M.map ag),c) from rfl) ?_;k_is;&q c (Sm.refl _)
def EB(h:Pot p S)(q:∀n M l,Dr p S l->Dw.Mat n M->1<=n->n<=4->Dw.tX n n M->Q (.tup (M.map ag)) l):Ok (evC ab (k+2) 48 [.ref p] S) Q:=by
 ~av (d:=i9) (ρ:=[aw (.ref p),aD,aD,aD,aD,aD]) rfl rfl ?_;dsimp only[i9,fL];k_is;~{rfl,aI h (by decide) (by decide) λr0 S0 r1 r2 d0=>?_};k_is;~{rfl,aI d0.pot (by decide) (by decide) λf0 S1 f1 f2 d01=>?_};k_is;!d1:=d0.trans d01;obtain⟨n,rfl⟩:∃n:Nat,r0=(n:Int):=⟨r0.toNat,by lia⟩
 obtain⟨U,at1,hf⟩:∃e:Int,atI [D.int 3,D.int 12,D.int 40] f0=aw (D.int e)/\0 < e/\e<=40:=by
  !:f0=0\/f0=1\/f0=2:=by lia
  rcases this with rfl |rfl |rfl
  ·&{3,rfl,by decide,by decide}
  ·&{12,rfl,by decide,by decide}
  ·&{40,rfl,by decide,by decide}
 ~{_,at1,?_};k_is;!e1:((1:Int)+n).toNat=n+1:=by lia
 !l1:lim (1+(n:Int))=aN:=fV (by lia) (by lia);~{l1,?_};rw[e1];~xu (by lia) (λi C l=>Dr p S1 l/\∃M:List (List Int),M.length=i/\RowsS p l C M/\∀r ∈ M,r.length=n+1/\∀x ∈ r,1<=x/\x<=99) (λi C J hi ⟨d2,M,lM,rM,bM⟩=>⟨_,rfl,?_⟩) (λE J ⟨d2,M,lM,rM,bM⟩=>⟨by rw[rM.len];lia,?_⟩) ⟨Dr.refl d1.pot,[],rfl,RowsS.nil,λr f=>by simp at f⟩
 ·k_is;~{l1,?_};rw[e1];~xu (by lia) (λj C l=>Dr p J l/\∃r:List Int,C=r.map D.int/\r.length=j/\∀x ∈ r,1<=x/\x<=99) (λj C S3 hj ⟨I,r,ea,lr,br⟩=>⟨_,rfl,?_⟩) (λE S3 ⟨I,r,ea,lr,br⟩=>⟨by rw[ea,Za];lia,?_⟩) ⟨Dr.refl d2.pot,[],rfl,rfl,λx hx=>by simp at hx⟩
  ·k_is;~{rfl,aI I.pot hf.1 (by lia) λx S4 x1 x2 d4=>?_};k_is;~{I.trans d4,r++[1+x],by rw[ea,ZF];rfl,by simp[lr],λy hy=>?_};rcases ZR.mp hy with hy |hy
   ·&br y hy
   ·simp at hy;lia
  ·subst ea;k_is;!lt:=I.pot.lt;~{(d2.trans I).thenSm (Sm.app _ _),M++[r],by simp[lM],((rM.keep I.kp).keep (Sm.app _ _).kp).snoc (by lia) aM,λr' hr'=>?_};rcases ZR.mp hr' with hr' |hr'
   ·&bM r' hr'
   ·simp at hr';subst hr';&{lr,br}
 ·!lt2:=d2.pot.lt;!I:Dr p S (J++[Ob.lst E]):=(d1.trans d2).thenSm (Sm.app _ _);!r3:RowsS p (J++[Ob.lst E]) E M:=rM.keep (Sm.app _ _).kp;!a3:(J++[Ob.lst E])[J.length]?=aw (Ob.lst E):=aM;!m3:Dw.Mat (n+1) M:=⟨lM,λr f=>(bM r f).1,λr f=>(bM r f).2⟩;!lS:S.length<=J.length:=Kp.len (d1.trans d2).kp lt2;!ne3:J.length ≠ p:=by lia
  revert a3 r3 I;generalize J++[Ob.lst E]=S3;generalize J.length=L at *;intro I r3 a3;k_is;~{l1,?_};rw[e1];~jM (by lia) (λc X l=>Dr p S l/\∃E M u v,X=[aw (.ref p),aw (.int (1+(n:Int))),aw (.int U),aw (.ref L),u,v]/\l[L]?=aw (.lst E)/\RowsS p l E M/\Dw.Mat (n+1) M/\Dw.tX (n+1) c M) (λc X S4 hc ⟨d4,E,M,u,v,er,B,f,O,tr⟩=>?_) (λX S4 ⟨d4,E,M,u,v,er,B,f,O,tr⟩=>?_) ⟨I,E,M,aD,aD,rfl,a3,r3,m3,λ_ _ _ _ _ h=>absurd h (XY _)⟩
  ·subst er;~{_,rfl,?_};k_is;~{l1,?_};rw[e1];~jM (by lia) (λa X l=>Dr p S l/\∃E v,X=[aw (.ref p),aw (.int (1+(n:Int))),aw (.int U),aw (.ref L),aw (.int (0+(c:Int))),v]/\l[L]?=aw (.lst E)/\RowsS p l E (mid M (n+1) c a)) (λa X Z ha ⟨d5,E,v,er,B,f⟩=>?_) (λX Z ⟨d5,E,v,er,B,f⟩=>?_) ⟨d4,E,v,rfl,B,by rw[Ey O];&f⟩
   ·subst er;~{_,rfl,?_};k_is;~{l1,?_};rw[e1];!ml:=@JB M (n+1) c a;!mr:=Ez (c:=c) (a:=a) O;!z:∀x:Nat,((0:Int)+x).toNat=x:=λx=>by lia
    ~QF (λb=>.int (if Dw.mg2 M a c+Dw.mg2 M c b < Dw.mg2 M a b then Dw.mg2 M a c+Dw.mg2 M c b else Dw.mg2 M a b)) (by lia) (λb hb=>⟨_,rfl,?_⟩) ?_
    ·k_is;#{x1,i1,j1}:=RowsS.at (n:=0) f B (i:=0+(a:Int)) (j:=0+(b:Int)) (by lia) (by lia) (by rw[z,z];&xH ml mr ha hb);#{x2,i2,j2}:=RowsS.at (n:=0) f B (i:=0+(a:Int)) (j:=0+(c:Int)) (by lia) (by lia) (by rw[z,z];&xH ml mr ha hc);#{x3,i3,j3}:=RowsS.at (n:=0) f B (i:=0+(c:Int)) (j:=0+(b:Int)) (by lia) (by lia) (by rw[z,z];&xH ml mr hc hb);rw[z,z,Uf ha] at j1 j2;rw[z,z,Ue O hc hb] at j3;~aa i1 (aa j1 (aa i2 (aa j2 (aa i3 (aa j3 ?_)))));k_is;&{rfl,rfl}
    ·!ef:((Zi (n+1)).map λb=>D.int (if Dw.mg2 M a c+Dw.mg2 M c b < Dw.mg2 M a b then Dw.mg2 M a c+Dw.mg2 M c b else Dw.mg2 M a b))=(Dw.aY M (n+1) c a).map D.int:=by unfold Dw.aY;rw[ZT];rfl
     rw[ef];k_is;!lt5:=d5.pot.lt;!Y:=Sm.app Z [Ob.lst ((Dw.aY M (n+1) c a).map D.int)] _ _ B;!lL:L < Z.length:=(Zb.mp B).1;!le:E.length=n+1:=by rw[f.len,ml]
     ~{_,y6 Y (by lia) (by lia),?_};k_is;rw[z];!hr':RowsS p (Z++[Ob.lst ((Dw.aY M (n+1) c a).map D.int)]) E (mid M (n+1) c a):=f.keep (Sm.app _ _).kp;!hr2:=RowsS.set (i:=a) (a:=Z.length) (r:=Dw.aY M (n+1) c a) hr' Y (by lia) (by lia) aM (by lia) (JC (n:=0) hr' Y λr hh=>by rw[mr r hh];lia);rw[JA ha] at hr2;!kA:Ev.Kp p S ((Z++[Ob.lst ((Dw.aY M (n+1) c a).map D.int)]).set L (.lst (E.set a (.ref Z.length)))):=(d5.kp.trans (Sm.app _ _).kp).setNew lS;~{⟨kA,((Dr.sm d5.pot (Sm.app _ _)).pot).setNe ne3⟩,_,_,rfl,?_,hr2};rw[e8 (by rw[Ze];lia)]
   ·subst er;k_is;rw[Jz] at f;&{d5,E,_,_,_,rfl,B,f,Dw.B8 O hc,Dw.B7 O hc tr (Dw.Gd O hc)}
  ·subst er;!T:=EA (k:=k) (p:=p) (Q:=Q) (pt:=.ref p) (u:=aw (.int (1+(n:Int)))) (v:=aw (.int U)) (w:=u) (x:=v) B f O (by lia) λl sm=>q (n+1) M l (d4.thenSm sm) O (by lia) (by lia) tr;dsimp only[fL,Yr] at T;&T
def vm:∀ {H:List (Int × Int)} {lo x y:Int},Ris lo H->lo < x->(∀q ∈ H,q.2 < x)->x < y->Ris lo (H++[(x,y)])
 |[],lo,x,y,_,h1,_,h3=>⟨h1,h3,trivial⟩
 |q::H,lo,x,y,h,h1,h2,h3=>by
  rw[Ris] at h;&{h.1,h.2.1,vm h.2.2 (h2 q Zj) (λr b=>h2 r (Zg _ b)) h3}
def mD:∀ {H:List (Int × Int)} {lo:Int} {q:Int × Int},Ris lo H->q ∈ H->lo < q.1/\q.1 < q.2
 |q'::H,lo,q,h,hq=>by
  rw[Ris] at h;rcases Zn.mp hq with rfl |hq
  ·&{h.1,h.2.1}
  ·!:=mD h.2.2 hq
   lia
def vn:∀ {H:List (Int × Int)} {lo:Int},Ris lo H->∀ (i:Nat) q b,H[i]?=aw q->H[i+1]?=aw b->q.2 < b.1
 |q0::H,lo,h,0,q,b,e1,e2=>by
  rw[Ris] at h;cases e1;rw[YL] at e2;&(mD h.2.2 (Zd e2)).1
 |q0::H,lo,h,i+1,q,b,e1,e2=>by
  rw[Ris] at h;rw[YL] at e1 e2;&vn h.2.2 i q b e1 e2
structure MeOk(r s:Int)(M:List (List Int))(H:List (Int × Int)):Prop where
 r0:0<=r
 r8:r<=8
 s0:0<=s
 s60:s<=60
 mat:Dw.Mat M.length M
 m1:1<=M.length
 m4:M.length<=4
 tri:Dw.tX M.length M.length M
 ris:Ris (-1) H
 h4:H.length<=4
 hb:∀q ∈ H,q.2<=9999
def xI(h:Pot p S)(q:∀r s M H z,Dr p S z->MeOk r s M H->Q (.tup [.int r,.int s,.tup (M.map ag),.tup (H.map aj)]) z):Ok (evC ab (k+3) 49 [.ref p] S) Q:=by
 ~av (d:=fS) (ρ:=[aw (.ref p),aD,aD,aD,aD]) rfl rfl ?_;dsimp only[fS,jK];!lt:=h.lt;k_is;!d0:Dr p S (S++[Ob.lst []]):=Dr.sm h (Sm.app _ _);!a0:(S++[Ob.lst []])[Zl S]?=aw (Ob.lst (([]:List (Int × Int)).map aj)):=aM;!C:Zl S ≠ p:=by lia
 generalize S++[Ob.lst []]=S0 at *;~{rfl,aI d0.pot (by decide) (by decide) λZ S1 i1 i2 d1=>?_};k_is
 obtain⟨fr,at1,hf⟩:∃e:Int,atI [D.int 1,D.int 5] Z=aw (D.int e)/\0 < e/\e<=5:=by
  !:Z=0\/Z=1:=by lia
  rcases this with rfl |rfl
  ·&{1,rfl,by decide,by decide}
  ·&{5,rfl,by decide,by decide}
 ~{_,at1,?_};~{rfl,aI d1.pot hf.1 (by lia) λn0 S2 n1 n2 d2=>?_};k_is;obtain⟨n,rfl⟩:∃n:Nat,n0=(n:Int):=⟨n0.toNat,by lia⟩;~{fV (by lia) (by lia),?_};rw[ZK];!Y:=(d0.trans d1).trans d2;!a2:=(d1.trans d2).kp _ _ C a0;~jM (by lia) (λi ρ z=>Dr p S z/\∃ (H:List (Int × Int)) (b:Int) (u v:Option D),ρ=[aw (.ref p),aw (.ref (Zl S)),aw (.int b),u,v]/\z[Zl S]?=aw (.lst (H.map aj))/\H.length=i/\Ris (-1) H/\(∀q ∈ H,q.2 < b)/\0<=b/\b<=60 * i) (λi ρ S3 hi ⟨B,H,b,u,v,er,T,hl,hr,L,b0,b1⟩=>?_) (λρ S3 ⟨B,H,b,u,v,er,T,hl,hr,L,b0,b1⟩=>?_) ⟨Y,[],0,aD,aD,rfl,a2,rfl,trivial,λq hq=>by simp at hq,by decide,by decide⟩
 ·subst er;~{_,rfl,?_};k_is;~{rfl,aI B.pot (by decide) (by decide) λx S4 x1 x2 c=>?_};k_is;!j:=c.kp _ _ C T;~{cV j,?_};~{rfl,aI c.pot (by decide) (by decide) λy J y1 y2 f=>?_};k_is;!l:=f.kp _ _ C j;rw[jf l (by rw[Za];lia)];k_is;!U:Zl S < J.length:=(Zb.mp l).1;!f5:(J.set (Zl S) (Ob.lst (H.map aj++[D.tup [D.int (b+x),D.int (b+x+1+y)]])))[Zl S]?=aw (Ob.lst (H.map aj++[D.tup [D.int (b+x),D.int (b+x+1+y)]])):=e8 U;~aa (mw f5) (aa (show ixS (D.tup [D.int (b+x),D.int (b+x+1+y)]) (.int 1) (J.set (Zl S) (Ob.lst (H.map aj++[D.tup [D.int (b+x),D.int (b+x+1+y)]])))=aw (.int (b+x+1+y),_) from rfl) ?_);k_is;~{⟨((B.kp.trans c.kp).trans f.kp).setNew (Zf _),f.pot.setNe C⟩,H++[(b+x,b+x+1+y)],_,_,_,rfl,by rw[f5,ZF];rfl,by rw[Ze,Zm];lia,vm hr (by lia) (λq hq=>by !:=L q hq;lia) (by lia),λq hq=>?_,by lia,by lia};rcases ZR.mp hq with hq |hq
  ·!:=L q hq;lia
  ·rw[ZG.mp hq];show b+x+1+y < b+x+1+y+1;lia
 ·subst er;k_is;~{rfl,aI B.pot (by decide) (by decide) λI S4 j3 k3 c=>?_};k_is
  obtain⟨r,O,h3⟩:∃e:Int,atI [D.int 8,D.int 1,D.int 2,D.int 3,D.int 0] I=aw (D.int e)/\0<=e/\e<=8:=by
   !:I=0\/I=1\/I=2\/I=3\/I=4:=by lia
   rcases this with rfl |rfl |rfl |rfl |rfl
   ·&{8,rfl,by decide,by decide}
   ·&{1,rfl,by decide,by decide}
   ·&{2,rfl,by decide,by decide}
   ·&{3,rfl,by decide,by decide}
   ·&{0,rfl,by decide,by decide}
  ~{_,O,?_};~{rfl,aI c.pot (by decide) (by decide) λE J j5 k5 f=>?_};k_is
  obtain⟨s,X,h5⟩:∃e:Int,atI [D.int 0,D.int 2,D.int 9,D.int 60] E=aw (D.int e)/\0<=e/\e<=60:=by
   !:E=0\/E=1\/E=2\/E=3:=by lia
   rcases this with rfl |rfl |rfl |rfl
   ·&{0,rfl,by decide,by decide}
   ·&{2,rfl,by decide,by decide}
   ·&{9,rfl,by decide,by decide}
   ·&{60,rfl,by decide,by decide}
  ~{_,X,?_};~{rfl,EB f.pot λm M S6 d6 hM m1 m4 tr=>?_};!hn6:=((c.trans f).trans d6).kp _ _ C T;~aa (show ak cO (.ref (Zl S)) S6=aw (.tup (H.map aj),S6) by simp only[ak,ay,aB hn6,ZL,cO]) ?_;k_is;obtain rfl:=hM.len;&q r s M H S6 (B.trans ((c.trans f).trans d6)) ⟨h3.1,h3.2,h5.1,h5.2,hM,m1,m4,tr,hr,by lia,λq hq=>by !:=L q hq;lia⟩
end Lw
namespace Lw
open PySem Ev Sn L2
variable {p:Nat} {S S':Sto} {k:Nat} {Q:D->Sto->Prop} {K:Sky}
structure Gs(p N hi:Nat)(S:Sto)(es:List D)(G:List (List Int)):Prop where
 pN:p < N
 at_:S[N]?=aw (.lst es)
 len:es.length=G.length
 row:∀ (i:Nat) g,G[i]?=aw g->∃a,es[i]?=aw (D.ref a)/\N < a/\a < hi/\S[a]?=aw (.lst (g.map D.int))
 inj:∀ (i j a:Nat),es[i]?=aw (D.ref a)->es[j]?=aw (D.ref a)->i=j
section
variable {N hi hi':Nat} {es:List D} {G:List (List Int)}
def Gs.keep(h:Gs p N hi S es G)(kp:Ev.Kp p S S'):Gs p N hi S' es G:=by
 !pN:=h.pN;~{h.pN,kp _ _ (by lia) h.at_,h.len,λi g b=>?_,h.inj};#{a,e,c,n,z}:=h.row i g b;&{a,e,c,n,kp _ _ (by lia) z}
def Gs.up(h:Gs p N hi S es G)(c:hi<=hi'):Gs p N hi' S es G:=by
 ~{h.pN,h.at_,h.len,λi g b=>?_,h.inj};#{a,e,n,d,z}:=h.row i g b;&{a,e,n,by lia,z}
def Gs.other(h:Gs p N hi S es G){f:Nat}{o:Ob}(d:hi<=f)(hN:N < hi):Gs p N hi (S.set f o) es G:=by
 ~{h.pN,by rw[Zx (by lia)];&h.at_,h.len,λi g b=>?_,h.inj};#{a,e,c,n,z}:=h.row i g b;&{a,e,c,n,by rw[Zx (by lia)];&z}
def Gs.snoc(h:Gs p N S.length S es G){g:List Int}:Gs p N (S.length+1) ((S++[Ob.lst (g.map D.int)]).set N (.lst (es++[D.ref S.length]))) (es++[D.ref S.length]) (G++[g]):=by
 !L:N < S.length:=(Zb.mp h.at_).1
 !O:∀ (i a:Nat),es[i]?=aw (D.ref a)->a < S.length:=λi a e=>by
  !hi:i < G.length:=by rw[<-h.len];&(Zb.mp e).1
  #{b,E,q,n,_}:=h.row i G[i] (gEG hi);rw[e] at E;cases E;&n
 ~{h.pN,by rw[e8 (by rw[Ze];lia)],by rw[Ze,Ze,h.len];rfl,λi u c=>?_,λi j a y E=>?_}
 ·by_cases hi:i < G.length
  ·rw[Zt hi] at c;#{a,e,q,n,z}:=h.row i u c;&{a,by rw[Zt (by rw[h.len];&hi)];&e,q,by lia,by rw[Zx (by lia),Zt n];&z}
  ·!f:=(Zb.mp c).1;rw[Ze,Zm] at f;obtain rfl:i=G.length:=by lia
   rw[Zp (Zf _),ZY] at c;cases c;&{S.length,by rw[Zp (by rw[h.len];lia),h.len,ZY];rfl,L,by lia,by rw[Zx (by lia),aM]}
 ·!d:∀ (i:Nat),(es++[D.ref S.length])[i]?=aw (D.ref a)->(i < es.length/\es[i]?=aw (D.ref a))\/(i=es.length/\a=S.length):=λi e=>by
   by_cases hi:i < es.length
   ·rw[Zt hi] at e;&.inl ⟨hi,e⟩
   ·!f:=(Zb.mp e).1;rw[Ze,Zm] at f;obtain rfl:i=es.length:=by lia
    rw[Zp (Zf _),ZY] at e;cases e;&.inr ⟨rfl,rfl⟩
  rcases d i y with ⟨B,Z⟩ |⟨B,Z⟩ <;> rcases d j E with ⟨v,l⟩ |⟨v,l⟩
  ·&h.inj i j a Z l
  ·!:=O i a Z;lia
  ·!:=O j a l;lia
  ·lia
def Gs.setRow(h:Gs p N hi S es G){i a:Nat}{g:List Int}(hi':i < G.length)(E:es[i]?=aw (D.ref a)):Gs p N hi (S.set a (.lst (g.map D.int))) es (G.set i g):=by
 #{b,n,y,v,B}:=h.row i G[i] (gEG hi');rw[E] at n;cases n;!L:=(Zb.mp B).1;~{h.pN,by rw[Zx (by lia)];&h.at_,by rw[Yb];&h.len,λj q d=>?_,h.inj};by_cases l:j=i
 ·subst l;rw[ZV hi'] at d;cases d;&{a,E,y,v,e8 L}
 ·rw[Zx (Ne.symm l)] at d;#{c,f,m1,u,Z}:=h.row j q d;!:c ≠ a:=λz=>l (by rw[z] at f;&h.inj j i a f E);&{c,f,m1,u,by rw[Zx (Ne.symm this)];&Z}
end
abbrev GX(x:Int)(n:Nat)(r s:Int)(g:List Int):Prop:=∃b j f l d h c:Int,g=[b,j,f,l,d,h,c]/\0<=b/\b < n/\0<=j/\j+s<=f/\f<=l/\l<=x/\0<=d/\d<=x/\0<=h/\h<=99/\0<=c/\c<=r
def GX.up{x y:Int}{n:Nat}{r s:Int}{g:List Int}(h:GX x n r s g)(u:x<=y):GX y n r s g:=by
 #{b,j,f,l,d,q,c,e,z}:=h;&{b,j,f,l,d,q,c,e,by omega}
abbrev GB(n:Nat)(r s:Int)(g:List Int):Prop:=GX 530 n r s g
structure SkOk(K:Sky):Prop where
 me:MeOk K.r K.s K.M K.H
 g7:K.G.length<=7
 gb:∀g ∈ K.G,GX 9999 K.M.length K.r K.s g
 nd:K.F.Nodup
 bd:∀x ∈ K.F,0<=x/\x < K.G.length
 rg:∀ (j:Nat) g,K.G[j]?=aw g->g.getD 6 0=0\/(j:Int) ∈ K.F
 ah:∀q,K.ah=aw q->0<=q.1/\q.1 < K.M.length/\0<=q.2/\q.2<=9999
def SkOk.vd(h:SkOk K):Vd K:=by
 ~{h.me.r0,h.me.r8,h.me.s0,h.me.s60,h.me.m1,h.me.m4,h.me.mat.row,h.me.ris,h.me.h4,λq e=>⟨(h.ah q e).1,(h.ah q e).2.1⟩,h.g7,λg b=>?_};#{u,j,f,L,n,v,y,rfl,c,d,l,h4,_}:=h.gb g b;!:=h.me.s0;~{rfl,c,d,?_};show 0<=f
 lia
abbrev kM(K:Sky):List Int:=((Zi K.G.length).filter λ(j:Nat)=>!decide ((j:Int) ∈ K.F)).map λ(j:Nat)=>(j:Int)
def sO(x:Int):x ∈ kM K ↔ (0<=x/\x < K.G.length/\x ∉ K.F):=by
 unfold kM;rw[Zz];constructor
 ·rintro⟨j,c,rfl⟩;#{b,h}:=ZM.mp c;!:=ZQ.mp b;simp at h;&{by lia,by lia,h}
 ·rintro⟨d,b,h⟩;~{x.toNat,ZM.mpr ⟨ZQ.mpr (by lia),?_⟩,by lia};!:((x.toNat:Nat):Int)=x:=by lia
  rw[this];simp[h]
def sP:(kM K).Nodup:=by
 unfold kM;~YU.mpr ((Y5.sublist Y7).imp λh z=>h (by lia))
def EC(h:SkOk K){l:List Int}(pm:l.Perm (kM K)):Ord K (K.F++l):=by
 !d:=sO (K:=K);!no:=sP (K:=K);!v:l.Nodup:=pm.nodup_iff.mpr no
 !nd:(K.F++l).Nodup:=Ye.mpr ⟨h.nd,v,λa q b hb e=>by
  !:=((d b).mp (pm.mem_iff.mp hb)).2.2;&this (e ▸ q)⟩
 !bd:∀g ∈ K.F++l,0<=g/\g < K.G.length:=λg hg=>by
  rcases ZR.mp hg with hg |hg
  ·&h.bd g hg
  ·!:=(d g).mp (pm.mem_iff.mp hg);&{this.1,this.2.1}
 !u:((Zi K.G.length).map λi=>Int.ofNat i).Nodup:=YU.mpr (Y5.imp λh z=>h (Int.ofNat.inj z))
 !pr:(K.F++l).Perm ((Zi K.G.length).map λi=>Int.ofNat i):=(YY nd u).mpr λx=>by
  constructor
  ·intro c;!:=bd x c;&Zz.mpr ⟨x.toNat,ZQ.mpr (by lia),by show((x.toNat:Nat):Int)=x;lia⟩
  ·intro c;#{j,f,rfl}:=Zz.mp c;!f:=ZQ.mp f;by_cases n:Int.ofNat j ∈ K.F
   ·&ZW _ n
   ·~ZB _ (pm.mem_iff.mpr ((d _).mpr ⟨?_,?_,n⟩))
    ·show 0<=(j:Int);lia
    ·show(j:Int) < K.G.length;lia
 !:=pr.length_eq;rw[Za,ZC] at this;&{nd,bd,this,⟨l,rfl⟩,pr}
end Lw
namespace Lw
open PySem Ev Sn
variable {K:Sky}
structure KAt(K:Sky)(L:List (Int × Int))(j:Nat)(z:Int × Int):Prop where
 lo:gi K.G z.1 2<=z.2
 hi:z.2<=gi K.G z.1 3
 op:opm K.H z.2=z.2
 gap:∀a,aq K (L.take j)=aw a->a.2+gp K a.1 (gi K.G z.1 0)<=z.2
 wt:(wts K L (jn K z.1):Int)<=K.r
 rg:cz K (L.take j) z.1 z.2=aS
abbrev pU(K:Sky)(L:List (Int × Int)):Prop:=∀ (j:Nat) z,L[j]?=aw z->KAt K L j z
def sQ:∀ (l:List (Int × Int)) (m:Int),m<=opm l m
 |[],_=>ZU _
 |p::l,m=>by
  rw[opm];~Wu ?_ (sQ l _);split
  ·lia
  ·&ZU _
def o0:∀ {l:List (Int × Int)} {lo x y:Int},Ris lo l->x<=y->opm l x<=opm l y
 |[],_,_,_,_,h=>h
 |p::l,lo,x,y,h,hxy=>by
  rw[Ris] at h;rw[opm,opm];by_cases b:p.1<=x/\x < p.2
  ·rw[if_pos b];~o0 h.2.2 ?_;split
   ·&ZU _
   ·lia
  ·rw[if_neg b];~o0 h.2.2 ?_;split
   ·lia
   ·&hxy
def vq:∀ {l:List (Int × Int)} {lo x:Int},Ris lo l->opm l (opm l x)=opm l x
 |[],_,_,_=>rfl
 |p::l,lo,x,h=>by
  rw[Ris] at h;by_cases b:p.1<=x/\x < p.2
  ·!e:opm (p::l) x=p.2:=by rw[opm,if_pos b];&jP h.2.2 (ZU _)
   rw[e,opm,if_neg (by lia)];&jP h.2.2 (ZU _)
  ·!e:opm (p::l) x=opm l x:=by rw[opm,if_neg b]
   rw[e,opm];by_cases c:x < p.1
   ·!:opm l x=x:=jP h.2.2 (by lia);rw[this,if_neg b];&this
   ·!:=sQ l x;rw[if_neg (by lia)];&vq h.2.2
inductive Low:List (Int × Int)->List (Int × Int)->Prop
 |nil:Low [] []
 |cons {p q:Int × Int} {P A:List (Int × Int)}:p.1=q.1->p.2<=q.2->Low P A->Low (p::P) (q::A)
def Low.len{P A:List (Int × Int)}(h:Low P A):P.length=A.length:=by
 induction h with
 |nil=>rfl
 |cons _ _ _ I=>rw[Zo,Zo,I]
def Low.fst{P A:List (Int × Int)}(h:Low P A):P.map (λp=>jn K p.1)=A.map λp=>jn K p.1:=by
 induction h with
 |nil=>rfl
 |cons e _ _ I=>rw[Zy,Zy,I,e]
def Low.snoc{P A:List (Int × Int)}{p q:Int × Int}(h:Low P A)(b:p.1=q.1)(c:p.2<=q.2):Low (P++[p]) (A++[q]):=by
 induction h with
 |nil=>&.cons b c .nil
 |cons e l _ I=>&.cons e l I
def Low.wts{P A:List (Int × Int)}{t:Int}(h:Low P A):wts K P t<=wts K A t:=by
 unfold Sn.wts
 induction h with
 |nil=>&Zf _
 |@cons p q P A e l _ ih=>
  rw[ZZ,ZZ];by_cases b:aC K t p=aN
  ·!:aC K t q=aN:=by
    simp only[aC,bAE,decide_eq_true_eq] at b ⊢;rw[<-e]
    lia
   rw[if_pos b,if_pos this,Zo,Zo]
   lia
  ·rw[if_neg b];split
   ·rw[Zo];lia
   ·&ih
def Low.last{P A:List (Int × Int)}(h:Low P A):∀a,aq K P=aw a->∃b,aq K A=aw b/\a.1=b.1/\a.2<=b.2:=by
 !k:∀ {P A},Low P A->(P.getLast?=aD/\A.getLast?=aD)\/∃p q,P.getLast?=aw p/\A.getLast?=aw q/\p.1=q.1/\p.2<=q.2:=by
  intro P A h
  induction h with
  |nil=>&.inl ⟨rfl,rfl⟩
  |@cons p q P A e l _ ih=>
   right;rcases ih with ⟨c,d⟩ |⟨n,Q,c,d,j⟩
   ·rw[List.getLast?_eq_none_iff] at c d;subst c d;&{p,q,rfl,rfl,e,l}
   ·~{n,Q,?_,?_,j}
    ·rw[Xd,c];rfl
    ·rw[Xd,d];rfl
 intro a f;unfold aq at f ⊢;rcases k h with ⟨c,d⟩ |⟨p,q,c,d,j,h4⟩
 ·rw[c] at f;rw[d];&{a,f,rfl,ZU _}
 ·rw[c] at f;rw[d];cases f;&{_,rfl,by rw[j],h4}
def y7{A B:List Int}(h:∀x ∈ A,∃y ∈ B,x<=y)(d:∀y ∈ B,0<=y):pM 0 A<=pM 0 B:=by
 cases A with
 |nil=>
  show 0<=pM 0 B;cases B with
  |nil=>&ZU _
  |cons b B=>
   rw[jQ (by simp)];&d _ (y3 (by simp))
 |cons a A=>
  #{y,c,_}:=h a Zj;!:B ≠ []:=λz=>by rw[z] at c;simp at c
  rw[jQ (by simp),jQ this];&xF (by simp) h
def A0{P A:List (Int × Int)}{g m m':Int}(h:Low P A)(k:m<=m'):gW K P g m<=gW K A g m':=by
 unfold gW;~y7 (λx d=>?_) λy j=>?_
 ·#{t,b,rfl}:=Zz.mp d;~{1+(wts K A t:Int),Zz.mpr ⟨t,?_,rfl⟩,by !:=h.wts (K:=K) (t:=t);lia};unfold dg at b ⊢;#{c,f}:=ZM.mp b;rw[h.fst] at c;~ZM.mpr ⟨c,?_⟩;simp only[bAE,decide_eq_true_eq] at f ⊢
  lia
 ·#{t,_,rfl}:=Zz.mp j
  lia
def A6{P A:List (Int × Int)}{g m c:Int}(h:Low P A)(f:m<=c)(b:cz K A g c=aS):cz K P g m=aS:=by
 !:=A0 (K:=K) (g:=g) h f;unfold cz at b ⊢;cases d:decide (0 < gi K.G g 6) with
 |false=>rfl
 |true=>
  rw[d,YR] at b;rw[YR];!:=of_decide_eq_false b;&decide_eq_false (by lia)
def Lq:∀ {l:List Int} {k:Nat} {j t:Int},l.Pairwise (·<=·)->l[k]?=aw j->t < j->(l.filter λx=>decide (x<=t)).length<=k
 |[],_,_,_,_,h,_=>by cases h
 |a::l,0,j,t,hp,h,ht=>by
  cases h
  !:(a::l).filter (λx=>decide (x<=t))=[]:=Xj.mpr λx hx=>by
   rw[decide_eq_true_eq];rcases Zn.mp hx with rfl |hx
   ·lia
   ·!:=(Z7.mp hp).1 x hx
    lia
  rw[this];&Zf _
 |a::l,k+1,j,t,hp,h,ht=>by
  !I:=Lq (k:=k) (Z7.mp hp).2 h ht;rw[ZZ];split
  ·rw[Zo];lia
  ·lia
def ED:∀ {l:List Int} {k:Nat} {j t:Int},l.Pairwise (·<=·)->l[k]?=aw j->j<=t->k+1<=(l.filter λx=>decide (x<=t)).length
 |[],_,_,_,_,h,_=>by cases h
 |a::l,0,j,t,hp,h,ht=>by
  cases h;rw[ZZ,if_pos (decide_eq_true ht),Zo]
  lia
 |a::l,k+1,j,t,hp,h,ht=>by
  !I:=ED (k:=k) (Z7.mp hp).2 h ht;!:a<=j:=(Z7.mp hp).1 j (Zd h);rw[ZZ,if_pos (decide_eq_true (by lia)),Zo]
  lia
abbrev cj(K:Sky)(L:List (Int × Int))(t:Int):Nat:=(L.filter λp=>decide (jn K p.1<=t)).length
def y8{os:List Int}{L:List (Int × Int)}(c:Ord K os)(b:L.map (·.1)=os):(js K).Perm (L.map λp=>jn K p.1):=by
 !E:(L.map λp=>jn K p.1)=os.map (jn K):=by rw[<-b,ZT];rfl
 !d:(((Zi K.G.length).map λi=>Int.ofNat i).map (jn K))=K.G.map λg=>g.getD 1 0:=by
  rw[ZT];apply List.ext_getElem
  ·simp
  ·intro i f h;simp only[Za] at h;simp only[WD,Wn,Function.comp_apply,jn,gi];show((K.G[i]?).getD []).getD 1 0=_;rw[gEG h];rfl
 rw[E];~(cE _).trans ?_;rw[<-d];&(c.pm.map (jn K)).symm
def Lr{os:List Int}{L:List (Int × Int)}{t:Int}(h:Ord K os)(b:L.map (·.1)=os):((js K).filter λx=>decide (x<=t)).length=cj K L t:=by
 rw[((y8 h b).filter _).length_eq,Xc,Za];rfl
def EF{A B:List (Int × Int)}{t:Int}:cj K (A++B) t=cj K A t+cj K B t:=by unfold cj;rw[Xe,Ze]
def y9{A B:List (Int × Int)}{t:Int}:wts K (A++B) t=wts K A t+wts K B t:=by unfold Sn.wts;rw[Xe,Ze]
def QG{B:List (Int × Int)}{t:Int}:wts K B t<=cj K B t:=my λp _ h=>by
 simp only[aC,bAE] at h;&h.1
def QH{B:List (Int × Int)}{t:Int}(h:∀p ∈ B,t < p.2 - K.s):cj K B t<=wts K B t:=my λp b c=>by
 simp only[aC,bAE];&{c,decide_eq_true (h p b)}
def Ug(h:SkOk K)(a b:Int):0<=gp K a b:=by
 unfold gp Dw.mg2;cases e:K.M[a.toNat]? with
 |none=>simp
 |some r=>
  rw[ZX];cases E:r[b.toNat]? with
  |none=>simp[E]
  |some x=>
   !:=h.me.mat.ent r (Zd e) x (Zd E);simp[E]
   lia
def o4{b:Type}{A B:List b}{z:b}:(A++z::B)[A.length]?=aw z:=by rw[Zp (Zf _),ZY];rfl
def gX{b:Type}{A B:List b}:(A++B).take A.length=A:=WL
def cY{b:Type}{A B:List b}{z:b}:A++z::B=A++[z]++B:=by rw[Yk];rfl
def Uh(h:SkOk K):∀ (B A:List (Int × Int)) (z:Int × Int),pU K (A++z::B)->∀p ∈ B,z.2<=p.2
 |[],_,_,_=>λp hp=>by cases hp
 |y::B,A,z,kp=>by
  !e:=cY (A:=A) (B:=y::B) (z:=z);!k:=kp (A++[z]).length y (by rw[e];&o4);rw[e] at kp;!c:=k.gap (gi K.G z.1 0,z.2) (by rw[e,gX,aU]);!:=Ug h (gi K.G z.1 0) (gi K.G y.1 0);intro p hp
  !b:z.2<=y.2:=by
   !:z.2+gp K (gi K.G z.1 0) (gi K.G y.1 0)<=y.2:=c
   lia
  rcases Zn.mp hp with rfl |hp
  ·&b
  ·&Wu b (Uh h B (A++[z]) y kp p hp)
def JD(h:SkOk K){os:List Int}(f:Ord K os){A B:List (Int × Int)}{z:Int × Int}{m:Int}(c:(A++z::B).map (·.1)=os)(kp:pU K (A++z::B))(E:m<=z.2):l8 K A.length m=aS:=by
 unfold l8;!r0:=h.me.r0;cases d:(js K)[(K.r+(A.length:Int)).toNat]? with
 |none=>rfl
 |some j=>
  ~decide_eq_false λn=>?_;!C:=ED (dj _) d (ZU j);rw[show(gx (K.G.map λg=>g.getD 1 0))=js K from rfl,Lr f c,EF] at C;!v:cj K A j<=A.length:=YB _ _;!k:=Uh h B A z kp
  !y:cj K (z::B) j<=wts K (z::B) j:=QH λp hp=>by
   rcases Zn.mp hp with rfl |hp
   ·lia
   ·!:=k p hp;lia
  !u:wts K (A++z::B) j=wts K A j+wts K (z::B) j:=y9;!b:j ∈ (A++z::B).map λp=>jn K p.1:=(y8 f c).mem_iff.mp (Zd d);#{q,l,rfl}:=Zz.mp b;#{i,hi}:=YF l;!:=(kp i q hi).wt
  lia
def EG{P A:List (Int × Int)}{z:Int × Int}{L:List (Int × Int)}{j:Nat}(d:Low P A)(kz:KAt K L j z)(c:L.take j=A):be K (aq K P) z.1<=z.2:=by
 unfold be;cases h:aq K P with
 |none=>&kz.lo
 |some a=>
  #{b,hb,E,f}:=d.last a h;!:=kz.gap b (by rw[c];&hb);!:=kz.lo;dsimp only;rw[E];split <;> lia
def vt(h:SkOk K){os:List Int}(b:Ord K os):∀ (B A P:List (Int × Int)),(A++B).map (·.1)=os->pU K (A++B)->Low P A->∃R,rn K (B.map (·.1)) (aq K P) P = .inr R/\Low R (A++B)
 |[],A,P,_,_,hl=>⟨P,rfl,by rw[Z8];&hl⟩
 |z::B,A,P,hL,kp,hl=>by
  !kz:=kp A.length z o4;!fr:=EG hl kz gX
  !m1:opm K.H (be K (aq K P) z.1)<=z.2:=by
   !:=o0 h.me.ris fr;rw[kz.op] at this;&this
  !hs:Sn.step K (aq K P) z.1 P.length=aw (opm K.H (be K (aq K P) z.1)):=by
   unfold Sn.step;!:=kz.hi;rw[hl.len,JD h b hL kp m1,decide_eq_false (show ¬ gi K.G z.1 3 < opm K.H (be K (aq K P) z.1) by lia)];rfl
  !c:cz K P z.1 (opm K.H (be K (aq K P) z.1))=aS:=A6 hl m1 (by !:=kz.rg;rw[gX] at this;&this);!e:=cY (A:=A) (B:=B) (z:=z);#{R,E,d}:=vt h b B (A++[z]) (P++[(z.1,opm K.H (be K (aq K P) z.1))]) (by rw[<-e];&hL) (by rw[<-e];&kp) (hl.snoc rfl m1);~{R,?_,by rw[e];&d};rw[Zy,rn,hs];dsimp only;rw[c,if_neg Zh];rw[aU] at E;&E
def vA:∀ (os:List Int) (P R:List (Int × Int)),rn K os (aq K P) P = .inr R->(∃T,R=P++T/\T.map (·.1)=os)/\∀ (j:Nat) z,P.length<=j->R[j]?=aw z->Sn.step K (aq K (R.take j)) z.1 j=aw z.2/\cz K (R.take j) z.1 z.2=aS
 |[],P,R,h=>by
  cases h;&{⟨[],by simp,rfl⟩,λj z f b=>by rw[Zw f] at b;cases b}
 |g::os,P,R,h=>by
  rw[rn] at h;cases hs:Sn.step K (aq K P) g P.length with
  |none=>rw[hs] at h;cases h
  |some m=>
   rw[hs] at h;dsimp only at h;cases c:cz K P g m with
   |true=>rw[c,if_pos rfl] at h;cases h
   |false=>
    rw[c,if_neg Zh] at h;#{⟨T,e,E⟩,I}:=vA os (P++[(g,m)]) R (by rw[aU];&h);~{⟨(g,m)::T,by rw[e,<-cY],by rw[Zy,E]⟩,λj z f b=>?_};by_cases d:j=P.length
    ·subst d;rw[e,<-cY,o4] at b;cases b;rw[e,<-cY,gX];&{hs,c}
    ·&I j z (by rw[Ze,Zm];lia) b
def vB(f:Int × Int->Bool):∀ (R:List (Int × Int)),∃A B,R=A++B/\(∀p ∈ A,f p=aN)/\(B=[]\/∃y d,B=y::d/\f y=aS)
 |[]=>⟨[],[],rfl,λp hp=>(by cases hp),.inl rfl⟩
 |z::R=>by
  cases h:f z with
  |false=>&{[],z::R,rfl,λp hp=>(by cases hp),.inr ⟨z,R,rfl,h⟩}
  |true=>
   #{A,B,e,b,c}:=vB f R;~{z::A,B,by rw[e];rfl,λp hp=>?_,c};rcases Zn.mp hp with rfl |hp
   ·&h
   ·&b p hp
def rB(h:SkOk K){g:Int}(d:0<=g)(j:g < K.G.length):jn K g+K.s<=gi K.G g 2:=by
 !hi:g.toNat < K.G.length:=by lia
 #{k,jo,fi,L,f,n,l,E,hb}:=h.gb K.G[g.toNat] (ZS hi);!b:jn K g=jo:=by unfold jn gi;rw[gEG hi,E];rfl
 !c:gi K.G g 2=fi:=by unfold gi;rw[gEG hi,E];rfl
 rw[b,c];lia
def sR{a:Option (Int × Int)}{g m:Int}{j:Nat}(h:Sn.step K a g j=aw m):m=opm K.H (be K a g)/\m<=gi K.G g 3/\l8 K j m=aS:=by
 unfold Sn.step at h;split at h
 ·cases h
 ·rename_i b;cases h;rw[Xb,decide_eq_true_eq] at b
  &⟨rfl,by lia,by
   cases e:l8 K j (opm K.H (be K a g)) with
   |false=>rfl
   | true=>&absurd (.inr e) b⟩
def vC(a:Option (Int × Int))(g:Int):gi K.G g 2<=be K a g/\∀q,a=aw q->q.2+gp K q.1 (gi K.G g 0)<=be K a g:=by
 unfold be;cases a with
 |none=>&{ZU _,λq e=>by cases e}
 |some q=>
  dsimp only;~{by split <;> lia,λQ e=>?_};cases e;split <;> lia
def JE(h:SkOk K){os:List Int}(l:Ord K os){R:List (Int × Int)}(O:rn K os K.ah [] = .inr R):R.map (·.1)=os/\pU K R:=by
 #{⟨T,e,f⟩,st}:=vA os [] R O;rw[XZ] at e;subst e;!s0:=h.me.s0;!r0:=h.me.r0
 !L:∀ (j:Nat) z,R[j]?=aw z->gi K.G z.1 2<=z.2:=λj z d=>by
  #{u,_}:=sR (st j z (Z2 _) d).1;!:=(vC (K:=K) (aq K (R.take j)) z.1).1;!:=sQ K.H (be K (aq K (R.take j)) z.1)
  lia
 !bd:∀p ∈ R,0<=p.1/\p.1 < K.G.length:=λp c=>l.bd p.1 (by rw[<-f];&Zz.mpr ⟨p,c,rfl⟩);!ln:R.length=K.G.length:=by rw[<-l.ln,<-f,Za]
 ~{f,λj z d=>?_};#{hs,I}:=st j z (Z2 _) d;#{u,v,_}:=sR hs;!U:=vC (K:=K) (aq K (R.take j)) z.1;!Z:=sQ K.H (be K (aq K (R.take j)) z.1);~{L j z d,v,by rw[u];&vq h.me.ris,λa J=>by !:=U.2 a J;lia,?_,I};generalize jn K z.1=t;#{A,B,E,q,Q}:=vB (λp=>decide (p.2 - K.s<=t)) R
 !wA:wts K A t=0:=by
  unfold Sn.wts;rw[Z1,Xj];intro p c;!:=of_decide_eq_true (q p c);simp only[aC,bAE,decide_eq_true_eq]
  lia
 rw[E,y9,wA,YE];rcases Q with rfl |⟨y,B',rfl,hy⟩
 ·&r0
 ·!X:¬ y.2 - K.s<=t:=of_decide_eq_false hy;!Y:R[A.length]?=aw y:=by rw[E];&o4
  #{_,_,n}:=sR (st A.length y (Z2 _) Y).1
  !C:cj K A t=A.length:=by
   unfold cj
   congr 1
   ~XB.mpr λp c=>decide_eq_true ?_;!b:p ∈ R:=by rw[E];&ZW _ c
   #{i,hi}:=YF b;!:=L i p hi;!:=rB h (bd p b).1 (bd p b).2;!:=of_decide_eq_true (q p c)
   lia
  !cR:cj K R t=A.length+cj K (y::B') t:=by rw[E,EF,C]
  !le:cj K R t<=(K.r+(A.length:Int)).toNat:=by
   unfold l8 at n;cases k:(js K)[(K.r+(A.length:Int)).toNat]? with
   |none=>
    !:=Z3.mp k;rw[Er] at this;!:=YB (λp:Int × Int=>decide (jn K p.1<=t)) R;!:cj K R t<=R.length:=this
    lia
   |some x=>
    rw[k] at n;!:=of_decide_eq_false n;rw[<-Lr l f];&Lq (dj _) k (by lia)
  !:=QG (K:=K) (B:=y::B') (t:=t)
  lia
end Lw
namespace Lw
open PySem Ev Sn L2
variable {p:Nat} {S S':Sto} {k:Nat} {Q:D->Sto->Prop} {K:Sky}
def bx{b:Type}{l:List b}{E:b->D}{S:Sto}:ak dh (.tup (l.map E)) S=aw (.int l.length,S):=by simp only[ak,ay,dh,Za]
def xJ{b:Type}{l:List b}:l.all (λ_=>aN)=aN:=Yc.mpr λ_ _=>rfl
def xK{j:Type}{nx:Nxt}{T:Tg}{c:XA}{f:Rho}(l:List j)(E:j->D)(y:l.length<=1000)(h:∀i S',Sm S S'->nx i S'=aw ((l[i]?).map E))
  (step:∀ (i:Nat) a S',l[i]?=aw a->Sm S S'->∃b,aA T (E a) f=aw b/\Ok (c b S') λd v=>d=[.bl aN]/\Sm S' v) (q:∀S',Sm S S'->Q (.bl aN) S') :
  Ok (bC nx T c f LF 0 S) λd u=>d.length<=100000/\Ok (l5 aS d u) Q:=by
 ~a9 l E (λ_=>[.bl aN]) y (λ_ _=>Zf _) h step λS' n=>?_;rw[bp];~aa (mv l (λ_=>aN) S') ?_;rw[xJ];&q S' n
def xL{i a b:Int}(h:a<=i)(c:i<=b)(q:Q (.bl aN) S):Ok (evC ab (k+2) 1 [.int i,.int a,.int b] S) Q:=qR (p:=0) bK (by
 rw[show Dw.iQ (.int i) a b=aN by simp only[Dw.iQ,decide_eq_true h,decide_eq_true c,Wh]];&q)
def JF{i:Int}(h:0<=i)(b:i<=9999)(q:Q (.bl aN) S):Ok (evC ab (k+3) 2 [.int i] S) Q:=AV (p:=0) bK (by
 rw[show Dw.iQ (.int i) 0 9999=aN by simp only[Dw.iQ,decide_eq_true h,decide_eq_true b,Wh]];&q)
def pV{ts:List Dw.D}{d:List D}{a b:Int}(h:TDs 0 S ts d)(c:a<=ts.length)(f:(ts.length:Int)<=b)(q:Q (.bl aN) S):Ok (evC ab (k+1) 3 [.tup d,.int a,.int b] S) Q:=Em (bL h) (by
 rw[show Dw.isT (.tup ts) a b=aN by simp only[Dw.isT,decide_eq_true c,decide_eq_true f,Wh]];&q)
def mE{M:List (List Int)}:(Dw.iR M).length=M.length:=by unfold Dw.iR;rw[Za]
def Ui{r:List Int}{n:Nat}(f:r.length=n)(c:n<=4)(b:∀x ∈ r,1<=x/\x<=99)(q:∀S',Sm S S'->Q (.bl aN) S'):Ok (evC ab (k+3) 9 [ag r,.int n] S) Q:=by
 ~av (d:=fO) (ρ:=[aw (ag r),aw (.int n)]) rfl rfl ?_;dsimp only[fO,jH];rw[show ag r = .tup (r.map D.int) from rfl];k_is;~{rfl,pV (ik r) (by rw[Za];lia) (by rw[Za];lia) ?_};k_is;~xK r D.int (by lia) bN (λi x S' h sm=>⟨_,rfl,?_⟩) q;k_is;!:=b x (Zd h);&{rfl,xL this.1 this.2 ⟨rfl,Sm.refl _⟩}
def EH{es:List D}(h:∀e ∈ es,e = .bl aN)(S:Sto):l5 aS es S=aw (.bl aN,S):=by
 !e:es.map (λ_=>D.bl aN)=es:=by
  conv=>rhs;rw[<-List.map_id es]
  &Ym λx b=>(h x b).symm
 rw[<-e];&(mv es (λ_=>aN) S).trans (by rw[xJ])
def Uj(z:SkOk K)(q:∀S',Sm S S'->Q (.bl aN) S'):Ok (evC ab (k+1) 10 [.tup (K.M.map ag)] S) Q:=by
 ~av (d:=bu) (ρ:=[aw (.tup (K.M.map ag)),aD]) rfl rfl ?_;dsimp only[bu,bT];!V:=z.vd;!m4:=z.me.m4;k_is;~aa bx ?_;~{_,rfl,by lia,?_};k_is;!v:(S++[Ob.lst ((Zi K.M.length).map λj=>D.int (Int.ofNat j))])[S.length]?=aw (.lst ((Zi K.M.length).map λj=>D.int (Int.ofNat j))):=aM;!B:∀S',Sm (S++[Ob.lst ((Zi K.M.length).map λj=>D.int (Int.ofNat j))]) S'->(aR S' S.length).isSome=aN:=λS' sm=>by rw[aB (sm _ _ v)];rfl
 ~{B _ (Sm.refl _),?_};~(xt v (by lia) (λa=>(Zi K.M.length).flatMap λb=>(Zi K.M.length).flatMap λc=>[.bl aN]) λa S1 L h=>⟨_,rfl,?_⟩).mono λes S2 ⟨Y,sm⟩=>?_
 ·k_is;~{B _ h,?_};~xt (h _ _ v) (by lia) _ λb S2 hb u=>⟨_,rfl,?_⟩;k_is;~{B _ (h.trans u),?_};~xt (u _ _ (h _ _ v)) (by lia) _ λc y O sm3=>⟨_,rfl,?_⟩;k_is;#{r1,X,C}:=oW (S:=y) V (a:=a) (b:=b) (by lia) (by lia) (by lia) (by lia);#{r2,E,J}:=oW (S:=y) V (a:=a) (b:=c) (by lia) (by lia) (by lia) (by lia);#{r3,U,T}:=oW (S:=y) V (a:=c) (b:=b) (by lia) (by lia) (by lia) (by lia);~aa X (aa C (aa E (aa J (aa U (aa T ?_)))));k_is;~{?_,Sm.refl _};!t:=z.me.tri a b c L hb O;rw[decide_eq_true (show gp K a b<=gp K a c+gp K c b from t)]
 ·subst Y
  !all:∀e ∈ (Zi K.M.length).flatMap λa=>(Zi K.M.length).flatMap λb=>(Zi K.M.length).flatMap λc=>[D.bl aN],e = .bl aN:=λe l=>by
   #{a,_,l}:=Yj.mp l;#{b,_,l}:=Yj.mp l;#{c,_,l}:=Yj.mp l;&ZG.mp l
  ~{?_,aa (EH all _) (q _ ((Sm.app S _).trans sm))};!I:∀a b:Nat,((Zi K.M.length).flatMap λc=>[D.bl aN]).length<=4:=λ_ _=>by rw[bp (Zi K.M.length) (λ_=>D.bl aN),Za,ZC];&m4
  !Z:∀a:Nat,((Zi K.M.length).flatMap λb=>(Zi K.M.length).flatMap λc=>[D.bl aN]).length<=K.M.length * 4:=λa=>Dw.yf λb _=>I a b;!f1:=Dw.yf (n:=K.M.length) (m:=K.M.length * 4) (f:=λa=>(Zi K.M.length).flatMap λb=>(Zi K.M.length).flatMap λc=>[D.bl aN]) λa _=>Z a;!:K.M.length * (K.M.length * 4)<=4 * (4 * 4):=WM m4 (WM m4 (Zf _))
  lia
def QI(b:SkOk K)(q:∀S',Sm S S'->Q (.bl aN) S'):Ok (evC ab (k+4) 8 [.tup (K.M.map ag)] S) Q:=by
 ~av (d:=iZ) (ρ:=[aw (.tup (K.M.map ag))]) rfl rfl ?_;dsimp only[iZ,oC];!m1:=b.me.m1;!m4:=b.me.m4;k_is;~{rfl,pV (e9 K.M) (by rw[mE];lia) (by rw[mE];lia) ?_};k_is;~xK K.M ag (by lia) bN (λi r S' j sm=>⟨_,rfl,?_⟩) λS' sm=>?_
 ·k_is;~aa bx ?_;!h:=Zd j;&{rfl,Ui (b.me.mat.row r h) m4 (b.me.mat.ent r h) λf c=>⟨rfl,c⟩}
 ·k_is;&{rfl,Uj b λf c=>q f (sm.trans c)}
def A7{z:Int × Int}(h:0<=z.1)(f:z.1 < z.2)(c:z.2<=9999)(q:Q (.bl aN) S):Ok (evC ab (k+4) 12 [aj z] S) Q:=by
 ~av (d:=fP) (ρ:=[aw (aj z)]) rfl rfl ?_;dsimp only[fP,jI];rw[show aj z = .tup [.int z.1,.int z.2] from rfl];!b:ixS (.tup [D.int z.1,.int z.2]) (.int 0) S=aw (.int z.1,S):=rfl;!X:ixS (.tup [D.int z.1,.int z.2]) (.int 1) S=aw (.int z.2,S):=rfl;k_is;~{rfl,pV (au bK (au bK bP)) (ZU _) (ZU _) ?_};k_is;~aa b ⟨rfl,JF h (by lia) ?_⟩;k_is;~aa X ⟨rfl,JF (by lia) c ?_⟩;k_is;~aa b (aa X ?_);k_is;rw[decide_eq_true f];&q
def JG(f:SkOk K)(q:∀S',Sm S S'->Q (.bl aN) S'):Ok (evC ab (k+5) 11 [.tup (K.H.map aj)] S) Q:=by
 ~av (d:=gI) (ρ:=[aw (.tup (K.H.map aj))]) rfl rfl ?_;dsimp only[gI,ll];!h4:=f.me.h4;k_is;~{rfl,pV (gU K.H) (by rw[Za];lia) (by rw[Za];lia) ?_};k_is;~xK K.H aj (by lia) bN (λi z S' j sm=>⟨_,rfl,?_⟩) λS' sm=>?_
 ·k_is;!a:=mD f.me.ris (Zd j);&{rfl,A7 (by lia) a.2 (f.me.hb z (Zd j)) ⟨rfl,Sm.refl _⟩}
 ·k_is;~aa bx ?_;k_is;~{⟨by decide,fV (by lia) (by lia)⟩,?_};~HH (by lia) (λ_=>aN) (λi b hi c=>⟨_,rfl,?_⟩) λb c=>?_
  ·k_is;!h:i+1 < K.H.length:=by lia
   !l:(1:Int)+i=((i+1:Nat):Int):=by lia
   !Z:((i+1:Nat):Int) - 1=((i:Nat):Int):=by lia
   rw[l,Z];~aa (jR (d:=aj K.H[i+1]) (by lia) (by rw[ZK,Zq,gEG h];rfl)) (aa (show ixS (aj K.H[i+1]) (.int 0) b=aw (.int K.H[i+1].1,b) from rfl) ?_);~aa (jR (d:=aj K.H[i]) (by lia) (by rw[ZK,Zq,gEG (by lia)];rfl)) (aa (show ixS (aj K.H[i]) (.int 1) b=aw (.int K.H[i].2,b) from rfl) ?_);k_is;rw[decide_eq_true (vn f.me.ris i _ _ (gEG (by lia)) (gEG h))];&{rfl,Sm.refl _}
  ·~aa (mv _ (λ_=>aN) _) ?_;rw[xJ];&q b (sm.trans c)
def EI(b:SkOk K)(q:∀S',Sm S S'->Q (.bl aN) S'):Ok (evC ab (k+6) 7 [meE K] S) Q:=by
 ~av (d:=gH) (ρ:=[aw (meE K),aD,aD,aD,aD]) rfl rfl ?_;dsimp only[gH,lj];rw[show meE K = .tup [.int K.r,.int K.s,.tup (K.M.map ag),.tup (K.H.map aj)] from rfl];k_is;~{rfl,pV (au bK (au bK (au (bL (e9 K.M)) (au (bL (gU K.H)) bP)))) (ZU _) (ZU _) ?_};k_is;~{rfl,xL b.me.r0 b.me.r8 ?_};k_is;~{rfl,xL b.me.s0 b.me.s60 ?_};k_is;~{rfl,QI b λj c=>?_};k_is;&{rfl,JG b λf h=>q f (c.trans h)}
def EJ{i:Int}(h:0<=i)(b:i < K.M.length)(q:Q (.bl aN) S):Ok (evC ab (k+3) 13 [meE K,.int i] S) Q:=by
 ~av (d:=kG) (ρ:=[aw (meE K),aw (.int i)]) rfl rfl ?_;dsimp only[kG,qK];k_is;~aa me2 (aa bx ?_);k_is;&{rfl,xL h (by lia) q}
def JH(b:SkOk K)(q:Q (.bl aN) S):Ok (evC ab (k+4) 16 [meE K,ahE K.ah] S) Q:=by
 ~av (d:=i6) (ρ:=[aw (meE K),aw (ahE K.ah)]) rfl rfl ?_;dsimp only[i6,oE];cases h:K.ah with
 |none=>k_is;&aa (show ao .is (ahE aD) .non S=aw (.bl aN,S) from rfl) q
 |some z=>
  #{l,c,f,B}:=b.ah z h;!j:ixS (.tup [D.int z.1,.int z.2]) (.int 0) S=aw (.int z.1,S):=rfl;!X:ixS (.tup [D.int z.1,.int z.2]) (.int 1) S=aw (.int z.2,S):=rfl;rw[show ahE (aw z) = .tup [.int z.1,.int z.2] from rfl];k_is;~aa (show ao .is (.tup [D.int z.1,.int z.2]) .non S=aw (.bl aS,S) from rfl) ?_;k_is;~{rfl,pV (au bK (au bK bP)) (ZU _) (ZU _) ?_};k_is;~aa j ⟨rfl,EJ l c ?_⟩;k_is;&aa X ⟨rfl,JF f B q⟩
def EK(v:SkOk K){g:List Int}(T:g ∈ K.G)(q:∀S',Sm S S'->Q (.bl aN) S'):Ok (evC ab (k+4) 18 [meE K,ag g] S) Q:=by
 #{c,j,f,L,b,n,h,rfl,z,U,Z,C,X,b3,c0,Y,I,y,O,B}:=v.gb g T;!s0:=v.me.s0;~av (d:=gJ) (ρ:=[aw (meE K),aw (ag [c,j,f,L,b,n,h]),aD,aD,aD,aD,aD,aD,aD]) rfl rfl ?_;dsimp only[gJ,lm];rw[show ag [c,j,f,L,b,n,h] = .tup [.int c,.int j,.int f,.int L,.int b,.int n,.int h] from rfl];k_is;~{rfl,pV (ik [c,j,f,L,b,n,h]) (ZU _) (ZU _) ?_};k_is;~xK [j,f,L,b] D.int (by show 4<=1000;decide) (bN (l:=[j,f,L,b]) (E:=D.int)) (λi x S' J sm=>⟨_,rfl,?_⟩) λS' sm=>?_
 ·k_is;!u:=Zd J;simp only[Zn,XQ,or_false] at u;~{rfl,JF ?_ ?_ ⟨rfl,Sm.refl _⟩}
  ·rcases u with rfl |rfl |rfl |rfl <;> lia
  ·rcases u with rfl |rfl |rfl |rfl <;> lia
 ·k_is;~aa me1 ?_;k_is;rw[decide_eq_true C];k_is;rw[decide_eq_true X];k_is;~{rfl,EJ z U ?_};k_is;~{rfl,xL I y ?_};k_is;~aa me0 ⟨rfl,xL O B (q S' sm)⟩
def A8(b:SkOk K)(q:∀S',Sm S S'->Q (.bl aN) S'):Ok (evC ab (k+5) 17 [meE K,.tup (K.G.map ag)] S) Q:=by
 ~av (d:=eO) (ρ:=[aw (meE K),aw (.tup (K.G.map ag))]) rfl rfl ?_;dsimp only[eO,iz];!g7:=b.g7;k_is;~{rfl,pV (e9 K.G) (by rw[mE];lia) (by rw[mE];lia) ?_};k_is;~xK K.G ag (by lia) bN (λi g S' h sm=>⟨_,rfl,?_⟩) q;k_is;&{rfl,EK b (Zd h) λf c=>⟨rfl,c⟩}
def EL(b:SkOk K)(q:∀S',Sm S S'->Q (.bl aN) S'):Ok (evC ab (k+3) 4 [.tup (K.F.map D.int),.int K.G.length] S) Q:=by
 ~av (d:=fN) (ρ:=[aw (.tup (K.F.map D.int)),aw (.int K.G.length)]) rfl rfl ?_;dsimp only[fN,jG];!g7:=b.g7;!l:=Dw.cg K.G.length K.F b.nd b.bd;k_is;~{rfl,pV (ik K.F) (by rw[Za];lia) (by rw[Za];lia) ?_};k_is;~xK K.F D.int (by lia) bN (λi x S' h sm=>⟨_,rfl,?_⟩) λS' sm=>?_
 ·k_is;!:=b.bd x (Zd h);&{rfl,xL this.1 (by lia) ⟨rfl,Sm.refl _⟩}
 ·k_is;~xK K.F D.int (by lia) bN (λi x f h c=>⟨_,rfl,?_⟩) λf c=>q f (sm.trans c);k_is;~{rfl,aa (DS K.F x f) ?_};k_is;rw[show((K.F.count x:Nat):Int)=1 by rw[List.Nodup.count b.nd,if_pos (Zd h)];rfl];&{rfl,Sm.refl _}
def JI(n:SkOk K)(q:∀S',Sm S S'->Q (.bl aN) S'):Ok (evC ab (k+4) 19 [.tup (K.G.map ag),.tup (K.F.map D.int)] S) Q:=by
 ~av (d:=gK) (ρ:=[aw (.tup (K.G.map ag)),aw (.tup (K.F.map D.int))]) rfl rfl ?_;dsimp only[gK,lu];!g7:=n.g7;k_is;~aa bx ?_;~{rfl,EL n λy Z=>?_};k_is;~oQ K.G.length (λi=>.tup [.int i,((K.G.map ag)[i]?).getD .non]) (λi b S'=>Sm y S'/\b.length=i/\∀e ∈ b,e = .bl aN) (λi b S' hi _=>?_) (by lia) (λi b S' hi u=>?_) (λes S' C=>by #{f,X,v}:=C;&{by lia,aa (EH v _) (q S' (Z.trans f))}) ⟨Sm.refl _,rfl,λe B=>by cases B⟩
 ·show enm (K.G.map ag) i=_;unfold enm;rw[if_pos (by rw[Za];&hi)];split
  ·rename_i E;rw[gEG (by rw[Za];&E)];rfl
  ·rw[Zw (by rw[Za];lia)];rfl
 ·#{f,X,v}:=u;#{I,J,O,l,L,U,j,T,_}:=n.gb K.G[i] (ZS hi);!rg:=n.rg i _ (gEG hi);!Y:((K.G.map ag)[i]?).getD .non = .tup [.int I,.int J,.int O,.int l,.int L,.int U,.int j]:=by rw[Zq,gEG hi,T];rfl
  rw[T] at rg;!rg:j=0\/(i:Int) ∈ K.F:=rg;rw[Y];!h:∀S',Sm y S'->Sm y S'/\(b++[D.bl aN]).length=i+1/\∀e ∈ b++[D.bl aN],e = .bl aN:=λS' f=>⟨f,by rw[Ze,Zm];lia,λe B=>(ZR.mp B).elim (v e) λz=>ZG.mp z⟩;~{_,fT (by simp) (by simp),?_};k_is;~aa (show ixS (.tup [D.int I,.int J,.int O,.int l,.int L,.int U,.int j]) (.int 6) S'=aw (.int j,S') from rfl) ?_;k_is;cases c:decide (j=0) with
  |true=>k_is;&h S' f
  |false=>
   k_is;~aa (show ao .isin (.int (i:Int)) (.tup (K.F.map D.int)) S'=aw (.bl (aS != decide ((i:Int) ∈ K.F)),S') from eC aS K.F i S') ?_;rw[decide_eq_true (rg.resolve_left (of_decide_eq_false c))];&h S' f
def Uk(b:SkOk K)(q:∀S',Sm S S'->Q (.bl aN) S'):Ok (evC ab (k+7) 15 [skE K] S) Q:=by
 ~av (d:=oM) (ρ:=[aw (skE K),aD,aD,aD,aD]) rfl rfl ?_;dsimp only[oM,uL];rw[show skE K = .tup [meE K,ahE K.ah,.tup (K.G.map ag),.tup (K.F.map D.int)] from rfl];k_is;~{rfl,pV (ts:=[.tup [.int K.r,.int K.s,.tup (Dw.iR K.M),.tup (K.H.map Dw.qm)],ahT K.ah,.tup (Dw.iR K.G),.tup (K.F.map Dw.D.int)]) (au (bL (au bK (au bK (au (bL (e9 K.M)) (au (bL (gU K.H)) bP))))) (au (Ln K.ah) (au (bL (e9 K.G)) (au (bL (ik K.F)) bP)))) (ZU _) (ZU _) ?_};k_is;~{rfl,EI b λn f=>?_};k_is;~{rfl,JH b ?_};k_is;~{rfl,A8 b λl j=>?_};k_is;&{rfl,JI b λh c=>q h ((f.trans j).trans c)}
def EM(b:SkOk K)(q:∀S',Sm S S'->Q .non S'):Ok (evC ab (k+8) 21 [skE K] S) Q:=by
 ~av (d:=gM) (ρ:=[aw (skE K)]) rfl rfl ?_;dsimp only[gM,lA];k_is;~{rfl,Uk b λS' sm=>?_};k_is;&q S' sm
end Lw
namespace Sn
open Ev PySem
abbrev cst(K:Sky)(g m:Int):Int:=gi K.G g 5 * (if m - gi K.G g 4 > 0 then m - gi K.G g 4 else 0)
abbrev jnd(K:Sky)(l:Bool)(g m x:Int):Int:=if l=aN then (if x > m then x else m) else cst K g m+x
abbrev o7(b:List (Int × List Int)):Option (Int × List Int):=b[argBest (dG b) (b.length - 1)]?
abbrev rst(left:List Int)(g:Int):List Int:=left.filter λx=>!decide (x=g)
abbrev bb(K:Sky)(l:Bool):Nat->Option (Int × Int)->List Int->Option (Int × List Int)
 |0,_,_=>aw (0,[])
 | n+1,ah,left=>o7 (left.filterMap λg=>match step K ah g (K.G.length - (n+1)) with
  |none=>aD
  | some m=>(bb K l n (aw (gi K.G g 0,m)) (rst left g)).map λz=>(jnd K l g m z.1,g::z.2))
abbrev bw(K:Sky)(l:Bool)(n:Nat)(ah:Option (Int × Int))(left:List Int)(g:Int):Option (Int × List Int):=match step K ah g (K.G.length - (n+1)) with
 |none=>aD
 |some m=>(bb K l n (aw (gi K.G g 0,m)) (rst left g)).map λz=>(jnd K l g m z.1,g::z.2)
def jW{K:Sky}{l:Bool}{n:Nat}{ah:Option (Int × Int)}{left:List Int}:bb K l (n+1) ah left=o7 (left.filterMap (bw K l n ah left)):=rfl
def qU{ws:List (Int × List Int)}{z:Int × List Int}(h:o7 ws=aw z):z ∈ ws:=Zd h
def xM{K:Sky}{l:Bool}:∀ (n:Nat) (ah:Option (Int × Int)) (left:List Int) (z:Int × List Int),bb K l n ah left=aw z->z.2.length=n
 |0,_,_,z,h=>by cases h;rfl
 |n+1,ah,left,z,h=>by
  rw[jW] at h;#{g,_,e}:=Yy.mp (qU h);unfold bw at e;split at e
  ·cases e
  ·#{y,E,rfl}:=ZE.mp e;rw[Zo,xM n _ _ y E]
end Sn
namespace Lw
open PySem Ev Sn L2
variable {p:Nat} {S S':Sto} {k:Nat} {Q:D->Sto->Prop} {K:Sky}
abbrev dw(l:Bool):D:=.str (if l=aN then "last" else "cost")
abbrev bE:Option (Int × List Int)->D
 |none=>.non
 |some z=>.tup [.int z.1,.tup (z.2.map D.int)]
abbrev Ul:Option (Int × Int)->NK
 |none=>.non
 |some z=>.tup [.inl z.1,.inl z.2]
abbrev io(ah:Option (Int × Int))(left:List Int):List NK:=[Ul ah,.tup (left.map Sum.inl)]
def o8:∀ (xs:List Int),fh (xs.map D.int)=aw (xs.map Sum.inl)
 |[]=>rfl
 |x::xs=>by rw[Zy,fh,o8 xs];rfl
def eI{ah:Option (Int × Int)}{left:List Int}:lY (.tup [ahE ah,.tup (left.map D.int)])=aw (io ah left):=by
 !e:z7 (.tup (left.map D.int))=aw (.tup (left.map Sum.inl)):=by show(fh _).map _=_;rw[o8];rfl
 !E:z7 (ahE ah)=aw (Ul ah):=by cases ah <;> rfl
 show kU _=_;simp only[kU,e,E,io]
def zd:∀ {xs Y:List Int},xs.map (Sum.inl:Int->Key)=Y.map Sum.inl->xs=Y
 |[],[],_=>rfl
 |[],_::_,e=>by cases e
 |_::_,[],e=>by cases e
 |x::xs,y::Y,e=>by
  #{a,b}:=WQ.inj e;cases a;rw[zd b]
def vD{a b:Option (Int × Int)}{xs ys:List Int}(h:io a xs=io b ys):a=b/\xs=ys:=by
 unfold io at h;#{c,d}:=WQ.inj h;#{d,_}:=WQ.inj d;~{?_,zd (NK.tup.inj d)};cases a with
 |none=>cases b with
  |none=>rfl
  |some z=>cases c
 |some z=>cases b with
  |none=>cases c
  |some w=>
   #{j,Z}:=z;#{f,w2}:=w;cases c;rfl
abbrev KI(K:Sky)(l:Bool)(b:List (List NK))(c:List D):Prop:=b.length=c.length/\∀ah left d,atD b c (io ah left)=aw d->d=bE (bb K l left.length ah left)
structure Kn(K:Sky)(l:Bool)(p c:Nat)(S:Sto):Prop where
 ex:∃kss ds,S[p]?=aw (.dic kss ds)/\KI K l kss ds/\kss.length<=c
abbrev cnt:Nat->Nat
 |0=>0
 |n+1=>(n+1) * cnt n+1
def vE:∀ {b:List (List NK)} {c:List D} {k:List NK} {v:D},(atD b c k).isSome=aN->atD b (gr k v b c) k=aw v
 |[],_,_,_,h=>by simp[atD] at h
 |_::_,[],_,_,h=>by simp[atD] at h
 |a::b,d::c,k,v,h=>by
  simp only[gr,atD] at h ⊢;split
  ·rfl
  ·rename_i e;rw[if_neg e] at h;&vE h
def sS:∀ {b:List (List NK)} {f:List D} {k c:List NK} {v:D},b.length=f.length->atD (b++[k]) (f++[v]) c=match atD b f c with |some d=>aw d |none=>if k=c then aw v else aD
 |[],[],k,c,v,_=>rfl
 |[],_::_,_,_,_,h=>by simp at h
 |_::_,[],_,_,_,h=>by simp at h
 |a::b,d::f,k,c,v,h=>by
  simp only[XR,atD];split
  ·rfl
  ·&sS (by simpa using h)
def ze:∀ {b:List (List NK)} {f:List D} {k c:List NK} {v d:D},atD b (gr k v b f) c=aw d->(k=c/\d=v)\/(atD b f c=aw d)
 |[],_,_,_,_,_,h=>by simp[gr,atD] at h
 |_::_,[],_,_,_,_,h=>by simp[gr,atD] at h
 |a::b,e::f,k,c,v,d,h=>by
  simp only[gr,atD] at h ⊢;split at h
  ·rename_i E;subst E;cases h;split
   ·rename_i j;&.inl ⟨j.symm,rfl⟩
   ·&.inr (if_pos rfl)
  ·rename_i E;rw[if_neg E];&ze h
def gl9(j:SkOk K){g:Int}(l:0<=g)(n:g < K.G.length):∃a b c d e f h,K.G[g.toNat]?=aw [a,b,c,d,e,f,h]/\gi K.G g 0=a/\gi K.G g 4=e/\gi K.G g 5=f/\0<=f/\f<=99/\0<=a/\a < K.M.length:=by
 !hi:g.toNat < K.G.length:=by lia
 #{a,b,c,d,e,f,h,E,hb}:=j.gb K.G[g.toNat] (ZS hi);!eq:K.G[g.toNat]?=aw [a,b,c,d,e,f,h]:=by rw[gEG hi,E]
 ~⟨a,b,c,d,e,f,h,eq,?_,?_,?_,by lia,by lia,by lia,by lia⟩ <;> (unfold gi;rw[eq];rfl)
def EN{g m a b c d e f h:Int}(j:gi K.G g 4=e)(E:gi K.G g 5=f)(l:0<=f)(n:f<=99)(q:Q (.int (cst K g m)) S):Ok (evC ab (k+1) 22 [ag [a,b,c,d,e,f,h],.int m] S) Q:=by
 ~av (d:=eP) (ρ:=[aw (ag [a,b,c,d,e,f,h]),aw (.int m),aD,aD,aD,aD,aD,aD,aD]) rfl rfl ?_;dsimp only[eP,iA];unfold cst at q;rw[j,E] at q;rw[show ag [a,b,c,d,e,f,h] = .tup [.int a,.int b,.int c,.int d,.int e,.int f,.int h] from rfl];k_is;~{?_,q};unfold ir;rw[decide_eq_true (show -(2 ^ 64) < f by lia),decide_eq_true (show f < 2 ^ 64 by lia)];rfl
def qV(l:Bool){g m x a b c d e f h:Int}(n:gi K.G g 4=e)(E:gi K.G g 5=f)(j:0<=f)(u:f<=99)(q:Q (.int (jnd K l g m x)) S):Ok (evC ab (k+2) 35 [dw l,ag [a,b,c,d,e,f,h],.int m,.int x] S) Q:=by
 ~av (d:=oO) (ρ:=[aw (dw l),aw (ag [a,b,c,d,e,f,h]),aw (.int m),aw (.int x)]) rfl rfl ?_;dsimp only[oO,uM];unfold jnd at q;cases l with
 |true=>
  rw[if_pos rfl] at q;k_is;~aa (show ao .eq (dw aN) (.str "last") S=aw (.bl aN,S) from rfl) ?_;k_is;&q
 |false=>
  rw[if_neg (by decide)] at q;k_is;~aa (show ao .eq (dw aS) (.str "last") S=aw (.bl aS,S) from rfl) ?_;k_is;~aa (show ao .eq (dw aS) (.str "cost") S=aw (.bl aN,S) from rfl) ?_;k_is;~{rfl,EN n E j u ?_};k_is;&q
def xN{left:List Int}{g:Int}(j:left.length<=100)(q:∀S',Sm S S'->Q (.tup ((rst left g).map D.int)) S'):Ok (evC ab (k+1) 5 [.tup (left.map D.int),.int g] S) Q:=by
 ~av (d:=kE) (ρ:=[aw (.tup (left.map D.int)),aw (.int g)]) rfl rfl ?_;dsimp only[kE,qI];k_is;~a9 left D.int (λx=>if (!decide (x=g))=aN then [D.int x] else []) (by lia) (λa _=>by split <;> simp) bN (λi x S' h sm=>⟨_,rfl,?_⟩) λb f=>?_
 ·k_is;cases c:!decide (x=g) with
  |true=>&{rfl,Sm.refl _}
  |false=>&{rfl,Sm.refl _}
 ·rw[bj];&aa (show cO aS (((rst left g)).map D.int) b=aw (.tup ((rst left g).map D.int),b) from rfl) (q b f)
structure Lf(K:Sky)(n:Nat)(ah:Option (Int × Int))(left:List Int):Prop where
 nd:left.Nodup
 bd:∀g ∈ left,0<=g/\g < K.G.length
 ln:left.length=n
 le:n<=K.G.length
 ah:∀q,ah=aw q->0<=q.1/\q.1 < K.M.length
def sU:∀ {left:List Int} {g:Int},left.Nodup->g ∈ left->(rst left g).length+1=left.length
 |[],_,_,h=>by cases h
 |a::l,g,nd,h=>by
  rw[Z9] at nd;unfold rst;by_cases e:a=g
  ·subst e;rw[List.filter_cons_of_neg (by simp)]
   rw[XB.mpr λx b=>by
    !:¬ x=a:=λz=>nd.1 (z ▸ b);simp[this]]
   rw[Zo]
  ·rw[List.filter_cons_of_pos (by simp[e]),Zo,Zo];!:=sU nd.2 ((Zn.mp h).resolve_left λz=>e z.symm);unfold rst at this
   lia
def Lf.rst{n:Nat}{ah:Option (Int × Int)}{left:List Int}{g m:Int}(h:Lf K (n+1) ah left)(d:g ∈ left)(f:0<=gi K.G g 0)(c:gi K.G g 0 < K.M.length):Lf K n (aw (gi K.G g 0,m)) (Sn.rst left g):=by
 !l:=sU h.nd d;!:=h.ln;!:=h.le;&{h.nd.filter _,λx b=>h.bd x (ZM.mp b).1,by lia,by lia,λq e=>by cases e;&{f,c}}
abbrev BB(K:Sky)(l:Bool)(p n k:Nat):Prop:=∀ (ah:Option (Int × Int)) (left:List Int) (S:Sto) (c:Nat) (Q:D->Sto->Prop),Lf K n ah left->Kn K l p c S->c+cnt n<=99999->(∀S',Kp p S S'->Kn K l p (c+cnt n) S'->Q (bE (bb K l n ah left)) S')->Ok (evC ab k 36 [skE K,dw l,ahE ah,.tup (left.map D.int),.ref p] S) Q
def Kn.kp{l:Bool}{c:Nat}(h:Kn K l p c S)(s:Sm S S'):Kn K l p c S':=let ⟨kss,ds,e,k⟩:=h.ex;⟨kss,ds,s _ _ e,k⟩
def Kn.up{l:Bool}{c C:Nat}(h:Kn K l p c S)(b:c<=C):Kn K l p C S:=let ⟨kss,ds,e,k,z⟩:=h.ex;⟨kss,ds,e,k,ZJ z b⟩
def JJ(I:SkOk K){l:Bool}{n k:Nat}(ih:BB K l p n (k+5)){ah:Option (Int × Int)}{left:List Int}{g:Int}(L:Lf K (n+1) ah left)(X:g ∈ left){C:Nat}(T:Kn K l p C S)(J:C+cnt n<=99999)(q:∀S',Kp p S S'->Kn K l p (C+cnt n) S'->Q (bE (bw K l n ah left g)) S'):Ok (evC ab (k+6) 37 [skE K,dw l,ahE ah,.tup (left.map D.int),.int g,.ref p] S) Q:=by
 ~av (d:=gN) (ρ:=[aw (skE K),aw (dw l),aw (ahE ah),aw (.tup (left.map D.int)),aw (.int g),aw (.ref p),aD,aD,aD]) rfl rfl ?_;dsimp only[gN,lB];!V:=I.vd;!g7:=I.g7;!hb:=L.bd g X;!ln:=L.ln;!le:=L.le;#{a,b,c,d,e,f,h,eg,E,Y,e5,f0,f1,Z,a1}:=gl9 I hb.1 hb.2;k_is;~aa sk2 (aa bx (aa bx ?_));k_is;rw[show((K.G.length:Int) - left.length)=((K.G.length - (n+1):Nat):Int) by lia];~{rfl,qS (k:=k+2) V L.ah hb.1 hb.2 λy O=>?_};unfold bw at q;cases hs:step K ah g (K.G.length - (n+1)) with
 |none=>
  rw[hs] at q;rw[show jS aD = .non from rfl];k_is;~aa (show ao .is .non .non y=aw (.bl aN,y) from rfl) ?_;k_is;&q y O.kp ((T.kp O).up (Y3 _ _))
 |some m=>
  rw[hs] at q;rw[show jS (aw m) = .int m from rfl];k_is;~aa (show ao .is (.int m) .non y=aw (.bl aS,y) from rfl) ?_;k_is;~aa sk2 (aa (dQ hb.1 eg) ?_);k_is;~aa (show ixS (ag [a,b,c,d,e,f,h]) (.int 0) y=aw (.int a,y) from rfl) ?_;k_is;~{rfl,xN (k:=k+4) (by lia) λS2 s2=>?_}
  !lr:Lf K n (aw (a,m)) (Sn.rst left g):=by
   !:=L.rst (m:=m) X (by rw[E];&Z) (by rw[E];&a1)
   rwa [E] at this
  !u:=O.trans s2;~{rfl,ih (aw (a,m)) (Sn.rst left g) S2 C _ lr (T.kp u) J λj U B=>?_};rw[E] at q;cases v:bb K l n (aw (a,m)) (Sn.rst left g) with
  |none=>
   dsimp only at q;rw[v] at q;rw[show bE aD = .non from rfl];k_is;~aa (show ao .is .non .non j=aw (.bl aN,j) from rfl) ?_;k_is;&q j (u.kp.trans U) B
  |some z=>
   dsimp only at q;rw[v] at q;rw[show bE (aw z) = .tup [.int z.1,.tup (z.2.map D.int)] from rfl];k_is;~aa (show ao .is (.tup [.int z.1,.tup (z.2.map D.int)]) .non j=aw (.bl aS,j) from rfl) ?_;k_is;~aa (show ixS (.tup [.int z.1,.tup (z.2.map D.int)]) (.int 0) j=aw (.int z.1,j) from rfl) ?_;~{rfl,qV (k:=k+3) l Y e5 f0 f1 ?_};k_is;~aa (show ixS (.tup [.int z.1,.tup (z.2.map D.int)]) (.int 1) j=aw (.tup (z.2.map D.int),j) from rfl) ?_;k_is;!lz:=xM n _ _ z v;&{by rw[Za,Zm];lia,q j (u.kp.trans U) B}
def EO{l:Bool}{k:Nat}:BB K l p 0 (k+1):=λah left S c Q lf kn hc q=>by
 ~av (d:=bZ) (ρ:=[aw (skE K),aw (dw l),aw (ahE ah),aw (.tup (left.map D.int)),aw (.ref p),aD,aD]) rfl rfl ?_;dsimp only[bZ,eN];!e:=Z1.mp lf.ln;subst e;k_is;&q S (Kp.refl p S) kn
def QJ{l:Bool}{b:List (List NK)}{d:List D}{ah:Option (Int × Int)}{left:List Int}(h:S[p]?=aw (.dic b d)):ao .notin (.tup [ahE ah,.tup (left.map D.int)]) (.ref p) S=aw (.bl (!(atD b d (io ah left)).isSome),S):=by
 !e:ao .notin (.tup [ahE ah,.tup (left.map D.int)]) (.ref p) S=inK aN (.tup [ahE ah,.tup (left.map D.int)]) (.ref p) S:=by
  simp only[ao,inS,ay,aR,h,Option.map_none]
 rw[e];simp only[inK,eI,h];simp
def xO{b:List (List NK)}{c:List D}{ah:Option (Int × Int)}{left:List Int}{d:D}(f:S[p]?=aw (.dic b c))(h:atD b c (io ah left)=aw d):ixS (.ref p) (.tup [ahE ah,.tup (left.map D.int)]) S=aw (d,S):=by
 show ixK _ _ _=_;simp only[ixK,eI,f,h,ZL]
def zf:∀ (b:List (Int × List Int)),iu (b.map λz=>bE (aw z))=aw b
 |[]=>rfl
 |z::b=>by
  !e:yx (bE (aw z))=aw z:=by
   show(cP (z.2.map D.int)).map _=_;rw[dr];rfl
  rw[Zy];simp only[iu,e,zf b]
def QK(b:List (Int × List Int)):pQ aS (b.map λz=>bE (aw z)) S=aw (bE (o7 b),S):=by
 unfold pQ;rw[zf];dsimp only;rw[Za,Zr,Zq];unfold o7;cases b[argBest (dG b) (b.length - 1)]? <;> rfl
def QL{l:Bool}{ah:Option (Int × Int)}{left:List Int}{c:Nat}(B:Kn K l p c S)(J:c < 99999):∃S',ko (.ref p) (.tup [ahE ah,.tup (left.map D.int)]) (bE (bb K l left.length ah left)) S=aw S'/\Kp p S S'/\Kn K l p (c+1) S'/\ixS (.ref p) (.tup [ahE ah,.tup (left.map D.int)]) S'=aw (bE (bb K l left.length ah left),S'):=by
 #{b,q,y,⟨j,z⟩,E}:=B.ex;!lt:p < S.length:=(Zb.mp y).1;!e:ko (.ref p) (.tup [ahE ah,.tup (left.map D.int)]) (bE (bb K l left.length ah left)) S=Cg (.ref p) (.tup [ahE ah,.tup (left.map D.int)]) (bE (bb K l left.length ah left)) S:=rfl;rw[e];simp only[Cg,eI,y];rw[if_pos (by lia)];!kp:∀o,Kp p S (S.set p o):=λo i u hi h=>by rw[Zx (Ne.symm hi)];&h
 by_cases cd:(atD b q (io ah left)).isSome=aN
 ·rw[if_pos cd];!f:(S.set p (Ob.dic b (gr (io ah left) (bE (bb K l left.length ah left)) b q)))[p]?=aw (.dic b (gr (io ah left) (bE (bb K l left.length ah left)) b q)):=ZV lt;~{_,rfl,kp _,⟨_,_,f,⟨rK j,λn L d h=>?_⟩,by lia⟩,xO f ?_}
  ·rcases ze h with ⟨h1,rfl⟩ |h1
   ·#{rfl,rfl}:=vD h1;rfl
   ·&z n L d h1
  ·&vE cd
 ·rw[if_neg cd]
  !C:atD b q (io ah left)=aD:=by
   cases h:atD b q (io ah left) with
   |none=>rfl
   |some d=>rw[h] at cd;&absurd rfl cd
  !f:(S.set p (Ob.dic (b++[io ah left]) (q++[bE (bb K l left.length ah left)])))[p]?=aw (.dic (b++[io ah left]) (q++[bE (bb K l left.length ah left)])):=ZV lt;~{_,rfl,kp _,⟨_,_,f,⟨by rw[Ze,Ze,j];rfl,λn L d h=>?_⟩,by rw[Ze,Zm];lia⟩,xO f ?_}
  ·rw[sS j] at h;split at h
   ·rename_i I hd;cases h;&z n L d hd
   ·split at h
    ·rename_i v;cases h;#{rfl,rfl}:=vD v;rfl
    ·cases h
  ·rw[sS j,C];dsimp only;rw[if_pos rfl]
abbrev QM{b:Type}(w:b->D):Option b->List D
 |none=>[]
 |some z=>[w z]
def vF{b c:Type}(f:b->Option c)(w:c->D):∀ (l:List b),(l.flatMap λa=>QM w (f a))=(l.filterMap f).map w
 |[]=>rfl
 |a::l=>by
  rw[Xk,vF f w l,Ys];cases f a <;> rfl
def ER(U:SkOk K){l:Bool}{n k:Nat}(ih:BB K l p n (k+5)):BB K l p (n+1) (k+7):=λah left S cc Q lf kn hcc q=>by
 ~av (d:=bZ) (ρ:=[aw (skE K),aw (dw l),aw (ahE ah),aw (.tup (left.map D.int)),aw (.ref p),aD,aD]) rfl rfl ?_;dsimp only[bZ,eN];!g7:=U.g7;!ln:=lf.ln;!le:=lf.le;#{C,ds,J,ki,hcl}:=kn.ex;!u:cnt (n+1)=(n+1) * cnt n+1:=rfl
 !ne:(left.map D.int).isEmpty=aS:=by
  cases left with
  |nil=>simp at ln
  |cons _ _=>rfl
 k_is;rw[ne];k_is;~aa (QJ (l:=l) J) ?_;cases O:atD C ds (io ah left) with
 |some d=>
  k_is;~aa (xO J O) ?_;!e:=ki.2 ah left d O;rw[ln] at e;subst e;&q S (Kp.refl p S) (kn.up (Y3 _ _))
 |none=>
  k_is;~oQ left.length (λi=>D.int (left.getD i 0)) (λi c S'=>Kp p S S'/\Kn K l p (cc+i * cnt n) S'/\c=(left.take i).map λg=>bE (bw K l n ah left g)) (λi c S' hi _=>?_) (by lia) (λi c S' hi f=>?_) (λes S' B=>?_) ⟨Kp.refl p S,by rw[WU];&kn,rfl⟩
  ·show aw (left.map D.int)[i]?=_;rw[Zq];split
   ·rename_i h;rw[gEG h,Zr,gEG h];rfl
   ·rename_i h;rw[Zw (by lia)];rfl
  ·#{kp,b,rfl}:=f;!eg:left.getD i 0=left[i]:=by rw[Zr,gEG hi];rfl
   rw[eg];~{_,rfl,?_};k_is;!hi2:(i+1) * cnt n<=(n+1) * cnt n:=YZ _ (by lia);!E:(i+1) * cnt n=i * cnt n+cnt n:=XU _ _;~{rfl,JJ (k:=k) U ih lf (ZS hi) b (by lia) λS1 k1 y=>⟨kp.trans k1,by rw[E,<-Y8];&y,?_⟩};rw[Z6 hi,ZF];rfl
  ·#{kp,b,rfl}:=B;rw[Yx];~{by rw[Za];lia,?_};!X:(S'++[Ob.lst (left.map λg=>bE (bw K l n ah left g))])[S'.length]?=aw (.lst (left.map λg=>bE (bw K l n ah left g))):=aM;!Z:Sm S' (S'++[Ob.lst (left.map λg=>bE (bw K l n ah left g))]):=Sm.app _ _;generalize S'++[Ob.lst (left.map λg=>bE (bw K l n ah left g))]=S1 at *;generalize S'.length=N at *;k_is;~{by rw[aB X];rfl,?_};~a9 left (λg=>bE (bw K l n ah left g)) (λg=>QM (λz=>bE (aw z)) (bw K l n ah left g)) (by lia) (λg _=>by cases bw K l n ah left g <;> simp[QM]) (c8 X) (λi g S2 hg sm=>⟨_,rfl,?_⟩) λS2 Y=>?_
   ·k_is;cases hb:bw K l n ah left g with
    |none=>
     ~aa (show ao .isnot (bE aD) .non S2=aw (.bl aS,S2) from rfl) ?_;k_is;&{rfl,Sm.refl _}
    |some z=>
     ~aa (show ao .isnot (bE (aw z)) .non S2=aw (.bl aN,S2) from rfl) ?_;k_is;&{rfl,Sm.refl _}
   ·rw[vF];~aa (QK _) ?_;rw[<-jW]
    !k2:Kn K l p (cc+(n+1) * cnt n) S2:=by
     !:=(b.kp Z).kp Y
     rwa [ln] at this
    #{T,L,j,v,I}:=QL (ah:=ah) (left:=left) k2 (by lia);rw[ln] at L I;~{T,L,?_};k_is;~aa I (q T ((kp.trans (Z.trans Y).kp).trans j) ?_);rw[u,<-Y8];&v
def qW(b:SkOk K){l:Bool}{j:Nat}:∀n,BB K l p n (2 * n+5+j)
 |0=>by rw[show 2 * 0+5+j=(4+j)+1 by lia];&EO
 |n+1=>by
  !I:=qW b (l:=l) (j:=j) n;rw[show 2 * (n+1)+5+j=(2 * n+j)+7 by lia];&ER b (by rw[show 2 * n+j+5=2 * n+5+j by lia];&I)
def ES{n:Nat}:∀i S',Sm S S'->nxR 0 n i S'=aw (((Zi n)[i]?).map λ(j:Nat)=>D.int (0+(j:Int))):=λi S' _=>by
 show aw (if i < n then aw (D.int (0+(i:Int))) else aD)=_;split
 ·rename_i h;rw[Yn h];rfl
 ·rename_i h;rw[Zw (by rw[ZC];lia)];rfl
abbrev bU(K:Sky):List Int:=((Zi K.G.length).filter λ(j:Nat)=>!decide ((j:Int) ∈ K.F)).map λ(j:Nat)=>(j:Int)
def JK(V:Vd K)(q:∀S',Sm S S'->Q (.tup ((bU K).map D.int)) S'):Ok (evC ab (k+1) 20 [skE K] S) Q:=by
 ~av (d:=gL) (ρ:=[aw (skE K)]) rfl rfl ?_;dsimp only[gL,lx];!g7:=V.g7;k_is;~aa sk2 (aa bx ?_);k_is;~{fV (by lia) (by lia),?_};rw[ZK];~a9 (Zi K.G.length) (λ(j:Nat)=>D.int (0+(j:Int))) (λ(j:Nat)=>if (!decide ((j:Int) ∈ K.F))=aN then [D.int (j:Int)] else []) (by rw[ZC];lia) (λa _=>by split <;> simp) ES (λi j S' h sm=>⟨_,rfl,?_⟩) λb f=>?_
 ·k_is;~aa sk3 ?_;rw[XW];k_is;~aa (show ao .notin (.int (j:Int)) (.tup (K.F.map D.int)) S'=aw (.bl (aN != decide ((j:Int) ∈ K.F)),S') from eC aN K.F j S') ?_;rw[show(aN != decide ((j:Int) ∈ K.F)) = !decide ((j:Int) ∈ K.F) by cases decide ((j:Int) ∈ K.F) <;> rfl];k_is;cases c:!decide ((j:Int) ∈ K.F) with
  |true=>&{rfl,Sm.refl _}
  |false=>&{rfl,Sm.refl _}
 ·rw[bj];~aa (show cO aS _ b=aw (.tup _,b) from rfl) ?_;!:=q b f;unfold bU at this
  rwa [ZT] at this
def ET(V:Vd K)(bd:∀g ∈ K.F,0<=g/\g < K.G.length)(y:K.F.length<=7)(u:∀j,rn K K.F K.ah [] = .inl j->∀S',Sm S S'->Q .non S')(v:∀R,rn K K.F K.ah [] = .inr R->∀n S',Sm S S'->S'[n]?=aw (.lst (R.map aj))->S.length<=n->Q (.ref n) S'):Ok (evC ab (k+6) 31 [skE K] S) Q:=by
 ~av (d:=cH) (ρ:=[aw (skE K),aD]) rfl rfl ?_;dsimp only[cH,fw];k_is;~aa sk3 ?_;~{rfl,vf (k:=k) V bd y λn L f c l hN q=>?_};k_is;~aa (ij l) (aa sk3 (aa bx ?_));k_is;rw[Za];cases h:rn K K.F K.ah [] with
 |inl j=>
  !b:=q.stuck j h;!E:=gw K.F _ _ j h;rw[Z4,YE] at E;rw[decide_eq_false (show ¬ (L.length:Int)=K.F.length by lia)];k_is;&u j h f c
 |inr R=>
  !b:=q.lands R h;!E:=jU K.F _ _ R h;rw[Z4,YE] at E;rw[decide_eq_true (show(L.length:Int)=K.F.length by rw[b,E])];k_is;&v R h n f c (by rw[<-b];&l) hN
abbrev dR(K:Sky)(l:Bool):Option (Int × List Int):=match rn K K.F K.ah [] with
 |.inl _=>aD
 |.inr R=>(bb K l (bU K).length (aq K R) (bU K)).map λz=>(R.foldr (λy x=>jnd K l y.1 y.2 x) z.1,K.F++z.2)
def Ls:∀ (os:List Int) (a:Option (Int × Int)) (L R:List (Int × Int)),(∀g ∈ os,0<=g/\g < K.G.length)->InG K L->rn K os a L = .inr R->InG K R
 |[],_,L,R,_,hL,e=>by cases e;&hL
 |g::os,a,L,R,ho,hL,e=>by
  rw[rn] at e;split at e
  ·cases e
  ·rename_i m _;split at e
   ·cases e
   ·&Ls os _ _ R (λx h=>ho x (Zg _ h)) (λz b=>(ZR.mp b).elim (hL z) λZ=>by rw[ZG.mp Z];&ho g Zj) e
def QN:∀n,n < 8->cnt n<=99999:=by decide
def JL(f:SkOk K){ah:Option (Int × Int)}(c:∀q,ah=aw q->0<=q.1/\q.1 < K.M.length):Lf K (bU K).length ah (bU K):=by
 ~{?_,λg b=>?_,rfl,?_,c}
 ·unfold bU;&YU.mpr ((Y5.filter _).imp λh z=>h (Int.ofNat.inj z))
 ·unfold bU at b;#{j,d,rfl}:=Zz.mp b;!:=ZQ.mp (ZM.mp d).1
  lia
 ·unfold bU;rw[Za];!:=YB (λ(j:Nat)=>!decide ((j:Int) ∈ K.F)) (Zi K.G.length);rw[ZC] at this;&this
def Kp.new{o:Ob}(h:Ev.Kp S.length (S++[o]) S'):Sm S S':=λi u e=>by
 !hi:=(Zb.mp e).1;&h i u (by lia) (Sm.app _ _ _ _ e)
def vG{n:Nat}{ds:List D}{T:Tg}{b:XS}{c:Rho}{Q:Fl->Rho->Sto->Prop}(C:ds.length<=100000)(I:Nat->Rho->Sto->Prop)(v:∀i c S',I i c S'->S'[n]?=aw (.lst ds))
  (step:∀ (i:Nat) d c S',ds[i]?=aw d->I i c S'->∃h,aA T d c=aw h/\OkS (b h S') λB f l=>match B with |.nx=>I (i+1) f l |.ct=>I (i+1) f l |.bk=>Q .nx f l |.rt d=>Q (.rt d) f l)
  (q:∀c S',I ds.length c S'->Q .nx c S') (y:I 0 c S):OkS (eJ (nxS n) T b LF 0 c S) Q:=by
 ~ig ds.length I (by unfold LF;lia) (λi c S' hi j=>?_) (λc S' j=>⟨?_,q c S' j⟩) y
 ·#{h,E,z}:=step i ds[i] c S' (gEG hi) j;~{ds[i],h,?_,E,z};show(aR S' n).map (λds=>ds[i]?)=_;rw[aB (v i c S' j),ZL,gEG hi]
 ·show(aR S' n).map (λu=>u[ds.length]?)=_;rw[aB (v _ c S' j),ZL,Zw (Zf _)]
def EU(C:SkOk K){l:Bool}(q:∀S',Sm S S'->Q (bE (dR K l)) S'):Ok (evC ab (k+20) 34 [skE K,dw l] S) Q:=by
 ~av (d:=fQ) (ρ:=[aw (skE K),aw (dw l),aD,aD,aD,aD,aD,aD]) rfl rfl ?_;dsimp only[fQ,jJ];!V:=C.vd;!g7:=C.g7;!lF:=Dw.cg K.G.length K.F C.nd C.bd;k_is;unfold dR at q;~{rfl,ET (k:=k+13) V C.bd (by lia) (λj J I U=>?_) (λR J n I U hn hN=>?_)}
 ·rw[J] at q;k_is;~aa (show ao .is .non .non I=aw (.bl aN,I) from rfl) ?_;k_is;&q I U
 ·rw[J] at q;k_is;~aa (show ao .is (.ref n) .non I=aw (.bl aS,I) from rfl) ?_;k_is;!inR:InG K R:=Ls K.F _ [] R C.bd (λz hz=>by cases hz) J;~{rfl,uY (k:=k+18) V hn inR ?_};~{rfl,JK (k:=k+18) V λX s2=>?_};k_is;!fl:=JL C (jT V inR);!fle:=fl.le;!hc:=QN (bU K).length (by lia);!kn:Kn K l X.length 0 (X++[Ob.dic [] []]):=⟨[],[],aM,⟨rfl,λ_ _ _ h=>by cases h⟩,Zf _⟩;!bo:=qW (p:=X.length) C (l:=l) (j:=k+14 - 2 * (bU K).length) (bU K).length;rw[show 2 * (bU K).length+5+(k+14 - 2 * (bU K).length)=k+19 by lia] at bo;~{rfl,bo _ _ _ 0 _ fl kn (by lia) λB Z kn3=>?_};!Y:=(U.trans s2).trans (Kp.new Z);!T:=(Kp.new Z) _ _ (s2 _ _ hn);dsimp only at q;cases hb:bb K l (bU K).length (aq K R) (bU K) with
  |none=>
   rw[hb] at q;rw[show bE aD = .non from rfl];k_is;~aa (show ao .is .non .non B=aw (.bl aN,B) from rfl) ?_;k_is;&q B Y
  |some z=>
   rw[hb] at q;rw[show bE (aw z) = .tup [.int z.1,.tup (z.2.map D.int)] from rfl];k_is;~aa (show ao .is (.tup [.int z.1,.tup (z.2.map D.int)]) .non B=aw (.bl aS,B) from rfl) ?_;k_is;~aa (show wQ (.ref n) B=aw (.ref B.length,B++[Ob.lst (R.map aj).reverse]) by simp only[wQ,aB T]) ?_;!a4:(B++[Ob.lst (R.map aj).reverse])[B.length]?=aw (.lst (R.map aj).reverse):=aM;!s4:=Y.trans (Sm.app B [Ob.lst (R.map aj).reverse]);generalize B++[Ob.lst (R.map aj).reverse]=S4 at *;generalize B.length=N at *;!lR:=jU K.F _ _ R J;rw[Z4,YE] at lR;k_is;~{by rw[aB a4];rfl,?_};~vG (ds:=(R.map aj).reverse) (by rw[Yo,Za];lia) (λi O S'=>S'=S4/\∃u v,O=[aw (skE K),aw (dw l),aw (.ref n),aw (.tup [.int z.1,.tup (z.2.map D.int)]),aw (.int ((R.reverse.take i).foldl (λx y=>jnd K l y.1 y.2 x) z.1)),aw (.tup (z.2.map D.int)),u,v]) (λi O S' L=>by rw[L.1];&a4) (λi d O S' hd L=>?_) (λO S' L=>?_) ⟨rfl,_,_,rfl⟩
   ·#{rfl,u,v,rfl}:=L;rw[<-List.map_reverse] at hd;#{y,hy,rfl}:=oX hd;!E:=inR y (List.mem_reverse.mp (Zd hy));#{a,b,c,d,e,f,h,eg,e0,e4,e5,f0,f1,a0,a1}:=gl9 C E.1 E.2;~{_,show aA (.tup [.name 6,.name 7]) (.tup [.int y.1,.int y.2]) _=_ from fT (by simp) (by simp),?_};k_is;~aa sk2 (aa (dQ E.1 eg) ?_);~{rfl,qV (k:=k+17) l e4 e5 f0 f1 ?_};k_is
    !e:(R.reverse.take (i+1)).foldl (λx y=>jnd K l y.1 y.2 x) z.1=jnd K l y.1 y.2 ((R.reverse.take i).foldl (λx y=>jnd K l y.1 y.2 x) z.1):=by
     rw[WK,hy,List.foldl_append];rfl
    rw[e];&{rfl,_,_,rfl}
   ·#{rfl,u,v,rfl}:=L;rw[Yo,Za,<-Yo (as:=R),Yx,List.foldl_reverse];k_is;~aa sk3 ?_;k_is;!lz:=xM _ _ _ z hb;~{by rw[Za,Za];lia,?_};!:=q _ s4;dsimp only[ZL,bE] at this
    rwa [ZF] at this
end Lw
namespace Sn
open Ev PySem Lw
def o9{b:List (Int × List Int)}(h:b ≠ []):∃z,o7 b=aw z:=by
 !c:0 < b.length:=Xz.mpr h;&{_,gEG (Yh (yy _) (by lia))}
variable {K:Sky} {l:Bool}
def vH{left:List Int}{g:Int}(b:left.Nodup)(c:g ∈ left):left.Perm (g::rst left g):=by
 !e:rst left g=left.erase g:=by
  rw[List.Nodup.erase_eq_filter b];unfold rst;~YV λx _=>?_;by_cases h:x=g <;> simp[h]
 rw[e];&Xr c
def EV{left:List Int}{g:Int}(h:left.Nodup):(rst left g).Nodup:=h.sublist Y7
def vI:∀ (n:Nat) (left:List Int) (L:List (Int × Int)) (z:Int × List Int),(∀g ∈ left,gi K.G g 6=0)->left.Nodup->left.length=n->L.length+n=K.G.length->bb K l n (aq K L) left=aw z->z.2.Perm left/\∃R,rn K z.2 (aq K L) L = .inr R
 |0,left,L,z,_,_,ln,_,h=>by
  cases h;rw[Z1.mp ln];&{List.Perm.nil,L,rfl}
 |n+1,left,L,z,nr,nd,ln,hn,h=>by
  rw[jW] at h;#{g,c,e}:=Yy.mp (qU h);unfold bw at e;rw[show K.G.length - (n+1)=L.length by lia] at e;cases hs:step K (aq K L) g L.length with
  |none=>rw[hs] at e;cases e
  |some m=>
   rw[hs] at e;#{y,E,rfl}:=ZE.mp e;!b:=vH nd c;!j:=b.length_eq;rw[Zo] at j;#{p,R,r1}:=vI n (rst left g) (L++[(g,m)]) y (λx f=>nr x (ZM.mp f).1) (EV nd) (by lia) (by rw[Ze,Zm];lia) (by rw[aU];&E);~{(p.cons g).trans b.symm,R,?_};!d:cz K L g m=aS:=by unfold cz;rw[nr g c];rfl
   rw[rn,hs];dsimp only;rw[d,if_neg Zh];rw[aU] at r1;&r1
def Lu:∀ (r left:List Int) (L R:List (Int × Int)),r.Perm left->left.Nodup->L.length+r.length=K.G.length->rn K r (aq K L) L = .inr R->∃z,bb K l r.length (aq K L) left=aw z
 |[],left,L,R,pm,_,_,h=>⟨(0,[]),rfl⟩
 |g::r,left,L,R,pm,nd,hn,h=>by
  rw[Zo] at hn;rw[rn] at h;cases hs:step K (aq K L) g L.length with
  |none=>rw[hs] at h;cases h
  |some m=>
   rw[hs] at h;dsimp only at h;split at h
   ·cases h
   ·!b:g ∈ left:=pm.mem_iff.mp Zj;!c:=vH nd b;#{y,E}:=Lu r (rst left g) (L++[(g,m)]) R ((pm.trans c).cons_inv) (EV nd) (by rw[Ze,Zm];lia) (by rw[aU];&h)
    !d:(jnd K l g m y.1,g::y.2) ∈ left.filterMap (bw K l r.length (aq K L) left):=Yy.mpr ⟨g,b,by
     unfold bw;rw[show K.G.length - (r.length+1)=L.length by lia,hs];dsimp only;rw[aU] at E;rw[E];rfl⟩
    rw[Zo,jW];&o9 (List.ne_nil_of_mem d)
def xP:∀ (os r:List Int) (a:Option (Int × Int)) (L:List (Int × Int)),a=aq K L->rn K (os++r) a L=match rn K os a L with |.inl j=>.inl j |.inr R=>rn K r (aq K R) R
 |[],r,a,L,e=>by rw[e];rfl
 |g::os,r,a,L,e=>by
  rw[XR,rn,rn];cases step K a g L.length with
  |none=>rfl
  |some m=>
   dsimp only;split
   ·rfl
   ·&xP os r _ _ (aU (z:=(g,m))).symm
def JM(b:SkOk K):∀g ∈ bU K,gi K.G g 6=0:=λg c=>by
 #{f,j,d}:=(sO g).mp c;!hi:g.toNat < K.G.length:=by lia
 unfold gi;rw[gEG hi];rcases b.rg g.toNat _ (gEG hi) with h |h
 ·&h
 ·&absurd (by rwa [show((g.toNat:Nat):Int)=g by lia] at h) d
def vJ(b:SkOk K):K.F.length+(bU K).length=K.G.length:=by
 !:=(EC b (List.Perm.refl (kM K))).ln
 rwa [Ze] at this
def xQ(c:SkOk K)(h:(dR K l).isSome=aN):∃os R,Ord K os/\rn K os K.ah [] = .inr R:=by
 #{z,h}:=Yq.mp h;unfold dR at h;cases b:rn K K.F K.ah [] with
 |inl j=>rw[b] at h;cases h
 |inr R=>
  rw[b] at h;#{y,e,rfl}:=ZE.mp h;!L:=jU K.F _ _ R b;rw[Z4,YE] at L;#{p,T,r1}:=vI _ _ R y (JM c) sP rfl (by rw[L];&vJ c) e;~{K.F++y.2,T,EC c p,?_};rw[xP _ _ _ _ (show K.ah=aq K [] from rfl),b];&r1
def JN(k:SkOk K){os:List Int}(b:Ord K os){R:List (Int × Int)}(h:rn K os K.ah [] = .inr R):(dR K l).isSome=aN:=by
 #{r,rfl}:=b.fx;rw[xP _ _ _ _ (show K.ah=aq K [] from rfl)] at h;unfold dR;cases c:rn K K.F K.ah [] with
 |inl j=>rw[c] at h;cases h
 |inr f=>
  rw[c] at h;!L:=jU K.F _ _ f c;rw[Z4,YE] at L;!nd:=Ye.mp b.nd
  !pm:r.Perm (bU K):=(YY nd.2.1 sP).mpr λx=>by
   rw[sO];constructor
   ·intro d;!:=b.bd x (ZB _ d);&{this.1,this.2,λp=>nd.2.2 x p x d rfl}
   ·rintro⟨q,u,n⟩;!:x ∈ K.F++r:=b.pm.mem_iff.mpr (Zz.mpr ⟨x.toNat,ZQ.mpr (by lia),by show((x.toNat:Nat):Int)=x;lia⟩);&(ZR.mp this).resolve_left n
  #{y,E}:=Lu (l:=l) r (bU K) f R pm sP (by !:=vJ k;!:=pm.length_eq;lia) h;dsimp only;rw[<-pm.length_eq,E];rfl
end Sn
namespace Sn
open Ev PySem Lw
variable {K K':Sky} {l:Bool}
def EW(b:SkOk K){g:Int}(c:0<=g)(h:g < K.G.length):0<=gi K.G g 0/\gi K.G g 0 < K.M.length:=by
 !hi:g.toNat < K.G.length:=by lia
 #{k,j,f,L,d,p,n,E,hb}:=b.gb K.G[g.toNat] (ZS hi);unfold gi;rw[gEG hi,E];&{show 0<=k by lia,show k < _ by lia}
abbrev rnm(f:Int->Int)(L:List (Int × Int)):List (Int × Int):=L.map λz=>(f z.1,z.2)
structure Lsr(K K':Sky)(f:Int->Int)(L:List (Int × Int)):Prop where
 g:∀z ∈ L,∀i,gi K'.G (f z.1) i=gi K.G z.1 i
 r:K'.r=K.r
 s:K'.s=K.s
 m:K'.M=K.M
 a:K'.ah=K.ah
 o:K'.H=K.H
def vK{f:Int->Int}{L:List (Int × Int)}{j:Nat}:(rnm f L).take j=rnm f (L.take j):=by unfold rnm;rw[XM]
def Lsr.sub{f:Int->Int}{L A:List (Int × Int)}(h:Lsr K K' f L)(b:∀z ∈ A,z ∈ L):Lsr K K' f A:=⟨λz c=>h.g z (b z c),h.r,h.s,h.m,h.a,h.o⟩
def zg{f:Int->Int}{t:Int}{L:List (Int × Int)}(h:Lsr K K' f L):wts K' (rnm f L) t=wts K L t:=by
 unfold wts rnm;rw[Xc,Za]
 congr 1
 ~YV λz b=>?_;show(decide (gi K'.G (f z.1) 1<=t) && decide (t < z.2 - K'.s))=_;rw[h.g z b 1,h.s];rfl
def EX{f:Int->Int}{L:List (Int × Int)}(h:Lsr K K' f L):aq K' (rnm f L)=aq K L:=by
 unfold aq rnm;rw[List.getLast?_map];cases b:L.getLast? with
 |none=>&h.a
 |some z=>
  show aw (gi K'.G (f z.1) 0,z.2)=_;rw[h.g z (Xq b) 0]
def EY{f:Int->Int}{L:List (Int × Int)}{z:Int × Int}(h:Lsr K K' f (z::L)):gW K' (rnm f L) (f z.1) z.2=gW K L z.1 z.2:=by
 !c:=h.sub (A:=L) λy b=>Zg _ b
 !e:dg K' (rnm f L) (f z.1) z.2=dg K L z.1 z.2:=by
  unfold dg;!E:jn K' (f z.1)=jn K z.1:=h.g z Zj 1
  !d:(rnm f L).map (λp=>jn K' p.1)=L.map λp=>jn K p.1:=by
   unfold rnm;rw[ZT];&Ym λy b=>c.g y b 1
  rw[E,d,h.s]
 unfold gW;rw[e]
 congr 1
 &Ym λt _=>by rw[zg c]
def EZ{f:Int->Int}{L:List (Int × Int)}(h:Lsr K K' f L)(kp:pU K L):pU K' (rnm f L):=λj y hy=>by
 unfold rnm at hy;rw[Zq] at hy;#{z,n,rfl}:=ZE.mp hy;!k:=kp j z n;!b:=Zd n
 !d:Lsr K K' f (z::L.take j):=h.sub λy hy=>by
  rcases Zn.mp hy with rfl |hy
  ·&b
  ·&YW hy
 ~{by rw[h.g z b 2];&k.lo,by rw[h.g z b 3];&k.hi,by rw[h.o];&k.op,λa c=>?_,?_,?_}
 ·rw[vK,EX (d.sub λy hy=>Zg _ hy)] at c;!:=k.gap a c;show a.2+gp K' a.1 (gi K'.G (f z.1) 0)<=z.2;unfold gp;rw[h.m,h.g z b 0];&this
 ·rw[zg h,show jn K' (f z.1)=jn K z.1 from h.g z b 1,h.r];&k.wt
 ·!:=k.rg;unfold cz at this ⊢;rw[vK,EY d,h.g z b 6];&this
def A9{P A:List (Int × Int)}{g m:Int}(h:List.Sublist P A):gW K P g m<=gW K A g m:=by
 unfold gW;~y7 (λx c=>?_) λy f=>?_
 ·#{t,b,rfl}:=Zz.mp c;~{1+(wts K A t:Int),Zz.mpr ⟨t,?_,rfl⟩,by !:wts K P t<=wts K A t:=(h.filter _).length_le;lia};unfold dg at b ⊢;#{h1,d}:=ZM.mp b;~ZM.mpr ⟨?_,d⟩;rcases Zn.mp h1 with e |h1
  ·rw[e];&Zj
  ·&Zg _ ((h.map _).subset h1)
 ·#{t,_,rfl}:=Zz.mp f
  lia
def Ba{P A:List (Int × Int)}{g m:Int}(h:List.Sublist P A)(b:cz K A g m=aS):cz K P g m=aS:=by
 !:=A9 (K:=K) (g:=g) (m:=m) h;unfold cz at b ⊢;cases c:decide (0 < gi K.G g 6) with
 |false=>rfl
 |true=>
  rw[c,YR] at b;rw[YR];!:=of_decide_eq_false b;&decide_eq_false (by lia)
def QO(d:SkOk K){a b c:Int}(k:0<=a)(f:a < K.M.length)(h:0<=b)(B:b < K.M.length)(j:0<=c)(C:c < K.M.length):gp K a b<=gp K a c+gp K c b:=d.me.tri a.toNat b.toNat c.toNat (by lia) (by lia) (by lia)
def Bb(n:SkOk K){A B:List (Int × Int)}{x:Int × Int}(u:InG K (A++x::B))(kp:pU K (A++x::B)):pU K (A++B):=λj z d=>by
 !sub:List.Sublist (A++B) (A++x::B):=(XX x B).append_left A;!wt:∀ {t:Int},wts K (A++B) t<=wts K (A++x::B) t:=λ{t}=>(sub.filter _).length_le;by_cases Q:j < A.length
 ·!c:(A++x::B)[j]?=aw z:=by rw[Zt Q] at d ⊢;&d
  !k:=kp j z c;!e:(A++B).take j=(A++x::B).take j:=by rw[Xs (by lia),Xs (by lia)]
  &{k.lo,k.hi,k.op,by rw[e];&k.gap,by !:=k.wt;!:=wt (t:=jn K z.1);lia,by rw[e];&k.rg}
 ·obtain⟨i,rfl⟩:∃i,j=A.length+i:=⟨j - A.length,by lia⟩;rw[Zp (by lia),show A.length+i - A.length=i by lia] at d;!c:(A++x::B)[A.length+(i+1)]?=aw z:=by rw[Zp (by lia),show A.length+(i+1) - A.length=i+1 by lia];&d
  !k:=kp _ z c;!I:(A++B).take (A.length+i)=A++B.take i:=XC _;!E:(A++x::B).take (A.length+(i+1))=A++x::B.take i:=XC _;~{k.lo,k.hi,k.op,λa h=>?_,by !:=k.wt;!:=wt (t:=jn K z.1);lia,?_}
  ·rw[I] at h;!p:=k.gap;rw[E] at p;cases i with
   |succ i=>
    cases B with
    |nil=>cases d
    |cons b B=>
     ~p a ?_;rw[List.take_succ_cons] at h ⊢;unfold aq at h ⊢;rw[YX,Xd] at h;rw[YX,List.getLast?_cons_cons,Xd];&h
   |zero=>
    rw[YK,Z8] at h;!v:=p (gi K.G x.1 0,x.2) (by rw[YK];&aU);!T:=kp A.length x o4;!U:=T.gap a (by rw[gX];&h);!J:=u x (ZB _ Zj);!f:=u z (ZB _ (Zg _ (Zd d)));!nx:=EW n J.1 J.2;!O:=EW n f.1 f.2
    !L:0<=a.1/\a.1 < K.M.length:=by
     unfold aq at h;cases q:A.getLast? with
     |none=>rw[q] at h;!:=n.ah a h;&{this.1,this.2.1}
     |some y=>
      rw[q] at h;cases h;!C:=u y (ZW _ (Xq q));&EW n C.1 C.2
    !:=QO n L.1 L.2 O.1 O.2 nx.1 nx.2;!v:x.2+gp K (gi K.G x.1 0) (gi K.G z.1 0)<=z.2:=v
    lia
  ·rw[I];~Ba ?_ (by !:=k.rg;rw[E] at this;&this);&(XX x _).append_left A
def gY(b:SkOk K)(c:Int × Int->Bool):∀ (B A:List (Int × Int)),InG K (A++B)->pU K (A++B)->pU K (A++B.filter c)
 |[],A,_,kp=>kp
 |x::B,A,hL,kp=>by
  rw[ZZ];split
  ·!:=gY b c B (A++[x]) (by rw[<-cY];&hL) (by rw[<-cY];&kp)
   rwa [<-cY] at this
  ·~gY b c B A (λz hz=>hL z ?_) (Bb b hL kp);rcases ZR.mp hz with hz |hz
   ·&ZW _ hz
   ·&ZB _ (Zg _ hz)
def JO{os:List Int}{L:List (Int × Int)}(h:Ord K os)(c:L.map (·.1)=os):InG K L:=λz b=>h.bd z.1 (c ▸ Zz.mpr ⟨z,b,rfl⟩)
def zh:∀ (a b:List Int),a.Nodup->(∀x ∈ a,x ∈ b)->b.length<=a.length->a.Perm b
 |[],b,_,_,h=>by rw[Z1.mp (Nat.le_zero.mp h)]
 |x::a,b,c,hs,h=>by
  !f:=hs x Zj;!p:=Xr f;!j:=p.length_eq;rw[Zo] at j h;!c:=Z9.mp c;&((zh a (b.erase x) c.2 (λy d=>(Wb (λ(e:y=x)=>c.1 (e ▸ d))).mpr (hs y (Zg _ d))) (by lia)).cons x).trans p.symm
def QP{os:List Int}(nd:os.Nodup)(bd:∀g ∈ os,0<=g/\g < K.G.length)(ln:os.length=K.G.length)(fx:∃r,os=K.F++r):Ord K os:=
 ⟨nd,bd,ln,fx,zh _ _ nd (λx h=>by
  !:=bd x h;&Zz.mpr ⟨x.toNat,ZQ.mpr (by lia),by show((x.toNat:Nat):Int)=x;lia⟩) (by rw[Za,ZC];lia)⟩
end Sn
namespace Sn
open Ev PySem Lw
abbrev gl(K:Sky)(x:Int):List Int:=(K.G[x.toNat]?).getD []
abbrev ixI(l:List Int)(x:Int):Int:=(l.idxOf x:Nat)
abbrev fxd(K:Sky)(l:List Int):List Int:=K.F.filter λx=>decide (x ∈ l)
abbrev nar(K:Sky)(l:List Int):Sky:={ K with G:=l.map (gl K),F:=(fxd K l).map (ixI l) }
structure LotK(K:Sky)(lot:List Int):Prop where
 nd:lot.Nodup
 bd:∀x ∈ lot,0<=x/\x < K.G.length
abbrev lnd(K:Sky)(l:List Int):Bool:=(dR (nar K l) aN).isSome
def zi:∀ (a b:List Int),a.Nodup->(∀x ∈ a,x ∈ b)->a.length<=b.length
 |[],b,_,_=>Z2 _
 |x::a,b,h,hs=>by
  !d:=(Xr (hs x Zj)).length_eq;!h:=Z9.mp h;!:=zi a (b.erase x) h.2 λy c=>(Wb (λ(e:y=x)=>h.1 (e ▸ c))).mpr (hs y (Zg _ c));rw[Zo] at d ⊢
  lia
variable {K:Sky} {a b lot:List Int}
def LotK.len(h:LotK K lot):lot.length<=K.G.length:=by
 !:=zi lot ((Zi K.G.length).map Int.ofNat) h.nd λx c=>by
  !:=h.bd x c;&Zz.mpr ⟨x.toNat,ZQ.mpr (by lia),by show((x.toNat:Nat):Int)=x;lia⟩
 rwa [Za,ZC] at this
def qX{x:Int}(h:x ∈ lot):lot[(ixI lot x).toNat]?=aw x:=by
 !c:=Xa.mpr h;show lot[((lot.idxOf x:Nat):Int).toNat]?=_;rw[ZK,gEG c,Wl c]
def zj{x:Int}(h:x ∈ lot):0<=ixI lot x/\ixI lot x < lot.length:=by
 !:=Xa.mpr h;unfold ixI
 lia
def E5{x y:Int}(c:x ∈ lot)(d:y ∈ lot)(h:ixI lot x=ixI lot y):x=y:=by
 !:=qX c;rw[h,qX d] at this;&(Option.some.inj this).symm
def jR{i:Nat}{x:Int}(nd:lot.Nodup)(h:lot[i]?=aw x):ixI lot x=i:=by
 !d:=Zd h;!c:=qX d;!k:=(Zb.mp h).1;!I:=(Zb.mp c).1
 !e:(ixI lot x).toNat=i:=by
  !j:=(Zb.mp c).2;!f:=(Zb.mp h).2;&(Y1 nd).mp (j.trans f.symm)
 !:=zj d
 lia
def kN{d k:Type}{f:d->k}:∀ {l:List d},l.Nodup->(∀x ∈ l,∀y ∈ l,f x=f y->x=y)->(l.map f).Nodup
 |[],_,_=>Xf
 |x::l,h,i=>by
  !h:=Z9.mp h;rw[Zy];~Z9.mpr ⟨λz=>?_,kN h.2 λx j y c=>i x (Zg _ j) y (Zg _ c)⟩;#{y,c,e}:=Zz.mp z;&h.1 (i _ (Zg _ c) _ Zj e ▸ c)
def kO{x:Int}(h:x ∈ fxd K lot):x ∈ K.F/\x ∈ lot:=by
 #{d,c}:=ZM.mp h;&{d,of_decide_eq_true c}
def sV(c:LotK K lot){x:Int}(h:x ∈ lot):K.G[x.toNat]?=aw (gl K x):=by
 !:=c.bd x h;!hi:x.toNat < K.G.length:=by lia
 unfold gl;rw[gEG hi];rfl
def sW(d:SkOk K)(k:LotK K lot):SkOk (nar K lot):=by
 ~{d.me,?_,λg f=>?_,kN (d.nd.sublist Y7) λx c y n e=>E5 (kO c).2 (kO n).2 e,λy n=>?_,λj g f=>?_,d.ah}
 ·show(lot.map (gl K)).length<=7;!:=k.len;!:=d.g7;rw[Za];lia
 ·#{x,c,rfl}:=Zz.mp f;&d.gb _ (Zd (sV k c))
 ·#{x,c,rfl}:=Zz.mp n;show _/\_ < ((lot.map (gl K)).length:Int);rw[Za];&zj (kO c).2
 ·!f:(lot.map (gl K))[j]?=aw g:=f;rw[Zq] at f;#{x,c,rfl}:=ZE.mp f;!l:=Zd c;!:=k.bd x l;~(d.rg x.toNat _ (sV k l)).imp_right λh=>Zz.mpr ⟨x,ZM.mpr ⟨?_,decide_eq_true l⟩,jR k.nd c⟩
  rwa [show((x.toNat:Nat):Int)=x by lia] at h
def E6{lot:List Int}{i:Int}{x:Int}(h:lot[i.toNat]?=aw x)(k:Nat):gi (nar K lot).G i k=(gl K x).getD k 0:=by
 unfold gi;show(((lot.map (gl K))[i.toNat]?).getD []).getD k 0=_;rw[Zq,h];rfl
def E7(Z:SkOk K)(T:LotK K a)(hb:LotK K b)(sub:∀x ∈ b,x ∈ a)(h:lnd K a=aN):lnd K b=aN:=by
 !C:=sW Z T;!E:=sW Z hb;#{os,R,u,hr}:=xQ C h;#{Y,kp}:=JE C u hr;!hG:=JO u Y;!la:((nar K a).G.length:Int)=a.length:=by show((a.map (gl K)).length:Int)=_;rw[Za]
 !lb:((nar K b).G.length:Int)=b.length:=by show((b.map (gl K)).length:Int)=_;rw[Za]
 !U:(nar K b).G.length=b.length:=by lia
 let v:Int->Int:=λi=>a.getD i.toNat 0
 !O:∀i ∈ os,a[i.toNat]?=aw (v i):=λi hi=>by
  !:=u.bd i hi;!hl:i.toNat < a.length:=by lia
  show _=aw (a.getD i.toNat 0);rw[Zr,gEG hl];rfl
 let c:Int × Int->Bool:=λz=>decide (v z.1 ∈ b)
 let f:Int->Int:=λi=>ixI b (v i)
 !J:=gY C c R [] hG kp;rw[XZ] at J
 !inR:∀z ∈ R.filter c,z.1 ∈ os/\v z.1 ∈ b:=λz X=>by
  #{k,l}:=ZM.mp X;&{Y ▸ Zz.mpr ⟨z,k,rfl⟩,of_decide_eq_true l}
 !ls:Lsr (nar K a) (nar K b) f (R.filter c):=⟨λz X i=>by
  #{k,l}:=inR z X;rw[E6 (qX l),E6 (O _ k)],rfl,rfl,rfl,rfl,rfl⟩
 !Q:=EZ ls J
 !ef:(rnm f (R.filter c)).map (·.1)=(os.filter λi=>decide (v i ∈ b)).map f:=by
  unfold rnm;rw[ZT,<-Y,Xc,ZT];rfl
 !B:∀x ∈ os,∀y ∈ os,v x=v y->x=y:=λx d y n e=>by
  !k:=O x d;!l:=O y n;rw[<-e] at l;!q1:=jR T.nd k;!q2:=jR T.nd l;!:=u.bd x d;!:=u.bd y n
  lia
 !j:∀i ∈ os.filter (λi=>decide (v i ∈ b)),i ∈ os/\v i ∈ b:=λi hi=>by
  #{k,l}:=ZM.mp hi;&{k,of_decide_eq_true l}
 !I:Ord (nar K b) ((rnm f (R.filter c)).map (·.1)):=by
  rw[ef];!nf:=u.nd.sublist (Y7 (p:=λi=>decide (v i ∈ b)));~QP (kN nf λx d y n e=>?_) (λy n=>?_) ?_ ?_
  ·&B x (j x d).1 y (j y n).1 (E5 (j x d).2 (j y n).2 e)
  ·#{x,d,rfl}:=Zz.mp n;rw[lb];&zj (j x d).2
  ·rw[Za,U,<-Za (f:=v)];~List.Perm.length_eq ((YY (kN nf λx d y n e=>B x (j x d).1 y (j y n).1 e) hb.nd).mpr λx=>⟨λd=>?_,λd=>?_⟩)
   ·#{i,hi,rfl}:=Zz.mp d;&(j i hi).2
   ·!L:=sub x d;!k:=qX L;!l:=zj L;!hm:ixI a x ∈ os:=u.pm.mem_iff.mpr (Zz.mpr ⟨(ixI a x).toNat,ZQ.mpr (by lia),by show(((ixI a x).toNat:Nat):Int)=_;lia⟩)
    !ev:v (ixI a x)=x:=by
     !:=O _ hm;rw[k] at this;&(Option.some.inj this).symm
    &Zz.mpr ⟨ixI a x,ZM.mpr ⟨hm,decide_eq_true (ev.symm ▸ d)⟩,ev⟩
  ·#{r,er}:=u.fx;~{(r.filter λi=>decide (v i ∈ b)).map f,?_};rw[er,Xe,ZF]
   congr 1
   !hv:∀x ∈ fxd K a,v (ixI a x)=x:=λx d=>by
    !k:=qX (kO d).2;show a.getD (ixI a x).toNat 0=x;rw[Zr,k];rfl
   show(((fxd K a).map (ixI a)).filter λi=>decide (v i ∈ b)).map f=(fxd K b).map (ixI b);rw[Xc,ZT]
   !e2:(fxd K a).filter ((λi=>decide (v i ∈ b)) ∘ ixI a)=fxd K b:=by
    rw[YV (q:=λx=>decide (x ∈ b)) λx d=>by show decide (v (ixI a x) ∈ b)=_;rw[hv x d]];unfold fxd;rw[Wo];~YV λx _=>?_;by_cases d:x ∈ b
    ·simp[d,sub x d]
    ·simp[d]
   rw[e2];~Ym λx d=>?_;show ixI b (v (ixI a x))=_;rw[hv x (ZM.mpr ⟨(kO d).1,decide_eq_true (sub x (kO d).2)⟩)]
 #{R',r1,_}:=vt E I (rnm f (R.filter c)) [] [] rfl Q .nil;&JN E I r1
end Sn
namespace Sn
open Ev PySem Lw
abbrev bq(l:List Int)(ls:List (List Int)):Bool:=ls.any λo=>o.all λx=>decide (x ∈ l)
abbrev pk(c:List Int->Bool):List (List Int)->List (List Int)->List (List Int)
 |[],acc=>acc
 |l::ls,acc=>pk c ls (if (!bq l acc && c l)=aN then acc++[l] else acc)
def zk{L:List Int}{a b:List (List Int)}:bq L (a++b)=(bq L a || bq L b):=by unfold bq;rw[X1]
def sX{c:List Int->Bool}{o:List Int}:∀ (ls b:List (List Int)),o ∈ pk c ls b->o ∈ b\/(o ∈ ls/\c o=aN)
 |[],b,h=>.inl h
 |l::ls,b,h=>by
  unfold pk at h;rcases sX ls _ h with h |⟨h,hc⟩
  ·split at h
   ·rename_i d;rw[bAE] at d;rcases ZR.mp h with h |h
    ·&.inl h
    ·rw[ZG.mp h];&.inr ⟨Zj,d.2⟩
   ·&.inl h
  ·&.inr ⟨Zg _ h,hc⟩
def zl{c:List Int->Bool}{L:List Int}:∀ (ls b:List (List Int)),bq L b=aN->bq L (pk c ls b)=aN
 |[],b,h=>h
 |l::ls,b,h=>by
  unfold pk;~zl ls _ ?_;split
  ·rw[zk,h];rfl
  ·&h
def E8{L:List Int}:bq L [L]=aN:=by unfold bq;simp
def E9{c:List Int->Bool}{L:List Int}(f:c L=aN):∀ (ls b:List (List Int)),L ∈ ls->bq L (pk c ls b)=aN
 |l::ls,b,h=>by
  unfold pk;rcases Zn.mp h with rfl |h
  ·~zl ls _ ?_;split
   ·rw[zk,E8,Bool.or_true]
   ·rename_i d;rw[f,WN] at d
    simpa using d
  ·&E9 f ls _ h
def vL{c C:List Int->Bool}:∀ (ls b:List (List Int)),(∀l ∈ ls,c l=C l)->pk c ls b=pk C ls b
 |[],b,_=>rfl
 |l::ls,b,h=>by
  unfold pk;rw[h l Zj];&vL ls _ λx d=>h x (Zg _ d)
def Bc{P:List Int->Bool}{ls:List (List Int)}(mono:∀a ∈ ls,∀b ∈ ls,(∀x ∈ b,x ∈ a)->P a=aN->P b=aN){L:List Int}(f:L ∈ ls):(!bq L (pk (λl=>!P l) ls []))=P L:=by
 cases d:P L with
 |false=>rw[E9 (by rw[d];rfl) ls [] f];rfl
 |true=>
  cases c:bq L (pk (λl=>!P l) ls []) with
  |false=>rfl
  |true=>
   unfold bq at c;#{o,k,hs}:=XN.mp c;rcases sX ls [] k with h |⟨h1,h2⟩
   ·cases h
   ·rw[mono L f o h1 (λx j=>of_decide_eq_true (Yc.mp hs x j)) d] at h2;cases h2
abbrev aX:Nat->List (List Int)
 |0=>[[]]
 |n+1=>aX n++(aX n).map (·++[(n:Int)])
def cZ:∀ (n:Nat) (l:List Int),l ∈ aX n->l.Nodup/\∀x ∈ l,0<=x/\x < n
 |0,l,h=>by rw[ZG.mp h];&{Xf,λx hx=>by cases hx}
 |n+1,l,h=>by
  rcases ZR.mp h with h |h
  ·#{c,b}:=cZ n l h;&{c,λx hx=>by !:=b x hx;lia}
  ·#{k,d,rfl}:=Zz.mp h;#{c,b}:=cZ n k d;~{Ye.mpr ⟨c,by simp,λx hx y f e=>?_⟩,λx hx=>?_}
   ·!:=b x hx;!:=ZG.mp f
    lia
   ·rcases ZR.mp hx with hx |hx
    ·!:=b x hx;lia
    ·!:=ZG.mp hx;lia
def ci:∀n,(aX n).length=2 ^ n
 |0=>rfl
 |n+1=>by unfold aX;rw[Ze,Za,ci n,Nat.pow_succ];lia
def pc:∀n,(aX n).Nodup
 |0=>by simp[aX]
 |n+1=>by
  unfold aX;~Ye.mpr ⟨pc n,kN (pc n) λx _ y _ e=>List.append_cancel_right e,λx h y b e=>?_⟩;#{k,c,rfl}:=Zz.mp b;!:=(cZ n x h).2 n (by rw[e];&ZB _ (ZG.mpr rfl))
  lia
def qY(c:Nat->Bool):∀n,((Zi n).filter c).map (λ(j:Nat)=>(j:Int)) ∈ aX n
 |0=>by simp[aX]
 |n+1=>by
  rw[Xw,Xe,ZF];unfold aX;!I:=qY c n;by_cases h:c n=aN
  ·rw[ZZ,if_pos h];&ZB _ (Zz.mpr ⟨_,I,rfl⟩)
  ·rw[ZZ,if_neg h];rw[List.filter_nil,Z0,Z8];&ZW _ I
def Fa{K:Sky}{l:List Int}(h:l ∈ aX K.G.length):LotK K l:=⟨(cZ _ l h).1,(cZ _ l h).2⟩
abbrev bD(n:Nat)(l:List Int):List Int:=((Zi n).filter λ(j:Nat)=>!decide ((j:Int) ∈ l)).map λ(j:Nat)=>(j:Int)
def pd{n:Nat}{l:List Int}:bD n l ∈ aX n:=qY _ n
abbrev slots(n:Nat):List (List Int):=c9 (aX n) [] (aX n)
def vM{b c:Type}{g:b->c}{d:b}{d':c}{ls:List (List Int)}{v:List b}:c9 ls d' (v.map g)=(c9 ls d v).map g:=by
 unfold c9;rw[Za];split
 ·rfl
 ·rw[ZT];~Ym λi hi=>?_;!:=(Ev.gw (by lia)).1 i hi;show(v.map g).getD i d'=g (v.getD i d);rw[Zr,Zr,Zq,gEG this];rfl
def Q0{c:Type}{d:c}{ls:List (List Int)}{vs:List c}:(c9 ls d vs).Perm vs:=by
 unfold c9;split
 ·&List.Perm.refl _
 ·rename_i h;!f:Pm vs.length (bV (λi j=>cS (eK ls i) (eK ls j)) (V5 vs.length)):=(jB (by lia)).run
  !k:((bV (λi j=>cS (eK ls i) (eK ls j)) (V5 vs.length)).toList.map λi=>vs.getD i d).Perm ((Zi vs.length).map λi=>vs.getD i d):=by
   ~List.Perm.map _ ?_;!:=f.toList
   simpa using this
  ~k.trans ?_
  !e:(Zi vs.length).map (λi=>vs.getD i d)=vs:=by
   ~YS λj=>?_;rw[Zq];by_cases b:j < vs.length
   ·rw[Yn b,gEG b];show aw (vs.getD j d)=_;rw[Zr,gEG b];rfl
   ·rw[Zw (by simpa using b),Zw (by simpa using b)];rfl
  rw[e]
def Q1{n:Nat}{l:List Int}:l ∈ slots n ↔ l ∈ aX n:=Q0.mem_iff
def Fb{n:Nat}:(slots n).Nodup:=Q0.nodup_iff.mpr (pc n)
def kP{n:Nat}:(slots n).length=2 ^ n:=by unfold slots;rw[Q0.length_eq,ci]
def Fc(ls:List (List Int)):dG (ls.map λl=>((l.length:Int),l))=λi j=>cS (eK ls i) (eK ls j):=by
 funext i j
 !e:∀i,(ls.map λl=>((l.length:Int),l)).getD i (0,[])=eK ls i:=λi=>by
  unfold eK;rw[Zr,Zr,Zq];cases ls[i]? <;> rfl
 unfold dG;rw[e,e]
def JP{b:Type}{d:b}(ls:List (List Int))(vs:List b):iy (ls.map λl=>((l.length:Int),l)) d vs=c9 ls d vs:=by
 unfold iy c9;rw[Fc]
end Sn
namespace Sn
open Ev PySem Lw
variable {K:Sky} {os:List Int} {L:List (Int × Int)}
def JQ{b:Type}{P:List b->Prop}(h:P [])(c:∀l x,P l->P (l++[x]))(l:List b):P l:=by
 rw[<-List.reverse_reverse l]
 induction l.reverse with
 |nil=>&h
 |cons a l I=>rw[Yl];&c _ _ I
abbrev dA(K:Sky):List Int:=(Zi K.G.length).map λ(j:Nat)=>(j:Int)
def jX:(dA K).length=K.G.length:=by unfold dA;rw[Za,ZC]
def Fd{g:Int}:g ∈ dA K ↔ 0<=g/\g < K.G.length:=by
 unfold dA;rw[Zz];constructor
 ·rintro⟨j,b,rfl⟩;!:=ZQ.mp b
  lia
 ·intro h;&{g.toNat,ZQ.mpr (by lia),by lia}
abbrev lft(K:Sky)(os:List Int):List Int:=(dA K).filter λg=>!decide (g ∈ os)
structure Nd(K:Sky)(os:List Int)(L:List (Int × Int)):Prop where
 fs:L.map (·.1)=os
 nd:os.Nodup
 bd:∀g ∈ os,0<=g/\g < K.G.length
def Ut{g:Int}:g ∈ lft K os ↔ (0<=g/\g < K.G.length)/\g ∉ os:=by
 unfold lft;rw[ZM,Fd];simp
def vN(K:Sky)(os:List Int)(g:Int):lft K (os++[g])=rst (lft K os) g:=by
 unfold lft rst;rw[Wo];~YV λx _=>?_;simp[Bool.and_comm]
def Nd.snoc{g m:Int}(nd:Nd K os L)(b:g ∈ lft K os):Nd K (os++[g]) (L++[(g,m)]):=by
 #{hb,h}:=Ut.mp b;~{by rw[ZF,nd.fs];rfl,Ye.mpr ⟨nd.nd,by simp,λx hx y c z=>by rw[ZG.mp c] at z;&h (z ▸ hx)⟩,λx hx=>?_};rcases ZR.mp hx with hx |hx
 ·&nd.bd x hx
 ·rw[ZG.mp hx];&hb
def fW{K:Sky}:∀ (os:List Int),os.Nodup->(∀g ∈ os,0<=g/\g < K.G.length)->(lft K os).length+os.length=K.G.length:=by
 ~JQ (λ_ _=>?_) λos g I nd bd=>?_
 ·unfold lft;rw[XB.mpr (λx _=>by simp),jX];rfl
 ·#{f,j,n}:=Ye.mp nd;!h:=I f λx b=>bd x (ZW _ b);!d:g ∈ lft K os:=Ut.mpr ⟨bd g (by simp),λb=>n g b g (by simp) rfl⟩;!c:(lft K os).Nodup:=List.Pairwise.filter _ (YU.mpr (Y5.imp λh z=>h (Int.ofNat.inj z)));!:=sU c d;rw[vN,Ze,Zm]
  lia
abbrev chl(K:Sky)(os:List Int)(L:List (Int × Int))(gs:List Int):List (List Int × List (Int × Int)):=gs.filterMap λg=>if decide (g ∈ os)=aN then aD else (step K (aq K L) g os.length).map λm=>(os++[g],L++[(g,m)])
def pf{g:Int}{gs:List Int}:chl K os L (g::gs)=(if decide (g ∈ os)=aN then [] else match step K (aq K L) g os.length with |none=>[] |some m=>[(os++[g],L++[(g,m)])])++chl K os L gs:=by
 unfold chl;rw[Ys];cases decide (g ∈ os) with
 |true=>rfl
 |false=>cases step K (aq K L) g os.length <;> rfl
abbrev lv(K:Sky)(z:List Int × List (Int × Int)):Bool:=(bb K aN (K.G.length - z.1.length) (aq K z.2) (lft K z.1)).isSome
def Fe{b:Type}{f:b->Option (Int × List Int)}:∀ (l:List b),(o7 (l.filterMap f)).isSome=l.any λa=>(f a).isSome
 |[]=>rfl
 |a::l=>by
  !I:=Fe (f:=f) l;rw[Ys,Yu];cases f a with
  |none=>&I
  |some z=>
   #{y,e}:=o9 (List.cons_ne_nil z (l.filterMap f));dsimp only;rw[e];rfl
def zm{n:Nat}(h:K.G.length - (os.length+1)=n)(b:K.G.length - (n+1)=os.length):∀ (gs:List Int),(chl K os L gs).any (lv K)=(gs.filter λg=>!decide (g ∈ os)).any λg=>(bw K aN n (aq K L) (lft K os) g).isSome
 |[]=>rfl
 |g::gs=>by
  rw[pf,X1,zm h b gs,ZZ];cases decide (g ∈ os) with
  |true=>rfl
  |false=>
   rw[if_neg (by decide),if_pos (by decide),Yu]
   congr 1
   unfold bw;rw[b];cases step K (aq K L) g os.length with
   |none=>rfl
   |some m=>
    show(lv K (os++[g],L++[(g,m)]) || false)=_;unfold lv;dsimp only;rw[Y9,aU,vN,Ze,Zm,h,YT]
def mF:∀ (gs:List Int),(chl K os L gs).length<=(gs.filter λg=>!decide (g ∈ os)).length
 |[]=>Zf _
 |g::gs=>by
  !I:=mF gs;rw[pf,ZZ];cases decide (g ∈ os) with
  |true=>&I
  |false=>
   rw[if_neg (by decide),if_pos (by decide),Ze,Zo];split
   ·show 0+_<=_;lia
   ·show 1+_<=_;lia
def JR(nd:Nd K os L)(h:os.length=K.G.length):chl K os L (dA K)=[]:=by
 !b:=fW os nd.nd nd.bd;!c:(chl K os L (dA K)).length<=(lft K os).length:=mF _;&List.eq_nil_of_length_eq_zero (by lia)
def QQ(nd:Nd K os L):lv K (os,L)=(decide (os.length=K.G.length) || (chl K os L (dA K)).any (lv K)):=by
 !c:=fW os nd.nd nd.bd;by_cases h:os.length=K.G.length
 ·unfold lv;dsimp only;rw[decide_eq_true h,h,ZY];rfl
 ·obtain⟨n,b⟩:∃n,K.G.length - os.length=n+1:=⟨K.G.length - os.length - 1,by lia⟩;rw[decide_eq_false h,zm (n:=n) (by lia) (by lia)];unfold lv;dsimp only;rw[b,jW,Fe];rfl
def JS(nd:Nd K os L):∀z ∈ chl K os L (dA K),z.1.length=os.length+1:=λz h=>by
 #{g,b,e}:=Yy.mp h;split at e
 ·cases e
 ·#{m,hs,rfl}:=ZE.mp e;rw[Ze,Zm]
abbrev sz:Nat->Nat
 |0=>1
 |n+1=>1+(n+1) * sz n
abbrev mu(K:Sky):List (List Int × List (Int × Int))->Nat
 |[]=>0
 |z::T=>sz (K.G.length - z.1.length)+mu K T
def Ff:∀ (A B:List (List Int × List (Int × Int))),mu K (A++B)=mu K A+mu K B
 |[],B=>by show mu K B=0+mu K B;lia
 |z::A,B=>by
  !:=Ff A B;show sz _+mu K (A++B)=sz _+mu K A+mu K B
  lia
def zn{n:Nat}:∀ (T:List (List Int × List (Int × Int))),(∀z ∈ T,K.G.length - z.1.length=n)->mu K T=T.length * sz n
 |[],_=>(WU _).symm
 |z::T,h=>by
  !:=zn T λy b=>h y (Zg _ b);rw[mu,h z Zj,this,Zo,XU];lia
def QR(nd:Nd K os L):mu K (chl K os L (dA K)) < sz (K.G.length - os.length):=by
 !d:=fW os nd.nd nd.bd;by_cases h:os.length=K.G.length
 ·rw[JR nd h,h,ZY];&Nat.zero_lt_one
 ·obtain⟨n,b⟩:∃n,K.G.length - os.length=n+1:=⟨K.G.length - os.length - 1,by lia⟩;rw[zn (n:=n) _ λz c=>by !:=JS nd z c;lia,b,sz];!f:(chl K os L (dA K)).length<=(lft K os).length:=mF _;!:(chl K os L (dA K)).length * sz n<=(n+1) * sz n:=YZ _ (by lia)
  lia
def Lv:∀ (bs:List Int) (a:Option (Int × Int)) (os:List Int) (L R:List (Int × Int)),Nd K os L->(os++bs).Nodup->(∀g ∈ bs,0<=g/\g < K.G.length)->rn K bs a L = .inr R->Nd K (os++bs) R
 |[],_,os,L,R,nd,_,_,e=>by cases e;rw[Z8];&nd
 |g::bs,a,os,L,R,nd,n2,bd,e=>by
  rw[rn] at e;split at e
  ·cases e
  ·split at e
   ·cases e
   ·!b:g ∈ lft K os:=Ut.mpr ⟨bd g Zj,λz=>(Ye.mp n2).2.2 g z g Zj rfl⟩;!:=Lv bs _ (os++[g]) _ R (nd.snoc b) (by rw[Yk];&n2) (λx h=>bd x (Zg _ h)) e
    rwa [Yk] at this
def QS(b:SkOk K){R:List (Int × Int)}(h:rn K K.F K.ah [] = .inr R):Nd K K.F R:=Lv K.F K.ah [] [] R ⟨rfl,Xf,λ_ h=>(by cases h)⟩ b.nd b.bd h
def JT(b:SkOk K):(dR K aN).isSome=match rn K K.F K.ah [] with |.inl _=>aS |.inr R=>lv K (K.F,R):=by
 !h:=fW K.F b.nd b.bd
 !e:bU K=lft K K.F:=by
  unfold bU lft dA;rw[Xc];rfl
 unfold dR lv;cases rn K K.F K.ah [] with
 |inl j=>rfl
 |inr R=>
  dsimp only;rw[YT,e,show(lft K K.F).length=K.G.length - K.F.length by lia]
end Sn
namespace Ev
open PySem L2
def vO{c:XT}{b:XS}{Q:Fl->Rho->Sto->Prop}(I:Nat->Rho->Sto->Prop)(step:∀n j S,I n j S->Ok (c j S) λt v=>if t=aN then OkS (b j v) λu f l=>(match u with |.nx=>∃m,m < n/\I m f l |.ct=>∃m,m < n/\I m f l |.bk=>Q .nx f l |.rt d=>Q (.rt d) f l) else Q .nx j v) :
  ∀ (k n:Nat) (j:Rho) (S:Sto),n < k->I n j S->OkS (bH c b k j S) Q
 |0,n,j,S,h,_=>absurd h (XY _)
 |k+1,n,j,S,h,i=>by
  #{t,v,e,q}:=step n j S i;cases t with
  |false=>rw[if_neg Zh] at q;&{.nx,j,v,by simp only[bH,e],q}
  |true=>
   rw[if_pos rfl] at q;#{u,f,l,E,q}:=q;!go:(∃m,m < n/\I m f l)->OkS (bH c b k f l) Q:=λ⟨m,J,C⟩=>vO I step k m f l (by lia) C;cases u with
   |nx=>
    #{u,p,z,y,B}:=go q;&{u,p,z,by simp only[bH,e,E];&y,B}
   |ct=>
    #{u,p,z,y,B}:=go q;&{u,p,z,by simp only[bH,e,E];&y,B}
   |bk=>&{.nx,f,l,by simp only[bH,e,E],q}
   |rt d=>&{.rt d,f,l,by simp only[bH,e,E],q}
end Ev
namespace Lw
open PySem Ev Sn L2
variable {p:Nat} {S S':Sto} {k:Nat} {Q:D->Sto->Prop} {K:Sky}
def Be{c:Int}{xs:List Int}:fY c aS (xs.map D.int) S=aw (.int (pM c xs),S):=by unfold fY;rw[dr]
def QT{os:List Int}{L:List (Int × Int)}(nd:Nd K os L):InG K L:=λz h=>nd.bd z.1 (nd.fs ▸ Zz.mpr ⟨z,h,rfl⟩)
def Fg{os:List Int}{L:List (Int × Int)}{n:Nat}(nd:Nd K os L)(lo:os.length<=7)(h:S[n]?=aw (.lst (L.map aj)))(q:∀x S',Sm S S'->Q (.int x) S'):Ok (evC ab (k+1) 56 [skE K,.ref n,dw aN] S) Q:=by
 ~av (d:=gP) (ρ:=[aw (skE K),aw (.ref n),aw (dw aN)]) rfl rfl ?_;dsimp only[gP,lJ];!l:L.length<=1000:=by !:=congrArg Zl nd.fs;rw[Za] at this;lia
 k_is;~aa (show ao .eq (dw aN) (.str "last") S=aw (.bl aN,S) from rfl) ?_;k_is;~{by rw[aB h];rfl,?_};~a9 L aj (λz=>[.int z.2]) l (λ_ _=>Zf _) (c8 h) (λi z S' j sm=>⟨_,show aA (.tup [.name 3,.name 4]) (.tup [.int z.1,.int z.2]) _=_ from fT (by simp) (by simp),?_⟩) λb f=>?_
 ·k_is;&{rfl,Sm.refl _}
 ·rw[bp];!:=Be (c:=0) (xs:=L.map (·.2)) (S:=b);rw[ZT] at this;~aa this ?_;k_is;&q _ b f
def Um{n:Nat}{hi:Int}{T:Tg}{b:XS}{c:Rho}{Q:Fl->Rho->Sto->Prop}(B:n<=100000)(I:Nat->Rho->Sto->Prop)
  (step:∀ (i:Nat) c S,i < n->I i c S->∃j,aA T (.int (hi - i)) c=aw j/\OkS (b j S) λy f l=>match y with |.nx=>I (i+1) f l |.ct=>I (i+1) f l |.bk=>Q .nx f l |.rt d=>Q (.rt d) f l)
  (q:∀c S',I n c S'->Q .nx c S') (v:I 0 c S):OkS (eJ (nxD hi n) T b LF 0 c S) Q:=by
 ~ig n I (by unfold LF;lia) (λi c S' h u=>?_) (λc S' u=>⟨?_,q c S' u⟩) v
 ·#{j,E,z}:=step i c S' h u;&{_,j,by show aw (if i < n then aw (D.int (hi - i)) else aD)=_;rw[if_pos h],E,z}
 ·show aw (if n < n then aw (D.int (hi - n)) else aD)=_;rw[if_neg (ZI _)]
abbrev ndE(z:List Int × List (Int × Int) × Nat):D:=.tup [.tup (z.1.map D.int),.ref z.2.2]
abbrev prs(T:List (List Int × List (Int × Int) × Nat)):List (List Int × List (Int × Int)):=T.map λz=>(z.1,z.2.1)
structure Stk(K:Sky)(q:Nat)(S:Sto)(T:List (List Int × List (Int × Int) × Nat)):Prop where
 at_:S[q]?=aw (.lst (T.reverse.map ndE))
 ok:∀z ∈ T,z.2.2 ≠ q/\S[z.2.2]?=aw (.lst (z.2.1.map aj))/\Nd K z.1 z.2.1
def JU{n:Nat}{b:List D}{d:D}(h:S[n]?=aw (.lst (b++[d]))):wX (.ref n) [] S=aw (d,S.set n (.lst b)):=by
 simp only[wX,chg,h];rw[Ze,Zm,Nat.add_sub_cancel,Zp (Zf _),ZY];show aw (d,S.set n (.lst (b++[d]).dropLast))=_;rw[List.dropLast_concat]
abbrev JV:List CS:=match bA with
 |[_,_,.while_ _ b,_]=>b.drop 3
 |_=>[]
def JW{i:Nat}(h:i < K.G.length):(dA K).drop (K.G.length - (i+1))=((K.G.length:Int) - 1 - i)::(dA K).drop (K.G.length - i):=by
 !b:K.G.length - (i+1) < (dA K).length:=by rw[jX];lia
 rw[Y6 b,show K.G.length - (i+1)+1=K.G.length - i by lia]
 congr 1
 rw[show(dA K)[K.G.length - (i+1)]=((K.G.length - (i+1):Nat):Int) by simp[dA]]
 lia
def Stk.keep{q:Nat}{T:List (List Int × List (Int × Int) × Nat)}(h:Stk K q S T)(s:Sm S S'):Stk K q S' T:=⟨s _ _ h.at_,λz d=>let ⟨a,b,c⟩:=h.ok z d;⟨a,s _ _ b,c⟩⟩
def Stk.put{q:Nat}{T:List (List Int × List (Int × Int) × Nat)}{d:List D}(h:∀z ∈ T,z.2.2 ≠ q/\S[z.2.2]?=aw (.lst (z.2.1.map aj))/\Nd K z.1 z.2.1)(j:q < S.length)(e:d=T.reverse.map ndE):Stk K q (S.set q (.lst d)) T:=by
 subst e;&{e8 j,λz f=>let ⟨a,b,c⟩:=h z f;⟨a,by rw[Zx λe=>a e.symm];&b,c⟩}
def Kp.set{q:Nat}{o:Ob}(h:Ev.Kp q S S'):Ev.Kp q S (S'.set q o):=λi u n e=>by rw[Zx (λz=>n z.symm)];&h i u n e
def QU{i:Int}(h:-1<=i/\i < 9):lim i=aN:=by unfold lim;simp;lia
def Fh(sk:SkOk K){q n:Nat}{os:List Int}{L:List (Int × Int)}{T:List (List Int × List (Int × Int) × Nat)}{ad J Y:D}{I u9 U:Option D}{Qf:Fl->Rho->Sto->Prop}(st:Stk K q S T)(nd:Nd K os L)(hL:S[n]?=aw (.lst (L.map aj)))(hn:n ≠ q)(hT:T.length<=20000)
  (qf:∀C S' u v,Ev.Kp q S S'->Stk K q S' (C++T)->prs C=chl K os L (dA K)->Qf .nx [aw (skE K),aw ad,aw J,aw Y,aw (.ref q),aw (.tup (os.map D.int)),aw (.ref n),aw (ahE (aq K L)),I,u,v] S') :
  rW (wSs (evC ab (k+3)) (cu ab) 53 JV) [aw (skE K),aw ad,aw J,aw Y,aw (.ref q),aw (.tup (os.map D.int)),aw (.ref n),aw (ahE (aq K L)),I,u9,U] S Qf:=by
 dsimp only[JV,bA,Yr];!V:=sk.vd;!g7:=sk.g7;!lo:=fW os nd.nd nd.bd;k_is;~aa sk2 (aa bx ?_);k_is;~{QU (by lia),?_};rw[show((K.G.length:Int) - 1+1).toNat=K.G.length by lia];~Um (by lia) (λi X S'=>∃C u v,X=[aw (skE K),aw ad,aw J,aw Y,aw (.ref q),aw (.tup (os.map D.int)),aw (.ref n),aw (ahE (aq K L)),I,u,v]/\Ev.Kp q S S'/\Stk K q S' (C++T)/\prs C=chl K os L ((dA K).drop (K.G.length - i))) (λi X l hi iv=>?_) (λX l iv=>?_) ⟨[],u9,U,rfl,Ev.Kp.refl _ _,st,by rw[Nat.sub_zero,Xl (Wt jX)];rfl⟩
 ·#{C,u,v,rfl,j,b,E}:=iv;rw[JW hi,pf,<-E];!g0:0<=(K.G.length:Int) - 1 - i:=by lia
  !g1:(K.G.length:Int) - 1 - i < K.G.length:=by lia
  !Z:=j _ _ hn hL;generalize (K.G.length:Int) - 1 - i=g at *;~{_,rfl,?_};k_is;~aa (show ao .notin (.int g) (.tup (os.map D.int)) l=aw (.bl (aN != decide (g ∈ os)),l) from eC aN os g l) ?_;k_is;cases c:decide (g ∈ os) with
  |true=>
   rw[show(aN != aN)=aS from rfl];k_is;&{C,_,_,rfl,j,b,rfl}
  |false=>
   rw[show(aN != aS)=aN from rfl,if_neg (by decide)];k_is;~aa bx ?_;~{rfl,vg (k:=k+1) V (jT V (QT nd)) g0 g1 λd y=>?_};k_is;cases hs:Sn.step K (aq K L) g os.length with
   |none=>
    ~aa (show ao .isnot (jS aD) .non d=aw (.bl aS,d) from rfl) ?_;k_is;&{C,_,_,rfl,j.trans y.kp,b.keep y,rfl}
   |some m=>
    ~aa (show ao .isnot (jS (aw m)) .non d=aw (.bl aN,d) from rfl) ?_;rw[show jS (aw m) = .int m from rfl];k_is;!h:=b.keep y;!hL2:=y _ _ Z;~{cV h.at_,?_};~{by rw[Za];show os.length+1<=1000;lia,?_}
    !cl:C.length<=7:=by
     !e1:=congrArg Zl E;!e2:=mF (K:=K) (os:=os) (L:=L) ((dA K).drop (K.G.length - i));!e3:=YB (λg=>!decide (g ∈ os)) ((dA K).drop (K.G.length - i));rw[YI,jX] at e3;rw[prs,Za] at e1
     lia
    !B:=Sm.app d [Ob.lst [D.tup [D.int g,D.int m]]];~aa (mB (B _ _ hL2) aM (by !e1:=congrArg Zl nd.fs;rw[Za] at e1 ⊢;show L.length+1<=100000;lia)) ?_;!lq:q < d.length:=(Zb.mp h.at_).1;!lN:(d++[Ob.lst [D.tup [D.int g,D.int m]]]).length ≠ q:=by rw[Ze];lia
    generalize d++[Ob.lst [D.tup [D.int g,D.int m]]]=S3 at *;!s4:=Sm.app S3 [Ob.lst (L.map aj++[D.tup [D.int g,D.int m]])];!a4:(S3++[Ob.lst (L.map aj++[D.tup [D.int g,D.int m]])])[S3.length]?=aw (.lst ((L++[(g,m)]).map aj)):=by rw[aM,ZF];rfl
    !f:=(h.keep B).keep s4;!O:q < (S3++[Ob.lst (L.map aj++[D.tup [D.int g,D.int m]])]).length:=(Zb.mp f.at_).1;rw[jf f.at_ (by rw[Za,Yo,Ze];lia)];generalize S3++[Ob.lst (L.map aj++[D.tup [D.int g,D.int m]])]=S4 at *;generalize S3.length=N4 at *;k_is;!nz:=nd.snoc (m:=m) (Ut.mpr ⟨⟨g0,g1⟩,λz=>by rw[decide_eq_true z] at c;cases c⟩);~{(os++[g],L++[(g,m)],N4)::C,_,_,rfl,Kp.set (((j.trans y.kp).trans B.kp).trans s4.kp),Stk.put (λz hz=>?_) O ?_,rfl}
    ·rcases Zn.mp hz with rfl |hz
     ·&{lN,a4,nz}
     ·&f.ok z hz
    ·rw[XR,Yl,ZF];show _++[D.tup [D.tup (os.map D.int++[D.int g]),D.ref N4]]=_++[D.tup [D.tup ((os++[g]).map D.int),D.ref N4]];rw[ZF];rfl
 ·#{C,u,v,rfl,j,b,E}:=iv;rw[ZY] at E;&qf C l u v j b E
def Fi{d:List D}{e:D}:ixS (.tup (d++[e])) (.int (-1)) S=aw (e,S):=by
 !:atI (d++[e]) (-1:Int)=aw e:=by
  unfold atI ixN;rw[if_neg (by decide),if_pos (by rw[Ze,Zm];lia)];show(d++[e])[((-1:Int)+((d++[e]).length:Int)).toNat]?=aw e;rw[Ze,Zm,show((-1:Int)+((d.length+1:Nat):Int)).toNat=d.length by lia,Zp (Zf _),ZY];rfl
 simp only[ixS,ay,ZL,this]
def QV:∀n,1<=sz n
 |0=>Zf _
 |n+1=>by rw[sz];lia
def Uo:∀n,n < 8->sz n<=13700:=by decide
def Fj:∀ (T:List (List Int × List (Int × Int))),T.length<=mu K T
 |[]=>Zf _
 |z::T=>by
  !:=Fj T;!:=QV (K.G.length - z.1.length);rw[mu,Zo];lia
abbrev bIf:List CS:=match bA with
 |[_,_,.while_ _ b,_]=>b.drop 2
 |_=>[]
def JX(E:SkOk K){q n:Nat}{os:List Int}{L:List (Int × Int)}{T:List (List Int × List (Int × Int) × Nat)}{z:D}{f:Option (Int × List Int)}{U J l:Option D}{Qf:Fl->Rho->Sto->Prop}(st:Stk K q S T)(nd:Nd K os L)(I:S[n]?=aw (.lst (L.map aj)))(O:n ≠ q)(Z:T.length<=20000)
  (X:∀h C S' U u v,h.isSome=(f.isSome || decide (os.length=K.G.length))->Ev.Kp q S S'->Stk K q S' (C++T)->prs C=chl K os L (dA K)->Qf .nx [aw (skE K),aw (dw aN),aw z,aw (bE h),aw (.ref q),aw (.tup (os.map D.int)),aw (.ref n),aw (ahE (aq K L)),U,u,v] S') :
  rW (wSs (evC ab (k+3)) (cu ab) 54 bIf) [aw (skE K),aw (dw aN),aw z,aw (bE f),aw (.ref q),aw (.tup (os.map D.int)),aw (.ref n),aw (ahE (aq K L)),U,J,l] S Qf:=by
 !g7:=E.g7;!lo:=fW os nd.nd nd.bd;!b:∀h d U,Sm S d->h.isSome=(f.isSome || decide (os.length=K.G.length))->rW (wSs (evC ab (k+3)) (cu ab) 53 JV) [aw (skE K),aw (dw aN),aw z,aw (bE h),aw (.ref q),aw (.tup (os.map D.int)),aw (.ref n),aw (ahE (aq K L)),U,J,l] d Qf:=λh d U j hf=>Fh E (st.keep j) nd (j _ _ I) O Z λC S' u v Y B e=>X h C S' U u v hf (j.kp.trans Y) B e;dsimp only[JV,bA,Yr] at b;dsimp only[bIf,bA,Yr];k_is;~aa bx (aa sk2 (aa bx ?_));k_is;by_cases c:os.length=K.G.length
 ·rw[decide_eq_true c] at b;rw[decide_eq_true (show(os.length:Int)=K.G.length by lia)];k_is;~{rfl,Fg (k:=k+2) nd (by lia) I λx d j=>?_};k_is;cases f with
  |none=>
   ~aa (show ao .is (bE aD) .non d=aw (.bl aN,d) from rfl) ?_;k_is;&b (aw (x,os)) d _ j rfl
  |some y=>
   rw[show bE (aw y) = .tup [.int y.1,.tup (y.2.map D.int)] from rfl];~aa (show ao .is (.tup [.int y.1,.tup (y.2.map D.int)]) .non d=aw (.bl aS,d) from rfl) ?_;k_is;~aa (show ixS (.tup [.int y.1,.tup (y.2.map D.int)]) (.int 0) d=aw (.int y.1,d) from rfl) ?_;k_is;cases decide (x < y.1) with
   |true=>
    k_is;&b (aw (x,os)) d _ j rfl
   |false=>
    k_is;&b (aw y) d _ j rfl
 ·rw[decide_eq_false c] at b;rw[decide_eq_false (show ¬ (os.length:Int)=K.G.length by lia)];k_is;&b f S _ (Sm.refl S) (Y9 _).symm
abbrev WI(K:Sky)(q:Nat)(r:Bool)(d:D)(S:Sto)(n:Nat)(b:Rho)(S':Sto):Prop:=∃T f l h j U c u,b=[aw (skE K),aw (dw aN),aw d,aw (bE f),aw (.ref q),l,h,j,U,c,u]/\Stk K q S' T/\Ev.Kp q S S'/\(f.isSome || (prs T).any (lv K))=r/\n=mu K (prs T)/\n<=13700
def xR(sk:SkOk K){q:Nat}{T:List (List Int × List (Int × Int) × Nat)}{E:D}{r:Bool}(st:Stk K q S T)(O:(prs T).any (lv K)=r)(hm:mu K (prs T)<=13700)(qf:∀f S',f.isSome=r->Ev.Kp q S S'->Q (bE f) S') :
  rW (wSs (evC ab (k+3)) (cu ab) 58 (bA.drop 2)) [aw (skE K),aw (dw aN),aw E,aw (bE aD),aw (.ref q),aD,aD,aD,aD,aD,aD] S (out Q):=by
 dsimp only[bA,Yr];!V:=sk.vd;!g7:=sk.g7;k_is;~vO (WI K q r E S) (λn ρ X iv=>?_) LF (mu K (prs T)) _ S ?_ ⟨T,aD,_,_,_,_,_,_,rfl,st,Ev.Kp.refl _ _,O,rfl,hm⟩
 ·#{T,f,u5,u6,u7,u8,u9,U,rfl,st,k1,O,rfl,hm}:=iv;~(oV _).t _ _ _ ?_;k_is;!lq:q < X.length:=(Zb.mp st.at_).1;!s2:=Sm.app X [Ob.lst []];~aa (DU (s2 _ _ st.at_) aM (by lia)) ?_;!B:=st.keep s2;!k2:=k1.trans s2.kp;generalize X++[Ob.lst []]=S2 at *;k_is;cases T with
  |nil=>
   rw[show(!(([]:List (List Int × List (Int × Int) × Nat)).reverse.map ndE).isEmpty)=aS from rfl,if_neg (by decide)];k_is;&qf f S2 (by rw[<-O];&(Y9 _).symm) k2
  |cons z T=>
   #{os,L,n}:=z;!j:=B.at_;rw[Yl,ZF] at j;rw[Yl,ZF,show(!((T.reverse.map ndE)++[(os,L,n)].map ndE).isEmpty)=aN by simp,if_pos rfl];#{Y,n2,nd}:=B.ok _ Zj;dsimp only at Y n2 nd;!lo:=fW os nd.nd nd.bd;k_is;~{cV j,?_};~aa (JU j) ?_;!lq2:q < S2.length:=(Zb.mp j).1;!st3:Stk K q (S2.set q (.lst (T.reverse.map ndE))) T:=Stk.put (λz hz=>B.ok z (Zg _ hz)) lq2 rfl;!k3:Ev.Kp q S (S2.set q (.lst (T.reverse.map ndE))):=Kp.set k2;!n3:(S2.set q (.lst (T.reverse.map ndE)))[n]?=aw (.lst (L.map aj)):=by rw[Zx λe=>Y e.symm];&n2
   generalize S2.set q (.lst (T.reverse.map ndE))=S3 at *;rw[show ndE (os,L,n) = .tup [.tup (os.map D.int),.ref n] from rfl];k_is
   !tl:T.length<=20000:=by
    !h1:=Fj (K:=K) (prs ((os,L,n)::T));!h2:(prs ((os,L,n)::T)).length=T.length+1:=Za ..
    lia
   !I:rW (wSs (evC ab (k+3)) (cu ab) 54 bIf) [aw (skE K),aw (dw aN),aw E,aw (bE f),aw (.ref q),aw (.tup (os.map D.int)),aw (.ref n),aw (ahE (aq K L)),u8,u9,U] S3 λfl l S2=>match fl with
     |.nx=>∃m,m < mu K (prs ((os,L,n)::T))/\WI K q r E S m l S2
     |.ct=>∃m,m < mu K (prs ((os,L,n)::T))/\WI K q r E S m l S2
     |.bk=>rW (wSs (evC ab (k+3)) (cu ab) 57 [CS.ret (CE.var 3)]) l S2 (out Q)
     |.rt d=>Q d S2:=JX sk st3 nd n3 Y tl λf' C S' u8 u v hf k' st' ec=>by
    !e1:prs (C++T)=chl K os L (dA K)++prs T:=by rw[<-ec];&ZF
    !e2:=QR nd;!e3:mu K (prs ((os,L,n)::T))=sz (K.G.length - os.length)+mu K (prs T):=rfl;!e4:mu K (prs (C++T)) < mu K (prs ((os,L,n)::T)):=by rw[e1,Ff,e3];lia
    ~{_,e4,C++T,_,_,_,_,_,_,_,rfl,st',k3.trans k',?_,rfl,by lia};rw[e1,<-O,hf,X1];show _=(f.isSome || (lv K (os,L) || (prs T).any (lv K)));rw[QQ nd,WO,WO]
   dsimp only[bIf,bA,Yr] at I;rcases X4 L with eL |⟨L',y,eL⟩
   ·!J:os=[]:=by !:=nd.fs;rw[eL] at this;&this.symm
    rw[J,eL] at I;rw[J];&aa sk1 I
   ·rw[X5] at eL;!J:os=L'.map (·.1)++[y.1]:=by !:=nd.fs;rw[eL,ZF] at this;&this.symm
    !Z:=nd.bd y.1 (by rw[J];simp);#{a,b,c,d,e,f',h,eg,e0,_}:=gl7 V Z.1 Z.2;!em:os.map D.int=(L'.map (·.1)).map D.int++[.int y.1]:=by rw[J,ZF];rfl
    rw[eL,aU,e0] at I;rw[eL,ZF] at n3;rw[show(os.map D.int).isEmpty=aS by rw[em];simp];~aa sk2 (aa (show ixS (.tup (os.map D.int)) (.int (-1)) S3=aw (.int y.1,S3) by rw[em];&Fi) (aa (dQ Z.1 eg) (aa (show ixS (ag [a,b,c,d,e,f',h]) (.int 0) S3=aw (.int a,S3) from rfl) (aa (mw n3) (aa (show ixS (aj y) (.int 1) S3=aw (.int y.2,S3) from rfl) ?_)))));&I
 ·!:13700 < LF:=by decide
  lia
def Fk(h:SkOk K)(q:∀f S',f.isSome=(dR K aN).isSome->Sm S S'->Q (bE f) S'):Ok (evC ab (k+4) 57 [skE K,dw aN] S) Q:=by
 ~av (d:=jd) (ρ:=[aw (skE K),aw (dw aN),aD,aD,aD,aD,aD,aD,aD,aD,aD]) rfl rfl ?_;!w:=λS=>@xR S k Q K h;dsimp only[bA,Yr] at w;dsimp only[jd,bA];!V:=h.vd;!g7:=h.g7;!L:=Dw.cg K.G.length K.F h.nd h.bd;k_is;~aa sk3 ?_;~{rfl,vh (k:=k) V h.bd (by lia) λd c B b=>?_};k_is;rw[JT h] at q;unfold Res at b;cases l:rn K K.F K.ah [] with
 |inl j=>
  rw[l] at b q;dsimp only at b;subst b;~aa (show ixS (.tup [.str "stuck", .int (j:Int)]) (.int 0) c=aw (.str "stuck", c) from rfl) ?_;~aa (show ao .eq (.str "stuck") (.str "lands") c=aw (.bl aS,c) from rfl) ?_;k_is;&w _ (T:=[]) ⟨aM,λz v=>by cases v⟩ rfl (Z2 _) λf S' y u=>q f S' y (B.trans (Kp.new u))
 |inr R=>
  rw[l] at b q;dsimp only at b q;#{n,rfl,C,hb}:=b;~aa (show ixS (.tup [.str "lands", .ref n]) (.int 0) c=aw (.str "lands", c) from rfl) ?_;~aa (show ao .eq (.str "lands") (.str "lands") c=aw (.bl aN,c) from rfl) ?_;k_is;~aa sk3 (aa (show ixS (.tup [.str "lands", .ref n]) (.int 1) c=aw (.ref n,c) from rfl) ?_);!E:n < c.length:=(Zb.mp C).1;~w _ (T:=[(K.F,R,n)]) ⟨aM,λz v=>?_⟩ (Y9 _) (Uo _ (by lia)) λf S' y u=>q f S' y (B.trans (Kp.new u));rw[ZG.mp v];&{by dsimp only;lia,Sm.app _ _ _ _ C,QS h l}
end Lw
namespace Lw
open PySem Ev Sn L2
variable {p:Nat} {S S':Sto} {k:Nat} {Q:D->Sto->Prop} {K:Sky} {lot:List Int}
def Fm{x:Int}(h:x ∈ lot):xa (ag lot) [.int x] S=aw (.int (ixI lot x),S):=by
 unfold ag xa;dsimp only;rw[dr];dsimp only;rw[if_pos h];rfl
def zo(b:SkOk K):K.F.length<=K.G.length:=by
 !:=zi K.F ((Zi K.G.length).map Int.ofNat) b.nd λx h=>by
  !:=b.bd x h;&Zz.mpr ⟨x.toNat,ZQ.mpr (by lia),by show((x.toNat:Nat):Int)=x;lia⟩
 rwa [Za,ZC] at this
def Bf(j:SkOk K)(h:LotK K lot)(q:∀S',Sm S S'->Q (skE (nar K lot)) S'):Ok (evC ab (k+1) 40 [skE K,ag lot] S) Q:=by
 ~av (d:=eW) (ρ:=[aw (skE K),aw (ag lot),aD,aD,aD,aD,aD]) rfl rfl ?_;dsimp only[eW,iG];!L:=h.len;!g7:=j.g7;k_is;show wTp _ (.tup [meE K,ahE K.ah,.tup (K.G.map ag),.tup (K.F.map D.int)]) _ _;k_is;show uU (.tup (lot.map D.int)) S _;k_is;~a9 lot D.int (λx=>[ag (gl K x)]) (by lia) (λa _=>by simp) bN (λi x f l n=>⟨_,rfl,?_⟩) λf n=>?_
 ·!v:=Zd l;k_is;&aa (dQ (h.bd x v).1 (sV h v)) ⟨rfl,Sm.refl _⟩
 ·rw[bp];~aa (show cO aS _ f=aw (.tup _,f) from rfl) ?_;k_is;~a9 K.F D.int (λx=>if decide (x ∈ lot)=aN then [.int (ixI lot x)] else []) ?_ (λa _=>by split <;> simp) bN (λi x b l u=>⟨_,rfl,?_⟩) λb u=>?_
  ·&ZJ (zo j) (by lia)
  ·k_is;~aa (show ao .isin (.int x) (ag lot) b=aw (.bl (aS != decide (x ∈ lot)),b) from eC aS lot x b) ?_;rw[Wc];k_is;by_cases c:x ∈ lot
   ·rw[decide_eq_true c];k_is;~{rfl,?_};k_is;&aa (Fm c) ⟨by rw[if_pos rfl],Sm.refl _⟩
   ·rw[decide_eq_false c];&{by rw[if_neg Zh],Sm.refl _}
  ·rw[bj];~aa (show cO aS _ b=aw (.tup _,b) from rfl) ?_;k_is;!:=q b (n.trans u);unfold skE nar at this;rw[ZT,ZT] at this;&this
def Fn(c:SkOk K)(q:∀S',Sm S S'->Q (.bl (dR K aN).isSome) S'):Ok (evC ab (k+21) 41 [skE K] S) Q:=by
 ~av (d:=sF) (ρ:=[aw (skE K)]) rfl rfl ?_;dsimp only[sF,yR];k_is;~{rfl,EU (k:=k) c (l:=true) λb f=>?_};!:=q b f;cases h:dR K aN with
 |none=>rw[h] at this;&aa (show ao .isnot .non .non b=aw (.bl aS,b) from rfl) this
 |some z=>rw[h] at this;&aa (show ao .isnot (.tup _) .non b=aw (.bl aN,b) from rfl) this
def xS(j:SkOk K)(h:LotK K lot)(q:∀S',Sm S S'->Q (skE (nar K lot)) S'):Ok (evC ab (k+1) 58 [skE K,ag lot] S) Q:=by
 ~av (d:=dN) (ρ:=[aw (skE K),aw (ag lot),aD,aD,aD,aD,aD]) rfl rfl ?_;dsimp only[dN,gD];!L:=h.len;!g7:=j.g7;k_is;show wTp _ (.tup [meE K,ahE K.ah,.tup (K.G.map ag),.tup (K.F.map D.int)]) _ _;k_is;~a9 K.F D.int (λx=>if decide (x ∈ lot)=aN then [.int (ixI lot x)] else []) ?_ (λa _=>by split <;> simp) bN (λi x b l u=>⟨_,rfl,?_⟩) λb u=>?_
 ·&ZJ (zo j) (by lia)
 ·k_is;~aa (show ao .isin (.int x) (ag lot) b=aw (.bl (aS != decide (x ∈ lot)),b) from eC aS lot x b) ?_;rw[Wc];k_is;by_cases c:x ∈ lot
  ·rw[decide_eq_true c];k_is;~{rfl,?_};k_is;&aa (Fm c) ⟨by rw[if_pos rfl],Sm.refl _⟩
  ·rw[decide_eq_false c];&{by rw[if_neg Zh],Sm.refl _}
 ·rw[bj];~aa (show cO aS _ b=aw (.tup _,b) from rfl) ?_;k_is;show uU (.tup (lot.map D.int)) b _;k_is;~a9 lot D.int (λx=>[ag (gl K x)]) (by lia) (λa _=>by simp) bN (λi x f l n=>⟨_,rfl,?_⟩) λf n=>?_
  ·!v:=Zd l;k_is;&aa (dQ (h.bd x v).1 (sV h v)) ⟨rfl,Sm.refl _⟩
  ·rw[bp];~aa (show cO aS _ f=aw (.tup _,f) from rfl) ?_;k_is;!:=q f (u.trans n);unfold skE nar at this;rw[ZT,ZT] at this;&this
def Bg(c:SkOk K)(h:LotK K lot)(q:∀S',Sm S S'->Q (.bl (lnd K lot)) S'):Ok (evC ab (k+5) 59 [skE K,ag lot] S) Q:=by
 ~av (d:=gQ) (ρ:=[aw (skE K),aw (ag lot)]) rfl rfl ?_;dsimp only[gQ,lK];k_is;~{rfl,xS (k:=k+3) c h λn s0=>?_};k_is;~{rfl,Fk (k:=k) (sW c h) λf b l j=>?_};!:=q b (s0.trans j);unfold lnd at this;rw[<-l] at this;cases f with
 |none=>&aa (show ao .isnot .non .non b=aw (.bl aS,b) from rfl) this
 |some z=>&aa (show ao .isnot (.tup _) .non b=aw (.bl aN,b) from rfl) this
def JY{b:Type}(f:b->Bool)(l:List b):pK aS (l.map λa=>D.bl (f a)) S=aw (.bl (l.any f),S):=by
 unfold pK;rw[if_pos ⟨rfl,by rw[Xg];&Yc.mpr λ_ _=>rfl⟩,Wr];rfl
abbrev Fo(l:Bool):Nat:=if l=aN then 44 else 62
def Fp(l:Bool){ls:List (List Int)}{n:Nat}(h:S[n]?=aw (.lst (ls.map ag)))(z:ls.length<=100)(u:∀o ∈ ls,o.length<=100)(q:∀S',Sm S S'->Q (.bl (bq lot ls)) S'):Ok (evC ab (k+1) (Fo l) [ag lot,.ref n] S) Q:=by
 !go:OkS (eM (evC ab k) (cu ab) 60 gC [aw (ag lot),aw (.ref n)] S) (out Q):=by
  dsimp only[gC];k_is;~{by rw[aB h];rfl,?_};~a9 ls ag (λo=>[.bl (o.all λx=>decide (x ∈ lot))]) (by lia) (λa _=>by simp) (c8 h) (λi o c v f=>⟨_,rfl,?_⟩) λc f=>?_
  ·k_is;show uU (.tup (o.map D.int)) c _;k_is;!:=u o (Zd v);~a9 o D.int (λx=>[.bl (decide (x ∈ lot))]) (by lia) (λa _=>by simp) bN (λi x b y j=>⟨_,rfl,?_⟩) λb j=>?_
   ·k_is;~aa (show ao .isin (.int x) (ag lot) b=aw (.bl (aS != decide (x ∈ lot)),b) from eC aS lot x b) ?_;rw[Wc];&{rfl,Sm.refl _}
   ·rw[bp];&aa (Ev.mv o (λx=>decide (x ∈ lot)) b) ⟨rfl,j⟩
  ·rw[bp];~aa (JY (λo:List Int=>o.all λx=>decide (x ∈ lot)) ls) ?_;k_is;&q c f
 unfold Fo;split
 ·&av (d:=lP) (ρ:=[aw (ag lot),aw (.ref n)]) rfl rfl go
 ·&av (d:=jL) (ρ:=[aw (ag lot),aw (.ref n)]) rfl rfl go
def Bh(V:Vd K)(q:∀S',Sm S S'->Q (ag (bD K.G.length lot)) S'):Ok (evC ab (k+1) 43 [skE K,ag lot] S) Q:=by
 ~av (d:=kI) (ρ:=[aw (skE K),aw (ag lot)]) rfl rfl ?_;dsimp only[kI,qM];!g7:=V.g7;k_is;~aa sk2 (aa bx ?_);k_is;~{fV (by lia) (by lia),?_};rw[ZK];~a9 (Zi K.G.length) (λ(j:Nat)=>D.int (0+(j:Int))) (λ(j:Nat)=>if (!decide ((j:Int) ∈ lot))=aN then [D.int (j:Int)] else []) (by rw[ZC];lia) (λa _=>by split <;> simp) ES (λi j S' h sm=>⟨_,rfl,?_⟩) λb f=>?_
 ·k_is;rw[XW];~aa (show ao .notin (.int (j:Int)) (ag lot) S'=aw (.bl (aN != decide ((j:Int) ∈ lot)),S') from eC aN lot j S') ?_;rw[show(aN != decide ((j:Int) ∈ lot)) = !decide ((j:Int) ∈ lot) by cases decide ((j:Int) ∈ lot) <;> rfl];k_is;cases c:!decide ((j:Int) ∈ lot) with
  |true=>&{rfl,Sm.refl _}
  |false=>&{rfl,Sm.refl _}
 ·rw[bj];~aa (show cO aS _ b=aw (.tup _,b) from rfl) ?_;!:=q b f;unfold ag bD at this
  rwa [ZT] at this
abbrev gB(nm:Str):List CS:=[.asg (.name 1) (.bin .add (.var 1) (.comp [nm] (.bin .add (.var 3) (.tup [.var 2])) [⟨.name 3,.val (.var 1),aD⟩]))]
def zp{nm:Str}{u:Option D}{m i:Nat}{Qf:Fl->Rho->Sto->Prop}(h:S[m]?=aw (.lst ((aX i).map ag)))(hi:i < 7)(q:∀f S',Sm S S'->S'[f]?=aw (.lst ((aX (i+1)).map ag))->Qf .nx [u,aw (.ref f),aw (.int i)] S') :
  OkS (eM (evC ab k) (cu ab) 57 (gB nm) [u,aw (.ref m),aw (.int i)] S) Qf:=by
 !l1:=ci i;!L:(aX i).length<=64:=by rw[l1];&YG (by decide) (show i<=6 by lia)
 dsimp only[gB];k_is;~{by rw[aB h];rfl,?_};~a9 (aX i) ag (λl=>[ag (l++[(i:Int)])]) (by lia) (λa _=>by simp) (c8 h) (λj l c n b=>⟨_,rfl,?_⟩) λc b=>?_
 ·!hb:=zi l ((Zi i).map Int.ofNat) (cZ i l (Zd n)).1 λx v=>by
   !:=(cZ i l (Zd n)).2 x v;&Zz.mpr ⟨x.toNat,ZQ.mpr (by lia),by show((x.toNat:Nat):Int)=x;lia⟩
  rw[Za,ZC] at hb;k_is;show uQ .add (.tup (l.map D.int)) (.tup [.int i]) _ _;k_is;&{by rw[Za];show l.length+1<=1000;lia,by unfold ag;rw[ZF];rfl,Sm.refl _}
 ·rw[bp];k_is;!d:Sm c (c++[.lst ((aX i).map λl=>ag (l++[(i:Int)]))]):=Sm.app _ _;~aa (mB (d _ _ (b _ _ h)) (ZA) (by rw[Za,Za];lia)) ?_;k_is;~q _ _ ((b.trans d).trans (Sm.app _ _)) ?_;rw[ZA];show _=aw (Ob.lst ((aX i++(aX i).map (·++[(i:Int)])).map ag));rw[ZF,ZT];rfl
def JZ{N n:Nat}(hN:N<=7)(v:S[n]?=aw (.lst ((Zi N).map λj=>.int (Int.ofNat j))))(q:∀m S',Sm S S'->S'[m]?=aw (.lst ((aX N).map ag))->Q (.ref m) S'):Ok (evC ab (k+1) 6 [.ref n] S) Q:=by
 ~av (d:=kF) (ρ:=[aw (.ref n),aD,aD]) rfl rfl ?_;dsimp only[kF,qJ];k_is;!s0:Sm S (S++[.lst [.tup []]]):=Sm.app _ _;~{by rw[aB (s0 _ _ v)];rfl,?_};~vG (by rw[Za,ZC];lia) (λi c b=>Sm S b/\∃m u,c=[aw (.ref n),aw (.ref m),u]/\b[m]?=aw (.lst ((aX i).map ag))) (λi c b h=>h.1 _ _ v) (λi d c b hd ⟨l,m,u,e,f⟩=>?_) (λc b ⟨l,m,u,e,f⟩=>?_) ⟨s0,S.length,aD,rfl,ZA⟩
 ·subst e;rw[Zq] at hd;#{j,y,rfl}:=ZE.mp hd;#{hi,E}:=Zb.mp y;rw[Wn] at E;subst E;rw[ZC] at hi;~⟨_,rfl,zp (nm := "lot") f (by lia) λB I z C=>⟨l.trans z,B,_,rfl,C⟩⟩
 ·subst e;rw[Za,ZC] at f;k_is;&q m b l f
abbrev wyE(l:List Int):D:=.tup [.int l.length,ag l]
def qZ:∀ (ls:List (List Int)),iu (ls.map wyE)=aw (ls.map λl=>((l.length:Int),l))
 |[]=>rfl
 |l::ls=>by
  !e:yx (wyE l)=aw ((l.length:Int),l):=by
   show(cP (l.map D.int)).map (λns=>((l.length:Int),ns))=_;rw[dr];rfl
  simp only[Zy,iu,e,qZ ls]
def Fq{N:Nat}(hN:N<=5):cT aS ((aX N).map wyE)=aw ((slots N).map wyE):=by
 !b:(aX N).length < 64:=by rw[ci];&Yh (YG (by decide) hN) (by decide)
 !e:uk aS ((aX N).map wyE)=aD:=by
  cases h:aX N with
  |nil=>have:=ci N;rw[h] at this;!:=WX (n:=N) (show 0 < 2 by decide);simp at *;lia
  |cons l L=>simp only[Zy,uk,wyE,ag,cP]
 unfold cT C4;rw[if_pos rfl,e];dsimp only;unfold M6;rw[qZ];dsimp only;rw[if_pos (by rw[Za];&b),JP,vM (d:=[])];rfl
def Fs{N:Nat}(hN:N<=5)(q:∀m S',Sm S S'->S'[m]?=aw (.lst ((slots N).map ag))->Q (.ref m) S'):Ok (evC ab (k+1) 60 [.int N] S) Q:=by
 ~av (d:=je) (ρ:=[aw (.int N),aD,aD]) rfl rfl ?_;dsimp only[je,oK];k_is;!s0:Sm S (S++[.lst [.tup []]]):=Sm.app _ _;~{fV (by lia) (by lia),?_};rw[ZK];~jM (by lia) (λi n f=>Sm S f/\∃m u,n=[aw (.int N),aw (.ref m),u]/\f[m]?=aw (.lst ((aX i).map ag))) (λi n f hi ⟨v,m,u,e,h⟩=>?_) (λn f ⟨v,m,u,e,h⟩=>?_) ⟨s0,S.length,aD,rfl,ZA⟩
 ·subst e;rw[XW];~⟨_,rfl,zp (nm := "_law_lot") h (by lia) λC b c E=>⟨v.trans c,C,_,rfl,E⟩⟩
 ·subst e;!y:(aX N).length < 64:=by rw[ci];&Yh (YG (by decide) hN) (by decide)
  !sl:(slots N).length < 64:=by rw[kP,<-ci];&y
  k_is;~{by rw[aB h];rfl,?_};~a9 (aX N) ag (λl=>[wyE l]) (by lia) (λa _=>by simp) (c8 h) (λj l b y c=>⟨_,rfl,?_⟩) λb c=>?_
  ·k_is;~aa (show ak dh (ag l) b=aw (.int (l.map D.int).length,b) from rfl) ?_;rw[Za];k_is;&{rfl,Sm.refl _}
  ·rw[bp];~{_,Fq hN,?_};~a9 (slots N) wyE (λl=>[ag l]) (by lia) (λa _=>by simp) bN (λj l B y z=>⟨_,rfl,?_⟩) λB z=>?_
   ·k_is;&{rfl,Sm.refl _}
   ·rw[bp];&q _ _ (((v.trans c).trans z).trans (Sm.app _ _)) ZA
abbrev J1(S:Sto):Prop:=S[1]?=aw (.tbl "all_lots" kz.2.1 kz.2.2)
def pq:∀ (ls:List (List Int)),qG (ls.map ag)=aw ls
 |[]=>rfl
 |l::ls=>by
  !e:KY (ag l)=aw l:=dr l;simp only[Zy,qG,e,pq ls]
def pw(V:Vd K)(h:K.G.length<=5)(c:J1 S)(q:∀m S',Sm S S'->S'[m]?=aw (.lst ((slots K.G.length).map ag))->Q (.ref m) S'):Ok (evC ab (k+4) 42 [skE K] S) Q:=by
 ~OC (d:=fR) (z:=kz) (ρ:=[aw (skE K)]) rfl rfl (by lia) rfl ?_;dsimp only[kz]
 evd
 ~aa sk2 (aa bx ?_);~{K.G.length,rfl,by lia,rfl,?_};!s0:Sm S (S++[.lst ((Zi K.G.length).map λj=>.int (Int.ofNat j))]):=Sm.app _ _;~JZ (k:=k+2) (by lia) ZA λm n b l=>?_;!f:(aX K.G.length).length < 64:=by rw[ci];&Yh (YG (by decide) h) (by decide)
 ~{m,aX K.G.length,(aX K.G.length).map ag,rfl,⟨(s0.trans b) _ _ c,l,pq _,by rw[Za];&f⟩,?_};~q _ _ ((s0.trans b).trans (Sm.app _ _)) ?_;rw[ZA,vM (d:=[])];rfl
abbrev stk(K:Sky):List (List Int):=pk (λl=>!lnd K l) (slots K.G.length) []
abbrev snt(K:Sky):List (List Int):=pk (λl=>lnd K (bD K.G.length l)) (slots K.G.length) []
def zq{c:List Int->Bool}{l:List Int}:∀ (ls b:List (List Int)),pk c (ls++[l]) b=if (!bq l (pk c ls b) && c l)=aN then pk c ls b++[l] else pk c ls b
 |[],b=>rfl
 |x::ls,b=>by
  show pk c (ls++[l]) _=_;rw[zq ls];rfl
def Ft{c:List Int->Bool}:∀ (ls b:List (List Int)),(pk c ls b).length<=b.length+ls.length
 |[],b=>Zf _
 |x::ls,b=>by
  !:=Ft (c:=c) ls (if (!bq x b && c x)=aN then b++[x] else b);unfold pk;rw[Zo];split at this <;> rename_i h
  ·rw[if_pos h];rw[Ze,Zm] at this;lia
  ·rw[if_neg h];lia
structure Lk(K:Sky)(c:List Int->Bool)(i f:Nat)(S:Sto):Prop where
 at_:S[f]?=aw (.lst ((pk c ((slots K.G.length).take i) []).map ag))
variable {c:List Int->Bool} {i f:Nat}
def J2(b:K.G.length<=5){l:List Int}(h:l ∈ slots K.G.length):l.length<=5:=ZJ (Fa (Q1.mp h)).len b
def gZ(h:K.G.length<=5):(slots K.G.length).length<=32:=by rw[kP];&YG (n:=2) (by decide) h
def zr(b:K.G.length<=5):(pk c ((slots K.G.length).take i) []).length<=32/\∀o ∈ pk c ((slots K.G.length).take i) [],o.length<=5:=by
 ~{?_,λo d=>?_}
 ·!:=Ft (c:=c) ((slots K.G.length).take i) [];!:=gZ b;rw[Yi,Z4] at *
  lia
 ·rcases sX _ _ d with h |⟨h,_⟩
  ·cases h
  ·&J2 b (YW h)
def Lk.step{l:List Int}(h:(slots K.G.length)[i]?=aw l):(pk c ((slots K.G.length).take (i+1)) [])=if (!bq l (pk c ((slots K.G.length).take i) []) && c l)=aN then pk c ((slots K.G.length).take i) []++[l] else pk c ((slots K.G.length).take i) []:=by
 rw[List.take_add_one,h];&zq _ _
def sY(l:Bool)(b:K.G.length<=5)(h:Lk K c i f S)(q:∀S',Sm S S'->Q (.bl (bq lot (pk c ((slots K.G.length).take i) []))) S'):Ok (evC ab (k+1) (Fo l) [ag lot,.ref f] S) Q:=
 Fp l h.at_ (by !:=(zr (c:=c) (i:=i) b).1;lia) (λo d=>by !:=(zr (c:=c) (i:=i) b).2 o d;lia) q
def Lk.keep(h:Lk K c i f S)(s:Sm S S'):Lk K c i f S':=⟨s _ _ h.at_⟩
def Lk.put{l:List Int}(b:K.G.length<=5)(h:Lk K c i f S)(d:(slots K.G.length)[i]?=aw l)(u:(!bq l (pk c ((slots K.G.length).take i) []) && c l)=aN)(q:∀S',Ev.Kp f S S'->Lk K c (i+1) f S'->Q .non S'):cD (.ref f) S=aN/\Ok (rV (.ref f) [ag l] S) Q:=by
 ~{by show(aR S f).isSome=aN;rw[aB h.at_];rfl,?_};rw[jf h.at_ (by rw[Za];!:=(zr (c:=c) (i:=i) b).1;lia)];!v:f < S.length:=(Zb.mp h.at_).1;~q _ (λj o n e=>by rw[Zx (λz=>n z.symm)];&e) ⟨?_⟩;rw[ZV v,Lk.step d,if_pos u,ZF];rfl
def Lk.pass{l:List Int}(h:Lk K c i f S)(d:(slots K.G.length)[i]?=aw l)(b:(!bq l (pk c ((slots K.G.length).take i) []) && c l)=aS):Lk K c (i+1) f S:=⟨by rw[Lk.step d,if_neg (by rw[b];decide)];&h.at_⟩
def Lk.all(h:Lk K c (slots K.G.length).length f S):S[f]?=aw (.lst ((pk c (slots K.G.length) []).map ag)):=by !:=h.at_;rwa [Yx] at this
def vP{m j:Nat}(h:S[m]?=aw (.lst ((slots K.G.length).map ag)))(b:S[j]?=aw (.lst [])):m ≠ j:=λe=>by
 rw[e,b] at h;!:=congrArg Zl (Ob.lst.inj (Option.some.inj h));rw[Za,kP] at this;!:=WX (n:=K.G.length) (show 0 < 2 by decide);simp at *
 lia
def Fu(h:Sm S S'):S.length<=S'.length:=by
 cases d:S.length with
 |zero=>&Z2 _
 |succ n=>
  !b:n < S.length:=by lia
  &(Zb.mp (h n _ (gEG b))).1
def vQ(T:SkOk K)(I:K.G.length<=5)(hT:J1 S)(q:∀m S',Sm S S'->S.length<=m->S'[m]?=aw (.lst ((stk K).map ag))->Q (.ref m) S'):Ok (evC ab (k+25) 38 [skE K] S) Q:=by
 ~av (d:=eV) (ρ:=[aw (skE K),aD,aD]) rfl rfl ?_;dsimp only[eV,iE];k_is;~{rfl,EM (k:=k+16) T λb U=>?_};k_is;!s2:Sm b (b++[.lst []]):=Sm.app _ _;~{rfl,pw (k:=k+20) T.vd I (s2 _ _ (U _ _ hT)) λm S2 X hm=>?_};k_is;!Z:=vP hm (X _ _ (ZA (l:=b)));~{by rw[aB hm];rfl,?_};~vG (by rw[Za];!:=gZ I;lia) (λi J v=>Ev.Kp b.length S2 v/\Lk K (λl=>!lnd K l) i b.length v/\∃u,J=[aw (skE K),aw (.ref b.length),u]) (λi J v h=>h.1 _ _ Z hm) (λi d J v hd ⟨kp,L,u,e⟩=>?_) (λJ v ⟨kp,L,u,e⟩=>?_) ⟨λ_ _ _ e=>e,⟨by rw[YK];&X _ _ ZA⟩,aD,rfl⟩
 ·subst e;rw[Zq] at hd;#{l,O,rfl}:=ZE.mp hd;!z:=Fa (Q1.mp (Zd O));~{_,rfl,?_};k_is;~{rfl,sY (k:=k+23) aN I L λS4 s4=>?_};k_is;!C:=L.keep s4;!y:Ev.Kp b.length S2 S4:=λj o n e=>s4 _ _ (kp j o n e);cases Y:bq l (pk (λl=>!lnd K l) ((slots K.G.length).take i) []) with
  |true=>
   k_is;&{y,C.pass O (by rw[Y];rfl),_,rfl}
  |false=>
   k_is;~{rfl,Bf (k:=k+23) T z λS5 s5=>?_};k_is;~{rfl,Fn (k:=k+3) (sW T z) λS6 s6=>?_};k_is;!B:=(C.keep s5).keep s6;!E:Ev.Kp b.length S2 S6:=λj o n e=>s6 _ _ (s5 _ _ (y j o n e));cases hb:(dR (nar K l) aN).isSome with
   |true=>
    k_is;&{E,B.pass O (by rw[Y];show(!aS && !(dR (nar K l) aN).isSome)=aS;rw[hb];rfl),_,rfl}
   |false=>
    k_is;~B.put I O (by rw[Y];show(!aS && !(dR (nar K l) aN).isSome)=aN;rw[hb];rfl) λS7 k7 lk7=>?_;k_is;&{λj o n e=>k7 _ _ n (E j o n e),lk7,_,rfl}
 ·subst e;rw[Za] at L;k_is;~q _ _ (λj o e=>kp j o ?_ (X _ _ (s2 _ _ (U _ _ e)))) ?_ L.all
  ·!:=(Zb.mp (U _ _ e)).1
   lia
  ·&Fu U
def pA(h:K.G.length<=5):(pk c (slots K.G.length) []).length<=32/\∀o ∈ pk c (slots K.G.length) [],o.length<=5:=by
 !:=zr (c:=c) (i:=(slots K.G.length).length) h
 rwa [Yx] at this
def QW(d:SkOk K):snt K=pk (λl=>!bq (bD K.G.length l) (stk K)) (slots K.G.length) []:=
 vL _ _ λl _=>(Bc (P:=lnd K) (λa j b hb h=>E7 d (Fa (Q1.mp j)) (Fa (Q1.mp hb)) h) (Q1.mpr pd)).symm
def J3(O:SkOk K)(v:K.G.length<=5)(hT:J1 S)(q:∀m S',Sm S S'->S.length<=m->S'[m]?=aw (.lst ((snt K).map ag))->Q (.ref m) S'):Ok (evC ab (k+26) 39 [skE K] S) Q:=by
 ~av (d:=cJ) (ρ:=[aw (skE K),aD,aD,aD]) rfl rfl ?_;dsimp only[cJ,fB];k_is;~{rfl,vQ (k:=k) O v hT λfs b T hfs h1=>?_};k_is;!s2:Sm b (b++[.lst []]):=Sm.app _ _;~{rfl,pw (k:=k+21) O.vd v (s2 _ _ (T _ _ hT)) λm S2 I hm=>?_};k_is;!Y:=vP hm (I _ _ (ZA (l:=b)));!hlt:fs ≠ b.length:=ZH (Zb.mp h1).1;!h2:=I _ _ (s2 _ _ h1);~{by rw[aB hm];rfl,?_};~vG (by rw[Za];!:=gZ v;lia) (λi J z=>Ev.Kp b.length S2 z/\Lk K (λl=>!bq (bD K.G.length l) (stk K)) i b.length z/\∃u,J=[aw (skE K),aw (.ref fs),aw (.ref b.length),u]) (λi J z h=>h.1 _ _ Y hm) (λi d J z hd ⟨kp,L,u,e⟩=>?_) (λJ z ⟨kp,L,u,e⟩=>?_) ⟨λ_ _ _ e=>e,⟨by rw[YK];&I _ _ ZA⟩,aD,rfl⟩
 ·subst e;rw[Zq] at hd;#{l,X,rfl}:=ZE.mp hd;~{_,rfl,?_};k_is;~{rfl,sY (k:=k+24) aN v L λS4 s4=>?_};k_is;!C:=L.keep s4;!y:Ev.Kp b.length S2 S4:=λj o n e=>s4 _ _ (kp j o n e);cases U:bq l (pk (λl=>!bq (bD K.G.length l) (stk K)) ((slots K.G.length).take i) []) with
  |true=>
   k_is;&{y,C.pass X (by rw[U];rfl),_,rfl}
  |false=>
   k_is;~{rfl,Bh (k:=k+24) O.vd λS5 Z=>?_};k_is;~{rfl,Fp (k:=k+24) aN (ls:=stk K) (Z _ _ (y _ _ hlt h2)) (by !:=(pA (c:=λl=>!lnd K l) v).1;unfold stk;lia) (λo ho=>by !:=(pA (c:=λl=>!lnd K l) v).2 o ho;lia) λS6 s6=>?_};k_is;!B:=(C.keep Z).keep s6;!E:Ev.Kp b.length S2 S6:=λj o n e=>s6 _ _ (Z _ _ (y j o n e));cases hb:bq (bD K.G.length l) (stk K) with
   |true=>
    k_is;&{E,B.pass X (by rw[U];show(!aS && !bq (bD K.G.length l) (stk K))=aS;rw[hb];rfl),_,rfl}
   |false=>
    k_is;~B.put v X (by rw[U];show(!aS && !bq (bD K.G.length l) (stk K))=aN;rw[hb];rfl) λS7 k7 lk7=>?_;k_is;&{λj o n e=>k7 _ _ n (E j o n e),lk7,_,rfl}
 ·subst e;rw[Za] at L;k_is;~q _ _ (λj o e=>kp j o ?_ (I _ _ (s2 _ _ (T _ _ e)))) (Fu T) (by rw[QW O];&L.all);!:=(Zb.mp (T _ _ e)).1
  lia
end Lw
namespace Lw
open PySem Ev Sn L2
variable {p:Nat} {S S':Sto} {k:Nat} {Q:D->Sto->Prop} {K:Sky} {lot:List Int}
abbrev ji(l:List Int):List NK:=l.map λi=>.one (.inl i)
def vR(l:List Int):lY (ag l)=aw (ji l):=by
 show kU (l.map D.int)=_
 induction l with
 |nil=>rfl
 |cons x l I=>simp only[Zy,kU,z7,I,ji]
def vS{a b:List Int}(h:ji a=ji b):a=b:=by
 unfold ji at h;&(List.map_inj_right (f:=λi:Int=>NK.one (Sum.inl i)) λx y e=>by cases e;rfl).mp h
def J4(l:List Int):nkT (ji l)=ag l:=by unfold nkT ji ag;rw[ZT];rfl
def vT(g:List Int->D):∀ (ls:List (List Int)),prK (ls.map λl=>.tup [ag l,g l])=aw (ls.map ji,ls.map g)
 |[]=>rfl
 |l::ls=>by simp only[Zy,prK,vR,vT g ls]
def vU{g:List Int->D}{L:List Int}:∀ {ls:List (List Int)},L ∈ ls->atD (ls.map ji) (ls.map g) (ji L)=aw (g L)
 |l::ls,h=>by
  simp only[Zy,atD];split
  ·rename_i e;rw[vS e]
  ·rename_i e;rcases Zn.mp h with rfl |h
   ·&absurd rfl e
   ·&vU h
def Uq{n:Nat}{ks:List (List NK)}{B:List D}{T:Tg}{b:XS}{c:Rho}{Q:Fl->Rho->Sto->Prop}(L:ks.length<=100000)(I:Nat->Rho->Sto->Prop)(y:∀i c S',I i c S'->S'[n]?=aw (.dfz ks B))
  (step:∀ (i:Nat) l c S',ks[i]?=aw l->I i c S'->∃j,aA T (nkT l) c=aw j/\OkS (b j S') λJ f v=>match J with |.nx=>I (i+1) f v |.ct=>I (i+1) f v |.bk=>Q .nx f v |.rt d=>Q (.rt d) f v)
  (q:∀c S',I ks.length c S'->Q .nx c S') (C:I 0 c S):OkS (eJ (nxK n ks) T b LF 0 c S) Q:=by
 !nx:∀ {i S'},S'[n]?=aw (.dfz ks B)->nxK n ks i S'=aw ((ks[i]?).map nkT):=λ{i S'} h=>by
  unfold nxK;rw[h];dsimp only;rw[if_pos rfl,Zq]
 ~ig ks.length I (by unfold LF;lia) (λi c S' hi u=>?_) (λc S' u=>⟨?_,q c S' u⟩) C
 ·#{j,E,z}:=step i ks[i] c S' (gEG hi) u;&{_,j,by rw[nx (y _ _ _ u),gEG hi];rfl,E,z}
 ·rw[nx (y _ _ _ u),Zw (Zf _)];rfl
abbrev QX:List CS:=match fC with
 |_::_::_ :: .for_ _ _ b::_=>b
 |_=>[]
def Fv{dp:Nat}{L:List Int}(hd:S[dp]?=aw (.dfz ((slots K.G.length).map ji) ((slots K.G.length).map λl=>.bl (lnd K l))))(h:L ∈ slots K.G.length):ixS (.ref dp) (ag L) S=aw (.bl (lnd K L),S):=by
 show ixK (.ref dp) (ag L) S=_;unfold ixK;rw[vR];dsimp only;rw[hd];dsimp only;rw[vU (g:=λl=>.bl (lnd K l)) h];rfl
def Lk.keepK{c:List Int->Bool}{i f g:Nat}(h:Lk K c i g S)(kp:Ev.Kp f S S')(n:g ≠ f):Lk K c i g S':=⟨kp _ _ n h.at_⟩
abbrev Fw:List CS:=QX.drop 1
def sZ{dp i b:Nat}{l:List Int}{B:D}{Qf:Fl->Rho->Sto->Prop}(U:SkOk K)(z:K.G.length<=5)(hd:S[dp]?=aw (.dfz ((slots K.G.length).map ji) ((slots K.G.length).map λl=>.bl (lnd K l))))(J:Lk K (λl=>lnd K (bD K.G.length l)) i b S)(v:(slots K.G.length)[i]?=aw l)
  (q:∀S',Ev.Kp b S S'->Lk K (λl=>lnd K (bD K.G.length l)) (i+1) b S'->Qf .nx [aw (skE K),aw (.tup ((Zi K.G.length).map λj=>.int (Int.ofNat j))),aw (.ref dp),aw B,aw (.ref b),aw (ag l)] S') :
  rW (wSs (evC ab (k+5)) (cu ab) 54 Fw) [aw (skE K),aw (.tup ((Zi K.G.length).map λj=>.int (Int.ofNat j))),aw (.ref dp),aw B,aw (.ref b),aw (ag l)] S Qf:=by
 dsimp only[Fw,QX,fC,Yr];k_is;~a9 (Zi K.G.length) (λ(j:Nat)=>D.int (Int.ofNat j)) (λ(j:Nat)=>if (!decide ((j:Int) ∈ l))=aN then [D.int (j:Int)] else []) (by rw[ZC];lia) (λa _=>by split <;> simp) bN (λi j S' T sm=>⟨_,rfl,?_⟩) λd h=>?_
 ·k_is;~aa (show ao .notin (.int (Int.ofNat j)) (ag l) S'=aw (.bl (aN != decide ((j:Int) ∈ l)),S') from eC aN l j S') ?_;rw[show(aN != decide ((j:Int) ∈ l)) = !decide ((j:Int) ∈ l) by cases decide ((j:Int) ∈ l) <;> rfl];k_is;cases c:!decide ((j:Int) ∈ l) with
  |true=>&{rfl,Sm.refl _}
  |false=>&{rfl,Sm.refl _}
 ·rw[bj];~aa (show cO aS _ d=aw (.tup _,d) from rfl) ?_;~aa (show ixS (.ref dp) (.tup _) d=aw (.bl (lnd K (bD K.G.length l)),d) from ?_) ?_
  ·!:=Fv (h _ _ hd) (Q1.mpr (pd (l:=l)));unfold ag at this;unfold bD at this ⊢
   rwa [ZT] at this
  ·k_is;!L:=J.keep h;cases hb:lnd K (bD K.G.length l) with
   |false=>
    k_is;&q d h.kp (L.pass v (by show(_ && lnd K (bD K.G.length l))=aS;rw[hb,X8]))
   |true=>
    k_is;~{rfl,sY (k:=k+4) aS z L λO y=>?_};k_is;!f:=L.keep y;cases C:bq l (pk (λl=>lnd K (bD K.G.length l)) ((slots K.G.length).take i) []) with
    |true=>
     k_is;&q O (h.trans y).kp (f.pass v (by rw[C];rfl))
    |false=>
     k_is;~f.put z v (by rw[C];show(!aS && lnd K (bD K.G.length l))=aN;rw[hb];rfl) λE I u=>?_;k_is;&q E (λj o n e=>I _ _ n ((h.trans y) j o e)) u
def Fx{dp a b:Nat}{Qf:Fl->Rho->Sto->Prop}(Z:SkOk K)(B:K.G.length<=5)(hd:S[dp]?=aw (.dfz ((slots K.G.length).map ji) ((slots K.G.length).map λl=>.bl (lnd K l))))(ha:S[a]?=aw (.lst []))(hb:S[b]?=aw (.lst []))(I:dp ≠ a)(nb:dp ≠ b)(f:a ≠ b)
  (q:∀u S',(∀j o,j ≠ a->j ≠ b->S[j]?=aw o->S'[j]?=aw o)->S'[a]?=aw (.lst ((stk K).map ag))->S'[b]?=aw (.lst ((snt K).map ag))->Qf .nx [aw (skE K),aw (.tup ((Zi K.G.length).map λj=>.int (Int.ofNat j))),aw (.ref dp),aw (.ref a),aw (.ref b),u] S') :
  OkS (eJ (nxK dp ((slots K.G.length).map ji)) (.name 5) (eM (evC ab (k+5)) (cu ab) 55 QX) LF 0 [aw (skE K),aw (.tup ((Zi K.G.length).map λj=>.int (Int.ofNat j))),aw (.ref dp),aw (.ref a),aw (.ref b),aD] S) Qf:=by
 !s32:=gZ B;~Uq (by rw[Za];lia) (λi U y=>(∀j o,j ≠ a->j ≠ b->S[j]?=aw o->y[j]?=aw o)/\Lk K (λl=>!lnd K l) i a y/\Lk K (λl=>lnd K (bD K.G.length l)) i b y/\∃u,U=[aw (skE K),aw (.tup ((Zi K.G.length).map λj=>.int (Int.ofNat j))),aw (.ref dp),aw (.ref a),aw (.ref b),u]) (λi U y h=>h.1 _ _ I nb hd) (λi d U y T ⟨kp,E,J,u,e⟩=>?_) (λU y ⟨kp,E,J,u,e⟩=>?_) ⟨λ_ _ _ _ e=>e,⟨by rw[YK];&ha⟩,⟨by rw[YK];&hb⟩,aD,rfl⟩
 ·subst e;rw[Zq] at T;#{l,z,rfl}:=ZE.mp T;!hm:=Zd z;rw[J4];~{_,rfl,?_};dsimp only[QX,fC];k_is;~aa (Fv (kp _ _ I nb hd) hm) ?_;k_is;cases hb:lnd K l with
  |true=>
   show rW (wSs (evC ab (k+5)) (cu ab) 54 Fw) _ _ _;~sZ (k:=k) Z B (kp _ _ I nb hd) J z λS4 k4 L=>?_;&{λj o v n e=>k4 _ _ n (kp j o v n e),(E.pass z (by show(_ && !lnd K l)=aS;rw[hb];&X8 _)).keepK k4 f,L,_,rfl}
  |false=>
   k_is;~{rfl,sY (k:=k+4) aS B E λS4 s4=>?_};k_is;!O:=E.keep s4;!L:=J.keep s4;!c:∀j o,j ≠ a->j ≠ b->S[j]?=aw o->S4[j]?=aw o:=λj o v n e=>s4 _ _ (kp j o v n e);cases hh:bq l (pk (λl=>!lnd K l) ((slots K.G.length).take i) []) with
   |true=>
    show rW (wSs (evC ab (k+5)) (cu ab) 54 Fw) _ _ _;~sZ (k:=k) Z B (c _ _ I nb hd) L z λS5 C lb5=>?_;&{λj o v n e=>C _ _ n (c j o v n e),(O.pass z (by rw[hh];rfl)).keepK C f,lb5,_,rfl}
   |false=>
    k_is;~O.put B z (by rw[hh];show(!aS && !lnd K l)=aN;rw[hb];rfl) λS5 C Y=>?_;show rW (wSs (evC ab (k+5)) (cu ab) 54 Fw) _ _ _;~sZ (k:=k) Z B (C _ _ I (c _ _ I nb hd)) (L.keepK C (Ne.symm f)) z λS6 k6 X=>?_;&{λj o v n e=>k6 _ _ n (C _ _ v (c j o v n e)),Y.keepK k6 f,X,_,rfl}
 ·subst e;rw[Za] at E J;&q u y kp E.all J.all
def QY(v:SkOk K)(h:K.G.length<=5)(q:∀m a b S',Sm S S'->S'[m]?=aw (.lst [.ref a,.ref b])->S'[a]?=aw (.lst ((stk K).map ag))->S'[b]?=aw (.lst ((snt K).map ag))->Q (.ref m) S'):Ok (evC ab (k+6) 63 [skE K] S) Q:=by
 ~av (d:=kL) (ρ:=[aw (skE K),aD,aD,aD,aD,aD]) rfl rfl ?_;dsimp only[kL,fC];k_is;~aa sk2 (aa bx ?_);k_is;~{⟨by lia,by lia⟩,?_};rw[ZK];k_is;~aa sk2 (aa bx ?_);k_is;~{rfl,Fs (k:=k+4) h λm O n z=>?_};!J:=gZ h;k_is;~{by rw[aB z];rfl,?_};~a9 (slots K.G.length) ag (λl=>[.tup [ag l,.bl (lnd K l)]]) (by lia) (λa _=>by simp) (c8 z) (λj l f E c=>⟨_,rfl,?_⟩) λf c=>?_
 ·k_is;~{rfl,Bg (k:=k) v (Fa (Q1.mp (Zd E))) λC B=>?_};k_is;&{rfl,B}
 ·rw[bp]
  !hd:pT aS ((slots K.G.length).map λl=>.tup [ag l,.bl (lnd K l)]) f=aw (.ref f.length,f++[.dfz ((slots K.G.length).map ji) ((slots K.G.length).map λl=>.bl (lnd K l))]):=by
   unfold pT;rw[if_pos rfl,vT (λl=>.bl (lnd K l))];dsimp only;rw[if_pos ⟨kN Fb λx _ y _ e=>vS e,by rw[Za];lia⟩]
  ~aa hd ?_;k_is;~{_,_,by rw[Zt (by simp),Zt (by simp),ZA],?_};~Fx (k:=k) v h (by rw[Zt (by simp),Zt (by simp),ZA]) (by rw[Zt (by simp),ZA]) ZA (by simp) (by simp) (by simp) λu C kp L I=>?_;k_is;~q _ _ _ _ (λj o e=>(Sm.app _ _) _ _ (kp j o ?_ ?_ ((Sm.app _ _) _ _ ((Sm.app _ _) _ _ ((Sm.app _ _) _ _ (c _ _ (n _ _ e))))))) ZA ((Sm.app _ _) _ _ L) ((Sm.app _ _) _ _ I)
  ·!:=(Zb.mp (c _ _ (n _ _ e))).1;simp;lia
  ·!:=(Zb.mp (c _ _ (n _ _ e))).1;simp;lia
end Lw
namespace Lw
open PySem Ev Sn L2
variable {p:Nat} {S S':Sto} {k:Nat} {Q:D->Sto->Prop} {K:Sky}
abbrev meL(r s:Int)(M:List (List Int))(H:List (Int × Int)):D:=.tup [.int r,.int s,.tup (M.map ag),.tup (H.map aj)]
def J5{r s:Int}{M G:List (List Int)}{H:List (Int × Int)}{F:List Int}{v:List D}{N n hi:Nat}{u4 u5 u6 u7 u8 u9 u10 u11 u13:Option D}(h:Pot p S)(gs:Gs p N hi S v G)(hf:S[n]?=aw (.lst (F.map D.int)))(nf:n ≠ p)(me:MeOk r s M H)(g7:G.length<=7)
  (q:∀a S',Dr p S S'->(∀z:Int × Int,a=aw z->0<=z.1/\z.1 < M.length/\0<=z.2/\z.2<=9999)->Q (skE ⟨r,s,M,H,a,G,F⟩) S') :
  rW (wSs (evC ab (k+3)) (cu ab) 55 (ie.drop 5)) [aw (.ref p),aw (.int 5),aw (meL r s M H),aw (.ref N),u4,u5,u6,u7,u8,u9,u10,u11,aw (.ref n),u13,aD] S (out Q):=by
 dsimp only[ie,Yr];!m1:=me.m1;!m4:=me.m4;k_is;~aa (show ixS (meL r s M H) (.int 2) S=aw (.tup (M.map ag),S) from rfl) ?_;~aa (show ak dh (.tup (M.map ag)) S=aw (.int M.length,S) by simp only[ak,ay,dh,Za]) ?_;~{rfl,aI h (by lia) (by lia) λx S1 X Z C=>?_};~{rfl,aI C.pot (by decide) (by decide) λy S2 Y y2 B=>?_};~{rfl,aI B.pot (by decide) (by decide) λz O z1 z2 U=>?_};k_is;!d:=(C.trans B).trans U
 obtain⟨a,J,T⟩:∃a:Option (Int × Int),atI [D.non,D.tup [D.int x,D.int y]] z=aw (ahE a)/\∀q,a=aw q->0<=q.1/\q.1 < M.length/\0<=q.2/\q.2<=9999:=by
  !:z=0\/z=1:=by lia
  rcases this with rfl |rfl
  ·&{aD,rfl,λq e=>by cases e}
  ·&{aw (x,y),rfl,λq e=>by cases e;&{X,Z,Y,by lia}}
 ~{_,J,?_};k_is;!c:=gs.keep d.kp;!l:=d.kp _ _ nf hf;~{by rw[aB c.at_];rfl,?_};!le:=c.len;~oQ v.length (λi=>(v[i]?).getD .non) (λi j S'=>S'=O/\j=(G.take i).map ag) (λi j S' hi ⟨e,_⟩=>by subst e;&DW c.at_ _ Lp) (by lia) (λi j f hi ⟨u,E⟩=>?_) (λes' f ⟨u,E⟩=>⟨by rw[E,Za,Yi];lia,?_⟩) ⟨rfl,rfl⟩
 ·subst u;!L:i < G.length:=by lia
  #{b,I,_,_,zb}:=c.row i G[i] (gEG L);simp only[I,ZX];~{_,rfl,?_};k_is;~aa (show ak cO (.ref b) f=aw (.tup (G[i].map D.int),f) by simp only[ak,ay,aB zb,ZL,cO]) ?_;~{rfl,?_};rw[E,Z6 L,ZF];rfl
 ·subst u;rw[Yd (by lia)] at E;subst E;~aa (show cO aS (G.map ag) f=aw (.tup (G.map ag),f) from rfl) ?_;~aa (show ak cO (.ref n) f=aw (.tup (F.map D.int),f) by simp only[ak,ay,aB l,ZL,cO]) ?_;k_is;&q a f d T
def xT{l:List Int}{j:Nat}(h:j < l.length):(l[j]::l.eraseIdx j).Perm l:=by
 induction l generalizing j with
 |nil=>simp at h
 |cons a l I=>
  cases j with
  |zero=>&List.Perm.refl _
  |succ j=>
   rw[Zo] at h;!:=I (j:=j) (by lia);rw[List.getElem_cons_succ,YJ];&(List.Perm.swap _ _ _).trans (this.cons a)
def q8:∀ (l:List Int) (j:Nat),(l.map D.int).eraseIdx j=(l.eraseIdx j).map D.int
 |[],_=>rfl
 |a::l,0=>rfl
 |a::l,j+1=>by rw[Zy,YJ,YJ,Zy,q8 l j]
def Fy{n:Nat}{l:List Int}{j:Nat}(b:S[n]?=aw (.lst (l.map D.int)))(d:j < l.length):iU (.ref n) [.int (j:Int)] S=aw (.int l[j],S.set n (.lst ((l.eraseIdx j).map D.int))):=by
 !h:ixN (l.map D.int).length (j:Int)=aw j:=by
  unfold ixN;rw[if_pos (by lia),if_pos (by rw[Za];lia),ZK]
 !c:(l.map D.int)[j]?=aw (.int l[j]):=by rw[Zq,gEG d];rfl
 !f:(l.map D.int).eraseIdx j=(l.eraseIdx j).map D.int:=q8 l j;simp only[iU,chg,b,h,c,ZL,f]
def pB{n:Nat}{l:List Int}(h:l.Perm ((Zi n).map λi=>Int.ofNat i)):l.Nodup/\(∀x ∈ l,0<=x/\x < n)/\l.length=n:=by
 ~{h.nodup_iff.mpr (YU.mpr (Y5.imp λh z=>h (Int.ofNat.inj z))),λx b=>?_,by rw[h.length_eq,Za,ZC]};#{i,hi,rfl}:=Zz.mp (h.mem_iff.mp b);!:=ZQ.mp hi;show 0<=(i:Int)/\(i:Int) < n
 lia
structure Fxs(p N Nl Nf:Nat)(S:Sto)(es:List D)(G:List (List Int))(l F:List Int):Prop where
 gs:Gs p N Nl S es G
 al:S[Nl]?=aw (.lst (l.map D.int))
 af:S[Nf]?=aw (.lst (F.map D.int))
 nn:Nl < Nf
 pm:(F++l).Perm ((Zi G.length).map λi=>Int.ofNat i)
 rg:∀ (j:Nat) g,G[j]?=aw g->g.getD 6 0=0\/(j:Int) ∈ F
def Fxs.keep{N n b:Nat}{E:List D}{G:List (List Int)}{l F:List Int}(h:Fxs p N n b S E G l F)(kp:Ev.Kp p S S')(hN:N < n):Fxs p N n b S' E G l F:=by
 !:=h.gs.pN;!:=h.nn;&{h.gs.keep kp,kp _ _ (by lia) h.al,kp _ _ (by lia) h.af,h.nn,h.pm,h.rg}
def J6{r s:Int}{M G:List (List Int)}{H:List (Int × Int)}{J:List D}{N hi:Nat}{B:Sto}{u4 u5 u6 u7 u8 u9 C:Option D}(h:Dr p B S)(l0:B.length<=N)(gs:Gs p N S.length S J G)(me:MeOk r s M H)(g7:G.length<=5)(gb:∀g ∈ G,GB M.length r s g)(g0:∀g ∈ G,g.getD 6 0=0)
  (q:∀K S',Dr p B S'->SkOk K->(∀g ∈ K.G,GB K.M.length K.r K.s g)->K.G.length<=5->Q (skE K) S') :
  rW (wSs (evC ab (k+3)) (cu ab) 57 (ie.drop 3)) [aw (.ref p),aw (.int 5),aw (meL r s M H),aw (.ref N),u4,u5,u6,u7,u8,u9,C,aD,aD,aD,aD] S (out Q):=by
 !T:=λ(u11 U:Option D) (b:List (List Int)) (es':List D) (F:List Int) (v hi:Nat) (S1:Sto) (d:Dr p B S1) (gs':Gs p N hi S1 es' b) (hf:S1[v]?=aw (.lst (F.map D.int))) (nf:v ≠ p) (g7':b.length<=5) (f:∀g ∈ b,GB M.length r s g) (nd:F.Nodup) (bd:∀x ∈ F,0<=x/\x < b.length) (rg:∀ (j:Nat) g,b[j]?=aw g->g.getD 6 0=0\/(j:Int) ∈ F)=>
  J5 (k:=k) (Q:=Q) (u4:=u4) (u5:=u5) (u6:=u6) (u7:=u7) (u8:=u8) (u9:=u9) (u10:=C) (u11:=u11) (u13:=U) d.pot gs' hf nf me (by lia) λa S2 d2 ha=>q _ S2 (d.trans d2) ⟨me,ZJ g7' (by decide),λg Y=>(f g Y).up (by decide),nd,bd,rg,ha⟩ f g7'
 dsimp only[ie,Yr] at T ⊢;!pN:=gs.pN;!le:=gs.len;!L:N < S.length:=(Zb.mp gs.at_).1;k_is;~aa (ij gs.at_) ?_;~{J.length,rfl,by lia,?_};k_is;rw[le]
 !al:(S++[Ob.lst ((Zi G.length).map λj=>D.int (Int.ofNat j))]++[Ob.lst []])[S.length]?=aw (.lst (((Zi G.length).map λj=>Int.ofNat j).map D.int)):=by
  rw[Zt (by simp),aM,ZT];rfl
 !af:(S++[Ob.lst ((Zi G.length).map λj=>D.int (Int.ofNat j))]++[Ob.lst []])[Zl (S++[Ob.lst ((Zi G.length).map λj=>D.int (Int.ofNat j))])]?=aw (.lst (([]:List Int).map D.int)):=aM;!E:Sm S (S++[Ob.lst ((Zi G.length).map λj=>D.int (Int.ofNat j))]++[Ob.lst []]):=(Sm.app _ _).trans (Sm.app _ _);!nn:S.length < Zl (S++[Ob.lst ((Zi G.length).map λj=>D.int (Int.ofNat j))]):=by simp
 generalize Zl (S++[Ob.lst ((Zi G.length).map λj=>D.int (Int.ofNat j))])=v at *;generalize S++[Ob.lst ((Zi G.length).map λj=>D.int (Int.ofNat j))]++[Ob.lst []]=S1 at *;!d1:Dr p B S1:=h.thenSm E;!fx1:Fxs p N S.length v S1 J G ((Zi G.length).map λj=>Int.ofNat j) []:=⟨gs.keep E.kp,al,af,nn,List.Perm.refl _,λj g e=>.inl (g0 g (Zd e))⟩;!sl:B.length<=S.length:=by lia
 generalize S.length=Nl at *;~aa (ij (E _ _ gs.at_)) ?_;k_is;rw[le];~{rfl,aI d1.pot (by lia) (by lia) λt S2 t1 t2 d2=>?_};~{rfl,aI d2.pot (by decide) (by decide) λz S3 z1 z2 d3=>?_};k_is
 obtain⟨c,ec,hc⟩:∃c:Nat,atI [D.int 0,D.int t] z=aw (D.int c)/\c<=G.length:=by
  !:z=0\/z=1:=by lia
  rcases this with rfl |rfl
  ·&{0,rfl,Z2 _}
  ·obtain⟨m,rfl⟩:∃m:Nat,t=(m:Int):=⟨t.toNat,by lia⟩;&{m,rfl,by lia}
 ~{_,ec,?_};k_is;~{fV (by lia) (by lia),?_};rw[ZK];~jM (by lia) (λi ρ S'=>Dr p B S'/\∃b l F U,ρ=[aw (.ref p),aw (.int 5),aw (meL r s M H),aw (.ref N),u4,u5,u6,u7,u8,u9,C,aw (.ref Nl),aw (.ref v),U,aD]/\Fxs p N Nl v S' J b l F/\F.length=i/\b.length=G.length/\∀g ∈ b,GB M.length r s g) (λi ρ S4 hi ⟨d4,b,l,F,U,er,fx,lF,lG,f⟩=>?_) (λρ S4 ⟨d4,b,l,F,U,er,fx,lF,lG,f⟩=>?_) ⟨(d1.trans d2).trans d3,G,_,[],aD,rfl,fx1.keep (d2.trans d3).kp L,rfl,rfl,gb⟩
 ·subst er;~{_,rfl,?_};k_is;!pl:F.length+l.length=b.length:=by !:=fx.pm.length_eq;rw[Ze,Za,ZC] at this;&this
  ~{cV fx.af,?_};~{cV fx.al,?_};~aa (ij fx.al) ?_;rw[Za];~{rfl,aI d4.pot (by lia) (by lia) λj0 O j1 j2 d5=>?_};obtain⟨j,rfl⟩:∃j:Nat,j0=(j:Int):=⟨j0.toNat,by lia⟩;!hj:j < l.length:=by lia
  !u:=fx.keep d5.kp L;~aa (Fy u.al hj) ?_;!I:=u.nn;!lt5:Nl < O.length:=(Zb.mp u.al).1;!ltf:v < O.length:=(Zb.mp u.af).1;!af6:(O.set Nl (.lst ((l.eraseIdx j).map D.int)))[v]?=aw (.lst (F.map D.int)):=by rw[Zx (by lia)];&u.af
  rw[jf af6 (by rw[Za];lia)];k_is;!ef:F.map D.int++[D.int l[j]]=(F++[l[j]]).map D.int:=by rw[ZF];rfl
  rw[ef]
  !pm7:((F++[l[j]])++l.eraseIdx j).Perm ((Zi b.length).map λi=>Int.ofNat i):=by
   rw[Yk];&((xT hj).append_left F).trans fx.pm
  !Z:Fxs p N Nl v ((O.set Nl (.lst ((l.eraseIdx j).map D.int))).set v (.lst ((F++[l[j]]).map D.int))) J b (l.eraseIdx j) (F++[l[j]]):=by
   ~{(u.gs.other (Zf _) L).other (by lia) L,?_,e8 (by rw[Yb];&ltf),I,pm7,λj' g e=>?_}
   ·rw[Zx (by lia),e8 lt5]
   ·rcases fx.rg j' g e with z |z
    ·&.inl z
    ·&.inr (ZW _ z)
  !d7:Dr p B ((O.set Nl (.lst ((l.eraseIdx j).map D.int))).set v (.lst ((F++[l[j]]).map D.int))):=⟨((d4.kp.trans d5.kp).setNew (by lia)).setNew (by lia),(d5.pot.setNe (by lia)).setNe (by lia)⟩;generalize (O.set Nl (.lst ((l.eraseIdx j).map D.int))).set v (.lst ((F++[l[j]]).map D.int))=S7 at *;!xb:=(pB fx.pm).2.1 l[j] (ZB _ (ZS hj));generalize l[j]=x at *;~aa (show ixS (meL r s M H) (.int 0) S7=aw (.int r,S7) from rfl) ?_;k_is;~dC (λh1=>?_) λh1=>?_
  ·k_is;!r0:=of_decide_eq_true h1;!r8:=me.r8;~{rfl,aI d7.pot (by decide) (by decide) λy S8 y1 y2 d8=>?_};k_is;!fx8:=Z.keep d8.kp L;~dC (λh2=>?_) λh2=>?_
   ·k_is;~aa (show ixS (meL r s M H) (.int 0) S8=aw (.int r,S8) from rfl) ?_;~{rfl,aI d8.pot r0 (by lia) λw S9 w1 w2 d9=>?_};k_is;!n:=fx8.keep d9.kp L;~aa (mw (ds:=F.map D.int) (e:=.int x) (by rw[n.af,ZF];rfl)) ?_;!hx:x.toNat < b.length:=by lia
    #{a,ea,n1,n2,za}:=n.gs.row x.toNat b[x.toNat] (gEG hx);~aa (jh n.gs.at_ xb.1 ea) ?_;k_is;#{kd,jo,fi,la,du,we,ri,eg,hb}:=f b[x.toNat] (ZS hx);rw[eg] at za;~{_,y6 (i:=6) za (by decide) (by show 6 < 7;decide),?_};k_is;!es9:(([kd,jo,fi,la,du,we,ri]:List Int).map D.int).set (6:Int).toNat (.int (1+w))=([kd,jo,fi,la,du,we,1+w]:List Int).map D.int:=rfl;rw[es9];~{⟨((d7.kp.trans d8.kp).trans d9.kp).setNew (by lia),d9.pot.setNe (by lia)⟩,b.set x.toNat [kd,jo,fi,la,du,we,1+w],_,_,_,rfl,⟨n.gs.setRow hx ea,?_,?_,I,by rw[Yb];&n.pm,λj' g e=>?_⟩,by rw[Ze,Zm];lia,by rw[Yb];&lG,λg Y=>?_}
    ·rw[Zx (by lia)];&n.al
    ·rw[Zx (by lia)];&n.af
    ·by_cases X:j'=x.toNat
     ·subst X;right;!:((x.toNat:Nat):Int)=x:=by lia
      rw[this];&ZB _ (ZG.mpr rfl)
     ·rw[Zx (Ne.symm X)] at e;&n.rg j' g e
    ·rcases List.mem_or_eq_of_mem_set Y with Y |rfl
     ·&f g Y
     ·&{kd,jo,fi,la,du,we,1+w,rfl,by omega}
   ·k_is;&{d7.trans d8,b,_,_,_,rfl,fx8,by rw[Ze,Zm];lia,lG,f}
  ·k_is;&{d7,b,_,_,_,rfl,Z,by rw[Ze,Zm];lia,lG,f}
 ·subst er;k_is;!pr:=pB fx.pm;!I:=fx.nn;&T _ _ b J F v Nl S4 d4 fx.gs fx.af (by lia) (by lia) f (List.Nodup.sublist (List.sublist_append_left F l) pr.1) (λy hy=>pr.2.1 y (ZW _ hy)) fx.rg
def J7(h:Pot p S)(q:∀K S',Dr p S S'->SkOk K->(∀g ∈ K.G,GB K.M.length K.r K.s g)->K.G.length<=5->Q (skE K) S'):Ok (evC ab (k+4) 50 [.ref p,.int 5] S) Q:=by
 ~av (d:=kK) (ρ:=[aw (.ref p),aw (.int 5),aD,aD,aD,aD,aD,aD,aD,aD,aD,aD,aD,aD,aD]) rfl rfl ?_;!B:=@J6 p;dsimp only[kK];dsimp only[ie,Yr] at B ⊢;k_is;~{rfl,xI h λr s M H v d1 me=>?_};rw[show(D.tup [.int r,.int s,.tup (M.map ag),.tup (H.map aj)])=meL r s M H from rfl];k_is;!L:=d1.pot.lt;!m1:=me.m1;!m4:=me.m4;!s0:=me.s0;!s60:=me.s60;!sl:S.length<=v.length:=Kp.len d1.kp L;!d2:Dr p S (v++[Ob.lst []]):=d1.thenSm (Sm.app _ _);!g2:Gs p v.length (Zl (v++[Ob.lst []])) (v++[Ob.lst []]) [] []:=⟨L,aM,rfl,λi g e=>by simp at e,λi j a e=>by simp at e⟩;generalize v++[Ob.lst []]=S2 at *;generalize v.length=N at *;~{rfl,aI d2.pot (by decide) (by decide) λY S3 j3 k3 d3=>?_};k_is
 obtain⟨wd,Z,h3⟩:∃e:Int,atI [D.int 5,D.int 20,D.int 60] Y=aw (D.int e)/\0 < e/\e<=60:=by
  !:Y=0\/Y=1\/Y=2:=by lia
  rcases this with rfl |rfl |rfl
  ·&{5,rfl,by decide,by decide}
  ·&{20,rfl,by decide,by decide}
  ·&{60,rfl,by decide,by decide}
 ~{_,Z,?_};~{rfl,aI d3.pot (by decide) (by decide) λI S4 j4 k4 d4=>?_};k_is
 obtain⟨lg,at4,h4⟩:∃e:Int,atI [D.int 4,D.int 30,D.int 90,D.int 400] I=aw (D.int e)/\0 < e/\e<=400:=by
  !:I=0\/I=1\/I=2\/I=3:=by lia
  rcases this with rfl |rfl |rfl |rfl
  ·&{4,rfl,by decide,by decide}
  ·&{30,rfl,by decide,by decide}
  ·&{90,rfl,by decide,by decide}
  ·&{400,rfl,by decide,by decide}
 ~{_,at4,?_};k_is;~{rfl,aI d4.pot (by decide) (by decide) λn0 S5 n1 n2 d5=>?_};k_is;obtain⟨n,rfl⟩:∃n:Nat,n0=(n:Int):=⟨n0.toNat,by lia⟩;~{fV (by lia) (by lia),?_};rw[ZK];!l:=(d3.trans d4).trans d5;~jM (by lia) (λi ρ S'=>Dr p S S'/\∃E G u6 u7 u8 u9 U,ρ=[aw (.ref p),aw (.int 5),aw (meL r s M H),aw (.ref N),aw (.int wd),aw (.int lg),u6,u7,u8,u9,U,aD,aD,aD,aD]/\Gs p N S'.length S' E G/\G.length=i/\∀g ∈ G,GB M.length r s g/\g.getD 6 0=0) (λi ρ S6 hi ⟨C,E,G,u6,u7,u8,u9,U,er,gs,lG,gb⟩=>?_) (λρ S6 ⟨C,E,G,u6,u7,u8,u9,U,er,gs,lG,gb⟩=>?_) ⟨d2.trans l,[],[],aD,aD,aD,aD,aD,rfl,(g2.keep l.kp).up (Kp.len l.kp l.pot.lt),rfl,λg hg=>by simp at hg⟩
 ·subst er;~{_,rfl,?_};k_is;~{rfl,aI C.pot h3.1 (by lia) λJ S7 o1 o2 d7=>?_};k_is;~aa (show ixS (meL r s M H) (.int 1) S7=aw (.int s,S7) from rfl) ?_;k_is;~{rfl,aI d7.pot (by decide) (by decide) λx S8 x1 x2 d8=>?_};~{rfl,aI d8.pot (by decide) (by decide) λz S9 z1 z2 d9=>?_};k_is
  obtain⟨e,ate,he⟩:∃e:Int,atI [D.int 0,D.int x] z=aw (D.int e)/\0<=e/\e<=9:=by
   !:z=0\/z=1:=by lia
   rcases this with rfl |rfl
   ·&{0,rfl,by decide,by decide}
   ·&{x,rfl,by lia,by lia}
  ~{_,ate,?_};k_is;~{rfl,aI d9.pot h4.1 (by lia) λa Sa a1 a2 da=>?_};k_is;~{rfl,aI da.pot h4.1 (by lia) λb T b1 b2 db=>?_};k_is;!u:=(((d7.trans d8).trans d9).trans da).trans db;!gsb:=gs.keep u.kp;~{cV gsb.at_,?_};~aa (show ixS (meL r s M H) (.int 2) T=aw (.tup (M.map ag),T) from rfl) ?_;~aa (show ak dh (.tup (M.map ag)) T=aw (.int M.length,T) by simp only[ak,ay,dh,Za]) ?_;~{rfl,aI db.pot (by lia) (by lia) λO Sc c1 c2 dc=>?_};~{rfl,aI dc.pot (by decide) (by decide) λw Sd w1 w2 dd=>?_};k_is
  obtain⟨X,atw,hw⟩:∃e:Int,atI [D.int 0,D.int 1,D.int 7,D.int 99] w=aw (D.int e)/\0<=e/\e<=99:=by
   !:w=0\/w=1\/w=2\/w=3:=by lia
   rcases this with rfl |rfl |rfl |rfl
   ·&{0,rfl,by decide,by decide}
   ·&{1,rfl,by decide,by decide}
   ·&{7,rfl,by decide,by decide}
   ·&{99,rfl,by decide,by decide}
  ~{_,atw,?_};k_is;!c:=u.trans (dc.trans dd);!f:=(gs.keep c.kp).up (Kp.len c.kp c.pot.lt);!atN:=Sm.app Sd [Ob.lst [D.int O,D.int J,D.int (J+s+e),D.int (J+s+e+a),D.int (J+b),D.int X,D.int 0]] _ _ f.at_;rw[jf atN (by rw[f.len];lia)];k_is;!sn:=f.snoc (g:=[O,J,J+s+e,J+s+e+a,J+b,X,0]);!y:=C.trans c;~{⟨(y.kp.trans (Sm.app _ _).kp).setNew (by lia),((Dr.sm y.pot (Sm.app _ _)).pot).setNe (by !:=f.pN;lia)⟩,E++[D.ref (Zl Sd)],G++[[O,J,J+s+e,J+s+e+a,J+b,X,0]],_,_,_,_,_,rfl,?_,by rw[Ze,Zm];lia,λg hg=>?_}
  ·rw[Yb,Ze,Zm];&sn
  ·rcases ZR.mp hg with hg |hg
   ·&gb g hg
   ·rw[ZG.mp hg];&{⟨O,J,J+s+e,J+s+e+a,J+b,X,0,rfl,by !:=me.r0;omega⟩,rfl}
 ·subst er;&B (hi:=0) C (by lia) gs me (by lia) (λg hg=>(gb g hg).1) (λg hg=>(gb g hg).2) q
abbrev Nr(G b:List (List Int)):Prop:=b.length=G.length/\∀ (i:Nat) g,G[i]?=aw g->∃d,0<=d/\d<=25/\b[i]?=aw (g.set 3 (g.getD 2 0+d))
def Nr.nil:Nr [] []:=⟨rfl,λi g h=>by cases h⟩
def Nr.snoc{G l:List (List Int)}{g:List Int}{d:Int}(h:Nr G l)(n:0<=d)(q:d<=25):Nr (G++[g]) (l++[g.set 3 (g.getD 2 0+d)]):=by
 ~{by rw[Ze,Ze,h.1];rfl,λi x f=>?_};by_cases hi:i < G.length
 ·rw[Zt hi] at f;#{u,a,b,c}:=h.2 i x f;&{u,a,b,by rw[Zt (by rw[h.1];&hi)];&c}
 ·!j:i=G.length:=by
   !:=(Zb.mp f).1;rw[Ze,Zm] at this
   lia
  subst j;rw[Zp (Zf _),ZY] at f;cases f;&{d,n,q,by rw[<-h.1,Zp (Zf _),ZY];rfl}
def J8(l:SkOk K)(gb:∀g ∈ K.G,GB K.M.length K.r K.s g){n:List (List Int)}(h:Nr K.G n):SkOk { K with G:=n }:=by
 !b:∀ (i:Nat) c,n[i]?=aw c->∃g d,K.G[i]?=aw g/\0<=d/\d<=25/\c=g.set 3 (g.getD 2 0+d):=λi c e=>by
  !hi:i < K.G.length:=by rw[<-h.1];&(Zb.mp e).1
  #{d,u,q,z}:=h.2 i _ (gEG hi);rw[e] at z;cases z;&{_,d,gEG hi,u,q,rfl}
 ~{l.me,by show n.length<=7;rw[h.1];&l.g7,λc f=>?_,l.nd,λx L=>by show _/\x < (n.length:Int);rw[h.1];&l.bd x L,λj c f=>?_,l.ah}
 ·#{i,hi}:=YF f;#{g,d,e,u,q,rfl}:=b i c hi;#{y,J,v,O,B,I,C,E,hb}:=gb g (Zd e);subst E;!s0:=l.me.s0;&{y,J,v,v+d,B,I,C,rfl,by dsimp only;omega}
 ·#{g,d,e,u,q,rfl}:=b j c f;#{y,J,v,O,B,I,C,E,hb}:=gb g (Zd e);!:=l.rg j g e;subst E;&this
def xU(h:Pot p S)(q:∀K S',Dr p S S'->SkOk K->K.G.length<=5->Q (skE K) S'):Ok (evC ab (k+5) 61 [.ref p] S) Q:=by
 ~av (d:=eZ) (ρ:=[aw (.ref p),aD,aD,aD,aD,aD,aD]) rfl rfl ?_;dsimp only[eZ,iJ];k_is;~{rfl,J7 (k:=k) h λK S1 J sk gb Z=>?_};k_is;show wTp _ (.tup [meE K,ahE K.ah,.tup (K.G.map ag),.tup (K.F.map D.int)]) _ _;k_is;~{rfl,aI J.pot (by decide) (by decide) λw S2 w0 w1 C=>?_};k_is
 obtain⟨fr,v,h3⟩:∃e:Int,atI [D.int 1,D.int 4,D.int 25] w=aw (D.int e)/\0 < e/\e<=25:=by
  !:w=0\/w=1\/w=2:=by lia
  rcases this with rfl |rfl |rfl
  ·&{1,rfl,by decide,by decide}
  ·&{4,rfl,by decide,by decide}
  ·&{25,rfl,by decide,by decide}
 ~{_,v,?_};k_is;~oQ K.G.length (λi=>((K.G.map ag)[i]?).getD .non) (λi j S'=>Dr p S2 S'/\∃b:List (List Int),j=b.map ag/\Nr (K.G.take i) b) (λi j S' hi _=>?_) (by lia) (λi j f hi y=>?_) (λes f z=>?_) ⟨Dr.refl C.pot,[],rfl,Nr.nil⟩
 ·show aw ((K.G.map ag)[i]?)=_;by_cases c:i < K.G.length
  ·rw[if_pos c,gEG (by rw[Za];&c)];rfl
  ·rw[if_neg c,Zw (by rw[Za];lia)]
 ·#{u,b,E,n}:=y;!hg:K.G[i]?=aw K.G[i]:=gEG hi;#{I,O,B,L,T,Y,X,U,_}:=gb K.G[i] (ZS hi);!ez:((K.G.map ag)[i]?).getD .non = .tup [.int I,.int O,.int B,.int L,.int T,.int Y,.int X]:=by rw[Zq,hg,U];rfl
  rw[ez];~{_,rfl,?_};k_is;~aa (show ixS (.tup [.int I,.int O,.int B,.int L,.int T,.int Y,.int X]) (.int 2) f=aw (.int B,f) from rfl) ⟨rfl,aI u.pot h3.1 (by lia) λx S4 x0 x1 d4=>?_⟩;k_is;~{show 3+1<=1000 by decide,show 4+3<=1000 by decide,u.trans d4,b++[K.G[i].set 3 (K.G[i].getD 2 0+x)],?_,?_}
  ·rw[E,ZF,U];rfl
  ·rw[Z6 hi];&Nr.snoc n x0 (by lia)
 ·#{u,b,E,n}:=z;rw[Yx] at n;subst E;~{by rw[Za,n.1];lia,?_};k_is;~aa (show ak cO (.ref f.length) (f++[Ob.lst (b.map ag)])=aw (.tup (b.map ag),f++[Ob.lst (b.map ag)]) by simp only[ak,ay,aB (ZA (l:=f) (a:=Ob.lst (b.map ag)))];rfl) ?_;k_is;&q { K with G:=b } _ ((J.trans (C.trans u)).thenSm (Sm.app _ _)) (J8 sk gb n) (by show b.length<=5;rw[n.1];&Z)
end Lw
namespace Lw
open PySem Ev L2
variable {p:Nat} {S:Sto} {k:Nat} {Q:D->Sto->Prop}
def Fz{c:Nat}:∀ {ts:List Dw.D},(∀t ∈ ts,Dw.sz t<=c)->Dw.szL ts<=ts.length * (c+2)
 |[],_=>by simp[Dw.szL]
 |t::ts,h=>by
  !f:=h t Zj;!d:=Fz (ts:=ts) λT b=>h T (Zg _ b);rw[Dw.szL,Zo,XU]
  lia
structure Shw(t:Dw.D):Prop where
 sh:Dw.Shn t
 de:Dw.dep t<=50
 wi:Dw.wid t<=1000
def QZ{n m B s:Nat}{t:Dw.D}(f:Dw.Fit n m t)(b:Dw.Bd B s t)(c:n<=50)(d:m<=1000)(h:B<=10 ^ 50)(hs:s<=16000000):Shw t:=
 ⟨b.shn h (by rw[ZaO];lia) (ZJ f.de (by lia)),ZJ f.de c,ZJ f.wi d⟩
mutual
theorem zt{S:Sto}:∀ (n:Nat) {t:Dw.D} {d:D},Dw.dep t < n->TD p S t d->dS n S d=aw t
 |n+1,.non,_,_,h=>by rw[h.non];simp only[dS]
 |n+1,.bl _,_,_,h=>by rw[h.bl];simp only[dS]
 |n+1,.int _,_,_,h=>by rw[h.int];simp only[dS]
 |n+1,.str _,_,_,h=>by rw[h.str];simp only[dS]
 |n+1,.tup ts,_,hd,h=>by
  #{b,rfl,q}:=h.tup;rw[Dw.dep] at hd;simp only[dS,pC n (by lia) q,ZL]
 |n+1,.lst ts,_,hd,h=>by
  rw[TD] at h;#{m,b,rfl,_,e,q}:=h;rw[Dw.dep] at hd;simp only[dS,e,pC n (by lia) q,ZL]
 |n+1,.dic ks ts,_,hd,h=>by rw[TD] at h;&h.elim
theorem pC{S:Sto}:∀ (n:Nat) {T:List Dw.D} {b:List D},Dw.lV T < n->TDs p S T b->fZ (dS n S) b=aw T
 |n,[],_,_,h=>by rw[h.nil];simp only[fZ]
 |n,t::T,_,hd,h=>by
  #{d,r,rfl,a,q}:=h.cons;rw[Dw.lV] at hd;simp only[fZ,zt n (by lia) a,pC n (by lia) q]
end
def td{t:Dw.D}{d:D}(h:TD p S t d)(s:Shw t):nP d S=aw (.str (Dw.bc t).shown,S):=by
 unfold nP;rw[zt 100 (by !:=s.de;lia) h];dsimp only;rw[if_pos s.sh]
def zu(x y:Str)(S:Sto):ao .ne (.str x) (.str y) S=aw (.bl (!(x == y)),S):=pX rfl
end Lw
namespace Lw
open PySem Ev Sn L2
variable {p:Nat} {S S':Sto} {k:Nat} {Q:D->Sto->Prop} {K:Sky}
abbrev cC(w:Nat):Nat->Nat
 |0=>100
 |n+1=>w * (cC w n+2)+100
structure PB(w n:Nat)(t:Dw.D):Prop where
 ft:Dw.Fit n w t
 bd:Dw.Bd (10 ^ 31) (cC w n) t
variable {w:Nat}
def Ur{n:Nat}(h:1<=w):cC w n<=cC w (n+1):=by rw[cC];&ZJ (by lia) (Nat.add_le_add_right (YZ _ h) _)
def PB.up{n:Nat}{t:Dw.D}(h:PB w n t)(b:1<=w:=by decide):PB w (n+1) t:=⟨h.ft.up (YM _) (Zf _),h.bd.bn,ZJ h.bd.sz (Ur b)⟩
def PB.tup{n:Nat}{T:List Dw.D}(d:T.length<=w)(h:∀t ∈ T,PB w n t):PB w (n+1) (.tup T):=by
 ~{Dw.Fit.tup d λt b=>(h t b).ft,Dw.Mj (λt b=>(h t b).bd.bn) ?_};!:=Fz (c:=cC w n) λt b=>(h t b).bd.sz;!f:T.length * (cC w n+2)<=w * (cC w n+2):=YZ _ d;rw[cC]
 lia
def zv{t:Dw.D}(hd:Dw.dep t=0)(h:Dw.wid t=0)(hb:Dw.bnd (10 ^ 31) t)(hs:Dw.sz t<=100):PB w 0 t:=⟨⟨by lia,by lia⟩,hb,hs⟩
def xV{i:Int}(h:0<=i/\i<=99999999):PB w 0 (.int i):=zv (by simp only[Dw.dep]) (by simp only[Dw.wid]) (by simp only[Dw.bnd];lia) (by simp only[Dw.sz];decide)
def Vf:PB w 0 .non:=zv (by simp only[Dw.dep]) (by simp only[Dw.wid]) (by simp only[Dw.bnd]) (by simp only[Dw.sz];decide)
def PB.shw{n:Nat}{t:Dw.D}(h:PB w n t)(b:n<=50:=by decide)(c:w<=1000:=by decide)(d:cC w n<=16000000:=by decide):Shw t:=QZ h.ft h.bd b c (by decide) d
def tj{l:List Int}(h:∀x ∈ l,0<=x/\x<=9999)(d:l.length<=w):PB w 1 (.tup (l.map Dw.D.int)):=PB.tup (by rw[Za];&d) λt c=>by
 #{x,b,rfl}:=Zz.mp c;&xV (by !:=h x b;lia)
def xW{M:List (List Int)}(d:M.length<=w)(h:∀r ∈ M,r.length<=w/\∀x ∈ r,0<=x/\x<=9999):PB w 2 (.tup (Dw.iR M)):=PB.tup (by unfold Dw.iR;rw[Za];&d) λt b=>by
 unfold Dw.iR at b;#{r,c,rfl}:=Zz.mp b;&tj (h r c).2 (h r c).1
def FA{a b:Int}(c:0<=a/\a<=9999)(h:0<=b/\b<=9999):PB 14 1 (.tup [.int a,.int b]):=tj (l:=[a,b]) (λx hx=>by
 rcases Zn.mp hx with rfl |hx
 ·&c
 ·rw[ZG.mp hx];&h) (by show 2<=14;decide)
def cM{n:Nat}{t:Dw.D}{T:List Dw.D}(h:PB w n t)(q:∀t ∈ T,PB w n t):∀u ∈ t::T,PB w n u:=λu hu=>by
 rcases Zn.mp hu with rfl |hu
 ·&h
 ·&q u hu
def xX{n:Nat}:∀u ∈ ([]:List Dw.D),PB w n u:=λu h=>by cases h
def J9(h:SkOk K):Shw (skT K):=by
 !g7:=h.g7;!m4:=h.me.m4;!h4:=h.me.h4;!r8:=h.me.r8;!r0:=h.me.r0;!s60:=h.me.s60;!s0:=h.me.s0;!L:=Dw.cg K.G.length K.F h.nd h.bd;!c:PB 14 2 (.tup (Dw.iR K.M)):=xW (by lia) λr l=>⟨by rw[h.me.mat.row r l];lia,λx f=>by !:=h.me.mat.ent r l x f;lia⟩
 !d:PB 14 2 (.tup (Dw.iR K.G)):=xW (by lia) λr l=>by
  #{B,J,I,C,E,T,O,rfl,hb}:=h.gb r l;~{by show 7<=14;decide,λx f=>?_};simp only[Zn,XQ,or_false] at f;omega
 !j:PB 14 2 (.tup (K.H.map Dw.qm)):=PB.tup (by rw[Za];lia) λt y=>by
  #{z,u,rfl}:=Zz.mp y;!a:=mD h.me.ris u;!b:=h.me.hb z u;&FA (by lia) (by lia)
 !q:PB 14 1 (.tup (K.F.map Dw.D.int)):=tj (λx f=>by !:=h.bd x f;lia) (by lia)
 !ah:PB 14 1 (ahT K.ah):=by
  cases v:K.ah with
  |none=>&Vf.up
  |some z=>
   !:=h.ah z v;&FA (by lia) (by lia)
 &(PB.tup (n:=3) (by show 4<=14;decide) (cM (PB.tup (by show 4<=14;decide) (cM (xV (by lia)).up.up (cM (xV (by lia)).up.up (cM c (cM j xX))))) (cM ah.up.up (cM d.up (cM q.up.up xX))))).shw
def PB.lst{n:Nat}{T:List Dw.D}(h:PB w n (.tup T)):PB w n (.lst T):=⟨h.ft.lst,Dw.Ml h.bd⟩
abbrev zw(A B:List (List Int)):Dw.D:=.lst [.lst (Dw.iR A),.lst (Dw.iR B)]
def zx{c:List Int->Bool}(d:K.G.length<=5):PB 32 2 (.tup (Dw.iR (pk c (slots K.G.length) []))):=by
 #{j,l}:=pA (c:=c) d;~xW j λr b=>⟨by !:=l r b;lia,λx f=>?_⟩;rcases sX _ _ b with h |⟨h,_⟩
 ·cases h
 ·!:=(cZ _ _ (Q1.mp h)).2 x f
  lia
def FB(h:K.G.length<=5):Shw (zw (stk K) (snt K)):=(PB.tup (w:=32) (n:=2) (by show 2<=32;decide) (cM (zx h).lst (cM (zx h).lst xX))).lst.shw
def zy{m a b:Nat}{A B:List (List Int)}(c:∃o,S[0]?=aw (.frz o))(f:S[m]?=aw (.lst [.ref a,.ref b]))(d:S[a]?=aw (.lst (A.map ag)))(hb:S[b]?=aw (.lst (B.map ag))):TD 0 S (zw A B) (.ref m):=by
 #{o,c}:=c;!ne:∀ {j ds},S[j]?=aw (Ob.lst ds)->j ≠ 0:=λ{j ds} h e=>by rw[e,c] at h;cases h
 &xv (ne f) f (au (xv (ne d) d (e9 A)) (au (xv (ne hb) hb (e9 B)) bP))
end Lw
namespace Lw
open PySem Ev Sn L2
variable {p:Nat} {S S':Sto} {k:Nat} {Q:D->Sto->Prop} {K:Sky}
abbrev vV(ns:List Int)(S:Sto):Prop:=S[0]?=aw (.frz (ns.map D.int))/\J1 S
def Ka{n:Nat}{b:List D}{d:D}(h:S[n]?=aw (.lst b))(c:b.length<=1000):w4 (.ref n) [.int 0,d] S=aw (.non,S.set n (.lst (d::b))):=by
 simp only[w4,chg,h];rw[if_pos ⟨by decide,by decide⟩,if_pos (by lia)];unfold kZ;simp
def vV.keep{ns:List Int}(h:vV ns S)(s:Sm S S'):vV ns S':=⟨s _ _ h.1,s _ _ h.2⟩
def main(ns:List Int)(hl:ns.length<=63):∃S',evC ab 40 64 [.ref 0] [.frz (ns.map D.int),.tbl "all_lots" kz.2.1 kz.2.2]=aw (.bl aN,S'):=by
 !key:Ok (evC ab 40 64 [.ref 0] [.frz (ns.map D.int),.tbl "all_lots" kz.2.1 kz.2.2]) λd _=>d = .bl aN:=by
  ~av (d:=yS) (ρ:=[aw (.ref 0),aD,aD,aD,aD,aD,aD,aD,aD]) rfl rfl ?_;!b0:vV ns [.frz (ns.map D.int),.tbl "all_lots" kz.2.1 kz.2.2]:=⟨rfl,rfl⟩;generalize [Ob.frz (ns.map D.int),Ob.tbl "all_lots" kz.2.1 kz.2.2]=S0 at *;dsimp only[yS,K2];k_is;!ln:ak dh (.ref 0) S0=aw (.int ns.length,S0):=by simp only[ak,ay,aR,b0.1,ZL,dh,Za]
  ~aa ln ?_;k_is
  obtain⟨n,en,hn⟩:∃n:Nat,(if (if (3:Int) < ns.length then (3:Int) else ns.length) > 1 then (if (3:Int) < ns.length then (3:Int) else ns.length) else 1)=(n:Int)/\n<=3:=by
   ~{(if (if (3:Int) < ns.length then (3:Int) else ns.length) > 1 then (if (3:Int) < ns.length then (3:Int) else ns.length) else 1).toNat,?_,?_}
   ·split <;> split <;> omega
   ·split <;> split <;> omega
  rw[en];~{fV (by lia) (by lia),?_};rw[ZK];~jM (by lia) (λi q S'=>vV ns S'/\∃a b c d e f g h,q=[aw (.ref 0),a,b,c,d,e,f,g,h]) (λi q E hi I=>?_) (λq E I=>?_) ⟨b0,_,_,_,_,_,_,_,_,rfl⟩
  ·#{Y,a,b,c,d,e,f,g,h,rfl}:=I;~{_,rfl,?_};rw[XW];k_is;~{rfl,Js (k:=38) Y.1 λx=>?_};~{rfl,QA (k:=38) λm=>?_};!n0:1 < E.length:=(Zb.mp Y.2).1;!h2:vV ns (E++[Ob.lst [D.int m]]):=⟨Sm.app _ _ _ _ Y.1,Sm.app _ _ _ _ Y.2⟩;!pt:Pot E.length (E++[Ob.lst [D.int m]]):=⟨m,aM⟩;generalize E++[Ob.lst [D.int m]]=S2 at *;generalize E.length=p at *;k_is;~{rfl,xU (k:=34) pt λK S3 d3 sk O=>?_};!h3:vV ns S3:=⟨d3.kp _ _ (by lia) h2.1,d3.kp _ _ (by lia) h2.2⟩;k_is;!rs:=λS=>td (p:=0) (S:=S) (Ud (K:=K)) (J9 sk);!rl:=FB (K:=K) O;~aa (rs S3) ⟨rfl,QY (k:=33) sk O λm a b S4 s4 hm ha hb=>?_⟩;!h4:=h3.keep s4;~aa (td (zy ⟨_,h4.1⟩ hm ha hb) rl) ?_;generalize (Dw.bc (skT K)).shown=w1 at *;k_is;~{by decide,?_};~jM (by decide) (λ_ q S'=>vV ns S'/\∃f g h,q=[aw (.ref 0),aw (D.int i),aw (.ref p),aw (skE K),aw (.str w1),aw (.str (Dw.bc (zw (stk K) (snt K))).shown),f,g,h]) (λt q S5 ht I=>?_) (λq S5 I=>?_) ⟨h4,_,_,_,rfl⟩
   ·#{B,f,g,h,rfl}:=I;~{_,rfl,?_};k_is;~{rfl,vQ (k:=14) sk O B.2 λm1 S6 s6 l6 e6=>?_};!h6:=B.keep s6;~{rfl,J3 (k:=13) sk O h6.2 λu C s7 l7 e7=>?_};!h7:=h6.keep s7;k_is;!U:=s7 _ _ e6;!h8:=h7.keep (Sm.app C [Ob.lst [.ref m1,.ref u]]);!L:(C++[Ob.lst [.ref m1,.ref u]])[C.length]?=aw (Ob.lst [.ref m1,.ref u]):=ZA;!a8:=Sm.app C [Ob.lst [.ref m1,.ref u]] _ _ U;!b8:=Sm.app C [Ob.lst [.ref m1,.ref u]] _ _ e7;!lt1:=(Zb.mp U).1;!lt2:=(Zb.mp e7).1;generalize C++[Ob.lst [.ref m1,.ref u]]=S8 at *;~aa (td (zy ⟨_,h8.1⟩ L a8 b8) rl) (aa (zu _ _ S8) ?_);rw[beq_self_eq_true];k_is;~aa (rs S8) (aa (zu _ _ S8) ?_);rw[beq_self_eq_true];k_is;~{by rw[aB L];rfl,?_};!sl1:=(pA (c:=λl=>!lnd K l) O).1;!sl2:=(pA (c:=λl=>lnd K (bD K.G.length l)) O).1;~vG (by show 2<=100000;decide) (λj q v=>vV ns v/\v[C.length]?=aw (Ob.lst [.ref m1,.ref u])/\(∀y,y=m1\/y=u->∃ds,v[y]?=aw (.lst ds)/\ds.length<=32+j)/\∃h,q=[aw (.ref 0),aw (D.int i),aw (.ref p),aw (skE K),aw (.str w1),aw (.str (Dw.bc (zw (stk K) (snt K))).shown),aw (D.int (0+t)),aw (.ref C.length),h]) (λj q v I=>I.2.1) (λj d q v hd I=>?_) (λq v I=>?_) ⟨h8,L,λy Z=>?_,_,rfl⟩
    ·#{T,X,ls,h,rfl}:=I;!hj:j < 2:=(Zb.mp hd).1
     obtain⟨y,rfl,Z⟩:∃y,d = .ref y/\(y=m1\/y=u):=by
      match j,hd with
      |0,hd=>cases hd;&{m1,rfl,.inl rfl}
      |1,hd=>cases hd;&{u,rfl,.inr rfl}
     #{ds,J,ly}:=ls y Z;!ny:y < C.length:=by rcases Z with rfl |rfl <;> assumption
     !lt:=(Zb.mp J).1;!kp:∀ (z:Nat) o,z ≠ y->v[z]?=aw o->(v.set y (.lst (.tup [.int 7]::ds)))[z]?=aw o:=λz o n e=>by rw[Zx (Ne.symm n)];&e
     ~{_,rfl,?_};k_is;~{by show(aR v y).isSome=aN;rw[aB J];rfl,aa (Ka J (by lia)) ?_};k_is;~{⟨kp _ _ (λz=>by rw[<-z,T.1] at J;cases J) T.1,kp _ _ (λz=>by rw[<-z,T.2] at J;cases J) T.2⟩,kp _ _ (by lia) X,λz hz=>?_,_,rfl};by_cases e:z=y
     ·subst e;&{_,ZV lt,by rw[Zo];lia}
     ·#{ds',e',l'}:=ls z hz;&{ds',kp _ _ e e',by lia}
    ·#{T,X,ls,h,rfl}:=I;k_is;&{T,_,_,_,rfl}
    ·rcases Z with rfl |rfl
     ·&{_,a8,by rw[Za];&sl1}
     ·&{_,b8,by rw[Za];&sl2}
   ·#{B,f,g,h,rfl}:=I;k_is;&{B,_,_,_,_,_,_,_,_,rfl}
  ·#{Y,a,b,c,d,e,f,g,h,rfl}:=I;k_is
 #{d,S',e,rfl}:=key;&{S',e}
end Lw
theorem PySem.Challenge.cw_downrings_k53_least_stuck_and_least_send_holds : PySem.Challenge.rw_downrings_k53_least_stuck_and_least_send.Holds :=
 Lw.head Lw.main
