import PyProof.Rows.All
import KE.KIsAll
import KE.KMinBuiltin
import KE.KRevSl
import KE.KSortTup
import KE.KStateDown
import PySem.Challenge.RW_downrings_k38_whole_no_landings_do_bette
set_option Elab.async false
set_option linter.all false
set_option maxRecDepth 100000
set_option maxHeartbeats 4000000
local macro_rules|`(abbrev $n:declId $s:optDeclSig $v:declVal)=>`(noncomputable def $n $s:optDeclSig $v:declVal)
local macro_rules|`(def $n:declId $s:optDeclSig $v:declVal)=>do let d:=⟨Lean.mkNode `Lean.Parser.Command.declSig #[s.raw[0],s.raw[1][0]]⟩;`(theorem $n $d $v:declVal)
open Option renaming some → aw,none → aD
open Bool renaming true → aN,false → aS
namespace Xobt
variable{P:Prop}
def ex1{p:A→Prop}(h:∃a,p a)(k:∀a,p a→P):P:=let⟨a,h⟩:=h;k a h
def ex2{p:A→B→Prop}(h:∃a b,p a b)(k:∀a b,p a b→P):P:=let⟨a,b,h⟩:=h;k a b h
def ex3{p:A→B→C→Prop}(h:∃a b c,p a b c)(k:∀a b c,p a b c→P):P:=let⟨a,b,c,h⟩:=h;k a b c h
def ex4{p:A→B→C→D→Prop}(h:∃a b c d,p a b c d)(k:∀a b c d,p a b c d→P):P:=let⟨a,b,c,d,h⟩:=h;k a b c d h
def ex5{p:A→B→C→D→E→Prop}(h:∃a b c d e,p a b c d e)(k:∀a b c d e,p a b c d e→P):P:=let⟨a,b,c,d,e,h⟩:=h;k a b c d e h
def ex6{p:A→B→C→D→E→F→Prop}(h:∃a b c d e f,p a b c d e f)(k:∀a b c d e f,p a b c d e f→P):P:=let⟨a,b,c,d,e,f,h⟩:=h;k a b c d e f h
def ex7{p:A→B→C→D→E→F→G→Prop}(h:∃a b c d e f g,p a b c d e f g)(k:∀a b c d e f g,p a b c d e f g→P):P:=let⟨a,b,c,d,e,f,g,h⟩:=h;k a b c d e f g h
def ex8{p:A→B→C→D→E→F→G→I→Prop}(h:∃a b c d e f g i,p a b c d e f g i)(k:∀a b c d e f g i,p a b c d e f g i→P):P:=let⟨a,b,c,d,e,f,g,i,h⟩:=h;k a b c d e f g i h
def ex9{p:A→B→C→D→E→F→G→I→J→Prop}(h:∃a b c d e f g i j,p a b c d e f g i j)(k:∀a b c d e f g i j,p a b c d e f g i j→P):P:=let⟨a,b,c,d,e,f,g,i,j,h⟩:=h;k a b c d e f g i j h
def ex10{p:A→B→C→D→E→F→G→I→J→L→Prop}(h:∃a b c d e f g i j l,p a b c d e f g i j l)(k:∀a b c d e f g i j l,p a b c d e f g i j l→P):P:=let⟨a,b,c,d,e,f,g,i,j,l,h⟩:=h;k a b c d e f g i j l h
def an2(h:a∧b)(k:a→b→P):P:=k h.1 h.2
def an3(h:a∧b∧c)(k:a→b→c→P):P:=k h.1 h.2.1 h.2.2
def an4(h:a∧b∧c∧d)(k:a→b→c→d→P):P:=k h.1 h.2.1 h.2.2.1 h.2.2.2
def an5(h:a∧b∧c∧d∧e)(k:a→b→c→d→e→P):P:=k h.1 h.2.1 h.2.2.1 h.2.2.2.1 h.2.2.2.2
def an6(h:a∧b∧c∧d∧e∧f)(k:a→b→c→d→e→f→P):P:=k h.1 h.2.1 h.2.2.1 h.2.2.2.1 h.2.2.2.2.1 h.2.2.2.2.2
def an7(h:a∧b∧c∧d∧e∧f∧g)(k:a→b→c→d→e→f→g→P):P:=k h.1 h.2.1 h.2.2.1 h.2.2.2.1 h.2.2.2.2.1 h.2.2.2.2.2.1 h.2.2.2.2.2.2
def an8(h:a∧b∧c∧d∧e∧f∧g∧i)(k:a→b→c→d→e→f→g→i→P):P:=k h.1 h.2.1 h.2.2.1 h.2.2.2.1 h.2.2.2.2.1 h.2.2.2.2.2.1 h.2.2.2.2.2.2.1 h.2.2.2.2.2.2.2
def an9(h:a∧b∧c∧d∧e∧f∧g∧i∧j)(k:a→b→c→d→e→f→g→i→j→P):P:=k h.1 h.2.1 h.2.2.1 h.2.2.2.1 h.2.2.2.2.1 h.2.2.2.2.2.1 h.2.2.2.2.2.2.1 h.2.2.2.2.2.2.2.1 h.2.2.2.2.2.2.2.2
def an13(h:a∧b∧c∧d∧e∧f∧g∧i∧j∧l∧m∧n∧o)(k:a→b→c→d→e→f→g→i→j→l→m→n→o→P):P:=k h.1 h.2.1 h.2.2.1 h.2.2.2.1 h.2.2.2.2.1 h.2.2.2.2.2.1 h.2.2.2.2.2.2.1 h.2.2.2.2.2.2.2.1 h.2.2.2.2.2.2.2.2.1 h.2.2.2.2.2.2.2.2.2.1 h.2.2.2.2.2.2.2.2.2.2.1 h.2.2.2.2.2.2.2.2.2.2.2.1 h.2.2.2.2.2.2.2.2.2.2.2.2
def in2{p:A→B→Prop}(a:A)(b:B)(h:p a b):∃a b,p a b:=⟨a,b,h⟩
def in3{p:A→B→C→Prop}(a:A)(b:B)(c:C)(h:p a b c):∃a b c,p a b c:=⟨a,b,c,h⟩
def in4{p:A→B→C→D→Prop}(a:A)(b:B)(c:C)(d:D)(h:p a b c d):∃a b c d,p a b c d:=⟨a,b,c,d,h⟩
def in5{p:A→B→C→D→E→Prop}(a:A)(b:B)(c:C)(d:D)(e:E)(h:p a b c d e):∃a b c d e,p a b c d e:=⟨a,b,c,d,e,h⟩
def in6{p:A→B→C→D→E→F→Prop}(a:A)(b:B)(c:C)(d:D)(e:E)(f:F)(h:p a b c d e f):∃a b c d e f,p a b c d e f:=⟨a,b,c,d,e,f,h⟩
def in7{p:A→B→C→D→E→F→G→Prop}(a:A)(b:B)(c:C)(d:D)(e:E)(f:F)(g:G)(h:p a b c d e f g):∃a b c d e f g,p a b c d e f g:=⟨a,b,c,d,e,f,g,h⟩
def in8{p:A→B→C→D→E→F→G→I→Prop}(a:A)(b:B)(c:C)(d:D)(e:E)(f:F)(g:G)(i:I)(h:p a b c d e f g i):∃a b c d e f g i,p a b c d e f g i:=⟨a,b,c,d,e,f,g,i,h⟩
def in9{p:A→B→C→D→E→F→G→I→J→Prop}(a:A)(b:B)(c:C)(d:D)(e:E)(f:F)(g:G)(i:I)(j:J)(h:p a b c d e f g i j):∃a b c d e f g i j,p a b c d e f g i j:=⟨a,b,c,d,e,f,g,i,j,h⟩
def in10{p:A→B→C→D→E→F→G→I→J→L→Prop}(a:A)(b:B)(c:C)(d:D)(e:E)(f:F)(g:G)(i:I)(j:J)(l:L)(h:p a b c d e f g i j l):∃a b c d e f g i j l,p a b c d e f g i j l:=⟨a,b,c,d,e,f,g,i,j,l,h⟩
def in12{p:A→B→C→D→E→F→G→I→J→L→M→N→Prop}(a:A)(b:B)(c:C)(d:D)(e:E)(f:F)(g:G)(i:I)(j:J)(l:L)(m:M)(n:N)(h:p a b c d e f g i j l m n):∃a b c d e f g i j l m n,p a b c d e f g i j l m n:=⟨a,b,c,d,e,f,g,i,j,l,m,n,h⟩
end Xobt
local macro_rules
|`(tactic|obtain⟨$ps,*⟩:=$e:term)=>do
 let ps:=ps.getElems
 let n:=ps.size
 if n<2 then Lean.Macro.throwUnsupported
 let I (s:String):Lean.MacroM (Lean.TSyntax `ident):=return Lean.mkIdent (Lean.Name.mkSimple s)
 let mut vs:Array (Lean.TSyntax `ident):=#[]
 let mut sb:Array (Lean.TSyntax `tactic):=#[]
 for p in ps do
  let y ← I s!"ξ{vs.size}"
  match p with
  |`(Lean.Parser.Tactic.rcasesPatLo|$x:ident)=>
   if x.getId==`rfl then
    vs:=vs.push y
    sb:=sb.push (← `(tactic|subst $y))
   else vs:=vs.push x
  |`(Lean.Parser.Tactic.rcasesPatLo|_)=>vs:=vs.push y
  |_=>Lean.Macro.throwUnsupported
 let z ← I "ξ"
 let w ← I "ζ"
 let N (s:String):=Lean.mkIdent (`Xobt++Lean.Name.mkSimple s)
 let mk (e:Lean.TSyntax `term)(c:Array (Lean.TSyntax `tactic)):Lean.MacroM (Lean.TSyntax `tactic):=do
  let mut al:=#[]
  for i in [0:n] do
   let k:=n-1-i
   let m:=n-k
   if k>16||m>18 then continue
   let a:=vs.extract 0 k
   let b:=vs.extract k n
   let E:=N s!"ex{k}"
   let A:=N s!"an{m}"
   al:=al.push (← if k==0 then `(tacticSeq|(refine $A $e λ$b*=>?_;$[$c]*)) else if m==1 then `(tacticSeq|(refine $E $e λ$vs*=>?_;$[$c]*)) else `(tacticSeq|(refine $E $e λ$a* $z=>$A $z λ$b*=>?_;clear $z;$[$c]*)))
  al:=al.push (← `(tacticSeq|fail))
  `(tactic|first $[| $al]*)
 let t ← mk e sb
 if e.raw.isIdent then
  let i:Lean.TSyntax `ident:=⟨e.raw⟩
  let s ← mk w (#[← `(tactic|clear $w)]++sb)
  `(tactic|first|(revert $i;intro $w:ident;$s:tactic)|$t:tactic)
 else return t
|`(tactic|exact⟨$ps,*⟩)=>do
 let ps:=ps.getElems
 let n:=ps.size
 if n<3 then Lean.Macro.throwUnsupported
 let mut al:=#[]
 for i in [1:n-1] do
  let k:=n-i
  if k>12 then continue
  let a:=ps.extract 0 k
  let b:=ps.extract k n
  let E:=Lean.mkIdent (`Xobt++Lean.Name.mkSimple s!"in{k}")
  let r ← if b.size==1 then pure b[0]! else `(⟨$b,*⟩)
  al:=al.push (← `(tacticSeq|exact $E $a* $r))
 `(tactic|first $[| $al]*)
|`(tactic|refine⟨$ps,*⟩)=>do
 let ps:=ps.getElems
 let n:=ps.size
 if n<3 then Lean.Macro.throwUnsupported
 let mut al:=#[]
 for i in [1:n-1] do
  let k:=n-i
  if k>12 then continue
  let a:=ps.extract 0 k
  let b:=ps.extract k n
  let E:=Lean.mkIdent (`Xobt++Lean.Name.mkSimple s!"in{k}")
  let r ← if b.size==1 then pure b[0]! else `(⟨$b,*⟩)
  al:=al.push (← `(tacticSeq|refine $E $a* $r))
 `(tactic|first $[| $al]*)
open List renaming length_map → Za, getElem?_eq_some_iff → Zb, mem_of_getElem? → Zc, length → Zd, length_append → Zh, mem_cons_of_mem → Zi, mem_cons_self → Zj, range → Zk, size_toArray → Zl, getElem?_append_right → Zm, mem_cons → Zn, length_cons → Zo, getElem?_map → Zp, getElem?_append_left → Zq, length_singleton → Zr, getElem?_eq_none → Zs, mem_map → Zu, getElem?_set_ne → Zv, map_cons → Zw, replicate → Zx, mem_append_right → Zz, getD_eq_getElem?_getD → ZE, map_append → ZF, length_range → ZG, getElem_mem → ZJ, map_map → ZL, mem_singleton → ZM, append_nil → ZN, mem_range → ZO, mem_filter → ZQ, mem_append → ZS, length_eq_zero_iff → ZT, getElem?_set_self → ZU, take_succ_eq_append_getElem → ZX, length_set → ZY, getElem?_of_mem → ZZ, length_nil → Z1, append_assoc → Z2, mem_append_left → Z3, pairwise_cons → Z4, mem_of_mem_take → Z5, nodup_cons → Z6, getElem?_eq_none_iff → Z8, length_take → Yb, filter_cons → Yc, eraseIdx_cons_succ → Yd, take_of_length_le → Ye, replicate_succ → Yg, map_congr_left → Yh, length_filter_le → Yj, all_eq_true → Yk, zip_cons_cons → Yl, prefix_refl → Ym, map_nil → Yn, map_take → Yp, length_reverse → Yq, all_cons → Yr, mem_flatMap → Ys, drop → Yu, flatten_cons → Yv, getElem?_set → Yw, nodup_append → Yx, getElem?_range → Yz, getElem?_replicate → YA, lookup_cons → YB, getElem?_cons_succ → YC, mem_filterMap → YE, prefix_append → YF, find?_cons → YH, any_cons → YI, pairwise_map → YJ, getLast?_append → YL, take_length → YM, drop_length → YN, drop_eq_getElem_cons → YO, filterMap_cons → YQ, getLast?_cons → YU, ext_getElem? → YV, all_map → YX, reverse_cons → YY, filter_eq_nil_iff → Y0, flatMap_cons → Y1, sublist_cons_self → Y3, getElem_inj → Y5, length_drop → Y6, any_eq_true → Y7, countP_cons → Y8, nodup_range → Xa, mem_of_getLast? → Xc, take_append_of_le_length → Xd, range_succ → Xe, take_length_add_append → Xf, forIn_nil → Xi, take_left → Xj, length_eraseIdx_of_lt → Xk, perm_ext_iff_of_nodup → Xl, filter_append → Xm, map_inj_left → Xp, set_comm → Xq, getElem?_take_of_lt → Xr, cons_append → Xu, length_pos_of_mem → Xv, toArray → Xw, drop_eq_nil_of_le → Xx, getElem_cons_succ → Xy, getElem?_eraseIdx → Xz, of_mem_zip → XB, nil_append → XC, length_replicate → XG, take_append_drop → XH, mem_iff_getElem → XM, nodup_nil → XN, take_zero → XQ, perm_cons_erase → XU, flatMap_append → XV, replicate_zero → XW, length_pos_iff → XY, filter_eq_self → XZ, filter_sublist → X1, filterMap_map → X3, any_eq_false → X7, take_sublist → X8, any_map → Wa, filter_congr → Wc, flatten_nil → Wg, not_mem_nil → Wh, getElem_map → Wj, ext_getElem → Wl, map_id → Wm, foldl_cons → Wn, forIn_cons → Wo, filter_map → Wr, foldl → Ws, drop_zero → Wt, set → Wv, cons → Wy, sum → WA
open Nat renaming le_refl → Ze, lt_of_lt_of_le → ZH, ne_of_lt → ZI, lt_irrefl → ZR, le_trans → Z0, sub_self → Z7, le_succ → YD, zero_add → YG, zero_le → YK, add_assoc → YR, le_of_lt → YW, lt_succ_of_lt → YZ, lt_succ_self → Y9, le_of_succ_le → Xn, min_eq_left → XD, ne_of_gt → X6, succ_mul → X9, succ_le_succ → We, succ_ne_self → Wf, min_eq_right → Wi, le_add_right → Wk, not_lt_zero → Wq, mul_le_mul → Wu, le_zero → WB
open PySem.Heap renaming get?_push_of_some → Zf, lt_size → Zt, get?_push_size → ZA, get?_update_other → ZK, get?_update_self → Yi, size_push → Yt, size_update → Xs, get?_update_ne → XX, get?_push_ne → Wb
open Bool renaming false_ne_true → Zg, false_eq_true → ZP, true_and → Yy, eq_iff_iff → YS, or_eq_true → YT, beq_eq_decide_eq → Y4, not_true → Xb, false_and → Xh, and_eq_true_iff → XR, and_self → X2, or_false → Ww, false_or → Wx
open Int renaming toNat_natCast → Zy, le_refl → ZB, le_trans → Yo, zero_add → Y2, le_antisymm → XF, emod_lt_of_pos → X5, emod_nonneg → Wp, ediv_one → Wz
open Array renaming length_toList → ZC, forIn_toList → Xg, mem_toList_iff → XJ
open Option renaming map_some → ZD, map_eq_some_iff → ZV, getD_some → ZW, isSome_iff_exists → Z9, isSome_map → Xo, isSome_some → X4, getD_none → Wd
open PyProof.Rows renaming boot_enumerate → WC, boot_int → WD, boot_list → WE, boot_max → WF, boot_min → WG, boot_sorted → WH, boot_tuple → WI, callWith_type1 → WJ, slot_tuple_getitem → WK
open PySem.Calls renaming Name_function_global → WL
open PySem renaming Comprehension → WM, FuncData → W7, IsRangeIter → W8, NameKind → W9, Operator → Va, Spec → Vj, assignEach → VB, assignInOrder → VC, backToKw → VE, behindInMarks → VF, binaryOp → VG, bindName → VH, bootBuiltins → VI, builtinsNs → VJ, callSpecialIfBoundUnlessNone? → VL, call_meets → VM, cellsFrom → VN, codeAny_builtin → VO, codeAny_mono → VP, compareOp → VQ, concat_meets → VR, eqIsQuiet → VS, eqIsQuiet_byValue → VT, evalPart_none → VU, foldedSetIterable → VV, intItems → VW, intItems_at → VX, isSubtype_tuple_tuple → VY, keywordEach → VZ, letOwnedTupleGo → V0, mainGlobals → V1, mem_of_lookup → V2, newFunctionEnv → V3, noFill_tuple_add → V4, numAt_eq → V5, nums_intItems → V6, old_kept → V7, plainId_quiet → V8, pushCells → V9, pushCells_keeps → Ua, richCompare → Ub, richCompare_meets_room → Uc, seqIndex_neg → Ud, seqIndex_of → Ue, seqItems? → Uf, seq_tuple_add → Ug, sizeLine_eq → Uh, sliceBounds → Ui, starEach → Uj, swappedStores → Uk, swapsWith → Ul, swapsWithSole → Um, sysModules → Uo, updateSeq → Uq, wpAny_Call_Name_kw → Ur, wpAny_bind → Us, wpAny_bindName → Ut, wpAny_call_entry → Uu, wpAny_comprehension_free → Uv, wpAny_eqBool_int → Uw, wpAny_field → Ux, wpAny_forIn_list → Uy, wpAny_getItem_list_slice → Uz, wpAny_holding → UA, wpAny_letGo → UB, wpAny_letOwnedTupleGo_enum → UC, wpAny_loadPart' → UD, wpAny_mono → UE, wpAny_newObj_type → UF, wpAny_of_eq → UG, wpAny_passesOwn → UH, wpAny_pure → UI, wpAny_pyIter_enum → UJ, wpAny_pyIter_list → UK, wpAny_pyIter_rangeiter → UL, wpAny_pyIter_tuple → UM, wpAny_pyNext_enum_endD → UN, wpAny_pyNext_enum_itemD → UO, wpAny_pyNext_range_end → UP, wpAny_rule → UQ, wpAny_seqItems → UR, wpAny_sequenceKey → US, wpAny_specialOf → UT, wpAny_standAt → UU, wpAny_truthy_bool → UV, wpAny_tryCatch → UW, wpAny_typeOf → UX, wpAny_updateSeq → UY
open PySem.F renaming args_tuple_add_2 → WN, args_tuple_iterator_next_1 → WO, args_tuple_lt_2 → WQ, entry_max_loop → WR, entry_min_loop → WT, entry_tuple_add → WU, entry_tuple_iterator_next → WV, entry_tuple_lt → WW, plainAttrs_list → WX, plain_max_loop → WY, plain_min_loop → WZ, slot_NoneType_hash → W0, slot_list_append → W1, slot_list_pop → W2, slot_tuple_add → W3, slot_tuple_count → W4, slot_tuple_iterator_next → W5, slot_tuple_lt → W6
open PySem.SeqAt renaming EqAt → Vb, RcAt → Vc, RcNeAt → Ve, in_listAt → Vf, in_tupleAt → Vg, notIn_listAt → Vh, notIn_tupleAt → Vi
open PySem.W renaming Frag → Vk, callWith_K → Vl, cellsFrom_some → Vm, codeIn → Vn, findIn → Vo, fnOf → Vp, instObj → Vq, kas_sort → Vr, keepIn → Vs, kia_one → Vt, kitOne → Vu, kitx_dict → Vv, kitx_list → Vw, lookIn → Vx, methodObj → Vy, plainGet → Vz, rangeSize_down → VA
def gEG {b:Type _} {l:List b} {i:Nat} (h:i < l.length):l[i]?=aw l[i]:=List.getElem?_eq_getElem h
def bAE (a b:Bool):((a && b)=aN)=(a=aN/\b=aN):=Bool.and_eq_true a b
namespace L2
open PySem PySem.Spec PyProof.Rows
@[inline]abbrev Key:=Sum Int Str
abbrev g9:Key->Value->Bool
 |.inl k,v=>Value.isInt k v
 |.inr x,v=>Value.isStrOf x v
abbrev Nk(w:World):Key->Int
 |.inl k=>hashInt k
 |.inr x=>hashStr w x
def aA:∀ {k:Key} {v:Value},g9 k v=aN->(∃i t,k=Sum.inl i/\v=Value.int i t)\/(∃x t,k=Sum.inr x/\v=Value.str x t)
 |.inl i,v,h=>by
  obtain⟨t,e⟩:=Value.isInt_shape (k:=i) (v:=v) h;exact .inl ⟨i,t,rfl,e⟩
 |.inr x,v,h=>by
  obtain⟨t,e⟩:=Value.isStrOf_shape (x:=x) (v:=v) h;exact .inr ⟨x,t,rfl,e⟩
def xS(i:Int)(t:Tok):g9 (.inl i) (.int i t)=aN:=by simp[g9,Value.isInt]
def xT(x:Str)(t:Tok):g9 (.inr x) (.str x t)=aN:=by simp[g9,Value.isStrOf]
def Iy(a b:Int):decide ((Sum.inl a:Key)=Sum.inl b)=(a == b):=by
 by_cases e:a=b
 ·subst e;simp
 ·have h:¬ (Sum.inl a:Key)=Sum.inl b:=λq=>e (Sum.inl.inj q);rw[decide_eq_false h];exact(beq_eq_false_iff_ne.mpr e).symm
def Iz(a b:Str):decide ((Sum.inr a:Key)=Sum.inr b)=decide (a=b):=by
 by_cases e:a=b
 ·subst e;simp
 ·have h:¬ (Sum.inr a:Key)=Sum.inr b:=λq=>e (Sum.inr.inj q);rw[decide_eq_false h,decide_eq_false e]
def zz(a:Int)(b:Str):decide ((Sum.inl a:Key)=Sum.inr b)=aS:=decide_eq_false (λq=>nomatch q)
def zA(a:Str)(b:Int):decide ((Sum.inr a:Key)=Sum.inl b)=aS:=decide_eq_false (λq=>nomatch q)
abbrev a9(prog:Program)(w:World):PySem.KeyKind prog w Key where
 is:=g9
 hash:=Nk w
 inj:=λv a b f hb=>by
  rcases aA f with ⟨i,t,rfl,rfl⟩ |⟨x,t,rfl,rfl⟩
  ·rcases aA hb with ⟨j,u,rfl,e⟩ |⟨y,u,rfl,e⟩
   ·injection e with e1 _;rw[e1]
   ·exact nomatch e
  ·rcases aA hb with ⟨j,u,rfl,e⟩ |⟨y,u,rfl,e⟩
   ·exact nomatch e
   ·injection e with e1 _;rw[e1]
 byValue:=λk v h=>by
  rcases aA h with ⟨i,t,rfl,rfl⟩ |⟨x,t,rfl,rfl⟩ <;> rfl
 pyHash:=λc h=>by
  rcases aA c with ⟨i,t,rfl,rfl⟩ |⟨x,t,rfl,rfl⟩
  ·exact wpAny_pyHash_int h
  ·exact wpAny_pyHash_str h
 eqBool:=λd c h=>by
  rcases aA d with ⟨i,t,rfl,rfl⟩ |⟨x,t,rfl,rfl⟩
  ·rcases aA c with ⟨j,u,rfl,rfl⟩ |⟨y,u,rfl,rfl⟩
   ·rw[Iy] at h;exact Uw h
   ·rw[zz] at h;exact SeqAt.EqAt.int_str i t y u _ _ _ _ h
  ·rcases aA c with ⟨j,u,rfl,rfl⟩ |⟨y,u,rfl,rfl⟩
   ·rw[zA] at h;exact SeqAt.EqAt.str_int x t j u _ _ _ _ h
   ·rw[Iz] at h;exact wpAny_eqBool_str h
 «strs»:=λk x t v h=>by
  rcases aA h with ⟨i,u,rfl,e⟩ |⟨y,u,rfl,e⟩
  ·exact nomatch e
  ·injection e with e1 _;subst e1;cases v <;> rfl
def rj(prog:Program)(w:World)(i:Int)(t:Tok):(a9 prog w).is (.inl i) (.int i t)=aN:=xS i t
def rm(prog:Program)(w:World)(x:Str)(t:Tok):(a9 prog w).is (.inr x) (.str x t)=aN:=xT x t
inductive NK where
 |non |one (k:Key) |tup (ks:List Key)
 deriving DecidableEq
def IA{d c:Type}{F G:d->c->Prop}(f:∀a b,F a b->G a b):∀ {l:List d} {m:List c},Paired F l m->Paired G l m
 |_,_,.nil=>.nil
 |_,_,.cons h t=>.cons (f _ _ h) (IA f t)
section
variable {P:Program} {w:World}
abbrev NIs(P:Program)(w:World)(h:Heap):NK->Value->Prop
 |.non,v=>v = .none
 |.one k,v=>g9 k v=aN
 |.tup ks,v=>∃b,v = .ref b/\IsTupleKey (a9 P w) h ks b
abbrev dw(P:Program)(w:World)(h:Heap)(k:List NK)(a:Addr):Prop:=∃o I n,h.get? a=aw o/\o.cls = .type "tuple"/\o.data = .seq I n/\Paired (NIs P w h) k I.toList
def NIs.inj{h:Heap}{x y:NK}{v:Value}(d:NIs P w h x v)(c:NIs P w h y v):x=y:=by
 cases x with
 |non=>
  cases d;cases y with
  |non=>rfl
  |one k=>rcases aA c with ⟨i,t,_,e⟩ |⟨i,t,_,e⟩ <;> cases e
  |tup n=>obtain⟨b,e,_⟩:=c;cases e
 |one k=>
  rcases aA d with ⟨i,t,rfl,rfl⟩ |⟨i,t,rfl,rfl⟩
  ·cases y with
   |non=>cases c
   |one f=>rw[(a9 P w).inj (Value.int i t) (Sum.inl i) f (by exact d) (by exact c)]
   |tup n=>obtain⟨b,e,_⟩:=c;cases e
  ·cases y with
   |non=>cases c
   |one f=>rw[(a9 P w).inj (Value.str i t) (Sum.inr i) f (by exact d) (by exact c)]
   |tup n=>obtain⟨b,e,_⟩:=c;cases e
 |tup n=>
  obtain⟨b,rfl,hb⟩:=d;cases y with
  |non=>cases c
  |one k=>rcases aA c with ⟨i,t,_,e⟩ |⟨i,t,_,e⟩ <;> cases e
  |tup p=>obtain⟨B,e,j⟩:=c;cases e;rw[hb.inj j]
def oj{h:Heap}:∀ {x y:List NK} {v:List Value},Paired (NIs P w h) x v->Paired (NIs P w h) y v->x=y
 |[],y,_,.nil,hy=>by cases hy;rfl
 |a::x,y,_,.cons h1 t1,hy=>by
  cases hy with
  |cons b T=>rw[h1.inj b,oj t1 T]
def dw.inj{h:Heap}{a:Addr}{x y:List NK}(k:dw P w h x a)(j:dw P w h y a):x=y:=by
 obtain⟨o,f,n,ho,_,hd,hi⟩:=k;obtain⟨o',I,p,c,_,b,d⟩:=j;obtain rfl:o=o':=Option.some.inj (ho.symm.trans c);rw[hd] at b;injection b with h1 _;subst h1;exact oj hi d
def NIs.keeps{h c:Heap}{k:NK}{v:Value}{d:Addr}{o:Obj}{E f}(x:NIs P w h k v)(ho:h.get? d=aw o)(hd:o.data = .dict E f)(hs:Heap.SameBut d h c):NIs P w c k v:=by
 cases k with
 |non=>exact x
 |one k=>exact x
 |tup j=>obtain⟨b,e,hb⟩:=x;exact⟨b,e,hb.keeps ho hd hs⟩
def dw.keeps{h j:Heap}{k:List NK}{a d:Addr}{o:Obj}{E p}(x:dw P w h k a)(ho:h.get? d=aw o)(hd:o.data = .dict E p)(hs:Heap.SameBut d h j):dw P w j k a:=by
 obtain⟨O,I,n,c,q,b,hi⟩:=x
 have f:a ≠ d:=by
  rintro rfl;obtain rfl:O=o:=Option.some.inj (c.symm.trans ho);rw[hd] at b;exact nomatch b
 exact⟨O,I,n,(hs.2 a f).trans c,q,b,IA (λ_ _ z=>z.keeps ho hd hs) hi⟩
def dw.typeIs{s:Shared}{k:List NK}{a:Addr}(x:dw P w s.heap k a):s.TypeIs (.ref a) "tuple" := let ⟨o,_,_,ho,hc,_⟩:=x;⟨o,ho,hc⟩
abbrev nkH(P:Program)(w:World):NK->Int
 |.non=>0xFCA86420
 |.one k=>Nk w k
 |.tup ks=>tupleKeyHash (a9 P w) ks
abbrev nkN:NK->Nat
 |.tup ks=>ks.length+1
 |_=>1
def xU{A:Around}{E:Value->Shared->Prop}{s:Shared}{Q:Int->Shared->Prop}(h:Q 0xFCA86420 { s with toks:=s.toks+1 }):wpAny (model P w) A (pyHash .none) Q E s:=by
 have b:s.TypeIs .none "NoneType" := typeIs_none s;unfold pyHash;have c:[Value.none].any Value.onHeap=aS:=rfl;refine Us ?_;rw[cRoomFor,if_neg (by rw[c];exact Zg)];refine UI ?_;refine Us (UT b F.slot_NoneType_hash.lookup ?_);show wpAny _ _ (if (aw (Value.builtin "NoneType.__hash__") == aw Value.none)=aN then _ else _) Q E s;rw[if_neg (by rw[beq_builtin_none];exact Zg)];refine Us (UT b F.slot_NoneType_hash.lookup ?_);show wpAny _ _ (VL .none "__hash__" _ >>= _) Q E s;refine Us (wpAny_callSpecialIfBoundUnlessNone?_slot b W0 (Uu W0 b F.entry_NoneType_hash ?_ (F.args_NoneType_hash_1 _)));show wpAny _ _ (slotArgs "__hash__" 0 _ >>= λ_=>retInt 0xFCA86420) _ _ s;refine Us (m:=slotArgs "__hash__" 0 _) (UI ?_);refine wpAny_ret_mkInt ?_;show wpAny _ _ (pure (0xFCA86420:Int)) Q E _;exact UI h
def zB{A:Around}{E:Value->Shared->Prop}{s:Shared}{k:NK}{v:Value}{Q:Int->Shared->Prop}(d:A.units < cLine)(c:NIs P w s.heap k v)(h:Q (nkH P w k) { s with toks:=s.toks+nkN k }):wpAny (model P w) A (pyHash v) Q E s:=by
 cases k with
 |non=>cases c;exact xU h
 |one k=>exact(a9 P w).pyHash c h
 |tup f=>obtain⟨b,rfl,hb⟩:=c;exact wpAny_pyHash_tuple d hb h
abbrev zC(P:Program)(w:World)(k:List NK):Int:=reduceHash (Builtin.Tuple.tupleHashOf (k.map (nkH P w)))
abbrev rq(k:List NK):Nat:=(k.map nkN).sum
def xV{A:Around}{E:Value->Shared->Prop}{s:Shared}{d:List NK}{a:Addr}{Q:Int->Shared->Prop}(u:A.units+1 < cLine)(q:dw P w s.heap d a)(h:Q (zC P w d) { s with toks:=s.toks+(rq d+1) }):wpAny (model P w) A (pyHash (.ref a)) Q E s:=by
 have j:=q.typeIs;obtain⟨o,I,n,ho,_,hd,hi⟩:=q;unfold pyHash
 first |unfold pyHashByItsType |skip
 first |refine Us (wpAny_cRoomFor_or (.inr (by omega)) ?_) |skip
 refine Us (UT j F.slot_tuple_hash.lookup ?_);show wpAny _ _ (if (aw (Value.builtin "tuple.__hash__") == aw Value.none)=aN then _ else _) Q E s;rw[if_neg (by rw[beq_builtin_none];exact Zg)];refine Us (UT j F.slot_tuple_hash.lookup ?_);show wpAny _ _ (VL (.ref a) "__hash__" _ >>= _) Q E s;refine Us (wpAny_callSpecialIfBoundUnlessNone?_slot j F.slot_tuple_hash (Uu F.slot_tuple_hash j F.entry_tuple_hash ?_ (F.args_tuple_hash_1 _)));show wpAny _ _ (Builtin.Tuple.tupleItemsOf (.ref a) >>= _) _ _ s;refine Us (wpAny_tupleItemsOf ho hd ?_);refine Us ?_;rw[<-Xg]
 refine Uy _
  (λc (b:Array Int) p=>∃done left,d=done++left/\Paired (NIs P w s.heap) left c/\b.toList=done.map (nkH P w)/\p={ s with toks:=s.toks+rq done })
  _ ?_ ?_ _ _ ⟨[],d,rfl,hi,rfl,rfl⟩
 ·rintro x c b p ⟨done,left,rfl,hl,hb,rfl⟩;cases hl with
  |@cons k _ ks' _ h1 hl'=>
   refine Us (zB u h1 ?_)
   first
    |exact UI ⟨done++[k],ks',by simp,hl',by simp[hb],by simp[rq,YR]⟩
    |exact Us (UI (UI ⟨done++[k],ks',by simp,hl',by simp[hb],by simp[rq,YR]⟩))
 ·rintro b p ⟨done,left,rfl,hl,hb,rfl⟩;cases hl;rw[ZN] at h;show wpAny _ _ (retInt (Builtin.Tuple.tupleHashOf b.toList)) _ _ _;rw[hb];refine wpAny_ret_mkInt ?_;show wpAny _ _ (if (decide (-(2:Int) ^ 63<=Builtin.Tuple.tupleHashOf (done.map (nkH P w))) && decide (Builtin.Tuple.tupleHashOf (done.map (nkH P w)) < 2 ^ 63))=aN then _ else _) Q E _;unfold zC reduceHash at h;by_cases f:(decide (-(2:Int) ^ 63<=Builtin.Tuple.tupleHashOf (done.map (nkH P w))) && decide (Builtin.Tuple.tupleHashOf (done.map (nkH P w)) < 2 ^ 63))=aN
  ·rw[if_pos f];rw[if_pos f] at h;exact UI (by simpa[YR] using h)
  ·rw[if_neg f];rw[if_neg f] at h;exact Us (UQ (UI (by simpa[YR] using h)))
def ue{b:Type}[DecidableEq b](x y:List b):((Zk (min x.length y.length)).all (λj=>decide (x[j]?=y[j]?)) && x.length == y.length)=decide (x=y):=by
 rw[YS,bAE,Yk,decide_eq_true_eq,beq_iff_eq];constructor
 ·rintro⟨h,c⟩;refine YV λj=>?_;by_cases d:j < x.length
  ·exact of_decide_eq_true (h j (ZO.mpr (by omega)))
  ·rw[Zs (by omega),Zs (by omega)]
 ·rintro rfl;exact⟨λj _=>decide_eq_true rfl,rfl⟩
def rA{A:Around}{s:Shared}{x y:Key}{u v:Value}(c:g9 x u=aN)(h:g9 y v=aN):Vb A s u v (decide (x=y)):=by
 rcases aA c with ⟨i,t,rfl,rfl⟩ |⟨a,t,rfl,rfl⟩
 ·rcases aA h with ⟨j,r,rfl,rfl⟩ |⟨b,r,rfl,rfl⟩
  ·rw[show decide ((Sum.inl i:Key)=Sum.inl j)=(i == j) by simp[Y4]];exact .int_int i t j r
  ·rw[zz];exact .int_str i t b r
 ·rcases aA h with ⟨j,r,rfl,rfl⟩ |⟨b,r,rfl,rfl⟩
  ·rw[zA];exact .str_int a t j r
  ·rw[show decide ((Sum.inr a:Key)=Sum.inr b)=(a == b) by simp[Y4]];exact .str_str a t b r
def lA{h:Heap}:∀ {b:List Key} {c:List Value},ItemsAre (a9 P w) b c->∀ (j:Nat) v,c[j]?=aw v->∃k,b[j]?=aw k/\g9 k v=aN
 |_,_,.nil,j,v,e=>by simp at e
 |_,_,.cons h1 t,0,v,e=>by cases e;exact⟨_,rfl,h1⟩
 |_,_,.cons h1 t,j+1,v,e=>lA (h:=h) t j v (by simpa using e)
def zD{A:Around}{s:Shared}{x y:NK}{u v:Value}(C:A.units < cLine)(E:NIs P w s.heap x u)(d:NIs P w s.heap y v):Vb A s u v (decide (x=y)):=by
 have tup:∀ {f:List Key} {b:Addr},IsTupleKey (a9 P w) s.heap f b->∃I:Array Value,s.heap.IsTuple b I/\ItemsAre (a9 P w) f I.toList:=λ⟨o,I,n,ho,L,hd,hi⟩=>⟨I,⟨o,ho,L,n,hd⟩,hi⟩;cases x with
 |non=>
  cases E;cases y with
  |non=>cases d;exact .same _
  |one k=>
   rw[decide_eq_false (λz=>nomatch z)];rcases aA d with ⟨i,t,rfl,rfl⟩ |⟨i,t,rfl,rfl⟩
   ·exact .none_int i t
   ·exact .none_str i t
  |tup f=>
   obtain⟨b,rfl,hb⟩:=d;obtain⟨I,p,_⟩:=tup hb;rw[decide_eq_false (λz=>nomatch z)];exact .none_tuple p C
 |one k=>
  cases y with
  |non=>
   cases d;rw[decide_eq_false (λz=>nomatch z)];rcases aA E with ⟨i,t,rfl,rfl⟩ |⟨i,t,rfl,rfl⟩
   ·exact .int_none i t
   ·exact .str_none i t
  |one J=>
   rw[show decide (NK.one k=NK.one J)=decide (k=J) by simp];exact rA E d
  |tup f=>
   obtain⟨b,rfl,hb⟩:=d;obtain⟨I,p,_⟩:=tup hb;rw[decide_eq_false (λz=>nomatch z)];rcases aA E with ⟨i,t,rfl,rfl⟩ |⟨i,t,rfl,rfl⟩
   ·exact .int_tuple i t p C
   ·exact .str_tuple i t p C
 |tup f=>
  obtain⟨b,rfl,hb⟩:=E;obtain⟨I,p,O⟩:=tup hb;cases y with
  |non=>cases d;rw[decide_eq_false (λz=>nomatch z)];exact .tuple_none p C
  |one k=>
   rw[decide_eq_false (λz=>nomatch z)];rcases aA d with ⟨i,t,rfl,rfl⟩ |⟨i,t,rfl,rfl⟩
   ·exact .tuple_int i t p C
   ·exact .tuple_str i t p C
  |tup q=>
   obtain⟨c,rfl,L⟩:=d;obtain⟨B,U,Q⟩:=tup L;by_cases e:b=c
   ·subst e;rw[hb.inj L,decide_eq_true rfl];exact .same _
   ·refine .of_refs e ?_
    have z:=SeqAt.RcAt.tuples (e:=λj=>decide (f[j]?=q[j]?)) p U C λj Y X=>by
     obtain⟨k,e1,m1⟩:=lA (h:=s.heap) O j I[j] (by simp[Y]);obtain⟨J,e2,T⟩:=lA (h:=s.heap) Q j B[j] (by simp[X]);rw[e1,e2,show decide (aw k=aw J)=decide (k=J) by simp];exact rA m1 T
    have l1:f.length=I.size:=O.length.trans ZC;have Z:q.length=B.size:=Q.length.trans ZC;rw[<-l1,<-Z,ue] at z;rw[show decide (NK.tup f=NK.tup q)=decide (f=q) by simp];exact z
def lB{h:Heap}:∀ {b:List NK} {c:List Value},Paired (NIs P w h) b c->∀ (j:Nat) v,c[j]?=aw v->∃k,b[j]?=aw k/\NIs P w h k v
 |_,_,.nil,j,v,e=>by simp at e
 |_,_,.cons h1 t,0,v,e=>by cases e;exact⟨_,rfl,h1⟩
 |_,_,.cons h1 t,j+1,v,e=>lB t j v (by simpa using e)
def Dx{A:Around}{E:Value->Shared->Prop}{s:Shared}{x y:List NK}{a b:Addr}{Q:Bool->Shared->Prop}(J:A.units+1 < cLine)(u:dw P w s.heap x a)(q:dw P w s.heap y b)(h:Q (decide (x=y)) s):wpAny (model P w) A (eqBool (.ref a) (.ref b)) Q E s:=by
 by_cases e:a=b
 ·subst e;rw[u.inj q,decide_eq_true rfl] at h;exact SeqAt.EqAt.same _ _ _ _ _ h
 ·obtain⟨o,c,n,ho,O,hd,v⟩:=u;obtain⟨Z,I,X,d,f,p,B⟩:=q
  have z:=SeqAt.RcAt.tuples (A:=A) (e:=λj=>decide (x[j]?=y[j]?)) (show s.heap.IsTuple a c from ⟨o,ho,O,n,hd⟩) (show s.heap.IsTuple b I from ⟨Z,d,f,X,p⟩) (by omega) λj U T=>by
   obtain⟨k,e1,m1⟩:=lB v j c[j] (by simp[U]);obtain⟨C,e2,L⟩:=lB B j I[j] (by simp[T]);rw[e1,e2,show decide (aw k=aw C)=decide (k=C) by simp];exact zD J m1 L
  have l1:x.length=c.size:=v.length.trans ZC;have Y:y.length=I.size:=B.length.trans ZC;rw[<-l1,<-Y,ue] at z;exact SeqAt.EqAt.of_refs e z _ _ _ _ h
def xW{A:Around}{E:Value->Shared->Prop}{s:Shared}{x:NK}{v:Value}{Q:Bool->Shared->Prop}(f:NIs P w s.heap x v)(h:Q aN s):wpAny (model P w) A (VS 7 v) Q E s:=by
 cases x with
 |non=>cases f;rw[VT _ rfl];exact UI h
 |one k=>rw[VT _ ((a9 P w).byValue k v (by exact f))];exact UI h
 |tup B=>
  obtain⟨b,rfl,y⟩:=f;have z:=y.typeIs;obtain⟨o,I,n,ho,_,hd,hi⟩:=y;unfold VS;refine Us (UT z F.slot_tuple_eq.lookup ?_);show wpAny _ _ (isInstance (.ref b) (.type "tuple") >>= _) _ _ s;refine Us (wpAny_isInstance z VY ?_);simp only[Xb,ZP,if_false];refine Us (UR ho hd ?_);refine Us ?_;show wpAny _ _ (forIn I _ _) _ _ s;rw[<-Xg];refine Uy _ (λc r p=>r.1=aD/\p=s/\∀v ∈ c,carriedByValue v=aN) _ ?_ ?_ _ _ ⟨rfl,rfl,hi.byValue⟩
  ·rintro v c r p ⟨j,rfl,d⟩;rw[VT _ (d v Zj)];refine Us (UI ?_);simp only[Xb,ZP,if_false];exact UI ⟨rfl,rfl,λu q=>d u (Zi _ q)⟩
  ·rintro⟨r1,r2⟩ p ⟨j,rfl,_⟩;simp only at j;subst j;exact UI h
def uf{A:Around}{E:Value->Shared->Prop}{s:Shared}{k:List NK}{a:Addr}{Q:Bool->Shared->Prop}(f:dw P w s.heap k a)(h:Q aN s):wpAny (model P w) A (VS 8 (.ref a)) Q E s:=by
 have j:=f.typeIs;obtain⟨o,I,n,ho,_,hd,hi⟩:=f;unfold VS;refine Us (UT j F.slot_tuple_eq.lookup ?_);show wpAny _ _ (isInstance (.ref a) (.type "tuple") >>= _) _ _ s;refine Us (wpAny_isInstance j VY ?_);simp only[Xb,ZP,if_false];refine Us (UR ho hd ?_);refine Us ?_;show wpAny _ _ (forIn I _ _) _ _ s;rw[<-Xg];refine Uy _ (λb r c=>r.1=aD/\c=s/\∃left,Paired (NIs P w s.heap) left b) _ ?_ ?_ _ _ ⟨rfl,rfl,k,hi⟩
 ·rintro v b r c ⟨d,rfl,left,hl⟩;cases hl with
  |cons p q=>
   refine Us (xW p ?_);simp only[Xb,ZP,if_false];exact UI ⟨rfl,rfl,_,q⟩
 ·rintro⟨r1,r2⟩ c ⟨d,rfl,_⟩;simp only at d;subst d;exact UI h
end
abbrev fM(P:Program)(w:World):HeapKind P w (List NK) where
 is:=dw P w
 hash:=zC P w
 draws:=λk=>rq k+1
 room:=λA=>A.units+1 < cLine
 inj:=λc b=>c.inj b
 keeps:=λx ho hd hs=>x.keeps ho hd hs
 pyHash:=λd f h=>xV d f h
 eqBool:=λd c b h=>Dx d c b h
 quiet:=λf h=>uf f h
inductive V where
 |non |bl (b:Bool) |int (i:Int) |str (x:Str) |byt (b:Array UInt8) |flt (b:UInt64) |ref (a:Addr) |ty (n:String)
 deriving DecidableEq
abbrev aJ:V->Value->Prop
 |.non,u=>u=Value.none
 |.bl b,u=>u=Value.bool b
 |.int i,u=>∃t,u=Value.int i t
 |.str x,u=>∃t,u=Value.str x t
 |.byt b,u=>∃t,u=Value.bytes b t
 |.flt b,u=>∃t,u=Value.float b t
 |.ref a,u=>u=Value.ref a
 |.ty n,u=>u=Value.type n
@[inline]abbrev aO:List V->List Value->Prop:=Paired aJ
def aO.length{X:List V}{u:List Value}(r:aO X u):X.length=u.length:=Paired.length r
def aO.get:∀ {X:List V} {U:List Value} {i:Nat} {x:V},aO X U->X[i]?=aw x->∃u,U[i]?=aw u/\aJ x u
 |_,_,_,_,.nil,e=>by simp at e
 |_,_,0,_,.cons r _,e=>by simp at e;subst e;exact⟨_,rfl,r⟩
 |_,_,i+1,x,.cons _ t,e=>by
  obtain⟨u,b,h⟩:=aO.get (i:=i) (x:=x) t (by simpa using e);exact⟨u,by simpa using b,h⟩
def aO.set{x:V}{u:Value}(r:aJ x u):∀ {X:List V} {U:List Value} (i:Nat),aO X U->aO (X.set i x) (U.set i u)
 |_,_,_,.nil=>.nil
 |_,_,0,.cons _ t=>.cons r t
 |_,_,i+1,.cons q t=>.cons q (aO.set r i t)
def aO.append:∀ {X y:List V} {u b:List Value},aO X u->aO y b->aO (X++y) (u++b)
 |_,_,_,_,.nil,s=>s
 |_,_,_,_,.cons r t,s=>.cons r (aO.append t s)
def aO.take:∀ {X:List V} {u:List Value} (n:Nat),aO X u->aO (X.take n) (u.take n)
 |_,_,0,_=>.nil
 |_,_,_+1,.nil=>.nil
 |_,_,n+1,.cons r t=>.cons r (aO.take n t)
def aO.drop:∀ {X:List V} {u:List Value} (n:Nat),aO X u->aO (X.drop n) (u.drop n)
 |_,_,0,r=>r
 |_,_,_+1,.nil=>.nil
 |_,_,n+1,.cons _ t=>aO.drop n t
abbrev ug:Option V->Option Value->Prop
 |some v,aw u=>aJ v u
 |none,aD=>True
 |_,_=>False
abbrev KV{b:Type}:List (b × V)->List (b × Value)->Prop:=Paired λ(p:b × V) (q:b × Value)=>p.1=q.1/\aJ p.2 q.2
abbrev kV:Key->V
 |.inl i=>.int i
 |.inr x=>.str x
abbrev pU(h:Heap)(a:Addr)(I:Array Value):Prop:=∃o,h.get? a=aw o/\o.cls = .type "tuple"/\∃n,o.data = .seq I n/\o.dict=aD
def pU.isTup(x:pU h a items):IsTup h a items:=let ⟨o,e,c,n,d,_⟩:=x;⟨o,e,c,n,d⟩
def pU.lt(x:pU h a I):a < h.objs.size:=x.isTup.lt
def pU.new(h:Heap)(items:Array Value):pU (h.push { cls:=.type "tuple", data:=.seq items }) h.objs.size items:=⟨_,ZA _ rfl,rfl,_,rfl,rfl⟩
inductive HO where
  |lst (xs:List V)
  |tup (xs:List V)
  |dK (kvs:List (Key × V)) |dT (kvs:List (List NK × V))
  |set (S:Int->Bool) (n:Nat)
  |ins (C dx:Addr) (fs:List (Str × V))
  |own (x:Addr)
  |xd (fs:List (Str × V))
  |met (f x:Addr)
  |rng (lo hi:Int)
  |frz (o:Obj) (u:HO)
  |tbl (ps:Array Value)
  |ext (φ:Heap->Prop)
@[inline]abbrev Hp:=Addr->Option HO
abbrev upd(H:Hp)(a:Addr)(o:HO):Hp:=λb=>if b=a then aw o else H b
def bf{H:Hp}{a:Addr}{o:HO}:upd H a o a=aw o:=by unfold upd;rw[if_pos rfl]
def aB{H:Hp}{a b:Addr}{o:HO}(h:b ≠ a):upd H a o b=H b:=by unfold upd;rw[if_neg h]
def rB{H:Hp}{a b:Addr}{o u:HO}(h:H a=aw o)(c:H b=aw u)(d:o ≠ u):a ≠ b:=by
 intro e;subst e;rw[h] at c;exact d (Option.some.inj c)
def aV{H:Hp}{a b:Addr}{o:HO}(h:H a=aw o)(c:H b=aD):a ≠ b:=by
 intro e;subst e;rw[h] at c;cases c
abbrev xX(H:Hp):NK->V->Prop
 |.non,x=>x = .non
 |.one k,x=>x=kV k
 |.tup ks,x=>∃b,x = .ref b/\H b=aw (.tup (ks.map kV))
abbrev pV(H:Hp)(k:List NK)(a:Addr):Prop:=∃X,H a=aw (.tup X)/\Paired (xX H) k X
def xX.mono{H c:Hp}(d:∀b X,H b=aw (.tup X)->c b=aw (.tup X)){k:NK}{x:V}(h:xX H k x):xX c k x:=by
 cases k with
 |non=>exact h
 |one k=>exact h
 |tup f=>obtain⟨b,e,q⟩:=h;exact⟨b,e,d _ _ q⟩
def pV.mono{H d:Hp}{k:List NK}{a:Addr}(h:pV H k a)(c:∀b X,H b=aw (.tup X)->d b=aw (.tup X)):pV d k a:=
 let ⟨X,e,r⟩:=h;⟨X,c _ _ e,IA (λ_ _ z=>z.mono c) r⟩
section
variable (P:Program) (w:World)
abbrev bp(H:Hp)(h:Heap)(a:Addr):HO->Prop
 |.lst X=>X.length<=sizeLine/\∃ (I:List Value) (n:Nat),aO X I/\h.get? a=aw { cls:=.type "list", data:=.seq I.toArray n }
 |.tup X=>X.length<=sizeLine/\∃I:List Value,aO X I/\pU h a I.toArray
 |.dK kvs=>kvs.length<=sizeLine/\(a == Uo)=aS/\∃j,KV kvs j/\h.DictOf (a9 P w) a j
 |.dT kvs=>kvs.length<=sizeLine/\(a == Uo)=aS/\∃X:List (List NK × Addr × Value),
   Paired (λ(p:List NK × V) (q:List NK × Addr × Value)=>p.1=q.1/\pV H p.1 q.2.1/\aJ p.2 q.2.2) kvs X ∧
   ∃o E k,h.get? a=aw o/\o.ExactDict/\o.data = .dict E k/\E.toList=X.map (entryOfKey (fM P w))/\(X.map (·.1)).Nodup
 |.set S n=>h.SetOf (intKind P w) a S n
 |.ins C dx fs=>H dx=aw (.own a)/\fs.length<=1000/\dx ≠ a/\h.get? a=aw (Vq C dx) ∧
   ∃b,h.Ns1 dx b/\(∀f,ug (fs.lookup f) (b f))/\PySem.Within b (fs.map (·.1))
 |.own _=>∃o,h.get? a=aw o
 |.xd fs=>∃b,h.Ns1 a b/\∀f,ug (fs.lookup f) (b f)
 |.rng lo hi=>∃t u v,h.get? a=aw { cls:=.type "range", data:=.fields #[.int lo t,.int hi u,.int 1 v] }
 |.frz o u=>h.get? a=aw o/\bp H h a u
 |.tbl ps=>h.get? a=aw { cls:=.none,data:=.fields ps }
 |.met f x=>h.get? a=aw (Vy (.ref f) (.ref x))
 |.ext φ=>φ h/\(∃o,h.get? a=aw o)/\∀c d:Heap,φ c->(∀o,c.get? a=aw o->d.get? a=aw o)->φ d
abbrev HOk(H:Hp)(h:Heap):Prop:=∀a o,H a=aw o->bp P w H h a o
end
section
variable {P:Program} {w:World} {H H':Hp} {h h':Heap} {a:Addr} {o:HO}
def bp.lt(x:bp P w H h a o):a < h.objs.size:=by
 cases o with
 |lst X=>obtain⟨_,_,_,_,e⟩:=x;exact Zt e
 |tup X=>obtain⟨_,_,_,p⟩:=x;exact p.lt
 |dK k=>obtain⟨_,_,_,_,o,_,_,e,_⟩:=x;exact Zt e
 |dT k=>obtain⟨_,_,_,_,o,_,_,e,_⟩:=x;exact Zt e
 |set S n=>obtain⟨o,_,_,_,e,_⟩:=x;exact Zt e
 |ins C d fs=>obtain⟨_,_,_,e,_⟩:=x;exact Zt e
 |own y=>obtain⟨_,e⟩:=x;exact Zt e
 |xd fs=>obtain⟨_,⟨_,_,_,e,_⟩,_⟩:=x;exact Zt e
 |rng lo hi=>obtain⟨_,_,_,e⟩:=x;exact Zt e
 |frz ob u=>obtain⟨e,_⟩:=x;exact Zt e
 |tbl ps=>exact Zt (show h.get? a=aw _ from x)
 |met f y=>exact Zt (show h.get? a=aw _ from x)
 |ext b=>obtain⟨_,⟨_,e⟩,_⟩:=x;exact Zt e
def Paired.mapP{d j:Type}{F G:d->j->Prop}:∀ {L:List d} {c:List j},Paired F L c->(∀a b,F a b->G a b)->Paired G L c
 |_,_,.nil,_=>.nil
 |_,_,.cons r t,f=>.cons (f _ _ r) (Paired.mapP t f)
def bp.stay(x:bp P w H h a o)(k:∀b u,(b=a\/H b=aw (.own a))->h.get? b=aw u->h'.get? b=aw u)
  (ho:∀b,H b=aw (.own a)->H' b=aw (.own a)) (L:∀b X,H b=aw (.tup X)->H' b=aw (.tup X)):bp P w H' h' a o:=by
 induction o with
 |lst X=>obtain⟨z,I,n,r,e⟩:=x;exact⟨z,I,n,r,k _ _ (.inl rfl) e⟩
 |tup X=>obtain⟨z,I,r,ob,e,c⟩:=x;exact⟨z,I,r,ob,k _ _ (.inl rfl) e,c⟩
 |dK J=>obtain⟨z,y,Q,r,ob,E,j,e,c⟩:=x;exact⟨z,y,Q,r,ob,E,j,k _ _ (.inl rfl) e,c⟩
 |dT J=>
  obtain⟨z,y,X,r,ob,E,j,e,c⟩:=x;exact⟨z,y,X,Paired.mapP r λp q z=>⟨z.1,z.2.1.mono L,z.2.2⟩,ob,E,j,k _ _ (.inl rfl) e,c⟩
 |set S n=>obtain⟨ob,E,j,t,e,c⟩:=x;exact⟨ob,E,j,t,k _ _ (.inl rfl) e,c⟩
 |ins C Z fs=>
  obtain⟨d,z,ne,e,B,⟨O,E,j,T,c⟩,r⟩:=x;exact⟨ho _ d,z,ne,k _ _ (.inl rfl) e,B,⟨O,E,j,k _ _ (.inr d) T,c⟩,r⟩
 |own y=>obtain⟨ob,e⟩:=x;exact⟨ob,k _ _ (.inl rfl) e⟩
 |xd fs=>obtain⟨B,⟨O,E,j,e,c⟩,r⟩:=x;exact⟨B,⟨O,E,j,k _ _ (.inl rfl) e,c⟩,r⟩
 |rng lo hi=>obtain⟨t,u,v,e⟩:=x;exact⟨t,u,v,k _ _ (.inl rfl) e⟩
 |frz ob u U=>obtain⟨e,q⟩:=x;exact⟨k _ _ (.inl rfl) e,U q⟩
 |tbl ps=>
  have e:h.get? a=aw { cls:=.none,data:=.fields ps }:=x;show h'.get? a=aw { cls:=.none,data:=.fields ps };exact k a _ (.inl rfl) e
 |met f y=>
  have e:h.get? a=aw (Vy (.ref f) (.ref y)):=x;show h'.get? a=aw (Vy (.ref f) (.ref y));exact k a _ (.inl rfl) e
 |ext Y=>obtain⟨p,⟨o,e⟩,st⟩:=x;exact⟨st _ _ p λo q=>k _ _ (.inl rfl) q,⟨o,k _ _ (.inl rfl) e⟩,st⟩
def HOk.lt(x:HOk P w H h)(e:H a=aw o):a < h.objs.size:=(x a o e).lt
def HOk.fresh(x:HOk P w H h)(e:h.objs.size<=a):H a=aD:=by
 cases q:H a with
 |none=>rfl
 |some u=>exact absurd (ZH (x.lt q) e) (ZR _)
def HOk.kept(x:HOk P w H h)(k:∀b u,h.get? b=aw u->h'.get? b=aw u):HOk P w H h':=λa o e=>
 (x a o e).stay (λb u _ q=>k b u q) (λ_ q=>q) λ_ _ q=>q
def HOk.laid(x:HOk P w H h)(k:∀b u,h.get? b=aw u->h'.get? b=aw u)(f:h.objs.size<=a)(new:bp P w (upd H a o) h' a o):HOk P w (upd H a o) h':=λb u e=>by
 have d:=x.fresh f;by_cases hb:b=a
 ·subst hb;rw[bf] at e;cases e;exact new
 ·rw[aB hb] at e;exact(x b u e).stay (λc v _ q=>k c v q) (λc q=>by rw[aB (aV q d)];exact q) λc X q=>by rw[aB (aV q d)];exact q
end
abbrev Rd(H:Hp)(a:Addr)(u:HO):Prop:=H a=aw u\/∃o,H a=aw (.frz o u)
def Rd.ok{P:Program}{w:World}{H:Hp}{h:Heap}{a:Addr}{u:HO}(r:Rd H a u)(x:HOk P w H h):bp P w H h a u:=by
 rcases r with r |⟨o,r⟩
 ·exact x a u r
 ·obtain⟨_,q⟩:=x a _ r;exact q
abbrev Mut:Option HO->Prop
 |some (.lst _)=>True
 |some (.dK _)=>True
 |some (.dT _)=>True
 |some (.set _ _)=>True
 |some (.ins _ _ _)=>True
 |some (.ext _)=>True
 |_=>False
section
variable {P:Program} {w:World} {H:Hp} {h h':Heap} {x e:Addr} {o':HO}
def HOk.write(ok:HOk P w H h)(j:Mut (H x))(B:e=x\/H e=aw (.own x))(k:∀b u,b ≠ e->h.get? b=aw u->h'.get? b=aw u)(p:∃u,h'.get? e=aw u)
  (new:bp P w (upd H x o') h' x o'):HOk P w (upd H x o') h':=λb u q=>by
 have n:∀c y,H c=aw (.own y)->c ≠ x:=λc y r z=>by subst z;rw[r] at j;exact j
 have f:∀c X,H c=aw (.tup X)->c ≠ x:=λc X r z=>by subst z;rw[r] at j;exact j
 by_cases hb:b=x
 ·subst hb;rw[bf] at q;cases q;exact new
 ·rw[aB hb] at q;by_cases d:b=e
  ·have Q:H b=aw (.own x):=by
    rcases B with z |z
    ·exact absurd (d.trans z) hb
    ·rw[d];exact z
   rw[q] at Q;cases Q;obtain⟨v,C⟩:=p;exact⟨v,by rw[d];exact C⟩
  ·refine(ok b u q).stay (λc v hc r=>k c v ?_ r) (λc r=>by rw[aB (n c b r)];exact r) λc X r=>by rw[aB (f c X r)];exact r
   rcases hc with rfl |hc
   ·exact d
   ·rintro rfl;rcases B with z |z
    ·exact n c b hc z
    ·rw[hc] at z;cases z;exact hb rfl
end
structure Un(fs ex:List Addr)(H H':Hp)(h h':Heap):Prop where
 keep:∀b o,h.get? b=aw o->H b=aD->b ∉ fs->b ∉ ex->h'.get? b=aw o
 slot:∀b o,h.get? b=aw o->H b=aD->b ∈ fs->b ∉ ex->∃sl,h'.get? b=aw { o with slots:=sl }
 free:∀b o,h.get? b=aw o->H b=aD->b ∉ ex->H' b=aD
 there:∀b o,h.get? b=aw o->b ∉ ex->∃o',h'.get? b=aw o'
 tups:∀b xs,H b=aw (.tup xs)->H' b=aw (.tup xs)
 frzs:∀b o u,H b=aw (.frz o u)->H' b=aw (.frz o u)
 tbls:∀b ps,H b=aw (.tbl ps)->∃more,H' b=aw (.tbl (ps++more))
section
variable {fs fs' ex ex':List Addr} {H H1 H2:Hp} {h h1 h2 h':Heap} {a x e:Addr} {o:HO}
def Un.any(u:Un fs ex H H1 h h1){b:Addr}{ob:Obj}(q:h.get? b=aw ob)(n:H b=aD)(c:b ∉ ex):∃sl,h1.get? b=aw { ob with slots:=sl }:=by
 by_cases hb:b ∈ fs
 ·exact u.slot b ob q n hb c
 ·exact⟨ob.slots,u.keep b ob q n hb c⟩
def Un.kept(k:∀b u,h.get? b=aw u->h'.get? b=aw u):Un fs ex H H h h':=
 ⟨λb ob q _ _ _=>k b ob q,λb ob q _ _ _=>⟨ob.slots,k b ob q⟩,λ_ _ _ n _=>n,λb ob q _=>⟨ob,k b ob q⟩,λ_ _ q=>q,λ_ _ _ q=>q,λ_ ps q=>⟨#[],by rw[q];simp⟩⟩
def Un.refl:Un fs ex H H h h:=Un.kept λ_ _ q=>q
def Un.laid(k:∀b u,h.get? b=aw u->h'.get? b=aw u)(d:h.objs.size<=a)(c:H a=aD):Un fs ex H (upd H a o) h h' where
 keep:=λb u q _ _ _=>k b u q
 slot:=λb u q _ _ _=>⟨u.slots,k b u q⟩
 free:=λb u q n _=>by rw[aB (ZI (ZH (Zt q) d))];exact n
 there:=λb u q _=>⟨u,k b u q⟩
 tups:=λb X q=>by rw[aB (aV q c)];exact q
 frzs:=λb u X q=>by rw[aB (aV q c)];exact q
 tbls:=λb ps q=>⟨#[],by rw[aB (aV q c),q];simp⟩
def Un.write(d:Mut (H x))(v:e=x\/H e=aw (.own x))(k:∀b u,b ≠ e->h.get? b=aw u->h'.get? b=aw u)(j:∃u,h'.get? e=aw u):Un fs ex H (upd H x o) h h':=by
 have p:∀b,H b=aD->b ≠ x:=λb n z=>by subst z;rw[n] at d;exact d
 have hb:∀b,H b=aD->b ≠ e:=λb n z=>by
  subst z;rcases v with r |r
  ·exact p b n r
  ·rw[n] at r;cases r
 have f:∀b u,H b=aw u->¬ Mut (aw u)->b ≠ x:=λb u q nm z=>by subst z;rw[q] at d;exact nm d
 refine⟨λb u q n _ _=>k b u (hb b n) q,λb u q n _ _=>⟨u.slots,k b u (hb b n) q⟩,λb u q n _=>by rw[aB (p b n)];exact n,λb u q _=>?_,
  λb X q=>by rw[aB (f b _ q λz=>z)];exact q,λb u X q=>by rw[aB (f b _ q λz=>z)];exact q,λb ps q=>⟨#[],by rw[aB (f b _ q λz=>z),q];simp⟩⟩
 by_cases c:b=e
 ·subst c;exact j
 ·exact⟨u,k b u c q⟩
end
abbrev trk(h:Heap)(H:Hp):List Addr:=(Zk h.objs.size).filter λa=>(H a).isSome
abbrev pW(h:Heap)(H:Hp):Heap:=PySem.W.hideAll h (trk h H)
def xY(h:Heap)(H:Hp):(pW h H).objs.size=h.objs.size:=PySem.W.hideAll_size _ _
def zE(e:h.get? b=aw o)(n:H b=aD):(pW h H).get? b=aw o:=
 PySem.W.hideAll_get _ e λc=>by
  have q:(H b).isSome=aN:=(ZQ.mp c).2;rw[n] at q;simp at q
def Dy(e:(pW h H).get? b=aw o):h.get? b=aw o/\H b=aD:=by
 have E:h.get? b=aw o:=PySem.W.of_hideAll (trk h H) e;refine⟨E,?_⟩;cases q:H b with
 |none=>rfl
 |some x=>
  have c:b ∈ trk h H:=ZQ.mpr ⟨ZO.mpr (Zt E),by simp[q]⟩;have z:(pW h H).get? b=aD:=PySem.W.hideAll_none (trk h H) c;rw[z] at e;cases e
structure Mod(K:Vk)(mg:Str->Option Value)(base:Heap):Prop where
 kin:K.In base
 glob:base.Ns V1 mg
 blt:∃mb,base.Ns VJ mb/\∀x:Str,x ≠ "__name__"->mb x=VI x
 nolimit:base.NoLimit
structure Cx where
 prog:Program
 w:World
 K:Vk
 mg:Str->Option Value
 base:Heap
 A:Around
 N:List Str
 s₀:Shared
 H₀:Hp
 env:Env
 outer:List Env
 stack:List Env
 ex:List Addr
 fn:Str->Bool
 calm:Bool
 pn:List (Addr × Obj)
 xe:Value->Shared->Prop
abbrev frs(l:List Env):List Addr:=l.filterMap (·.frame)
noncomputable abbrev Cx.fs(X:Cx):List Addr:=frs X.outer
abbrev Vis(sc:Scope)(x:Str):Prop:=sc.names.lookup x=aw .local\/sc.names.lookup x=aw .cell\/sc.names.lookup x=aw .free
abbrev Loc(sc:Scope)(x:Str):Prop:=sc.names.lookup x=aw .local\/sc.names.lookup x=aw .cell
abbrev Qz(env:Env)(h:Heap)(m:Str->Option Value)(x:Str)(u:Value):Prop:=
 (env.kindOf x=aw .local/\m x=aw u)\/((env.kindOf x=aw .cell\/env.kindOf x=aw .free)/\∃c,env.cells.lookup x=aw c/\h.IsCell c (aw u))
structure Cx.Ok(X:Cx):Prop where
 mod:Mod X.K X.mg X.base
 kind:X.env.scope.kind = .function
 glob:X.env.globals=V1
 blt:X.env.builtins=VJ
 above:X.s₀.heap.objs.size<=X.env.locals
 inj:∀x y c,X.env.cells.lookup x=aw c->X.env.cells.lookup y=aw c->x=y
 has:∀x,(X.env.kindOf x=aw .cell\/X.env.kindOf x=aw .free)->∃c,X.env.cells.lookup x=aw c
 cab:∀x c,X.fn x=aN->X.env.cells.lookup x=aw c->X.s₀.heap.objs.size<=c
 hd:X.calm=aN->X.A.handled=aD
 frames:X.A.frames=aw X.stack
 stk:X.stack=X.outer\/(X.stack=X.env::X.outer/\X.env.frame=aw X.env.locals)
 exf:∀b ∈ X.ex,b ≠ X.env.locals/\∀x c,X.env.cells.lookup x=aw c->c ≠ b
 bs:∀b o,X.base.get? b=aw o->X.s₀.heap.get? b=aw o/\X.H₀ b=aD
 bsz:X.base.objs.size<=X.s₀.heap.objs.size
 noex:∀b o,X.base.get? b=aw o->b ∉ X.ex
 exfs:∀b ∈ X.ex,b ∉ X.fs
 funs:X.s₀.heap.FunFrames X.base X.outer
 frf:∀b ∈ X.fs,X.H₀ b=aD
structure Inv(X:Cx)(pins:List (Addr × Obj))(σ:List (Option V))(H:Hp)(s:Shared):Prop where
 ok:X.Ok
 os:s.os=X.s₀.os
 bare:AllBare s.gens
 base:Un X.fs X.ex X.H₀ H X.s₀.heap s.heap
 loc:∃m,s.heap.Ns X.env.locals m/\∀ (i:Nat) (x:Str) (v:V),X.N[i]?=aw x->σ[i]?=aw (aw v)->Vis X.env.scope x->∃u,aJ v u/\Qz X.env s.heap m x u
 cell:∀x c,X.env.cells.lookup x=aw c->∃v,s.heap.IsCell c v
 free:H X.env.locals=aD
 freeC:∀x c,X.env.cells.lookup x=aw c->H c=aD
 pin:∀p ∈ X.pn++pins,s.heap.get? p.1=aw p.2/\H p.1=aD/\p.1 ≠ X.env.locals/\p.1 ∉ X.fs/\∀v,p.2.data ≠ .cell v
 hok:HOk X.prog X.w H s.heap
 len:σ.length=X.N.length
section
variable {X:Cx} {pins:List (Addr × Obj)} {σ:List (Option V)} {H H':Hp} {s:Shared} {h':Heap}
def Cx.Ok.nofr(ok:X.Ok)(e:X.base.get? b=aw o):b ∉ X.fs:=λhb=>by
 have:=(ok.funs.mem hb).1;rw[e] at this;cases this
def Inv.bs(I:Inv X pins σ H s):∀b o,X.base.get? b=aw o->s.heap.get? b=aw o/\H b=aD:=λb o e=>
 ⟨I.base.keep b o (I.ok.bs b o e).1 (I.ok.bs b o e).2 (I.ok.nofr e) (I.ok.noex b o e),I.base.free b o (I.ok.bs b o e).1 (I.ok.bs b o e).2 (I.ok.noex b o e)⟩
def Inv.bk(I:Inv X pins σ H s):∀b o,X.base.get? b=aw o->s.heap.get? b=aw o:=λb o e=>(I.bs b o e).1
def Inv.mod(I:Inv X pins σ H s):Mod X.K X.mg X.base:=I.ok.mod
def Inv.kIn(I:Inv X pins σ H s):X.K.In s.heap:=I.ok.mod.kin.keeps I.bk
def Inv.lt(I:Inv X pins σ H s):X.env.locals < s.heap.objs.size:=let ⟨_,hn,_⟩:=I.loc;hn.lt
def Inv.sz(I:Inv X pins σ H s):X.s₀.heap.objs.size<=s.heap.objs.size:=Z0 I.ok.above (YW I.lt)
def Inv.nofs(I:Inv X pins σ H s)(h:s.heap.objs.size<=a):a ∉ X.fs:=λhb=>by
 obtain⟨_,o,ho,_⟩:=I.ok.funs.mem hb;exact absurd (ZH (Zt ho) (Z0 I.sz h)) (ZR _)
def Inv.cne(I:Inv X pins σ H s):∀x c,X.env.cells.lookup x=aw c->c ≠ X.env.locals:=λx c e z=>by
 obtain⟨v,o,ho,hd⟩:=I.cell x c e;obtain⟨m,⟨O,E,d,b,h,_⟩,_⟩:=I.loc;rw[z,b] at ho;cases ho;rw[h] at hd;cases hd
def Inv.funs(I:Inv X pins σ H s):s.heap.FunFrames X.base X.outer:=by
 have all:∀ (l:List Env),(∀b ∈ frs l,b ∈ X.fs)->X.s₀.heap.FunFrames X.base l->s.heap.FunFrames X.base l:=by
  intro l
  induction l with
  |nil=>intro _ _;trivial
  |cons env r n=>
   intro hs j;obtain⟨k,⟨L,o,c,d,ho,hd⟩,f⟩:=j;have h:L ∈ X.fs:=hs L (by unfold frs;rw[YQ,c];exact Zj);obtain⟨sl,e⟩:=I.base.slot L o ho (I.ok.frf L h) h λz=>I.ok.exfs L z h;exact⟨k,⟨L,_,c,d,e,hd⟩,n (λb hb=>hs b (by unfold frs;rw[YQ,c];exact Zi _ hb)) f⟩
 exact all X.outer (λ_ hb=>hb) I.ok.funs
def Inv.stack(I:Inv X pins σ H s):s.heap.FunFrames X.base X.stack:=by
 rcases I.ok.stk with e |⟨e,hf⟩
 ·rw[e];exact I.funs
 ·rw[e];obtain⟨m,h,_⟩:=I.loc;refine .cons (by rw[I.ok.kind];decide) hf h ?_ I.funs;exact Heap.get?_none_of_le (Z0 I.ok.bsz I.ok.above)
def Inv.stkSub(I:Inv X pins σ H s):∀b ∈ frs X.stack,b ∈ X.env.locals::X.fs:=λb hb=>by
 rcases I.ok.stk with e |⟨e,hf⟩
 ·rw[e] at hb;exact Zi _ hb
 ·rw[e] at hb;unfold frs at hb;rw[YQ,hf] at hb;exact hb
def Inv.stkFree(I:Inv X pins σ H s):∀b ∈ frs X.stack,H b=aD:=λb hb=>by
 rcases Zn.mp (I.stkSub b hb) with e |hb
 ·rw[e];exact I.free
 ·obtain⟨_,o,ho,_⟩:=I.ok.funs.mem hb;exact I.base.free b o ho (I.ok.frf b hb) λz=>I.ok.exfs b z hb
def Inv.step{g':Array GenState}{t':Nat}{d':Drawn}{ch:List Addr}(I:Inv X pins σ H s)
  (f:∀b ∈ ch,(b ∈ X.ex\/X.s₀.heap.objs.size<=b)/\b ≠ X.env.locals/\(∀x c,X.env.cells.lookup x=aw c->c ≠ b)/\∀p ∈ X.pn++pins,p.1 ≠ b)
  (keep:∀b o,b ≠ X.env.locals->b ∉ X.fs->b ∉ ch->s.heap.get? b=aw o->H b=aD->h'.get? b=aw o)
  (slot:∀b o,b ≠ X.env.locals->b ∈ X.fs->b ∉ ch->s.heap.get? b=aw o->H b=aD->∃sl,h'.get? b=aw { o with slots:=sl }) (free:∀b o,b ∉ ch->s.heap.get? b=aw o->H b=aD->H' b=aD)
  (there:∀b o,b ∉ ch->s.heap.get? b=aw o->∃O,h'.get? b=aw O)
  (tups:∀b B,H b=aw (.tup B)->H' b=aw (.tup B)) (frzs:∀b o u,H b=aw (.frz o u)->H' b=aw (.frz o u)) (tbls:∀b ps,H b=aw (.tbl ps)->∃more,H' b=aw (.tbl (ps++more)))
  (ns:∀m,s.heap.Ns X.env.locals m->h'.Ns X.env.locals m) (hok:HOk X.prog X.w H' h') (hg:AllBare g') :
  Inv X pins σ H' { s with heap:=h',gens:=g',drawn:=d',toks:=t' }:=by
 have J:∀b o,X.s₀.heap.get? b=aw o->b ≠ X.env.locals:=λb o e=>ZI (ZH (Zt e) I.ok.above)
 have y:∀b o,X.s₀.heap.get? b=aw o->b ∉ X.ex->b ∉ ch:=λb o e h hb=>by
  rcases (f b hb).1 with z |z
  ·exact h z
  ·exact absurd (ZH (Zt e) z) (ZR _)
 have C:∀x c,X.env.cells.lookup x=aw c->∀v,s.heap.IsCell c v->h'.IsCell c v:=λx c e v ⟨o,ho,hd⟩=>by
  have j:c ∉ ch:=λz=>(f c z).2.2.1 x c e rfl;by_cases T:c ∈ X.fs
  ·obtain⟨sl,q⟩:=slot c o (I.cne x c e) T j ho (I.freeC x c e);exact⟨_,q,hd⟩
  ·exact⟨o,keep c o (I.cne x c e) T j ho (I.freeC x c e),hd⟩
 refine⟨I.ok,I.os,hg,⟨λb o e n hb h=>?_,λb o e n hb h=>?_,λb o e n h=>?_,λb o e h=>?_,λb B e=>tups b B (I.base.tups b B e),λb o B e=>frzs b o B (I.base.frzs b o B e),λb ps e=>?_⟩,?_,λx c e=>?_,?_,λx c e=>?_,λp Y=>?_,hok,I.len⟩
 ·exact keep b o (J b o e) hb (y b o e h) (I.base.keep b o e n hb h) (I.base.free b o e n h)
 ·obtain⟨sl,E⟩:=I.base.slot b o e n hb h;obtain⟨Q,L⟩:=slot b _ (J b o e) hb (y b o e h) E (I.base.free b o e n h);exact⟨Q,L⟩
 ·obtain⟨O,E⟩:=I.base.there b o e h;exact free b O (y b o e h) E (I.base.free b o e n h)
 ·obtain⟨O,E⟩:=I.base.there b o e h;exact there b O (y b o e h) E
 ·obtain⟨m1,E⟩:=I.base.tbls b ps e;obtain⟨Z,L⟩:=tbls b _ E;exact⟨m1++Z,by rw[L,Array.append_assoc]⟩
 ·obtain⟨m,hn,hl⟩:=I.loc;refine⟨m,ns m hn,λi x v E L e3=>?_⟩;obtain⟨u,r,l⟩:=hl i x v E L e3;refine⟨u,r,?_⟩;rcases l with l |⟨k,c,e,z⟩
  ·exact .inl l
  ·exact .inr ⟨k,c,e,C x c e _ z⟩
 ·obtain⟨v,z⟩:=I.cell x c e;exact⟨v,C x c e v z⟩
 ·obtain⟨m,⟨o,_,_,ho,_⟩,_⟩:=I.loc;exact free _ o (λz=>(f _ z).2.1 rfl) ho I.free
 ·obtain⟨v,o,ho,hd⟩:=I.cell x c e;exact free c o (λz=>(f c z).2.2.1 x c e rfl) ho (I.freeC x c e)
 ·obtain⟨e,n,ne,U,d⟩:=I.pin p Y;have j:p.1 ∉ ch:=λz=>(f p.1 z).2.2.2 p Y rfl;exact⟨keep p.1 p.2 ne U j e n,free p.1 p.2 j e n,ne,U,d⟩
def Inv.un{t':Nat}(I:Inv X pins σ H s)(u:Un X.fs [] H H' s.heap h')(hok:HOk X.prog X.w H' h'):Inv X pins σ H' { s with heap:=h',toks:=t' }:=by
 obtain⟨m,⟨o,k,p,ho,r⟩,_⟩:=id I.loc;obtain⟨sl,d⟩:=u.any ho I.free (by simp)
 exact I.step (g':=s.gens) (d':=s.drawn) (ch:=[]) (λ_ z=>nomatch z) (λb o _ hb _ e n=>u.keep b o e n hb (by simp)) (λb o _ hb _ e n=>u.slot b o e n hb (by simp)) (λb o _ e n=>u.free b o e n (by simp)) (λb o _ e=>u.there b o e (by simp)) u.tups u.frzs u.tbls (λq f=>by
  obtain⟨O,E,c,h,j⟩:=f;rw[ho] at h;cases h;exact⟨_,E,c,d,j⟩) hok I.bare
def Inv.call{g':Array GenState}{t':Nat}{d':Drawn}{ch:List Addr}(I:Inv X pins σ H s)(u:Un (frs X.stack) ch H H' s.heap h')(hok:HOk X.prog X.w H' h')(y:AllBare g')
  (d:∀b ∈ ch,(b ∈ X.ex\/X.s₀.heap.objs.size<=b)/\b ≠ X.env.locals/\(∀x c,X.env.cells.lookup x=aw c->c ≠ b)/\∀p ∈ X.pn++pins,p.1 ≠ b) :
  Inv X pins σ H' { s with heap:=h',gens:=g',drawn:=d',toks:=t' }:=by
 obtain⟨m,⟨o,C,J,ho,r⟩,_⟩:=id I.loc;obtain⟨sl,k⟩:=u.any ho I.free λz=>(d _ z).2.1 rfl
 exact I.step (ch:=ch) d (λb o k hb h e n=>u.keep b o e n (λz=>(Zn.mp (I.stkSub b z)).elim k hb) h) (λb o _ _ h e n=>u.any e n h) (λb o h e n=>u.free b o e n h) (λb o h e=>u.there b o e h) u.tups u.frzs u.tbls (λB v=>by
  obtain⟨O,E,j,f,q⟩:=v;rw[ho] at f;cases f;exact⟨_,E,j,k,q⟩) hok y
def Inv.turned{t':Nat}{it:Addr}(I:Inv X pins σ H s)(k:∀b o,b ≠ it->s.heap.get? b=aw o->h'.get? b=aw o)(j:H it=aD)(f:it ≠ X.env.locals)
  (J:it ∈ X.ex\/X.s₀.heap.objs.size<=it) (B:∀x c,X.env.cells.lookup x=aw c->c ≠ it) (L:∀p ∈ X.pn++pins,p.1 ≠ it):Inv X pins σ H { s with heap:=h',toks:=t' }:=by
 have d:∀b u,H b=aw u->b ≠ it:=λb u e z=>by rw[z,j] at e;cases e
 refine I.step (g':=s.gens) (d':=s.drawn) (ch:=[it]) (λb hb=>?_) (λb o _ _ h e _=>k b o (λz=>h (by simp[z])) e) (λb o _ _ h e _=>⟨o.slots,k b o (λz=>h (by simp[z])) e⟩) (λ_ _ _ _ n=>n)
  (λb o h e=>⟨o,k b o (λz=>h (by simp[z])) e⟩) (λ_ _ e=>e) (λ_ _ _ e=>e) (λb ps e=>⟨#[],by rw[e];simp⟩) (λm C=>?_) (λb u e=>?_) I.bare
 ·have e:b=it:=by simpa using hb
  subst e;exact⟨J,f,B,L⟩
 ·obtain⟨o,E,y,ho,r⟩:=C;exact⟨o,E,y,k _ o (Ne.symm f) ho,r⟩
 ·refine(I.hok b u e).stay (λc v h q=>k c v ?_ q) (λ_ q=>q) λ_ _ q=>q;rcases h with z |z
  ·rw[z];exact d b u e
  ·exact d c _ z
def Inv.tok(I:Inv X pins σ H s)(t:Nat):Inv X pins σ H { s with toks:=t }:=I.un (h':=s.heap) (t':=t) Un.refl I.hok
def Inv.kept{t':Nat}(I:Inv X pins σ H s)(k:∀b u,s.heap.get? b=aw u->h'.get? b=aw u):Inv X pins σ H { s with heap:=h',toks:=t' }:=I.un (Un.kept k) (I.hok.kept k)
def Inv.laid{a:Addr}{o:HO}{t':Nat}(I:Inv X pins σ H s)(k:∀b u,s.heap.get? b=aw u->h'.get? b=aw u)(h:s.heap.objs.size<=a)(new:bp X.prog X.w (upd H a o) h' a o) :
  Inv X pins σ (upd H a o) { s with heap:=h',toks:=t' }:=I.un (Un.laid k h (I.hok.fresh h)) (I.hok.laid k h new)
def Inv.write{T:Nat}(I:Inv X pins σ H s)(d:Mut (H x))(c:e=x\/H e=aw (.own x))(k:∀b u,b ≠ e->s.heap.get? b=aw u->h'.get? b=aw u)(h:∃u,h'.get? e=aw u)
  (new:bp X.prog X.w (upd H x o) h' x o):Inv X pins σ (upd H x o) { s with heap:=h',toks:=T }:=I.un (Un.write d c k h) (I.hok.write d c k h new)
def Inv.pins_of(I:Inv X pins σ H s)(h:∀p ∈ b,s.heap.get? p.1=aw p.2/\H p.1=aD/\p.1 ≠ X.env.locals/\p.1 ∉ X.fs/\∀v,p.2.data ≠ .cell v):Inv X b σ H s:=
 ⟨I.ok,I.os,I.bare,I.base,I.loc,I.cell,I.free,I.freeC,λp c=>(ZS.mp c).elim (λz=>I.pin p (Z3 _ z)) (h p),I.hok,I.len⟩
def rC{N:List Str}(hN:N.Nodup){i j:Nat}{x:Str}(a:N[i]?=aw x)(b:N[j]?=aw x):i=j:=by
 obtain⟨d,E⟩:=Zb.mp a;obtain⟨h,c⟩:=Zb.mp b;exact(Y5 hN).mp (E.trans c.symm)
def om{M:Model}{A:Around}{E:Value->Shared->Prop}{i:Nat}{x:Str}{v:V}{u:Value}{Q:Unit->Shared->Prop}(I:Inv X pins σ H s)(hN:X.N.Nodup)(hi:X.N[i]?=aw x)(B:Loc X.env.scope x)(r:aJ v u)
  (h:∀s',Inv X pins (σ.set i (aw v)) H s'->(∃a,Heap.SameBut a s.heap s'.heap/\(a=X.env.locals\/X.env.cells.lookup x=aw a))->Q () s') (hf:X.fn x=aN\/X.env.scope.names.lookup x=aw .local:=by first |exact .inl rfl |exact .inr rfl |assumption):wpAny M A (storeName X.env x u) Q E s:=by
 obtain⟨m,hn,hl⟩:=id I.loc;have hcls:(X.env.scope.kind == .class || (X.env.scope.kind == .module && X.env.locals != X.env.globals))=aS:=by rw[I.ok.kind];rfl
 have L:i < σ.length:=by rw[I.len];exact(Zb.mp hi).1
 have cne:=I.cne
 have T:∀ {a:Addr} {h':Heap},(∃o,s.heap.get? a=aw o/\H a=aD)->Heap.SameBut a s.heap h'->HOk X.prog X.w H h':=λ{a h'} ha hs b ob e=>by
  obtain⟨_,_,C⟩:=ha;refine(I.hok b ob e).stay (λc w' hc q=>(hs.2 c ?_).trans q) (λ_ q=>q) λ_ _ q=>q;rintro rfl;rcases hc with rfl |hc
  ·rw[C] at e;cases e
  ·rw[C] at hc;cases hc
 rcases B with hk |hk
 ·refine wpAny_storeName_local hk hn (λh' hn' hs=>?_) hcls;obtain⟨oL,_,_,hoL,_⟩:=id hn;refine h _ ⟨I.ok,I.os,I.bare,⟨λb o e n hb B=>?_,λb o e n hb B=>?_,I.base.free,λb o e B=>?_,I.base.tups,I.base.frzs,I.base.tbls⟩,⟨_,hn',λj y v' f J e3=>?_⟩,λy c e=>?_,I.free,I.freeC,λp hp=>?_,T ⟨oL,hoL,I.free⟩ hs,by simpa using I.len⟩ ⟨_,hs,.inl rfl⟩
  ·exact(hs.2 b (ZI (ZH (Zt e) I.ok.above))).trans (I.base.keep b o e n hb B)
  ·obtain⟨sl,f⟩:=I.base.slot b o e n hb B;exact⟨sl,(hs.2 b (ZI (ZH (Zt e) I.ok.above))).trans f⟩
  ·obtain⟨o',f⟩:=I.base.there b o e B;exact⟨o',(hs.2 b (ZI (ZH (Zt e) I.ok.above))).trans f⟩
  ·by_cases U:j=i
   ·subst U;rw[hi] at f;cases f;rw[ZU L] at J;cases J;exact⟨u,r,.inl ⟨hk,by simp⟩⟩
   ·rw[Zv (Ne.symm U)] at J;obtain⟨u',r',q⟩:=hl j y v' f J e3;refine⟨u',r',?_⟩;rcases q with ⟨k,e⟩ |⟨k,c,e,z⟩
    ·refine .inl ⟨k,?_⟩;have:y ≠ x:=λe=>U (rC hN f (e ▸ hi));simp[this,e]
    ·exact .inr ⟨k,c,e,z.sameBut hs (cne y c e)⟩
  ·obtain⟨w',z⟩:=I.cell y c e;exact⟨w',z.sameBut hs (cne y c e)⟩
  ·obtain⟨e,n,ne,nf,d⟩:=I.pin p hp;exact⟨(hs.2 p.1 ne).trans e,n,ne,nf,d⟩
 ·have O:X.fn x=aN:=by
   rcases hf with z |z
   ·exact z
   ·rw[z] at hk;cases hk
  obtain⟨c,hc⟩:=I.ok.has x (.inl hk);obtain⟨w',z⟩:=I.cell x c hc;refine wpAny_storeName_cell I.ok.kind hk hc z (λh' hc' hs=>?_);obtain⟨oc,hoc,Z⟩:=id z;refine h { s with heap:=h' } ⟨I.ok,I.os,I.bare,⟨λb o e n hb B=>?_,λb o e n hb B=>?_,I.base.free,λb o e B=>?_,I.base.tups,I.base.frzs,I.base.tbls⟩,⟨m,hn.sameBut hs (Ne.symm (cne x c hc)),λj y v' f J e3=>?_⟩,λy c' e=>?_,I.free,I.freeC,λp hp=>?_,T ⟨oc,hoc,I.freeC x c hc⟩ hs,by simpa using I.len⟩ ⟨c,hs,.inr hc⟩
  ·exact(hs.2 b (ZI (ZH (Zt e) (I.ok.cab x c O hc)))).trans (I.base.keep b o e n hb B)
  ·obtain⟨sl,f⟩:=I.base.slot b o e n hb B;exact⟨sl,(hs.2 b (ZI (ZH (Zt e) (I.ok.cab x c O hc)))).trans f⟩
  ·obtain⟨o',f⟩:=I.base.there b o e B;exact⟨o',(hs.2 b (ZI (ZH (Zt e) (I.ok.cab x c O hc)))).trans f⟩
  ·by_cases U:j=i
   ·subst U;rw[hi] at f;cases f;rw[ZU L] at J;cases J;exact⟨u,r,.inr ⟨.inl hk,c,hc,hc'⟩⟩
   ·rw[Zv (Ne.symm U)] at J;obtain⟨u',r',q⟩:=hl j y v' f J e3;refine⟨u',r',?_⟩;rcases q with q |⟨k,c',e,z'⟩
    ·exact .inl q
    ·refine .inr ⟨k,c',e,z'.sameBut hs ?_⟩;rintro rfl;exact U (rC hN f (I.ok.inj _ _ _ e hc ▸ hi))
  ·by_cases Y:c'=c
   ·subst Y;exact⟨_,hc'⟩
   ·obtain⟨w2,z2⟩:=I.cell y c' e;exact⟨w2,z2.sameBut hs Y⟩
  ·obtain⟨e,n,ne,nf,d⟩:=I.pin p hp;refine⟨(hs.2 p.1 ?_).trans e,n,ne,nf,d⟩;intro q;rw[q,hoc] at e;have q':oc=p.2:=Option.some.inj e;exact d w' (by rw[<-q'];exact Z)
def cS{i:Nat}(I:Inv X pins σ H s)(hN:X.N.Nodup)(hi:X.N[i]?=aw x)(c:Loc X.env.scope x)(r:aJ v u)
  (h:∀b,Inv X pins (σ.set i (aw v)) H b->Q () b) (f:X.fn x=aN\/X.env.scope.names.lookup x=aw .local:=by first |exact .inl rfl |exact .inr rfl |assumption):wpAny M A (storeName X.env x u) Q E s:=
 om I hN hi c r (λb d _=>h b d) f
def Inv.call'(I:Inv X pins σ H s)(ho:s'.os=s.os)(u:Un (frs X.stack) ch H H' s.heap s'.heap)(hok:HOk X.prog X.w H' s'.heap)(d:AllBare s'.gens)
  (h:∀b ∈ ch,(b ∈ X.ex\/X.s₀.heap.objs.size<=b)/\b ≠ X.env.locals/\(∀x c,X.env.cells.lookup x=aw c->c ≠ b)/\∀p ∈ X.pn++pins,p.1 ≠ b):Inv X pins σ H' s':=by
 obtain⟨h',j,f,T,O⟩:=s';have e:O=s.os:=ho;subst e;exact I.call (g':=j) (t':=T) (d':=f) u hok d h
end
@[inline]abbrev XK:=Value->Option Addr->Hp->Prop
@[inline]abbrev St:=List (Option V)
@[inline]abbrev VK:=V->Hp->Prop
@[inline]abbrev TE:=St->Hp->VK->Prop
@[inline]abbrev TT:=St->Hp->(Bool->Hp->Prop)->Prop
@[inline]abbrev TA:=St->Hp->(List V->Hp->Prop)->Prop
structure Ends where
 nx:St->Hp->Prop
 rt:VK
 bk:St->Hp->Prop:=λ_ _=>False
 ct:St->Hp->Prop:=λ_ _=>False
@[inline]abbrev TS:=Ends->St->Hp->Prop
abbrev EP(X:Cx)(p:List (Addr × Obj))(c:St)(Q:VK)(u:Value)(b:Shared):Prop:=∃v h,Inv X p c h b/\aJ v u/\Q v h
abbrev TP(X:Cx)(p:List (Addr × Obj))(c:St)(Q:Bool->Hp->Prop)(b:Bool)(d:Shared):Prop:=∃h,Inv X p c h d/\Q b h
abbrev AP(X:Cx)(p:List (Addr × Obj))(c:St)(Q:List V->Hp->Prop)(u:List Value)(b:Shared):Prop:=∃v h,Inv X p c h b/\aO v u/\Q v h
abbrev SP(X:Cx)(p:List (Addr × Obj))(D:Ends)(f:Flow)(c:Shared):Prop:=
 match f with
 |.next=>∃b h,Inv X p b h c/\D.nx b h
 |.brk=>∃b h,Inv X p b h c/\D.bk b h
 |.cont=>∃b h,Inv X p b h c/\D.ct b h
 |.ret u=>∃v b h,Inv X p b h c/\aJ v u/\D.rt v h
abbrev PE(X:Cx)(e:Expr)(t:TE):Prop:=
 ∀ (p:List (Addr × Obj)) (s:Shared) (b:St) (H:Hp) (Q:VK),Inv X p b H s->t b H Q->wpAny (model X.prog X.w) X.A (eval e X.env) (EP X p b Q) X.xe s
abbrev PT(X:Cx)(e:Expr)(t:TT):Prop:=
 ∀ (p:List (Addr × Obj)) (s:Shared) (b:St) (H:Hp) (Q:Bool->Hp->Prop),Inv X p b H s->t b H Q->wpAny (model X.prog X.w) X.A (isTrue e X.env (eval e X.env)) (TP X p b Q) X.xe s
abbrev PW(X:Cx)(e:Expr)(t:TT):Prop:=
 ∀ (b:Sem Value) (p:List (Addr × Obj)) (s:Shared) (c:St) (H:Hp) (Q:Bool->Hp->Prop),Inv X p c H s->t c H Q->wpAny (model X.prog X.w) X.A (isTrue e X.env b) (TP X p c Q) X.xe s
def PW.pt(h:PW X e t):PT X e t:=h _
abbrev PA(X:Cx)(E:List Expr)(t:TA):Prop:=
 ∀ (b:Pos) (p:List (Addr × Obj)) (s:Shared) (c:St) (H:Hp) (Q:List V->Hp->Prop),Inv X p c H s->t c H Q->wpAny (model X.prog X.w) X.A (spliced (backTo b (Uj E X.env))) (AP X p c Q) X.xe s
abbrev PS(X:Cx)(st:Stmt)(t:TS):Prop:=
 ∀ (p:List (Addr × Obj)) (s:Shared) (b:St) (H:Hp) (D:Ends),Inv X p b H s->t D b H->wpAny (model X.prog X.w) X.A (exec st X.env) (SP X p D) X.xe s
abbrev PSs(X:Cx)(st:List Stmt)(t:TS):Prop:=
 ∀ (p:List (Addr × Obj)) (s:Shared) (b:St) (H:Hp) (D:Ends),Inv X p b H s->t D b H->wpAny (model X.prog X.w) X.A (execs st X.env) (SP X p D) X.xe s
def thn{b:Type}{t:Sem b}{Q q:b->Shared->Prop}{M:Model}{A:Around}{E:Value->Shared->Prop}{s:Shared}(h:wpAny M A t Q E s)(c:∀a s,Q a s->q a s):wpAny M A t q E s:=UE h c λ_ _ x=>x
section
variable {X:Cx}
abbrev Nm(i:Nat):TE:=λb H Q=>∃v,b[i]?=aw (aw v)/\Q v H
abbrev tC(v:V):TE:=λ_ H Q=>Q v H
def IB{i:Nat}(hN:X.N[i]?=aw x)(z:Vis X.env.scope x)(hd:(x == ("__debug__" : Str))=aS:=by decide)(d:(x == ("__classdict__" : Str))=aS:=by decide):PE X (.Name x k) (Nm i):=by
 intro p s B H Q I h;obtain⟨v,e,h⟩:=h;obtain⟨m,n,y⟩:=I.loc;obtain⟨u,r,l⟩:=y i x v hN e z;have f:EP X p B Q u s:=⟨v,H,I,r,h⟩;rcases l with ⟨hk,q⟩ |⟨hk,c,j,b⟩
 ·exact wpAny_Name (wpAny_loadName_local I.ok.kind hk n q f) hd
 ·rcases hk with hk |hk
  ·exact wpAny_Name (wpAny_loadName_cell I.ok.kind hk j b f) hd
  ·exact wpAny_Name (wpAny_loadName_free I.ok.kind hk j b f d) hd
def lH{i j p}:PE X (.Constant (.int i) j p) (tC (.int i)):=λ_ _ _ H _ I h=>wpAny_Constant_int ⟨.int i,H,I.tok _,⟨_,rfl⟩,h⟩
def Nn{b j p}:PE X (.Constant (.bool b) j p) (tC (.bl b)):=λ_ _ _ H _ I h=>Constant_bool ⟨.bl b,H,I,rfl,h⟩
def zF{j pos}:PE X (.Constant .none j pos) (tC .non):=λ_ _ _ H _ I h=>Constant_none ⟨.non,H,I,rfl,h⟩
def IC{x j p}:PE X (.Constant (.str x) j p) (tC (.str x)):=λ_ _ _ H _ I h=>Calls.Constant_str ⟨.str x,H,I.tok _,⟨_,rfl⟩,h⟩
abbrev Gl(X:Cx)(x:Str):Prop:=X.env.kindOf x=aw .globalImplicit
def wj(I:Inv X p f H s)(c:Gl X x)(d:X.mg x=aw u)(h:Q u s)
  (hd:(x == ("__debug__" : Str))=aS:=by decide):wpAny (model X.prog X.w) X.A (eval (.Name x b) X.env) Q E s:=
 WL I.ok.kind c (Calls.loadGlobal_global (by rw[I.ok.glob];exact I.mod.glob.keeps I.bk) d h) hd
def dz(I:Inv X p v H s)(c:Gl X x)(f:X.mg x=aD)(n:VI x=aw u)(h:Q u s)
  (d:x ≠ "__name__" := by decide) (hd:(x == ("__debug__" : Str))=aS:=by decide):wpAny (model X.prog X.w) X.A (eval (.Name x b) X.env) Q E s:=by
 obtain⟨q,k,j⟩:=I.mod.blt;exact WL I.ok.kind c (Calls.loadGlobal_builtin (by rw[I.ok.glob];exact I.mod.glob.keeps I.bk) f (by rw[I.ok.blt];exact k.keeps I.bk) ((j x d).trans n) h) hd
def pX(b:Gl X x)(c:X.mg x=aw u)(r:aJ v u)(hd:(x == ("__debug__" : Str))=aS:=by decide):PE X (.Name x p) (tC v):=
 λ_ _ _ H _ I h=>wj I b c ⟨v,H,I,r,h⟩ hd
def iQ(b:Gl X x)(d:X.mg x=aD)(f:VI x=aw u)(r:aJ v u)(c:x ≠ "__name__" := by decide)(hd:(x == ("__debug__" : Str))=aS:=by decide):PE X (.Name x p) (tC v):=
 λ_ _ _ H _ I h=>dz I b d f ⟨v,H,I,r,h⟩ c hd
variable {a b:Expr} {ta tb:TE} {pos:Pos}
variable {tA tB':TT} {rest:List Expr}
abbrev Np(t u:TT):TT:=λd H Q=>t d H λc h=>if c=aN then u d h Q else Q aS h
abbrev tOr(t u:TT):TT:=λd H Q=>t d H λc h=>if c=aN then Q aN h else u d h Q
abbrev Nq(t:TT):TT:=λd H Q=>t d H λc h=>Q (!c) h
def Dz(d:PT X a tA):PW X (.BoolOp .And [a] pos) tA:=by
 intro k p s f H Q I h;refine isTrue_and (thn (d p s f H Q I h) λc j e=>?_);cases c with
 |true=>exact isTrue_and_nil e
 |false=>exact e
def IE(d:PT X a tA):PW X (.BoolOp .Or [a] pos) tA:=by
 intro k p s f H Q I h;refine isTrue_or (thn (d p s f H Q I h) λc j e=>?_);cases c with
 |false=>exact isTrue_or_nil e
 |true=>exact e
def zG(n:PT X a tA)(hb:PW X (.BoolOp .And (b::rest) pos) tB'):PW X (.BoolOp .And (a::b::rest) pos) (Np tA tB'):=by
 intro u p s f H Q I h;refine isTrue_and (thn (n p s f H _ I h) λc k ⟨d,j,q⟩=>?_);cases c with
 |true=>exact hb u p k f d Q j q
 |false=>exact⟨d,j,q⟩
def Hg(n:PT X a tA)(hb:PW X (.BoolOp .Or (b::rest) pos) tB'):PW X (.BoolOp .Or (a::b::rest) pos) (tOr tA tB'):=by
 intro u p s f H Q I h;refine isTrue_or (thn (n p s f H _ I h) λc k ⟨d,j,q⟩=>?_);cases c with
 |true=>exact⟨d,j,q⟩
 |false=>exact hb u p k f d Q j q
def IG(f:PT X a tA):PT X (.UnaryOp .Not a pos) (Nq tA):=by
 intro p s j H Q I h;exact isTrue_not (f p s j H (λc d=>Q (!c) d) I h)
abbrev Hh(ta tb:TE):TE:=λd H Q=>ta d H λx h=>∃c,x = .bl c/\if c=aN then tb d h Q else Q (.bl aS) h
abbrev Nr(ta tb:TE):TE:=λd H Q=>ta d H λx h=>∃c,x = .bl c/\if c=aN then Q (.bl aN) h else tb d h Q
abbrev Hi(ta:TE):TE:=λd H Q=>ta d H λx h=>∃c,x = .bl c/\Q (.bl (!c)) h
def zH{op}(h:PE X a t):PE X (.BoolOp op [a] pos) t:=λp s d H Q I c=>BoolOp_one (h p s d H Q I c)
def zI(n:PE X a ta)(hb:PE X (.BoolOp .And (b::rest) pos) tb):PE X (.BoolOp .And (a::b::rest) pos) (Hh ta tb):=by
 intro p s f H Q I h;refine BoolOp_and (thn (n p s f H _ I h) λv k ⟨x,d,j,r1,q⟩=>?_);obtain⟨c,rfl,q⟩:=q;cases r1;refine UV ?_;cases c with
 |true=>exact hb p k f d Q j q
 |false=>exact⟨.bl aS,d,j,rfl,q⟩
def Hj(n:PE X a ta)(hb:PE X (.BoolOp .Or (b::rest) pos) tb):PE X (.BoolOp .Or (a::b::rest) pos) (Nr ta tb):=by
 intro p s f H Q I h;refine BoolOp_or (thn (n p s f H _ I h) λv k ⟨x,d,j,r1,q⟩=>?_);obtain⟨c,rfl,q⟩:=q;cases r1;refine UV ?_;cases c with
 |false=>exact hb p k f d Q j q
 |true=>exact⟨.bl aN,d,j,rfl,q⟩
def IH(f:PE X a ta):PE X (.UnaryOp .Not a pos) (Hi ta):=by
 intro p s j H Q I h;refine UnaryOp_ (thn (f p s j H _ I h) λv n ⟨x,d,k,r1,q⟩=>?_);obtain⟨c,rfl,q⟩:=q;cases r1;exact not_of (UV ⟨.bl (!c),d,k,rfl,q⟩)
abbrev tIf(t:TT)(ta tb:TE):TE:=λd H Q=>t d H λc h=>if c=aN then ta d h Q else tb d h Q
def zJ{c:Expr}(u:PT X c tA)(v:PE X a ta)(hb:PE X b tb):PE X (.IfExp c a b pos) (tIf tA ta tb):=by
 intro p s f H Q I h;refine wpAny_IfExp (thn (u p s f H _ I h) λd j ⟨k,n,q⟩=>?_);cases d with
 |true=>exact v p j f k Q n q
 |false=>exact hb p j f k Q n q
end
abbrev SqL(K:Vk)(H:Hp)(a:Addr)(X:List V):Prop:=
 Rd H a (.lst X) ∨
  ∃ (o:Obj) (I:Array Value) (n:Nat),K.lookup a=aw o/\o.cls = .type "list"/\o.dict=aD/\o.data = .seq I n/\I.size<=sizeLine/\aO X I.toList
abbrev SqT(K:Vk)(H:Hp)(a:Addr)(X:List V):Prop:=
 Rd H a (.tup X) ∨
  ∃ (o:Obj) (I:Array Value) (n:Nat),K.lookup a=aw o/\o.cls = .type "tuple"/\o.data = .seq I n/\I.size<=sizeLine/\aO X I.toList
abbrev QA:Value->Option V
 |.none=>aw .non
 |.bool b=>aw (.bl b)
 |.int i _=>aw (.int i)
 |.str x _=>aw (.str x)
 |.bytes b _=>aw (.byt b)
 |.float b _=>aw (.flt b)
 |.ref a=>aw (.ref a)
 |.type n=>aw (.ty n)
 |_=>aD
def aJ.abs(r:aJ x u):QA u=aw x:=by
 cases x with
 |non=>cases r;rfl
 |bl _=>cases r;rfl
 |int _=>obtain⟨t,rfl⟩:=r;rfl
 |str _=>obtain⟨t,rfl⟩:=r;rfl
 |byt _=>obtain⟨t,rfl⟩:=r;rfl
 |flt _=>obtain⟨t,rfl⟩:=r;rfl
 |ref _=>cases r;rfl
 |ty _=>cases r;rfl
def aJ.inj{x y:V}{u:Value}(r:aJ x u)(q:aJ y u):x=y:=Option.some.inj (r.abs.symm.trans q.abs)
def aO.inj:∀ {X y:List V} {u:List Value},aO X u->aO y u->X=y
 |_,_,_,.nil,.nil=>rfl
 |_,_,_,.cons r t,.cons r' t'=>by rw[r.inj r',aO.inj t t']
section
variable {X:Cx} {pins:List (Addr × Obj)} {σ:St} {H:Hp} {s:Shared} {a:Addr} {xs ys:List V}
def SqL.of{K:Vk}(h:H a=aw (.lst xs)):SqL K H a xs:=.inl (.inl h)
def SqT.of{K:Vk}(h:H a=aw (.tup xs)):SqT K H a xs:=.inl (.inl h)
def Inv.list(I:Inv X pins σ H s)(h:SqL X.K H a xs):∃b:List Value,aO xs b/\PlainL s.heap a b.toArray/\xs.length<=sizeLine:=by
 rcases h with h |⟨o,b,n,hk,hc,hd,hs,hz,r⟩
 ·obtain⟨z,b,n,r,e⟩:=h.ok I.hok;exact⟨b,r,⟨_,n,e,rfl,rfl,rfl⟩,z⟩
 ·refine⟨b.toList,r,⟨o,n,I.kIn a o hk,hc,hd,by simpa using hs⟩,?_⟩;have e:=r.length;simp only[ZC] at e
  lia
def Inv.tuple(I:Inv X pins σ H s)(h:SqT X.K H a xs):∃b:List Value,aO xs b/\IsTup s.heap a b.toArray/\xs.length<=sizeLine:=by
 rcases h with h |⟨o,b,n,hk,hc,hs,hz,r⟩
 ·obtain⟨z,b,r,p⟩:=h.ok I.hok;exact⟨b,r,p.isTup,z⟩
 ·refine⟨b.toList,r,⟨o,I.kIn a o hk,hc,n,by simpa using hs⟩,?_⟩;have e:=r.length;simp only[ZC] at e
  lia
def Inv.list_inj(I:Inv X pins σ H s)(h:SqL X.K H a xs)(j:SqL X.K H a ys):xs=ys:=by
 obtain⟨b,r,⟨o,n,e,_,_,d⟩,_⟩:=I.list h;obtain⟨its',f,⟨O,k,E,_,_,c⟩,_⟩:=I.list j;rw[e] at E;cases E;rw[d] at c;injection c with d1 _;have:b=its':=by simpa using congrArg Array.toList d1
 subst this;exact r.inj f
def Inv.tuple_inj(I:Inv X pins σ H s)(h:SqT X.K H a xs)(j:SqT X.K H a ys):xs=ys:=by
 obtain⟨b,r,⟨o,e,_,n,d⟩,_⟩:=I.tuple h;obtain⟨its',f,⟨O,E,_,k,c⟩,_⟩:=I.tuple j;rw[e] at E;cases E;rw[d] at c;injection c with d1 _;have:b=its':=by simpa using congrArg Array.toList d1
 subst this;exact r.inj f
end
noncomputable abbrev Cx.wish(X:Cx)(E:Value->Shared->Prop):Cx:={ X with xe:=E }
noncomputable abbrev Cx.nox(X:Cx):Cx:=X.wish λ_ _=>False
def Cx.Ok.wish{X:Cx}(ok:X.Ok)(E:Value->Shared->Prop):(X.wish E).Ok:=
 ⟨ok.mod,ok.kind,ok.glob,ok.blt,ok.above,ok.inj,ok.has,ok.cab,ok.hd,ok.frames,ok.stk,ok.exf,ok.bs,ok.bsz,ok.noex,ok.exfs,ok.funs,ok.frf⟩
def Cx.Ok.unwish{X:Cx}{E:Value->Shared->Prop}(ok:(X.wish E).Ok):X.Ok:=
 ⟨ok.mod,ok.kind,ok.glob,ok.blt,ok.above,ok.inj,ok.has,ok.cab,ok.hd,ok.frames,ok.stk,ok.exf,ok.bs,ok.bsz,ok.noex,ok.exfs,ok.funs,ok.frf⟩
section
variable {X:Cx} {pins:List (Addr × Obj)} {σ:St} {H:Hp} {s:Shared} {E:Value->Shared->Prop}
def Inv.wish(I:Inv X pins σ H s)(E:Value->Shared->Prop):Inv (X.wish E) pins σ H s:=⟨I.ok.wish E,I.os,I.bare,I.base,I.loc,I.cell,I.free,I.freeC,I.pin,I.hok,I.len⟩
def Inv.unwish(I:Inv (X.wish E) pins σ H s):Inv X pins σ H s:=⟨I.ok.unwish,I.os,I.bare,I.base,I.loc,I.cell,I.free,I.freeC,I.pin,I.hok,I.len⟩
def SP.unwish{D:Ends}{f:Flow}{s':Shared}(h:SP (X.wish E) pins D f s'):SP X pins D f s':=by
 cases f with
 |next=>obtain⟨b,c,I,q⟩:=h;exact⟨b,c,I.unwish,q⟩
 |brk=>obtain⟨b,c,I,q⟩:=h;exact⟨b,c,I.unwish,q⟩
 |cont=>obtain⟨b,c,I,q⟩:=h;exact⟨b,c,I.unwish,q⟩
 |ret u=>obtain⟨v,b,c,I,r,q⟩:=h;exact⟨v,b,c,I.unwish,r,q⟩
def PSs.nox{st:List Stmt}{t:TS}(h:PSs X.nox st t):PSs X st t:=λpins s σ H D I b=>
 UE (h pins s σ H D (I.wish _) b) (λ_ _ q=>q.unwish) λ_ _ z=>False.elim z
end
section
variable {X:Cx} {st:Stmt} {rest:List Stmt} {t u:TS} {e:Expr} {te:TE} {pos:Pos}
abbrev Hk:TS:=λD b H=>D.nx b H
abbrev Nt(t u:TS):TS:=λD b H=>t { D with nx:=u D } b H
def DA:PSs X [] Hk:=λ_ _ b H _ I h=>wpAny_execs_nil ⟨b,H,I,h⟩
def zK(j:PS X st t)(d:PSs X rest u):PSs X (st::rest) (Nt t u):=by
 intro p s n H D I h;refine wpAny_execs_cons (thn (j p s n H { D with nx:=u D } I h) λf c q=>?_);cases f with
 |next=>
  obtain⟨b,k,y,q⟩:=q;exact d p c b k D y q
 |ret v=>exact q
 |brk=>exact q
 |cont=>exact q
abbrev Hl:TS:=λD b H=>D.ct b H
def rD:PS X (.Continue pos) Hl:=λ_ _ b H _ I h=>wpAny_Continue ⟨b,H,I,h⟩
def Inv.quiet{p:List (Addr × Obj)}{b:St}{H:Hp}{s:Shared}(I:Inv X p b H s):interactive X.env=aS:=by simp[interactive,I.ok.kind]
abbrev Hm(te:TE):TS:=λD b H=>te b H λ_ h=>D.nx b h
def DB(d:PE X e te)(hs:Ul e aD pos.line X.env=pure aS:=by rfl):PS X (.Expr e pos) (Hm te):=by
 intro p s b H D I h;exact wpAny_Expr_any (thn (d p s b H _ I h) λv j ⟨x,c,f,r1,q⟩=>⟨b,c,f,q⟩) I.quiet hs
abbrev Nu(te:TE):TS:=λD b H=>te b H D.rt
def II(d:PE X e te):PS X (.Return (aw e) pos) (Nu te):=by
 intro p s b H D I h;exact wpAny_Return_some (thn (d p s b H _ I h) λv j ⟨x,c,f,r1,q⟩=>⟨x,b,c,f,r1,q⟩)
abbrev Nv(c:TT)(t u:TS):TS:=λD d H=>c d H λb h=>if b=aN then t D d h else u D d h
def Nw{c:Expr}{a b:List Stmt}{T:TT}(v:PT X c T)(y:PSs X a t)(hb:PSs X b u):PS X (.If c a b pos) (Nv T t u):=by
 intro p s f H D I h;refine wpAny_If (thn (v p s f H _ I h) λd j ⟨k,n,q⟩=>?_);cases d with
 |true=>exact y p j f k D n q
 |false=>exact hb p j f k D n q
abbrev IJ:TS:=λ_ _ _=>False
def zL:PS X st IJ:=λ_ _ _ _ _ _ h=>h.elim
end
@[inline]abbrev TG:=V->St->Hp->(St->Hp->Prop)->Prop
@[inline]abbrev TGs:=List V->St->Hp->(St->Hp->Prop)->Prop
abbrev PG(X:Cx)(T:Expr)(t:TG):Prop:=
 ∀ (p:List (Addr × Obj)) (s:Shared) (c:St) (H:Hp) (v:V) (u:Value) (Q:St->Hp->Prop),Inv X p c H s->aJ v u->t v c H Q ->
  wpAny (model X.prog X.w) X.A (assign T X.env u) (λ_ d=>∃b h,Inv X p b h d/\Q b h) X.xe s
abbrev PGs(X:Cx)(T:List Expr)(t:TGs):Prop:=
 ∀ (p:List (Addr × Obj)) (s:Shared) (c:St) (H:Hp) (v:List V) (u:List Value) (Q:St->Hp->Prop),Inv X p c H s->aO v u->t v c H Q ->
  wpAny (model X.prog X.w) X.A (VC ((VB T X.env).map (·.2)) u) (λ_ d=>∃b h,Inv X p b h d/\Q b h) X.xe s
@[inline]abbrev DC:=V->V->V->Hp->(Hp->Prop)->Prop
abbrev IK(X:Cx)(t:DC):Prop:=
 ∀ (p:List (Addr × Obj)) (s:Shared) (b:St) (H:Hp) (o i v:V) (O I u:Value) (Q:Hp->Prop),Inv X p b H s->aJ o O->aJ i I->aJ v u->t o i v H Q ->
  wpAny (model X.prog X.w) X.A (setItem O I u) (λ_ c=>∃h,Inv X p b h c/\Q h) X.xe s
section
variable {X:Cx} {pos:Pos}
abbrev rE(i:Nat):TG:=λv b H Q=>Q (b.set i (aw v)) H
def DD{i:Nat}(hN:X.N.Nodup)(hi:X.N[i]?=aw x)(c:Loc X.env.scope x)(d:X.fn x=aN\/X.env.scope.names.lookup x=aw .local:=by first |exact .inl rfl |exact .inr rfl |assumption):PG X (.Name x pos) (rE i):=by
 intro p s j H v u Q I r h;exact wpAny_assign_Name (cS I hN hi c r (λf b=>⟨_,H,b,h⟩) d)
abbrev Nx:TGs:=λv b H Q=>v=[]/\Q b H
abbrev Hn(t:TG)(u:TGs):TGs:=λc d H Q=>∃v r,c=v::r/\t v d H λb h=>u r b h Q
def DE:PGs X [] Nx:=by
 intro p s b H v u Q I r h;obtain⟨e,h⟩:=h;subst e;cases r;exact assignInOrder_nil ⟨b,H,I,h⟩
def zM{e:Expr}{E:List Expr}{t:TG}{u:TGs}(k:PG X e t)(f:PGs X E u)
  (hs:(VB (e::E) X.env).map (·.2)=assign e X.env::(VB E X.env).map (·.2):=by rfl):PGs X (e::E) (Hn t u):=by
 intro p s d H B U Q I r h;obtain⟨v,C,y,h⟩:=h;subst y;cases r with
 |cons r n=>
  rw[hs];refine assignInOrder_cons (thn (k p s d H _ _ _ I r h) λ_ j ⟨b,c,z,q⟩=>?_);exact f p j b c _ _ Q z n q
abbrev Ny(K:Vk)(n:Nat)(t:TGs):TG:=λv c H Q=>∃a b,v = .ref a/\SqT K H a b/\b.length=n/\t b c H Q
def IL{k:Nat}{n:Nat}(B:X.calm=aN)(h:PGs X E t)
  (z:(VB E X.env).length=n:=by rfl) (d:(VB E X.env).findIdx? (·.1)=aD:=by rfl):PG X (.Tuple E k pos) (Ny X.K n t):=by
 intro p s f H v u Q I r c;obtain⟨a,T,O,U,L,c⟩:=c;subst O;cases r;obtain⟨C,j,q,Z⟩:=I.tuple U;refine assign_Tuple_tuple (I.ok.hd B) q (by simp[z,<-L,j.length]) d λJ y=>?_;have Y:Inv X p f H { s with heap:=J }:=I.kept (t':=s.toks) λb o e=>y b o (ZI (Zt e)) e;exact h p _ f H T _ Q Y (by simpa using j) c
abbrev Nz(d T:TE)(t:DC):TG:=λv b H Q=>d b H λo f=>T b f λi h=>t o i v h λc=>Q b c
def IM{o i:Expr}{T d:TE}{t:DC}(ho:PE X o T)(hi:PE X i d)(hs:IK X t)
  (z:∀v,assign (.Subscript o i pos) X.env v=(do
   let O <-holding [v] (eval o X.env)
   let b <-holding [v,O] (eval i X.env)
   standAt pos
   holding [v,O,b] (setItem O b v)
   release [v,O,b] []):=by intro _;rfl):PG X (.Subscript o i pos) (Nz T d t):=by
 intro p s c H v u Q I r h;rw[z];refine Us (UA (thn (ho p s c H _ I h) λO B ⟨x,j,U,r1,q⟩=>?_));refine Us (UA (thn (hi p B c j _ U q) λb n ⟨y,f,C,r2,k⟩=>?_));refine Us (UU (Us (UA (thn (hs p n c f x y v O b u _ C r1 r2 r k) λ_ Y ⟨J,L,E⟩=>?_))));exact wpAny_release ⟨c,J,L,E⟩
abbrev zN(T:TE)(g:TG):TS:=λD b H=>T b H λx h=>g x b h D.nx
def zO{T e:Expr}{b:TE}{g:TG}(u:PE X e b)(d:PG X T g)(hs:Um [T] e pos.line X.env=pure aS:=by rfl)(f:Uk [T] e X.env=pure aD:=by rfl)
  (k:(VB [T] X.env).map (·.2)=[assign T X.env]:=by rfl):PS X (.Assign [T] e pos) (zN b g):=by
 intro p s c H D I h;refine wpAny_Assign_stores (thn (u p s c H _ I h) λv j ⟨x,n,y,r1,Q⟩=>?_) hs f;rw[k];exact thn (d p j c n x v _ y r1 Q) λ_ z q=>q
def IP{i:Nat}{x:Str}{e:Expr}{T:TE}{p:Pos}(hN:X.N.Nodup)(hi:X.N[i]?=aw x)(c:Loc X.env.scope x)(k:PE X e T)(hs:Ul e (aw (.Name x p)) pos.line X.env=pure aS:=by rfl)(j:X.fn x=aN\/X.env.scope.names.lookup x=aw .local:=by first |exact .inl rfl |exact .inr rfl |assumption) :
  PS X (.Assign [.Name x p] e pos) (zN T (rE i)):=by
 intro b s n H D I h;refine wpAny_Assign_Name (thn (k b s n H _ I h) λv u ⟨y,f,q,r1,Q⟩=>?_) hs;exact cS q hN hi c r1 (λz d=>⟨_,f,d,Q⟩) j
abbrev NA(i j:Nat)(T:TA):TS:=λD b H=>T b H λc h=>∃v w,c=[v,w]/\D.nx ((b.set i (aw v)).set j (aw w)) h
def IQ{i j:Nat}{x y:Str}{a b:Expr}{ta:TA}{z J pt:Pos}{B L d}(hc:X.calm=aN)(hN:X.N.Nodup)(hi:X.N[i]?=aw x)(hj:X.N[j]?=aw y)(n:i ≠ j)
  (T:X.env.scope.names.lookup x=aw .local) (O:X.env.scope.names.lookup y=aw .local) (ha:PA X [a,b] ta)
  (hw:Uk [.Tuple [.Name x z,.Name y J] B pt] (.Tuple [a,b] L d) X.env=pure (aw [x,y]))
  (hs:Um [.Tuple [.Name x z,.Name y J] B pt] (.Tuple [a,b] L d) pos.line X.env=pure aS:=by rfl) :
  PS X (.Assign [.Tuple [.Name x z,.Name y J] B pt] (.Tuple [a,b] L d) pos) (NA i j ta):=by
 intro c s Z H D I h;rw[exec_Assign_arm];refine Us (UU ?_);rw[hs];refine Us (UI ?_);rw[if_neg (by decide)];refine Us (Tuple_ (thn (ha _ c s Z H _ I h) λus k ⟨vs,U,I1,r1,Q⟩=>?_));obtain⟨v,w,e1,Q⟩:=Q;subst e1
 obtain⟨u,u2,rfl,rv,C⟩:∃u u2,us=[u,u2]/\aJ v u/\aJ w u2:=by
  cases r1 with
  |cons p q=>
   cases q with
   |cons p' q'=>
    cases q';exact⟨_,_,rfl,p,p'⟩
 refine UF ?_ (by show 2<=sizeLine;decide);have I2:Inv X c Z U { k with heap:=k.heap.push { cls:=.type "tuple", data:=.seq [u,u2].toArray } }:=I1.kept (t':=k.toks) λb o e=>Zf _ e;rw[hw];refine Us (UI ?_);show wpAny (model X.prog X.w) X.A (do rule "assign.swapped-stores"; let f <-unpackItems (.ref k.heap.objs.size) 2 aD;VC [λv=>VH X.env y v,λv=>VH X.env x v] f.reverse;pure Flow.next) _ _ _;refine Us (UQ (Us (unpackItems_tuple (items:=#[u,u2]) (I.ok.hd hc) (IsTup.new k.heap _) λh' E=>?_)));have I3:=I2.kept (h':=h') (t':=k.toks) λb o e=>E b o (ZI (Zt e)) e;show wpAny _ _ (VC [λv=>VH X.env y v,λv=>VH X.env x v] [u2,u] >>= λ_=>pure Flow.next) _ _ _;refine Us (assignInOrder_cons (Ut (cS I3 hN hj (.inl O) C (λs2 I4=>?_) (.inr O))));refine assignInOrder_cons (Ut (cS I4 hN hi (.inl T) rv (λs3 Y=>assignInOrder_nil (UI ?_)) (.inr T)));rw[Xq _ _ (Ne.symm n)] at Y;exact⟨_,U,Y,Q⟩
end
structure It where
 go:Nat->Hp->Prop
 yld:Nat->Hp->V->Hp->Prop
 stop:Nat->Hp->Prop
abbrev gX(X:Cx)(d:List (Addr × Obj))(H:Hp)(b:Addr):Prop:=
 H b=aD/\b ≠ X.env.locals/\b ∉ X.fs/\(b ∈ X.ex\/X.s₀.heap.objs.size<=b)/\(∀x c,X.env.cells.lookup x=aw c->c ≠ b)/\∀p ∈ X.pn++d,p.1 ≠ b
def Inv.fpOk(I:Inv X d k H s)(hb:s.heap.objs.size<=b)(h:f b=aD):gX X d f b:=by
 refine⟨h,X6 (ZH I.lt hb),I.nofs hb,.inr (Z0 I.sz hb),λx c e z=>?_,λp j z=>?_⟩
 ·obtain⟨v,q⟩:=I.cell x c e;exact absurd (ZH q.lt (by rw[z];exact hb)) (ZR _)
 ·exact absurd (ZH (Zt (I.pin p j).1) (by rw[z];exact hb)) (ZR _)
structure Turn(P:Program)(w:World)(K:Vk)(tg:Expr)(J:It)(fp:List Addr)(it:Addr)(tn:Nat->Heap->Prop):Prop where
 mem:it ∈ fp
 obj:∀i h,tn i h->∀b ∈ fp,∃o,h.get? b=aw o/\∀v,o.data ≠ .cell v
 keep:∀i h h',tn i h->(∀b ∈ fp,∀o,h.get? b=aw o->h'.get? b=aw o)->tn i h'
 item:∀ (X:Cx),X.prog=P->X.w=w->X.K=K->X.calm=aN->∀ (i:Nat) (pins:List (Addr × Obj)) (s:Shared) (σ:St) (H:Hp) (E:Value->Shared->Prop),Inv X pins σ H s->(∀b ∈ fp,gX X pins H b)->tn i s.heap->J.go i H ->
  wpAny (model P w) X.A (pyNext (.ref it)) (λr s1=>∃u,r=aw u ∧
   wpAny (model P w) X.A (V0 tg (.ref it) u) (λ_ s2=>∃x H',Inv X pins σ H' s2/\aJ x u/\J.yld i H x H'/\tn (i+1) s2.heap/\∀b ∈ fp,H' b=aD) E s1) E s
 done:∀ (X:Cx),X.prog=P->X.w=w->X.K=K->X.calm=aN->∀ (i:Nat) (pins:List (Addr × Obj)) (s:Shared) (σ:St) (H:Hp) (E:Value->Shared->Prop),Inv X pins σ H s->(∀b ∈ fp,gX X pins H b)->tn i s.heap->J.stop i H ->
  wpAny (model P w) X.A (pyNext (.ref it)) (λr s1=>r=aD/\Inv X pins σ H s1) E s
 self:∀ (A:Around) (i:Nat) (s:Shared) (Q:Value->Shared->Prop) (E:Value->Shared->Prop),tn i s.heap->Q (.ref it) s->wpAny (model P w) A (pyIter (.ref it)) Q E s
@[inline]abbrev TI:=St->Hp->(It->Hp->Prop)->Prop
abbrev PIE(X:Cx)(p:List (Addr × Obj))(j:St)(k:Expr)(R:It->Hp->Prop)(I:Value)(c:Shared):Prop:=
 ∃ (d:Addr) (f:List Addr) (T:Nat->Heap->Prop) (J:It) (h:Hp),I = .ref d/\Inv X p j h c/\Turn X.prog X.w X.K k J f d T/\T 0 c.heap/\(∀b ∈ f,gX X p h b)/\R J h
abbrev PI(X:Cx)(T I:Expr)(c:TI):Prop:=
 ∀ (p:List (Addr × Obj)) (s:Shared) (b:St) (H:Hp) (R:It->Hp->Prop),Inv X p b H s->c b H R ->
  wpAny (model X.prog X.w) X.A (eval I X.env) (λv d=>wpAny (model X.prog X.w) X.A (pyIter v) (PIE X p b T R) X.xe d) X.xe s
def wk(ho:s.heap.get? I=aw o)(d:o.cls = .type n)(hd:o.data = .fields v)
  (c:["enumerate", "zip", "dict_itemiterator", "dict_reverseitemiterator", "odict_iterator", "itertools.zip_longest", "itertools.pairwise"].contains n=aS) (b:Q () s):wpAny M A (V0 T (.ref I) u) Q E s:=by
 unfold V0
 cases T <;> first
  |exact UI b
  | (cases u <;> first
    |exact UI b
    | (refine Us (wpAny_load ho ?_)
       rw[d,hd];show wpAny M A (if (["enumerate", "zip", "dict_itemiterator", "dict_reverseitemiterator", "odict_iterator", "itertools.zip_longest", "itertools.pairwise"].contains n && v[0]? == aw (rawInt _))=aN then _ else _) Q E s;rw[if_neg (by intro h;rw[c,Xh] at h;cases h)];exact UI b))
abbrev Itl(K:Vk)(a:Addr):It:=
 ⟨λi H=>∃X x,SqL K H a X/\X[i]?=aw x,λi H x h=>h=H/\∀X,SqL K H a X->X[i]?=aw x,λi H=>∃X,SqL K H a X/\X.length<=i⟩
abbrev Itt(K:Vk)(a:Addr):It:=
 ⟨λi H=>∃X x,SqT K H a X/\X[i]?=aw x,λi H x h=>h=H/\∀X,SqT K H a X->X[i]?=aw x,λi H=>∃X,SqT K H a X/\X.length<=i⟩
abbrev Itr(lo:Int)(n:Nat):It:=⟨λi _=>i < n,λi H x h=>h=H/\x = .int (lo+i),λi _=>n<=i⟩
def xZ{P:Program}{w:World}{K:Vk}{tg:Expr}(a it:Addr):Turn P w K tg (Itl K a) [it] it (λi h=>h.IsListIter it a i) where
 mem:=by simp
 obj:=λi h st b hb=>by
  have e:b=it:=by simpa using hb
  subst e;obtain⟨o,e,c,d⟩:=st;exact⟨o,e,λv z=>by rw[d] at z;cases z⟩
 keep:=λi h q st k=>st.at λo e=>k it (by simp) o e
 item:=by
  intro X hP C J hc i f s σ H E I n st Y;subst hP C J;obtain⟨xs,x,y,B⟩:=Y;obtain⟨U,T,p,hz⟩:=I.list y;obtain⟨u,hu,ru⟩:=T.get B;obtain⟨Q,Z,f2,f3,O,L⟩:=n it (by simp);refine wpAny_pyNext_list_item st p.isList (x:=u) (by simpa using hu) λq j sb=>?_;have I1:Inv X f σ H { s with heap:=q }:=I.turned (t':=s.toks) (λb o hb e=>(sb.2 b hb).trans e) Q Z f3 O L;obtain⟨o,e,c,d⟩:=id j;exact⟨u,rfl,wk (s:={ s with heap:=q }) e c d (by decide) ⟨x,H,I1,ru,⟨rfl,λys hy=>by rw[I.list_inj hy y];exact B⟩,j,λb hb=>(n b hb).1⟩⟩
 done:=by
  intro X hP C J hc i f s σ H E I n st Y;subst hP C J;obtain⟨xs,y,B⟩:=Y;obtain⟨U,T,p,hz⟩:=I.list y;obtain⟨Q,Z,f2,f3,O,L⟩:=n it (by simp);have hl:=T.length;exact wpAny_pyNext_list_end (I.ok.hd hc) st p.isList (by simp;lia) λq eb=>⟨rfl,I.turned (t':=s.toks) (λb o hb e=>eb b o hb e) Q Z f3 O L⟩
 self:=λ_ _ _ _ _ st h=>wpAny_pyIter_listiter st h
def uh{P:Program}{w:World}{K:Vk}{tg:Expr}(a it:Addr):Turn P w K tg (Itt K a) [it] it (λi h=>h.IsTupleIter it a i) where
 mem:=by simp
 obj:=λi h st b hb=>by
  have e:b=it:=by simpa using hb
  subst e;obtain⟨o,e,c,d⟩:=st;exact⟨o,e,λv z=>by rw[d] at z;cases z⟩
 keep:=λi h y st k=>st.at λo e=>k it (by simp) o e
 item:=by
  intro X hP J L hc i f s σ H E I q st Y;subst hP J L;obtain⟨xs,x,B,C⟩:=Y;obtain⟨j,U,p,hz⟩:=I.tuple B;obtain⟨u,hu,ru⟩:=U.get C;obtain⟨T,Z,f2,f3,Q,O⟩:=q it (by simp);refine wpAny_pyNext_tuple_item st (show s.heap.IsTuple a j.toArray from p) (x:=u) (by simpa using hu) λy n sb=>?_;have I1:Inv X f σ H { s with heap:=y }:=I.turned (t':=s.toks) (λb o hb e=>(sb.2 b hb).trans e) T Z f3 Q O;obtain⟨o,e,c,d⟩:=id n;exact⟨u,rfl,wk (s:={ s with heap:=y }) e c d (by decide) ⟨x,H,I1,ru,⟨rfl,λys hy=>by rw[I.tuple_inj hy B];exact C⟩,n,λb hb=>(q b hb).1⟩⟩
 done:=by
  intro X hP J L hc i f s σ H E I q st Y;subst hP J L;obtain⟨xs,B,C⟩:=Y;obtain⟨j,U,p,hz⟩:=I.tuple B;obtain⟨T,Z,f2,f3,Q,O⟩:=q it (by simp);have hl:=U.length;exact wpAny_pyNext_tuple_end (I.ok.hd hc) st (show s.heap.IsTuple a j.toArray from p) (by simp;lia) λy eb=>⟨rfl,I.turned (t':=s.toks) (λb o hb e=>eb b o hb e) T Z f3 Q O⟩
 self:=λ_ _ _ _ _ st h=>wpAny_pyIter_tupleiter st h
def ui{P:Program}{w:World}{K:Vk}{tg:Expr}(it:Addr)(lo:Int)(n:Nat):Turn P w K tg (Itr lo n) [it] it (λi h=>W8 h it (lo+(i:Nat) * 1) ((n:Int) - (i:Nat)) 1) where
 mem:=by simp
 obj:=λi h st b hb=>by
  have e:b=it:=by simpa using hb
  subst e
  exact⟨_,st,λv z=>by
   have Z:Data.fields _=Data.cell v:=z;cases Z⟩
 keep:=λi h f st k=>k it (by simp) _ st
 item:=by
  intro X O j q C i p s T H E I d st J;subst O j q;obtain⟨B,L,Y,Q,y,u⟩:=d it (by simp);have W:=Walks.range (prog:=X.prog) (w:=X.w) (I.ok.hd C) it lo 1 n;refine W.item i s _ _ J st λv f U hv c kk=>?_;obtain⟨t,rfl⟩:=hv;have I1:Inv X p T H { s with heap:=f,toks:=U }:=I.turned (λb o hb e=>kk b o (by simpa using hb) e) B L Q y u;refine⟨_,rfl,wk (s:={ s with heap:=f,toks:=U }) (n := "range_iterator") c rfl rfl (by decide) ⟨.int (lo+i),H,I1,⟨t,?_⟩,⟨rfl,rfl⟩,c,λb hb=>(d b hb).1⟩⟩;rw[Int.mul_one]
 done:=by
  intro X O j q C i p s T H E I d st J;subst O j q;obtain⟨B,L,Y,Q,y,u⟩:=d it (by simp);exact UP (I.ok.hd C) st (by have:n<=i:=J;lia) λf eb=>⟨rfl,I.turned (t':=s.toks) (λb o hb e=>eb b o hb e) B L Q y u⟩
 self:=λ_ _ _ _ _ st h=>UL st h
section
variable {X:Cx} {tg:Expr}
abbrev zP(K:Vk)(T:TE):TI:=λb H R=>T b H λx h=>∃a,x = .ref a/\(∃c,SqL K h a c)/\R (Itl K a) h
abbrev NB(K:Vk)(T:TE):TI:=λb H R=>T b H λx h=>∃a,x = .ref a/\(∃c,SqT K h a c)/\R (Itt K a) h
def wm{l:Expr}{T:TE}(u:PE X l T):PI X tg l (zP X.K T):=by
 intro c s k H R I h;refine thn (u c s k H _ I h) λv d ⟨x,j,f,r1,Q⟩=>?_;obtain⟨a,e,⟨C,y⟩,q⟩:=Q;subst e;cases r1;obtain⟨n,B,p,z⟩:=f.list y;refine UK p.isList ?_;refine⟨d.heap.objs.size,[d.heap.objs.size],_,_,j,rfl,f.kept (t':=d.toks) λb o e=>Zf _ e,xZ a _,⟨_,ZA _ rfl,rfl,rfl⟩,λb hb=>?_,q⟩;have e:b=d.heap.objs.size:=by simpa using hb
 subst e;exact f.fpOk (Ze _) (f.hok.fresh (Ze _))
def IR{l:Expr}{T:TE}(u:PE X l T):PI X tg l (NB X.K T):=by
 intro c s n H R I h;refine thn (u c s n H _ I h) λv d ⟨x,k,f,r1,Q⟩=>?_;obtain⟨a,e,⟨C,y⟩,q⟩:=Q;subst e;cases r1;obtain⟨j,B,p,z⟩:=f.tuple y;refine UM (show d.heap.IsTuple a j.toArray from p) ?_;refine⟨d.heap.objs.size,[d.heap.objs.size],_,_,k,rfl,f.kept (t':=d.toks) λb o e=>Zf _ e,uh a _,⟨_,ZA _ rfl,rfl,rfl⟩,λb hb=>?_,q⟩;have e:b=d.heap.objs.size:=by simpa using hb
 subst e;exact f.fpOk (Ze _) (f.hok.fresh (Ze _))
def rF{lo hi:Int}{T:Nat}(I:Inv X p d H s)(k:-(2 ^ 62)<=lo)(j:lo < 2 ^ 62)(n:-(2 ^ 62)<=hi)(h4:hi < 2 ^ 62)
  (q:R (Itr lo (hi - lo).toNat) H):wpAny (model X.prog X.w) X.A (pyIter (.ref s.heap.objs.size)) (PIE X p d tg R) E { s with heap:=s.heap.push { cls:=.type "range", data:=.fields #[.int lo t,.int hi u,.int 1 v] },toks:=T }:=by
 refine wpAny_pyIter_range (IsRange.new ..) (small_one k j n h4) ?_;have c:Inv X p d H { s with heap:=s.heap.push { cls:=.type "range", data:=.fields #[.int lo t,.int hi u,.int 1 v] },toks:=T }:=I.kept λb o e=>Zf _ e
 refine⟨(s.heap.push { cls:=.type "range", data:=.fields #[.int lo t,.int hi u,.int 1 v] }).objs.size,[(s.heap.push { cls:=.type "range", data:=.fields #[.int lo t,.int hi u,.int 1 v] }).objs.size],_,_,H,rfl,
  c.kept (t':=T) λb o e=>Zf _ e,ui _ lo (hi - lo).toNat,?_,λb hb=>?_,q⟩
 ·have f:lo+((0:Nat):Int) * 1=lo:=by simp
  have h:(((hi - lo).toNat:Nat):Int) - ((0:Nat):Int)=Builtin.Range.rangeSize lo hi 1:=by rw[rangeSize_one];split <;> lia
  show W8 _ _ (lo+((0:Nat):Int) * 1) ((((hi - lo).toNat:Nat):Int) - ((0:Nat):Int)) 1;rw[f,h];exact ZA _ rfl
 ·have e:b=(s.heap.push { cls:=.type "range", data:=.fields #[.int lo t,.int hi u,.int 1 v] }).objs.size:=by simpa using hb
  subst e;exact c.fpOk (Ze _) (c.hok.fresh (Ze _))
abbrev Ho(T:TA):TI:=λb H R=>T b H λv h=>∃j:Int,v=[.int j]/\-(2 ^ 62)<=j/\j < 2 ^ 62/\R (Itr 0 j.toNat) h
abbrev Hq(T:TA):TI:=λb H R=>T b H λv h=>∃i j:Int,v=[.int i,.int j]/\(-(2 ^ 62)<=i/\i < 2 ^ 62/\-(2 ^ 62)<=j/\j < 2 ^ 62)/\R (Itr i (j - i).toNat) h
def x5(v:Gl X "range")(n:X.mg "range" = aD)(k:PA X [a] T)(hs:Uj [a] X.env=[(aS,eval a X.env)]:=by rfl):PI X tg (.Call (.Name "range" p) [a] [] c) (Ho T):=by
 intro b s d H R I h;refine Call_ (dz I v n boot_range (WJ (thn (k c b s d H _ I h) λU C ⟨B,z,y,r1,Q⟩=>?_) hs rfl));obtain⟨j,e,Q,f,q⟩:=Q;subst e;cases r1 with
 |cons r u=>
  cases u;obtain⟨t,rfl⟩:=r;exact call_range_1 (rF y (by lia) (by lia) Q f (by simpa using q))
def x6(E:Gl X "range")(B:X.mg "range" = aD)(y:PA X [a,b] T)(hs:Uj [a,b] X.env=[(aS,eval a X.env),(aS,eval b X.env)]:=by rfl)(d:Uj [b] X.env=[(aS,eval b X.env)]:=by rfl) :
  PI X tg (.Call (.Name "range" p) [a,b] [] f) (Hq T):=by
 intro c s n H R I h;refine Call_ (dz I E B boot_range (WJ (thn (y f c s n H _ I h) λZ Y ⟨O,L,J,r1,Q⟩=>?_) (by rw[hs,d]) (by rw[d];rfl)));obtain⟨i,j,e,⟨Q,u,C,z⟩,q⟩:=Q;subst e;cases r1 with
 |cons r k=>
  cases k with
  |cons v k=>
   cases k;obtain⟨t,rfl⟩:=r;obtain⟨U,rfl⟩:=v;exact call_range_2 (rF J Q u C z q)
abbrev NC(j:TI)(g:TG)(T:TS):TS:=λD b H=>j b H λJ n=>∃W:Nat->Nat->St->Hp->Prop,(∃m,W 0 m b n)/\∀i m b H,W i m b H ->
 (J.stop i H/\D.nx b H)\/(J.go i H/\∃N:St->Hp->Prop,(∀c h,N c h->∃f,f < m/\W (i+1) f c h)/\∀x h,J.yld i H x h->g x b h λd k=>T { D with nx:=N,ct:=N,bk:=D.nx } d k)
abbrev lJ(f:List Addr)(h:Heap):List (Addr × Obj):=f.filterMap λb=>(h.get? b).map λo=>(b,o)
def eM(hb:b ∈ f)(e:h.get? b=aw o):(b,o) ∈ lJ f h:=YE.mpr ⟨b,hb,by rw[e];rfl⟩
def x8(c:p ∈ lJ f h):p.1 ∈ f/\h.get? p.1=aw p.2:=by
 obtain⟨b,hb,e⟩:=YE.mp c;cases q:h.get? b with
 |none=>rw[q] at e;cases e
 |some o=>
  rw[q] at e;have E:(b,o)=p:=Option.some.inj e;subst E;exact⟨hb,q⟩
def Inv.pinned(I:Inv X c q H s)(u:∀b ∈ f,gX X c H b)(ho:∀b ∈ f,∃o,s.heap.get? b=aw o/\∀v,o.data ≠ .cell v):Inv X (c++lJ f s.heap) q H s:=
 I.pins_of λp n=>(ZS.mp n).elim (λz=>I.pin p (Zz _ z)) λz=>by
  obtain⟨hb,e⟩:=x8 z;obtain⟨j,h,k,_⟩:=u p.1 hb;obtain⟨o,E,d⟩:=ho p.1 hb;rw[e] at E;cases E;exact⟨e,j,h,k,d⟩
def Inv.unpinned(I:Inv X (b++d) c H s):Inv X b c H s:=I.pins_of λp h=>I.pin p (Zz _ (Z3 _ h))
def IS(Z:PassesOwn (model X.prog X.w) X.A X.env X.xe)(hc:X.calm=aN)(hi:PI X tg B wi)(hg:PG X tg g)(hb:PSs X body tb)
  (hs:∀x,VV B X.env x=pure x:=by intro _;rfl):PS X (.For tg B body [] pos) (NC wi g tb):=by
 intro p s σ H D I h;refine wpAny_For (thn (hi p s σ H _ I h) λv s1 h1=>thn h1 λitv s2 h2=>?_) hs;obtain⟨it,Y,tn,J,H2,e,I2,T,st2,f2,W,⟨m0,w0⟩,O⟩:=h2;subst e;have k:∀ {H':Hp},(∀b ∈ Y,H' b=aD)->∀b ∈ Y,gX X p H' b:=λhn b hb=>⟨hn b hb,(f2 b hb).2⟩;refine codeAny_forLoop_any (λn s'=>∃i z H',Inv X p z H' s'/\tn i s'.heap/\(∀b ∈ Y,H' b=aD)/\W i n z H') ?_ m0 ⟨0,σ,H2,I2,st2,λb hb=>(f2 b hb).1,w0⟩;rintro n s3 ⟨i,y,H3,I3,U,L,w3⟩;rcases O i n y H3 w3 with ⟨stop,qn⟩ |⟨go,N,hN,step⟩
 ·refine UH Z (thn (T.done X rfl rfl rfl hc i p s3 y H3 X.xe I3 (k L) U stop) λr s4 ⟨hr,I4⟩=>?_);subst hr;exact wpAny_execs_nil ⟨y,H3,I4,qn⟩
 ·refine UH Z (thn (T.item X rfl rfl rfl hc i p s3 y H3 X.xe I3 (k L) U go) λr s4 ⟨u,hr,h4⟩=>?_);subst hr;refine UH Z (thn h4 λ_ s5 ⟨x,H5,I5,r5,y5,C,fr5⟩=>?_);have I5':=I5.pinned (k fr5) (T.obj _ _ C);refine UH Z (thn (hg _ s5 y H5 x u _ I5' r5 (step x H5 y5)) λ_ s6 ⟨σ6,H6,I6,q6⟩=>?_);refine UH Z (thn (hb _ s6 σ6 H6 _ I6 q6) λf s7 Q=>?_)
  have again:∀ {c:St} {q:Hp},Inv X (p++lJ Y s5.heap) c q s7->N c q->∃m,m < n/\∃i z H',Inv X p z H' s7/\tn i s7.heap/\(∀b ∈ Y,H' b=aD)/\W i m z H':=λ{c q} j E=>by
   obtain⟨m',hm,w7⟩:=hN c q E;refine⟨m',hm,i+1,c,q,j.unpinned,T.keep _ _ _ C λb hb o e=>(j.pin (b,o) (Zz _ (Zz _ (eM hb e)))).1,λb hb=>?_,w7⟩;obtain⟨o,e,d⟩:=T.obj _ _ C b hb;exact(j.pin (b,o) (Zz _ (Zz _ (eM hb e)))).2.1
  cases f with
  |next=>obtain⟨c,q,j,E⟩:=Q;exact again j E
  |cont=>obtain⟨c,q,j,E⟩:=Q;exact again j E
  |brk=>obtain⟨c,q,j,Q⟩:=Q;exact⟨c,q,j.unpinned,Q⟩
  |ret v=>obtain⟨x7,c,q,j,r7,Q⟩:=Q;exact⟨x7,c,q,j.unpinned,r7,Q⟩
end
@[inline]abbrev R2:=V->V->Hp->VK->Prop
abbrev OpR(X:Cx)(f:Value->Value->Sem Value)(r:R2):Prop:=
 ∀ (p:List (Addr × Obj)) (s:Shared) (b:St) (H:Hp) (x y:V) (v u:Value) (Q:VK),Inv X p b H s->aJ x v->aJ y u->r x y H Q ->
  wpAny (model X.prog X.w) X.A (f v u) (EP X p b Q) X.xe s
abbrev UnR(X:Cx)(f:Value->Sem Value)(r:V->Hp->VK->Prop):Prop:=
 ∀ (p:List (Addr × Obj)) (s:Shared) (b:St) (H:Hp) (x:V) (v:Value) (Q:VK),Inv X p b H s->aJ x v->r x H Q ->
  wpAny (model X.prog X.w) X.A (f v) (EP X p b Q) X.xe s
abbrev aR(X:Cx)(f:Value)(r:List V->Hp->VK->Prop):Prop:=
 ∀ (p:List (Addr × Obj)) (s:Shared) (c:St) (H:Hp) (b:List V) (u:List Value) (Q:VK),Inv X p c H s->aO b u->r b H Q ->
  wpAny (model X.prog X.w) X.A (call f u) (EP X p c Q) X.xe s
abbrev QB(X:Cx)(r:V->Hp->(Bool->Hp->Prop)->Prop):Prop:=
 ∀ (p:List (Addr × Obj)) (s:Shared) (b:St) (H:Hp) (x:V) (v:Value) (Q:Bool->Hp->Prop),Inv X p b H s->aJ x v->r x H Q ->
  wpAny (model X.prog X.w) X.A (truthy v) (TP X p b Q) X.xe s
abbrev tOp(r:R2)(c T:TE):TE:=λb H Q=>c b H λx d=>T b d λy h=>r x y h Q
abbrev tUn(r:V->Hp->VK->Prop)(T:TE):TE:=λb H Q=>T b H λx h=>r x h Q
abbrev rI(C:Int->Int->Prop)(g:Int->Int->V):R2:=λx y H Q=>∃i j,x = .int i/\y = .int j/\C i j/\Q (g i j) H
abbrev rI0(g:Int->Int->V):R2:=λx y H Q=>∃i j,x = .int i/\y = .int j/\Q (g i j) H
abbrev rU(g:Int->V):V->Hp->VK->Prop:=λx H Q=>∃i,x = .int i/\Q (g i) H
section
variable {X:Cx} {a b c:Expr} {ta tb tc:TE} {pos:Pos}
def IT(J:PE X a ta)(hb:PE X b tb){p:List (Addr × Obj)}{s:Shared}{j:St}{H:Hp}{R:V->V->Hp->Prop}(I:Inv X p j H s)
  (h:ta j H λx z=>tb j z λy d=>R x y d) {Q:Value->Shared->Prop} {f:Value->Value->Sem Value}
  (B:∀v u q x y d,Inv X p j d q->aJ x v->aJ y u->R x y d->wpAny (model X.prog X.w) X.A (f v u) Q X.xe q) :
  wpAny (model X.prog X.w) X.A (eval a X.env) (λv n=>wpAny (model X.prog X.w) X.A (eval b X.env) (λu k=>wpAny (model X.prog X.w) X.A (f v u) Q X.xe k) X.xe n) X.xe s:=by
 refine thn (J p s j H _ I h) λv L ⟨x,z,T,r1,C⟩=>?_;refine thn (hb p L j z _ T C) λu q ⟨y,d,O,r2,E⟩=>?_;exact B v u q x y d O r1 r2 E
def ND{op:Va}{r:R2}(ho:OpR X (VG op) r)(k:PE X a ta)(hb:PE X b tb):PE X (.BinOp a op b pos) (tOp r ta tb):=by
 intro p s z H Q I h;exact wpAny_BinOp (IT k hb I h λv u j x y d f B n q=>ho p j z d x y v u Q f B n q)
def wn(ho:UnR X (unaryOp op) r)(k:PE X a ta):PE X (.UnaryOp op a pos) (tUn r ta):=by
 intro p s d H Q I h;exact UnaryOp_ (thn (k p s d H _ I h) λv f ⟨x,j,n,r1,q⟩=>ho p f d j x v Q n r1 q)
def opI{f:Value->Value->Sem Value}{C:Int->Int->Prop}{g:Int->Int->Int}
  (rule:∀ (i j:Int) (t u:Tok) (s:Shared) (Q:Value->Shared->Prop) (E:Value->Shared->Prop),C i j->Q (.int (g i j) s.toks) { s with toks:=s.toks+1 }->wpAny (model X.prog X.w) X.A (f (.int i t) (.int j u)) Q E s) :
  OpR X f (rI C λi j=>.int (g i j)):=by
 intro p s z H x y v u Q I n k h;obtain⟨i,j,rfl,rfl,d,q⟩:=h;obtain⟨t,rfl⟩:=n;obtain⟨T,rfl⟩:=k;exact rule i j t T s _ _ d ⟨.int (g i j),H,I.tok _,⟨_,rfl⟩,q⟩
def NF{f:Value->Value->Sem Value}{g:Int->Int->Int}
  (rule:∀ (i j:Int) (t u:Tok) (s:Shared) (Q:Value->Shared->Prop) (E:Value->Shared->Prop),Q (.int (g i j) s.toks) { s with toks:=s.toks+1 }->wpAny (model X.prog X.w) X.A (f (.int i t) (.int j u)) Q E s) :
  OpR X f (rI0 λi j=>.int (g i j)):=by
 intro p s n H x y v u Q I k d h;obtain⟨i,j,rfl,rfl,q⟩:=h;obtain⟨t,rfl⟩:=k;obtain⟨T,rfl⟩:=d;exact rule i j t T s _ _ ⟨.int (g i j),H,I.tok _,⟨_,rfl⟩,q⟩
def DF{f:Value->Value->Sem Value}{g:Int->Int->Bool}
  (rule:∀ (i j:Int) (t u:Tok) (s:Shared) (Q:Value->Shared->Prop) (E:Value->Shared->Prop),Q (.bool (g i j)) s->wpAny (model X.prog X.w) X.A (f (.int i t) (.int j u)) Q E s) :
  OpR X f (rI0 λi j=>.bl (g i j)):=by
 intro p s n H x y v u Q I k d h;obtain⟨i,j,rfl,rfl,q⟩:=h;obtain⟨t,rfl⟩:=k;obtain⟨T,rfl⟩:=d;exact rule i j t T s _ _ ⟨.bl (g i j),H,I,rfl,q⟩
abbrev QC(i j:Int):Prop:=0<=j/\j<=1000000/\i.natAbs < 2 ^ 64
abbrev NG(i j:Int):Prop:=(-(2 ^ 64) < i/\i < 2 ^ 64)\/(-(2 ^ 64) < j/\j < 2 ^ 64)
def NG.ok{i j:Int}(h:NG i j):IntMulOk i j:=by
 rcases h with ⟨f,d⟩ |⟨f,d⟩
 ·exact .of_left (intBits_le_64 f d)
 ·exact .of_right (intBits_le_64 f d)
def IU:OpR X (VG .Add) (rI0 λi j=>.int (i+j)):=NF λ_ _ _ _ _ _ _ q=>add_int q
def IV:OpR X (VG .Sub) (rI0 λi j=>.int (i - j)):=NF λ_ _ _ _ _ _ _ q=>sub_int q
def IW:OpR X (VG .Mult) (rI NG λi j=>.int (i * j)):=opI λ_ _ _ _ _ _ _ h q=>mul_int q h.ok
def IX:OpR X (VG .Mod) (rI (λ_ j=>0 < j) λi j=>.int (i % j)):=opI λi j _ _ _ _ _ h q=>by
 have d:(0:Int) < j:=h;exact mod_int' (by lia) (by rw[Int.fmod_eq_emod_of_nonneg i (by lia)];exact q)
def IY:OpR X (VG .Pow) (rI QC λi j=>.int (i ^ j.toNat)):=opI λ_ _ _ _ _ _ _ h q=>pow_int_small h.1 h.2.1 h.2.2 q
def unI{f:Value->Sem Value}{g:Int->Int}
  (rule:∀ (i:Int) (t:Tok) (s:Shared) (Q:Value->Shared->Prop) (E:Value->Shared->Prop),Q (.int (g i) s.toks) { s with toks:=s.toks+1 }->wpAny (model X.prog X.w) X.A (f (.int i t)) Q E s) :
  UnR X f (rU λi=>.int (g i)):=by
 intro p s j H x v Q I d h;obtain⟨i,rfl,q⟩:=h;obtain⟨t,rfl⟩:=d;exact rule i t s _ _ ⟨.int (g i),H,I.tok _,⟨_,rfl⟩,q⟩
def pY:UnR X (unaryOp .USub) (rU λi=>.int (-i)):=unI λ_ _ _ _ _ q=>neg_int q
end
section
variable {X:Cx} {a b c:Expr} {ta tb tc:TE} {pos:Pos}
def zQ(I:Inv X p f H s)(q:Q (.bl k) H)(e:k=d):EP X p f Q (.bool d) s:=by
 subst e;exact⟨.bl k,H,I,rfl,q⟩
def NH:OpR X (VQ .Lt) (rI0 λi j=>.bl (decide (i < j))):=DF λ_ _ _ _ _ _ _ q=>lt_int q
def NI:OpR X (VQ .LtE) (rI0 λi j=>.bl (decide (i<=j))):=DF λ_ _ _ _ _ _ _ q=>le_int q
def NJ:OpR X (VQ .Gt) (rI0 λi j=>.bl (decide (j < i))):=DF λ_ _ _ _ _ _ _ q=>gt_int q
def NL:OpR X (VQ .GtE) (rI0 λi j=>.bl (decide (j<=i))):=DF λ_ _ _ _ _ _ _ q=>ge_int q
def IZ:OpR X (VQ .Is) (λx y H Q=>y = .non/\Q (.bl (decide (x = .non))) H):=by
 intro p s j H x y v u Q I d f h;obtain⟨rfl,q⟩:=h;cases f;refine is_none_gen (zQ I q ?_)
 cases x <;> first
  |(cases d;rfl)
  |(obtain⟨t,rfl⟩:=d;rfl)
def DG:OpR X (VQ .IsNot) (λx y H Q=>y = .non/\Q (.bl (!decide (x = .non))) H):=by
 intro p s j H x y v u Q I d f h;obtain⟨rfl,q⟩:=h;cases f;refine isnot_none_gen (zQ I q ?_)
 cases x <;> first
  |(cases d;rfl)
  |(obtain⟨t,rfl⟩:=d;rfl)
def DH{op:CmpOp}{r:R2}(ho:OpR X (VQ op) r)(n:PE X a ta)(hb:PE X b tb)(d:VF op b=aS):PE X (.Compare a [op] [b] pos) (tOp r ta tb):=by
 intro p s B H Q I h;exact wpAny_Compare1 (IT n hb I h λv u k x y f j C z q=>ho p k B f x y v u Q j C z q) d
abbrev Hr(t:TE):TT:=λd H Q=>t d H λx h=>∃k,x = .bl k/\Q k h
def DI(ho:OpR X (VQ op) r)(E:PE X a ta)(hb:PE X b tb)(J:VF op b=aS):PT X (.Compare a [op] [b] pos) (Hr (tOp r ta tb)):=by
 intro p s d H Q I h
 refine wpAny_isTrue_Compare1 (thn (E p s d H _ I h) λv L ⟨x,j,Z,r1,q⟩=>thn (hb p L d j _ Z q) λu C ⟨y,f,O,r2,n⟩=>
  thn (ho p C d f x y v u _ O r1 r2 n) λc s3 ⟨z,U,Y,B,k,e,T⟩=>?_) J
 subst e;cases B;exact UV ⟨U,Y,T⟩
abbrev uj(r f:R2)(ta tb tc:TE):TE:=λd H Q=>ta d H λx n=>tb d n λy j=>r x y j λz h=>∃k,z = .bl k ∧
 (if k=aN then tc d h λp q=>f y p q Q else Q (.bl aS) h)
def zR(ho:OpR X (VQ op) r)(j:OpR X (VQ O) Z)(ha:PE X a ta)(hb:PE X b tb)(hc:PE X c tc)
  (hm:lastMarks [op,O] [b,c]=aS:=by with_unfolding_all rfl):PE X (.Compare a [op,O] [b,c] pos) (uj r Z ta tb tc):=by
 intro p s f H Q I h
 refine Compare_chain (thn (ha p s f H _ I h) λv s1 ⟨x,E,I1,r1,T⟩=>chain_link (thn (hb p s1 f E _ I1 T) λu s2 ⟨y,C,I2,r2,Y⟩=>
  thn (ho p s2 f C x y v u _ I2 r1 r2 Y) λd s3 ⟨z,n,B,r3,k,e,q⟩=>?_)) hm
 subst e;cases r3;refine UV ?_;cases k with
 |false=>exact ite_ff ⟨.bl aS,n,B,rfl,q⟩
 |true=>exact ite_tt (chain_last (thn (hc p s3 f n _ B q) λL s4 ⟨z',J,U,r4,q4⟩=>j p s4 f J y z' u L Q U r2 r4 q4))
def zS(ho:OpR X (VQ op) r)(j:OpR X (VQ O) r')(ha:PE X a ta)(hb:PE X b tb)(hc:PE X c tc)
  (hm:lastMarks [op,O] [b,c]=aS:=by with_unfolding_all rfl):PT X (.Compare a [op,O] [b,c] pos) (Hr (uj r r' ta tb tc)):=by
 intro p s f H Q I h
 refine isTrue_chain (thn (ha p s f H _ I h) λv s1 ⟨x,T,I1,r1,q1⟩=>test_link (thn (hb p s1 f T _ I1 q1) λu s2 ⟨y,L,I2,r2,q2⟩=>
  thn (ho p s2 f L x y v u _ I2 r1 r2 q2) λd s3 ⟨z,n,B,r3,k,e,q⟩=>?_)) hm
 subst e;cases r3;refine UV ?_;cases k with
 |false=>
  obtain⟨k',e',q'⟩:=q;cases e';exact ite_ff ⟨n,B,q'⟩
 |true=>
  refine ite_tt (test_last (thn (hc p s3 f n _ B q) λZ s4 ⟨z',Y,I4,r4,q4⟩=>thn (j p s4 f Y y z' u Z _ I4 r2 r4 q4) λd' s5 ⟨z2,C,U,E,k2,e2,J⟩=>?_));subst e2;cases E;exact UV ⟨C,U,J⟩
abbrev DJ(K:Vk)(x:V)(H:Hp)(k:Bool):Prop:=
 match x with
 |.non=>k=aS
 |.bl b=>k=b
 |.int i=>k=(i != 0)
 |.str y=>y.length<=sizeLine/\k=((y.length:Int) != 0)
 |.byt y=>y.size<=sizeLine/\k=((y.size:Int) != 0)
 |.ref p=>(∃f,SqL K H p f/\k = !f.isEmpty)\/(∃f,SqT K H p f/\k = !f.isEmpty)\/∃d,H p=aw (.dK d)/\k = !d.isEmpty
 |_=>False
def uk{d:Type}{k:List (d × V)}{v:List (d × Value)}(r:KV k v):(!v.isEmpty) = !k.isEmpty:=by
 cases r <;> rfl
def lK{d:List V}{I:List Value}(r:aO d I):(!I.toArray.isEmpty) = !d.isEmpty:=by
 cases r <;> simp
def jx:(sizeLine:Nat) < 2 ^ 63:=by rw[Uh];decide
def I0:QB X (λx H Q=>∃k,DJ X.K x H k/\Q k H):=by
 intro C s T H x v Q I n h;obtain⟨k,e,q⟩:=h;have U:=jx;have hs:sizeLine=16777216:=Uh;cases x with
 |non=>
  cases n;have E:k=aS:=e;subst E;exact truthy_none ⟨H,I,q⟩
 |bl b=>
  cases n;have E:k=b:=e;subst E;exact UV ⟨H,I,q⟩
 |int i=>
  obtain⟨t,rfl⟩:=n;have E:k=(i != 0):=e;subst E;exact PySem.P.truthy_int ⟨H,I,q⟩
 |str y=>
  obtain⟨t,rfl⟩:=n;obtain⟨L,E⟩:y.length<=sizeLine/\k=((y.length:Int) != 0):=e;subst E;exact PySem.P.truthy_str (by lia) ⟨H,I.tok _,q⟩
 |byt y=>
  obtain⟨t,rfl⟩:=n;obtain⟨L,E⟩:y.size<=sizeLine/\k=((y.size:Int) != 0):=e;subst E;exact PySem.W.truthy_bytes (by lia) ⟨H,I.tok _,q⟩
 |ref p=>
  cases n;have E:(∃j,SqL X.K H p j/\k = !j.isEmpty)\/(∃j,SqT X.K H p j/\k = !j.isEmpty)\/∃d,H p=aw (.dK d)/\k = !d.isEmpty:=e;rcases E with ⟨j,u,E⟩ |⟨j,u,E⟩ |⟨d,u,E⟩
  ·subst E;obtain⟨z,r,B,J⟩:=I.list u;have f:=r.length;exact wpAny_truthy_list B.isList (by simp only[Zl];lia) ⟨H,I.tok _,by rw[lK r];exact q⟩
  ·subst E;obtain⟨z,r,B,J⟩:=I.tuple u;have f:=r.length;exact truthy_tuple B (by simp only[Zl];lia) ⟨H,I.tok _,by rw[lK r];exact q⟩
  ·subst E;obtain⟨J,O,vs,r,m⟩:d.length<=sizeLine/\(p == Uo)=aS/\∃vs,KV d vs/\s.heap.DictOf (a9 X.prog X.w) p vs:=I.hok p _ u;have f:d.length=vs.length:=Paired.length r;exact wpAny_truthy_dict O m (by lia) ⟨H,I.tok _,by rw[uk r];exact q⟩
 |_=>exact(show False from e).elim
def zT(u:PE X a ta)(y:∀d,isTrue a X.env d=(do let v <-d;standAt a.pos;holding [v] (truthy v))) :
  PT X a (λf H Q=>ta f H λx j=>∃k,DJ X.K x j k/\Q k j):=by
 intro p s f H Q I h;exact isTrue_plain (thn (u p s f H _ I h) λv n ⟨x,q,z,r1,B⟩=>I0 p n f q x v Q z r1 B) (y _)
def ul:OpR X (VG .Add) (λx y H Q=>∃i j,x = .str i/\y = .str j/\i.length+j.length<=sizeLine/\Q (.str (i++j)) H):=by
 intro p s z H x y v u Q I k f h;obtain⟨i,j,rfl,rfl,d,q⟩:=h;obtain⟨t,rfl⟩:=k;obtain⟨T,rfl⟩:=f;exact add_str (λT n=>⟨.str (i++j),H,I.tok _,⟨_,rfl⟩,q⟩) d
def bR(r:aO [x] U):∃u,U=[u]/\aJ x u:=by
 cases r with
 |cons r1 r2=>cases r2;exact⟨_,rfl,r1⟩
def rG(r:aO [x,y] U):∃u w',U=[u,w']/\aJ x u/\aJ y w':=by
 cases r with
 |cons r1 r2=>
  cases r2 with
  |cons f d=>cases d;exact⟨_,_,rfl,r1,f⟩
def x9(n:X.calm=aN):aR X (.builtin "max") (λf H Q=>∃i j,f=[.int i,.int j]/\Q (.int (if j > i then j else i)) H):=by
 intro p s B H f U Q I r h;obtain⟨i,j,rfl,q⟩:=h;obtain⟨u,z,rfl,⟨t,rfl⟩,⟨T,rfl⟩⟩:=rG r;refine max_two_ints (I.ok.hd n) λv y k=>⟨_,H,I.kept k,?_,q⟩;by_cases d:j > i
 ·rw[if_pos d,if_pos d];exact⟨_,rfl⟩
 ·rw[if_neg d,if_neg d];exact⟨_,rfl⟩
def yb(n:X.calm=aN):aR X (.builtin "min") (λf H Q=>∃i j,f=[.int i,.int j]/\Q (.int (if j < i then j else i)) H):=by
 intro p s B H f U Q I r h;obtain⟨i,j,rfl,q⟩:=h;obtain⟨u,z,rfl,⟨t,rfl⟩,⟨T,rfl⟩⟩:=rG r;refine min_two_ints (I.ok.hd n) λv y k=>⟨_,H,I.kept k,?_,q⟩;by_cases d:j < i
 ·rw[if_pos d,if_pos d];exact⟨_,rfl⟩
 ·rw[if_neg d,if_neg d];exact⟨_,rfl⟩
def yc:aR X (.type "int") (λd H Q=>(∃i,d=[.int i]/\Q (.int i) H)\/∃k,d=[.bl k]/\Q (.int (if k then 1 else 0)) H):=by
 intro p s f H d U Q I r h;rcases h with ⟨i,rfl,q⟩ |⟨k,rfl,q⟩
 ·obtain⟨u,rfl,t,rfl⟩:=bR r;exact call_int_int ⟨.int i,H,I,⟨_,rfl⟩,q⟩
 ·obtain⟨u,rfl,r1⟩:=bR r;cases r1;exact call_int_bool ⟨.int (if k then 1 else 0),H,I.tok _,⟨_,rfl⟩,q⟩
end
structure ObjM(h:Heap)(x dx C:Addr)(mA:Str->Option Value):Prop where
 obj:h.get? x=aw (Vq C dx)
 ns:h.Ns1 dx mA
 ne:dx ≠ x
def yd{h:Heap}{d:Addr}{c:Str->Option Value}(n:h.Ns1 d c):∃O,h.get? d=aw O/\∀name,Vx name O=aw (c name):=by
 obtain⟨o,E,u,ho,hd,k,_,j⟩:=n;refine⟨o,ho,λname=>?_⟩;have e:=j name;unfold nsFind findBy at e;rw[<-Array.find?_toList] at e;unfold Vx;rw[hd];dsimp only;split
 ·rename_i y q;rw[q] at e;exact congrArg aw e
 ·rename_i q;rw[q] at e
  have a:E.toList.any (·.refKey)=aS:=by
   rw[X7];intro y f;obtain⟨z,t,b⟩:=k y (XJ.mp f);simp[DictEntry.refKey,b]
  have p:¬ E.toList.any (·.refKey)=aN:=by rw[a];exact Zg
  rw[if_neg p];exact congrArg aw e
def ObjM.look(I:ObjM h x d C b):∃O,PySem.W.InstAt h x (Vq C d) C (aw O)/\∀name,Vx name O=aw (b name):=
 let ⟨O,ho,hl⟩:=yd I.ns
 ⟨O,⟨I.obj,rfl,rfl,ho⟩,hl⟩
def ug.some_of(r:ug (aw v) o):∃u,o=aw u/\aJ v u:=by
 cases o with
 |none=>exact(show False from r).elim
 |some u=>exact⟨u,rfl,r⟩
section
variable {P:Program} {w:World} {H H':Hp} {h h':Heap} {a C dx:Addr} {fs fs':List (Str × V)}
def DK(hok:HOk P w H h)(e:H a=aw (.ins C dx fs)):∃b,ObjM h a dx C b/\(∀f,ug (fs.lookup f) (b f))/\PySem.Within b (fs.map (·.1))/\fs.length<=1000/\H dx=aw (.own a):=by
 obtain⟨d,z,ne,ob,b,n,r,q⟩:=(show bp P w H h a (.ins C dx fs) from hok a _ e);exact⟨b,⟨ob,n,ne⟩,r,q,z,d⟩
end
structure Cls(K:Vk)(C:Addr):Prop where
 pg:Vz K C Str.empty=aN
 hd:PySem.W.hasDictIn K C=aN
 po:PySem.W.plainOver K C=aN
 sa:Vo K (.ref C) "__setattr__" = aw (aw (.builtin "object.__setattr__"))
def Cls.get{K:Vk}{C:Addr}(c:Cls K C)(f:Str):Vz K C f=aN:=c.pg
section
variable {X:Cx} {pins:List (Addr × Obj)} {σ:St} {H:Hp} {s:Shared} {A:Around} {E:Value->Shared->Prop} {Q:Value->Shared->Prop} {c:Value} {b:Bool}
inductive TyOf(K:Vk)(H:Hp):V->Value->Prop where
 |non:TyOf K H .non (.type "NoneType")
 |bl (x:Bool):TyOf K H (.bl x) (.type "bool")
 |int (i:Int):TyOf K H (.int i) (.type "int")
 |str (x:Str):TyOf K H (.str x) (.type "str")
 |flt (x:UInt64):TyOf K H (.flt x) (.type "float")
 |lst {a:Addr} {xs:List V} (e:H a=aw (.lst xs)):TyOf K H (.ref a) (.type "list")
 |frz {a:Addr} {o:Obj} {xs:List V} (e:H a=aw (.frz o (.lst xs))):TyOf K H (.ref a) (.type "list")
 |tup {a:Addr} {xs:List V} (e:H a=aw (.tup xs)):TyOf K H (.ref a) (.type "tuple")
 |dK {a:Addr} {kvs:List (Key × V)} (e:H a=aw (.dK kvs)):TyOf K H (.ref a) (.type "dict")
 |dT {a:Addr} {kvs:List (List NK × V)} (e:H a=aw (.dT kvs)):TyOf K H (.ref a) (.type "dict")
 |ins {a C dx:Addr} {fs:List (Str × V)} (e:H a=aw (.ins C dx fs)) (cl:Cls K C) (ha:Vo K (.ref C) "__class__" = aw (aw (.builtin "object.__class__")))
   (hn:PySem.W.specialIn K (.builtin "object.__class__") "__get__" = aw (aw (.builtin "getset_descriptor.__get__"))) (htk:PySem.W.takesIn K (.builtin "object.__class__")=aw aN)
   (hm:PySem.W.mroIn K C (.type "object")=aw aN):TyOf K H (.ref a) (.ref C)
def ye(I:Inv X pins σ H s)(d:aJ x u)(ty:TyOf X.K H x t)(e:Vu X.K t c=aw b)(h:∀T,Q (.bool b) { s with toks:=T }) :
  wpAny (model X.prog X.w) A (call (.builtin "isinstance") [u,c]) Q E s:=by
 cases ty with
 |non=>cases (show u=Value.none from d);exact Vt PySem.W.kitx_none I.kIn True.intro e (λz=>nomatch z) h
 |bl y=>cases (show u=Value.bool y from d);exact Vt PySem.W.kitx_bool I.kIn True.intro e (λz=>nomatch z) h
 |int i=>obtain⟨t,q⟩:=(show ∃t,u=Value.int i t from d);cases q;exact Vt PySem.W.kitx_int I.kIn True.intro e (λz=>nomatch z) h
 |str y=>obtain⟨t,q⟩:=(show ∃t,u=Value.str y t from d);cases q;exact Vt PySem.W.kitx_str I.kIn True.intro e (λz=>nomatch z) h
 |flt y=>obtain⟨t,q⟩:=(show ∃t,u=Value.float y t from d);cases q;exact Vt PySem.W.kitx_float I.kIn True.intro e (λz=>nomatch z) h
 |@lst a j ea=>
  cases (show u=Value.ref a from d);obtain⟨_,_,n,_,f⟩:=(show bp X.prog X.w H s.heap a (.lst j) from I.hok a _ ea);exact Vt Vw I.kIn ⟨_,f,rfl⟩ e (λz=>nomatch z) h
 |@frz a ob j ea=>
  cases (show u=Value.ref a from d);obtain⟨_,_,_,n,_,f⟩:=(show bp X.prog X.w H s.heap a (.frz ob (.lst j)) from I.hok a _ ea);exact Vt Vw I.kIn ⟨_,f,rfl⟩ e (λz=>nomatch z) h
 |@tup a j ea=>
  cases (show u=Value.ref a from d);obtain⟨_,_,_,p⟩:=(show bp X.prog X.w H s.heap a (.tup j) from I.hok a _ ea);obtain⟨o,f,k,_⟩:=p;exact Vt PySem.W.kitx_tuple I.kIn ⟨o,f,k⟩ e (λz=>nomatch z) h
 |@dK a kvs ea=>
  cases (show u=Value.ref a from d);obtain⟨_,_,U,_,p⟩:=(show bp X.prog X.w H s.heap a (.dK kvs) from I.hok a _ ea);obtain⟨o,v,B,f,k,_⟩:=p;exact Vt Vv I.kIn ⟨o,f,k.1⟩ e (λz=>nomatch z) h
 |@dT a kvs ea=>
  cases (show u=Value.ref a from d);obtain⟨_,_,j,_,o,v,B,f,k,_⟩:=(show bp X.prog X.w H s.heap a (.dT kvs) from I.hok a _ ea);exact Vt Vv I.kIn ⟨o,f,k.1⟩ e (λz=>nomatch z) h
 |@ins a C dx fs ea cl ha hn htk hm=>
  cases (show u=Value.ref a from d);obtain⟨Y,O,_⟩:=DK I.hok ea;obtain⟨L,J,_⟩:=O.look;exact Vt (PySem.W.kitx_own (cl.get _) cl.hd ha hn htk hm) I.kIn J e (λz=>nomatch z) h
end
structure Room(k:Nat)(A:Around):Prop where
 hd:A.handled=aD
 dp:A.depth+3 * k+5 < recursionLimit
 un:A.units+16 * k+200 < cLine
 gd:A.guards=aw []
def Room.deeper{k:Nat}(r:Room (k+1) A)(env:Env):Room k (A.deeper env):=
 ⟨r.hd,by have:=r.dp;show A.depth+1+3 * k+5 < _;lia,by have:=r.un;show A.units+3+16 * k+200 < _;lia,r.gd⟩
def Room.depth{k:Nat}(r:Room k A):A.depth < recursionLimit:=by have:=r.dp;lia
def Room.units{k:Nat}(r:Room k A):A.units+64 < cLine:=by have:=r.un;lia
abbrev jy:TA:=λ_ H Q=>Q [] H
abbrev ce(c:TE)(T:TA):TA:=λb H Q=>c b H λx d=>T b d λX h=>Q (x::X) h
section
variable {X:Cx} {e:Expr} {es:List Expr} {te:TE} {t:TA} {pos:Pos}
def um:PA X [] jy:=λ_ _ _ _ H Q I h=>Calls.spliced_nil ⟨[],H,I,.nil,h⟩
def pZ(v:PE X e te)(f:PA X es t)(hs:Uj (e::es) X.env=(aS,eval e X.env)::Uj es X.env:=by rfl):PA X (e::es) (ce te t):=by
 intro pos p s b H Q I h;rw[hs];show wpAny _ _ (spliced ((aS,eval e X.env)::backTo pos (Uj es X.env))) _ _ s;refine Calls.spliced_cons (thn (v p s b H _ I h) λu j ⟨x,n,y,r1,z⟩=>?_);exact thn (f pos p j b n _ y z) λU B ⟨c,d,k,r2,q⟩=>⟨x::c,d,k,.cons r1 r2,q⟩
abbrev NM(t:TA):TE:=λc H Q=>t c H λb h=>b.length<=sizeLine/\∀p,h p=aD->Q (.ref p) (upd h p (.tup b))
abbrev NN(t:TA):TE:=λc H Q=>t c H λb h=>b.length<=sizeLine/\∀p,h p=aD->Q (.ref p) (upd h p (.lst b))
def I8{n}(h:PA X es t):PE X (.Tuple es n pos) (NM t):=by
 intro p s v H Q I k;refine wpAny_Tuple_spliced (thn (h pos p s v H _ I k) λU c ⟨j,d,f,r,z,q⟩=>⟨by rw[<-r.length];exact z,?_⟩);have y:d c.heap.objs.size=aD:=f.hok.fresh (Ze _);refine⟨.ref c.heap.objs.size,upd d c.heap.objs.size (.tup j),f.laid (t':=c.toks) (λb u e=>Zf _ e) (Ze _) ?_,rfl,q _ y⟩;exact⟨z,U,r,pU.new _ _⟩
def zU(h:PA X es t):PE X (.List es pos) (NN t):=by
 intro p s n H Q I k;refine wpAny_List_spliced (thn (h pos p s n H _ I k) λU c ⟨j,d,f,r,z,q⟩=>⟨by rw[<-r.length];exact z,?_⟩);have v:d c.heap.objs.size=aD:=f.hok.fresh (Ze _);refine⟨.ref c.heap.objs.size,upd d c.heap.objs.size (.lst j),f.laid (t':=c.toks) (λb u e=>Zf _ e) (Ze _) ?_,rfl,q _ v⟩;exact⟨z,U,0,r,ZA _ rfl⟩
end
@[inline]abbrev Sp:=List V->Hp->VK->XK->Prop
@[inline]abbrev CXT:=List Env->Hp->Shared->XK->Value->Shared->Prop
structure Env0(P:Program)(w:World)(K:Vk)(mg:Str->Option Value)(base:Heap)(A:Around)(outer:List Env)(s:Shared)(H:Hp):Prop where
 frames:A.frames=aw outer
 mod:Mod K mg base
 bs:∀b o,base.get? b=aw o->s.heap.get? b=aw o/\H b=aD
 bsz:base.objs.size<=s.heap.objs.size
 funs:s.heap.FunFrames base outer
 frf:∀b ∈ frs outer,H b=aD
 hok:HOk P w H s.heap
 bare:AllBare s.gens
abbrev CE(outer:List Env)(P:Program)(w:World)(H:Hp)(s:Shared)(Q:VK)(u:Value)(b:Shared):Prop:=
 ∃v h,b.os=s.os/\AllBare b.gens/\Un (frs outer) [] H h s.heap b.heap/\HOk P w h b.heap/\aJ v u/\Q v h
abbrev CR(C:CXT)(outer:List Env)(P:Program)(w:World)(H:Hp)(s:Shared)(Q:VK)(E:XK)(r:Result)(b:Shared):Prop:=
 match r with
 |.ok (.ret u)=>CE outer P w H s Q u b
 |.ok _=>False
 |.error e=>C outer H s E e b
structure FnOk(P:Program)(w:World)(K:Vk)(mg:Str->Option Value)(base:Heap)(CX:CXT)(k:Nat)(f:Addr)(fd:W7)(ps:List Str)(sp:Sp):Prop where
 len:∀vs H Q E,sp vs H Q E->vs.length=ps.length
 run:∀ (A:Around) (outer:List Env) (s:Shared) (H:Hp) (args:Args) (us:List Value) (vs:List V) (Q:VK) (E:XK),Room k A->Env0 P w K mg base A outer s H->BindsTo s fd args (ps.zip us)->aO vs us->sp vs H Q E ->
  codeAny (model P w) A (.call (.ref f) args) (CR CX outer P w H s Q E) s
section
variable {X:Cx} {pins:List (Addr × Obj)} {σ:St} {H:Hp} {s s':Shared}
def Inv.env0(I:Inv X pins σ H s):Env0 X.prog X.w X.K X.mg X.base X.A X.stack s H:=
 ⟨I.ok.frames,I.ok.mod,I.bs,Z0 I.ok.bsz I.sz,I.stack,I.stkFree,I.hok,I.bare⟩
def Inv.after(I:Inv X pins σ H s)(h:CE X.stack X.prog X.w H s Q u s'):EP X pins σ Q u s':=by
 obtain⟨v,f,os,bare,un,hok,r,q⟩:=h;obtain⟨c,g,d,t,O⟩:=s';obtain rfl:O=s.os:=os;exact⟨v,f,I.call (h':=c) (g':=g) (d':=d) (t':=t) (ch:=[]) un hok bare (λb z=>absurd z (by simp)),r,q⟩
end
abbrev oo(b:Sp)(d:List V)(E:XK)(t:TA):TE:=λc H Q=>t c H λv h=>b (v++d) h Q E
abbrev iR(K:Vk)(f:W7)(ps:List Str)(d:List Value):Prop:=
 ∀ (s:Shared) (u:List Value),K.In s.heap->(u++d).length=ps.length->BindsTo s f ⟨u,[]⟩ (ps.zip (u++d))
def iR.all{K:Vk}{f:W7}{ps:List Str}(h:∀u:List Value,u.length=ps.length->bindArgs f ⟨u,[]⟩=pure (ps.zip u)):iR K f ps []:=λs u _ b=>by
 rw[ZN] at b ⊢;exact .of_eq (h u b)
abbrev uo(C:CXT)(X:Cx)(E:XK):Prop:=∀ (p:List (Addr × Obj)) (c:St) (H:Hp) (s:Shared) (e:Value) (b:Shared),Inv X p c H s->C X.stack H s E e b->X.xe e b
section
variable {X:Cx} {CX:CXT} {k:Nat} {f C:Addr} {fd:W7} {ps:List Str} {sp:Sp} {dvs:List V} {ds:List Value} {E:XK} {x m:Str} {p pos apos:Pos} {e o:Expr} {es:List Expr} {ta:TE} {t:TA}
def zV(F:FnOk X.prog X.w X.K X.mg X.base CX k f fd ps sp)(q:Room k X.A)(hb:iR X.K fd ps ds)(hd:aO dvs ds)(j:uo CX X E)
  (I:Inv X b d H s) (r:aO v U) (h:sp (v++dvs) H Q E):wpAny (model X.prog X.w) X.A (call (.ref f) U) (EP X b d Q) X.xe s:=by
 have r2:aO (v++dvs) (U++ds):=r.append hd;have y:(U++ds).length=ps.length:=by rw[<-r2.length];exact F.len _ _ _ _ h
 refine wpAny_call (VP (F.run X.A X.stack s H ⟨U,[]⟩ (U++ds) (v++dvs) Q E q I.env0 (hb s U I.kIn y) r2 h) λr n c=>?_);cases r with
 |error e=>exact j b d H s e n I c
 |ok z=>
  cases z with
  |ret u=>exact I.after c
  |next=>exact False.elim c
  |brk=>exact False.elim c
  |cont=>exact False.elim c
def DM(F:FnOk X.prog X.w X.K X.mg X.base CX k f fd ps sp)(v:Room k X.A)(J:Gl X x)(z:X.mg x=aw (.ref f))(L:Vs X.K (.ref f)=aN)(hb:iR X.K fd ps ds)(hd:aO dvs ds)(n:uo CX X E)
  (y:PA X (e::es) t) (d:(x == ("__debug__" : Str))=aS:=by decide) (B:Uj (e::es) X.env=(aS,eval e X.env)::Uj es X.env:=by rfl) (c:(backTo pos (Uj es X.env)).any (·.1)=aS:=by rfl) :
  PE X (.Call (.Name x p) (e::es) [] pos) (oo sp dvs E t):=by
 intro b s u H Q I h;refine Ur (wj I J z ?_ d);refine Vl (h₀:=X.base) I.ok.mod.kin L (thn (y pos b s u H _ I h) λY U ⟨T,O,j,r,q⟩=>⟨j.kIn,?_⟩) B c;exact zV F v hb hd n j r q
end
abbrev PK(X:Cx)(k:List Keyword)(t:TA):Prop:=
 ∀ (b:Pos) (p:List (Addr × Obj)) (s:Shared) (c:St) (H:Hp) (Q:List V->Hp->Prop),Inv X p c H s->t c H Q->wpAny (model X.prog X.w) X.A (evalAll ((VE b (VZ k X.env)).map (·.2))) (AP X p c Q) X.xe s
section
variable {X:Cx} {CX:CXT} {k:Nat} {f C:Addr} {fd:W7} {ps ks:List Str} {sp:Sp} {E:XK} {x m:Str} {p pos apos kpos:Pos} {e o:Expr} {es:List Expr} {kws:List Keyword} {te ta:TE} {t tk:TA} {nm:Option Str}
def zW:PK X [] jy:=λ_ _ _ _ H Q I h=>wpAny_evalAll_nil ⟨[],H,I,.nil,h⟩
def wo(z:PE X e te)(y:PK X kws t):PK X (⟨nm,e,kpos⟩::kws) (ce te t):=by
 intro pos b s c H Q I h;show wpAny _ _ (evalAll ((do let v <-eval e X.env;standAt pos;pure v)::(VE pos (VZ kws X.env)).map (·.2))) _ _ s;refine wpAny_evalAll_cons (Us (thn (z b s c H _ I h) λu B ⟨x,j,O,r1,q⟩=>Us (UU (UI ?_))));exact thn (y pos b B c j _ O q) λU T ⟨L,d,J,r2,n⟩=>⟨x::L,d,J,.cons r1 r2,n⟩
variable {g:List Value->List Value->List Value} {gV:List V->List V->List V}
end
structure FnScope(N P:List Str)(sc:Scope):Prop where
 kind:sc.kind = .function
 co:sc.isCoroutine=aS
 gen:sc.isGenerator=aS
 nd:N.Nodup
 pre:N.take P.length=P
 par:∀x ∈ P,sc.names.lookup x=aw .local\/sc.names.lookup x=aw .cell
 nofree:∀y ∈ sc.names,y.2 ≠ .free
def oq{kindOf:Str->Option W9}{x:Str}:∀ {binds:List (Str × Value)} {m:Str->Option Value},(∀v,(x,v) ∉ binds)->bindL kindOf binds m x=m x
 |[],_,_=>rfl
 |(n,v)::r,m,h=>by
  unfold bindL;rw[oq λw b=>h w (Zi _ b)];split
  ·have:x ≠ n:=by rintro rfl;exact h v Zj
   simp[this]
  ·rfl
def ot{kindOf:Str->Option W9}{x:Str}:∀ {binds:List (Str × Value)} {m:Str->Option Value},(∀v,(x,v) ∉ binds)->bindC kindOf binds m x=m x
 |[],_,_=>rfl
 |(n,v)::r,m,h=>by
  unfold bindC;rw[ot λw b=>h w (Zi _ b)];split
  ·rfl
  ·have:x ≠ n:=by rintro rfl;exact h v Zj
   simp[this]
def ou{kindOf:Str->Option W9}{x:Str}{v:Value}:∀ {P:List Str} {b:List Value} {i:Nat} {m:Str->Option Value},P.Nodup->P[i]?=aw x->b[i]?=aw v->kindOf x=aw .local ->
  bindL kindOf (P.zip b) m x=aw v
 |[],_,_,_,_,h,_,_=>by simp at h
 |_::_,[],_,_,_,_,h,_=>by simp at h
 |p::P,w::b,0,m,nd,h1,h2,hk=>by
  simp at h1 h2;subst h1;subst h2;show bindL kindOf ((p,w)::P.zip b) m p=_;unfold bindL;rw[oq λv c=>(Z6.mp nd).1 (XB c).1,if_pos hk];simp
 |p::P,w::b,i+1,m,nd,h1,h2,hk=>by
  show bindL kindOf ((p,w)::P.zip b) m x=_;unfold bindL;exact ou (i:=i) (Z6.mp nd).2 (by simpa using h1) (by simpa using h2) hk
def ow{kindOf:Str->Option W9}{x:Str}{v:Value}:∀ {P:List Str} {b:List Value} {i:Nat} {m:Str->Option Value},P.Nodup->P[i]?=aw x->b[i]?=aw v->kindOf x ≠ aw .local ->
  bindC kindOf (P.zip b) m x=aw v
 |[],_,_,_,_,h,_,_=>by simp at h
 |_::_,[],_,_,_,_,h,_=>by simp at h
 |p::P,w::b,0,m,nd,h1,h2,hk=>by
  simp at h1 h2;subst h1;subst h2;show bindC kindOf ((p,w)::P.zip b) m p=_;unfold bindC;rw[ot λv c=>(Z6.mp nd).1 (XB c).1,if_neg hk];simp
 |p::P,w::b,i+1,m,nd,h1,h2,hk=>by
  show bindC kindOf ((p,w)::P.zip b) m x=_;unfold bindC;exact ow (i:=i) (Z6.mp nd).2 (by simpa using h1) (by simpa using h2) hk
abbrev hJ(N:List Str)(v:List V):St:=v.map aw++Zx (N.length - v.length) aD
abbrev uq(d:CXT)(P:Program)(w:World)(K:Vk)(mg:Str->Option Value)(base:Heap)(N:List Str)(q:Str)(b:Scope)(f:Addr)(C:Value)(A:Around)(outer:List Env)(s:Shared)(H:Hp)(E:XK):Cx where
 prog:=P
 w:=w
 K:=K
 mg:=mg
 base:=base
 A:=A.deeper (envOfC q b s.heap.objs.size f C)
 N:=N
 s₀:=s
 H₀:=H
 env:=envOfC q b s.heap.objs.size f C
 outer:=outer
 stack:=envOfC q b s.heap.objs.size f C::outer
 ex:=[]
 calm:=true
 fn:=λ_=>aN
 pn:=[]
 xe:=λe h=>wpAny (model P w) (A.deeper (envOfC q b s.heap.objs.size f C)) (leaving (envOfC q b s.heap.objs.size f C) e) (λ_ c=>d outer H s E e c) (λj c=>d outer H s E j c) h
def rH{sc:Scope}{n:Nat}{x:Str}(h:sc.names.lookup x=aw .cell):∃c,(VN n sc.names []).lookup x=aw c:=by
 have q:=Vm sc.names n [] (.inl h);exact Z9.mp q
def yf{Y:CXT}{P:Program}{w:World}{K:Vk}{mg:Str->Option Value}{base:Heap}{N ps:List Str}{Q:Str}{d:Scope}{f:Addr}{O:Value}{A:Around}{outer:List Env}{s s1:Shared}{H:Hp}{E:XK}{U:List Value}{C:List V}
  (S:FnScope N ps d) (hd:A.handled=aD) (B:Env0 P w K mg base A outer s H) (hl:C.length=ps.length) (r:aO C U)
  (x:InCallC s s.heap.objs.size (bindL (envOfC Q d s.heap.objs.size f O).kindOf (ps.zip U) λ_=>aD) (VN (s.heap.objs.size+1) d.names []) (bindC (envOfC Q d s.heap.objs.size f O).kindOf (ps.zip U) λ_=>aD) s1) :
  Inv (uq Y P w K mg base N Q d f O A outer s H E) [] (hJ N C) H s1:=by
 have hpl:ps.length<=N.length:=by have:=congrArg Zd S.pre;rw[Yb] at this;lia
 obtain⟨T,tk,rfl,Z⟩:=x.done;have I:∀b:Addr,b ∉ (uq Y P w K mg base N Q d f O A outer s H E).ex:=λb z=>absurd (show b ∈ ([]:List Addr) from z) (by simp)
 refine⟨⟨B.mod,S.kind,rfl,rfl,Ze _,λy z c T j=>?_,λy hy=>?_,λy c _ h=>?_,λ_=>hd,Around.frames_deeper B.frames,.inr ⟨rfl,rfl⟩,λb z=>absurd z (I b),B.bs,B.bsz,λb _ _=>I b,λb z=>absurd z (I b),B.funs,B.frf⟩,
  rfl,B.bare,Un.kept Z,⟨_,x.toInCall.ns,λi y v T j h3=>?_⟩,λy c h=>⟨_,x.cell y c h⟩,B.hok.fresh (Ze _),λy c h=>?_,λp L=>absurd (show p ∈ ([]:List (Addr × Obj)) from L) (by simp),B.hok.kept Z,?_⟩
 ·exact name_of_addr x.apart (V2 T) (V2 j)
 ·have hy:d.names.lookup y=aw .cell\/d.names.lookup y=aw .free:=hy;rcases hy with hy |hy
  ·exact rH hy
  ·exact absurd rfl (S.nofree _ (V2 hy))
 ·exact YW (x.above y c (V2 h))
 ·have hi:i < C.length:=by
   unfold hJ at j;by_cases hi:i < C.length
   ·exact hi
   ·rw[Zm (by simpa using hi)] at j;rw[YA] at j;split at j <;> cases j
  have ha:C[i]?=aw v:=by
   unfold hJ at j;rw[Zq (by simpa using hi),Zp] at j;cases e:C[i]? with
   |none=>rw[e] at j;cases j
   |some a=>rw[e] at j;cases j;rfl
  obtain⟨u,X,rv⟩:=r.get ha
  have L:ps[i]?=aw y:=by
   rw[<-S.pre,Xr (by lia)];exact T
  have J:ps.Nodup:=by rw[<-S.pre];exact S.nd.sublist (X8 _ _)
  refine⟨u,rv,?_⟩;rcases S.par y (Zc L) with k |k
  ·exact .inl ⟨k,ou J L X k⟩
  ·obtain⟨c,e⟩:=rH (n:=s.heap.objs.size+1) k;refine .inr ⟨.inl k,c,e,?_⟩;have q:=x.cell y c e;rw[ow J L X (by show d.names.lookup y ≠ _;rw[k];decide)] at q;exact q
 ·exact B.hok.fresh (YW (x.above y c (V2 h)))
 ·unfold hJ;show _=N.length;rw[Zh,Za,XG]
  lia
def NP{Y:CXT}{P:Program}{w:World}{K:Vk}{mg:Str->Option Value}{base:Heap}{k:Nat}{f:Addr}{name d:Str}{p:Arguments}{body:List Stmt}{c:Scope}{dV kV U pm C ct oc:Value}{an od:Option Addr}
  {Z:Array (Option Value)} {N ps:List Str} {sp:Sp} (lk:K.lookup f=aw ⟨oc,od,.func (Vp name d p body c dV kV U pm an C ct),Z⟩) (hcd:Vn K C d=aN) (S:FnScope N ps c)
  (len:∀h H Q E,sp h H Q E->h.length=ps.length)
  (L:∀ (A:Around) (outer:List Env) (s:Shared) (H:Hp) (h:List V) (Q:VK) (E:XK),Room k (A.deeper (envOfC d c s.heap.objs.size f C))->sp h H Q E ->
   ∃t,PSs (uq Y P w K mg base N d c f C A outer s H E) body t/\t { nx:=λ_ z=>Q .non z,rt:=Q } (hJ N h) H) :
  FnOk P w K mg base Y (k+1) f (Vp name d p body c dV kV U pm an C ct) ps sp:=by
 refine⟨len,λA outer s H args us h Q E hr O hb r T=>?_⟩;have hl:=len _ _ _ _ T;have KX:K.In s.heap:=O.mod.kin.keeps λb o e=>(O.bs b o e).1;have lim:s.heap.NoLimit:=O.mod.nolimit.keeps λb o e=>(O.bs b o e).1
 have B:∀y ∈ ps.zip us,c.names.lookup y.1=aw .local\/(c.names.lookup y.1=aw .cell/\((VN (s.heap.objs.size+1) c.names []).lookup y.1).isSome=aN):=λ⟨n,v⟩ hy=>by
  rcases S.par n (XB hy).1 with q |q
  ·exact .inl q
  ·exact .inr ⟨q,Vm _ _ _ (.inl q)⟩
 refine codeAny_call_function hr.depth (KX _ _ lk) rfl S.co S.gen rfl (PySem.W.codeRec_of KX hcd) (hb _ _ _ _ ?_);refine wpAny_newFunctionEnv_cells S.kind B λenv he s1 x=>?_;subst he;refine⟨lim.keeps x.toInCall.keep,codeAny_func ?_⟩;obtain⟨t,ht,hq⟩:=L A outer s H h Q E (hr.deeper _) T;have I:Inv (uq Y P w K mg base N d c f C A outer s H E) [] (hJ N h) H s1:=yf S hr.hd O hl r x;refine UE (ht [] s1 (hJ N h) H _ I hq) (λfl s' hs=>?_) λe s' hs=>hs
 have X:∀ {j:St} {z:Hp} {v:V} {u:Value},Inv (uq Y P w K mg base N d c f C A outer s H E) [] j z s'->aJ v u->Q v z->CE outer P w H s Q u s':=
  λ{j z v u} J rv q=>⟨v,z,J.os,J.bare,J.base,J.hok,rv,q⟩
 cases fl with
 |ret u=>
  obtain⟨v,j,z,J,rv,q⟩:=hs;exact X J rv q
 |next=>
  obtain⟨j,z,J,q⟩:=hs;exact X (v:=V.non) (u:=Value.none) J rfl q
 |brk=>
  obtain⟨_,_,_,q⟩:=hs;exact False.elim q
 |cont=>
  obtain⟨_,_,_,q⟩:=hs;exact False.elim q
section
variable {X:Cx} {x:Str} {p pos:Pos} {e:Expr} {es:List Expr} {t:TA} {id T:String} {r:List V->Hp->VK->Prop}
abbrev tCB(r:List V->Hp->VK->Prop)(t:TA):TE:=λb H Q=>t b H λv h=>r v h Q
def iS(n:aR X (.builtin id) r)(C:Gl X x)(y:X.mg x=aD)(E:VI x=aw (.builtin id))(u:PA X (e::es) t)(k:x ≠ "__name__" := by decide)(d:(x == ("__debug__" : Str))=aS:=by decide)
  (B:Uj (e::es) X.env=(aS,eval e X.env)::Uj es X.env:=by rfl) (c:(backTo pos (Uj es X.env)).any (·.1)=aS:=by rfl):PE X (.Call (.Name x p) (e::es) [] pos) (tCB r t):=by
 intro b s f H Q I h;refine Ur (dz I C y E ?_ k d);exact PyProof.Rows.callWith_builtin1 (thn (u pos b s f H _ I h) λU z ⟨v,j,J,r1,q⟩=>n b z f j v U Q J r1 q) B c
def jz(n:aR X (.type T) r)(C:Gl X x)(y:X.mg x=aD)(E:VI x=aw (.type T))(u:PA X (e::es) t)(k:x ≠ "__name__" := by decide)(d:(x == ("__debug__" : Str))=aS:=by decide)
  (B:Uj (e::es) X.env=(aS,eval e X.env)::Uj es X.env:=by rfl) (c:(backTo pos (Uj es X.env)).any (·.1)=aS:=by rfl):PE X (.Call (.Name x p) (e::es) [] pos) (tCB r t):=by
 intro b s f H Q I h;refine Ur (dz I C y E ?_ k d);exact WJ (thn (u pos b s f H _ I h) λU z ⟨v,j,J,r1,q⟩=>n b z f j v U Q J r1 q) B c
end
end L2
namespace HT
open PySem PyProof.Rows
abbrev cT:List Int->List Int->Bool
 |[],[]=>aS
 |[],_::_=>aN
 |_::_,[]=>aS
 |x::xs,y::ys=>if x=y then cT xs ys else decide (x < y)
def lP(x y:Int)(X Y:List Int):cT (x::X) (y::Y)=if x=y then cT X Y else decide (x < y):=rfl
def nU:cT [] []=aS:=rfl
def lQ(y:Int)(Y:List Int):cT [] (y::Y)=aN:=rfl
def lU(x:Int)(X:List Int):cT (x::X) []=aS:=rfl
def rJ(A:Around)(s:Shared)(a:Int)(t:Tok)(c:Int)(u:Tok):∃e,Vb A s (.int a t) (.int c u) e/\(e=aN ↔ a=c):=
 ⟨(a == c),SeqAt.EqAt.int_int a t c u,by simp⟩
def rK(A:Around)(s:Shared)(a:Int)(t:Tok)(c:Int)(u:Tok)(prog:Program)(w:World)(E:Value->Shared->Prop)(Q:Value->Shared->Prop)(h:Q (.bool (decide (a < c))) s) :
  wpAny (model prog w) A (Ub .Lt (.int a t) (.int c u)) Q E s:=
 (PyProof.Rows.lt_int h:wpAny (model prog w) A (VQ .Lt (.int a t) (.int c u)) Q E s)
section
open PySem.SeqAt
open PySem.AutoSeq1 (wpAny_loadPart')
open PySem.MeetsSeq PySem.MeetsSeq2 PySem.MeetsSeq3
def nV(l b:Addr)(f I:Array Value)(n n2:Nat)(dd dd2:Option Addr)(sl sl2:Array (Option Value))(ns T:List Int)(hi:IntsAre f.toList ns)(hj:IntsAre I.toList T) :
  Meets (Builtin.«tuple.__lt__» ⟨[.ref l,.ref b],[]⟩)
   (λ_ R s=>s.heap.get? l=aw { cls:=.type "tuple", dict:=dd,data:=.seq f n,slots:=sl }/\s.heap.get? b=aw { cls:=.type "tuple", dict:=dd2,data:=.seq I n2,slots:=sl2 } ∧
    R (.ok (.ret (.bool (cT ns T)))) s):=
 .of_wp λprog w A R s h=>by
  obtain⟨Y,g,d,Z,os⟩:=s;obtain⟨hl,hb,h⟩:=h;have f2:=AutoSeq1.sub_tuple_tuple;have z1:f.size=ns.length:=by rw[<-hi.length];simp
  have z2:I.size=T.length:=by rw[<-hj.length];simp
  wp_walk using UD hl,UD hb,Uy _ (λE b s'=>b.1=aD/\s'=⟨Y,g,d,Z,os⟩/\∃ (X U:List Value) (k p:List Int),E=X.zip U ∧
   IntsAre X k/\IntsAre U p/\k.length+I.size=p.length+f.size/\R (.ok (.ret (.bool (cT k p)))) ⟨Y,g,d,Z,os⟩) _
  case turn=>
   rintro⟨y,x⟩ E b s' ⟨J,rfl,X,U,k,p,v,L,z,j,C⟩;cases L with
   |nil=>rw[List.zip_nil_left] at v;cases v
   |cons a t Q=>
    cases z with
    |nil=>rw[List.zip_nil_right] at v;cases v
    |cons c u O=>
     rw[Yl] at v;injection v with hyx hrest;injection hyx with hy hx;subst hy hx;rw[lP] at C;simp only[Zo] at j;obtain⟨e,he,B⟩:=rJ A.in1 ⟨Y,g,d,Z,os⟩ a t c u;refine Us (he prog w _ _ ?_);cases e with
     |true=>
      rw[if_pos (B.mp rfl)] at C
      wp_walk
      exact⟨rfl,rfl,_,_,_,_,hrest,Q,O,by lia,C⟩
     |false=>
      rw[if_neg (λq=>absurd (B.mpr q) Zg)] at C;have hri:=rK A.in1 ⟨Y,g,d,Z,os⟩ a t c u prog w
      wp_walk using hri
      exact⟨_,rfl,by simpa using C⟩
  case fin=>
   rintro⟨b1,b2⟩ s' ⟨J,rfl,X,U,k,p,v,L,z,j,C⟩;simp only at J;subst J
   have hv:cT k p=decide (f.size < I.size):=by
    cases L with
    |nil=>
     cases z with
     |nil=>
      simp only[Z1] at j;rw[nU];exact(decide_eq_false (by lia)).symm
     |cons c u hw=>
      simp only[Z1,Zo] at j;rw[lQ];exact(decide_eq_true (by lia)).symm
    |cons a t hv=>
     cases z with
     |nil=>
      simp only[Z1,Zo] at j;rw[lU];exact(decide_eq_false (by lia)).symm
     |cons c u hw=>
      rw[Yl] at v;cases v
   rw[hv] at C
   wp_walk
   exact⟨_,rfl,by simpa[Builtin.Tuple.tupleCompareSizes] using C⟩
  case h=>
   exact⟨rfl,rfl,f.toList,I.toList,ns,T,rfl,hi,hj,by lia,h⟩
end
section
variable {prog:Program} {w:World} {A:Around} {E:Value->Shared->Prop} {s:Shared}
def ur(L:IsTup s.heap l c)(hb:IsTup s.heap b I)(hi:IntsAre c.toList ns)(O:IntsAre I.toList k)
  (z:A.units < cLine) (h:Q (.bool (cT ns k)) s):wpAny (model prog w) A (VQ .Lt (.ref l) (.ref b)) Q E s:=by
 obtain⟨⟨B,y,v,sl⟩,ho,u,n,hd⟩:=id L;obtain⟨⟨C,p,data2,q⟩,d,f,J,j⟩:=id hb;simp only at u hd f j;subst u hd f j
 exact Uc (op:=.Lt) ⟨_,ho,rfl⟩ ⟨_,d,rfl⟩ W6 WW (WQ _ _) (nV l b c I n J y p sl q ns k hi O)
  ⟨ho,d,show Value.bool (cT ns k) ≠ Value.notImplemented/\Q (.bool (cT ns k)) s from ⟨(λx=>nomatch x),h⟩⟩ z
def DN(I:IsTup s.heap t v.toArray)(hb:IsTup s.heap b c.toArray)(B:v ≠ [])
  (L:c=[]->Q (.ref t) s) (J:c ≠ []->Q (.ref s.heap.objs.size) { s with heap:=s.heap.push { cls:=.type "tuple", data:=.seq (v++c).toArray } })
  (q:v.length+c.length<=sizeLine):wpAny (model prog w) A (VG .Add (.ref t) (.ref b)) Q E s:=by
 obtain⟨⟨cls,u,data,sl⟩,ho,y,n,hd⟩:=id I;obtain⟨⟨C,f,data2,k⟩,h,d,z,j⟩:=id hb;simp only at y hd d j;subst y hd d j;have e:v.toArray++c.toArray=(v++c).toArray:=by simp
 by_cases p:c=[]
 ·exact VR ⟨_,ho,rfl⟩ ⟨_,h,rfl⟩ V4 Ug W3 WU (WN _ _)
   (tuple_addW1 t b v.toArray c.toArray n z u f sl k (by simpa using B) (by simp[p])) ⟨ho,h,L p⟩
 ·refine VR ⟨_,ho,rfl⟩ ⟨_,h,rfl⟩ V4 Ug W3 WU (WN _ _)
   (tuple_addW2 t b v.toArray c.toArray n z u f sl k (by simpa using B) (by simpa using p) (by rw[Zl,Zl];exact q)) ⟨ho,h,?_⟩
  rw[e];exact J p
abbrev sIx(n d:Nat):Option Int->Nat
 |none=>d
 |some v=>if v < 0 then (v+(n:Int)).toNat else min v.toNat n
def zX(n d:Nat):sIx n d aD=d:=rfl
def Ja(n d:Nat)(hd:d<=n)(o:Option Int):sIx n d o<=n:=by
 cases o with
 |none=>exact hd
 |some v=>
  show(if v < 0 then (v+(n:Int)).toNat else min v.toNat n)<=n;by_cases h:v < 0
  ·rw[if_pos h];lia
  ·rw[if_neg h];exact Nat.min_le_right _ _
def wp(v:Int)(n d:Nat):(if v < 0 then max (v+(n:Int)) 0 else min v (n:Int))=((sIx n d (aw v):Nat):Int):=by
 show(if v < 0 then max (v+(n:Int)) 0 else min v (n:Int))=(((if v < 0 then (v+(n:Int)).toNat else min v.toNat n):Nat):Int);by_cases h:v < 0
 ·simp only[if_pos h];lia
 ·simp only[if_neg h];lia
def ut(lo hi:Option Int)(n:Nat):Builtin.Slice.sliceAdjust lo hi 1 (n:Int)=(((sIx n 0 lo:Nat):Int),((sIx n n hi:Nat):Int)):=by
 have h:¬ ((1:Int) < 0):=by lia
 unfold Builtin.Slice.sliceAdjust;simp only[h,if_false];refine Prod.ext ?_ ?_
 ·cases lo with
  |none=>rfl
  |some v=>exact wp v n 0
 ·cases hi with
  |none=>rfl
  |some v=>exact wp v n n
def uu(i j:Nat):Builtin.Slice.slicePlaces (i:Int) (j:Int) 1=j - i:=by
 unfold Builtin.Slice.slicePlaces;have h:(1:Int) > 0:=by lia
 simp only[h,if_true,Wz];split <;> lia
def lV(p:IsPart v o)(h:Q o s):wpAny (model prog w) A (Builtin.Slice.slicePartIndex v) Q E s:=by
 cases p with
 |none=>exact slicePart_none h
 |int i t=>exact slicePart_int h
def dS{sl:Addr}{v d:Value}{lo hi:Option Int}{n:Nat}{Q:Int × Int × Nat->Shared->Prop}(hs:s.heap.IsSliceOf sl v d .none)(j:IsPart v lo)(p:IsPart d hi)
  (h:Q (((sIx n 0 lo:Nat):Int),1,sIx n n hi - sIx n 0 lo) s):wpAny (model prog w) A (Builtin.Slice.sliceApplied (.ref sl) (pure (n:Int))) Q E s:=by
 obtain⟨os,c,f,b⟩:=id hs;unfold Builtin.Slice.sliceApplied Builtin.Slice.sliceFields;refine Us (Us (Ux c b (x:=v) rfl (Us (Ux c b (x:=d) rfl (Us (Ux c b (x:=.none) rfl (UI ?_)))))));refine Us (slicePart_none ?_);show wpAny _ _ (if ((1:Int) == 0)=aN then _ else _) _ _ s;rw[if_neg (by decide)];refine Us (lV j (Us (lV p (Us (UI ?_)))));show wpAny _ _ (match Builtin.Slice.sliceAdjust lo hi 1 (n:Int) with |(lo,hi)=>pure (lo,(1:Int),Builtin.Slice.slicePlaces lo hi 1)) _ _ s;rw[ut lo hi n];show wpAny _ _ (pure (((sIx n 0 lo:Nat):Int),(1:Int),Builtin.Slice.slicePlaces ((sIx n 0 lo:Nat):Int) ((sIx n n hi:Nat):Int) 1)) _ _ s;rw[uu];exact UI h
def zY(X:Array Value)(i k:Nat):((Zk k).filterMap λ(m:Nat)=>X[((i:Int)+(m:Int) * 1).toNat]?).toArray=((X.toList.drop i).take k).toArray:=by
 have e:(λ(m:Nat)=>X[((i:Int)+(m:Int) * 1).toNat]?)=λm=>X[i+m]?:=by
  funext m
  have:((i:Int)+(m:Int) * 1).toNat=i+m:=by lia
  rw[this]
 rw[e];have:=pick_run X i k;rw[X3] at this;have b:((λx=>X[x]?) ∘ λx=>i+x)=λm=>X[i+m]?:=rfl;rw[b] at this;rw[this]
def iT{t sl:Addr}{I:Array Value}{v n:Value}{lo hi:Option Int}{Q:Value->Shared->Prop}(c:IsTup s.heap t I)(hs:s.heap.IsSliceOf sl v n .none)(y:IsPart v lo)(B:IsPart n hi)
  (p:¬ (sIx I.size 0 lo=0/\sIx I.size I.size hi=I.size))
  (h:Q (.ref s.heap.objs.size) { s with heap:=s.heap.push { cls:=.type "tuple", data:=.seq ((I.toList.drop (sIx I.size 0 lo)).take (sIx I.size I.size hi - sIx I.size 0 lo)).toArray } })
  (z:I.size<=sizeLine):wpAny (model prog w) A (getItem (.ref t) (.ref sl)) Q E s:=by
 have b:sizeOk (.seq ((I.toList.drop (sIx I.size 0 lo)).take (sIx I.size I.size hi - sIx I.size 0 lo)).toArray):=by
  show((I.toList.drop (sIx I.size 0 lo)).take (sIx I.size I.size hi - sIx I.size 0 lo)).toArray.size<=sizeLine;rw[Zl,Yb,Y6,ZC]
  lia
 have L:sIx I.size I.size hi<=I.size:=Ja _ _ (Ze _) hi;obtain⟨os,k,j,u⟩:=id hs;have f:s.TypeIs (.ref sl) "slice" := ⟨os,k,j⟩;unfold getItem
 try with_reducible refine UA ?_
 first |refine Us (UI ?_) |skip
 refine Us (US c.typeIs (by decide) ?_)
 refine Us (wpAny_callSpecial?_slot (name:=Str.ofString "__getitem__") c.typeIs WK
  (Uu WK c.typeIs entry_tuple_getitem ?_ (args_tuple_getitem _ _)))
 show wpAny _ _ (Builtin.Tuple.tupleItemsOf (.ref t) >>= _) _ _ s;refine Us (tupleItemsOf_ c ?_);refine Us (UX f ?_);rw[if_pos (by decide)];refine Us (dS hs y B ?_)
 have d:¬ ((((sIx I.size 0 lo:Nat):Int) == 0 && (1:Int) == 1 && (sIx I.size I.size hi - sIx I.size 0 lo) == I.size)=aN):=by
  intro q;rw[bAE,bAE] at q;have C:((sIx I.size 0 lo:Nat):Int)=0:=eq_of_beq q.1.1;have J:sIx I.size I.size hi - sIx I.size 0 lo=I.size:=eq_of_beq q.2;exact p ⟨by lia,by lia⟩
 show wpAny _ _ (if (((sIx I.size 0 lo:Nat):Int) == 0 && (1:Int) == 1 && (sIx I.size I.size hi - sIx I.size 0 lo) == I.size)=aN then _ else _) _ _ s;rw[if_neg d,zY]
 first
  |exact Us (m:=Builtin.Tuple.tupleExact _) (UF (UI ⟨_,rfl,UI h⟩) b)
  |exact Us (m:=Builtin.Tuple.tupleExact _) (UF (Us (UI (UI ⟨_,rfl,UI h⟩))) b)
  |exact Us (Us (m:=Builtin.Tuple.tupleExact _) (UF (UI (UI ⟨_,rfl,UI h⟩)) b))
  |exact Us (Us (m:=Builtin.Tuple.tupleExact _) (UF (UI ⟨_,rfl,UI h⟩) b))
end
end HT
namespace L2
open PySem PySem.Spec PyProof.Rows
@[inline]abbrev TO:=St->Hp->(Option Int->Hp->Prop)->Prop
abbrev PO(X:Cx)(e:Option Expr)(t:TO):Prop:=
 ∀ (p:List (Addr × Obj)) (s:Shared) (b:St) (H:Hp) (Q:Option Int->Hp->Prop),Inv X p b H s->t b H Q ->
  wpAny (model X.prog X.w) X.A (evalPart e X.env) (λu c=>∃o h,Inv X p b h c/\IsPart u o/\Q o h) X.xe s
abbrev wq:TO:=λ_ H Q=>Q aD H
abbrev Hs(t:TE):TO:=λb H Q=>t b H λx h=>∃i,x = .int i/\Q (aw i) h
section
variable {X:Cx} {e:Expr} {te:TE} {lo hi:Option Expr} {tl th:TO} {pos p2:Pos}
def DP:PO X aD wq:=by
 intro p s b H Q I h;rw[VU];exact UI ⟨aD,H,I,.none,h⟩
def wu(h:PE X e te):PO X (aw e) (Hs te):=by
 intro p s d H Q I b;rw[evalPart_some];refine thn (h p s d H _ I b) λu k ⟨x,c,f,r1,j⟩=>?_;obtain⟨i,rfl,q⟩:=j;obtain⟨t,rfl⟩:=r1;exact⟨aw i,c,f,.int i t,q⟩
abbrev SlR(X:Cx)(r:V->Option Int->Option Int->Hp->VK->Prop):Prop:=
 ∀ (p:List (Addr × Obj)) (s:Shared) (d:St) (H:Hp) (x:V) (v b c:Value) (lo hi:Option Int) (sl:Addr) (Q:VK),Inv X p d H s->aJ x v->s.heap.IsSliceOf sl b c .none->IsPart b lo->IsPart c hi->r x lo hi H Q ->
  ∃T id,typeLookup (.type T) "__getitem__" = pure (aw (.builtin id))/\s.TypeIs v T/\wpAny (model X.prog X.w) X.A (getItem v (.ref sl)) (EP X p d Q) X.xe s
def SlR.or{r b:V->Option Int->Option Int->Hp->VK->Prop}(h:SlR X r)(u:SlR X b):SlR X (λx lo hi H Q=>r x lo hi H Q\/b x lo hi H Q):=by
 intro p s k H x v c d lo hi sl Q I n hs j f q;rcases q with q |q
 ·exact h p s k H x v c d lo hi sl Q I n hs j f q
 ·exact u p s k H x v c d lo hi sl Q I n hs j f q
abbrev tSl(r:V->Option Int->Option Int->Hp->VK->Prop)(te:TE)(tl th:TO):TE:=λb H Q=>te b H λx d=>tl b d λl h=>th b h λu c=>r x l u c Q
def zZ(L:SlR X r)(he:PE X e te)(Z:PO X lo tl)(y:PO X hi th):PE X (.Subscript e (.Slice lo hi aD p2) pos) (tSl r te tl th):=by
 intro p s d H Q I h;refine Subscript_ (thn (he p s d H _ I h) λv Y ⟨x,B,I1,r1,C⟩=>?_);refine wpAny_Slice (thn (Z p Y d B _ I1 C) λf O ⟨l,z,I2,pl,J⟩=>thn (y p O d z _ I2 J) λj c ⟨u,k,I3,pu,q3⟩=>?_);rw[VU];refine UI ?_;have E:Inv X p d k { c with heap:=c.heap.push { cls:=.type "slice", data:=.fields #[f,j,.none] } }:=I3.kept (t':=c.toks) λb ob q=>Zf _ q;obtain⟨T,id,U,n,hg⟩:=L p { c with heap:=c.heap.push { cls:=.type "slice", data:=.fields #[f,j,.none] } } d k x v f j l u c.heap.objs.size Q E r1 (Heap.IsSliceOf.new ..) pl pu q3;show wpAny (model X.prog X.w) X.A (subscriptTail e (.Slice lo hi aD p2) v (.ref c.heap.objs.size)) (EP X p d Q) X.xe { c with heap:=c.heap.push { cls:=.type "slice", data:=.fields #[f,j,.none] } };exact tail_any (ops:=[.ref c.heap.objs.size,v]) n U hg (by with_unfolding_all rfl)
abbrev lW(b:List V)(lo hi:Option Int):List V:=(b.drop (HT.sIx b.length 0 lo)).take (HT.sIx b.length b.length hi - HT.sIx b.length 0 lo)
def j8(b:List V)(lo hi:Option Int):(lW b lo hi).length<=b.length:=by
 unfold lW;rw[Yb,Y6]
 lia
abbrev QD(K:Vk):V->Option Int->Option Int->Hp->VK->Prop:=λx lo hi H Q=>∃a b,x = .ref a/\SqT K H a b ∧
 ¬ (HT.sIx b.length 0 lo=0/\HT.sIx b.length b.length hi=b.length)/\∀p,H p=aD->Q (.ref p) (upd H p (.tup (lW b lo hi)))
def Jb:SlR X (QD X.K):=by
 intro p s J H x v C E lo hi sl Q I y hs z B h;obtain⟨a,d,rfl,n,u,q⟩:=h;cases y;obtain⟨f,r,j,k⟩:=I.tuple n;have c:f.toArray.size=d.length:=by rw[Zl];exact r.length.symm
 refine⟨"tuple", _,PyProof.Rows.slot_tuple_getitem.lookup,j.typeIs,?_⟩;refine HT.iT j hs z B (by rw[c];exact u) ?_ (by rw[c];exact k);rw[c];refine⟨.ref s.heap.objs.size,_,I.laid (t':=s.toks) (o:=.tup (lW d lo hi)) (λb ob q=>Zf _ q) (Ze _) ?_,rfl,q _ (I.hok.fresh (Ze _))⟩;exact⟨Z0 (j8 d lo hi) k,_,(r.drop (HT.sIx d.length 0 lo)).take (HT.sIx d.length d.length hi - HT.sIx d.length 0 lo),pU.new _ _⟩
abbrev NQ(K:Vk):R2:=λx y H Q=>∃a b c Y,x = .ref a/\y = .ref b/\SqT K H a c/\SqT K H b Y/\c ≠ []/\c.length+Y.length<=sizeLine ∧
 (Y=[]->Q (.ref a) H)/\(Y ≠ []->∀p,H p=aD->Q (.ref p) (upd H p (.tup (c++Y))))
def aO.nil_iff(r:aO b u):u=[] ↔ b=[]:=by
 cases r with
 |nil=>simp
 |cons _ _=>simp
def DQ:OpR X (VG .Add) (NQ X.K):=by
 intro p s O H x y v u Q I k j h;obtain⟨a,b,L,Y,rfl,rfl,E,hb,f,c,n,B⟩:=h;cases k;cases j;obtain⟨J,r1,C,_⟩:=I.tuple E;obtain⟨d,r2,p2,_⟩:=I.tuple hb;refine HT.DN C p2 (λz=>f (r1.nil_iff.mp z)) (λz=>⟨.ref a,H,I,rfl,n (r2.nil_iff.mp z)⟩) (λz=>?_) (by rw[<-r1.length,<-r2.length];exact c);refine⟨.ref s.heap.objs.size,_,I.laid (t':=s.toks) (o:=.tup (L++Y)) (λb ob q=>Zf _ q) (Ze _) ?_,rfl,B (λw=>z (r2.nil_iff.mpr w)) _ (I.hok.fresh (Ze _))⟩;exact⟨by rw[Zh];exact c,_,r1.append r2,pU.new _ _⟩
end
abbrev ixN(n:Nat)(i:Int):Option Nat:=if 0<=i then (if i < n then aw i.toNat else aD) else if -(n:Int)<=i then aw (i+n).toNat else aD
abbrev atI{α:Type}(X:List α)(i:Int):Option α:=(ixN X.length i).bind λj=>X[j]?
def p0{n:Nat}{i:Int}{j:Nat}(h:ixN n i=aw j):seqIndex? i n=aw j/\j < n/\-(n:Int)<=i/\i < n:=by
 unfold ixN at h;by_cases c:0<=i
 ·rw[if_pos c] at h;by_cases b:i < n
  ·rw[if_pos b] at h;have e:i.toNat=j:=Option.some.inj h;exact⟨by rw[Ue c b,e],by lia,by lia,b⟩
  ·rw[if_neg b] at h;cases h
 ·rw[if_neg c] at h;by_cases b:-(n:Int)<=i
  ·rw[if_pos b] at h;have e:(i+n).toNat=j:=Option.some.inj h;exact⟨by rw[Ud (by lia) b,e],by lia,b,by lia⟩
  ·rw[if_neg b] at h;cases h
def qa{b:Type}{X:List b}{i:Int}{v:b}(h:atI X i=aw v):∃j,seqIndex? i X.length=aw j/\X[j]?=aw v/\j < X.length/\-(X.length:Int)<=i/\i < X.length:=by
 unfold atI at h;cases e:ixN X.length i with
 |none=>rw[e] at h;cases h
 |some j=>
  rw[e] at h;obtain⟨d,c,f,h4⟩:=p0 e;exact⟨j,d,h,c,f,h4⟩
def ww{b:Type}{X:List b}{j:Nat}{v:b}(h:X[j]?=aw v):atI X (j:Int)=aw v:=by
 have c:j < X.length:=(Zb.mp h).1
 have e:ixN X.length (j:Int)=aw j:=by
  unfold ixN;rw[if_pos (by lia),if_pos (by lia)];simp
 unfold atI;rw[e];exact h
abbrev qb(b:Expr):Prop:=∀o i,subscripted b aS o i=operate [o,i] (getItem o i)
abbrev IxR(X:Cx)(r:R2):Prop:=
 ∀ (c b:Expr) (p:List (Addr × Obj)) (s:Shared) (d:St) (H:Hp) (x y:V) (v u:Value) (Q:VK),Inv X p d H s->aJ x v->aJ y u->r x y H Q ->
  subscripted b aS v u=operate [v,u] (getItem v u)->wpAny (model X.prog X.w) X.A (subscriptTail c b v u) (EP X p d Q) X.xe s
abbrev MtR(X:Cx)(id:String)(r:V->List V->Hp->VK->Prop):Prop:=
 ∀ (p:List (Addr × Obj)) (s:Shared) (c:St) (H:Hp) (x:V) (b:List V) (v:Value) (u:List Value) (Q:VK),Inv X p c H s->aJ x v->aO b u->r x b H Q ->
  wpAny (model X.prog X.w) X.A (call (.builtin id) (v::u)) (EP X p c Q) X.xe s
section
variable {X:Cx} {a b:Expr} {ta tb:TE} {pos:Pos}
def IxR.or{r f:R2}(h:IxR X r)(z:IxR X f):IxR X (λx y H Q=>r x y H Q\/f x y H Q):=by
 intro c d p s k H x y v u Q I n j q hs;rcases q with q |q
 ·exact h c d p s k H x y v u Q I n j q hs
 ·exact z c d p s k H x y v u Q I n j q hs
def z3(d:IxR X r)(k:PE X a ta)(hb:PE X b tb)(hs:qb b):PE X (.Subscript a b pos) (tOp r ta tb):=by
 intro p s z H Q I h;exact Subscript_ (IT k hb I h λv u j x y c f B n q=>d a b p j z c x y v u Q f B n q (hs _ _))
abbrev Jc(K:Vk):R2:=λx y H Q=>∃p c i v,x = .ref p/\y = .int i/\SqL K H p c/\atI c i=aw v/\Q v H
abbrev NR(K:Vk):R2:=λx y H Q=>∃p c i v,x = .ref p/\y = .int i/\SqT K H p c/\atI c i=aw v/\Q v H
abbrev NS:R2:=λx y H Q=>∃z i c,x = .str z/\y = .int i/\z.length<=sizeLine/\atI z.cps.toList i=aw c/\Q (.str ⟨#[c]⟩) H
def DR:IxR X (Jc X.K):=by
 intro E n c s L H x y v u Q I Y U h hs;obtain⟨p,xs,i,z,rfl,rfl,hq,he,q⟩:=h;cases Y;obtain⟨t,rfl⟩:=U;obtain⟨k,r,C,hz⟩:=I.list hq;obtain⟨j,d,Z,h3,h4,h5⟩:=qa he;obtain⟨w,O,B⟩:=r.get Z;have hl:=r.length;have hn:=jx;have f:EP X c L Q w s:=⟨z,H,I,B,q⟩;by_cases T:0<=i
 ·have J:i.toNat=j:=by
   rw[Ue T h5] at d;exact Option.some.inj d
  exact item_listR C.isList T (by lia) (by rw[J];simpa using O) f hs
 ·have J:(i+(k.toArray.size:Int)).toNat=j:=by
   rw[Ud (by lia) h4] at d;rw[Zl,<-hl];exact Option.some.inj d
  exact subscriptTail_builtinR (x:=w) C.isList.typeIs slot_list_getitem.lookup
   (wpAny_getItem_list_neg (Q:=λr s'=>r=w/\EP X c L Q r s') C.isList (by lia) (by rw[Zl] <;> lia) (by lia) (by rw[J];simpa using O) ⟨rfl,f⟩) hs
def z4:IxR X (NR X.K):=by
 intro k d c s B H x y v u Q I J E h hs;obtain⟨p,xs,i,z,rfl,rfl,hq,Z,q⟩:=h;cases J;obtain⟨t,rfl⟩:=E;obtain⟨T,r,C,hz⟩:=I.tuple hq;obtain⟨j,Y,L,h3,h4,h5⟩:=qa Z;obtain⟨w,O,f⟩:=r.get L;have U:=r.length;have hn:=jx;have n:EP X c B Q w s:=⟨z,H,I,f,q⟩
 exact subscriptTail_builtinR (x:=w) C.typeIs slot_tuple_getitem.lookup
  (getItem_tuple (j:=j) (Q:=λr s'=>r=w/\EP X c B Q r s') C (by lia) (by lia) (by rw[Zl,<-U];exact Y) (by simpa using O) ⟨rfl,n⟩) hs
def Jd:IxR X NS:=by
 intro f d p s U H x y v u Q I B n h hs;obtain⟨z,i,c,rfl,rfl,Z,L,q⟩:=h;obtain⟨t,rfl⟩:=B;obtain⟨t',rfl⟩:=n;obtain⟨j,k,C,h3,h4,E⟩:=qa L;have J:z.cps.toList.length=z.length:=by simp[Str.length]
 rw[J] at k h4 E;have Y:=jx
 exact tail_any (typeIs_str s z t) slot_str_getitem.lookup (getItem_str (c:=c) (by
  have O:decide (i < -(2 ^ 63:Int))=aS:=decide_eq_false (by lia);have T:decide (i ≥ 2 ^ 63)=aS:=decide_eq_false (by lia);rw[O,T,Ww]) (by rw[k];simpa using C) ⟨.str ⟨#[c]⟩,H,I.tok _,⟨_,rfl⟩,q⟩) hs
abbrev rIx(K:Vk):R2:=λx y H Q=>Jc K x y H Q\/NR K x y H Q\/NS x y H Q
def z5:IxR X (rIx X.K):=DR.or (z4.or Jd)
def uv(I:List Value)(n j:Nat)(u:Value):Obj.mapSeq (·.setIfInBounds j u) { cls:=.type "list", data:=.seq I.toArray n }={ cls:=.type "list", data:=.seq (I.set j u).toArray n }:=by
 simp[Obj.mapSeq]
def Inv.lst{d:List (Addr × Obj)}{j:St}{H:Hp}{s:Shared}{p:Addr}{f:List V}(I:Inv X d j H s)(h:H p=aw (.lst f)) :
  ∃ (c:List Value) (n:Nat),aO f c/\s.heap.get? p=aw { cls:=.type "list", data:=.seq c.toArray n }/\f.length<=sizeLine:=by
 obtain⟨z,c,n,r,e⟩:=I.hok p _ h;exact⟨c,n,r,e,z⟩
def Inv.lstUpd{d:List (Addr × Obj)}{z:St}{H:Hp}{s:Shared}{p:Addr}{B y:List V}{j c:List Value}{n k:Nat}{f:Obj->Obj}(I:Inv X d z H s)(h:H p=aw (.lst B))
  (ho:s.heap.get? p=aw { cls:=.type "list", data:=.seq j.toArray n }) (v:f { cls:=.type "list", data:=.seq j.toArray n }={ cls:=.type "list", data:=.seq c.toArray k }) (r:aO y c) (C:y.length<=sizeLine) (t:Nat) :
  Inv X d z (upd H p (.lst y)) { s with heap:=s.heap.update p f,toks:=t }:=by
 have e:(s.heap.update p f).get? p=aw { cls:=.type "list", data:=.seq c.toArray k }:=by
  rw[Yi f ho (by rw[v] <;> rfl),v]
 refine I.write (x:=p) (e:=p) (by rw[h];trivial) (.inl rfl) (λb u hb q=>(ZK _ _ (Ne.symm hb)).trans q) ⟨_,e⟩ ?_;exact⟨C,c,k,r,e⟩
abbrev NT:V->V->V->Hp->(Hp->Prop)->Prop:=λo i v H Q=>∃p c k j,o = .ref p/\i = .int k/\H p=aw (.lst c)/\ixN c.length k=aw j/\Q (upd H p (.lst (c.set j v)))
def z6:IK X NT:=by
 intro c s O H o i v ov iv u Q I Z L U h;obtain⟨p,Y,k,j,rfl,rfl,J,hj,q⟩:=h;cases Z;obtain⟨t,rfl⟩:=L;obtain⟨d,n,r,ho,T⟩:=I.lst J;obtain⟨f,h2,C,h4⟩:=p0 hj;have y:=r.length;have hn:=jx
 have B:Inv X c O (upd H p (.lst (Y.set j v))) { s with heap:=s.heap.update p (Obj.mapSeq (·.setIfInBounds j u)) }:=
  I.lstUpd J ho (uv d n j u) (r.set U j) (by rw[ZY];exact T) s.toks
 by_cases E:0<=k
 ·have z:k.toNat=j:=by
   rw[Ue E h4] at f;exact Option.some.inj f
  exact PySem.W.ki_setAt ho E (by lia) (by rw[Zl,<-y];exact h4) (by rw[z];exact⟨_,B,q⟩)
 ·have z:(k+(d.toArray.size:Int)).toNat=j:=by
   rw[Ud (by lia) C] at f;rw[Zl,<-y];exact Option.some.inj f
  exact PySem.W.ki_setBack ho (by lia) (by rw[Zl,<-y];exact C) (by lia) (by rw[z];exact⟨_,B,q⟩)
def qc(lo hi:Option Int)(n:Nat):(Ui lo hi aD n).1=((HT.sIx n 0 lo:Nat):Int)/\(Ui lo hi aD n).2.1=((HT.sIx n n hi:Nat):Int)/\(Ui lo hi aD n).2.2=1:=by
 refine⟨?_,?_,rfl⟩
 ·cases lo with
  |none=>simp[Ui,HT.sIx]
  |some i=>
   simp only[Ui,HT.sIx,Wd,show(1:Int) > 0 by decide,if_true];by_cases h:i < 0
   ·simp only[h,if_true] <;> lia
   ·simp only[h,if_false] <;> lia
 ·cases hi with
  |none=>simp[Ui,HT.sIx]
  |some i=>
   simp only[Ui,HT.sIx,Wd,show(1:Int) > 0 by decide,if_true];by_cases h:i < 0
   ·simp only[h,if_true] <;> lia
   ·simp only[h,if_false] <;> lia
def nW(I:List Value)(lo hi:Option Int):slicePick I.toArray lo hi aD=((I.drop (HT.sIx I.length 0 lo)).take (HT.sIx I.length I.length hi - HT.sIx I.length 0 lo)).toArray:=by
 obtain⟨c,d,h⟩:=qc lo hi I.toArray.size;unfold slicePick;rw[c,d,h];simp only[sliceRange_one,pick_run,Zl] <;> rfl
abbrev QE(K:Vk):V->Option Int->Option Int->Hp->VK->Prop:=λx lo hi H Q=>∃a c,x = .ref a/\SqL K H a c/\∀p,H p=aD->Q (.ref p) (upd H p (.lst (lW c lo hi)))
def DS:SlR X (QE X.K):=by
 intro p s E H x v B C lo hi sl Q I z hs y u h;obtain⟨a,c,rfl,j,q⟩:=h;cases z;obtain⟨k,r,f,n⟩:=I.list j;have d:=r.length;refine⟨"list", _,slot_list_getitem.lookup,f.isList.typeIs,?_⟩;refine Uz f.isList hs y u .none (by simp) ?_ (by rw[Zl] <;> lia);rw[nW,<-d];refine⟨.ref s.heap.objs.size,_,I.laid (t':=s.toks) (o:=.lst (lW c lo hi)) (λb ob q=>Zf _ q) (Ze _) ?_,rfl,q _ (I.hok.fresh (Ze _))⟩;exact⟨Z0 (j8 c lo hi) n,_,0,(r.drop (HT.sIx c.length 0 lo)).take (HT.sIx c.length c.length hi - HT.sIx c.length 0 lo),ZA _ rfl⟩
abbrev dU:V->Bool
 |.non=>aN
 |.bl _=>aN
 |.int _=>aN
 |.str _=>aN
 |_=>aS
abbrev eqV:V->V->Bool
 |.non,.non=>aN
 |.bl a,.bl b=>a == b
 |.bl a,.int b=>(if a then 1 else 0) == b
 |.int a,.bl b=>a == (if b then 1 else 0)
 |.int a,.int b=>a == b
 |.str a,.str b=>a == b
 |_,_=>aS
def Je(d:aJ y u)(c:aJ x v)(f:dU y=aN)(fx:dU x=aN):Vb A s u v (eqV y x):=by
 cases y with
 |non=>
  cases d;cases x with
  |non=>cases c;exact SeqAt.EqAt.same _
  |bl b=>cases c;exact SeqAt.EqAt.none_bool b
  |int b=>obtain⟨t,rfl⟩:=c;exact SeqAt.EqAt.none_int b t
  |str b=>obtain⟨t,rfl⟩:=c;exact SeqAt.EqAt.none_str b t
  |_=>exact absurd (show aS=aN from fx) Zg
 |bl a=>
  cases d;cases x with
  |non=>cases c;exact SeqAt.EqAt.bool_none a
  |bl b=>cases c;exact SeqAt.EqAt.bool_bool a b
  |int b=>obtain⟨t,rfl⟩:=c;exact SeqAt.EqAt.bool_int a b t
  |str b=>obtain⟨t,rfl⟩:=c;exact SeqAt.EqAt.bool_str a b t
  |_=>exact absurd (show aS=aN from fx) Zg
 |int a=>
  obtain⟨T,rfl⟩:=d;cases x with
  |non=>cases c;exact SeqAt.EqAt.int_none a T
  |bl b=>cases c;exact SeqAt.EqAt.int_bool a T b
  |int b=>obtain⟨t,rfl⟩:=c;exact SeqAt.EqAt.int_int a T b t
  |str b=>obtain⟨t,rfl⟩:=c;exact SeqAt.EqAt.int_str a T b t
  |_=>exact absurd (show aS=aN from fx) Zg
 |str a=>
  obtain⟨T,rfl⟩:=d;cases x with
  |non=>cases c;exact SeqAt.EqAt.str_none a T
  |bl b=>cases c;exact SeqAt.EqAt.str_bool a T b
  |int b=>obtain⟨t,rfl⟩:=c;exact SeqAt.EqAt.str_int a T b t
  |str b=>obtain⟨t,rfl⟩:=c;exact SeqAt.EqAt.str_str a T b t
  |_=>exact absurd (show aS=aN from fx) Zg
 |_=>exact absurd (show aS=aN from f) Zg
abbrev eqU(x:V)(u:Value):Bool:=match u with
 |.none=>eqV .non x
 |.bool b=>eqV (.bl b) x
 |.int i _=>eqV (.int i) x
 |.str z _=>eqV (.str z) x
 |_=>aS
def uw(r:aJ y u)(f:dU y=aN):eqU x u=eqV y x:=by
 cases y with
 |non=>cases r;rfl
 |bl b=>cases r;rfl
 |int i=>obtain⟨t,rfl⟩:=r;rfl
 |str z=>obtain⟨t,rfl⟩:=r;rfl
 |_=>exact absurd (show aS=aN from f) Zg
def iU:∀ {c:List V} {U:List Value},aO c U->c.all dU=aN->U.any (eqU x)=c.any λy=>eqV y x
 |_,_,.nil,_=>rfl
 |y::c,u::U,.cons r t,f=>by
  rw[Yr,bAE] at f;rw[YI,YI,uw r f.1,iU t f.2]
def dW(d:aJ x v)(fx:dU x=aN):∀ {c:List V} {U:List Value},aO c U->c.all dU=aN->∀u ∈ U,Vb A s u v (eqU x u)
 |_,_,.nil,_=>λu hu=>by cases hu
 |y::c,u::U,.cons r t,f=>λh hu=>by
  rw[Yr,bAE] at f;rcases Zn.mp hu with rfl |hu
  ·rw[uw r f.1];exact Je r d f.1 fx
  ·exact dW d fx t f.2 h hu
abbrev inV(x:V)(c:List V):Bool:=c.any λy=>eqV y x
abbrev rIn(K:Vk)(neg:Bool):R2:=λx y H Q=>∃p c,y = .ref p/\(SqL K H p c\/SqT K H p c)/\dU x=aN/\c.all dU=aN/\Q (.bl (if neg then !inV x c else inV x c)) H
def yg:OpR X (VQ .In) (rIn X.K aS):=by
 intro j s C H x y v u Q I k z h;obtain⟨p,B,rfl,hq,fx,fs,q⟩:=h;cases z;rcases hq with hq |hq
 ·obtain⟨c,r,f,n⟩:=I.list hq;refine Vf (eqU x) f.isList (λw d=>dW k fx r fs w (by simpa using d)) ⟨.bl _,H,I,rfl,?_⟩;rw[show c.toArray.any (eqU x)=c.any (eqU x) by simp,iU r fs];exact q
 ·obtain⟨c,r,f,n⟩:=I.tuple hq;refine Vg (eqU x) f (λw d=>dW k fx r fs w (by simpa using d)) ⟨.bl _,H,I,rfl,?_⟩;rw[show c.toArray.any (eqU x)=c.any (eqU x) by simp,iU r fs];exact q
def qd:OpR X (VQ .NotIn) (rIn X.K aN):=by
 intro j s C H x y v u Q I k z h;obtain⟨p,B,rfl,hq,fx,fs,q⟩:=h;cases z;rcases hq with hq |hq
 ·obtain⟨c,r,f,n⟩:=I.list hq;refine Vh (eqU x) f.isList (λw d=>dW k fx r fs w (by simpa using d)) ⟨.bl _,H,I,rfl,?_⟩;rw[show c.toArray.any (eqU x)=c.any (eqU x) by simp,iU r fs];exact q
 ·obtain⟨c,r,f,n⟩:=I.tuple hq;refine Vi (eqU x) f (λw d=>dW k fx r fs w (by simpa using d)) ⟨.bl _,H,I,rfl,?_⟩;rw[show c.toArray.any (eqU x)=c.any (eqU x) by simp,iU r fs];exact q
def qe:aR X (.builtin "len") (λk H Q=>∃p y,k=[.ref p]/\(SqL X.K H p y\/SqT X.K H p y)/\Q (.int y.length) H):=by
 intro n s C H k U Q I r h;obtain⟨p,y,rfl,hq,q⟩:=h;obtain⟨u,rfl,z⟩:=bR r;cases z;have B:=jx;rcases hq with hq |hq
 ·obtain⟨f,d,j,v⟩:=I.list hq;have c:=d.length;exact Calls.call_len_list j.isList (by simp only[Zl] <;> lia) ⟨.int y.length,H,I.tok _,⟨s.toks+1,by rw[Zl,c]⟩,q⟩
 ·obtain⟨f,d,j,v⟩:=I.tuple hq;have c:=d.length;exact len_tuple j (by simp only[Zl] <;> lia) ⟨.int y.length,H,I.tok _,⟨s.toks+1,by rw[Zl,c]⟩,q⟩
def qf:aR X (.type "list") (λJ H Q=>∃p y,J=[.ref p]/\(SqL X.K H p y\/SqT X.K H p y)/\∀l,H l=aD->Q (.ref l) (upd H l (.lst y))):=by
 intro j s L H J U Q I r h;obtain⟨p,y,rfl,hq,q⟩:=h;obtain⟨u,rfl,T⟩:=bR r;cases T
 have z:∀ (c:List Value),aO y c->y.length<=sizeLine->∀ (d:Heap) (C:Nat),(∀b O,s.heap.get? b=aw O->d.get? b=aw O) ->
   d.get? s.heap.objs.size=aw { cls:=.type "list", dict:=aD,data:=.seq c.toArray C,slots:=#[] }->EP X j L Q (.ref s.heap.objs.size) { s with heap:=d }:=λc f k d C kp e=>
  ⟨.ref s.heap.objs.size,_,I.laid (t':=s.toks) kp (Ze _) (show bp X.prog X.w _ d _ (.lst y) from ⟨k,c,C,f,e⟩),rfl,q _ (I.hok.fresh (Ze _))⟩
 rcases hq with hq |hq
 ·obtain⟨c,f,E,k⟩:=I.list hq;have v:=f.length;obtain⟨o,ho,B,n,hd⟩:=E.isList;exact call_list_seq p (.inl rfl) ho B hd (λd C kp e=>z c f k d C kp e) (by simp only[Zl] <;> lia)
 ·obtain⟨c,f,E,k⟩:=I.tuple hq;have v:=f.length;obtain⟨o,ho,B,n,hd⟩:=E;exact call_list_seq p (.inr rfl) ho B hd (λd C kp e=>z c f k d C kp e) (by simp only[Zl] <;> lia)
def nX:aR X (.type "tuple") (λC H Q=>∃p y,C=[.ref p]/\((SqL X.K H p y/\∀l,H l=aD->Q (.ref l) (upd H l (.tup y)))\/(SqT X.K H p y/\Q (.ref p) H))):=by
 intro c s v H C U Q I r h;obtain⟨p,y,rfl,h⟩:=h;obtain⟨u,rfl,J⟩:=bR r;cases J;rcases h with ⟨n,q⟩ |⟨n,q⟩
 ·obtain⟨d,j,k,z⟩:=I.list n;have B:=j.length;refine call_tuple_list k.isList (λf kp=>?_) (by simp only[Zl] <;> lia);have E:Inv X c v H { s with heap:=f }:=I.kept (t':=s.toks) kp
  have L:Inv X c v (upd H f.objs.size (.tup y)) { s with heap:=f.push { cls:=.type "tuple", data:=.seq d.toArray } }:=
   E.laid (t':=s.toks) (λb o e=>Zf _ e) (Ze _) (show bp X.prog X.w _ _ _ (.tup y) from ⟨z,d,j,pU.new _ _⟩)
  exact⟨.ref f.objs.size,_,L,rfl,q _ (E.hok.fresh (Ze _))⟩
 ·obtain⟨d,j,k,z⟩:=I.tuple n;exact call_tuple_same k ⟨.ref p,H,I,rfl,q⟩
abbrev tyV(K:Vk)(T:String)(x:V)(H:Hp):Prop:=match x with
 |.str _=>T = "str"
 |.int _=>T = "int"
 |.ref p=>(T = "list"/\∃c,SqL K H p c)\/(T = "tuple"/\((∃o,K.lookup p=aw o/\o.cls = .type "tuple"/\o.dict=aD)\/∃c,H p=aw (.tup c))) ∨
   (T = "dict"/\((∃k,H p=aw (.dK k))\/∃k,H p=aw (.dT k)))\/(T = "set"/\∃S n,H p=aw (.set S n))
 |_=>False
def Jf(I:Inv X j B H s)(r:aJ x v)(ty:tyV X.K T x H) :
  s.TypeIs v T/\∀a,v = .ref a->∃ob,s.heap.get? a=aw ob/\ob.dict=aD:=by
 cases x with
 |str z=>
  obtain⟨t,rfl⟩:=r;cases (show T = "str" from ty);exact⟨typeIs_str s z t,λ_ e=>nomatch e⟩
 |int i=>
  obtain⟨t,rfl⟩:=r;cases (show T = "int" from ty);exact⟨typeIs_int s i t,λ_ e=>nomatch e⟩
 |ref p=>
  cases r;rcases ty with ⟨rfl,u,y⟩ |⟨rfl,⟨o,h,d,hd⟩ |⟨u,h⟩⟩ |⟨rfl,h⟩ |⟨rfl,S,n,h⟩
  ·obtain⟨f,_,q,_⟩:=I.list y;refine⟨q.isList.typeIs,λa e=>?_⟩;cases e;obtain⟨o,n,e,c,hd,_⟩:=q;exact⟨o,e,hd⟩
  ·refine⟨⟨o,I.kIn p o h,d⟩,λa e=>?_⟩;cases e;exact⟨o,I.kIn _ o h,hd⟩
  ·obtain⟨_,f,_,o,e,d,_,_,hd⟩:=I.hok p _ h;refine⟨⟨o,e,d⟩,λa E=>?_⟩;cases E;exact⟨o,e,hd⟩
  ·have z:∃o,s.heap.get? p=aw o/\o.ExactDict:=by
    rcases h with ⟨k,h⟩ |⟨k,h⟩
    ·obtain⟨_,_,_,_,o,_,_,e,ex,_⟩:=I.hok p _ h;exact⟨o,e,ex⟩
    ·obtain⟨_,_,_,_,o,_,_,e,ex,_⟩:=I.hok p _ h;exact⟨o,e,ex⟩
   obtain⟨o,e,ex⟩:=z;refine⟨⟨o,e,ex.1⟩,λa E=>?_⟩;cases E;exact⟨o,e,ex.2.1⟩
  ·obtain⟨o,_,_,_,e,ex,_⟩:=I.hok p _ h;refine⟨⟨o,e,ex.1⟩,λa E=>?_⟩;cases E;exact⟨o,e,ex.2.1⟩
 |_=>exact False.elim ty
abbrev tBM(K:Vk)(T:String)(r:V->List V->Hp->VK->Prop)(j:TE)(t:TA):TE:=λc H Q=>j c H λx h=>tyV K T x h/\t c h λd f=>r x d f Q
variable {o e:Expr} {es:List Expr} {to:TE} {t:TA} {name:Str} {apos cpos:Pos} {T id:String} {r:V->List V->Hp->VK->Prop}
def z7(B:PlainAttrs T)(slot:Slot T name id)(n:typeOf (.builtin id)=pure (.type "method_descriptor"))(Y:MtR X id r)(ho:PE X o to)(O:PA X (e::es) t)
  (d:attributeBase o name X.env (eval o X.env)=eval o X.env:=by rfl)
  (j:((backTo cpos (Uj (e::es) X.env)).all (λx=>!x.1) && (VE cpos (VZ [] X.env)).all (λx=>x.1.isSome)
   && decide ((e::es).length+([]:List Keyword).length+(if ([]:List Keyword).isEmpty then 0 else 1) < 30))=aN:=by rfl)
  (f:(apos.endLine == cpos.line)=aN:=by rfl) (hs:Uj (e::es) X.env=(aS,eval e X.env)::Uj es X.env:=by rfl) (c:(backTo cpos (Uj es X.env)).any (·.1)=aS:=by rfl) :
  PE X (.Call (.Attribute o name apos) (e::es) [] cpos) (tBM X.K T r to t):=by
 intro p s k H Q I h;refine wpAny_Call_method_late d j f rfl (thn (ho p s k H _ I h) λv Z ⟨x,z,u,r1,ty,C⟩=>?_);obtain⟨h1,J⟩:=Jf u r1 ty;refine⟨T,id,B,slot,n,h1,J,?_⟩;have q:=O cpos p Z k z _ u C;rw[hs] at q ⊢;refine Calls.callWith_builtin (by show(aS || (backTo cpos (Uj es X.env)).any (·.1))=aS;rw[c] <;> rfl) (Calls.evalArgs_plain ?_);exact thn q λus L ⟨U,y,I2,r2,E⟩=>Y p L k y x U v us Q I2 r1 r2 E
end
abbrev MtM(X:Cx)(id:String)(r:V->List V->Hp->VK->Prop):Prop:=
 ∀ (p:List (Addr × Obj)) (s:Shared) (c:St) (H:Hp) (x:V) (b:List V) (v:Value) (u:List Value) (Q:VK),Inv X p c H s->aJ x v->aO b u->r x b H Q ->
  wpAny (model X.prog X.w) X.A (call (.builtin id) (v::u)) (EP X p c Q) X.xe s
def aO.one:∀ {x:V} {U:List Value},aO [x] U->∃u,U=[u]/\aJ x u
 |_,_,.cons r .nil=>⟨_,rfl,r⟩
def aO.eraseIdx:∀ {X:List V} {u:List Value} (i:Nat),aO X u->aO (X.eraseIdx i) (u.eraseIdx i)
 |_,_,_,.nil=>.nil
 |_,_,0,.cons _ t=>t
 |_,_,i+1,.cons r t=>.cons r (aO.eraseIdx i t)
def aO.rep(h:aO X u):∀k:Nat,aO (Zx k X).flatten (Zx k u).flatten
 |0=>.nil
 |k+1=>by
  rw[Yg,Yg,Yv,Yv];exact aO.append h (aO.rep h k)
def oz{b:Type}:∀ (l:List b) (i:Nat),(l.eraseIdx i).length<=l.length
 |[],_=>Ze _
 |_::_,0=>YD _
 |_::r,i+1=>We (oz r i)
def oB(I:List Value):∀ (k:Nat) (b:List Value),
  Ws (λc X=>c++X) b.toArray (Zx k I.toArray)=(b++(Zx k I).flatten).toArray
 |0,b=>by simp
 |k+1,b=>by
  have e:b.toArray++I.toArray=(b++I).toArray:=by simp
  have E:(b++I)++(Zx k I).flatten=b++(Zx (k+1) I).flatten:=by
   rw[Yg,Yv,Z2]
  rw[<-E,<-oB I k (b++I),<-e,Yg,Wn]
section
variable {X:Cx} {pins:List (Addr × Obj)} {σ:St} {H:Hp} {s:Shared} {l b:Addr} {xs ys zs:List V}
def Inv.lset{c its':List Value}{n:Nat}{f:Array Value->Array Value}{T:Nat}(I:Inv X pins σ H s)(j:H l=aw (.lst xs))
  (e:s.heap.get? l=aw { cls:=.type "list", data:=.seq c.toArray n }) (p:f c.toArray=its'.toArray) (k:aO ys its') (d:ys.length<=sizeLine) :
  Inv X pins σ (upd H l (.lst ys)) { s with heap:=s.heap.update l (Obj.mapSeq f),toks:=T }:=by
 have q:=PySem.IsL.update e f;rw[p] at q;refine I.write (x:=l) (e:=l) (by rw[j];exact trivial) (.inl rfl) (λB u hb h=>(ZK s.heap (Obj.mapSeq f) (Ne.symm hb)).trans h) ⟨_,q⟩ ?_;exact⟨d,its',_,k,q⟩
def Inv.lnew{t':Nat}(I:Inv X pins σ H s)(c:aO ys its)(h:ys.length<=sizeLine) :
  Inv X pins σ (upd H s.heap.objs.size (.lst ys)) { s with heap:=s.heap.push { cls:=.type "list", data:=.seq its.toArray },toks:=t' }:=
 I.laid (λ_ _ q=>Zf _ q) (Ze _) ⟨h,its,0,c,ZA _ rfl⟩
def Inv.fresh(I:Inv X pins σ H s):H s.heap.objs.size=aD:=I.hok.fresh (Ze _)
def Inv.lstM(I:Inv X pins σ H s)(h:H l=aw (.lst xs)):xs.length<=sizeLine/\∃ (c:List Value) (n:Nat),aO xs c/\xs.length=c.length/\s.heap.get? l=aw { cls:=.type "list", data:=.seq c.toArray n }:=by
 obtain⟨z,c,n,r,e⟩:=I.hok l _ h;exact⟨z,c,n,r,r.length,e⟩
def z8{n:Nat}(h:n<=sizeLine):Builtin.List.listTooLong n=aS:=by
 unfold Builtin.List.listTooLong;exact decide_eq_false (by lia)
end
section
variable {X:Cx}
abbrev DT:V->List V->Hp->VK->Prop:=λx v H Q=>∃l b y,x = .ref l/\v=[y]/\H l=aw (.lst b)/\b.length < sizeLine/\Q .non (upd H l (.lst (b++[y])))
def oC:MtM X "list.append" DT:=by
 intro p s k H x C v U Q I d f h;obtain⟨l,J,y,rfl,rfl,c,B,q⟩:=h;cases d;obtain⟨u,rfl,j⟩:=f.one;obtain⟨z,b,n,r,E,e⟩:=I.lstM c;refine VM W1 ⟨_,e,rfl⟩ F.entry_list_append (F.args_list_append_2 _ _) (PySem.list_append l b.toArray n u (by rw[Zl];lia)) ⟨e,?_⟩;refine⟨.non,_,I.lset (its':=b++[u]) c e (by simp) (r.append (.cons j .nil)) ?_,rfl,q⟩;rw[Zh,Zr]
 lia
abbrev Jg:V->List V->Hp->VK->Prop:=λx v H Q=>∃l b i k y,x = .ref l/\v=[.int i]/\H l=aw (.lst b)/\-(2 ^ 63)<=i/\i < 2 ^ 63/\seqIndex? i b.length=aw k/\b[k]?=aw y/\Q y (upd H l (.lst (b.eraseIdx k)))
def z9:MtM X "list.pop" Jg:=by
 intro p s Y H x Z v us Q I B E h;obtain⟨l,T,i,k,y,rfl,rfl,d,O,C,U,f,q⟩:=h;cases B;obtain⟨u,rfl,J⟩:=E.one;obtain⟨t,rfl⟩:=J;obtain⟨z,b,n,r,L,e⟩:=I.lstM d;obtain⟨w,j,c⟩:=r.get f
 refine VM W2 ⟨_,e,rfl⟩ F.entry_list_pop (F.args_list_pop_2 _ _)
  (MeetsSeq.list_pop_at l b.toArray n i t k w (fitsIndex_both O C) (by rw[Zl,<-L];exact U) (by rw[<-Array.getElem?_toList];exact j) (by rw[Zl];lia)) ⟨e,?_⟩
 refine⟨y,_,I.lset (its':=b.eraseIdx k) d e ?_ (r.eraseIdx k) ?_,c,q⟩
 ·show b.toArray.eraseIdxIfInBounds k=(b.eraseIdx k).toArray;rw[List.eraseIdxIfInBounds_toArray]
 ·have:=oz T k
  lia
abbrev QF:R2:=λx y H Q=>∃l b c z,x = .ref l/\y = .ref b/\H l=aw (.lst c)/\H b=aw (.lst z)/\c.length+z.length<=sizeLine/\∀p,H p=aD->Q (.ref p) (upd H p (.lst (c++z)))
def Jh:OpR X (VG .Add) QF:=by
 intro p s L H x y v u Q I k j h;obtain⟨l,b,xs,Z,rfl,rfl,B,C,O,q⟩:=h;cases k;cases j;obtain⟨z,d,n,r,Y,e⟩:=I.lstM B;obtain⟨U,c,T,r2,f,J⟩:=I.lstM C;refine PySem.P.add_list e J ?_ (by rw[Zl,Zl];lia);have E:d.toArray++c.toArray=(d++c).toArray:=by simp
 rw[E];exact⟨.ref _,_,I.lnew (t':=s.toks) (r.append r2) (by rw[Zh];lia),rfl,q _ I.fresh⟩
abbrev QG:R2:=λx y H Q=>∃l k b,x = .ref l/\y = .int k/\H l=aw (.lst b)/\-(2 ^ 63)<=k/\k < 2 ^ 63/\b.length * k.toNat<=sizeLine ∧
 ∀p,H p=aD->Q (.ref p) (upd H p (.lst (Zx k.toNat b).flatten))
def DU{c:Type}(b:List c)(k:Nat):(Zx k b).flatten.length=k * b.length:=by
 induction k with
 |zero=>simp
 |succ k I=>rw[Yg,Yv,Zh,I,X9,Nat.add_comm]
def Ji:OpR X (VG .Mult) QG:=by
 intro E s σ H x y v u Q I O L h;obtain⟨l,k,xs,rfl,rfl,hH,h1,Z,J,q⟩:=h;cases O;obtain⟨t,rfl⟩:=L;obtain⟨z,b,n,r,hl,e⟩:=I.lstM hH;have d:b.toArray.size * k.toNat<=sizeLine:=by rw[Zl,<-hl];exact J
 have p:¬ b.toArray.size * k.toNat > (2 ^ 63 - 1) / 8:=by
  have:(sizeLine:Nat)<=(2 ^ 63 - 1) / 8:=by decide
  lia
 have j:¬ (!Builtin.List.listFitsIndex k)=aN:=by
  rw[fitsIndex_both h1 Z];exact Zg
 have c:¬ Builtin.List.listTooLong (b.toArray.size * k.toNat)=aN:=by
  rw[z8 d];exact Zg
 have f:Ws (λB C=>B++C) #[] (Zx (if b.toArray.isEmpty=aN then 0 else k.toNat) b.toArray)=(Zx k.toNat b).flatten.toArray:=by
  have Y:∀m:Nat,Ws (λB C=>B++C) #[] (Zx m b.toArray)=(Zx m b).flatten.toArray:=λm=>by
   have:=oB b m [];rw[XC] at this;exact this
  rw[Y];cases b with
  |nil=>simp
  |cons a r'=>rw[if_neg (by simp)]
 refine wpAny_binaryOp_repeat_ref (T := "list") (U := "int") (by decide) ⟨_,e,rfl⟩ (λs'=>typeIs_int s' k t) noFill_list_mul F.fills_int_mul F.slot_int_rmul repeat_list F.slot_int_index.lookup
  (VM F.slot_int_rmul (typeIs_int s k t) F.entry_int_rmul (F.args_int_rmul_2 _ _) (int___rmul___int_list k t l b.toArray n)
   ⟨e,rfl,⟨_,e,rfl⟩,VM F.slot_list_mul ⟨_,e,rfl⟩ F.entry_list_mul (F.args_list_mul_2 _ _) (AutoListH.list___mul___list_int_3 l b.toArray n k t j p c) ⟨e,?_⟩⟩)
 rw[f];exact⟨.ref _,_,I.lnew (t':=s.toks) (r.rep k.toNat) (by rw[DU,Nat.mul_comm];exact J),rfl,q _ I.fresh⟩
end
end L2
namespace Att
open PySem PySem.W PySem.Calls PyProof.Rows
def kI:∀ (ns:List Int) (v:List Value),WellAll P h v (ns.map WData.int)->IntsAre v ns:=by
 intro ns
 induction ns with
 |nil=>
  intro v w;rw[Yn] at w;cases w;exact .nil
 |cons n ns I=>
  intro v w;rw[Zw] at w;cases w with
  |cons a b=>
   cases a;exact .cons _ _ (I _ b)
def yh{l:OpenLaw}{n:Nat}(z:l.most=aw n){P:Params}{h:Heap}{args:List WData}{v:List Value}
  (b:l.row.toRowW.claim.pre args=aN) (k:WellAll P h v args) :
  ∃a y ns,v=[Value.ref a]/\args=[WData.list (ns.map WData.int)]/\h.get? a=aw { cls:=.type "list", data:=.seq y.toArray }/\IntsAre y ns/\ns.length<=n:=by
 have p:WShape.hasAll [] args [.list .int]=aN:=(pre_splitW b).1;have u:l.pre.holds [] { args:=args }=aN:=(pre_splitW b).2;obtain⟨d,r,rfl,E,B⟩:=hasAllW_cons p;obtain rfl:=hasAllW_nil B;obtain⟨X,rfl,I⟩:=hasW_list E;obtain⟨ns,rfl⟩:=items_int I
 have f:ns.length<=n:=by
  unfold OpenLaw.pre at u
  have h4:(WTm.not (.lt (.lit (.int (n:Int))) (.len (.arg 0)))).holds [] { args:=[.list (ns.map .int)] }=aN:=by
   have h4:=(holds_andW u).1;rw[z] at h4;exact h4
  have j:=condW_of h4 (w_not (w_lt w_lit (w_len_list (w_arg rfl))));rw[Za] at j;refine Nat.le_of_not_lt λq=>?_;have Q:(n:Int) < ((ns.length:Nat):Int):=by lia
  first
   |(rw[decide_eq_true Q] at j;exact absurd j (by decide))
   |(simp at j;lia)
 cases k with
 |cons C w2=>
  cases w2;cases C with
  |list ho c=>exact⟨_,_,ns,rfl,rfl,ho,kI ns _ c,f⟩
def yi(l:OpenLaw)(args:List WData):l.row.toRowW.claim.post args (.bool aN) args=aN:=
 postW_of (r:=l.row.toRowW) (X:=(aN == aN))
  (show WShape.has [] (.bool aN) .bool=aN by first |rfl |decide |simp[WShape.has,WShape.arms,WShape.armsAll])
  (show(WTm.eq .res (.lit (.bool aN))).value [] { args:=args,res:=aw (.bool aN),after:=args }=aw (.bool (aN == aN)) from w_eq_bool (w_res rfl) w_lit) rfl
def attach_call{l:OpenLaw}{n:Nat}{q:Program}{loose:List Str}{X:(Str->Option Value)->Heap->Prop}{Q:World->Heap->Prop}{d:DefRec}
  (Z:l.most=aw n) (B:d.params.defaults=[])
  (call:∀ (w:World) (s₀ b:Shared) (mg J:Str->Option Value) (j:Addr) (o:Obj) (pm C c:Value) (a:Addr) (v:List Value) (ns:List Int),
   Ground q loose [] X w s₀ mg J b.heap->Q w b.heap ->
   b.heap.get? j=aw o->o.data = .func (docDef d.name d.params d.body d.scope pm C c)->b.heap.CodeRec C d.name->mg d.name=aw (.ref j) ->
   b.heap.get? a=aw { cls:=.type "list", data:=.seq v.toArray }->IntsAre v ns->ns.length<=n->b.gens=#[] ->
   codeAny (model l.prog w) callerA (.call (.ref j) ⟨[.ref a],[]⟩) (λr y=>r = .ok (.ret (.bool aN))/\OldK b.heap y.heap/\y.os=b.os/\AllBare y.gens) b) :
  WalkO q loose X Q l.row.toRowW d [] (λf v=>PySem.call f v):=by
 intro w s₀ b mg J G Y j o pm C c dV kV ho hd I T E hg O L as u U hrd z hlo;obtain rfl:dV = .none:=Dflts.none T B;obtain rfl:kV = .none:=Dflts.noKw T;obtain⟨a,v,ns,rfl,rfl,p,h,k⟩:=yh Z u z;refine enter_call (VP (call w s₀ b mg J j o pm C c a v ns G Y ho (fd_plain hd) I E p h k hg) λr y hq=>?_);obtain⟨rfl,h2,h3,h4⟩:=hq;exact⟨.inl ⟨.bool aN,.bool aN,[],rfl,λ_=>rfl,.bool aN,yi l _,λ_=>⟨List.Pairwise.nil,λ_ hm=>(nomatch hm)⟩⟩,h2,h3,h4⟩
end Att
namespace L2
open PySem PySem.Spec PyProof.Rows
def jA:∀ {v:List Value} {ns:List Int},IntsAre v ns->aO (ns.map V.int) v
 |_,_,.nil=>.nil
 |_,_,.cons n t h=>.cons ⟨t,rfl⟩ (jA h)
abbrev NU(H:Hp):Prop:=∀b,H b=aD\/∃o X,H b=aw (.frz o (.lst X))
def Aa{P:Program}{w:World}{K:Vk}{mg mb:Str->Option Value}{CX:CXT}{k:Nat}{T a:Addr}{fd:W7}{x:Str}{sp:Sp}{s₁:Shared}{p:List Value}{ns:List Int}
  (KX:K.In s₁.heap) (J:s₁.heap.Ns V1 mg) (hb:s₁.heap.Ns VJ mb) (U:∀x:Str,x ≠ "__name__"->mb x=VI x) (I:s₁.heap.NoLimit) (hg:s₁.gens=#[])
  (Q:s₁.heap.get? a=aw { cls:=.type "list", data:=.seq p.toArray }) (hi:IntsAre p ns) (hl:ns.length<=sizeLine) (hr:Room k callerA)
  (F:∀base:Heap,K.In base->base.Ns V1 mg->FnOk P w K mg base CX k T fd [x] sp) (j:∀ (s:Shared) (u:Value),BindsTo s fd ⟨[u],[]⟩ [(x,u)])
  (X:∀H:Hp,NU H->SqL K H a (ns.map V.int)->sp [.ref a] H (λv _=>v = .bl aN) λ_ _ _=>False)
  (hCX:∀H e c,CX [] H s₁ (λ_ _ _=>False) e c->False) :
  codeAny (model P w) callerA (.call (.ref T) ⟨[.ref a],[]⟩) (λr c=>r = .ok (.ret (.bool aN))/\OldK s₁.heap c.heap/\c.os=s₁.os/\AllBare c.gens) s₁:=by
 have rv:=jA hi;have L:=hi.length
 have C:∀H:Hp,NU H->SqL K H a (ns.map V.int)->HOk P w H s₁.heap->(∀b,H b ≠ aD->b=a)->(H a ≠ aD->K.lookup a=aD) ->
   codeAny (model P w) callerA (.call (.ref T) ⟨[.ref a],[]⟩) (λr c=>r = .ok (.ret (.bool aN))/\OldK s₁.heap c.heap/\c.os=s₁.os/\AllBare c.gens) s₁:=by
  intro H hO hS hok hA hK;have B:∀ {b:Addr} {o:Obj},s₁.heap.get? b=aw o->H b=aD->(pW s₁.heap H).get? b=aw o:=λe n=>zE e n
  have noA:∀ {b:Addr} {o:Obj} {E:Array DictEntry} {ep:Nat},s₁.heap.get? b=aw o->o.data = .dict E ep->H b=aD:=λ{b o E ep} e d=>by
   cases q:H b with
   |none=>rfl
   |some u=>
    have Y:b=a:=hA b (by rw[q];simp);subst Y;rw[Q] at e;cases e;have d':Data.seq p.toArray _=Data.dict E ep:=d;cases d'
  have f:∀ {b:Addr} {m:Str->Option Value},s₁.heap.Ns b m->(pW s₁.heap H).Ns b m:=λ{b m} ⟨o,E,ep,e,d,r⟩=>⟨o,E,ep,B e (noA e d),d,r⟩
  have y:K.In (pW s₁.heap H):=λb o e=>B (KX b o e) (by
   cases q:H b with
   |none=>rfl
   |some u=>
    have Y:b=a:=hA b (by rw[q];simp);subst Y;rw[hK (by rw[q];simp)] at e;cases e)
  have hM:Mod K mg (pW s₁.heap H):=⟨y,f J,⟨mb,f hb,U⟩,let ⟨mc,h1,h2⟩:=I;⟨mc,f h1,h2⟩⟩;have e0:Env0 P w K mg (pW s₁.heap H) callerA [] s₁ H:=⟨rfl,hM,λb o e=>Dy e,Nat.le_of_eq (xY _ _),trivial,λb hb=>absurd (show b ∈ ([]:List Addr) from hb) (by simp),hok,.of_eq hg⟩;refine VP ((F _ y (f J)).run callerA [] s₁ H ⟨[.ref a],[]⟩ [.ref a] [.ref a] _ _ hr e0 (j s₁ (.ref a)) (.cons rfl .nil) (X H hO hS)) λr c h=>?_;cases r with
  |error e=>exact(hCX H e c h).elim
  |ok fl=>
   cases fl with
   |next=>exact False.elim h
   |brk=>exact False.elim h
   |cont=>exact False.elim h
   |ret u=>
    obtain⟨v,H',os,bare,un,O,r',q⟩:=h;have q':v = .bl aN:=q;subst q';obtain rfl:u=Value.bool aN:=r';refine⟨rfl,OldK.of_keep λb o e=>?_,os,bare⟩;cases q:H b with
    |none=>exact un.keep b o e q (by intro z;exact absurd (show b ∈ ([]:List Addr) from z) (by simp)) (by simp)
    |some u=>
     rcases hO b with z |⟨ob,xs,z⟩
     ·rw[q] at z;cases z
     ·have z2:=un.frzs b ob _ z;obtain⟨e1,_⟩:=hok b _ z;obtain⟨e2,_⟩:=O b _ z2;rw[e] at e1;cases e1;exact e2
 cases hk:K.lookup a with
 |some o=>
  have e:=KX a o hk;rw[Q] at e;cases e;refine C (λ_=>aD) (λ_=>.inl rfl) (.inr ⟨_,p.toArray,_,hk,rfl,rfl,rfl,by rw[Zl,L];exact hl,by simpa using rv⟩) (λb u z=>by have Z:(aD:Option HO)=aw u:=z;cases Z) (λb z=>absurd rfl z) λz=>absurd rfl z
 |none=>
  refine C (λb=>if b=a then aw (.frz { cls:=.type "list", data:=.seq p.toArray } (.lst (ns.map V.int))) else aD) (λb=>?_) (.inl (.inr ⟨{ cls:=.type "list", data:=.seq p.toArray },if_pos rfl⟩)) (λb u z=>?_) (λb z=>?_) λ_=>hk
  ·by_cases hb:b=a
   ·exact .inr ⟨_,_,if_pos hb⟩
   ·exact .inl (if_neg hb)
  ·by_cases hb:b=a
   ·have Z:=(if_pos hb).symm.trans z;cases Z;subst hb;exact⟨Q,by rw[Za];exact hl,p,_,rv,Q⟩
   ·have Z:=(if_neg hb).symm.trans z;cases Z
  ·by_cases hb:b=a
   ·exact hb
   ·exact absurd (if_neg hb) z
abbrev eN(s:Stmt):Arguments:=match s with
 |.FunctionDef _ a _ _ _ _ _ _ _ _=>a
 |_=>{ posonlyargs:=[],args:=[],vararg:=aD,kwonlyargs:=[],kw_defaults:=[],kwarg:=aD,defaults:=[] }
abbrev cx(s:Stmt):List Stmt:=match s with
 |.FunctionDef _ _ b _ _ _ _ _ _ _=>b
 |_=>[]
abbrev bn(s:Stmt):Scope:=match s with
 |.FunctionDef _ _ _ _ _ _ sc _ _ _=>sc
 |_=>{ kind:=.function,names:=[],isGenerator:=false,isCoroutine:=false }
@[inline]abbrev CX0:CXT:=λ_ _ _ _ _ _=>False
@[inline]abbrev E0:XK:=λ_ _ _=>False
def Ht:uo CX0 X E0:=λ_ _ _ _ _ _ _ h=>h.elim
structure Fun(K:Vk)(x qual:Str)(st:Stmt)(f:Addr)(fd:W7):Prop where
 ex:∃ (oc:Value) (od:Option Addr) (kV doc pm:Value) (an:Option Addr) (cdv ct:Value) (osl:Array (Option Value)),
  fd=Vp x qual (eN st) (cx st) (bn st) .none kV doc pm an cdv ct/\K.lookup f=aw ⟨oc,od,.func fd,osl⟩/\Vn K cdv qual=aN
 kp:Vs K (.ref f)=aN
section
variable {P:Program} {w:World} {K:Vk} {mg:Str->Option Value} {base:Heap}
def Fun.ok{x b:Str}{st:Stmt}{f:Addr}{p:W7}{N ps:List Str}{k:Nat}{sp:Sp}(F:Fun K x b st f p)(S:FnScope N ps (bn st))(len:∀v H Q E,sp v H Q E->v.length=ps.length)
  (d:∀ (c:Value) (A:Around) (outer:List Env) (s:Shared) (H:Hp) (v:List V) (Q:VK) (E:XK),Room k (A.deeper (envOfC b (bn st) s.heap.objs.size f c))->sp v H Q E ->
   ∃t,PSs (uq CX0 P w K mg base N b (bn st) f c A outer s H E).nox (cx st) t/\t { nx:=λ_ u=>Q .non u,rt:=Q } (hJ N v) H):FnOk P w K mg base CX0 (k+1) f p ps sp:=by
 obtain⟨C,B,kV,z,pm,I,c,ct,O,rfl,L,n⟩:=F.ex;refine NP L n S len λA outer s H v Q E y j=>?_;obtain⟨t,h,q⟩:=d c A outer s H v Q E y j;exact⟨t,h.nox,q⟩
def Fun.binds{x q:Str}{st:Stmt}{f:Addr}{j:W7}{ps:List Str}(F:Fun K x q st f j)
  (h:∀ (kV d pm:Value) (b:Option Addr) (c ct:Value) (u:List Value),u.length=ps.length->bindArgs (Vp x q (eN st) (cx st) (bn st) .none kV d pm b c ct) ⟨u,[]⟩=pure (ps.zip u)):iR K j ps []:=by
 obtain⟨p,n,kV,d,pm,b,c,ct,O,rfl,L,k⟩:=F.ex;exact .all (h kV d pm b c ct)
def Jj{x qual:Str}{st:Stmt}{f:Addr}{j:Value}{h b:Option Addr}{O:Array (Option Value)}{kV d pm C ct:Value}(l:K.lookup f=aw ⟨j,h,.func (Vp x qual (eN st) (cx st) (bn st) .none kV d pm b C ct),O⟩)
  (c:Vn K C qual=aN) (k:Vs K (.ref f)=aN):Fun K x qual st f (Vp x qual (eN st) (cx st) (bn st) .none kV d pm b C ct):=⟨⟨j,h,kV,d,pm,b,C,ct,O,rfl,l,c⟩,k⟩
end
def yj{n:Nat}(h:n<=1000):n < sizeLine:=Nat.lt_of_le_of_lt h (by decide)
abbrev qg(ifs:List Expr)(env:Env):Sem Bool:=
 forIn ifs aN λc r=>if r=aN then do let ok <-isTrue c env (eval c env);pure (ForInStep.yield ok) else pure (ForInStep.yield r)
def DV{d:Nat}
  (hg:b[d]?=aw ⟨T,U,ifs,0⟩)
  (h:wpAny M A (pyNext I) (λr C=>match r with
   |none=>Q (.done .next) C
   | some v=>wpAny M A (V0 T I v) (λ_ L=>wpAny M A (assign T env v) (λ_ O=>wpAny M A (qg ifs env) (λok y=>if ok=aN then (match b[d+1]? with
     |none=>wpAny M A (eval f env) (λx k=>wpAny M A (call (.builtin "list.append") [j,x]) (λ_ q=>Q (.again (.compLoop (.ListComp f b c p) d I j env)) q) E k) E y
     | some u=>u.is_async=0/\wpAny M A (eval u.iter env) (λx k=>wpAny M A (VV u.iter env x) (λX q=>wpAny M A (pyIter X) (λn s7=>
       wpAny M A (runOwn (.compStart (.ListComp f b c p) (d+1) n j env) env) (λ_ Z=>Q (.again (.compLoop (.ListComp f b c p) d I j env)) Z) E s7) E q) E k) E y)
    else Q (.again (.compLoop (.ListComp f b c p) d I j env)) y) E O) E L) E C) E s) :
  wpAny M A (compTurn (.ListComp f b c p) d I j env) Q E s:=by
 unfold compTurn;simp only[hg];refine Us (UU ?_);show wpAny M A (pyNext I >>= _) Q E s;refine Us (UE h (λr C Y=>?_) λ_ _ x=>x);cases r with
 |none=>exact UI Y
 |some v=>
  refine Us (UE Y (λ_ L h2=>?_) λ_ _ x=>x);refine Us (UE h2 (λ_ O h3=>?_) λ_ _ x=>x);refine Us (UE h3 (λok y h4=>?_) λ_ _ x=>x);cases ok with
  |false=>exact UI h4
  |true=>
   simp only[if_true] at h4 ⊢;cases J:b[d+1]? with
   |none=>
    rw[J] at h4;refine Us (Us (UE h4 (λx k z=>?_) λ_ _ x=>x));exact Us (UE z (λ_ q B=>UI (UI B)) λ_ _ x=>x)
   |some u=>
    rw[J] at h4;obtain⟨ha,h4⟩:=h4;refine Us (UE h4 (λx k z=>Us (UU ?_)) λ_ _ x=>x);rw[ha];show wpAny M A (VV u.iter env x >>= _) Q E k;refine Us (UE z (λX q B=>?_) λ_ _ x=>x);refine Us (UA (UE B (λn s7 h7=>?_) λ_ _ x=>x));exact Us (UE h7 (λ_ Z h8=>UI h8) λ_ _ x=>x)
abbrev bU(c:List (Str × Addr)):List (Str × W9)->List (Str × Addr)->List (Str × Addr)
 |[],acc=>acc
 |(n,k)::r,acc=>if k == .free then bU c r ((n,(c.lookup n).getD 0)::acc) else bU c r acc
def im:∀ (b:List (Str × W9)) (d:List (Str × Addr)),(∀y ∈ b,y.2 = .free->∃c,env.cells.lookup y.1=aw c) ->
  (forIn b d λ(x:Str × W9) (C:List (Str × Addr))=>(match x with |(name,kind)=>if kind == .free then (do let a <-cellOf env name;pure (ForInStep.yield ((name,a)::C))) else pure (ForInStep.yield C):Sem (ForInStep (List (Str × Addr)))))
   = (pure (bU env.cells b d):Sem (List (Str × Addr)))
 |[],d,_=>by rw[Xi];rfl
 |(n,k)::r,d,h=>by
  rw[Wo];have j:∀y ∈ r,y.2 = .free->∃c,env.cells.lookup y.1=aw c:=λy q=>h y (Zi _ q);cases f:(k == NameKind.free) with
  |true=>
   obtain⟨c,p⟩:=h (n,k) Zj (by simpa using f);have e:cellOf env n=pure c:=by unfold cellOf;rw[show env.cells.lookup n=aw c from p]
   simp only[f,if_true,e,pure_bind];rw[im r _ j]
   conv=>rhs;rw[bU]
   simp only[f,if_true];rw[show env.cells.lookup n=aw c from p];rfl
  |false=>
   simp only[f,ZP,if_false,pure_bind];rw[im r _ j]
   conv=>rhs;rw[bU]
   simp only[f,ZP,if_false]
def wx(h:∀y ∈ b.names,y.2 = .free->∃c,env.cells.lookup y.1=aw c):closureFor b env=pure (bU env.cells b.names []):=by
 have e:=im (env:=env) b.names [] h;unfold closureFor;refine Eq.trans ?_ e
 first
  |rfl
  |(rw[bind_pure])
  |(simp only[bind_pure])
def jB:∀ {b:List (Str × W9)} {d:List (Str × Addr)} {x:Str} {c:Addr},(x,c) ∈ bU C b d->(x,c) ∈ d\/((x,NameKind.free) ∈ b/\c=(C.lookup x).getD 0)
 |[],_,_,_,h=>.inl h
 |(n,k)::r,d,x,c,h=>by
  unfold bU at h;split at h
  ·rename_i j;have f:k = .free:=by simpa using j
   rcases jB h with e |⟨e,q⟩
   ·rcases Zn.mp e with e |e
    ·cases e;exact .inr ⟨by rw[f];exact Zj,rfl⟩
    ·exact .inl e
   ·exact .inr ⟨Zi _ e,q⟩
  ·rcases jB h with e |⟨e,q⟩
   ·exact .inl e
   ·exact .inr ⟨Zi _ e,q⟩
def fN:∀ {l:List (Str × Addr)},(∃c,(x,c) ∈ l)->∃c,l.lookup x=aw c
 |[],⟨_,h⟩=>nomatch h
 |(n,c)::r,⟨c',h⟩=>by
  rw[YB];cases hb:x == n with
  |true=>exact⟨c,rfl⟩
  |false=>
   rcases Zn.mp h with e |e
   ·cases e;simp at hb
   ·exact fN ⟨c',e⟩
def gK:∀ {b:List (Str × W9)} {acc:List (Str × Addr)},(x,NameKind.free) ∈ b\/(∃c,(x,c) ∈ acc)->∃c,(x,c) ∈ bU cells b acc
 |[],_,h=>h.elim (λe=>nomatch e) id
 |(n,k)::r,acc,h=>by
  unfold bU;split
  ·rename_i d;refine gK ?_;rcases h with h |⟨c,h⟩
   ·rcases Zn.mp h with e |e
    ·cases e;exact .inr ⟨_,Zj⟩
    ·exact .inl e
   ·exact .inr ⟨c,Zi _ h⟩
  ·rename_i d;refine gK ?_;rcases h with h |⟨c,h⟩
   ·rcases Zn.mp h with e |e
    ·cases e;exact absurd rfl d
    ·exact .inl e
   ·exact .inr ⟨c,h⟩
def cy:∀ (b:List (Str × W9)) (n:Nat) (c:List (Str × Addr)),VN n b c=VN n b []++c
 |[],_,_=>rfl
 |(y,k)::r,n,c=>by
  unfold VN;split
  ·rw[cy r (n+1) ((y,n)::c),cy r (n+1) [(y,n)],Z2];rfl
  ·exact cy r n c
def dA:∀ (b:List (Str × W9)) (n:Nat) (d:List (Str × Addr)) (x:Str) (c:Addr),(x,c) ∈ VN n b d->(x,c) ∈ d\/(x,NameKind.cell) ∈ b
 |[],_,_,_,_,h=>.inl h
 |(y,k)::r,n,d,x,c,h=>by
  unfold VN at h;split at h
  ·rename_i j;have f:k = .cell:=by simpa using j
   rcases dA r _ _ x c h with e |e
   ·rcases Zn.mp e with e |e
    ·cases e;exact .inr (by rw[f];exact Zj)
    ·exact .inl e
   ·exact .inr (Zi _ e)
  ·rcases dA r _ _ x c h with e |e
   ·exact .inl e
   ·exact .inr (Zi _ e)
abbrev nY(sc:Scope)(n:Str)(k:W9):W9:=if (k == .free && sc.kind == .function && sc.names.lookup n == aw .cell) then .cell else k
abbrev fO(b sc:Scope):Scope:={ b with names:=b.names.map λy=>(y.1,nY sc y.1 y.2) }
def DW(b:Scope)(env:Env):relabel b env=fO b env.scope:=by
 unfold relabel fO
 congr 1
 refine Yh λy _=>?_;obtain⟨n,k⟩:=y;unfold nY;dsimp only;show(if (k == NameKind.free && env.scope.kind == ScopeKind.function && List.lookup n env.scope.names == aw NameKind.cell)=aN then (n,NameKind.cell) else (n,k))=_;split <;> rfl
def fP(sc:Scope)(x:Str):∀b:List (Str × W9),(b.map λy=>(y.1,nY sc y.1 y.2)).lookup x=(b.lookup x).map (nY sc x)
 |[]=>rfl
 |(n,k)::r=>by
  rw[Zw,YB,YB];dsimp only;cases hb:x == n with
  |true=>
   have q:x=n:=by simpa using hb
   subst q;rfl
  |false=>exact fP sc x r
abbrev ux(scope:Scope)(C:Addr)(env:Env):Env:=
 { scope:=fO scope env.scope,locals:=C,globals:=env.globals,cells:=VN (C+1) scope.names (bU env.cells scope.names []),qual:=env.qual,func:=aD,code:=env.code,frame:=env.frame,builtins:=env.builtins }
def yk
  (h:Q { scope:=scope,locals:=s.heap.objs.size,globals:=env.globals,cells:=VN (s.heap.objs.size+1) scope.names cl,qual:=env.qual,func:=aD,code:=env.code,frame:=env.frame,builtins:=env.builtins }
   { s with heap:=V9 (s.heap.push { cls:=.type "dict", data:=.dict #[] }) scope.names }) :
  wpAny M A (V3 scope env.globals cl [] env.qual aD .none (aw env)) Q E s:=by
 simp only[V3,X4,if_true];refine Us (wpAny_alloc ?_);refine Us (wpAny_layCells _ (λname kind cells=>by cases b:kind == NameKind.cell <;> simp[b]) _ _ _ _ ?_);rw[show({ s with heap:=s.heap.push { cls:=.type "dict", data:=.dict #[] } }:Shared).heap.objs.size=s.heap.objs.size+1 from Yt ..];simp only[Xi]
 first
  |exact Us (UI (UI h))
  |exact UI h
abbrev Ab(i:Nat):Str:=⟨#[i]⟩
abbrev cU:List Nat->List Str->List Str
 |[],N=>N
 |i::hs,N=>cU hs (N.set i (Ab i))
def jC:∀ (hs:List Nat) (N:List Str),(cU hs N).length=N.length
 |[],_=>rfl
 |i::hs,N=>by rw[cU,jC hs,ZY]
def oD:∀ (hs:List Nat) (N:List Str) {i:Nat} {x:Str},(cU hs N)[i]?=aw x->N[i]?=aw x\/∃j ∈ hs,x=Ab j
 |[],_,_,_,h=>.inl h
 |k::hs,N,i,x,h=>by
  rw[cU] at h;rcases oD hs (N.set k (Ab k)) h with e |⟨j,hj,e⟩
  ·rw[Yw] at e;split at e
   ·split at e
    ·exact .inr ⟨k,Zj,(Option.some.inj e).symm⟩
    ·cases e
   ·exact .inl e
  ·exact .inr ⟨j,Zi _ hj,e⟩
structure CmScope(own:List Str)(hs:List Nat)(N:List Str)(scope sc:Scope):Prop where
 kind:scope.kind = .function
 nd:(cU hs N++own).Nodup
 uniq:(scope.names.map (·.1)).Nodup
 dis:∀x ∈ cU hs N,scope.names.lookup x ≠ aw .local/\scope.names.lookup x ≠ aw .cell
 fr:∀y ∈ scope.names,y.2 = .free->sc.names.lookup y.1=aw .cell\/sc.names.lookup y.1=aw .free
 hd:∀i ∈ hs,scope.names.lookup (Ab i)=aD
def cP:∀ {l:List (Str × W9)} {x:Str} {k:W9},(l.map (·.1)).Nodup->(x,k) ∈ l->l.lookup x=aw k
 |(n,k')::r,x,k,nd,h=>by
  rw[Zw,Z6] at nd;rw[YB];rcases Zn.mp h with e |e
  ·cases e;simp
  ·have ne:(x == n)=aS:=by
    cases hb:x == n with
    |false=>rfl
    |true=>
     have q:x=n:=by simpa using hb
     subst q;exact absurd (Zu.mpr ⟨(x,k),e,rfl⟩) nd.1
   rw[ne];exact cP nd.2 e
abbrev cxC(X:Cx)(own:List Str)(hs:List Nat)(b:Scope)(C:Addr)(ex:List Addr)(s:Shared)(H:Hp):Cx where
 prog:=X.prog
 w:=X.w
 K:=X.K
 mg:=X.mg
 base:=X.base
 A:=X.A
 N:=cU hs X.N++own
 s₀:=s
 H₀:=H
 env:=ux b C X.env
 outer:=X.stack
 stack:=X.stack
 ex:=ex
 fn:=λx=>b.names.lookup x == aw .cell
 calm:=X.calm
 pn:=[]
 xe:=λ_ _=>False
section
variable {X:Cx} {pins:List (Addr × Obj)} {σ:St} {H:Hp} {s:Shared} {own:List Str} {hs:List Nat} {scope:Scope} {fp:List Addr}
def Inv.compStart(I:Inv X pins σ H s)(S:CmScope own hs X.N scope X.env.scope)(hf:∀b ∈ fp,gX X pins H b)(Z:∀b ∈ fp,b < s.heap.objs.size) :
  Inv (cxC X own hs scope s.heap.objs.size fp s H) [] (σ++Zx own.length aD) H { s with heap:=V9 (s.heap.push { cls:=.type "dict", data:=.dict #[] }) scope.names }:=by
 have keep:∀b o,s.heap.get? b=aw o->(V9 (s.heap.push { cls:=.type "dict", data:=.dict #[] }) scope.names).get? b=aw o:=λb o e=>Ua _ _ b o (Zf _ e);have ok:=cellsFrom_ok scope.names (s.heap.push { cls:=.type "dict", data:=.dict #[] }) (s.heap.objs.size+1) [] ⟨λ_ _ hm=>(nomatch hm),List.Pairwise.nil⟩ (by rw[Yt];exact Ze _);rw[Yt] at ok;have C:(ux scope s.heap.objs.size X.env).cells=VN (s.heap.objs.size+1) scope.names []++bU X.env.cells scope.names []:=cy _ _ _;have hasX:∀x,(x,NameKind.free) ∈ scope.names->∃c,X.env.cells.lookup x=aw c:=λx h=>I.ok.has x (S.fr (x,.free) h rfl)
 have old:∀x c,(x,c) ∈ bU X.env.cells scope.names []->X.env.cells.lookup x=aw c/\(x,NameKind.free) ∈ scope.names:=λx c h=>by
  rcases jB h with e |⟨e,q⟩
  ·exact nomatch e
  ·obtain⟨c',T⟩:=hasX x e;rw[T] at q;exact⟨by rw[T,q];rfl,e⟩
 have O:∀x c,X.env.cells.lookup x=aw c->c < s.heap.objs.size:=λx c h=>let ⟨_,z⟩:=I.cell x c h;z.lt
 have d:∀x c,(ux scope s.heap.objs.size X.env).cells.lookup x=aw c->((x,c) ∈ VN (s.heap.objs.size+1) scope.names [])\/(X.env.cells.lookup x=aw c/\(x,NameKind.free) ∈ scope.names):=λx c h=>by
  have m:=V2 h;rw[C] at m;rcases ZS.mp m with e |e
  ·exact .inl e
  ·exact .inr (old x c e)
 have B:∀x c,(x,c) ∈ VN (s.heap.objs.size+1) scope.names []->s.heap.objs.size+1<=c:=λx c h=>(ok.empty x c h).2
 have noFs:∀b ∈ fp,b ∉ frs X.stack:=λb hb z=>by
  rcases Zn.mp (I.stkSub b z) with e |e
  ·exact(hf b hb).2.1 e
  ·exact(hf b hb).2.2.1 e
 have xok:(cxC X own hs scope s.heap.objs.size fp s H).Ok:=by
  refine⟨I.ok.mod,S.kind,I.ok.glob,I.ok.blt,Ze _,?_,?_,?_,I.ok.hd,I.ok.frames,.inl rfl,?_,I.bs,Z0 I.ok.bsz I.sz,?_,noFs,I.stack,I.stkFree⟩
  ·intro x y c Q L;rcases d x c Q with a |⟨a,_⟩ <;> rcases d y c L with b |⟨b,_⟩
   ·exact name_of_addr ok.apart a b
   ·exact absurd (ZH (O y c b) (Xn (B x c a))) (ZR _)
   ·exact absurd (ZH (O x c a) (Xn (B y c b))) (ZR _)
   ·exact I.ok.inj x y c a b
  ·intro x hx;have hx':(fO scope X.env.scope).names.lookup x=aw .cell\/(fO scope X.env.scope).names.lookup x=aw .free:=hx;have e:=fP X.env.scope x scope.names
   have key:(x,NameKind.cell) ∈ scope.names\/(x,NameKind.free) ∈ scope.names:=by
    cases E:scope.names.lookup x with
    |none=>rw[E] at e;rcases hx' with z |z <;> (rw[show(fO scope X.env.scope).names.lookup x=aD from e] at z;cases z)
    |some k=>
     have m:=V2 E;rw[E] at e;cases k with
     |cell=>exact .inl m
     |free=>exact .inr m
     |_=>rcases hx' with z |z <;> (rw[show(fO scope X.env.scope).names.lookup x=_ from e] at z;simp[nY] at z)
   rcases key with h |h
   ·have q:=Vm scope.names (s.heap.objs.size+1) (bU X.env.cells scope.names []) (x:=x) (.inl (cP S.uniq h));exact Z9.mp q
   ·obtain⟨c,T⟩:=gK (cells:=X.env.cells) (acc:=[]) (.inl h);have q:∃c,(x,c) ∈ (ux scope s.heap.objs.size X.env).cells:=⟨c,by rw[C];exact Zz _ T⟩;exact fN q
  ·intro x c hfn E
   have J:scope.names.lookup x=aw .cell:=by
    have z:(scope.names.lookup x == aw NameKind.cell)=aN:=hfn
    simpa using z
   rcases d x c E with a |⟨_,b⟩
   ·exact Z0 (YD _) (B x c a)
   ·rw[cP S.uniq b] at J;cases J
  ·intro b hb;refine⟨ZI (Z b hb),λx c h z=>?_⟩;rcases d x c h with a |⟨a,_⟩
   ·exact absurd (ZH (z ▸ Z b hb) (Xn (B x c a))) (ZR _)
   ·exact(hf b hb).2.2.2.2.1 x c a z
  ·intro b o e hb;rcases (hf b hb).2.2.2.1 with z |z
   ·exact I.ok.noex b o e z
   ·have Q:=Zt e;exact absurd (ZH Q (Z0 I.ok.bsz z)) (ZR _)
 have m0:(V9 (s.heap.push { cls:=.type "dict", data:=.dict #[] }) scope.names).Ns s.heap.objs.size (λ_=>aD):=(Heap.Ns.new s.heap (.type "dict")).keeps (Ua _ _);refine⟨xok,rfl,I.bare,Un.kept keep,⟨_,m0,?_⟩,?_,I.hok.fresh (Ze _),?_,λp hp=>absurd (show p ∈ ([]:List (Addr × Obj)) from hp) (by simp),I.hok.kept keep,?_⟩
 ·intro i x v Q L h3
  have hi:i < σ.length:=by
   by_cases hi:i < σ.length
   ·exact hi
   ·rw[Zm (by lia),YA] at L;split at L <;> cases L
  rw[Zq hi] at L;have hN:i < X.N.length:=by rw[<-I.len];exact hi
  have h1h:(cU hs X.N)[i]?=aw x:=by
   have Q:(cU hs X.N++own)[i]?=aw x:=Q
   rwa [Zq (by rw[jC];exact hN)] at Q
  have dx:=S.dis x (Zc h1h);have e:=fP X.env.scope x scope.names;have h3':(fO scope X.env.scope).names.lookup x=aw .local\/(fO scope X.env.scope).names.lookup x=aw .cell\/(fO scope X.env.scope).names.lookup x=aw .free:=h3
  have f:scope.names.lookup x=aw .free:=by
   cases E:scope.names.lookup x with
   |none=>rw[E] at e;rcases h3' with z |z |z <;> (rw[show(fO scope X.env.scope).names.lookup x=aD from e] at z;cases z)
   |some k=>
    rw[E] at e dx;cases k with
    |free=>rfl
    |«local»=>exact absurd rfl dx.1
    |cell=>exact absurd rfl dx.2
    |_=>rcases h3' with z |z |z <;> (rw[show(fO scope X.env.scope).names.lookup x=_ from e] at z;simp[nY] at z)
  have h1':X.N[i]?=aw x:=by
   rcases oD hs X.N h1h with z |⟨j,hj,z⟩
   ·exact z
   ·rw[z,S.hd j hj] at f;cases f
  have n:=V2 f;have kX:=S.fr (x,.free) n rfl;obtain⟨m,hn,E⟩:=I.loc;obtain⟨u,r,l⟩:=E i x v h1' L (kX.elim (λz=>.inr (.inl z)) λz=>.inr (.inr z));refine⟨u,r,.inr ⟨?_,?_⟩⟩
  ·have k3:(fO scope X.env.scope).names.lookup x=aw (nY X.env.scope x .free):=by rw[f] at e;exact e
   have k4:nY X.env.scope x .free = .cell\/nY X.env.scope x .free = .free:=by unfold nY;split <;> simp
   rcases k4 with z |z
   ·exact .inl (by show(fO scope X.env.scope).names.lookup x=_;rw[k3,z])
   ·exact .inr (by show(fO scope X.env.scope).names.lookup x=_;rw[k3,z])
  ·rcases l with ⟨lk,_⟩ |⟨_,c,T,z⟩
   ·have Y:X.env.scope.names.lookup x=aw .local:=lk;rcases kX with q |q <;> (rw[q] at Y;cases Y)
   ·refine⟨c,?_,z.keeps keep⟩;obtain⟨c',hc'⟩:=gK (cells:=X.env.cells) (acc:=[]) (.inl n);obtain⟨c2,U⟩:=fN (l:=(ux scope s.heap.objs.size X.env).cells) ⟨c',by rw[C];exact Zz _ hc'⟩;rcases d x c2 U with a |⟨a,_⟩
    ·rcases dA _ _ _ _ _ a with q |q
     ·exact nomatch q
     ·rw[cP S.uniq q] at f;cases f
    ·rw[T] at a;cases a;exact U
 ·intro x c h;rcases d x c h with a |⟨a,_⟩
  ·exact⟨_,(ok.empty x c a).1⟩
  ·obtain⟨v,z⟩:=I.cell x c a;exact⟨v,z.keeps keep⟩
 ·intro x c h;rcases d x c h with a |⟨a,_⟩
  ·exact I.hok.fresh (Z0 (YD _) (B x c a))
  ·exact I.freeC x c a
 ·show(σ++Zx own.length aD).length=(cU hs X.N++own).length;rw[Zh,Zh,XG,jC,I.len]
end
abbrev rL(J:It)(g:TG)(T:TS)(D:Ends)(c:St)(H:Hp):Prop:=∃W:Nat->Nat->St->Hp->Prop,(∃m,W 0 m c H)/\∀i m c H,W i m c H ->
 (J.stop i H/\D.nx c H)\/(J.go i H/\∃N:St->Hp->Prop,(∀b h,N b h->∃f,f < m/\W (i+1) f b h)/\∀x h,J.yld i H x h->g x c h λd j=>T { D with nx:=N,ct:=N,bk:=D.nx } d j)
abbrev PTs(Y:Cx)(ifs:List Expr)(t:TT):Prop:=
 ∀ (p:List (Addr × Obj)) (s:Shared) (b:St) (H:Hp) (Q:Bool->Hp->Prop),Inv Y p b H s->t b H Q->wpAny (model Y.prog Y.w) Y.A (qg ifs Y.env) (TP Y p b Q) Y.xe s
abbrev DX:TT:=λ_ H Q=>Q aN H
def DY:PTs Y [] DX:=λ_ _ _ H _ I h=>by
 unfold qg;rw[Xi];exact UI ⟨H,I,h⟩
def DZ(d:PT Y c t):PTs Y [c] t:=λp s f H Q I h=>by
 unfold qg;rw[Wo];simp only[if_true,Xi];refine Us (Us (thn (d p s f H Q I h) λb j q=>UI ?_));exact UI q
abbrev PTl(Y:Cx)(E:Expr)(c:List WM)(f:Scope)(k:Pos)(h:Addr)(d:Nat)(t:TS):Prop:=
 ∀ (p:List (Addr × Obj)) (s:Shared) (v:St) (H:Hp) (D:Ends),Inv Y p v H s->t D v H ->
  match c[d+1]? with
  |none=>wpAny (model Y.prog Y.w) Y.A (eval E Y.env) (λx n=>wpAny (model Y.prog Y.w) Y.A (call (.builtin "list.append") [.ref h,x]) (λ_ u=>∃b j,Inv Y p b j u/\D.nx b j) (λ_ _=>False) n) (λ_ _=>False) s
  | some q=>q.is_async=0/\wpAny (model Y.prog Y.w) Y.A (eval q.iter Y.env) (λx n=>wpAny (model Y.prog Y.w) Y.A (VV q.iter Y.env x) (λX u=>wpAny (model Y.prog Y.w) Y.A (pyIter X) (λI z=>
    wpAny (model Y.prog Y.w) Y.A (runOwn (.compStart (.ListComp E c f k) (d+1) I (.ref h) Y.env) Y.env) (λ_ y=>∃b j,Inv Y p b j y/\D.nx b j) (λ_ _=>False) z) (λ_ _=>False) u) (λ_ _=>False) n) (λ_ _=>False) s
abbrev fB(T:TT)(t:TS):TS:=λD b H=>T b H λc h=>if c=aN then t D b h else D.nx b h
abbrev Hu(b:Addr)(T:TE):TS:=λD c H=>T c H λx h=>∃X,h b=aw (.lst X)/\X.length < sizeLine/\D.nx c (upd h b (.lst (X++[x])))
section
variable {Y:Cx} {elt:Expr} {gens:List WM} {scope:Scope} {pos:Pos} {acc:Addr} {d:Nat}
def Ac(c:Y.xe=λ_ _=>False)(B:gens[d+1]?=aD)(O:PE Y elt U):PTl Y elt gens scope pos acc d (Hu acc U):=by
 intro p s b H D I h;rw[B];have f:=O p s b H _ I h;rw[c] at f;refine thn f λx T ⟨v,j,u,k,X,E,C,q⟩=>?_;have z:=oC p T b j (.ref acc) [v] (.ref acc) [x] (λy n=>y = .non/\D.nx b n) u rfl (.cons k .nil) ⟨acc,X,v,rfl,rfl,E,C,rfl,q⟩;rw[c] at z;exact thn z λy s6 ⟨v6,J,L,Z,e6,Q⟩=>⟨b,J,L,Q⟩
def lX{A:Around}{R:Result->Shared->Prop}{prog:Program}{w:World}{s:Shared}{T I:Expr}{ifs:List Expr}{f acc:Value}{env:Env}(p:gens[d]?=aw ⟨T,I,ifs,0⟩)
  (n:codeAny (model prog w) A (.compLoop (.ListComp elt gens scope pos) d f acc env) R s)
  (h:wpAny (model prog w) A (pyIter f) (λb c=>codeAny (model prog w) A (.compLoop (.ListComp elt gens scope pos) d b acc env) R c) (notedBy (model prog w) A env λx c=>R (.error x) c) s) :
  codeAny (model prog w) A (.compStart (.ListComp elt gens scope pos) d f acc env) R s:=by
 refine codeAny_of_tree ?_;show wpAny _ _ ((compStart (.ListComp elt gens scope pos) d f acc env).onRaise (λx=>do noteFrame x env;standAt theWindowsPlace)) _ _ s;refine wpAny_notedAt ?_;unfold compStart;have k:(clausesOf (.ListComp elt gens scope pos))[d]?=aw ⟨T,I,ifs,0⟩:=p;simp only[k,Option.elim];show wpAny _ _ (ask >>= _) _ _ s;refine Us (wpAny_askSetting (wpAny_ite ?_));split
 ·first
   |exact Us (UI (UI (And.intro rfl n)))
   |exact UI (And.intro rfl n)
 ·first
   |exact Us (UQ (Us (UU (Us (UE h (λb c j=>UI (And.intro rfl j)) λ_ _ x=>x)))))
   |(refine Us (UQ ?_);show wpAny _ _ (standAt I.pos >>= _) _ _ s;exact Us (UU (Us (UE h (λb c j=>UI (And.intro rfl j)) λ_ _ x=>x))))
def oE
  (hx:Y.xe=λ_ _=>False) (hc:Y.calm=aN) (hg:gens[d]?=aw ⟨tg,iter,ifs,0⟩) (T:Turn Y.prog Y.w Y.K tg J B it tn) (I2:Inv Y p σ H s) (st2:tn 0 s.heap) (f2:∀b ∈ B,gX Y p H b)
  (hgt:PG Y tg g) (hts:PTs Y ifs ti) (htl:PTl Y elt gens scope pos acc d t) (hW:rL J g (fB ti t) D σ H) :
  codeAny (model Y.prog Y.w) Y.A (.compLoop (.ListComp elt gens scope pos) d (.ref it) (.ref acc) Y.env) (λr Z=>r = .ok .next/\∃c H',Inv Y p c H' Z/\D.nx c H') s:=by
 obtain⟨W,⟨m0,w0⟩,L⟩:=hW;have j:∀ {H':Hp},(∀b ∈ B,H' b=aD)->∀b ∈ B,gX Y p H' b:=λX b hb=>⟨X b hb,(f2 b hb).2⟩;refine codeAny_loop rfl (λn Z=>∃i c H',Inv Y p c H' Z/\tn i Z.heap/\(∀b ∈ B,H' b=aD)/\W i n c H') (λn s3 hI=>?_) m0 ⟨0,σ,H,I2,st2,λb hb=>(f2 b hb).1,w0⟩;obtain⟨i,h,H3,I3,O,U,w3⟩:=hI;show wpAny _ _ ((compTurn (.ListComp elt gens scope pos) d (.ref it) (.ref acc) Y.env).onRaise (λx=>do noteFrame x Y.env;theTreesLotGoes x)) _ _ s3;refine wpAny_noted (UE (E:=λ_ _=>False) ?_ (λ_ _ q=>q) λ_ _ z=>z.elim);refine DV hg ?_;rcases L i n h H3 w3 with ⟨stop,qn⟩ |⟨go,N,hN,step⟩
 ·refine thn (T.done Y rfl rfl rfl hc i p s3 h H3 _ I3 (j U) O stop) λr s4 ⟨hr,I4⟩=>?_;subst hr;exact⟨rfl,h,H3,I4,qn⟩
 ·refine thn (T.item Y rfl rfl rfl hc i p s3 h H3 _ I3 (j U) O go) λr s4 ⟨u,hr,h4⟩=>?_;subst hr;refine thn h4 λ_ s5 ⟨x,H5,I5,r5,y5,v,fr5⟩=>?_;have I5':=I5.pinned (j fr5) (T.obj _ _ v)
  have again:∀ {f:St} {k:Hp} {C:Shared},Inv Y (p++lJ B s5.heap) f k C->N f k->∃m,m < n/\∃i c H',Inv Y p c H' C/\tn i C.heap/\(∀b ∈ B,H' b=aD)/\W i m c H':=λ{f k C} I n7=>by
   obtain⟨m',hm,w7⟩:=hN f k n7;refine⟨m',hm,i+1,f,k,I.unpinned,T.keep _ _ _ v λb hb o e=>(I.pin (b,o) (Zz _ (Zz _ (eM hb e)))).1,λb hb=>?_,w7⟩;obtain⟨o,e,dd⟩:=T.obj _ _ v b hb;exact(I.pin (b,o) (Zz _ (Zz _ (eM hb e)))).2.1
  have hG:=hgt _ s5 h H5 x u _ I5' r5 (step x H5 y5);rw[hx] at hG;refine thn hG λ_ s6 ⟨Q,H6,I6,q6⟩=>?_;have hT:=hts _ s6 Q H6 _ I6 q6;rw[hx] at hT;refine thn hT λok C ⟨k,I,q7⟩=>?_;cases ok with
  |false=>
   simp only[ZP,if_false] at q7 ⊢;exact⟨by trivial,again I q7⟩
  |true=>
   simp only[if_true] at q7 ⊢;have y:=htl _ C Q k _ I q7;cases X:gens[d+1]? with
   |none=>
    rw[X] at y;exact thn y λx s8 h8=>thn h8 λ_ s9 ⟨σ9,H9,I9,q9⟩=>⟨by trivial,again I9 q9⟩
   |some g'=>
    rw[X] at y;obtain⟨ha,y⟩:=y;exact⟨ha,thn y λx s8 h8=>thn h8 λx' s9 h9=>thn h9 λit' s10 h10=>thn h10 λ_ s11 ⟨σ9,H9,I9,q9⟩=>⟨by trivial,again I9 q9⟩⟩
abbrev Ae(c:TI)(g:TG)(T:TT)(t:TS):TS:=λD b H=>c b H λJ h=>rL J g (fB T t) D b h
def D0(f:gens[d+1]?=aw ⟨z,b,ifs,0⟩)
  (hi:PI Y z b O) (j:PG Y z g) (k:PTs Y ifs ti) (n:PTl Y elt gens scope pos acc (d+1) t) (u:Y.xe=λ_ _=>False:=by rfl) (X:Y.calm=aN:=by rfl) (hs:∀x,VV b Y.env x=pure x:=by intro _;rfl) :
  PTl Y elt gens scope pos acc d (Ae O g ti t):=by
 intro p s E H D I h;rw[f];refine⟨rfl,?_⟩;have y:=hi p s E H _ I h;rw[u] at y;refine thn y λv s5 U=>UG (hs v) (thn U λC s6 Z=>?_);obtain⟨it,fp,tn,J,H6,e,I6,T,c,B,W⟩:=Z;subst e;have L:=oE (elt:=elt) (gens:=gens) (scope:=scope) (pos:=pos) (acc:=acc) u X f T I6 c B j k n W;refine wpAny_runOwn (VP (lX f L (T.self _ 0 s6 _ _ c L)) λr s8 Q=>?_);obtain⟨rfl,q⟩:=Q;exact q
end
abbrev Af(own:Nat)(d:TI)(g:TG)(T:Addr->TS):TE:=λc H Q=>d c H λJ h=>∀b,h b=aD ->
 rL J g (T b) { nx:=λ_ f=>Q (.ref b) f,rt:=λ_ _=>False } (c++Zx own aD) (upd h b (.lst []))
section
variable {X:Cx} {elt tg iter:Expr} {ifs:List Expr} {rest:List WM} {scope:Scope} {pos:Pos} {own:List Str} {hs:List Nat} {wi:TI} {g:TG} {ti:TT} {t:Addr->TS}
def lY{j:List (Addr × Obj)}{σ:St}{Q:VK}{O:Value}{s2:Shared}{E:Value->Shared->Prop}(hc:X.calm=aN)(S:CmScope own hs X.N scope X.env.scope)
  (hgt:∀C ex s H,PG (cxC X own hs scope C ex s H) tg g) (hts:∀C ex s H,PTs (cxC X own hs scope C ex s H) ifs ti)
  (htl:∀C ex s H f,PTl (cxC X own hs scope C ex s H) elt (⟨tg,iter,ifs,0⟩::rest) scope pos f 0 (t f))
  (h2:PIE X j σ tg (λJ H1=>∀f,H1 f=aD->rL J g (fB ti (t f)) { nx:=λ_ k=>Q (.ref f) k,rt:=λ_ _=>False } (σ++Zx own.length aD) (upd H1 f (.lst []))) O s2)
  {RR:Value->Addr->Result->Shared->Prop} (hRR:∀f C k s',Inv X j σ k s'->gX X j k C->(∃m,s'.heap.Ns C m)->Q (.ref f) k->RR (.ref f) C (.ok .next) s') :
  wpAny (model X.prog X.w) X.A (newList []) (λf h=>wpAny (model X.prog X.w) X.A (V3 scope X.env.globals (bU X.env.cells scope.names []) [] X.env.qual aD .none (aw X.env)) (λn y=>
   codeAny (model X.prog X.w) X.A (.compStart (.ListComp elt (⟨tg,iter,ifs,0⟩::rest) scope pos) 0 O f { n with scope:=relabel scope X.env }) (RR f n.locals) y) E h) E s2:=by
 obtain⟨it,u,tn,J,H2,e,I2,T,z,f2,R⟩:=h2;subst e;refine UF ?_;have I3:Inv X j σ (upd H2 s2.heap.objs.size (.lst [])) { s2 with heap:=s2.heap.push { cls:=.type "list", dict:=aD,data:=.seq ([]:List Value).toArray } }:=I2.lnew (its:=[]) (t':=s2.toks) .nil (YK _);have W:=R s2.heap.objs.size (I2.hok.fresh (Ze _));generalize hs3:({ s2 with heap:=s2.heap.push { cls:=.type "list", dict:=aD,data:=.seq ([]:List Value).toArray } }:Shared)=h at I3 ⊢;have e3:h.heap=s2.heap.push { cls:=.type "list", dict:=aD,data:=.seq ([]:List Value).toArray }:=by rw[<-hs3]
 have k3:∀b o,s2.heap.get? b=aw o->h.heap.get? b=aw o:=λb o e=>by rw[e3];exact Zf _ e
 have Z:tn 0 h.heap:=T.keep _ _ _ z λb _ o e=>k3 b o e;have fne:∀b ∈ u,b < s2.heap.objs.size:=λb hb=>let ⟨o,e,_⟩:=T.obj _ _ z b hb;Zt e;have v:∀b ∈ u,gX X j (upd H2 s2.heap.objs.size (.lst [])) b:=λb hb=>⟨by rw[aB (ZI (fne b hb))];exact(f2 b hb).1,(f2 b hb).2⟩;have B:∀b ∈ u,b < h.heap.objs.size:=λb hb=>let ⟨o,e,_⟩:=T.obj _ _ Z b hb;Zt e;refine yk ?_;have U:=I3.compStart S v B;generalize hH3:upd H2 s2.heap.objs.size (.lst [])=H3 at I3 U v W
 have eE:({ scope:=relabel scope X.env,locals:=h.heap.objs.size,globals:=X.env.globals,cells:=VN (h.heap.objs.size+1) scope.names (bU X.env.cells scope.names []),qual:=X.env.qual,func:=aD,code:=X.env.code,frame:=X.env.frame,builtins:=X.env.builtins }:Env)=ux scope h.heap.objs.size X.env:=by
  unfold ux;rw[DW]
 generalize hs4:({ h with heap:=V9 (h.heap.push { cls:=.type "dict", data:=.dict #[] }) scope.names }:Shared)=y at U ⊢;have k4:∀b o,h.heap.get? b=aw o->y.heap.get? b=aw o:=λb o e=>by rw[<-hs4];exact Ua _ _ b o (Zf _ e)
 have st4:tn 0 y.heap:=T.keep _ _ _ Z λb _ o e=>k4 b o e
 have f4:∀b ∈ u,gX (cxC X own hs scope h.heap.objs.size u h H3) [] H3 b:=λb hb=>by
  refine⟨(v b hb).1,ZI (B b hb),U.ok.exfs b hb,.inl hb,λx c hl=>(U.ok.exf b hb).2 x c hl,λp hp=>absurd (show p ∈ ([]:List (Addr × Obj)) from hp) (by simp)⟩
 have L:=oE (Y:=cxC X own hs scope h.heap.objs.size u h H3) (elt:=elt) (gens:=⟨tg,iter,ifs,0⟩::rest) (d:=0) (scope:=scope) (pos:=pos) (acc:=s2.heap.objs.size) rfl hc rfl T U st4 f4 (hgt _ _ _ _) (hts _ _ _ _) (htl _ _ _ _ _) W;have C:=lX (elt:=elt) (gens:=⟨tg,iter,ifs,0⟩::rest) (d:=0) (scope:=scope) (pos:=pos) rfl L (T.self _ 0 y _ _ st4 L);show codeAny (model X.prog X.w) X.A (.compStart (.ListComp elt (⟨tg,iter,ifs,0⟩::rest) scope pos) 0 (.ref it) (.ref s2.heap.objs.size) { scope:=relabel scope X.env,locals:=h.heap.objs.size,globals:=X.env.globals,cells:=VN (h.heap.objs.size+1) scope.names (bU X.env.cells scope.names []),qual:=X.env.qual,func:=aD,code:=X.env.code,frame:=X.env.frame,builtins:=X.env.builtins }) (RR (.ref s2.heap.objs.size) h.heap.objs.size) y;rw[eE];refine VP C λr s' hr=>?_;obtain⟨rfl,σ',k,I,q⟩:=hr;obtain⟨mC,nC,_⟩:=id I.loc;have freeC:k h.heap.objs.size=aD:=I.free;refine hRR _ _ k s' ?_ (I3.fpOk (Ze _) freeC) ⟨mC,nC⟩ q;exact I3.call' (ch:=u) I.os I.base I.hok I.bare λb hb=>⟨(v b hb).2.2.2.1,(v b hb).2.1,(v b hb).2.2.2.2.1,(v b hb).2.2.2.2.2⟩
def D1(O:X.calm=aN)(S:CmScope own hs X.N scope X.env.scope)(hi:PI X tg iter wi)
  (j:∀C ex s H,PG (cxC X own hs scope C ex s H) tg g) (k:∀C ex s H,PTs (cxC X own hs scope C ex s H) ifs ti)
  (n:∀C ex s H c,PTl (cxC X own hs scope C ex s H) elt (⟨tg,iter,ifs,0⟩::rest) scope pos c 0 (t c))
  (hs:∀x,VV iter X.env x=pure x:=by intro _;rfl) :
  PE X (.ListComp elt (⟨tg,iter,ifs,0⟩::rest) scope pos) (Af own.length wi g λc=>fB ti (t c)):=by
 intro p s z H Q I h;rw[eval_ListComp];refine Uv (use:=aD) (cl:=bU X.env.cells scope.names []) rfl hs (wx λy d u=>I.ok.has y.1 (S.fr y d u)) S.kind (λy d u=>cP S.uniq (by rw[<-u];exact d)) ?_;refine thn (hi p s z H _ I h) λv s1 U=>thn U λE s2 L=>?_;refine lY O S j k n L (RR:=λc C=>compPost (model X.prog X.w) X.A X.xe aD (EP X p z Q) c C) λc C B Y T f J q=>?_;obtain⟨m,nm⟩:=J;refine⟨m,nm,λh' Z=>⟨.ref c,B,?_,rfl,q⟩⟩;exact T.turned (t':=Y.toks) (λb o hb e=>(Z.2 b hb).trans e) f.1 f.2.1 f.2.2.2.1 f.2.2.2.2.1 f.2.2.2.2.2
def D2{i:Nat}(hc:X.calm=aN)(S:CmScope own hs X.N scope X.env.scope)(hN:X.N.Nodup)(O:X.N[i]?=aw x)(hx:X.env.scope.names.lookup x=aw .local)(hi:PI X tg iter wi)
  (E:∀C ex s H,PG (cxC X own hs scope C ex s H) tg g) (T:∀C ex s H,PTs (cxC X own hs scope C ex s H) ifs ti)
  (Y:∀C ex s H c,PTl (cxC X own hs scope C ex s H) elt (⟨tg,iter,ifs,0⟩::rest) scope pos c 0 (t c))
  (L:Ul (.ListComp elt (⟨tg,iter,ifs,0⟩::rest) scope pos) (aw (.Name x p)) j.line X.env=pure aN:=by rfl)
  (hs:∀x,VV iter X.env x=pure x:=by intro _;rfl) :
  PS X (.Assign [.Name x p] (.ListComp elt (⟨tg,iter,ifs,0⟩::rest) scope pos) j) (zN (Af own.length wi g λc=>fB ti (t c)) (rE i)):=by
 intro d s σ H D I h;rw[exec_Assign_Name_used _ _ _ _ L];refine Us (UU (Us ?_));show wpAny _ X.A (do let _ <-comprehension (.ListComp elt (⟨tg,iter,ifs,0⟩::rest) scope pos) scope X.env _ (newList []) aS (eval iter X.env) (aw (assign (.Name x p) X.env))) _ _ s
 refine Us (UE (Uv (use:=aw (assign (.Name x p) X.env)) (Q:=λ_ k=>SP X d D .next k) (cl:=bU X.env.cells scope.names []) rfl hs (wx λy n Z=>I.ok.has y.1 (S.fr y n Z)) S.kind (λy n Z=>cP S.uniq (by rw[<-Z];exact n))
  ?_) (λ_ k hq=>UI (UI hq)) λ_ _ e=>e)
 refine thn (hi d s σ H _ I h) λv s1 h1=>thn h1 λitv s2 h2=>?_;refine lY (Q:=λy u=>rE i y σ u D.nx) hc S E T Y h2 (RR:=λc C=>compPost (model X.prog X.w) X.A X.xe (aw (assign (.Name x p) X.env)) (λ_ k=>SP X d D .next k) c C) λc C u k I' f m' q=>?_;obtain⟨m,nm⟩:=m';show wpAny _ X.A (assign (.Name x p) X.env (.ref c)) _ _ _;refine wpAny_assign_Name (om (v:=.ref c) I' hN O (.inl hx) rfl (λs'' B J=>?_) (.inr hx));obtain⟨a,U,ha⟩:=J
 have ne:C ≠ a:=by
  rcases ha with e |e
  ·rw[e];exact f.2.1
  ·exactλz=>f.2.2.2.2.1 x a e z.symm
 refine⟨m,nm.sameBut U ne,λh' sb=>⟨_,u,?_,q⟩⟩;exact B.turned (t':=s''.toks) (λb o hb e=>(sb.2 b hb).trans e) f.1 f.2.1 f.2.2.2.1 f.2.2.2.2.1 f.2.2.2.2.2
end
end L2
namespace HT
open PySem PyProof.Rows
section
variable {prog:Program} {w:World} {A:Around} {E:Value->Shared->Prop} {s:Shared}
def Ag{t b:Addr}{u:List Value}{Q:Value->Shared->Prop}(v:IsTup s.heap t ([]:List Value).toArray)(hb:IsTup s.heap b u.toArray)(h:Q (.ref b) s):wpAny (model prog w) A (VG .Add (.ref t) (.ref b)) Q E s:=by
 obtain⟨⟨z,y,p,sl⟩,ho,q,n,hd⟩:=id v;obtain⟨⟨C,j,data2,k⟩,d,f,B,c⟩:=id hb;simp only at q hd f c;subst q hd f c
 exact VR ⟨_,ho,rfl⟩ ⟨_,d,rfl⟩ V4 Ug W3 WU (WN _ _)
   (tuple_addW0 t b _ u.toArray n B y j sl k (by simp)) ⟨ho,d,h⟩
def gY{t sl:Addr}{I:Array Value}{v p:Value}{lo hi:Option Int}{Q:Value->Shared->Prop}(b:IsTup s.heap t I)(hs:s.heap.IsSliceOf sl v p .none)(z:IsPart v lo)(u:IsPart p hi)
  (k:sIx I.size 0 lo=0/\sIx I.size I.size hi=I.size) (h:Q (.ref t) s):wpAny (model prog w) A (getItem (.ref t) (.ref sl)) Q E s:=by
 obtain⟨os,j,d,q⟩:=id hs;have f:s.TypeIs (.ref sl) "slice" := ⟨os,j,d⟩;obtain⟨o,ho,B,n,hd⟩:=id b;unfold getItem
 try with_reducible refine UA ?_
 first |refine Us (UI ?_) |skip
 refine Us (US b.typeIs (by decide) ?_)
 refine Us (wpAny_callSpecial?_slot (name:=Str.ofString "__getitem__") b.typeIs WK
  (Uu WK b.typeIs entry_tuple_getitem ?_ (args_tuple_getitem _ _)))
 show wpAny _ _ (Builtin.Tuple.tupleItemsOf (.ref t) >>= _) _ _ s;refine Us (tupleItemsOf_ b ?_);refine Us (UX f ?_);rw[if_pos (by decide)];refine Us (dS hs z u ?_)
 have c:((((sIx I.size 0 lo:Nat):Int) == 0 && (1:Int) == 1 && (sIx I.size I.size hi - sIx I.size 0 lo) == I.size)=aN):=by
  rw[k.1,k.2];simp
 show wpAny _ _ (if (((sIx I.size 0 lo:Nat):Int) == 0 && (1:Int) == 1 && (sIx I.size I.size hi - sIx I.size 0 lo) == I.size)=aN then _ else _) _ _ s;rw[if_pos c];have y:s.TypeIs (.ref t) "tuple" := b.typeIs
 first
  | (refine Us (m:=Builtin.Tuple.tupleIsExact _) ?_
     unfold Builtin.Tuple.tupleIsExact;refine Us (UX y (UI ?_));rw[if_pos (by decide)];exact Us (UQ (UI ⟨_,rfl,UI h⟩)))
end
end HT
namespace L2
open PySem PySem.Spec PyProof.Rows
def rN{s:Shared}{h:Heap}{o:Obj}(d:∀b x,b ∉ [s.heap.objs.size]->(s.heap.push o).get? b=aw x->h.get? b=aw x):∀b x,s.heap.get? b=aw x->h.get? b=aw x:=
 λb x e=>d b x (λc=>by rw[ZM.mp c] at e;exact ZR _ (Zt e)) (Zf _ e)
section
variable {X:Cx}
abbrev NV(K:Vk):R2:=λx y H Q=>∃a b c Y,x = .ref a/\y = .ref b/\SqT K H a c/\SqT K H b Y/\c.length+Y.length<=sizeLine ∧
 (c=[]->Q (.ref b) H)/\(c ≠ []->Y=[]->Q (.ref a) H)/\(c ≠ []->Y ≠ []->∀p,H p=aD->Q (.ref p) (upd H p (.tup (c++Y))))
def D3:OpR X (VG .Add) (NV X.K):=by
 intro p s q H x y v u Q I f d h;obtain⟨a,b,k,Y,rfl,rfl,j,hb,C,J,z,B⟩:=h;by_cases c:k=[]
 ·subst c;cases f;cases d;obtain⟨L,r1,E,_⟩:=I.tuple j;obtain⟨n,r2,O,_⟩:=I.tuple hb;cases r1;exact HT.Ag E O ⟨.ref b,H,I,rfl,J rfl⟩
 ·exact DQ p s q H _ _ v u Q I f d ⟨a,b,k,Y,rfl,rfl,j,hb,c,C,z c,B c⟩
abbrev QH(K:Vk):V->Option Int->Option Int->Hp->VK->Prop:=λx lo hi H Q=>∃a b,x = .ref a/\SqT K H a b ∧
 ((HT.sIx b.length 0 lo=0/\HT.sIx b.length b.length hi=b.length)->Q (.ref a) H) ∧
 (¬ (HT.sIx b.length 0 lo=0/\HT.sIx b.length b.length hi=b.length)->∀p,H p=aD->Q (.ref p) (upd H p (.tup (lW b lo hi))))
def D4:SlR X (QH X.K):=by
 intro p s B H x v y z lo hi sl Q I n hs q u h;obtain⟨a,b,rfl,k,C,E⟩:=h;by_cases d:(HT.sIx b.length 0 lo=0/\HT.sIx b.length b.length hi=b.length)
 ·cases n;obtain⟨f,r,j,J⟩:=I.tuple k;have c:f.toArray.size=b.length:=by rw[Zl];exact r.length.symm
  refine⟨"tuple", _,PyProof.Rows.slot_tuple_getitem.lookup,j.typeIs,?_⟩;exact HT.gY j hs q u (by rw[c];exact d) ⟨.ref a,H,I,rfl,C d⟩
 ·exact Jb p s B H _ v y z lo hi sl Q I n hs q u ⟨a,b,rfl,k,d,E d⟩
def rO:aR X (.builtin "isinstance") (λc H Q=>∃x n t b,c=[x,.ty n]/\TyOf X.K H x t/\Vu X.K t (.type n)=aw b/\Q (.bl b) H):=by
 intro p s k H c U Q I r h;obtain⟨x,n,t,b,rfl,ty,e,q⟩:=h;obtain⟨u,j,rfl,f,d⟩:=rG r;cases d;exact ye I f ty e λT=>⟨.bl b,H,I.tok T,rfl,q⟩
def io:∀ {bs:List Bool} {u:List Value},aO (bs.map V.bl) u->u=bs.map Value.bool
 |[],_,.nil=>rfl
 |_::_,_,.cons r t=>by rw[Zw,io t];cases r;rfl
def ym(y:X.calm=aN):aR X (.builtin "all") (λn H Q=>∃ (l:Addr) (bs:List Bool),n=[.ref l]/\SqL X.K H l (bs.map V.bl)/\Q (.bl (bs.all id)) H):=by
 intro j s U H n us Q I r h;obtain⟨l,bs,rfl,J,q⟩:=h;obtain⟨u,rfl,C⟩:=bR r;cases C;obtain⟨B,z,p,Y⟩:=I.list J;have e:=io z;subst e;have f:=p.isList;have d:l < s.heap.objs.size:=by obtain⟨_,e,_⟩:=f;exact Zt e
 refine call_all_walk (UK f ?_)
 refine⟨s.heap.objs.size,[s.heap.objs.size,l],[s.heap.objs.size],_,_,_,λi=>(bs[i]?).getD aN,rfl,Walks.list (A:=X.A.in1) (I.ok.hd y) _ l (ZI d) _,
  ⟨⟨_,ZA _ rfl,rfl,rfl⟩,f.push _⟩,λi v s' Z E' L k=>?_,λh' T O=>?_⟩
 ·have c:(bs.map Value.bool)[i]?=aw v:=by simpa using L
  rw[Zp] at c;cases hb:bs[i]? with
  |none=>rw[hb] at c;cases c
  |some b=>
   rw[hb] at c;have E:Value.bool b=v:=Option.some.inj c;subst E;simp only[hb,ZW] at k;exact UV k
 ·have e:((Zk (bs.map Value.bool).toArray.size).all λi=>(bs[i]?).getD aN)=bs.all id:=by
   rw[Zl,Za,YS];simp only[Yk,ZO,id];constructor
   ·intro h b hb;obtain⟨i,hi,rfl⟩:=XM.mp hb;have:=h i hi
    rwa [gEG hi,ZW] at this
   ·intro h i hi;rw[gEG hi,ZW];exact h _ (ZJ hi)
  rw[e];exact⟨.bl (bs.all id),H,I.kept (t':=T) (rN O),rfl,q⟩
def yn(y:X.calm=aN):aR X (.builtin "any") (λn H Q=>∃ (l:Addr) (bs:List Bool),n=[.ref l]/\SqL X.K H l (bs.map V.bl)/\Q (.bl (bs.any id)) H):=by
 intro j s U H n us Q I r h;obtain⟨l,bs,rfl,J,q⟩:=h;obtain⟨u,rfl,C⟩:=bR r;cases C;obtain⟨B,z,p,Y⟩:=I.list J;have e:=io z;subst e;have f:=p.isList;have d:l < s.heap.objs.size:=by obtain⟨_,e,_⟩:=f;exact Zt e
 refine call_any_walk (UK f ?_)
 refine⟨s.heap.objs.size,[s.heap.objs.size,l],[s.heap.objs.size],_,_,_,λi=>(bs[i]?).getD aS,rfl,Walks.list (A:=X.A.in1) (I.ok.hd y) _ l (ZI d) _,
  ⟨⟨_,ZA _ rfl,rfl,rfl⟩,f.push _⟩,λi v s' Z E' L k=>?_,λh' T O=>?_⟩
 ·have c:(bs.map Value.bool)[i]?=aw v:=by simpa using L
  rw[Zp] at c;cases hb:bs[i]? with
  |none=>rw[hb] at c;cases c
  |some b=>
   rw[hb] at c;have E:Value.bool b=v:=Option.some.inj c;subst E;simp only[hb,ZW] at k;exact UV k
 ·have e:((Zk (bs.map Value.bool).toArray.size).any λi=>(bs[i]?).getD aS)=bs.any id:=by
   rw[Zl,Za,YS];simp only[Y7,ZO,id];constructor
   ·rintro⟨i,hi,h⟩;rw[gEG hi,ZW] at h;exact⟨_,ZJ hi,h⟩
   ·rintro⟨b,hb,h⟩;obtain⟨i,hi,rfl⟩:=XM.mp hb;exact⟨i,hi,by rw[gEG hi,ZW];exact h⟩
  rw[e];exact⟨.bl (bs.any id),H,I.kept (t':=T) (rN O),rfl,q⟩
def Jk:OpR X (VQ .Is) (λx y H Q=>∃b c,x = .bl b/\y = .bl c/\Q (.bl (b == c)) H):=by
 intro p s j H x y v u Q I f d h;obtain⟨b,c,rfl,rfl,q⟩:=h;cases f;cases d;exact is_bool ⟨.bl _,H,I,rfl,q⟩
def yo:OpR X (VQ .IsNot) (λx y H Q=>∃b c,x = .bl b/\y = .bl c/\Q (.bl (b != c)) H):=by
 intro p s j H x y v u Q I f d h;obtain⟨b,c,rfl,rfl,q⟩:=h;cases f;cases d;exact isnot_bool ⟨.bl _,H,I,rfl,q⟩
def lZ(Y:X.calm=aN):∀ {p:List (Addr × Obj)} {s:Shared} {z:St} {H:Hp} {Q:VK} {r:Addr} {n:Nat} {t u v:Tok},Inv X p z H s->IsRange s.heap r 0 n 1 t u v->n<=1000->(∀l,H l=aD->Q (.ref l) (upd H l (.lst ((Zk n).map λ(i:Nat)=>V.int i)))) ->
  wpAny (model X.prog X.w) X.A (call (.type "list") [.ref r]) (EP X p z Q) X.xe s:=by
 intro p s z H Q r n t u v I U O q;have f:Builtin.Range.small 0 n 1=aN:=small_one (by lia) (by lia) (by lia) (by lia);refine call_list_range (n:=n) (I.ok.hd Y) U f (by rw[rangeSize_one];split <;> lia) (by lia) λh' E b L hk B h=>?_;refine⟨.ref s.heap.objs.size,_,I.laid (t':=E) (o:=.lst ((Zk n).map λ(i:Nat)=>V.int i)) hk (Ze _) ?_,rfl,q _ (I.hok.fresh (Ze _))⟩;have C:b.size=n:=h.1;refine⟨by rw[Za,ZG];exact YW (yj O),b.toList,L,?_,by simpa using B⟩
 have go:∀ (m:Nat) (k:Nat) (l:List Value),l.length=m->(∀j x,l[j]?=aw x->∃E,x=Value.int (((k+j:Nat):Nat):Int) E)->aO ((List.range' k m).map λ(i:Nat)=>V.int i) l:=by
  intro m
  induction m with
  |zero=>intro k l d _;cases l with |nil=>exact .nil |cons _ _=>cases d
  |succ m ih=>
   intro k l d c;cases l with
   |nil=>cases d
   |cons x l=>
    rw[List.range'_succ,Zw];obtain⟨t,e⟩:=c 0 x rfl;refine .cons ⟨t,by simpa using e⟩ (ih (k+1) l (by simpa using d) λj y J=>?_);obtain⟨Z,e'⟩:=c (j+1) y (by simpa using J);exact⟨Z,by rw[e',show((k+(j+1):Nat):Int)=((k+1+j:Nat):Int) from by lia]⟩
 rw[List.range_eq_range'];refine go n 0 b.toList (by simpa using C) λj x c=>?_;obtain⟨T,e⟩:=h.2 j x (by simpa using c);exact⟨T,by rw[e,show(0:Int)+(j:Nat) * 1=((0+j:Nat):Int) from by lia]⟩
end
section
variable {κ:Type} [DecidableEq κ]
abbrev jD(b:List (κ × V))(k:κ):Option V:=(b.find? λc=>decide (c.1=k)).map (·.2)
abbrev l5(b:List (κ × V))(k:κ)(v:V):List (κ × V):=
 if (b.any λc=>decide (c.1=k))=aN then b.map (λc=>if c.1=k then (c.1,v) else c) else b++[(k,v)]
def iV{p:κ × V}{r:List (κ × V)}{k:κ}(e:p.1=k):jD (p::r) k=aw p.2:=by simp[jD,YH,e]
def fQ{p:κ × V}{r:List (κ × V)}{k:κ}(e:¬ p.1=k):jD (p::r) k=jD r k:=by simp[jD,YH,e]
def l6(k:κ):∀b:List (κ × V),(b.any λc=>decide (c.1=k))=(jD b k).isSome
 |[]=>rfl
 |p::r=>by
  rw[YI];by_cases e:p.1=k
  ·simp only[iV e,decide_eq_true e,Bool.true_or,X4]
  ·rw[fQ e,decide_eq_false e,Wx];exact l6 k r
def j9(b:List (κ × V))(k:κ)(v:V):(l5 b k v).length<=b.length+1:=by
 unfold l5;split
 ·rw[Za];omega
 ·rw[Zh,Zo,Z1];omega
def ug.isSome_eq(r:ug o u):o.isSome=u.isSome:=by
 cases o with
 |none=>cases u with
  |none=>rfl
  |some _=>exact(show False from r).elim
 |some _=>cases u with
  |none=>exact(show False from r).elim
  |some _=>rfl
def KV.val{c:List (κ × V)}{v:List (κ × Value)}(r:KV c v)(k:κ):ug (jD c k) (valueAt v k):=by
 unfold KV at r
 induction r with
 |nil=>exact True.intro
 |@cons p q ps qs h t ih=>
  obtain⟨d,f⟩:=h;by_cases e:p.1=k
  ·have E:q.1=k:=d.symm.trans e;have b:valueAt (q::qs) k=aw q.2:=by simp[valueAt,YH,E]
   rw[iV e,b];exact f
  ·have E:¬ q.1=k:=λz=>e (d.trans z);have b:valueAt (q::qs) k=valueAt qs k:=by simp[valueAt,YH,E]
   rw[fQ e,b];exact ih
def KV.any{b:List (κ × V)}{v:List (κ × Value)}(r:KV b v)(k:κ):(b.any λc=>decide (c.1=k))=v.any λc=>decide (c.1=k):=by
 unfold KV at r
 induction r with
 |nil=>rfl
 |cons h t I=>rw[YI,YI,I,h.1]
def KV.repl(r:KV d v)(k:κ)(j:aJ y u) :
  KV (d.map λb=>if b.1=k then (b.1,y) else b) (v.map λb=>if b.1=k then (b.1,u) else b):=by
 unfold KV at r ⊢
 induction r with
 |nil=>exact .nil
 |@cons p q ps qs h t ih=>
  rw[Zw,Zw];refine .cons ?_ ih;obtain⟨c,f⟩:=h;by_cases e:p.1=k
  ·rw[if_pos e,if_pos (c.symm.trans e)];exact⟨c,j⟩
  ·rw[if_neg e,if_neg (λz=>e (c.trans z))];exact⟨c,f⟩
def KV.put(r:KV b v)(k:κ)(c:aJ y u):KV (l5 b k y) (stored v k u):=by
 unfold l5 stored;rw[r.any k];by_cases e:(v.any λd=>decide (d.1=k))=aN
 ·rw[if_pos e,if_pos e];exact r.repl k c
 ·rw[if_neg e,if_neg e];exact Paired.snoc r ⟨rfl,c⟩
def KV.length(r:KV k v):k.length=v.length:=Paired.length r
end
def oG(r:aJ (kV k) u):(a9 P w).is k u=aN:=by
 cases k with
 |inl i=>obtain⟨t,e⟩:=(show ∃t,u=Value.int i t from r);subst e;exact rj P w i t
 |inr x=>obtain⟨t,e⟩:=(show ∃t,u=Value.str x t from r);subst e;exact rm P w x t
def oH:∀ {b:List Key} {u:List Value},aO (b.map kV) u->ItemsAre (a9 P w) b u
 |[],_,r=>by rw[Yn] at r;cases r;exact .nil
 |k::b,_,r=>by
  rw[Zw] at r;cases r with
  |cons h t=>exact .cons (oG h) (oH t)
@[inline]abbrev KT(H:Hp):List (List NK × V)->List (List NK × Addr × Value)->Prop:=Paired λp q=>p.1=q.1/\pV H p.1 q.2.1/\aJ p.2 q.2.2
def KT.val{H:Hp}{c:List (List NK × V)}{X:List (List NK × Addr × Value)}(r:KT H c X)(k:List NK):ug (jD c k) ((atKey X k).map (·.2)):=by
 induction r with
 |nil=>exact True.intro
 |@cons p q ps qs h t ih=>
  obtain⟨d,_,f⟩:=h;by_cases e:p.1=k
  ·have E:q.1=k:=d.symm.trans e;have b:atKey (q::qs) k=aw q.2:=by simp[atKey,YH,E]
   rw[iV e,b];exact f
  ·have E:¬ q.1=k:=λz=>e (d.trans z);have b:atKey (q::qs) k=atKey qs k:=by simp[atKey,YH,E]
   rw[fQ e,b];exact ih
def KT.repl(r:KT H d X)(k:List NK)(n:aJ y u) :
  KT H (d.map λc=>if c.1=k then (c.1,y) else c) (X.map (putAt k u)):=by
 induction r with
 |nil=>exact .nil
 |@cons p q ps qs h t ih=>
  rw[Zw,Zw];refine .cons ?_ ih;obtain⟨b,f,j⟩:=h;unfold putAt;by_cases e:p.1=k
  ·rw[if_pos e,if_pos (b.symm.trans e)];exact⟨b,f,n⟩
  ·rw[if_neg e,if_neg (λz=>e (b.trans z))];exact⟨b,f,j⟩
def KT.put(r:KT H c X)(k:List NK)(hb:pV H k b)(d:aJ y u) :
  KT H (l5 c k y) (storedH X k b u):=by
 have e:(c.any λf=>decide (f.1=k))=(atKey X k).isSome:=by
  rw[l6,(r.val k).isSome_eq,Xo]
 unfold l5 storedH;rw[e];by_cases q:(atKey X k).isSome=aN
 ·rw[if_pos q,if_pos q];exact r.repl k d
 ·rw[if_neg q,if_neg q];exact Paired.snoc r ⟨rfl,hb,d⟩
def KT.keeps(r:KT H k xs)(h:∀b y,H b=aw (.tup y)->c b=aw (.tup y)):KT c k xs:=
 Paired.mapP r λ_ _ z=>⟨z.1,z.2.1.mono h,z.2.2⟩
section
variable {P:Program} {w:World} {H:Hp} {h:Heap} {a:Addr}
def Hv(ok:HOk P w H h)(e:Rd H a u):bp P w H h a u:=e.ok ok
def rP(ok:HOk P w H h)(e:Rd H a (.dK k)):k.length<=sizeLine/\(a == Uo)=aS/\∃vs,KV k vs/\h.DictOf (a9 P w) a vs:=
 show bp P w H h a (.dK k) from Hv ok e
def NW(ok:HOk P w H h)(e:H a=aw (.dK k)):k.length<=sizeLine/\(a == Uo)=aS/\∃vs,KV k vs/\h.DictOf (a9 P w) a vs:=rP ok (.inl e)
def Ah(ok:HOk P w H h)(e:H a=aw (.tup (k.map kV))):IsTupleKey (a9 P w) h k a:=by
 obtain⟨_,I,r,o,c,b,n,d,_⟩:=(show bp P w H h a (.tup (k.map kV)) from ok a _ e);exact⟨o,I.toArray,n,c,b,d,by simpa using oH r⟩
def eO{c:List NK}(ok:HOk P w H h)(e:pV H c a):(fM P w).is h c a:=by
 obtain⟨X,E,d⟩:=e;obtain⟨_,I,r,o,u,j,n,v,_⟩:=(show bp P w H h a (.tup X) from ok a _ E);refine⟨o,I.toArray,n,u,j,v,?_⟩
 have all:∀ {c:List NK} {X:List V} {us:List Value},Paired (xX H) c X->aO X us->Paired (NIs P w h) c us:=by
  intro c X us p
  induction p generalizing us with
  |nil=>intro q;cases q;exact .nil
  |@cons k x c X hk _ ih=>
   intro q;cases q with
   |cons Q f=>
    refine .cons ?_ (ih f);cases k with
    |non=>cases hk;exact Q
    |one k=>cases hk;exact oG (P:=P) (w:=w) Q
    |tup y=>obtain⟨b,rfl,hb⟩:=hk;cases Q;exact⟨b,rfl,Ah ok hb⟩
 simpa using all d r
def rQ(ok:HOk P w H h)(e:Rd H a (.dT k)):k.length<=sizeLine/\(a == Uo)=aS ∧
  ∃xs,KT H k xs/\h.DictOfH (fM P w) a xs:=by
 obtain⟨z,y,xs,r,o,E,b,f,c,j,h4,d⟩:=(show bp P w H h a (.dT k) from Hv ok e);refine⟨z,y,xs,r,o,E,b,f,c,j,h4,λx hx=>?_,d⟩
 have all:∀ {l:List (List NK × V)} {m:List (List NK × Addr × Value)},KT H l m->∀x ∈ m,(fM P w).is h x.1 x.2.1:=by
  intro l m q
  induction q with
  |nil=>intro x hx;exact nomatch hx
  |@cons p q ps qs hq t ih=>
   intro x hx;rcases Zn.mp hx with e |hx
   ·subst e;exact eO ok (by rw[<-hq.1];exact hq.2.1)
   ·exact ih x hx
 exact all r x hx
def NX(ok:HOk P w H h)(e:H a=aw (.dT k)):k.length<=sizeLine/\(a == Uo)=aS ∧
  ∃xs,KT H k xs/\h.DictOfH (fM P w) a xs:=rQ ok (.inl e)
end
abbrev Ai(H:Hp)(a:Addr)(y:V)(r:Option V):Prop:=
 (∃c k,Rd H a (.dK c)/\y=kV k/\r=jD c k)\/∃c k b,Rd H a (.dT c)/\y = .ref b/\pV H k b/\r=jD c k
abbrev NY(H:Hp)(a:Addr)(y v:V)(h:Hp):Prop:=
 (∃c k,H a=aw (.dK c)/\y=kV k/\c.length < sizeLine/\h=upd H a (.dK (l5 c k v))) ∨
 ∃c k b,H a=aw (.dT c)/\y = .ref b/\pV H k b/\c.length < sizeLine/\h=upd H a (.dT (l5 c k v))
section
variable {X:Cx} {pins:List (Addr × Obj)} {σ:St} {H:Hp} {s:Shared} {a:Addr} {y v:V} {u r:Value} {o:Option V} {A:Around} {E:Value->Shared->Prop}
def Inv.big(I:Inv X pins σ H s):Uo < s.heap.objs.size:=by
 have h:V1 < s.heap.objs.size:=(I.mod.glob.keeps I.bk).lt;exact Nat.lt_trans (by decide) h
def yp(L:A.units+2 < cLine)(I:Inv X pins σ H s)(g:Ai H a y (aw v))(C:aJ y u)(h:∀d J,Inv X pins σ H J->aJ v d->Q d J) :
  wpAny (model X.prog X.w) A (getItem (.ref a) u) Q E s:=by
 rcases g with ⟨B,k,e,q,l⟩ |⟨B,k,b,e,q,U,l⟩
 ·subst q;obtain⟨z,hd,O,rel,f⟩:=rP I.hok e;obtain⟨d,j,c⟩:=ug.some_of (v:=v) (o:=valueAt O k) (by rw[l];exact rel.val k);exact wpAny_getItem_of (oG C) f.mapOf j (h d _ (I.tok _) c)
 ·subst q;cases (show u=Value.ref b from C);obtain⟨z,hd,T,rel,f⟩:=rQ I.hok e;obtain⟨d,j,c⟩:=ug.some_of (v:=v) (o:=(atKey T k).map (·.2)) (by rw[l];exact rel.val k);obtain⟨p,Y,n⟩:=ZV.mp j;refine wpAny_getItem_heap (show _+1 < _ from L) (eO I.hok U) f Y ?_;rw[n];exact h d _ (I.tok _) c
def QI(p:A.units+2 < cLine)(I:Inv X pins σ H s)(g:Ai H a y o)(n:aJ y u)(h:∀j,Inv X pins σ H j->Q (.bool o.isSome) j) :
  wpAny (model X.prog X.w) A (VQ .In u (.ref a)) Q E s:=by
 rcases g with ⟨f,k,e,c,l⟩ |⟨f,k,b,e,c,B,l⟩
 ·subst c;obtain⟨z,hd,J,rel,d⟩:=rP I.hok e;refine wpAny_in_of (oG n) hd d.mapOf ?_;rw[<-(rel.val k).isSome_eq,<-l];exact h _ (I.tok _)
 ·subst c;cases (show u=Value.ref b from n);obtain⟨z,hd,C,rel,d⟩:=rQ I.hok e;refine wpAny_in_heap (show _+1 < _ from p) (eO I.hok B) hd d ?_;have q:=(rel.val k).isSome_eq;rw[Xo] at q;rw[<-q,<-l];exact h _ (I.tok _)
def D5(p:A.units+2 < cLine)(I:Inv X pins σ H s)(g:Ai H a y o)(n:aJ y u)(h:∀j,Inv X pins σ H j->Q (.bool (!o.isSome)) j) :
  wpAny (model X.prog X.w) A (VQ .NotIn u (.ref a)) Q E s:=by
 rcases g with ⟨f,k,e,c,l⟩ |⟨f,k,b,e,c,B,l⟩
 ·subst c;obtain⟨z,hd,J,rel,d⟩:=rP I.hok e;refine wpAny_notIn_of (oG n) hd d.mapOf ?_;rw[<-(rel.val k).isSome_eq,<-l];exact h _ (I.tok _)
 ·subst c;cases (show u=Value.ref b from n);obtain⟨z,hd,C,rel,d⟩:=rQ I.hok e;refine wpAny_notIn_heap (show _+1 < _ from p) (eO I.hok B) hd d ?_;have q:=(rel.val k).isSome_eq;rw[Xo] at q;rw[<-q,<-l];exact h _ (I.tok _)
def wy{T:Nat}(I:Inv X pins σ H s)(d:Mut (H a))(hs:Heap.SameBut a s.heap h)(c:∃q,h.get? a=aw q)(new:bp X.prog X.w (upd H a ob) h a ob) :
  Inv X pins σ (upd H a ob) { s with heap:=h,toks:=T }:=
 I.write (x:=a) (e:=a) d (.inl rfl) (λb q hb z=>(hs.2 b hb).trans z) c new
def Jl(z:k.length<=sizeLine)(hd:(a == Uo)=aS)(rel:KV k b)(d:h.DictOf (a9 P w) a b) :
  bp P w c h a (.dK k):=⟨z,hd,b,rel,d⟩
def yq(hu:A.units+2 < cLine)(I:Inv X pins σ H s)(g:NY H a y v H')(L:aJ y u)(O:aJ v r)(h:∀Y,Inv X pins σ H' Y->Q () Y) :
  wpAny (model X.prog X.w) A (setItem (.ref a) u r) Q E s:=by
 rcases g with ⟨d,k,e,J,l,p⟩ |⟨d,k,b,e,J,Z,l,p⟩
 ·subst J p;obtain⟨z,hd,vs,rel,n⟩:=NW I.hok e;have B:vs.length<=sizeLine:=by rw[<-rel.length];exact z
  have C:(l5 d k v).length<=sizeLine:=by have:=j9 d k v;omega
  refine wpAny_setItem_pairs (hsz:=B) (oG L) n λU f hs=>h _ ?_;have he:∃q,U.get? a=aw q:=let ⟨q,_,_,j,_⟩:=f;⟨q,j⟩;exact wy I (by rw[e];exact True.intro) hs he (Jl C hd (rel.put k O) f)
 ·subst J p;cases (show u=Value.ref b from L);obtain⟨z,hd,xs,rel,n⟩:=NX I.hok e;have B:xs.length<=sizeLine:=by rw[<-Paired.length rel];exact z
  have C:(l5 d k v).length<=sizeLine:=by have:=j9 d k v;omega
  refine wpAny_setItem_heap (hsz:=B) (show _+1 < _ from hu) (eO I.hok Z) n λU f hs=>h _ ?_;obtain⟨q,es,ep,j,h2,h3,h4,_,h5⟩:=f;refine wy I (by rw[e];exact True.intro) hs ⟨q,j⟩ ⟨C,hd,_,(rel.put k Z O).keeps λc ys T=>?_,q,es,ep,j,h2,h3,h4,h5⟩;rw[aB (rB T e (λz=>nomatch z))];exact T
end
def rR(I:Inv X p f H s)(g:Ai H a y o):s.TypeIs (.ref a) "dict" := by
 rcases g with ⟨c,k,e,_,_⟩ |⟨c,k,b,e,_,_,_⟩
 ·obtain⟨_,_,v,_,d⟩:=rP I.hok e;exact d.typeIs
 ·obtain⟨_,_,h,_,d⟩:=rQ I.hok e;exact d.typeIs
def Aj(h:Heap)(hb:Uo < h.objs.size):bp P w H (h.push { cls:=.type "dict", data:=.dict #[] }) h.objs.size (.dT []):=
 ⟨YK _,beq_eq_false_iff_ne.mpr (Ne.symm (ZI hb)),[],.nil,_,#[],0,ZA _ rfl,⟨rfl,rfl,rfl⟩,rfl,rfl,XN⟩
abbrev Ak:TE:=λ_ H Q=>∀p,H p=aD->Q (.ref p) (upd H p (.dT []))
section
variable {X:Cx} {pos:Pos}
def Al:PE X (.Dict [] [] pos) Ak:=λp s b H Q I h=>
 wpAny_Dict_empty ⟨.ref s.heap.objs.size,_,I.laid (a:=s.heap.objs.size) (o:=.dT []) (t':=s.toks) (λ_ _ q=>Zf _ q) (Ze _) (Aj s.heap I.big),rfl,h _ (I.hok.fresh (Ze _))⟩
end
end L2
namespace HT
open PySem PyProof.Rows
open AutoSeq1 (wpAny_loadPart')
section
variable {prog:Program} {w:World} {A:Around} {E:Value->Shared->Prop} {s:Shared}
def kJ{i:Nat}(h:s.heap.IsTupleIter b t i)(k:s.heap.IsTuple t I)(j:I[i]?=aw x)
  (n:∀d,d.IsTupleIter b t (i+1)->Heap.SameBut b s.heap d->Q x { s with heap:=d }):wpAny (model prog w) A (Builtin.SmallTypes.nextOf (.ref b)) Q E s:=by
 obtain⟨o,ho,p,hd⟩:=id h;obtain⟨O,c,_,q,f⟩:=k;unfold Builtin.SmallTypes.nextOf
 refine Us (wpAny_callSpecial?_slot (name:=Str.ofString "__next__") h.typeIs W5
  (Uu W5 h.typeIs WV ?_ (WO _)))
 show wpAny _ _ (field (.ref b) 0 >>= _) _ _ s;refine Us (Ux ho hd (x:=.ref t) rfl ?_);show wpAny _ _ (if (Value.ref t == Value.none)=aN then _ else _) _ _ s;rw[if_neg (show ¬ ((Value.ref t == Value.none)=aN) from Zg)];show wpAny _ _ (field (.ref b) 1 >>= _) _ _ s;refine Us (Ux ho hd (x:=.int i 0) rfl ?_);show wpAny _ _ (Uf (.ref t) >>= _) _ _ s;refine Us (UR c f ?_);simp only[Zy,j];refine Us (wpAny_setField ho hd (by simp) (UI ⟨x,rfl,UI (n _ ?_ (Heap.SameBut.update ..))⟩))
 exact⟨_,Yi _ ho (Obj.isFreed_of_fields (Obj.data_mapFields hd _)),(Obj.cls_mapFields ..).trans p,by
  rw[Obj.data_mapFields hd];simp[rawInt]⟩
def l8{i:Nat}(j:A.handled=aD)(h:s.heap.IsTupleIter b t i)(k:s.heap.IsTuple t I)(p:I[i]?=aD)
  (n:∀d e,Heap.ExtBut b s.heap d->(∃o,d.get? e=aw o/\o.cls = .type "StopIteration")->E (.ref e) { s with heap:=d }):wpAny (model prog w) A (Builtin.SmallTypes.nextOf (.ref b)) Q E s:=by
 obtain⟨o,ho,u,hd⟩:=id h;obtain⟨O,c,_,q,f⟩:=k;unfold Builtin.SmallTypes.nextOf
 refine Us (wpAny_callSpecial?_slot (name:=Str.ofString "__next__") h.typeIs W5
  (Uu W5 h.typeIs WV ?_ (WO _)))
 show wpAny _ _ (field (.ref b) 0 >>= _) _ _ s;refine Us (Ux ho hd (x:=.ref t) rfl ?_);show wpAny _ _ (if (Value.ref t == Value.none)=aN then _ else _) _ _ s;rw[if_neg (show ¬ ((Value.ref t == Value.none)=aN) from Zg)];show wpAny _ _ (field (.ref b) 1 >>= _) _ _ s;refine Us (Ux ho hd (x:=.int i 0) rfl ?_);show wpAny _ _ (Uf (.ref t) >>= _) _ _ s;refine Us (UR c f ?_);simp only[Zy,p];refine Us (UQ (Us (wpAny_setField ho hd (by simp) ?_)));show wpAny _ _ (newExc (.type "StopIteration") [] >>= _) _ _ _;refine Us ?_;simp only[newExc,newTuple];refine Us (UF ?_ (by size_fits));refine Us (m:=firstArgMember _ _) (UG (a:=Value.none) (by first |rfl |(simp only[firstArgMember];rfl)) ?_);refine UF ?_ (by size_fits);simp only[raiseNew];refine Us (wpAny_handled ?_)
 first |rw[show A.in1.handled=aD from j] |rw[j]
 refine Us (UI (wpAny_throw ?_));exact n _ _ (((Heap.SameBut.update ..).extBut.push _).push _) ⟨_,ZA _ rfl,rfl⟩
end
def Am(k:A.handled=aD)(c l:Addr)(f:l ≠ c)(I:Array Value) :
  Draws prog w A c [c,l] I.size (λi v=>I[i]?=aw v) (λi h=>h.IsTupleIter c l i/\h.IsTuple l I) where
 live:=λ_ _ st=>let ⟨o,ho,_⟩:=st.1;⟨o,ho⟩
 frame:=λ_ _ _ st j=>⟨st.1.at λo e=>j c (by simp) o e,let ⟨o,e,r⟩:=st.2;⟨o,j l (by simp) o e,r⟩⟩
 item:=λi s Q E hi st q=>by
  refine kJ st.1 st.2 (x:=I[i]) (by simp[hi]) λp d b=>?_;exact q _ p s.toks (by simp[hi]) ⟨d,let ⟨o,e,r⟩:=st.2;⟨o,b.extBut l o f e,r⟩⟩ b
 done:=λs Q E st n=>l8 k st.1 st.2 (by simp) n
def rT(l:Addr)(items:Array Value)(n:Nat)(j:Option Addr)(sl:Array (Option Value)) :
  Meets (Builtin.«enumerate.__new__» ⟨[.type "enumerate", .ref l],[]⟩) (λ_ R s=>s.heap.get? l=aw { cls:=.type "tuple", dict:=j,data:=.seq items n,slots:=sl } ∧
   R (.ok (.ret (.ref (s.heap.push { cls:=.type "tuple_iterator", data:=.fields #[.ref l,.int 0 0] }).objs.size)))
    { s with heap:=(s.heap.push { cls:=.type "tuple_iterator", data:=.fields #[.ref l,.int 0 0] }).push { cls:=.type "enumerate", data:=.fields #[.none,.bool aS,.ref s.heap.objs.size,rawInt 0,.none,.none] } }):=
 .of_wp λprog w A R s h=>by
  obtain⟨p,g,d,T,os⟩:=s;obtain⟨b,h⟩:=h;have k:=sub_enumerate;have f:Heap.IsTuple (Shared.heap ⟨p,g,d,T,os⟩) l items:=⟨_,b,rfl,n,rfl⟩
  wp_walk using UD b
  refine wpAny_stack_any λst=>UI ?_;split
  ·rename_i c _ _ _ _ _;cases (c == Value.type "enumerate")
   ·wp_walk using UD b,UM f
    exact⟨_,rfl,h⟩
   ·wp_walk using UD b,UM f
    exact⟨_,rfl,h⟩
  ·wp_walk using UD b,UM f
   exact⟨_,rfl,h⟩
def uy(u:IsTup s.heap l I)
  (h:∀d,IsEnum d (s.heap.objs.size+1) s.heap.objs.size 0 .none->d.IsTupleIter s.heap.objs.size l 0->d.objs.size=s.heap.objs.size+2 ->
   (∀b o,s.heap.get? b=aw o->d.get? b=aw o)->Q (.ref (s.heap.objs.size+1)) { s with heap:=d }) :
  wpAny (model prog w) A (call (.type "enumerate") [.ref l]) Q E s:=by
 obtain⟨⟨c,k,q,sl⟩,v,j,n,hd⟩:=u;replace j:c = .type "tuple" := j;replace hd:q = .seq I n:=hd;subst j hd
 refine callType_new PySem.F.called_enumerate (by decide) (PySem.F.typeCall_enumerate_1 _) (PySem.F.newCall_enumerate_1 _) (λobj=>PySem.F.args_object_init_2 obj _) PySem.F.entry_enumerate_new
  (rT l I n k sl) ⟨v,?_⟩
 have f:(s.heap.push { cls:=.type "tuple_iterator", data:=.fields #[.ref l,.int 0 0] }).objs.size=s.heap.objs.size+1:=Yt ..;show _/\_;rw[f]
 have p:IsEnum ((s.heap.push { cls:=.type "tuple_iterator", data:=.fields #[.ref l,.int 0 0] }).push
   { cls:=.type "enumerate", data:=.fields #[.none,.bool aS,.ref s.heap.objs.size,rawInt 0,.none,.none] }) (s.heap.objs.size+1) s.heap.objs.size 0 .none:=by
  have:=ZA (s.heap.push { cls:=.type "tuple_iterator", data:=.fields #[.ref l,.int 0 0] })
   (o:={ cls:=.type "enumerate", data:=.fields #[.none,.bool aS,.ref s.heap.objs.size,rawInt 0,.none,.none] }) rfl
  rw[f] at this;exact this
 exact⟨⟨_,p,rfl⟩,h _ p ⟨_,Zf _ (ZA _ rfl),rfl,rfl⟩ (by rw[Yt,f]) λb o x=>Zf _ (Zf _ x)⟩
end HT
namespace L2
open PySem PySem.Spec PyProof.Rows
abbrev Ite(K:Vk)(a:Addr)(b:Vk->Hp->Addr->List V->Prop):It:=
 ⟨λi H=>∃X x,b K H a X/\X[i]?=aw x,λi H x h=>∃T,H T=aD/\x = .ref T/\∀X v,b K H a X->X[i]?=aw v->h=upd H T (.tup [.int i,v]),λi H=>∃X,b K H a X/\X.length=i⟩
def Inv.turnedLaid{X:Cx}{p:List (Addr × Obj)}{y:St}{H:Hp}{s:Shared}{f:Heap}{T:Addr}{o:HO}{t':Nat}{C:List Addr}(I:Inv X p y H s)(d:∀b ∈ C,gX X p H b)
  (k:∀b ob,b ∉ C->s.heap.get? b=aw ob->f.get? b=aw ob) (E:s.heap.objs.size<=T) (new:bp X.prog X.w (upd H T o) f T o):Inv X p y (upd H T o) { s with heap:=f,toks:=t' }:=by
 have fr:=I.hok.fresh E;have neT:∀b ob,s.heap.get? b=aw ob->b ≠ T:=λb ob e=>ZI (ZH (Zt e) E)
 refine I.step (g':=s.gens) (d':=s.drawn) (ch:=C) (λb hb=>⟨(d b hb).2.2.2.1,(d b hb).2.1,(d b hb).2.2.2.2.1,(d b hb).2.2.2.2.2⟩) (λb ob _ _ h e _=>k b ob h e) (λb ob _ _ h e _=>⟨ob.slots,k b ob h e⟩)
  (λb ob _ e n=>by rw[aB (neT b ob e)];exact n) (λb ob h e=>⟨ob,k b ob h e⟩) (λb B q=>by rw[aB (aV q fr)];exact q) (λb u B q=>by rw[aB (aV q fr)];exact q)
  (λb ps q=>⟨#[],by rw[aB (aV q fr),q];simp⟩) (λm U=>?_) (λb u q=>?_) I.bare
 ·obtain⟨ob,J,O,j,L⟩:=U;exact⟨ob,J,O,k _ ob (λz=>(d _ z).2.1 rfl) j,L⟩
 ·by_cases hb:b=T
  ·subst hb;rw[bf] at q;cases q;exact new
  ·rw[aB hb] at q;refine(I.hok b u q).stay (λc v h Q=>k c v (λz=>?_) Q) (λc q=>by rw[aB (aV q fr)];exact q) λc B q=>by rw[aB (aV q fr)];exact q
   have n:=(d c z).1;rcases h with w |w
   ·rw[w,q] at n;cases n
   ·rw[w] at n;cases n
def Inv.turnedAll{X:Cx}{p:List (Addr × Obj)}{j:St}{H:Hp}{s:Shared}{y:Heap}{t':Nat}{C:List Addr}(I:Inv X p j H s)(d:∀b ∈ C,gX X p H b)
  (k:∀b ob,b ∉ C->s.heap.get? b=aw ob->y.get? b=aw ob):Inv X p j H { s with heap:=y,toks:=t' }:=by
 refine I.step (g':=s.gens) (d':=s.drawn) (ch:=C) (λb hb=>⟨(d b hb).2.2.2.1,(d b hb).2.1,(d b hb).2.2.2.2.1,(d b hb).2.2.2.2.2⟩) (λb ob _ _ h e _=>k b ob h e) (λb ob _ _ h e _=>⟨ob.slots,k b ob h e⟩)
  (λb ob _ e n=>n) (λb ob h e=>⟨ob,k b ob h e⟩) (λb B q=>q) (λb u B q=>q)
  (λb ps q=>⟨#[],by rw[q];simp⟩) (λm O=>?_) (λb u q=>?_) I.bare
 ·obtain⟨ob,E,L,f,J⟩:=O;exact⟨ob,E,L,k _ ob (λz=>(d _ z).2.1 rfl) f,J⟩
 ·refine(I.hok b u q).stay (λc v h Q=>k c v (λz=>?_) Q) (λc q=>q) λc B q=>q;have n:=(d c z).1;rcases h with w |w
  ·rw[w,q] at n;cases n
  ·rw[w] at n;cases n
def uz{P:Program}{w:World}{K:Vk}{elts:List Expr}{x1:Nat}{tp:Pos}(a e it:Addr)(L:e ≠ it) :
  Turn P w K (.Tuple elts x1 tp) (Ite K a SqL) [e,it] e (λi h=>(∃O,IsEnum h e it i O)/\h.IsListIter it a i) where
 mem:=by simp
 obj:=λi h st b hb=>by
  obtain⟨⟨O,C⟩,o,Q,c,d⟩:=st;rcases Zn.mp hb with z |z
  ·subst z;exact⟨_,C,λv z=>by have z':Data.fields _=Data.cell v:=z;cases z'⟩
  ·have z':=ZM.mp z;subst z';exact⟨o,Q,λv z=>by rw[d] at z;cases z⟩
 keep:=λi h h' st k=>⟨let ⟨O,C⟩:=st.1;⟨O,k e (by simp) _ C⟩,st.2.at λo Q=>k it (by simp) o Q⟩
 item:=by
  intro X hP hw hK hc i pins s σ H E I hf st hg;subst hP hw hK;obtain⟨xs,x,hq,hx⟩:=hg;obtain⟨f,rv,p,hz⟩:=I.list hq;obtain⟨u,hu,ru⟩:=rv.get hx;obtain⟨⟨O,C⟩,B⟩:=st;have Z:s.heap.IsList a f.toArray:=p.isList
  have hae:e ≠ a:=λz=>by
   subst z;obtain⟨o,ho,hc',n,j⟩:=id Z;rw[C] at ho;cases ho;have z':Data.fields _=Data.seq f.toArray n:=j;cases z'
  have U:a ≠ it:=λz=>by
   subst z;obtain⟨o,ho,hc',n,j⟩:=id Z;obtain⟨o',T,c',d'⟩:=id B;rw[T] at ho;cases ho;rw[d'] at j;cases j
  have hi:i < f.toArray.size:=by
   have:=(Zb.mp hu).1
   simpa using this
  refine UO (Draws.list (A:=X.A.in1) (I.ok.hd hc) it a U f.toArray) C ⟨B,Z⟩ hi L (by simp[L,hae]) λy h' tk hP ho hs' hT hsz hk=>?_
  have ey:y=u:=by
   have z:f.toArray[i]?=aw u:=by simpa using hu
   rw[z] at hP;exact(Option.some.inj hP).symm
  subst ey;refine⟨_,rfl,?_⟩;refine UC ho λh2 he2 Y=>?_;have J:e < s.heap.objs.size:=Zt C;have hilt:it < s.heap.objs.size:=by obtain⟨o,Q,_⟩:=B;exact Zt Q
  have hT2:h2.get? s.heap.objs.size=aw { cls:=.type "tuple", data:=.seq #[.int i tk,y] }:=(Y.2 _ (X6 J)).trans hT;have fresh:=I.hok.fresh (Ze s.heap.objs.size);refine⟨.ref s.heap.objs.size,upd H s.heap.objs.size (.tup [.int i,x]),?_,rfl,⟨_,fresh,rfl,λys v hy hv=>?_⟩,⟨⟨y,by simpa using he2⟩,hs'.1.at λo Q=>(Y.2 it (Ne.symm L)).trans Q⟩,λb hb=>?_⟩
  ·exact I.turnedLaid (t':=tk+1) hf (λb ob hb eb=>(Y.2 b λz=>hb (by simp[z])).trans (hk b ob (λz=>hb (by simp[z])) (λz=>hb (by simp[z])) eb)) (Ze _)
    ⟨by show 2<=sizeLine;decide,[.int i tk,y],.cons ⟨tk,rfl⟩ (.cons ru .nil),⟨_,hT2,rfl,_,rfl,rfl⟩⟩
  ·rw[I.list_inj hy hq,hx] at hv;cases hv;rfl
  ·rcases Zn.mp hb with z |z
   ·rw[z,aB (ZI J)];exact(hf e (by simp)).1
   ·rw[ZM.mp z,aB (ZI hilt)];exact(hf it (by simp)).1
 done:=by
  intro X hP hw hK hc i pins s σ H E I hf st hg;subst hP hw hK;obtain⟨xs,hq,hx⟩:=hg;obtain⟨f,rv,p,hz⟩:=I.list hq;obtain⟨⟨O,C⟩,B⟩:=st;have Z:s.heap.IsList a f.toArray:=p.isList
  have U:a ≠ it:=λz=>by
   subst z;obtain⟨o,ho,hc',n,j⟩:=id Z;obtain⟨o',T,c',d'⟩:=id B;rw[T] at ho;cases ho;rw[d'] at j;cases j
  have hn:f.toArray.size=i:=by rw[Zl,<-rv.length,hx]
  subst hn;refine UN (Draws.list (A:=X.A.in1) (I.ok.hd hc) it a U f.toArray) C ⟨B,Z⟩ λh' eb=>⟨rfl,?_⟩;exact I.turnedAll (t':=s.toks) hf λb ob hb q=>eb b ob (λz=>hb (by simp[z])) q
 self:=λ_ _ _ _ _ st h=>let ⟨⟨O,C⟩,_⟩:=st;UJ C h
def uA{P:Program}{w:World}{K:Vk}{elts:List Expr}{x1:Nat}{tp:Pos}(a e it:Addr)(L:e ≠ it) :
  Turn P w K (.Tuple elts x1 tp) (Ite K a SqT) [e,it] e (λi h=>(∃O,IsEnum h e it i O)/\h.IsTupleIter it a i) where
 mem:=by simp
 obj:=λi h st b hb=>by
  obtain⟨⟨O,C⟩,o,Q,c,d⟩:=st;rcases Zn.mp hb with z |z
  ·subst z;exact⟨_,C,λv z=>by have z':Data.fields _=Data.cell v:=z;cases z'⟩
  ·have z':=ZM.mp z;subst z';exact⟨o,Q,λv z=>by rw[d] at z;cases z⟩
 keep:=λi h h' st k=>⟨let ⟨O,C⟩:=st.1;⟨O,k e (by simp) _ C⟩,st.2.at λo Q=>k it (by simp) o Q⟩
 item:=by
  intro X hP hw hK hc i pins s σ H E I hf st hg;subst hP hw hK;obtain⟨xs,x,hq,hx⟩:=hg;obtain⟨f,rv,p,hz⟩:=I.tuple hq;obtain⟨u,hu,ru⟩:=rv.get hx;obtain⟨⟨O,C⟩,B⟩:=st;have Z:s.heap.IsTuple a f.toArray:=p
  have hae:e ≠ a:=λz=>by
   subst z;obtain⟨o,ho,hc',n,j⟩:=id Z;rw[C] at ho;cases ho;have z':Data.fields _=Data.seq f.toArray n:=j;cases z'
  have U:a ≠ it:=λz=>by
   subst z;obtain⟨o,ho,hc',n,j⟩:=id Z;obtain⟨o',T,c',d'⟩:=id B;rw[T] at ho;cases ho;rw[d'] at j;cases j
  have hi:i < f.toArray.size:=by
   have:=(Zb.mp hu).1
   simpa using this
  refine UO (HT.Am (A:=X.A.in1) (I.ok.hd hc) it a U f.toArray) C ⟨B,Z⟩ hi L (by simp[L,hae]) λy h' tk hP ho hs' hT hsz hk=>?_
  have ey:y=u:=by
   have z:f.toArray[i]?=aw u:=by simpa using hu
   rw[z] at hP;exact(Option.some.inj hP).symm
  subst ey;refine⟨_,rfl,?_⟩;refine UC ho λh2 he2 Y=>?_;have J:e < s.heap.objs.size:=Zt C;have hilt:it < s.heap.objs.size:=by obtain⟨o,Q,_⟩:=B;exact Zt Q
  have hT2:h2.get? s.heap.objs.size=aw { cls:=.type "tuple", data:=.seq #[.int i tk,y] }:=(Y.2 _ (X6 J)).trans hT;have fresh:=I.hok.fresh (Ze s.heap.objs.size);refine⟨.ref s.heap.objs.size,upd H s.heap.objs.size (.tup [.int i,x]),?_,rfl,⟨_,fresh,rfl,λys v hy hv=>?_⟩,⟨⟨y,by simpa using he2⟩,hs'.1.at λo Q=>(Y.2 it (Ne.symm L)).trans Q⟩,λb hb=>?_⟩
  ·exact I.turnedLaid (t':=tk+1) hf (λb ob hb eb=>(Y.2 b λz=>hb (by simp[z])).trans (hk b ob (λz=>hb (by simp[z])) (λz=>hb (by simp[z])) eb)) (Ze _)
    ⟨by show 2<=sizeLine;decide,[.int i tk,y],.cons ⟨tk,rfl⟩ (.cons ru .nil),⟨_,hT2,rfl,_,rfl,rfl⟩⟩
  ·rw[I.tuple_inj hy hq,hx] at hv;cases hv;rfl
  ·rcases Zn.mp hb with z |z
   ·rw[z,aB (ZI J)];exact(hf e (by simp)).1
   ·rw[ZM.mp z,aB (ZI hilt)];exact(hf it (by simp)).1
 done:=by
  intro X hP hw hK hc i pins s σ H E I hf st hg;subst hP hw hK;obtain⟨xs,hq,hx⟩:=hg;obtain⟨f,rv,p,hz⟩:=I.tuple hq;obtain⟨⟨O,C⟩,B⟩:=st;have Z:s.heap.IsTuple a f.toArray:=p
  have U:a ≠ it:=λz=>by
   subst z;obtain⟨o,ho,hc',n,j⟩:=id Z;obtain⟨o',T,c',d'⟩:=id B;rw[T] at ho;cases ho;rw[d'] at j;cases j
  have hn:f.toArray.size=i:=by rw[Zl,<-rv.length,hx]
  subst hn;refine UN (HT.Am (A:=X.A.in1) (I.ok.hd hc) it a U f.toArray) C ⟨B,Z⟩ λh' eb=>⟨rfl,?_⟩;exact I.turnedAll (t':=s.toks) hf λb ob hb q=>eb b ob (λz=>hb (by simp[z])) q
 self:=λ_ _ _ _ _ st h=>let ⟨⟨O,C⟩,_⟩:=st;UJ C h
abbrev Jm(K:Vk)(T:TA):TI:=λb H R=>T b H λv h=>∃a X,v=[.ref a]/\SqL K h a X/\R (Ite K a SqL) h
abbrev NZ(K:Vk)(T:TA):TI:=λb H R=>T b H λv h=>∃a X,v=[.ref a]/\SqT K h a X/\R (Ite K a SqT) h
section
variable {X:Cx} {elts:List Expr} {x1:Nat} {tp:Pos}
def An{a:Expr}{T:TA}{p d:Pos}(hg:Gl X "enumerate")(E:X.mg "enumerate" = aD)(B:PA X [a] T)(hs:Uj [a] X.env=[(aS,eval a X.env)]:=by rfl):PI X (.Tuple elts x1 tp) (.Call (.Name "enumerate" p) [a] [] d) (Jm X.K T):=by
 intro c s v H R I h;refine Call_ (dz I hg E WC (WJ (thn (B d c s v H _ I h) λus f ⟨vs,k,j,r1,Q⟩=>?_) hs rfl));obtain⟨l,xs,e,O,q⟩:=Q;subst e;obtain⟨u,rfl,J⟩:=bR r1;cases J;obtain⟨C,rv,Y,hz⟩:=j.list O;refine call_enumerate_list Y.isList λL y n Z hk=>UJ y ?_;have U:Inv X c v k { f with heap:=L }:=j.kept (t':=f.toks) hk;have fr:∀b,f.heap.objs.size<=b->gX X c k b:=λb hb=>j.fpOk hb (j.hok.fresh hb);refine⟨_,[f.heap.objs.size+1,f.heap.objs.size],_,_,k,rfl,U,uz l _ _ (Wf _),⟨⟨_,y⟩,n⟩,λb hb=>?_,q⟩;rcases Zn.mp hb with z |z
 ·rw[z];exact fr _ (YD _)
 ·rw[ZM.mp z];exact fr _ (Ze _)
def Jn{a:Expr}{T:TA}{p d:Pos}(hg:Gl X "enumerate")(E:X.mg "enumerate" = aD)(B:PA X [a] T)(hs:Uj [a] X.env=[(aS,eval a X.env)]:=by rfl):PI X (.Tuple elts x1 tp) (.Call (.Name "enumerate" p) [a] [] d) (NZ X.K T):=by
 intro c s v H R I h;refine Call_ (dz I hg E WC (WJ (thn (B d c s v H _ I h) λus f ⟨vs,k,j,r1,Q⟩=>?_) hs rfl));obtain⟨l,xs,e,O,q⟩:=Q;subst e;obtain⟨u,rfl,J⟩:=bR r1;cases J;obtain⟨C,rv,Y,hz⟩:=j.tuple O;refine HT.uy Y λL y n Z hk=>UJ y ?_;have U:Inv X c v k { f with heap:=L }:=j.kept (t':=f.toks) hk;have fr:∀b,f.heap.objs.size<=b->gX X c k b:=λb hb=>j.fpOk hb (j.hok.fresh hb);refine⟨_,[f.heap.objs.size+1,f.heap.objs.size],_,_,k,rfl,U,uA l _ _ (Wf _),⟨⟨_,y⟩,n⟩,λb hb=>?_,q⟩;rcases Zn.mp hb with z |z
 ·rw[z];exact fr _ (YD _)
 ·rw[ZM.mp z];exact fr _ (Ze _)
end
section
variable {X:Cx}
def rV:aR X (.type "range") (λc H Q=>∃j:Int,c=[.int j]/\∀p,H p=aD->Q (.ref p) (upd H p (.rng 0 j))):=by
 intro d s k H c U Q I r h;obtain⟨j,rfl,q⟩:=h;obtain⟨u,rfl,f⟩:=bR r;obtain⟨t,rfl⟩:=f;exact call_range_1 ⟨.ref s.heap.objs.size,_,I.laid (t':=s.toks+1+1) (o:=.rng 0 j) (λb o e=>Zf _ e) (Ze _) ⟨_,_,_,ZA _ rfl⟩,rfl,q _ (I.hok.fresh (Ze _))⟩
def qh(j:X.calm=aN):aR X (.type "list") (λb H Q=>∃ (p:Addr) (n:Nat),b=[.ref p]/\H p=aw (.rng 0 n)/\n<=1000/\∀l,H l=aD->Q (.ref l) (upd H l (.lst ((Zk n).map λ(i:Nat)=>V.int i)))):=by
 intro c s y H b U Q I r h;obtain⟨p,n,rfl,k,d,q⟩:=h;obtain⟨u,rfl,f⟩:=bR r;cases f;obtain⟨t,u,v,e⟩:=(show bp X.prog X.w H s.heap p (.rng 0 n) from I.hok p _ k);exact lZ j I e d q
end
section
variable {X:Cx}
abbrev Hw(i j k:Nat)(T:TA):TS:=λD b H=>T b H λc h=>∃v w z,c=[v,w,z]/\D.nx (((b.set i (aw v)).set j (aw w)).set k (aw z)) h
def D6{i j k:Nat}{L k2 f}(hc:X.calm=aN)(hN:X.N.Nodup)(hi:X.N[i]?=aw x)(hj:X.N[j]?=aw y)(hk:X.N[k]?=aw z)(E:i ≠ j)(Y:i ≠ k)(J:j ≠ k)
  (hx:X.env.scope.names.lookup x=aw .local) (hy:X.env.scope.names.lookup y=aw .local) (hz:X.env.scope.names.lookup z=aw .local) (ha:PA X [a,b,c] ta)
  (hw:Uk [.Tuple [.Name x px,.Name y py,.Name z pz] L pt] (.Tuple [a,b,c] k2 f) X.env=pure (aw [x,y,z]))
  (hs:Um [.Tuple [.Name x px,.Name y py,.Name z pz] L pt] (.Tuple [a,b,c] k2 f) C.line X.env=pure aS:=by rfl) :
  PS X (.Assign [.Tuple [.Name x px,.Name y py,.Name z pz] L pt] (.Tuple [a,b,c] k2 f) C) (Hw i j k ta):=by
 intro d s σ H D I h;rw[exec_Assign_arm];refine Us (UU ?_);rw[hs];refine Us (UI ?_);rw[if_neg (by decide)];refine Us (Tuple_ (thn (ha _ d s σ H _ I h) λus B ⟨vs,H1,I1,r1,Q⟩=>?_));obtain⟨v,w,z',e1,Q⟩:=Q;subst e1
 obtain⟨u,U,u3,rfl,rv,O,rz⟩:∃u U u3,us=[u,U,u3]/\aJ v u/\aJ w U/\aJ z' u3:=by
  cases r1 with
  |cons p q=>
   cases q with
   |cons p' q'=>
    cases q' with
    |cons Z q''=>
     cases q'';exact⟨_,_,_,rfl,p,p',Z⟩
 refine UF ?_ (by show 3<=sizeLine;decide);have I2:Inv X d σ H1 { B with heap:=B.heap.push { cls:=.type "tuple", data:=.seq [u,U,u3].toArray } }:=I1.kept (t':=B.toks) λb o e=>Zf _ e;rw[hw];refine Us (UI ?_);show wpAny (model X.prog X.w) X.A (do rule "assign.swapped-stores"; let n <-unpackItems (.ref B.heap.objs.size) 3 aD;VC [λv=>VH X.env z v,λv=>VH X.env y v,λv=>VH X.env x v] n.reverse;pure Flow.next) _ _ _;refine Us (UQ (Us (unpackItems_tuple (items:=#[u,U,u3]) (I.ok.hd hc) (IsTup.new B.heap _) λh' T=>?_)));have I3:=I2.kept (h':=h') (t':=B.toks) λb o e=>T b o (ZI (Zt e)) e;show wpAny _ _ (VC [λv=>VH X.env z v,λv=>VH X.env y v,λv=>VH X.env x v] [u3,U,u] >>= λ_=>pure Flow.next) _ _ _;refine Us (assignInOrder_cons (Ut (cS I3 hN hk (.inl hz) rz (λs2 I4=>?_) (.inr hz))));refine assignInOrder_cons (Ut (cS I4 hN hj (.inl hy) O (λs3 I5=>?_) (.inr hy)));refine assignInOrder_cons (Ut (cS I5 hN hi (.inl hx) rv (λs4 I6=>assignInOrder_nil (UI ?_)) (.inr hx)));refine⟨_,H1,?_,Q⟩;rw[Xq _ _ (Ne.symm J),Xq _ _ (Ne.symm Y),Xq (aw w) (aw v) (Ne.symm E)] at I6;exact I6
end
abbrev jE:List Str->Bool
 |[]=>aN
 |x::r=>!r.contains x && jE r
def iW:∀ {l:List Str},jE l=aN->l.Nodup
 |[],_=>XN
 |x::r,h=>by
  unfold jE at h;rw[bAE] at h;refine Z6.mpr ⟨λm=>?_,iW h.2⟩;have:=h.1;simp[m] at this
abbrev cmB(own:List Str)(hs:List Nat)(N:List Str)(b sc:Scope):Bool:=
 (b.kind == .function) && jE (cU hs N++own) && jE (b.names.map (·.1)) && ((cU hs N).all λx=>b.names.lookup x != aw .local && b.names.lookup x != aw .cell) &&
 (b.names.all λy=>y.2 != .free || (sc.names.lookup y.1 == aw .cell || sc.names.lookup y.1 == aw .free)) && hs.all λi=>(b.names.lookup (Ab i)).isNone
def Ao(hs:List Nat)(h:cmB own hs N b sc=aN):CmScope own hs N b sc:=by
 unfold cmB at h;simp only[bAE,Yk] at h;obtain⟨⟨⟨⟨⟨n,j⟩,q⟩,h4⟩,k⟩,d⟩:=h;refine⟨by simpa using n,iW j,iW q,λx f=>?_,λy c p=>?_,λi hi=>by simpa using d i hi⟩
 ·have:=h4 x f
  simpa using this
 ·have:=k y c;rw[p] at this
  simpa using this
section
variable {X:Cx} {tg l a:Expr} {tl:TE} {ta:TA} {es:List Expr} {t:TGs} {p pos:Pos} {n k:Nat} {elts:List Expr} {x1:Nat} {tp:Pos} {o e:Expr} {to:TE} {tt:TA} {name:Str} {apos cpos:Pos}
abbrev Hx(K:Vk):List V->Hp->VK->Prop:=λc H Q=>∃x n t b,c=[x,.ty n]/\TyOf K H x t/\Vu K t (.type n)=aw b/\Q (.bl b) H
def qi(K:Vk)(h:X.K=K:=by rfl):aR X (.builtin "isinstance") (Hx K):=h ▸ rO
end
def l9:∀ {X:List V} {U:List Value},aO X U->X.all dU=aN->U.countP (eqU x)=X.countP λy=>eqV y x
 |_,_,.nil,_=>rfl
 |y::X,u::U,.cons r t,f=>by
  rw[Yr,bAE] at f;rw[Y8,Y8,uw r f.1,l9 t f.2]
section
variable {X:Cx}
abbrev D7(K:Vk):V->List V->Hp->VK->Prop:=λx v H Q=>∃p b y,x = .ref p/\v=[y]/\SqT K H p b/\dU y=aN/\b.all dU=aN/\Q (.int ((b.countP λz=>eqV z y:Nat):Int)) H
def yr(K:Vk)(B:X.K=K:=by rfl):MtR X "tuple.count" (D7 K):=by
 subst B;intro c s Y H x vs v us Q I J L h;obtain⟨p,T,y,rfl,rfl,U,C,fs,q⟩:=h;cases J;obtain⟨u,rfl,O⟩:=L.one;obtain⟨b,r,⟨⟨E,j,f,sl⟩,e,d,n,hd⟩,Z⟩:=I.tuple U;simp only at d hd;subst d hd;refine VM W4 ⟨_,e,rfl⟩ F.entry_tuple_count (F.args_tuple_count_2 _ _) (SeqAt.tuple_countAt p b.toArray n j sl u (eqU y)) ⟨e,λw k=>dW O C r fs w (by simpa using k),?_⟩;refine⟨.int _,H,I.tok _,⟨_,rfl⟩,?_⟩
 have z:(b.toArray.toList.countP (eqU y))=T.countP λz=>eqV z y:=by
  rw[List.toList_toArray];exact l9 r fs
 rw[z];exact q
end
end L2
namespace Dw
open PySem PySem.Spec PyProof.Rows L2
inductive D where
 |non |bl (b:Bool) |int (i:Int) |str (x:Str) |tup (ds:List D) |lst (ds:List D) |dic (ks:List Key) (ds:List D)
abbrev isB:D->Bool |.bl _=>aN |_=>aS
abbrev isW(d:D):Bool:=match d with |.int _=>aN |_=>aS
abbrev ip(d:D)(a b:Int):Bool:=match d with |.int i=>decide (a<=i) && decide (i<=b) |_=>aS
abbrev isT(d:D)(a b:Int):Bool:=match d with |.tup ds=>decide (a<=(ds.length:Int)) && decide ((ds.length:Int)<=b) |_=>aS
def oI{b:Type}(n:Nat)(f:Nat->List b):(Zk (n+1)).flatMap f=(Zk n).flatMap f++f n:=by
 rw[Xe,XV];simp
def wz{b:Type}{n m:Nat}{f:Nat->List b}(h:∀i,i < n->(f i).length<=m):((Zk n).flatMap f).length<=n * m:=by
 induction n with
 |zero=>simp
 |succ n I=>
  rw[oI,Zh];have:=I λi hi=>h i (by omega);have:=h n (by omega);rw[X9];omega
abbrev dX(d:List D)(lo hi:Option Int):List D:=(d.drop (HT.sIx d.length 0 lo)).take (HT.sIx d.length d.length hi - HT.sIx d.length 0 lo)
def Jo(n:Nat)(a:Int)(h:0<=a):HT.sIx n 0 (aw a)=min a.toNat n:=by
 show(if a < 0 then (a+(n:Int)).toNat else min a.toNat n)=_;rw[if_neg (by omega)]
def uB(n:Nat)(a:Int)(h:0<=a):HT.sIx n n (aw a)=min a.toNat n:=by
 show(if a < 0 then (a+(n:Int)).toNat else min a.toNat n)=_;rw[if_neg (by omega)]
abbrev wD(q:Int × Int):D:=.tup [.int q.1,.int q.2]
abbrev mg2(M:List (List Int))(i j:Nat):Int:=(((M[i]?).getD [])[j]?).getD 0
structure Mat(n:Nat)(M:List (List Int)):Prop where
 len:M.length=n
 row:∀r ∈ M,r.length=n
 ent:∀r ∈ M,∀x ∈ r,1<=x/\x<=99
def Mat.at{n:Nat}(h:Mat n M){i j:Nat}(hi:i < n)(k:j < n):∃r,M[i]?=aw r/\r.length=n/\r[j]?=aw (mg2 M i j)/\1<=mg2 M i j/\mg2 M i j<=99:=by
 have c:i < M.length:=by rw[h.len];exact hi
 have E:M[i]?=aw M[i]:=gEG c;have f:=h.row _ (ZJ c);have b:j < M[i].length:=by omega
 have d:mg2 M i j=M[i][j]:=by unfold mg2;rw[E,ZW,gEG b,ZW]
 have:=h.ent _ (ZJ c) _ (ZJ b);exact⟨M[i],E,f,by rw[d,gEG b],by omega,by omega⟩
abbrev rX(n k:Nat)(M:List (List Int)):Prop:=∀a b q,a < n->b < n->q < k->mg2 M a b<=mg2 M a q+mg2 M q b
def Ap{n k:Nat}(h:Mat n M)(d:k < n)(u:rX n k M)(v:∀i j,i < n->j < n->mg2 M' i j=min (mg2 M i j) (mg2 M i k+mg2 M k j)):rX n (k+1) M':=by
 intro a b q f hb Q;have c:q < n:=by omega
 obtain⟨_,_,_,_,B,_⟩:=h.at f hb;obtain⟨_,_,_,_,J,_⟩:=h.at f d;obtain⟨_,_,_,_,y,_⟩:=h.at d hb;obtain⟨_,_,_,_,C,_⟩:=h.at d d;obtain⟨_,_,_,_,I,_⟩:=h.at f c;obtain⟨_,_,_,_,L,_⟩:=h.at c hb;obtain⟨_,_,_,_,O,_⟩:=h.at d c;obtain⟨_,_,_,_,E,_⟩:=h.at c d;rw[v a b f hb,v a q f c,v q b c hb];by_cases e:q=k
 ·subst e;omega
 ·have p:q < k:=by omega
  have z:=u a b q f hb p;have T:=u k b q d hb p;have U:=u a k q f d p;omega
abbrev Aq(M:List (List Int)):List D:=M.map λr=>.tup (r.map .int)
abbrev aY(M:List (List Int))(n c i:Nat):List Int:=(Zk n).map λj=>if mg2 M i c+mg2 M c j < mg2 M i j then mg2 M i c+mg2 M c j else mg2 M i j
def rY(M:List (List Int))(n c i:Nat):(aY M n c i).length=n:=by unfold aY;rw[Za,ZG]
def rZ(M:List (List Int)){n c i j:Nat}(h:j < n):(aY M n c i)[j]?=aw (if mg2 M i c+mg2 M c j < mg2 M i j then mg2 M i c+mg2 M c j else mg2 M i j):=by
 unfold aY;rw[Zp,Yz h];rfl
def D8{n c:Nat}(h:Mat n M)(d:c < n):∀i j,i < n->j < n->mg2 ((Zk n).map (aY M n c)) i j=min (mg2 M i j) (mg2 M i c+mg2 M c j):=λi j hi b=>by
 have e:mg2 ((Zk n).map (aY M n c)) i j=if mg2 M i c+mg2 M c j < mg2 M i j then mg2 M i c+mg2 M c j else mg2 M i j:=by
  show((((Zk n).map (aY M n c))[i]?.getD [])[j]?).getD 0=_;rw[Zp,Yz hi];show((aY M n c i)[j]?).getD 0=_;rw[rZ M b];rfl
 rw[e];split <;> omega
def Ar{n c:Nat}(h:Mat n M)(p:c < n):Mat n ((Zk n).map (aY M n c)):=by
 refine⟨by rw[Za,ZG],λr d=>?_,λr d x k=>?_⟩
 ·obtain⟨u,_,rfl⟩:=Zu.mp d;exact rY M n c u
 ·obtain⟨u,b,rfl⟩:=Zu.mp d;rw[ZO] at b;unfold aY at k;obtain⟨j,f,rfl⟩:=Zu.mp k;rw[ZO] at f;obtain⟨_,_,_,_,y,B⟩:=h.at b f;obtain⟨_,_,_,_,v,Q⟩:=h.at b p;obtain⟨_,_,_,_,q,z⟩:=h.at p f;split <;> omega
def bT:∀ (n:Nat) (l:List Int),l.Nodup->(∀x ∈ l,0<=x/\x < (n:Int))->l.length<=n
 |0,l,_,h=>by
  cases l with
  |nil=>exact Ze _
  |cons x l=>have:=h x Zj;lia
 |n+1,l,nd,h=>by
  by_cases c:(n:Int) ∈ l
  ·have I:=bT n (l.erase n) (nd.erase _) λx b=>by
    have f:=h x (List.mem_of_mem_erase b);have d:x ≠ (n:Int):=λe=>(List.Nodup.not_mem_erase nd) (e ▸ b)
    lia
   rw[List.length_erase_of_mem c] at I;have:=Xv c
   lia
  ·have I:=bT n l nd λx b=>by
    have f:=h x b;have d:x ≠ (n:Int):=λe=>c (e ▸ b)
    lia
   lia
def dY(d:List D)(k:Nat)(h:k<=d.length):dX d aD (aw (k:Int))=d.take k:=by
 unfold dX;rw[uB _ _ (by omega)];show(d.drop 0).take (min ((k:Int).toNat) d.length - 0)=_;rw[Wt,Nat.sub_zero,Zy,XD h]
mutual
noncomputable def bnd(B:Nat):D->Prop
 |.int i=>i.natAbs < B
 |.tup ds=>D9 B ds
 |.lst ds=>D9 B ds
 |.dic ks ds=>(∀k ∈ ks,∃i,k=Sum.inl i/\i.natAbs < B)/\ks.length=ds.length/\D9 B ds
 |_=>True
noncomputable def D9(B:Nat):List D->Prop
 |[]=>True
 |d::ds=>bnd B d/\D9 B ds
end
end Dw
namespace Ev
open PySem PySem.Spec PyProof.Rows L2
inductive D where
 |non |bl (b:Bool) |int (i:Int) |str (x:Str) |tup (ds:List D) |ref (n:Nat)
inductive Ob where
 |lst (ds:List D) |frz (ds:List D) |dic (ks:List (List NK)) (ds:List D)
@[inline]abbrev Sto:=List Ob
@[inline]abbrev Rho:=List (Option D)
mutual
noncomputable def VD(K:Vk)(m:List Addr)(H:Hp):D->V->Prop
 |.non,v=>v = .non
 |.bl b,v=>v = .bl b
 |.int i,v=>v = .int i
 |.str x,v=>v = .str x
 |.tup ds,v=>∃a X,v = .ref a/\H a=aw (.tup X)/\VDs K m H ds X
 |.ref n,v=>∃a,m[n]?=aw a/\v = .ref a
noncomputable def VDs(K:Vk)(m:List Addr)(H:Hp):List D->List V->Prop
 |[],xs=>xs=[]
 |d::ds,xs=>∃x r,xs=x::r/\VD K m H d x/\VDs K m H ds r
end
structure Ext(m:List Addr)(H:Hp)(m':List Addr)(H':Hp):Prop where
 pre:m <+: m'
 keep:∀a o,H a=aw o->a ∉ m->H' a=aw o
 new:∀a,a ∈ m'->a ∉ m->H a=aD
abbrev ObR(K:Vk)(m:List Addr)(H:Hp)(a:Addr):Ob->Prop
 |.lst ds=>∃v,H a=aw (.lst v)/\VDs K m H ds v
 |.frz ds=>∃o v,H a=aw (.frz o (.lst v))/\VDs K m H ds v
 |.dic ks ds=>∃v,H a=aw (.dT (ks.zip v))/\ks.length=ds.length/\VDs K m H ds v
structure Rel(K:Vk)(m:List Addr)(S:Sto)(H:Hp):Prop where
 len:m.length=S.length
 nd:m.Nodup
 ob:∀ (i:Nat) (o:Ob),S[i]?=aw o->∃a,m[i]?=aw a/\ObR K m H a o
structure EnvR(K:Vk)(m:List Addr)(H:Hp)(ρ:Rho)(σ:L2.St):Prop where
 len:ρ.length=σ.length
 at_:∀ (i:Nat) (d:D),ρ[i]?=aw (aw d)->∃v,σ[i]?=aw (aw v)/\VD K m H d v
def Ext.refl(m:List Addr)(H:Hp):Ext m H m H:=⟨Ym m,λ_ _ h _=>h,λ_ h n=>absurd h n⟩
def Ext.trans(x:Ext m H m1 f)(y:Ext m1 f d H2):Ext m H d H2:=by
 refine⟨x.pre.trans y.pre,λa o h n=>?_,λa h n=>?_⟩
 ·have c:a ∉ m1:=λz=>by have:=x.new a z n;rw[this] at h;cases h
  exact y.keep a o (x.keep a o h n) c
 ·by_cases b:a ∈ m1
  ·exact x.new a b n
  ·cases e:H a with
   |none=>rfl
   |some o=>
    have:=x.keep a o e n;rw[y.new a h b] at this;cases this
section
variable {K:Vk} {m m':List Addr} {S S':Sto} {H H':Hp} {a:Addr}
def Rel.ex(R:Rel K m S H)(j:a ∈ m):∃o ob,H a=aw o/\ObR K m H a ob:=by
 obtain⟨i,hi,e⟩:=List.getElem_of_mem j;have f:i < S.length:=by rw[<-R.len];exact hi
 obtain⟨b,hb,r⟩:=R.ob i S[i] (gEG f);have:b=a:=by rw[gEG hi] at hb;rw[<-e];exact(Option.some.inj hb).symm
 subst this;cases c:S[i] with
 |lst d=>rw[c] at r;obtain⟨v,h,q⟩:=r;exact⟨_,.lst d,h,v,h,q⟩
 |frz d=>rw[c] at r;obtain⟨o,v,h,q⟩:=r;exact⟨_,.frz d,h,o,v,h,q⟩
 |dic k d=>rw[c] at r;obtain⟨v,h,q⟩:=r;exact⟨_,.dic k d,h,v,h,q⟩
def Rel.no(R:Rel K m S H)(h:H a=aD):a ∉ m:=λz=>by
 obtain⟨o,_,e,_⟩:=R.ex z;rw[h] at e;cases e
def Rel.notTup(R:Rel K m S H)(h:H a=aw (.tup X)):a ∉ m:=λz=>by
 obtain⟨o,ob,e,r⟩:=R.ex z;cases ob with
 |lst d=>obtain⟨v,q,_⟩:=r;rw[q] at h;cases h
 |frz d=>obtain⟨o,v,q,_⟩:=r;rw[q] at h;cases h
 |dic k d=>obtain⟨v,q,_⟩:=r;rw[q] at h;cases h
def Tup.ext(R:Rel K m S H)(x:Ext m H m' H')(h:H a=aw (.tup X)):H' a=aw (.tup X):=x.keep _ _ h (R.notTup h)
def kP{i:Nat}(h:m <+: m')(e:m[i]?=aw a):m'[i]?=aw a:=by
 obtain⟨t,rfl⟩:=h;have hi:i < m.length:=(Zb.mp e).1;rw[Zq hi];exact e
mutual
theorem VD.mono0(pre:m <+: m')(T:∀a X,H a=aw (.tup X)->H' a=aw (.tup X)):∀ {d:D} {v:V},VD K m H d v->VD K m' H' d v
 |.non,v,h=>by rw[VD] at h ⊢;exact h
 |.bl _,v,h=>by rw[VD] at h ⊢;exact h
 |.int _,v,h=>by rw[VD] at h ⊢;exact h
 |.str _,v,h=>by rw[VD] at h ⊢;exact h
 |.tup ds,v,h=>by
  rw[VD] at h ⊢;obtain⟨a,X,e,q,r⟩:=h;exact⟨a,X,e,T a X q,VDs.mono0 pre T r⟩
 |.ref n,v,h=>by
  rw[VD] at h ⊢;obtain⟨a,q,e⟩:=h;exact⟨a,kP pre q,e⟩
theorem VDs.mono0(pre:m <+: m')(T:∀a X,H a=aw (.tup X)->H' a=aw (.tup X)):∀ {b:List D} {v:List V},VDs K m H b v->VDs K m' H' b v
 |[],v,h=>by rw[VDs] at h ⊢;exact h
 |d::b,v,h=>by
  rw[VDs] at h ⊢;obtain⟨y,r,e,p,q⟩:=h;exact⟨y,r,e,VD.mono0 pre T p,VDs.mono0 pre T q⟩
end
def VD.mono(R:Rel K m S H)(x:Ext m H m' H')(h:VD K m H d v):VD K m' H' d v:=VD.mono0 x.pre (λ_ _=>Tup.ext R x) h
def VDs.mono(R:Rel K m S H)(x:Ext m H m' H')(h:VDs K m H d vs):VDs K m' H' d vs:=VDs.mono0 x.pre (λ_ _=>Tup.ext R x) h
def EnvR.mono(R:Rel K m S H)(x:Ext m H m' H')(h:EnvR K m H b σ):EnvR K m' H' b σ:=
 ⟨h.len,λi d e=>let ⟨v,p,q⟩:=h.at_ i d e;⟨v,p,VD.mono R x q⟩⟩
def VDs.length:∀ {b:List D} {v:List V},VDs K m H b v->b.length=v.length
 |[],v,h=>by rw[VDs] at h;rw[h];rfl
 |d::b,v,h=>by
  rw[VDs] at h;obtain⟨y,r,e,_,q⟩:=h;rw[e,Zo,Zo,VDs.length q]
def VDs.nil:VDs K m H [] []:=by rw[VDs]
def VDs.cons(h:VD K m H d v)(t:VDs K m H c b):VDs K m H (d::c) (v::b):=by rw[VDs];exact⟨v,b,rfl,h,t⟩
def VDs.get:∀ {b:List D} {c:List V} {i:Nat} {d:D},VDs K m H b c->b[i]?=aw d->∃v,c[i]?=aw v/\VD K m H d v
 |[],_,_,_,_,e=>by simp at e
 |d::b,c,0,d',h,e=>by
  rw[VDs] at h;obtain⟨y,r,rfl,p,q⟩:=h;simp at e;subst e;exact⟨y,rfl,p⟩
 |d::b,c,i+1,d',h,e=>by
  rw[VDs] at h;obtain⟨y,r,rfl,p,q⟩:=h;obtain⟨v,j,f⟩:=VDs.get (i:=i) q (by simpa using e);exact⟨v,by simpa using j,f⟩
def VDs.append:∀ {b E:List D} {v c:List V},VDs K m H b v->VDs K m H E c->VDs K m H (b++E) (v++c)
 |[],_,v,_,h,t=>by rw[VDs] at h;subst h;exact t
 |d::b,E,v,c,h,t=>by
  rw[VDs] at h;obtain⟨y,r,rfl,p,q⟩:=h;exact .cons p (VDs.append q t)
def VDs.drop:∀ {b:List D} {v:List V} (n:Nat),VDs K m H b v->VDs K m H (b.drop n) (v.drop n)
 |b,v,0,h=>h
 |[],v,n+1,h=>by rw[VDs] at h;subst h;exact .nil
 |d::b,v,n+1,h=>by
  rw[VDs] at h;obtain⟨y,r,rfl,p,q⟩:=h;exact VDs.drop n q
def VDs.take:∀ {b:List D} {v:List V} (n:Nat),VDs K m H b v->VDs K m H (b.take n) (v.take n)
 |b,v,0,h=>by simp only[XQ];exact .nil
 |[],v,n+1,h=>by rw[VDs] at h;subst h;exact .nil
 |d::b,v,n+1,h=>by
  rw[VDs] at h;obtain⟨y,r,rfl,p,q⟩:=h;exact .cons p (VDs.take n q)
def VDs.set:∀ {c:List D} {b:List V} {i:Nat} {d:D} {v:V},VDs K m H c b->VD K m H d v->VDs K m H (c.set i d) (b.set i v)
 |[],b,_,_,_,h,_=>by rw[VDs] at h;subst h;exact .nil
 |_::c,b,0,d,v,h,p=>by
  rw[VDs] at h;obtain⟨y,r,rfl,_,q⟩:=h;exact .cons p q
 |_::c,b,i+1,d,v,h,p=>by
  rw[VDs] at h;obtain⟨y,r,rfl,f,q⟩:=h;exact .cons f (VDs.set q p)
def Ext.beside(R:Rel K m S H)(h:H a=aD)(o:HO):Ext m H m (upd H a o):=
 ⟨Ym m,λb u e _=>by rw[aB (aV e h)];exact e,λb z n=>absurd z n⟩
def Rel.ext_keep(R:Rel K m S H)(x:Ext m H m H')(k:∀b ∈ m,H' b=H b):Rel K m S H':=by
 refine⟨R.len,R.nd,λi o e=>?_⟩;obtain⟨b,hb,r⟩:=R.ob i o e;have h:b ∈ m:=Zc hb;refine⟨b,hb,?_⟩;cases o with
 |lst d=>obtain⟨v,p,q⟩:=r;exact⟨v,(k b h).trans p,VDs.mono R x q⟩
 |frz d=>obtain⟨o,v,p,q⟩:=r;exact⟨o,v,(k b h).trans p,VDs.mono R x q⟩
 |dic c d=>obtain⟨v,p,l,q⟩:=r;exact⟨v,(k b h).trans p,l,VDs.mono R x q⟩
def Rel.beside(R:Rel K m S H)(h:H a=aD)(o:HO):Rel K m S (upd H a o):=
 R.ext_keep (Ext.beside R h o) λb hb=>aB λz=>R.no h (z ▸ hb)
def Rel.adopt(R:Rel K m S H)(n:a ∉ m)(h:H a=aw (.lst v))(q:VDs K m H d v):Rel K (m++[a]) (S++[.lst d]) H:=by
 have p:=YF m [a];have g:∀ {E:List D} {ws:List V},VDs K m H E ws->VDs K (m++[a]) H E ws:=λz=>VDs.mono0 p (λ_ _ t=>t) z;refine⟨by simp[R.len],Yx.mpr ⟨R.nd,by simp,λx j y c=>by simp at c;subst c;exactλz=>n (z ▸ j)⟩,λi o e=>?_⟩;by_cases hi:i < S.length
 ·rw[Zq hi] at e;obtain⟨b,hb,r⟩:=R.ob i o e;refine⟨b,kP p hb,?_⟩;cases o with
  |lst d=>obtain⟨v,p,q⟩:=r;exact⟨v,p,g q⟩
  |frz d=>obtain⟨o,v,p,q⟩:=r;exact⟨o,v,p,g q⟩
  |dic u d=>obtain⟨v,p,l,q⟩:=r;exact⟨v,p,l,g q⟩
 ·rw[Zm (by lia)] at e
  have f:i - S.length=0:=by
   have:=(Zb.mp e).1;simp at this;lia
  rw[f] at e;have k:Ob.lst d=o:=by simpa using e
  subst k;refine⟨a,?_,v,h,g q⟩;rw[Zm (by rw[R.len];lia),R.len,f];rfl
def Ext.adopt(x:Ext m H m H')(h:H a=aD):Ext m H (m++[a]) H':=
 ⟨YF m [a],x.keep,λb hb nb=>by
  rcases ZS.mp hb with z |z
  ·exact absurd z nb
  ·simp at z;subst z;exact h⟩
def Rel.write(R:Rel K m S H){i:Nat}(hi:m[i]?=aw a)(q:VDs K m H y v):Ext m H m (upd H a (.lst v))/\Rel K m (S.set i (.lst y)) (upd H a (.lst v)):=by
 have d:a ∈ m:=Zc hi;have x:Ext m H m (upd H a (.lst v)):=⟨Ym m,λb u e n=>by rw[aB (show b ≠ a fromλz=>n (by rw[z];exact d))];exact e,λb z n=>absurd z n⟩;refine⟨x,by simp[R.len],R.nd,λj o e=>?_⟩;rw[Yw] at e;by_cases h:i=j
 ·subst h;rw[if_pos rfl] at e;split at e
  ·have B:=Option.some.inj e;subst B;exact⟨a,hi,v,bf,VDs.mono R x q⟩
  ·cases e
 ·rw[if_neg h] at e;obtain⟨b,hb,r⟩:=R.ob j o e
  have ne:b ≠ a:=λz=>by
   subst z;have k:=Zb.mp hi;have f:=Zb.mp hb;exact h ((Y5 R.nd).mp (k.2.trans f.2.symm))
  refine⟨b,hb,?_⟩;cases o with
  |lst E=>obtain⟨c,p,q⟩:=r;exact⟨c,by rw[aB ne];exact p,VDs.mono R x q⟩
  |frz E=>obtain⟨o,c,p,q⟩:=r;exact⟨o,c,by rw[aB ne];exact p,VDs.mono R x q⟩
  |dic C E=>obtain⟨c,p,l,q⟩:=r;exact⟨c,by rw[aB ne];exact p,l,VDs.mono R x q⟩
def Rel.lst(R:Rel K m S H){i:Nat}(e:S[i]?=aw (.lst d)):∃a vs,m[i]?=aw a/\H a=aw (.lst vs)/\VDs K m H d vs:=by
 obtain⟨a,h,vs,p,q⟩:=R.ob i _ e;exact⟨a,vs,h,p,q⟩
end
abbrev au(S:Sto)(n:Nat):Option (List D):=match S[n]? with
 |some (.lst ds)=>aw ds
 |some (.frz ds)=>aw ds
 |_=>aD
def Rel.seq{K:Vk}{m:List Addr}{S:Sto}{H:Hp}(R:Rel K m S H){i:Nat}{d:List D}(e:au S i=aw d):∃a vs,m[i]?=aw a/\SqL K H a vs/\VDs K m H d vs:=by
 unfold au at e;cases h:S[i]? with
 |none=>rw[h] at e;cases e
 |some o=>
  rw[h] at e;cases o with
  |lst E=>cases e;obtain⟨a,b,vs,p,q⟩:=R.ob i _ h;exact⟨a,vs,b,.inl (.inl p),q⟩
  |frz E=>cases e;obtain⟨a,b,o,vs,p,q⟩:=R.ob i _ h;exact⟨a,vs,b,.inl (.inr ⟨o,p⟩),q⟩
  |dic k E=>cases e
@[inline]abbrev XE:=Rho->Sto->Option (D × Sto)
@[inline]abbrev XT:=Rho->Sto->Option (Bool × Sto)
@[inline]abbrev XA:=Rho->Sto->Option (List D × Sto)
abbrev bnd{c b:Type}(x:Option (c × Sto))(f:c->Sto->Option (b × Sto)):Option (b × Sto):=match x with
 |none=>aD
 |some (a,S)=>f a S
def ae{b c:Type}{x:Option (b × Sto)}{f:b->Sto->Option (c × Sto)}{r:c × Sto}(h:bnd x f=aw r):∃a S,x=aw (a,S)/\f a S=aw r:=by
 unfold bnd at h;cases x with
 |none=>cases h
 |some p=>exact⟨p.1,p.2,rfl,h⟩
structure Aft(K:Vk)(m:List Addr)(H:Hp)(S':Sto)(m':List Addr)(H':Hp):Prop where
 ext:Ext m H m' H'
 rel:Rel K m' S' H'
abbrev tE(K:Vk)(x:XE):TE:=λj H Q=>∃m c S d b,EnvR K m H c j/\Rel K m S H/\x c S=aw (d,b)/\∀f h v,Aft K m H b f h->VD K f h d v->Q v h
abbrev tT(K:Vk)(x:XT):TT:=λf H Q=>∃m d S b c,EnvR K m H d f/\Rel K m S H/\x d S=aw (b,c)/\∀j h,Aft K m H c j h->Q b h
abbrev tAr(K:Vk)(x:XA):TA:=λj H Q=>∃m c S d b,EnvR K m H c j/\Rel K m S H/\x c S=aw (d,b)/\∀f h v,Aft K m H b f h->VDs K f h d v->Q v h
abbrev SqB(K:Vk)(T:Bool)(H:Hp)(a:Addr)(v:List V):Prop:=if T=aN then H a=aw (.tup v) else SqL K H a v
abbrev eP(K:Vk)(x:XA):TE:=λk H Q=>∃m f S j d,EnvR K m H f k/\Rel K m S H/\x f S=aw (j,d)/\∀c h a v,Aft K m H d c h->h a=aw (.lst v)->a ∉ c->(∀b,b ∈ m->b ≠ a)->H a=aD->VDs K c h j v->Q (.ref a) h
section
variable {X:Cx} {e:Expr} {K:Vk} {m m1 m2:List Addr} {H H1 H2:Hp} {S S1 S2:Sto}
def PE.imp(h:PE X e t)(f:∀b H Q,t' b H Q->t b H Q):PE X e t':=λp s b H Q I q=>h p s b H Q I (f b H Q q)
def PT.imp(h:PT X e t)(f:∀b H Q,t' b H Q->t b H Q):PT X e t':=λp s b H Q I q=>h p s b H Q I (f b H Q q)
def PA.imp(h:PA X E t)(f:∀c H Q,t' c H Q->t c H Q):PA X E t':=λp b s c H Q I q=>h p b s c H Q I (f c H Q q)
def PS.imp{st:Stmt}{t t':TS}(h:PS X st t)(f:∀D b H,t' D b H->t D b H):PS X st t':=λp s b H D I q=>h p s b H D I (f D b H q)
def PSs.imp{st:List Stmt}{t t':TS}(h:PSs X st t)(f:∀D b H,t' D b H->t D b H):PSs X st t':=λp s b H D I q=>h p s b H D I (f D b H q)
def PI.imp(h:PI X T c t)(f:∀b H Q,t' b H Q->t b H Q):PI X T c t':=λp s b H Q I q=>h p s b H Q I (f b H Q q)
def PI.or(h:PI X T c t)(f:PI X T c d):PI X T c (λb H Q=>t b H Q\/d b H Q):=λp s b H Q I q=>q.elim (h p s b H Q I) (f p s b H Q I)
def OpR.imp(h:OpR X f r)(g:∀x y H Q,r' x y H Q->r x y H Q):OpR X f r':=λp s c H x y v u Q I d b q=>h p s c H x y v u Q I d b (g _ _ _ _ q)
def OpR.or(h:OpR X f r)(k:OpR X f j):OpR X f (λx y H Q=>r x y H Q\/j x y H Q):=λp s c H x y v u Q I d b q=>
 q.elim (h p s c H x y v u Q I d b) (k p s c H x y v u Q I d b)
def aR.imp(h:aR X f r)(g:∀x H Q,r' x H Q->r x H Q):aR X f r':=λp s c H b u Q I d q=>h p s c H b u Q I d (g _ _ _ q)
def aR.or(h:aR X f r)(k:aR X f j):aR X f (λx H Q=>r x H Q\/j x H Q):=λp s c H b u Q I d q=>
 q.elim (h p s c H b u Q I d) (k p s c H b u Q I d)
def Aft.refl(R:Rel K m S H):Aft K m H S m H:=⟨Ext.refl m H,R⟩
def Aft.trans(x:Aft K m H S1 m1 H1)(y:Aft K m1 H1 S2 m2 H2):Aft K m H S2 m2 H2:=⟨x.ext.trans y.ext,y.rel⟩
abbrev rS(K:Vk)(f:D->D->Sto->Option (D × Sto)):R2:=λv w H Q=>∃m S a b d c,Rel K m S H/\VD K m H a v/\VD K m H b w/\f a b S=aw (d,c)/\∀j h u,Aft K m H c j h->VD K j h d u->Q u h
abbrev rS1(K:Vk)(f:D->Sto->Option (D × Sto)):V->Hp->VK->Prop:=λv H Q=>∃m S a d b,Rel K m S H/\VD K m H a v/\f a S=aw (d,b)/\∀c h u,Aft K m H b c h->VD K c h d u->Q u h
abbrev rSA(K:Vk)(f:List D->Sto->Option (D × Sto)):List V->Hp->VK->Prop:=λv H Q=>∃m S c d b,Rel K m S H/\VDs K m H c v/\f c S=aw (d,b)/\∀j h u,Aft K m H b j h->VD K j h d u->Q u h
abbrev rSq(K:Vk)(f:Bool->List D->Sto->Option (D × Sto)):V->Hp->VK->Prop:=λv H Q=>∃m S T c a j d b,Rel K m S H/\v = .ref a/\SqB K T H a j/\VDs K m H c j/\f T c S=aw (d,b)/\∀k h u,Aft K m H b k h->VD K k h d u->Q u h
abbrev r9(f:D->D->Sto->Option (D × Sto))(x y:XE):XE:=λc S=>bnd (x c S) λa S1=>bnd (y c S1) λb S2=>f a b S2
abbrev xUn(f:D->Sto->Option (D × Sto))(x:XE):XE:=λb S=>bnd (x b S) λa S1=>f a S1
abbrev kK(f:List D->Sto->Option (D × Sto))(x:XA):XE:=λb S=>bnd (x b S) λa S1=>f a S1
abbrev ma(f:Bool->List D->Sto->Option (D × Sto))(x:XA):XE:=λb S=>bnd (x b S) λd S1=>f aS d S1
abbrev ao(d:D)(S:Sto):Option (Bool × List D):=match d with
 |.tup b=>aw (aN,b)
 |.ref n=>(au S n).map λb=>(aS,b)
 |_=>aD
abbrev aj(f:Bool->List D->Sto->Option (D × Sto))(d:D)(S:Sto):Option (D × Sto):=match ao d S with
 |some r=>f r.1 r.2 S
 |none=>aD
abbrev md(f:Bool->List D->Sto->Option (D × Sto))(x:XE):XE:=λb S=>bnd (x b S) λd S1=>aj f d S1
def qj{f:D->D->Sto->Option (D × Sto)}{x y:XE}{k:L2.St}{H:Hp}{Q:VK}(h:tE K (r9 f x y) k H Q):tOp (rS K f) (tE K x) (tE K y) k H Q:=by
 obtain⟨m,n,S,d,B,E,R,e,q⟩:=h;obtain⟨a,S1,C,e⟩:=ae e;obtain⟨b,S2,I,e⟩:=ae e;refine⟨m,n,S,a,S1,E,R,C,λm1 H1 v c L=>⟨m1,n,S1,b,S2,E.mono R c.ext,c.rel,I,λm2 H2 w j O=>?_⟩⟩;exact⟨m2,S2,a,b,d,B,j.rel,L.mono c.rel j.ext,O,e,λz J u p vd=>q z J u ((c.trans j).trans p) vd⟩
def As{f:D->Sto->Option (D × Sto)}{x:XE}{c:L2.St}{H:Hp}{Q:VK}(h:tE K (xUn f x) c H Q):tUn (rS1 K f) (tE K x) c H Q:=by
 obtain⟨m,p,S,d,k,E,R,e,q⟩:=h;obtain⟨a,S1,n,e⟩:=ae e;exact⟨m,p,S,a,S1,E,R,n,λm1 H1 v b z=>⟨m1,S1,a,d,k,b.rel,z,e,λB y u j vd=>q B y u (b.trans j) vd⟩⟩
def Au{f:List D->Sto->Option (D × Sto)}{x:XA}{c:L2.St}{H:Hp}{Q:VK}(h:tE K (kK f x) c H Q):tCB (rSA K f) (tAr K x) c H Q:=by
 obtain⟨m,p,S,d,k,E,R,e,q⟩:=h;obtain⟨a,S1,n,e⟩:=ae e;exact⟨m,p,S,a,S1,E,R,n,λm1 H1 v b z=>⟨m1,S1,a,d,k,b.rel,z,e,λB y u j vd=>q B y u (b.trans j) vd⟩⟩
def Jp{f:Bool->List D->Sto->Option (D × Sto)}{x:XA}{j:L2.St}{H:Hp}{Q:VK}(h:tE K (ma f x) j H Q):tUn (rSq K f) (eP K x) j H Q:=by
 obtain⟨m,y,S,d,n,E,R,e,q⟩:=h;obtain⟨c,S1,p,e⟩:=ae e;exact⟨m,y,S,c,S1,E,R,p,λm1 H1 a v b C _ _ _ vd=>⟨m1,S1,aS,c,a,v,d,n,b.rel,rfl,show SqL K H1 a v from SqL.of C,vd,e,λB z u k vd=>q B z u (b.trans k) vd⟩⟩
abbrev yt(i:Nat):XE:=λb S=>match b[i]? with
 |some (aw d)=>aw (d,S)
 |_=>aD
abbrev xC(d:D):XE:=λ_ S=>aw (d,S)
def Jq{i:Nat}(h:tE K (yt i) j H Q):Nm i j H Q:=by
 obtain⟨m,f,S,d,k,E,R,e,q⟩:=h;unfold yt at e;cases b:f[i]? with
 |none=>rw[b] at e;cases e
 |some o=>
  rw[b] at e;cases o with
  |none=>cases e
  |some n=>
   cases e;obtain⟨v,c,vd⟩:=E.at_ i d b;exact⟨v,c,q m H v (Aft.refl R) vd⟩
def Av(b:∀m H,VD K m H d v)(h:tE K (xC d) c H Q):tC v c H Q:=by
 obtain⟨m,j,S,k,f,E,R,e,q⟩:=h;cases e;exact q m H v (Aft.refl R) (b m H)
def qk:VD K m H .non .non:=by rw[VD]
def bD:VD K m H (.bl b) (.bl b):=by rw[VD]
def bg{i:Int}:VD K m H (.int i) (.int i):=by rw[VD]
def uC:VD K m H (.str x) (.str x):=by rw[VD]
def ql(h:H a=aw (.tup v))(q:VDs K m H d v):VD K m H (.tup d) (.ref a):=by rw[VD];exact⟨a,v,rfl,h,q⟩
def VD.ints{i:Int}(h:VD K m H (.int i) v):v = .int i:=by rw[VD] at h;exact h
def VD.bls(h:VD K m H (.bl i) v):v = .bl i:=by rw[VD] at h;exact h
def VD.strs(h:VD K m H (.str i) v):v = .str i:=by rw[VD] at h;exact h
def VD.nons(h:VD K m H .non v):v = .non:=by rw[VD] at h;exact h
def VD.tups(h:VD K m H (.tup d) v):∃a vs,v = .ref a/\H a=aw (.tup vs)/\VDs K m H d vs:=by rw[VD] at h;exact h
def VD.refs{n:Nat}(h:VD K m H (.ref n) v):∃a,m[n]?=aw a/\v = .ref a:=by rw[VD] at h;exact h
abbrev Ea:XA:=λ_ S=>aw ([],S)
abbrev wG(x:XE)(y:XA):XA:=λb S=>bnd (x b S) λa S1=>bnd (y b S1) λc S2=>aw (a::c,S2)
def Jr(h:tAr K Ea b H Q):jy b H Q:=by
 obtain⟨m,d,S,f,c,E,R,e,q⟩:=h;cases e;exact q m H [] (Aft.refl R) .nil
def Eb{x:XE}{y:XA}{d:L2.St}{H:Hp}{Q:List V->Hp->Prop}(h:tAr K (wG x y) d H Q):ce (tE K x) (tAr K y) d H Q:=by
 obtain⟨m,f,S,B,z,E,R,e,q⟩:=h;obtain⟨a,S1,k,e⟩:=ae e;obtain⟨b,S2,n,e⟩:=ae e;cases e;refine⟨m,f,S,a,S1,E,R,k,λm1 H1 v c p=>⟨m1,f,S1,b,_,E.mono R c.ext,c.rel,n,λm2 H2 w j u=>?_⟩⟩;exact q m2 H2 _ (c.trans j) (.cons (p.mono c.rel j.ext) u)
abbrev kL(d:List D)(S:Sto):Option (D × Sto):=if d.length<=1000 then aw (.tup d,S) else aD
def mf{n:Nat}(h:n<=1000):n<=sizeLine:=by rw[Uh];lia
def iX{d:List D}{v:List V}{Q:VK}(R:Rel K m S H)(vd:VDs K m H d v)(q:∀c h u,Aft K m H S c h->VD K c h (.tup d) u->Q u h):∀p,H p=aD->Q (.ref p) (upd H p (.tup v)):=λp b=>
 q m _ _ ⟨Ext.beside R b _,R.beside b _⟩ (ql bf (vd.mono R (Ext.beside R b _)))
def kQ{d:List D}{v:List V}{Q:VK}(R:Rel K m S H)(vd:VDs K m H d v)(q:∀c b u,Aft K m H (S++[.lst d]) c b->VD K c b (.ref S.length) u->Q u b):∀p,H p=aD->Q (.ref p) (upd H p (.lst v)):=λp h=>by
 have x:=Ext.beside R h (.lst v);refine q (m++[p]) _ _ ⟨x.adopt h,(R.beside h _).adopt (R.no h) bf (vd.mono R x)⟩ ?_;rw[VD];exact⟨p,by rw[Zm (by rw[R.len];exact Ze _),R.len,Z7];rfl,rfl⟩
def kS{f:List D}{v:List V}{Q:VK}(R:Rel K m S H)(vd:VDs K m H f v)(q:∀d c a v,Aft K m H S d c->c a=aw (.lst v)->a ∉ d->(∀b,b ∈ m->b ≠ a)->H a=aD->VDs K d c f v->Q (.ref a) c):∀p,H p=aD->Q (.ref p) (upd H p (.lst v)):=λp h=>
 q m _ _ _ ⟨Ext.beside R h _,R.beside h _⟩ bf (R.no h) (λb hb z=>R.no h (z ▸ hb)) h (vd.mono R (Ext.beside R h _))
def Js{x:XA}{c:L2.St}{H:Hp}{Q:VK}(h:tE K (kK kL x) c H Q):NM (tAr K x) c H Q:=by
 obtain⟨m,f,S,B,z,E,R,e,q⟩:=h;obtain⟨a,S1,d,e⟩:=ae e;unfold kL at e;split at e
 ·rename_i j;cases e;exact⟨m,f,S,a,_,E,R,d,λm1 H1 C b v=>⟨mf (by rw[<-v.length];exact j),iX b.rel v λy k u n p=>q y k u (b.trans n) p⟩⟩
 ·cases e
abbrev oJ(x:XA):XA:=λb S=>bnd (x b S) λd S1=>if d.length<=1000 then aw (d,S1) else aD
def Ec{x:XA}{d:L2.St}{H:Hp}{Q:VK}(h:eP K (oJ x) d H Q):NN (tAr K x) d H Q:=by
 obtain⟨m,O,S,Z,Y,E,R,e,q⟩:=h;obtain⟨a,S1,L,e⟩:=ae e;split at e
 ·rename_i J;cases e;refine⟨m,O,S,_,_,E,R,L,λm1 H1 T c v=>⟨mf (by rw[<-v.length];exact J),kS c.rel v λy k u U I C B f n p=>?_⟩⟩
  have z:H u=aD:=by
   cases e:H u with
   |none=>rfl
   |some o=>
    by_cases j:u ∈ m
    ·exact absurd rfl (f u (c.ext.pre.subset j))
    ·have:=c.ext.keep u o e j;rw[this] at n;cases n
  exact q y k u U (c.trans I) C B (λb hb=>f b (c.ext.pre.subset hb)) z p
 ·cases e
def dZ{d:D}{v:V}{tu:Bool}{ds:List D}(R:Rel K m S H)(vd:VD K m H d v)(e:ao d S=aw (tu,ds)):∃a vs,v = .ref a/\SqB K tu H a vs/\VDs K m H ds vs:=by
 unfold ao at e;cases d with
 |tup E=>
  cases e;obtain⟨a,vs,e,q,r⟩:=vd.tups;exact⟨a,vs,e,q,r⟩
 |ref n=>
  obtain⟨a,h,c⟩:=vd.refs;cases hs:au S n with
  |none=>simp[hs] at e
  |some E=>
   simp[hs] at e;obtain⟨rfl,rfl⟩:=e;obtain⟨b,vs,hb,q,r⟩:=R.seq hs;rw[h] at hb;cases hb;exact⟨a,vs,c,q,r⟩
 |_=>cases e
def Jt{f:Bool->List D->Sto->Option (D × Sto)}{x:XE}{k:L2.St}{H:Hp}{Q:VK}(h:tE K (md f x) k H Q):tUn (rSq K f) (tE K x) k H Q:=by
 obtain⟨m,J,S,d,C,E,R,e,q⟩:=h;obtain⟨a,S1,I,e⟩:=ae e;refine⟨m,J,S,a,S1,E,R,I,λm1 H1 v c O=>?_⟩;unfold aj at e;split at e
 ·rename_i r hi;obtain⟨b,B,p,z,j⟩:=dZ (tu:=r.1) (ds:=r.2) c.rel O hi;exact⟨m1,S1,r.1,r.2,b,B,d,C,c.rel,p,z,j,e,λy L u n vd=>q y L u (c.trans n) vd⟩
 ·cases e
abbrev dB(x:XA):XE:=λb S=>bnd (x b S) λd S1=>aw (.ref S1.length,S1++[.lst d])
def sd{x:XA}{f:L2.St}{H:Hp}{Q:VK}(h:tE K (dB x) f H Q):eP K x f H Q:=by
 obtain⟨m,k,S,d,y,E,R,e,q⟩:=h;obtain⟨p,S1,j,e⟩:=ae e;cases e;refine⟨m,k,S,p,S1,E,R,j,λm1 H1 a B c v n C u vd=>?_⟩;refine q (m1++[a]) H1 _ ⟨⟨c.ext.pre.trans (YF _ _),c.ext.keep,λb hb nb=>?_⟩,c.rel.adopt n v vd⟩ ?_
 ·rcases ZS.mp hb with z |z
  ·exact c.ext.new b z nb
  ·simp at z;subst z;exact u
 ·rw[VD];exact⟨a,by rw[Zm (by rw[c.rel.len];exact Ze _),c.rel.len,Z7];rfl,rfl⟩
end
abbrev eqL(f:D->D->Option Bool):List D->List D->Option Bool
 |[],[]=>aw aN
 |[],_::_=>aw aS
 |_::_,[]=>aw aS
 |x::xs,y::ys=>match f x y,eqL f xs ys with
  |some a,aw b=>aw (a && b)
  |_,_=>aD
abbrev eqD:Nat->Sto->D->D->Option Bool
 |0,_,_,_=>aD
 |n+1,S,x,y=>match x,y with
  |.non,.non=>aw aN
  |.bl a,.bl b=>aw (a == b)
  |.int a,.int b=>aw (a == b)
  |.str a,.str b=>aw (a == b)
  |.bl a,.int b=>aw ((if a then 1 else 0) == b)
  |.int a,.bl b=>aw (a == (if b then 1 else 0))
  |.tup xs,.tup ys=>eqL (eqD n S) xs ys
  |.ref a,.ref b=>match au S a,au S b with
   |some xs,aw ys=>if a=b then aw aN else if xs.length=ys.length then eqL (eqD n S) xs ys else aw aS
   |_,_=>aD
  |.tup _,.ref b=>match au S b with
   |some _=>aw aS
   |none=>aD
  |.ref a,.tup _=>match au S a with
   |some _=>aw aS
   |none=>aD
  |.ref a,_=>match au S a with
   |some _=>aw aS
   |none=>aD
  |_,.ref a=>match au S a with
   |some _=>aw aS
   |none=>aD
  |_,_=>aw aS
section
variable {X:Cx} {K:Vk} {m:List Addr} {H:Hp} {S:Sto}
def se{f:D->D->Option Bool}:∀ {d Y:List D} {b:Bool},eqL f d Y=aw b->∃g:Nat->Bool,(∀j x y,d[j]?=aw x->Y[j]?=aw y->f x y=aw (g j))/\b=((Zk (min d.length Y.length)).all g && d.length == Y.length)
 |[],[],b,h=>by simp[eqL] at h;exact⟨λ_=>aN,λj x y e=>by simp at e,by simp[<-h]⟩
 |[],_::_,b,h=>by simp[eqL] at h;exact⟨λ_=>aN,λj x y e=>by simp at e,by simp[<-h]⟩
 |_::_,[],b,h=>by simp[eqL] at h;exact⟨λ_=>aN,λj x y _ e=>by simp at e,by simp[<-h]⟩
 |x::d,y::Y,b,h=>by
  simp only[eqL] at h;cases n:f x y with
  |none=>simp[n] at h
  |some a=>
   cases p:eqL f d Y with
   |none=>simp[n,p] at h
   |some c=>
    simp[n,p] at h;obtain⟨g,q,u⟩:=se p;refine⟨λj=>match j with |0=>a |j+1=>g j,λj z v E k=>?_,?_⟩
    ·cases j with
     |zero=>simp at E k;subst E k;exact n
     |succ j=>simp at E k;exact q j z v E k
    ·rw[<-h,u];simp only[Zo,Nat.succ_min_succ,List.range_succ_eq_map,Yr,YX];rw[Bool.and_assoc]
     congr 1
     rw[show(d.length+1 == Y.length+1)=(d.length == Y.length) by simp];rfl
def Ed{p:List (Addr × Obj)}{d:L2.St}{s:Shared}{a:Addr}{b ys:List V}(I:Inv X p d H s)(c:H a=aw (.tup b))(h:H a=aw (.tup ys)):b=ys:=by
 rw[c] at h;cases h;rfl
def yu{m:List Addr}(nd:m.Nodup){i j:Nat}{a:Addr}(b:m[i]?=aw a)(h:m[j]?=aw a):i=j:=by
 obtain⟨c,Q⟩:=Zb.mp b;obtain⟨p,q⟩:=Zb.mp h;exact(Y5 nd).mp (Q.trans q.symm)
def sf{j:List (Addr × Obj)}{σ:L2.St}{s:Shared}(I:Inv X j σ H s)(R:Rel X.K m S H):∀ (n:Nat) {x y:D} {v:V} {b:Bool},VD X.K m H x v->VD X.K m H y v->eqD n S x y=aw b->b=aN
 |0,_,_,_,_,_,_,h=>by simp[eqD] at h
 |n+1,x,y,v,b,h1,h2,h=>by
  have L:∀ {f Y:List D} {u:List V} {b:Bool},VDs X.K m H f u->VDs X.K m H Y u->eqL (eqD n S) f Y=aw b->b=aN:=by
   intro f
   induction f with
   |nil=>
    intro Y u b p q e;have l1:=p.length;have U:=q.length;cases Y with
    |nil=>simp[eqL] at e;simp_all
    |cons _ _=>simp at l1 U;lia
   |cons x f ih=>
    intro Y u b p q e;have l1:=p.length;have U:=q.length;cases Y with
    |nil=>simp at l1 U;lia
    |cons y Y=>
     rw[VDs] at p q;obtain⟨a,r,e1,p1,p2⟩:=p;obtain⟨B,r',e2,q1,q2⟩:=q;rw[e1] at e2;cases e2;simp only[eqL] at e;cases O:eqD n S x y with
     |none=>simp[O] at e
     |some c=>
      cases Q:eqL (eqD n S) f Y with
      |none=>simp[O,Q] at e
      |some d=>
       simp[O,Q] at e;rw[<-e,sf I R n p1 q1 O,ih p2 q2 Q];rfl
  cases x with
  |non=>cases h1.nons;cases y <;> simp[VD] at h2 <;> simp[eqD] at h <;> simp[h]
  |bl a=>cases h1.bls;cases y <;> simp[VD] at h2 <;> simp[eqD] at h <;> simp_all
  |int a=>cases h1.ints;cases y <;> simp[VD] at h2 <;> simp[eqD] at h <;> simp_all
  |str a=>cases h1.strs;cases y <;> simp[VD] at h2 <;> simp[eqD] at h <;> simp_all
  |tup f=>
   obtain⟨a,u,e,J,p⟩:=h1.tups;subst e;cases y with
   |tup Y=>
    obtain⟨B,vs',E,T,q⟩:=h2.tups;cases E;have:=Ed I J T;subst this;simp only[eqD] at h;exact L p q h
   |ref k=>
    obtain⟨B,C,E⟩:=h2.refs;cases E;have z:a ∈ m:=Zc C;exact absurd z (R.notTup J)
   |non=>cases h2.nons
   |bl _=>cases h2.bls
   |int _=>cases h2.ints
   |str _=>cases h2.strs
  |ref k=>
   obtain⟨a,C,e⟩:=h1.refs;subst e;cases y with
   |ref k'=>
    obtain⟨B,Z,E⟩:=h2.refs;cases E;have:=yu R.nd C Z;subst this;simp only[eqD] at h;cases hs:au S k with
    |none=>rw[hs] at h;cases h
    |some es=>rw[hs] at h;simp at h;exact h.symm ▸ rfl
   |tup Y=>
    obtain⟨B,vs',E,J,q⟩:=h2.tups;cases E;have z:a ∈ m:=Zc C;exact absurd z (R.notTup J)
   |non=>cases h2.nons
   |bl _=>cases h2.bls
   |int _=>cases h2.ints
   |str _=>cases h2.strs
def qm{f:List V}{I:List Value}{b:List D}(p:VDs K m H b f)(r:aO f I){j:Nat}(q:j < I.toArray.size):∃x v,b[j]?=aw x/\VD K m H x v/\aJ v I.toArray[j]:=by
 have h:j < I.length:=by simpa using q
 have l1:=p.length;have L:=r.length;obtain⟨v,n,vd⟩:=p.get (i:=j) (d:=b[j]'(by lia)) (gEG _);obtain⟨u,c,k⟩:=r.get n;refine⟨_,v,gEG (by lia),vd,?_⟩;have e:I[j]?=aw I[j]:=gEG h;rw[e] at c;cases c
 simpa using k
@[inline]abbrev Ju(X:Cx)(m:List Addr)(H:Hp)(S:Sto)(s:Shared)(n:Nat):Prop:=∀ (A:Around) (x y:D) (v w:V) (u U:Value) (b:Bool),VD X.K m H x v->VD X.K m H y w->aJ v u->aJ w U->eqD n S x y=aw b->A.units+n < cLine->Vb A s u U b
def sh{pins:List (Addr × Obj)}{σ:L2.St}{s:Shared}{n:Nat}(U:Ju X m H S s n){A:Around}{f Y:List D}{B z:List V}{I c:List Value}{b:Bool}(p:VDs X.K m H f B)(q:VDs X.K m H Y z)(r1:aO B I)(r2:aO z c)
  (h:eqL (eqD n S) f Y=aw b) (Z:A.units+(n+1) < cLine):∃g:Nat->Bool,(∀j (C:j < I.toArray.size) (u:j < c.toArray.size),Vb A.in1 s I.toArray[j] c.toArray[j] (g j))/\b=((Zk (min I.toArray.size c.toArray.size)).all g && I.toArray.size == c.toArray.size):=by
 obtain⟨g,O,hb⟩:=se h;have l1:I.toArray.size=f.length:=by rw[Zl,<-r1.length,<-p.length]
 have L:c.toArray.size=Y.length:=by rw[Zl,<-r2.length,<-q.length]
 refine⟨g,λj C u=>?_,by rw[hb,l1,L]⟩;obtain⟨x,v,Q,E,k⟩:=qm p r1 C;obtain⟨y,w,T,J,d⟩:=qm q r2 u;exact U _ _ _ _ _ _ _ _ E J k d (O j x y Q T) (by show A.units+1+n < cLine;lia)
def Aw{n:Nat}:(Zk n).all (λ_=>aN)=aN:=by simp
def Ax{C:List (Addr × Obj)}{σ:L2.St}{s:Shared}(I:Inv X C σ H s)(R:Rel X.K m S H){n:Nat}(ih:Ju X m H S s n){A:Around}{x y:D}{a a':Addr}{b:Bool}(O:VD X.K m H x (.ref a))(B:VD X.K m H y (.ref a'))(h:eqD (n+1) S x y=aw b)(hu:A.units+(n+1) < cLine) :
  Vc A s (.ref a) (.ref a') b/\Ve A s (.ref a) (.ref a') (!b):=by
 have d:A.units < cLine:=by lia
 cases x with
 |non=>cases O.nons
 |bl _=>cases O.bls
 |int _=>cases O.ints
 |str _=>cases O.strs
 |tup xs=>
  obtain⟨_,vs,e,U,p⟩:=O.tups;cases e;obtain⟨Y,r1,T,_⟩:=I.tuple (.of U);cases y with
  |non=>cases B.nons
  |bl _=>cases B.bls
  |int _=>cases B.ints
  |str _=>cases B.strs
  |tup ys=>
   obtain⟨_,ws,e,f,q⟩:=B.tups;cases e;obtain⟨Q,r2,u,_⟩:=I.tuple (.of f);simp only[eqD] at h;obtain⟨g,Z,hb⟩:=sh (pins:=C) (σ:=σ) ih p q r1 r2 h hu;rw[hb];exact⟨SeqAt.RcAt.tuples T u d Z,PySem.SeqAt.RcNeAt.tuples T u d Z⟩
  |ref k=>
   simp only[eqD] at h;cases hs:au S k with
   |none=>rw[hs] at h;cases h
   |some es=>
    rw[hs] at h;cases h;obtain⟨b',ws,hb,f,q⟩:=R.seq hs;obtain⟨c,E,ec⟩:=B.refs;cases ec;rw[hb] at E;cases E;obtain⟨Q,r2,u,_⟩:=I.list f;exact⟨SeqAt.RcAt.tuple_list T u.isList d,PySem.SeqAt.RcNeAt.tuple_list T u.isList d⟩
 |ref k=>
  obtain⟨c,E,ec⟩:=O.refs;cases ec;cases y with
  |non=>cases B.nons
  |bl _=>cases B.bls
  |int _=>cases B.ints
  |str _=>cases B.strs
  |tup ys=>
   obtain⟨_,ws,e,f,q⟩:=B.tups;cases e;obtain⟨Q,r2,u,_⟩:=I.tuple (.of f);simp only[eqD] at h;cases hs:au S k with
   |none=>rw[hs] at h;cases h
   |some es=>
    rw[hs] at h;cases h;obtain⟨b',vs,hb,U,p⟩:=R.seq hs;rw[hb] at E;cases E;obtain⟨Y,r1,T,_⟩:=I.list U;exact⟨SeqAt.RcAt.list_tuple T.isList u d,PySem.SeqAt.RcNeAt.list_tuple T.isList u d⟩
  |ref k'=>
   obtain⟨c',hc',ec'⟩:=B.refs;cases ec';simp only[eqD] at h;cases hs:au S k with
   |none=>rw[hs] at h;cases h
   |some es=>
    cases J:au S k' with
    |none=>rw[hs,J] at h;cases h
    |some es'=>
     rw[hs,J] at h;dsimp only at h;obtain⟨b1,vs,hb,U,p⟩:=R.seq hs;rw[hb] at E;cases E;obtain⟨b2,ws,L,f,q⟩:=R.seq J;rw[L] at hc';cases hc';obtain⟨Y,r1,T,_⟩:=I.list U;obtain⟨Q,r2,u,_⟩:=I.list f;split at h
     ·rename_i hk;subst hk;rw[hb] at L;cases L;cases h;have z:=SeqAt.RcAt.lists (e:=λ_=>aN) T.isList T.isList rfl d λj h1 h2=>SeqAt.EqAt.same _;have z':=PySem.SeqAt.RcNeAt.lists (e:=λ_=>aN) T.isList T.isList rfl d λj h1 h2=>SeqAt.EqAt.same _;rw[Aw] at z z';exact⟨z,z'⟩
     ·have l1:Y.toArray.size=es.length:=by rw[Zl,<-r1.length,<-p.length]
      have l2:Q.toArray.size=es'.length:=by rw[Zl,<-r2.length,<-q.length]
      split at h
      ·rename_i hl;obtain⟨g,Z,hb3⟩:=sh (pins:=C) (σ:=σ) ih p q r1 r2 h hu;have v:Y.toArray.size=Q.toArray.size:=by rw[l1,l2,hl]
       rw[hb3,<-v,Nat.min_self,beq_self_eq_true,Bool.and_true];exact⟨SeqAt.RcAt.lists T.isList u.isList v d Z,PySem.SeqAt.RcNeAt.lists T.isList u.isList v d Z⟩
      ·rename_i hl;cases h;have v:(Y.toArray.size != Q.toArray.size)=aN:=by rw[l1,l2];simpa using hl
       exact⟨SeqAt.RcAt.lists_lengths T.isList u.isList v d,PySem.SeqAt.RcNeAt.lists_lengths T.isList u.isList v d⟩
def bq{b:List (Addr × Obj)}{n:L2.St}{s:Shared}(I:Inv X b n H s)(R:Rel X.K m S H){k:Nat}{v:V}{f:List D}(h:VD X.K m H (.ref k) v)(hs:au S k=aw f):∃a i,v = .ref a/\s.heap.IsList a i:=by
 obtain⟨c,d,E⟩:=h.refs;obtain⟨B,u,hb,j,p⟩:=R.seq hs;rw[hb] at d;cases d;obtain⟨q,r1,T,_⟩:=I.list j;exact⟨_,_,E,T.isList⟩
def bB{b:List (Addr × Obj)}{d:L2.St}{s:Shared}(I:Inv X b d H s){v:V}{E:List D}(h:VD X.K m H (.tup E) v):∃a i,v = .ref a/\s.heap.IsTuple a i:=by
 obtain⟨a,j,e,c,p⟩:=h.tups;obtain⟨f,r1,T,_⟩:=I.tuple (.of c);exact⟨_,_,e,T⟩
def qo{q:List (Addr × Obj)}{Z:L2.St}{s:Shared}(I:Inv X q Z H s)(R:Rel X.K m S H):∀n,Ju X m H S s n
 |0=>λA x y v w u U b p d r1 r2 h _=>by simp[eqD] at h
 |n+1=>λA x y v w u U b p d r1 r2 h Q=>by
  have f:A.units < cLine:=by lia
  have seq:∀ {a B:Addr},v = .ref a->w = .ref B->Vb A s u U b:=by
   intro a B e C;subst e C;cases r1;cases r2;by_cases z:a=B
   ·subst z;have:=sf I R (n+1) p d h;subst this;exact SeqAt.EqAt.same _
   ·exact SeqAt.EqAt.of_refs z (Ax I R (qo I R n) p d h Q).1
  cases x with
  |non=>
   cases p.nons;cases r1;cases y with
   |non=>cases d.nons;cases r2;simp[eqD] at h;subst h;exact SeqAt.EqAt.same _
   |bl j=>cases d.bls;cases r2;simp[eqD] at h;subst h;exact SeqAt.EqAt.none_bool _
   |int j=>cases d.ints;obtain⟨t,rfl⟩:=r2;simp[eqD] at h;subst h;exact SeqAt.EqAt.none_int _ _
   |str j=>cases d.strs;obtain⟨t,rfl⟩:=r2;simp[eqD] at h;subst h;exact SeqAt.EqAt.none_str _ _
   |tup Y=>obtain⟨a,i,e,l⟩:=bB I d;subst e;cases r2;simp[eqD] at h;subst h;exact SeqAt.EqAt.none_tuple l f
   |ref k=>
    simp only[eqD] at h;cases hs:au S k with
    |none=>rw[hs] at h;cases h
    |some E=>rw[hs] at h;cases h;obtain⟨a,i,e,l⟩:=bq I R d hs;subst e;cases r2;exact SeqAt.EqAt.none_list l f
  |bl i=>
   cases p.bls;cases r1;cases y with
   |non=>cases d.nons;cases r2;simp[eqD] at h;subst h;exact SeqAt.EqAt.bool_none _
   |bl j=>cases d.bls;cases r2;simp only[eqD] at h;cases h;exact SeqAt.EqAt.bool_bool _ _
   |int j=>cases d.ints;obtain⟨t,rfl⟩:=r2;simp only[eqD] at h;cases h;exact SeqAt.EqAt.bool_int _ _ _
   |str j=>cases d.strs;obtain⟨t,rfl⟩:=r2;simp[eqD] at h;subst h;exact SeqAt.EqAt.bool_str _ _ _
   |tup Y=>obtain⟨a,i,e,l⟩:=bB I d;subst e;cases r2;simp[eqD] at h;subst h;exact SeqAt.EqAt.bool_tuple _ l f
   |ref k=>
    simp only[eqD] at h;cases hs:au S k with
    |none=>rw[hs] at h;cases h
    |some E=>rw[hs] at h;cases h;obtain⟨a,i,e,l⟩:=bq I R d hs;subst e;cases r2;exact SeqAt.EqAt.bool_list _ l f
  |int i=>
   cases p.ints;obtain⟨t1,rfl⟩:=r1;cases y with
   |non=>cases d.nons;cases r2;simp[eqD] at h;subst h;exact SeqAt.EqAt.int_none _ _
   |bl j=>cases d.bls;cases r2;simp only[eqD] at h;cases h;exact SeqAt.EqAt.int_bool _ _ _
   |int j=>cases d.ints;obtain⟨t,rfl⟩:=r2;simp only[eqD] at h;cases h;exact SeqAt.EqAt.int_int _ _ _ _
   |str j=>cases d.strs;obtain⟨t,rfl⟩:=r2;simp[eqD] at h;subst h;exact SeqAt.EqAt.int_str _ _ _ _
   |tup Y=>obtain⟨a,i,e,l⟩:=bB I d;subst e;cases r2;simp[eqD] at h;subst h;exact SeqAt.EqAt.int_tuple _ _ l f
   |ref k=>
    simp only[eqD] at h;cases hs:au S k with
    |none=>rw[hs] at h;cases h
    |some E=>rw[hs] at h;cases h;obtain⟨a,i,e,l⟩:=bq I R d hs;subst e;cases r2;exact SeqAt.EqAt.int_list _ _ l f
  |str i=>
   cases p.strs;obtain⟨t1,rfl⟩:=r1;cases y with
   |non=>cases d.nons;cases r2;simp[eqD] at h;subst h;exact SeqAt.EqAt.str_none _ _
   |bl j=>cases d.bls;cases r2;simp[eqD] at h;subst h;exact SeqAt.EqAt.str_bool _ _ _
   |int j=>cases d.ints;obtain⟨t,rfl⟩:=r2;simp[eqD] at h;subst h;exact SeqAt.EqAt.str_int _ _ _ _
   |str j=>cases d.strs;obtain⟨t,rfl⟩:=r2;simp only[eqD] at h;cases h;exact SeqAt.EqAt.str_str _ _ _ _
   |tup Y=>obtain⟨a,i,e,l⟩:=bB I d;subst e;cases r2;simp[eqD] at h;subst h;exact SeqAt.EqAt.str_tuple _ _ l f
   |ref k=>
    simp only[eqD] at h;cases hs:au S k with
    |none=>rw[hs] at h;cases h
    |some E=>rw[hs] at h;cases h;obtain⟨a,i,e,l⟩:=bq I R d hs;subst e;cases r2;exact SeqAt.EqAt.str_list _ _ l f
  |tup xs=>
   obtain⟨a,i,e,l⟩:=bB I p;subst e;cases r1;cases y with
   |non=>cases d.nons;cases r2;simp[eqD] at h;subst h;exact SeqAt.EqAt.tuple_none l f
   |bl j=>cases d.bls;cases r2;simp[eqD] at h;subst h;exact SeqAt.EqAt.tuple_bool _ l f
   |int j=>cases d.ints;obtain⟨t,rfl⟩:=r2;simp[eqD] at h;subst h;exact SeqAt.EqAt.tuple_int _ _ l f
   |str j=>cases d.strs;obtain⟨t,rfl⟩:=r2;simp[eqD] at h;subst h;exact SeqAt.EqAt.tuple_str _ _ l f
   |tup Y=>obtain⟨B,i',C,T⟩:=bB I d;exact seq rfl C
   |ref k=>obtain⟨c,O,J⟩:=d.refs;exact seq rfl J
  |ref k=>
   obtain⟨c,O,J⟩:=p.refs;cases y with
   |tup Y=>obtain⟨B,i',C,T⟩:=bB I d;exact seq J C
   |ref k=>obtain⟨c,O,L⟩:=d.refs;exact seq J L
   |non=>
    simp only[eqD] at h;cases hs:au S k with
    |none=>rw[hs] at h;cases h
    |some E=>rw[hs] at h;cases h;obtain⟨a,i,e,l⟩:=bq I R p hs;subst e;cases r1;cases d.nons;cases r2;exact SeqAt.EqAt.list_none l f
   |bl j=>
    simp only[eqD] at h;cases hs:au S k with
    |none=>rw[hs] at h;cases h
    |some E=>rw[hs] at h;cases h;obtain⟨a,i,e,l⟩:=bq I R p hs;subst e;cases r1;cases d.bls;cases r2;exact SeqAt.EqAt.list_bool _ l f
   |int j=>
    simp only[eqD] at h;cases hs:au S k with
    |none=>rw[hs] at h;cases h
    |some E=>rw[hs] at h;cases h;obtain⟨a,i,e,l⟩:=bq I R p hs;subst e;cases r1;cases d.ints;obtain⟨t,rfl⟩:=r2;exact SeqAt.EqAt.list_int _ _ l f
   |str j=>
    simp only[eqD] at h;cases hs:au S k with
    |none=>rw[hs] at h;cases h
    |some E=>rw[hs] at h;cases h;obtain⟨a,i,e,l⟩:=bq I R p hs;subst e;cases r1;cases d.strs;obtain⟨t,rfl⟩:=r2;exact SeqAt.EqAt.list_str _ _ l f
def N0{q:List (Addr × Obj)}{Z:L2.St}{s:Shared}(I:Inv X q Z H s)(R:Rel X.K m S H)(n:Nat){A:Around}{x y:D}{v w:V}{u U:Value}{b:Bool}(p:VD X.K m H x v)(f:VD X.K m H y w)(r1:aJ v u)(r2:aJ w U)(h:eqD (n+1) S x y=aw b)(O:A.units+(n+1) < cLine) :
  Vc A s u U b/\Ve A s u U (!b):=by
 have d:A.units < cLine:=by lia
 have seq:∀ {a B:Addr},v = .ref a->w = .ref B->Vc A s u U b/\Ve A s u U (!b):=by
  intro a B e z;subst e z;cases r1;cases r2;exact Ax I R (qo I R n) p f h O
 cases x with
 |non=>
  cases p.nons;cases r1;cases y with
  |non=>cases f.nons;cases r2;simp[eqD] at h;subst h;exact⟨SeqAt.RcAt.none_none,PySem.SeqAt.RcNeAt.none_none⟩
  |bl j=>cases f.bls;cases r2;simp[eqD] at h;subst h;exact⟨SeqAt.RcAt.none_bool _,PySem.SeqAt.RcNeAt.none_bool _⟩
  |int j=>cases f.ints;obtain⟨T,rfl⟩:=r2;simp[eqD] at h;subst h;exact⟨SeqAt.RcAt.none_int _ _,PySem.SeqAt.RcNeAt.none_int _ _⟩
  |str j=>cases f.strs;obtain⟨T,rfl⟩:=r2;simp[eqD] at h;subst h;exact⟨SeqAt.RcAt.none_str _ _,PySem.SeqAt.RcNeAt.none_str _ _⟩
  |tup Y=>obtain⟨a,i,e,l⟩:=bB I f;subst e;cases r2;simp[eqD] at h;subst h;exact⟨SeqAt.RcAt.none_tuple l d,PySem.SeqAt.RcNeAt.none_tuple l d⟩
  |ref k=>
   simp only[eqD] at h;cases hs:au S k with
   |none=>rw[hs] at h;cases h
   |some E=>rw[hs] at h;cases h;obtain⟨a,i,e,l⟩:=bq I R f hs;subst e;cases r2;exact⟨SeqAt.RcAt.none_list l d,PySem.SeqAt.RcNeAt.none_list l d⟩
 |bl i=>
  cases p.bls;cases r1;cases y with
  |non=>cases f.nons;cases r2;simp[eqD] at h;subst h;exact⟨SeqAt.RcAt.bool_none _,PySem.SeqAt.RcNeAt.bool_none _⟩
  |bl j=>cases f.bls;cases r2;simp only[eqD] at h;cases h;exact⟨SeqAt.RcAt.bool_bool _ _,PySem.SeqAt.RcNeAt.bool_bool _ _⟩
  |int j=>cases f.ints;obtain⟨T,rfl⟩:=r2;simp only[eqD] at h;cases h;exact⟨SeqAt.RcAt.bool_int _ _ _,PySem.SeqAt.RcNeAt.bool_int _ _ _⟩
  |str j=>cases f.strs;obtain⟨T,rfl⟩:=r2;simp[eqD] at h;subst h;exact⟨SeqAt.RcAt.bool_str _ _ _,PySem.SeqAt.RcNeAt.bool_str _ _ _⟩
  |tup Y=>obtain⟨a,i,e,l⟩:=bB I f;subst e;cases r2;simp[eqD] at h;subst h;exact⟨SeqAt.RcAt.bool_tuple _ l d,PySem.SeqAt.RcNeAt.bool_tuple _ l d⟩
  |ref k=>
   simp only[eqD] at h;cases hs:au S k with
   |none=>rw[hs] at h;cases h
   |some E=>rw[hs] at h;cases h;obtain⟨a,i,e,l⟩:=bq I R f hs;subst e;cases r2;exact⟨SeqAt.RcAt.bool_list _ l d,PySem.SeqAt.RcNeAt.bool_list _ l d⟩
 |int i=>
  cases p.ints;obtain⟨t1,rfl⟩:=r1;cases y with
  |non=>cases f.nons;cases r2;simp[eqD] at h;subst h;exact⟨SeqAt.RcAt.int_none _ _,PySem.SeqAt.RcNeAt.int_none _ _⟩
  |bl j=>cases f.bls;cases r2;simp only[eqD] at h;cases h;exact⟨SeqAt.RcAt.int_bool _ _ _,PySem.SeqAt.RcNeAt.int_bool _ _ _⟩
  |int j=>cases f.ints;obtain⟨T,rfl⟩:=r2;simp only[eqD] at h;cases h;exact⟨SeqAt.RcAt.int_int _ _ _ _,PySem.SeqAt.RcNeAt.int_int _ _ _ _⟩
  |str j=>cases f.strs;obtain⟨T,rfl⟩:=r2;simp[eqD] at h;subst h;exact⟨SeqAt.RcAt.int_str _ _ _ _,PySem.SeqAt.RcNeAt.int_str _ _ _ _⟩
  |tup Y=>obtain⟨a,i,e,l⟩:=bB I f;subst e;cases r2;simp[eqD] at h;subst h;exact⟨SeqAt.RcAt.int_tuple _ _ l d,PySem.SeqAt.RcNeAt.int_tuple _ _ l d⟩
  |ref k=>
   simp only[eqD] at h;cases hs:au S k with
   |none=>rw[hs] at h;cases h
   |some E=>rw[hs] at h;cases h;obtain⟨a,i,e,l⟩:=bq I R f hs;subst e;cases r2;exact⟨SeqAt.RcAt.int_list _ _ l d,PySem.SeqAt.RcNeAt.int_list _ _ l d⟩
 |str i=>
  cases p.strs;obtain⟨t1,rfl⟩:=r1;cases y with
  |non=>cases f.nons;cases r2;simp[eqD] at h;subst h;exact⟨SeqAt.RcAt.str_none _ _,PySem.SeqAt.RcNeAt.str_none _ _⟩
  |bl j=>cases f.bls;cases r2;simp[eqD] at h;subst h;exact⟨SeqAt.RcAt.str_bool _ _ _,PySem.SeqAt.RcNeAt.str_bool _ _ _⟩
  |int j=>cases f.ints;obtain⟨T,rfl⟩:=r2;simp[eqD] at h;subst h;exact⟨SeqAt.RcAt.str_int _ _ _ _,PySem.SeqAt.RcNeAt.str_int _ _ _ _⟩
  |str j=>cases f.strs;obtain⟨T,rfl⟩:=r2;simp only[eqD] at h;cases h;exact⟨SeqAt.RcAt.str_str _ _ _ _,PySem.SeqAt.RcNeAt.str_str _ _ _ _⟩
  |tup Y=>obtain⟨a,i,e,l⟩:=bB I f;subst e;cases r2;simp[eqD] at h;subst h;exact⟨SeqAt.RcAt.str_tuple _ _ l d,PySem.SeqAt.RcNeAt.str_tuple _ _ l d⟩
  |ref k=>
   simp only[eqD] at h;cases hs:au S k with
   |none=>rw[hs] at h;cases h
   |some E=>rw[hs] at h;cases h;obtain⟨a,i,e,l⟩:=bq I R f hs;subst e;cases r2;exact⟨SeqAt.RcAt.str_list _ _ l d,PySem.SeqAt.RcNeAt.str_list _ _ l d⟩
 |tup xs=>
  obtain⟨a,i,e,l⟩:=bB I p;cases y with
  |non=>subst e;cases r1;cases f.nons;cases r2;simp[eqD] at h;subst h;exact⟨SeqAt.RcAt.tuple_none l d,PySem.SeqAt.RcNeAt.tuple_none l d⟩
  |bl j=>subst e;cases r1;cases f.bls;cases r2;simp[eqD] at h;subst h;exact⟨SeqAt.RcAt.tuple_bool _ l d,PySem.SeqAt.RcNeAt.tuple_bool _ l d⟩
  |int j=>subst e;cases r1;cases f.ints;obtain⟨T,rfl⟩:=r2;simp[eqD] at h;subst h;exact⟨SeqAt.RcAt.tuple_int _ _ l d,PySem.SeqAt.RcNeAt.tuple_int _ _ l d⟩
  |str j=>subst e;cases r1;cases f.strs;obtain⟨T,rfl⟩:=r2;simp[eqD] at h;subst h;exact⟨SeqAt.RcAt.tuple_str _ _ l d,PySem.SeqAt.RcNeAt.tuple_str _ _ l d⟩
  |tup Y=>obtain⟨B,i',z,Q⟩:=bB I f;exact seq e z
  |ref k=>obtain⟨c,L,C⟩:=f.refs;exact seq e C
 |ref k=>
  obtain⟨c,L,C⟩:=p.refs;cases y with
  |tup Y=>obtain⟨B,i',z,Q⟩:=bB I f;exact seq C z
  |ref k=>obtain⟨c,L,J⟩:=f.refs;exact seq C J
  |non=>
   simp only[eqD] at h;cases hs:au S k with
   |none=>rw[hs] at h;cases h
   |some E=>rw[hs] at h;cases h;obtain⟨a,i,e,l⟩:=bq I R p hs;subst e;cases r1;cases f.nons;cases r2;exact⟨SeqAt.RcAt.list_none l d,PySem.SeqAt.RcNeAt.list_none l d⟩
  |bl j=>
   simp only[eqD] at h;cases hs:au S k with
   |none=>rw[hs] at h;cases h
   |some E=>rw[hs] at h;cases h;obtain⟨a,i,e,l⟩:=bq I R p hs;subst e;cases r1;cases f.bls;cases r2;exact⟨SeqAt.RcAt.list_bool _ l d,PySem.SeqAt.RcNeAt.list_bool _ l d⟩
  |int j=>
   simp only[eqD] at h;cases hs:au S k with
   |none=>rw[hs] at h;cases h
   |some E=>rw[hs] at h;cases h;obtain⟨a,i,e,l⟩:=bq I R p hs;subst e;cases r1;cases f.ints;obtain⟨T,rfl⟩:=r2;exact⟨SeqAt.RcAt.list_int _ _ l d,PySem.SeqAt.RcNeAt.list_int _ _ l d⟩
  |str j=>
   simp only[eqD] at h;cases hs:au S k with
   |none=>rw[hs] at h;cases h
   |some E=>rw[hs] at h;cases h;obtain⟨a,i,e,l⟩:=bq I R p hs;subst e;cases r1;cases f.strs;obtain⟨T,rfl⟩:=r2;exact⟨SeqAt.RcAt.list_str _ _ l d,PySem.SeqAt.RcNeAt.list_str _ _ l d⟩
abbrev eqS(x y:D)(S:Sto):Option (D × Sto):=(eqD 60 S x y).map λb=>(.bl b,S)
abbrev neS(x y:D)(S:Sto):Option (D × Sto):=(eqD 60 S x y).map λb=>(.bl (!b),S)
def rB{x y:D}{S:Sto}{b:Bool}(h:eqD 60 S x y=aw b):neS x y S=aw (.bl (!b),S):=by unfold neS;rw[h];rfl
def Jv(B:X.A.units+64 < cLine):OpR X (VQ .Eq) (rS X.K eqS):=by
 intro p s C H x y v u Q I k j h;obtain⟨m,S,a,b,d,E,R,n,z,e,q⟩:=h;unfold eqS at e;cases f:eqD 60 S a b with
 |none=>rw[f] at e;cases e
 |some c=>
  rw[f] at e;cases e;exact(N0 I R 59 n z k j f (by lia)).1 _ _ _ _ ⟨.bl c,H,I,rfl,q m H _ (Aft.refl R) bD⟩
def Jw(B:X.A.units+64 < cLine):OpR X (VQ .NotEq) (rS X.K neS):=by
 intro p s C H x y v u Q I k j h;obtain⟨m,S,a,b,d,E,R,n,z,e,q⟩:=h;unfold neS at e;cases f:eqD 60 S a b with
 |none=>rw[f] at e;cases e
 |some c=>
  rw[f] at e;cases e;exact(N0 I R 59 n z k j f (by lia)).2 _ _ _ _ ⟨.bl (!c),H,I,rfl,q m H _ (Aft.refl R) bD⟩
end
abbrev ei:List D->Option (List Key)
 |[]=>aw []
 |.int i::ds=>(ei ds).map (.inl i::·)
 |.str x::ds=>(ei ds).map (.inr x::·)
 |_=>aD
abbrev Ay:D->Option NK
 |.non=>aw .non
 |.int i=>aw (.one (.inl i))
 |.str x=>aw (.one (.inr x))
 |.tup ds=>(ei ds).map .tup
 |_=>aD
abbrev oK:List D->Option (List NK)
 |[]=>aw []
 |d::ds=>match Ay d,oK ds with
  |some k,aw ks=>aw (k::ks)
  |_,_=>aD
abbrev nZ:D->Option (List NK)
 |.tup ds=>oK ds
 |_=>aD
abbrev atD:List (List NK)->List D->List NK->Option D
 |a::kss,d::ds,k=>if a=k then aw d else atD kss ds k
 |_,_,_=>aD
abbrev fR(k:List NK)(v:D):List (List NK)->List D->List D
 |a::kss,d::ds=>(if a=k then v else d)::fR k v kss ds
 |_,_=>[]
section
variable {K:Vk} {m:List Addr} {H:Hp} {S:Sto}
def mh:∀ {d:List D} {k:List Key} {b:List V},ei d=aw k->VDs K m H d b->b=k.map kV
 |[],_,_,e,h=>by cases e;rw[VDs] at h;exact h
 |.int i::d,k,b,e,h=>by
  simp only[ei] at e;obtain⟨j,E,rfl⟩:=ZV.mp e;rw[VDs] at h;obtain⟨v,r,rfl,f,c⟩:=h;rw[f.ints,mh E c];rfl
 |.str x::d,k,b,e,h=>by
  simp only[ei] at e;obtain⟨j,E,rfl⟩:=ZV.mp e;rw[VDs] at h;obtain⟨v,r,rfl,f,c⟩:=h;rw[f.strs,mh E c];rfl
 |.non::_,_,_,e,_=>by simp[ei] at e
 |.bl _::_,_,_,e,_=>by simp[ei] at e
 |.tup _::_,_,_,e,_=>by simp[ei] at e
 |.ref _::_,_,_,e,_=>by simp[ei] at e
def Ee{d:D}{k:NK}{v:V}(e:Ay d=aw k)(h:VD K m H d v):xX H k v:=by
 cases d with
 |non=>cases e;exact h.nons
 |int i=>cases e;exact h.ints
 |str x=>cases e;exact h.strs
 |tup c=>
  simp only[Ay] at e;obtain⟨f,E,rfl⟩:=ZV.mp e;obtain⟨a,j,rfl,b,q⟩:=h.tups;exact⟨a,rfl,by rw[<-mh E q];exact b⟩
 |_=>cases e
def si:∀ {b:List D} {c:List NK} {f:List V},oK b=aw c->VDs K m H b f->Paired (xX H) c f
 |[],_,_,e,h=>by cases e;rw[VDs] at h;subst h;exact .nil
 |d::b,c,f,e,h=>by
  rw[VDs] at h;obtain⟨v,r,rfl,q,p⟩:=h;simp only[oK] at e;split at e
  ·rename_i k j E n;cases e;exact .cons (Ee E q) (si n p)
  ·cases e
def wH{d:D}{k:List NK}{v:V}(e:nZ d=aw k)(h:VD K m H d v):∃a,v = .ref a/\pV H k a:=by
 cases d with
 |tup f=>
  obtain⟨a,c,rfl,b,q⟩:=h.tups;exact⟨a,rfl,c,b,si e q⟩
 |_=>cases e
def Rel.dic(R:Rel K m S H){n:Nat}{k:List (List NK)}{d:List D}{x:V}(c:S[n]?=aw (.dic k d))(v:VD K m H (.ref n) x):∃a vs,x = .ref a/\m[n]?=aw a/\H a=aw (.dT (k.zip vs))/\k.length=d.length/\VDs K m H d vs:=by
 obtain⟨a,b,vs,j,f,p⟩:=R.ob n _ c;obtain⟨q,h,rfl⟩:=v.refs;rw[b] at h;cases h;exact⟨a,vs,rfl,b,j,f,p⟩
def qp:∀ {b:List (List NK)} {c:List D} {f:List V} {k:List NK},b.length=c.length->VDs K m H c f->atD b c k=aD->jD (b.zip f) k=aD/\k ∉ b
 |[],_,_,_,_,_,_=>⟨rfl,by simp⟩
 |a::b,d::c,f,k,hl,h,e=>by
  rw[VDs] at h;obtain⟨v,r,rfl,p,n⟩:=h;simp only[atD] at e;split at e
  ·cases e
  ·rename_i ne;obtain⟨j,I⟩:=qp (by simpa using hl) n e;refine⟨?_,λz=>(Zn.mp z).elim (λz=>ne z.symm) I⟩;rw[Yl,fQ ne];exact j
 |_::_,[],_,_,hl,_,_=>by simp at hl
def kT:∀ {b:List (List NK)} {c:List D} {f:List V} {k:List NK} {d:D},VDs K m H c f->atD b c k=aw d->∃v,jD (b.zip f) k=aw v/\VD K m H d v
 |[],_,_,_,_,_,e=>by simp[atD] at e
 |a::b,d::c,f,k,d',h,e=>by
  rw[VDs] at h;obtain⟨v,r,rfl,n,j⟩:=h;simp only[atD] at e;rw[Yl];split at e
  ·rename_i eq;cases e;exact⟨v,iV eq,n⟩
  ·rename_i ne;rw[fQ ne];exact kT j e
 |_::_,[],_,_,_,_,e=>by simp[atD] at e
abbrev inK(neg:Bool)(x y:D)(S:Sto):Option (D × Sto):=match nZ x,y with
 | some k,.ref n=>(match S[n]? with
  |some (.dic kss ds)=>aw (.bl (neg != (atD kss ds k).isSome),S)
  | _=>aD)
 |_,_=>aD
def sj{neg:Bool}{x y d:D}{f:Sto}(e:inK neg x y S=aw (d,f)):∃k n b c,nZ x=aw k/\y = .ref n/\S[n]?=aw (.dic b c)/\d = .bl (neg != (atD b c k).isSome)/\f=S:=by
 unfold inK at e;split at e
 ·rename_i k n j;split at e
  ·rename_i b c h;cases e;exact⟨k,n,b,c,j,rfl,h,rfl,rfl⟩
  ·cases e
 ·cases e
def qq(R:Rel K m S H){n:Nat}{c:List (List NK)}{h:List D}{x y:D}{k:List NK}{u v:V}(B:nZ x=aw k)(p:S[n]?=aw (.dic c h))(C:VD K m H x u)(J:VD K m H (.ref n) v):∃a b,v = .ref a/\u = .ref b/\∃o,Ai H a (.ref b) o/\o.isSome=(atD c h k).isSome/\∀d,atD c h k=aw d->∃w,o=aw w/\VD K m H d w:=by
 obtain⟨b,rfl,j⟩:=wH B C;obtain⟨a,L,rfl,_,z,q,f⟩:=R.dic p J;refine⟨a,b,rfl,rfl,jD (c.zip L) k,.inr ⟨_,k,b,.inl z,rfl,j,rfl⟩,?_,λd e=>?_⟩
 ·cases e:atD c h k with
  |none=>rw[(qp q f e).1];rfl
  |some d=>obtain⟨w,E,_⟩:=kT f e;rw[E];rfl
 ·obtain⟨w,E,I⟩:=kT f e;exact⟨w,E,I⟩
abbrev ixK(d y:D)(S:Sto):Option (D × Sto):=match nZ y,d with
 | some k,.ref n=>(match S[n]? with
  |some (.dic kss ds)=>(atD kss ds k).map λv=>(v,S)
  | _=>aD)
 |_,_=>aD
def Az{x y d:D}{f:Sto}(e:ixK x y S=aw (d,f)):∃k n b c,nZ y=aw k/\x = .ref n/\S[n]?=aw (.dic b c)/\atD b c k=aw d/\f=S:=by
 unfold ixK at e;split at e
 ·rename_i k n p;split at e
  ·rename_i b c h;obtain⟨v,E,j⟩:=ZV.mp e;cases j;exact⟨k,n,b,c,p,rfl,h,E,rfl⟩
  ·cases e
 ·cases e
abbrev AA(o y v:D)(S:Sto):Option Sto:=match nZ y,o with
 | some k,.ref n=>(match S[n]? with
  |some (.dic kss ds)=>if kss.length < 100000 then aw (if (atD kss ds k).isSome=aN then S.set n (.dic kss (fR k v kss ds)) else S.set n (.dic (kss++[k]) (ds++[v]))) else aD
  | _=>aD)
 |_,_=>aD
def yv{o y v:D}{c:Sto}(e:AA o y v S=aw c):∃k n b d,nZ y=aw k/\o = .ref n/\S[n]?=aw (.dic b d)/\b.length < 100000/\c=if (atD b d k).isSome=aN then S.set n (.dic b (fR k v b d)) else S.set n (.dic (b++[k]) (d++[v])):=by
 unfold AA at e;split at e
 ·rename_i k n f;split at e
  ·rename_i b d h;split at e
   ·rename_i j;exact⟨k,n,b,d,f,rfl,h,j,(Option.some.inj e).symm⟩
   ·cases e
  ·cases e
 ·cases e
def AB{k:List NK}{v:D}{w:V}(p:VD K m H v w):∀ {b:List (List NK)} {f:List D} {j:List V},b.length=f.length->VDs K m H f j->∃c,(b.zip j).map (λn=>if n.1=k then (n.1,w) else n)=b.zip c/\VDs K m H (fR k v b f) c
 |[],[],j,_,h=>⟨[],by simp,by simp only[fR];rw[VDs]⟩
 |[],_::_,_,hl,_=>by simp at hl
 |_::_,[],_,hl,_=>by simp at hl
 |a::b,d::f,j,hl,h=>by
  rw[VDs] at h;obtain⟨u,r,rfl,z,y⟩:=h;obtain⟨c,q,E⟩:=AB p (by simpa using hl) y;rw[Yl,Zw,q];simp only[fR];by_cases e:a=k
  ·rw[if_pos e,if_pos e];exact⟨w::c,by rw[Yl],.cons p E⟩
  ·rw[if_neg e,if_neg e];exact⟨u::c,by rw[Yl],.cons z E⟩
def qr{k:List NK}{v:D}:∀ {b:List (List NK)} {c:List D},b.length=c.length->b.length=(fR k v b c).length
 |[],[],_=>rfl
 |[],_::_,hl=>by simp at hl
 |_::_,[],hl=>by simp at hl
 |a::b,d::c,hl=>by simp only[fR,Zo];rw[qr (by simpa using hl)]
def Rel.writeD(R:Rel K m S H){i:Nat}{a:Addr}{k:List (List NK)}{d:List D}{v:List V}(hi:m[i]?=aw a)(B:k.length=d.length)(q:VDs K m H d v):Aft K m H (S.set i (.dic k d)) m (upd H a (.dT (k.zip v))):=by
 have y:a ∈ m:=Zc hi;have x:Ext m H m (upd H a (.dT (k.zip v))):=⟨Ym m,λb u e n=>by rw[aB (show b ≠ a fromλz=>n (by rw[z];exact y))];exact e,λb z n=>absurd z n⟩;refine⟨x,by simp[R.len],R.nd,λj o e=>?_⟩;rw[Yw] at e;by_cases h:i=j
 ·subst h;rw[if_pos rfl] at e;split at e
  ·have I:=Option.some.inj e;subst I;exact⟨a,hi,v,bf,B,VDs.mono R x q⟩
  ·cases e
 ·rw[if_neg h] at e;obtain⟨b,hb,r⟩:=R.ob j o e
  have ne:b ≠ a:=λz=>by
   subst z;have C:=Zb.mp hi;have f:=Zb.mp hb;exact h ((Y5 R.nd).mp (C.2.trans f.2.symm))
  refine⟨b,hb,?_⟩;cases o with
  |lst E=>obtain⟨c,p,q⟩:=r;exact⟨c,by rw[aB ne];exact p,VDs.mono R x q⟩
  |frz E=>obtain⟨o,c,p,q⟩:=r;exact⟨o,c,by rw[aB ne];exact p,VDs.mono R x q⟩
  |dic J E=>obtain⟨c,p,l,q⟩:=r;exact⟨c,by rw[aB ne];exact p,l,VDs.mono R x q⟩
def Ef(R:Rel K m S H){n:Nat}{f:List (List NK)}{j:List D}{y v:D}{k:List NK}{u o w:V}(Z:nZ y=aw k)(J:S[n]?=aw (.dic f j))(h5:f.length < 100000)(T:VD K m H y u)(I:VD K m H (.ref n) o)(B:VD K m H v w) :
  ∃a b H',o = .ref a/\u = .ref b/\NY H a (.ref b) w H'/\Aft K m H (if (atD f j k).isSome=aN then S.set n (.dic f (fR k v f j)) else S.set n (.dic (f++[k]) (j++[v]))) m H':=by
 obtain⟨b,rfl,E⟩:=wH Z T;obtain⟨a,p,rfl,C,Q,q,h⟩:=R.dic J I;have z:f.length=p.length:=by rw[q,h.length]
 have L:(f.zip p).length < sizeLine:=by rw[List.length_zip,Uh];lia
 refine⟨a,b,_,rfl,rfl,.inr ⟨_,k,b,Q,rfl,E,L,rfl⟩,?_⟩
 have any:((f.zip p).any λO=>decide (O.1=k))=(atD f j k).isSome:=by
  rw[l6];cases e:atD f j k with
  |none=>rw[(qp q h e).1];rfl
  |some d=>obtain⟨w,U,_⟩:=kT h e;rw[U];rfl
 unfold l5;rw[any];by_cases c:(atD f j k).isSome=aN
 ·rw[if_pos c,if_pos c];obtain⟨ws,X,Y⟩:=AB B q h;rw[X];exact R.writeD C (qr q) Y
 ·rw[if_neg c,if_neg c];have e:f.zip p++[(k,w)]=(f++[k]).zip (p++[w]):=by rw[List.zip_append z];rfl
  rw[e];exact R.writeD C (by rw[Zh,Zh,q];rfl) (h.append (.cons B .nil))
end
abbrev Jx(a b:Nat)(S:Sto):Option (D × Sto):=match S[a]? with
 | some (.lst xs)=>(match S[b]? with
  |some (.lst ys)=>if xs.length+ys.length<=100000 then aw (.ref S.length,S++[.lst (xs++ys)]) else aD
  | _=>aD)
 |_=>aD
abbrev kM:D->D->Sto->Option (D × Sto)
 |.int i,.int j,S=>aw (.int (i+j),S)
 |.tup xs,.tup ys,S=>if xs.length+ys.length<=1000 then aw (.tup (xs++ys),S) else aD
 |.ref a,.ref b,S=>Jx a b S
 |.str x,.str y,S=>if x.length+y.length<=100000 then aw (.str (x++y),S) else aD
 |_,_,_=>aD
abbrev N5:D->D->Sto->Option (D × Sto)
 |.int i,.int j,S=>aw (.int (i - j),S)
 |_,_,_=>aD
abbrev hU(i j:Int):Bool:=(decide (-(2 ^ 64) < i) && decide (i < 2 ^ 64)) || (decide (-(2 ^ 64) < j) && decide (j < 2 ^ 64))
abbrev sr:D->D->Sto->Option (D × Sto)
 |.int i,.int j,S=>if hU i j=aN then aw (.int (i * j),S) else aD
 | .ref n,.int k,S=>(match S[n]? with
  |some (.lst xs)=>if 0<=k/\xs.length * k.toNat<=1000/\k<=1000 then aw (.ref S.length,S++[.lst (Zx k.toNat xs).flatten]) else aD
  | _=>aD)
 |_,_,_=>aD
abbrev Jy:D->D->Sto->Option (D × Sto)
 |.int i,.int j,S=>if 0 < j then aw (.int (i % j),S) else aD
 |_,_,_=>aD
abbrev AC:D->D->Sto->Option (D × Sto)
 |.int i,.int j,S=>if 0 < j/\j < 1298074214633706907132624082305024 then aw (.int (i / j),S) else aD
 |_,_,_=>aD
abbrev Jz:D->D->Sto->Option (D × Sto)
 |.int i,.int j,S=>if 0<=j/\j<=1000000/\i.natAbs < 2 ^ 64 then aw (.int (i ^ j.toNat),S) else aD
 |_,_,_=>aD
inductive BOp where |add |sub |mul |mod |fdiv |pow
abbrev bL:BOp->D->D->Sto->Option (D × Sto)
 |.add=>kM |.sub=>N5 |.mul=>sr |.mod=>Jy |.fdiv=>AC |.pow=>Jz
abbrev BOp.op:BOp->Va
 |.add=>.Add |.sub=>.Sub |.mul=>.Mult |.mod=>.Mod |.fdiv=>.FloorDiv |.pow=>.Pow
section
variable {X:Cx} {K:Vk} {m:List Addr} {H:Hp} {S:Sto}
def gL{op:Va}{f:D->D->Sto->Option (D × Sto)}{C:Int->Int->Prop}{g:Int->Int->Int}(ho:OpR X (VG op) (rI C λi j=>.int (g i j)))
  (p:∀a b S d k,f a b S=aw (d,k)->∃i j,a = .int i/\b = .int j/\C i j/\d = .int (g i j)/\k=S):OpR X (VG op) (rS X.K f):=by
 refine OpR.imp ho λx y H Q h=>?_;obtain⟨m,S,a,b,d,k,R,v,n,e,q⟩:=h;obtain⟨i,j,rfl,rfl,c,rfl,rfl⟩:=p _ _ _ _ _ e;exact⟨i,j,v.ints,n.ints,c,q m H _ (Aft.refl R) bg⟩
def uD:OpR X (VG .Add) (λx y H Q=>∃m S c Y,Rel X.K m S H/\VD X.K m H (.tup c) x/\VD X.K m H (.tup Y) y/\c.length+Y.length<=1000/\∀f d u,Aft X.K m H S f d->VD X.K f d (.tup (c++Y)) u->Q u d):=by
 refine OpR.imp D3 λx y H Q h=>?_;obtain⟨m,S,c,Y,R,v,n,C,q⟩:=h;obtain⟨a,z,rfl,sa,j⟩:=v.tups;obtain⟨b,p,rfl,B,k⟩:=n.tups;have l1:=j.length;have L:=k.length;refine⟨a,b,z,p,rfl,rfl,.of sa,.of B,mf (by lia),λe=>?_,λ_ e=>?_,λ_ _=>iX R (j.append k) q⟩
 ·subst e;have e:c=[]:=ZT.mp (by simpa using l1);subst e;exact q m H _ (Aft.refl R) n
 ·subst e;have e:Y=[]:=ZT.mp (by simpa using L);subst e;rw[ZN] at q;exact q m H _ (Aft.refl R) v
def Eg:OpR X (VG .Add) (rS X.K kM):=by
 refine OpR.imp (OpR.or IU (OpR.or uD (OpR.or ul Jh))) λx y H Q h=>?_;obtain⟨m,S,a,b,d,S',R,v,n,e,q⟩:=h;cases a with
 |int i=>
  cases b with
  |int j=>cases e;exact .inl ⟨i,j,v.ints,n.ints,q m H _ (Aft.refl R) bg⟩
  |_=>simp[kM] at e
 |tup B=>
  cases b with
  |tup Y=>
   simp only[kM] at e;split at e
   ·rename_i p;cases e;exact .inr (.inl ⟨m,S,B,Y,R,v,n,p,q⟩)
   ·cases e
  |_=>simp[kM] at e
 |str i=>
  cases b with
  |str j=>
   simp only[kM] at e;split at e
   ·rename_i p;cases e;exact .inr (.inr (.inl ⟨i,j,v.strs,n.strs,by rw[Uh];lia,q m H _ (Aft.refl R) uC⟩))
   ·cases e
  |_=>simp[kM] at e
 |ref i=>
  cases b with
  |ref j=>
   simp only[kM,Jx] at e;split at e
   ·rename_i B E;split at e
    ·rename_i Y C;split at e
     ·rename_i p;cases e;obtain⟨a,U,T,J,u⟩:=R.lst E;obtain⟨c,O,L,I,z⟩:=R.lst C;obtain⟨a',f,Z⟩:=v.refs;obtain⟨c',k,e2⟩:=n.refs;rw[T] at f;cases f;rw[L] at k;cases k;exact .inr (.inr (.inr ⟨a,c,U,O,Z,e2,J,I,by rw[Uh,<-u.length,<-z.length];lia,kQ R (u.append z) q⟩))
     ·cases e
    ·cases e
   ·cases e
  |_=>simp[kM] at e
 |_=>cases b <;> simp[kM] at e
def wJ(h:VDs K m H d v):∀n:Nat,VDs K m H (Zx n d).flatten (Zx n v).flatten
 |0=>by rw[XW,XW,Wg,Wg,VDs]
 |n+1=>by rw[Yg,Yg,Yv,Yv];exact h.append (wJ h n)
def Eh:OpR X (VG .Mult) (rS X.K sr):=by
 refine OpR.imp (OpR.or Ji IW) λx y H Q h=>?_;obtain⟨m,S,a,b,d,I,R,v,p,e,q⟩:=h;cases a with
 |int i=>
  cases b with
  |int j=>
   simp only[sr] at e;split at e
   ·rename_i f;cases e;simp only[hU,YT,bAE,decide_eq_true_eq] at f;exact .inr ⟨i,j,v.ints,p.ints,f,q m H _ (Aft.refl R) bg⟩
   ·cases e
  |_=>simp[sr] at e
 |ref n=>
  cases b with
  |int k=>
   simp only[sr] at e;split at e
   ·rename_i J u;split at e
    ·rename_i f;cases e;obtain⟨l,B,C,z,vd⟩:=R.lst u;obtain⟨L,c,E⟩:=v.refs;rw[C] at c;cases c;exact .inl ⟨l,k,B,E,p.ints,z,by lia,by lia,by rw[Uh,<-vd.length];lia,kQ R (wJ vd k.toNat) q⟩
    ·cases e
   ·cases e
  |_=>simp[sr] at e
 |_=>cases b <;> simp[sr] at e
def AE:OpR X (VG .FloorDiv) (rI (λ_ j=>0 < j/\j < 1298074214633706907132624082305024) λi j=>.int (i / j)):=opI λi j _ _ _ _ _ h q=>by
 have d:(0:Int) < j:=h.1;have c:j < 1298074214633706907132624082305024:=h.2
 exact floordiv_int (by lia) (by rw[Int.fdiv_eq_ediv_of_nonneg i (by lia)];exact q) (.inl (PyProof.noPylong_of_log2 (by
  have b:j.natAbs ≠ 0:=by lia
  have:j.natAbs.log2 < 110:=(Nat.log2_lt b).mpr (by lia)
  lia)))
def Ei(o:BOp):OpR X (VG o.op) (rS X.K (bL o)):=by
 cases o with
 |add=>exact Eg
 |sub=>
  refine gL (C:=λ_ _=>True) (g:=λi j=>i - j) (OpR.imp IV λx y H Q ⟨i,j,a,b,_,q⟩=>⟨i,j,a,b,q⟩) λa b S d c e=>?_;cases a <;> cases b <;> simp[bL,N5] at e;exact⟨_,_,rfl,rfl,trivial,e.1.symm,e.2.symm⟩
 |mul=>exact Eh
 |mod=>
  refine gL IX λa b S d c e=>?_;cases a <;> cases b <;> simp[bL,Jy] at e;rename_i i j;exact⟨i,j,rfl,rfl,e.1,e.2.1.symm,e.2.2.symm⟩
 |fdiv=>
  refine gL AE λa b S d c e=>?_;cases a <;> cases b <;> simp[bL,AC] at e;rename_i i j;exact⟨i,j,rfl,rfl,e.1,e.2.1.symm,e.2.2.symm⟩
 |pow=>
  refine gL IY λa b S d c e=>?_;cases a <;> cases b <;> simp[bL,Jz] at e;rename_i i j;exact⟨i,j,rfl,rfl,e.1,e.2.1.symm,e.2.2.symm⟩
abbrev yw(p:Int->Int->Bool):D->D->Sto->Option (D × Sto)
 |.int i,.int j,S=>aw (.bl (p i j),S)
 |_,_,_=>aD
abbrev Hy:D->Bool
 |.non=>aN
 |_=>aS
abbrev isB(neg:Bool):D->D->Sto->Option (D × Sto)
 |d,.non,S=>aw (.bl (neg != Hy d),S)
 |.bl a,.bl b,S=>aw (.bl (neg != (a == b)),S)
 |_,_,_=>aD
abbrev cB:D->Bool
 |.non=>aN |.bl _=>aN |.int _=>aN |.str _=>aN |_=>aS
abbrev eqF:D->D->Bool
 |.non,.non=>aN
 |.bl a,.bl b=>a == b
 |.bl a,.int b=>(if a then 1 else 0) == b
 |.int a,.bl b=>a == (if b then 1 else 0)
 |.int a,.int b=>a == b
 |.str a,.str b=>a == b
 |_,_=>aS
abbrev inF(x:D)(d:List D):Bool:=d.any λy=>eqF y x
abbrev inD(x:D)(d:List D)(S:Sto):Option Bool:=if (d.all λy=>(eqD 58 S y x).isSome)=aN then aw (d.any λy=>eqD 58 S y x == aw aN) else aD
abbrev inS(neg:Bool)(x y:D)(S:Sto):Option (D × Sto):=match ao y S with
 |some (_,ds)=>if cB x=aN/\ds.all cB=aN then aw (.bl (neg != inF x ds),S) else (inD x ds S).map λb=>(.bl (neg != b),S)
 |none=>inK neg x y S
inductive COp where |eq |ne |lt |le |gt |ge |is |isnot |isin |notin
abbrev ak:COp->D->D->Sto->Option (D × Sto)
 |.eq=>eqS |.ne=>neS
 |.lt=>yw λi j=>decide (i < j) |.le=>yw λi j=>decide (i<=j) |.gt=>yw λi j=>decide (j < i) |.ge=>yw λi j=>decide (j<=i)
 |.is=>isB aS |.isnot=>isB aN |.isin=>inS aS |.notin=>inS aN
abbrev COp.op:COp->CmpOp
 |.eq=>.Eq |.ne=>.NotEq |.lt=>.Lt |.le=>.LtE |.gt=>.Gt |.ge=>.GtE |.is=>.Is |.isnot=>.IsNot |.isin=>.In |.notin=>.NotIn
def eS(ho:OpR X (VQ op) (rI0 λi j=>.bl (p i j))):OpR X (VQ op) (rS X.K (yw p)):=by
 refine OpR.imp ho λx y H Q h=>?_;obtain⟨m,S,a,b,d,f,R,v,c,e,q⟩:=h;cases a <;> cases b <;> simp[yw] at e;obtain⟨rfl,rfl⟩:=e;exact⟨_,_,v.ints,c.ints,q m H _ (Aft.refl R) bD⟩
def kU(h:VD K m H x v)(f:cB x=aN):dU v=aN:=by
 cases x <;> simp[cB] at f
 ·cases h.nons;rfl
 ·cases h.bls;rfl
 ·cases h.ints;rfl
 ·cases h.strs;rfl
def AF(h:VD K m H x v)(f:cB x=aN)(b:VD K m H y w)(c:cB y=aN):eqV v w=eqF x y:=by
 cases x <;> simp[cB] at f <;> cases y <;> simp[cB] at c <;> simp[VD] at h b <;> subst h <;> subst b <;> rfl
def iY:∀ {b:List D} {v:List V},VDs K m H b v->b.all cB=aN->v.all dU=aN
 |[],v,h,_=>by rw[VDs] at h;rw[h];rfl
 |d::b,v,h,f=>by
  rw[VDs] at h;obtain⟨x,r,rfl,p,q⟩:=h;rw[Yr,bAE] at f;rw[Yr,kU p f.1,iY q f.2];rfl
def uE(h:VD K m H x v)(f:cB x=aN):∀ {b:List D} {c:List V},VDs K m H b c->b.all cB=aN->inV v c=inF x b
 |[],c,h,_=>by rw[VDs] at h;rw[h];rfl
 |d::b,c,h',f'=>by
  rw[VDs] at h';obtain⟨y,r,rfl,p,q⟩:=h';rw[Yr,bAE] at f';have I:=uE h f q f'.2;unfold inV inF at I ⊢;rw[YI,YI,AF p f'.1 h f,I]
def oM(h:VD K m H x v)(f:cB x=aN):∀ {b:List D} {c:List V},VDs K m H b c->b.all cB=aN->(c.countP λz=>eqV z v)=b.countP λz=>eqF z x
 |[],c,h,_=>by rw[VDs] at h;rw[h];rfl
 |d::b,c,h',f'=>by
  rw[VDs] at h';obtain⟨y,r,rfl,p,q⟩:=h';rw[Yr,bAE] at f';rw[Y8,Y8,AF p f'.1 h f,oM h f q f'.2]
def iq(h:SqB K T H a vs):SqL K H a vs\/SqT K H a vs:=by
 cases T with
 |false=>exact .inl h
 |true=>exact .inr (.of h)
def qt(I:Inv X O σ H s)(R:Rel X.K m S H)(U:VD X.K m H x v)(Q:aJ v u)(L:A.units+58 < cLine)(vd:VDs X.K m H q Z)(r:aO Z d)(h:inD x q S=aw b) :
  ∃e:Value->Bool,(∀w ∈ d,Vb A s w u (e w))/\d.any e=b:=by
 unfold inD at h;split at h
 ·rename_i hs;cases h;rw[Yk] at hs
  have at_:∀ (i:Nat) w,d[i]?=aw w->∃y k,q[i]?=aw y/\VD X.K m H y k/\aJ k w:=λi w f=>by
   have hi:=(Zb.mp f).1;obtain⟨y,k,E,C,p⟩:=qm vd r (j:=i) (by simpa using hi);refine⟨y,k,E,C,?_⟩
   have:d.toArray[i]=w:=by
    have:=(Zb.mp f).2
    simpa using this
   rw[<-this];exact p
  refine⟨λw=>@decide (∃ (i:Nat) (y:D),q[i]?=aw y/\d[i]?=aw w/\eqD 58 S y x=aw aN) (Classical.propDecidable _),λw f=>?_,?_⟩
  ·obtain⟨i,hi⟩:=ZZ f;dsimp only;by_cases z:∃ (i:Nat) (y:D),q[i]?=aw y/\d[i]?=aw w/\eqD 58 S y x=aw aN
   ·rw[@decide_eq_true _ (Classical.propDecidable _) z];obtain⟨j,y,E,C,p⟩:=z;obtain⟨y',k,n,B,J⟩:=at_ j w C;rw[E] at n;cases n;exact qo I R 58 A y x k v w u aN B U J Q p L
   ·rw[@decide_eq_false _ (Classical.propDecidable _) z];obtain⟨y,k,n,B,J⟩:=at_ i w hi;obtain⟨c,T⟩:=Z9.mp (hs y (Zc n));cases c with
    |true=>exact absurd ⟨i,y,n,hi,T⟩ z
    |false=>exact qo I R 58 A y x k v w u aS B U J Q T L
  ·rw[YS,Y7,Y7];constructor
   ·rintro⟨w,_,f⟩;obtain⟨i,y,E,_,p⟩:=@of_decide_eq_true _ (Classical.propDecidable _) f;exact⟨y,Zc E,by rw[p];rfl⟩
   ·rintro⟨y,Y,e⟩;obtain⟨i,hi⟩:=ZZ Y;obtain⟨k,hv,_⟩:=vd.get hi;obtain⟨w,f,_⟩:=r.get hv;exact⟨w,Zc f,@decide_eq_true _ (Classical.propDecidable _) ⟨i,y,hi,f,by simpa using e⟩⟩
 ·cases h
def JA(hu:X.A.units+64 < cLine):OpR X (VQ .In) (rS X.K (inS aS)):=by
 intro z s σ H x y v u Q I C L h;obtain⟨m,S,a,b,d,S',R,B,vb,e,q⟩:=h;unfold inS at e;split at e
 ·rename_i tu Z hi;obtain⟨p,vs,rfl,Y,j⟩:=dZ R vb hi;split at e
  ·rename_i E;cases e;refine yg z s σ H x _ v u Q I C L ⟨p,vs,rfl,iq Y,kU B E.1,iY j E.2,q m H _ (Aft.refl R) ?_⟩;rw[if_neg (by decide),uE B E.1 j E.2]
   simpa using bD
  ·cases hd:inD a Z S with
   |none=>rw[hd] at e;cases e
   |some c=>
    rw[hd] at e;cases e;cases L;have U:X.A.in1.units+58 < cLine:=by show X.A.units+1+58 < cLine;lia
    rcases iq Y with hq |hq
    ·obtain⟨f,r,O,hz⟩:=I.list hq;obtain⟨e,T,hb⟩:=qt I R B C U j r hd;refine Vf e O.isList (λw J=>T w (by simpa using J)) ⟨.bl _,H,I,rfl,?_⟩;rw[show f.toArray.any e=f.any e by simp,hb];exact q m H _ (Aft.refl R) (by simpa using bD)
    ·obtain⟨f,r,O,hz⟩:=I.tuple hq;obtain⟨e,T,hb⟩:=qt I R B C U j r hd;refine Vg e O (λw J=>T w (by simpa using J)) ⟨.bl _,H,I,rfl,?_⟩;rw[show f.toArray.any e=f.any e by simp,hb];exact q m H _ (Aft.refl R) (by simpa using bD)
 ·obtain⟨k,n,kss,Z,hk,rfl,hn,rfl,rfl⟩:=sj e;obtain⟨a,b,rfl,rfl,o,g,ho,_⟩:=qq (y:=.ref n) R hk hn B vb;cases L;refine QI (show X.A.units+2 < cLine by lia) I g C λs' I'=>⟨.bl _,H,I',rfl,?_⟩;rw[ho];exact q m H _ (Aft.refl R) (by simpa using bD)
def yx(hu:X.A.units+64 < cLine):OpR X (VQ .NotIn) (rS X.K (inS aN)):=by
 intro z s σ H x y v u Q I C L h;obtain⟨m,S,a,b,d,S',R,B,vb,e,q⟩:=h;unfold inS at e;split at e
 ·rename_i tu Z hi;obtain⟨p,vs,rfl,Y,j⟩:=dZ R vb hi;split at e
  ·rename_i E;cases e;refine qd z s σ H x _ v u Q I C L ⟨p,vs,rfl,iq Y,kU B E.1,iY j E.2,q m H _ (Aft.refl R) ?_⟩;rw[if_pos rfl,uE B E.1 j E.2]
   simpa using bD
  ·cases hd:inD a Z S with
   |none=>rw[hd] at e;cases e
   |some c=>
    rw[hd] at e;cases e;cases L;have U:X.A.in1.units+58 < cLine:=by show X.A.units+1+58 < cLine;lia
    rcases iq Y with hq |hq
    ·obtain⟨f,r,O,hz⟩:=I.list hq;obtain⟨e,T,hb⟩:=qt I R B C U j r hd;refine Vh e O.isList (λw J=>T w (by simpa using J)) ⟨.bl _,H,I,rfl,?_⟩;rw[show f.toArray.any e=f.any e by simp,hb];exact q m H _ (Aft.refl R) (by simpa using bD)
    ·obtain⟨f,r,O,hz⟩:=I.tuple hq;obtain⟨e,T,hb⟩:=qt I R B C U j r hd;refine Vi e O (λw J=>T w (by simpa using J)) ⟨.bl _,H,I,rfl,?_⟩;rw[show f.toArray.any e=f.any e by simp,hb];exact q m H _ (Aft.refl R) (by simpa using bD)
 ·obtain⟨k,n,kss,Z,hk,rfl,hn,rfl,rfl⟩:=sj e;obtain⟨a,b,rfl,rfl,o,g,ho,_⟩:=qq (y:=.ref n) R hk hn B vb;cases L;refine D5 (show X.A.units+2 < cLine by lia) I g C λs' I'=>⟨.bl _,H,I',rfl,?_⟩;rw[ho];exact q m H _ (Aft.refl R) (by simpa using bD)
def AG(h:VD K m H d v):decide (v=V.non)=Hy d:=by
 cases d with
 |non=>cases h.nons;rfl
 |bl _=>cases h.bls;rfl
 |int _=>cases h.ints;rfl
 |str _=>cases h.strs;rfl
 |tup _=>obtain⟨_,_,e,_⟩:=h.tups;subst e;rfl
 |ref _=>obtain⟨_,_,e⟩:=h.refs;subst e;rfl
def JB:OpR X (VQ .Is) (rS X.K (isB aS)):=by
 refine OpR.imp (OpR.or IZ Jk) λx y H Q h=>?_;obtain⟨m,S,a,b,d,f,R,v,c,e,q⟩:=h;cases b with
 |non=>
  simp[isB] at e;obtain⟨rfl,rfl⟩:=e;exact .inl ⟨c.nons,q m H _ (Aft.refl R) (by rw[AG v];exact bD)⟩
 |bl j=>
  cases a with
  |bl i=>
   simp[isB] at e;obtain⟨rfl,rfl⟩:=e;exact .inr ⟨i,j,v.bls,c.bls,q m H _ (Aft.refl R) bD⟩
  |_=>simp[isB] at e
 |_=>cases a <;> simp[isB] at e
def yy:OpR X (VQ .IsNot) (rS X.K (isB aN)):=by
 refine OpR.imp (OpR.or DG yo) λx y H Q h=>?_;obtain⟨m,S,a,b,d,f,R,v,c,e,q⟩:=h;cases b with
 |non=>
  simp[isB] at e;obtain⟨rfl,rfl⟩:=e;exact .inl ⟨c.nons,q m H _ (Aft.refl R) (by rw[AG v];exact bD)⟩
 |bl j=>
  cases a with
  |bl i=>
   simp[isB] at e;obtain⟨rfl,rfl⟩:=e;exact .inr ⟨i,j,v.bls,c.bls,q m H _ (Aft.refl R) (by simpa[bne] using bD)⟩
  |_=>simp[isB] at e
 |_=>cases a <;> simp[isB] at e
def gM(h:X.A.units+64 < cLine)(o:COp):OpR X (VQ o.op) (rS X.K (ak o)):=by
 cases o with
 |eq=>exact Jv h
 |ne=>exact Jw h
 |lt=>exact eS NH
 |le=>exact eS NI
 |gt=>exact eS NJ
 |ge=>exact eS NL
 |is=>exact JB
 |isnot=>exact yy
 |isin=>exact JA h
 |notin=>exact yx h
end
section
variable {X:Cx} {K:Vk} {m:List Addr} {H:Hp} {S:Sto}
abbrev ixS(d i:D)(S:Sto):Option (D × Sto):=match i with
 | .int k=>(match d with
  |.str z=>if z.length<=100000 then (atI z.cps.toList k).map λc=>(.str ⟨#[c]⟩,S) else aD
  | d=>(match ao d S with
   |some (_,ds)=>(atI ds k).map λx=>(x,S)
   | none=>aD))
 |i=>ixK d i S
def JC{k:Int}(h:VDs K m H b c)(e:atI b k=aw d):∃v,atI c k=aw v/\VD K m H d v:=by
 unfold atI at e ⊢;rw[<-h.length];cases hi:ixN b.length k with
 |none=>rw[hi] at e;cases e
 |some j=>
  rw[hi] at e;exact h.get e
def AH{k:Int}(f:SqB K tu H a b)(vd:VDs K m H h b)(e:atI h k=aw d)(q:∀v,VD K m H d v->Q v H):rIx K (.ref a) (.int k) H Q:=by
 obtain⟨v,E,c⟩:=JC vd e;cases tu with
 |false=>exact .inl ⟨a,b,k,v,rfl,rfl,f,E,q v c⟩
 |true=>exact .inr (.inl ⟨a,b,k,v,rfl,rfl,.of f,E,q v c⟩)
def QJ(hu:X.A.units+64 < cLine):IxR X (rS X.K ixS):=by
 intro j f B s Y H x y v u Q I Z U h hs;obtain⟨m,S,a,b,d,S',R,T,vb,e,q⟩:=h
 have C:ixK a b S=aw (d,S')->wpAny (model X.prog X.w) X.A (subscriptTail j f v u) (EP X B Y Q) X.xe s:=λe=>by
  obtain⟨k,n,kss,ds,hk,rfl,hn,hd,rfl⟩:=Az e;obtain⟨a',b',rfl,rfl,o,g,ho,hv⟩:=qq (y:=.ref n) R hk hn vb T;obtain⟨w,rfl,vw⟩:=hv d hd;cases Z;cases U;exact tail_any (rR I g) PySem.F.slot_dict_getitem.lookup (yp (show X.A.units+2 < cLine by lia) I g rfl λw' s' I' O=>⟨w,H,I',O,q m H _ (Aft.refl R) vw⟩) hs
 cases b with
 |int k=>
  refine z5 j f B s Y H x y v u Q I Z U ?_ hs;cases vb.ints
  have main:∀r,ao a S=aw r->(atI r.2 k).map (λx=>(x,S))=aw (d,S')->rIx X.K x (.int k) H Q:=by
   intro r hi e;cases L:atI r.2 k with
   |none=>rw[L] at e;cases e
   |some z=>
    rw[L] at e;cases e;obtain⟨p,vs,rfl,sq,E⟩:=dZ (tu:=r.1) (ds:=r.2) R T hi;exact AH sq E L λv vv=>q m H v (Aft.refl R) vv
  cases a with
  |str z=>
   simp only[ixS] at e;split at e
   ·rename_i hl;cases J:atI z.cps.toList k with
    |none=>rw[J] at e;cases e
    |some c=>
     rw[J] at e;cases e;exact .inr (.inr ⟨z,k,c,T.strs,rfl,by rw[Uh];lia,J,q m H _ (Aft.refl R) uC⟩)
   ·cases e
  |tup ds=>exact main (aN,ds) rfl e
  |ref n=>
   simp only[ixS] at e;cases hi:ao (.ref n) S with
   |none=>rw[hi] at e;cases e
   |some r=>rw[hi] at e;exact main r hi e
  |_=>simp[ixS,ao] at e
 |_=>exact C e
abbrev uF(x:XA)(y:XE):XE:=λb S=>bnd (x b S) λf h=>bnd (y b h) λi c=>match i with
 |.int k=>(atI f k).map λd=>(d,c)
 |_=>aD
def JD(h:tE K (uF x y) C H Q):tOp (rIx K) (eP K x) (tE K y) C H Q:=by
 obtain⟨m,p,S,d,S',E,R,e,q⟩:=h;obtain⟨u,n,U,e⟩:=ae e;obtain⟨i,O,Y,e⟩:=ae e;refine⟨m,p,S,u,n,E,R,U,λm1 H1 a L b J I n2 n3 vd=>⟨m1,p,n,i,O,E.mono R b.ext,b.rel,Y,λB j w f Z=>?_⟩⟩;cases i with
 |int k=>
  cases Z.ints;dsimp only at e;cases c:atI u k with
  |none=>rw[c] at e;cases e
  |some z=>
   rw[c] at e;cases e;exact AH (tu:=false) (show SqL K j a L from SqL.of (f.ext.keep _ _ J I)) (vd.mono b.rel f.ext) c λv T=>q B j v (b.trans f) T
 |_=>cases e
abbrev dX(d:List D)(lo hi:Option Int):List D:=(d.drop (HT.sIx d.length 0 lo)).take (HT.sIx d.length d.length hi - HT.sIx d.length 0 lo)
def uG(h:VDs K m H d v)(lo hi:Option Int):VDs K m H (dX d lo hi) (lW v lo hi):=by
 unfold dX lW;rw[<-h.length];exact(h.drop _).take _
abbrev slS(lo hi:Option Int)(d:D)(S:Sto):Option (D × Sto):=match d with
 |.tup b=>aw (.tup (dX b lo hi),S)
 | .ref n=>(match au S n with
  |some b=>aw (.ref S.length,S++[.lst (dX b lo hi)])
  | none=>aD)
 |_=>aD
abbrev rSl(K:Vk):V->Option Int->Option Int->Hp->VK->Prop:=λv lo hi H Q=>∃m S a d b,Rel K m S H/\VD K m H a v/\slS lo hi a S=aw (d,b)/\∀c h u,Aft K m H b c h->VD K c h d u->Q u h
def uH{vs:List V}{lo hi:Option Int}(h:HT.sIx vs.length 0 lo=0/\HT.sIx vs.length vs.length hi=vs.length):lW vs lo hi=vs:=by
 unfold lW;rw[h.1,h.2];simp
def QK:SlR X (rSl X.K):=by
 intro c s E H x v z C lo hi sl Q I J hs L O h;refine(SlR.or D4 DS) c s E H x v z C lo hi sl Q I J hs L O ?_;obtain⟨m,S,a,d,Z,R,y,e,q⟩:=h;cases a with
 |tup T=>
  cases e;obtain⟨p,u,rfl,j,b⟩:=y.tups;refine .inl ⟨p,u,rfl,.of j,λB=>?_,λ_=>iX R (uG b lo hi) q⟩;have:=uG b lo hi;rw[uH B] at this;exact q m H _ (Aft.refl R) (ql j this)
 |ref n=>
  simp only[slS] at e;cases k:au S n with
  |none=>rw[k] at e;cases e
  |some T=>
   rw[k] at e;cases e;obtain⟨p,u,U,j,b⟩:=R.seq k;obtain⟨Y,f,rfl⟩:=y.refs;rw[U] at f;cases f;exact .inr ⟨p,u,rfl,j,kQ R (uG b lo hi) q⟩
 |_=>cases e
@[inline]abbrev XO:=Rho->Sto->Option (Option Int × Sto)
abbrev tOI(K:Vk)(x:XO):TO:=λd H Q=>∃m c S o b,EnvR K m H c d/\Rel K m S H/\x c S=aw (o,b)/\∀f h,Aft K m H b f h->Q o h
abbrev uI:XO:=λ_ S=>aw (aD,S)
abbrev uJ(x:XE):XO:=λb S=>bnd (x b S) λd c=>match d with
 |.int i=>aw (aw i,c)
 |_=>aD
def Ej(h:tOI K uI b H Q):wq b H Q:=by
 obtain⟨m,d,S,o,c,E,R,e,q⟩:=h;cases e;exact q m H (Aft.refl R)
def Ek(h:tOI K (uJ x) n H Q):Hs (tE K x) n H Q:=by
 obtain⟨m,c,S,o,p,E,R,e,q⟩:=h;obtain⟨d,k,b,e⟩:=ae e;refine⟨m,c,S,d,k,E,R,b,λm1 j v f vd=>?_⟩;cases d with
 |int i=>cases e;exact⟨i,vd.ints,q m1 j f⟩
 |_=>cases e
def PO.imp(h:PO X e t)(f:∀b H Q,t' b H Q->t b H Q):PO X e t':=λp s b H Q I q=>h p s b H Q I (f b H Q q)
abbrev xSl(x:XE)(lo hi:XO):XE:=λb S=>bnd (x b S) λd j=>bnd (lo b j) λl c=>bnd (hi b c) λh f=>slS l h d f
def N6{x:XE}{lo hi:XO}{n:L2.St}{H:Hp}{Q:VK}(h:tE K (xSl x lo hi) n H Q):tSl (rSl K) (tE K x) (tOI K lo) (tOI K hi) n H Q:=by
 obtain⟨m,j,S,d,L,E,R,e,q⟩:=h;obtain⟨a,k,O,e⟩:=ae e;obtain⟨l,y,T,e⟩:=ae e;obtain⟨u,p,U,e⟩:=ae e;refine⟨m,j,S,a,k,E,R,O,λm1 Z v b vd=>⟨m1,j,k,l,y,E.mono R b.ext,b.rel,T,λz Y c=>⟨z,j,y,u,p,E.mono R (b.trans c).ext,c.rel,U,λI H3 f=>?_⟩⟩⟩;exact⟨I,p,a,d,L,f.rel,vd.mono b.rel (c.trans f).ext,e,λm4 C w J B=>q m4 C w (((b.trans c).trans f).trans J) B⟩
abbrev mi(d:D)(S:Sto):Option (Bool × Sto):=match d with
 |.non=>aw (aS,S)
 |.bl b=>aw (b,S)
 |.int i=>aw (i != 0,S)
 |.str y=>if y.length<=100000 then aw ((y.length:Int) != 0,S) else aD
 |.tup c=>aw (!c.isEmpty,S)
 | .ref n=>(match au S n with
  |some c=>aw (!c.isEmpty,S)
  | none=>aD)
def mj(h:VDs K m H d v):d.isEmpty=v.isEmpty:=by
 have:=h.length;cases d <;> cases v <;> simp at this ⊢
def JE(R:Rel K m S H)(vd:VD K m H d v)(e:mi d S=aw (b,q)):q=S/\DJ K v H b:=by
 cases d with
 |non=>cases e;cases vd.nons;exact⟨rfl,rfl⟩
 |bl _=>cases e;cases vd.bls;exact⟨rfl,rfl⟩
 |int _=>cases e;cases vd.ints;exact⟨rfl,rfl⟩
 |str y=>
  simp only[mi] at e;split at e
  ·rename_i B;cases e;cases vd.strs;exact⟨rfl,by rw[Uh];lia,rfl⟩
  ·cases e
 |tup u=>
  cases e;obtain⟨a,k,rfl,j,c⟩:=vd.tups;exact⟨rfl,.inr (.inl ⟨k,.of j,by rw[mj c]⟩)⟩
 |ref n=>
  simp only[mi] at e;cases f:au S n with
  |none=>rw[f] at e;cases e
  |some u=>
   rw[f] at e;cases e;obtain⟨p,k,z,j,c⟩:=R.seq f;obtain⟨C,h,rfl⟩:=vd.refs;rw[z] at h;cases h;exact⟨rfl,.inl ⟨k,j,by rw[mj c]⟩⟩
abbrev El(x:XE):XT:=λb S=>bnd (x b S) λd c=>mi d c
def JF(h:tT K (El x) u H Q):(tE K x) u H λv H'=>∃k,DJ K v H' k/\Q k H':=by
 obtain⟨m,j,S,b,y,E,R,e,q⟩:=h;obtain⟨d,p,f,e⟩:=ae e;refine⟨m,j,S,d,p,E,R,f,λm1 n v c vd=>?_⟩;obtain⟨rfl,t⟩:=JE c.rel vd e;exact⟨b,t,q m1 n c⟩
abbrev xB(x:XE):XT:=λc S=>bnd (x c S) λd f=>match d with
 |.bl b=>aw (b,f)
 |_=>aD
def N7(h:tT K (xB x) u H Q):(tE K x) u H λv H'=>∃k,v = .bl k/\Q k H':=by
 obtain⟨m,f,S,b,y,E,R,e,q⟩:=h;obtain⟨d,p,c,e⟩:=ae e;refine⟨m,f,S,d,p,E,R,c,λm1 n v j vd=>?_⟩;cases d with
 |bl k=>cases e;exact⟨b,vd.bls,q m1 n j⟩
 |_=>cases e
abbrev ca(_:Bool)(d:List D)(S:Sto):Option (D × Sto):=aw (.int d.length,S)
abbrev cL(_:Bool)(d:List D)(S:Sto):Option (D × Sto):=aw (.tup d,S)
abbrev yz:D->Bool
 |.bl _=>aN
 |_=>aS
abbrev n5:D->Bool
 |.bl b=>b
 |_=>aS
abbrev kN(T:Bool)(d:List D)(S:Sto):Option (D × Sto):=if T=aS/\d.all yz=aN then aw (.bl (d.all n5),S) else aD
abbrev n6(T:Bool)(d:List D)(S:Sto):Option (D × Sto):=if T=aS/\d.all yz=aN then aw (.bl (d.any n5),S) else aD
abbrev r1(r:V->Hp->VK->Prop):List V->Hp->VK->Prop
 |[x],H,Q=>r x H Q
 |_,_,_=>False
def bV(h:r1 r b H Q):∃x,b=[x]/\r x H Q:=by
 match b,h with
 |[x],h=>exact⟨x,rfl,h⟩
def yA:aR X (.builtin "len") (r1 (rSq X.K ca)):=by
 refine aR.imp qe λf H Q h=>?_;obtain⟨_,rfl,m,S,T,j,a,v,d,c,R,rfl,b,vd,e,q⟩:=bV h;cases e;exact⟨a,v,rfl,iq b,q m H _ (Aft.refl R) (by rw[vd.length];exact bg)⟩
def yB:aR X (.type "tuple") (r1 (rSq X.K cL)):=by
 refine aR.imp nX λf H Q h=>?_;obtain⟨_,rfl,m,S,T,j,a,v,d,c,R,rfl,b,vd,e,q⟩:=bV h;cases e;cases T with
 |false=>exact⟨a,v,rfl,.inl ⟨b,iX R vd q⟩⟩
 |true=>exact⟨a,v,rfl,.inr ⟨.of b,q m H _ (Aft.refl R) (ql b vd)⟩⟩
def uK:∀ {c:List D} {v:List V},VDs K m H c v->c.all yz=aN->v=(c.map n5).map V.bl
 |[],v,h,_=>by rw[VDs] at h;rw[h];rfl
 |d::c,v,h,f=>by
  rw[VDs] at h;obtain⟨x,r,rfl,p,q⟩:=h;rw[Yr,bAE] at f;cases d with
  |bl b=>rw[p.bls,uK q f.2];rfl
  |_=>simp[yz] at f
def JG(d:List D):(d.map n5).all id=d.all n5:=by rw[YX];rfl
def JH(d:List D):(d.map n5).any id=d.any n5:=by rw[Wa];rfl
def yC(f:X.calm=aN):aR X (.builtin "all") (r1 (rSq X.K kN)):=by
 refine aR.imp (ym f) λn H Q h=>?_;obtain⟨_,rfl,m,S,T,c,a,v,d,k,R,rfl,j,vd,e,q⟩:=bV h;unfold kN at e;split at e
 ·rename_i b;cases e;obtain⟨rfl,b⟩:=b;refine⟨a,c.map n5,rfl,?_,q m H _ (Aft.refl R) (by rw[JG];exact bD)⟩;rw[<-uK vd b];exact j
 ·cases e
def yD(f:X.calm=aN):aR X (.builtin "any") (r1 (rSq X.K n6)):=by
 refine aR.imp (yn f) λn H Q h=>?_;obtain⟨_,rfl,m,S,T,c,a,v,d,k,R,rfl,j,vd,e,q⟩:=bV h;unfold n6 at e;split at e
 ·rename_i b;cases e;obtain⟨rfl,b⟩:=b;refine⟨a,c.map n5,rfl,?_,q m H _ (Aft.refl R) (by rw[JH];exact bD)⟩;rw[<-uK vd b];exact j
 ·cases e
abbrev rTm(K:Vk)(f:Bool->List D->Option (List D)):V->Hp->VK->Prop:=λv H Q=>∃m S T d a k E,Rel K m S H/\v = .ref a/\SqB K T H a k/\VDs K m H d k/\f T d=aw E ∧
 ∀c h p j,Aft K m H S c h->h p=aw (.lst j)->p ∉ c->(∀b,b ∈ m->b ≠ p)->H p=aD->VDs K c h E j->Q (.ref p) h
def mm:aR X (.type "list") (r1 (rTm X.K λ_ d=>aw d)):=by
 refine aR.imp qf λc H Q h=>?_;obtain⟨_,rfl,m,S,T,d,a,v,E,R,rfl,b,vd,e,q⟩:=bV h;cases e;exact⟨a,v,rfl,iq b,kS R vd q⟩
abbrev AI:D->D->Sto->Option (D × Sto)
 |.int i,.int j,S=>aw (.int (if j > i then j else i),S)
 |_,_,_=>aD
abbrev AJ:D->D->Sto->Option (D × Sto)
 |.int i,.int j,S=>aw (.int (if j < i then j else i),S)
 |_,_,_=>aD
abbrev two(f:D->D->Sto->Option (D × Sto)):List D->Sto->Option (D × Sto)
 |[a,b],S=>f a b S
 |_,_=>aD
def yE(h:VDs K m H [a,b] d):∃v w,d=[v,w]/\VD K m H a v/\VD K m H b w:=by
 rw[VDs] at h;obtain⟨v,r,rfl,p,q⟩:=h;rw[VDs] at q;obtain⟨w,f,rfl,c,Q⟩:=q;rw[VDs] at Q;subst Q;exact⟨v,w,rfl,p,c⟩
def JI(h:VDs K m H [a] b):∃v,b=[v]/\VD K m H a v:=by
 rw[VDs] at h;obtain⟨v,r,rfl,p,q⟩:=h;rw[VDs] at q;subst q;exact⟨v,rfl,p⟩
def su(h:two f c S=aw r):∃a b,c=[a,b]/\f a b S=aw r:=by
 match c,h with
 |[a,b],h=>exact⟨a,b,rfl,h⟩
def uL(c:X.calm=aN):aR X (.builtin "max") (rSA X.K (two AI)):=by
 refine aR.imp (x9 c) λk H Q h=>?_;obtain⟨m,S,n,d,j,R,vd,e,q⟩:=h;obtain⟨a,b,rfl,E⟩:=su e;obtain⟨v,w,rfl,p,f⟩:=yE vd;cases a <;> cases b <;> simp[AI] at E;obtain⟨rfl,rfl⟩:=E;exact⟨_,_,by rw[p.ints,f.ints],q m H _ (Aft.refl R) bg⟩
def uM(c:X.calm=aN):aR X (.builtin "min") (rSA X.K (two AJ)):=by
 refine aR.imp (yb c) λk H Q h=>?_;obtain⟨m,S,n,d,j,R,vd,e,q⟩:=h;obtain⟨a,b,rfl,E⟩:=su e;obtain⟨v,w,rfl,p,f⟩:=yE vd;cases a <;> cases b <;> simp[AJ] at E;obtain⟨rfl,rfl⟩:=E;exact⟨_,_,by rw[p.ints,f.ints],q m H _ (Aft.refl R) bg⟩
inductive Ty where |int |bool |tuple |list |str
abbrev Ty.nm:Ty->String
 |.int => "int" |.bool => "bool" |.tuple => "tuple" |.list => "list" |.str => "str"
abbrev tyN(d:D)(S:Sto):Option String:=match d with
 |.non=>aw "NoneType" |.bl _=>aw "bool" |.int _=>aw "int" |.str _=>aw "str" |.tup _=>aw "tuple"
 | .ref n=>(match S[n]? with
  |some (.lst _)=>aw "list"
  |some (.frz _)=>aw "list"
  |some (.dic _ _)=>aw "dict"
  | none=>aD)
abbrev fS(t:Ty)(n:String):Bool:=n == t.nm || (match t with |.int=>n == "bool" |_=>aS)
abbrev hV(t:Ty)(d:D)(S:Sto):Option (D × Sto):=(tyN d S).map λn=>(.bl (fS t n),S)
def Em(K:Vk)(t:Ty):(Vu K (.type "NoneType") (.type t.nm)=aw (fS t "NoneType"))/\(Vu K (.type "bool") (.type t.nm)=aw (fS t "bool"))/\(Vu K (.type "int") (.type t.nm)=aw (fS t "int")) ∧
  (Vu K (.type "str") (.type t.nm)=aw (fS t "str"))/\(Vu K (.type "tuple") (.type t.nm)=aw (fS t "tuple"))/\(Vu K (.type "list") (.type t.nm)=aw (fS t "list"))/\(Vu K (.type "dict") (.type t.nm)=aw (fS t "dict")):=by
 cases t <;> exact⟨by kernel_rfl,by kernel_rfl,by kernel_rfl,by kernel_rfl,by kernel_rfl,by kernel_rfl,by kernel_rfl⟩
def N8(R:Rel K m S H)(vd:VD K m H d v)(e:tyN d S=aw n):TyOf K H v (.type n):=by
 cases d with
 |non=>cases e;cases vd.nons;exact .non
 |bl _=>cases e;cases vd.bls;exact .bl _
 |int _=>cases e;cases vd.ints;exact .int _
 |str _=>cases e;cases vd.strs;exact .str _
 |tup f=>cases e;obtain⟨a,j,rfl,q,_⟩:=vd.tups;exact .tup q
 |ref k=>
  simp only[tyN] at e;obtain⟨a,p,rfl⟩:=vd.refs;cases c:S[k]? with
  |none=>rw[c] at e;cases e
  |some o=>
   rw[c] at e;obtain⟨u,b,r⟩:=R.ob k o c;rw[p] at b;cases b;cases o with
   |lst f=>cases e;obtain⟨j,h,_⟩:=r;exact .lst h
   |frz f=>cases e;obtain⟨o,j,h,_⟩:=r;exact .frz h
   |dic y f=>cases e;obtain⟨j,h,_⟩:=r;exact .dT h
def AK(e:tyN d S=aw n):n = "NoneType"\/n = "bool"\/n = "int"\/n = "str"\/n = "tuple"\/n = "list"\/n = "dict" := by
 cases d with
 |ref k=>
  simp only[tyN] at e;cases h:S[k]? with
  |none=>rw[h] at e;cases e
  |some o=>rw[h] at e;cases o <;> cases e <;> simp
 |_=>cases e <;> simp
def JJ(K:Vk)(t:Ty)(h:n = "NoneType"\/n = "bool"\/n = "int"\/n = "str"\/n = "tuple"\/n = "list"\/n = "dict"):Vu K (.type n) (.type t.nm)=aw (fS t n):=by
 obtain⟨a,b,c,d,e,f,g⟩:=Em K t;rcases h with rfl |rfl |rfl |rfl |rfl |rfl |rfl <;> assumption
abbrev N9(K:Vk)(t:Ty)(T:TE):TE:=tCB (Hx K) (ce T (ce (tC (.ty t.nm)) jy))
def En(h:tE K (xUn (hV t) x) y H Q):N9 K t (tE K x) y H Q:=by
 obtain⟨m,k,S,d,z,E,R,e,q⟩:=h;obtain⟨a,f,j,e⟩:=ae e;refine⟨m,k,S,a,f,E,R,j,λm1 p v c u=>?_⟩;unfold hV at e;cases b:tyN a f with
 |none=>rw[b] at e;cases e
 |some n=>
  rw[b] at e;cases e;exact⟨v,t.nm,_,_,rfl,N8 c.rel u b,JJ K t (AK b),q m1 p _ c bD⟩
end
end Ev
namespace HT
open PySem PySem.Spec PyProof.Rows
section
variable {prog:Program} {w:World} {A:Around} {E:Value->Shared->Prop} {s:Shared}
def jF{sl:Addr}{n:Nat}{T:Tok}{Q:Int × Int × Nat->Shared->Prop}(hs:s.heap.IsSliceOf sl .none .none (.int (-1) T))
  (h:Q ((n:Int) - 1,-1,n) s):wpAny (model prog w) A (Builtin.Slice.sliceApplied (.ref sl) (pure (n:Int))) Q E s:=by
 obtain⟨os,c,k,b⟩:=id hs;unfold Builtin.Slice.sliceApplied Builtin.Slice.sliceFields;refine Us (Us (Ux c b (x:=.none) rfl (Us (Ux c b (x:=.none) rfl (Us (Ux c b (x:=.int (-1) T) rfl (UI ?_)))))));refine Us (slicePart_int ?_);show wpAny _ _ (if ((-1:Int) == 0)=aN then _ else _) _ _ s;rw[if_neg (by decide)];refine Us (slicePart_none (Us (slicePart_none (Us (UI ?_)))));show wpAny _ _ (match Builtin.Slice.sliceAdjust aD aD (-1) (n:Int) with |(lo,hi)=>pure (lo,(-1:Int),Builtin.Slice.slicePlaces lo hi (-1))) _ _ s
 have d:Builtin.Slice.sliceAdjust aD aD (-1) (n:Int)=((n:Int) - 1,-1):=by
  unfold Builtin.Slice.sliceAdjust;simp
 rw[d];show wpAny _ _ (pure ((n:Int) - 1,(-1:Int),Builtin.Slice.slicePlaces ((n:Int) - 1) (-1) (-1))) _ _ s
 have f:Builtin.Slice.slicePlaces ((n:Int) - 1) (-1) (-1)=n:=by
  unfold Builtin.Slice.slicePlaces;have j:¬ ((-1:Int) > 0):=by decide
  simp only[j,if_false,show(- -1:Int)=1 from rfl,Wz];split <;> omega
 rw[f];exact UI h
def AL(X:Array Value):((Zk X.size).filterMap λ(m:Nat)=>X[((X.size:Int) - 1+(m:Int) * -1).toNat]?).toArray=X.toList.reverse.toArray:=by
 have e:(Zk X.size).filterMap (λ(m:Nat)=>X[((X.size:Int) - 1+(m:Int) * -1).toNat]?)=((Zk X.size).map λk=>X.size - 1 - k).filterMap (X[·]?):=by
  rw[X3]
  congr 1
  funext m
  show X[((X.size:Int) - 1+(m:Int) * -1).toNat]?=X[X.size - 1 - m]?
  congr 1
  omega
 rw[e,PySem.W.krv_range,List.filterMap_reverse,PySem.W.krv_all]
def iZ{t sl:Addr}{I:Array Value}{T:Tok}{Q:Value->Shared->Prop}(c:IsTup s.heap t I)(hs:s.heap.IsSliceOf sl .none .none (.int (-1) T))
  (h:Q (.ref s.heap.objs.size) { s with heap:=s.heap.push { cls:=.type "tuple", data:=.seq I.toList.reverse.toArray } })
  (k:I.size<=sizeLine):wpAny (model prog w) A (getItem (.ref t) (.ref sl)) Q E s:=by
 have b:sizeOk (.seq I.toList.reverse.toArray):=by
  show I.toList.reverse.toArray.size<=sizeLine;rw[Zl,Yq,ZC];exact k
 obtain⟨os,j,d,n⟩:=id hs;have f:s.TypeIs (.ref sl) "slice" := ⟨os,j,d⟩;unfold getItem
 try with_reducible refine UA ?_
 first |refine Us (UI ?_) |skip
 refine Us (US c.typeIs (by decide) ?_)
 refine Us (wpAny_callSpecial?_slot (name:=Str.ofString "__getitem__") c.typeIs WK
  (Uu WK c.typeIs entry_tuple_getitem ?_ (args_tuple_getitem _ _)))
 show wpAny _ _ (Builtin.Tuple.tupleItemsOf (.ref t) >>= _) _ _ s;refine Us (tupleItemsOf_ c ?_);refine Us (UX f ?_);rw[if_pos (by decide)];refine Us (jF hs ?_);show wpAny _ _ (if (((I.size:Int) - 1) == 0 && (-1:Int) == 1 && I.size == I.size)=aN then _ else _) _ _ s;rw[if_neg (by rw[show((-1:Int) == 1)=aS from rfl,Bool.and_false,Xh];exact Zg),AL]
 first
  |exact Us (m:=Builtin.Tuple.tupleExact _) (UF (UI ⟨_,rfl,UI h⟩) b)
  |exact Us (m:=Builtin.Tuple.tupleExact _) (UF (Us (UI (UI ⟨_,rfl,UI h⟩))) b)
  |exact Us (Us (m:=Builtin.Tuple.tupleExact _) (UF (UI (UI ⟨_,rfl,UI h⟩)) b))
  |exact Us (Us (m:=Builtin.Tuple.tupleExact _) (UF (UI ⟨_,rfl,UI h⟩) b))
end
end HT
namespace Ev
open PySem PySem.Spec PyProof.Rows L2
section
variable {X:Cx} {e:Expr} {te:TE} {pos p2 p3 p4:Pos}
def aO.rev:∀ {b:List V} {u:List Value},aO b u->aO b.reverse u.reverse
 |[],_,.nil=>.nil
 |_::_,_,.cons r t=>by rw[YY,YY];exact(aO.rev t).append (.cons r .nil)
def VDs.rev{K:Vk}:∀ {b:List D} {v:List V},VDs K m H b v->VDs K m H b.reverse v.reverse
 |[],v,h=>by rw[VDs] at h;subst h;exact .nil
 |d::b,v,h=>by
  rw[VDs] at h;obtain⟨y,r,rfl,p,q⟩:=h;rw[YY,YY];exact(VDs.rev q).append (.cons p .nil)
abbrev uN(d:D)(S:Sto):Option (D × Sto):=match d with
 |.tup b=>aw (.tup b.reverse,S)
 | .ref n=>(match au S n with
  |some b=>aw (.ref S.length,S++[.lst b.reverse])
  | none=>aD)
 |_=>aD
def JK{k:Nat}(he:PE X e te):PE X (.Subscript e (.Slice aD aD (aw (.UnaryOp .USub (.Constant (.int 1) k p3) p4)) p2) pos) (tUn (rS1 X.K uN) te):=by
 intro c s O H Q I h;refine Subscript_ (thn (he c s O H _ I h) λv s1 ⟨x,Z,I1,r1,q1⟩=>?_);refine wpAny_Slice ?_;rw[VU];refine UI (UI ?_);refine thn (wu (wn pY lH) c s1 O Z (λo L=>o=aw (-1)/\L=Z) I1 ⟨_,rfl,_,rfl,rfl,rfl⟩) λvk B ⟨o,L,I2,pk,ho,hH⟩=>?_;subst ho hH;cases pk with
 |int i tk=>
  have y:L2.Inv X c O L { B with heap:=B.heap.push { cls:=.type "slice", data:=.fields #[.none,.none,.int (-1) tk] } }:=I2.kept (t':=B.toks) λb ob q=>Zf _ q;obtain⟨m,S,a,d,S',R,va,E,q⟩:=q1;cases a with
  |tup ds=>
   cases E;obtain⟨p,C,rfl,U,j⟩:=va.tups;cases r1;obtain⟨u,r,Y,z⟩:=y.tuple (.of U);have f:u.toArray.size=C.length:=by rw[Zl];exact r.length.symm
   refine tail_any (ops:=[.ref p,.ref B.heap.objs.size]) Y.typeIs PyProof.Rows.slot_tuple_getitem.lookup (HT.iZ Y (Heap.IsSliceOf.new ..) ?_ (by rw[f];exact z)) (by with_unfolding_all rfl);refine⟨.ref _,_,y.laid (o:=.tup C.reverse) (λb ob q=>Zf _ q) (Ze _) ?_,rfl,iX R (VDs.rev j) q _ (y.hok.fresh (Ze _))⟩;exact⟨by rw[Yq];exact z,_,aO.rev r,pU.new _ _⟩
  |ref n=>
   simp only[uN] at E;cases T:au S n with
   |none=>rw[T] at E;cases E
   |some ds=>
    rw[T] at E;cases E;obtain⟨p,C,hp,U,j⟩:=R.seq T;obtain⟨p',J,rfl⟩:=va.refs;rw[hp] at J;cases J;cases r1;obtain⟨u,r,pl,z⟩:=y.list U;have f:u.toArray.size=C.length:=by rw[Zl];exact r.length.symm
    refine tail_any (ops:=[.ref p,.ref B.heap.objs.size]) pl.isList.typeIs PySem.slot_list_getitem.lookup (Uz pl.isList (Heap.IsSliceOf.new ..) .none .none (.int (-1) tk) (by decide) ?_ (by rw[f];exact z)) (by with_unfolding_all rfl);rw[PySem.W.krv_pick];refine⟨.ref _,_,y.laid (o:=.lst C.reverse) (λb ob q=>Zf _ q) (Ze _) ?_,rfl,kQ R (VDs.rev j) q _ (y.hok.fresh (Ze _))⟩;exact⟨by rw[Yq];exact z,_,0,aO.rev r,ZA _ rfl⟩
  |_=>cases E
end
end Ev
namespace Ev
open PySem PySem.Spec PyProof.Rows L2
open PySem.W (KasT kas_sort kas_asc kas_desc kas_tail3 kas_descPart kas_count kas_place kas_bin kas_rev kas_ask KatTups)
abbrev eT{b:Type}(lt:Nat->Nat->Bool):KasT b->b
 |.ret a=>a
 |.ask i j k=>eT lt (k (lt i j))
abbrev KT{c:Type}(n:Nat)(P:c->Prop):KasT c->Prop
 |.ret a=>P a
 |.ask i j k=>i < n/\j < n/\∀b,KT n P (k b)
def KT.bind{c d:Type}{n:Nat}{P:c->Prop}{R:d->Prop}{f:c->KasT d}(p:∀a,P a->KT n R (f a)):∀ {t:KasT c},KT n P t->KT n R (t.bind f)
 |.ret a,h=>p a h
 |.ask i j k,h=>⟨h.1,h.2.1,λb=>KT.bind p (h.2.2 b)⟩
def KT.run{b:Type}{n:Nat}{P:b->Prop}{lt:Nat->Nat->Bool}:∀ {t:KasT b},KT n P t->P (eT lt t)
 |.ret a,h=>h
 |.ask i j k,h=>KT.run (t:=k (lt i j)) (h.2.2 (lt i j))
def sv{b:Type}{n:Nat}{P:b->Prop}{lt:Nat->Nat->Bool}{cmp:Nat->Nat->(Bool->Shared->Prop)->Shared->Prop}{s:Shared}(c:∀i j,i < n->j < n->∀C:Bool->Shared->Prop,C (lt i j) s->cmp i j C s){Q:b->Shared->Prop} :
  ∀ {t:KasT b},KT n P t->Q (eT lt t) s->t.kasWp cmp Q s
 |.ret a,_,q=>q
 |.ask i j k,h,q=>c i j h.1 h.2.1 _ (sv c (h.2.2 (lt i j)) q)
abbrev Pm(n:Nat)(p:Array Nat):Prop:=p.Perm (Xw (Zk n))
def Pm.at{n i:Nat}(h:Pm n p)(c:0 < n):p.getD i 0 < n:=by
 by_cases hi:i < p.size
 ·have e:p.getD i 0=p[i]:=by simp[Array.getD,hi]
  rw[e];have b:p[i] ∈ p:=Array.getElem_mem hi;have:=h.mem_iff.mp b
  simpa using this
 ·have e:p.getD i 0=0:=by simp[Array.getD,hi]
  omega
def Pm.rev{n i j:Nat}(h:Pm n p):Pm n (kas_rev p i j):=(mirror_perm p i j _).trans h
def uO{n:Nat}(h:Pm n p)(c:0 < n):∀f m,KT n (λ_=>True) (kas_asc p f m)
 |0,_=>trivial
 | f+1,m=>⟨h.at c,h.at c,λb=>by
  cases b with
  |true=>exact trivial
  | false=>exact uO h c f (m+1)⟩
def kW{n:Nat}(c:0 < n):∀f (p:Array Nat) m q,Pm n p->KT n (λr:Array Nat × Nat × Nat=>Pm n r.1) (kas_desc f p m q)
 |0,p,m,q,h=>h
 | f+1,p,m,q,h=>⟨h.at c,h.at c,λb=>by
  cases b with
  |true=>
   show KT n _ (if q > 0 then kas_desc f (kas_rev p (m - (q+1)) m) (m+1) 0 else kas_desc f p (m+1) 0);split
   ·exact kW c f _ _ _ h.rev
   ·exact kW c f _ _ _ h
  | false=>exact⟨h.at c,h.at c,λd=>by
   cases d with
   |true=>exact h
   | false=>exact kW c f _ _ _ h⟩⟩
def sx{n:Nat}{p:Array Nat}(b:0 < n)(h:Pm n p)(m r:Nat):KT n (λr:Nat × Array Nat=>Pm n r.2) (kas_tail3 m r p):=KT.bind (P:=λ_=>True) (f:=λm=>KasT.ret (m,kas_rev p 0 _)) (λ_ _=>(show KT n (λr:Nat × Array Nat=>Pm n r.2) (KasT.ret (_,kas_rev p 0 _)) from h.rev)) (uO h.rev b _ _)
def kc{n:Nat}{p:Array Nat}(b:0 < n)(h:Pm n p)(m r:Nat):KT n (λr:Nat × Array Nat=>Pm n r.2) (kas_descPart m r p):=KT.bind (λa c=>by
 show KT n _ (if a.2.2 > 0 then _ else _);split
 ·exact sx b (Pm.rev c) _ _
 ·exact sx b c _ _) (kW b _ _ _ _ h)
def AM{n:Nat}{p:Array Nat}(c:0 < n)(h:Pm n p)(r:Nat):KT n (λr:Nat × Array Nat=>Pm n r.2) (kas_count r p):=KT.bind (λa _=>by
 show KT n _ (if (a == r)=aN then _ else if a > 1 then _ else _);split
 ·exact h
 ·split
  ·exact⟨h.at c,h.at c,λb=>by
    cases b with
    |true=>exact h
    | false=>exact kc c h.rev _ _⟩
  ·exact kc c h _ _) (uO h c _ _)
def mq{n:Nat}{p:Array Nat}(c:0 < n)(h:Pm n p)(m:Nat):∀f l r,KT n (λ_=>True) (kas_place p m f l r)
 |0,_,_=>trivial
 |f+1,l,r=>by
  show KT n _ (if l ≥ r then _ else _);split
  ·exact trivial
  ·exact⟨h.at c,h.at c,λb=>by
    cases b with
    |true=>exact mq c h m f _ _
    | false=>exact mq c h m f _ _⟩
def AN{n:Nat}(b:0 < n):∀f (p:Array Nat) m,Pm n p->KT n (Pm n) (kas_bin f p m)
 |0,p,_,h=>h
 |f+1,p,m,h=>KT.bind (λl _=>AN b f _ _ ((bubble_perm p m _).trans h)) (mq b h m _ _ _)
def qu{n:Nat}(h:0 < n):KT n (Pm n) (kas_sort n):=KT.bind (λr b=>by
 show KT n _ (if r.1 < n then _ else _);split
 ·exact AN h _ _ _ b
 ·exact b) (AM h (Array.Perm.refl _) n)
section
variable {prog:Program} {w:World} {A:Around} {E:Value->Shared->Prop} {s:Shared}
def qv{a:Addr}{v:List Value}{n:Nat}{P:PySem.Fin->Shared->Prop}(ho:s.heap.get? a=aw (seqObj "list" v.toArray n))(O:v.length < 64)(I:SortKind)(lt:Nat->Nat->Bool)
  (hk:2<=v.length->∀ (Q:SortKind->Shared->Prop),Q I { s with heap:=((s.heap.update a (Obj.mapSeq λ_=>#[])).push (seqObj "tuple" v.toArray 0)).push (seqObj "list" #[] 0) }->wpAny (model prog w) A (keyKind' v.toArray) Q E { s with heap:=((s.heap.update a (Obj.mapSeq λ_=>#[])).push (seqObj "tuple" v.toArray 0)).push (seqObj "list" #[] 0) })
  (B:∀i j,i < v.length->j < v.length->∀C:Bool->Shared->Prop,C (lt i j) { s with heap:=((s.heap.update a (Obj.mapSeq λ_=>#[])).push (seqObj "tuple" v.toArray 0)).push (seqObj "list" #[] 0) } ->
   kas_ask prog w A I v i j C { s with heap:=((s.heap.update a (Obj.mapSeq λ_=>#[])).push (seqObj "tuple" v.toArray 0)).push (seqObj "list" #[] 0) })
  (h:P (.done (.ret .none)) { s with heap:=sortedHeap s.heap a v (if v.length < 2 then v.toArray else Xw ((eT lt (kas_sort v.length)).toList.map λi=>v.getD i Value.none)) }) :
  wpAny (model prog w) A (Builtin.«list.sort» ⟨[.ref a],[]⟩) P E s:=by
 rw[list_sort_plain];have U:a < s.heap.objs.size:=Zt ho;refine Us (listItems_at ho rfl ?_);refine Us (listUpdate_at ho rfl ?_);obtain⟨L,f⟩:∃L,(s.heap.update a (Obj.mapSeq λ_=>#[])).get? a=aw (seqObj "list" #[] L):=⟨_,get?_update_seq ho (λ_=>#[])⟩;refine Us (seqEpoch_at f rfl ?_);refine Us (wpAny_newTuple ?_);refine Us (wpAny_newList ?_);refine UA ?_
 have b:(((s.heap.update a (Obj.mapSeq λ_=>#[])).push (seqObj "tuple" v.toArray 0)).push (seqObj "list" #[] 0)).get? a=aw (seqObj "list" #[] L):=by
  rw[Wb _ _ _ (by rw[size_push',Xs];exact ZI (YZ U)),Wb _ _ _ (by rw[Xs];exact ZI U)];exact f
 show wpAny (model prog w) A _ P E { s with heap:=((s.heap.update a (Obj.mapSeq λ_=>#[])).push (seqObj "tuple" v.toArray 0)).push (seqObj "list" #[] 0) };dsimp only;have J:v.toArray.size=v.length:=by simp
 by_cases q:v.toArray.size < 2
 ·rw[if_pos q,if_pos q];refine Us (UI ?_);rw[StateT.run_pure];refine Us (UI ?_);dsimp only;refine Us (seqEpoch_at b rfl ?_);refine Us (listUpdate_at b rfl ?_ (hsz2:=by rw[Array.size_map];show(pairsOf v).size<=_;rw[pairsOf_size,Uh];omega));simp only[bne_self_eq_false,ZP,if_false];rw[if_pos (by rw[<-J];exact q)] at h
  have e:Array.map (λx:Keyed=>x.2) (v.toArray.zip v.toArray)=v.toArray:=by
   apply Array.toList_inj.mp;rw[Array.toList_map,Array.toList_zip,List.map_snd_zip (by simp)]
  refine UI ?_;show P _ { s with heap:=sortedHeap s.heap a v (Array.map (λx:Keyed=>x.2) (v.toArray.zip v.toArray)) };rw[e];exact h
 ·have d:2<=v.length:=by omega
  rw[if_neg q,if_neg q];rw[if_neg (by omega)] at h;refine Us (hk d _ ?_)
  refine Us (UE (PySem.W.kat_run (κ:=I) (ks:=v) (Q:=λc y=>y={ s with heap:=((s.heap.update a (Obj.mapSeq λ_=>#[])).push (seqObj "tuple" v.toArray 0)).push (seqObj "list" #[] 0) }/\arrOf c=(eT lt (kas_sort v.length)).map (PySem.W.kas_item (v.toArray.zip v.toArray))/\(eT lt (kas_sort v.length)).size=v.length/\failedOf c=aD)
   (G:=λp y=>y={ s with heap:=((s.heap.update a (Obj.mapSeq λ_=>#[])).push (seqObj "tuple" v.toArray 0)).push (seqObj "list" #[] 0) }/\p=eT lt (kas_sort v.length)) rfl d O (λp c y Z a2 X T=>⟨T.1,T.2 ▸ a2,T.2 ▸ Z,X⟩) (sv B (qu (by omega)) ⟨rfl,rfl⟩)) ?_ λ_ _ e=>e)
  rintro⟨⟨⟩,c⟩ y ⟨rfl,z,k,Y⟩;dsimp only;have u:=PySem.W.kat_snds rfl z;refine Us (seqEpoch_at b rfl ?_);rw[u];refine Us (listUpdate_at b rfl ?_ (hsz2:=by rw[Zl,Za,ZC,k,Uh];omega));rw[Y];simp only[bne_self_eq_false,ZP,if_false];exact UI h
end
section
variable {prog:Program} {w:World} {A:Around} {E:Value->Shared->Prop} {s:Shared}
def yF(B:s.heap.IsList l v.toArray)(u:v.length < 64)(p:SortKind)(lt:Nat->Nat->Bool)
  (I:2<=v.length->∀ (A:Around) (f:Shared),(∀b o,s.heap.get? b=aw o->f.heap.get? b=aw o)->∀ (E:Value->Shared->Prop) (Q:SortKind->Shared->Prop),Q p f->wpAny (model prog w) A (keyKind' v.toArray) Q E f)
  (d:∀ (A:Around) (f:Shared),(∀b o,s.heap.get? b=aw o->f.heap.get? b=aw o)->∀i j,i < v.length->j < v.length->∀C:Bool->Shared->Prop,C (lt i j) f->kas_ask prog w A p v i j C f)
  (h:Q (.ref (s.heap.objs.size+1)) { s with heap:=sortedAll s.heap v (if v.length < 2 then v.toArray else Xw ((eT lt (kas_sort v.length)).toList.map λi=>v.getD i Value.none)) }) :
  wpAny (model prog w) A (call (.builtin "sorted") [.ref l]) Q E s:=by
 refine Calls.call_function_entry kind_sorted plain_sorted entry_sorted (args_sorted1 _) ?_;unfold Builtin.«sorted»;refine Us (m:=checkCount "sorted" 1 1 _) (UI ?_);refine Us (collect_list B ?_);refine Us (wpAny_newList ?_)
 have n:((s.heap.push (seqObj "list" #[] 0)).update s.heap.objs.size (Obj.mapSeq (·++v.toArray))).objs.size=s.heap.objs.size+1:=by
  rw[Xs,size_push']
 have k:(((s.heap.push (seqObj "list" #[] 0)).update s.heap.objs.size (Obj.mapSeq (·++v.toArray))).push (seqObj "list" v.toArray 0)).get? (s.heap.objs.size+1)=aw (seqObj "list" v.toArray 0):=by
  rw[<-n];exact ZA _ rfl
 have keep:∀b o,s.heap.get? b=aw o->(((((s.heap.push (seqObj "list" #[] 0)).update s.heap.objs.size (Obj.mapSeq (·++v.toArray))).push (seqObj "list" v.toArray 0)).update (s.heap.objs.size+1) (Obj.mapSeq λ_=>#[])).push (seqObj "tuple" v.toArray 0)).get? b=aw o:=λb o q=>by
  have d:b < s.heap.objs.size:=Zt q;refine Zf _ ?_;rw[XX _ _ _ _ (ZI (YZ d))];refine Zf _ ?_;rw[XX _ _ _ _ (ZI d)];exact Zf _ q
 show wpAny _ _ _ _ _ { s with heap:=((s.heap.push (seqObj "list" #[] 0)).update s.heap.objs.size (Obj.mapSeq (·++v.toArray))).push (seqObj "list" v.toArray 0) };rw[n];refine Us (UA (Uu slot_list_sort ⟨_,k,rfl⟩ entry_list_sort (qv k u p lt (λy Q q=>I y _ _ (λb o z=>Zf _ (keep b o z)) _ Q q) (λi j hi J C c=>d _ _ (λb o z=>Zf _ (keep b o z)) i j hi J C c) ⟨_,rfl,?_⟩) (args_list_sort _)));exact UI ⟨_,rfl,h⟩
abbrev uQ(x y:Int × Int):Bool:=if x.1 == y.1 then (if x.2 == y.2 then aS else decide (x.2 < y.2)) else decide (x.1 < y.1)
def AO{a b c d:Int}{n k:Nat}(q:s.heap.get? x=aw O)(v:O.data = .seq #[.int a T,.int b u] n)(p:s.heap.get? y=aw I)(J:I.data = .seq #[.int c z,.int d B] k)
  (h:C (uQ (a,b) (c,d)) s):wpAny (model prog w) A (keyLt' (tuples' aN) (.ref x) (.ref y)) C E s:=by
 refine PySem.W.kat_lt q v p J ?_;show PySem.W.KatLex prog w A aN _ C [(.int a T,.int c z),(.int b u,.int d B)] 0 s;unfold uQ at h;refine Uw ?_;cases j:a == c with
 |true=>
  rw[if_pos rfl];simp only[j,if_true] at h;refine Uw ?_;cases f:b == d with
  |true=>rw[if_pos rfl];simp only[f,if_true] at h;exact h
  |false=>
   rw[if_neg Zg];simp only[f,ZP,if_false] at h;exact PySem.W.kat_one _ _ (lt_int h)
 |false=>
  rw[if_neg Zg];simp only[j,ZP,if_false] at h;exact oneLt_int h
end
end Ev
namespace Ev
open PySem PySem.Spec PyProof.Rows L2
open PySem.W (kas_sort KatTups)
section
variable {X:Cx} {K:Vk} {m:List Addr} {H:Hp} {S:Sto}
inductive PairsV(H:Hp):List V->List (Int × Int)->Prop where
 |nil:PairsV H [] []
 |cons {r:Addr} {x y:Int} {vs:List V} {ps:List (Int × Int)}:H r=aw (.tup [.int x,.int y])->PairsV H vs ps->PairsV H (.ref r::vs) ((x,y)::ps)
abbrev n8(ps:List (Int × Int))(i j:Nat):Bool:=uQ (ps.getD i (0,0)) (ps.getD j (0,0))
abbrev cV{α:Type}(ps:List (Int × Int))(d:α)(v:List α):List α:=if v.length < 2 then v else (eT (n8 ps) (kas_sort v.length)).toList.map λi=>v.getD i d
def PairsV.len{v:List V}{ps:List (Int × Int)}(h:PairsV H v ps):v.length=ps.length:=by
 induction h with
 |nil=>rfl
 |cons _ _ I=>simp[I]
abbrev Hz(h:Heap)(v:Value)(q:Int × Int):Prop:=∃r o T b n,v = .ref r/\h.get? r=aw o/\o.cls = .type "tuple"/\o.data = .seq #[.int q.1 T,.int q.2 b] n
def PairsV.heap{p:List (Addr × Obj)}{s:Shared}{j:L2.St}(I:Inv X p j H s){v:List V}{ps:List (Int × Int)}(h:PairsV H v ps):∀ {c:List Value},aO v c->∀ (i:Nat),i < c.length->Hz s.heap (c.getD i Value.none) (ps.getD i (0,0)):=by
 induction h with
 |nil=>intro c r i hi;cases r;simp at hi
 |@cons r x y v ps hr _ ih=>
  intro c f i hi;cases f with
  |@cons _ u _ us r1 r2=>
   cases i with
   |zero=>
    cases r1;obtain⟨q,z,⟨o,e,k,n,hd⟩,_⟩:=I.tuple (SqT.of (K:=X.K) hr);obtain⟨a,b,rfl,⟨T,rfl⟩,⟨d,rfl⟩⟩:=rG z;exact⟨r,o,T,d,n,rfl,e,k,hd⟩
   |succ i=>
    have:=ih r2 i (by simpa using hi)
    simpa using this
def wK{h:Heap}:∀ {its:List Value} {ps:List (Int × Int)},(∀i,i < its.length->Hz h (its.getD i Value.none) (ps.getD i (0,0)))->∃fs:List Value,KatTups h its fs/\fs.length=its.length/\∀v ∈ fs,∃i t,v = .int i t
 |[],_,_=>⟨[],KatTups.nil,rfl,λv d=>by simp at d⟩
 |v::its,ps,hp=>by
  obtain⟨r,o,T,j,n,b,e,f,hd⟩:=hp 0 (by simp)
  obtain⟨fs,k,c,hi⟩:=wK (its:=its) (ps:=ps.tail) λi hi=>by
   have:=hp (i+1) (by simpa using hi);cases ps with
   |nil=>simpa using this
   |cons _ _=>simpa using this
  have E:v = .ref r:=by simpa using b
  subst E
  exact⟨.int (ps.getD 0 (0,0)).1 T::fs,KatTups.cons e f hd rfl k,by simp[c],λw hw=>by
   rcases Zn.mp hw with rfl |hw
   ·exact⟨_,_,rfl⟩
   ·exact hi w hw⟩
def Eo(r:aO v I){i:Nat}(hi:i < v.length):aJ (v.getD i .non) (I.getD i Value.none):=by
 obtain⟨u,e,b⟩:=r.get (gEG hi);rw[ZE,ZE,gEG hi,e];exact b
def oO{v:List V}{I:List Value}(r:aO v I):∀ (l:List Nat),(∀i ∈ l,i < v.length)->aO (l.map λi=>v.getD i .non) (l.map λi=>I.getD i Value.none)
 |[],_=>.nil
 |i::l,h=>.cons (Eo r (h i Zj)) (oO r l λj b=>h j (Zi _ b))
def ir{n:Nat}{lt:Nat->Nat->Bool}(b:0 < n):(∀i ∈ (eT lt (kas_sort n)).toList,i < n)/\(eT lt (kas_sort n)).toList.length=n:=by
 have h:Pm n (eT lt (kas_sort n)):=(qu b).run;refine⟨λi hi=>?_,?_⟩
 ·have:=h.mem_iff.mp (XJ.mp hi)
  simpa using this
 ·have:=h.size_eq;rw[ZC,this];simp
def uR{b:Type}{ps:List (Int × Int)}{d:b}{v:List b}:(cV ps d v).length=v.length:=by
 unfold cV;split
 ·rfl
 ·rw[Za,(ir (by lia)).2]
def uS:aR X (.builtin "sorted") (λY H Q=>∃a f ps,Y=[.ref a]/\SqL X.K H a f/\PairsV H f ps/\f.length < 64/\∀p,H p=aD->Q (.ref p) (upd H p (.lst (cV ps .non f)))):=by
 intro O s σ H Y us Q I r h;obtain⟨a,f,ps,rfl,sq,Z,h64,q⟩:=h;obtain⟨u,rfl,ru⟩:=bR r;cases ru;obtain⟨c,k,pl,hz⟩:=I.list sq;have d:=k.length;have y:=Z.heap I k;have hl2:=Z.len;refine yF pl.isList (by lia) (tuples' aN) (n8 ps) (λh2 A B kp E Q' hq=>?_) (λA B kp i j hi hj C hC=>?_) ?_
 ·obtain⟨fs,kt,hf,hi⟩:=wK (h:=B.heap) λi hi=>by
   obtain⟨r,o,U,L,n,e1,e2,e3,e4⟩:=y i hi;exact⟨r,o,U,L,n,e1,kp _ _ e2,e3,e4⟩
  refine PySem.W.kat_kind (T:=.type "int") kt (by lia) (λv J=>?_) (by decide) hq;obtain⟨i,t,rfl⟩:=hi v J;exact PySem.W.Looks.of_pure rfl
 ·obtain⟨r1,o1,U,L,n1,a1,a2,a3,a4⟩:=y i hi;obtain⟨r2,o2,t3,t4,n2,b1,b2,b3,b4⟩:=y j hj;show wpAny _ A (keyLt' (tuples' aN) (c.getD i Value.none) (c.getD j Value.none)) C _ B;rw[a1,b1];exact AO (kp _ _ a2) a4 (kp _ _ b2) b4 hC
 ·have J:aO (cV ps .non f) (if c.length < 2 then c else (eT (n8 ps) (kas_sort c.length)).toList.map λi=>c.getD i Value.none):=by
   unfold cV;rw[d];split
   ·exact k
   ·exact oO k _ λi hi=>by rw[d];exact(ir (by lia)).1 i hi
  have eo:(if c.length < 2 then c.toArray else Xw ((eT (n8 ps) (kas_sort c.length)).toList.map λi=>c.getD i Value.none))=(if c.length < 2 then c else (eT (n8 ps) (kas_sort c.length)).toList.map λi=>c.getD i Value.none).toArray:=by split <;> rfl
  rw[eo];obtain⟨e,he⟩:=sortedAll_at s.heap c (if c.length < 2 then c else (eT (n8 ps) (kas_sort c.length)).toList.map λi=>c.getD i Value.none).toArray;exact⟨.ref (s.heap.objs.size+1),_,I.laid (t':=s.toks) (a:=s.heap.objs.size+1) (o:=.lst (cV ps .non f)) (λb o z=>sortedAll_old z) (YD _) ⟨by rw[uR];exact hz,_,e,J,he⟩,rfl,q _ (I.hok.fresh (YD _))⟩
abbrev uT(x:Int):List Int->List Int
 |[]=>[x]
 |y::l=>if x<=y then x::y::l else y::uT x l
abbrev fC:List Int->List Int
 |[]=>[]
 |x::l=>uT x (fC l)
def jG(x:Int):∀l,(uT x l).Perm (x::l)
 |[]=>List.Perm.refl _
 |y::l=>by
  unfold uT;split
  ·exact List.Perm.refl _
  ·exact((jG x l).cons y).trans (List.Perm.swap x y l)
def bP:∀l,(fC l).Perm l
 |[]=>List.Perm.refl _
 |x::l=>(jG x (fC l)).trans ((bP l).cons x)
def kf(x:Int):∀l:List Int,l.Pairwise (·<=·)->(uT x l).Pairwise (·<=·)
 |[],_=>by unfold uT;simp
 |y::l,h=>by
  unfold uT;rw[Z4] at h;split
  ·rename_i c;refine Z4.mpr ⟨λz hz=>?_,Z4.mpr h⟩;rcases Zn.mp hz with rfl |hz
   ·exact c
   ·have:=h.1 z hz;lia
  ·rename_i c;refine Z4.mpr ⟨λz hz=>?_,kf x l h.2⟩;rcases Zn.mp ((jG x l).mem_iff.mp hz) with rfl |hz
   ·lia
   ·exact h.1 z hz
def bW:∀l,(fC l).Pairwise (·<=·)
 |[]=>List.Pairwise.nil
 |x::l=>kf x _ (bW l)
def mv:∀ {a b:List Int},a.Perm b->a.Pairwise (·<=·)->b.Pairwise (·<=·)->a=b
 |[],b,p,_,_=>(List.Perm.nil_eq p)
 |x::a,[],p,_,_=>(List.Perm.nil_eq p.symm).symm
 |x::a,y::b,p,ha,hb=>by
  rw[Z4] at ha hb
  have e:x=y:=by
   have h1:=p.mem_iff.mp (Zj (a:=x) (l:=a));have h2:=p.mem_iff.mpr (Zj (a:=y) (l:=b));rcases Zn.mp h1 with rfl |h1
   ·rfl
   ·rcases Zn.mp h2 with h2 |h2
    ·exact h2.symm
    ·have:=ha.1 y h2;have:=hb.1 x h1
     lia
  subst e;rw[mv (List.Perm.cons_inv p) ha.2 hb.2]
def bx:∀ {ns:List Int} {u:List Value},aO (ns.map V.int) u->IntsAre u ns
 |[],_,h=>by cases h;exact .nil
 |n::ns,_,h=>by
  cases h with
  |cons r1 r2=>obtain⟨t,rfl⟩:=r1;exact .cons n t (bx r2)
def uU:aR X (.builtin "sorted") (λv H Q=>∃a ns,v=[.ref a]/\SqL X.K H a (ns.map V.int)/\ns.length < 64/\∀p,H p=aD->Q (.ref p) (upd H p (.lst ((fC ns).map V.int)))):=by
 intro f s U H v Y Q I r h;obtain⟨a,ns,rfl,B,T,q⟩:=h;obtain⟨u,rfl,C⟩:=bR r;cases C;obtain⟨d,k,L,j⟩:=I.list B;have c:=k.length;rw[Za] at c j;refine sorted_ints L.isList (bx k) (by lia) λout n E y J=>?_;have e:n=fC ns:=mv (y.trans (bP ns).symm) J (bW ns);subst e;obtain⟨e,O⟩:=sortedAll_at s.heap d out;refine⟨.ref (s.heap.objs.size+1),_,I.laid (t':=s.toks) (a:=s.heap.objs.size+1) (o:=.lst ((fC ns).map V.int)) (λb o z=>sortedAll_old z) (YD _) ⟨by rw[Za,(bP ns).length_eq];exact j,out.toList,e,jA E,by simpa using O⟩,rfl,q _ (I.hok.fresh (YD _))⟩
abbrev mw:D->Option (Int × Int)
 |.tup [.int a,.int b]=>aw (a,b)
 |_=>aD
abbrev dC:List D->Option (List (Int × Int))
 |[]=>aw []
 |d::ds=>match mw d,dC ds with
  |some p,aw ps=>aw (p::ps)
  |_,_=>aD
abbrev fD:List D->Option (List Int)
 |[]=>aw []
 |d::ds=>match d,fD ds with
  |.int i,aw ms=>aw (i::ms)
  |_,_=>aD
abbrev uV(_:Bool)(d:List D):Option (List D):=match dC d with
 |some ps=>if d.length < 64 then aw (cV ps .non d) else aD
 | none=>(match fD d with
  |some ns=>if ns.length < 64 then aw ((fC ns).map D.int) else aD
  | none=>aD)
def eu:∀ {b:List D} {ns:List Int},fD b=aw ns->b=ns.map D.int
 |[],_,e=>by cases e;rfl
 |d::b,ns,e=>by
  simp only[fD] at e;split at e
  ·rename_i i c h;cases e;rw[eu h];rfl
  ·cases e
def cQ:∀ {ns:List Int} {b:List V},VDs K m H (ns.map D.int) b->b=ns.map V.int
 |[],_,h=>by rw[Yn,VDs] at h;exact h
 |n::ns,_,h=>by
  rw[Zw,VDs] at h;obtain⟨v,r,rfl,d,c⟩:=h;rw[d.ints,cQ c];rfl
def oP:∀ (ns:List Int),VDs K m H (ns.map D.int) (ns.map V.int)
 |[]=>by rw[Yn,Yn,VDs]
 |n::ns=>by rw[Zw,Zw,VDs];exact⟨_,_,rfl,bg,oP ns⟩
def sy:∀ {b:List D} {c:List V} {ps:List (Int × Int)},dC b=aw ps->VDs K m H b c->PairsV H c ps
 |[],c,ps,e,h=>by rw[VDs] at h;subst h;cases e;exact .nil
 |d::b,c,ps,e,h=>by
  rw[VDs] at h;obtain⟨v,r,rfl,q,k⟩:=h;simp only[dC] at e;cases hd:mw d with
  |none=>rw[hd] at e;cases e
  |some p=>
   cases f:dC b with
   |none=>rw[hd,f] at e;cases e
   |some Q=>
    rw[hd,f] at e;cases e;unfold mw at hd;split at hd
    ·cases hd;obtain⟨a,B,rfl,n,z⟩:=q.tups;obtain⟨x,y,rfl,j,u⟩:=yE z;cases j.ints;cases u.ints;exact .cons n (sy f k)
    ·cases hd
def wL(h:VDs K m H d f):∀ (l:List Nat),(∀i ∈ l,i < d.length)->VDs K m H (l.map λi=>d.getD i .non) (l.map λi=>f.getD i .non)
 |[],_=>by rw[Yn,Yn,VDs]
 |i::l,hl=>by
  rw[Zw,Zw,VDs];obtain⟨v,e,b⟩:=h.get (gEG (hl i Zj));refine⟨_,_,rfl,?_,wL h l λj c=>hl j (Zi _ c)⟩;rw[ZE,ZE,gEG (hl i Zj),e];exact b
def oQ:aR X (.builtin "sorted") (r1 (rTm X.K λT d=>if T=aS then uV T d else aD)):=by
 refine aR.imp (aR.or uS uU) λn H Q h=>?_;obtain⟨_,rfl,m,S,T,d,a,v,es,R,rfl,j,vd,e,q⟩:=bV h;cases T with
 |true=>cases e
 |false=>
  have e:uV aS d=aw es:=by simpa using e
  unfold uV at e;cases c:dC d with
  |none=>
   rw[c] at e;dsimp only at e;cases hi:fD d with
   |none=>rw[hi] at e;cases e
   |some ns=>
    rw[hi] at e;dsimp only at e;split at e
    ·rename_i f;cases e;have k:=eu hi;subst k;have E:=cQ vd;subst E;exact .inr ⟨a,ns,rfl,j,f,kS R (oP _) q⟩
    ·cases e
  |some ps=>
   rw[c] at e;dsimp only at e;split at e
   ·rename_i f;cases e;have b:=vd.length;refine .inl ⟨a,v,ps,rfl,j,sy c vd,by lia,kS R ?_ q⟩;unfold cV;rw[<-b];split
    ·exact vd
    ·exact wL vd _ λi hi=>(ir (by lia)).1 i hi
   ·cases e
end
end Ev
namespace Ev
open PySem PySem.Spec PyProof.Rows L2
abbrev iu:List Int->Int
 |[]=>0
 |n::ns=>ns.foldl (λa b=>if a < b then b else a) n
def i6:∀ (ns:List Int) (n:Int),(ns.foldl (λa b=>if a < b then b else a) n) ∈ n::ns/\∀x ∈ n::ns,x<=ns.foldl (λa b=>if a < b then b else a) n
 |[],n=>⟨Zj,λx hx=>by simp at hx;subst hx;exact ZB _⟩
 |m::ns,n=>by
  obtain⟨f,c⟩:=i6 ns (if n < m then m else n);rw[Wn];refine⟨?_,λx hx=>?_⟩
  ·rcases Zn.mp f with h |h
   ·rw[h];split <;> simp
   ·exact Zi _ (Zi _ h)
  ·have d:=c _ Zj;rcases Zn.mp hx with rfl |hx
   ·split at d <;> split <;> omega
   ·rcases Zn.mp hx with rfl |hx
    ·split at d <;> split <;> omega
    ·exact c x (Zi _ hx)
def uW{M:Int}(h:M ∈ ns)(c:∀a,a ∈ ns->a<=M):M=iu ns:=by
 cases ns with
 |nil=>simp at h
 |cons n ns=>
  obtain⟨a,b⟩:=i6 ns n;have:=c _ a;have:=b _ h;show M=ns.foldl _ n;omega
section
variable {X:Cx} {K:Vk} {m:List Addr} {H:Hp} {S:Sto}
def yG(L:X.calm=aN):aR X (.builtin "max") (λC H Q=>∃a ns,C=[.ref a]/\SqL X.K H a (ns.map V.int)/\ns ≠ []/\Q (.int (iu ns)) H):=by
 intro p s E H C us Q I r h;obtain⟨a,ns,rfl,O,c,q⟩:=h;obtain⟨u,rfl,Y⟩:=bR r;cases Y;obtain⟨U,T,pl,hz⟩:=I.list O;have hi:=bx T;have z:=pl.isList;obtain⟨y,e⟩:=hi.allInts.items
 have b:ns=y.toList.map (·.1):=by
  have d:=hi.numsOf;rw[<-V6,<-e];exact d.symm
 have f:0 < y.size:=by
  have B:0 < ns.length:=XY.mpr c;rw[b,Za,ZC] at B;exact B
 rw[e] at z;refine max_intList (I.ok.hd L) z f λv Z tk hv hk=>?_;obtain⟨t,rfl⟩:=VX hv;obtain⟨b1,b2⟩:=argBest_gt (numAt y) (y.size - 1);have k:∀M:Int,M ∈ ns->(∀a,a ∈ ns->a<=M)->∃x H',Inv X p E H' { s with heap:=Z,toks:=tk }/\aJ x (.int M t)/\Q x H':=λM d J=>⟨.int (iu ns),H,I.kept hk,⟨t,by rw[uW d J]⟩,q⟩;refine k _ ?_ λa n=>?_
 ·rw[b,V5];exact getD_mem (by rw[Za,ZC];omega)
 ·rw[b] at n;obtain⟨j,hj,rfl⟩:=mem_getD n;rw[Za,ZC] at hj;rw[<-V5];exact b2 j (by omega)
def qw(q:A.handled=aD)(n:s.heap.IsTuple l (VW d))(p:0 < d.size)
  (h:∀v k T,(VW d)[argBest (λi j=>decide (numAt d i > numAt d j)) (d.size - 1)]?=aw v->(∀b o,s.heap.get? b=aw o->k.get? b=aw o)->Q v { s with heap:=k,toks:=T }) :
  wpAny (model prog w) A (call (.builtin "max") [.ref l]) Q E s:=by
 have f:l < s.heap.objs.size:=by obtain⟨_,e,_⟩:=n;exact Zt e
 refine call_max_walk (UM n ?_);refine⟨_,[_,l],[_],_,_,_,_,rfl,Walks.tuple (A:=A.in1) q _ l (ZI f) (VW d),⟨⟨_,ZA _ rfl,rfl,rfl⟩,n.push _⟩,λc hc=>?_,by simpa[VW] using p,CmpOf.ints_gt (numAt d) (λ_ _=>VX),λv k T u y=>?_⟩
 ·show c < (s.heap.push _).objs.size;rw[Yt];rcases Zn.mp hc with rfl |hc
  ·exact Y9 _
  ·rcases Zn.mp hc with rfl |hc
   ·exact YZ f
   ·cases hc
 ·refine h v k T (by simpa[VW] using u) λb o e=>y b o (λhm=>?_) (Zf _ e);rcases Zn.mp hm with e1 |hm
  ·exact absurd (e1 ▸ Zt e) (ZR _)
  ·cases hm
def yH(O:X.calm=aN):aR X (.builtin "max") (λE H Q=>∃a ns,E=[.ref a]/\SqT X.K H a (ns.map V.int)/\ns ≠ []/\Q (.int (iu ns)) H):=by
 intro p s J H E us Q I r h;obtain⟨a,ns,rfl,T,c,q⟩:=h;obtain⟨u,rfl,Y⟩:=bR r;cases Y;obtain⟨d,U,pl,hz⟩:=I.tuple T;have hi:=bx U;have B:s.heap.IsTuple a d.toArray:=pl;obtain⟨y,e⟩:=hi.allInts.items
 have b:ns=y.toList.map (·.1):=by
  have f:=hi.numsOf;rw[<-V6,<-e];exact f.symm
 have n:0 < y.size:=by
  have C:0 < ns.length:=XY.mpr c;rw[b,Za,ZC] at C;exact C
 rw[e] at B;refine qw (I.ok.hd O) B n λv Z tk hv hk=>?_;obtain⟨t,rfl⟩:=VX hv;obtain⟨b1,b2⟩:=argBest_gt (numAt y) (y.size - 1);have k:∀M:Int,M ∈ ns->(∀a,a ∈ ns->a<=M)->∃x H',Inv X p J H' { s with heap:=Z,toks:=tk }/\aJ x (.int M t)/\Q x H':=λM f L=>⟨.int (iu ns),H,I.kept hk,⟨t,by rw[uW f L]⟩,q⟩;refine k _ ?_ λa z=>?_
 ·rw[b,V5];exact getD_mem (by rw[Za,ZC];omega)
 ·rw[b] at z;obtain⟨j,hj,rfl⟩:=mem_getD z;rw[Za,ZC] at hj;rw[<-V5];exact b2 j (by omega)
abbrev n9(T:Bool)(d:List D)(S:Sto):Option (D × Sto):=match fD d with
 |some (n::ns)=>aw (.int (iu (n::ns)),S)
 |_=>aD
def yI(b:X.calm=aN):aR X (.builtin "max") (r1 (rSq X.K n9)):=by
 refine aR.imp (aR.or (yG b) (yH b)) λj H Q h=>?_;obtain⟨_,rfl,m,S,T,k,a,v,d,f,R,rfl,sq,vd,e,q⟩:=bV h;unfold n9 at e;split at e
 ·rename_i n ns hi;cases e;have c:=eu hi;subst c;have E:=cQ vd;subst E;rcases iq sq with sq |sq
  ·exact .inl ⟨a,n::ns,rfl,sq,by simp,q m H _ (Aft.refl R) bg⟩
  ·exact .inr ⟨a,n::ns,rfl,sq,by simp,q m H _ (Aft.refl R) bg⟩
 ·cases e
abbrev oe(T:Bool)(d:List D)(S:Sto):Option (D × Sto):=match T,fD d with
 |false,aw ns=>aw (.int (WA ns),S)
 |_,_=>aD
def yJ(f:X.calm=aN):aR X (.builtin "sum") (λd H Q=>∃ (a:Addr) (ns:List Int),d=[.ref a]/\SqL X.K H a (ns.map V.int)/\Q (.int (WA ns)) H):=by
 intro p s E H d U Q I r h;obtain⟨a,ns,rfl,j,q⟩:=h;obtain⟨u,rfl,v⟩:=bR r;cases v;obtain⟨n,k,B,J⟩:=I.list j;have hi:=bx k;have c:=B.isList;obtain⟨y,e⟩:=hi.allInts.items
 have b:ns=y.toList.map (·.1):=by
  have z:=hi.numsOf;rw[<-V6,<-e];exact z.symm
 rw[e] at c;refine sum_intListG (I.ok.hd f) c λL O T C=>⟨.int (WA ns),H,I.kept C,⟨T,?_⟩,q⟩;rw[preSum_eq,b,Ye (by rw[Za,ZC];exact Ze _)]
def yK(b:X.calm=aN):aR X (.builtin "sum") (r1 (rSq X.K oe)):=by
 refine aR.imp (yJ b) λk H Q h=>?_;obtain⟨_,rfl,m,S,T,n,a,v,d,j,R,rfl,c,vd,e,q⟩:=bV h;unfold oe at e;split at e
 ·rename_i ns hi;cases e;have f:=eu hi;subst f;have E:=cQ vd;subst E;exact⟨a,ns,rfl,c,q m H _ (Aft.refl R) bg⟩
 ·cases e
abbrev uX(d:D)(S:Sto):Option (D × Sto):=match d with
 |.int i=>aw (.int i,S)
 |.bl b=>aw (.int (if b then 1 else 0),S)
 |_=>aD
def yL:aR X (.type "int") (r1 (rS1 X.K uX)):=by
 refine aR.imp yc λf H Q h=>?_;obtain⟨x,rfl,m,S,a,d,c,R,v,e,q⟩:=bV h;cases a with
 |int i=>cases e;exact .inl ⟨i,by rw[v.ints],q m H _ (Aft.refl R) bg⟩
 |bl b=>cases e;exact .inr ⟨b,by rw[v.bls],q m H _ (Aft.refl R) bg⟩
 |_=>cases e
end
def AQ(a d:Value):argsOk "max" ⟨[a],[(Str.ofString "default", d)]⟩:=by unfold argsOk;kernel_rfl
section
variable {prog:Program} {w:World} {A:Around} {R:Result->Shared->Prop} {I S:Addr} {fp wr:List Addr} {n:Nat} {P:Nat->Value->Prop} {St:Nat->Heap->Prop} {bt:Nat->Nat->Bool} {kw:List (Str × Value)}
def wM:(toString "max" ++ toString ".loop" : String) = "max.loop" := by decide
def my(W:Walks prog w A.in1 I fp wr n P St)(J:CmpOf prog w A.in1 .Gt P bt)(u:S ∉ fp):∀ (m i:Nat) (s:Shared) (b:Value) (c:Nat),i+1+m=n->St (i+1) s.heap->P (argBest bt i) b->s.heap.get? S=aw { cls:=.type "list", dict:=aD,data:=.seq #[b,b] c,slots:=#[] } ->
  (∀v B C,P (argBest bt (n - 1)) v->(∀a o,a ∉ wr->a ≠ S->s.heap.get? a=aw o->B.get? a=aw o)->R (.ok (.ret v)) { s with heap:=B,toks:=C })->codeAny (model prog w) A (.builtin "max.loop" ⟨[.ref I,.none,.ref S],kw⟩) R s
 |0,i,s,b,c,e,st,pb,gs,r=>by
  have E:S ∉ wr:=λh=>u (W.sub _ h);refine VO WR ?_;rw[Around.under_plainId WY _];show wpAny _ A.in1 (Uf (.ref S) >>= _) _ _ s;refine Us (UR gs rfl ?_);show wpAny _ A.in1 (tryCatch (pyNext (.ref I)) _ >>= _) _ _ s;refine Us (UW (W.done s _ _ (by rw[<-e];exact st) λB C k=>?_));show wpAny _ A.in1 (Uq S (λ_=>#[]) >>= _) _ _ _;refine Us (UY (k S _ E gs) rfl (Us (UB (UI ?_))));exact r b _ C (by rw[<-e];exact pb) λa o f q z=>(ZK _ _ (Ne.symm q)).trans (k a o f z)
 |m+1,i,s,b,c,e,st,pb,gs,r=>by
  have E:S ∉ wr:=λh=>u (W.sub _ h);refine VO WR ?_;rw[Around.under_plainId WY _];show wpAny _ A.in1 (Uf (.ref S) >>= _) _ _ s;refine Us (UR gs rfl ?_);show wpAny _ A.in1 (tryCatch (pyNext (.ref I)) _ >>= _) _ _ s;refine Us (UW (W.item (i+1) s _ _ (by lia) st λv B C Q y k=>?_));have d:=k S _ E gs;show wpAny _ A.in1 (tryCatch (holding [v,v] (Ub .Gt v b >>= _)) _ >>= _) _ _ _;refine Us (UW (UA (Us (J (i+1) (argBest bt i) v b _ _ _ Q pb ?_))));refine Us (UA (UV ?_));refine Us (UB (UI ?_));cases hb:bt (i+1) (argBest bt i) with
  |true=>
   simp only[if_true];refine Us (UY d rfl (Us (UB ?_)));rw[wM];refine UI ⟨V8 WY _,my W J u m (i+1) _ v _ (by lia) (W.frame _ _ _ y λa af o z=>?_) (by simp only[argBest,hb,if_true];exact Q) (Yi _ d rfl) λO j T p L=>?_⟩
   ·exact(ZK _ _ (λz:S=a=>u (by rw[z];exact af))).trans z
   ·exact r O j T p λa o f q z=>L a o f q ((ZK _ _ (Ne.symm q)).trans (k a o f z))
  |false=>
   simp only[ZP,if_false];refine Us (UB ?_);rw[wM];refine UI ⟨V8 WY _,my W J u m (i+1) _ b c (by lia) y (by simp only[argBest,hb,ZP,if_false];exact pb) d λO j T p L=>?_⟩;exact r O j T p λa o f q z=>L a o f q (k a o f z)
def yM(W:Walks prog w A.in1 I fp wr n P St)(E:CmpOf prog w A.in1 .Gt P bt)(d:S ∉ fp)(L:0 < n){c:Nat}(st:St 0 s.heap)(gs:s.heap.get? S=aw { cls:=.type "list", dict:=aD,data:=.seq #[] c,slots:=#[] })
  (r:∀v j B,P (argBest bt (n - 1)) v->(∀a o,a ∉ wr->a ≠ S->s.heap.get? a=aw o->j.get? a=aw o)->R (.ok (.ret v)) { s with heap:=j,toks:=B }):codeAny (model prog w) A (.builtin "max.loop" ⟨[.ref I,.none,.ref S],kw⟩) R s:=by
 have C:S ∉ wr:=λh=>d (W.sub _ h);refine VO WR ?_;rw[Around.under_plainId WY _];show wpAny _ A.in1 (Uf (.ref S) >>= _) _ _ s;refine Us (UR gs rfl ?_);show wpAny _ A.in1 (tryCatch (pyNext (.ref I)) _ >>= _) _ _ s;refine Us (UW (W.item 0 s _ _ L st λv j B Q k u=>?_));have b:=u S _ C gs;show wpAny _ A.in1 (Uq S (λ_=>#[v,v]) >>= _) _ _ _;refine Us (UY b rfl ?_);rw[wM];refine UI ⟨V8 WY _,my W E d (n - 1) 0 _ v _ (by lia) (W.frame _ _ _ k λa af o z=>?_) Q (Yi _ b rfl) λO f T p J=>?_⟩
 ·exact(ZK _ _ (λz:S=a=>d (by rw[z];exact af))).trans z
 ·exact r O f T p λa o q y z=>J a o q y ((ZK _ _ (Ne.symm y)).trans (u a o q z))
def AR(W:Walks prog w A.in1 I fp wr 0 P St)(b:S ∉ fp){c:Nat}(st:St 0 s.heap)(gs:s.heap.get? S=aw { cls:=.type "list", dict:=aD,data:=.seq #[] c,slots:=#[] })
  (r:∀h T,(∀a o,a ∉ wr->s.heap.get? a=aw o->h.get? a=aw o)->R (.ok (.ret d)) { s with heap:=h,toks:=T }):codeAny (model prog w) A (.builtin "max.loop" ⟨[.ref I,.none,.ref S],[(Str.ofString "default", d)]⟩) R s:=by
 refine VO WR ?_;rw[Around.under_plainId WY _];show wpAny _ A.in1 (Uf (.ref S) >>= _) _ _ s;refine Us (UR gs rfl ?_);show wpAny _ A.in1 (tryCatch (pyNext (.ref I)) _ >>= _) _ _ s;refine Us (UW (W.done s _ _ st λh T k=>?_));exact Us (UQ (UI (r h T k)))
variable {E:Value->Shared->Prop} {s:Shared} {l:Addr} {xs:Array (Int × Tok)}
def AS(u:A.handled=aD)(z:s.heap.IsList l (VW xs))
  (B:0 < xs.size->∀v h T,(VW xs)[argBest (λi j=>decide (numAt xs i > numAt xs j)) (xs.size - 1)]?=aw v->(∀b o,s.heap.get? b=aw o->h.get? b=aw o)->Q v { s with heap:=h,toks:=T })
  (y:xs.size=0->∀h T,(∀b o,s.heap.get? b=aw o->h.get? b=aw o)->Q d { s with heap:=h,toks:=T }):wpAny (model prog w) A (call (.builtin "max") [.ref l] [(Str.ofString "default", d)]) Q E s:=by
 refine kmb_tree F.kind_max F.plain_max F.entry_max (AQ _ _) ?_;show wpAny _ A.in1 (Builtin.Builtins.bindParams "max" ["key", "default"] 0 ⟨[],[(Str.ofString "default", d)]⟩ >>= _) _ _ s;refine Us (UG (show Builtin.Builtins.bindParams "max" ["key", "default"] 0 ⟨[],[(Str.ofString "default", d)]⟩=pure [aD,aw d] from rfl) ?_);refine Us (UI ?_);refine Us (iter_intList z λO e st f L=>?_);subst e;have W:=Walks.list (prog:=prog) (w:=w) (A:=A.in1) u s.heap.objs.size l L (VW xs);refine Us (UF ?_);have J:∀b ∈ [s.heap.objs.size,l],b < (s.heap.push { cls:=.type "list_iterator", data:=.fields #[.ref l,.int 0 0] }).objs.size:=f;rw[wM];by_cases p:xs.size=0
 ·have q:(VW xs).size=0:=by simpa[VW] using p
  rw[q] at W;refine UI ⟨V8 WY _,AR W (λc=>ZR _ (f _ c)) (W.frame _ _ _ st λb _ o e=>Zf _ e) (ZA _ rfl) λh T k=>?_⟩;exact y p h T (V7 λb o hb e=>k b o hb (Zf _ e))
 ·refine UI ⟨V8 WY _,yM W (CmpOf.ints_gt (numAt xs) (λ_ _=>VX)) (λc=>ZR _ (f _ c)) (by simp[VW];lia) (W.frame _ _ _ st λb _ o e=>Zf _ e) (ZA _ rfl) λv h T C k=>?_⟩;exact B (by lia) v h T (by simpa[VW] using C) (V7 λb o hb e=>k b o hb (ZI (Zt e)) (Zf _ e))
end
abbrev fT(c:Int):List Int->Int
 |[]=>c
 |n::ns=>iu (n::ns)
abbrev eA(c:Int)(T:Bool)(d:List D)(S:Sto):Option (D × Sto):=match T,fD d with
 |false,aw ns=>aw (.int (fT c ns),S)
 |_,_=>aD
section
variable {X:Cx} {K:Vk} {m:List Addr} {H:Hp} {S:Sto} {e:Expr} {t:TA} {p pos kp vp:Pos} {c:Int} {j:Nat}
def JL(hc:X.calm=aN)(hg:Gl X "max")(hm:X.mg "max" = aD)(hdb:(("max" : Str) == ("__debug__" : Str))=aS){de:Expr}(hd:PE X de (tC (.int c)))(B:PA X [e] t)(he:Uj [e] X.env=(aS,eval e X.env)::Uj [] X.env) :
  PE X (.Call (.Name "max" p) [e] [⟨aw "default", de,kp⟩] pos) (tCB (r1 (rSq X.K (eA c))) t):=by
 intro b s z H Q I h;refine Ur (dz I hg hm WF ?_ (by decide) hdb);refine callWith_kw (thn (B pos b s z H _ I h) λus s1 ⟨vs,L,I1,r,q1⟩=>?_) (by rw[he];rfl) (by rw[he];rfl) rfl rfl;refine thn (wo (nm:=aw "default") (kpos:=kp) hd zW pos b s1 z L _ I1 (show ce (tC (.int c)) jy z L (λzs f=>zs=[.int c]/\f=L) from ⟨rfl,rfl⟩)) λks s2 ⟨zs,f,C,rz,ez,eH⟩=>?_;subst ez eH;obtain⟨u,rfl,ru⟩:=bR rz;obtain⟨tk,rfl⟩:=ru;obtain⟨_,rfl,m,S,tu,ds,a,ws,d,S',R,rfl,U,vd,E,q⟩:=bV q1;obtain⟨u',rfl,J⟩:=bR r;cases J;unfold eA at E;split at E
 ·rename_i ns hi;cases E;have ed:=eu hi;subst ed;have ev:=cQ vd;subst ev;have U:SqL X.K f a (ns.map V.int):=U;obtain⟨its,rv,pl,hz⟩:=C.list U;have hi:=bx rv;have hl:=pl.isList;obtain⟨Y,ey⟩:=hi.allInts.items
  have k:ns=Y.toList.map (·.1):=by
   have Z:=hi.numsOf;rw[<-V6,<-ey];exact Z.symm
  have y:ns.length=Y.size:=by rw[k,Za,ZC]
  rw[ey] at hl;refine AS (C.ok.hd hc) hl (λhsz v h' T hv hk=>?_) (λhsz h' T hk=>?_)
  ·obtain⟨t',rfl⟩:=VX hv;obtain⟨b1,b2⟩:=argBest_gt (numAt Y) (Y.size - 1)
   have et:fT c ns=iu ns:=by
    cases ns with
    |nil=>rw[Z1] at y;lia
    |cons n ns=>rfl
   have O:∀M:Int,M ∈ ns->(∀a,a ∈ ns->a<=M)->∃x H',Inv X b z H' { s2 with heap:=h',toks:=T }/\aJ x (.int M t')/\Q x H':=λM Z h2=>⟨.int (fT c ns),f,C.kept hk,⟨t',by rw[uW Z h2,et]⟩,q m f _ (Aft.refl R) bg⟩;refine O _ ?_ λa B=>?_
   ·rw[k,V5];exact getD_mem (by rw[Za,ZC];lia)
   ·rw[k] at B;obtain⟨j,hj,rfl⟩:=mem_getD B;rw[Za,ZC] at hj;rw[<-V5];exact b2 j (by lia)
  ·have en:ns=[]:=ZT.mp (by lia);subst en;exact⟨.int c,f,C.kept hk,⟨tk,rfl⟩,q m f _ (Aft.refl R) bg⟩
 ·cases E
end
section
variable {X:Cx} {K:Vk} {m:List Addr} {H:Hp} {S:Sto}
abbrev fU(d:D)(S:Sto):Bool:=match d with
 |.ref n=>(au S n).isSome
 |_=>aS
abbrev isTup:D->Bool
 |.tup _=>aN
 |_=>aS
abbrev AU(c:D->Sto->Bool)(f:D->List D->Sto->Option (D × Sto))(x:XE)(y:XA):XE:=λb S=>bnd (x b S) λd h=>if c d h=aN then bnd (y b h) λk j=>f d k j else aD
abbrev rM(K:Vk)(f:D->List D->Sto->Option (D × Sto)):V->List V->Hp->VK->Prop:=λv k H Q=>∃m S a c d b,Rel K m S H/\VD K m H a v/\VDs K m H c k/\f a c S=aw (d,b)/\∀j h u,Aft K m H b j h->VD K j h d u->Q u h
def uY(O:∀ {m H S d v},Rel K m S H->VD K m H d v->c d S=aN->tyV K T v H)(h:tE K (AU c f x y) J H Q):tBM K T (rM K f) (tE K x) (tAr K y) J H Q:=by
 obtain⟨m,z,S,d,Y,E,R,e,q⟩:=h;obtain⟨a,k,Z,e⟩:=ae e;split at e
 ·rename_i L;obtain⟨n,p,e2,e⟩:=ae e;refine⟨m,z,S,a,k,E,R,Z,λm1 H1 v b B=>⟨O b.rel B L,m1,z,k,n,p,E.mono R b.ext,b.rel,e2,λI H2 vs j vb=>?_⟩⟩;exact⟨I,p,a,n,d,Y,j.rel,B.mono b.rel j.ext,vb,e,λU H3 u C vd=>q U H3 u ((b.trans j).trans C) vd⟩
 ·cases e
def AV(R:Rel K m S H)(vd:VD K m H d v)(h:fU d S=aN):tyV K "list" v H:=by
 cases d with
 |ref n=>
  simp only[fU] at h;obtain⟨q,hs⟩:=Z9.mp h;obtain⟨p,k,f,j,c⟩:=R.seq hs;obtain⟨u,b,rfl⟩:=vd.refs;rw[f] at b;cases b;exact .inl ⟨rfl,k,j⟩
 |_=>cases h
def JM(R:Rel K m S H)(vd:VD K m H d v)(h:(λd (_:Sto)=>isTup d) d S=aN):tyV K "tuple" v H:=by
 cases d with
 |tup f=>
  obtain⟨a,c,rfl,b,_⟩:=vd.tups;exact .inr (.inl ⟨rfl,.inr ⟨c,b⟩⟩)
 |_=>cases h
abbrev chg(n:Nat)(S:Sto)(f:List D->Option (D × List D)):Option (D × Sto):=match S[n]? with
 |some (.lst ds)=>(f ds).map λr=>(r.1,S.set n (.lst r.2))
 |_=>aD
def sC{n:Nat}(h:chg n S f=aw (d,k)):∃b E,S[n]?=aw (.lst b)/\f b=aw (d,E)/\k=S.set n (.lst E):=by
 unfold chg at h;cases j:S[n]? with
 |none=>rw[j] at h;cases h
 |some o=>
  rw[j] at h;cases o with
  |lst b=>
   dsimp only at h;cases c:f b with
   |none=>rw[c] at h;cases h
   |some r=>rw[c] at h;cases h;exact⟨b,r.2,rfl,c,rfl⟩
  |_=>cases h
abbrev sD(d:D)(c:List D)(S:Sto):Option (D × Sto):=match d,c with
 |.ref n,[e]=>chg n S λb=>if b.length < 100000 then aw (.non,b++[e]) else aD
 |_,_=>aD
abbrev eU(d:D)(c:List D)(S:Sto):Option (D × Sto):=match d,c with
 |.ref n,[.int i]=>chg n S λb=>match ixN b.length i with
  |some k=>(b[k]?).map λx=>(x,b.eraseIdx k)
  |none=>aD
 |_,_=>aD
def uZ{n:Nat}(R:Rel K m S H)(vd:VD K m H (.ref n) v)(c:S[n]?=aw (.lst f)):∃a vs,v = .ref a/\m[n]?=aw a/\H a=aw (.lst vs)/\VDs K m H f vs:=by
 obtain⟨a,vs,b,d,q⟩:=R.lst c;obtain⟨j,h,e⟩:=vd.refs;rw[b] at h;cases h;exact⟨a,vs,e,b,d,q⟩
def jH{n:Nat}(R:Rel K m S H)(h:m[n]?=aw a)(vd:VDs K m H E b):Aft K m H (S.set n (.lst E)) m (upd H a (.lst b)):=let ⟨x,y⟩:=R.write h vd;⟨x,y⟩
def JN:MtR X "list.append" (rM X.K sD):=by
 intro b s k H x O v U Q I B j h;refine oC b s k H x O v U Q I B j ?_;obtain⟨m,S,a,as,d,S',R,T,J,e,q⟩:=h;unfold sD at e;split at e
 ·rename_i n z;obtain⟨ds,Z,u,f,rfl⟩:=sC e;split at f
  ·rename_i hl;cases f;obtain⟨p,E,rfl,Y,C,c⟩:=uZ R T u;obtain⟨y,rfl,L⟩:=JI J;refine⟨p,E,y,rfl,rfl,C,by rw[Uh,<-c.length];lia,q m _ _ (jH R Y (c.append (.cons L .nil))) qk⟩
  ·cases f
 ·cases e
def sE:∀ {b:List D} {v:List V} (k:Nat),VDs K m H b v->VDs K m H (b.eraseIdx k) (v.eraseIdx k)
 |[],v,k,h=>by rw[VDs] at h;subst h;exact .nil
 |d::b,v,0,h=>by
  rw[VDs] at h;obtain⟨y,r,rfl,p,q⟩:=h;exact q
 |d::b,v,k+1,h=>by
  rw[VDs] at h;obtain⟨y,r,rfl,p,q⟩:=h;exact .cons p (sE k q)
def yN:MtR X "list.pop" (rM X.K eU):=by
 intro f s O H x xs v us Q I U E h;refine z9 f s O H x xs v us Q I U E ?_;obtain⟨m,S,a,as,d,S',R,va,vs,e,q⟩:=h;unfold eU at e;split at e
 ·rename_i n i;obtain⟨C,es,T,c,rfl⟩:=sC e;cases u:ixN C.length i with
  |none=>rw[u] at c;cases c
  |some k=>
   rw[u] at c;dsimp only at c;cases j:C[k]? with
   |none=>rw[j] at c;cases c
   |some z=>
    rw[j] at c;cases c;obtain⟨p,Z,rfl,hp,B,b⟩:=uZ R va T;obtain⟨y,rfl,vi⟩:=JI vs;cases vi.ints;obtain⟨y,J,vy⟩:=b.get j;have A:=jH R hp (sE k b);obtain⟨h1,h2,h3,h4⟩:=p0 u;have Y:=(I.lst B).choose_spec.choose_spec.2.2;have L:=b.length;rw[Uh] at Y;exact⟨p,Z,i,k,y,rfl,rfl,B,by lia,by lia,by rw[<-b.length];exact h1,J,q m _ _ A (vy.mono R A.ext)⟩
 ·cases e
abbrev u0(d:D)(b:List D)(S:Sto):Option (D × Sto):=match d,b with
 |.tup ds,[x]=>if cB x=aN/\ds.all cB=aN then aw (.int (ds.countP λz=>eqF z x:Nat),S) else aD
 |_,_=>aD
def Ep:MtR X "tuple.count" (rM X.K u0):=by
 intro b s n H x J v U Q I u k h;refine yr X.K rfl b s n H x J v U Q I u k ?_;obtain⟨m,S,a,O,d,T,R,L,E,e,q⟩:=h;unfold u0 at e;split at e
 ·rename_i Y z;split at e
  ·rename_i f;cases e;obtain⟨p,B,rfl,C,c⟩:=L.tups;obtain⟨y,rfl,j⟩:=JI E;exact⟨p,B,y,rfl,rfl,.of C,kU j f.1,iY c f.2,q m H _ (Aft.refl R) (by rw[oM j f.1 c f.2];exact bg)⟩
  ·cases e
 ·cases e
abbrev jI(o i v:D)(S:Sto):Option Sto:=match o,i with
 | .ref n,.int k=>(match S[n]? with
  |some (.lst ds)=>(ixN ds.length k).map λj=>S.set n (.lst (ds.set j v))
  | _=>aD)
 |o,i=>AA o i v S
abbrev Oa(K:Vk):DC:=λo i v H Q=>∃m S a b c d,Rel K m S H/\VD K m H a o/\VD K m H b i/\VD K m H c v/\jI a b c S=aw d/\∀f h,Aft K m H d f h->Q h
def Oc(hu:X.A.units+64 < cLine):IK X (Oa X.K):=by
 intro d s Y H o i v ov Z u Q I T B J h;obtain⟨m,S,a,b,c,S',R,O,U,E,e,q⟩:=h;unfold jI at e;split at e
 ·rename_i n k;cases f:S[n]? with
  |none=>rw[f] at e;cases e
  |some ob=>
   rw[f] at e;cases ob with
   |lst L=>
    dsimp only at e;cases z:ixN L.length k with
    |none=>rw[z] at e;cases e
    |some j=>
     rw[z] at e;cases e;obtain⟨p,ws,rfl,hp,hH,y⟩:=uZ R O f;cases U.ints;exact z6 d s Y H _ _ v ov Z u Q I T B J ⟨p,ws,k,j,rfl,rfl,hH,by rw[<-y.length];exact z,q m _ (jH R hp (y.set E))⟩
   |_=>cases e
 ·obtain⟨k,n,kss,L,hk,rfl,f,hl,rfl⟩:=yv e;obtain⟨a,b,C,rfl,rfl,g,A⟩:=Ef R hk f hl U O E;cases T;cases B;exact yq (show X.A.units+2 < cLine by lia) I g rfl J λs' I'=>⟨C,I',q m C A⟩
open Classical in
end
@[inline]abbrev Nxt:=Nat->Sto->Option (Option D)
@[inline]abbrev XI:=Rho->Sto->Option (Nxt × Sto)
structure ExtB(B:List Addr)(m:List Addr)(H:Hp)(m':List Addr)(H':Hp):Prop where
 pre:m <+: m'
 keep:∀a o,H a=aw o->a ∉ m->a ∉ B->H' a=aw o
 new:∀a,a ∈ m'->a ∉ m->H a=aD
 nb:∀b,b ∈ B->b ∉ m'
abbrev AtB(B:List Addr)(m:List Addr)(H:Hp):Prop:=∀b,b ∈ B->(∃v,H b=aw (.lst v))/\b ∉ m
def Ext.toB(c:AtB B m H)(x:Ext m H d H'):ExtB B m H d H':=⟨x.pre,λa o h n _=>x.keep a o h n,x.new,λb hb z=>by
 obtain⟨⟨v,e⟩,n⟩:=c b hb;have:=x.new b z n;rw[e] at this;cases this⟩
def ExtB.trans(x:ExtB B m H m1 f)(y:ExtB B m1 f d H2):ExtB B m H d H2:=by
 refine⟨x.pre.trans y.pre,λa o h n nb=>?_,λa h n=>?_,y.nb⟩
 ·have c:a ∉ m1:=λz=>by have:=x.new a z n;rw[this] at h;cases h
  exact y.keep a o (x.keep a o h n nb) c nb
 ·by_cases b:a ∈ m1
  ·exact x.new a b n
  ·cases e:H a with
   |none=>rfl
   |some o=>
    by_cases hb:a ∈ B
    ·exact absurd h (y.nb a hb)
    ·have:=x.keep a o e n hb;rw[y.new a h b] at this;cases this
def AtB.ext(h:AtB B m H)(x:Ext m H c H'):AtB B c H':=λb hb=>by
 obtain⟨⟨v,e⟩,n⟩:=h b hb;exact⟨⟨v,x.keep _ _ e n⟩,(x.toB h).nb b hb⟩
abbrev IOk(K:Vk)(B:List Addr)(J:It)(nx:Nxt)(m0:List Addr)(b:Hp):Prop:=∀ (m:List Addr) (S:Sto) (H:Hp) (i:Nat),ExtB B m0 b m H->Rel K m S H ->
 (nx i S=aw aD->J.stop i H)/\(∀d,nx i S=aw (aw d)->J.go i H/\∀x h,J.yld i H x h->Aft K m H S m h/\VD K m h d x)
abbrev tIt(K:Vk)(B:List Addr)(x:XI):TI:=λf H R=>∃m c S nx b,EnvR K m H c f/\Rel K m S H/\AtB B m H/\x c S=aw (nx,b)/\∀d h J,Aft K m H b d h->IOk K B J nx d h->R J h
abbrev nxL(d:List D):Nxt:=λi _=>aw d[i]?
abbrev nxS(n:Nat):Nxt:=λi S=>(au S n).map λd=>d[i]?
abbrev nxR(lo:Int)(n:Nat):Nxt:=λi _=>aw (if i < n then aw (.int (lo+i)) else aD)
abbrev wD(i:Nat)(d:D):D:=.tup [.int i,d]
abbrev enm(d:List D)(i:Nat):Option (Option D):=if i<=d.length then aw (d[i]?.map (wD i)) else aD
abbrev ve(d:List D):Nxt:=λi _=>enm d i
abbrev AW(n:Nat):Nxt:=λi S=>(au S n).bind λd=>enm d i
section
variable {X:Cx} {K:Vk} {m B:List Addr} {H:Hp} {S:Sto}
def Er(R:Rel K m0 f b)(c:AtB B m0 b)(x:ExtB B m0 b m H)(h:b a=aw (.tup d)):H a=aw (.tup d):=x.keep _ _ h (R.notTup h) λz=>by
 obtain⟨⟨v,e⟩,_⟩:=c a z;rw[e] at h;cases h
def VDs.monoB(R:Rel K m0 f b)(c:AtB B m0 b)(x:ExtB B m0 b m H)(h:VDs K m0 b d vs):VDs K m H d vs:=VDs.mono0 x.pre (λ_ _=>Er R c x) h
def VD.monoB(R:Rel K m0 f b)(c:AtB B m0 b)(x:ExtB B m0 b m H)(h:VD K m0 b d v):VD K m H d v:=VD.mono0 x.pre (λ_ _=>Er R c x) h
def EnvR.monoB(R:Rel K m0 j b)(c:AtB B m0 b)(x:ExtB B m0 b m H)(h:EnvR K m0 b f σ):EnvR K m H f σ:=
 ⟨h.len,λi d e=>let ⟨v,p,q⟩:=h.at_ i d e;⟨v,p,VD.monoB R c x q⟩⟩
def sF(h:∀m S H i o,ExtB B m0 H0 m H->Rel K m S H->nx i S=aw o->∃c b,o=c[i]?/\SqL K H a b/\VDs K m H c b):IOk K B (Itl K a) nx m0 H0:=by
 intro m S H i x R;refine⟨λe=>?_,λd e=>?_⟩
 ·obtain⟨c,b,E,f,vd⟩:=h m S H i _ x R e;exact⟨b,f,by rw[<-vd.length];exact Z8.mp E.symm⟩
 ·obtain⟨c,b,E,f,vd⟩:=h m S H i _ x R e;obtain⟨v,j,n⟩:=vd.get E.symm;refine⟨⟨b,v,f,j⟩,λy q ⟨p,k⟩=>?_⟩;subst p;have:=k b f;rw[j] at this;cases this;exact⟨Aft.refl R,n⟩
def Es(j:Rel K m0 u H0)(h:AtB B m0 H0)(q:H0 a=aw (.tup vs))(vd:VDs K m0 H0 p vs):IOk K B (Itt K a) (nxL p) m0 H0:=by
 intro m S H i x R;have b:SqT K H a vs:=.of (Er j h x q);have c:=vd.monoB j h x;refine⟨λe=>⟨vs,b,?_⟩,λd e=>?_⟩
 ·rw[<-c.length];exact Z8.mp (Option.some.inj e)
 ·obtain⟨v,f,n⟩:=c.get (Option.some.inj e);refine⟨⟨vs,v,b,f⟩,λy z ⟨E,k⟩=>?_⟩;subst E;have:=k vs b;rw[f] at this;cases this;exact⟨Aft.refl R,n⟩
def wN{lo:Int}{n:Nat}:IOk K B (Itr lo n) (nxR lo n) m0 H0:=by
 intro m S H i x R;unfold nxR;refine⟨λe=>?_,λd e=>?_⟩
 ·split at e
  ·cases e
  ·show n<=i;lia
 ·split at e
  ·rename_i hi;cases e;exact⟨hi,λy b ⟨E,h⟩=>by subst E;subst h;exact⟨Aft.refl R,bg⟩⟩
  ·cases e
def qx(h:∀m S H i o,ExtB B m0 H0 m H->Rel K m S H->nx i S=aw o->∃c b,enm c i=aw o/\j K H a b/\VDs K m H c b):IOk K B (Ite K a j) nx m0 H0:=by
 intro m S H i x R;refine⟨λe=>?_,λd e=>?_⟩
 ·obtain⟨c,b,E,f,vd⟩:=h m S H i _ x R e;unfold enm at E;split at E
  ·rename_i L;refine⟨b,f,?_⟩;rw[<-vd.length];cases hd:c[i]? with
   |none=>have:=Z8.mp hd;lia
   |some z=>rw[hd] at E;cases E
  ·cases E
 ·obtain⟨c,b,E,f,vd⟩:=h m S H i _ x R e;unfold enm at E;split at E
  ·cases hd:c[i]? with
   |none=>rw[hd] at E;cases E
   |some z=>
    rw[hd] at E;cases E;obtain⟨v,p,C⟩:=vd.get hd;refine⟨⟨b,v,f,p⟩,λy J ⟨T,n,I,q⟩=>?_⟩;subst I;have u:=q b v f p;subst u;have k:=Ext.beside R n (.tup [.int i,v]);exact⟨⟨k,R.beside n _⟩,ql bf (.cons bg (.cons (C.mono R k) .nil))⟩
  ·cases E
abbrev Rf(d:D):Option Nxt:=match d with
 |.tup ds=>aw (nxL ds)
 |.ref n=>aw (nxS n)
 |_=>aD
abbrev xIV(x:XE):XI:=λc S=>bnd (x c S) λd b=>match d with
 |.tup ds=>aw (nxL ds,b)
 |.ref n=>if (au b n).isSome=aN then aw (nxS n,b) else aD
 |_=>aD
abbrev xIT(x:XA):XI:=λb S=>bnd (x b S) λd c=>aw (nxL d,c)
abbrev xEV(x:XE):XI:=λc S=>bnd (x c S) λd b=>match d with
 |.tup ds=>aw (ve ds,b)
 |.ref n=>if (au b n).isSome=aN then aw (AW n,b) else aD
 |_=>aD
abbrev xET(x:XA):XI:=λb S=>bnd (x b S) λd c=>aw (ve d,c)
abbrev lim(i:Int):Bool:=decide (-(2 ^ 62)<=i) && decide (i < 2 ^ 62)
abbrev xR1(x:XE):XI:=λb S=>bnd (x b S) λd c=>match d with
 |.int j=>if lim j=aN then aw (nxR 0 j.toNat,c) else aD
 |_=>aD
abbrev xR2(x y:XE):XI:=λb S=>bnd (x b S) λd f=>bnd (y b f) λe c=>match d,e with
 |.int i,.int j=>if lim i=aN/\lim j=aN then aw (nxR i (j - i).toNat,c) else aD
 |_,_=>aD
def fV{i:Int}(h:lim i=aN):-(2 ^ 62)<=i/\i < 2 ^ 62:=by simpa[lim] using h
def kY{n:Nat}(b:m0[n]?=aw a)(x:m0 <+: m)(R:Rel K m S H)(hs:au S n=aw d):∃vs,SqL K H a vs/\VDs K m H d vs:=by
 obtain⟨p,vs,h,c,vd⟩:=R.seq hs;have:=kP x b;rw[this] at h;cases h;exact⟨vs,c,vd⟩
def Od(b:AtB B m H)(h:H a=aD):a ∉ B:=λz=>by
 obtain⟨⟨v,e⟩,_⟩:=b a z;rw[h] at e;cases e
def QL(h:tIt K B (xIV x) I H R):zP K (tE K x) I H R\/NB K (tE K x) I H R:=by
 obtain⟨m,Q,S,nx,S',E,L,Y,e,q⟩:=h;obtain⟨d,S1,O,e⟩:=ae e;cases d with
 |tup ds=>
  cases e;refine .inr ⟨m,Q,S,_,_,E,L,O,λm1 k v b vd=>?_⟩;obtain⟨a,z,rfl,j,c⟩:=vd.tups;exact⟨a,rfl,⟨z,.of j⟩,q m1 k _ b (Es b.rel (Y.ext b.ext) j c)⟩
 |ref n=>
  dsimp only at e;split at e
  ·rename_i hs;cases e;refine .inl ⟨m,Q,S,_,_,E,L,O,λm1 k v b vd=>?_⟩;obtain⟨a,J,rfl⟩:=vd.refs;obtain⟨ds,p⟩:=Z9.mp hs;obtain⟨z,j,c⟩:=kY J (Ym _) b.rel p;refine⟨a,rfl,⟨z,j⟩,q m1 k _ b (sF λm2 Z H2 i o x2 R2 f=>?_)⟩;unfold nxS at f;cases y:au Z n with
   |none=>rw[y] at f;cases f
   |some T=>
    rw[y] at f;cases f;obtain⟨U,C,u⟩:=kY J x2.pre R2 y;exact⟨T,U,rfl,C,u⟩
  ·cases e
 |_=>cases e
def QM(h:tIt K B (xIT x) k H R):zP K (eP K x) k H R:=by
 obtain⟨m,z,S,nx,U,E,u,d,e,q⟩:=h;obtain⟨I,O,y,e⟩:=ae e;cases e;refine⟨m,z,S,_,_,E,u,y,λm1 j a v b c p Q n vd=>⟨a,rfl,⟨v,.of c⟩,q m1 j _ b (sF λL T J i o f R2 C=>?_)⟩⟩;cases C;exact⟨I,v,rfl,.of (f.keep _ _ c p (Od d n)),vd.monoB b.rel (d.ext b.ext) f⟩
def Oe(h:tIt K B (xEV x) J H R):Jm K (ce (tE K x) jy) J H R\/NZ K (ce (tE K x) jy) J H R:=by
 obtain⟨m,Y,S,nx,S',E,T,O,e,q⟩:=h;obtain⟨d,S1,U,e⟩:=ae e;cases d with
 |tup Z=>
  cases e;refine .inr ⟨m,Y,S,_,_,E,T,U,λm1 u v b vd=>?_⟩;obtain⟨a,k,rfl,j,f⟩:=vd.tups;refine⟨a,k,rfl,.of j,q m1 u _ b (qx λm2 Q H2 i o p R2 c=>⟨Z,k,c,.of (Er b.rel (O.ext b.ext) p j),f.monoB b.rel (O.ext b.ext) p⟩)⟩
 |ref n=>
  dsimp only at e;split at e
  ·rename_i hs;cases e;refine .inl ⟨m,Y,S,_,_,E,T,U,λm1 u v b vd=>?_⟩;obtain⟨a,L,rfl⟩:=vd.refs;obtain⟨Z,y⟩:=Z9.mp hs;obtain⟨k,j,f⟩:=kY L (Ym _) b.rel y;refine⟨a,k,rfl,j,q m1 u _ b (qx λm2 Q H2 i o p R2 c=>?_)⟩;unfold AW at c;cases C:au Q n with
   |none=>rw[C] at c;cases c
   |some es=>
    rw[C] at c;obtain⟨ws,I,z⟩:=kY L p.pre R2 C;exact⟨es,ws,c,I,z⟩
  ·cases e
 |_=>cases e
def Og(h:tIt K B (xET x) k H R):Jm K (ce (eP K x) jy) k H R:=by
 obtain⟨m,z,S,nx,U,E,u,d,e,q⟩:=h;obtain⟨I,O,y,e⟩:=ae e;cases e;exact⟨m,z,S,_,_,E,u,y,λm1 j a v b c p Q n vd=>⟨a,v,rfl,.of c,q m1 j _ b (qx λL T J i o f R2 C=>⟨I,v,C,.of (f.keep _ _ c p (Od d n)),vd.monoB b.rel (d.ext b.ext) f⟩)⟩⟩
def Oh(h:tIt K B (xR1 x) y H R):Ho (ce (tE K x) jy) y H R:=by
 obtain⟨m,f,S,nx,C,E,n,z,e,q⟩:=h;obtain⟨d,u,c,e⟩:=ae e;refine⟨m,f,S,d,u,E,n,c,λm1 p v k vd=>?_⟩;cases d with
 |int j=>
  dsimp only at e;split at e
  ·rename_i b;cases e;exact⟨j,by rw[vd.ints],(fV b).1,(fV b).2,q m1 p _ k wN⟩
  ·cases e
 |_=>cases e
def Oi(h:tIt K B (xR2 x y) I H R):Hq (ce (tE K x) (ce (tE K y) jy)) I H R:=by
 obtain⟨m,p,S,nx,Y,E,n,U,e,q⟩:=h;obtain⟨d,k,O,e⟩:=ae e;obtain⟨c,L,Q,e⟩:=ae e;refine⟨m,p,S,d,k,E,n,O,λm1 T v f vd=>⟨m1,p,k,c,L,E.mono n f.ext,f.rel,Q,λz u w J C=>?_⟩⟩;cases d with
 |int i=>
  cases c with
  |int j=>
   dsimp only at e;split at e
   ·rename_i b;cases e;exact⟨i,j,by rw[vd.ints,C.ints],⟨(fV b.1).1,(fV b.1).2,(fV b.2).1,(fV b.2).2⟩,q z u _ (f.trans J) wN⟩
   ·cases e
  |_=>cases e
 |_=>cases e
inductive Tg where
 |name (i:Nat) |tup (ts:List Tg)
mutual
noncomputable def ax:Tg->D->Rho->Option Rho
 |.name i,d,ρ=>if i < ρ.length then aw (ρ.set i (aw d)) else aD
 |.tup ts,.tup ds,ρ=>aM ts ds ρ
 |_,_,_=>aD
noncomputable def aM:List Tg->List D->Rho->Option Rho
 |[],[],ρ=>aw ρ
 |t::ts,d::ds,ρ=>match ax t d ρ with
  |some b=>aM ts ds b
  |none=>aD
 |_,_,_=>aD
end
abbrev tTg(K:Vk)(t:Tg):TG:=λx h H Q=>∃m S f d b,Rel K m S H/\EnvR K m H f h/\VD K m H d x/\ax t d f=aw b/\∀c,EnvR K m H b c->Q c H
abbrev AX(K:Vk)(T:List Tg):TGs:=λh j H Q=>∃m S d f b,Rel K m S H/\EnvR K m H d j/\VDs K m H f h/\aM T f d=aw b/\∀c,EnvR K m H b c->Q c H
def EnvR.set{i:Nat}(E:EnvR K m H c n)(h:VD K m H d v):EnvR K m H (c.set i (aw d)) (n.set i (aw v)):=by
 refine⟨by simp[E.len],λj f e=>?_⟩;rw[Yw] at e;rw[Yw,<-E.len];by_cases b:i=j
 ·rw[if_pos b] at e ⊢;split at e
  ·rename_i k;rw[if_pos k];cases e;exact⟨v,rfl,h⟩
  ·cases e
 ·rw[if_neg b] at e ⊢;exact E.at_ j f e
def qy{i:Nat}(h:tTg K (.name i) x c H Q):rE i x c H Q:=by
 obtain⟨m,S,f,d,b,R,E,vd,e,q⟩:=h;simp only[ax] at e;split at e
 ·cases e;exact q _ (E.set vd)
 ·cases e
def JO{n:Nat}(j:n=T.length)(h:tTg K (.tup T) x u H Q):Ny K n (AX K T) x u H Q:=by
 obtain⟨m,S,f,d,b,R,E,vd,e,q⟩:=h;cases d with
 |tup c=>
  simp only[ax] at e;obtain⟨a,p,rfl,k,v⟩:=vd.tups;refine⟨a,p,rfl,.of k,?_,m,S,f,c,b,R,E,v,e,q⟩
  have len:∀ (T:List Tg) (c:List D) (f b:Rho),aM T c f=aw b->T.length=c.length:=by
   intro T
   induction T with
   |nil=>intro c f b e;cases c with |nil=>rfl |cons _ _=>simp[aM] at e
   |cons t T I=>
    intro c f b e;cases c with
    |nil=>simp[aM] at e
    |cons d c=>
     simp only[aM] at e;split at e
     ·simp[I _ _ _ e]
     ·cases e
  rw[j,<-v.length];exact(len _ _ _ _ e).symm
 |_=>simp[ax] at e
def Et(h:AX K [] c f H Q):Nx c f H Q:=by
 obtain⟨m,S,j,d,b,R,E,vd,e,q⟩:=h;cases d with
 |nil=>simp[aM] at e;subst e;rw[VDs] at vd;exact⟨vd,q _ E⟩
 |cons _ _=>simp[aM] at e
def AY(h:AX K (t::T) k v H Q):Hn (tTg K t) (AX K T) k v H Q:=by
 obtain⟨m,S,j,f,c,R,E,vd,e,q⟩:=h;cases f with
 |nil=>simp[aM] at e
 |cons d f=>
  simp only[aM] at e;rw[VDs] at vd;obtain⟨y,r,rfl,p,n⟩:=vd;cases hb:ax t d j with
  |none=>rw[hb] at e;cases e
  |some b=>
   rw[hb] at e;exact⟨y,r,rfl,m,S,j,d,b,R,E,p,hb,λu z=>⟨m,S,b,f,c,R,z,n,e,q⟩⟩
def PG.imp(h:PG X e t)(f:∀x b H Q,t' x b H Q->t x b H Q):PG X e t':=λp s b H v u Q I r q=>h p s b H v u Q I r (f v b H Q q)
def PGs.imp(h:PGs X E t)(f:∀x b H Q,t' x b H Q->t x b H Q):PGs X E t':=λp s b H v u Q I r q=>h p s b H v u Q I r (f v b H Q q)
end
inductive Fl where
 |nx |bk |ct |rt (d:D)
@[inline]abbrev XS:=Rho->Sto->Option (Fl × Rho × Sto)
abbrev AZ(K:Vk)(m:List Addr)(H:Hp)(f:Fl)(c:Rho)(D:Ends):Prop:=match f with
 |.nx=>∀b,EnvR K m H c b->D.nx b H
 |.bk=>∀b,EnvR K m H c b->D.bk b H
 |.ct=>∀b,EnvR K m H c b->D.ct b H
 |.rt d=>∀v,VD K m H d v->D.rt v H
abbrev tSt(K:Vk)(x:XS):TS:=λD k H=>∃m d S f b c,EnvR K m H d k/\Rel K m S H/\x d S=aw (f,b,c)/\∀j h,Aft K m H c j h->AZ K j h f b D
section
variable {X:Cx} {K:Vk} {m:List Addr} {H:Hp} {S:Sto}
abbrev A0(x y:XS):XS:=λb S=>match x b S with
 |none=>aD
 |some (.nx,ρ1,S1)=>y ρ1 S1
 |some r=>aw r
abbrev HA:XS:=λb S=>aw (.nx,b,S)
def Eu{D:Ends}{b:L2.St}{H:Hp}(h:tSt K HA D b H):Hk D b H:=by
 obtain⟨m,f,S,j,c,d,E,R,e,q⟩:=h;cases e;exact q m H (Aft.refl R) b E
def JP{x y:XS}{D:Ends}{p:L2.St}{H:Hp}(h:tSt K (A0 x y) D p H):Nt (tSt K x) (tSt K y) D p H:=by
 obtain⟨m,v,S,C,k,O,E,R,e,q⟩:=h;unfold A0 at e;cases f:x v S with
 |none=>rw[f] at e;cases e
 |some r=>
  obtain⟨u,c,n⟩:=r;rw[f] at e;refine⟨m,v,S,u,c,n,E,R,f,λm1 j b=>?_⟩;cases u with
  |nx=>exactλI L=>⟨m1,c,n,C,k,O,L,b.rel,e,λB z J=>q B z (b.trans J)⟩
  |bk=>cases e;exact q m1 j b
  |ct=>cases e;exact q m1 j b
  |rt d=>cases e;exact q m1 j b
abbrev sG(x:XE):XS:=λb S=>match x b S with
 |none=>aD
 |some (_,S1)=>aw (.nx,b,S1)
abbrev A6(x:XE):XS:=λb S=>match x b S with
 |none=>aD
 |some (d,S1)=>aw (.rt d,b,S1)
abbrev Oj:XS:=λb S=>aw (.ct,b,S)
def Ew{x:XE}{D:Ends}{c:L2.St}{H:Hp}(h:tSt K (sG x) D c H):Hm (tE K x) D c H:=by
 obtain⟨m,f,S,u,k,p,E,R,e,q⟩:=h;unfold sG at e;cases b:x f S with
 |none=>rw[b] at e;cases e
 |some r=>
  obtain⟨d,y⟩:=r;rw[b] at e;cases e;exact⟨m,f,S,d,_,E,R,b,λm1 n v j _=>q m1 n j c (E.mono R j.ext)⟩
def JQ{x:XE}{D:Ends}{f:L2.St}{H:Hp}(h:tSt K (A6 x) D f H):Nu (tE K x) D f H:=by
 obtain⟨m,c,S,u,j,p,E,R,e,q⟩:=h;unfold A6 at e;cases b:x c S with
 |none=>rw[b] at e;cases e
 |some r=>
  obtain⟨d,y⟩:=r;rw[b] at e;cases e;exact⟨m,c,S,d,_,E,R,b,λm1 n v k vd=>q m1 n k v vd⟩
def JR{D:Ends}{b:L2.St}{H:Hp}(h:tSt K Oj D b H):Hl D b H:=by
 obtain⟨m,f,S,j,c,d,E,R,e,q⟩:=h;cases e;exact q m H (Aft.refl R) b E
abbrev xIf(c:XT)(x y:XS):XS:=λd S=>match c d S with
 |none=>aD
 |some (b,S1)=>if b=aN then x d S1 else y d S1
def Ol{c:XT}{x y:XS}{D:Ends}{B:L2.St}{H:Hp}(h:tSt K (xIf c x y) D B H):Nv (tT K c) (tSt K x) (tSt K y) D B H:=by
 obtain⟨m,j,S,C,f,z,E,R,e,q⟩:=h;unfold xIf at e;cases p:c j S with
 |none=>rw[p] at e;cases e
 |some r=>
  obtain⟨b,u⟩:=r;rw[p] at e;dsimp only at e;refine⟨m,j,S,b,u,E,R,p,λm1 I d=>?_⟩;dsimp only;split
  ·rename_i hb;rw[if_pos hb] at e;exact⟨m1,j,u,C,f,z,E.mono R d.ext,d.rel,e,λn k v=>q n k (d.trans v)⟩
  ·rename_i hb;rw[if_neg hb] at e;exact⟨m1,j,u,C,f,z,E.mono R d.ext,d.rel,e,λn k v=>q n k (d.trans v)⟩
abbrev mz(x:XE)(t:Tg):XS:=λc S=>match x c S with
 |none=>aD
 |some (d,S1)=>(ax t d c).map λb=>(.nx,b,S1)
def vf{x:XE}{t:Tg}{D:Ends}{k:L2.St}{H:Hp}(h:tSt K (mz x t) D k H):zN (tE K x) (tTg K t) D k H:=by
 obtain⟨m,b,S,B,n,z,E,R,e,q⟩:=h;unfold mz at e;cases c:x b S with
 |none=>rw[c] at e;cases e
 |some r=>
  obtain⟨d,C⟩:=r;rw[c] at e;dsimp only at e;cases hb:ax t d b with
  |none=>rw[hb] at e;cases e
  |some u=>
   rw[hb] at e;cases e;exact⟨m,b,S,d,_,E,R,c,λm1 p v f vd=>⟨m1,_,b,d,_,f.rel,E.mono R f.ext,vd,hb,λj y=>q m1 p f j y⟩⟩
abbrev sH(v o i:XE):XS:=λb S=>match v b S with
 |none=>aD
 |some (dv,S1)=>match o b S1 with
  |none=>aD
  |some (d_o,S2)=>match i b S2 with
   |none=>aD
   |some (di,S3)=>(jI d_o di dv S3).map λc=>(.nx,b,c)
def Ex{v o i:XE}{D:Ends}{k:L2.St}{H:Hp}(h:tSt K (sH v o i) D k H):zN (tE K v) (Nz (tE K o) (tE K i) (Oa K)) D k H:=by
 obtain⟨m,d,S,fl,Y,S',E,R,e,q⟩:=h;unfold sH at e;cases C:v d S with
 |none=>rw[C] at e;cases e
 |some r1=>
  obtain⟨O,j⟩:=r1;rw[C] at e;dsimp only at e;cases z:o d j with
  |none=>rw[z] at e;cases e
  |some r2=>
   obtain⟨n,B⟩:=r2;rw[z] at e;dsimp only at e;cases J:i d B with
   |none=>rw[J] at e;cases e
   |some Z=>
    obtain⟨L,u⟩:=Z;rw[J] at e;dsimp only at e;cases h4:jI n L O u with
    |none=>rw[h4] at e;cases e
    |some S4=>
     rw[h4] at e;cases e;refine⟨m,d,S,O,j,E,R,C,λm1 H1 v1 b p=>⟨m1,d,j,n,B,E.mono R b.ext,b.rel,z,λT H2 v2 c y=>⟨T,d,B,L,u,E.mono R (b.trans c).ext,c.rel,J,λm3 H3 v3 f I=>?_⟩⟩⟩;exact⟨m3,u,n,L,O,_,f.rel,y.mono c.rel f.ext,I,p.mono b.rel (c.trans f).ext,h4,λm4 U Q=>q m4 U (((b.trans c).trans f).trans Q) k (E.mono R (((b.trans c).trans f).trans Q).ext)⟩
abbrev eV(nx:Nxt)(T:Tg)(b:XS):Nat->Nat->XS
 |0,_=>λ_ _=>aD
 |k+1,i=>λf S=>match nx i S with
  |none=>aD
  |some aD=>aw (.nx,f,S)
  |some (aw d)=>match ax T d f with
   |none=>aD
   |some c=>match b c S with
    |none=>aD
    |some (.nx,ρ2,S2)=>eV nx T b k (i+1) ρ2 S2
    |some (.ct,ρ2,S2)=>eV nx T b k (i+1) ρ2 S2
    |some (.bk,ρ2,S2)=>aw (.nx,ρ2,S2)
    |some (.rt d,ρ2,S2)=>aw (.rt d,ρ2,S2)
abbrev A7(I:XI)(T:Tg)(b:XS)(k:Nat):XS:=λc S=>match I c S with
 |none=>aD
 |some (nx,S1)=>eV nx T b k 0 c S1
abbrev lpW(K:Vk)(nx:Nxt)(T:Tg)(b:XS)(m1:List Addr)(p:Hp)(D:Ends)(i k:Nat)(q:L2.St)(H:Hp):Prop:=∃m f S h c d,EnvR K m H f q/\Rel K m S H/\Ext m1 p m H/\eV nx T b k i f S=aw (h,c,d)/\∀n j,Aft K m H d n j->AZ K n j h c D
def Ey{nx:Nxt}{T:Tg}{b:XS}{J:It}{m1:List Addr}{Y:Hp}{D:Ends}(hI:IOk K [] J nx m1 Y)(k:Nat){m:List Addr}{L:Rho}{S:Sto}{j:L2.St}{H:Hp}{C:Fl}{c:Rho}{I:Sto}(E:EnvR K m H L j)(R:Rel K m S H)(x:Ext m1 Y m H)(e:eV nx T b k 0 L S=aw (C,c,I))(q:∀O h,Aft K m H I O h->AZ K O h C c D) :
  ∃W:Nat->Nat->L2.St->Hp->Prop,(∃m,W 0 m j H)/\∀i m j H,W i m j H ->
   (J.stop i H/\D.nx j H)\/(J.go i H/\∃N:L2.St->Hp->Prop,(∀B h,N B h->∃O,O < m/\W (i+1) O B h)/\∀x h,J.yld i H x h->tTg K T x j h λU H2=>tSt K b { D with nx:=N,ct:=N,bk:=D.nx } U H2):=by
 refine⟨lpW K nx T b m1 Y D,⟨k,m,L,S,C,c,I,E,R,x,e,q⟩,?_⟩;intro i k j H z;obtain⟨m,L,S,C,c,I,E,R,x,e,q⟩:=z;cases k with
 |zero=>simp[eV] at e
 |succ k=>
  simp only[eV] at e;cases Z:nx i S with
  |none=>rw[Z] at e;cases e
  |some o=>
   rw[Z] at e;obtain⟨h1,h2⟩:=hI m S H i (x.toB λb hb=>absurd hb (by simp)) R;cases o with
   |none=>cases e;exact .inl ⟨h1 Z,q m H (Aft.refl R) j E⟩
   |some d=>
    obtain⟨go,hy⟩:=h2 d Z;dsimp only at e;cases hb:ax T d L with
    |none=>rw[hb] at e;cases e
    |some p=>
     rw[hb] at e;dsimp only at e;cases hx:b p S with
     |none=>rw[hx] at e;cases e
     |some r=>
      obtain⟨f2,u,S2⟩:=r;rw[hx] at e;refine .inr ⟨go,lpW K nx T b m1 Y D (i+1) k,λB h z=>⟨k,Y9 k,z⟩,λy h yl=>?_⟩;obtain⟨A,vd⟩:=hy y h yl;refine⟨m,S,L,d,p,A.rel,E.mono R A.ext,vd,hb,λU E2=>⟨m,p,S,f2,u,S2,E2,A.rel,hx,λm3 H3 f=>?_⟩⟩;cases f2 with
      |nx=>exactλn Q=>⟨m3,u,S2,C,c,I,Q,f.rel,(x.trans A.ext).trans f.ext,e,λm4 H4 A4=>q m4 H4 ((A.trans f).trans A4)⟩
      |ct=>exactλn Q=>⟨m3,u,S2,C,c,I,Q,f.rel,(x.trans A.ext).trans f.ext,e,λm4 H4 A4=>q m4 H4 ((A.trans f).trans A4)⟩
      |bk=>cases e;exactλn Q=>q m3 H3 (A.trans f) n Q
      |rt d=>cases e;exactλv vd=>q m3 H3 (A.trans f) v vd
def JS{I:XI}{T:Tg}{b:XS}{k:Nat}{D:Ends}{d:L2.St}{H:Hp}(h:tSt K (A7 I T b k) D d H):NC (tIt K [] I) (tTg K T) (tSt K b) D d H:=by
 obtain⟨m,f,S,B,v,C,E,R,e,q⟩:=h;unfold A7 at e;cases hi:I f S with
 |none=>rw[hi] at e;cases e
 |some r=>
  obtain⟨nx,u⟩:=r;rw[hi] at e;exact⟨m,f,S,nx,u,E,R,λb hb=>absurd hb (by simp),hi,λm1 z J c p=>Ey p k (E.mono R c.ext) c.rel (Ext.refl _ _) e λn j y=>q n j (c.trans y)⟩
end
mutual
noncomputable def dh:Tg->Rho->Bool
 |.name i,ρ=>match ρ[i]? with
  |some aD=>aN
  |_=>aS
 |.tup ts,ρ=>fW ts ρ
noncomputable def fW:List Tg->Rho->Bool
 |[],_=>aN
 |t::ts,ρ=>dh t ρ && fW ts ρ
end
structure LeR(ρ ρ':Rho):Prop where
 len:ρ.length=ρ'.length
 at_:∀ (i:Nat) (d:D),ρ[i]?=aw (aw d)->ρ'[i]?=aw (aw d)
def LeR.refl(ρ:Rho):LeR ρ ρ:=⟨rfl,λ_ _ h=>h⟩
mutual
theorem sI:∀ {t:Tg} {d:D} {k b:Rho},LeR c k->dh t c=aN->ax t d k=aw b->LeR c b
 |.name i,d,k,b,l,f,e=>by
  simp only[ax] at e;split at e
  ·cases e;refine⟨by simp[l.len],λj p h=>?_⟩;rw[Yw];by_cases n:i=j
   ·subst n;simp only[dh] at f;rw[h] at f;cases f
   ·rw[if_neg n];exact l.at_ j p h
  ·cases e
 |.tup ts,.tup ds,k,b,l,f,e=>by
  simp only[ax] at e;simp only[dh] at f;exact oT l f e
 |.tup ts,.non,_,_,_,_,e=>by simp[ax] at e
 |.tup ts,.bl _,_,_,_,_,e=>by simp[ax] at e
 |.tup ts,.int _,_,_,_,_,e=>by simp[ax] at e
 |.tup ts,.str _,_,_,_,_,e=>by simp[ax] at e
 |.tup ts,.ref _,_,_,_,_,e=>by simp[ax] at e
theorem oT:∀ {T:List Tg} {j:List D} {c b:Rho},LeR h c->fW T h=aN->aM T j c=aw b->LeR h b
 |[],[],c,b,l,_,e=>by simp only[aM] at e;cases e;exact l
 |[],_::_,_,_,_,_,e=>by simp[aM] at e
 |_::_,[],_,_,_,_,e=>by simp[aM] at e
 |t::T,d::j,c,b,l,f,e=>by
  simp only[aM] at e;simp only[fW,bAE] at f;cases hb:ax t d c with
  |none=>rw[hb] at e;cases e
  |some k=>rw[hb] at e;exact oT (sI l f.1 hb) f.2 e
end
section
variable {X:Cx} {K:Vk} {m:List Addr} {H:Hp} {S:Sto}
def EnvR.weaken(E:EnvR K m H b σ)(l:LeR c b):EnvR K m H c σ:=⟨l.len.trans E.len,λi d h=>E.at_ i d (l.at_ i d h)⟩
abbrev bu(nx:Nxt)(T:Tg)(c:XA)(f:Rho):Nat->Nat->Sto->Option (List D × Sto)
 |0,_,_=>aD
 |k+1,i,S=>match nx i S with
  |none=>aD
  |some aD=>aw ([],S)
  |some (aw d)=>match ax T d f with
   |none=>aD
   |some b=>bnd (c b S) λE n=>bnd (bu nx T c f k (i+1) n) λh j=>aw (E++h,j)
abbrev A8(t:XT)(c:XA):XA:=λf S=>bnd (t f S) λb d=>if b=aN then c f d else aw ([],d)
abbrev HB(x:XE):XA:=λb S=>bnd (x b S) λd c=>aw ([d],c)
abbrev jJ(I:XI)(T:Tg)(c:XA)(k:Nat):XA:=λb S=>if dh T b=aN then bnd (I b S) λnx d=>bu nx T c b k 0 d else aD
abbrev mB(own:Nat)(I:XI)(T:Tg)(c:XA)(k:Nat):XA:=λb S=>bnd (I b S) λnx f=>if dh T (b++Zx own aD)=aN then
 (bnd (bu nx T c (b++Zx own aD) k 0 f) λE d=>if E.length<=100000 then aw (E,d) else aD) else aD
abbrev tCl(K:Vk)(b:Addr)(c:XA):TS:=λD p H=>∃m j S E k z n,EnvR K m H j p/\Rel K m S H/\b ∉ m/\H b=aw (.lst n)/\VDs K m H z n/\z.length+E.length<=100000/\c j S=aw (E,k) ∧
 ∀f h d v,ExtB [b] m H f h->Rel K f k h->h b=aw (.lst v)->VDs K f h (z++E) v->EnvR K f h j d->D.nx d h
def A9(h:H c=aw (.lst v))(n:c ∉ m):AtB [c] m H:=λb hb=>by simp at hb;subst hb;exact⟨⟨v,h⟩,n⟩
def ExtB.refl(n:c ∉ m):ExtB [c] m H m H:=⟨Ym m,λ_ _ h _ _=>h,λ_ h n=>absurd h n,λb hb=>by simp at hb;subst hb;exact n⟩
def ExtB.put(n:c ∉ m)(o:HO):ExtB [c] m H m (upd H c o):=⟨Ym m,λa u h _ nb=>by
 rw[aB (λz=>nb (by simp[z]))];exact h,λ_ h n=>absurd h n,λb hb=>by simp at hb;subst hb;exact n⟩
def Rel.extB(R:Rel K m S H)(h:AtB [d] m H)(x:ExtB [d] m H m H')(k:∀b ∈ m,H' b=H b):Rel K m S H':=by
 refine⟨R.len,R.nd,λi o e=>?_⟩;obtain⟨b,hb,r⟩:=R.ob i o e;have c:b ∈ m:=Zc hb;refine⟨b,hb,?_⟩;cases o with
 |lst f=>obtain⟨v,p,q⟩:=r;exact⟨v,(k b c).trans p,VDs.monoB R h x q⟩
 |frz f=>obtain⟨o,v,p,q⟩:=r;exact⟨o,v,(k b c).trans p,VDs.monoB R h x q⟩
 |dic j f=>obtain⟨v,p,l,q⟩:=r;exact⟨v,(k b c).trans p,l,VDs.monoB R h x q⟩
def Ez{c:Addr}{x:XE}{D:Ends}{y:L2.St}{H:Hp}(h:tCl K c (HB x) D y H):Hu c (tE K x) D y H:=by
 obtain⟨m,T,S,Y,S',Z,u,E,R,I,J,C,O,e,q⟩:=h;obtain⟨d,U,Q,e⟩:=ae e;cases e;refine⟨m,T,S,d,_,E,R,Q,λm1 B v j vd=>?_⟩;have L:=A9 J I;have k:B c=aw (.lst u):=j.ext.keep _ _ J I;have xB:=j.ext.toB L;have n:c ∉ m1:=xB.nb c (by simp);have p:=ExtB.put (H:=B) n (.lst (u++[v]));have f:=A9 k n;have lz:=C.length;simp only[Zr] at O;refine⟨u,k,by rw[Uh];lia,q m1 _ y (u++[v]) (xB.trans p) (j.rel.extB f p λb hb=>aB λz=>n (z ▸ hb)) bf ?_ ((E.mono R j.ext).monoB j.rel f p)⟩;exact VDs.append ((C.mono R j.ext).monoB j.rel f p) (.cons (vd.monoB j.rel f p) .nil)
def EA{d:Addr}{t:XT}{c:XA}{D:Ends}{k:L2.St}{H:Hp}(h:tCl K d (A8 t c) D k H):fB (tT K t) (tCl K d c) D k H:=by
 obtain⟨m,J,S,T,S',Z,p,E,R,C,I,z,hl,e,q⟩:=h;obtain⟨b,B,e1,e⟩:=ae e;refine⟨m,J,S,b,B,E,R,e1,λm1 y f=>?_⟩;have Y:=A9 I C;have j:y d=aw (.lst p):=f.ext.keep _ _ I C;have xB:=f.ext.toB Y;have n:d ∉ m1:=xB.nb d (by simp);dsimp only;split
 ·rename_i hb;rw[if_pos hb] at e;exact⟨m1,J,B,T,S',Z,p,E.mono R f.ext,f.rel,n,j,z.mono R f.ext,hl,e,λQ O u v x2 R2 U v2 L=>q Q O u v (xB.trans x2) R2 U v2 L⟩
 ·rename_i hb;rw[if_neg hb] at e;cases e;refine q m1 y k p xB f.rel j ?_ (E.mono R f.ext);rw[ZN];exact z.mono R f.ext
def sJ{t:TS}{D:Ends}{b:L2.St}{H:Hp}(h:t D b H):fB DX t D b H:=by
 show if aN=aN then t D b H else D.nx b H
 rw[if_pos rfl];exact h
def JT{b:Addr}{c:XA}{D:Ends}{d:L2.St}{H:Hp}(h:tCl K b c D d H):fB DX (tCl K b c) D d H:=by
 exact sJ h
abbrev clW(K:Vk)(b:Addr)(nx:Nxt)(T:Tg)(c:XA)(j:Rho)(m1:List Addr)(q:Hp)(u:Ends)(i k:Nat)(y:L2.St)(H:Hp):Prop:=∃m S n E z p,EnvR K m H j y/\Rel K m S H/\ExtB [b] m1 q m H/\H b=aw (.lst p)/\VDs K m H z p/\z.length+E.length<=100000/\bu nx T c j k i S=aw (E,n)/\∀f h d v,ExtB [b] m H f h->Rel K f n h->h b=aw (.lst v)->VDs K f h (z++E) v->EnvR K f h j d->u.nx d h
def wP(hI:IOk K [b] J nx m1 U)(hts:∀D n H,tCl K b c D n H->ts D n H)(k:Nat)
  (fr:dh T f=aN) (E:EnvR K m H f n) (R:Rel K m S H) (x:ExtB [b] m1 U m H) (p:H b=aw (.lst vs)) (B:VDs K m H zs vs) (hl:zs.length+L.length<=100000) (e:bu nx T c f k 0 S=aw (L,S'))
  (q:∀C h j v,ExtB [b] m H C h->Rel K C S' h->h b=aw (.lst v)->VDs K C h (zs++L) v->EnvR K C h f j->Z.nx j h):rL J (tTg K T) ts Z n H:=by
 refine⟨clW K b nx T c f m1 U Z,⟨k,m,S,S',L,zs,vs,E,R,x,p,B,hl,e,q⟩,?_⟩;intro i k n H z;obtain⟨m,S,S',L,zs,vs,E,R,x,p,B,hl,e,q⟩:=z;have O:b ∉ m:=x.nb b (by simp);have hB:=A9 p O;cases k with
 |zero=>simp[bu] at e
 |succ k=>
  simp only[bu] at e;cases I:nx i S with
  |none=>rw[I] at e;cases e
  |some o=>
   rw[I] at e;obtain⟨h1,h2⟩:=hI m S H i x R;cases o with
   |none=>
    cases e;exact .inl ⟨h1 I,q m H n vs (ExtB.refl O) R p (by rw[ZN];exact B) E⟩
   |some d=>
    obtain⟨go,hy⟩:=h2 d I;dsimp only at e;cases hb:ax T d f with
    |none=>rw[hb] at e;cases e
    |some u=>
     rw[hb] at e;dsimp only at e;obtain⟨e1,S1,c1,e⟩:=ae e;obtain⟨rs,S2,c2,e⟩:=ae e;cases e;rw[Zh] at hl;refine .inr ⟨go,clW K b nx T c f m1 U Z (i+1) k,λj h z=>⟨k,Y9 k,z⟩,λy h yl=>?_⟩;obtain⟨A,vd⟩:=hy y h yl;have xA:=A.ext.toB hB;have ha':h b=aw (.lst vs):=A.ext.keep _ _ p O;refine⟨m,S,f,d,u,A.rel,E.mono R A.ext,vd,hb,λσ2 E2=>hts _ _ _ ⟨m,u,S,e1,S1,zs,vs,E2,A.rel,O,ha',B.mono R A.ext,by lia,c1,λm3 H3 σ3 Y x3 R3 h3 v3 E3=>?_⟩⟩;refine⟨m3,S1,_,rs,zs++e1,Y,E3.weaken (sI (LeR.refl f) fr hb),R3,(x.trans xA).trans x3,h3,v3,by rw[Zh];lia,c2,λm4 H4 σ4 Q x4 R4 h4 v4 E4=>?_⟩;refine q m4 H4 σ4 Q ((xA.trans x3).trans x4) R4 h4 ?_ E4;rw[<-Z2];exact v4
def Ba{b:Addr}{I:XI}{T:Tg}{t:TT}{c C:XA}{k:Nat}{D:Ends}{d:L2.St}{H:Hp}(j:∀D d H,tCl K b c D d H->fB t (tCl K b C) D d H)(h:tCl K b (jJ I T c k) D d H):Ae (tIt K [b] I) (tTg K T) t (tCl K b C) D d H:=by
 obtain⟨m,ρ,S,es,S',zs,vs,E,R,u,y,U,hl,e,q⟩:=h;unfold jJ at e;split at e
 ·rename_i fr;obtain⟨nx,Y,e1,e⟩:=ae e;have z:=A9 y u;refine⟨m,ρ,S,nx,Y,E,R,z,e1,λm1 H1 J f Q=>?_⟩;have xB:=f.ext.toB z;have n:b ∉ m1:=xB.nb b (by simp);exact wP Q j k fr (E.mono R f.ext) f.rel (ExtB.refl n) (f.ext.keep _ _ y u) (U.mono R f.ext) hl e λO L p v x2 R2 Z v2 B=>q O L p v (xB.trans x2) R2 Z v2 B
 ·cases e
def EnvR.more(E:EnvR K m H b c)(n:Nat):EnvR K m H (b++Zx n aD) (c++Zx n aD):=by
 refine⟨by simp[E.len],λi d e=>?_⟩;by_cases hi:i < b.length
 ·rw[Zq hi] at e;rw[Zq (by rw[<-E.len];exact hi)];exact E.at_ i d e
 ·rw[Zm (by lia),YA] at e;split at e <;> cases e
def wQ{own:Nat}{k:Nat}(I:∀acc D v H,tCl K acc c D v H->fB t (tCl K acc U) D v H)(h:eP K (mB own it tg c k) v H Q):Af own (tIt K [] it) (tTg K tg) (λacc=>fB t (tCl K acc U)) v H Q:=by
 obtain⟨m,ρ,S,es,S',E,R,e,q⟩:=h;obtain⟨nx,S1,e1,e⟩:=ae e;split at e
 ·rename_i fr;obtain⟨es',O,e2,e⟩:=ae e;split at e
  ·rename_i hl;cases e;refine⟨m,ρ,S,nx,S1,E,R,λb hb=>absurd hb (by simp),e1,λm1 L J f Z acc d=>?_⟩;have x0:=Ext.beside f.rel d (.lst []);have R0:=f.rel.beside d (.lst []);have C:=f.rel.no d
   have B:IOk K [acc] J nx m1 (upd L acc (.lst [])):=by
    intro u O H2 i j R2;refine Z u O H2 i ⟨j.pre,λa o h n _=>?_,λa h n=>?_,λb hb=>absurd hb (by simp)⟩ R2
    ·have ne:a ≠ acc:=aV h d;exact j.keep a o (by rw[aB ne];exact h) n (by simp[ne])
    ·have:=j.new a h n;by_cases p:a=acc
     ·subst p;exact d
     ·rw[aB p] at this;exact this
   refine wP (zs:=[]) (vs:=[]) B (I acc) k fr ((E.mono R f.ext |>.mono f.rel x0).more own) R0 (ExtB.refl C) bf .nil (by simpa using hl) e2 λu H2 σ2 y j R2 h2 v2 E2=>?_
   have Y:Ext m1 L u H2:=⟨j.pre,λa o h n=>by
    have ne:a ≠ acc:=aV h d;exact j.keep a o (by rw[aB ne];exact h) n (by simp[ne]),λa h n=>by
    have:=j.new a h n;by_cases p:a=acc
    ·subst p;exact d
    ·rw[aB p] at this;exact this⟩
   have hn:H acc=aD:=by
    cases eh:H acc with
    |none=>rfl
    |some o=>
     by_cases T:acc ∈ m
     ·exact absurd (f.ext.pre.subset T) C
     ·have:=f.ext.keep acc o eh T;rw[d] at this;cases this
   exact q u H2 acc y (f.trans ⟨Y,R2⟩) h2 (j.nb acc (by simp)) (λb hb z=>C (f.ext.pre.subset (z ▸ hb))) hn (by simpa using v2)
  ·cases e
 ·cases e
end
section
variable {X:Cx} {K:Vk} {m:List Addr} {H:Hp} {S:Sto}
abbrev Bb(x y:XE):XE:=λb S=>bnd (x b S) λd c=>match d with
 |.bl aN=>y b c
 |.bl aS=>aw (.bl aS,c)
 |_=>aD
abbrev xOr(x y:XE):XE:=λb S=>bnd (x b S) λd c=>match d with
 |.bl aN=>aw (.bl aN,c)
 |.bl aS=>y b c
 |_=>aD
abbrev yO:D->Sto->Option (D × Sto)
 |.bl b,S=>aw (.bl (!b),S)
 |_,_=>aD
abbrev JU:D->Sto->Option (D × Sto)
 |.int i,S=>aw (.int (-i),S)
 |_,_=>aD
abbrev JV(c:XT)(x y:XE):XE:=λd S=>bnd (c d S) λb f=>if b=aN then x d f else y d f
def Bc(h:tE K (Bb x y) p H Q):Hh (tE K x) (tE K y) p H Q:=by
 obtain⟨m,f,S,d,k,E,R,e,q⟩:=h;obtain⟨a,j,n,e⟩:=ae e;refine⟨m,f,S,a,j,E,R,n,λm1 z v c C=>?_⟩;cases a with
 |bl b=>
  refine⟨b,C.bls,?_⟩;cases b with
  |true=>exact⟨m1,f,j,d,k,E.mono R c.ext,c.rel,e,λB u w I vd=>q B u w (c.trans I) vd⟩
  |false=>cases e;exact q m1 z _ c bD
 |_=>cases e
def HC(h:tE K (xOr x y) p H Q):Nr (tE K x) (tE K y) p H Q:=by
 obtain⟨m,f,S,d,k,E,R,e,q⟩:=h;obtain⟨a,j,n,e⟩:=ae e;refine⟨m,f,S,a,j,E,R,n,λm1 z v c C=>?_⟩;cases a with
 |bl b=>
  refine⟨b,C.bls,?_⟩;cases b with
  |false=>exact⟨m1,f,j,d,k,E.mono R c.ext,c.rel,e,λB u w I vd=>q B u w (c.trans I) vd⟩
  |true=>cases e;exact q m1 z _ c bD
 |_=>cases e
def JW(h:tE K (xUn yO x) u H Q):Hi (tE K x) u H Q:=by
 obtain⟨m,f,S,d,y,E,R,e,q⟩:=h;obtain⟨a,p,c,e⟩:=ae e;refine⟨m,f,S,a,p,E,R,c,λm1 k v j n=>?_⟩;cases a with
 |bl b=>cases e;exact⟨b,n.bls,q m1 k _ j bD⟩
 |_=>cases e
def EB:UnR X (unaryOp .USub) (rS1 X.K JU):=by
 intro p s c H x v Q I f h;refine pY p s c H x v Q I f ?_;obtain⟨m,S,a,d,j,R,b,e,q⟩:=h;cases a with
 |int i=>cases e;exact⟨i,b.ints,q m H _ (Aft.refl R) bg⟩
 |_=>cases e
def JX(h:tE K (JV c x y) B H Q):tIf (tT K c) (tE K x) (tE K y) B H Q:=by
 obtain⟨m,j,S,d,v,E,R,e,q⟩:=h;obtain⟨b,p,z,e⟩:=ae e;refine⟨m,j,S,b,p,E,R,z,λm1 C f=>?_⟩;dsimp only;split
 ·rename_i hb;rw[if_pos hb] at e;exact⟨m1,j,p,d,v,E.mono R f.ext,f.rel,e,λn k w u vd=>q n k w (f.trans u) vd⟩
 ·rename_i hb;rw[if_neg hb] at e;exact⟨m1,j,p,d,v,E.mono R f.ext,f.rel,e,λn k w u vd=>q n k w (f.trans u) vd⟩
abbrev yP(f g:D->D->Sto->Option (D × Sto))(x y z:XE):XE:=λd S=>bnd (x d S) λa n=>bnd (y d n) λb j=>bnd (f a b j) λr h=>match r with
 |.bl aN=>bnd (z d h) λc k=>g b c k
 |.bl aS=>aw (.bl aS,h)
 |_=>aD
def Bd(h:tE K (yP f g x y z) σ H Q):uj (rS K f) (rS K g) (tE K x) (tE K y) (tE K z) σ H Q:=by
 obtain⟨m,C,S,d,S',E,R,e,q⟩:=h;obtain⟨a,I,e1,e⟩:=ae e;obtain⟨b,T,e2,e⟩:=ae e;obtain⟨r,J,e3,e⟩:=ae e;refine⟨m,C,S,a,I,E,R,e1,λm1 H1 v j va=>⟨m1,C,I,b,T,E.mono R j.ext,j.rel,e2,λm2 H2 w n U=>?_⟩⟩;refine⟨m2,T,a,b,r,J,n.rel,va.mono j.rel n.ext,U,e3,λO H3 u p vr=>?_⟩;cases r with
 |bl k=>
  refine⟨k,vr.bls,?_⟩;cases k with
  |true=>
   dsimp only at e;obtain⟨c,L,e4,e⟩:=ae e;exact⟨O,C,J,c,L,E.mono R ((j.trans n).trans p).ext,p.rel,e4,λm4 H4 y B vc=>⟨m4,L,b,c,d,S',B.rel,U.mono n.rel (p.trans B).ext,vc,e,λm5 Y t Z vd=>q m5 Y t ((((j.trans n).trans p).trans B).trans Z) vd⟩⟩
  |false=>cases e;exact q O H3 _ ((j.trans n).trans p) bD
 |_=>cases e
abbrev Be(x y:XT):XT:=λd S=>bnd (x d S) λb c=>if b=aN then y d c else aw (aS,c)
abbrev JY(x y:XT):XT:=λd S=>bnd (x d S) λb c=>if b=aN then aw (aN,c) else y d c
abbrev Bf(x:XT):XT:=λd S=>bnd (x d S) λb c=>aw (!b,c)
def Bg(h:tT K (Be x y) p H Q):Np (tT K x) (tT K y) p H Q:=by
 obtain⟨m,f,S,d,k,E,R,e,q⟩:=h;obtain⟨b,j,n,e⟩:=ae e;refine⟨m,f,S,b,j,E,R,n,λm1 v c=>?_⟩;dsimp only;split
 ·rename_i hb;rw[if_pos hb] at e;exact⟨m1,f,j,d,k,E.mono R c.ext,c.rel,e,λz u B=>q z u (c.trans B)⟩
 ·rename_i hb;rw[if_neg hb] at e;cases e;exact q m1 v c
def HD(h:tT K (JY x y) p H Q):tOr (tT K x) (tT K y) p H Q:=by
 obtain⟨m,f,S,d,k,E,R,e,q⟩:=h;obtain⟨b,j,n,e⟩:=ae e;refine⟨m,f,S,b,j,E,R,n,λm1 v c=>?_⟩;dsimp only;split
 ·rename_i hb;rw[if_pos hb] at e;cases e;exact q m1 v c
 ·rename_i hb;rw[if_neg hb] at e;exact⟨m1,f,j,d,k,E.mono R c.ext,c.rel,e,λz u B=>q z u (c.trans B)⟩
def JZ(h:tT K (Bf x) n H Q):Nq (tT K x) n H Q:=by
 obtain⟨m,f,S,d,p,E,R,e,q⟩:=h;obtain⟨b,u,c,e⟩:=ae e;cases e;exact⟨m,f,S,b,_,E,R,c,λm1 k j=>q m1 k j⟩
@[inline]abbrev Calls:=Nat->List D->Sto->Option (D × Sto)
abbrev spC(K:Vk)(g:List D->Sto->Option (D × Sto))(n:Nat):Sp:=λj H Q _=>∃m b S d c,VDs K m H b j/\Rel K m S H/\b.length=n/\g b S=aw (d,c)/\∀f h v,Aft K m H c f h->VD K f h d v->Q v h
abbrev kh(g:List D->Sto->Option (D × Sto))(n:Nat)(x:XA):XE:=λb S=>bnd (x b S) λd c=>if d.length=n then g d c else aD
def wR{n:Nat}(h:tE K (kh g n x) p H Q):oo (spC K g n) [] E0 (tAr K x) p H Q:=by
 obtain⟨m,I,S,d,B,E,R,e,q⟩:=h;obtain⟨f,b,C,e⟩:=ae e;split at e
 ·rename_i z;refine⟨m,I,S,f,b,E,R,C,λm1 J L c vd=>⟨m1,f,b,d,B,by rw[ZN];exact vd,c.rel,z,e,λk j v u y=>q k j v (c.trans u) y⟩⟩
 ·cases e
abbrev Bh(g h:List D->Sto->Option (D × Sto))(n f:Nat)(y:XE)(x:XA):XE:=λb S=>bnd (y b S) λd c=>match d with
 |.int k=>if k=0 then kh g n x b c else if k=1 then kh h f x b c else aD
 |_=>aD
abbrev HE(K:Vk)(f d:Addr)(n b:Sp)(T:TE)(t:TA):TE:=λh H Q=>∀a,H a=aD->T h (upd H a (.lst [.ref f,.ref d])) λv k=>Jc K (.ref a) v k λu j=>∃c:Bool,u = .ref (if c then d else f)/\oo (if c then b else n) [] E0 t h j Q
def Bi{X:Cx}{k:Nat}{f n:Addr}{fd C:W7}{ps J:List Str}{sp j:Sp}{x y:Str}{p p' lp xp b:Pos}{e T:Expr}{E:List Expr}{ti:TE}{t:TA}(F:FnOk X.prog X.w X.K X.mg X.base CX0 k f fd ps sp)(F':FnOk X.prog X.w X.K X.mg X.base CX0 k n C J j)(hr:Room k X.A)(hg:Gl X x)(hm:X.mg x=aw (.ref f))(hk:Vs X.K (.ref f)=aN)(hb:iR X.K fd ps [])
  (hg':Gl X y) (hm':X.mg y=aw (.ref n)) (U:Vs X.K (.ref n)=aN) (hb':iR X.K C J []) (hi:PE X T ti) (hp:qb T) (ha:PA X (e::E) t) (Z:(x == ("__debug__" : Str))=aS) (u:(y == ("__debug__" : Str))=aS) (he:Uj (e::E) X.env=(aS,eval e X.env)::Uj E X.env) (Y:(backTo b (Uj E X.env)).any (·.1)=aS) :
  PE X (.Call (.Subscript (.List [.Name x p,.Name y p'] lp) T xp) (e::E) [] b) (HE X.K f n sp j ti t):=by
 intro d s B H Q I h;show wpAny _ _ (eval (.Subscript (.List [.Name x p,.Name y p'] lp) T xp) X.env >>= λfv=>callWith b fv [] (backTo b (Uj (e::E) X.env)) (VE b (VZ [] X.env))) _ _ s;refine Us (thn ((z3 DR (zU (pZ (pX (v:=.ref f) hg hm rfl Z) (pZ (pX (v:=.ref n) hg' hm' rfl u) um rfl) rfl)) hi hp) d s B H (λv L=>∃c:Bool,v = .ref (if c then n else f)/\oo (if c then j else sp) [] E0 t B L Q) I ?_) λfv s1 ⟨v,L,I1,rv,c,hv,O⟩=>?_)
 ·refine⟨by rw[Uh];show 2<=16777216;decide,λa h0=>?_⟩;exact h a h0
 ·subst hv
  have z:∀ {g:Addr} {fg:W7} {pg:List Str} {sg:Sp},FnOk X.prog X.w X.K X.mg X.base CX0 k g fg pg sg->Vs X.K (.ref g)=aN->iR X.K fg pg []->oo sg [] E0 t B L Q->wpAny (model X.prog X.w) X.A (callWith b (.ref g) [] (backTo b (Uj (e::E) X.env)) (VE b (VZ [] X.env))) (EP X d B Q) X.xe s1:=λG hk hb O=>
   Vl (h₀:=X.base) I.ok.mod.kin hk (thn (ha b d s1 B L _ I1 O) λus s2 ⟨vs,H2,I2,r,q⟩=>⟨I2.kIn,zV (dvs:=[]) G hr hb .nil Ht I2 r q⟩) he Y
  cases c with
  |true=>cases rv;exact z F' U hb' O
  |false=>cases rv;exact z F hk hb O
def EC{f T:Addr}{n O:Nat}(h:tE K (Bh g g' n O y x) B H Q):HE K f T (spC K g n) (spC K g' O) (tE K y) (tAr K x) B H Q:=by
 obtain⟨m,z,S,d,L,E,R,e,q⟩:=h;obtain⟨b,p,e1,e⟩:=ae e;intro a j;have u:Ext m H m (upd H a (.lst [.ref f,.ref T])):=Ext.beside R j _;refine⟨m,z,S,b,p,E.mono R u,R.beside j _,e1,λm1 Z v c vb=>?_⟩;have C:=SqL.of (K:=K) (c.ext.keep _ _ bf (R.no j));have go:∀ {w:List D->Sto->Option (D × Sto)} {l:Nat},kh w l x z p=aw (d,L)->oo (spC K w l) [] E0 (tAr K x) B Z Q:=λe=>wR ⟨m1,z,p,d,L,(E.mono R u).mono (R.beside j _) c.ext,c.rel,e,λm2 Y v I vv=>q m2 Y v ⟨u.trans (c.ext.trans I.ext),I.rel⟩ vv⟩;cases b with
 |int k=>
  cases vb.ints;dsimp only at e;by_cases U:k=0
  ·subst U;rw[if_pos rfl] at e;exact⟨a,_,_,_,rfl,rfl,C,rfl,aS,rfl,go e⟩
  ·rw[if_neg U] at e;by_cases J:k=1
   ·subst J;rw[if_pos rfl] at e;exact⟨a,_,_,_,rfl,rfl,C,rfl,aN,rfl,go e⟩
   ·rw[if_neg J] at e;cases e
 |_=>cases e
end
abbrev hX(x y:Int × List Int):Bool:=if x.1=y.1 then HT.cT x.2 y.2 else decide (x.1 < y.1)
def sK:∀ns:List Int,HT.cT ns ns=aS
 |[]=>rfl
 |n::ns=>by rw[HT.lP,if_pos rfl];exact sK ns
def kZ{b:List Value}{ns:List Int}(h:IntsAre b ns):∀ (j:Nat) v,b[j]?=aw v->∃n t,ns[j]?=aw n/\v = .int n t:=by
 induction h with
 |nil=>intro j v e;simp at e
 |cons a t _ I=>
  intro j v e;cases j with
  |zero=>cases e;exact⟨a,t,rfl,rfl⟩
  |succ j=>exact I j v (by simpa using e)
def yQ{A:Around}{s:Shared}{p q:Addr}{X y:Array Value}{ns ms:List Int}(J:A.units < cLine)(C:s.heap.IsTuple p X)(B:s.heap.IsTuple q y)(I:IntsAre X.toList ns)(d:IntsAre y.toList ms):∃e,Vb A s (.ref p) (.ref q) e/\(e=aN ↔ ns=ms):=by
 by_cases e:p=q
 ·subst e;obtain⟨o,ho,_,n,hd⟩:=C;obtain⟨Y,h,_,Z,c⟩:=B;rw[ho] at h;cases h;rw[hd] at c;cases c
  have en:ns=ms:=by
   have l1:=I.length;have L:=d.length;refine YV λj=>?_;cases z:X.toList[j]? with
   |none=>
    have:=Z8.mp z;rw[Zs (by lia),Zs (by lia)]
   |some v=>
    obtain⟨a,t,E,rfl⟩:=kZ I j v z;obtain⟨b,U,f,k⟩:=kZ d j _ z;cases k;rw[E,f]
  exact⟨aN,.same _,by simp[en]⟩
 ·refine⟨_,.of_refs e (SeqAt.RcAt.tuples (e:=λj=>decide (ns[j]?=ms[j]?)) C B J λj Q O=>?_),?_⟩
  ·obtain⟨a,t,E,k⟩:=kZ I j X[j] (by simp[Q]);obtain⟨b,u,f,T⟩:=kZ d j y[j] (by simp[O]);rw[E,f,k,T,show decide (aw a=aw b)=(a == b) by simp[Y4]];exact .int_int a t b u
  ·have l1:ns.length=X.size:=by rw[<-I.length];exact ZC
   have L:ms.length=y.size:=by rw[<-d.length];exact ZC
   rw[<-l1,<-L,ue,decide_eq_true_eq]
section
open PySem.SeqAt
open PySem.AutoSeq1 (wpAny_loadPart')
open PySem.MeetsSeq PySem.MeetsSeq2 PySem.MeetsSeq3
def oh(l b:Addr)(x y:Int)(t u:Tok)(p q:Addr)(n n2:Nat)(dd J:Option Addr)(sl U:Array (Option Value))(ns I:List Int) :
  Meets (Builtin.«tuple.__lt__» ⟨[.ref l,.ref b],[]⟩)
   (λA R s=>s.heap.get? l=aw { cls:=.type "tuple", dict:=dd,data:=.seq #[.int x t,.ref p] n,slots:=sl }/\s.heap.get? b=aw { cls:=.type "tuple", dict:=J,data:=.seq #[.int y u,.ref q] n2,slots:=U } ∧
    (∃X Y,IsTup s.heap p X/\IsTup s.heap q Y/\IntsAre X.toList ns/\IntsAre Y.toList I)/\A.in1.units < cLine ∧
    R (.ok (.ret (.bool (hX (x,ns) (y,I))))) s):=
 .of_wp λprog w A R s h=>by
  obtain⟨C,g,d,T,os⟩:=s;obtain⟨hl,hb,⟨X,Y,tp,tq,i1,i2⟩,Z,h⟩:=h;have f2:=AutoSeq1.sub_tuple_tuple
  wp_walk using UD hl,UD hb,Uy _ (λf b O=>b.1=aD/\O=⟨C,g,d,T,os⟩/\((f=[(.int x t,.int y u),(.ref p,.ref q)])\/(f=[(.ref p,.ref q)]/\x=y)\/(f=[]/\x=y/\ns=I))) _
  case turn=>
   rintro⟨v,z⟩ f b O ⟨B,rfl,j⟩;rcases j with j |⟨j,hxy⟩ |⟨j,_⟩
   ·injection j with hvz hrest;injection hvz with hv hz;subst hv hz;obtain⟨e,L,c⟩:=HT.rJ A.in1 ⟨C,g,d,T,os⟩ x t y u;refine Us (L prog w _ _ ?_);cases e with
    |true=>
     wp_walk
     exact⟨rfl,rfl,.inr (.inl ⟨hrest,c.mp rfl⟩)⟩
    |false=>
     have k:=HT.rK A.in1 ⟨C,g,d,T,os⟩ x t y u prog w
     wp_walk using k
     refine⟨_,rfl,?_⟩;unfold hX at h;rw[if_neg (λq=>absurd (c.mpr q) Zg)] at h
     simpa using h
   ·injection j with hvz hrest;injection hvz with hv hz;subst hv hz hxy;obtain⟨e,L,c⟩:=yQ (A:=A.in1) (s:=⟨C,g,d,T,os⟩) Z tp tq i1 i2;refine Us (L prog w _ _ ?_);unfold hX at h;rw[if_pos rfl] at h;cases e with
    |true=>
     wp_walk
     exact⟨rfl,rfl,.inr (.inr ⟨hrest,rfl,c.mp rfl⟩)⟩
    |false=>
     have k:∀ (E:Value->Shared->Prop) (Q:Value->Shared->Prop),Q (.bool (HT.cT ns I)) ⟨C,g,d,T,os⟩->wpAny (model prog w) A.in1 (Ub .Lt (.ref p) (.ref q)) Q E ⟨C,g,d,T,os⟩:=λE Q hq=>HT.ur (s:=⟨C,g,d,T,os⟩) tp tq i1 i2 Z hq
     wp_walk using k
     exact⟨_,rfl,by simpa using h⟩
   ·cases j
  case fin=>
   rintro⟨b1,b2⟩ O ⟨B,rfl,j⟩;simp only at B;subst B;rcases j with j |⟨j,_⟩ |⟨_,hxy,hnm⟩
   ·cases j
   ·cases j
   ·subst hxy hnm;unfold hX at h;rw[if_pos rfl,sK] at h
    wp_walk
    exact⟨_,rfl,by simpa[Builtin.Tuple.tupleCompareSizes] using h⟩
  case h=>exact⟨rfl,rfl,.inl rfl⟩
end
section
variable {prog:Program} {w:World} {A:Around} {R:Result->Shared->Prop} {I S:Addr} {fp wr:List Addr} {n:Nat} {P:Nat->Value->Prop} {St:Nat->Heap->Prop} {bt:Nat->Nat->Bool} {base:Heap} {d:Value}
abbrev J0(prog:Program)(w:World)(A:Around)(base:Heap)(P:Nat->Value->Prop)(bt:Nat->Nat->Bool):Prop:=
 ∀i j b v (s:Shared) (Q:Value->Shared->Prop) (E:Value->Shared->Prop),(∀a o,base.get? a=aw o->s.heap.get? a=aw o)->P i b->P j v->Q (.bool (bt i j)) s->wpAny (model prog w) A (Ub .Lt b v) Q E s
def Bj(a d:Value):argsOk "min" ⟨[a],[(Str.ofString "default", d)]⟩:=by unfold argsOk;kernel_rfl
def wU:(toString "min" ++ toString ".loop" : String) = "min.loop" := by decide
def mD(W:Walks prog w A.in1 I fp wr n P St)(O:J0 prog w A.in1 base P bt)(B:S ∉ fp)(bw:∀a ∈ wr,base.get? a=aD)(U:base.get? S=aD):∀ (m i:Nat) (s:Shared) (b:Value) (c:Nat),i+1+m=n->St (i+1) s.heap->P (argBest bt i) b->(∀a o,base.get? a=aw o->s.heap.get? a=aw o)->s.heap.get? S=aw { cls:=.type "list", dict:=aD,data:=.seq #[b,b] c,slots:=#[] } ->
  (∀v C J,P (argBest bt (n - 1)) v->(∀a o,a ∉ wr->a ≠ S->s.heap.get? a=aw o->C.get? a=aw o)->R (.ok (.ret v)) { s with heap:=C,toks:=J })->codeAny (model prog w) A (.builtin "min.loop" ⟨[.ref I,.none,.ref S],[(Str.ofString "default", d)]⟩) R s
 |0,i,s,b,c,e,st,pb,kb,gs,r=>by
  have L:S ∉ wr:=λh=>B (W.sub _ h);refine VO WT ?_;rw[Around.under_plainId WZ _];show wpAny _ A.in1 (Uf (.ref S) >>= _) _ _ s;refine Us (UR gs rfl ?_);show wpAny _ A.in1 (tryCatch (pyNext (.ref I)) _ >>= _) _ _ s;refine Us (UW (W.done s _ _ (by rw[<-e];exact st) λC J k=>?_));show wpAny _ A.in1 (Uq S (λ_=>#[]) >>= _) _ _ _;refine Us (UY (k S _ L gs) rfl (Us (UB (UI ?_))));exact r b _ J (by rw[<-e];exact pb) λa o j y z=>(ZK _ _ (Ne.symm y)).trans (k a o j z)
 |m+1,i,s,b,c,e,st,pb,kb,gs,r=>by
  have L:S ∉ wr:=λh=>B (W.sub _ h);refine VO WT ?_;rw[Around.under_plainId WZ _];show wpAny _ A.in1 (Uf (.ref S) >>= _) _ _ s;refine Us (UR gs rfl ?_);show wpAny _ A.in1 (tryCatch (pyNext (.ref I)) _ >>= _) _ _ s;refine Us (UW (W.item (i+1) s _ _ (by lia) st λv C J Z E k=>?_));have f:=k S _ L gs;have Y:∀a o,base.get? a=aw o->a ∉ wr/\a ≠ S:=λa o h=>⟨λz=>(by rw[bw a z] at h;cases h),λz=>(by rw[z,U] at h;cases h)⟩;have q:∀a o,base.get? a=aw o->C.get? a=aw o:=λa o h=>k a o (Y a o h).1 (kb a o h);show wpAny _ A.in1 (tryCatch (holding [v,v] (Ub .Lt v b >>= _)) _ >>= _) _ _ _;refine Us (UW (UA (Us (O (i+1) (argBest bt i) v b _ _ _ q Z pb ?_))));refine Us (UA (UV ?_));refine Us (UB (UI ?_));cases hb:bt (i+1) (argBest bt i) with
  |true=>
   simp only[if_true];refine Us (UY f rfl (Us (UB ?_)));rw[wU];refine UI ⟨V8 WZ _,mD W O B bw U m (i+1) _ v _ (by lia) (W.frame _ _ _ E λa af o z=>?_) (by simp only[argBest,hb,if_true];exact Z) (λa o h=>(ZK _ _ (Ne.symm (Y a o h).2)).trans (q a o h)) (Yi _ f rfl) λX p T u Q=>?_⟩
   ·exact(ZK _ _ (λz:S=a=>B (by rw[z];exact af))).trans z
   ·exact r X p T u λa o j y z=>Q a o j y ((ZK _ _ (Ne.symm y)).trans (k a o j z))
  |false=>
   simp only[ZP,if_false];refine Us (UB ?_);rw[wU];refine UI ⟨V8 WZ _,mD W O B bw U m (i+1) _ b c (by lia) E (by simp only[argBest,hb,ZP,if_false];exact pb) q f λX p T u Q=>?_⟩;exact r X p T u λa o j y z=>Q a o j y (k a o j z)
def yR{s:Shared}(W:Walks prog w A.in1 I fp wr n P St)(Q:J0 prog w A.in1 base P bt)(f:S ∉ fp)(bw:∀a ∈ wr,base.get? a=aD)(C:base.get? S=aD)(X:0 < n){c:Nat}(st:St 0 s.heap)(L:∀a o,base.get? a=aw o->s.heap.get? a=aw o)(gs:s.heap.get? S=aw { cls:=.type "list", dict:=aD,data:=.seq #[] c,slots:=#[] })
  (r:∀v p J,P (argBest bt (n - 1)) v->(∀a o,a ∉ wr->a ≠ S->s.heap.get? a=aw o->p.get? a=aw o)->R (.ok (.ret v)) { s with heap:=p,toks:=J }):codeAny (model prog w) A (.builtin "min.loop" ⟨[.ref I,.none,.ref S],[(Str.ofString "default", d)]⟩) R s:=by
 have O:S ∉ wr:=λh=>f (W.sub _ h);refine VO WT ?_;rw[Around.under_plainId WZ _];show wpAny _ A.in1 (Uf (.ref S) >>= _) _ _ s;refine Us (UR gs rfl ?_);show wpAny _ A.in1 (tryCatch (pyNext (.ref I)) _ >>= _) _ _ s;refine Us (UW (W.item 0 s _ _ X st λv p J Z u k=>?_));have b:=k S _ O gs;have E:∀a o,base.get? a=aw o->a ∉ wr/\a ≠ S:=λa o h=>⟨λz=>(by rw[bw a z] at h;cases h),λz=>(by rw[z,C] at h;cases h)⟩;show wpAny _ A.in1 (Uq S (λ_=>#[v,v]) >>= _) _ _ _;refine Us (UY b rfl ?_);rw[wU];refine UI ⟨V8 WZ _,mD W Q f bw C (n - 1) 0 _ v _ (by lia) (W.frame _ _ _ u λa af o z=>?_) Z (λa o h=>(ZK _ _ (Ne.symm (E a o h).2)).trans (k a o (E a o h).1 (L a o h))) (Yi _ b rfl) λY j T q U=>?_⟩
 ·exact(ZK _ _ (λz:S=a=>f (by rw[z];exact af))).trans z
 ·exact r Y j T q λa o y B z=>U a o y B ((ZK _ _ (Ne.symm B)).trans (k a o y z))
def Bk{s:Shared}(W:Walks prog w A.in1 I fp wr 0 P St)(b:S ∉ fp){c:Nat}(st:St 0 s.heap)(gs:s.heap.get? S=aw { cls:=.type "list", dict:=aD,data:=.seq #[] c,slots:=#[] })
  (r:∀h T,(∀a o,a ∉ wr->s.heap.get? a=aw o->h.get? a=aw o)->R (.ok (.ret d)) { s with heap:=h,toks:=T }):codeAny (model prog w) A (.builtin "min.loop" ⟨[.ref I,.none,.ref S],[(Str.ofString "default", d)]⟩) R s:=by
 refine VO WT ?_;rw[Around.under_plainId WZ _];show wpAny _ A.in1 (Uf (.ref S) >>= _) _ _ s;refine Us (UR gs rfl ?_);show wpAny _ A.in1 (tryCatch (pyNext (.ref I)) _ >>= _) _ _ s;refine Us (UW (W.done s _ _ st λh T k=>?_));exact Us (UQ (UI (r h T k)))
variable {E:Value->Shared->Prop} {s:Shared} {l:Addr} {its:Array Value} {Q:Value->Shared->Prop}
def Bl(j:s.heap.IsList l its)
  (h:∀c:Shared,c={ s with heap:=s.heap.push { cls:=.type "list_iterator", data:=.fields #[.ref l,.int 0 0] } } ->
   (c.heap.IsListIter s.heap.objs.size l 0/\c.heap.IsList l its)->(∀b ∈ [s.heap.objs.size,l],b < c.heap.objs.size)->l ≠ s.heap.objs.size->Q (.ref s.heap.objs.size) c) :
  wpAny (model prog w) A (pyIter (.ref l)) Q E s:=by
 have f:l < s.heap.objs.size:=by obtain⟨_,e,_⟩:=j;exact Zt e
 refine UK j (h _ rfl ⟨⟨_,ZA _ rfl,rfl,rfl⟩,j.push _⟩ (λb hb=>?_) (ZI f));show b < (s.heap.push _).objs.size;rw[Yt];simp only[Zn,Wh,or_false] at hb;rcases hb with rfl |rfl
 ·exact Y9 _
 ·exact YZ f
def Bm(p:A.handled=aD)(B:s.heap.IsList l its)(z:J0 prog w A.in1 s.heap (λi v=>its[i]?=aw v) bt)
  (C:0 < its.size->∀v h T,its[argBest bt (its.size - 1)]?=aw v->(∀b o,s.heap.get? b=aw o->h.get? b=aw o)->Q v { s with heap:=h,toks:=T })
  (u:its.size=0->∀h T,(∀b o,s.heap.get? b=aw o->h.get? b=aw o)->Q d { s with heap:=h,toks:=T }):wpAny (model prog w) A (call (.builtin "min") [.ref l] [(Str.ofString "default", d)]) Q E s:=by
 refine kmb_tree F.kind_min F.plain_min F.entry_min (Bj _ _) ?_;show wpAny _ A.in1 (Builtin.Builtins.bindParams "min" ["key", "default"] 0 ⟨[],[(Str.ofString "default", d)]⟩ >>= _) _ _ s;refine Us (UG (show Builtin.Builtins.bindParams "min" ["key", "default"] 0 ⟨[],[(Str.ofString "default", d)]⟩=pure [aD,aw d] from rfl) ?_);refine Us (UI ?_);refine Us (Bl B λX e st f L=>?_);subst e;have W:=Walks.list (prog:=prog) (w:=w) (A:=A.in1) p s.heap.objs.size l L its;refine Us (UF ?_);have U:∀b ∈ [s.heap.objs.size,l],b < (s.heap.push { cls:=.type "list_iterator", data:=.fields #[.ref l,.int 0 0] }).objs.size:=f;rw[wU]
 have J:s.heap.get? s.heap.objs.size=aD:=by
  cases q:s.heap.get? s.heap.objs.size with
  |none=>rfl
  |some o=>exact absurd (Zt q) (ZR _)
 by_cases k:its.size=0
 ·rw[k] at W;refine UI ⟨V8 WZ _,Bk W (λc=>ZR _ (f _ c)) (W.frame _ _ _ st λb _ o e=>Zf _ e) (ZA _ rfl) λh T j=>?_⟩;exact u k h T (V7 λb o hb e=>j b o hb (Zf _ e))
 ·refine UI ⟨V8 WZ _,yR (base:=s.heap) W z (λc=>ZR _ (f _ c)) ?_ ?_ (by lia) (W.frame _ _ _ st λb _ o e=>Zf _ e) (λa o e=>Zf _ (Zf _ e)) (ZA _ rfl) λv h T O j=>?_⟩
  ·intro a y;rw[ZM.mp y];exact J
  ·cases q:s.heap.get? (s.heap.push { cls:=.type "list_iterator", data:=.fields #[.ref l,.int 0 0] }).objs.size with
   |none=>rfl
   |some o=>have:=Zt q;rw[Yt] at this;lia
  ·exact C (by lia) v h T O (V7 λb o hb e=>j b o hb (ZI (Zt e)) (Zf _ e))
end
abbrev Bn:D->Option (Int × List Int)
 |.tup [.int n,.tup es]=>(fD es).map λns=>(n,ns)
 |_=>aD
abbrev oU:List D->Option (List (Int × List Int))
 |[]=>aw []
 |d::ds=>match Bn d,oU ds with
  |some w,aw ws=>aw (w::ws)
  |_,_=>aD
abbrev hY(b:List (Int × List Int))(i j:Nat):Bool:=hX (b.getD i (0,[])) (b.getD j (0,[]))
abbrev oi(T:Bool)(d:List D)(S:Sto):Option (D × Sto):=match T,oU d with
 |false,aw ws=>aw (d.getD (argBest (hY ws) (d.length - 1)) .non,S)
 |_,_=>aD
def wV:∀ {b:List D} {f:List (Int × List Int)},oU b=aw f->f.length=b.length/\∀ (i:Nat) d,b[i]?=aw d->∃w,f[i]?=aw w/\d = .tup [.int w.1,.tup (w.2.map D.int)]
 |[],_,e=>by cases e;exact⟨rfl,λi d h=>by simp at h⟩
 |d::b,f,e=>by
  simp only[oU] at e;split at e
  ·rename_i w j c p;cases e;obtain⟨l,r⟩:=wV p;refine⟨by rw[Zo,Zo,l],λi k h=>?_⟩;cases i with
   |zero=>
    cases h;refine⟨w,rfl,?_⟩;unfold Bn at c;split at c
    ·rename_i n q;obtain⟨ns,E,rfl⟩:=ZV.mp c;rw[eu E]
    ·cases c
   |succ i=>exact r i k (by simpa using h)
  ·cases e
section
variable {X:Cx} {K:Vk} {m:List Addr} {H:Hp} {S:Sto} {e:Expr} {t:TA} {p pos kp vp:Pos} {j:Nat}
def oV{c:List (Addr × Obj)}{B:L2.St}{s:Shared}(I:Inv X c B H s){n:Int}{ns:List Int}{v:V}{u:Value}(vd:VD X.K m H (.tup [.int n,.tup (ns.map D.int)]) v)(r:aJ v u) :
  ∃l t q o nn f sl d,u = .ref l/\o=(⟨.type "tuple", f,.seq #[.int n t,.ref q] nn,sl⟩:Obj)/\s.heap.get? l=aw o/\IsTup s.heap q d/\IntsAre d.toList ns:=by
 obtain⟨l,vs,rfl,Y,Q⟩:=vd.tups;obtain⟨a,b,rfl,va,vb⟩:=yE Q;clear Q;cases va.ints;obtain⟨q,ws,rfl,hq,L⟩:=vb.tups;have J:=cQ L;subst J;cases r;obtain⟨_,U,O,o,Z,h,nn,z,h4⟩:=I.hok l _ Y;obtain⟨x,y,rfl,r1,r2⟩:=rG O;obtain⟨tk,rfl⟩:=r1;cases r2;obtain⟨d,E,T,_⟩:=I.tuple (.of hq);obtain⟨C,f,k,sl⟩:=o;simp only at h z;subst h z;exact⟨l,tk,q,_,nn,f,sl,d.toArray,rfl,rfl,Z,T,by simpa using bx E⟩
def J1(hu:X.A.units+64 < cLine)(hc:X.calm=aN)(hg:Gl X "min")(hm:X.mg "min" = aD)(hdb:(("min" : Str) == ("__debug__" : Str))=aS)(ha:PA X [e] t)(he:Uj [e] X.env=(aS,eval e X.env)::Uj [] X.env) :
  PE X (.Call (.Name "min" p) [e] [⟨aw "default", .Constant .none j vp,kp⟩] pos) (tCB (r1 (rSq X.K oi)) t):=by
 intro f s σ H Q I h;refine Ur (dz I hg hm WG ?_ (by decide) hdb);refine callWith_kw (thn (ha pos f s σ H _ I h) λus s1 ⟨vs,H1,I1,r,q1⟩=>?_) (by rw[he];rfl) (by rw[he];rfl) rfl rfl;refine thn (wo (nm:=aw "default") (kpos:=kp) (zF (X:=X) (j:=j) (pos:=vp)) zW pos f s1 σ H1 _ I1 (show ce (tC .non) jy σ H1 (λzs c=>zs=[.non]/\c=H1) from ⟨rfl,rfl⟩)) λks s2 ⟨zs,c,C,rz,ez,eH⟩=>?_;subst ez eH;obtain⟨u,rfl,ru⟩:=bR rz;cases ru;obtain⟨_,rfl,m,S,tu,n,a,ws,d,S',R,rfl,sq,vd,U,q⟩:=bV q1;obtain⟨u',rfl,ru'⟩:=bR r;cases ru';unfold oi at U;split at U
 ·rename_i T hw;cases U;obtain⟨lw,at_⟩:=wV hw;have sq:SqL X.K c a ws:=sq;obtain⟨b,rv,pl,hz⟩:=C.list sq;have ld:=vd.length;have lr:=rv.length
  have there:∀ (i:Nat) v,b.toArray[i]?=aw v->∃x d,n[i]?=aw d/\T[i]?=aw x/\d = .tup [.int x.1,.tup (x.2.map D.int)]/\∃y,ws[i]?=aw y/\VD X.K m c d y/\aJ y v:=λi v B=>by
   have B:b[i]?=aw v:=by simpa using B
   have hi:i < n.length:=by have:=(Zb.mp B).1;lia
   obtain⟨y,L,vy⟩:=vd.get (gEG hi);obtain⟨v',J,ry⟩:=rv.get L;rw[B] at J;cases J;obtain⟨x,O,ex⟩:=at_ i _ (gEG hi);exact⟨x,_,gEG hi,O,ex,y,L,vy,ry⟩
  refine Bm (bt:=hY T) (C.ok.hd hc) pl.isList ?_ (λE v h' tk' B hk=>?_) (λE h' tk' hk=>?_)
  ·intro i j vi vj s3 Q3 E3 kp pi pj hq;obtain⟨x,d1,k,O,rfl,y1,_,v1,r1⟩:=there i vi pi;obtain⟨y,d2,hd2,L,rfl,y2,_,v2,r2⟩:=there j vj pj;obtain⟨l1,t1,p1,o1,n1,Y,sl1,xs1,rfl,rfl,g1,tp1,i1⟩:=oV C v1 r1;obtain⟨l2,t2,p2,o2,n2,dd2,sl2,xs2,rfl,rfl,g2,Z,i2⟩:=oV C v2 r2
   have e:hY T i j=hX x y:=by
    unfold hY;rw[ZE,ZE,O,L];rfl
   rw[e] at hq
   exact Uc (op:=.Lt) ⟨_,kp _ _ g1,rfl⟩ ⟨_,kp _ _ g2,rfl⟩ W6 WW (WQ _ _) (oh l1 l2 x.1 y.1 t1 t2 p1 p2 n1 n2 Y dd2 sl1 sl2 x.2 y.2)
    ⟨kp _ _ g1,kp _ _ g2,⟨xs1,xs2,tp1.keeps kp,Z.keeps kp,i1,i2⟩,(show X.A.units+1+1 < cLine by lia),show Value.bool (hX x y) ≠ Value.notImplemented/\Q3 (.bool (hX x y)) s3 from ⟨(λz=>nomatch z),hq⟩⟩ (show X.A.units+1 < cLine by lia)
  ·have hn:0 < n.length:=by have:b.toArray.size=b.length:=Zl;lia
   obtain⟨x,d1,k,O,ed,y1,_,v1,r1⟩:=there _ v B;have e:b.toArray.size=n.length:=by rw[Zl];lia
   rw[e] at k;refine⟨y1,c,C.kept hk,r1,?_⟩;rw[show n.getD (argBest (hY T) (n.length - 1)) .non=d1 by rw[ZE,k];rfl] at q;exact q m c _ (Aft.refl R) v1
  ·have en:n=[]:=ZT.mp (by rw[Zl] at E;lia);subst en;exact⟨.non,c,C.kept hk,rfl,q m c _ (Aft.refl R) qk⟩
 ·cases U
end
end Ev
namespace L2
open PySem PySem.Spec PyProof.Rows
abbrev Itd(hi:Int)(n:Nat):It:=⟨λi _=>i < n,λi H x h=>h=H/\x = .int (hi - i),λi _=>n<=i⟩
def yS{P:Program}{w:World}{K:Vk}{tg:Expr}(it:Addr)(lo:Int)(n:Nat):Turn P w K tg (Itd lo n) [it] it (λi h=>W8 h it (lo+(i:Nat) * (-1)) ((n:Int) - (i:Nat)) (-1)) where
 mem:=by simp
 obj:=λi h st b hb=>by
  have e:b=it:=by simpa using hb
  subst e
  exact⟨_,st,λv z=>by
   have Z:Data.fields _=Data.cell v:=z;cases Z⟩
 keep:=λi h f st k=>k it (by simp) _ st
 item:=by
  intro X O j q C i p s T H E I d st J;subst O j q;obtain⟨B,L,Y,Q,y,u⟩:=d it (by simp);have W:=Walks.range (prog:=X.prog) (w:=X.w) (I.ok.hd C) it lo (-1) n;refine W.item i s _ _ J st λv f U hv c kk=>?_;obtain⟨t,rfl⟩:=hv;have I1:Inv X p T H { s with heap:=f,toks:=U }:=I.turned (λb o hb e=>kk b o (by simpa using hb) e) B L Q y u;refine⟨_,rfl,wk (s:={ s with heap:=f,toks:=U }) (n := "range_iterator") c rfl rfl (by decide) ⟨.int (lo - i),H,I1,⟨t,?_⟩,⟨rfl,rfl⟩,c,λb hb=>(d b hb).1⟩⟩
  congr 1
  omega
 done:=by
  intro X O j q C i p s T H E I d st J;subst O j q;obtain⟨B,L,Y,Q,y,u⟩:=d it (by simp);exact UP (I.ok.hd C) st (by have:n<=i:=J;omega) λf eb=>⟨rfl,I.turned (t':=s.toks) (λb o hb e=>eb b o hb e) B L Q y u⟩
 self:=λ_ _ _ _ _ st h=>UL st h
section
variable {X:Cx} {tg:Expr}
def vg{a:Int}(b:-(2 ^ 62)<=a)(h:a < 2 ^ 62):Builtin.Range.small a (-1) (-1)=aN:=by
 unfold Builtin.Range.small;rw[VA];simp only[Builtin.Range.rangeFitsLong,bAE,YT,decide_eq_true_eq,beq_iff_eq,show ¬ (-1:Int) > 0 by decide,if_false];split <;> omega
def ED{p:List (Addr × Obj)}{c:St}{H:Hp}{s:Shared}{R:It->Hp->Prop}{E:Value->Shared->Prop}{lo:Int}{t u v:Tok}{T:Nat}(I:Inv X p c H s)(k:-(2 ^ 62)<=lo)(j:lo < 2 ^ 62)
  (q:R (Itd lo (lo+1).toNat) H):wpAny (model X.prog X.w) X.A (pyIter (.ref s.heap.objs.size)) (PIE X p c tg R) E { s with heap:=s.heap.push { cls:=.type "range", data:=.fields #[.int lo t,.int (-1) u,.int (-1) v] },toks:=T }:=by
 refine wpAny_pyIter_range (IsRange.new ..) (vg k j) ?_;have d:Inv X p c H { s with heap:=s.heap.push { cls:=.type "range", data:=.fields #[.int lo t,.int (-1) u,.int (-1) v] },toks:=T }:=I.kept λb o e=>Zf _ e
 refine⟨(s.heap.push { cls:=.type "range", data:=.fields #[.int lo t,.int (-1) u,.int (-1) v] }).objs.size,[(s.heap.push { cls:=.type "range", data:=.fields #[.int lo t,.int (-1) u,.int (-1) v] }).objs.size],_,_,H,rfl,
  d.kept (t':=T) λb o e=>Zf _ e,yS _ lo (lo+1).toNat,?_,λb hb=>?_,q⟩
 ·have f:lo+((0:Nat):Int) * (-1)=lo:=by simp
  have h:(((lo+1).toNat:Nat):Int) - ((0:Nat):Int)=Builtin.Range.rangeSize lo (-1) (-1):=by rw[VA];split <;> omega
  show W8 _ _ (lo+((0:Nat):Int) * (-1)) ((((lo+1).toNat:Nat):Int) - ((0:Nat):Int)) (-1);rw[f,h];exact ZA _ rfl
 ·have e:b=(s.heap.push { cls:=.type "range", data:=.fields #[.int lo t,.int (-1) u,.int (-1) v] }).objs.size:=by simpa using hb
  subst e;exact d.fpOk (Ze _) (d.hok.fresh (Ze _))
abbrev iDn(T:TA):TI:=λb H R=>T b H λv h=>∃i:Int,v=[.int i,.int (-1),.int (-1)]/\(-(2 ^ 62)<=i/\i < 2 ^ 62)/\R (Itd i (i+1).toNat) h
def Om{a b c:Expr}{T:TA}{p d:Pos}(E:Gl X "range")(C:X.mg "range" = aD)(z:PA X [a,b,c] T)(hs:Uj [a,b,c] X.env=(aS,eval a X.env)::Uj [b,c] X.env)(n:(backTo d (Uj [b,c] X.env)).any (·.1)=aS) :
  PI X tg (.Call (.Name "range" p) [a,b,c] [] d) (iDn T):=by
 intro f s u H R I h;refine Call_ (dz I E C boot_range (WJ (thn (z d f s u H _ I h) λZ Y ⟨O,L,J,r1,Q⟩=>?_) hs n));obtain⟨i,e,⟨Q,v⟩,q⟩:=Q;subst e;cases r1 with
 |cons r j=>
  cases j with
  |cons y j=>
   cases j with
   |cons k j=>
    cases j;obtain⟨t,rfl⟩:=r;obtain⟨U,rfl⟩:=y;obtain⟨B,rfl⟩:=k;exact call_range_3 (by decide) (ED J Q v q) (.inl (PyProof.noPylong_of_log2 (by decide +kernel)))
end
end L2
namespace Ev
open PySem PySem.Spec PyProof.Rows L2
abbrev nxD(hi:Int)(n:Nat):Nxt:=λi _=>aw (if i < n then aw (.int (hi - i)) else aD)
section
variable {K:Vk} {m m0:List Addr} {H H0:Hp} {S:Sto} {B:List Addr}
def J2{lo:Int}{n:Nat}:IOk K B (Itd lo n) (nxD lo n) m0 H0:=by
 intro m S H i x R;unfold nxD;refine⟨λe=>?_,λd e=>?_⟩
 ·split at e
  ·cases e
  ·show n<=i;lia
 ·split at e
  ·rename_i hi;cases e;exact⟨hi,λy b ⟨E,h⟩=>by subst E;subst h;exact⟨Aft.refl R,bg⟩⟩
  ·cases e
abbrev xDn(x:XE):XI:=λb S=>bnd (x b S) λd c=>match d with
 |.int j=>if lim j=aN then aw (nxD j (j+1).toNat,c) else aD
 |_=>aD
def Oo(h:tIt K B (xDn x) u H R):iDn (ce (tE K x) (ce (tC (.int (-1))) (ce (tC (.int (-1))) jy))) u H R:=by
 obtain⟨m,f,S,nx,z,E,k,y,e,q⟩:=h;obtain⟨d,p,c,e⟩:=ae e;refine⟨m,f,S,d,p,E,k,c,λm1 n v j vd=>?_⟩;cases d with
 |int i=>
  dsimp only at e;split at e
  ·rename_i b;cases e;exact⟨i,by rw[vd.ints],⟨(fV b).1,(fV b).2⟩,q m1 n _ j J2⟩
  ·cases e
 |_=>cases e
end
mutual
inductive CE where |non |bl (b:Bool) |int (i:Int) |str (x:Str) |var (i:Nat) |con (k:Nat)(v:Int) |tup (es:List CE) |lst (es:List CE) |dic0 |bin (o:BOp)(a b:CE) |neg (a:CE) |cmp (o:COp)(a b:CE) |chn (o p:COp)(a b c:CE) |and (a b:CE) |or (a b:CE) |not (a:CE) |ite (c a b:CE) |ix (a b:CE) |sl (a:CE)(lo hi:Option CE) |call (f:Nat)(es:List CE) |cal2 (f g:Nat)(i:CE)(es:List CE) |inst (t:Ty)(a:CE) |len (a:CE) |all (a:CE) |any (a:CE) |tupOf (a:CE) |listOf (a:CE) |listR (a:CE) |srt (a:CE) |mxL (a:CE) |mxD (a:CE)(c:Int) |sm (a:CE) |intOf (a:CE) |rev (a:CE) |mnN (a:CE) |mx (a b:CE) |mn (a b:CE) |comp (own:List Str)(elt:CE)(cls:List Cl) |app (o e:CE) |popAt (o e:CE) |cnt (o e:CE)
inductive CI where
 |val (a:CE) |r1 (a:CE) |r2 (a b:CE) |dn (a:CE) |en (a:CE)
inductive Cl where
 |mk (tg:Tg) (it:CI) (cond:Option CE)
end
abbrev ai:CE->Bool
 |.lst _=>aN |.comp _ _ _=>aN |.listOf _=>aN |.listR _=>aN |.srt _=>aN
 |_=>aS
abbrev LF:Nat:=1000000
abbrev xNo{b:Type}:Rho->Sto->Option (b × Sto):=λ_ _=>aD
abbrev mE(x:XE):XA:=λc S=>bnd (x c S) λd b=>(ao d b).map λr=>(r.2,b)
abbrev cD(T:Bool)(d:List D):Option (List D):=if T=aS then uV T d else aD
abbrev yT(f:Bool->List D->Option (List D))(x:XA):XA:=λb S=>bnd (x b S) λd c=>(f aS d).map λE=>(E,c)
abbrev yU(f:Bool->List D->Option (List D))(x:XE):XA:=λc S=>bnd (x c S) λd b=>match ao d b with
 |some r=>(f r.1 r.2).map λE=>(E,b)
 |none=>aD
abbrev yV(x:XE):XA:=λb S=>bnd (x b S) λd c=>match d with
 |.int i=>if 0<=i/\i<=1000 then aw ((Zk i.toNat).map λj=>.int (Int.ofNat j),c) else aD
 |_=>aD
abbrev Bo:XE:=λ_ S=>aw (.ref S.length,S++[.dic [] []])
abbrev cnd(t:CE->XT):Option CE->XA->XA
 |some c,x=>A8 (t c) x
 |none,x=>x
abbrev opt(t:CE->XE):Option CE->XO
 |some l=>uJ (t l)
 |none=>uI
mutual
noncomputable def evE(C:Calls)(h:Nat->Nat):Nat->CE->XE
 |0,_=>xNo
 |n+1,e=>match e with
  |.non=>xC .non
  |.bl b=>xC (.bl b)
  |.int i=>xC (.int i)
  |.str x=>xC (.str x)
  |.var i=>yt i
  |.con _ v=>xC (.int v)
  |.tup es=>kK kL (evA C h n es)
  |.lst es=>dB (oJ (evA C h n es))
  |.dic0=>Bo
  |.bin o a b=>r9 (bL o) (evE C h n a) (evE C h n b)
  |.neg a=>xUn JU (evE C h n a)
  |.cmp o a b=>r9 (ak o) (evE C h n a) (evE C h n b)
  |.chn o p a b c=>yP (ak o) (ak p) (evE C h n a) (evE C h n b) (evE C h n c)
  |.and a b=>Bb (evE C h n a) (evE C h n b)
  |.or a b=>xOr (evE C h n a) (evE C h n b)
  |.not a=>xUn yO (evE C h n a)
  |.ite c a b=>JV (evT C h n c) (evE C h n a) (evE C h n b)
  |.ix a b=>if ai a=aN then uF (cb C h n a) (evE C h n b) else r9 ixS (evE C h n a) (evE C h n b)
  |.sl a lo hi=>xSl (evE C h n a) (opt (evE C h n) lo) (opt (evE C h n) hi)
  |.call f es=>kh (C f) (h f) (evA C h n es)
  |.cal2 f g i es=>Bh (C f) (C g) (h f) (h g) (evE C h n i) (evA C h n es)
  |.inst t a=>xUn (hV t) (evE C h n a)
  |.len a=>if ai a=aN then ma ca (cb C h n a) else md ca (evE C h n a)
  |.all a=>if ai a=aN then ma kN (cb C h n a) else md kN (evE C h n a)
  |.any a=>if ai a=aN then ma n6 (cb C h n a) else md n6 (evE C h n a)
  |.tupOf a=>if ai a=aN then ma cL (cb C h n a) else md cL (evE C h n a)
  |.listOf a=>dB (if ai a=aN then cb C h n a else mE (evE C h n a))
  |.listR a=>dB (yV (evE C h n a))
  |.srt a=>dB (if ai a=aN then yT cD (cb C h n a) else yU cD (evE C h n a))
  |.mxL a=>if ai a=aN then ma n9 (cb C h n a) else md n9 (evE C h n a)
  |.mxD a c=>if ai a=aN then ma (eA c) (cb C h n a) else md (eA c) (evE C h n a)
  |.sm a=>if ai a=aN then ma oe (cb C h n a) else md oe (evE C h n a)
  |.rev a=>xUn uN (evE C h n a)
  |.mnN a=>if ai a=aN then ma oi (cb C h n a) else md oi (evE C h n a)
  |.intOf a=>xUn uX (evE C h n a)
  |.mx a b=>kK (two AI) (evA C h n [a,b])
  |.mn a b=>kK (two AJ) (evA C h n [a,b])
  | .comp own elt cls=>dB (match cls with
   |[]=>xNo
   | ⟨tg,it,cond⟩::rest=>mB own.length (evI C h n it) tg (cnd (evT C h n) cond (gZ C h n elt rest)) LF)
  |.app o a=>AU fU sD (evE C h n o) (evA C h n [a])
  |.popAt o a=>AU fU eU (evE C h n o) (evA C h n [a])
  |.cnt o a=>AU (λd _=>isTup d) u0 (evE C h n o) (evA C h n [a])
noncomputable def evA(C:Calls)(b:Nat->Nat):Nat->List CE->XA
 |0,_=>xNo
 |n+1,es=>match es with
  |[]=>Ea
  |e::es=>wG (evE C b n e) (evA C b n es)
noncomputable def cb(C:Calls)(b:Nat->Nat):Nat->CE->XA
 |0,_=>xNo
 |n+1,e=>match e with
  |.lst es=>oJ (evA C b n es)
  |.listOf a=>if ai a=aN then cb C b n a else mE (evE C b n a)
  |.listR a=>yV (evE C b n a)
  |.srt a=>if ai a=aN then yT cD (cb C b n a) else yU cD (evE C b n a)
  |.comp own elt cls=>match cls with
   |[]=>xNo
   |⟨tg,it,cond⟩::rest=>mB own.length (evI C b n it) tg (cnd (evT C b n) cond (gZ C b n elt rest)) LF
  |_=>xNo
noncomputable def gZ(C:Calls)(b:Nat->Nat):Nat->CE->List Cl->XA
 |0,_,_=>xNo
 |n+1,elt,cls=>match cls with
  |[]=>HB (evE C b n elt)
  |⟨tg,it,cond⟩::rest=>jJ (evI C b n it) tg (cnd (evT C b n) cond (gZ C b n elt rest)) LF
noncomputable def evI(C:Calls)(c:Nat->Nat):Nat->CI->XI
 |0,_=>xNo
 |n+1,it=>match it with
  |.val a=>if ai a=aN then xIT (cb C c n a) else xIV (evE C c n a)
  |.r1 a=>xR1 (evE C c n a)
  |.dn a=>xDn (evE C c n a)
  |.r2 a b=>xR2 (evE C c n a) (evE C c n b)
  |.en a=>if ai a=aN then xET (cb C c n a) else xEV (evE C c n a)
noncomputable def evT(C:Calls)(d:Nat->Nat):Nat->CE->XT
 |0,_=>xNo
 |n+1,e=>match e with
  |.cmp o a b=>xB (r9 (ak o) (evE C d n a) (evE C d n b))
  |.chn o p a b c=>xB (yP (ak o) (ak p) (evE C d n a) (evE C d n b) (evE C d n c))
  |.and a b=>Be (evT C d n a) (evT C d n b)
  |.or a b=>JY (evT C d n a) (evT C d n b)
  |.not a=>Bf (evT C d n a)
  |.ite _ _ _=>xNo
  |e=>El (evE C d n e)
end
abbrev i7:List Str:=["len", "isinstance", "all", "any", "tuple", "list", "max", "min", "repr", "range", "enumerate", "int", "bool", "str", "sorted", "zip", "sum"]
structure Tab where
 con:List (Str × Int)
 fns:List (Str × Nat)
structure Blk where
 sc:Scope
 fs:Option Scope
 N:List Str
abbrev Blk.glo(b:Blk)(x:Str):Bool:=b.sc.names.lookup x == aw .globalImplicit && !(x == ("__debug__" : Str))
abbrev Blk.vis(b:Blk)(x:Str):Bool:=(match b.sc.names.lookup x with
 |some .local=>aN
 |some .cell=>aN
 |some .free=>aN
 | _=>aS) && !(x == ("__debug__" : Str)) && !(x == ("__classdict__" : Str))
abbrev Blk.own(b:Blk)(x:Str):Bool:=match b.sc.names.lookup x with
 |some .local=>aN
 | some .cell=>(match b.fs with
  |none=>aN
  | some sc=>sc.names.lookup x == aw .cell)
 |_=>aS
def bN{P:Prop}[Decidable P]{f:P->Bool}(h:(if p:P then f p else aS)=aN):∃p,f p=aN:=by
 by_cases p:P
 ·rw[dif_pos p] at h;exact⟨p,h⟩
 ·rw[dif_neg p] at h;cases h
def an2{a b:Bool}(h:(a && b)=aN):a=aN/\b=aN:=by cases a;cases h;exact⟨rfl,h⟩
def an3{a b c:Bool}(h:(a && b && c)=aN):a=aN/\b=aN/\c=aN:=⟨(an2 (an2 h).1).1,(an2 (an2 h).1).2,(an2 h).2⟩
def an4{a b c d:Bool}(h:(a && b && c && d)=aN):a=aN/\b=aN/\c=aN/\d=aN:=⟨(an3 (an2 h).1).1,(an3 (an2 h).1).2.1,(an3 (an2 h).1).2.2,(an2 h).2⟩
def an5{a b c d e:Bool}(h:(a && b && c && d && e)=aN):a=aN/\b=aN/\c=aN/\d=aN/\e=aN:=⟨(an4 (an2 h).1).1,(an4 (an2 h).1).2.1,(an4 (an2 h).1).2.2.1,(an4 (an2 h).1).2.2.2,(an2 h).2⟩
def an6{a b c d e f:Bool}(h:(a && b && c && d && e && f)=aN):a=aN/\b=aN/\c=aN/\d=aN/\e=aN/\f=aN:=⟨(an5 (an2 h).1).1,(an5 (an2 h).1).2.1,(an5 (an2 h).1).2.2.1,(an5 (an2 h).1).2.2.2.1,(an5 (an2 h).1).2.2.2.2,(an2 h).2⟩
abbrev l1{b:Type}(l:List b)(k:b->Bool):Bool:=match l with
 |[]=>aS
 |x::t=>t.isEmpty && k x
abbrev lC{b:Type}(l:List b)(k:b->List b->Bool):Bool:=match l with
 |[]=>aS
 |x::t=>k x t
def dD{b:Type}{l:List b}{k:b->List b->Bool}(h:lC l k=aN):∃x t,l=x::t/\k x t=aN:=by
 cases l with
 |nil=>cases h
 |cons x t=>exact⟨x,t,rfl,h⟩
def eW{b:Type}{l:List b}(h:l.isEmpty=aN):l=[]:=by cases l;rfl;cases h
def g5{b:Type}{l:List b}{k:b->Bool}(h:l1 l k=aN):∃x,l=[x]/\k x=aN:=by
 cases l with
 |nil=>cases h
 |cons x t=>obtain⟨d,c⟩:=an2 h;cases eW d;exact⟨x,rfl,c⟩
abbrev aH(e:Expr):Bool:=!(e.ctorIdx == 22 || e.ctorIdx == 26 || e.ctorIdx == 7)
abbrev qz(e:Expr)(k:BoolOp->List Expr->Pos->Bool):Bool:=if h:e.ctorIdx=0 then @Expr.BoolOp.elim (λ_=>Bool) e h k else aS
def oW{e:Expr}{k:BoolOp->List Expr->Pos->Bool}(h:qz e k=aN):∃b c X,e = .BoolOp b c X/\k b c X=aN:=by
 obtain⟨d,h⟩:=bN h;exact Expr.BoolOp.elim (motive_1:=λe=>∀j,@Expr.BoolOp.elim (λ_=>Bool) e j k=aN->∃b c X,e = .BoolOp b c X/\k b c X=aN) e d (λb c X _ f=>⟨b,c,X,rfl,f⟩) d h
abbrev Bp(e:Expr)(k:Expr->Va->Expr->Pos->Bool):Bool:=if h:e.ctorIdx=2 then @Expr.BinOp.elim (λ_=>Bool) e h k else aS
def Bq{e:Expr}{k:Expr->Va->Expr->Pos->Bool}(h:Bp e k=aN):∃c d b X,e = .BinOp c d b X/\k c d b X=aN:=by
 obtain⟨f,h⟩:=bN h;exact Expr.BinOp.elim (motive_1:=λe=>∀n,@Expr.BinOp.elim (λ_=>Bool) e n k=aN->∃c d b X,e = .BinOp c d b X/\k c d b X=aN) e f (λc d b X _ j=>⟨c,d,b,X,rfl,j⟩) f h
abbrev i8(e:Expr)(k:UnaryOp->Expr->Pos->Bool):Bool:=if h:e.ctorIdx=3 then @Expr.UnaryOp.elim (λ_=>Bool) e h k else aS
def mF{e:Expr}{k:UnaryOp->Expr->Pos->Bool}(h:i8 e k=aN):∃b c X,e = .UnaryOp b c X/\k b c X=aN:=by
 obtain⟨d,h⟩:=bN h;exact Expr.UnaryOp.elim (motive_1:=λe=>∀j,@Expr.UnaryOp.elim (λ_=>Bool) e j k=aN->∃b c X,e = .UnaryOp b c X/\k b c X=aN) e d (λb c X _ f=>⟨b,c,X,rfl,f⟩) d h
abbrev Br(e:Expr)(k:Expr->Expr->Expr->Pos->Bool):Bool:=if h:e.ctorIdx=5 then @Expr.IfExp.elim (λ_=>Bool) e h k else aS
def Bs{e:Expr}{k:Expr->Expr->Expr->Pos->Bool}(h:Br e k=aN):∃c d b X,e = .IfExp c d b X/\k c d b X=aN:=by
 obtain⟨f,h⟩:=bN h;exact Expr.IfExp.elim (motive_1:=λe=>∀n,@Expr.IfExp.elim (λ_=>Bool) e n k=aN->∃c d b X,e = .IfExp c d b X/\k c d b X=aN) e f (λc d b X _ j=>⟨c,d,b,X,rfl,j⟩) f h
abbrev HF(e:Expr)(k:List (Option Expr)->List Expr->Pos->Bool):Bool:=if h:e.ctorIdx=6 then @Expr.Dict.elim (λ_=>Bool) e h k else aS
def EF{e:Expr}{k:List (Option Expr)->List Expr->Pos->Bool}(h:HF e k=aN):∃b c X,e = .Dict b c X/\k b c X=aN:=by
 obtain⟨d,h⟩:=bN h;exact Expr.Dict.elim (motive_1:=λe=>∀j,@Expr.Dict.elim (λ_=>Bool) e j k=aN->∃b c X,e = .Dict b c X/\k b c X=aN) e d (λb c X _ f=>⟨b,c,X,rfl,f⟩) d h
abbrev jK(e:Expr)(k:Expr->List WM->Scope->Pos->Bool):Bool:=if h:e.ctorIdx=8 then @Expr.ListComp.elim (λ_=>Bool) e h k else aS
def kj{e:Expr}{k:Expr->List WM->Scope->Pos->Bool}(h:jK e k=aN):∃c d b X,e = .ListComp c d b X/\k c d b X=aN:=by
 obtain⟨f,h⟩:=bN h;exact Expr.ListComp.elim (motive_1:=λe=>∀n,@Expr.ListComp.elim (λ_=>Bool) e n k=aN->∃c d b X,e = .ListComp c d b X/\k c d b X=aN) e f (λc d b X _ j=>⟨c,d,b,X,rfl,j⟩) f h
abbrev mG(e:Expr)(k:Expr->List CmpOp->List Expr->Pos->Bool):Bool:=if h:e.ctorIdx=15 then @Expr.Compare.elim (λ_=>Bool) e h k else aS
def mH{e:Expr}{k:Expr->List CmpOp->List Expr->Pos->Bool}(h:mG e k=aN):∃c d b X,e = .Compare c d b X/\k c d b X=aN:=by
 obtain⟨f,h⟩:=bN h;exact Expr.Compare.elim (motive_1:=λe=>∀n,@Expr.Compare.elim (λ_=>Bool) e n k=aN->∃c d b X,e = .Compare c d b X/\k c d b X=aN) e f (λc d b X _ j=>⟨c,d,b,X,rfl,j⟩) f h
abbrev sL(e:Expr)(k:Expr->List Expr->List Keyword->Pos->Bool):Bool:=if h:e.ctorIdx=16 then @Expr.Call.elim (λ_=>Bool) e h k else aS
def qA{e:Expr}{k:Expr->List Expr->List Keyword->Pos->Bool}(h:sL e k=aN):∃c d b X,e = .Call c d b X/\k c d b X=aN:=by
 obtain⟨f,h⟩:=bN h;exact Expr.Call.elim (motive_1:=λe=>∀n,@Expr.Call.elim (λ_=>Bool) e n k=aN->∃c d b X,e = .Call c d b X/\k c d b X=aN) e f (λc d b X _ j=>⟨c,d,b,X,rfl,j⟩) f h
abbrev eB(e:Expr)(k:Const->Nat->Pos->Bool):Bool:=if h:e.ctorIdx=19 then @Expr.Constant.elim (λ_=>Bool) e h k else aS
def dj{e:Expr}{k:Const->Nat->Pos->Bool}(h:eB e k=aN):∃b c X,e = .Constant b c X/\k b c X=aN:=by
 obtain⟨d,h⟩:=bN h;exact Expr.Constant.elim (motive_1:=λe=>∀j,@Expr.Constant.elim (λ_=>Bool) e j k=aN->∃b c X,e = .Constant b c X/\k b c X=aN) e d (λb c X _ f=>⟨b,c,X,rfl,f⟩) d h
abbrev mI(e:Expr)(k:Expr->Str->Pos->Bool):Bool:=if h:e.ctorIdx=20 then @Expr.Attribute.elim (λ_=>Bool) e h k else aS
def qB{e:Expr}{k:Expr->Str->Pos->Bool}(h:mI e k=aN):∃b c X,e = .Attribute b c X/\k b c X=aN:=by
 obtain⟨d,h⟩:=bN h;exact Expr.Attribute.elim (motive_1:=λe=>∀j,@Expr.Attribute.elim (λ_=>Bool) e j k=aN->∃b c X,e = .Attribute b c X/\k b c X=aN) e d (λb c X _ f=>⟨b,c,X,rfl,f⟩) d h
abbrev cW(e:Expr)(k:Expr->Expr->Pos->Bool):Bool:=if h:e.ctorIdx=21 then @Expr.Subscript.elim (λ_=>Bool) e h k else aS
def cM{e:Expr}{k:Expr->Expr->Pos->Bool}(h:cW e k=aN):∃b c X,e = .Subscript b c X/\k b c X=aN:=by
 obtain⟨d,h⟩:=bN h;exact Expr.Subscript.elim (motive_1:=λe=>∀j,@Expr.Subscript.elim (λ_=>Bool) e j k=aN->∃b c X,e = .Subscript b c X/\k b c X=aN) e d (λb c X _ f=>⟨b,c,X,rfl,f⟩) d h
abbrev sM(e:Expr)(k:Str->Pos->Bool):Bool:=if h:e.ctorIdx=23 then @Expr.Name.elim (λ_=>Bool) e h k else aS
def k6{e:Expr}{k:Str->Pos->Bool}(h:sM e k=aN):∃X b,e = .Name X b/\k X b=aN:=by
 obtain⟨c,h⟩:=bN h;exact Expr.Name.elim (motive_1:=λe=>∀f,@Expr.Name.elim (λ_=>Bool) e f k=aN->∃X b,e = .Name X b/\k X b=aN) e c (λX b _ d=>⟨X,b,rfl,d⟩) c h
abbrev HG(e:Expr)(k:List Expr->Pos->Bool):Bool:=if h:e.ctorIdx=24 then @Expr.List.elim (λ_=>Bool) e h k else aS
def wW{e:Expr}{k:List Expr->Pos->Bool}(h:HG e k=aN):∃X b,e = .List X b/\k X b=aN:=by
 obtain⟨c,h⟩:=bN h;exact Expr.List.elim (motive_1:=λe=>∀f,@Expr.List.elim (λ_=>Bool) e f k=aN->∃X b,e = .List X b/\k X b=aN) e c (λX b _ d=>⟨X,b,rfl,d⟩) c h
abbrev Bt(e:Expr)(k:List Expr->Nat->Pos->Bool):Bool:=if h:e.ctorIdx=25 then @Expr.Tuple.elim (λ_=>Bool) e h k else aS
def Bu{e:Expr}{k:List Expr->Nat->Pos->Bool}(h:Bt e k=aN):∃b c X,e = .Tuple b c X/\k b c X=aN:=by
 obtain⟨d,h⟩:=bN h;exact Expr.Tuple.elim (motive_1:=λe=>∀j,@Expr.Tuple.elim (λ_=>Bool) e j k=aN->∃b c X,e = .Tuple b c X/\k b c X=aN) e d (λb c X _ f=>⟨b,c,X,rfl,f⟩) d h
abbrev vh(e:Expr)(k:Option Expr->Option Expr->Option Expr->Pos->Bool):Bool:=if h:e.ctorIdx=26 then @Expr.Slice.elim (λ_=>Bool) e h k else aS
def sN{e:Expr}{k:Option Expr->Option Expr->Option Expr->Pos->Bool}(h:vh e k=aN):∃c d b X,e = .Slice c d b X/\k c d b X=aN:=by
 obtain⟨f,h⟩:=bN h;exact Expr.Slice.elim (motive_1:=λe=>∀n,@Expr.Slice.elim (λ_=>Bool) e n k=aN->∃c d b X,e = .Slice c d b X/\k c d b X=aN) e f (λc d b X _ j=>⟨c,d,b,X,rfl,j⟩) f h
abbrev vm(e:Expr):Bool:=!(e.ctorIdx == 22 || sL e λf E k _=>f.ctorIdx == 23 && E.isEmpty && k.isEmpty)
abbrev J3(e:Expr):Bool:=!(e.ctorIdx == 0 || e.ctorIdx == 5 || e.ctorIdx == 15 || i8 e λo _ _=>decide (o = .Not))
abbrev mJ(own N:List Str):List Nat:=(Zk N.length).filter λi=>match N[i]? with
 |some x=>own.contains x
 |none=>aS
abbrev Blk.inner(b:Blk)(own:List Str)(c:Scope):Blk:=⟨fO c b.sc,aw c,cU (mJ own b.N) b.N++own⟩
abbrev Bv(e:Expr):Option (Str × Pos):=if h:e.ctorIdx=23 then aw (@Expr.Name.elim (λ_=>Str × Pos) e h λx p=>(x,p)) else aD
abbrev yW(e:Expr):Option (List Expr × Nat × Pos):=if h:e.ctorIdx=25 then aw (@Expr.Tuple.elim (λ_=>List Expr × Nat × Pos) e h λE k p=>(E,k,p)) else aD
def HH{b:Type}{P:Prop}[Decidable P]{f:P->b}{r:b}(h:(if p:P then aw (f p) else aD)=aw r):∃p,f p=r:=by
 by_cases p:P
 ·rw[dif_pos p] at h;cases h;exact⟨p,rfl⟩
 ·rw[dif_neg p] at h;cases h
def qC{e:Expr}{x:Str}{p:Pos}(h:Bv e=aw (x,p)):e = .Name x p:=by
 obtain⟨b,h⟩:=HH h;exact Expr.Name.elim (motive_1:=λe=>∀d,Expr.Name.elim (motive_1:=λ_=>Str × Pos) e d (λx p=>(x,p))=(x,p)->e = .Name x p) e b (λ_ _ _ c=>by cases c;rfl) b h
def qD{e:Expr}{E:List Expr}{k:Nat}{p:Pos}(h:yW e=aw (E,k,p)):e = .Tuple E k p:=by
 obtain⟨b,h⟩:=HH h;exact Expr.Tuple.elim (motive_1:=λe=>∀d,Expr.Tuple.elim (motive_1:=λ_=>List Expr × Nat × Pos) e d (λE k p=>(E,k,p))=(E,k,p)->e = .Tuple E k p) e b (λ_ _ _ _ c=>by cases c;rfl) b h
abbrev oA{b:Type}(o:Option b)(k:b->Bool):Bool:=match o with
 |some r=>k r
 |none=>aS
def sO{b:Type}{o:Option b}{k:b->Bool}(h:oA o k=aN):∃r,o=aw r/\k r=aN:=by
 cases o with
 |none=>cases h
 |some r=>exact⟨r,rfl,h⟩
def Bw{a b:Bool}(h:(a || b)=aN):a=aN\/b=aN:=by cases a;exact .inr h;exact .inl rfl
mutual
noncomputable def vn(b:Blk)(e:Expr):Tg->Bool
 |.name i=>oA (Bv e) λr=>b.N[i]? == aw r.1 && b.own r.1
 |.tup ts=>oA (yW e) λr=>mL b r.1 ts
noncomputable def mL(b:Blk)(E:List Expr):List Tg->Bool
 |[]=>E.isEmpty
 |t::ts=>lC E λe E=>vn b e t && aH e && mL b E ts
end
abbrev J4(e:Expr):Bool:=eB e λc _ _=>decide (c = .none)
abbrev sBl(v:Bool)(e:Expr):Bool:=eB e λc _ _=>decide (c = .bool v)
abbrev mM(v:Int)(e:Expr):Bool:=eB e λc _ _=>decide (c = .int v)
abbrev Op(v:Str)(e:Expr):Bool:=eB e λc _ _=>decide (c = .str v)
abbrev wX(k:Str->Bool)(e:Expr):Bool:=sM e λx _=>k x
abbrev J5(k:List Expr->Bool)(e:Expr):Bool:=Bt e λE _ _=>k E
abbrev J6(k:List Expr->Bool)(e:Expr):Bool:=HG e λE _=>k E
abbrev Oq(o:Va)(k l:Expr->Bool)(e:Expr):Bool:=Bp e λx op y _=>decide (op=o) && k x && l y
abbrev sP(k:Expr->Bool)(e:Expr):Bool:=i8 e λo x _=>decide (o = .USub) && k x
abbrev J7(k:Expr->Bool)(e:Expr):Bool:=i8 e λo x _=>decide (o = .Not) && k x
abbrev J8(o:CmpOp)(k l:Expr->Bool)(e:Expr):Bool:=mG e λx os Y _=>l1 os λop=>l1 Y λy=>decide (op=o) && k x && l y && aH y
abbrev J9(o p:CmpOp)(k l m:Expr->Bool)(e:Expr):Bool:=mG e λx os Y _=>lC os λop os=>l1 os λO=>lC Y λy Y=>l1 Y λz=>decide (op=o) && decide (O=p) && k x && l y && m z && aH z
abbrev Bx(o:BoolOp)(k l:Expr->Bool)(e:Expr):Bool:=qz e λop v _=>lC v λx v=>l1 v λy=>decide (op=o) && k x && l y
abbrev Bz(o:BoolOp)(k l:Expr->Bool)(e:Expr):Bool:=qz e λop v p=>lC v λx v=>lC v λy v=>lC v λz Y=>decide (op=o) && k x && l (.BoolOp o (y::z::Y) p)
abbrev Ot(k l m:Expr->Bool)(e:Expr):Bool:=Br e λx y z _=>k x && l y && m z
abbrev sIx(k l:Expr->Bool)(e:Expr):Bool:=cW e λx y _=>k x && l y && aH y
abbrev sSl(k:Expr->Bool)(l m:Option Expr->Bool)(e:Expr):Bool:=cW e λx s _=>vh s λy z w _=>w.isNone && k x && l y && m z
abbrev Ou(k:Expr->Bool)(e:Expr):Bool:=cW e λx s _=>vh s λy z w _=>y.isNone && z.isNone && k x && oA w λe=>sP (mM 1) e
abbrev sCN(e:Expr)(k:Str->List Expr->List Keyword->Bool):Bool:=sL e λf E b _=>sM f λx _=>k x E b
abbrev HI(k:Str->Bool)(l:List Expr->Bool)(e:Expr):Bool:=sCN e λx E b=>lC E λe E=>b.isEmpty && k x && l (e::E)
abbrev vq(b:Blk)(f:Str)(k:List Expr->Bool)(e:Expr):Bool:=sCN e λx E c=>lC E λe E=>c.isEmpty && x == f && b.glo x && k (e::E)
abbrev bX(b:Blk)(f:Str)(k:Expr->Bool)(e:Expr):Bool:=sCN e λx E c=>l1 E λe=>c.isEmpty && x == f && b.glo x && k e && aH e
abbrev Ov(c:Int)(k:List Keyword):Bool:=l1 k λw=>w.arg == aw (Str.ofString "default") && (mM c w.value || sP (mM (-c)) w.value)
abbrev HJ(b:Blk)(k:Expr->Bool)(e:Expr):Bool:=sCN e λx E c=>l1 E λe=>(l1 c λw=>w.arg == aw (Str.ofString "default") && J4 w.value) && x == "min" && b.glo x && k e && aH e
abbrev sDn(b:Blk)(k:Expr->Bool)(e:Expr):Bool:=sCN e λx E h=>lC E λc E=>lC E λd E=>l1 E λf=>h.isEmpty && x == "range" && b.glo x && (k c && aH c && sP (mM 1) d && sP (mM 1) f)
abbrev HK(b:Blk)(c:Int)(k:Expr->Bool)(e:Expr):Bool:=sCN e λx E d=>l1 E λe=>Ov c d && x == "max" && b.glo x && k e && aH e
abbrev vt(b:Blk)(f:Str)(k l:Expr->Bool)(e:Expr):Bool:=sCN e λx E d=>lC E λe E=>l1 E λc=>d.isEmpty && (x == f && b.glo x && k e && aH e && l c && aH c)
abbrev EG(m:Str)(k:Expr->Bool)(l:List Expr->Bool)(e:Expr):Bool:=sL e λf E b p=>mI f λx d c=>b.isEmpty && d == m && vm x && (c.endLine == p.line) && k x && l E
abbrev HL(k:Expr->Expr->Expr->List Expr->List WM->Scope->Bool)(e:Expr):Bool:=jK e λe gs b _=>lC gs λg gs=>decide (g.is_async=0) && k e g.target g.iter g.ifs gs b
abbrev HM(e:Expr):Bool:=HF e λk v _=>k.isEmpty && v.isEmpty
def bE{x y:Str}(h:(x == y)=aN):x=y:=eq_of_beq h
section
variable {e:Expr} {k l m:Expr->Bool}
def BA(h:J4 e=aN):∃a p,e = .Constant .none a p:=by
 obtain⟨c,a,p,rfl,h⟩:=dj h;cases of_decide_eq_true h;exact⟨a,p,rfl⟩
def Ow{v:Bool}(h:sBl v e=aN):∃a p,e = .Constant (.bool v) a p:=by
 obtain⟨c,a,p,rfl,h⟩:=dj h;cases of_decide_eq_true h;exact⟨a,p,rfl⟩
def jL{v:Int}(h:mM v e=aN):∃a p,e = .Constant (.int v) a p:=by
 obtain⟨c,a,p,rfl,h⟩:=dj h;cases of_decide_eq_true h;exact⟨a,p,rfl⟩
def Ka{v:Str}(h:Op v e=aN):∃a p,e = .Constant (.str v) a p:=by
 obtain⟨c,a,p,rfl,h⟩:=dj h;cases of_decide_eq_true h;exact⟨a,p,rfl⟩
def qE{k:Str->Bool}(h:wX k e=aN):∃x p,e = .Name x p/\k x=aN:=k6 h
def BC{k:List Expr->Bool}(h:J5 k e=aN):∃x a p,e = .Tuple x a p/\k x=aN:=Bu h
def Kb{k:List Expr->Bool}(h:J6 k e=aN):∃x p,e = .List x p/\k x=aN:=wW h
def Kc{o:Va}(h:Oq o k l e=aN):∃x y p,e = .BinOp x o y p/\k x=aN/\l y=aN:=by
 obtain⟨x,op,y,p,rfl,h⟩:=Bq h;obtain⟨b,z⟩:=an3 h;cases of_decide_eq_true b;exact⟨x,y,p,rfl,z⟩
def mN(h:sP k e=aN):∃x p,e = .UnaryOp .USub x p/\k x=aN:=by
 obtain⟨op,x,p,rfl,h⟩:=mF h;obtain⟨b,z⟩:=an2 h;cases of_decide_eq_true b;exact⟨x,p,rfl,z⟩
def BD(h:J7 k e=aN):∃x p,e = .UnaryOp .Not x p/\k x=aN:=by
 obtain⟨op,x,p,rfl,h⟩:=mF h;obtain⟨b,z⟩:=an2 h;cases of_decide_eq_true b;exact⟨x,p,rfl,z⟩
def BE{o:CmpOp}(h:J8 o k l e=aN):∃x y p,e = .Compare x [o] [y] p/\k x=aN/\l y=aN/\aH y=aN:=by
 obtain⟨x,os,Y,p,rfl,h⟩:=mH h;obtain⟨op,rfl,h⟩:=g5 h;obtain⟨y,rfl,h⟩:=g5 h;obtain⟨b,z⟩:=an4 h;cases of_decide_eq_true b;exact⟨x,y,p,rfl,z⟩
def BF{o p:CmpOp}(h:J9 o p k l m e=aN):∃x y z q,e = .Compare x [o,p] [y,z] q/\k x=aN/\l y=aN/\m z=aN/\aH z=aN:=by
 obtain⟨x,os,Y,q,rfl,h⟩:=mH h;obtain⟨op,os,rfl,h⟩:=dD h;obtain⟨O,rfl,h⟩:=g5 h;obtain⟨y,Y,rfl,h⟩:=dD h;obtain⟨z,rfl,h⟩:=g5 h;obtain⟨c,b,Z⟩:=an6 h;cases of_decide_eq_true c;cases of_decide_eq_true b;exact⟨x,y,z,q,rfl,Z⟩
def qF{o:BoolOp}(h:Bx o k l e=aN):∃x y p,e = .BoolOp o [x,y] p/\k x=aN/\l y=aN:=by
 obtain⟨op,v,p,rfl,h⟩:=oW h;obtain⟨x,v,rfl,h⟩:=dD h;obtain⟨y,rfl,h⟩:=g5 h;obtain⟨b,z⟩:=an3 h;cases of_decide_eq_true b;exact⟨x,y,p,rfl,z⟩
def qG{o:BoolOp}(h:Bz o k l e=aN):∃x y z Y p,e = .BoolOp o (x::y::z::Y) p/\k x=aN/\l (.BoolOp o (y::z::Y) p)=aN:=by
 obtain⟨op,v,p,rfl,h⟩:=oW h;obtain⟨x,v,rfl,h⟩:=dD h;obtain⟨y,v,rfl,h⟩:=dD h;obtain⟨z,v,rfl,h⟩:=dD h;obtain⟨b,Z⟩:=an3 h;cases of_decide_eq_true b;exact⟨x,y,z,v,p,rfl,Z⟩
def Kd(h:Ot k l m e=aN):∃x y z p,e = .IfExp x y z p/\k x=aN/\l y=aN/\m z=aN:=by
 obtain⟨x,y,z,p,rfl,h⟩:=Bs h;exact⟨x,y,z,p,rfl,an3 h⟩
def HN(h:sIx k l e=aN):∃x y p,e = .Subscript x y p/\k x=aN/\l y=aN/\aH y=aN:=by
 obtain⟨x,y,p,rfl,h⟩:=cM h;exact⟨x,y,p,rfl,an3 h⟩
def Ox{l m:Option Expr->Bool}(h:sSl k l m e=aN):∃x y z p q,e = .Subscript x (.Slice y z aD p) q/\k x=aN/\l y=aN/\m z=aN:=by
 obtain⟨x,s,q,rfl,h⟩:=cM h;obtain⟨y,z,w,p,rfl,h⟩:=sN h;obtain⟨b,Z⟩:=an4 h;cases w;exact⟨x,y,z,p,q,rfl,Z⟩;cases b
def Ke(h:Ou k e=aN):∃x n p d b c,e = .Subscript x (.Slice aD aD (aw (.UnaryOp .USub (.Constant (.int 1) n b) c)) d) p/\k x=aN:=by
 obtain⟨x,s,q,rfl,h⟩:=cM h;obtain⟨y,z,w,p,rfl,h⟩:=sN h;obtain⟨B,f,C,h4⟩:=an4 h;obtain⟨u,rfl,h4⟩:=sO h4;obtain⟨v,c,rfl,j⟩:=mN h4;obtain⟨n,b,rfl⟩:=jL j;cases y <;> cases z <;> first |exact⟨x,n,q,p,b,c,rfl,C⟩ |(cases B;done) |(cases f;done)
def mO{k:Str->List Expr->List Keyword->Bool}(h:sCN e k=aN):∃x p E b q,e = .Call (.Name x p) E b q/\k x E b=aN:=by
 obtain⟨f,E,b,q,rfl,h⟩:=qA h;obtain⟨x,p,rfl,h⟩:=k6 h;exact⟨x,p,E,b,q,rfl,h⟩
def EH{k:Str->Bool}{l:List Expr->Bool}(h:HI k l e=aN):∃x X E p q,e = .Call (.Name x p) (X::E) [] q/\k x=aN/\l (X::E)=aN:=by
 obtain⟨x,p,E,c,q,rfl,h⟩:=mO h;obtain⟨X,E,rfl,h⟩:=dD h;obtain⟨b,z⟩:=an3 h;cases eW b;exact⟨x,X,E,p,q,rfl,z⟩
def sQ{b:Blk}{f:Str}{k:List Expr->Bool}(h:vq b f k e=aN):∃x E p q,e = .Call (.Name f p) (x::E) [] q/\b.glo f=aN/\k (x::E)=aN:=by
 obtain⟨x,p,E,j,q,rfl,h⟩:=mO h;obtain⟨X,E,rfl,h⟩:=dD h;obtain⟨d,c,z⟩:=an4 h;cases eW d;cases bE c;exact⟨X,E,p,q,rfl,z⟩
def bh{b:Blk}{f:Str}(h:bX b f k e=aN):∃x p q,e = .Call (.Name f p) [x] [] q/\b.glo f=aN/\k x=aN/\aH x=aN:=by
 obtain⟨x,p,E,j,q,rfl,h⟩:=mO h;obtain⟨X,rfl,h⟩:=g5 h;obtain⟨d,c,z⟩:=an5 h;cases eW d;cases bE c;exact⟨X,p,q,rfl,z⟩
def Kf{c:Int}{b:List Keyword}(h:Ov c b=aN):∃v q,b=[⟨aw "default", v,q⟩]/\(mM c v || sP (mM (-c)) v)=aN:=by
 obtain⟨⟨a,v,q⟩,rfl,h⟩:=g5 h;obtain⟨d,z⟩:=an2 h;obtain E:=eq_of_beq d;exact⟨v,q,by rw[show a=_ from E],z⟩
def EI{b:Blk}{c:Int}(h:HK b c k e=aN):∃x p q v Q,e = .Call (.Name "max" p) [x] [⟨aw "default", v,Q⟩] q/\(mM c v || sP (mM (-c)) v)=aN/\b.glo "max" = aN/\k x=aN/\aH x=aN:=by
 obtain⟨x,p,E,n,q,rfl,h⟩:=mO h;obtain⟨X,rfl,h⟩:=g5 h;obtain⟨f,d,z⟩:=an5 h;obtain⟨v,Q,rfl,j⟩:=Kf f;cases bE d;exact⟨X,p,q,v,Q,rfl,j,z⟩
abbrev HP(k l:Str->Bool)(m:Expr->Bool)(a:List Expr->Bool)(e:Expr):Bool:=sL e λc E b _=>lC E λe E=>b.isEmpty && a (e::E) && sIx (J6 λw=>lC w λx w=>l1 w λy=>(sM x λx _=>k x) && sM y λy _=>l y) m c
def EJ{k l:Str->Bool}{m:Expr->Bool}{a:List Expr->Bool}(h:HP k l m a e=aN):∃x y p f L i j X E q,e = .Call (.Subscript (.List [.Name x p,.Name y f] L) i j) (X::E) [] q/\k x=aN/\l y=aN/\m i=aN/\aH i=aN/\a (X::E)=aN:=by
 obtain⟨c,E,C,q,rfl,h⟩:=qA h;obtain⟨X,E,rfl,h⟩:=dD h;obtain⟨z,u,B⟩:=an3 h;cases eW z;obtain⟨w,i,j,rfl,h4,v,n⟩:=HN B;obtain⟨w,L,rfl,h4⟩:=wW h4;obtain⟨x,w,rfl,h4⟩:=dD h4;obtain⟨y,rfl,h4⟩:=g5 h4;obtain⟨b,d⟩:=an2 h4;obtain⟨x,p,rfl,b⟩:=k6 b;obtain⟨y,f,rfl,d⟩:=k6 d;exact⟨x,y,p,f,L,i,j,X,E,q,rfl,b,d,v,n,u⟩
def EK{b:Blk}(h:HJ b k e=aN):∃x p q j c Q,e = .Call (.Name "min" p) [x] [⟨aw "default", .Constant .none j c,Q⟩] q/\b.glo "min" = aN/\k x=aN/\aH x=aN:=by
 obtain⟨x,p,B,C,q,rfl,h⟩:=mO h;obtain⟨X,rfl,h⟩:=g5 h;obtain⟨n,d,z⟩:=an5 h;obtain⟨⟨a,v,Q⟩,rfl,y⟩:=g5 n;obtain⟨h4,f⟩:=an2 y;obtain⟨j,c,u⟩:=BA f;have E:=eq_of_beq h4;cases bE d;exact⟨X,p,q,j,c,Q,by rw[show v=_ from u,show a=_ from E],z⟩
def HQ{b:Blk}(h:sDn b k e=aN):∃x p q v y r2 n c j,e = .Call (.Name "range" p) [x,.UnaryOp .USub (.Constant (.int 1) v y) r2,.UnaryOp .USub (.Constant (.int 1) n c) j] [] q/\b.glo "range" = aN/\k x=aN/\aH x=aN:=by
 obtain⟨x,p,E,O,q,rfl,h⟩:=mO h;obtain⟨L,E,rfl,h⟩:=dD h;obtain⟨Q,E,rfl,h⟩:=dD h;obtain⟨T,rfl,h⟩:=g5 h;obtain⟨I,z,J,h4⟩:=an4 h;obtain⟨B,C,d,f⟩:=an4 h4;obtain⟨u,r2,rfl,d⟩:=mN d;obtain⟨v,y,rfl⟩:=jL d;obtain⟨u,j,rfl,f⟩:=mN f;obtain⟨n,c,rfl⟩:=jL f;cases bE z;cases eW I;exact⟨L,p,q,v,y,r2,n,c,j,rfl,J,B,C⟩
def mP{b:Blk}{f:Str}(h:vt b f k l e=aN):∃x y p q,e = .Call (.Name f p) [x,y] [] q/\b.glo f=aN/\k x=aN/\aH x=aN/\l y=aN/\aH y=aN:=by
 obtain⟨x,p,E,j,q,rfl,h⟩:=mO h;obtain⟨X,E,rfl,h⟩:=dD h;obtain⟨y,rfl,h⟩:=g5 h;obtain⟨d,Y⟩:=an2 h;obtain⟨c,z⟩:=an6 Y;cases eW d;cases bE c;exact⟨X,y,p,q,rfl,z⟩
def vA{m:Str}{l:List Expr->Bool}(h:EG m k l e=aN):∃x b E p,e = .Call (.Attribute x m b) E [] p/\vm x=aN/\(b.endLine == p.line)=aN/\k x=aN/\l E=aN:=by
 obtain⟨f,E,j,p,rfl,h⟩:=qA h;obtain⟨x,n,b,rfl,h⟩:=qB h;obtain⟨d,c,z⟩:=an6 h;cases eW d;cases bE c;exact⟨x,b,E,p,rfl,z⟩
def wY{k:Expr->Expr->Expr->List Expr->List WM->Scope->Bool}(h:HL k e=aN):∃E t i ifs gs b p,e = .ListComp E (⟨t,i,ifs,0⟩::gs) b p/\k E t i ifs gs b=aN:=by
 obtain⟨E,gs,b,p,rfl,h⟩:=kj h;obtain⟨⟨t,i,ifs,d⟩,gs,rfl,h⟩:=dD h;obtain⟨c,z⟩:=an2 h;cases of_decide_eq_true c;exact⟨E,t,i,ifs,gs,b,p,rfl,z⟩
def EL(h:HM e=aN):∃p,e = .Dict [] [] p:=by
 obtain⟨d,v,p,rfl,h⟩:=EF h;obtain⟨c,b⟩:=an2 h;cases eW c;cases eW b;exact⟨p,rfl⟩
end
abbrev BG(f:Expr->CE->Bool)(l:Option Expr):Option CE->Bool
 |none=>l.isNone
 |some c=>oA l λe=>f e c
abbrev BH(f:Expr->CE->Bool)(l:List Expr):Option CE->Bool
 |none=>l.isEmpty
 |some c=>l1 l λe=>f e c
abbrev clC(c:List Cl)(k:Tg->CI->Option CE->List Cl->Bool):Bool:=match c with
 |[]=>aS
 |⟨tg,it,cond⟩::rest=>k tg it cond rest
def HR{c:List Cl}{k:Tg->CI->Option CE->List Cl->Bool}(h:clC c k=aN):∃T I cond b,c=⟨T,I,cond⟩::b/\k T I cond b=aN:=by
 cases c with
 |nil=>cases h
 |cons g b=>obtain⟨T,I,cond⟩:=g;exact⟨T,I,cond,b,rfl,h⟩
mutual
noncomputable def aK(T:Tab):Nat->Blk->Expr->CE->Bool
 |0,_,_,_=>aS
 |n+1,b,e,c=>match c with
  |.non=>J4 e
  |.bl v=>sBl v e
  |.int i=>mM i e
  |.str x=>Op x e
  |.var i=>wX (λx=>b.N[i]? == aw x && b.vis x) e
  |.con k v=>wX (λx=>T.con[k]? == aw (x,v) && b.glo x) e
  |.tup cs=>J5 (λE=>eX T n b E cs) e
  |.lst cs=>J6 (λE=>eX T n b E cs) e
  |.dic0=>HM e
  |.bin o a c=>Oq o.op (λx=>aK T n b x a) (λx=>aK T n b x c) e
  |.neg a=>sP (λx=>aK T n b x a) e
  |.cmp o a c=>J8 o.op (λx=>aK T n b x a) (λx=>aK T n b x c) e
  |.chn o p a c d=>J9 o.op p.op (λx=>aK T n b x a) (λx=>aK T n b x c) (λx=>aK T n b x d) e
  |.and a c=>Bx .And (λx=>aK T n b x a) (λx=>aK T n b x c) e || Bz .And (λx=>aK T n b x a) (λx=>aK T n b x c) e
  |.or a c=>Bx .Or (λx=>aK T n b x a) (λx=>aK T n b x c) e || Bz .Or (λx=>aK T n b x a) (λx=>aK T n b x c) e
  |.not a=>J7 (λx=>aK T n b x a) e
  |.ite t a c=>Ot (λx=>fK T n b x t) (λx=>aK T n b x a) (λx=>aK T n b x c) e
  |.ix a c=>sIx (λx=>aK T n b x a) (λx=>aK T n b x c) e
  |.sl a lo hi=>sSl (λx=>aK T n b x a) (λl=>BG (aK T n b) l lo) (λl=>BG (aK T n b) l hi) e
  |.cal2 f g i cs=>HP (λx=>oA T.fns[f]? (λy=>y.1 == x) && b.glo x) (λx=>oA T.fns[g]? (λy=>y.1 == x) && b.glo x) (λx=>aK T n b x i) (λE=>eX T n b E cs) e
  |.call f cs=>HI (λx=>oA T.fns[f]? (λy=>y.1 == x) && b.glo x) (λE=>eX T n b E cs) e
  |.inst t a=>vt b "isinstance" (λx=>aK T n b x a) (wX λy=>y == Str.ofString t.nm && b.glo y) e
  |.len a=>bX b "len" (λx=>aK T n b x a) e
  |.all a=>bX b "all" (λx=>aK T n b x a) e
  |.any a=>bX b "any" (λx=>aK T n b x a) e
  |.tupOf a=>bX b "tuple" (λx=>aK T n b x a) e
  |.listOf a=>bX b "list" (λx=>aK T n b x a) e
  |.listR a=>bX b "list" (bX b "range" λx=>aK T n b x a) e
  |.srt a=>bX b "sorted" (λx=>aK T n b x a) e
  |.mxL a=>bX b "max" (λx=>aK T n b x a) e
  |.mxD a c=>HK b c (λx=>aK T n b x a) e
  |.sm a=>bX b "sum" (λx=>aK T n b x a) e
  |.rev a=>Ou (λx=>aK T n b x a) e
  |.mnN a=>HJ b (λx=>aK T n b x a) e
  |.intOf a=>bX b "int" (λx=>aK T n b x a) e
  |.mx a c=>vq b "max" (λE=>eX T n b E [a,c]) e
  |.mn a c=>vq b "min" (λE=>eX T n b E [a,c]) e
  |.comp own elt cls=>clC cls λu I cond j=>HL (λq t i ifs gs h=>cmB own (mJ own b.N) b.N h b.sc && sR T n b t i I && vn (b.inner own h) t u && BH (fK T n (b.inner own h)) ifs cond && oX T n (b.inner own h) q gs elt j) e
  |.app o a=>EG "append" (λx=>aK T n b x o) (λE=>eX T n b E [a]) e
  |.popAt o a=>EG "pop" (λx=>aK T n b x o) (λE=>eX T n b E [a]) e
  |.cnt o a=>EG "count" (λx=>aK T n b x o) (λE=>eX T n b E [a]) e
noncomputable def eX(T:Tab):Nat->Blk->List Expr->List CE->Bool
 |0,_,_,_=>aS
 |n+1,b,E,cs=>match cs with
  |[]=>E.isEmpty
  |c::cs=>lC E λe E=>aK T n b e c && aH e && eX T n b E cs
noncomputable def oX(T:Tab):Nat->Blk->Expr->List WM->CE->List Cl->Bool
 |0,_,_,_,_,_=>aS
 |n+1,b,e,gs,elt,cls=>match cls with
  |[]=>gs.isEmpty && aK T n b e elt
  |⟨tg,it,cond⟩::rest=>lC gs λg gs=>decide (g.is_async=0) && sR T n b g.target g.iter it && vn b g.target tg && BH (fK T n b) g.ifs cond && oX T n b e gs elt rest
noncomputable def sR(T:Tab):Nat->Blk->Expr->Expr->CI->Bool
 |0,_,_,_,_=>aS
 |n+1,b,t,e,c=>match c with
  |.val a=>aK T n b e a && aH e
  |.r1 a=>bX b "range" (λx=>aK T n b x a) e
  |.dn a=>sDn b (λx=>aK T n b x a) e
  |.r2 a c=>vt b "range" (λx=>aK T n b x a) (λx=>aK T n b x c) e
  |.en a=>bX b "enumerate" (λx=>aK T n b x a) e && J5 (λ_=>aN) t
noncomputable def fK(T:Tab):Nat->Blk->Expr->CE->Bool
 |0,_,_,_=>aS
 |n+1,b,e,c=>match c with
  |.cmp o a c=>J8 o.op (λx=>aK T n b x a) (λx=>aK T n b x c) e
  |.chn o p a c d=>J9 o.op p.op (λx=>aK T n b x a) (λx=>aK T n b x c) (λx=>aK T n b x d) e
  |.and a c=>Bx .And (λx=>fK T n b x a) (λx=>fK T n b x c) e || Bz .And (λx=>fK T n b x a) (λx=>fK T n b x c) e
  |.or a c=>Bx .Or (λx=>fK T n b x a) (λx=>fK T n b x c) e || Bz .Or (λx=>fK T n b x a) (λx=>fK T n b x c) e
  |.not a=>J7 (λx=>fK T n b x a) e
  |.ite _ _ _=>aS
  |c=>aK T n b e c && J3 e
end
def gN{T:Tab}{n:Nat}{b:Blk}{t e:Expr}{c:CI}(h:sR T n b t e c=aN)(d:∀e,aH e=aN->∀env x,VV e env x=pure x):∀env x,VV e env x=pure x:=by
 cases n with
 |zero=>cases h
 |succ n=>
  cases c with
  |val a=>exact d e (an2 h).2
  |r1 a=>obtain⟨x,p,q,rfl,_⟩:=bh h;intro _ _;rfl
  |dn a=>obtain⟨x,p,q,v,j,r2,u,f,k,rfl,_⟩:=HQ h;intro _ _;rfl
  |r2 a c=>obtain⟨x,y,p,q,rfl,_⟩:=mP h;intro _ _;rfl
  |en a=>obtain⟨x,p,q,rfl,_⟩:=bh (an2 h).1;intro _ _;rfl
structure CtxOk(T:Tab)(C:Calls)(ar:Nat->Nat)(k:Nat)(b:Blk)(X:Cx):Prop where
 calm:X.calm=aN
 xe:X.xe=λ_ _=>False
 hN:X.N=b.N
 hs:X.env.scope=b.sc
 nd:b.N.Nodup
 fn:∀x,(match b.fs with |none=>aN |some sc=>sc.names.lookup x == aw .cell)=aN->X.fn x=aN
 room:Room k X.A
 con:∀ (i:Nat) (x:Str) (v:Int),T.con[i]?=aw (x,v)->∃tk,X.mg x=aw (.int v tk)
 bl:∀x,x ∈ i7->X.mg x=aD
 fns:∀ (i:Nat) (y:Str × Nat),T.fns[i]?=aw y->ar i=y.2/\∃f fd ps,X.mg y.1=aw (.ref f)/\Vs X.K (.ref f)=aN/\iR X.K fd ps []/\FnOk X.prog X.w X.K X.mg X.base CX0 k f fd ps (spC X.K (C i) (ar i))
section
variable {T:Tab} {C:Calls} {ar:Nat->Nat} {k:Nat} {b:Blk} {X:Cx}
def av{e:Expr}{E:List Expr}{env:Env}(h:aH e=aN):Uj (e::E) env=(aS,eval e env)::Uj E env:=by
 cases e <;> first |rfl |(exact absurd h Zg)
def mQ{e:Expr}(h:aH e=aN):qb e:=by
 intro o i;cases e <;> first |rfl |(exact absurd h Zg)
def iw{e:Expr}{op:CmpOp}(h:aH e=aN):VF op e=aS:=by
 cases e <;> first |rfl |(exact absurd h Zg)
def mR{e f:Expr}{op O:CmpOp}(h:aH e=aN):lastMarks [op,O] [f,e]=aS:=by
 show VF O e=aS;exact iw h
def eY{e:Expr}{env:Env}(h:aH e=aN):∀x,VV e env x=pure x:=by
 intro x;cases e <;> first |rfl |(exact absurd h Zg)
def iy{e:Expr}{m:Str}{env:Env}{w:Sem Value}(h:vm e=aN):attributeBase e m env w=w:=by
 cases e with
 |Call f c d p=>
  cases f with
  |Name x q=>
   cases c with
   |nil=>cases d with |nil=>exact absurd h Zg |cons _ _=>rfl
   |cons _ _=>rfl
  |_=>rfl
 |_=>first |rfl |(exact absurd h Zg)
def vB{e:Expr}{env:Env}(h:J3 e=aN):∀c,isTrue e env c=(do let v <-c;standAt e.pos;holding [v] (truthy v)):=by
 intro c;cases e with
 |UnaryOp op x p=>cases op <;> first |rfl |(exact absurd h Zg)
 |_=>first |rfl |(exact absurd h Zg)
def gO{E:List Expr}{env:Env}{p:Pos}(h:∀e ∈ E,aH e=aN):(backTo p (Uj E env)).any (·.1)=aS:=by
 induction E with
 |nil=>rfl
 |cons e E I=>
  rw[av (h e Zj)];show(aS || (backTo p (Uj E env)).any (·.1))=aS;rw[I λe c=>h e (Zi _ c)];rfl
def bF:∀ {n:Nat} {E:List Expr} {d:List CE},eX T n b E d=aN->∀e ∈ E,aH e=aN
 |0,_,_,h=>absurd h Zg
 |n+1,E,[],h=>λx hx=>by rw[eW h] at hx;cases hx
 |n+1,E,c::d,h=>by
  obtain⟨e,E,rfl,h⟩:=dD h;obtain⟨_,f,h⟩:=an3 h;intro x hx;rcases Zn.mp hx with rfl |hx
  ·exact f
  ·exact bF h x hx
def CtxOk.gl(G:CtxOk T C ar k b X){x:Str}(h:b.glo x=aN):Gl X x/\(x == ("__debug__" : Str))=aS:=by
 unfold Blk.glo at h;rw[bAE] at h;refine⟨?_,by simpa using h.2⟩;show X.env.scope.names.lookup x=_;rw[G.hs]
 simpa using h.1
def CtxOk.vis(G:CtxOk T C ar k b X){x:Str}(h:b.vis x=aN):Vis X.env.scope x/\(x == ("__debug__" : Str))=aS/\(x == ("__classdict__" : Str))=aS:=by
 unfold Blk.vis at h;rw[bAE,bAE] at h;refine⟨?_,by simpa using h.1.2,by simpa using h.2⟩;unfold Vis;rw[G.hs];have c:=h.1.1;split at c
 ·rename_i e;exact .inl e
 ·rename_i e;exact .inr (.inl e)
 ·rename_i e;exact .inr (.inr e)
 ·cases c
def CtxOk.own(G:CtxOk T C ar k b X){x:Str}(h:b.own x=aN):L2.Loc X.env.scope x/\(X.fn x=aN\/X.env.scope.names.lookup x=aw .local):=by
 unfold Blk.own at h;unfold L2.Loc;rw[G.hs];split at h
 ·rename_i e;exact⟨.inl e,.inr e⟩
 ·rename_i e;refine⟨.inr e,.inl (G.fn x ?_)⟩;cases c:b.fs with
  |none=>rfl
  |some sc=>rw[c] at h;exact h
 ·cases h
def CtxOk.inner(G:CtxOk T C ar k b X){own:List Str}{c:Scope}(S:CmScope own (mJ own b.N) b.N c b.sc){C':Addr}{ex:List Addr}{s:Shared}{H:Hp}:CtxOk T C ar k (b.inner own c) (cxC X own (mJ own b.N) c C' ex s H):=
 ⟨G.calm,rfl,by show cU (mJ own b.N) X.N++own=_;rw[G.hN];rfl,by show fO c X.env.scope=_;rw[G.hs];rfl,S.nd,λx h=>h,G.room,G.con,G.bl,G.fns⟩
def oY{e:Expr}{E:List Expr}{env:Env}(h:aH e=aN):VB (e::E) env=(aS,assign e env)::VB E env:=by
 cases e <;> first |rfl |(exact absurd h Zg)
mutual
theorem gP(G:CtxOk T C ar k b X):∀ {e:Expr} {t:Tg},vn b e t=aN->PG X e (tTg X.K t)
 |e,.name i,h=>by
  obtain⟨r,c,h⟩:=sO h;obtain⟨j,f⟩:=an2 h;rw[qC c];have o:=G.own f;exact PG.imp (DD (i:=i) (x:=r.1) (by rw[G.hN];exact G.nd) (by rw[G.hN];exact eq_of_beq j) o.1 o.2) λx n H Q q=>qy q
 |e,.tup ts,h=>by
  obtain⟨r,c,h⟩:=sO h;rw[qD c];have d:=oZ h;exact PG.imp (IL G.calm (sS G h) rfl d.2) λx n H Q q=>JO d.1 q
theorem sS(G:CtxOk T C ar k b X):∀ {E:List Expr} {c:List Tg},mL b E c=aN->PGs X E (AX X.K c)
 |E,[],h=>by
  rw[eW h];exact PGs.imp DE λx j H Q q=>Et q
 |E,t::c,h=>by
  obtain⟨e,E,rfl,h⟩:=dD h;obtain⟨f,d,h⟩:=an3 h;exact PGs.imp (zM (gP G f) (sS G h) (by rw[oY d];rfl)) λx j H Q q=>AY q
theorem oZ:∀ {E:List Expr} {c:List Tg},mL b E c=aN->(VB E X.env).length=c.length/\(VB E X.env).findIdx? (·.1)=aD
 |E,[],h=>by
  rw[eW h];exact⟨rfl,rfl⟩
 |E,t::c,h=>by
  obtain⟨e,E,rfl,h⟩:=dD h;obtain⟨f,d,h⟩:=an3 h;have I:=oZ h;rw[oY d];refine⟨congrArg (·+1) I.1,?_⟩;rw[List.findIdx?_cons];simp[I.2]
end
end
structure Snd(T:Tab)(C:Calls)(ar:Nat->Nat)(k n:Nat):Prop where
 e:∀ (b:Blk) (X:Cx) (e:Expr) (c:CE),CtxOk T C ar k b X->aK T n b e c=aN->PE X e (tE X.K (evE C ar n c))
 tm:∀ (b:Blk) (X:Cx) (e:Expr) (c:CE),CtxOk T C ar k b X->ai c=aN->aK T n b e c=aN->PE X e (eP X.K (cb C ar n c))
 a:∀ (b:Blk) (X:Cx) (es:List Expr) (cs:List CE),CtxOk T C ar k b X->eX T n b es cs=aN->PA X es (tAr X.K (evA C ar n cs))
 t:∀ (b:Blk) (X:Cx) (e:Expr) (c:CE),CtxOk T C ar k b X->fK T n b e c=aN->PT X e (tT X.K (evT C ar n c))
 i:∀ (B:List Addr) (b:Blk) (X:Cx) (t e:Expr) (c:CI),CtxOk T C ar k b X->sR T n b t e c=aN->PI X t e (tIt X.K B (evI C ar n c))
 cl:∀ (b:Blk) (X:Cx) (e:Expr) (gs:List WM) (elt:CE) (cls:List Cl),CtxOk T C ar k b X->oX T n b e gs elt cls=aN ->
  ∀ (gens:List WM) (scope:Scope) (pos:Pos) (acc:Addr) (d:Nat),gens.drop (d+1)=gs->PTl X e gens scope pos acc d (tCl X.K acc (gZ C ar n elt cls))
section
variable {T:Tab} {C:Calls} {ar:Nat->Nat} {k n:Nat} {b:Blk} {X:Cx}
def eC{e:Expr}{E:List Expr}{c:TE}{t:TA}(d:PE X e c)(h:PA X E t)(f:aH e=aN):PA X (e::E) (ce c t):=pZ d h (av f)
def Oy(I:Snd T C ar k n)(E:List Expr)(d:List CE)(G:CtxOk T C ar k b X)(h:eX T (n+1) b E d=aN):PA X E (tAr X.K (evA C ar (n+1) d)):=by
 cases d with
 |nil=>rw[eW h];exact PA.imp um λp H Q q=>Jr q
 |cons c d=>
  obtain⟨e,E,rfl,h⟩:=dD h;obtain⟨j,f,h⟩:=an3 h;exact PA.imp (eC (I.e b X e c G j) (I.a b X E d G h) f) λp H Q q=>Eb q
def cf{e:Expr}{c:TE}(h:PE X e c)(d:aH e=aN):PA X [e] (ce c jy):=eC h um d
def eZ{x:Str}{id:String}{e:Expr}{f:TE}{r:V->Hp->VK->Prop}{p c:Pos}(v:aR X (.builtin id) (r1 r))(G:CtxOk T C ar k b X)(d:b.glo x=aN)(hb:x ∈ i7)(y:VI x=aw (.builtin id))(u:x ≠ "__name__")(h:PE X e f)(j:aH e=aN) :
  PE X (.Call (.Name x p) [e] [] c) (tUn r f):=
 PE.imp (iS v (G.gl d).1 (G.bl x hb) y (cf h j) u (G.gl d).2 (av j) rfl) λz H Q q=>q
def k7{x:Str}{id:String}{e:Expr}{f:TE}{r:V->Hp->VK->Prop}{p c:Pos}(v:aR X (.type id) (r1 r))(G:CtxOk T C ar k b X)(d:b.glo x=aN)(hb:x ∈ i7)(y:VI x=aw (.type id))(u:x ≠ "__name__")(h:PE X e f)(j:aH e=aN) :
  PE X (.Call (.Name x p) [e] [] c) (tUn r f):=
 PE.imp (jz v (G.gl d).1 (G.bl x hb) y (cf h j) u (G.gl d).2 (av j) rfl) λz H Q q=>q
def fX{x:Str}{e:Expr}{a:CE}{f:Bool->List D->Sto->Option (D × Sto)}{u:List Keyword}{p c:Pos}(I:Snd T C ar k n)(G:CtxOk T C ar k b X)(j:∀d:TE,PE X e d->PE X (.Call (.Name x p) [e] u c) (tUn (rSq X.K f) d))(h:aK T n b e a=aN) :
  PE X (.Call (.Name x p) [e] u c) (tE X.K (if ai a=aN then ma f (cb C ar n a) else md f (evE C ar n a))):=by
 split
 ·rename_i v;exact PE.imp (j _ (I.tm b X e a G v h)) λy H Q q=>Jp q
 ·exact PE.imp (j _ (I.e b X e a G h)) λy H Q q=>Jt q
def k8{x y:Str}(h:(x == y)=aN):x=y:=eq_of_beq h
def qH{K:Vk}{x:XE}{j:L2.St}{H:Hp}{Q Q':VK}(h:tE K x j H Q)(f:∀v c,Q v c->Q' v c):tE K x j H Q':=by
 obtain⟨m,u,S,d,p,E,R,e,q⟩:=h;exact⟨m,u,S,d,p,E,R,e,λy c v A vd=>f _ _ (q y c v A vd)⟩
def BI{x:XE}{j:L2.St}{H:Hp}{Q:VK}{K:Vk}(h:eP K (mE x) j H Q):tUn (rTm K λ_ z=>aw z) (tE K x) j H Q:=by
 obtain⟨m,ρ,S,z,S',E,R,e,q⟩:=h;obtain⟨d,O,e1,e⟩:=ae e;cases hi:ao d O with
 |none=>rw[hi] at e;cases e
 |some r=>
  rw[hi] at e;cases e;refine⟨m,ρ,S,d,_,E,R,e1,λm1 H1 v c vd=>?_⟩;obtain⟨a,vs,Z,sq,f⟩:=dZ (tu:=r.1) (ds:=r.2) c.rel vd hi;refine⟨m1,_,r.1,r.2,a,vs,r.2,c.rel,Z,sq,f,rfl,λI B p ws A2 hp Y u L J=>?_⟩
  have U:H p=aD:=by
   cases eh:H p with
   |none=>rfl
   |some o=>
    by_cases y:p ∈ m
    ·exact absurd rfl (u p (c.ext.pre.subset y))
    ·have:=c.ext.keep p o eh y;rw[L] at this;cases this
  exact q I B p ws (c.trans A2) hp Y (λb hb=>u b (c.ext.pre.subset hb)) U J
def BJ{x:XA}{f:L2.St}{H:Hp}{Q:VK}{K:Vk}(h:eP K x f H Q):tUn (rTm K λ_ d=>aw d) (eP K x) f H Q:=by
 obtain⟨m,ρ,S,d,S',E,R,e,q⟩:=h;refine⟨m,ρ,S,d,S',E,R,e,λm1 B a v c Y na _ _ vd=>?_⟩;refine⟨m1,_,aS,d,a,v,d,c.rel,rfl,show SqL K B a v from SqL.of Y,vd,rfl,λz y p U Z hp O j J I=>?_⟩
 have L:H p=aD:=by
  cases eh:H p with
  |none=>rfl
  |some o=>
   by_cases u:p ∈ m
   ·exact absurd rfl (j p (c.ext.pre.subset u))
   ·have:=c.ext.keep p o eh u;rw[J] at this;cases this
 exact q z y p U (c.trans Z) hp O (λb hb=>j b (c.ext.pre.subset hb)) L I
abbrev ifT(C:Calls)(ar:Nat->Nat)(n:Nat)(K:Vk):Option CE->TT
 |none=>DX
 |some c=>tT K (evT C ar n c)
def mS(I:Snd T C ar k n)(G:CtxOk T C ar k b X){ifs:List Expr}{cond:Option CE}(h:BH (fK T n b) ifs cond=aN):PTs X ifs (ifT C ar n X.K cond):=by
 cases cond with
 |none=>rw[eW h];exact DY
 |some c=>obtain⟨e,rfl,h⟩:=g5 h;exact DZ (I.t b X e c G h)
def vC{K:Vk}{cond:Option CE}{d:Addr}{c:XA}{D:Ends}{f:L2.St}{H:Hp}(q:tCl K d (cnd (evT C ar n) cond c) D f H):fB (ifT C ar n K cond) (tCl K d c) D f H:=by
 cases cond with
 |none=>exact JT q
 |some c=>exact EA q
def sU(I:Snd T C ar k n)(G:CtxOk T C ar k b X){l:Option Expr}{lo:Option CE}(h:BG (aK T n b) l lo=aN):PO X l (tOI X.K (opt (evE C ar n) lo)):=by
 cases lo with
 |none=>
  cases l with
  |none=>exact PO.imp DP λd H Q q=>Ej q
  |some _=>cases h
 |some c=>obtain⟨e,rfl,h⟩:=sO h;exact PO.imp (wu (I.e b X e c G h)) λd H Q q=>Ek q
def Kg(L:Snd T C ar k n)(e:Expr)(gs:List WM)(E:CE)(y:List Cl)(G:CtxOk T C ar k b X)(h:oX T (n+1) b e gs E y=aN)(c:List WM)(j:Scope)(u:Pos)(p:Addr)(d:Nat)(hd:c.drop (d+1)=gs) :
  PTl X e c j u p d (tCl X.K p (gZ C ar (n+1) E y)):=by
 have imp:∀ {t t':TS},PTl X e c j u p d t->(∀D v H,t' D v H->t D v H)->PTl X e c j u p d t':=λh f B s v H D I q=>h B s v H D I (f D v H q);cases y with
 |nil=>
  obtain⟨Y,h⟩:=an2 h;cases eW Y
  have O:c[d+1]?=aD:=by
   have:=congrArg Zd hd;simp at this;exact Z8.mpr (by omega)
  exact imp (Ac G.xe O (L.e b X e E G h)) λD v H q=>Ez q
 |cons g J=>
  obtain⟨tg,it,cond⟩:=g;obtain⟨⟨t,i,ifs,as⟩,gs',rfl,h⟩:=dD h;obtain⟨Y,Z,h2,h3,h4⟩:=an5 h;cases of_decide_eq_true Y
  have O:c[d+1]?=aw ⟨t,i,ifs,0⟩:=by
   have:=congrArg (·[0]?) hd
   simpa using this
  have U:c.drop (d+1+1)=gs':=by
   have:=congrArg (Yu 1) hd
   simpa[List.drop_drop] using this
  have Q:=gN Z (λe he env=>eY he) X.env;exact imp (D0 O (L.i [p] b X t i it G Z) (gP G h2) (mS L G h3) (L.cl b X e gs' E J G h4 c j u p (d+1) U) G.xe G.calm Q) λD v H q=>Ba (λD v H z=>vC z) q
def Oz(I:Snd T C ar k n)(B:List Addr)(t e:Expr)(c:CI)(G:CtxOk T C ar k b X)(h:sR T (n+1) b t e c=aN):PI X t e (tIt X.K B (evI C ar (n+1) c)):=by
 cases c with
 |val a=>
  have h:=an2 h;show PI X t _ (tIt X.K B (if ai a=aN then xIT (cb C ar n a) else xIV (evE C ar n a)));split
  ·rename_i u;exact PI.imp (wm (I.tm b X _ a G u h.1)) λj H R q=>QM q
  ·exact PI.imp (PI.or (wm (I.e b X _ a G h.1)) (IR (I.e b X _ a G h.1))) λj H R q=>QL q
 |r1 a=>
  obtain⟨x,p,q,rfl,d,f,h4⟩:=bh h;exact PI.imp (x5 (G.gl d).1 (G.bl _ (by decide)) (cf (I.e b X x a G f) h4) (av h4)) λj H R q=>Oh q
 |dn a=>
  obtain⟨x,p,q,Z,p2,r2,L,O,U,rfl,d,f,h4⟩:=HQ h;have m1:∀ {n p r},PE X (.UnaryOp .USub (.Constant (.int 1) n p) r) (tC (.int (-1))):=λ{n p r}=>PE.imp (wn pY lH) λj H Q q=>⟨1,rfl,q⟩;exact PI.imp (Om (G.gl d).1 (G.bl _ (by decide)) (eC (I.e b X x a G f) (eC m1 (cf m1 rfl) rfl) h4) (av h4) rfl) λj H R q=>Oo q
 |r2 a c=>
  obtain⟨x,y,p,q,rfl,d,f,h4,z,v⟩:=mP h;exact PI.imp (x6 (G.gl d).1 (G.bl _ (by decide)) (eC (I.e b X x a G f) (cf (I.e b X y c G z) v) h4) (by rw[av h4,av v];rfl) (av v)) λj H R q=>Oi q
 |en a=>
  have h:=an2 h;obtain⟨x,p,q,rfl,d,f,h4⟩:=bh h.1;obtain⟨E,J,Y,rfl,_⟩:=BC h.2;show PI X _ _ (tIt X.K B (if ai a=aN then xET (cb C ar n a) else xEV (evE C ar n a)));split
  ·rename_i u;exact PI.imp (An (G.gl d).1 (G.bl _ (by decide)) (cf (I.tm b X x a G u f) h4) (av h4)) λj H R q=>Og q
  ·exact PI.imp (PI.or (An (G.gl d).1 (G.bl _ (by decide)) (cf (I.e b X x a G f) h4) (av h4)) (Jn (G.gl d).1 (G.bl _ (by decide)) (cf (I.e b X x a G f) h4) (av h4))) λj H R q=>Oe q
end
section
variable {T:Tab} {C:Calls} {ar:Nat->Nat} {k n:Nat} {b:Blk} {X:Cx}
def mU{k:Nat}{A:Around}(r:Room k A):A.units+64 < cLine:=r.units
def i9(K:Vk)(m:List Addr)(H:Hp):∀l:List Nat,VDs K m H (l.map λj=>D.int (Int.ofNat j)) (l.map λ(j:Nat)=>V.int j)
 |[]=>by rw[Yn,Yn,VDs]
 |a::l=>by rw[Zw,Zw,VDs];exact⟨_,_,rfl,bg,i9 K m H l⟩
def Rel.adoptO{K:Vk}{m:List Addr}{S:Sto}{H:Hp}{a:Addr}(R:Rel K m S H)(n:a ∉ m){ob:Ob}(h:ObR K (m++[a]) H a ob):Rel K (m++[a]) (S++[ob]) H:=by
 have p:=YF m [a];have g:∀ {E:List D} {ws:List V},VDs K m H E ws->VDs K (m++[a]) H E ws:=λz=>VDs.mono0 p (λ_ _ t=>t) z;refine⟨by simp[R.len],Yx.mpr ⟨R.nd,by simp,λx j y c=>by simp at c;subst c;exactλz=>n (z ▸ j)⟩,λi o e=>?_⟩;by_cases hi:i < S.length
 ·rw[Zq hi] at e;obtain⟨b,hb,r⟩:=R.ob i o e;refine⟨b,kP p hb,?_⟩;cases o with
  |lst f=>obtain⟨v,p,q⟩:=r;exact⟨v,p,g q⟩
  |frz f=>obtain⟨o,v,p,q⟩:=r;exact⟨o,v,p,g q⟩
  |dic B f=>obtain⟨v,p,l,q⟩:=r;exact⟨v,p,l,g q⟩
 ·rw[Zm (by lia)] at e
  have d:i - S.length=0:=by
   have:=(Zb.mp e).1;simp at this;lia
  rw[d] at e;have u:ob=o:=by simpa using e
  subst u;refine⟨a,?_,h⟩;rw[Zm (by rw[R.len];lia),R.len,d];rfl
def EM{K:Vk}{m:List Addr}{H:Hp}{S:Sto}{p:Addr}{c:List (List NK)}{d:List D}{v:List V}{Q:VK}(R:Rel K m S H)(h:H p=aD)(vd:VDs K m H d v)(z:c.length=d.length)(q:∀j f u,Aft K m H (S++[.dic c d]) j f->VD K j f (.ref S.length) u->Q u f):Q (.ref p) (upd H p (.dT (c.zip v))):=by
 have x:=Ext.beside R h (.dT (c.zip v));have y:=R.beside h (.dT (c.zip v));refine q (m++[p]) _ _ ⟨x.adopt h,?_⟩ ?_
 ·exact y.adoptO (R.no h) (ob:=.dic c d) ⟨v,bf,z,VDs.mono0 (YF m [p]) (λ_ _ t=>t) (vd.mono R x)⟩
 ·rw[VD];exact⟨p,by rw[Zm (by rw[R.len];exact Ze _),R.len,Z7];rfl,rfl⟩
def vD{E:List Expr}{a:CE}(h:eX T n b E [a]=aN):∃y,E=[y]:=by
 cases n with
 |zero=>exact absurd h Zg
 |succ n=>
  obtain⟨e,E,rfl,h⟩:=dD h;have h:=(an2 h).2;cases n with
  |zero=>exact absurd h Zg
  |succ n=>cases eW h;exact⟨e,rfl⟩
def EN(v:Snd T C ar k n){own:List Str}{E:CE}{j:Tg}{I:CI}{cond:Option CE}{d:List Cl}{e t i:Expr}{ifs:List Expr}{gs:List WM}{c:Scope}{p:Pos}(G:CtxOk T C ar k b X)
  (Y:cmB own (mJ own b.N) b.N c b.sc=aN) (y:sR T n b t i I=aN) (J:vn (b.inner own c) t j=aN) (L:BH (fK T n (b.inner own c)) ifs cond=aN) (h4:oX T n (b.inner own c) e gs E d=aN) :
  PE X (.ListComp e (⟨t,i,ifs,0⟩::gs) c p) (eP X.K (mB own.length (evI C ar n I) j (cnd (evT C ar n) cond (gZ C ar n E d)) LF)):=by
 have S:CmScope own (mJ own b.N) b.N c b.sc:=Ao _ Y;have U:CmScope own (mJ own b.N) X.N c X.env.scope:=by rw[G.hN,G.hs];exact S
 have u:=gN y (λe O env=>eY O) X.env
 refine PE.imp (D1 (g:=tTg X.K j) (ti:=ifT C ar n X.K cond) (t:=λf=>tCl X.K f (gZ C ar n E d)) G.calm U (v.i [] b X t i I G y) (λh ex s H=>gP (G.inner S (C':=h) (ex:=ex) (s:=s) (H:=H)) J) (λh ex s H=>mS v (G.inner S (C':=h) (ex:=ex) (s:=s) (H:=H)) L)
  (λh ex s H f=>v.cl _ _ e gs E d (G.inner S (C':=h) (ex:=ex) (s:=s) (H:=H)) h4 _ c p f 0 rfl) u) λB H Q q=>?_
 exact wQ (λf D B H z=>vC z) q
def Kh{x:XE}{L:L2.St}{H:Hp}{Q:VK}{K:Vk}(h:eP K (yV x) L H Q):tE K x L H λv c=>∃i:Nat,v = .int i/\i<=1000/\∀p,c p=aD->∀l,upd c p (.rng 0 i) l=aD->Q (.ref l) (upd (upd c p (.rng 0 i)) l (.lst ((Zk i).map λ(j:Nat)=>V.int j))):=by
 obtain⟨m,ρ,S,ds,Y,E,R,e,q⟩:=h;obtain⟨d,S1,e1,e⟩:=ae e;cases d with
 |int i=>
  dsimp only at e;split at e
  ·rename_i hi;cases e;refine⟨m,ρ,S,.int i,_,E,R,e1,λm1 c v f vd=>⟨i.toNat,by rw[vd.ints];congr 1;lia,by lia,λp J l u=>?_⟩⟩;have y:Aft K m1 c Y m1 (upd c p (.rng 0 i.toNat)):=⟨Ext.beside f.rel J _,f.rel.beside J _⟩;have Z:Aft K m1 (upd c p (.rng 0 i.toNat)) Y m1 (upd (upd c p (.rng 0 i.toNat)) l (.lst ((Zk i.toNat).map λ(j:Nat)=>V.int j))):=⟨Ext.beside y.rel u _,y.rel.beside u _⟩;have B:l ∉ m1:=y.rel.no u
   have O:c l=aD:=by
    cases I:c l with
    |none=>rfl
    |some o=>rw[(Ext.beside f.rel J (.rng 0 i.toNat)).keep l o I B] at u;cases u
   have nH:H l=aD:=by
    cases I:H l with
    |none=>rfl
    |some o=>
     by_cases U:l ∈ m
     ·exact absurd (f.ext.pre.subset U) B
     ·rw[f.ext.keep l o I U] at O;cases O
   refine q m1 _ l _ (f.trans (y.trans Z)) bf B (λb hb z=>B (z ▸ f.ext.pre.subset hb)) nH ?_;exact i9 _ _ _ _
  ·cases e
 |_=>cases e
def EO{c:L2.St}{H:Hp}{Q:VK}{K:Vk}(h:tE K Bo c H Q):Ak c H Q:=by
 obtain⟨m,u,S,d,j,E,R,e,q⟩:=h;cases e;exactλp f=>EM R f (show VDs K m H [] [] by rw[VDs]) rfl q
def Ki{f:Bool->List D->Option (List D)}{x:XE}{y:L2.St}{H:Hp}{Q:VK}{K:Vk}(h:eP K (yU f x) y H Q):tUn (rTm K f) (tE K x) y H Q:=by
 obtain⟨m,ρ,S,ds,S',E,R,e,q⟩:=h;obtain⟨d,U,e1,e⟩:=ae e;cases hi:ao d U with
 |none=>rw[hi] at e;cases e
 |some r=>
  rw[hi] at e;dsimp only at e;cases j:f r.1 r.2 with
  |none=>rw[j] at e;cases e
  |some es=>
  rw[j] at e;cases e;refine⟨m,ρ,S,d,_,E,R,e1,λm1 H1 v c vd=>?_⟩;obtain⟨a,vs,ev,sq,u⟩:=dZ (tu:=r.1) (ds:=r.2) c.rel vd hi;refine⟨m1,_,r.1,r.2,a,vs,ds,c.rel,ev,sq,u,j,λJ I p ws A2 hp Z z O L=>?_⟩
  have Y:H p=aD:=by
   cases eh:H p with
   |none=>rfl
   |some o=>
    by_cases B:p ∈ m
    ·exact absurd rfl (z p (c.ext.pre.subset B))
    ·have:=c.ext.keep p o eh B;rw[O] at this;cases this
  exact q J I p ws (c.trans A2) hp Z (λb hb=>z b (c.ext.pre.subset hb)) Y L
def Kj{f:Bool->List D->Option (List D)}{x:XA}{u:L2.St}{H:Hp}{Q:VK}{K:Vk}(h:eP K (yT f x) u H Q):tUn (rTm K f) (eP K x) u H Q:=by
 obtain⟨m,ρ,S,Y,S',E,R,e,q⟩:=h;obtain⟨j,S1,e1,e⟩:=ae e;cases d:f aS j with
 |none=>rw[d] at e;cases e
 |some es'=>
 rw[d] at e;cases e;refine⟨m,ρ,S,j,_,E,R,e1,λm1 J a v c ha na _ _ vd=>?_⟩;refine⟨m1,_,aS,j,a,v,Y,c.rel,rfl,show SqL K J a v from SqL.of ha,vd,d,λI B p ws A2 hp Z y O L=>?_⟩
 have U:H p=aD:=by
  cases eh:H p with
  |none=>rfl
  |some o=>
   by_cases z:p ∈ m
   ·exact absurd rfl (y p (c.ext.pre.subset z))
   ·have:=c.ext.keep p o eh z;rw[O] at this;cases this
 exact q I B p ws (c.trans A2) hp Z (λb hb=>y b (c.ext.pre.subset hb)) U L
def BK(I:Snd T C ar k n)(e:Expr)(c:CE)(G:CtxOk T C ar k b X)(u:ai c=aN)(h:aK T (n+1) b e c=aN):PE X e (eP X.K (cb C ar (n+1) c)):=by
 cases c with
 |lst cs=>
  obtain⟨es,p,rfl,E⟩:=Kb h;exact PE.imp (zU (I.a b X es cs G E)) λB H Q q=>Ec q
 |listOf a=>
  obtain⟨x,p,q,rfl,d,j,h4⟩:=bh h;show PE X _ (eP X.K (if ai a=aN then cb C ar n a else mE (evE C ar n a)));split
  ·rename_i u;exact PE.imp (k7 mm G d (by decide) WE (by decide) (I.tm b X x a G u j) h4) λB H Q q=>BJ q
  ·exact PE.imp (k7 mm G d (by decide) WE (by decide) (I.e b X x a G j) h4) λB H Q q=>BI q
 |listR a=>
  obtain⟨x,p,q,rfl,d,j,h4⟩:=bh h;obtain⟨y,p',q',rfl,O,h6,L⟩:=bh j
  exact PE.imp (jz (qh G.calm) (G.gl d).1 (G.bl _ (by decide)) WE (cf (jz rV (G.gl O).1 (G.bl _ (by decide)) PyProof.Rows.boot_range (cf (I.e b X y a G h6) L) (by decide) (G.gl O).2 (av L) rfl) h4) (by decide) (G.gl d).2 (av h4) rfl) λB H Q q=>qH (Kh q) λv H1 ⟨i,ev,hi,z⟩=>by
    subst ev;exact⟨i,rfl,λp hp=>⟨p,i,rfl,bf,hi,λl hl=>z p hp l hl⟩⟩
 |srt a=>
  obtain⟨x,p,q,rfl,d,j,h4⟩:=bh h;show PE X _ (eP X.K (if ai a=aN then yT cD (cb C ar n a) else yU cD (evE C ar n a)));split
  ·rename_i u;exact PE.imp (eZ oQ G d (by decide) WH (by decide) (I.tm b X x a G u j) h4) λB H Q q=>Kj (f:=cD) q
  ·exact PE.imp (eZ oQ G d (by decide) WH (by decide) (I.e b X x a G j) h4) λB H Q q=>Ki (f:=cD) q
 |comp own Z Y=>
  obtain⟨tg,it,cond,U,rfl,hc⟩:=HR h;obtain⟨el,t,i,ifs,gs,J,p,rfl,E⟩:=wY hc;obtain⟨h0,h1,d,j,h4⟩:=an5 E;exact EN I G h0 h1 d j h4
 |_=>cases u
def qI{y:Expr}{p:Pos}(h:aH y=aN):((backTo p (Uj [y] X.env)).all (λx=>!x.1) && (VE p (VZ [] X.env)).all (λx=>x.1.isSome) && decide (([y]:List Expr).length+([]:List Keyword).length+(if ([]:List Keyword).isEmpty then 0 else 1) < 30))=aN:=by
 rw[av h];rfl
def OA(I:Snd T C ar k n)(e:Expr)(c:CE)(G:CtxOk T C ar k b X)(h:aK T (n+1) b e c=aN):PE X e (tE X.K (evE C ar (n+1) c)):=by
 have hu:=mU G.room
 have tmp:ai c=aN->evE C ar (n+1) c=dB (cb C ar (n+1) c)->PE X e (tE X.K (evE C ar (n+1) c)):=λht he=>by
  rw[he];exact PE.imp (BK I e c G ht h) λL H Q q=>sd q
 cases c with
 |non=>obtain⟨_,_,rfl⟩:=BA h;exact PE.imp zF λL H Q q=>Av (λ_ _=>qk) q
 |bl v=>obtain⟨_,_,rfl⟩:=Ow h;exact PE.imp Nn λL H Q q=>Av (λ_ _=>bD) q
 |int v=>obtain⟨_,_,rfl⟩:=jL h;exact PE.imp lH λL H Q q=>Av (λ_ _=>bg) q
 |str v=>obtain⟨_,_,rfl⟩:=Ka h;exact PE.imp IC λL H Q q=>Av (λ_ _=>uC) q
 |var i=>
  obtain⟨x,p,rfl,Z⟩:=qE h;have Z:=an2 Z;have v:=G.vis Z.2;exact PE.imp (IB (i:=i) (by rw[G.hN];exact eq_of_beq Z.1) v.1 v.2.1 v.2.2) λL H Q q=>Jq q
 |con k' v=>
  obtain⟨x,p,rfl,Z⟩:=qE h;have Z:=an2 Z;have g:=G.gl Z.2;obtain⟨tk,hm⟩:=G.con k' x v (eq_of_beq Z.1);exact PE.imp (pX (v:=.int v) g.1 hm ⟨tk,rfl⟩ g.2) λL H Q q=>Av (λ_ _=>bg) q
 |tup cs=>obtain⟨U,_,_,rfl,Z⟩:=BC h;exact PE.imp (I8 (I.a b X U cs G Z)) λL H Q q=>Js q
 |lst cs=>exact tmp rfl rfl
 |dic0=>obtain⟨p,rfl⟩:=EL h;exact PE.imp Al λL H Q q=>EO q
 |bin o a O=>obtain⟨l,r,p,rfl,B,E⟩:=Kc h;exact PE.imp (ND (Ei o) (I.e b X l a G B) (I.e b X r O G E)) λL H Q q=>qj q
 |neg a=>obtain⟨x,p,rfl,Z⟩:=mN h;exact PE.imp (wn EB (I.e b X x a G Z)) λL H Q q=>As q
 |cmp o a O=>obtain⟨l,r,p,rfl,B,E,h4⟩:=BE h;exact PE.imp (DH (gM hu o) (I.e b X l a G B) (I.e b X r O G E) (iw h4)) λL H Q q=>qj q
 |chn o p' a O d=>obtain⟨l,r,s,p,rfl,B,E,h4,Y⟩:=BF h;exact PE.imp (zR (gM hu o) (gM hu p') (I.e b X l a G B) (I.e b X r O G E) (I.e b X s d G h4) (mR Y)) λL H Q q=>Bd q
 |and a O=>
  rcases Bw h with h |h
  ·obtain⟨x,y,p,rfl,h1,B⟩:=qF h;exact PE.imp (zI (I.e b X x a G h1) (zH (I.e b X y O G B))) λL H Q q=>Bc q
  ·obtain⟨x,y,z,ys,p,rfl,h1,B⟩:=qG h;exact PE.imp (zI (I.e b X x a G h1) (I.e b X _ O G B)) λL H Q q=>Bc q
 |or a O=>
  rcases Bw h with h |h
  ·obtain⟨x,y,p,rfl,h1,B⟩:=qF h;exact PE.imp (Hj (I.e b X x a G h1) (zH (I.e b X y O G B))) λL H Q q=>HC q
  ·obtain⟨x,y,z,ys,p,rfl,h1,B⟩:=qG h;exact PE.imp (Hj (I.e b X x a G h1) (I.e b X _ O G B)) λL H Q q=>HC q
 |not a=>obtain⟨x,p,rfl,Z⟩:=BD h;exact PE.imp (IH (I.e b X x a G Z)) λL H Q q=>JW q
 |ite t a O=>obtain⟨x,y,z,p,rfl,h1,B,E⟩:=Kd h;exact PE.imp (zJ (I.t b X x t G h1) (I.e b X y a G B) (I.e b X z O G E)) λL H Q q=>JX q
 |ix a O=>
  obtain⟨x,y,p,rfl,h1,B,E⟩:=HN h;show PE X _ (tE X.K (if ai a=aN then uF (cb C ar n a) (evE C ar n O) else r9 ixS (evE C ar n a) (evE C ar n O)));split
  ·rename_i ht;exact PE.imp (z3 z5 (I.tm b X x a G ht h1) (I.e b X y O G B) (mQ E)) λL H Q q=>JD q
  ·exact PE.imp (z3 (QJ hu) (I.e b X x a G h1) (I.e b X y O G B) (mQ E)) λL H Q q=>qj q
 |sl a lo hi=>obtain⟨x,y,z,p,p',rfl,h1,B,E⟩:=Ox h;exact PE.imp (zZ QK (I.e b X x a G h1) (sU I G B) (sU I G E)) λL H Q q=>N6 q
 |call f cs=>
  obtain⟨x,e,U,p,p',rfl,h12,E⟩:=EH (k:=λx=>oA T.fns[f]? (λy=>y.1 == x) && b.glo x) (l:=λU=>eX T n b U cs) (e:=e) h;obtain⟨h1,B⟩:=an2 h12
  ·obtain⟨y,hy,h1⟩:=sO h1;have hx:=k8 h1;subst hx;obtain⟨ha,fa,fd,ps,hm,hk,hb,F⟩:=G.fns f y hy;have J:=bF E;have g:=G.gl B;exact PE.imp (DM F G.room g.1 hm hk hb .nil Ht (I.a b X (e::U) cs G E) g.2 (av (J e Zj)) (gO λe he=>J e (Zi _ he))) λL H Q q=>wR q
 |cal2 f g i cs=>
  obtain⟨x,y,p,p',lp,ie,xp,e,U,q,rfl,h1,B,E,h4,Y⟩:=EJ (k:=λx=>oA T.fns[f]? (λy=>y.1 == x) && b.glo x) (l:=λx=>oA T.fns[g]? (λy=>y.1 == x) && b.glo x) (m:=λx=>aK T n b x i) (a:=λU=>eX T n b U cs) (e:=e) h;obtain⟨h1,g1⟩:=an2 h1;obtain⟨B,g2⟩:=an2 B;obtain⟨z,hz,h1⟩:=sO h1;obtain⟨u,hu',B⟩:=sO B;have hx:=k8 h1;subst hx;have hx:=k8 B;subst hx;obtain⟨ha,fa,fd,ps,hm,hk,hb,F⟩:=G.fns f z hz;obtain⟨ha',fa',fd',ps',hm',hk',hb',F'⟩:=G.fns g u hu';have J:=bF Y;have g1:=G.gl g1;have g2:=G.gl g2;exact PE.imp (Bi F F' G.room g1.1 hm hk hb g2.1 hm' hk' hb' (I.e b X ie i G E) (mQ h4) (I.a b X (e::U) cs G Y) g1.2 g2.2 (av (J e Zj)) (gO λe he=>J e (Zi _ he))) λL H Q q=>EC q
 |inst t a=>
  obtain⟨x,y,p,p',rfl,B,Y,h6,h7,_⟩:=mP h;obtain⟨y,p'',rfl,h8⟩:=qE h7;obtain⟨E,h4⟩:=an2 h8;have hy:=k8 E;subst hy
  have ty:PE X (.Name (Str.ofString t.nm) p'') (tC (.ty t.nm)):=by
   have g:=G.gl h4;cases t with
   |int=>exact iQ g.1 (G.bl _ (by decide)) WD rfl (by decide) g.2
   |bool=>exact iQ g.1 (G.bl _ (by decide)) PyProof.Rows.boot_bool rfl (by decide) g.2
   |tuple=>exact iQ g.1 (G.bl _ (by decide)) WI rfl (by decide) g.2
   |list=>exact iQ g.1 (G.bl _ (by decide)) WE rfl (by decide) g.2
   |str=>exact iQ g.1 (G.bl _ (by decide)) PyProof.Rows.boot_str rfl (by decide) g.2
  exact PE.imp (iS (qi X.K) (G.gl B).1 (G.bl _ (by decide)) PyProof.Rows.boot_isinstance (eC (I.e b X x a G Y) (cf ty rfl) h6) (by decide) (G.gl B).2 (av h6) rfl) λL H Q q=>En q
 |len a=>obtain⟨x,p,p',rfl,B,E,h4⟩:=bh h;exact fX I G (λte z=>eZ yA G B (by decide) PySem.boot_len (by decide) z h4) E
 |all a=>obtain⟨x,p,p',rfl,B,E,h4⟩:=bh h;exact fX I G (λte z=>eZ (yC G.calm) G B (by decide) PyProof.Rows.boot_all (by decide) z h4) E
 |any a=>obtain⟨x,p,p',rfl,B,E,h4⟩:=bh h;exact fX I G (λte z=>eZ (yD G.calm) G B (by decide) PyProof.Rows.boot_any (by decide) z h4) E
 |mxL a=>obtain⟨x,p,p',rfl,B,E,h4⟩:=bh h;exact fX I G (λte z=>eZ (yI G.calm) G B (by decide) WF (by decide) z h4) E
 |mxD a c=>
  obtain⟨x,p,q,v,q',rfl,h1,B,E,h4⟩:=EI h
  have hd:PE X v (tC (.int c)):=by
   rcases Bw h1 with h1 |h1
   ·obtain⟨j,p,rfl⟩:=jL h1;exact lH
   ·obtain⟨u,r,rfl,h1⟩:=mN h1;obtain⟨j,p,rfl⟩:=jL h1;exact PE.imp (wn pY lH) λL H Q q=>⟨-c,rfl,by show Q (.int (- -c)) H;rw[Int.neg_neg];exact q⟩
  exact fX I G (λte z=>PE.imp (JL G.calm (G.gl B).1 (G.bl _ (by decide)) (G.gl B).2 hd (cf z h4) (av h4)) λL H Q q=>q) E
 |rev a=>obtain⟨x,k,p,p2,p3,p4,rfl,h1⟩:=Ke h;exact PE.imp (JK (I.e b X x a G h1)) λL H Q q=>As q
 |mnN a=>
  obtain⟨x,p,q,j,p',q',rfl,B,E,h4⟩:=EK h;exact fX I G (λte z=>PE.imp (J1 hu G.calm (G.gl B).1 (G.bl _ (by decide)) (G.gl B).2 (cf z h4) (av h4)) λL H Q q=>q) E
 |sm a=>obtain⟨x,p,p',rfl,B,E,h4⟩:=bh h;exact fX I G (λte z=>eZ (yK G.calm) G B (by decide) PyProof.Rows.boot_sum (by decide) z h4) E
 |intOf a=>obtain⟨x,p,p',rfl,B,E,h4⟩:=bh h;exact PE.imp (k7 yL G B (by decide) WD (by decide) (I.e b X x a G E) h4) λL H Q q=>As q
 |tupOf a=>obtain⟨x,p,p',rfl,B,E,h4⟩:=bh h;exact fX I G (λte z=>k7 yB G B (by decide) WI (by decide) z h4) E
 |listOf a=>exact tmp rfl rfl
 |listR a=>exact tmp rfl rfl
 |srt a=>exact tmp rfl rfl
 |mx a O=>
  obtain⟨x,U,p,p',rfl,B,E⟩:=sQ (b:=b) (f := "max") (k:=λU=>eX T n b U [a,O]) (e:=e) h;have J:=bF E;exact PE.imp (iS (uL G.calm) (G.gl B).1 (G.bl _ (by decide)) WF (I.a b X (x::U) [a,O] G E) (by decide) (G.gl B).2 (av (J x Zj)) (gO λe he=>J e (Zi _ he))) λL H Q q=>Au q
 |mn a O=>
  obtain⟨x,U,p,p',rfl,B,E⟩:=sQ (b:=b) (f := "min") (k:=λU=>eX T n b U [a,O]) (e:=e) h;have J:=bF E;exact PE.imp (iS (uM G.calm) (G.gl B).1 (G.bl _ (by decide)) WG (I.a b X (x::U) [a,O] G E) (by decide) (G.gl B).2 (av (J x Zj)) (gO λe he=>J e (Zi _ he))) λL H Q q=>Au q
 |comp own elt cls=>exact tmp rfl rfl
 |app o a=>
  obtain⟨x,ap,U,p,rfl,B,E,h4,Y⟩:=vA h;obtain⟨y,rfl⟩:=vD Y;have J:=bF Y y (by simp);exact PE.imp (z7 WX W1 PySem.F.type_list_append JN (I.e b X x o G h4) (I.a b X [y] [a] G Y) (iy B) (qI J) E (av J) rfl) λL H Q q=>uY (λR vd c=>AV R vd c) q
 |popAt o a=>
  obtain⟨x,ap,U,p,rfl,B,E,h4,Y⟩:=vA h;obtain⟨y,rfl⟩:=vD Y;have J:=bF Y y (by simp);exact PE.imp (z7 WX W2 PySem.F.type_list_pop yN (I.e b X x o G h4) (I.a b X [y] [a] G Y) (iy B) (qI J) E (av J) rfl) λL H Q q=>uY (λR vd c=>AV R vd c) q
 |cnt o a=>
  obtain⟨x,ap,U,p,rfl,B,E,h4,Y⟩:=vA h;obtain⟨y,rfl⟩:=vD Y;have J:=bF Y y (by simp);exact PE.imp (z7 PySem.F.plainAttrs_tuple W4 PySem.F.type_tuple_count Ep (I.e b X x o G h4) (I.a b X [y] [a] G Y) (iy B) (qI J) E (av J) rfl) λL H Q q=>uY (λR vd c=>JM R vd c) q
end
section
variable {T:Tab} {C:Calls} {ar:Nat->Nat} {k n:Nat} {b:Blk} {X:Cx}
def wZ{op:BoolOp}{v:List Expr}{p:Pos}{t:TT}(h:PT X (.BoolOp op v p) t):PW X (.BoolOp op v p) t:=λd c s f H Q I q=>h c s f H Q I q
def OB(I:Snd T C ar k n)(e:Expr)(c:CE)(G:CtxOk T C ar k b X)(h:fK T (n+1) b e c=aN):PT X e (tT X.K (evT C ar (n+1) c)):=by
 have E:=mU G.room
 have dflt:evT C ar (n+1) c=El (evE C ar n c)->(aK T n b e c && J3 e)=aN->PT X e (tT X.K (evT C ar (n+1) c)):=λU B=>by
  rw[U];have B:=an2 B;exact PT.imp (zT (I.e b X e c G B.1) (vB B.2)) λv H Q q=>JF q
 cases c with
 |cmp o a j=>obtain⟨l,r,p,rfl,f,J,h4⟩:=BE h;exact PT.imp (DI (gM E o) (I.e b X l a G f) (I.e b X r j G J) (iw h4)) λv H Q q=>qj (N7 q)
 |chn o O a j d=>obtain⟨l,r,s,p,rfl,f,J,h4,L⟩:=BF h;exact PT.imp (zS (gM E o) (gM E O) (I.e b X l a G f) (I.e b X r j G J) (I.e b X s d G h4) (mR L)) λv H Q q=>Bd (N7 q)
 |and a j=>
  rcases Bw h with h |h
  ·obtain⟨x,y,p,rfl,u,f⟩:=qF h;exact PT.imp (zG (I.t b X x a G u) (Dz (I.t b X y j G f))).pt λv H Q q=>Bg q
  ·obtain⟨x,y,z,Y,p,rfl,u,f⟩:=qG h;exact PT.imp (zG (I.t b X x a G u) (wZ (I.t b X _ j G f))).pt λv H Q q=>Bg q
 |or a j=>
  rcases Bw h with h |h
  ·obtain⟨x,y,p,rfl,u,f⟩:=qF h;exact PT.imp (Hg (I.t b X x a G u) (IE (I.t b X y j G f))).pt λv H Q q=>HD q
  ·obtain⟨x,y,z,Y,p,rfl,u,f⟩:=qG h;exact PT.imp (Hg (I.t b X x a G u) (wZ (I.t b X _ j G f))).pt λv H Q q=>HD q
 |not a=>obtain⟨x,p,rfl,u⟩:=BD h;exact PT.imp (IG (I.t b X x a G u)) λv H Q q=>JZ q
 |ite _ _ _=>cases h
 |_=>exact dflt rfl h
def snd:∀n,Snd T C ar k n
 |0=>⟨λb X e c _ h=>absurd h Zg,λb X e c _ _ h=>absurd h Zg,λb X e c _ h=>absurd h Zg,λb X e c _ h=>absurd h Zg,λB b X t e c _ h=>absurd h Zg,λb X e gs E d _ h=>absurd h Zg⟩
 |n+1=>⟨λb X e c G h=>OA (snd n) e c G h,λb X e c G j h=>BK (snd n) e c G j h,λb X f p G h=>Oy (snd n) f p G h,λb X e c G h=>OB (snd n) e c G h,λB b X t e c G h=>Oz (snd n) B t e c G h,λb X e gs E d G h=>Kg (snd n) e gs E d G h⟩
end
inductive CS where |asg (t:Tg)(e:CE) |setI (v o i:CE) |ex (e:CE) |ret (e:CE) |ifs (c:CE)(a b:List CS) |for_ (t:Tg)(it:CI)(b:List CS) |cnt |never
abbrev ER:XS:=λ_ _=>aD
mutual
noncomputable def evS(C:Calls)(d:Nat->Nat):Nat->CS->XS
 |0,_=>ER
 |n+1,s=>match s with
  |.asg t e=>mz (evE C d n e) t
  |.setI v o i=>sH (evE C d n v) (evE C d n o) (evE C d n i)
  |.ex e=>sG (evE C d n e)
  |.ret e=>A6 (evE C d n e)
  |.ifs c a b=>xIf (evT C d n c) (g6 C d n a) (g6 C d n b)
  |.for_ t it b=>A7 (evI C d n it) t (g6 C d n b) LF
  |.cnt=>Oj
  |.never=>ER
noncomputable def g6(C:Calls)(b:Nat->Nat):Nat->List CS->XS
 |0,_=>ER
 |n+1,ss=>match ss with
  |[]=>HA
  |s::ss=>A0 (evS C b n s) (g6 C b n ss)
end
abbrev BL:Expr->Bool
 |.Starred _ _=>aN
 |_=>aS
abbrev gQ(sc:Scope)(L:Nat)(T:List Expr):List Str:=T.filterMap λ
 |.Name id pos=>if sc.names.lookup id == aw .local && pos.line == L then aw id else aD
 |_=>aD
abbrev w4(sc:Scope)(ts vs:List Expr):Option (Option (List Str)):=
 if (!(ts.length == 2 || ts.length == 3) || vs.length != ts.length)=aN then aw aD
 else if (vs.any BL)=aN then aw aD
 else if ((gQ sc ((ts.head?.map (·.pos.line)).getD 0) ts).length != ts.length || (gQ sc ((ts.head?.map (·.pos.line)).getD 0) ts).eraseDups.length != (gQ sc ((ts.head?.map (·.pos.line)).getD 0) ts).length)=aN then aw aD
 else if (vs.all (foldedForSure 8))=aN then aw aD
 else if (vs.all (constantsAlone 8))=aN then aD
 else aw (aw (gQ sc ((ts.head?.map (·.pos.line)).getD 0) ts))
def OC{k k2:Nat}(q:env.blockKind = .function)(hs:env.scope=sc)(h:w4 sc ts v=aw r):Uk [.Tuple ts k p] (.Tuple v k2 p2) env=pure r:=by
 unfold w4 at h;unfold Uk
 have E:(v.any λ|.Starred ..=>aN |_=>aS)=v.any BL:=by
  congr 1
 have f:(ts.filterMap λ
   |.Name id pos=>if env.kindOf id == aw .local && pos.line == ((ts.head?.map (·.pos.line)).getD 0) then aw id else aD
   | _=>aD)=gQ sc ((ts.head?.map (·.pos.line)).getD 0) ts:=by
  unfold gQ Env.kindOf;rw[hs]
 have n:(env.blockKind != .function)=aS:=by rw[q];rfl
 simp only[n,Ww];split at h
 ·rename_i d;rw[if_pos d];cases h;rfl
 rename_i d;rw[if_neg d];split at h
 ·rename_i C;cases h;exact if_pos (E.trans C)
 rename_i C;refine Eq.trans (if_neg λz=>C (E.symm.trans z)) ?_;split at h
 ·rename_i c;cases h;rw[<-f] at c;exact if_pos c
 rename_i c;rw[<-f] at c h;refine Eq.trans (if_neg c) ?_;split at h
 ·rename_i b;cases h;exact if_pos b
 rename_i b;refine Eq.trans (if_neg b) ?_;split at h
 ·cases h
 rename_i j;cases h;exact if_neg j
abbrev BM:Expr->Option (Scope × Pos)
 |.ListComp _ _ s p=>aw (s,p)
 |.SetComp _ _ s p=>aw (s,p)
 |.DictComp _ _ _ s p=>aw (s,p)
 |_=>aD
abbrev swW(sc:Scope)(v:Expr)(t:Str)(b:Pos):Bool:=match BM v with
 |none=>aS
 |some (s,p)=>sc.names.lookup t == aw .local && b.line == p.line && !(s.names.any λy=>y.1 == t && (y.2 == .local || y.2 == .cell))
def Kk{line:Nat}(h:env.blockKind = .function)(hs:env.scope=sc):Ul v (aw (.Name t pos)) line env=pure (swW sc v t pos):=by
 unfold Ul swW BM;have E:(env.blockKind == .function)=aN:=by rw[h];rfl
 cases v <;> first |rfl |(simp only[E,Yy,Env.kindOf,hs];rfl)
def sV{L:Nat}(h:∀x p,T ≠ .Name x p):Um [T] v L env=pure aS:=by
 show Ul v (aw T) L env=pure aS;unfold Ul;cases v <;> first |rfl |(cases T <;> first |rfl |(exact absurd rfl (h _ _)))
def w5(h:(∀E k p,v ≠ .Tuple E k p)\/(∃x p,T = .Name x p)\/(∃o i p,T = .Subscript o i p)):Uk [T] v env=pure aD:=by
 unfold Uk;rcases h with h |⟨x,p,rfl⟩ |⟨o,i,p,rfl⟩
 ·split
  ·rename_i e;split at e
   ·exact absurd rfl (h _ _ _)
   ·exact absurd rfl (h _ _ _)
   ·cases e
  ·rfl
 ·rfl
 ·rfl
abbrev nmL:List Expr->Option (List Str)
 |[]=>aw []
 |e::es=>match Bv e,nmL es with
  |some r,aw xs=>aw (r.1::xs)
  |_,_=>aD
def fY(h:nmL b=aw (x::xs)):∃p E,b = .Name x p::E/\nmL E=aw xs:=by
 cases b with
 |nil=>cases h
 |cons e b=>
  rw[nmL] at h;split at h
  ·rename_i r y d c;cases h;exact⟨_,b,by rw[qC d],c⟩
  ·cases h
def w6(h:nmL E=aw []):E=[]:=by
 cases E with
 |nil=>rfl
 |cons e E=>
  rw[nmL] at h;split at h <;> cases h
abbrev tgL:List Tg->Option (List Nat)
 |[]=>aw []
 |.name i::ts=>match tgL ts with
  |some is=>aw (i::is)
  |none=>aD
 |.tup _::_=>aD
def BN:∀ {T:List Tg} {is:List Nat},tgL T=aw is->T=is.map Tg.name
 |[],_,h=>by cases h;rfl
 |.name i::T,is,h=>by
  rw[tgL] at h;cases e:tgL T with
  |none=>rw[e] at h;cases h
  |some js=>rw[e] at h;cases h;rw[BN e];rfl
 |.tup _::_,_,h=>by cases h
abbrev OD(b:Blk)(ns:List Str)(is:List Nat):Bool:=match ns with
 | [x,y]=>(match is with
  |[i,j]=>b.N[i]? == aw x && b.N[j]? == aw y && i != j && b.sc.names.lookup x == aw .local && b.sc.names.lookup y == aw .local
  | _=>aS)
 | [x,y,z]=>(match is with
  |[i,j,l]=>b.N[i]? == aw x && b.N[j]? == aw y && b.N[l]? == aw z && i != j && i != l && j != l && b.sc.names.lookup x == aw .local && b.sc.names.lookup y == aw .local && b.sc.names.lookup z == aw .local
  | _=>aS)
 |_=>aS
abbrev QN(e:Expr):Bool:=jK e λ_ _ _ _=>aN
abbrev QO(e:Expr):Bool:=e.ctorIdx == 24
abbrev vE(T:Tab)(n:Nat)(b:Blk)(d e:Expr)(t:Tg)(c:CE):Bool:=match t with
 | .name i=>(match Bv d with
  |some r=>aK T n b e c && b.N[i]? == aw r.1 && b.own r.1 && (!(swW b.sc e r.1 r.2) || (QN e && b.sc.names.lookup r.1 == aw .local))
  | none=>aS)
 | .tup gs=>(match yW d with
  | some r=>aK T n b e c && (match yW e with
   | some q=>(match w4 b.sc r.1 q.1 with
    |some aD=>mL b r.1 gs
    | some (aw ns)=>(match tgL gs with
     |some is=>nmL r.1 == aw ns && q.1.length == ns.length && OD b ns is
     | none=>aS)
    | none=>aS)
   | none=>!(QO e) && mL b r.1 gs)
  | none=>aS)
abbrev w8(e:Stmt)(k:Option Expr->Pos->Bool):Bool:=if h:e.ctorIdx=3 then @Stmt.Return.elim (λ_=>Bool) e h k else aS
def yX(h:w8 e k=aN):∃X b,e = .Return X b/\k X b=aN:=by
 obtain⟨c,h⟩:=bN h;exact Stmt.Return.elim (motive_2:=λe=>∀f,@Stmt.Return.elim (λ_=>Bool) e f k=aN->∃X b,e = .Return X b/\k X b=aN) e c (λX b _ d=>⟨X,b,rfl,d⟩) c h
abbrev qJ(e:Stmt)(k:List Expr->Expr->Pos->Bool):Bool:=if h:e.ctorIdx=5 then @Stmt.Assign.elim (λ_=>Bool) e h k else aS
def o0(h:qJ e k=aN):∃b c X,e = .Assign b c X/\k b c X=aN:=by
 obtain⟨d,h⟩:=bN h;exact Stmt.Assign.elim (motive_2:=λe=>∀j,@Stmt.Assign.elim (λ_=>Bool) e j k=aN->∃b c X,e = .Assign b c X/\k b c X=aN) e d (λb c X _ f=>⟨b,c,X,rfl,f⟩) d h
abbrev OE(e:Stmt)(k:Expr->Expr->List Stmt->List Stmt->Pos->Bool):Bool:=if h:e.ctorIdx=9 then @Stmt.For.elim (λ_=>Bool) e h k else aS
def Kl(h:OE e k=aN):∃d f c X b,e = .For d f c X b/\k d f c X b=aN:=by
 obtain⟨j,h⟩:=bN h;exact Stmt.For.elim (motive_2:=λe=>∀p,@Stmt.For.elim (λ_=>Bool) e p k=aN->∃d f c X b,e = .For d f c X b/\k d f c X b=aN) e j (λd f c X b _ n=>⟨d,f,c,X,b,rfl,n⟩) j h
abbrev jIf(e:Stmt)(k:Expr->List Stmt->List Stmt->Pos->Bool):Bool:=if h:e.ctorIdx=12 then @Stmt.If.elim (λ_=>Bool) e h k else aS
def OG(h:jIf e k=aN):∃c d b X,e = .If c d b X/\k c d b X=aN:=by
 obtain⟨f,h⟩:=bN h;exact Stmt.If.elim (motive_2:=λe=>∀n,@Stmt.If.elim (λ_=>Bool) e n k=aN->∃c d b X,e = .If c d b X/\k c d b X=aN) e f (λc d b X _ j=>⟨c,d,b,X,rfl,j⟩) f h
abbrev HS(e:Stmt)(k:Expr->Pos->Bool):Bool:=if h:e.ctorIdx=24 then @Stmt.Expr.elim (λ_=>Bool) e h k else aS
def ES(h:HS e k=aN):∃X b,e = .Expr X b/\k X b=aN:=by
 obtain⟨c,h⟩:=bN h;exact Stmt.Expr.elim (motive_2:=λe=>∀f,@Stmt.Expr.elim (λ_=>Bool) e f k=aN->∃X b,e = .Expr X b/\k X b=aN) e c (λX b _ d=>⟨X,b,rfl,d⟩) c h
abbrev o3(e:Stmt)(k:Pos->Bool):Bool:=if h:e.ctorIdx=27 then @Stmt.Continue.elim (λ_=>Bool) e h k else aS
def sW(h:o3 e k=aN):∃X,e = .Continue X/\k X=aN:=by
 obtain⟨b,h⟩:=bN h;exact Stmt.Continue.elim (motive_2:=λe=>∀d,@Stmt.Continue.elim (λ_=>Bool) e d k=aN->∃X,e = .Continue X/\k X=aN) e b (λX _ c=>⟨X,rfl,c⟩) b h
abbrev qK(e:Expr):Bool:=e.ctorIdx == 8 || e.ctorIdx == 9 || e.ctorIdx == 10
abbrev OH(k:Expr->Expr->Bool)(s:Stmt):Bool:=qJ s λb v _=>l1 b λT=>k T v
abbrev HU(k l m:Expr->Bool)(s:Stmt):Bool:=qJ s λT z _=>l1 T λb=>cW b λx y _=>k z && l x && m y && aH y
abbrev zEx(k:Expr->Bool)(s:Stmt):Bool:=HS s λv _=>k v && !(qK v)
abbrev OI(k:Expr->Bool)(s:Stmt):Bool:=w8 s λv _=>oA v k
abbrev zIf(k:Expr->Bool)(l m:List Stmt->Bool)(s:Stmt):Bool:=jIf s λt p q _=>k t && l p && m q
abbrev OJ(k:Expr->Expr->Bool)(l:List Stmt->Bool)(s:Stmt):Bool:=OE s λT i p q _=>q.isEmpty && k T i && l p
abbrev OK(s:Stmt):Bool:=o3 s λ_=>aN
section
variable {s:Stmt} {k l m:Expr->Bool}
def Km{k:Expr->Expr->Bool}(h:OH k s=aN):∃T v p,s = .Assign [T] v p/\k T v=aN:=by
 obtain⟨b,v,p,rfl,h⟩:=o0 h;obtain⟨T,rfl,h⟩:=g5 h;exact⟨T,v,p,rfl,h⟩
def ET(h:HU k l m s=aN):∃x y q z p,s = .Assign [.Subscript x y q] z p/\k z=aN/\l x=aN/\m y=aN/\aH y=aN:=by
 obtain⟨T,v,p,rfl,h⟩:=o0 h;obtain⟨b,rfl,h⟩:=g5 h;obtain⟨x,y,q,rfl,h⟩:=cM h;exact⟨x,y,q,v,p,rfl,an4 h⟩
def OL(h:zEx k s=aN):∃v p,s = .Expr v p/\k v=aN/\qK v=aS:=by
 obtain⟨v,p,rfl,h⟩:=ES h;obtain⟨c,b⟩:=an2 h;exact⟨v,p,rfl,c,by cases e:qK v;rfl;rw[e] at b;cases b⟩
def Ko(h:OI k s=aN):∃v p,s = .Return (aw v) p/\k v=aN:=by
 obtain⟨v,p,rfl,h⟩:=yX h;obtain⟨v,rfl,h⟩:=sO h;exact⟨v,p,rfl,h⟩
def OM{l m:List Stmt->Bool}(h:zIf k l m s=aN):∃t p q r,s = .If t p q r/\k t=aN/\l p=aN/\m q=aN:=by
 obtain⟨t,p,q,r,rfl,h⟩:=OG h;exact⟨t,p,q,r,rfl,an3 h⟩
def Kq{k:Expr->Expr->Bool}{l:List Stmt->Bool}(h:OJ k l s=aN):∃T i p q,s = .For T i p [] q/\k T i=aN/\l p=aN:=by
 obtain⟨T,i,p,q,r,rfl,h⟩:=Kl h;obtain⟨b,z⟩:=an3 h;cases eW b;exact⟨T,i,p,r,rfl,z⟩
def Kr(h:OK s=aN):∃p,s = .Continue p:=by obtain⟨p,rfl,_⟩:=sW h;exact⟨p,rfl⟩
end
mutual
noncomputable def OO(T:Tab):Nat->Blk->Stmt->CS->Bool
 |0,_,_,_=>aS
 |n+1,b,s,c=>match c with
  |.asg t e=>OH (λd v=>vE T n b d v t e) s
  |.setI v o i=>HU (λx=>aK T n b x v) (λx=>aK T n b x o) (λx=>aK T n b x i) s
  |.ex e=>zEx (λx=>aK T n b x e) s
  |.ret e=>OI (λx=>aK T n b x e) s
  |.ifs c x y=>zIf (λe=>fK T n b e c) (λp=>o4 T n b p x) (λp=>o4 T n b p y) s
  |.for_ t it x=>OJ (λd i=>sR T n b d i it && vn b d t) (λp=>o4 T n b p x) s
  |.cnt=>OK s
  |.never=>aN
noncomputable def o4(T:Tab):Nat->Blk->List Stmt->List CS->Bool
 |0,_,_,_=>aS
 |n+1,b,ss,cs=>match cs with
  |[]=>ss.isEmpty
  |c::cs=>lC ss λs ss=>OO T n b s c && o4 T n b ss cs
end
section
variable {T:Tab} {C:Calls} {ar:Nat->Nat} {k n:Nat} {b:Blk} {X:Cx}
def EU{c:Nat}(h:aK T (n+1) b (.Tuple E c p) (.tup d)=aN):eX T n b E d=aN:=h
def BO{j:Nat}(h:aK T (n+1) b (.Tuple q j p) c=aN):∃cs,c = .tup cs:=by
 cases c with
 |tup cs=>exact⟨cs,rfl⟩
 |comp own E d=>
  cases d with
  |nil=>exact absurd h Zg
  |cons g f=>obtain⟨u,I,cond⟩:=g;exact absurd h Zg
 |_=>exact absurd h Zg
def iz:∀ (f:List Tg) (h:List D) (j c:Rho),aM f h j=aw c->f.length=h.length
 |[],[],_,_,_=>rfl
 |[],_::_,_,_,e=>by simp[aM] at e
 |_::_,[],_,_,e=>by simp[aM] at e
 |t::f,d::h,j,c,e=>by
  simp only[aM] at e;split at e
  ·simp[iz _ _ _ _ e]
  ·cases e
def sX{K:Vk}{x:XA}{y:List Tg}{D:Ends}{v:L2.St}{H:Hp}(h:tSt K (mz (kK kL x) (.tup y)) D v H):tAr K x v H λB H1=>∃m1 f d j,EnvR K m1 H1 f v/\VDs K m1 H1 j B/\aM y j f=aw d/\∀c,EnvR K m1 H1 d c->D.nx c H1:=by
 obtain⟨m,f,S,O,d,U,E,R,e,q⟩:=h;unfold mz at e;cases u:kK kL x f S with
 |none=>rw[u] at e;cases e
 |some r=>
  rw[u] at e;obtain⟨j,Q,L,p⟩:=ae u;unfold kL at p;split at p
  ·cases p;dsimp only at e;simp only[ax] at e;cases hb:aM y j f with
   |none=>rw[hb] at e;cases e
   |some I=>
    rw[hb] at e;cases e;exact⟨m,f,S,j,_,E,R,L,λm1 H1 B z vd=>⟨m1,f,_,j,E.mono R z.ext,vd,hb,λc J=>q m1 H1 z c J⟩⟩
  ·cases p
def sY{K:Vk}{x:XA}{j:L2.St}{H:Hp}{Q Q':List V->Hp->Prop}(h:tAr K x j H Q)(f:∀v c,Q v c->Q' v c):tAr K x j H Q':=by
 obtain⟨m,u,S,d,p,E,R,e,q⟩:=h;exact⟨m,u,S,d,p,E,R,e,λy c v A vd=>f _ _ (q y c v A vd)⟩
def mV{f c:Rho}{i:Nat}{d:D}(h:(if i < f.length then aw (f.set i (aw d)) else aD)=aw c):c=f.set i (aw d):=by
 split at h
 ·cases h;rfl
 ·cases h
def EV{K:Vk}{x:XA}{i j:Nat}{D:Ends}{d:L2.St}{H:Hp}(h:tSt K (mz (kK kL x) (.tup [.name i,.name j])) D d H):NA i j (tAr K x) D d H:=by
 refine sY (sX h) λO L ⟨m1,J,f,z,E,vd,e,q⟩=>?_;have u:=iz _ _ _ _ e
 match z,u with
 |[a,c],_=>
  obtain⟨v,w,rfl,B,I⟩:=yE vd;refine⟨v,w,rfl,q _ ?_⟩;simp only[aM,ax] at e;split at e
  ·rename_i r1 y;have:=mV y;subst this;split at e
   ·rename_i r2 p;have:=mV p;subst this;cases e;exact(E.set B).set I
   ·cases e
  ·cases e
def QP{K:Vk}{m:List Addr}{H:Hp}{a b c:D}{d:List V}(h:VDs K m H [a,b,c] d):∃v w z,d=[v,w,z]/\VD K m H a v/\VD K m H b w/\VD K m H c z:=by
 rw[VDs] at h;obtain⟨v,r,rfl,p,q⟩:=h;obtain⟨w,z,rfl,f,Q⟩:=yE q;exact⟨v,w,z,rfl,p,f,Q⟩
def EW{K:Vk}{x:XA}{i j l:Nat}{D:Ends}{p:L2.St}{H:Hp}(h:tSt K (mz (kK kL x) (.tup [.name i,.name j,.name l])) D p H):Hw i j l (tAr K x) D p H:=by
 refine sY (sX h) λZ U ⟨m1,ρ,y,O,E,vd,e,q⟩=>?_;have I:=iz _ _ _ _ e
 match O,I with
 |[a,c,d],_=>
  obtain⟨v,w,z,rfl,Q,u,f⟩:=QP vd;refine⟨v,w,z,rfl,q _ ?_⟩;simp only[aM,ax] at e;split at e
  ·rename_i r1 J;have:=mV J;subst this;split at e
   ·rename_i r2 B;have:=mV B;subst this;split at e
    ·rename_i Y L;have:=mV L;subst this;cases e;exact((E.set Q).set u).set f
    ·cases e
   ·cases e
  ·cases e
def BP(h:aK T (n+1) b (.ListComp e gs d p) c=aN):∃own E u I cond f t i ifs j,c = .comp own E (⟨u,I,cond⟩::f)/\gs=⟨t,i,ifs,0⟩::j ∧
  cmB own (mJ own b.N) b.N d b.sc=aN/\sR T n b t i I=aN/\vn (b.inner own d) t u=aN/\BH (fK T n (b.inner own d)) ifs cond=aN/\oX T n (b.inner own d) e j E f=aN:=by
 cases c with
 |comp own E v=>
  ·obtain⟨u,I,cond,f,rfl,B⟩:=HR h;obtain⟨U,t,i,ifs,j,q,Y,O,y⟩:=wY B;cases O;obtain⟨Q,J,z,L,h4⟩:=an5 y;exact⟨own,E,u,I,cond,f,t,i,ifs,j,rfl,rfl,Q,J,z,L,h4⟩
 |_=>exact absurd h Zg
end
section
variable {T:Tab} {C:Calls} {ar:Nat->Nat} {k n:Nat} {b:Blk} {X:Cx}
def EX(h:X.env.scope.kind = .function):X.env.blockKind = .function:=by
 unfold Env.blockKind;rw[h];rfl
def EY{c:Type}{l:List c}(h:l.length=2):∃a b,l=[a,b]:=by
 match l,h with
 |[a,b],_=>exact⟨a,b,rfl⟩
def yY{d:Type}{l:List d}(h:l.length=3):∃a b c,l=[a,b,c]:=by
 match l,h with
 |[a,b,c],_=>exact⟨a,b,c,rfl⟩
def Ks(G:CtxOk T C ar k b X)(hk:X.env.scope.kind = .function){tg e:Expr}{t:Tg}{c:CE}{p:Pos}(h:vE T n b tg e t c=aN):PS X (.Assign [tg] e p) (tSt X.K (mz (evE C ar n c) t)):=by
 have hb:=EX hk;unfold vE at h;cases t with
 |name i=>
  dsimp only at h;cases u:Bv tg with
  |none=>rw[u] at h;cases h
  |some r=>
  obtain⟨x,px⟩:=r;rw[u] at h;rw[qC u];simp only[bAE] at h;obtain⟨⟨⟨I,h2⟩,d⟩,h4⟩:=h;have hi:X.N[i]?=aw x:=by rw[G.hN];simpa using h2
  have nd:X.N.Nodup:=by rw[G.hN];exact G.nd
  have o:=G.own d;have sw:=Kk (sc:=b.sc) (v:=e) (t:=x) (pos:=px) (line:=p.line) hb G.hs;cases B:swW b.sc e x px with
  |false=>
   rw[B] at sw;exact PS.imp (IP nd hi o.1 ((snd n).e b X e c G I) sw o.2) λD σ H q=>qH (vf q) λv H' z=>qy z
  |true=>
   rw[B] at h4 sw;simp only[Xb,Wx,bAE] at h4;obtain⟨h5,h4⟩:=h4;obtain⟨el,gs,f,pp,rfl,_⟩:=kj h5
   ·cases n with
    |zero=>exact absurd I Zg
    |succ n=>
     obtain⟨own,Y,tg',it,cond,J,tt,ii,ifs,gs',rfl,rfl,c0,c1,c2,c3,c4⟩:=BP I;have S:CmScope own (mJ own b.N) b.N f b.sc:=Ao _ c0;have S':CmScope own (mJ own b.N) X.N f X.env.scope:=by rw[G.hN,G.hs];exact S
     have hpl:=gN c1 (λe he env=>eY he) X.env;have u:X.env.scope.names.lookup x=aw .local:=by rw[G.hs];simpa using h4
     refine PS.imp (D2 (g:=tTg X.K tg') (ti:=ifT C ar n X.K cond) (t:=λE=>tCl X.K E (gZ C ar n Y J)) G.calm S' nd hi u ((snd n).i [] b X tt ii it G c1) (λC' ex s H=>gP (G.inner S (C':=C') (ex:=ex) (s:=s) (H:=H)) c2) (λC' ex s H=>mS (snd n) (G.inner S (C':=C') (ex:=ex) (s:=s) (H:=H)) c3)
      (λC' ex s H E=>(snd n).cl _ _ el gs' Y J (G.inner S (C':=C') (ex:=ex) (s:=s) (H:=H)) c4 _ f pp E 0 rfl) sw hpl) λD σ H q=>?_
     exact wQ (λE D σ H z=>vC z) (sd (qH (vf q) λv H' z=>qy z))
 |tup gs=>
  dsimp only at h;cases u:yW tg with
  |none=>rw[u] at h;cases h
  |some r=>
  obtain⟨L,kt,pt⟩:=r;rw[u] at h;rw[qD u];simp only[bAE] at h;obtain⟨I,d⟩:=h;have so:Um [.Tuple L kt pt] e p.line X.env=pure aS:=sV λx p z=>nomatch z
  have plain:∀ (B:Uk [.Tuple L kt pt] e X.env=pure aD) (hg:mL b L gs=aN),PS X (.Assign [.Tuple L kt pt] e p) (tSt X.K (mz (evE C ar n c) (.tup gs))):=λB hg=>
   PS.imp (zO ((snd n).e b X e c G I) (gP G (e:=.Tuple L kt pt) (t:=.tup gs) hg) so B rfl) λD σ H q=>vf q
  cases U:yW e with
  |none=>
   rw[U] at d;simp only[bAE] at d;exact plain (w5 (.inl λes k p z=>by rw[z] at U;cases U)) d.2
  |some q=>
   obtain⟨es,ke,pe⟩:=q;rw[U] at d;obtain rfl:=qD U;cases n with
   |zero=>exact absurd I Zg
   |succ n=>
    obtain⟨cs,rfl⟩:=BO I;have ha:=EU I;dsimp only at d;cases hr:w4 b.sc L es with
    |none=>rw[hr] at d;cases d
    |some w=>
     have B:=OC (k:=kt) (p:=pt) (k2:=ke) (p2:=pe) hb G.hs hr;rw[hr] at d;cases w with
     |none=>exact plain B d
     |some ns=>
      dsimp only at d;cases ht:tgL gs with
      |none=>rw[ht] at d;cases d
      |some is=>
       rw[ht] at d;simp only[bAE] at d;obtain⟨⟨hn0,hl0⟩,d⟩:=d;have hn:nmL L=aw ns:=by simpa using hn0
       have hl:es.length=ns.length:=by simpa using hl0
       clear hn0 hl0;obtain rfl:=BN ht;unfold OD at d;split at d
       ·rename_i x y;split at d
        ·rename_i i j;obtain⟨p1,t1,rfl,Q⟩:=fY hn;obtain⟨p2,t2,rfl,O⟩:=fY Q;obtain rfl:=w6 O;obtain⟨a1,a2,rfl⟩:=EY hl;simp only[bAE] at d;obtain⟨⟨⟨⟨q2,q3⟩,q4⟩,q5⟩,q6⟩:=d;exact PS.imp (IQ (i:=i) (j:=j) G.calm (by rw[G.hN];exact G.nd) (by rw[G.hN];simpa using q2) (by rw[G.hN];simpa using q3) (by simpa using q4) (by rw[G.hs];simpa using q5) (by rw[G.hs];simpa using q6) ((snd n).a b X _ cs G ha) B so) λD σ H q=>EV q
        ·cases d
       ·rename_i x y z;split at d
        ·rename_i i j l;obtain⟨p1,t1,rfl,Q⟩:=fY hn;obtain⟨p2,t2,rfl,O⟩:=fY Q;obtain⟨p3,t3,rfl,hn3⟩:=fY O;obtain rfl:=w6 hn3;obtain⟨a1,a2,a3,rfl⟩:=yY hl;simp only[bAE] at d;obtain⟨⟨⟨⟨⟨⟨⟨⟨q2,q3⟩,q3'⟩,q4⟩,q4'⟩,Z⟩,q5⟩,q6⟩,q7⟩:=d;exact PS.imp (D6 (i:=i) (j:=j) (k:=l) G.calm (by rw[G.hN];exact G.nd) (by rw[G.hN];simpa using q2) (by rw[G.hN];simpa using q3) (by rw[G.hN];simpa using q3') (by simpa using q4) (by simpa using q4') (by simpa using Z) (by rw[G.hs];simpa using q5) (by rw[G.hs];simpa using q6) (by rw[G.hs];simpa using q7) ((snd n).a b X _ cs G ha) B so) λD σ H q=>EW q
        ·cases d
       ·cases d
def BQ{L:Nat}(h:qK v=aS):Ul v aD L X.env=pure aS:=by
 unfold Ul;cases v <;> first |rfl |(exact absurd h (λz=>Zg z.symm))
structure SndS(T:Tab)(C:Calls)(ar:Nat->Nat)(k n:Nat):Prop where
 s:∀ (b:Blk) (X:Cx) (s:Stmt) (c:CS),CtxOk T C ar k b X->X.env.scope.kind = .function->OO T n b s c=aN->PS X s (tSt X.K (evS C ar n c))
 ss:∀ (b:Blk) (X:Cx) (s:List Stmt) (c:List CS),CtxOk T C ar k b X->X.env.scope.kind = .function->o4 T n b s c=aN->PSs X s (tSt X.K (g6 C ar n c))
def OP{K:Vk}{D:Ends}{d:L2.St}{H:Hp}(h:tSt K ER D d H):False:=by
 obtain⟨m,j,S,p,c,f,E,R,e,q⟩:=h;cases e
def OQ:∀n,SndS T C ar k n
 |0=>⟨λb X s c _ _ h=>absurd h Zg,λb X s c _ _ h=>absurd h Zg⟩
 |n+1=>by
  have I:=OQ n;refine⟨λb X s c G u h=>?_,λb X ss B G u h=>?_⟩
  ·have U:PassesOwn (model X.prog X.w) X.A X.env X.xe:=by rw[G.xe];exact PassesOwn.never
   cases c with
   |asg t e=>obtain⟨L,v,p,rfl,d⟩:=Km h;exact Ks G u d
   |setI v o i=>
    obtain⟨x,y,Z,z,p,rfl,d,j,E,O⟩:=ET h
    exact PS.imp (zO ((snd n).e b X z v G d) (IM ((snd n).e b X x o G j) ((snd n).e b X y i G E) (Oc (mU G.room)) (λv=>by
     cases y <;> first | rfl | (exact absurd O Zg))) (sV λx p z=>nomatch z) (w5 (.inr (.inr ⟨_,_,_,rfl⟩))) rfl) λD f H q=>Ex q
   |ex e=>obtain⟨v,p,rfl,d,j⟩:=OL h;exact PS.imp (DB ((snd n).e b X v e G d) (BQ j)) λD f H q=>Ew q
   |ret e=>obtain⟨v,p,rfl,d⟩:=Ko h;exact PS.imp (II ((snd n).e b X _ _ G d)) λD f H q=>JQ q
   |ifs c x y=>obtain⟨t,p,q,r,rfl,d,j,E⟩:=OM h;exact PS.imp (Nw ((snd n).t b X _ _ G d) (I.ss b X _ _ G u j) (I.ss b X _ _ G u E)) λD f H q=>Ol q
   |for_ t Y x=>
    obtain⟨L,i,p,J,rfl,d,j⟩:=Kq h;have d:=an2 d;exact PS.imp (IS U G.calm ((snd n).i [] b X _ _ _ G d.1) (gP G d.2) (I.ss b X _ _ G u j) (gN d.1 (λe Q env=>eY Q) X.env)) λD f H q=>JS q
   |cnt=>obtain⟨p,rfl⟩:=Kr h;exact PS.imp rD λD f H q=>JR q
   |never=>exact PS.imp zL λD f H q=>(OP q).elim
  ·cases B with
   |nil=>rw[eW h];exact PSs.imp DA λD f H q=>Eu q
   |cons c B=>
    obtain⟨s,ss,rfl,h⟩:=dD h;have h:=an2 h;exact PSs.imp (zK (I.s b X s c G u h.1) (I.ss b X ss B G u h.2)) λD f H q=>JP q
end
structure DefE where
 x:Str
 st:Stmt
 N:List Str
 ps:List Str
 body:List CS
abbrev FU:Nat:=60
abbrev fZ(ag:List DefE)(f:Nat):Nat:=match ag[f]? with
 |some d=>d.ps.length
 |none=>0
abbrev Kt(C:Calls)(c:Nat->Nat)(d:DefE)(b:List D)(S:Sto):Option (D × Sto):=
 match g6 C c FU d.body (b.map aw++Zx (d.N.length - b.length) aD) S with
 |some (.rt v,_,S')=>aw (v,S')
 |some (.nx,_,S')=>aw (.non,S')
 |_=>aD
abbrev evC(ag:List DefE):Nat->Calls
 |0=>λ_ _ _=>aD
 |k+1=>λf b S=>match ag[f]? with
  |some d=>Kt (evC ag k) (fZ ag) d b S
  |none=>aD
abbrev BR(N ps:List Str)(sc:Scope):Bool:=sc.kind == .function && sc.isCoroutine == aS && sc.isGenerator == aS && jE N && N.take ps.length == ps && (ps.all λx=>sc.names.lookup x == aw .local || sc.names.lookup x == aw .cell) && sc.names.all λy=>y.2 != .free
def EZ{N ps:List Str}{sc:Scope}(h:BR N ps sc=aN):FnScope N ps sc:=by
 unfold BR at h;simp only[bAE,Yk] at h;obtain⟨⟨⟨⟨⟨⟨n,j⟩,p⟩,h4⟩,k⟩,c⟩,b⟩:=h;refine⟨by simpa using n,by simpa using j,by simpa using p,iW h4,by simpa using k,λx d=>?_,λy f=>by simpa using b y f⟩;have:=c x d
 simpa using this
abbrev E5(T:Tab)(d:DefE):Bool:=BR d.N d.ps (bn d.st) && o4 T FU ⟨bn d.st,aD,d.N⟩ (cx d.st) d.body
abbrev w9(con:List (Str × Int))(ag:List DefE):Tab:=⟨con,ag.map λd=>(d.x,d.ps.length)⟩
structure TextOk(K:Vk)(mg:Str->Option Value)(con:List (Str × Int))(ag:List DefE):Prop where
 con:∀ (i:Nat) (x:Str) (v:Int),con[i]?=aw (x,v)->∃tk,mg x=aw (.int v tk)
 bl:∀x,x ∈ i7->mg x=aD
 fn:∀ (i:Nat) (d:DefE),ag[i]?=aw d->∃f fd,mg d.x=aw (.ref f)/\Vs K (.ref f)=aN/\iR K fd d.ps []/\Fun K d.x d.x d.st f fd
section
variable {P:Program} {w:World} {K:Vk} {mg:Str->Option Value} {base:Heap} {con:List (Str × Int)} {ag:List DefE}
def E6{f:Addr}{k:W7}{ps:List Str}{i n:Nat}:FnOk P w K mg base CX0 0 f k ps (spC K (evC ag 0 i) n):=
 ⟨λv H Q E h=>(by obtain⟨m,j,S,d,c,_,_,_,e,_⟩:=h;cases e),λA outer s H b u v Q E _ _ _ _ h=>(by obtain⟨m,j,S,d,c,_,_,_,e,_⟩:=h;cases e)⟩
def yZ{m:List Addr}{H:Hp}{N:List Str}{b:List D}{c:List V}(vd:VDs K m H b c):EnvR K m H (b.map aw++Zx (N.length - b.length) aD) (L2.hJ N c):=by
 have j:=vd.length;unfold L2.hJ;refine⟨by simp[j],λi d e=>?_⟩;by_cases hi:i < b.length
 ·rw[Zq (by simpa using hi),Zp] at e;cases h:b[i]? with
  |none=>rw[h] at e;cases e
  |some n=>
   rw[h] at e;cases e;obtain⟨v,k,f⟩:=vd.get h;exact⟨v,by rw[Zq (by simp;omega),Zp,k];rfl,f⟩
 ·rw[Zm (by simpa using hi),YA] at e;split at e <;> cases e
def xa(T:TextOk K mg con ag)(Y:ag.all (E5 (w9 con ag))=aN):∀ (k i:Nat) (d:DefE),ag[i]?=aw d->∀f B,mg d.x=aw (.ref f)->Fun K d.x d.x d.st f B->FnOk P w K mg base CX0 k f B d.ps (spC K (evC ag k i) d.ps.length)
 |0,i,d,_,f,B,_,_=>E6
 |k+1,i,d,hd,f,B,hm,F=>by
  have ih:=xa T Y k;have C:=Yk.mp Y d (Zc hd);unfold E5 at C;rw[bAE] at C;have S:=EZ C.1;refine F.ok S (λvs H Q E h=>?_) λJ A outer s H vs Q E hr h=>?_
  ·obtain⟨m,O,S,d',S',vd,_,hl,_⟩:=h;rw[<-vd.length,hl]
  ·have G:CtxOk (w9 con ag) (evC ag k) (fZ ag) k ⟨bn d.st,aD,d.N⟩ (uq CX0 P w K mg base d.N d.x (bn d.st) f J A outer s H E).nox:=by
    refine⟨rfl,rfl,rfl,rfl,S.nd,λ_ _=>rfl,hr,T.con,T.bl,λj y hy=>?_⟩;have b:(ag.map λd=>(d.x,d.ps.length))[j]?=aw y:=hy;rw[Zp] at b;cases p:ag[j]? with
    |none=>rw[p] at b;cases b
    |some e=>
     rw[p] at b;cases b;have Z:fZ ag j=e.ps.length:=by unfold fZ;rw[p]
     obtain⟨f',n,c,k',b',F'⟩:=T.fn j e p;refine⟨Z,f',n,e.ps,c,k',b',?_⟩;rw[Z];exact ih j e p f' n c F'
   refine⟨_,(OQ FU).ss _ _ (cx d.st) d.body G S.kind C.2,?_⟩;obtain⟨m,O,S0,r,S',vd,R,hl,e,q⟩:=h;simp only[evC,hd,Kt] at e;cases I:g6 (evC ag k) (fZ ag) FU d.body (O.map aw++Zx (d.N.length - O.length) aD) S0 with
   |none=>rw[I] at e;cases e
   |some z=>
    obtain⟨X,L,S1⟩:=z;rw[I] at e;refine⟨m,_,S0,X,L,S1,yZ vd,R,I,λc U A'=>?_⟩;cases X with
    |nx=>cases e;exactλσ _=>q c U .non A' qk
    |rt v=>cases e;exactλu vu=>q c U u A' vu
    |bk=>cases e
    |ct=>cases e
end
@[inline]abbrev xc:=(Str × Str) × (Arguments × List Stmt) × (Scope × Addr) × (List (Str × Addr) × Value) × (Addr × Option Str)
abbrev HV(h:Heap):Value->Option Str
 | .ref c=>(match h.get? c with
  |some ⟨_,_,.fields vs,_⟩=>(match vs.toList with |_ :: .str n _::_=>aw n |_=>aD)
  | _=>aD)
 |_=>aD
abbrev OT(h:Heap):Option Obj->Option xc
 |some ⟨_,_,.func ⟨nm,qn,ps,.stmts b,sc,gl,cl,dv,_,_,_,_,cd,_,bi⟩,_⟩=>aw ((nm,qn),(ps,b),(sc,gl),(cl,dv),(bi,HV h cd))
 |_=>aD
abbrev E7(h:Heap)(x:Str):Option xc:=match h.nsMap V1 x with
 |some (.ref f)=>OT h (h.get? f)
 |_=>aD
abbrev xf(d:DefE):Option xc:=aw ((d.x,d.x),(eN d.st,cx d.st),(bn d.st,V1),([],.none),(VJ,aw d.x))
abbrev OU(h:Heap)(x:Str):Option Int:=match h.nsMap V1 x with
 |some (.int v _)=>aw v
 |_=>aD
@[inline]abbrev BS:=Bool × List (Option xc) × List (Option Int) × List Bool
abbrev Ku(con:List (Str × Int))(ag:List DefE)(h:Heap):BS:=(h.isNs V1,ag.map (λd=>E7 h d.x),con.map (λc=>OU h c.1),i7.map λx=>(h.nsMap V1 x).isNone)
abbrev BU(con:List (Str × Int))(ag:List DefE):BS:=(aN,ag.map xf,con.map (λc=>aw c.2),i7.map λ_=>aN)
abbrev HW(d:DefE):Prop:=∀ (kV b pm:Value) (f:Option Addr) (c ct:Value) (u:List Value),u.length=d.ps.length->bindArgs (Vp d.x d.x (eN d.st) (cx d.st) (bn d.st) .none kV b pm f c ct) ⟨u,[]⟩=pure (d.ps.zip u)
abbrev y3:List DefE->Prop
 |[]=>True
 |d::ds=>HW d/\y3 ds
def y3.at:∀ {b:List DefE} {d:DefE},y3 b->d ∈ b->HW d
 |e::b,d,h,hd=>by
  rcases Zn.mp hd with rfl |hd
  ·exact h.1
  ·exact y3.at h.2 hd
abbrev o5(h:Heap)(f:Addr):Vk:=match h.get? f with
 | some o=>(f,o)::(match o.data with
  | .func fd=>(match fd.code with
   |.ref c=>(match h.get? c with |some O=>[(c,O)] |none=>[])
   | _=>[])
  | _=>[])
 |none=>[]
abbrev dk(h:Heap)(d:DefE):Vk:=match h.nsMap V1 d.x with
 |some (.ref f)=>o5 h f
 |_=>[]
abbrev OV(K:Vk):Prop:=∀a o,K.lookup a=aw o->∀I n,o.data ≠ .seq I n
structure Says(con:List (Str × Int))(ag:List DefE)(h:Heap):Prop where
 ns:∃m,h.Ns V1 m
 frag:∃K:Vk,K.In h/\OV K/\∀mg,h.Ns V1 mg->TextOk K mg con ag
def mW{K:Vk}{a:Addr}{o:Obj}(h:K.lookup a=aw o):(a,o) ∈ K:=by
 induction K with
 |nil=>cases h
 |cons p K I=>
  obtain⟨b,q⟩:=p;rw[YB] at h;cases hb:a == b with
  |true=>
   rw[hb] at h;cases h;have:a=b:=by simpa using hb
   subst this;exact Zj
  |false=>rw[hb] at h;exact Zi _ (I h)
def BV{K:Vk}{a:Addr}{o:Obj}(h:(a,o) ∈ K):∃o',K.lookup a=aw o':=by
 induction K with
 |nil=>cases h
 |cons p K I=>
  obtain⟨b,q⟩:=p;rw[YB];cases hb:a == b with
  |true=>exact⟨_,rfl⟩
  |false=>
   rcases Zn.mp h with e |h
   ·cases e;simp at hb
   ·exact I h
def BW{h:Heap}{f a:Addr}{o:Obj}(e:(a,o) ∈ o5 h f):h.get? a=aw o:=by
 unfold o5 at e;cases d:h.get? f with
 |none=>rw[d] at e;cases e
 |some of=>
  rw[d] at e;dsimp only at e;rcases Zn.mp e with q |e
  ·cases q;exact d
  ·split at e
   ·split at e
    ·rename_i c j;cases b:h.get? c with
     |none=>rw[b] at e;cases e
     |some O=>
      rw[b] at e;dsimp only at e;rcases Zn.mp e with q |e
      ·cases q;exact b
      ·cases e
    ·cases e
   ·cases e
def Kv{h:Heap}{a:Addr}{mg:Str->Option Value}(N:h.Ns a mg):h.nsMap a=mg:=by
 obtain⟨o,E,c,ho,hd,_,b⟩:=N
 funext x
 unfold Heap.nsMap;rw[ho];dsimp only;rw[hd];exact b x
def BX{h:Heap}{d:DefE}(e:E7 h d.x=xf d):∃f u p kV j pm y c ct O C q v a t r k,h.nsMap V1 d.x=aw (.ref f)/\h.get? f=aw ⟨u,p,.func (Vp d.x d.x (eN d.st) (cx d.st) (bn d.st) .none kV j pm y (.ref c) ct),O⟩ ∧
  h.get? c=aw ⟨C,q,.fields v,k⟩/\v.toList=a :: .str d.x t::r:=by
 unfold E7 xf at e;split at e
 ·rename_i f B;unfold OT at e;split at e
  ·rename_i u p nm Q ps b sc gl cl L kV j pm y z ct T O I;simp only[Option.some.injEq,Prod.mk.injEq] at e;obtain⟨⟨rfl,rfl⟩,⟨rfl,rfl⟩,⟨rfl,rfl⟩,⟨rfl,rfl⟩,rfl,e⟩:=e;unfold HV at e;split at e
   ·rename_i c;split at e
    ·rename_i C q v k E;split at e
     ·rename_i a n t r J;cases e;exact⟨f,u,p,kV,j,pm,y,c,ct,O,C,q,v,a,t,r,k,B,I,E,J⟩
     ·cases e
    ·cases e
   ·cases e
  ·cases e
 ·cases e
def E8{con:List (Str × Int)}{ag:List DefE}(hb:y3 ag){h:Heap}(e:Ku con ag h=BU con ag):Says con ag h:=by
 unfold Ku BU at e;simp only[Prod.mk.injEq] at e;obtain⟨Y,e1,e2,e3⟩:=e;have N:=Heap.Ns.of_isNs Y;have D:∀d ∈ ag,E7 h d.x=xf d:=λd hd=>Xp.mp e1 d hd
 have inK:∀a o,(a,o) ∈ ag.flatMap (dk h)->h.get? a=aw o:=λa o he=>by
  obtain⟨d,hd,he⟩:=Ys.mp he;obtain⟨f,T,I,kV,k,pm,U,c,ct,O,y,Q,J,B,t,r,E,b,j,g3,p⟩:=BX (D d hd);unfold dk at he;rw[b] at he;exact BW he
 have L:∀a o,(a,o) ∈ ag.flatMap (dk h)->(ag.flatMap (dk h)).lookup a=aw o:=λa o he=>by
  obtain⟨o',q⟩:=BV he;have z:=inK a o' (mW q);rw[inK a o he] at z;cases z;exact q
 refine⟨⟨_,N⟩,ag.flatMap (dk h),λa o q=>inK a o (mW q),λa o q its n hs=>?_,λmg G=>?_⟩
 ·obtain⟨d,hd,he⟩:=Ys.mp (mW q);obtain⟨f,T,I,kV,k,pm,U,c,ct,O,y,Q,J,B,t,r,E,b,j,g3,p⟩:=BX (D d hd);unfold dk at he;rw[b] at he;dsimp only at he;unfold o5 at he;rw[j] at he;dsimp only at he;rw[g3] at he;dsimp only at he;rcases Zn.mp he with z |he
  ·cases z;cases hs
  ·rcases Zn.mp he with z |he
   ·cases z;cases hs
   ·cases he
 ·have u:=Kv G;refine⟨λi x v hi=>?_,λx X=>?_,λi d hi=>?_⟩
  ·have z:=Xp.mp e2 (x,v) (Zc hi);unfold OU at z;rw[u] at z;dsimp only at z;split at z
   ·rename_i v' t hv;cases z;exact⟨t,hv⟩
   ·cases z
  ·have z:=Xp.mp e3 x X;rw[u] at z
   simpa using z
  ·have hd:=Zc hi;obtain⟨f,T,I,kV,k,pm,U,c,ct,O,y,Q,J,B,t,r,E,b,j,g3,p⟩:=BX (D d hd)
   have m1:(f,_) ∈ ag.flatMap (dk h):=Ys.mpr ⟨d,hd,by
    show _ ∈ dk h d;unfold dk;rw[b];dsimp only;unfold o5;rw[j];exact Zj⟩
   have Z:(c,_) ∈ ag.flatMap (dk h):=Ys.mpr ⟨d,hd,by
    show _ ∈ dk h d;unfold dk;rw[b];dsimp only;unfold o5;rw[j];dsimp only;rw[g3];exact Zi _ Zj⟩
   have l1:=L _ _ m1;have l2:=L _ _ Z;have kp:Vs (ag.flatMap (dk h)) (.ref f)=aN:=by unfold Vs;dsimp only;rw[l1]
   have C:Vn (ag.flatMap (dk h)) (.ref c) d.x=aN:=by
    unfold Vn;dsimp only;rw[l2];dsimp only;rw[p];simp
   have F:=Jj (st:=d.st) (x:=d.x) (qual:=d.x) l1 C kp;refine⟨f,_,by rw[<-u];exact b,kp,F.binds (hb.at hd),F⟩
def vF{con:List (Str × Int)}{ag:List DefE}{h h':Heap}(x:Says con ag h)(k:∀b o,h.get? b=aw o->h'.get? b=aw o):Says con ag h':=by
 obtain⟨⟨m,N⟩,K,f,ns,T⟩:=x
 have B:∀mg,h'.Ns V1 mg->h.Ns V1 mg:=λmg ⟨o,E,d,ho,r⟩=>by
  obtain⟨O,j,n,c,p⟩:=N;have z:=k _ _ c;rw[ho] at z;cases z;exact⟨o,E,d,c,r⟩
 refine⟨⟨m,let ⟨o,E,d,ho,r⟩:=N;⟨o,E,d,k _ _ ho,r⟩⟩,K,λa o q=>k _ _ (f a o q),ns,λmg G=>T mg (B mg G)⟩
abbrev qL(con:List (Str × Int))(ag:List DefE)(hb:y3 ag):PySem.W.Hook:=
 ⟨BS,λs=>Ku con ag s.heap,λ_=>BU con ag,λ_ h=>Says con ag h,λ_ _ e=>E8 hb e,λ_ _ _ x k=>vF x k⟩
def mX{K:Vk}{m:List Addr}{H:Hp}:∀ns:List Int,VDs K m H (ns.map D.int) (ns.map V.int)
 |[]=>by rw[Yn,Yn,VDs]
 |a::l=>by rw[Zw,Zw,VDs];exact⟨_,_,rfl,bg,mX l⟩
def E9{l:PySem.W.OpenLaw}{n k i:Nat}{q:Program}{loose:List Str}{XP:(Str->Option Value)->Heap->Prop}{d:DefRec}{con:List (Str × Int)}{ag:List DefE}{hb:y3 ag}{dl:DefE}{x:Str}
  (hn:l.most=aw n) (Q:n<=sizeLine) (L:d.params.defaults=[]) (hr:Room k callerA) (hx:d.name=dl.x) (hi:ag[i]?=aw dl) (h:dl.ps=[x]) (hc:ag.all (E5 (w9 con ag))=aN)
  (main:∀ns:List Int,ns.length<=n->∃U,evC ag k i [.ref 0] [.frz (ns.map D.int)]=aw (.bl aN,U)) :
  PySem.W.WalkO q loose XP (qL con ag hb).says l.row.toRowW d [] (λf vs=>PySem.call f vs):=by
 refine Att.attach_call hn L λw s₀ E mg mb fa o pm cd B a vs ns G Y ho hd X p C c b hg=>?_;obtain⟨_,K,KX,O,T⟩:=(show Says con ag E.heap from Y);have T:=T mg G.T.g;obtain⟨f,Z,hm,kp,_,F⟩:=T.fn i dl hi;rw[hx] at p;rw[p] at hm;cases hm
 have bd:∀ (s:Shared) (u:Value),BindsTo s Z ⟨[u],[]⟩ [(x,u)]:=λs u=>by
  obtain⟨oc,od,kV,B,pm,an,I,ct,osl,rfl,lk,X⟩:=F.ex;have z:=(hb.at (Zc hi)) kV B pm an I ct [u] (by rw[h];rfl);rw[h] at z;exact .of_eq z
 refine Aa (CX:=CX0) (sp:=spC K (evC ag k i) dl.ps.length) KX G.T.g G.T.b G.T.builtins G.T.nolimit hg C c (Z0 b Q) hr (λbase _ _=>by
  have:=xa (P:=l.row.toRowW.prog) (w:=w) (base:=base) T hc k i dl hi fa Z p F;rw[h] at this ⊢;exact this) bd (λH hO hS=>?_) λH e s' z=>z
 have J:∃o,H a=aw (.frz o (.lst (ns.map V.int))):=by
  rcases hS with (z |⟨o,z⟩) |⟨o,its,n',hk,hc,hdd,hdt,_⟩
  ·rcases hO a with y |⟨o',xs,y⟩
   ·rw[y] at z;cases z
   ·rw[y] at z;cases z
  ·exact⟨o,z⟩
  ·exact absurd hdt (O a o hk its n')
 obtain⟨o,J⟩:=J;obtain⟨U,e⟩:=main ns b;refine⟨[a],[.ref 0],[.frz (ns.map D.int)],.bl aN,U,?_,⟨rfl,by simp,λj ob ej=>?_⟩,by rw[h];rfl,e,λm' H' v A vv=>vv.bls⟩
 ·rw[VDs];exact⟨_,_,rfl,by rw[VD];exact⟨a,rfl,rfl⟩,by rw[VDs]⟩
 ·cases j with
  |zero=>cases ej;exact⟨a,rfl,o,_,J,mX ns⟩
  |succ j=>simp at ej
end Ev
namespace Lw
open PySem Ev
abbrev top(i:Nat):Stmt:=PySem.Challenge.pw_downrings_k38_whole_no_landings_do_bette.main.body.getD i (.Pass ⟨0,0,0,0⟩)
abbrev mY:List CS:=[.ret (.and (.inst .int (.var 0)) (.not (.inst .bool (.var 0))))]
abbrev kl:List CS:=[.ret (.and (.call 0 [.var 0]) (.chn .le .le (.var 1) (.var 0) (.var 2)))]
abbrev km:List CS:=[.ret (.call 1 [.var 0,.int 0,.con 0 9999])]
abbrev mZ:List CS:=[.ret (.and (.inst .tuple (.var 0)) (.chn .le .le (.var 1) (.len (.var 0)) (.var 2)))]
abbrev ja:List CS:=[.ifs (.or (.not (.call 3 [.var 0,.int 0,.var 1])) (.not (.all (.comp ["number"] (.call 1 [.var 2,.int 0,.bin .sub (.var 1) (.int 1)]) [⟨.name 2,.val (.var 0),aD⟩])))) [.ret (.bl aS)] [],.ret (.all (.comp ["number"] (.cmp .eq (.cnt (.var 0) (.var 2)) (.int 1)) [⟨.name 2,.val (.var 0),aD⟩]))]
abbrev o6:List CS:=[.ret (.tupOf (.comp ["other"] (.var 2) [⟨.name 2,.val (.var 0),aw (.cmp .ne (.var 2) (.var 1))⟩]))]
abbrev ko:List CS:=[.ifs (.not (.call 3 [.var 0,.int 4,.int 4])) [.ret (.bl aS)] [],.asg (.tup [.name 1,.name 2,.name 3,.name 4]) (.var 0),.ret (.and (.call 1 [.var 1,.int 0,.con 1 8]) (.and (.call 1 [.var 2,.int 0,.con 2 60]) (.and (.call 7 [.var 3]) (.call 10 [.var 4]))))]
abbrev m6:List CS:=[.ifs (.not (.call 3 [.var 0,.int 1,.con 3 4])) [.ret (.bl aS)] [],.ret (.and (.all (.comp ["row"] (.call 8 [.var 1,.len (.var 0)]) [⟨.name 1,.val (.var 0),aD⟩])) (.call 9 [.var 0]))]
abbrev jb:List CS:=[.ret (.and (.call 3 [.var 0,.var 1,.var 1]) (.all (.comp ["gap"] (.call 1 [.var 2,.int 1,.con 4 99]) [⟨.name 2,.val (.var 0),aD⟩])))]
abbrev bJ:List CS:=[.asg (.name 1) (.listR (.len (.var 0))),.ret (.all (.comp ["a", "b", "c"] (.cmp .le (.ix (.ix (.var 0) (.var 2)) (.var 3)) (.bin .add (.ix (.ix (.var 0) (.var 2)) (.var 4)) (.ix (.ix (.var 0) (.var 4)) (.var 3)))) [⟨.name 2,.val (.var 1),aD⟩,⟨.name 3,.val (.var 1),aD⟩,⟨.name 4,.val (.var 1),aD⟩]))]
abbrev kq:List CS:=[.ifs (.or (.not (.call 3 [.var 0,.int 0,.con 5 4])) (.not (.all (.comp ["part"] (.call 11 [.var 1]) [⟨.name 1,.val (.var 0),aD⟩])))) [.ret (.bl aS)] [],.ret (.all (.comp ["at"] (.cmp .gt (.ix (.ix (.var 0) (.var 1)) (.int 0)) (.ix (.ix (.var 0) (.bin .sub (.var 1) (.int 1))) (.int 1))) [⟨.name 1,.r2 (.int 1) (.len (.var 0)),aD⟩]))]
abbrev jc:List CS:=[.ret (.and (.call 3 [.var 0,.int 2,.int 2]) (.and (.call 2 [.ix (.var 0) (.int 0)]) (.and (.call 2 [.ix (.var 0) (.int 1)]) (.cmp .lt (.ix (.var 0) (.int 0)) (.ix (.var 0) (.int 1))))))]
abbrev o7:List CS:=[.ret (.call 1 [.var 1,.int 0,.bin .sub (.len (.ix (.var 0) (.int 2))) (.int 1)])]
abbrev o8:List CS:=[.ret (.any (.comp ["begin", "end"] (.chn .le .lt (.var 2) (.var 1) (.var 3)) [⟨.tup [.name 2,.name 3],.val (.ix (.var 0) (.int 3)),aD⟩]))]
abbrev eD:List CS:=[.for_ (.tup [.name 2,.name 3]) (.val (.ix (.var 0) (.int 3))) [.ifs (.chn .le .lt (.var 2) (.var 1) (.var 3)) [.ret (.var 3)] []],.ret (.var 1)]
abbrev sZ:List CS:=[.ifs (.not (.call 3 [.var 0,.int 4,.int 4])) [.ret (.bl aS)] [],.asg (.tup [.name 1,.name 2,.name 3,.name 4]) (.var 0),.ret (.and (.call 6 [.var 1]) (.and (.call 16 [.var 1,.var 2]) (.and (.call 17 [.var 1,.var 3]) (.call 19 [.var 3,.var 4]))))]
abbrev m7:List CS:=[.ifs (.cmp .is (.var 1) .non) [.ret (.bl aN)] [],.ret (.and (.call 3 [.var 1,.int 2,.int 2]) (.and (.call 12 [.var 0,.ix (.var 1) (.int 0)]) (.call 2 [.ix (.var 1) (.int 1)])))]
abbrev hZ:List CS:=[.ret (.and (.call 3 [.var 1,.int 0,.con 6 7]) (.all (.comp ["part"] (.call 18 [.var 0,.var 2]) [⟨.name 2,.val (.var 1),aD⟩])))]
abbrev kr:List CS:=[.ifs (.not (.call 3 [.var 1,.int 7,.int 7])) [.ret (.bl aS)] [],.asg (.tup [.name 2,.name 3,.name 4,.name 5,.name 6,.name 7,.name 8]) (.var 1),.ifs (.not (.all (.comp ["minute"] (.call 2 [.var 9]) [⟨.name 9,.val (.tup [.var 3,.var 4,.var 5,.var 6]),aD⟩]))) [.ret (.bl aS)] [],.ifs (.not (.chn .le .le (.bin .add (.var 3) (.ix (.var 0) (.int 1))) (.var 4) (.var 5))) [.ret (.bl aS)] [],.ret (.and (.call 12 [.var 0,.var 2]) (.and (.call 1 [.var 7,.int 0,.con 7 99]) (.call 1 [.var 8,.int 0,.ix (.var 0) (.int 0)])))]
abbrev ku:List CS:=[.ifs (.not (.call 4 [.var 1,.len (.var 0)])) [.ret (.bl aS)] [],.ret (.all (.comp ["number", "glider"] (.or (.cmp .eq (.ix (.var 3) (.int 6)) (.int 0)) (.cmp .isin (.var 2) (.var 1))) [⟨.tup [.name 2,.name 3],.en (.var 0),aD⟩]))]
abbrev kB:List CS:=[.ret (.tupOf (.comp ["number"] (.var 1) [⟨.name 1,.r1 (.len (.ix (.var 0) (.int 2))),aw (.cmp .notin (.var 1) (.ix (.var 0) (.int 3)))⟩]))]
abbrev kC:List CS:=[.ifs (.not (.call 15 [.var 0])) [.never] []]
abbrev xg:List CS:=[.ex (.call 21 [.var 0]),.ret (.call 28 [.var 0,.var 1])]
abbrev o9:List CS:=[.ex (.call 27 [.var 0,.var 1]),.ret (.mxD (.comp ["glider", "minute"] (.var 3) [⟨.tup [.name 2,.name 3],.val (.var 1),aD⟩]) 0)]
abbrev pc:List CS:=[.ex (.call 27 [.var 0,.var 1]),.ret (.call 25 [.var 0,.var 1])]
abbrev fE:List CS:=[.ret (.sm (.comp ["glider", "minute"] (.call 26 [.ix (.ix (.var 0) (.int 2)) (.var 2),.var 3]) [⟨.tup [.name 2,.name 3],.val (.var 1),aD⟩]))]
abbrev ia:List CS:=[.asg (.tup [.name 2,.name 3,.name 4,.name 5,.name 6,.name 7,.name 8]) (.var 0),.ret (.bin .mul (.var 7) (.mx (.int 0) (.bin .sub (.var 1) (.var 6))))]
abbrev ib:List CS:=[.ex (.call 21 [.var 0]),.ifs (.not (.call 28 [.var 0,.var 1])) [.never] []]
abbrev kD:List CS:=[.ret (.and (.call 29 [.var 1]) (.cmp .is (.call 31 [.var 0,.var 1]) .non))]
abbrev kE:List CS:=[.ifs (.or (.not (.inst .list (.var 0))) (.cmp .gt (.len (.var 0)) (.con 8 20))) [.ret (.bl aS)] [],.ret (.all (.comp ["part"] (.call 30 [.var 1]) [⟨.name 1,.val (.var 0),aD⟩]))]
abbrev pd:List CS:=[.ret (.and (.call 3 [.var 0,.int 2,.int 2]) (.and (.call 0 [.ix (.var 0) (.int 0)]) (.call 0 [.ix (.var 0) (.int 1)])))]
abbrev ic:List CS:=[.for_ (.name 2) (.r1 (.len (.var 1))) [.asg (.name 3) (.call 32 [.var 0,.var 1,.var 2]),.ifs (.cmp .isnot (.var 3) .non) [.ret (.tup [.var 3,.ix (.ix (.var 1) (.var 2)) (.int 0)])] []],.asg (.name 4) (.call 36 [.var 0,.var 1]),.ifs (.cmp .isnot (.var 4) .non) [.ret (.tup [.str "lacks", .var 4])] [],.asg (.name 5) (.call 40 [.var 0,.var 1]),.ifs (.cmp .isnot (.var 5) .non) [.ret (.tup [.str "rings", .var 5])] [],.asg (.name 6) (.call 41 [.var 0,.var 1]),.ifs (.cmp .isnot (.var 6) .non) [.ret (.tup [.str "ring", .var 6])] [],.ret .non]
abbrev fF:List CS:=[.asg (.tup [.name 3,.name 4,.name 5,.name 6]) (.var 0),.asg (.name 7) (.ix (.ix (.var 1) (.var 2)) (.int 0)),.ifs (.not (.chn .le .lt (.int 0) (.var 7) (.len (.var 5)))) [.ret (.str "none")] [],.ifs (.cmp .isin (.var 7) (.comp ["other", "minute"] (.var 8) [⟨.tup [.name 8,.name 9],.val (.sl (.var 1) aD (aw (.var 2))),aD⟩])) [.ret (.str "twice")] [],.ifs (.and (.cmp .lt (.var 2) (.len (.var 6))) (.cmp .ne (.var 7) (.ix (.var 6) (.var 2)))) [.ret (.str "order")] [],.ret (.call 33 [.var 0,.var 1,.var 2])]
abbrev f7:List CS:=[.asg (.tup [.name 3,.name 4,.name 5,.name 6]) (.var 0),.asg (.tup [.name 7,.name 8]) (.ix (.var 1) (.var 2)),.asg (.tup [.name 9,.name 10,.name 11,.name 12,.name 13,.name 14,.name 15]) (.ix (.var 5) (.var 7)),.ifs (.cmp .lt (.var 8) (.var 11)) [.ret (.str "soon")] [],.ifs (.cmp .gt (.var 8) (.var 12)) [.ret (.str "late")] [],.ifs (.call 13 [.var 3,.var 8]) [.ret (.str "shut")] [],.ifs (.cmp .lt (.var 8) (.call 35 [.var 0,.call 34 [.var 0,.sl (.var 1) aD (aw (.var 2))],.var 9])) [.ret (.str "gap")] [],.ret .non]
abbrev fG:List CS:=[.ifs (.not (.var 1)) [.ret (.ix (.var 0) (.int 1))] [],.asg (.tup [.name 2,.name 3]) (.ix (.var 1) (.neg (.int 1))),.ret (.tup [.ix (.ix (.ix (.var 0) (.int 2)) (.var 2)) (.int 0),.var 3])]
abbrev pf:List CS:=[.ifs (.cmp .is (.var 1) .non) [.ret (.int 0)] [],.ret (.bin .add (.ix (.var 1) (.int 1)) (.ix (.ix (.ix (.ix (.var 0) (.int 0)) (.int 2)) (.ix (.var 1) (.int 0))) (.var 2)))]
abbrev fH:List CS:=[.asg (.name 2) (.comp ["glider", "minute"] (.var 4) [⟨.tup [.name 4,.name 5],.val (.var 1),aD⟩]),.for_ (.name 3) (.r1 (.len (.ix (.var 0) (.int 2)))) [.ifs (.cmp .notin (.var 3) (.var 2)) [.ret (.var 3)] []],.ret .non]
abbrev m8:List CS:=[.asg (.tup [.name 3,.name 4]) (.var 1),.ret (.chn .le .lt (.ix (.ix (.ix (.var 0) (.int 2)) (.var 3)) (.int 1)) (.var 2) (.bin .sub (.var 4) (.ix (.ix (.var 0) (.int 0)) (.int 1))))]
abbrev fI:List CS:=[.ret (.len (.comp ["landing"] (.var 3) [⟨.name 3,.val (.var 1),aw (.call 37 [.var 0,.var 3,.var 2])⟩]))]
abbrev dm:List CS:=[.ret (.srt (.comp ["glider"] (.ix (.var 1) (.int 1)) [⟨.name 1,.val (.ix (.var 0) (.int 2)),aD⟩]))]
abbrev fJ:List CS:=[.for_ (.name 2) (.val (.call 39 [.var 0])) [.ifs (.cmp .gt (.call 38 [.var 0,.var 1,.var 2]) (.ix (.ix (.var 0) (.int 0)) (.int 0))) [.ret (.var 2)] []],.ret .non]
abbrev eF:List CS:=[.for_ (.tup [.name 2,.name 3]) (.en (.var 1)) [.ifs (.call 42 [.var 0,.var 1,.var 2]) [.ret (.ix (.var 3) (.int 0))] []],.ret .non]
abbrev ig:List CS:=[.asg (.tup [.name 3,.name 4,.name 5,.name 6,.name 7,.name 8,.name 9]) (.ix (.ix (.var 0) (.int 2)) (.ix (.ix (.var 1) (.var 2)) (.int 0))),.ret (.and (.cmp .gt (.var 9) (.int 0)) (.and (.call 37 [.var 0,.ix (.var 1) (.var 2),.var 4]) (.cmp .gt (.call 43 [.var 0,.var 1,.var 2,.var 4]) (.var 9))))]
abbrev ij:List CS:=[.asg (.name 4) (.sl (.var 1) aD (aw (.var 2))),.asg (.name 5) (.comp ["when"] (.var 6) [⟨.name 6,.val (.call 39 [.var 0]),aw (.and (.cmp .gt (.var 6) (.var 3)) (.call 37 [.var 0,.ix (.var 1) (.var 2),.var 6]))⟩]),.ret (.mxL (.comp ["when"] (.bin .add (.int 1) (.call 38 [.var 0,.var 4,.var 6])) [⟨.name 6,.val (.bin .add (.lst [.var 3]) (.var 5)),aD⟩]))]
abbrev pw:List CS:=[.ex (.call 21 [.var 0]),.ifs (.not (.call 45 [.var 0,.var 1])) [.never] [],.asg (.name 2) (.call 46 [.var 0,.var 1]),.ifs (.cmp .lt (.len (.var 2)) (.len (.var 1))) [.ret (.tup [.str "stuck", .len (.var 2)])] [],.ret (.tup [.str "lands", .var 2])]
abbrev m9:List CS:=[.asg (.name 2) (.len (.ix (.var 0) (.int 2))),.ret (.and (.call 4 [.var 1,.var 2]) (.and (.cmp .eq (.len (.var 1)) (.var 2)) (.cmp .eq (.sl (.var 1) aD (aw (.len (.ix (.var 0) (.int 3))))) (.ix (.var 0) (.int 3)))))]
abbrev cX:List CS:=[.asg (.name 2) (.lst []),.for_ (.tup [.name 3,.name 4]) (.en (.var 1)) [.asg (.name 5) (.call 48 [.var 0,.call 34 [.var 0,.var 2],.var 4,.var 3]),.ifs (.cmp .is (.var 5) .non) [.ret (.var 2)] [],.ex (.app (.var 2) (.tup [.var 4,.var 5])),.ifs (.call 42 [.var 0,.var 2,.var 3]) [.ret (.sl (.var 2) aD (aw (.var 3)))] []],.ret (.var 2)]
abbrev eG:List CS:=[.asg (.name 1) (.call 46 [.var 0,.ix (.var 0) (.int 3)]),.ret (.ite (.cmp .eq (.len (.var 1)) (.len (.ix (.var 0) (.int 3)))) (.var 1) .non)]
abbrev eI:List CS:=[.asg (.tup [.name 4,.name 5,.name 6,.name 7,.name 8,.name 9,.name 10]) (.ix (.ix (.var 0) (.int 2)) (.var 2)),.asg (.name 11) (.call 14 [.ix (.var 0) (.int 0),.mx (.var 6) (.call 35 [.var 0,.var 1,.var 4])]),.ifs (.or (.cmp .gt (.var 11) (.var 7)) (.call 49 [.var 0,.var 3,.var 11])) [.ret .non] [],.ret (.var 11)]
abbrev dq:List CS:=[.asg (.tup [.name 3,.name 4,.name 5,.name 6]) (.ix (.var 0) (.int 0)),.asg (.name 7) (.call 39 [.var 0]),.asg (.name 8) (.bin .add (.var 3) (.var 1)),.ret (.and (.cmp .lt (.var 8) (.len (.var 7))) (.cmp .gt (.bin .sub (.var 2) (.var 4)) (.ix (.var 7) (.var 8))))]
abbrev jd:List CS:=[.ex (.call 21 [.var 0]),.ret (.call 52 [.call 53 [.var 0,.str "last"]])]
abbrev je:List CS:=[.ex (.call 21 [.var 0]),.ret (.call 52 [.call 53 [.var 0,.str "cost"]])]
abbrev BZ:List CS:=[.ifs (.cmp .is (.var 0) .non) [.ret .non] [],.asg (.tup [.name 1,.name 2]) (.var 0),.ret (.tup [.str "order", .var 1,.var 2])]
abbrev jf:List CS:=[.asg (.name 2) (.call 47 [.var 0]),.ifs (.cmp .is (.var 2) .non) [.ret .non] [],.asg (.name 3) (.call 55 [.var 0,.var 1,.call 34 [.var 0,.var 2],.call 20 [.var 0],.dic0]),.ifs (.cmp .is (.var 3) .non) [.ret .non] [],.asg (.tup [.name 4,.name 5]) (.var 3),.for_ (.tup [.name 6,.name 7]) (.val (.rev (.var 2))) [.asg (.name 4) (.call 54 [.var 1,.ix (.ix (.var 0) (.int 2)) (.var 6),.var 7,.var 4])],.ret (.tup [.var 4,.bin .add (.ix (.var 0) (.int 3)) (.var 5)])]
abbrev td:List CS:=[.ifs (.cmp .eq (.var 0) (.str "last")) [.ret (.mx (.var 2) (.var 3))] [],.ifs (.cmp .eq (.var 0) (.str "cost")) [.ret (.bin .add (.call 26 [.var 1,.var 2]) (.var 3))] [],.ret (.mx (.call 26 [.var 1,.var 2]) (.var 3))]
abbrev dE:List CS:=[.ifs (.not (.var 3)) [.ret (.tup [.int 0,.tup []])] [],.asg (.name 5) (.tup [.var 2,.var 3]),.ifs (.cmp .notin (.var 5) (.var 4)) [.asg (.name 6) (.comp ["number"] (.call 56 [.var 0,.var 1,.var 2,.var 3,.var 7,.var 4]) [⟨.name 7,.val (.var 3),aD⟩]),.setI (.mnN (.comp ["way"] (.var 7) [⟨.name 7,.val (.var 6),aw (.cmp .isnot (.var 7) .non)⟩])) (.var 4) (.var 5)] [],.ret (.ix (.var 4) (.var 5))]
abbrev kF:List CS:=[.asg (.name 6) (.call 48 [.var 0,.var 2,.var 4,.bin .sub (.len (.ix (.var 0) (.int 2))) (.len (.var 3))]),.ifs (.cmp .is (.var 6) .non) [.ret .non] [],.asg (.name 7) (.ix (.ix (.var 0) (.int 2)) (.var 4)),.asg (.name 8) (.call 55 [.var 0,.var 1,.tup [.ix (.var 7) (.int 0),.var 6],.call 5 [.var 3,.var 4],.var 5]),.ifs (.cmp .is (.var 8) .non) [.ret .non] [],.ret (.tup [.call 54 [.var 1,.var 7,.var 6,.ix (.var 8) (.int 0)],.bin .add (.tup [.var 4]) (.ix (.var 8) (.int 1))])]
abbrev ik:List CS:=[.ifs (.cmp .lt (.var 1) (.len (.var 0))) [.ret (.ix (.var 0) (.var 1))] [],.ret (.int 0)]
abbrev pA:List CS:=[.ifs (.cmp .ge (.var 0) (.bin .pow (.int 10) (.int 18))) [.ret (.lst [.bin .sub (.var 0) (.bin .pow (.int 10) (.int 18))])] [],.asg (.name 1) (.int 0),.for_ (.name 2) (.r1 (.int 64)) [.asg (.name 3) (.bin .mod (.bin .mul (.bin .add (.bin .add (.bin .mod (.var 0) (.int 2147483629)) (.bin .mul (.int 7919) (.var 2))) (.int 1)) (.int 48271)) (.int 2147483647)),.asg (.name 3) (.bin .mod (.bin .add (.bin .add (.bin .mul (.var 3) (.var 3)) (.bin .mul (.int 69621) (.var 2))) (.int 7)) (.int 2147483587)),.asg (.name 1) (.bin .add (.bin .mul (.var 1) (.int 2147483587)) (.var 3))],.ret (.lst [.var 1])]
abbrev nc:List CS:=[.asg (.name 2) (.bin .mod (.ix (.var 0) (.int 0)) (.var 1)),.setI (.bin .fdiv (.ix (.var 0) (.int 0)) (.var 1)) (.var 0) (.int 0),.ret (.var 2)]
abbrev e9:List CS:=[.asg (.tup [.name 1,.name 2]) (.tup [.bin .add (.int 1) (.call 59 [.var 0,.int 4]),.ix (.lst [.int 3,.int 12,.int 40]) (.call 59 [.var 0,.int 3])]),.asg (.name 3) (.comp ["_law_a"] (.comp ["_law_b"] (.bin .add (.int 1) (.call 59 [.var 0,.var 2])) [⟨.name 7,.r1 (.var 1),aD⟩]) [⟨.name 6,.r1 (.var 1),aD⟩]),.for_ (.name 4) (.r1 (.var 1)) [.for_ (.name 5) (.r1 (.var 1)) [.setI (.comp ["_law_b"] (.mn (.ix (.ix (.var 3) (.var 5)) (.var 6)) (.bin .add (.ix (.ix (.var 3) (.var 5)) (.var 4)) (.ix (.ix (.var 3) (.var 4)) (.var 6)))) [⟨.name 6,.r1 (.var 1),aD⟩]) (.var 3) (.var 5)]],.ret (.tupOf (.comp ["_law_row"] (.tupOf (.var 6)) [⟨.name 6,.val (.var 3),aD⟩]))]
abbrev jg:List CS:=[.asg (.tup [.name 1,.name 2]) (.tup [.lst [],.int 0]),.for_ (.name 3) (.r1 (.call 59 [.var 0,.ix (.lst [.int 1,.int 5]) (.call 59 [.var 0,.int 2])])) [.asg (.name 4) (.bin .add (.var 2) (.call 59 [.var 0,.int 25])),.ex (.app (.var 1) (.tup [.var 4,.bin .add (.bin .add (.var 4) (.int 1)) (.call 59 [.var 0,.int 25])])),.asg (.name 2) (.bin .add (.ix (.ix (.var 1) (.neg (.int 1))) (.int 1)) (.int 1))],.ret (.tup [.ix (.lst [.int 8,.int 1,.int 2,.int 3,.int 0]) (.call 59 [.var 0,.int 5]),.ix (.lst [.int 0,.int 2,.int 9,.int 60]) (.call 59 [.var 0,.int 4]),.call 60 [.var 0],.tupOf (.var 1)])]
abbrev gR:List CS:=[.asg (.tup [.name 2,.name 3]) (.tup [.call 61 [.var 0],.lst []]),.asg (.tup [.name 4,.name 5]) (.tup [.ix (.lst [.int 5,.int 20,.int 60]) (.call 59 [.var 0,.int 3]),.ix (.lst [.int 4,.int 30,.int 90,.int 400]) (.call 59 [.var 0,.int 4])]),.for_ (.name 6) (.r1 (.call 59 [.var 0,.bin .add (.var 1) (.int 1)])) [.asg (.name 7) (.call 59 [.var 0,.var 4]),.asg (.name 8) (.bin .add (.bin .add (.var 7) (.ix (.var 2) (.int 1))) (.ix (.lst [.int 0,.call 59 [.var 0,.int 9]]) (.call 59 [.var 0,.int 2]))),.asg (.tup [.name 9,.name 10]) (.tup [.bin .add (.var 8) (.call 59 [.var 0,.var 5]),.bin .add (.var 7) (.call 59 [.var 0,.var 5])]),.ex (.app (.var 3) (.lst [.call 59 [.var 0,.len (.ix (.var 2) (.int 2))],.var 7,.var 8,.var 9,.var 10,.ix (.lst [.int 0,.int 1,.int 7,.int 99]) (.call 59 [.var 0,.int 4]),.int 0]))],.asg (.tup [.name 11,.name 12]) (.tup [.listR (.len (.var 3)),.lst []]),.for_ (.name 13) (.r1 (.ix (.lst [.int 0,.call 59 [.var 0,.bin .add (.len (.var 3)) (.int 1)]]) (.call 59 [.var 0,.int 2]))) [.ex (.app (.var 12) (.popAt (.var 11) (.call 59 [.var 0,.len (.var 11)]))),.ifs (.and (.cmp .gt (.ix (.var 2) (.int 0)) (.int 0)) (.cmp .eq (.call 59 [.var 0,.int 3]) (.int 0))) [.setI (.bin .add (.int 1) (.call 59 [.var 0,.ix (.var 2) (.int 0)])) (.ix (.var 3) (.ix (.var 12) (.neg (.int 1)))) (.int 6)] []],.asg (.name 14) (.ix (.lst [.non,.tup [.call 59 [.var 0,.len (.ix (.var 2) (.int 2))],.call 59 [.var 0,.int 30]]]) (.call 59 [.var 0,.int 2])),.ret (.tup [.var 2,.var 14,.tupOf (.comp ["_law_one"] (.tupOf (.var 15)) [⟨.name 15,.val (.var 3),aD⟩]),.tupOf (.var 12)])]
abbrev ng:List CS:=[.for_ (.tup [.name 2,.name 3]) (.val (.var 0)) [.ifs (.chn .le .lt (.var 2) (.var 1) (.var 3)) [.asg (.name 1) (.var 3)] []],.ret (.var 1)]
abbrev kG:List CS:=[.ret (.comp ["_law_one", "_law_minute"] (.var 3) [⟨.tup [.name 3,.name 4],.val (.var 1),aw (.chn .le .lt (.ix (.ix (.ix (.var 0) (.int 2)) (.var 3)) (.int 1)) (.var 2) (.bin .sub (.var 4) (.ix (.ix (.var 0) (.int 0)) (.int 1))))⟩])]
abbrev nh:List CS:=[.asg (.name 4) (.ix (.ix (.ix (.var 0) (.int 2)) (.var 2)) (.int 1)),.asg (.name 5) (.bin .add (.lst [.var 4]) (.comp ["_law_one", "_law_when"] (.ix (.ix (.ix (.var 0) (.int 2)) (.var 7)) (.int 1)) [⟨.tup [.name 7,.name 8],.val (.var 1),aD⟩])),.asg (.name 6) (.comp ["_law_at"] (.bin .add (.int 1) (.len (.call 64 [.var 0,.var 1,.var 7]))) [⟨.name 7,.val (.var 5),aw (.chn .le .lt (.var 4) (.var 7) (.bin .sub (.var 3) (.ix (.ix (.var 0) (.int 0)) (.int 1))))⟩]),.ret (.mxD (.var 6) 0)]
abbrev fb:List CS:=[.asg (.tup [.name 4,.name 5,.name 6,.name 7]) (.sl (.ix (.ix (.var 0) (.int 2)) (.var 2)) aD (aw (.int 4))),.ifs (.cmp .isnot (.var 1) .non) [.asg (.name 6) (.mx (.var 6) (.bin .add (.ix (.var 1) (.int 1)) (.ix (.ix (.ix (.ix (.var 0) (.int 0)) (.int 2)) (.ix (.var 1) (.int 0))) (.var 4))))] [],.asg (.name 8) (.call 63 [.ix (.ix (.var 0) (.int 0)) (.int 3),.var 6]),.asg (.name 9) (.sl (.srt (.comp ["_law_one"] (.ix (.var 10) (.int 1)) [⟨.name 10,.val (.ix (.var 0) (.int 2)),aD⟩])) (aw (.bin .add (.ix (.ix (.var 0) (.int 0)) (.int 0)) (.var 3))) aD),.ifs (.or (.cmp .gt (.var 8) (.var 7)) (.and (.cmp .ne (.var 9) (.lst [])) (.cmp .gt (.bin .sub (.var 8) (.ix (.ix (.var 0) (.int 0)) (.int 1))) (.ix (.var 9) (.int 0))))) [.ret .non] [],.ret (.var 8)]
abbrev il:List CS:=[.asg (.tup [.name 2,.name 3]) (.tup [.ix (.var 0) (.int 1),.lst []]),.for_ (.tup [.name 4,.name 5]) (.en (.var 1)) [.asg (.tup [.name 6,.name 7]) (.tup [.call 66 [.var 0,.var 2,.var 5,.var 4],.ix (.ix (.ix (.var 0) (.int 2)) (.var 5)) (.int 6)]),.ifs (.or (.cmp .is (.var 6) .non) (.chn .lt .lt (.int 0) (.var 7) (.call 65 [.var 0,.var 3,.var 5,.var 6]))) [.ret (.tup [.str "stuck", .var 4])] [],.ex (.app (.var 3) (.tup [.var 5,.var 6])),.asg (.name 2) (.tup [.ix (.ix (.ix (.var 0) (.int 2)) (.var 5)) (.int 0),.var 6])],.ret (.tup [.str "lands", .var 3])]
abbrev dr:List CS:=[.ifs (.cmp .ne (.srt (.comp ["_law_one", "_law_minute"] (.var 13) [⟨.tup [.name 13,.name 14],.val (.var 1),aD⟩])) (.listR (.len (.ix (.var 0) (.int 2))))) [.ret (.bl aS)] [],.ifs (.cmp .ne (.sl (.tupOf (.comp ["_law_one", "_law_minute"] (.var 13) [⟨.tup [.name 13,.name 14],.val (.var 1),aD⟩])) aD (aw (.len (.ix (.var 0) (.int 3))))) (.ix (.var 0) (.int 3))) [.ret (.bl aS)] [],.asg (.name 2) (.ix (.var 0) (.int 1)),.for_ (.tup [.name 3,.tup [.name 4,.name 5]]) (.en (.var 1)) [.asg (.tup [.name 6,.name 7,.name 8,.name 9,.name 10,.name 11,.name 12]) (.ix (.ix (.var 0) (.int 2)) (.var 4)),.ifs (.or (.not (.chn .le .le (.var 8) (.var 5) (.var 9))) (.cmp .ne (.call 63 [.ix (.ix (.var 0) (.int 0)) (.int 3),.var 5]) (.var 5))) [.ret (.bl aS)] [],.ifs (.and (.cmp .isnot (.var 2) .non) (.cmp .lt (.var 5) (.bin .add (.ix (.var 2) (.int 1)) (.ix (.ix (.ix (.ix (.var 0) (.int 0)) (.int 2)) (.ix (.var 2) (.int 0))) (.var 6))))) [.ret (.bl aS)] [],.ifs (.or (.cmp .gt (.len (.call 64 [.var 0,.var 1,.var 7])) (.ix (.ix (.var 0) (.int 0)) (.int 0))) (.chn .lt .lt (.int 0) (.var 12) (.call 65 [.var 0,.sl (.var 1) aD (aw (.var 3)),.var 4,.var 5]))) [.ret (.bl aS)] [],.asg (.name 2) (.tup [.var 6,.var 5])],.ret (.bl aN)]
abbrev f8:List CS:=[.asg (.name 2) (.listOf (.var 1)),.ret (.comp ["_law_one"] (.popAt (.var 2) (.call 59 [.var 0,.len (.var 2)])) [⟨.name 3,.val (.var 1),aD⟩])]
abbrev f9:List CS:=[.asg (.name 2) (.call 69 [.var 0,.comp ["_law_one"] (.var 3) [⟨.name 3,.r1 (.len (.ix (.var 1) (.int 2))),aw (.cmp .notin (.var 3) (.ix (.var 1) (.int 3)))⟩]]),.ifs (.cmp .eq (.call 59 [.var 0,.int 2]) (.int 0)) [.asg (.name 2) (.comp ["_law_first", "_law_one"] (.var 4) [⟨.tup [.name 3,.name 4],.val (.srt (.comp ["_law_one"] (.tup [.ix (.ix (.ix (.var 1) (.int 2)) (.var 3)) (.int 2),.var 3]) [⟨.name 3,.val (.var 2),aD⟩])),aD⟩])] [],.ret (.bin .add (.ix (.var 1) (.int 3)) (.tupOf (.var 2)))]
abbrev fc:List CS:=[.asg (.tup [.name 2,.name 3,.name 4,.name 5]) (.var 1),.asg (.name 6) (.call 59 [.var 0,.int 5]),.ifs (.cmp .eq (.var 6) (.int 0)) [.ret (.tup [.var 2,.var 3,.tupOf (.comp ["_law_one"] (.bin .add (.bin .add (.sl (.var 11) aD (aw (.int 3))) (.tup [.bin .add (.ix (.var 11) (.int 3)) (.call 59 [.var 0,.int 20])])) (.sl (.var 11) (aw (.int 4)) aD)) [⟨.name 11,.val (.var 4),aD⟩]),.var 5])] [],.ifs (.cmp .eq (.var 6) (.int 1)) [.ret (.tup [.bin .add (.tup [.mn (.int 8) (.bin .add (.ix (.var 2) (.int 0)) (.int 1))]) (.sl (.var 2) (aw (.int 1)) aD),.var 3,.var 4,.var 5])] [],.ifs (.cmp .eq (.var 6) (.int 2)) [.ret (.tup [.bin .add (.sl (.var 2) aD (aw (.int 3))) (.tup [.tup []]),.var 3,.var 4,.var 5])] [],.asg (.name 7) (.comp ["_law_one"] (.var 11) [⟨.name 11,.r1 (.len (.var 4)),aw (.cmp .notin (.var 11) (.var 5))⟩]),.ifs (.and (.cmp .eq (.var 6) (.int 3)) (.cmp .ne (.var 7) (.lst []))) [.asg (.name 8) (.ix (.var 7) (.call 59 [.var 0,.len (.var 7)])),.asg (.name 9) (.tupOf (.comp ["_law_one"] (.bin .sub (.var 11) (.intOf (.cmp .gt (.var 11) (.var 8)))) [⟨.name 11,.val (.var 5),aD⟩])),.ret (.tup [.var 2,.var 3,.bin .add (.sl (.var 4) aD (aw (.var 8))) (.sl (.var 4) (aw (.bin .add (.var 8) (.int 1))) aD),.var 9])] [],.asg (.name 10) (.comp ["_law_k", "_law_one"] (.var 11) [⟨.tup [.name 11,.name 12],.en (.var 5),aw (.cmp .ne (.ix (.ix (.var 4) (.var 12)) (.int 6)) (.int 0))⟩]),.ret (.tup [.var 2,.var 3,.var 4,.sl (.var 5) aD (aw (.bin .add (.int 1) (.mxD (.var 10) (-1))))])]
abbrev eJ:List CS:=[.ifs (.cmp .is (.var 1) .non) [.ret (.bl aN)] [],.ifs (.or (.not (.inst .tuple (.var 1))) (.or (.cmp .ne (.len (.var 1)) (.int 3)) (.cmp .ne (.ix (.var 1) (.int 0)) (.str "order")))) [.ret (.bl aS)] [],.asg (.tup [.name 3,.name 4]) (.call 44 [.var 0,.ix (.var 1) (.int 2)]),.ifs (.or (.cmp .ne (.var 3) (.str "lands")) (.or (.not (.call 68 [.var 0,.var 4])) (.cmp .isnot (.call 22 [.var 0,.var 4]) (.bl aN)))) [.ret (.bl aS)] [],.ret (.cmp .eq (.cal2 23 24 (.intOf (.cmp .eq (.var 2) (.str "cost"))) [.var 0,.var 4]) (.ix (.var 1) (.int 1)))]
abbrev ni:List CS:=[.ret (.sm (.comp ["_law_one", "_law_minute"] (.bin .mul (.ix (.ix (.ix (.var 0) (.int 2)) (.var 2)) (.int 5)) (.mx (.int 0) (.bin .sub (.var 3) (.ix (.ix (.ix (.var 0) (.int 2)) (.var 2)) (.int 4))))) [⟨.tup [.name 2,.name 3],.val (.var 1),aD⟩]))]
abbrev bC:List CS:=[.asg (.name 4) (.call 70 [.var 0,.var 1]),.asg (.tup [.name 5,.name 6]) (.call 67 [.var 1,.var 4]),.ifs (.cmp .eq (.var 5) (.str "stuck")) [.ret (.bl aN)] [],.asg (.name 7) (.comp ["_law_one", "_law_minute"] (.tup [.var 9,.bin .add (.var 10) (.bin .mul (.call 59 [.var 0,.int 2]) (.call 59 [.var 0,.int 12]))]) [⟨.tup [.name 9,.name 10],.val (.var 6),aD⟩]),.for_ (.name 8) (.val (.tup [.var 6,.var 7])) [.ifs (.call 68 [.var 1,.var 8]) [.ifs (.or (.cmp .is (.var 2) .non) (.or (.cmp .is (.var 3) .non) (.cmp .gt (.ix (.var 3) (.int 1)) (.call 73 [.var 1,.var 8])))) [.ret (.bl aS)] [],.ifs (.cmp .gt (.ix (.var 2) (.int 1)) (.mxD (.comp ["_law_one", "_law_minute"] (.var 10) [⟨.tup [.name 9,.name 10],.val (.var 8),aD⟩]) 0)) [.ret (.bl aS)] []] []],.ret (.bl aN)]
abbrev HX:List CS:=[.for_ (.name 1) (.r1 (.mx (.int 1) (.mn (.len (.var 0)) (.int 6)))) [.asg (.name 2) (.call 58 [.call 57 [.var 0,.var 1]]),.asg (.name 3) (.call 62 [.var 2,.int 6]),.asg (.tup [.name 4,.name 5]) (.tup [.call 50 [.var 3],.call 51 [.var 3]]),.ifs (.or (.not (.call 72 [.var 3,.var 4,.str "last"])) (.not (.call 72 [.var 3,.var 5,.str "cost"]))) [.ret (.bl aS)] [],.ifs (.cmp .ne (.cmp .is (.var 4) .non) (.cmp .is (.var 5) .non)) [.ret (.bl aS)] [],.for_ (.name 6) (.r1 (.int 4)) [.ifs (.not (.call 74 [.var 2,.var 3,.var 4,.var 5])) [.ret (.bl aS)] []],.for_ (.name 6) (.r1 (.int 2)) [.asg (.name 7) (.call 71 [.var 2,.var 3]),.ifs (.cmp .isnot (.var 4) .non) [.asg (.name 8) (.tup [.call 50 [.var 7],.call 51 [.var 7]]),.ifs (.or (.cmp .isin .non (.var 8)) (.or (.cmp .gt (.ix (.ix (.var 8) (.int 0)) (.int 1)) (.ix (.var 4) (.int 1))) (.cmp .gt (.ix (.ix (.var 8) (.int 1)) (.int 1)) (.ix (.var 5) (.int 1))))) [.ret (.bl aS)] []] []]],.ret (.bl aN)]
abbrev iA:DefE:=⟨"is_whole", top 7,["thing"],["thing"],mY⟩
abbrev ga:DefE:=⟨"is_within", top 8,["thing", "least", "most"],["thing", "least", "most"],kl⟩
abbrev gf:DefE:=⟨"is_minute", top 9,["thing"],["thing"],km⟩
abbrev iB:DefE:=⟨"is_tuple", top 10,["thing", "least", "most"],["thing", "least", "most"],mZ⟩
abbrev fe:DefE:=⟨"are_unlike", top 11,["thing", "many"],["thing", "many"],ja⟩
abbrev jM:DefE:=⟨"without", top 12,["numbers", "number"],["numbers", "number"],o6⟩
abbrev gg:DefE:=⟨"is_meadow", top 19,["thing", "rings", "sink", "gaps", "shuts"],["thing"],ko⟩
abbrev iC:DefE:=⟨"are_gaps", top 20,["thing"],["thing"],m6⟩
abbrev ff:DefE:=⟨"is_gap_row", top 21,["thing", "many"],["thing", "many"],jb⟩
abbrev bj:DefE:=⟨"no_glider_between_helps", top 22,["gaps", "kinds"],["gaps"],bJ⟩
abbrev gh:DefE:=⟨"are_shuts", top 23,["thing"],["thing"],kq⟩
abbrev fh:DefE:=⟨"is_stretch", top 24,["thing"],["thing"],jc⟩
abbrev jN:DefE:=⟨"is_kind", top 25,["meadow", "thing"],["meadow", "thing"],o7⟩
abbrev jO:DefE:=⟨"is_shut", top 26,["meadow", "minute"],["meadow", "minute"],o8⟩
abbrev ci:DefE:=⟨"first_not_shut", top 27,["meadow", "minute", "begin", "end"],["meadow", "minute"],eD⟩
abbrev nj:DefE:=⟨"is_sky", top 31,["thing", "meadow", "ahead", "gliders", "fixed"],["thing"],sZ⟩
abbrev iE:DefE:=⟨"is_ahead", top 32,["meadow", "thing"],["meadow", "thing"],m7⟩
abbrev dF:DefE:=⟨"are_gliders", top 33,["meadow", "thing"],["meadow", "thing"],hZ⟩
abbrev gj:DefE:=⟨"is_glider", top 34,["meadow", "thing", "kind", "joins", "first", "last", "due", "weight", "ring"],["meadow", "thing"],kr⟩
abbrev gk:DefE:=⟨"are_fixed", top 35,["gliders", "thing"],["gliders", "thing"],ku⟩
abbrev gm:DefE:=⟨"free_ones", top 36,["sky"],["sky"],kB⟩
abbrev gq:DefE:=⟨"check_sky", top 37,["thing"],["thing"],kC⟩
abbrev qM:DefE:=⟨"keeps", top 40,["sky", "thing"],["sky", "thing"],xg⟩
abbrev jP:DefE:=⟨"last_of", top 41,["sky", "landings"],["sky", "landings"],o9⟩
abbrev jQ:DefE:=⟨"cost_of", top 42,["sky", "landings"],["sky", "landings"],pc⟩
abbrev cE:DefE:=⟨"cost_together", top 43,["sky", "landings"],["sky", "landings"],fE⟩
abbrev dG:DefE:=⟨"glider_cost", top 44,["glider", "minute", "kind", "joins", "first", "last", "due", "weight", "ring"],["glider", "minute"],ia⟩
abbrev dH:DefE:=⟨"check_keeps", top 45,["sky", "thing"],["sky", "thing"],ib⟩
abbrev gr:DefE:=⟨"keeps_sky", top 46,["sky", "thing"],["sky", "thing"],kD⟩
abbrev gu:DefE:=⟨"are_pairs", top 47,["thing"],["thing"],kE⟩
abbrev jR:DefE:=⟨"is_pair", top 48,["thing"],["thing"],pd⟩
abbrev dI:DefE:=⟨"first_amiss", top 49,["sky", "landings", "place", "word", "lacking", "crowded", "high"],["sky", "landings"],ic⟩
abbrev cF:DefE:=⟨"landing_amiss", top 50,["sky", "landings", "place", "meadow", "ahead", "gliders", "fixed", "glider"],["sky", "landings", "place"],fF⟩
abbrev cY:DefE:=⟨"minute_amiss", top 51,["sky", "landings", "place", "meadow", "ahead", "gliders", "fixed", "number", "minute", "kind", "joins", "first", "last", "due", "weight", "ring"],["sky", "landings", "place"],f7⟩
abbrev cG:DefE:=⟨"landing_ahead", top 52,["sky", "sooner", "number", "minute"],["sky", "sooner"],fG⟩
abbrev jS:DefE:=⟨"gap_end", top 53,["sky", "ahead", "kind"],["sky", "ahead", "kind"],pf⟩
abbrev cH:DefE:=⟨"first_lacking", top 54,["sky", "landings", "landed", "number"],["sky", "landings"],fH⟩
abbrev iG:DefE:=⟨"waits_at", top 55,["sky", "landing", "minute", "number", "lands"],["sky", "landing", "minute"],m8⟩
abbrev cI:DefE:=⟨"how_many_wait", top 56,["sky", "landings", "minute"],["sky", "landings", "minute"],fI⟩
abbrev bZ:DefE:=⟨"joining_minutes", top 57,["sky"],["sky"],dm⟩
abbrev cJ:DefE:=⟨"first_crowded", top 58,["sky", "landings", "minute"],["sky", "landings"],fJ⟩
abbrev cm:DefE:=⟨"first_too_high", top 59,["sky", "landings", "place", "landing"],["sky", "landings"],eF⟩
abbrev dJ:DefE:=⟨"is_too_high", top 60,["sky", "landings", "place", "kind", "joins", "first", "last", "due", "weight", "ring"],["sky", "landings", "place"],ig⟩
abbrev dM:DefE:=⟨"ring_needed", top 61,["sky", "landings", "place", "minute", "sooner", "later"],["sky", "landings", "place", "minute"],ij⟩
abbrev jT:DefE:=⟨"soonest", top 63,["sky", "order", "landings"],["sky", "order"],pw⟩
abbrev iH:DefE:=⟨"is_order", top 64,["sky", "thing", "many"],["sky", "thing"],m9⟩
abbrev bQ:DefE:=⟨"soonest_landings", top 65,["sky", "numbers", "landings", "place", "number", "minute"],["sky", "numbers"],cX⟩
abbrev cp:DefE:=⟨"fixed_landings", top 66,["sky", "landings"],["sky"],eG⟩
abbrev cq:DefE:=⟨"soonest_minute", top 67,["sky", "ahead", "number", "place", "kind", "joins", "first", "last", "due", "weight", "ring", "minute"],["sky", "ahead", "number", "place"],eI⟩
abbrev b5:DefE:=⟨"leaves_too_late", top 68,["sky", "place", "minute", "rings", "sink", "gaps", "shuts", "joins", "one_too_many"],["sky", "place", "minute"],dq⟩
abbrev fj:DefE:=⟨"least_last", top 70,["sky"],["sky"],jd⟩
abbrev fk:DefE:=⟨"least_cost", top 71,["sky"],["sky"],je⟩
abbrev vG:DefE:=⟨"told", top 72,["best", "number", "order"],["best"],BZ⟩
abbrev fm:DefE:=⟨"best_order", top 73,["sky", "aim", "landings", "best", "number", "order", "glider", "minute"],["sky", "aim"],jf⟩
abbrev nq:DefE:=⟨"joined", top 74,["aim", "glider", "minute", "number"],["aim", "glider", "minute", "number"],td⟩
abbrev bO:DefE:=⟨"best_behind", top 75,["sky", "aim", "ahead", "left", "known", "key", "ways"],["sky", "aim", "ahead", "left", "known"],dE⟩
abbrev gw:DefE:=⟨"best_with", top 76,["sky", "aim", "ahead", "left", "number", "known", "minute", "glider", "best"],["sky", "aim", "ahead", "left", "number", "known"],kF⟩
abbrev dN:DefE:=⟨"_law_cell_at", top 78,["_law_script", "_law_k"],["_law_script", "_law_k"],ik⟩
abbrev jU:DefE:=⟨"_law_pot", top 79,["_law_cell", "_law_number", "_law_j", "_law_more"],["_law_cell"],pA⟩
abbrev iI:DefE:=⟨"_law_take", top 80,["_law_pot_here", "_law_wide", "_law_found"],["_law_pot_here", "_law_wide"],nc⟩
abbrev iJ:DefE:=⟨"_law_gaps", top 81,["_law_pot_here", "_law_many", "_law_far", "_law_found", "_law_c", "_law_a"],["_law_pot_here"],e9⟩
abbrev fo:DefE:=⟨"_law_meadow", top 82,["_law_pot_here", "_law_shuts", "_law_at", "_law_turn", "_law_begin"],["_law_pot_here"],jg⟩
abbrev jV:DefE:=⟨"_law_sky", top 83,["_law_pot_here", "_law_most", "_law_meadow_here", "_law_gliders", "_law_wide", "_law_long", "_law_number", "_law_joins", "_law_first", "_law_last", "_law_due", "_law_left", "_law_fixed", "_law_turn", "_law_ahead"],["_law_pot_here", "_law_most"],gR⟩
abbrev iK:DefE:=⟨"_law_open", top 84,["_law_shuts", "_law_minute", "_law_begin", "_law_end"],["_law_shuts", "_law_minute"],ng⟩
abbrev gx:DefE:=⟨"_law_waits", top 85,["_law_sky_here", "_law_landed", "_law_at"],["_law_sky_here", "_law_landed", "_law_at"],kG⟩
abbrev iL:DefE:=⟨"_law_need", top 86,["_law_sky_here", "_law_landed", "_law_number", "_law_minute", "_law_joins", "_law_known", "_law_counts"],["_law_sky_here", "_law_landed", "_law_number", "_law_minute"],nh⟩
abbrev iM:DefE:=⟨"_law_step", top 87,["_law_sky_here", "_law_ahead", "_law_number", "_law_place", "_law_kind", "_law_joins", "_law_first", "_law_last", "_law_minute", "_law_late"],["_law_sky_here", "_law_ahead", "_law_number", "_law_place"],fb⟩
abbrev dP:DefE:=⟨"_law_soonest", top 88,["_law_sky_here", "_law_order_here", "_law_ahead", "_law_landed", "_law_place", "_law_number", "_law_minute", "_law_ring"],["_law_sky_here", "_law_order_here"],il⟩
abbrev gy:DefE:=⟨"_law_keeps", top 89,["_law_sky_here", "_law_landed", "_law_ahead", "_law_k", "_law_number", "_law_minute", "_law_kind", "_law_joins", "_law_first", "_law_last", "_law_due", "_law_weight", "_law_ring"],["_law_sky_here", "_law_landed"],dr⟩
abbrev cZ:DefE:=⟨"_law_shuffled", top 90,["_law_pot_here", "_law_some", "_law_left"],["_law_pot_here", "_law_some"],f8⟩
abbrev gz:DefE:=⟨"_law_order", top 91,["_law_pot_here", "_law_sky_here", "_law_rest"],["_law_pot_here", "_law_sky_here"],f9⟩
abbrev fq:DefE:=⟨"_law_looser", top 92,["_law_pot_here", "_law_sky_here", "_law_meadow_here", "_law_ahead", "_law_gliders", "_law_fixed", "_law_way", "_law_free", "_law_gone", "_law_left", "_law_ringed"],["_law_pot_here", "_law_sky_here"],fc⟩
abbrev cr:DefE:=⟨"_law_told_right", top 93,["_law_sky_here", "_law_found", "_law_aim", "_law_way", "_law_landed"],["_law_sky_here", "_law_found", "_law_aim"],eJ⟩
abbrev iO:DefE:=⟨"_law_cost", top 94,["_law_sky_here", "_law_landed"],["_law_sky_here", "_law_landed"],ni⟩
abbrev b6:DefE:=⟨"_law_none_better", top 95,["_law_pot_here", "_law_sky_here", "_law_last", "_law_cost_here", "_law_order_here", "_law_way", "_law_landed", "_law_late", "_law_some"],["_law_pot_here", "_law_sky_here", "_law_last", "_law_cost_here"],bC⟩
abbrev xh:DefE:=⟨"law", top 96,["_law_script", "_law_k", "_law_pot_here", "_law_sky_here", "_law_last", "_law_cost_here", "_law_turn", "_law_wide", "_law_more"],["_law_script"],HX⟩
abbrev ag:List DefE:=[iA,ga,gf,iB,fe,jM,gg,iC,ff,bj,gh,fh,jN,jO,ci,nj,iE,dF,gj,gk,gm,gq,qM,jP,jQ,cE,dG,dH,gr,gu,jR,dI,cF,cY,cG,jS,cH,iG,cI,bZ,cJ,cm,dJ,dM,jT,iH,bQ,cp,cq,b5,fj,fk,vG,fm,nq,bO,gw,dN,jU,iI,iJ,fo,jV,iK,gx,iL,iM,dP,gy,cZ,gz,fq,cr,iO,b6,xh]
abbrev con:List (Str × Int):=[("LAST_MINUTE", 9999),("MOST_RINGS", 8),("MOST_SINK", 60),("MOST_KINDS", 4),("MOST_GAP", 99),("MOST_SHUTS", 4),("MOST_GLIDERS", 7),("MOST_WEIGHT", 99),("MOST_LANDINGS", 20)]
def chk:ag.all (E5 (w9 con ag))=aN:=by kernel_rfl
def us1:∀ {u:List Value},u.length=1->∃b,u=[b]
 |[b],_=>⟨b,rfl⟩
def us2:∀ {u:List Value},u.length=2->∃b c,u=[b,c]
 |[b,c],_=>⟨b,c,rfl⟩
def us3:∀ {u:List Value},u.length=3->∃b c d,u=[b,c,d]
 |[b,c,d],_=>⟨b,c,d,rfl⟩
def us4:∀ {u:List Value},u.length=4->∃b c f d,u=[b,c,f,d]
 |[b,c,f,d],_=>⟨b,c,f,d,rfl⟩
def us5:∀ {u:List Value},u.length=5->∃b c f d h,u=[b,c,f,d,h]
 |[b,c,f,d,h],_=>⟨b,c,f,d,h,rfl⟩
def us6:∀ {u:List Value},u.length=6->∃b c f d j h,u=[b,c,f,d,j,h]
 |[b,c,f,d,j,h],_=>⟨b,c,f,d,j,h,rfl⟩
def bind:y3 ag:=by
 repeat' apply And.intro
 all_goals first |trivial |(intro _ _ _ _ _ _ u h;first |(obtain⟨_,rfl⟩:=us1 h;rfl) |(obtain⟨_,_,rfl⟩:=us2 h;rfl) |(obtain⟨_,_,_,rfl⟩:=us3 h;rfl) |(obtain⟨_,_,_,_,rfl⟩:=us4 h;rfl) |(obtain⟨_,_,_,_,_,rfl⟩:=us5 h;rfl) |(obtain⟨_,_,_,_,_,_,rfl⟩:=us6 h;rfl))
end Lw
section
open PySem PySem.W PyProof.Rows
noncomputable abbrev Lw.view:Program:={ PySem.Challenge.pw_downrings_k38_whole_no_landings_do_bette with main:={ PySem.Challenge.pw_downrings_k38_whole_no_landings_do_bette.main with body:=[Lw.top 96] } }
noncomputable abbrev Lw.loose:List PySem.Str:=List.map PySem.Str.ofString ["is_whole", "is_within", "is_minute", "is_tuple", "are_unlike", "without", "is_meadow", "are_gaps", "is_gap_row", "no_glider_between_helps", "are_shuts", "is_stretch", "is_kind", "is_shut", "first_not_shut", "is_sky", "is_ahead", "are_gliders", "is_glider", "are_fixed", "free_ones", "check_sky", "keeps", "last_of", "cost_of", "cost_together", "glider_cost", "check_keeps", "keeps_sky", "are_pairs", "is_pair", "first_amiss", "landing_amiss", "minute_amiss", "landing_ahead", "gap_end", "first_lacking", "waits_at", "how_many_wait", "joining_minutes", "first_crowded", "first_too_high", "is_too_high", "ring_needed", "soonest", "is_order", "soonest_landings", "fixed_landings", "soonest_minute", "leaves_too_late", "least_last", "least_cost", "told", "best_order", "joined", "best_behind", "best_with", "_law_cell_at", "_law_pot", "_law_take", "_law_gaps", "_law_meadow", "_law_sky", "_law_open", "_law_waits", "_law_need", "_law_step", "_law_soonest", "_law_keeps", "_law_shuffled", "_law_order", "_law_looser", "_law_told_right", "_law_cost", "_law_none_better", "LAST_MINUTE", "MOST_RINGS", "MOST_SINK", "MOST_KINDS", "MOST_GAP", "MOST_SHUTS", "MOST_GLIDERS", "MOST_WEIGHT", "MOST_LANDINGS", "RingError", "NoSky", "NoLandings", "NoOrder"]
set_option maxHeartbeats 0 in
def Lw.said:PySem.Challenge.rw_downrings_k38_whole_no_landings_do_bette.wellSaid=aN:=by kernel_rfl
set_option maxHeartbeats 0 in
def Lw.head(h:∀ns:List Int,ns.length<=63->∃b,Ev.evC Lw.ag 40 75 [.ref 0] [.frz (ns.map Ev.D.int)]=aw (.bl aN,b)):PySem.Challenge.rw_downrings_k38_whole_no_landings_do_bette.Holds:=by
 w_on;refine holds_law Lw.said λsaid=>?_
 refine holds_open (q:=Lw.view) (loose:=Lw.loose) (Xt:=(λs=>xlAt Lw.view [] s && recOk (RowW.records PySem.Challenge.rw_downrings_k38_whole_no_landings_do_bette.row.toRowW) s)) (XP:=XL Lw.view []) (Yf:=(Hook.obs (Ev.qL Lw.con Lw.ag Lw.bind))) (Ya:=(Hook.val (Ev.qL Lw.con Lw.ag Lw.bind))) (YP:=Hook.says (Ev.qL Lw.con Lw.ag Lw.bind)) (N:=20000) ?hl (Hook.of _) (Hook.keeps _) (λs e=>xl_of s (XR.mp e).1) XL.keeps (by rfl) (by rfl) (by rfl) (λs e=>recFacts_of (XR.mp e).2) (by rfl) (by first |assumption |decide +kernel) (by decide +kernel) ⟨rfl,rfl,rfl,rfl,rfl,by decide +kernel⟩ ?hw ?hc
 case hw=>w_witness2
 case hl=>exactλw=>by kernel_rfl
 case hc=>exact Ev.E9 (l:=PySem.Challenge.rw_downrings_k38_whole_no_landings_do_bette) (n:=63) (k:=40) (i:=75) (dl:=Lw.xh) rfl (by decide) rfl ⟨rfl,by decide,by decide,rfl⟩ rfl rfl rfl Lw.chk h
end
namespace Ev
open PySem PySem.Spec PyProof.Rows L2
abbrev Ok{b:Type}(x:Option (b × Sto))(Q:b->Sto->Prop):Prop:=∃a S,x=aw (a,S)/\Q a S
abbrev OkS(x:Option (Fl × Rho × Sto))(Q:Fl->Rho->Sto->Prop):Prop:=∃f b S,x=aw (f,b,S)/\Q f b S
section
variable {α β:Type} {S S':Sto} {ρ ρ':Rho}
def aG{a:α}{Q:α->Sto->Prop}:Ok (aw (a,S)) Q=Q a S:=by
 apply propext;exact⟨λ⟨_,_,e,q⟩=>by cases e;exact q,λq=>⟨a,S,rfl,q⟩⟩
def ba{Q:α->Sto->Prop}:Ok aD Q=False:=propext ⟨λ⟨_,_,e,_⟩=>(nomatch e),λh=>h.elim⟩
def bG{x:Option (α × Sto)}{f:α->Sto->Option (β × Sto)}{Q:β->Sto->Prop}:Ok (bnd x f) Q=Ok x λa S=>Ok (f a S) Q:=by
 apply propext;constructor
 ·rintro⟨b,S',e,q⟩;obtain⟨a,S,E,c⟩:=ae e;exact⟨a,S,E,b,S',c,q⟩
 ·rintro⟨a,S,E,b,S',c,q⟩;exact⟨b,S',by rw[E];exact c,q⟩
def c8{c:Prop}[Decidable c]{x y:Option (α × Sto)}{Q:α->Sto->Prop}:Ok (if c then x else y) Q=if c then Ok x Q else Ok y Q:=by split <;> rfl
def Kw{x:Option β}{f:β->α × Sto}{Q:α->Sto->Prop}:Ok (x.map f) Q=∃b,x=aw b/\Q (f b).1 (f b).2:=by
 apply propext;cases x with
 |none=>exact⟨λ⟨_,_,e,_⟩=>(nomatch e),λ⟨_,e,_⟩=>(nomatch e)⟩
 |some b=>exact⟨λ⟨a,S,e,q⟩=>⟨b,rfl,by have E:=Option.some.inj e;rw[E];exact q⟩,λ⟨B,e,q⟩=>by cases e;exact⟨_,_,rfl,q⟩⟩
def Ok.mono{x:Option (α × Sto)}{Q Q':α->Sto->Prop}(h:Ok x Q)(f:∀a S,Q a S->Q' a S):Ok x Q':=let ⟨a,S,e,q⟩:=h;⟨a,S,e,f a S q⟩
def OkS.mono{x:Option (Fl × Rho × Sto)}{Q Q':Fl->Rho->Sto->Prop}(h:OkS x Q)(f:∀a ρ S,Q a ρ S->Q' a ρ S):OkS x Q':=let ⟨a,ρ,S,e,q⟩:=h;⟨a,ρ,S,e,f a ρ S q⟩
abbrev nxt(y:XS)(Q:Fl->Rho->Sto->Prop)(f:Fl)(ρ:Rho)(S:Sto):Prop:=match f with
 |.nx=>OkS (y ρ S) Q
 |f=>Q f ρ S
def Fa{x y:XS}{Q:Fl->Rho->Sto->Prop}:OkS (A0 x y ρ S) Q=OkS (x ρ S) (nxt y Q):=by
 apply propext;unfold A0;constructor
 ·rintro⟨f,b,c,e,q⟩;split at e
  ·cases e
  ·rename_i d j h;exact⟨_,_,_,h,f,b,c,e,q⟩
  ·rename_i r n h;cases e;cases f with
   |nx=>exact absurd rfl (n b c)
   |_=>exact⟨_,_,_,h,q⟩
 ·rintro⟨f,b,c,e,q⟩;rw[e];cases f with
  |nx=>exact q
  |_=>exact⟨_,_,_,rfl,q⟩
def Kx{c:XT}{x y:XS}{Q:Fl->Rho->Sto->Prop}:OkS (xIf c x y ρ S) Q=Ok (c ρ S) λb j=>if b=aN then OkS (x ρ j) Q else OkS (y ρ j) Q:=by
 apply propext;unfold xIf;constructor
 ·rintro⟨f,d,j,e,q⟩;cases h:c ρ S with
  |none=>rw[h] at e;cases e
  |some r=>
   obtain⟨b,k⟩:=r;rw[h] at e;refine⟨b,k,rfl,?_⟩;dsimp only at e ⊢;split
   ·rename_i hb;rw[if_pos hb] at e;exact⟨f,d,j,e,q⟩
   ·rename_i hb;rw[if_neg hb] at e;exact⟨f,d,j,e,q⟩
 ·rintro⟨b,k,e,q⟩;rw[e];dsimp only;split
  ·rename_i hb;rw[if_pos hb] at q;exact q
  ·rename_i hb;rw[if_neg hb] at q;exact q
def Fb{x:XE}{t:Tg}{Q:Fl->Rho->Sto->Prop}:OkS (mz x t ρ S) Q=Ok (x ρ S) λd S1=>∃b,ax t d ρ=aw b/\Q .nx b S1:=by
 apply propext;unfold mz;constructor
 ·rintro⟨f,b,S1,e,q⟩;cases h:x ρ S with
  |none=>rw[h] at e;cases e
  |some r=>
   obtain⟨d,j⟩:=r;rw[h] at e;dsimp only at e;cases c:ax t d ρ with
   |none=>rw[c] at e;cases e
   |some k=>rw[c] at e;cases e;exact⟨d,_,rfl,b,c,q⟩
 ·rintro⟨d,j,e,b,E,q⟩;rw[e];dsimp only;rw[E];exact⟨_,_,_,rfl,q⟩
def B0{x:XE}{Q:Fl->Rho->Sto->Prop}:OkS (sG x ρ S) Q=Ok (x ρ S) λ_ S1=>Q .nx ρ S1:=by
 apply propext;unfold sG;constructor
 ·rintro⟨f,b,S1,e,q⟩;cases h:x ρ S with
  |none=>rw[h] at e;cases e
  |some r=>rw[h] at e;cases e;exact⟨_,_,rfl,q⟩
 ·rintro⟨d,c,e,q⟩;rw[e];exact⟨_,_,_,rfl,q⟩
def Fc{x:XE}{Q:Fl->Rho->Sto->Prop}:OkS (A6 x ρ S) Q=Ok (x ρ S) λd S1=>Q (.rt d) ρ S1:=by
 apply propext;unfold A6;constructor
 ·rintro⟨f,b,S1,e,q⟩;cases h:x ρ S with
  |none=>rw[h] at e;cases e
  |some r=>rw[h] at e;cases e;exact⟨_,_,rfl,q⟩
 ·rintro⟨d,c,e,q⟩;rw[e];exact⟨_,_,_,rfl,q⟩
def B1{v o i:XE}{Q:Fl->Rho->Sto->Prop}:OkS (sH v o i ρ S) Q=Ok (v ρ S) λa d=>Ok (o ρ d) λb n=>Ok (i ρ n) λc p=>∃S4,jI b c a p=aw S4/\Q .nx ρ S4:=by
 apply propext;unfold sH;constructor
 ·rintro⟨f,C,d,e,q⟩;cases h:v ρ S with
  |none=>rw[h] at e;cases e
  |some r=>
   rw[h] at e;dsimp only at e;cases j:o ρ r.2 with
   |none=>rw[j] at e;cases e
   |some r2=>
    rw[j] at e;dsimp only at e;cases k:i ρ r2.2 with
    |none=>rw[k] at e;cases e
    |some u=>
     rw[k] at e;dsimp only at e;cases h4:jI r2.1 u.1 r.1 u.2 with
     |none=>rw[h4] at e;cases e
     |some S4=>rw[h4] at e;cases e;exact⟨_,_,rfl,_,_,j,_,_,k,_,h4,q⟩
 ·rintro⟨a,d,E,b,n,z,c,p,B,S4,y,q⟩;rw[E];dsimp only;rw[z];dsimp only;rw[B];dsimp only;rw[y];exact⟨_,_,_,rfl,q⟩
def Fd{I:XI}{T:Tg}{b:XS}{k:Nat}{Q:Fl->Rho->Sto->Prop}:OkS (A7 I T b k ρ S) Q=Ok (I ρ S) λnx c=>OkS (eV nx T b k 0 ρ c) Q:=by
 apply propext;unfold A7;constructor
 ·rintro⟨f,j,c,e,q⟩;cases h:I ρ S with
  |none=>rw[h] at e;cases e
  |some r=>rw[h] at e;exact⟨_,_,rfl,_,_,_,e,q⟩
 ·rintro⟨d,n,e,q⟩;rw[e];exact q
abbrev out(Q:D->Sto->Prop)(f:Fl)(_:Rho)(S:Sto):Prop:=match f with
 |.rt v=>Q v S
 |.nx=>Q .non S
 |_=>False
def Ky{Q:D->Sto->Prop}{d:D}:out Q (.rt d) ρ S=Q d S:=rfl
def Kz{Q:D->Sto->Prop}:out Q .nx ρ S=Q .non S:=rfl
def am{ag:List DefE}{k f:Nat}{d:DefE}{c:List D}{Q:D->Sto->Prop}(hd:ag[f]?=aw d)(b:c.map aw++Zx (d.N.length - c.length) aD=ρ)(h:OkS (g6 (evC ag k) (fZ ag) 60 d.body ρ S) (out Q)):Ok (evC ag (k+1) f c S) Q:=by
 subst b;simp only[evC,hd,Kt];obtain⟨n,j,p,e,q⟩:=h;show Ok (match g6 (evC ag k) (fZ ag) FU d.body _ S with |some (.rt v,_,S')=>aw (v,S') |some (.nx,_,S')=>aw (.non,S') |_=>aD) Q;unfold FU;rw[e];cases n with
 |rt v=>exact⟨_,_,rfl,q⟩
 |nx=>exact⟨_,_,rfl,q⟩
 |bk=>exact q.elim
 |ct=>exact q.elim
def pB{nx:Nxt}{T:Tg}{c:XA}{N:Nat}(I:Nat->List D->Sto->Prop)
  (step:∀i b S,i < N->I i b S->∃d f,nx i S=aw (aw d)/\ax T d ρ=aw f/\Ok (c f S) λE j=>I (i+1) (b++E) j) (stop:∀b S,I N b S->nx N S=aw aD) :
  ∀ (n i k:Nat) (b:List D) (S:Sto),N=i+n->n < k->I i b S->Ok (bu nx T c ρ k i S) λE S'=>I N (b++E) S'
 |0,i,k+1,b,S,hN,hk,h=>by
  obtain rfl:N=i:=by omega
  simp only[bu,stop b S h];exact⟨_,_,rfl,by show I _ (b++[]) S;rw[ZN];exact h⟩
 |n+1,i,k+1,b,S,hN,hk,h=>by
  obtain⟨d,f,q,z,E,j,B,y⟩:=step i b S (by omega) h;simp only[bu,q,z,B,bnd];obtain⟨p,u,v,C⟩:=pB I step stop n (i+1) k (b++E) j (by omega) (by omega) y;simp only[v];exact⟨_,_,rfl,by show I _ (b++(E++p)) u;rw[<-Z2];exact C⟩
def gA{nx:Nxt}{T:Tg}{c:XA}{k:Nat}(N:Nat)(I:Nat->List D->Sto->Prop)(j:N < k)
  (step:∀i b S,i < N->I i b S->∃d f,nx i S=aw (aw d)/\ax T d ρ=aw f/\Ok (c f S) λE n=>I (i+1) (b++E) n) (stop:∀b S,I N b S->nx N S=aw aD) (h:I 0 [] S) :
  Ok (bu nx T c ρ k 0 S) (I N):=(pB I step stop N 0 k [] S (by omega) j h).mono λE S' z=>by rw[XC] at z;exact z
def nt{nx:Nxt}{T:Tg}{b:XS}{N:Nat}{Q:Fl->Rho->Sto->Prop}(I:Nat->Rho->Sto->Prop)
  (step:∀i ρ S,i < N->I i ρ S->∃d j,nx i S=aw (aw d)/\ax T d ρ=aw j/\OkS (b j S) λq c f=>match q with |.nx=>I (i+1) c f |.ct=>I (i+1) c f |.bk=>Q .nx c f |.rt d=>Q (.rt d) c f)
  (stop:∀ρ S,I N ρ S->nx N S=aw aD/\Q .nx ρ S) :
  ∀ (n i k:Nat) (ρ:Rho) (S:Sto),N=i+n->n < k->I i ρ S->OkS (eV nx T b k i ρ S) Q
 |0,i,k+1,ρ,S,hN,hk,h=>by
  obtain rfl:N=i:=by omega
  simp only[eV,(stop ρ S h).1];exact⟨_,_,_,rfl,(stop ρ S h).2⟩
 |n+1,i,k+1,ρ,S,hN,hk,h=>by
  obtain⟨d,j,E,u,q,c,f,v,p⟩:=step i ρ S (by omega) h;simp only[eV,E,u,v];cases q with
  |nx=>exact nt I step stop n (i+1) k c f (by omega) (by omega) p
  |ct=>exact nt I step stop n (i+1) k c f (by omega) (by omega) p
  |bk=>exact⟨_,_,_,rfl,p⟩
  |rt d=>exact⟨_,_,_,rfl,p⟩
def jh{nx:Nxt}{T:Tg}{b:XS}{k:Nat}{Q:Fl->Rho->Sto->Prop}(N:Nat)(I:Nat->Rho->Sto->Prop)(n:N < k)
  (step:∀i ρ S,i < N->I i ρ S->∃d f,nx i S=aw (aw d)/\ax T d ρ=aw f/\OkS (b f S) λp c j=>match p with |.nx=>I (i+1) c j |.ct=>I (i+1) c j |.bk=>Q .nx c j |.rt d=>Q (.rt d) c j)
  (stop:∀ρ S,I N ρ S->nx N S=aw aD/\Q .nx ρ S) (h:I 0 ρ S):OkS (eV nx T b k 0 ρ S) Q:=nt I step stop N 0 k ρ S (by omega) n h
end
mutual
noncomputable def TD(p:Nat)(S:Sto):Dw.D->D->Prop
 |.non,d=>d = .non
 |.bl b,d=>d = .bl b
 |.int i,d=>d = .int i
 |.str x,d=>d = .str x
 |.tup ts,d=>∃c,d = .tup c/\TDs p S ts c
 |.lst ts,d=>∃n c,d = .ref n/\n ≠ p/\S[n]?=aw (.lst c)/\TDs p S ts c
 |.dic _ _,_=>False
noncomputable def TDs(p:Nat)(S:Sto):List Dw.D->List D->Prop
 |[],ds=>ds=[]
 |t::ts,ds=>∃d r,ds=d::r/\TD p S t d/\TDs p S ts r
end
abbrev Kp(p:Nat)(S b:Sto):Prop:=∀i o,i ≠ p->S[i]?=aw o->b[i]?=aw o
abbrev Sm(S b:Sto):Prop:=∀ (i:Nat) (o:Ob),S[i]?=aw o->b[i]?=aw o
def Sm.kp{p:Nat}{S S':Sto}(h:Sm S S'):Kp p S S':=λi o _ e=>h i o e
def Sm.refl(S:Sto):Sm S S:=λ_ _ e=>e
def Sm.trans{S c S2:Sto}(a:Sm S c)(b:Sm c S2):Sm S S2:=λi o e=>b i o (a i o e)
def Sm.app(S X:Sto):Sm S (S++X):=λi o e=>by
 have hi:=(Zb.mp e).1;rw[Zq hi];exact e
def Kp.refl(p:Nat)(S:Sto):Kp p S S:=λ_ _ _ e=>e
def Kp.trans{p:Nat}{S c S2:Sto}(a:Kp p S c)(b:Kp p c S2):Kp p S S2:=λi o n e=>b i o n (a i o n e)
section
variable {p:Nat} {S S':Sto}
def KA:TD p S .non .non:=by rw[TD]
def bz{i:Int}:TD p S (.int i) (.int i):=by rw[TD]
def c9{T:List Dw.D}{d:List D}(h:TDs p S T d):TD p S (.tup T) (.tup d):=by rw[TD];exact⟨d,rfl,h⟩
def b7:TDs p S [] []:=by rw[TDs]
def aI{t:Dw.D}{d:D}{T:List Dw.D}{b:List D}(h:TD p S t d)(q:TDs p S T b):TDs p S (t::T) (d::b):=by rw[TDs];exact⟨d,b,rfl,h,q⟩
def TD.non{d:D}(h:TD p S .non d):d = .non:=by rw[TD] at h;exact h
def TD.bl{b:Bool}{d:D}(h:TD p S (.bl b) d):d = .bl b:=by rw[TD] at h;exact h
def TD.int{i:Int}{d:D}(h:TD p S (.int i) d):d = .int i:=by rw[TD] at h;exact h
def TD.str{x:Str}{d:D}(h:TD p S (.str x) d):d = .str x:=by rw[TD] at h;exact h
def TD.tup{T:List Dw.D}{d:D}(h:TD p S (.tup T) d):∃ds,d = .tup ds/\TDs p S T ds:=by rw[TD] at h;exact h
def TDs.cons{t:Dw.D}{T:List Dw.D}{b:List D}(h:TDs p S (t::T) b):∃d r,b=d::r/\TD p S t d/\TDs p S T r:=by rw[TDs] at h;exact h
def TDs.nil{d:List D}(h:TDs p S [] d):d=[]:=by rw[TDs] at h;exact h
def TDs.len:∀ {T:List Dw.D} {b:List D},TDs p S T b->b.length=T.length
 |[],_,h=>by rw[h.nil];rfl
 |t::T,_,h=>by obtain⟨d,r,rfl,_,q⟩:=h.cons;simp[q.len]
abbrev tyT:Dw.D->String
 |.non => "NoneType" |.bl _ => "bool" |.int _ => "int" |.str _ => "str" |.tup _ => "tuple" |.lst _ => "list" |.dic _ _ => "dict"
def OW{t:Dw.D}{d:D}(h:TD p S t d):tyN d S=aw (tyT t):=by
 cases t with
 |non=>rw[h.non];rfl
 |bl _=>rw[h.bl];rfl
 |int _=>rw[h.int];rfl
 |str _=>rw[h.str];rfl
 |tup _=>obtain⟨_,rfl,_⟩:=h.tup;rfl
 |lst _=>rw[TD] at h;obtain⟨n,b,rfl,_,e,_⟩:=h;simp only[tyN,e];rfl
 |dic _ _=>rw[TD] at h;exact h.elim
def qN{ty:Ty}{t:Dw.D}{d:D}(h:TD p S t d):hV ty d S=aw (.bl (fS ty (tyT t)),S):=by
 unfold hV;rw[OW h];rfl
end
def Fe{n:Nat}:Ok (kh g n x c S) Q=Ok (x c S) λd b=>d.length=n/\Ok (g d b) Q:=by
 unfold kh;rw[bG]
 congr 1
 funext d b
 rw[c8,ba];apply propext;split
 ·rename_i h;exact⟨λz=>⟨h,z⟩,λz=>z.2⟩
 ·rename_i h;exact⟨λz=>z.elim,λz=>(h z.1).elim⟩
def KB:Ok (Bb x y c S) Q=Ok (x c S) λd S1=>∃b,d = .bl b/\if b=aN then Ok (y c S1) Q else Q (.bl aS) S1:=by
 unfold Bb;rw[bG]
 congr 1
 funext d S1
 apply propext;cases d with
 |bl b=>cases b <;> simp[aG]
 |_=>simp[ba]
def OX:Ok (xOr x y f S) Q=Ok (x f S) λd c=>∃b,d = .bl b/\if b=aN then Q (.bl aN) c else Ok (y f c) Q:=by
 unfold xOr;rw[bG]
 congr 1
 funext d c
 apply propext;cases d with
 |bl b=>cases b <;> simp[aG]
 |_=>simp[ba]
def KC:Ok (yO d S) Q=∃b,d = .bl b/\Q (.bl (!b)) S:=by
 apply propext;cases d with
 |bl b=>simp[yO,aG]
 |_=>simp[yO,ba]
def KD:Ok (yP f g x y z d S) Q=Ok (x d S) λa j=>Ok (y d j) λb h=>Ok (f a b h) λr S3=>∃c,r = .bl c/\if c=aN then Ok (z d S3) λe k=>Ok (g b e k) Q else Q (.bl aS) S3:=by
 unfold yP;rw[bG]
 congr 1
 funext a j
 rw[bG]
 congr 1
 funext b h
 rw[bG]
 congr 1
 funext r S3
 apply propext;cases r with
 |bl c=>cases c <;> simp[aG,bG]
 |_=>simp[ba]
def KF{i:Nat}:Ok (yt i b S) Q=∃d,b[i]?=aw (aw d)/\Q d S:=by
 apply propext;unfold yt;cases h:b[i]? with
 |none=>simp[ba]
 |some o=>cases o with
  |none=>simp[ba]
  |some d=>simp[aG]
def OY{i j:Int}:Ok (ak .le (.int i) (.int j) S) Q=Q (.bl (decide (i<=j))) S:=aG
def OZ{i j:Int}:Ok (ak .lt (.int i) (.int j) S) Q=Q (.bl (decide (i < j))) S:=aG
def O0{i j:Int}:Ok (ak .gt (.int i) (.int j) S) Q=Q (.bl (decide (j < i))) S:=aG
def O1{i j:Int}:Ok (ak .ge (.int i) (.int j) S) Q=Q (.bl (decide (j<=i))) S:=aG
def KG{i j:Int}:Ok (bL .add (.int i) (.int j) S) Q=Q (.int (i+j)) S:=aG
def KH{i j:Int}:Ok (bL .sub (.int i) (.int j) S) Q=Q (.int (i - j)) S:=aG
def O2:Ok (xB x c S) Q=Ok (x c S) λd S1=>∃b,d = .bl b/\Q b S1:=by
 unfold xB;rw[bG]
 congr 1
 funext d S1
 apply propext;cases d with
 |bl b=>simp[aG]
 |_=>simp[ba]
def Ff{own k:Nat}:Ok (mB own I T c k b S) Q=Ok (I b S) λnx d=>dh T (b++Zx own aD)=aN/\Ok (bu nx T c (b++Zx own aD) k 0 d) λE S2=>E.length<=100000/\Q E S2:=by
 unfold mB;rw[bG]
 congr 1
 funext nx d
 rw[c8,ba];apply propext
 have e:Ok (bnd (bu nx T c (b++Zx own aD) k 0 d) λE S2=>if E.length<=100000 then aw (E,S2) else aD) Q=Ok (bu nx T c (b++Zx own aD) k 0 d) λE S2=>E.length<=100000/\Q E S2:=by
  rw[bG]
  congr 1
  funext E S2
  rw[c8,ba,aG];apply propext;split
  ·rename_i h;exact⟨λz=>⟨h,z⟩,λz=>z.2⟩
  ·rename_i h;exact⟨λz=>z.elim,λz=>(h z.1).elim⟩
 rw[e];split
 ·rename_i h;exact⟨λz=>⟨h,z⟩,λz=>z.2⟩
 ·rename_i h;exact⟨λz=>z.elim,λz=>(h z.1).elim⟩
def B2{k:Nat}:Ok (jJ I T c k b S) Q=(dh T b=aN/\Ok (I b S) λnx d=>Ok (bu nx T c b k 0 d) Q):=by
 unfold jJ;rw[c8,ba,bG];apply propext;split
 ·rename_i h;exact⟨λz=>⟨h,z⟩,λz=>z.2⟩
 ·rename_i h;exact⟨λz=>z.elim,λz=>(h z.1).elim⟩
def Fg:Ok (oJ x b S) Q=Ok (x b S) λd S1=>d.length<=1000/\Q d S1:=by
 unfold oJ;rw[bG]
 congr 1
 funext d S1
 rw[c8,ba,aG];apply propext;split
 ·rename_i h;exact⟨λz=>⟨h,z⟩,λz=>z.2⟩
 ·rename_i h;exact⟨λz=>z.elim,λz=>(h z.1).elim⟩
def Fh:Ok (kL d S) Q=(d.length<=1000/\Q (.tup d) S):=by
 unfold kL;rw[c8,ba,aG];apply propext;split
 ·rename_i h;exact⟨λz=>⟨h,z⟩,λz=>z.2⟩
 ·rename_i h;exact⟨λz=>z.elim,λz=>(h z.1).elim⟩
def qO{b:Type}(l:List b)(g:b->Bool)(S:Sto):kN aS (l.map λt=>D.bl (g t)) S=aw (.bl (l.all g),S):=by
 unfold kN;have h:(l.map λt=>D.bl (g t)).all yz=aN:=by rw[YX];simp[Function.comp_def,yz]
 have c:(l.map λt=>D.bl (g t)).all n5=l.all g:=by rw[YX];rfl
 rw[if_pos ⟨rfl,h⟩,c]
def Fi{S:Sto}{n:Nat}{lo:Int}{T:Tg}{c:XA}{p:Rho}{Q:List D->Sto->Prop}(y:n<=100000)(g:Nat->Bool)
  (step:∀ (i:Nat) b,i < n->Sm S b->∃d,ax T (.int (lo+i)) p=aw d/\Ok (c d b) λE j=>E=[.bl (g i)]/\Sm b j) (q:∀b,Sm S b->Q ((Zk n).map λi=>.bl (g i)) b) :
  Ok (bu (nxR lo n) T c p LF 0 S) λE S2=>E.length<=100000/\Q E S2:=by
 refine(gA n (λi f b=>Sm S b/\f=(Zk i).map λt=>.bl (g t)) (by unfold LF;lia) (λi f b hi ⟨sm,h⟩=>?_) (λf b ⟨sm,h⟩=>?_) ⟨Sm.refl S,by simp⟩).mono λE b ⟨sm,h⟩=>?_
 ·obtain⟨d,u,E,j,v,rfl,k⟩:=step i b hi sm;refine⟨_,d,by show aw (if i < n then aw (D.int (lo+i)) else aD)=_;rw[if_pos hi],u,_,j,v,sm.trans k,?_⟩;rw[h,Xe,ZF];rfl
 ·show aw (if n < n then aw (D.int (lo+n)) else aD)=_;rw[if_neg (ZR n)]
 ·subst h;exact⟨by rw[Za,ZG];exact y,q b sm⟩
def vH{m n:Nat}(v:S[m]?=aw (.lst ((Zk n).map λj=>.int (Int.ofNat j))))(C:n<=1000)(f:Nat->List D)
  (step:∀ (i:Nat) b,i < n->Sm S b->∃d,ax T (.int i) y=aw d/\Ok (c d b) λE q=>E=f i/\Sm b q):Ok (bu (nxS m) T c y LF 0 S) λE S2=>E=(Zk n).flatMap f/\Sm S S2:=by
 refine(gA n (λi h b=>Sm S b/\h=(Zk i).flatMap f) (by unfold LF;lia) (λi h b hi ⟨sm,k⟩=>?_) (λh b ⟨sm,k⟩=>?_) ⟨Sm.refl S,by simp⟩).mono λE b ⟨sm,k⟩=>⟨k,sm⟩
 ·obtain⟨d,z,E,q,B,rfl,u⟩:=step i b hi sm;refine⟨.int i,d,?_,z,_,q,B,sm.trans u,?_⟩
  ·show(au b m).map (λp=>p[i]?)=_;simp only[au,sm _ _ v,ZD,Zp,Yz hi];rfl
  ·rw[k,Dw.oI]
 ·show(au b m).map (λp=>p[n]?)=_;simp only[au,sm _ _ v,ZD];rw[Zs (by simp)]
def B3:Ok (dB x c S) Q=Ok (x c S) λd b=>Q (.ref b.length) (b++[.lst d]):=by
 unfold dB;rw[bG]
 congr 1
 funext d b
 rw[aG]
def KJ(h:Ok (x c S) λd b=>∃i:Nat,d = .int i/\i<=1000/\Q ((Zk i).map λj=>.int (Int.ofNat j)) b):Ok (yV x c S) Q:=by
 unfold yV;rw[bG];refine h.mono λd b ⟨i,e,hi,q⟩=>?_;subst e;dsimp only;rw[if_pos (by lia),aG,Zy];exact q
def tf(is:List Int):(is.map D.int).all cB=aN:=by rw[YX];simp[Function.comp_def,cB]
def B4(is:List Int)(i:Int)(S:Sto):u0 (.tup (is.map D.int)) [.int i] S=aw (.int (is.count i:Nat),S):=by
 have e:((is.map D.int).countP λz=>eqF z (.int i))=is.count i:=by
  rw[List.countP_map];unfold List.count
  congr 1
 simp only[u0];rw[if_pos ⟨rfl,tf is⟩,e]
def ji(neg:Bool)(is:List Int)(i:Int)(S:Sto):inS neg (.int i) (.tup (is.map D.int)) S=aw (.bl (neg != decide (i ∈ is)),S):=by
 have e:inF (.int i) (is.map D.int)=decide (i ∈ is):=by
  unfold inF;rw[Wa,YS,Y7];simp only[Function.comp_def,eqF,beq_iff_eq,decide_eq_true_eq];exact⟨λ⟨x,b,e⟩=>e ▸ b,λh=>⟨i,h,rfl⟩⟩
 simp only[inS,ao];rw[if_pos ⟨rfl,tf is⟩,e]
def Fj(i j:Int)(S:Sto):ak .eq (.int i) (.int j) S=aw (.bl (decide (i=j)),S):=by
 simp only[ak,eqS];have:eqD 60 S (.int i) (.int j)=aw (i == j):=rfl;rw[this];rfl
def qP(i j:Int)(S:Sto):ak .ne (.int i) (.int j) S=aw (.bl (!decide (i=j)),S):=rB (x:=.int i) (y:=.int j) (b:=decide (i=j)) rfl
def KL{i j:Int}:Ok (ak .eq (.int i) (.int j) S) Q=Q (.bl (decide (i=j))) S:=by rw[Fj,aG]
def KM{i j:Int}:Ok (ak .ne (.int i) (.int j) S) Q=Q (.bl (!decide (i=j))) S:=by rw[qP,aG]
def Fk{i:Nat}:ax (.name i) d b=if i < b.length then aw (b.set i (aw d)) else aD:=by simp only[ax]
def vI:ax (.tup T) (.tup d) ρ=aM T d ρ:=by simp only[ax]
def qQ:aM [] [] ρ=aw ρ:=by simp only[aM]
def nu{i:Nat}:aM (.name i::T) (d::j) c=if i < c.length then aM T j (c.set i (aw d)) else aD:=by
 simp only[aM,ax];split
 ·rename_i f h;split at h
  ·rename_i b;cases h;rw[if_pos b]
  ·cases h
 ·rename_i h;split at h
  ·cases h
  ·rename_i b;rw[if_neg b]
def bm{i j:Nat}(c:i < ρ.length)(h:j < ρ.length):ax (.tup [.name i,.name j]) (.tup [a,b]) ρ=aw ((ρ.set i (aw a)).set j (aw b)):=by
 rw[vI,nu,if_pos c,nu,if_pos (by rw[ZY];exact h),qQ]
def aq{a:Nat}(h:S[a]?=aw (.lst es)):au S a=aw es:=by simp only[au,h]
def Fm{a b n:Nat}(d:S[a]?=aw (.lst E))(c:S[b]?=aw (.lst []))(h:a ≠ b):eqD (n+1) S (.ref a) (.ref b)=aw E.isEmpty:=by
 show(match au S a,au S b with |some X,aw ys=>if a=b then aw aN else if X.length=ys.length then eqL (eqD n S) X ys else aw aS |_,_=>aD)=_;rw[aq d,aq c];show(if a=b then aw aN else if E.length=([]:List D).length then eqL (eqD n S) E [] else aw aS)=_;rw[if_neg h];cases E with
 |nil=>simp[eqL]
 |cons x X=>simp
def ne_nil{a b:Nat}(d:S[a]?=aw (.lst E))(c:S[b]?=aw (.lst []))(h:a ≠ b):ak .ne (.ref a) (.ref b) S=aw (.bl (!E.isEmpty),S):=rB (Fm d c h)
def Fn:ak .ne (.ref (Zd S)) (.ref (Zd (S++[Ob.lst E]))) (S++[Ob.lst E]++[Ob.lst []])=aw (.bl (!E.isEmpty),S++[Ob.lst E]++[Ob.lst []]):=
 ne_nil (by rw[Z2,Zm (Ze _),Z7];rfl) (by rw[Zm (Ze _),Z7];rfl) (by simp)
def dY(d:List D)(k:Nat)(h:k<=d.length):dX d aD (aw (k:Int))=d.take k:=by
 unfold dX;rw[Dw.uB _ _ (by lia),Zy,XD h];rfl
def KN{p:Nat}(h:TDs p S T d):aj ca (.tup d) S=aw (.int T.length,S):=by
 simp only[aj,ao,ca,h.len]
section
variable {S S' S1 S2:Sto} {p:Nat} {Q:D->Sto->Prop} {ρ:Rho}
def KO{i j:Int}:Ok (bL .mod (.int i) (.int j) S) Q=(0 < j/\Q (.int (i % j)) S):=by
 simp only[bL,Jy,c8,aG,ba];apply propext;split
 ·rename_i h;exact⟨λz=>⟨h,z⟩,λz=>z.2⟩
 ·rename_i h;exact⟨λz=>z.elim,λz=>(h z.1).elim⟩
def Fo{i j:Int}:Ok (bL .fdiv (.int i) (.int j) S) Q=((0 < j/\j < 1298074214633706907132624082305024)/\Q (.int (i / j)) S):=by
 simp only[bL,AC,c8,aG,ba];apply propext;split
 ·rename_i h;exact⟨λz=>⟨h,z⟩,λz=>z.2⟩
 ·rename_i h;exact⟨λz=>z.elim,λz=>(h z.1).elim⟩
def KP{i j:Int}:Ok (bL .mul (.int i) (.int j) S) Q=(hU i j=aN/\Q (.int (i * j)) S):=by
 simp only[bL,sr,c8,aG,ba];apply propext;split
 ·rename_i h;exact⟨λz=>⟨h,z⟩,λz=>z.2⟩
 ·rename_i h;exact⟨λz=>z.elim,λz=>(h z.1).elim⟩
def KQ{i j:Int}:Ok (bL .pow (.int i) (.int j) S) Q=((0<=j/\j<=1000000/\i.natAbs < 2 ^ 64)/\Q (.int (i ^ j.toNat)) S):=by
 simp only[bL,Jz,c8,aG,ba];apply propext;split
 ·rename_i h;exact⟨λz=>⟨h,z⟩,λz=>z.2⟩
 ·rename_i h;exact⟨λz=>z.elim,λz=>(h z.1).elim⟩
def xi{i j:Int}(b:-(2 ^ 64) < j)(h:j < 2 ^ 64):hU i j=aN:=by simp only[hU,YT,bAE,decide_eq_true_eq];exact .inr ⟨b,h⟩
def jj{i j:Int}(b:-(2 ^ 64) < i)(h:i < 2 ^ 64):hU i j=aN:=by simp only[hU,YT,bAE,decide_eq_true_eq];exact .inl ⟨b,h⟩
abbrev Pot(p:Nat)(S:Sto):Prop:=∃n:Int,S[p]?=aw (.lst [.int n])
structure Dr(p:Nat)(S S':Sto):Prop where
 kp:Kp p S S'
 pot:Pot p S'
def Dr.refl(h:Pot p S):Dr p S S:=⟨Kp.refl p S,h⟩
def Dr.trans(a:Dr p S S1)(b:Dr p S1 S2):Dr p S S2:=⟨a.kp.trans b.kp,b.pot⟩
def Dr.sm(h:Pot p S)(s:Sm S S'):Dr p S S':=⟨s.kp,let ⟨n,e⟩:=h;⟨n,s _ _ e⟩⟩
def Dr.thenSm(a:Dr p S S1)(s:Sm S1 S2):Dr p S S2:=a.trans (Dr.sm a.pot s)
def Pot.lt(h:Pot p S):p < S.length:=let ⟨_,e⟩:=h;(Zb.mp e).1
def KR:Kp p S (S.set p o):=λi u n e=>by rw[Zv (Ne.symm n)];exact e
def dQ(h:p < S.length):(S.set p o)[p]?=aw o:=by rw[ZU h]
def gB{n:Nat}{lo:Int}{T:Tg}{b:XS}{Q:Fl->Rho->Sto->Prop}(u:n<=100000)(I:Nat->Rho->Sto->Prop)
  (step:∀ (i:Nat) ρ S,i < n->I i ρ S->∃c,ax T (.int (lo+i)) ρ=aw c/\OkS (b c S) λj f S2=>match j with |.nx=>I (i+1) f S2 |.ct=>I (i+1) f S2 |.bk=>Q .nx f S2 |.rt d=>Q (.rt d) f S2)
  (q:∀ρ S',I n ρ S'->Q .nx ρ S') (k:I 0 ρ S):OkS (eV (nxR lo n) T b LF 0 ρ S) Q:=by
 refine jh n I (by unfold LF;lia) (λi ρ S' hi h=>?_) (λρ S' h=>⟨?_,q ρ S' h⟩) k
 ·obtain⟨c,E,z⟩:=step i ρ S' hi h;exact⟨_,c,by show aw (if i < n then aw (D.int (lo+i)) else aD)=_;rw[if_pos hi],E,z⟩
 ·show aw (if n < n then aw (D.int (lo+n)) else aD)=_;rw[if_neg (ZR n)]
def vJ{n:Nat}{lo:Int}{T:Tg}{c:XA}{Q:List D->Sto->Prop}(k:n<=100000)(I:Nat->List D->Sto->Prop)
  (step:∀ (i:Nat) b S',i < n->I i b S'->∃d,ax T (.int (lo+i)) ρ=aw d/\Ok (c d S') λE S1=>I (i+1) (b++E) S1) (q:∀E S',I n E S'->E.length<=100000/\Q E S') (j:I 0 [] S) :
  Ok (bu (nxR lo n) T c ρ LF 0 S) λE S2=>E.length<=100000/\Q E S2:=by
 refine(gA n I (by unfold LF;lia) (λi b S' hi f=>?_) (λb S' f=>?_) j).mono q
 ·obtain⟨d,h,z⟩:=step i b S' hi f;exact⟨_,d,by show aw (if i < n then aw (D.int (lo+i)) else aD)=_;rw[if_pos hi],h,z⟩
 ·show aw (if n < n then aw (D.int (lo+n)) else aD)=_;rw[if_neg (ZR n)]
def KS:Ok (uF x y ρ S) Q=Ok (x ρ S) λb S1=>Ok (y ρ S1) λi S2=>∃k,i = .int k/\∃d,atI b k=aw d/\Q d S2:=by
 unfold uF;rw[bG]
 congr 1
 funext b S1
 rw[bG]
 congr 1
 funext i S2
 apply propext;cases i with
 |int k=>simp[Kw]
 |_=>simp[ba]
def KU{i:Int}(h:0<=i)(b:i < ds.length):∃d,atI ds i=aw d/\ds[i.toNat]?=aw d:=by
 have hi:i.toNat < ds.length:=by lia
 refine⟨ds[i.toNat],?_,gEG hi⟩;unfold atI ixN;rw[if_pos h,if_pos (by lia)];exact gEG hi
def gC{nx:Nxt}{T:Tg}{c:XA}{Q:List D->Sto->Prop}(n:Nat)(j:Nat->D)(I:Nat->List D->Sto->Prop)(h:∀i b S',i<=n->I i b S'->nx i S'=aw (if i < n then aw (j i) else aD))(v:n<=100000)
  (step:∀ (i:Nat) b S',i < n->I i b S'->∃d,ax T (j i) ρ=aw d/\Ok (c d S') λE S1=>I (i+1) (b++E) S1) (q:∀E S',I n E S'->E.length<=100000/\Q E S') (u:I 0 [] S) :
  Ok (bu nx T c ρ LF 0 S) λE S2=>E.length<=100000/\Q E S2:=by
 refine(gA n I (by unfold LF;lia) (λi b S' hi f=>?_) (λb S' f=>?_) u).mono q
 ·obtain⟨d,k,z⟩:=step i b S' hi f;exact⟨_,d,by rw[h i b S' (by lia) f,if_pos hi],k,z⟩
 ·rw[h n b S' (Ze _) f,if_neg (ZR n)]
def qR{m i:Nat}(h:S[m]?=aw (.lst b))(E:Nat->D)(c:∀i d,b[i]?=aw d->E i=d):nxS m i S=aw (if i < b.length then aw (E i) else aD):=by
 show(au S m).map (λb=>b[i]?)=_;rw[aq h,ZD];split
 ·rename_i hi;rw[gEG hi,c i _ (gEG hi)]
 ·rename_i hi;rw[Zs (by lia)]
structure RowsS(p:Nat)(S:Sto)(rs:List D)(M:List (List Int)):Prop where
 len:rs.length=M.length
 row:∀ (i:Nat) r,M[i]?=aw r->∃a,rs[i]?=aw (.ref a)/\a ≠ p/\S[a]?=aw (.lst (r.map D.int))
def RowsS.keep(h:RowsS p S b M)(k:Kp p S S'):RowsS p S' b M:=⟨h.len,λi r c=>let ⟨a,e,n,z⟩:=h.row i r c;⟨a,e,n,k _ _ n z⟩⟩
def RowsS.nil:RowsS p S [] []:=⟨rfl,λi r h=>by simp at h⟩
def RowsS.snoc{a:Nat}(h:RowsS p S f M)(n:a ≠ p)(z:S[a]?=aw (.lst (r.map D.int))):RowsS p S (f++[.ref a]) (M++[r]):=by
 refine⟨by simp[h.len],λi j c=>?_⟩;by_cases hi:i < M.length
 ·rw[Zq hi] at c;obtain⟨b,e,nb,Z⟩:=h.row i j c;exact⟨b,by rw[Zq (by rw[h.len];exact hi)];exact e,nb,Z⟩
 ·rw[Zm (by lia)] at c
  have d:i - M.length=0:=by
   have:=(Zb.mp c).1;simp at this;lia
  rw[d] at c;cases c;exact⟨a,by rw[Zm (by rw[h.len];lia),h.len,d];rfl,n,z⟩
def aC:(S++[o])[S.length]?=aw o:=by rw[Zm (Ze _),Z7];rfl
def Kp.setNew{f:Nat}(h:Kp p S S')(b:S.length<=f):Kp p S (S'.set f o):=λi u n e=>by
 have hi:=(Zb.mp e).1;rw[Zv (by lia)];exact h i u n e
def Pot.setNe{f:Nat}(h:Pot p S)(b:f ≠ p):Pot p (S.set f o):=by
 obtain⟨n,e⟩:=h;exact⟨n,by rw[Zv b];exact e⟩
abbrev ac(q:Int × Int):D:=.tup [.int q.1,.int q.2]
def jk:∀ (E:List (Int × Int)),TDs p S (E.map Dw.wD) (E.map ac)
 |[]=>b7
 |e::E=>aI (c9 (aI bz (aI bz b7))) (jk E)
def nv{f:Nat}(h:S[f]?=aw (.lst d))(b:d.length < 100000):Ok (sD (.ref f) [e] S) Q=Q .non (S.set f (.lst (d++[e]))):=by
 simp only[sD,chg,h];rw[if_pos b];exact aG
def df{f:Nat}(h:S[f]?=aw (.lst d)):fU (.ref f) S=aN:=by simp only[fU,aq h];rfl
def qS{f:Nat}(h:S[f]?=aw (.lst (ds++[e]))):ixS (.ref f) (.int (-1)) S=aw (e,S):=by
 have:atI (ds++[e]) (-1:Int)=aw e:=by
  unfold atI ixN;rw[if_neg (by decide),if_pos (by rw[Zh,Zr];lia)];show(ds++[e])[((-1:Int)+((ds++[e]).length:Int)).toNat]?=aw e;have:((-1:Int)+((ds++[e]).length:Int)).toNat=ds.length:=by rw[Zh,Zr];lia
  rw[this,Zm (Ze _),Z7];rfl
 simp only[ixS,ao,aq h,ZD,this]
def z4{i:Nat}(h:b[i]?=aw d):ixS (.tup b) (.int i) S=aw (d,S):=by
 have hi:=(Zb.mp h).1
 have E:atI b (i:Int)=aw d:=by
  unfold atI ixN;rw[if_pos (by lia),if_pos (by lia),Zy];exact h
 simp only[ixS,ao,E,ZD]
def ww{i:Nat}(h:b[i]?=aw d):atI b (i:Int)=aw d:=by
 have hi:=(Zb.mp h).1;unfold atI ixN;rw[if_pos (by lia),if_pos (by lia),Zy];exact h
def xj:ak .eq (.tup d) (.tup []) S=aw (.bl d.isEmpty,S):=by
 simp only[ak,eqS]
 have:eqD 60 S (.tup d) (.tup [])=aw d.isEmpty:=by
  cases d <;> rfl
 rw[this];rfl
def xk:ak .ne (.tup d) (.tup []) S=aw (.bl (!d.isEmpty),S):=rB (x:=.tup d) (y:=.tup []) (b:=d.isEmpty) (by cases d <;> rfl)
def KW:Ok (bL .add (.tup X) (.tup y) S) Q=(X.length+y.length<=1000/\Q (.tup (X++y)) S):=by
 simp only[bL,kM,c8,aG,ba];apply propext;split
 ·rename_i h;exact⟨λz=>⟨h,z⟩,λz=>z.2⟩
 ·rename_i h;exact⟨λz=>z.elim,λz=>(h z.1).elim⟩
end
@[inline]abbrev WP(b:Type):=Rho->Sto->(b->Sto->Prop)->Prop
abbrev Sd{c:Type}(w:WP c)(x:Rho->Sto->Option (c × Sto)):Prop:=∀b S Q,w b S Q->Ok (x b S) Q
def aZ{c b:Type}{x:Option (c × Sto)}{f:c->Sto->Option (b × Sto)}{Q:b->Sto->Prop}(h:Ok x λa S=>Ok (f a S) Q):Ok (bnd x f) Q:=bG ▸ h
def bA{b:Type}{a:b}{S:Sto}{Q:b->Sto->Prop}(h:Q a S):Ok (aw (a,S)) Q:=⟨_,_,rfl,h⟩
abbrev wIf(b:Bool)(A B:Prop):Prop:=match b with
 |true=>A
 |false=>B
def xl{b:Bool}{A B:Prop}(h:wIf b A B):if b=aN then A else B:=by cases b <;> exact h
abbrev wBl(d:D)(Q:Bool->Prop):Prop:=match d with
 |.bl b=>Q b
 |.non=>False |.int _=>False |.str _=>False |.tup _=>False |.ref _=>False
abbrev cN(d:D)(Q:Int->Prop):Prop:=match d with
 |.int i=>Q i
 |.non=>False |.bl _=>False |.str _=>False |.tup _=>False |.ref _=>False
def ny{d:D}{Q:Bool->Prop}(h:wBl d Q):∃b,d = .bl b/\Q b:=by cases d <;> first |exact h.elim |exact⟨_,rfl,h⟩
def cz{d:D}{Q:Int->Prop}(h:cN d Q):∃b,d = .int b/\Q b:=by cases d <;> first |exact h.elim |exact⟨_,rfl,h⟩
abbrev QQ(o:Option D)(Q:D->Prop):Prop:=match o with
 |some d=>Q d
 |none=>False
abbrev vK:Rho->Nat->(D->Prop)->Prop
 |[],_,_=>False
 |o::_,0,Q=>QQ o Q
 |_::ρ,i+1,Q=>vK ρ i Q
def xm:∀ {ρ:Rho} {i:Nat} {Q:D->Prop},vK ρ i Q->∃d,ρ[i]?=aw (aw d)/\Q d
 |[],_,_,h=>h.elim
 |some d::_,0,_,h=>⟨d,rfl,h⟩
 |none::_,0,_,h=>h.elim
 |o::ρ,i+1,_,h=>by rw[YC];exact xm (ρ:=ρ) h
abbrev O3(i:Nat):WP D:=λb S Q=>vK b i λd=>Q d S
def O4{i:Nat}:Sd (O3 i) (yt i):=λb S Q h=>by
 rw[KF];exact xm h
abbrev wC(d:D):WP D:=λ_ S Q=>Q d S
def s_c{d:D}:Sd (wC d) (xC d):=λ_ _ _ h=>bA h
abbrev Fp(g:D->D->Sto->(D->Sto->Prop)->Prop)(x y:WP D):WP D:=λc S Q=>x c S λa f=>y c f λb d=>g a b d Q
def B5{g:D->D->Sto->(D->Sto->Prop)->Prop}{f:D->D->Sto->Option (D × Sto)}{w v:WP D}{x y:XE}(d:Sd w x)(j:Sd v y)(c:∀ {a b S Q},g a b S Q->Ok (f a b S) Q):Sd (Fp g w v) (r9 f x y):=
 λ_ _ _ h=>aZ ((d _ _ _ h).mono λ_ _ h=>aZ ((j _ _ _ h).mono λ_ _ h=>c h))
abbrev wUn{b β:Type}(g:b->Sto->(β->Sto->Prop)->Prop)(x:WP b):WP β:=λc S Q=>x c S λa d=>g a d Q
def Fq{b c:Type}{g:b->Sto->(c->Sto->Prop)->Prop}{f:b->Sto->Option (c × Sto)}{w:WP b}{x:Rho->Sto->Option (b × Sto)}(k:Sd w x)(d:∀ {a S Q},g a S Q->Ok (f a S) Q):Sd (wUn g w) (λj S=>bnd (x j S) f):=
 λ_ _ _ h=>aZ ((k _ _ _ h).mono λ_ _ h=>d h)
abbrev wOk{c b:Type}(f:c->Sto->Option (b × Sto))(a:c)(S:Sto)(Q:b->Sto->Prop):Prop:=Ok (f a S) Q
abbrev wII:BOp->Int->Int->Sto->(D->Sto->Prop)->Prop
 |.add,i,j,S,Q=>Q (.int (i+j)) S
 |.sub,i,j,S,Q=>Q (.int (i - j)) S
 |.mul,i,j,S,Q=>hU i j=aN/\Q (.int (i * j)) S
 |.mod,i,j,S,Q=>0 < j/\Q (.int (i % j)) S
 |.fdiv,i,j,S,Q=>(0 < j/\j < 1298074214633706907132624082305024)/\Q (.int (i / j)) S
 |.pow,i,j,S,Q=>(0<=j/\j<=1000000/\i.natAbs < 2 ^ 64)/\Q (.int (i ^ j.toNat)) S
def KY{o:BOp}{i j:Int}{S:Sto}{Q:D->Sto->Prop}(h:wII o i j S Q):Ok (bL o (.int i) (.int j) S) Q:=by
 cases o with
 |add=>rw[KG];exact h
 |sub=>rw[KH];exact h
 |mul=>rw[KP];exact h
 |mod=>rw[KO];exact h
 |fdiv=>rw[Fo];exact h
 |pow=>rw[KQ];exact h
abbrev wTT:BOp->List D->List D->Sto->(D->Sto->Prop)->Prop
 |.add,xs,ys,S,Q=>xs.length+ys.length<=1000/\Q (.tup (xs++ys)) S
 |.sub,_,_,_,_=>False
 |.mul,_,_,_,_=>False
 |.mod,_,_,_,_=>False
 |.fdiv,_,_,_,_=>False
 |.pow,_,_,_,_=>False
def KZ{o:BOp}{i j:List D}{S:Sto}{Q:D->Sto->Prop}(h:wTT o i j S Q):Ok (bL o (.tup i) (.tup j) S) Q:=by
 cases o with
 |add=>rw[KW];exact h
 |_=>exact h.elim
abbrev B6(o:BOp)(i:Int)(y:D)(S:Sto)(Q:D->Sto->Prop):Prop:=match y with
 |.int j=>wII o i j S Q
 |.non=>False |.bl _=>False |.str _=>False |.ref _=>False
 |.tup ys=>Ok (bL o (.int i) (.tup ys) S) Q
abbrev xn(o:BOp)(X:List D)(y:D)(S:Sto)(Q:D->Sto->Prop):Prop:=match y with
 |.tup ys=>wTT o X ys S Q
 |.non=>False |.bl _=>False |.str _=>False |.ref _=>False
 |.int j=>Ok (bL o (.tup X) (.int j) S) Q
abbrev vL(o:BOp)(x y:D)(S:Sto)(Q:D->Sto->Prop):Prop:=match x with
 |.int i=>B6 o i y S Q
 |.tup xs=>xn o xs y S Q
 |.non=>Ok (bL o .non y S) Q
 |.bl b=>Ok (bL o (.bl b) y S) Q
 |.str b=>Ok (bL o (.str b) y S) Q
 |.ref b=>Ok (bL o (.ref b) y S) Q
def Fs{o:BOp}{x y:D}{S:Sto}{Q:D->Sto->Prop}(h:vL o x y S Q):Ok (bL o x y S) Q:=by
 cases x with
 |int i=>cases y with
  |int j=>exact KY h
  |tup Y=>exact h
  |_=>exact h.elim
 |tup X=>cases y with
  |int j=>exact h
  |tup Y=>exact KZ h
  |_=>exact h.elim
 |_=>exact h
abbrev wCI:COp->Int->Int->Sto->(D->Sto->Prop)->Prop
 |.eq,i,j,S,Q=>Q (.bl (decide (i=j))) S
 |.ne,i,j,S,Q=>Q (.bl (!decide (i=j))) S
 |.lt,i,j,S,Q=>Q (.bl (decide (i < j))) S
 |.le,i,j,S,Q=>Q (.bl (decide (i<=j))) S
 |.gt,i,j,S,Q=>Q (.bl (decide (j < i))) S
 |.ge,i,j,S,Q=>Q (.bl (decide (j<=i))) S
 |.is,_,_,_,_=>False
 |.isnot,_,_,_,_=>False
 |.isin,_,_,_,_=>False
 |.notin,_,_,_,_=>False
def K0{o:COp}{i j:Int}{S:Sto}{Q:D->Sto->Prop}(h:wCI o i j S Q):Ok (ak o (.int i) (.int j) S) Q:=by
 cases o with
 |eq=>rw[KL];exact h
 |ne=>rw[KM];exact h
 |lt=>rw[OZ];exact h
 |le=>rw[OY];exact h
 |gt=>rw[O0];exact h
 |ge=>rw[O1];exact h
 |_=>exact h.elim
abbrev K1(o:COp)(i:Int)(y:D)(S:Sto)(Q:D->Sto->Prop):Prop:=match y with
 |.int j=>wCI o i j S Q
 |.non=>Ok (ak o (.int i) .non S) Q
 |.bl b=>Ok (ak o (.int i) (.bl b) S) Q
 |.str b=>Ok (ak o (.int i) (.str b) S) Q
 |.ref b=>Ok (ak o (.int i) (.ref b) S) Q
 |.tup b=>Ok (ak o (.int i) (.tup b) S) Q
abbrev tj(o:COp)(X:List D)(y:D)(S:Sto)(Q:D->Sto->Prop):Prop:=match o with
 |.eq=>match y with
  |.tup ys=>match ys with
   |[]=>Q (.bl X.isEmpty) S
   |y::ys=>Ok (ak .eq (.tup X) (.tup (y::ys)) S) Q
  |.non=>Ok (ak .eq (.tup X) .non S) Q
  |.bl b=>Ok (ak .eq (.tup X) (.bl b) S) Q
  |.str b=>Ok (ak .eq (.tup X) (.str b) S) Q
  |.ref b=>Ok (ak .eq (.tup X) (.ref b) S) Q
  |.int b=>Ok (ak .eq (.tup X) (.int b) S) Q
 |.ne=>match y with
  |.tup ys=>match ys with
   |[]=>Q (.bl (!X.isEmpty)) S
   |y::ys=>Ok (ak .ne (.tup X) (.tup (y::ys)) S) Q
  |.non=>Ok (ak .ne (.tup X) .non S) Q
  |.bl b=>Ok (ak .ne (.tup X) (.bl b) S) Q
  |.str b=>Ok (ak .ne (.tup X) (.str b) S) Q
  |.ref b=>Ok (ak .ne (.tup X) (.ref b) S) Q
  |.int b=>Ok (ak .ne (.tup X) (.int b) S) Q
 |.is=>Ok (ak .is (.tup X) y S) Q
 |.isnot=>Ok (ak .isnot (.tup X) y S) Q
 |.isin=>Ok (ak .isin (.tup X) y S) Q
 |.notin=>Ok (ak .notin (.tup X) y S) Q
 |.lt=>False |.le=>False |.gt=>False |.ge=>False
abbrev wCx(o:COp)(x y:D)(S:Sto)(Q:D->Sto->Prop):Prop:=match x with
 |.int i=>K1 o i y S Q
 |.tup xs=>tj o xs y S Q
 |.non=>Ok (ak o .non y S) Q
 |.bl b=>Ok (ak o (.bl b) y S) Q
 |.str b=>Ok (ak o (.str b) y S) Q
 |.ref b=>Ok (ak o (.ref b) y S) Q
def K2{o:COp}{x y:D}{S:Sto}{Q:D->Sto->Prop}(h:wCx o x y S Q):Ok (ak o x y S) Q:=by
 cases x with
 |int i=>cases y with
  |int j=>exact K0 h
  |_=>exact h
 |tup X=>cases o with
  |eq=>cases y with
   |tup Y=>cases Y with
    |nil=>rw[xj,aG];exact h
    |cons y Y=>exact h
   |_=>exact h
  |ne=>cases y with
   |tup Y=>cases Y with
    |nil=>rw[xk,aG];exact h
    |cons y Y=>exact h
   |_=>exact h
  |lt=>exact h.elim
  |le=>exact h.elim
  |gt=>exact h.elim
  |ge=>exact h.elim
  |_=>exact h
 |_=>exact h
abbrev wCm(o:COp)(x y:D)(S:Sto)(Q:D->Sto->Prop):Prop:=match o with
 |.is=>Ok (ak .is x y S) Q
 |.isnot=>Ok (ak .isnot x y S) Q
 |.isin=>Ok (ak .isin x y S) Q
 |.notin=>Ok (ak .notin x y S) Q
 |.eq=>wCx .eq x y S Q
 |.ne=>wCx .ne x y S Q
 |.lt=>wCx .lt x y S Q
 |.le=>wCx .le x y S Q
 |.gt=>wCx .gt x y S Q
 |.ge=>wCx .ge x y S Q
def qT{o:COp}{x y:D}{S:Sto}{Q:D->Sto->Prop}(h:wCm o x y S Q):Ok (ak o x y S) Q:=by
 cases o <;> first |exact K2 h |exact h
abbrev K3(o p:COp)(x y z:WP D):WP D:=λd S Q=>x d S λa j=>y d j λb h=>wCm o a b h λr f=>wBl r λc=>wIf c (z d f λe k=>wCm p b e k Q) (Q (.bl aS) f)
def HY{o p:COp}{w v u:WP D}{x y z:XE}(f:Sd w x)(j:Sd v y)(d:Sd u z):Sd (K3 o p w v u) (yP (ak o) (ak p) x y z):=λ_ _ _ h=>by
 rw[KD];refine(f _ _ _ h).mono λa B h=>(j _ _ _ h).mono λb k h=>(qT h).mono λr n h=>?_;obtain⟨c,e,h⟩:=ny h;refine⟨c,e,?_⟩;cases c with
 |true=>exact(d _ _ _ h).mono λe q h=>qT h
 |false=>exact h
abbrev O5(x y:WP D):WP D:=λc S Q=>x c S λd f=>wBl d λb=>wIf b (y c f Q) (Q (.bl aS) f)
def O6{w v:WP D}{x y:XE}(b:Sd w x)(d:Sd v y):Sd (O5 w v) (Bb x y):=λ_ _ _ h=>by
 rw[KB];refine(b _ _ _ h).mono λa f h=>?_;obtain⟨c,e,h⟩:=ny h;refine⟨c,e,?_⟩;cases c with
 |true=>exact d _ _ _ h
 |false=>exact h
abbrev wOr(x y:WP D):WP D:=λc S Q=>x c S λd f=>wBl d λb=>wIf b (Q (.bl aN) f) (y c f Q)
def QR{w v:WP D}{x y:XE}(b:Sd w x)(d:Sd v y):Sd (wOr w v) (xOr x y):=λ_ _ _ h=>by
 rw[OX];refine(b _ _ _ h).mono λa f h=>?_;obtain⟨c,e,h⟩:=ny h;refine⟨c,e,?_⟩;cases c with
 |false=>exact d _ _ _ h
 |true=>exact h
abbrev O7(x:WP D):WP D:=λc S Q=>x c S λd f=>wBl d λb=>Q (.bl (!b)) f
def O8{w:WP D}{x:XE}(b:Sd w x):Sd (O7 w) (xUn yO x):=λ_ _ _ h=>aZ ((b _ _ _ h).mono λa c h=>by
 rw[KC];exact ny h)
abbrev O9(x:WP D):WP D:=λc S Q=>x c S λd b=>cN d λi=>Q (.int (-i)) b
def Pa{w:WP D}{x:XE}(b:Sd w x):Sd (O9 w) (xUn JU x):=λ_ _ _ h=>aZ ((b _ _ _ h).mono λa c h=>by
 obtain⟨i,rfl,h⟩:=cz h;exact bA h)
abbrev Pb{α:Type}(c:WP Bool)(x y:WP α):WP α:=λd S Q=>c d S λb f=>wIf b (x d f Q) (y d f Q)
def Pc{c:WP Bool}{w v:WP D}{t:XT}{x y:XE}(f:Sd c t)(d:Sd w x)(j:Sd v y):Sd (Pb c w v) (JV t x y):=λ_ _ _ h=>aZ ((f _ _ _ h).mono λb k h=>by
 cases b with
 |true=>exact d _ _ _ h
 | false=>exact j _ _ _ h)
abbrev wO:Option (WP D)->WP (Option Int)
 |none=>λ_ S Q=>Q aD S
 |some w=>λb S Q=>w b S λd c=>cN d λi=>Q (aw i) c
abbrev vM(lo hi:Option Int)(d:D)(S:Sto)(Q:D->Sto->Prop):Prop:=match d with
 |.tup ds=>Q (.tup (dX ds lo hi)) S
 |.ref n=>Ok (slS lo hi (.ref n) S) Q
 |.non=>False |.bl _=>False |.str _=>False |.int _=>False
abbrev wSl(x:WP D)(lo hi:WP (Option Int)):WP D:=λb S Q=>x b S λd j=>lo b j λl c=>hi b c λh f=>vM l h d f Q
def QS:Sd (wO aD) uI:=λ_ _ _ h=>bA h
def QT{w:WP D}{x:XE}(b:Sd w x):Sd (wO (aw w)) (uJ x):=λ_ _ _ h=>aZ ((b _ _ _ h).mono λd c h=>by
 obtain⟨i,rfl,h⟩:=cz h;exact bA h)
def QU{w:WP D}{l u:WP (Option Int)}{x:XE}{lo hi:XO}(f:Sd w x)(j:Sd l lo)(c:Sd u hi):Sd (wSl w l u) (xSl x lo hi):=λ_ _ _ h=>aZ ((f _ _ _ h).mono λd v h=>aZ ((j _ _ _ h).mono λa k h=>aZ ((c _ _ _ h).mono λb p h=>by
 cases d with
 |tup q=>exact bA h
 |ref n=>exact h
 | _=>exact h.elim)))
abbrev xo(g:List D->Sto->Option (D × Sto))(n:Nat)(x:WP (List D)):WP D:=λb S Q=>x b S λd c=>d.length=n/\Ok (g d c) Q
def vN{g:List D->Sto->Option (D × Sto)}{n:Nat}{w:WP (List D)}{x:XA}(b:Sd w x):Sd (xo g n w) (kh g n x):=λ_ _ _ h=>by
 rw[Fe];exact b _ _ _ h
abbrev wC2(d:D)(A B:Prop):Prop:=match d with
 |.int k=>wIf (decide (k=0)) A (wIf (decide (k=1)) B False)
 |_=>False
abbrev HZ(g h:List D->Sto->Option (D × Sto))(n f:Nat)(y:WP D)(x:WP (List D)):WP D:=λb S Q=>y b S λd c=>wC2 d (xo g n x b c Q) (xo h f x b c Q)
def K4{g p:List D->Sto->Option (D × Sto)}{n j:Nat}{v:WP D}{w:WP (List D)}{y:XE}{x:XA}(q:Sd v y)(f:Sd w x):Sd (HZ g p n j v w) (Bh g p n j y x):=λu S Q h=>by
 refine aZ ((q _ _ _ h).mono λd z h=>?_);cases d with
 |int k=>
  have h:=xl h;dsimp only;by_cases b:k=0
  ·rw[if_pos (by simp[b])] at h;rw[if_pos b];exact vN f _ _ _ h
  ·rw[if_neg (by simp[b])] at h;have h:=xl h;by_cases c:k=1
   ·rw[if_pos (by simp[c])] at h;rw[if_neg b,if_pos c];exact vN f _ _ _ h
   ·rw[if_neg (by simp[c])] at h;exact h.elim
 |_=>exact h.elim
abbrev jW(x:WP (List D)):WP D:=λc S Q=>x c S λd b=>Q (.ref b.length) (b++[.lst d])
def gU{w:WP (List D)}{x:XA}(b:Sd w x):Sd (jW w) (dB x):=λ_ _ _ h=>by rw[B3];exact b _ _ _ h
abbrev ft:Nat->List CE->Prop->Prop
 |_,[],A=>A
 |0,_::_,_=>False
 |n+1,_::es,A=>ft n es A
def jl:∀ {n:Nat} {es:List CE} {A:Prop},ft n es A->es.length<=n/\A
 |n,[],_,h=>⟨YK _,by cases n <;> exact h⟩
 |0,_::_,_,h=>h.elim
 |n+1,_::es,_,h=>by rw[Zo];exact⟨We (jl (es:=es) h).1,(jl (es:=es) h).2⟩
abbrev wSh{α:Type}(E:List CE)(x:WP α):WP α:=λb S Q=>ft 60 E (x b S Q)
abbrev Ft(c:D->Sto->Bool)(f:D->List D->Sto->Option (D × Sto))(x:WP D)(y:WP (List D)):WP D:=λh S Q=>x h S λd b=>c d b=aN/\y h b λk j=>Ok (f d k j) Q
def B7{c:D->Sto->Bool}{f:D->List D->Sto->Option (D × Sto)}{w:WP D}{v:WP (List D)}{x:XE}{y:XA}(b:Sd w x)(j:Sd v y):Sd (Ft c f w v) (AU c f x y):=λ_ _ _ h=>aZ ((b _ _ _ h).mono λd k h=>by
 rw[if_pos h.1];exact aZ (j _ _ _ h.2))
abbrev K5(x:WP D):WP (List D):=λb S Q=>x b S λd c=>∃i:Nat,d = .int i/\i<=1000/\Q ((Zk i).map λj=>.int (Int.ofNat j)) c
def H8{w:WP D}{x:XE}(b:Sd w x):Sd (K5 w) (yV x):=λ_ _ _ h=>KJ (b _ _ _ h)
abbrev Pd:WP (List D):=λ_ S Q=>Q [] S
def Pe:Sd Pd Ea:=λ_ _ _ h=>bA h
abbrev Ia(x:WP D)(y:WP (List D)):WP (List D):=λb S Q=>x b S λa f=>y b f λd c=>Q (a::d) c
def K6{w:WP D}{v:WP (List D)}{x:XE}{y:XA}(b:Sd w x)(c:Sd v y):Sd (Ia w v) (wG x y):=λ_ _ _ h=>aZ ((b _ _ _ h).mono λd k h=>aZ ((c _ _ _ h).mono λj f h=>bA h))
abbrev QV(o:Option D)(A:Prop):Prop:=match o with
 |none=>A
 |some _=>False
abbrev wFr:Rho->Nat->Prop->Prop
 |[],_,_=>False
 |o::_,0,A=>QV o A
 |_::ρ,i+1,A=>wFr ρ i A
def qU:∀ {ρ:Rho} {i:Nat} {A:Prop},wFr ρ i A->ρ[i]?=aw aD/\A
 |[],_,_,h=>h.elim
 |none::_,0,_,h=>⟨rfl,h⟩
 |some _::_,0,_,h=>h.elim
 |o::ρ,i+1,_,h=>by rw[YC];exact qU (ρ:=ρ) h
abbrev tv:List Tg->Rho->Prop->Prop
 |[],_,A=>A
 |.name i::ts,ρ,A=>wFr ρ i (tv ts ρ A)
 |.tup us::ts,ρ,A=>dh (.tup us) ρ=aN/\tv ts ρ A
abbrev wFt:Tg->Rho->Prop->Prop
 |.name i,ρ,A=>wFr ρ i A
 |.tup ts,ρ,A=>tv ts ρ A
def pC{i:Nat}{b:Rho}(h:b[i]?=aw aD):dh (.name i) b=aN:=by rw[dh,h]
def qV:∀ {T:List Tg} {b:Rho} {A:Prop},tv T b A->fW T b=aN/\A
 |[],_,_,h=>⟨by rw[fW],h⟩
 |.name i::T,b,_,h=>by
  obtain⟨e,h⟩:=qU h;obtain⟨E,h⟩:=qV h;exact⟨by rw[fW,pC e,E];rfl,h⟩
 |.tup us::T,b,_,h=>by
  obtain⟨e,h⟩:=h;obtain⟨E,h⟩:=qV h;exact⟨by rw[fW,e,E];rfl,h⟩
def vO{t:Tg}{b:Rho}{A:Prop}(h:wFt t b A):dh t b=aN/\A:=by
 cases t with
 |name i=>exact⟨pC (qU h).1,(qU h).2⟩
 |tup T=>rw[dh];exact qV h
abbrev tw:List Str->Rho->(Rho->Prop)->Prop
 |[],r,Q=>Q r
 |_::own,r,Q=>tw own (aD::r) Q
abbrev tz:Rho->Rho->(Rho->Prop)->Prop
 |[],r,Q=>Q r
 |o::ρ,r,Q=>tz ρ r λb=>Q (o::b)
def xq:∀ {ρ r:Rho} {Q:Rho->Prop},tz ρ r Q->Q (ρ++r)
 |[],_,_,h=>h
 |o::ρ,r,Q,h=>xq (ρ:=ρ) (Q:=λb=>Q (o::b)) h
def xr:∀ {own:List Str} {k:Nat} {Q:Rho->Prop},tw own (Zx k aD) Q->Q (Zx (own.length+k) aD)
 |[],k,_,h=>by rw[Z1,YG];exact h
 |_::own,k,Q,h=>by
  have:=xr (own:=own) (k:=k+1) h;rw[Zo,show own.length+1+k=own.length+(k+1) by lia];exact this
abbrev Ib(own:List Str)(I:WP Nxt)(T:Tg)(c:XA)(k:Nat):WP (List D):=λd S Q=>I d S λnx h=>tw own [] λr=>tz d r λb=>wFt T b (Ok (bu nx T c b k 0 h) λE f=>E.length<=100000/\Q E f)
def B8{own:List Str}{k:Nat}{w:WP Nxt}{I:XI}{T:Tg}{c:XA}(b:Sd w I):Sd (Ib own w T c k) (mB own.length I T c k):=λ_ _ _ h=>by
 rw[Ff]
 exact(b _ _ _ h).mono λnx d h=>by
  have h:=xq (xr (own:=own) (k:=0) h);exact vO h
abbrev B9(I:WP Nxt)(T:Tg)(c:XA)(k:Nat):WP (List D):=λb S Q=>wFt T b (I b S λnx d=>Ok (bu nx T c b k 0 d) Q)
def Fu{k:Nat}{w:WP Nxt}{I:XI}{T:Tg}{c:XA}(b:Sd w I):Sd (B9 w T c k) (jJ I T c k):=λ_ _ _ h=>by
 rw[B2];exact⟨(vO h).1,b _ _ _ (vO h).2⟩
abbrev Ca(d:D)(b:Sto)(Q:Nxt->Sto->Prop):Prop:=match d with
 |.tup ds=>Q (nxL ds) b
 |.ref n=>(au b n).isSome=aN/\Q (nxS n) b
 |.non=>False |.bl _=>False |.str _=>False |.int _=>False
def QW{w:WP D}{x:XE}(c:Sd w x):Sd (λf S Q=>w f S λd b=>Ca d b Q) (xIV x):=λ_ _ _ h=>aZ ((c _ _ _ h).mono λd b h=>by
 cases d with
 |tup j=>exact bA h
 |ref n=>dsimp only;rw[if_pos h.1];exact bA h.2
 | _=>exact h.elim)
abbrev Cb(d:D)(b:Sto)(Q:Nxt->Sto->Prop):Prop:=match d with
 |.tup ds=>Q (ve ds) b
 |.ref n=>(au b n).isSome=aN/\Q (AW n) b
 |.non=>False |.bl _=>False |.str _=>False |.int _=>False
def QX{w:WP D}{x:XE}(c:Sd w x):Sd (λf S Q=>w f S λd b=>Cb d b Q) (xEV x):=λ_ _ _ h=>aZ ((c _ _ _ h).mono λd b h=>by
 cases d with
 |tup j=>exact bA h
 |ref n=>dsimp only;rw[if_pos h.1];exact bA h.2
 | _=>exact h.elim)
abbrev wOn{b β:Type}(f:b->β)(x:WP b):WP β:=λc S Q=>x c S λa d=>Q (f a) d
def Cc{b n:Type}{f:b->n}{w:WP b}{x:Rho->Sto->Option (b × Sto)}(k:Sd w x):Sd (wOn f w) (λj S=>bnd (x j S) λa c=>aw (f a,c)):=λ_ _ _ h=>aZ ((k _ _ _ h).mono λd c h=>bA h)
abbrev wR1(x:WP D):WP Nxt:=λb S Q=>x b S λd c=>cN d λj=>lim j=aN/\Q (nxR 0 j.toNat) c
def QY{w:WP D}{x:XE}(b:Sd w x):Sd (wR1 w) (xR1 x):=λ_ _ _ h=>aZ ((b _ _ _ h).mono λd c h=>by
 obtain⟨i,rfl,h⟩:=cz h;dsimp only;rw[if_pos h.1];exact bA h.2)
abbrev wDn(x:WP D):WP Nxt:=λb S Q=>x b S λd c=>cN d λj=>lim j=aN/\Q (nxD j (j+1).toNat) c
def QZ{w:WP D}{x:XE}(b:Sd w x):Sd (wDn w) (xDn x):=λ_ _ _ h=>aZ ((b _ _ _ h).mono λd c h=>by
 cases d with
 |int j=>obtain⟨h,q⟩:=h;dsimp only;rw[if_pos h];exact bA q
 | _=>exact h.elim)
abbrev wR2(x y:WP D):WP Nxt:=λb S Q=>x b S λd f=>y b f λe c=>cN d λi=>cN e λj=>(lim i=aN/\lim j=aN)/\Q (nxR i (j - i).toNat) c
def Q0{w v:WP D}{x y:XE}(c:Sd w x)(k:Sd v y):Sd (wR2 w v) (xR2 x y):=λ_ _ _ h=>aZ ((c _ _ _ h).mono λd p h=>aZ ((k _ _ _ h).mono λe n h=>by
 obtain⟨i,rfl,f⟩:=cz h;obtain⟨j,rfl,b⟩:=cz f;dsimp only;rw[if_pos b.1];exact bA b.2))
abbrev cC(d:D)(S:Sto)(Q:Bool->Sto->Prop):Prop:=match d with
 |.bl b=>Q b S
 |.tup ds=>Q (!ds.isEmpty) S
 |.int i=>Q (i != 0) S
 |.non=>Q aS S
 |.str y=>Ok (mi (.str y) S) Q
 |.ref y=>Ok (mi (.ref y) S) Q
def Cd{d:D}{S:Sto}{Q:Bool->Sto->Prop}(h:cC d S Q):Ok (mi d S) Q:=by cases d <;> first |exact bA h |exact h
abbrev wB(x:WP D):WP Bool:=λc S Q=>x c S λd f=>wBl d λb=>Q b f
def s_b{w:WP D}{x:XE}(b:Sd w x):Sd (wB w) (xB x):=λ_ _ _ h=>by
 rw[O2];exact(b _ _ _ h).mono λd c h=>ny h
abbrev Ic(x y:WP Bool):WP Bool:=λc S Q=>x c S λb d=>wIf b (y c d Q) (Q aS d)
abbrev Pf(x y:WP Bool):WP Bool:=λc S Q=>x c S λb d=>wIf b (Q aN d) (y c d Q)
abbrev Ie(x:WP Bool):WP Bool:=λd S Q=>x d S λb c=>Q (!b) c
def K7{w v:WP Bool}{x y:XT}(c:Sd w x)(d:Sd v y):Sd (Ic w v) (Be x y):=λ_ _ _ h=>aZ ((c _ _ _ h).mono λb f h=>by
 cases b with
 |true=>exact d _ _ _ h
 | false=>exact bA h)
def Pg{w v:WP Bool}{x y:XT}(c:Sd w x)(d:Sd v y):Sd (Pf w v) (JY x y):=λ_ _ _ h=>aZ ((c _ _ _ h).mono λb f h=>by
 cases b with
 |false=>exact d _ _ _ h
 | true=>exact bA h)
def K8{w:WP Bool}{x:XT}(c:Sd w x):Sd (Ie w) (Bf x):=λ_ _ _ h=>aZ ((c _ _ _ h).mono λb d h=>bA h)
abbrev Ig(t:WP Bool)(c:WP (List D)):WP (List D):=λf S Q=>t f S λb d=>wIf b (c f d Q) (Q [] d)
def K9{t:WP Bool}{c:WP (List D)}{x:XT}{y:XA}(d:Sd t x)(f:Sd c y):Sd (Ig t c) (A8 x y):=λ_ _ _ h=>aZ ((d _ _ _ h).mono λb j h=>by
 cases b with
 |true=>exact f _ _ _ h
 | false=>exact bA h)
abbrev Fv(f:Bool->List D->Option (List D))(d:List D)(S:Sto)(Q:List D->Sto->Prop):Prop:=∃E,f aS d=aw E/\Q E S
abbrev Fw(f:Bool->List D->Option (List D))(d:D)(S:Sto)(Q:List D->Sto->Prop):Prop:=∃r E,ao d S=aw r/\f r.1 r.2=aw E/\Q E S
abbrev vP(d:D)(S:Sto)(Q:List D->Sto->Prop):Prop:=Ok ((ao d S).map λr=>(r.2,S)) Q
def Ph{f:Bool->List D->Option (List D)}{w:WP (List D)}{x:XA}(j:Sd w x):Sd (λc S Q=>w c S λd b=>Fv f d b Q) (yT f x):=λ_ _ _ h=>aZ ((j _ _ _ h).mono λd b ⟨E,e,h⟩=>by rw[e];exact bA h)
def Pj{f:Bool->List D->Option (List D)}{w:WP D}{x:XE}(c:Sd w x):Sd (λj S Q=>w j S λd b=>Fw f d b Q) (yU f x):=λ_ _ _ h=>aZ ((c _ _ _ h).mono λd b ⟨r,k,E,e,h⟩=>by
 rw[E];dsimp only;rw[e];exact bA h)
abbrev wNo{α:Type}:WP α:=λ_ _ _=>False
def qW{b:Type}{x:Rho->Sto->Option (b × Sto)}:Sd wNo x:=λ_ _ _ h=>h.elim
abbrev aP(b:Bool)(x:WP (List D))(y:WP D)(c:Rho)(S:Sto)(KT:List D->Sto->Prop)(KV:D->Sto->Prop):Prop:=match b with
 |true=>x c S KT
 |false=>y c S KV
abbrev wOf{α:Type}(b:Bool)(x:WP (List D))(y:WP D)(gt:List D->Sto->(α->Sto->Prop)->Prop)(j:D->Sto->(α->Sto->Prop)->Prop):WP α:=λf S Q=>aP b x y f S (λh c=>gt h c Q) (λd c=>j d c Q)
def s_of{f:Type}{b:Bool}{w:WP (List D)}{v:WP D}{gt:List D->Sto->(f->Sto->Prop)->Prop}{j:D->Sto->(f->Sto->Prop)->Prop}{x y:Rho->Sto->Option (f × Sto)}(k:Sd (λc S Q=>w c S λn h=>gt n h Q) x)(p:Sd (λc S Q=>v c S λd h=>j d h Q) y):Sd (wOf b w v gt j) (if b=aN then x else y):=by
 cases b with
 |true=>exact k
 |false=>exact p
def Q1{b:Bool}{w:WP (List D)}{v u:WP D}{x:XA}{y z:XE}(B:Sd w x)(q:Sd u z)(p:Sd v y):Sd (λc S Q=>aP b w u c S (λn f=>v c f λi j=>cN i λk=>∃d,atI n k=aw d/\Q d j) (λd f=>v c f λi j=>Ok (ixS d i j) Q)) (if b=aN then uF x y else r9 ixS z y):=λc S Q h=>by
 cases b with
 |true=>
  show Ok (uF x y c S) Q;rw[KS];exact(B _ _ _ h).mono λn f h=>(p _ _ _ h).mono λi j h=>cz h
 |false=>exact aZ ((q _ _ _ h).mono λn f h=>aZ (p _ _ _ h))
abbrev wO2(t:CE->WP D):Option CE->Option (WP D)
 |none=>aD
 |some e=>aw (t e)
abbrev Fx(t:CE->WP Bool):Option CE->WP (List D)->WP (List D)
 |some c,x=>Ig (t c) x
 |none,x=>x
abbrev Ce(x y:D)(S:Sto)(Q:D->Sto->Prop):Prop:=cN x λi=>cN y λj=>Q (.int (if j > i then j else i)) S
abbrev Cf(x y:D)(S:Sto)(Q:D->Sto->Prop):Prop:=cN x λi=>cN y λj=>Q (.int (if j < i then j else i)) S
abbrev w2(g:D->D->Sto->(D->Sto->Prop)->Prop):List D->Sto->(D->Sto->Prop)->Prop
 |[],_,_=>False
 |[_],_,_=>False
 |[x,y],S,Q=>g x y S Q
 |_::_::_::_,_,_=>False
def Ih{g:D->D->Sto->(D->Sto->Prop)->Prop}{f:D->D->Sto->Option (D × Sto)}(c:∀ {a b S Q},g a b S Q->Ok (f a b S) Q):∀ {d:List D} {S:Sto} {Q:D->Sto->Prop},w2 g d S Q->Ok (two f d S) Q
 |[],_,_,h=>h.elim
 |[_],_,_,h=>h.elim
 |[x,y],_,_,h=>c h
 |_::_::_::_,_,_,h=>h.elim
abbrev Ii:WP D:=λ_ S Q=>Q (.ref (Zd S)) (S++[.dic [] []])
abbrev wCf(i:CI->WP Nxt)(own:List Str)(t:CE->XT)(e:List Cl->XA):List Cl->WP (List D)
 |[]=>wNo
 |⟨tg,it,cond⟩::rest=>Ib own (i it) tg (cnd t cond (e rest)) LF
mutual
noncomputable def wE(C:Calls)(h:Nat->Nat):Nat->CE->WP D
 |0,_=>wNo
 |n+1,e=>match e with
  |.non=>wC .non
  |.bl b=>wC (.bl b)
  |.int i=>wC (.int i)
  |.str x=>wC (.str x)
  |.var i=>O3 i
  |.con _ v=>wC (.int v)
  |.tup es=>wSh es (wOn D.tup (wA C h n es))
  |.lst es=>jW (wSh es (wA C h n es))
  |.dic0=>Ii
  |.bin o a b=>Fp (vL o) (wE C h n a) (wE C h n b)
  |.neg a=>O9 (wE C h n a)
  |.cmp o a b=>Fp (wCm o) (wE C h n a) (wE C h n b)
  |.chn o p a b c=>K3 o p (wE C h n a) (wE C h n b) (wE C h n c)
  |.and a b=>O5 (wE C h n a) (wE C h n b)
  |.or a b=>wOr (wE C h n a) (wE C h n b)
  |.not a=>O7 (wE C h n a)
  |.ite c a b=>Pb (wT C h n c) (wE C h n a) (wE C h n b)
  |.ix a b=>λq S Q=>aP (ai a) (wTm C h n a) (wE C h n a) q S (λu y=>wE C h n b q y λi j=>cN i λk=>∃d,atI u k=aw d/\Q d j) (λd y=>wE C h n b q y λi j=>Ok (ixS d i j) Q)
  |.sl a lo hi=>wSl (wE C h n a) (wO (wO2 (wE C h n) lo)) (wO (wO2 (wE C h n) hi))
  |.call f es=>xo (C f) (h f) (wA C h n es)
  |.cal2 f g i es=>HZ (C f) (C g) (h f) (h g) (wE C h n i) (wA C h n es)
  |.inst t a=>wUn (wOk (hV t)) (wE C h n a)
  |.len a=>wOf (ai a) (wTm C h n a) (wE C h n a) (wOk (ca aS)) (wOk (aj ca))
  |.all a=>wOf (ai a) (wTm C h n a) (wE C h n a) (wOk (kN aS)) (wOk (aj kN))
  |.any a=>wOf (ai a) (wTm C h n a) (wE C h n a) (wOk (n6 aS)) (wOk (aj n6))
  |.tupOf a=>wOf (ai a) (wTm C h n a) (wE C h n a) (wOk (cL aS)) (wOk (aj cL))
  |.listOf a=>jW (wOf (ai a) (wTm C h n a) (wE C h n a) (λu S Q=>Q u S) vP)
  |.listR a=>jW (K5 (wE C h n a))
  |.srt a=>jW (wOf (ai a) (wTm C h n a) (wE C h n a) (Fv cD) (Fw cD))
  |.mxL a=>wOf (ai a) (wTm C h n a) (wE C h n a) (wOk (n9 aS)) (wOk (aj n9))
  |.mxD a c=>wOf (ai a) (wTm C h n a) (wE C h n a) (wOk (eA c aS)) (wOk (aj (eA c)))
  |.sm a=>wOf (ai a) (wTm C h n a) (wE C h n a) (wOk (oe aS)) (wOk (aj oe))
  |.rev a=>wUn (wOk uN) (wE C h n a)
  |.mnN a=>wOf (ai a) (wTm C h n a) (wE C h n a) (wOk (oi aS)) (wOk (aj oi))
  |.intOf a=>wUn (wOk uX) (wE C h n a)
  |.mx a b=>wUn (w2 Ce) (wA C h n [a,b])
  |.mn a b=>wUn (w2 Cf) (wA C h n [a,b])
  |.comp own elt cls=>jW (wCf (wI C h n) own (evT C h n) (gZ C h n elt) cls)
  |.app o a=>Ft fU sD (wE C h n o) (wA C h n [a])
  |.popAt o a=>Ft fU eU (wE C h n o) (wA C h n [a])
  |.cnt o a=>Ft (λd _=>isTup d) u0 (wE C h n o) (wA C h n [a])
noncomputable def wA(C:Calls)(b:Nat->Nat):Nat->List CE->WP (List D)
 |0,_=>wNo
 |n+1,es=>match es with
  |[]=>Pd
  |e::es=>Ia (wE C b n e) (wA C b n es)
noncomputable def wTm(C:Calls)(b:Nat->Nat):Nat->CE->WP (List D)
 |0,_=>wNo
 |n+1,e=>match e with
  |.lst es=>wSh es (wA C b n es)
  |.listOf a=>wOf (ai a) (wTm C b n a) (wE C b n a) (λd S Q=>Q d S) vP
  |.listR a=>K5 (wE C b n a)
  |.srt a=>wOf (ai a) (wTm C b n a) (wE C b n a) (Fv cD) (Fw cD)
  |.comp own elt cls=>wCf (wI C b n) own (evT C b n) (gZ C b n elt) cls
  |_=>wNo
noncomputable def wI(C:Calls)(c:Nat->Nat):Nat->CI->WP Nxt
 |0,_=>wNo
 |n+1,it=>match it with
  |.val a=>wOf (ai a) (wTm C c n a) (wE C c n a) (λd S Q=>Q (nxL d) S) Ca
  |.r1 a=>wR1 (wE C c n a)
  |.dn a=>wDn (wE C c n a)
  |.r2 a b=>wR2 (wE C c n a) (wE C c n b)
  |.en a=>wOf (ai a) (wTm C c n a) (wE C c n a) (λd S Q=>Q (ve d) S) Cb
noncomputable def wT(C:Calls)(d:Nat->Nat):Nat->CE->WP Bool
 |0,_=>wNo
 |n+1,e=>match e with
  |.cmp o a b=>wB (Fp (wCm o) (wE C d n a) (wE C d n b))
  |.chn o p a b c=>wB (K3 o p (wE C d n a) (wE C d n b) (wE C d n c))
  |.and a b=>Ic (wT C d n a) (wT C d n b)
  |.or a b=>Pf (wT C d n a) (wT C d n b)
  |.not a=>Ie (wT C d n a)
  |.ite _ _ _=>wNo
  |e=>wUn cC (wE C d n e)
end
abbrev wCl(C:Calls)(b:Nat->Nat)(n:Nat)(E:CE):List Cl->WP (List D)
 |[]=>wOn (λd=>[d]) (wE C b n E)
 |⟨tg,it,cond⟩::rest=>B9 (wI C b n it) tg (cnd (evT C b n) cond (gZ C b n E rest)) LF
def qX{C:Calls}{j:Nat->Nat}:∀ {n:Nat} {E:List CE} {c:Rho} {S b:Sto} {d:List D},evA C j n E c S=aw (d,b)->d.length=E.length
 |0,_,_,_,_,_,h=>by simp only[evA,xNo] at h;cases h
 |n+1,[],_,_,_,_,h=>by simp only[evA,Ea] at h;cases h;rfl
 |n+1,e::E,_,_,_,_,h=>by
  simp only[evA,wG] at h;obtain⟨a,u,k,h⟩:=ae h;obtain⟨q,p,f,h⟩:=ae h;cases h;rw[Zo,Zo,qX f]
structure SndW(C:Calls)(ar:Nat->Nat)(n:Nat):Prop where
 e:∀ {e:CE},Sd (wE C ar n e) (evE C ar n e)
 a:∀ {es:List CE},Sd (wA C ar n es) (evA C ar n es)
 m:∀ {e:CE},Sd (wTm C ar n e) (cb C ar n e)
 i:∀ {i:CI},Sd (wI C ar n i) (evI C ar n i)
 t:∀ {e:CE},Sd (wT C ar n e) (evT C ar n e)
section
variable {C:Calls} {ar:Nat->Nat} {n:Nat}
def Pk(h:SndW C ar n){E:List CE}:Sd (wSh E (wOn D.tup (wA C ar n E))) (kK kL (evA C ar n E)):=λf S Q w=>by
 obtain⟨le,w⟩:=jl w;obtain⟨d,c,b,q⟩:=h.a _ _ _ w;refine aZ ⟨d,c,b,?_⟩;have l:=qX b;show Ok (kL d c) Q;rw[Fh];exact⟨by lia,q⟩
def Cg(h:SndW C ar n){E:List CE}:Sd (wSh E (wA C ar n E)) (oJ (evA C ar n E)):=λf S Q w=>by
 obtain⟨le,w⟩:=jl w;obtain⟨d,c,b,q⟩:=h.a _ _ _ w;rw[Fg];have l:=qX b;exact⟨d,c,b,by lia,q⟩
def Ij(h:SndW C ar n){o:Option CE}:Sd (wO (wO2 (wE C ar n) o)) (opt (evE C ar n) o):=by
 cases o with
 |none=>exact QS
 |some e=>exact QT h.e
def Fy{a b:D}{S:Sto}{Q:D->Sto->Prop}(h:Ce a b S Q):Ok (AI a b S) Q:=by
 obtain⟨i,rfl,d⟩:=cz h;obtain⟨j,rfl,c⟩:=cz d;exact bA c
def Fz{a b:D}{S:Sto}{Q:D->Sto->Prop}(h:Cf a b S Q):Ok (AJ a b S) Q:=by
 obtain⟨i,rfl,d⟩:=cz h;obtain⟨j,rfl,c⟩:=cz d;exact bA c
end
section
variable {C:Calls} {ar:Nat->Nat} {n:Nat}
def Pl(h:SndW C ar n){o:Option CE}{w:WP (List D)}{x:XA}(b:Sd w x):Sd (Fx (wT C ar n) o w) (cnd (evT C ar n) o x):=by
 cases o with
 |none=>exact b
 |some c=>exact K9 h.t b
def Ch{c b:Type}{f:c->Sto->Option (b × Sto)}{a:c}{S:Sto}{Q:b->Sto->Prop}(h:wOk f a S Q):Ok (f a S) Q:=h
def s_q(h:SndW C ar n){f:Bool->List D->Sto->Option (D × Sto)}{a:CE}:Sd (wOf (ai a) (wTm C ar n a) (wE C ar n a) (wOk (f aS)) (wOk (aj f))) (if ai a=aN then ma f (cb C ar n a) else md f (evE C ar n a)):=
 s_of (Fq (f:=f aS) h.m Ch) (Fq (f:=aj f) h.e Ch)
def Ik(h:SndW C ar n){a:CE}:Sd (wOf (ai a) (wTm C ar n a) (wE C ar n a) (λd S Q=>Q d S) vP) (if ai a=aN then cb C ar n a else mE (evE C ar n a)):=s_of h.m (λ_ _ _ w=>aZ (h.e _ _ _ w))
def Il(h:SndW C ar n){a:CE}:Sd (wOf (ai a) (wTm C ar n a) (wE C ar n a) (Fv cD) (Fw cD)) (if ai a=aN then yT cD (cb C ar n a) else yU cD (evE C ar n a)):=s_of (Ph h.m) (Pj h.e)
def s_u{g:D->Sto->Option (D × Sto)}{w:WP D}{x:XE}(h:Sd w x):Sd (wUn (wOk g) w) (xUn g x):=Fq (f:=g) h Ch
def Q2{w:WP (List D)}{x:XA}(b:Sd w x):Sd (wUn (w2 Ce) w) (kK (two AI) x):=λ_ _ _ h=>aZ ((b _ _ _ h).mono λ_ _ h=>Ih (λz=>Fy z) h)
def Q4{w:WP (List D)}{x:XA}(b:Sd w x):Sd (wUn (w2 Cf) w) (kK (two AJ) x):=λ_ _ _ h=>aZ ((b _ _ _ h).mono λ_ _ h=>Ih (λz=>Fz z) h)
def La:Sd Ii Bo:=λ_ _ _ h=>bA h
def Pn{w:WP D}{x:XE}(h:Sd w x):Sd (wUn cC w) (El x):=Fq (f:=mi) h Cd
def tB:∀n,SndW C ar n
 |0=>⟨qW,qW,qW,qW,qW⟩
 |n+1=>by
  have h:=tB n;refine⟨λ{e}=>?_,λ{E}=>?_,λ{e}=>?_,λ{i}=>?_,λ{e}=>?_⟩
  ·cases e with
   |non=>exact s_c
   |bl b=>exact s_c
   |int b=>exact s_c
   |str b=>exact s_c
   |var b=>exact O4
   |con b v=>exact s_c
   |tup E=>exact Pk h
   |lst E=>exact gU (Cg h)
   |dic0=>exact La
   |bin o a b=>exact B5 h.e h.e Fs
   |neg a=>exact Pa h.e
   |cmp o a b=>exact B5 h.e h.e qT
   |chn o p a b c=>exact HY h.e h.e h.e
   |and a b=>exact O6 h.e h.e
   |or a b=>exact QR h.e h.e
   |not a=>exact O8 h.e
   |ite c a b=>exact Pc h.t h.e h.e
   |ix a b=>exact Q1 h.m h.e h.e
   |sl a lo hi=>exact QU h.e (Ij h) (Ij h)
   |call f E=>exact vN h.a
   |cal2 f g i E=>exact K4 h.e h.a
   |inst t a=>exact s_u h.e
   |len a=>exact s_q h
   |all a=>exact s_q h
   |any a=>exact s_q h
   |tupOf a=>exact s_q h
   |listOf a=>exact gU (Ik h)
   |listR a=>exact gU (H8 h.e)
   |srt a=>exact gU (Il h)
   |mxL a=>exact s_q h
   |mxD a c=>exact s_q h
   |rev a=>exact s_u h.e
   |mnN a=>exact s_q h
   |sm a=>exact s_q h
   |intOf a=>exact s_u h.e
   |mx a b=>exact Q2 h.a
   |mn a b=>exact Q4 h.a
   |comp own k d=>cases d with
    |nil=>exact gU qW
    |cons c j=>cases c with |mk T I cond=>exact gU (B8 h.i)
   |app o a=>exact B7 h.e h.a
   |popAt o a=>exact B7 h.e h.a
   |cnt o a=>exact B7 h.e h.a
  ·cases E with
   |nil=>exact Pe
   |cons e E=>exact K6 h.e h.a
  ·cases e with
   |lst E=>exact Cg h
   |listOf a=>exact Ik h
   |listR a=>exact H8 h.e
   |srt a=>exact Il h
   |comp own k d=>cases d with
    |nil=>exact qW
    |cons c j=>cases c with |mk T I cond=>exact B8 h.i
   |_=>exact qW
  ·cases i with
   |val a=>exact s_of (Cc h.m) (QW h.e)
   |r1 a=>exact QY h.e
   |dn a=>exact QZ h.e
   |r2 a b=>exact Q0 h.e h.e
   |en a=>exact s_of (Cc h.m) (QX h.e)
  ·cases e with
   |cmp o a b=>exact s_b (B5 h.e h.e qT)
   |chn o p a b c=>exact s_b (HY h.e h.e h.e)
   |and a b=>exact K7 h.t h.t
   |or a b=>exact Pg h.t h.t
   |not a=>exact K8 h.t
   |ite a b c=>exact qW
   |_=>exact Pn h.e
def Q5{E:CE}{b:List Cl}:Sd (wCl C ar n E b) (gZ C ar (n+1) E b):=by
 cases b with
 |nil=>exact Cc (tB n).e
 |cons c d=>cases c with |mk T I cond=>exact Fu (tB n).i
def Lb{E:CE}{c:List Cl}{o:Option CE}{b:Rho}{S:Sto}{Q:List D->Sto->Prop}(h:Fx (wT C ar (n+1)) o (wCl C ar n E c) b S Q):Ok (cnd (evT C ar (n+1)) o (gZ C ar (n+1) E c) b S) Q:=Pl (tB (n+1)) Q5 _ _ _ h
abbrev wNm:Nat->D->Rho->(Rho->Prop)->Prop
 |_,_,[],_=>False
 |0,d,_::ρ,Q=>Q (aw d::ρ)
 |i+1,d,o::ρ,Q=>wNm i d ρ λb=>Q (o::b)
def qY:∀ {i:Nat} {d:D} {ρ:Rho} {Q:Rho->Prop},wNm i d ρ Q->i < ρ.length/\Q (ρ.set i (aw d))
 |i,_,[],_,h=>by cases i <;> exact h.elim
 |0,d,_::ρ,Q,h=>⟨by simp,h⟩
 |i+1,d,o::ρ,Q,h=>by
  have:=qY (ρ:=ρ) (Q:=λb=>Q (o::b)) h;exact⟨by rw[Zo];lia,this.2⟩
abbrev wBs:List Tg->List D->Rho->(Rho->Prop)->Prop
 |[],[],ρ,Q=>Q ρ
 |[],_::_,_,_=>False
 |.name _::_,[],_,_=>False
 |.tup _::_,[],_,_=>False
 |.name i::ts,d::ds,ρ,Q=>wNm i d ρ λb=>wBs ts ds b Q
 |.tup us::ts,d::ds,ρ,Q=>∃b,ax (.tup us) d ρ=aw b/\wBs ts ds b Q
abbrev wTp(T:List Tg)(d:D)(b:Rho)(Q:Rho->Prop):Prop:=match d with
 |.tup ds=>wBs T ds b Q
 |.non=>False |.bl _=>False |.str _=>False |.int _=>False |.ref _=>False
abbrev wBd:Tg->D->Rho->(Rho->Prop)->Prop
 |.name i,d,ρ,Q=>wNm i d ρ Q
 |.tup ts,d,ρ,Q=>wTp ts d ρ Q
def Ci{i:Nat}{d:D}{b:Rho}{Q:Rho->Prop}(h:wNm i d b Q):∃ρ1,ax (.name i) d b=aw ρ1/\Q ρ1:=⟨_,by rw[Fk,if_pos (qY h).1],(qY h).2⟩
def vQ:∀ {T:List Tg} {j:List D} {f:Rho} {Q:Rho->Prop},wBs T j f Q->∃b,aM T j f=aw b/\Q b
 |[],[],f,Q,h=>⟨f,qQ,h⟩
 |[],_::_,_,_,h=>h.elim
 |.name _::_,[],_,_,h=>h.elim
 |.tup _::_,[],_,_,h=>h.elim
 |.name i::T,d::j,f,Q,h=>by
  obtain⟨b,e,q⟩:=Ci h;obtain⟨c,E,q⟩:=vQ q;exact⟨c,by rw[aM,e];exact E,q⟩
 |.tup us::T,d::j,f,Q,h=>by
  obtain⟨b,e,q⟩:=h;obtain⟨c,E,q⟩:=vQ q;exact⟨c,by rw[aM,e];exact E,q⟩
def Lc{t:Tg}{d:D}{b:Rho}{Q:Rho->Prop}(h:wBd t d b Q):∃ρ1,ax t d b=aw ρ1/\Q ρ1:=by
 cases t with
 |name i=>exact Ci h
 |tup T=>cases d with
  |tup c=>rw[vI];exact vQ h
  |_=>exact h.elim
@[inline]abbrev WS:=Rho->Sto->(Fl->Rho->Sto->Prop)->Prop
abbrev rW(y:WS)(b:Rho)(S:Sto)(Q:Fl->Rho->Sto->Prop):Prop:=y b S Q
abbrev wNx(y:WS)(Q:Fl->Rho->Sto->Prop)(f:Fl)(b:Rho)(S:Sto):Prop:=match f with
 |.nx=>rW y b S Q
 |.rt d=>Q (.rt d) b S
 |.bk=>Q .bk b S
 |.ct=>Q .ct b S
mutual
noncomputable def wS(C:Calls)(ar:Nat->Nat):Nat->CS->WS
 |0,_=>λ_ _ _=>False
 |n+1,s=>match s with
  |.asg t e=>λf S Q=>wE C ar n e f S λd h=>wBd t d f λj=>Q .nx j h
  |.setI v o i=>λf S Q=>wE C ar n v f S λa h=>wE C ar n o f h λb p=>wE C ar n i f p λc q=>∃k,jI b c a q=aw k/\Q .nx f k
  |.ex e=>λf S Q=>wE C ar n e f S λ_ h=>Q .nx f h
  |.ret e=>λf S Q=>wE C ar n e f S λd h=>Q (.rt d) f h
  |.ifs c a b=>λf S Q=>wT C ar n c f S λt h=>wIf t (rW (wSs C ar n a) f h Q) (rW (wSs C ar n b) f h Q)
  |.for_ t it b=>λf S Q=>wI C ar n it f S λnx h=>OkS (eV nx t (g6 C ar n b) LF 0 f h) Q
  |.cnt=>λf S Q=>Q .ct f S
  |.never=>λ_ _ _=>False
noncomputable def wSs(C:Calls)(ar:Nat->Nat):Nat->List CS->WS
 |0,_=>λ_ _ _=>False
 |n+1,ss=>match ss with
  |[]=>λb S Q=>Q .nx b S
  |s::ss=>λb S Q=>wS C ar n s b S (wNx (wSs C ar n ss) Q)
end
structure SdS(C:Calls)(ar:Nat->Nat)(n:Nat):Prop where
 s:∀ {s:CS} {ρ S Q},wS C ar n s ρ S Q->OkS (evS C ar n s ρ S) Q
 ss:∀ {ss:List CS} {ρ S Q},wSs C ar n ss ρ S Q->OkS (g6 C ar n ss ρ S) Q
def Cj:∀n,SdS C ar n
 |0=>⟨λh=>by simp only[wS] at h,λh=>by simp only[wSs] at h⟩
 |n+1=>by
  have h:=Cj n;have g:SndW C ar n:=tB n;refine⟨λ{s ρ S Q} w=>?_,λ{ss ρ S Q} w=>?_⟩
  ·cases s with
   |asg t e=>simp only[evS,Fb];simp only[wS] at w;exact(g.e _ _ _ w).mono λd j w=>Lc w
   |setI v o i=>simp only[evS,B1];simp only[wS] at w;exact(g.e _ _ _ w).mono λa j w=>(g.e _ _ _ w).mono λb p w=>g.e _ _ _ w
   |ex e=>simp only[evS,B0];simp only[wS] at w;exact g.e _ _ _ w
   |ret e=>simp only[evS,Fc];simp only[wS] at w;exact g.e _ _ _ w
   |ifs c a b=>
    simp only[evS,Kx];simp only[wS] at w;refine(g.t _ _ _ w).mono λt j w=>?_;cases t with
    |true=>exact h.ss w
    |false=>exact h.ss w
   |for_ t I b=>simp only[evS,Fd];simp only[wS] at w;exact g.i _ _ _ w
   |cnt=>simp only[wS] at w;simp only[evS];exact⟨_,_,_,rfl,w⟩
   |never=>simp only[wS] at w
  ·cases ss with
   |nil=>simp only[wSs] at w;simp only[g6];exact⟨_,_,_,rfl,w⟩
   |cons s ss=>
    simp only[wSs] at w;simp only[g6,Fa];refine(h.s w).mono λf k j w=>?_;cases f with
    |nx=>exact h.ss w
    |_=>exact w
def Lg{ss:List CS}{b:Rho}{S:Sto}{Q:Fl->Rho->Sto->Prop}(h:rW (wSs C ar n ss) b S Q):OkS (g6 C ar n ss b S) Q:=(Cj n).ss h
def Ck{s:CS}{ss:List CS}{b:Rho}{S:Sto}{Q:Fl->Rho->Sto->Prop}(h:wS C ar n s b S (wNx (wSs C ar n ss) Q)):rW (wSs C ar (n+1) (s::ss)) b S Q:=h
def FA{b:Rho}{S:Sto}{Q:Fl->Rho->Sto->Prop}(h:Q .nx b S):rW (wSs C ar (n+1) []) b S Q:=h
end
section
variable {C:Calls} {ar:Nat->Nat} {A B:Prop} {S S1:Sto} {Q:D->Sto->Prop} {Ql:List D->Sto->Prop} {Qn:Nxt->Sto->Prop} {Qb:Bool->Prop} {Qi:Int->Prop} {Qd:D->Prop} {Qr:Rho->Prop} {Qt:Bool->Sto->Prop} {Qs:Fl->Rho->Sto->Prop} {t:Bool} {d x y:D} {i j:Int} {n m f:Nat} {s:Str} {o:BOp} {c p:COp} {ds xs ys:List D} {l h:Option Int} {tg:Tg} {ts:List Tg} {ρ ρ2:Rho} {es:List CE} {a b e:CE} {oa ob cd:Option CE} {own:List Str} {it:CI} {rest:List Cl} {ty:Ty} {w wl:WP (List D)} {wv:WP D} {sa sb:List CS} {ws:WS} {od:Option D} {g:D->D->Sto->(D->Sto->Prop)->Prop}
def Lh:wE C ar (n+1) (.non) ρ S Q=(Q .non S):=rfl
def Po:wE C ar (n+1) (.bl t) ρ S Q=(Q (.bl t) S):=rfl
def Li:wE C ar (n+1) (.int i) ρ S Q=(Q (.int i) S):=rfl
def Lj:wE C ar (n+1) (.str s) ρ S Q=(Q (.str s) S):=rfl
def Lk:wE C ar (n+1) (.con m i) ρ S Q=(Q (.int i) S):=rfl
def Ll:wE C ar (n+1) (.var m) ρ S Q=(vK ρ m λd=>Q d S):=rfl
def Lm:wE C ar (n+1) (.tup es) ρ S Q=(ft 60 es (wA C ar n es ρ S λds S1=>Q (.tup ds) S1)):=rfl
def Ln:wE C ar (n+1) (.lst es) ρ S Q=(ft 60 es (wA C ar n es ρ S λds S1=>Q (.ref S1.length) (S1++[.lst ds]))):=rfl
def FB:wE C ar (n+1) (.dic0) ρ S Q=(Q (.ref (Zd S)) (S++[.dic [] []])):=rfl
def Lp:wE C ar (n+1) (.bin o a b) ρ S Q=(wE C ar n a ρ S λx S1=>wE C ar n b ρ S1 λy k=>vL o x y k Q):=rfl
def Lq:wE C ar (n+1) (.neg a) ρ S Q=(wE C ar n a ρ S λd S1=>cN d λi=>Q (.int (-i)) S1):=rfl
def Lr:wE C ar (n+1) (.cmp c a b) ρ S Q=(wE C ar n a ρ S λx S1=>wE C ar n b ρ S1 λy k=>wCm c x y k Q):=rfl
def Ls:wE C ar (n+1) (.chn c p a b e) ρ S Q=(wE C ar n a ρ S λx S1=>wE C ar n b ρ S1 λy q=>wCm c x y q λr k=>wBl r λt=>wIf t (wE C ar n e ρ k λz u=>wCm p y z u Q) (Q (.bl aS) k)):=rfl
def Lu:wE C ar (n+1) (.and a b) ρ S Q=(wE C ar n a ρ S λd S1=>wBl d λt=>wIf t (wE C ar n b ρ S1 Q) (Q (.bl aS) S1)):=rfl
def Pp:wE C ar (n+1) (.or a b) ρ S Q=(wE C ar n a ρ S λd S1=>wBl d λt=>wIf t (Q (.bl aN) S1) (wE C ar n b ρ S1 Q)):=rfl
def Lv:wE C ar (n+1) (.not a) ρ S Q=(wE C ar n a ρ S λd S1=>wBl d λt=>Q (.bl (!t)) S1):=rfl
def Lx:wE C ar (n+1) (.ite e a b) ρ S Q=(wT C ar n e ρ S λt S1=>wIf t (wE C ar n a ρ S1 Q) (wE C ar n b ρ S1 Q)):=rfl
def Pq:wE C ar (n+1) (.ix a b) ρ S Q=(aP (ai a) (wTm C ar n a) (wE C ar n a) ρ S (λds S1=>wE C ar n b ρ S1 λi q=>cN i λk=>∃d,atI ds k=aw d/\Q d q) (λd S1=>wE C ar n b ρ S1 λi q=>Ok (ixS d i q) Q)):=rfl
def FC:wE C ar (n+1) (.sl a aD aD) ρ S Q=(wE C ar n a ρ S λd S1=>vM aD aD d S1 Q):=rfl
def FD:wE C ar (n+1) (.sl a aD (aw b)) ρ S Q=(wE C ar n a ρ S λd S1=>wE C ar n b ρ S1 λy k=>cN y λj=>vM aD (aw j) d k Q):=rfl
def FE:wE C ar (n+1) (.sl a (aw b) aD) ρ S Q=(wE C ar n a ρ S λd S1=>wE C ar n b ρ S1 λy k=>cN y λj=>vM (aw j) aD d k Q):=rfl
def FF:wE C ar (n+1) (.sl a (aw b) (aw e)) ρ S Q=(wE C ar n a ρ S λd S1=>wE C ar n b ρ S1 λy u=>cN y λj=>wE C ar n e ρ u λz q=>cN z λk=>vM (aw j) (aw k) d q Q):=rfl
def FG{q:Nat}:wE C ar (n+1) (.cal2 f q a es) ρ S Q=(wE C ar n a ρ S λd S1=>wC2 d (wA C ar n es ρ S1 λds k=>ds.length=ar f/\Ok (C f ds k) Q) (wA C ar n es ρ S1 λds k=>ds.length=ar q/\Ok (C q ds k) Q)):=rfl
def FH:wE C ar (n+1) (.call f es) ρ S Q=(wA C ar n es ρ S λds S1=>ds.length=ar f/\Ok (C f ds S1) Q):=rfl
def FI:wE C ar (n+1) (.inst ty a) ρ S Q=(wE C ar n a ρ S λd S1=>Ok (hV ty d S1) Q):=rfl
def Ly:wE C ar (n+1) (.len a) ρ S Q=(aP (ai a) (wTm C ar n a) (wE C ar n a) ρ S (λds S1=>Ok (ca aS ds S1) Q) (λd S1=>Ok (aj ca d S1) Q)):=rfl
def Lz:wE C ar (n+1) (.all a) ρ S Q=(aP (ai a) (wTm C ar n a) (wE C ar n a) ρ S (λds S1=>Ok (kN aS ds S1) Q) (λd S1=>Ok (aj kN d S1) Q)):=rfl
def LA:wE C ar (n+1) (.any a) ρ S Q=(aP (ai a) (wTm C ar n a) (wE C ar n a) ρ S (λds S1=>Ok (n6 aS ds S1) Q) (λd S1=>Ok (aj n6 d S1) Q)):=rfl
def Cm:wE C ar (n+1) (.tupOf a) ρ S Q=(aP (ai a) (wTm C ar n a) (wE C ar n a) ρ S (λds S1=>Ok (cL aS ds S1) Q) (λd S1=>Ok (aj cL d S1) Q)):=rfl
def LB:wE C ar (n+1) (.mxL a) ρ S Q=(aP (ai a) (wTm C ar n a) (wE C ar n a) ρ S (λds S1=>Ok (n9 aS ds S1) Q) (λd S1=>Ok (aj n9 d S1) Q)):=rfl
def LC:wE C ar (n+1) (.mxD a i) ρ S Q=(aP (ai a) (wTm C ar n a) (wE C ar n a) ρ S (λds S1=>Ok (eA i aS ds S1) Q) (λd S1=>Ok (aj (eA i) d S1) Q)):=rfl
def Pr:wE C ar (n+1) (.sm a) ρ S Q=(aP (ai a) (wTm C ar n a) (wE C ar n a) ρ S (λds S1=>Ok (oe aS ds S1) Q) (λd S1=>Ok (aj oe d S1) Q)):=rfl
def y4:wE C ar (n+1) (.listOf a) ρ S Q=(aP (ai a) (wTm C ar n a) (wE C ar n a) ρ S (λds S1=>Q (.ref S1.length) (S1++[.lst ds])) (λd S1=>Ok ((ao d S1).map λr=>(r.2,S1)) λds S1=>Q (.ref S1.length) (S1++[.lst ds]))):=rfl
def Cn:wE C ar (n+1) (.listR a) ρ S Q=(wE C ar n a ρ S λd S1=>∃i:Nat,d = .int i/\i<=1000/\Q (.ref S1.length) (S1++[.lst ((Zk i).map λj=>.int (Int.ofNat j))])):=rfl
def LG:wE C ar (n+1) (.srt a) ρ S Q=(aP (ai a) (wTm C ar n a) (wE C ar n a) ρ S (λds S1=>∃es,cD aS ds=aw es/\Q (.ref S1.length) (S1++[.lst es])) (λd S1=>∃r es,ao d S1=aw r/\cD r.1 r.2=aw es/\Q (.ref S1.length) (S1++[.lst es]))):=rfl
def LH:wE C ar (n+1) (.rev a) ρ S Q=(wE C ar n a ρ S λd S1=>Ok (uN d S1) Q):=rfl
def LI:wE C ar (n+1) (.mnN a) ρ S Q=(aP (ai a) (wTm C ar n a) (wE C ar n a) ρ S (λds S1=>Ok (oi aS ds S1) Q) (λd S1=>Ok (aj oi d S1) Q)):=rfl
def Co:wE C ar (n+1) (.intOf a) ρ S Q=(wE C ar n a ρ S λd S1=>Ok (uX d S1) Q):=rfl
def Ps:wE C ar (n+1) (.mx a b) ρ S Q=(wA C ar n [a,b] ρ S λds S1=>w2 Ce ds S1 Q):=rfl
def Pt:wE C ar (n+1) (.mn a b) ρ S Q=(wA C ar n [a,b] ρ S λds S1=>w2 Cf ds S1 Q):=rfl
def FJ:wE C ar (n+1) (.comp own a (⟨tg,it,cd⟩::rest)) ρ S Q=(wI C ar n it ρ S λnx S1=>tw own [] λr=>tz ρ r λk=>wFt tg k (Ok (bu nx tg (cnd (evT C ar n) cd (gZ C ar n a rest)) k LF 0 S1) λes q=>es.length<=100000/\Q (.ref q.length) (q++[.lst es]))):=rfl
def LJ:wE C ar (n+1) (.app a b) ρ S Q=(wE C ar n a ρ S λd S1=>fU d S1=aN/\wA C ar n [b] ρ S1 λq k=>Ok (sD d q k) Q):=rfl
def Cp:wE C ar (n+1) (.popAt a b) ρ S Q=(wE C ar n a ρ S λd S1=>fU d S1=aN/\wA C ar n [b] ρ S1 λq k=>Ok (eU d q k) Q):=rfl
def LK:wE C ar (n+1) (.cnt a b) ρ S Q=(wE C ar n a ρ S λd S1=>isTup d=aN/\wA C ar n [b] ρ S1 λq k=>Ok (u0 d q k) Q):=rfl
def Q6:wA C ar (n+1) [] ρ S Ql=Ql [] S:=rfl
def Q7:wA C ar (n+1) (a::es) ρ S Ql=(wE C ar n a ρ S λd S1=>wA C ar n es ρ S1 λds k=>Ql (d::ds) k):=rfl
def LL:wTm C ar (n+1) (.lst es) ρ S Ql=ft 60 es (wA C ar n es ρ S Ql):=rfl
def y6:wTm C ar (n+1) (.listOf a) ρ S Ql=(aP (ai a) (wTm C ar n a) (wE C ar n a) ρ S (λds S1=>Ql ds S1) (λd S1=>Ok ((ao d S1).map λr=>(r.2,S1)) Ql)):=rfl
def Cq:wTm C ar (n+1) (.listR a) ρ S Ql=(wE C ar n a ρ S λd S1=>∃i:Nat,d = .int i/\i<=1000/\Ql ((Zk i).map λj=>.int (Int.ofNat j)) S1):=rfl
def LM:wTm C ar (n+1) (.srt a) ρ S Ql=(aP (ai a) (wTm C ar n a) (wE C ar n a) ρ S (λds S1=>∃es,cD aS ds=aw es/\Ql es S1) (λd S1=>∃r es,ao d S1=aw r/\cD r.1 r.2=aw es/\Ql es S1)):=rfl
def FK:wTm C ar (n+1) (.comp own a (⟨tg,it,cd⟩::rest)) ρ S Ql=(wI C ar n it ρ S λnx S1=>tw own [] λr=>tz ρ r λk=>wFt tg k (Ok (bu nx tg (cnd (evT C ar n) cd (gZ C ar n a rest)) k LF 0 S1) λes q=>es.length<=100000/\Ql es q)):=rfl
def LN:wI C ar (n+1) (.val a) ρ S Qn=(aP (ai a) (wTm C ar n a) (wE C ar n a) ρ S (λds S1=>Qn (nxL ds) S1) (λd S1=>Ca d S1 Qn)):=rfl
def Pu:wI C ar (n+1) (.en a) ρ S Qn=(aP (ai a) (wTm C ar n a) (wE C ar n a) ρ S (λds S1=>Qn (ve ds) S1) (λd S1=>Cb d S1 Qn)):=rfl
def Pv:wI C ar (n+1) (.r1 a) ρ S Qn=(wE C ar n a ρ S λd S1=>cN d λj=>lim j=aN/\Qn (nxR 0 j.toNat) S1):=rfl
def Pw:wI C ar (n+1) (.dn a) ρ S Qn=(wE C ar n a ρ S λd S1=>cN d λj=>lim j=aN/\Qn (nxD j (j+1).toNat) S1):=rfl
def Px:wI C ar (n+1) (.r2 a b) ρ S Qn=(wE C ar n a ρ S λd S1=>wE C ar n b ρ S1 λe k=>cN d λi=>cN e λj=>(lim i=aN/\lim j=aN)/\Qn (nxR i (j - i).toNat) k):=rfl
def LP:wT C ar (n+1) (.cmp c a b) ρ S Qt=(wE C ar n a ρ S λx S1=>wE C ar n b ρ S1 λy q=>wCm c x y q λd k=>wBl d λt=>Qt t k):=rfl
def LQ:wT C ar (n+1) (.chn c p a b e) ρ S Qt=(wE C ar n a ρ S λx S1=>wE C ar n b ρ S1 λy q=>wCm c x y q λr k=>wBl r λt=>wIf t (wE C ar n e ρ k λz u=>wCm p y z u λd v=>wBl d λt=>Qt t v) (wBl (.bl aS) λt=>Qt t k)):=rfl
def LR:wT C ar (n+1) (.and a b) ρ S Qt=(wT C ar n a ρ S λt S1=>wIf t (wT C ar n b ρ S1 Qt) (Qt aS S1)):=rfl
def Py:wT C ar (n+1) (.or a b) ρ S Qt=(wT C ar n a ρ S λt S1=>wIf t (Qt aN S1) (wT C ar n b ρ S1 Qt)):=rfl
def LS:wT C ar (n+1) (.not a) ρ S Qt=(wT C ar n a ρ S λt S1=>Qt (!t) S1):=rfl
def Pz:wT C ar (n+1) (.bl t) ρ S Qt=(wE C ar n (.bl t) ρ S λd S1=>cC d S1 Qt):=rfl
def LU:wT C ar (n+1) (.var m) ρ S Qt=(wE C ar n (.var m) ρ S λd S1=>cC d S1 Qt):=rfl
def FL:wT C ar (n+1) (.call f es) ρ S Qt=(wE C ar n (.call f es) ρ S λd S1=>cC d S1 Qt):=rfl
def FM:wT C ar (n+1) (.inst ty a) ρ S Qt=(wE C ar n (.inst ty a) ρ S λd S1=>cC d S1 Qt):=rfl
def LV:wT C ar (n+1) (.all a) ρ S Qt=(wE C ar n (.all a) ρ S λd S1=>cC d S1 Qt):=rfl
def LW:wT C ar (n+1) (.any a) ρ S Qt=(wE C ar n (.any a) ρ S λd S1=>cC d S1 Qt):=rfl
def LX:wT C ar (n+1) (.len a) ρ S Qt=(wE C ar n (.len a) ρ S λd S1=>cC d S1 Qt):=rfl
def PB:wT C ar (n+1) (.ix a b) ρ S Qt=(wE C ar n (.ix a b) ρ S λd S1=>cC d S1 Qt):=rfl
def LY:wT C ar (n+1) (.lst es) ρ S Qt=(wE C ar n (.lst es) ρ S λd S1=>cC d S1 Qt):=rfl
def LZ:wT C ar (n+1) (.tup es) ρ S Qt=(wE C ar n (.tup es) ρ S λd S1=>cC d S1 Qt):=rfl
def Q8:wCl C ar n a [] ρ S Ql=(wE C ar n a ρ S λd S1=>Ql [d] S1):=rfl
def Q9:wCl C ar n a (⟨tg,it,cd⟩::rest) ρ S Ql=(wFt tg ρ (wI C ar n it ρ S λnx S1=>Ok (bu nx tg (cnd (evT C ar n) cd (gZ C ar n a rest)) ρ LF 0 S1) Ql)):=rfl
def Ra:Fx (wT C ar n) aD w ρ S Ql=w ρ S Ql:=rfl
def Rb:Fx (wT C ar n) (aw a) w ρ S Ql=(wT C ar n a ρ S λt S1=>wIf t (w ρ S1 Ql) (Ql [] S1)):=rfl
def L0:wS C ar (n+1) (.asg tg a) ρ S Qs=(wE C ar n a ρ S λd S1=>wBd tg d ρ λk=>Qs .nx k S1):=rfl
def FN:wS C ar (n+1) (.setI a b e) ρ S Qs=(wE C ar n a ρ S λx S1=>wE C ar n b ρ S1 λy u=>wE C ar n e ρ u λz q=>∃k,jI y z x q=aw k/\Qs .nx ρ k):=rfl
def PC:wS C ar (n+1) (.ex a) ρ S Qs=(wE C ar n a ρ S λ_ S1=>Qs .nx ρ S1):=rfl
def L1:wS C ar (n+1) (.ret a) ρ S Qs=(wE C ar n a ρ S λd S1=>Qs (.rt d) ρ S1):=rfl
def L3:wS C ar (n+1) (.ifs a sa sb) ρ S Qs=(wT C ar n a ρ S λt S1=>wIf t (rW (wSs C ar n sa) ρ S1 Qs) (rW (wSs C ar n sb) ρ S1 Qs)):=rfl
def L4:wS C ar (n+1) (.for_ tg it sa) ρ S Qs=(wI C ar n it ρ S λnx S1=>OkS (eV nx tg (g6 C ar n sa) LF 0 ρ S1) Qs):=rfl
def L5:wS C ar (n+1) .cnt ρ S Qs=Qs .ct ρ S:=rfl
def PD:wNx ws Qs .nx ρ S=rW ws ρ S Qs:=rfl
def PF:wNx ws Qs (.rt d) ρ S=Qs (.rt d) ρ S:=rfl
def PH:wNx ws Qs .bk ρ S=Qs .bk ρ S:=rfl
def PJ:wNx ws Qs .ct ρ S=Qs .ct ρ S:=rfl
def L6:wIf (aN && t) A B=wIf t A B:=rfl
def L7:wIf (aS && t) A B=B:=rfl
def L8:wIf (aN || t) A B=A:=rfl
def FO:wIf (aS || t) A B=wIf t A B:=rfl
def FP:wIf (!(aN && t)) A B=wIf (!t) A B:=rfl
def FQ:wIf (!(aS && t)) A B=A:=rfl
def FR:wIf (!(aN || t)) A B=B:=rfl
def FS:wIf (!(aS || t)) A B=wIf (!t) A B:=rfl
def PL:wIf aN A B=A:=rfl
def PM:wIf aS A B=B:=rfl
def L9:wIf (!aN) A B=B:=rfl
def Ma:wIf (!aS) A B=A:=rfl
def PN:wBl (.bl t) Qb=Qb t:=rfl
def Mb:cN (.int i) Qi=Qi i:=rfl
def Mc:vK (aw d::ρ) 0 Qd=Qd d:=rfl
def Md:vK (od::ρ) (n+1) Qd=vK ρ n Qd:=rfl
def PP:wFr (aD::ρ) 0 A=A:=rfl
def PQ:wFr (od::ρ) (n+1) A=wFr ρ n A:=rfl
def Me:tv [] ρ A=A:=rfl
def Mf:tv (.name m::ts) ρ A=wFr ρ m (tv ts ρ A):=rfl
def PR:wFt (.name m) ρ A=wFr ρ m A:=rfl
def PU:wFt (.tup ts) ρ A=tv ts ρ A:=rfl
def Mg:tw [] ρ Qr=Qr ρ:=rfl
def Mh:tw (s::own) ρ Qr=tw own (aD::ρ) Qr:=rfl
def Mi:tz [] ρ Qr=Qr ρ:=rfl
def Mj:tz (od::ρ) ρ2 Qr=tz ρ ρ2 λr=>Qr (od::r):=rfl
def PV:ft (n+1) [] A=A:=rfl
def PX:ft (n+1) (a::es) A=ft n es A:=rfl
def PY:wNm 0 d (od::ρ) Qr=Qr (aw d::ρ):=rfl
def PZ:wNm (n+1) d (od::ρ) Qr=wNm n d ρ λr=>Qr (od::r):=rfl
def P0:wBs [] [] ρ Qr=Qr ρ:=rfl
def P1:wBs (.name m::ts) (d::ds) ρ Qr=wNm m d ρ λr=>wBs ts ds r Qr:=rfl
def P2:wBd (.name m) d ρ Qr=wNm m d ρ Qr:=rfl
def P3:wBd (.tup ts) d ρ Qr=wTp ts d ρ Qr:=rfl
def P4:wTp ts (.tup ds) ρ Qr=wBs ts ds ρ Qr:=rfl
def FT:wII .add i j S Q=Q (.int (i+j)) S:=rfl
def FV:wII .sub i j S Q=Q (.int (i - j)) S:=rfl
def FW:wII .mul i j S Q=(hU i j=aN/\Q (.int (i * j)) S):=rfl
def FX:wII .mod i j S Q=(0 < j/\Q (.int (i % j)) S):=rfl
def Cr:wII .fdiv i j S Q=((0 < j/\j < 1298074214633706907132624082305024)/\Q (.int (i / j)) S):=rfl
def FY:wII .pow i j S Q=((0<=j/\j<=1000000/\i.natAbs < 2 ^ 64)/\Q (.int (i ^ j.toNat)) S):=rfl
def FZ:wTT .add xs ys S Q=(xs.length+ys.length<=1000/\Q (.tup (xs++ys)) S):=rfl
def F0:B6 o i (.int j) S Q=wII o i j S Q:=rfl
def F1:xn o xs (.tup ys) S Q=wTT o xs ys S Q:=rfl
def F2:xn o xs (.int j) S Q=Ok (bL o (.tup xs) (.int j) S) Q:=rfl
def Ml:vL o (.int i) y S Q=B6 o i y S Q:=rfl
def Mm:vL o (.tup xs) y S Q=xn o xs y S Q:=rfl
def Mn:vL o (.ref n) y S Q=Ok (bL o (.ref n) y S) Q:=rfl
def Mo:vL o (.str s) y S Q=Ok (bL o (.str s) y S) Q:=rfl
def Mp:wCI .eq i j S Q=Q (.bl (decide (i=j))) S:=rfl
def Mq:wCm .eq x y S Q=wCx .eq x y S Q:=rfl
def Mr:wCI .ne i j S Q=Q (.bl (!decide (i=j))) S:=rfl
def Ms:wCm .ne x y S Q=wCx .ne x y S Q:=rfl
def Mu:wCI .lt i j S Q=Q (.bl (decide (i < j))) S:=rfl
def Mv:wCm .lt x y S Q=wCx .lt x y S Q:=rfl
def Mw:wCI .le i j S Q=Q (.bl (decide (i<=j))) S:=rfl
def Mx:wCm .le x y S Q=wCx .le x y S Q:=rfl
def My:wCI .gt i j S Q=Q (.bl (decide (j < i))) S:=rfl
def Mz:wCm .gt x y S Q=wCx .gt x y S Q:=rfl
def MA:wCI .ge i j S Q=Q (.bl (decide (j<=i))) S:=rfl
def MB:wCm .ge x y S Q=wCx .ge x y S Q:=rfl
def MC:wCm .is x y S Q=Ok (ak .is x y S) Q:=rfl
def y7:wCm .isnot x y S Q=Ok (ak .isnot x y S) Q:=rfl
def Cs:wCm .isin x y S Q=Ok (ak .isin x y S) Q:=rfl
def y8:wCm .notin x y S Q=Ok (ak .notin x y S) Q:=rfl
def P5:wCx c (.int i) y S Q=K1 c i y S Q:=rfl
def P6:wCx c (.tup xs) y S Q=tj c xs y S Q:=rfl
def P7:wCx c .non y S Q=Ok (ak c .non y S) Q:=rfl
def P8:wCx c (.bl t) y S Q=Ok (ak c (.bl t) y S) Q:=rfl
def P9:wCx c (.str s) y S Q=Ok (ak c (.str s) y S) Q:=rfl
def Qa:wCx c (.ref n) y S Q=Ok (ak c (.ref n) y S) Q:=rfl
def MD:K1 c i (.int j) S Q=wCI c i j S Q:=rfl
def ME:tj .eq xs (.tup []) S Q=Q (.bl xs.isEmpty) S:=rfl
def MF:tj .ne xs (.tup []) S Q=Q (.bl (!xs.isEmpty)) S:=rfl
def F3:tj .eq xs (.tup (y::ys)) S Q=Ok (ak .eq (.tup xs) (.tup (y::ys)) S) Q:=rfl
def F4:tj .ne xs (.tup (y::ys)) S Q=Ok (ak .ne (.tup xs) (.tup (y::ys)) S) Q:=rfl
def MG:vM l h (.tup ds) S Q=Q (.tup (dX ds l h)) S:=rfl
def MH:vM l h (.ref n) S Q=Ok (slS l h (.ref n) S) Q:=rfl
def MI:Ca (.tup ds) S Qn=Qn (nxL ds) S:=rfl
def MJ:Ca (.ref n) S Qn=((au S n).isSome=aN/\Qn (nxS n) S):=rfl
def ML:Cb (.tup ds) S Qn=Qn (ve ds) S:=rfl
def MM:Cb (.ref n) S Qn=((au S n).isSome=aN/\Qn (AW n) S):=rfl
def F5:cC (.bl t) S Qt=Qt t S:=rfl
def F6:cC (.tup ds) S Qt=Qt (!ds.isEmpty) S:=rfl
def F7:cC (.int i) S Qt=Qt (i != 0) S:=rfl
def F8:cC (.ref n) S Qt=Ok (mi (.ref n) S) Qt:=rfl
def Rc:w2 g [x,y] S Q=g x y S Q:=rfl
def MN:Ce (.int i) (.int j) S Q=Q (.int (if j > i then j else i)) S:=rfl
def MO:Cf (.int i) (.int j) S Q=Q (.int (if j < i then j else i)) S:=rfl
def F9:aP (ai (.lst es)) wl wv ρ S Ql Q=wl ρ S Ql:=rfl
def vR:aP (ai (.listOf a)) wl wv ρ S Ql Q=wl ρ S Ql:=rfl
def y9:aP (ai (.listR a)) wl wv ρ S Ql Q=wl ρ S Ql:=rfl
def Ga:aP (ai (.srt a)) wl wv ρ S Ql Q=wl ρ S Ql:=rfl
def Ct:aP (ai (.comp own a rest)) wl wv ρ S Ql Q=wl ρ S Ql:=rfl
def Gb:aP (ai (.non)) wl wv ρ S Ql Q=wv ρ S Q:=rfl
def MP:aP (ai (.bl t)) wl wv ρ S Ql Q=wv ρ S Q:=rfl
def Gc:aP (ai (.int i)) wl wv ρ S Ql Q=wv ρ S Q:=rfl
def Gf:aP (ai (.str s)) wl wv ρ S Ql Q=wv ρ S Q:=rfl
def Gg:aP (ai (.var m)) wl wv ρ S Ql Q=wv ρ S Q:=rfl
def Gh:aP (ai (.con m i)) wl wv ρ S Ql Q=wv ρ S Q:=rfl
def Gi:aP (ai (.tup es)) wl wv ρ S Ql Q=wv ρ S Q:=rfl
def Cu:aP (ai (.dic0)) wl wv ρ S Ql Q=wv ρ S Q:=rfl
def Gj:aP (ai (.bin o a b)) wl wv ρ S Ql Q=wv ρ S Q:=rfl
def Gk:aP (ai (.neg a)) wl wv ρ S Ql Q=wv ρ S Q:=rfl
def Gm:aP (ai (.cmp c a b)) wl wv ρ S Ql Q=wv ρ S Q:=rfl
def Gn:aP (ai (.chn c p a b e)) wl wv ρ S Ql Q=wv ρ S Q:=rfl
def Go:aP (ai (.and a b)) wl wv ρ S Ql Q=wv ρ S Q:=rfl
def MQ:aP (ai (.or a b)) wl wv ρ S Ql Q=wv ρ S Q:=rfl
def Gp:aP (ai (.not a)) wl wv ρ S Ql Q=wv ρ S Q:=rfl
def Gq:aP (ai (.ite e a b)) wl wv ρ S Ql Q=wv ρ S Q:=rfl
def MR:aP (ai (.ix a b)) wl wv ρ S Ql Q=wv ρ S Q:=rfl
def MS:aP (ai (.sl a oa ob)) wl wv ρ S Ql Q=wv ρ S Q:=rfl
def Cv{k:Nat}:aP (ai (.cal2 f k a es)) wl wv ρ S Ql Q=wv ρ S Q:=rfl
def Cw:aP (ai (.call f es)) wl wv ρ S Ql Q=wv ρ S Q:=rfl
def Cy:aP (ai (.inst ty a)) wl wv ρ S Ql Q=wv ρ S Q:=rfl
def Gr:aP (ai (.len a)) wl wv ρ S Ql Q=wv ρ S Q:=rfl
def Gu:aP (ai (.all a)) wl wv ρ S Ql Q=wv ρ S Q:=rfl
def Gv:aP (ai (.any a)) wl wv ρ S Ql Q=wv ρ S Q:=rfl
def zd:aP (ai (.tupOf a)) wl wv ρ S Ql Q=wv ρ S Q:=rfl
def Gw:aP (ai (.mxL a)) wl wv ρ S Ql Q=wv ρ S Q:=rfl
def Gx:aP (ai (.mxD a i)) wl wv ρ S Ql Q=wv ρ S Q:=rfl
def MU:aP (ai (.sm a)) wl wv ρ S Ql Q=wv ρ S Q:=rfl
def Gy:aP (ai (.rev a)) wl wv ρ S Ql Q=wv ρ S Q:=rfl
def Gz:aP (ai (.mnN a)) wl wv ρ S Ql Q=wv ρ S Q:=rfl
def ze:aP (ai (.intOf a)) wl wv ρ S Ql Q=wv ρ S Q:=rfl
def MV:aP (ai (.mx a b)) wl wv ρ S Ql Q=wv ρ S Q:=rfl
def MW:aP (ai (.mn a b)) wl wv ρ S Ql Q=wv ρ S Q:=rfl
def GA:aP (ai (.app a b)) wl wv ρ S Ql Q=wv ρ S Q:=rfl
def zf:aP (ai (.popAt a b)) wl wv ρ S Ql Q=wv ρ S Q:=rfl
def GC:aP (ai (.cnt a b)) wl wv ρ S Ql Q=wv ρ S Q:=rfl
def aa{u:Type}{z:Option (u × Sto)}{r:u}{k:Sto}{K:u->Sto->Prop}(e:z=aw (r,k))(q:K r k):Ok z K:=⟨r,k,e,q⟩
def cu(q:t=aN->A)(k:t=aS->B):wIf t A B:=by
 cases t with
 |true=>exact q rfl
 |false=>exact k rfl
end
end Ev
local macro_rules|`(tactic|k_go)=>do
 let f s:Lean.MacroM (Lean.TSyntax ``Lean.Parser.Tactic.simpLemma):=`(Lean.Parser.Tactic.simpLemma|↓$(Lean.mkIdent (`Ev++s.toName)):ident)
 let a ← ("Lh Po Li Lj Lk Ll Lm Ln FB Lp Lq Lr Ls Lu Pp Lv Lx Pq FC FD FE FF FH FG FI Ly Lz LA Cm LB LC Pr y4 Cn LG Co LH LI Ps Pt FJ LJ Cp LK Q6 Q7 LL y6 Cq LM FK LN Pu Pv Px Pw LP LQ LR Py LS Pz LU FL FM LV LW LX PB LY LZ Q8 Q9 Ra Rb L0 FN PC L1 L3 L4 L5 PD PF PH PJ L6 L7 L8 FO FP FQ FR FS PL PM L9 Ma PN Mb Mc Md PP PQ Me Mf PR PU Mg Mh Mi Mj PV PX PY PZ P0 P1 P2 P3 P4 FT FV FW FX Cr FY FZ F0 F1 F2 Ml Mm Mn Mo Mp Mq Mr Ms Mu Mv Mw Mx My Mz MA MB MC y7 Cs y8 P5 P6 P7 P8 P9 Qa MD ME MF F3 F4 MG MH MI MJ ML MM F5 F6 F7 F8 Rc MN MO F9 vR y9 Ga Ct Gb MP Gc Gf Gg Gh Gi Cu Gj Gk Gm Gn Go MQ Gp Gq MR MS Cw Cv Cy Gr Gu Gv zd Gw Gx MU ze Gy Gz MV MW GA zf GC Ky Kz".splitOn).toArray.mapM f
 `(tactic|dsimp only[$a,*])
local macro_rules |`(tactic|k_is)=>`(tactic|((with_reducible first |refine Ev.Lg ?_ |refine Ev.Lb ?_ |refine Ev.wcl_ok ?_ |skip);(try dsimp only[List.set_cons_zero,List.set_cons_succ]);(try k_go);(repeat ((with_reducible first |refine Ev.Ck ?_ |refine Ev.FA ?_);(try k_go)))))
namespace Lw
open PySem Ev
variable {p:Nat} {S:Sto} {k:Nat} {Q:D->Sto->Prop}
def nA(h:TD p S t d)(q:Q (.bl (Dw.isW t)) S):Ok (evC ag (k+1) 0 [d] S) Q:=by
 refine am (d:=iA) (ρ:=[aw d]) rfl rfl ?_;dsimp only[iA,mY];k_is;refine aa (qN h) ?_;k_is;cases t <;> first |exact q |(k_is;rw[qN h,aG];exact q)
def pD{a b:Int}(h:TD p S t d)(q:Q (.bl (Dw.ip t a b)) S):Ok (evC ag (k+2) 1 [d,.int a,.int b] S) Q:=by
 refine am (d:=ga) (ρ:=[aw d,aw (.int a),aw (.int b)]) rfl rfl ?_;dsimp only[ga,kl];k_is;refine⟨rfl,nA h ?_⟩;k_is;cases t with
 |int i=>
  obtain rfl:=h.int;dsimp only[Dw.isW];k_is;dsimp only[Dw.ip] at q;cases c:decide (a<=i) with
  |true=>rw[c] at q;exact q
  |false=>rw[c] at q;exact q
 |_=>exact q
def zg(h:TD p S t d)(q:Q (.bl (Dw.ip t 0 9999)) S):Ok (evC ag (k+3) 2 [d] S) Q:=by
 refine am (d:=gf) (ρ:=[aw d]) rfl rfl ?_;dsimp only[gf,km];k_is;exact⟨rfl,pD h q⟩
def Cz{a b:Int}(h:TD p S t d)(q:Q (.bl (Dw.isT t a b)) S):Ok (evC ag (k+1) 3 [d,.int a,.int b] S) Q:=by
 refine am (d:=iB) (ρ:=[aw d,aw (.int a),aw (.int b)]) rfl rfl ?_;dsimp only[iB,mZ];k_is;refine aa (qN h) ?_;k_is;cases t with
 |tup T=>
  obtain⟨f,rfl,hs⟩:=h.tup;rw[show fS Ty.tuple (tyT (Dw.D.tup T))=aN from rfl];k_is;refine aa (KN hs) ?_;k_is;dsimp only[Dw.isT] at q;cases c:decide (a<=(T.length:Int)) with
  |true=>rw[c] at q;exact q
  |false=>rw[c] at q;exact q
 |_=>exact q
def aE{f:Int}(h:Pot p S)(b:0 < f)(j:f < 1298074214633706907132624082305024)(q:∀ (r:Int) c,0<=r->r < f->Dr p S c->Q (.int r) c):Ok (evC ag (k+1) 59 [.ref p,.int f] S) Q:=by
 obtain⟨n,e⟩:=h;have lt:p < S.length:=(Zb.mp e).1;refine am (d:=iI) (ρ:=[aw (.ref p),aw (.int f),aD]) rfl rfl ?_;dsimp only[iI,nc];k_is;have ix:ixS (.ref p) (.int 0) S=aw (.int n,S):=by simp only[ixS,ao,au,e];rfl
 refine aa ix ?_;k_is;refine⟨b,?_⟩;k_is;refine aa ix ?_;k_is;refine⟨⟨b,j⟩,?_⟩;k_is;refine⟨S.set p (.lst [.int (n / f)]),by simp only[jI,e];rfl,?_⟩;exact q _ _ (Wp _ (by omega)) (X5 _ b) ⟨KR,_,dQ lt⟩
def GD{c:Nat}{ns:List Int}(h:S[0]?=aw (.frz (ns.map D.int)))(q:∀i:Int,Q (.int i) S):Ok (evC ag (k+1) 57 [.ref 0,.int c] S) Q:=by
 refine am (d:=dN) (ρ:=[aw (.ref 0),aw (.int c)]) rfl rfl ?_;dsimp only[dN,ik];k_is;have ln:aj ca (.ref 0) S=aw (.int ns.length,S):=by simp only[aj,ao,au,h,ZD,ca,Za]
 refine aa ln ?_;k_is;refine cu (λf=>?_) λf=>?_
 ·k_is;have j:=of_decide_eq_true f;obtain⟨d,n,E⟩:=KU (ds:=ns.map D.int) (i:=c) (by omega) (by rw[Za];omega);have ix:ixS (.ref 0) (.int c) S=aw (d,S):=by simp only[ixS,ao,au,h,ZD,n]
  refine aa ix ?_;rw[Zp] at E;cases b:ns[(c:Int).toNat]? with
  |none=>rw[b] at E;cases E
  |some i=>rw[b] at E;cases E;exact q i
 ·k_is;exact q 0
def MX{c:Int}(q:∀n:Int,Q (.ref S.length) (S++[.lst [.int n]])):Ok (evC ag (k+1) 58 [.int c] S) Q:=by
 refine am (d:=jU) (ρ:=[aw (.int c),aD,aD,aD]) rfl rfl ?_;dsimp only[jU,pA];k_is;refine⟨⟨by decide,by decide,by decide⟩,?_⟩;k_is;refine cu (λ_=>?_) λ_=>?_
 ·k_is;refine⟨⟨by decide,by decide,by decide⟩,?_⟩;k_is;exact q _
 ·k_is;refine⟨by decide,?_⟩;refine gB (by decide) (λi h b=>b=S/\∃n:Int,∃u v,h=[aw (.int c),aw (.int n),u,v]) (λi h b hi ⟨E,n,u,v,f⟩=>?_) (λh b ⟨E,n,u,v,f⟩=>?_) ⟨rfl,0,aD,aD,rfl⟩
  ·subst E f;refine⟨_,rfl,?_⟩;k_is;refine⟨by decide,?_⟩;k_is;refine⟨jj (by decide) (by decide),?_⟩;k_is;refine⟨xi (by decide) (by decide),by decide,?_⟩;k_is;have j:=Wp ((c % 2147483629+7919 * (0+(i:Int))+1) * 48271) (show(2147483647:Int) ≠ 0 by decide);have y:=X5 ((c % 2147483629+7919 * (0+(i:Int))+1) * 48271) (show(0:Int) < 2147483647 by decide);refine⟨jj (by omega) (by omega),?_⟩;k_is;refine⟨jj (by decide) (by decide),?_⟩;k_is;refine⟨by decide,?_⟩;k_is;refine⟨xi (by decide) (by decide),?_⟩;k_is;exact⟨rfl,_,_,_,rfl⟩
  ·subst E f;k_is;exact q n
end Lw
namespace Sn
open Ev
structure Sky where
 r:Int
 s:Int
 M:List (List Int)
 H:List (Int × Int)
 ah:Option (Int × Int)
 G:List (List Int)
 F:List Int
abbrev gi(G:List (List Int))(i:Int)(k:Nat):Int:=((G[i.toNat]?).getD []).getD k 0
abbrev fns:List (Int × Int)->Int->Int
 |[],m=>m
 |p::l,m=>if p.1<=m/\m < p.2 then p.2 else fns l m
abbrev opm:List (Int × Int)->Int->Int
 |[],m=>m
 |p::l,m=>opm l (if p.1<=m/\m < p.2 then p.2 else m)
abbrev Ris:Int->List (Int × Int)->Prop
 |_,[]=>True
 |lo,p::l=>lo < p.1/\p.1 < p.2/\Ris p.2 l
def jm:∀ {l:List (Int × Int)} {lo m:Int},Ris lo l->m<=lo->opm l m=m
 |[],_,_,_,_=>rfl
 |p::l,lo,m,h,hm=>by
  rw[Ris] at h;rw[opm,if_neg (by lia)];exact jm h.2.2 (by lia)
def qZ:∀ {l:List (Int × Int)} {lo m:Int},Ris lo l->opm l m=fns l m
 |[],_,_,_=>rfl
 |p::l,lo,m,h=>by
  rw[Ris] at h;rw[opm,fns];split
  ·exact jm h.2.2 (ZB _)
  ·exact qZ h.2.2
section
variable (K:Sky)
abbrev jn(g:Int):Int:=gi K.G g 1
abbrev gp(a b:Int):Int:=Dw.mg2 K.M a.toNat b.toNat
abbrev tD(ah:Option (Int × Int))(k:Int):Int:=match ah with
 |none=>0
 |some p=>p.2+gp K p.1 k
abbrev a8(ah:Option (Int × Int))(g:Int):Int:=match ah with
 |none=>gi K.G g 2
 |some p=>if p.2+gp K p.1 (gi K.G g 0) > gi K.G g 2 then p.2+gp K p.1 (gi K.G g 0) else gi K.G g 2
abbrev js:List Int:=fC (K.G.map λg=>g.getD 1 0)
abbrev kO(p:Nat)(m:Int):Bool:=match (js K)[(K.r+p).toNat]? with
 |some j=>decide (j < m - K.s)
 |none=>aS
abbrev step(ah:Option (Int × Int))(g:Int)(p:Nat):Option Int:=if (decide (gi K.G g 3 < opm K.H (a8 K ah g)) || kO K p (opm K.H (a8 K ah g)))=aN then aD else aw (opm K.H (a8 K ah g))
abbrev aF(t:Int)(p:Int × Int):Bool:=decide (jn K p.1<=t) && decide (t < p.2 - K.s)
abbrev wts(L:List (Int × Int))(t:Int):Nat:=(L.filter (aF K t)).length
abbrev cK(L:List (Int × Int))(g m:Int):List Int:=((jn K g::L.map λp=>jn K p.1).filter λt=>decide (jn K g<=t) && decide (t < m - K.s))
abbrev fu(L:List (Int × Int))(g m:Int):Int:=fT 0 ((cK K L g m).map λt=>1+(wts K L t:Int))
abbrev iP(L:List (Int × Int))(g m:Int):List Int:=jn K g::(js K).filter λt=>decide (jn K g < t) && aF K t (g,m)
abbrev tF(L:List (Int × Int))(g m:Int):Int:=iu ((iP K L g m).map λt=>1+(wts K L t:Int))
abbrev tG(L:List (Int × Int))(g m:Int):Bool:=decide (0 < gi K.G g 6) && (aF K (jn K g) (g,m) && decide (gi K.G g 6 < tF K L g m))
abbrev bK(L:List (Int × Int))(g m:Int):Bool:=decide (0 < gi K.G g 6) && decide (gi K.G g 6 < fu K L g m)
abbrev rn:List Int->Option (Int × Int)->List (Int × Int)->Nat ⊕ List (Int × Int)
 |[],_,L=>.inr L
 |g::os,ah,L=>match step K ah g L.length with
  |none=>.inl L.length
  |some m=>if bK K L g m=aN then .inl L.length else rn os (aw (gi K.G g 0,m)) (L++[(g,m)])
end
variable {K:Sky}
def k9(h:ns ≠ []):iu ns ∈ ns:=by
 cases ns with
 |nil=>exact absurd rfl h
 |cons n ns=>exact(i6 ns n).1
def vS{x:Int}(h:x ∈ ns):x<=iu ns:=by
 cases ns with
 |nil=>simp at h
 |cons n ns=>exact(i6 ns n).2 x h
def vT(c:A ≠ [])(h:∀x ∈ A,∃y ∈ B,x<=y):iu A<=iu B:=by
 obtain⟨y,d,b⟩:=h _ (k9 c);exact Yo b (vS d)
def eK{c:Int}(h:ns ≠ []):fT c ns=iu ns:=by
 cases ns with
 |nil=>exact absurd rfl h
 |cons n ns=>rfl
def lc{b:Type}{p q:b->Bool}:∀ {l:List b},(∀x ∈ l,p x=aN->q x=aN)->(l.filter p).length<=(l.filter q).length
 |[],_=>Ze _
 |a::l,h=>by
  have I:=lc (l:=l) λx d=>h x (Zi _ d);have f:=h a Zj;rw[Yc,Yc];split
  ·rename_i c;rw[if_pos (f c),Zo,Zo]
   lia
  ·split
   ·rw[Zo];lia
   ·exact I
def CA{j t:Int}(f:j<=t):∀ (L:List (Int × Int)),∃u,(u=j\/∃p ∈ L,u=jn K p.1)/\j<=u/\u<=t/\∀p ∈ L,aF K t p=aN->jn K p.1<=u
 |[]=>⟨j,.inl rfl,ZB _,f,λp v=>by simp at v⟩
 |p::L=>by
  obtain⟨u,b,k,n,h4⟩:=CA f L;by_cases d:aF K t p=aN/\u < jn K p.1
  ·refine⟨jn K p.1,.inr ⟨p,Zj,rfl⟩,by lia,?_,λq hq h=>?_⟩
   ·have:=d.1;simp only[aF,bAE,decide_eq_true_eq] at this;exact this.1
   ·rcases Zn.mp hq with rfl |hq
    ·exact ZB _
    ·have:=h4 q hq h;lia
  ·refine⟨u,?_,k,n,λq hq h=>?_⟩
   ·rcases b with b |⟨q,hq,b⟩
    ·exact .inl b
    ·exact .inr ⟨q,Zi _ hq,b⟩
   ·rcases Zn.mp hq with rfl |hq
    ·by_cases c:u < jn K q.1
     ·exact absurd ⟨h,c⟩ d
     ·lia
    ·exact h4 q hq h
def GF{L:List (Int × Int)}{g m:Int}(h:jn K g < m - K.s)(q:∀p ∈ L,jn K p.1 ∈ js K):tF K L g m=fu K L g m:=by
 have k:jn K g ∈ cK K L g m:=by
  unfold cK;rw[ZQ];exact⟨Zj,by simp[h]⟩
 have n:(cK K L g m).map (λt=>1+(wts K L t:Int)) ≠ []:=λz=>by
  rw[List.map_eq_nil_iff] at z;rw[z] at k;simp at k
 unfold fu tF;rw[eK n];refine XF (vT (by simp[iP]) λx c=>?_) (vT n λx c=>?_)
 ·obtain⟨t,ht,rfl⟩:=Zu.mp c
  have d:jn K g<=t/\t < m - K.s:=by
   rcases Zn.mp ht with rfl |ht
   ·exact⟨ZB _,h⟩
   ·have:=(ZQ.mp ht).2;simp only[aF,bAE,decide_eq_true_eq] at this;exact⟨this.2.1,this.2.2⟩
  obtain⟨u,h1,j,v,h4⟩:=CA (K:=K) d.1 L;refine⟨1+(wts K L u:Int),Zu.mpr ⟨u,?_,rfl⟩,?_⟩
  ·unfold cK;refine ZQ.mpr ⟨?_,by simp only[bAE,decide_eq_true_eq];lia⟩;rcases h1 with rfl |⟨p,b,rfl⟩
   ·exact Zj
   ·exact Zi _ (Zu.mpr ⟨p,b,rfl⟩)
  ·have:wts K L t<=wts K L u:=lc λp b f=>by
    have a:=h4 p b f;simp only[aF,bAE,decide_eq_true_eq] at f ⊢
    lia
   lia
 ·obtain⟨t,ht,rfl⟩:=Zu.mp c;refine⟨1+(wts K L t:Int),Zu.mpr ⟨t,?_,rfl⟩,ZB _⟩;unfold cK at ht;obtain⟨h1,j⟩:=ZQ.mp ht;simp only[bAE,decide_eq_true_eq] at j;unfold iP;by_cases e:t=jn K g
  ·rw[e];exact Zj
  ·refine Zi _ (ZQ.mpr ⟨?_,by simp only[aF,bAE,decide_eq_true_eq];lia⟩);rcases Zn.mp h1 with rfl |h1
   ·exact absurd rfl e
   ·obtain⟨p,b,rfl⟩:=Zu.mp h1;exact q p b
def zh{g m:Int}(h:¬ jn K g < m - K.s):fu K L g m=0:=by
 have:cK K L g m=[]:=by
  unfold cK;rw[Y0];intro t _;simp only[bAE,decide_eq_true_eq]
  lia
 unfold fu;rw[this];rfl
def xt{g m:Int}(b:∀p ∈ L,jn K p.1 ∈ js K):tG K L g m=bK K L g m:=by
 unfold tG bK;by_cases h:jn K g < m - K.s
 ·rw[GF h b];have:aF K (jn K g) (g,m)=aN:=by simp only[aF,bAE,decide_eq_true_eq];exact⟨ZB _,h⟩
  rw[this,Yy]
 ·rw[zh h];have:aF K (jn K g) (g,m)=aS:=by simp[aF,h]
  rw[this,Xh];by_cases c:0 < gi K.G g 6
  ·have e:decide (gi K.G g 6 < 0)=aS:=by simp;lia
   rw[e]
  ·rw[decide_eq_false c];rfl
def CB{g:Int}(h:0<=gi K.G g 2):(if tD K ah (gi K.G g 0) > gi K.G g 2 then tD K ah (gi K.G g 0) else gi K.G g 2)=a8 K ah g:=by
 cases ah with
 |none=>unfold tD a8;dsimp only;rw[if_neg (by lia)]
 |some p=>rfl
end Sn
namespace Lw
open PySem Ev Sn
variable {p:Nat} {S:Sto} {k:Nat} {Q:D->Sto->Prop}
def CC{f:List D}{T:Tg}{b:XS}{c:Rho}{Q:Fl->Rho->Sto->Prop}(C:f.length<=100000)(I:Nat->Rho->Sto->Prop)
  (step:∀ (i:Nat) d c h,f[i]?=aw d->I i c h->∃j,ax T d c=aw j/\OkS (b j h) λy n u=>match y with |.nx=>I (i+1) n u |.ct=>I (i+1) n u |.bk=>Q .nx n u |.rt d=>Q (.rt d) n u)
  (q:∀c h,I f.length c h->Q .nx c h) (B:I 0 c S):OkS (eV (nxL f) T b LF 0 c S) Q:=by
 refine jh f.length I (by unfold LF;lia) (λi c h hi v=>?_) (λc h v=>⟨?_,q c h v⟩) B
 ·obtain⟨j,E,z⟩:=step i f[i] c h (gEG hi) v;exact⟨f[i],j,by show aw f[i]?=_;rw[gEG hi],E,z⟩
 ·show aw f[f.length]?=_;rw[Zs (Ze _)]
def CD{f:List D}{T:Tg}{b:XS}{c:Rho}{Q:Fl->Rho->Sto->Prop}(C:f.length<=100000)(I:Nat->Rho->Sto->Prop)
  (step:∀ (i:Nat) d c h,f[i]?=aw d->I i c h->∃j,ax T (.tup [.int i,d]) c=aw j/\OkS (b j h) λy n u=>match y with |.nx=>I (i+1) n u |.ct=>I (i+1) n u |.bk=>Q .nx n u |.rt d=>Q (.rt d) n u)
  (q:∀c h,I f.length c h->Q .nx c h) (B:I 0 c S):OkS (eV (ve f) T b LF 0 c S) Q:=by
 refine jh f.length I (by unfold LF;lia) (λi c h hi v=>?_) (λc h v=>⟨?_,q c h v⟩) B
 ·obtain⟨j,E,z⟩:=step i f[i] c h (gEG hi) v;refine⟨.tup [.int i,f[i]],j,?_,E,z⟩;show enm f i=_;unfold enm;rw[if_pos (by lia),gEG hi];rfl
 ·show enm f f.length=_;unfold enm;rw[if_pos (Ze _),Zs (Ze _)];rfl
def aX{z:Type}{nx:Nxt}{T:Tg}{c:XA}{I:Rho}{Q:List D->Sto->Prop}(l:List z)(E:z->D)(f:z->List D)(Y:l.length<=1000)(J:∀a ∈ l,(f a).length<=1)
  (v:∀i d,Sm S d->nx i d=aw ((l[i]?).map E))
  (step:∀ (i:Nat) a d,l[i]?=aw a->Sm S d->∃j,ax T (E a) I=aw j/\Ok (c j d) λn B=>n=f a/\Sm d B) (q:∀d,Sm S d->Q (l.flatMap f) d) :
  Ok (bu nx T c I LF 0 S) λn S2=>n.length<=100000/\Q n S2:=by
 refine(gA l.length (λi u d=>Sm S d/\u=(l.take i).flatMap f) (by unfold LF;lia) (λi u d hi ⟨sm,y⟩=>?_) (λu d ⟨sm,y⟩=>?_) ⟨Sm.refl S,by simp⟩).mono λn d ⟨sm,y⟩=>?_
 ·obtain⟨j,O,n,B,U,L,C⟩:=step i l[i] d (gEG hi) sm;refine⟨E l[i],j,by rw[v i d sm,gEG hi];rfl,O,n,B,U,sm.trans C,?_⟩;rw[y,L,ZX hi,XV];simp
 ·rw[v _ d sm,Zs (Ze _)];rfl
 ·rw[YM] at y;subst y;refine⟨?_,q d sm⟩
  have:∀m:List z,(∀a ∈ m,(f a).length<=1)->(m.flatMap f).length<=m.length:=λm=>by
   induction m with
   |nil=>intro _;simp
   |cons a m X=>
    intro h;rw[Y1,Zh,Zo];have:=h a Zj;have:=X λb hb=>h b (Zi _ hb)
    lia
  have:=this l J
  lia
def cv{c:Type}{l:List c}{E:c->D}:∀i b,Sm S b->nxL (l.map E) i b=aw ((l[i]?).map E):=λi b _=>by
 show aw (l.map E)[i]?=_;rw[Zp]
def bH{c:Type}{n:Nat}{l:List c}{E:c->D}(h:S[n]?=aw (.lst (l.map E))):∀i b,Sm S b->nxS n i b=aw ((l[i]?).map E):=λi b sm=>by
 show(au b n).map (λd=>d[i]?)=_;rw[aq (sm _ _ h),ZD,Zp]
def aU{b:Type}(l:List b)(f:b->D):(l.flatMap λa=>[f a])=l.map f:=by
 induction l with
 |nil=>rfl
 |cons a l I=>rw[Y1,I];rfl
def bv{b:Type}(l:List b)(c:b->Bool)(f:b->D):(l.flatMap λa=>if c a=aN then [f a] else [])=(l.filter c).map f:=by
 induction l with
 |nil=>rfl
 |cons a l I=>
  rw[Y1,I,Yc];split <;> rfl
abbrev az(r:List Int):D:=.tup (r.map D.int)
abbrev ahE:Option (Int × Int)->D
 |none=>.non
 |some q=>.tup [.int q.1,.int q.2]
abbrev meE(K:Sky):D:=.tup [.int K.r,.int K.s,.tup (K.M.map az),.tup (K.H.map ac)]
abbrev skE(K:Sky):D:=.tup [meE K,ahE K.ah,.tup (K.G.map az),.tup (K.F.map D.int)]
structure Vd(K:Sky):Prop where
 r0:0<=K.r
 r8:K.r<=8
 s0:0<=K.s
 s60:K.s<=60
 m0:1<=K.M.length
 m4:K.M.length<=4
 row:∀r ∈ K.M,r.length=K.M.length
 ris:Ris (-1) K.H
 h4:K.H.length<=4
 ah0:∀q,K.ah=aw q->0<=q.1/\q.1 < K.M.length
 g7:K.G.length<=7
 gl:∀g ∈ K.G,g.length=7/\0<=g.getD 0 0/\g.getD 0 0 < K.M.length/\0<=g.getD 2 0
variable {K:Sky}
def sk0:ixS (skE K) (.int 0) S=aw (meE K,S):=rfl
def sk1:ixS (skE K) (.int 1) S=aw (ahE K.ah,S):=rfl
def sk2:ixS (skE K) (.int 2) S=aw (.tup (K.G.map az),S):=rfl
def sk3:ixS (skE K) (.int 3) S=aw (.tup (K.F.map D.int),S):=rfl
def me0:ixS (meE K) (.int 0) S=aw (.int K.r,S):=rfl
def me1:ixS (meE K) (.int 1) S=aw (.int K.s,S):=rfl
def me2:ixS (meE K) (.int 2) S=aw (.tup (K.M.map az),S):=rfl
def me3:ixS (meE K) (.int 3) S=aw (.tup (K.H.map ac),S):=rfl
def gl7(V:Vd K){g:Int}(v:0<=g)(u:g < K.G.length):∃a b c d e f h,K.G[g.toNat]?=aw [a,b,c,d,e,f,h]/\gi K.G g 0=a/\gi K.G g 1=b/\gi K.G g 2=c/\gi K.G g 3=d/\gi K.G g 6=h/\0<=a/\a < K.M.length/\0<=c:=by
 have hi:g.toNat < K.G.length:=by lia
 obtain⟨l7,j,q,C⟩:=V.gl K.G[g.toNat] (ZJ hi)
 match n:K.G[g.toNat],l7 with
 |[a,b,c,d,e,f,h],_=>
  have eq:K.G[g.toNat]?=aw [a,b,c,d,e,f,h]:=by rw[gEG hi,n]
  rw[n] at j q C;refine⟨a,b,c,d,e,f,h,eq,?_,?_,?_,?_,?_,j,q,C⟩ <;> (unfold gi;rw[eq];rfl)
def pE{i:Int}(b:0<=i)(h:ds[i.toNat]?=aw d):ixS (.tup ds) (.int i) S=aw (d,S):=by
 obtain⟨n,rfl⟩:∃n:Nat,i=(n:Int):=⟨i.toNat,by lia⟩;exact z4 h
def b8{g:Int}(b:0<=g)(h:K.G[g.toNat]?=aw r):ixS (.tup (K.G.map az)) (.int g) S=aw (az r,S):=pE b (by rw[Zp,h];rfl)
def jX(V:Vd K){a b:Int}(c:0<=a)(f:a < K.M.length)(B:0<=b)(j:b < K.M.length):∃r,ixS (.tup (K.M.map az)) (.int a) S=aw (az r,S)/\ixS (az r) (.int b) S=aw (.int (gp K a b),S):=by
 have hi:a.toNat < K.M.length:=by lia
 have d:=V.row K.M[a.toNat] (ZJ hi);have h:b.toNat < K.M[a.toNat].length:=by lia
 refine⟨K.M[a.toNat],pE c (by rw[Zp,gEG hi];rfl),pE B ?_⟩;rw[Zp,gEG h];have:gp K a b=K.M[a.toNat][b.toNat]:=by unfold gp Dw.mg2;rw[gEG hi,ZW,gEG h];rfl
 rw[this];rfl
end Lw
namespace Lw
open PySem Ev Sn
variable {p:Nat} {S:Sto} {k:Nat} {Q:D->Sto->Prop} {K:Sky}
def tH{t u:Bool}{A B:Prop}(h:t=aN->u=aN->A)(hb:(t && u)=aS->B):wIf t (wIf u A B) B:=by
 cases t with
 |false=>exact hb rfl
 |true=>cases u with
  |true=>exact h rfl rfl
  |false=>exact hb rfl
def lh{b:Type}{l:List b}{i:Nat}{a:b}(h:l[i]?=aw a):l.drop i=a::l.drop (i+1):=by
 obtain⟨hi,e⟩:=Zb.mp h;rw[YO hi,e]
def gD{b:Type}{l:List b}{E:b->D}{i:Nat}{d:D}(h:(l.map E)[i]?=aw d):∃a,l[i]?=aw a/\d=E a:=by
 rw[Zp] at h;cases e:l[i]? with
 |none=>rw[e] at h;cases h
 |some a=>rw[e] at h;cases h;exact⟨a,rfl,rfl⟩
def MY{m:Int}(I:K.H.length<=4)(q:Q (.int (fns K.H m)) S):Ok (evC ag (k+1) 14 [meE K,.int m] S) Q:=by
 refine am (d:=ci) (ρ:=[aw (meE K),aw (.int m),aD,aD]) rfl rfl ?_;dsimp only[ci,eD];k_is;refine aa me3 ?_;k_is;refine CC (by rw[Za];lia) (λi j b=>b=S/\fns K.H m=fns (K.H.drop i) m/\∃u v,j=[aw (meE K),aw (.int m),u,v]) (λi d j b hd ⟨c,E,u,v,f⟩=>?_) (λj b ⟨c,E,u,v,f⟩=>?_) ⟨rfl,rfl,aD,aD,rfl⟩
 ·subst c f;obtain⟨n,C,rfl⟩:=gD hd;refine⟨_,show ax (.tup [.name 2,.name 3]) (.tup [.int n.1,.int n.2]) _=_ from bm (by simp) (by simp),?_⟩;k_is;rw[lh C,fns] at E;refine tH (λB y=>?_) λh=>?_
  ·k_is;rw[if_pos ⟨of_decide_eq_true B,of_decide_eq_true y⟩] at E;rw[E] at q;exact q
  ·k_is;rw[if_neg (λz=>by rw[decide_eq_true z.1,decide_eq_true z.2] at h;cases h)] at E;exact⟨rfl,E,_,_,rfl⟩
 ·subst c f;k_is;rw[Za,YN,fns] at E;rw[E] at q;exact q
abbrev ay(K:Sky)(L:List (Int × Int)):Option (Int × Int):=match L.getLast? with
 |none=>K.ah
 |some p=>aw (gi K.G p.1 0,p.2)
abbrev InG(K:Sky)(L:List (Int × Int)):Prop:=∀p ∈ L,0<=p.1/\p.1 < K.G.length
def nB(V:Vd K){L:List (Int × Int)}{n:Nat}(j:S[n]?=aw (.lst (L.map ac)))(v:InG K L)(q:Q (ahE (ay K L)) S):Ok (evC ag (k+1) 34 [skE K,.ref n] S) Q:=by
 refine am (d:=cG) (ρ:=[aw (skE K),aw (.ref n),aD,aD]) rfl rfl ?_;dsimp only[cG,fG];k_is;have T:mi (.ref n) S=aw (!(L.map ac).isEmpty,S):=by simp only[mi,aq j]
 refine aa T ?_;k_is;rcases List.eq_nil_or_concat L with rfl |⟨L',z,rfl⟩
 ·k_is;exact aa sk1 q
 ·rw[List.concat_eq_append] at j v q ⊢;rw[show(!!((L'++[z]).map ac).isEmpty)=aS by simp];k_is;have u:=v z (by simp);refine aa (qS (ds:=L'.map ac) (e:=ac z) (by rw[j,ZF];rfl)) ?_;rw[show ac z = .tup [.int z.1,.int z.2] from rfl];k_is;refine aa sk2 ?_;obtain⟨a,b,c,d,e,f,h,y,E,_⟩:=gl7 V u.1 u.2;refine aa (b8 u.1 y) (aa (show ixS (az [a,b,c,d,e,f,h]) (.int 0) S=aw (.int a,S) from rfl) ?_);k_is
  have:ay K (L'++[z])=aw (a,z.2):=by
   unfold ay;rw[YL];simp[E]
  rw[this] at q;exact q
def xu(V:Vd K){a:Option (Int × Int)}{b:Int}(n:∀q,a=aw q->0<=q.1/\q.1 < K.M.length)(u:0<=b)(c:b < K.M.length)(q:Q (.int (tD K a b)) S):Ok (evC ag (k+1) 35 [skE K,ahE a,.int b] S) Q:=by
 refine am (d:=jS) (ρ:=[aw (skE K),aw (ahE a),aw (.int b)]) rfl rfl ?_;dsimp only[jS,pf];k_is;cases a with
 |none=>exact aa (show ak .is (ahE aD) .non S=aw (.bl aN,S) from rfl) (by k_is;exact q)
 |some z=>
  refine aa (show ak .is (ahE (aw z)) .non S=aw (.bl aS,S) from rfl) ?_;k_is;obtain⟨j,h⟩:=n z rfl;refine aa (show ixS (ahE (aw z)) (.int 1) S=aw (.int z.2,S) from rfl) ?_;refine aa sk0 (aa me2 (aa (show ixS (ahE (aw z)) (.int 0) S=aw (.int z.1,S) from rfl) ?_));obtain⟨r,f,v⟩:=jX (S:=S) V j h u c;refine aa f (aa v ?_);k_is;exact q
def nD(V:Vd K){z:Int × Int}{t:Int}(j:0<=z.1)(v:z.1 < K.G.length)(q:Q (.bl (aF K t z)) S):Ok (evC ag (k+1) 37 [skE K,ac z,.int t] S) Q:=by
 refine am (d:=iG) (ρ:=[aw (skE K),aw (ac z),aw (.int t),aD,aD]) rfl rfl ?_;dsimp only[iG,m8];rw[show ac z = .tup [.int z.1,.int z.2] from rfl];k_is;refine aa sk2 ?_;obtain⟨a,b,c,d,e,f,h,n,_,E,_⟩:=gl7 V j v;refine aa (b8 j n) (aa (show ixS (az [a,b,c,d,e,f,h]) (.int 1) S=aw (.int b,S) from rfl) ?_);k_is;have u:aF K t z=(decide (b<=t) && decide (t < z.2 - K.s)):=by unfold aF jn;rw[E]
 rw[u] at q;cases C:decide (b<=t) with
 |false=>rw[C] at q;k_is;exact q
 |true=>
  rw[C] at q;k_is;refine aa sk0 (aa me1 ?_);k_is;exact q
def CF(V:Vd K){L:List (Int × Int)}{n:Nat}{t:Int}(h:S[n]?=aw (.lst (L.map ac)))(c:InG K L)(j:L.length<=1000)(q:∀b,Sm S b->Q (.int (wts K L t)) b):Ok (evC ag (k+2) 38 [skE K,.ref n,.int t] S) Q:=by
 refine am (d:=cI) (ρ:=[aw (skE K),aw (.ref n),aw (.int t)]) rfl rfl ?_;dsimp only[cI,fI];k_is;refine⟨by rw[aq h];rfl,?_⟩;refine aX L ac (λz=>if aF K t z=aN then [ac z] else []) j (λz _=>by split <;> simp) (bH h) (λi z b f sm=>⟨_,rfl,?_⟩) λb sm=>?_
 ·have:=c z (Zc f);k_is;refine⟨rfl,nD V this.1 this.2 ?_⟩;k_is;cases aF K t z with
  |true=>k_is;exact⟨rfl,Sm.refl _⟩
  |false=>k_is;exact⟨rfl,Sm.refl _⟩
 ·rw[bv];refine aa (show ca aS ((L.filter (aF K t)).map ac) b=aw (.int (wts K L t),b) by unfold ca wts;rw[Za]) ?_;k_is;exact q b sm
def zi{x:Int}{X:List Int}:dC ((x::X).map D.int)=aD:=by simp only[Zw,dC,mw]
def fw:∀ (X:List Int),fD (X.map D.int)=aw X
 |[]=>rfl
 |x::X=>by simp only[Zw,fD,fw X]
def nF{xs:List Int}(h:xs.length < 64):cD aS (xs.map D.int)=aw ((fC xs).map D.int):=by
 unfold cD;rw[if_pos rfl];cases xs with
 |nil=>rfl
 |cons x xs=>
  simp only[uV,zi,fw];rw[if_pos h]
def vU:(js K).length=K.G.length:=by unfold js;rw[(bP _).length_eq,Za]
def nG(V:Vd K)(q:∀S',Sm S S'->S'[Zd S' - 1]?=aw (.lst ((js K).map D.int))->Zd S<=Zd S' - 1->Q (.ref (Zd S' - 1)) S'):Ok (evC ag (k+1) 39 [skE K] S) Q:=by
 refine am (d:=bZ) (ρ:=[aw (skE K)]) rfl rfl ?_;dsimp only[bZ,dm];k_is;refine aa sk2 ?_;k_is;refine aX K.G az (λg=>[.int (g.getD 1 0)]) (by have:=V.g7;lia) (λ_ _=>Ze _) cv (λi g S' u sm=>⟨_,rfl,?_⟩) λS' sm=>?_
 ·obtain⟨l7,_⟩:=V.gl g (Zc u)
  match g,l7 with
  |[a,b,c,d,e,f,h],_=>
   k_is;exact aa (show ixS (az [a,b,c,d,e,f,h]) (.int 1) S'=aw (.int b,S') from rfl) ⟨rfl,Sm.refl _⟩
 ·rw[aU];refine⟨_,show cD aS (K.G.map λg=>D.int (g.getD 1 0))=aw ((js K).map D.int) from ?_,?_⟩
  ·have:=nF (xs:=K.G.map λg=>g.getD 1 0) (by rw[Za];have:=V.g7;lia);rw[ZL] at this;exact this
  ·have e:Zd (S'++[Ob.lst ((js K).map D.int)]) - 1=Zd S':=by simp
   have sl:Zd S<=Zd S':=by
    cases n:decide (Zd S<=Zd S') with
    |true=>exact of_decide_eq_true n
    |false=>
     exfalso;have j:Zd S' < Zd S:=by have:=of_decide_eq_false n;lia
     have:=sm (Zd S') S[Zd S'] (gEG j);rw[Zs (Ze _)] at this;cases this
   have:=q (S'++[Ob.lst ((js K).map D.int)]) (sm.trans (Sm.app _ _)) (by rw[e];exact aC) (by rw[e];exact sl);rw[e] at this;exact this
def dR{n:Nat}{b:List D}{i:Int}{d:D}(c:S[n]?=aw (.lst b))(f:0<=i)(h:b[i.toNat]?=aw d):ixS (.ref n) (.int i) S=aw (d,S):=by
 obtain⟨j,rfl⟩:∃j:Nat,i=(j:Int):=⟨i.toNat,by lia⟩;rw[Zy] at h;simp only[ixS,ao,aq c,ZD,Ev.ww h]
def jp{n:Nat}{d:List D}{j:Nat}(b:S[n]?=aw (.lst d)):slS aD (aw (j:Int)) (.ref n) S=aw (.ref (Zd S),S++[.lst (d.take j)]):=by
 have:dX d aD (aw (j:Int))=d.take j:=by
  by_cases h:j<=d.length
  ·exact dY d j h
  ·unfold dX;rw[Dw.uB _ _ (by lia),Zy,Wi (by lia)];show(d.drop 0).take (d.length - 0)=d.take j;rw[Wt,Ye (by lia),Ye (by lia)]
 simp only[slS,aq b,this]
def xv{a b:Nat}{xs y:List D}(c:S[a]?=aw (.lst xs))(hb:S[b]?=aw (.lst y))(h:xs.length+y.length<=100000):bL .add (.ref a) (.ref b) S=aw (.ref (Zd S),S++[.lst (xs++y)]):=by
 simp only[bL,kM,Jx,c,hb];rw[if_pos h]
def b9{n:Nat}{d:List D}(h:S[n]?=aw (.lst d)):aj ca (.ref n) S=aw (.int d.length,S):=by simp only[aj,ao,aq h,ZD,ca]
def CG{xs:List Int}(h:xs ≠ []):n9 aS (xs.map D.int) S=aw (.int (iu xs),S):=by
 cases xs with
 |nil=>exact absurd rfl h
 |cons x xs=>unfold n9;rw[fw]
def GG(V:Vd K){L:List (Int × Int)}{n j:Nat}{z:Int × Int}(C:S[n]?=aw (.lst (L.map ac)))(E:L[j]?=aw z)(hL:InG K L)(hl:L.length<=100)(q:∀f,Sm S f->Q (.int (tF K (L.take j) z.1 z.2)) f):Ok (evC ag (k+3) 43 [skE K,.ref n,.int j,.int (jn K z.1)] S) Q:=by
 refine am (d:=dM) (ρ:=[aw (skE K),aw (.ref n),aw (.int j),aw (.int (jn K z.1)),aD,aD]) rfl rfl ?_;dsimp only[dM,ij];have h:=hL z (Zc E);k_is;refine aa (jp C) ?_;k_is;have X:Sm S (S++[Ob.lst ((L.map ac).take j)]):=Sm.app _ _;have a1:(S++[Ob.lst ((L.map ac).take j)])[Zd S]?=aw (Ob.lst ((L.take j).map ac)):=by rw[aC,Yp]
 generalize Zd S=N1 at *;generalize S++[Ob.lst ((L.map ac).take j)]=S1 at *;refine⟨rfl,nG V λS2 v J _=>?_⟩;k_is;refine⟨by rw[aq J];rfl,?_⟩;have u:(js K).length<=7:=by rw[vU];exact V.g7
 refine aX (js K) D.int (λt=>if (decide (jn K z.1 < t) && aF K t z)=aN then [D.int t] else []) (by lia) (λ_ _=>by split <;> simp) (bH J) (λi t f ht sm=>⟨_,rfl,?_⟩) λb O=>?_
 ·k_is;cases c:decide (jn K z.1 < t) with
  |false=>k_is;exact⟨rfl,Sm.refl _⟩
  |true=>
   k_is;have y:=sm _ _ (v _ _ (X _ _ C));refine aa (dR y (by lia) (show(L.map ac)[((j:Nat):Int).toNat]?=aw (ac z) by rw[Zy,Zp,E];rfl)) ?_;refine⟨rfl,nD V h.1 h.2 ?_⟩;k_is;cases aF K t z with
   |true=>k_is;exact⟨rfl,Sm.refl _⟩
   |false=>k_is;exact⟨rfl,Sm.refl _⟩
 ·rw[bv];k_is;have lt3:Zd b < Zd (b++[Ob.lst (((js K).filter λt=>decide (jn K z.1 < t) && aF K t z).map D.int)]):=by simp
  have a3:(b++[Ob.lst (((js K).filter λt=>decide (jn K z.1 < t) && aF K t z).map D.int)])[Zd b]?=aw (Ob.lst (((js K).filter λt=>decide (jn K z.1 < t) && aF K t z).map D.int)):=aC;have T:Sm b (b++[Ob.lst (((js K).filter λt=>decide (jn K z.1 < t) && aF K t z).map D.int)]):=Sm.app _ _;have lf:((js K).filter λt=>decide (jn K z.1 < t) && aF K t z).length<=7:=Z0 (Yj _ _) u;generalize Zd b=N3 at *;generalize b++[Ob.lst (((js K).filter λt=>decide (jn K z.1 < t) && aF K t z).map D.int)]=S4 at *;have B:Sm S4 (S4++[Ob.lst [D.int (jn K z.1)]]):=Sm.app _ _;refine aa (xv (xs:=[D.int (jn K z.1)]) aC (B _ _ a3) (by rw[Za,Zr];lia)) ?_;k_is;have Y:Sm (S4++[Ob.lst [D.int (jn K z.1)]]) (S4++[Ob.lst [D.int (jn K z.1)]]++[Ob.lst ([D.int (jn K z.1)]++((js K).filter λt=>decide (jn K z.1 < t) && aF K t z).map D.int)]):=Sm.app _ _;have U:(S4++[Ob.lst [D.int (jn K z.1)]]++[Ob.lst ([D.int (jn K z.1)]++((js K).filter λt=>decide (jn K z.1 < t) && aF K t z).map D.int)])[Zd (S4++[Ob.lst [D.int (jn K z.1)]])]?=aw (Ob.lst ((iP K (L.take j) z.1 z.2).map D.int)):=aC;refine⟨by rw[aq U];rfl,?_⟩;have sA:=((((X.trans v).trans O).trans T).trans B).trans Y;have aL:=(((((v.trans O).trans T).trans B).trans Y)) _ _ a1;refine aX (iP K (L.take j) z.1 z.2) D.int (λt=>[D.int (1+(wts K (L.take j) t:Int))]) (by show((js K).filter λt=>decide (jn K z.1 < t) && aF K t z).length+1<=1000;lia) (λ_ _=>Ze _) (bH U) (λi t f ht sm=>⟨_,rfl,?_⟩) λZ s7=>?_
  ·k_is;refine⟨rfl,CF V (sm _ _ aL) (λw hw=>hL w (Z5 hw)) (by rw[Yb];lia) λS8 s8=>?_⟩;k_is;exact⟨rfl,s8⟩
  ·rw[aU];have I:=CG (S:=Z) (xs:=(iP K (L.take j) z.1 z.2).map λt=>1+(wts K (L.take j) t:Int)) (by unfold iP;simp);rw[ZL] at I;exact aa I (by k_is;exact q Z (sA.trans s7))
def xw(V:Vd K){L:List (Int × Int)}{n j:Nat}{z:Int × Int}(E:S[n]?=aw (.lst (L.map ac)))(B:L[j]?=aw z)(J:InG K L)(Z:L.length<=100)(q:∀v,Sm S v->Q (.bl (tG K (L.take j) z.1 z.2)) v):Ok (evC ag (k+4) 42 [skE K,.ref n,.int j] S) Q:=by
 refine am (d:=dJ) (ρ:=[aw (skE K),aw (.ref n),aw (.int j),aD,aD,aD,aD,aD,aD,aD]) rfl rfl ?_;dsimp only[dJ,ig];have u:=J z (Zc B);obtain⟨a,b,c,d,e,f,h,T,e0,e1,e2,e3,X,_⟩:=gl7 V u.1 u.2;have hi:=dR E (show(0:Int)<=(j:Int) by lia) (show(L.map ac)[((j:Nat):Int).toNat]?=aw (ac z) by rw[Zy,Zp,B];rfl);k_is;refine aa sk2 (aa hi (aa (show ixS (ac z) (.int 0) S=aw (.int z.1,S) from rfl) (aa (b8 u.1 T) ?_)));rw[show az [a,b,c,d,e,f,h] = .tup [.int a,.int b,.int c,.int d,.int e,.int f,.int h] from rfl];k_is;have I:jn K z.1=b:=e1;have eh:tG K (L.take j) z.1 z.2=(decide (0 < h) && (aF K b z && decide (h < tF K (L.take j) z.1 z.2))):=by unfold tG;rw[X,I]
 rw[eh] at q;cases C:decide (0 < h) with
 |false=>rw[C] at q;k_is;exact q S (Sm.refl S)
 |true=>
  rw[C] at q;k_is;refine aa hi ?_;refine⟨rfl,nD V u.1 u.2 ?_⟩;k_is;cases O:aF K b z with
  |false=>rw[O] at q;k_is;exact q S (Sm.refl S)
  |true=>
   rw[O] at q;k_is
   have rg:=GG (k:=k) (Q:=λy Y=>wCx .gt y (.int h) Y λd U=>Q d U) V E B J Z λv sm=>by
    k_is;exact q v sm
   rw[I] at rg;exact⟨rfl,rg⟩
def GH(V:Vd K){j:Nat}{m:Int}(q:∀f,Sm S f->Q (.bl (kO K j m)) f):Ok (evC ag (k+2) 49 [skE K,.int j,.int m] S) Q:=by
 refine am (d:=b5) (ρ:=[aw (skE K),aw (.int j),aw (.int m),aD,aD,aD,aD,aD,aD]) rfl rfl ?_;dsimp only[b5,dq];k_is;refine aa sk0 ?_;rw[show meE K = .tup [.int K.r,.int K.s,.tup (K.M.map az),.tup (K.H.map ac)] from rfl];k_is;refine⟨rfl,nG V λv n u _=>?_⟩;k_is;refine aa (b9 u) ?_;k_is;rw[Za];have r0:=V.r0;have E:kO K j m=match (js K)[(K.r+j).toNat]? with |some t=>decide (t < m - K.s) |none=>aS:=rfl
 refine cu (λh=>?_) λh=>?_
 ·have b:(K.r+j).toNat < (js K).length:=by have:=of_decide_eq_true h;lia
  rw[gEG b] at E;k_is;refine aa (dR u (by lia) (show((js K).map D.int)[(K.r+(j:Int)).toNat]?=aw (.int (js K)[(K.r+(j:Int)).toNat]) by rw[Zp,gEG b];rfl)) ?_;k_is;have:=q v n;rw[E] at this;exact this
 ·have c:(js K).length<=(K.r+j).toNat:=by have:=of_decide_eq_false h;lia
  rw[Zs c] at E;have:=q v n;rw[E] at this;exact this
abbrev nI:Option Int->D
 |none=>.non
 |some m=>.int m
def pF(V:Vd K){a:Option (Int × Int)}{g:Int}{j:Nat}(X:∀q,a=aw q->0<=q.1/\q.1 < K.M.length)(v:0<=g)(T:g < K.G.length)(q:∀z,Sm S z->Q (nI (Sn.step K a g j)) z):Ok (evC ag (k+3) 48 [skE K,ahE a,.int g,.int j] S) Q:=by
 refine am (d:=cq) (ρ:=[aw (skE K),aw (ahE a),aw (.int g),aw (.int j),aD,aD,aD,aD,aD,aD,aD,aD]) rfl rfl ?_;dsimp only[cq,eI];obtain⟨n,b,c,d,e,f,h,J,I,e1,E,Z,e6,k0,Y,O⟩:=gl7 V v T;k_is;refine aa sk2 (aa (b8 v J) ?_);rw[show az [n,b,c,d,e,f,h] = .tup [.int n,.int b,.int c,.int d,.int e,.int f,.int h] from rfl];k_is;refine aa sk0 ?_;refine⟨rfl,xu V X k0 Y ?_⟩;k_is;refine⟨rfl,MY V.h4 ?_⟩;k_is
 have U:fns K.H (if tD K a n > c then tD K a n else c)=opm K.H (a8 K a g):=by
  have:=CB (K:=K) (ah:=a) (g:=g) (by rw[E];exact O);rw[I,E] at this;rw[this,qZ V.ris]
 rw[U];have L:Sn.step K a g j=if (decide (d < opm K.H (a8 K a g)) || kO K j (opm K.H (a8 K a g)))=aN then aD else aw (opm K.H (a8 K a g)):=by unfold Sn.step;rw[Z]
 rw[L] at q;cases C:decide (d < opm K.H (a8 K a g)) with
 |true=>rw[C] at q;k_is;exact q S (Sm.refl S)
 |false=>
  rw[C] at q;k_is;refine⟨rfl,GH V λu y=>?_⟩;k_is;cases B:kO K j (opm K.H (a8 K a g)) with
  |true=>rw[B] at q;k_is;exact q u y
  |false=>rw[B] at q;k_is;exact q u y
def Sm.setNew{S b:Sto}{f:Nat}{o:Ob}(h:Sm S b)(c:S.length<=f):Sm S (b.set f o):=λi u e=>by
 have hi:=(Zb.mp e).1;rw[Zv (by lia)];exact h i u e
def CH{g:Int}(b:0<=g)(c:g < K.G.length):jn K g ∈ js K:=by
 have hi:g.toNat < K.G.length:=by lia
 refine(bP _).mem_iff.mpr (Zu.mpr ⟨K.G[g.toNat],ZJ hi,?_⟩);unfold jn gi;rw[gEG hi];rfl
def gG(V:Vd K){L:List (Int × Int)}(u:InG K L):∀q,ay K L=aw q->0<=q.1/\q.1 < K.M.length:=λq e=>by
 unfold ay at e;cases h:L.getLast? with
 |none=>rw[h] at e;exact V.ah0 q e
 |some z=>
  rw[h] at e;cases e;have j:=u z (Xc h);obtain⟨a,b,c,d,e,f,h,y,E,I,J,O,B,v,n,C⟩:=gl7 V j.1 j.2;show 0<=gi K.G z.1 0/\gi K.G z.1 0 < K.M.length;rw[E];exact⟨v,n⟩
def aW{L:List (Int × Int)}{z:Int × Int}:ay K (L++[z])=aw (gi K.G z.1 0,z.2):=by
 unfold ay;rw[YL];rfl
def ir:∀ (os:List Int) (a:Option (Int × Int)) (L:List (Int × Int)) (j:Nat),rn K os a L = .inl j->j < L.length+os.length
 |[],_,_,_,h=>by cases h
 |g::os,a,L,j,h=>by
  rw[rn] at h;rw[Zo];split at h
  ·cases h;lia
  ·split at h
   ·cases h;lia
   ·have:=ir os _ _ j h;rw[Zh,Zr] at this
    lia
def gW:∀ (os:List Int) (a:Option (Int × Int)) (L R:List (Int × Int)),rn K os a L = .inr R->R.length=L.length+os.length
 |[],_,_,_,h=>by cases h;rfl
 |g::os,a,L,R,h=>by
  rw[rn] at h;rw[Zo];split at h
  ·cases h
  ·split at h
   ·cases h
   ·have:=gW os _ _ R h;rw[Zh,Zr] at this
    lia
structure Ends(K:Sky)(os:List Int)(L:List (Int × Int)):Prop where
 stuck:∀j,rn K os K.ah [] = .inl j->L.length=j
 lands:∀R,rn K os K.ah [] = .inr R->L=R
def kH(V:Vd K){os:List Int}(ho:∀g ∈ os,0<=g/\g < K.G.length)(lo:os.length<=7)
  (q:∀n L C,Sm S C->C[n]?=aw (.lst (L.map ac))->Zd S<=n->Ends K os L->Q (.ref n) C):Ok (evC ag (k+5) 46 [skE K,.tup (os.map D.int)] S) Q:=by
 refine am (d:=bQ) (ρ:=[aw (skE K),aw (.tup (os.map D.int)),aD,aD,aD,aD]) rfl rfl ?_;dsimp only[bQ,cX];k_is;refine CD (by rw[Za];lia) (λi ρ C=>Sm S C/\∃L u v w,ρ=[aw (skE K),aw (.tup (os.map D.int)),aw (.ref (Zd S)),u,v,w]/\C[Zd S]?=aw (.lst (L.map ac))/\L.length=i/\InG K L/\rn K os K.ah []=rn K (os.drop i) (ay K L) L) (λi d ρ S1 hd ⟨Y,L,u,v,w,Z,O,hi,E,b⟩=>?_) (λρ S1 ⟨Y,L,u,v,w,Z,O,hi,E,b⟩=>?_) ⟨Sm.app _ _,[],aD,aD,aD,rfl,aC,rfl,λ_ h=>(by simp at h),rfl⟩
 ·subst Z;obtain⟨g,hg,rfl⟩:=gD hd;have y:=ho g (Zc hg);have hil:i < os.length:=(Zb.mp hg).1;rw[lh hg,rn,hi] at b;refine⟨_,bm (by simp) (by simp),?_⟩;k_is;refine⟨rfl,nB V O E ?_⟩;refine⟨rfl,pF V (gG V E) y.1 y.2 λc X=>?_⟩;k_is;cases U:Sn.step K (ay K L) g i with
  |none=>
   rw[U] at b;refine aa (show ak .is (nI aD) .non c=aw (.bl aN,c) from rfl) ?_;k_is;exact q _ L c (Y.trans X) (X _ _ O) (Ze _) ⟨λj e=>by rw[b] at e;cases e;exact hi,λR e=>by rw[b] at e;cases e⟩
  |some m=>
   rw[U] at b;refine aa (show ak .is (nI (aw m)) .non c=aw (.bl aS,c) from rfl) ?_;rw[show nI (aw m) = .int m from rfl];k_is;have B:=X _ _ O;refine⟨df B,?_⟩;rw[nv B (by rw[Za];lia)];k_is;have lt2:Zd S < c.length:=(Zb.mp B).1;have f:(c.set (Zd S) (Ob.lst (L.map ac++[D.tup [D.int g,D.int m]])))[Zd S]?=aw (.lst ((L++[(g,m)]).map ac)):=by rw[dQ lt2,ZF];rfl
   have s3:Sm S (c.set (Zd S) (Ob.lst (L.map ac++[D.tup [D.int g,D.int m]]))):=Sm.setNew (Y.trans X) (Ze _);generalize c.set (Zd S) (Ob.lst (L.map ac++[D.tup [D.int g,D.int m]]))=S3 at *
   have I:InG K (L++[(g,m)]):=λz hz=>by
    rcases ZS.mp hz with hz |hz
    ·exact E z hz
    ·rw[ZM.mp hz];exact y
   have hz3:(L++[(g,m)])[i]?=aw (g,m):=by rw[Zm (by lia),hi,Z7];rfl
   have J:(L++[(g,m)]).take i=L:=by rw[<-hi,Xj]
   refine⟨rfl,xw V f hz3 I (by rw[Zh,Zr];lia) λS4 T=>?_⟩;rw[J,xt λz hz=>CH (E z hz).1 (E z hz).2];k_is;dsimp only at b;cases hh:bK K L g m with
   |true=>
    rw[hh,if_pos rfl] at b;k_is;refine aa (jp (T _ _ f)) ?_;k_is;have a5:(S4++[Ob.lst (((L++[(g,m)]).map ac).take i)])[Zd S4]?=aw (.lst (L.map ac)):=by rw[aC,<-Yp,J]
    have l4:Zd S<=Zd S4:=YW (Zb.mp (T _ _ f)).1;exact q _ L _ ((s3.trans T).trans (Sm.app _ _)) a5 l4 ⟨λj e=>by rw[b] at e;cases e;exact hi,λR e=>by rw[b] at e;cases e⟩
   |false=>
    rw[hh,if_neg Zg] at b;k_is;exact⟨s3.trans T,L++[(g,m)],_,_,_,rfl,T _ _ f,by rw[Zh,Zr];lia,I,by rw[aW];exact b⟩
 ·subst Z;k_is;rw[Za,YN,rn] at b;exact q _ L S1 Y O (Ze _) ⟨λj e=>(by rw[b] at e;cases e),λR e=>(by rw[b] at e;cases e;rfl)⟩
end Lw
namespace Lw
open PySem Ev
variable {p:Nat} {S:Sto} {k:Nat} {Q:D->Sto->Prop}
end Lw
namespace Lw
open PySem Ev Sn
variable {p:Nat} {S:Sto} {k:Nat} {Q:D->Sto->Prop} {K:Sky}
def jq(r:List Int):TDs p S (r.map Dw.D.int) (r.map D.int):=by
 induction r with
 |nil=>exact b7
 |cons a r I=>exact aI bz I
def jY:∀ (M:List (List Int)),TDs p S (Dw.Aq M) (M.map az)
 |[]=>b7
 |r::M=>aI (c9 (jq r)) (jY M)
abbrev ahT:Option (Int × Int)->Dw.D
 |none=>.non
 |some q=>.tup [.int q.1,.int q.2]
def Qc:∀ (a:Option (Int × Int)),TD p S (ahT a) (ahE a)
 |none=>KA
 |some q=>c9 (aI bz (aI bz b7))
structure Ord(K:Sky)(os:List Int):Prop where
 nd:os.Nodup
 bd:∀g ∈ os,0<=g/\g < K.G.length
 ln:os.length=K.G.length
 fx:∃r,os=K.F++r
 pm:os.Perm ((Zk K.G.length).map λi=>Int.ofNat i)
def jr{n:Nat}:∀ (X:List Int),eqL (eqD (n+1) S) (X.map D.int) (X.map D.int)=aw aN
 |[]=>rfl
 |x::X=>by
  have e:eqD (n+1) S (D.int x) (D.int x)=aw (x == x):=rfl;rw[Zw,eqL,e,jr X,beq_self_eq_true];rfl
def GI(X:List Int):ak .eq (.tup (X.map D.int)) (.tup (X.map D.int)) S=aw (.bl aN,S):=by
 have:eqD 60 S (.tup (X.map D.int)) (.tup (X.map D.int))=eqL (eqD 59 S) (X.map D.int) (X.map D.int):=rfl;simp only[ak,eqS];rw[this,jr];rfl
def GJ{X Y:List D}(h:Ok (ak .eq (.tup X) (.tup Y) S) Q):tj .eq X (.tup Y) S Q:=by
 cases Y with
 |nil=>rw[xj,aG] at h;exact h
 |cons y Y=>exact h
abbrev Res(K:Sky)(os:List Int)(b:Nat)(d:D)(c:Sto):Prop:=match rn K os K.ah [] with
 |.inl j=>d = .tup [.str "stuck", .int j]
 |.inr R=>∃n,d = .tup [.str "lands", .ref n]/\c[n]?=aw (.lst (R.map ac))/\b<=n
def tI{H:List (Int × Int)}{m:Int}(J:H.length<=4)(q:Q (.int (opm H m)) S):Ok (evC ag (k+1) 63 [.tup (H.map ac),.int m] S) Q:=by
 refine am (d:=iK) (ρ:=[aw (.tup (H.map ac)),aw (.int m),aD,aD]) rfl rfl ?_;dsimp only[iK,ng];k_is;refine CC (by rw[Za];lia) (λi n c=>c=S/\∃ (b:Int) (u v:Option D),opm H m=opm (H.drop i) b/\n=[aw (.tup (H.map ac)),aw (.int b),u,v]) (λi d n c hd ⟨f,b,u,v,E,j⟩=>?_) (λn c ⟨f,b,u,v,E,j⟩=>?_) ⟨rfl,m,aD,aD,rfl,rfl⟩
 ·subst f j;obtain⟨y,I,rfl⟩:=gD hd;refine⟨_,show ax (.tup [.name 2,.name 3]) (.tup [.int y.1,.int y.2]) _=_ from bm (by simp) (by simp),?_⟩;k_is;rw[lh I,opm] at E;refine tH (λC B=>?_) λh=>?_
  ·k_is;rw[if_pos ⟨of_decide_eq_true C,of_decide_eq_true B⟩] at E;exact⟨rfl,_,_,_,E,rfl⟩
  ·k_is;rw[if_neg (λz=>by rw[decide_eq_true z.1,decide_eq_true z.2] at h;cases h)] at E;exact⟨rfl,_,_,_,E,rfl⟩
 ·subst f j;k_is;rw[Za,YN,opm] at E;rw[E] at q;exact q
def pG(V:Vd K){L:List (Int × Int)}{n:Nat}{t:Int}(u:S[n]?=aw (.lst (L.map ac)))(O:InG K L)(I:L.length<=1000)(q:∀N v j,Sm S j->j[N]?=aw (.lst v)->v.length=wts K L t->Q (.ref N) j):Ok (evC ag (k+1) 64 [skE K,.ref n,.int t] S) Q:=by
 refine am (d:=gx) (ρ:=[aw (skE K),aw (.ref n),aw (.int t)]) rfl rfl ?_;dsimp only[gx,kG];k_is;refine⟨by rw[aq u];rfl,?_⟩;refine aX L ac (λz=>if aF K t z=aN then [.int z.1] else []) I (λz _=>by split <;> simp) (bH u) (λi z j B sm=>⟨_,show ax (.tup [.name 3,.name 4]) (.tup [.int z.1,.int z.2]) _=_ from bm (by simp) (by simp),?_⟩) λj sm=>?_
 ·obtain⟨y,J⟩:=O z (Zc B);obtain⟨a,b,c,d,e,f,h,E,_,T,_⟩:=gl7 V y J;k_is;refine aa sk2 (aa (b8 y E) (aa (show ixS (az [a,b,c,d,e,f,h]) (.int 1) j=aw (.int b,j) from rfl) ?_));k_is;have C:aF K t z=(decide (b<=t) && decide (t < z.2 - K.s)):=by unfold aF jn;rw[T]
  rw[C];cases U:decide (b<=t) with
  |false=>k_is;exact⟨rfl,Sm.refl _⟩
  |true=>
   k_is;refine aa sk0 (aa me1 ?_);k_is;cases X:decide (t < z.2 - K.s) with
   |true=>k_is;exact⟨rfl,Sm.refl _⟩
   |false=>k_is;exact⟨rfl,Sm.refl _⟩
 ·rw[bv];k_is;exact q _ _ _ (sm.trans (Sm.app _ _)) aC (by rw[Za];rfl)
def zj{c:Int}{X:List Int}{n:Nat}(h:S[n]?=aw (.lst (X.map D.int))):aj (eA c) (.ref n) S=aw (.int (fT c X),S):=by
 simp only[aj,ao,aq h,ZD,eA,fw]
def tJ(V:Vd K){L:List (Int × Int)}{n:Nat}{g m:Int}(J:S[n]?=aw (.lst (L.map ac)))(hL:InG K L)(hl:L.length<=100)(X:0<=g)(g1:g < K.G.length)(q:∀u,Sm S u->Q (.int (fu K L g m)) u):Ok (evC ag (k+2) 65 [skE K,.ref n,.int g,.int m] S) Q:=by
 refine am (d:=iL) (ρ:=[aw (skE K),aw (.ref n),aw (.int g),aw (.int m),aD,aD,aD]) rfl rfl ?_;dsimp only[iL,nh];obtain⟨a,b,c,d,e,f,h,E,_,I,_⟩:=gl7 V X g1;have O:jn K g=b:=I;k_is;refine aa sk2 (aa (b8 X E) (aa (show ixS (az [a,b,c,d,e,f,h]) (.int 1) S=aw (.int b,S) from rfl) ?_));k_is;have Z:Sm S (S++[Ob.lst [D.int b]]):=Sm.app _ _;have a1:(S++[Ob.lst [D.int b]])[Zd S]?=aw (Ob.lst [D.int b]):=aC;generalize Zd S=N1 at *;generalize S++[Ob.lst [D.int b]]=S1 at *;have v:=Z _ _ J;refine⟨by rw[aq v];rfl,?_⟩;refine aX L ac (λz=>[.int (jn K z.1)]) (by lia) (λ_ _=>Ze _) (bH v) (λi z u hz sm=>⟨_,show ax (.tup [.name 7,.name 8]) (.tup [.int z.1,.int z.2]) _=_ from bm (by simp) (by simp),?_⟩) λj U=>?_
 ·obtain⟨h0,h1⟩:=hL z (Zc hz);obtain⟨a,b,c,d,e,f,h,E,_,I,_⟩:=gl7 V h0 h1;k_is;refine aa sk2 (aa (b8 h0 E) (aa (show ixS (az [a,b,c,d,e,f,h]) (.int 1) u=aw (.int b,u) from rfl) ?_));exact⟨by rw[show jn K z.1=b from I],Sm.refl _⟩
 ·rw[aU];have Y:Sm j (j++[Ob.lst (L.map λz=>D.int (jn K z.1))]):=Sm.app _ _;refine aa (xv (Y _ _ (U _ _ a1)) aC (by rw[Za,Zr];lia)) ?_;k_is;have s4:Sm (j++[Ob.lst (L.map λz=>D.int (jn K z.1))]) (j++[Ob.lst (L.map λz=>D.int (jn K z.1))]++[Ob.lst ([D.int b]++L.map λz=>D.int (jn K z.1))]):=Sm.app _ _
  have a4:(j++[Ob.lst (L.map λz=>D.int (jn K z.1))]++[Ob.lst ([D.int b]++L.map λz=>D.int (jn K z.1))])[Zd (j++[Ob.lst (L.map λz=>D.int (jn K z.1))])]?=aw (Ob.lst ((jn K g::L.map λz=>jn K z.1).map D.int)):=by
   rw[aC,O,Zw,ZL];rfl
  have T:=((Z.trans U).trans Y).trans s4;have B:=T _ _ J;generalize Zd (j++[Ob.lst (L.map λz=>D.int (jn K z.1))])=N4 at *;generalize j++[Ob.lst (L.map λz=>D.int (jn K z.1))]++[Ob.lst ([D.int b]++L.map λz=>D.int (jn K z.1))]=S4 at *;refine⟨by rw[aq a4];rfl,?_⟩;refine aX (jn K g::L.map λz=>jn K z.1) D.int (λt=>if (decide (jn K g<=t) && decide (t < m - K.s))=aN then [D.int (1+(wts K L t:Int))] else []) (by rw[Zo,Za];lia) (λ_ _=>by split <;> simp) (bH a4) (λi t u ht sm=>⟨_,rfl,?_⟩) λy s5=>?_
  ·k_is;rw[O];cases c1:decide (b<=t) with
   |false=>k_is;exact⟨rfl,Sm.refl _⟩
   |true=>
    k_is;refine aa sk0 (aa me1 ?_);k_is;cases c2:decide (t < m - K.s) with
    |false=>k_is;exact⟨rfl,Sm.refl _⟩
    |true=>
     k_is;refine⟨rfl,pG V (sm _ _ B) hL (by lia) λN ds S6 C hN hd=>?_⟩;refine aa (b9 hN) ?_;k_is;rw[hd];exact⟨rfl,C⟩
  ·rw[bv];k_is;have C:Sm y (y++[Ob.lst ((cK K L g m).map λt=>D.int (1+(wts K L t:Int)))]):=Sm.app _ _;have a6:(y++[Ob.lst ((cK K L g m).map λt=>D.int (1+(wts K L t:Int)))])[Zd y]?=aw (Ob.lst (((cK K L g m).map λt=>1+(wts K L t:Int)).map D.int)):=by rw[aC,ZL];rfl
   refine aa (zj a6) ?_;k_is;exact q _ ((T.trans s5).trans C)
def tK{d:List D}{i:Int}(b:0<=i):dX d (aw i) aD=d.drop i.toNat:=by
 unfold dX;rw[Dw.Jo _ _ b,HT.zX];by_cases h:i.toNat<=d.length
 ·rw[XD h,Ye (by rw[Y6];lia)]
 ·rw[Wi (by lia),YN,List.take_nil,Xx (by lia)]
def CJ{n:Nat}{d:List D}{i:Int}(h:S[n]?=aw (.lst d))(b:0<=i):slS (aw i) aD (.ref n) S=aw (.ref (Zd S),S++[.lst (d.drop i.toNat)]):=by
 simp only[slS,aq h,tK b]
def vV(V:Vd K){a:Option (Int × Int)}{g:Int}{j:Nat}{kd jo L:Int}{w1 w2:Option D}(e3:gi K.G g 3=L)(q:∀v,Sm S v->Q (nI (Sn.step K a g j)) v) :
  rW (wSs (evC ag (k+1)) (fZ ag) 58 (fb.drop 2)) [aw (skE K),aw (ahE a),aw (.int g),aw (.int j),aw (.int kd),aw (.int jo),aw (.int (a8 K a g)),aw (.int L),aD,aD] S (out Q):=by
 dsimp only[fb,Yu];k_is;refine aa sk0 (aa me3 ?_);refine⟨rfl,tI V.h4 ?_⟩;k_is;have T:Sn.step K a g j=if (decide (L < opm K.H (a8 K a g)) || kO K j (opm K.H (a8 K a g)))=aN then aD else aw (opm K.H (a8 K a g)):=by unfold Sn.step;rw[e3]
 rw[T] at q;generalize opm K.H (a8 K a g)=m at *;refine aa sk2 ?_;k_is;refine aX K.G az (λg=>[.int (g.getD 1 0)]) (by have:=V.g7;lia) (λ_ _=>Ze _) cv (λi g v hg sm=>⟨_,rfl,?_⟩) λn Z=>?_
 ·obtain⟨l7,_⟩:=V.gl g (Zc hg)
  match g,l7 with
  |[a,b,c,d,e,f,h],_=>
   k_is;exact aa (show ixS (az [a,b,c,d,e,f,h]) (.int 1) v=aw (.int b,v) from rfl) ⟨rfl,Sm.refl _⟩
 ·rw[aU];refine⟨_,show cD aS (K.G.map λg=>D.int (g.getD 1 0))=aw ((js K).map D.int) from ?_,?_⟩
  ·have:=nF (xs:=K.G.map λg=>g.getD 1 0) (by rw[Za];have:=V.g7;lia);rw[ZL] at this;exact this
  ·refine aa sk0 (aa me0 ?_);k_is;have U:Sm n (n++[Ob.lst ((js K).map D.int)]):=Sm.app _ _;have X:(n++[Ob.lst ((js K).map D.int)])[Zd n]?=aw (Ob.lst ((js K).map D.int)):=aC;generalize Zd n=N1 at *;generalize n++[Ob.lst ((js K).map D.int)]=S2 at *;have r0:=V.r0;refine aa (CJ X (by lia)) ?_;k_is;have Y:Sm S2 (S2++[Ob.lst (((js K).map D.int).drop (K.r+(j:Int)).toNat)]):=Sm.app _ _;have B:(S2++[Ob.lst (((js K).map D.int).drop (K.r+(j:Int)).toNat)])[Zd S2]?=aw (Ob.lst (((js K).map D.int).drop (K.r+(j:Int)).toNat)):=aC;have l3:Zd S2 < Zd (S2++[Ob.lst (((js K).map D.int).drop (K.r+(j:Int)).toNat)]):=by simp
   generalize Zd S2=N2 at *;generalize S2++[Ob.lst (((js K).map D.int).drop (K.r+(j:Int)).toNat)]=S3 at *;have I:=(Z.trans U).trans Y;cases C:decide (L < m) with
   |true=>rw[C] at q;k_is;exact q _ I
   |false=>
    rw[C] at q;k_is;refine aa (ne_nil (Sm.app _ _ _ _ B) aC (by lia)) ?_;k_is;have z:Sm S (S3++[Ob.lst []]):=I.trans (Sm.app _ _);have O:=Sm.app S3 [Ob.lst []] _ _ B;generalize S3++[Ob.lst []]=S4 at *;have E:kO K j m=match (js K)[(K.r+j).toNat]? with |some t=>decide (t < m - K.s) |none=>aS:=rfl
    by_cases u:(K.r+(j:Int)).toNat < (js K).length
    ·rw[gEG u] at E;dsimp only at E
     have y:((js K).map D.int).drop (K.r+(j:Int)).toNat = .int (js K)[(K.r+(j:Int)).toNat]::((js K).map D.int).drop ((K.r+(j:Int)).toNat+1):=by
      rw[YO (by rw[Za];exact u),Wj]
     rw[y] at O;rw[y,show(!(D.int (js K)[(K.r+(j:Int)).toNat]::((js K).map D.int).drop ((K.r+(j:Int)).toNat+1)).isEmpty)=aN from rfl];k_is;refine aa sk0 (aa me1 ?_);k_is;refine aa (dR (i:=0) O (by lia) rfl) ?_;k_is;rw[E] at q;cases J:decide ((js K)[(K.r+(j:Int)).toNat] < m - K.s) with
     |true=>rw[J] at q;k_is;exact q _ z
     |false=>rw[J] at q;k_is;exact q _ z
    ·rw[Zs (by lia)] at E;have y:((js K).map D.int).drop (K.r+(j:Int)).toNat=[]:=Xx (by rw[Za];lia);rw[y,show(!([]:List D).isEmpty)=aS from rfl];k_is;rw[E] at q;exact q _ z
def CK(V:Vd K){a:Option (Int × Int)}{g:Int}{j:Nat}(L:∀q,a=aw q->0<=q.1/\q.1 < K.M.length)(u:0<=g)(I:g < K.G.length)(q:∀v,Sm S v->Q (nI (Sn.step K a g j)) v):Ok (evC ag (k+2) 66 [skE K,ahE a,.int g,.int j] S) Q:=by
 refine am (d:=iM) (ρ:=[aw (skE K),aw (ahE a),aw (.int g),aw (.int j),aD,aD,aD,aD,aD,aD]) rfl rfl ?_;dsimp only[iM,fb];obtain⟨n,b,c,d,e,f,h,C,B,e1,y,Y,e6,k0,O,c0⟩:=gl7 V u I;k_is;refine aa sk2 (aa (b8 u C) ?_);rw[show az [n,b,c,d,e,f,h] = .tup [.int n,.int b,.int c,.int d,.int e,.int f,.int h] from rfl];k_is;rw[show dX [D.int n,.int b,.int c,.int d,.int e,.int f,.int h] aD (aw 4)=[.int n,.int b,.int c,.int d] from rfl];k_is;have T:=vV (k:=k) (S:=S) (Q:=Q) V (a:=a) (g:=g) (j:=j) (kd:=n) (jo:=b) (w1:=aD) (w2:=aD) Y q;dsimp only[fb,Yu] at T;cases a with
 |none=>
  have E:a8 K aD g=c:=y;rw[E] at T;refine aa (show ak .isnot (ahE aD) .non S=aw (.bl aS,S) from rfl) ?_;k_is;exact T
 |some z=>
  obtain⟨Z,X⟩:=L z rfl;refine aa (show ak .isnot (ahE (aw z)) .non S=aw (.bl aN,S) from rfl) ?_;k_is;refine aa (show ixS (ahE (aw z)) (.int 1) S=aw (.int z.2,S) from rfl) ?_;refine aa sk0 (aa me2 (aa (show ixS (ahE (aw z)) (.int 0) S=aw (.int z.1,S) from rfl) ?_));obtain⟨r,U,J⟩:=jX (S:=S) V Z X k0 O;refine aa U (aa J ?_);k_is;have E:a8 K (aw z) g=if z.2+gp K z.1 n > c then z.2+gp K z.1 n else c:=by unfold a8;rw[B,y]
  rw[E] at T;exact T
def nJ(V:Vd K){L:List (Int × Int)}{j:Sto}{N i:Nat}{g m h:Int}{O ad:D}(n:j[N]?=aw (.lst (L.map ac)))(C:L.length<=100)(u:0<=g)(y:g < K.G.length){Qf:Fl->Rho->Sto->Prop}
  (q:Qf .nx [aw (skE K),aw O,aw (ahE (ay K (L++[(g,m)]))),aw (.ref N),aw (.int i),aw (.int g),aw (.int m),aw (.int h)] (j.set N (.lst (L.map ac++[.tup [.int g,.int m]])))) :
  fU (.ref N) j=aN/\Ok (sD (.ref N) [.tup [.int g,.int m]] j) λ_ B=>rW (wSs (evC ag (k+2)) (fZ ag) 54 [CS.asg (Tg.name 2) (CE.tup [(((CE.var 0).ix (CE.int 2)).ix (CE.var 5)).ix (CE.int 0),CE.var 6])]) [aw (skE K),aw O,aw ad,aw (.ref N),aw (.int i),aw (.int g),aw (.int m),aw (.int h)] B Qf:=by
 refine⟨df n,?_⟩;rw[nv n (by rw[Za];lia)];obtain⟨a,b,c,d,e,f,v,z,E,_⟩:=gl7 V u y;k_is;refine aa sk2 (aa (b8 u z) (aa (show ixS (az [a,b,c,d,e,f,v]) (.int 0) (j.set N (.lst (L.map ac++[.tup [.int g,.int m]])))=aw (.int a,_) from rfl) ?_));k_is;rw[aW,E] at q;exact q
def tL(V:Vd K){os:List Int}(ho:∀g ∈ os,0<=g/\g < K.G.length)(lo:os.length<=7)(q:∀d S',Sm S S'->Res K os (Zd S) d S'->Q d S'):Ok (evC ag (k+3) 67 [skE K,.tup (os.map D.int)] S) Q:=by
 refine am (d:=dP) (ρ:=[aw (skE K),aw (.tup (os.map D.int)),aD,aD,aD,aD,aD,aD]) rfl rfl ?_;dsimp only[dP,il];k_is;refine aa sk1 ?_;k_is;refine CD (by rw[Za];lia) (λi ρ S'=>Sm S S'/\∃L u v w x,ρ=[aw (skE K),aw (.tup (os.map D.int)),aw (ahE (ay K L)),aw (.ref (Zd S)),u,v,w,x]/\S'[Zd S]?=aw (.lst (L.map ac))/\L.length=i/\InG K L/\rn K os K.ah []=rn K (os.drop i) (ay K L) L) (λi d ρ S1 hd ⟨I,L,u,v,w,x,X,Z,hi,U,n⟩=>?_) (λρ S1 ⟨I,L,u,v,w,x,X,Z,hi,U,n⟩=>?_) ⟨Sm.app _ _,[],aD,aD,aD,aD,rfl,aC,rfl,λ_ h=>(by simp at h),rfl⟩
 ·subst X;obtain⟨g,hg,rfl⟩:=gD hd;have j:=ho g (Zc hg);have hil:i < os.length:=(Zb.mp hg).1;rw[lh hg,rn,hi] at n;refine⟨_,bm (by simp) (by simp),?_⟩;k_is;refine⟨rfl,CK V (gG V U) j.1 j.2 λC J=>?_⟩;obtain⟨a,b,c,d,e,f,h,eg,e0,e1,e2,e3,e6,k0,k1,c0⟩:=gl7 V j.1 j.2;refine aa sk2 (aa (b8 j.1 eg) (aa (show ixS (az [a,b,c,d,e,f,h]) (.int 6) C=aw (.int h,C) from rfl) ?_));k_is;have y:=J _ _ Z;have stuck:rn K os K.ah [] = .inl i->∀S',Sm S S'->Q (.tup [.str "stuck", .int i]) S':=λe S' s=>q _ S' s (by unfold Res;rw[e]);cases O:Sn.step K (ay K L) g i with
  |none=>
   rw[O] at n;refine aa (show ak .is (nI aD) .non C=aw (.bl aN,C) from rfl) ?_;k_is;exact stuck n C (I.trans J)
  |some m=>
   rw[O] at n;refine aa (show ak .is (nI (aw m)) .non C=aw (.bl aS,C) from rfl) ?_;rw[show nI (aw m) = .int m from rfl];k_is;dsimp only at n;have eh:bK K L g m=(decide (0 < h) && decide (h < fu K L g m)):=by unfold bK;rw[e6]
   rw[eh] at n
   have T:∀B,Sm S B->B[Zd S]?=aw (.lst (L.map ac))->rn K os K.ah []=rn K (os.drop (i+1)) (aw (gi K.G g 0,m)) (L++[(g,m)])->Sm S (B.set (Zd S) (.lst (L.map ac++[.tup [.int g,.int m]])))/\∃L' u v w x,[aw (skE K),aw (.tup (os.map D.int)),aw (ahE (ay K (L++[(g,m)]))),aw (.ref (Zd S)),aw (.int (i:Int)),aw (.int g),aw (.int m),aw (.int h)]=[aw (skE K),aw (.tup (os.map D.int)),aw (ahE (ay K L')),aw (.ref (Zd S)),u,v,w,x]/\(B.set (Zd S) (.lst (L.map ac++[.tup [.int g,.int m]])))[Zd S]?=aw (.lst (L'.map ac))/\L'.length=i+1/\InG K L'/\rn K os K.ah []=rn K (os.drop (i+1)) (ay K L') L':=λB E h3 n=>by
    have lt3:Zd S < B.length:=(Zb.mp h3).1;refine⟨Sm.setNew E (Ze _),L++[(g,m)],_,_,_,_,rfl,by rw[dQ lt3,ZF];rfl,by rw[Zh,Zr];lia,λz hz=>?_,by rw[aW];exact n⟩;rcases ZS.mp hz with hz |hz
    ·exact U z hz
    ·rw[ZM.mp hz];exact j
   refine cu (λY=>?_) λY=>?_
   ·rw[Y,Yy] at n;k_is;refine⟨rfl,tJ (k:=k) V y U (by lia) j.1 j.2 λB E=>?_⟩;k_is;cases c2:decide (h < fu K L g m) with
    |true=>
     rw[c2,if_pos rfl] at n;k_is;exact stuck n B ((I.trans J).trans E)
    |false=>
     rw[c2,if_neg Zg] at n;k_is;refine nJ V (E _ _ y) (by lia) j.1 j.2 ?_;exact T B ((I.trans J).trans E) (E _ _ y) n
   ·rw[Y,Xh,if_neg Zg] at n;k_is;refine nJ V y (by lia) j.1 j.2 ?_;exact T C (I.trans J) y n
 ·subst X;k_is;rw[Za,YN,rn] at n;exact q _ S1 I (by unfold Res;rw[n];exact⟨_,rfl,Z,Ze _⟩)
def xy{b:List D}(i:Nat)(d:D)(h:b[i]?=aw d):(λi=>(b[i]?).getD .non) i=d:=by
 show(b[i]?).getD .non=d;rw[h];rfl
def dg{i:Int}(h:0<=i)(b:i < 1000):lim i=aN:=by simp only[lim,bAE,decide_eq_true_eq];lia
def MZ{n:Nat}{lo:Int}{T:Tg}{c:XA}{v:Rho}{Q:List D->Sto->Prop}(f:Nat->D)(I:n<=1000)(step:∀ (i:Nat),i < n->∃b,ax T (.int (lo+i)) v=aw b/\Ok (c b S) λE j=>E=[f i]/\j=S)(q:Q ((Zk n).map f) S) :
  Ok (bu (nxR lo n) T c v LF 0 S) λE S2=>E.length<=100000/\Q E S2:=by
 refine vJ (by lia) (λi d h=>h=S/\d=(Zk i).map f) (λi d h hi ⟨e,u⟩=>?_) (λE h ⟨e,u⟩=>?_) ⟨rfl,rfl⟩
 ·subst e;obtain⟨b,z,E,j,B,y,C⟩:=step i hi;exact⟨b,z,E,j,B,C,by rw[u,y,Xe,ZF];rfl⟩
 ·subst e u;exact⟨by rw[Za,ZG];lia,q⟩
abbrev mid(M:List (List Int))(n c a:Nat):List (List Int):=(Zk n).map λi=>if i < a then Dw.aY M n c i else (M[i]?).getD []
def jt{M:List (List Int)}{n c a i:Nat}(hi:i < n):(mid M n c a)[i]?=aw (if i < a then Dw.aY M n c i else (M[i]?).getD []):=by
 unfold mid;rw[Zp,Yz hi];rfl
def CL{M:List (List Int)}{n c:Nat}(h:Dw.Mat n M):mid M n c 0=M:=by
 apply YV;intro i;by_cases hi:i < n
 ·rw[jt hi,if_neg (by lia)];have:i < M.length:=by rw[h.len];exact hi
  rw[gEG this];rfl
 ·rw[Zs (by unfold mid;rw[Za,ZG];lia),Zs (by rw[h.len];lia)]
def GK{M:List (List Int)}{n c:Nat}:mid M n c n=(Zk n).map (Dw.aY M n c):=by
 unfold mid;refine Yh λi hi=>?_;rw[if_pos (ZO.mp hi)]
def GL{M:List (List Int)}{n c a:Nat}(d:a < n):(mid M n c a).set a (Dw.aY M n c a)=mid M n c (a+1):=by
 apply YV;intro i;by_cases hi:i < n
 ·rw[jt hi];by_cases b:i=a
  ·subst b;rw[ZU (by unfold mid;rw[Za,ZG];lia),if_pos (by lia)]
  ·rw[Zv (Ne.symm b),jt hi];by_cases h:i < a
   ·rw[if_pos h,if_pos (by lia)]
   ·rw[if_neg h,if_neg (by lia)]
 ·rw[Zs (by rw[ZY];unfold mid;rw[Za,ZG];lia),Zs (by unfold mid;rw[Za,ZG];lia)]
def Qe{M:List (List Int)}{n c a b:Nat}(h:Dw.Mat n M)(d:c < n)(hb:b < n):Dw.mg2 (mid M n c a) c b=Dw.mg2 M c b:=by
 unfold Dw.mg2;rw[jt d];split
 ·rw[ZW,Dw.rZ M hb];obtain⟨_,_,_,_,f,_⟩:=h.at d d;show(if Dw.mg2 M c c+Dw.mg2 M c b < Dw.mg2 M c b then Dw.mg2 M c c+Dw.mg2 M c b else Dw.mg2 M c b)=_;rw[if_neg (by lia)];rfl
 ·rfl
def Qg{M:List (List Int)}{n c a b:Nat}(h:a < n):Dw.mg2 (mid M n c a) a b=Dw.mg2 M a b:=by
 unfold Dw.mg2;rw[jt h,if_neg (ZR _)];rfl
def RowsS.at{b:List D}{M:List (List Int)}(h:RowsS p S b M){n:Nat}{L:Nat}(f:S[L]?=aw (.lst b)){i j:Int}(I:0<=i)(J:0<=j)(d:∃r x,M[i.toNat]?=aw r/\r[j.toNat]?=aw x/\x=Dw.mg2 M i.toNat j.toNat) :
  ∃a,ixS (.ref L) (.int i) S=aw (.ref a,S)/\ixS (.ref a) (.int j) S=aw (.int (Dw.mg2 M i.toNat j.toNat),S):=by
 obtain⟨r,x,q,c,ex⟩:=d;obtain⟨a,E,u,z⟩:=h.row _ r q;exact⟨a,dR f I E,dR z J (by rw[Zp,c,ex];rfl)⟩
def vW{M:List (List Int)}{n i j:Nat}(f:M.length=n)(c:∀r ∈ M,r.length=n)(hi:i < n)(d:j < n):∃r x,M[i]?=aw r/\r[j]?=aw x/\x=Dw.mg2 M i j:=by
 have h:i < M.length:=by lia
 have b:j < M[i].length:=by rw[c _ (ZJ h)];exact d
 refine⟨M[i],M[i][j],gEG h,gEG b,?_⟩;unfold Dw.mg2;rw[gEG h,ZW,gEG b];rfl
def CM{M:List (List Int)}{n c a:Nat}(h:Dw.Mat n M):∀r ∈ mid M n c a,r.length=n:=λr b=>by
 unfold mid at b;obtain⟨i,hi,rfl⟩:=Zu.mp b;have hi:=ZO.mp hi;split
 ·exact Dw.rY M n c i
 ·have:i < M.length:=by rw[h.len];exact hi
  rw[gEG this];exact h.row _ (ZJ this)
def GM{M:List (List Int)}{n c a:Nat}:(mid M n c a).length=n:=by unfold mid;rw[Za,ZG]
def RowsS.set{c:List D}{M:List (List Int)}{L i a:Nat}{r:List Int}(h:RowsS p S c M)(y:S[L]?=aw (.lst c))(hi:i < M.length)(q:a ≠ p)(z:S[a]?=aw (.lst (r.map D.int)))(u:a ≠ L)(v:∀ (i:Nat) r b,M[i]?=aw r->c[i]?=aw (D.ref b)->b ≠ L):RowsS p (S.set L (.lst (c.set i (.ref a)))) (c.set i (.ref a)) (M.set i r):=by
 refine⟨by rw[ZY,ZY];exact h.len,λj n d=>?_⟩;by_cases f:j=i
 ·subst f;rw[ZU hi] at d;cases d;exact⟨a,by rw[ZU (by rw[h.len];exact hi)],q,by rw[Zv (Ne.symm u)];exact z⟩
 ·rw[Zv (Ne.symm f)] at d;obtain⟨b,E,nb,Z⟩:=h.row j n d;have:=v j n b d E;exact⟨b,by rw[Zv (Ne.symm f)];exact E,nb,by rw[Zv (Ne.symm this)];exact Z⟩
def GN{c:List D}{M:List (List Int)}{L n:Nat}(h:RowsS p S c M)(j:S[L]?=aw (.lst c))(v:∀r ∈ M,0 < r.length):∀ (i:Nat) r b,M[i]?=aw r->c[i]?=aw (D.ref b)->b ≠ L:=λi r b q E u=>by
 obtain⟨B,f,_,z⟩:=h.row i r q;rw[E] at f;cases f;rw[u,j] at z;cases z;rw[Zp] at E;cases d:r[i]? with
 |none=>rw[d] at E;cases E
 |some x=>rw[d] at E;cases E
end Lw
namespace Lw
open PySem Ev Sn L2
variable {p:Nat} {S:Sto} {k:Nat} {Q:D->Sto->Prop} {K:Sky}
def Kp.len{p:Nat}{S b:Sto}(h:Ev.Kp p S b)(f:p < b.length):S.length<=b.length:=by
 by_cases d:S.length<=b.length
 ·exact d
 ·exfalso;have c:b.length < S.length:=by lia
  have:=h b.length S[b.length] (by lia) (gEG c);rw[Zs (Ze _)] at this;cases this
def xz{n:Nat}{d:List D}{i:Int}{v:D}(b:S[n]?=aw (.lst d))(f:0<=i)(c:i.toNat < d.length):jI (.ref n) (.int i) v S=aw (S.set n (.lst (d.set i.toNat v))):=by
 have h:ixN d.length i=aw i.toNat:=by
  unfold ixN;rw[if_pos (by lia),if_pos (by lia)]
 simp only[jI,b,h,ZD]
def CN{n L:Nat}{f:List D}{M:List (List Int)}{u v w x:Option D}{pt:D}(y:S[L]?=aw (.lst f))(z:RowsS p S f M)(h:Dw.Mat n M)(J:n<=4)(q:∀d,Sm S d->Q (.tup (M.map az)) d) :
  rW (wSs (evC ag (k+1)) (fZ ag) 57 (e9.drop 3)) [aw pt,u,v,aw (.ref L),w,x] S (out Q):=by
 dsimp only[e9,Yu];k_is;refine⟨by rw[aq y];rfl,?_⟩;have le:f.length=n:=by rw[z.len,h.len]
 refine gC n (λi=>(f[i]?).getD .non) (λi b d=>d=S/\b=(M.take i).map az) (λi b d hi ⟨e,_⟩=>by subst e;rw[<-le];exact qR y _ xy) (by lia) (λi b c hi ⟨j,E⟩=>?_) (λC c ⟨j,E⟩=>⟨by rw[E,Za,Yb];lia,?_⟩) ⟨rfl,rfl⟩
 ·subst j;have B:i < M.length:=by rw[h.len];exact hi
  obtain⟨a,I,O,Z⟩:=z.row i M[i] (gEG B);simp only[I,ZW];refine⟨_,rfl,?_⟩;k_is;refine aa (show aj cL (.ref a) c=aw (.tup (M[i].map D.int),c) by simp only[aj,ao,aq Z,ZD,cL]) ?_;refine⟨rfl,?_⟩;rw[E,ZX B,ZF];rfl
 ·subst j;rw[Ye (by rw[h.len];exact Ze _)] at E;subst E;refine aa (show cL aS (M.map az) c=aw (.tup (M.map az),c) from rfl) ?_;k_is;exact q c (Sm.refl _)
def CO(h:Pot p S)(q:∀n M z,Dr p S z->Dw.Mat n M->1<=n->n<=4->Dw.rX n n M->Q (.tup (M.map az)) z):Ok (evC ag (k+2) 60 [.ref p] S) Q:=by
 refine am (d:=iJ) (ρ:=[aw (.ref p),aD,aD,aD,aD,aD]) rfl rfl ?_;dsimp only[iJ,e9];k_is;refine⟨rfl,aE h (by decide) (by decide) λr0 S0 r1 r2 d0=>?_⟩;k_is;refine⟨rfl,aE d0.pot (by decide) (by decide) λf0 S1 f1 f2 d01=>?_⟩;k_is;have d1:=d0.trans d01;obtain⟨n,rfl⟩:∃n:Nat,r0=(n:Int):=⟨r0.toNat,by lia⟩
 obtain⟨X,at1,hf⟩:∃e:Int,atI [D.int 3,D.int 12,D.int 40] f0=aw (D.int e)/\0 < e/\e<=40:=by
  have:f0=0\/f0=1\/f0=2:=by lia
  rcases this with rfl |rfl |rfl
  ·exact⟨3,rfl,by decide,by decide⟩
  ·exact⟨12,rfl,by decide,by decide⟩
  ·exact⟨40,rfl,by decide,by decide⟩
 refine⟨_,at1,?_⟩;k_is;have e1:((1:Int)+n).toNat=n+1:=by lia
 have l1:lim (1+(n:Int))=aN:=dg (by lia) (by lia);refine⟨l1,?_⟩;rw[e1];refine vJ (by lia) (λi B z=>Dr p S1 z/\∃M:List (List Int),M.length=i/\RowsS p z B M/\∀r ∈ M,r.length=n+1/\∀x ∈ r,1<=x/\x<=99) (λi B I hi ⟨d2,M,lM,rM,bM⟩=>⟨_,rfl,?_⟩) (λE I ⟨d2,M,lM,rM,bM⟩=>⟨by rw[rM.len];lia,?_⟩) ⟨Dr.refl d1.pot,[],rfl,RowsS.nil,λr f=>by simp at f⟩
 ·k_is;refine⟨l1,?_⟩;rw[e1];refine vJ (by lia) (λj B z=>Dr p I z/\∃r:List Int,B=r.map D.int/\r.length=j/\∀x ∈ r,1<=x/\x<=99) (λj B S3 hj ⟨J,r,ea,lr,br⟩=>⟨_,rfl,?_⟩) (λE S3 ⟨J,r,ea,lr,br⟩=>⟨by rw[ea,Za];lia,?_⟩) ⟨Dr.refl d2.pot,[],rfl,rfl,λx hx=>by simp at hx⟩
  ·k_is;refine⟨rfl,aE J.pot hf.1 (by lia) λx S4 x1 x2 d4=>?_⟩;k_is;refine⟨J.trans d4,r++[1+x],by rw[ea,ZF];rfl,by simp[lr],λy hy=>?_⟩;rcases ZS.mp hy with hy |hy
   ·exact br y hy
   ·simp at hy;lia
  ·subst ea;k_is;have lt:=J.pot.lt;refine⟨(d2.trans J).thenSm (Sm.app _ _),M++[r],by simp[lM],((rM.keep J.kp).keep (Sm.app _ _).kp).snoc (by lia) aC,λr' hr'=>?_⟩;rcases ZS.mp hr' with hr' |hr'
   ·exact bM r' hr'
   ·simp at hr';subst hr';exact⟨lr,br⟩
 ·have lt2:=d2.pot.lt;have J:Dr p S (I++[Ob.lst E]):=(d1.trans d2).thenSm (Sm.app _ _);have r3:RowsS p (I++[Ob.lst E]) E M:=rM.keep (Sm.app _ _).kp;have a3:(I++[Ob.lst E])[I.length]?=aw (Ob.lst E):=aC;have m3:Dw.Mat (n+1) M:=⟨lM,λr f=>(bM r f).1,λr f=>(bM r f).2⟩;have lS:S.length<=I.length:=Kp.len (d1.trans d2).kp lt2;have ne3:I.length ≠ p:=by lia
  revert a3 r3 J;generalize I++[Ob.lst E]=S3;generalize I.length=L at *;intro J r3 a3;k_is;refine⟨l1,?_⟩;rw[e1];refine gB (by lia) (λc ρ z=>Dr p S z/\∃E M u v,ρ=[aw (.ref p),aw (.int (1+(n:Int))),aw (.int X),aw (.ref L),u,v]/\z[L]?=aw (.lst E)/\RowsS p z E M/\Dw.Mat (n+1) M/\Dw.rX (n+1) c M) (λc ρ S4 hc ⟨d4,E,M,u,v,U,C,f,O,tr⟩=>?_) (λρ S4 ⟨d4,E,M,u,v,U,C,f,O,tr⟩=>?_) ⟨J,E,M,aD,aD,rfl,a3,r3,m3,λ_ _ _ _ _ h=>absurd h (Wq _)⟩
  ·subst U;refine⟨_,rfl,?_⟩;k_is;refine⟨l1,?_⟩;rw[e1];refine gB (by lia) (λa ρ z=>Dr p S z/\∃E v,ρ=[aw (.ref p),aw (.int (1+(n:Int))),aw (.int X),aw (.ref L),aw (.int (0+(c:Int))),v]/\z[L]?=aw (.lst E)/\RowsS p z E (mid M (n+1) c a)) (λa ρ S5 ha ⟨d5,E,v,U,C,f⟩=>?_) (λρ S5 ⟨d5,E,v,U,C,f⟩=>?_) ⟨d4,E,v,rfl,C,by rw[CL O];exact f⟩
   ·subst U;refine⟨_,rfl,?_⟩;k_is;refine⟨l1,?_⟩;rw[e1];have ml:=@GM M (n+1) c a;have mr:=CM (c:=c) (a:=a) O;have Z:∀x:Nat,((0:Int)+x).toNat=x:=λx=>by lia
    refine MZ (λb=>.int (if Dw.mg2 M a c+Dw.mg2 M c b < Dw.mg2 M a b then Dw.mg2 M a c+Dw.mg2 M c b else Dw.mg2 M a b)) (by lia) (λb hb=>⟨_,rfl,?_⟩) ?_
    ·k_is;obtain⟨x1,i1,j1⟩:=RowsS.at (n:=0) f C (i:=0+(a:Int)) (j:=0+(b:Int)) (by lia) (by lia) (by rw[Z,Z];exact vW ml mr ha hb);obtain⟨x2,i2,j2⟩:=RowsS.at (n:=0) f C (i:=0+(a:Int)) (j:=0+(c:Int)) (by lia) (by lia) (by rw[Z,Z];exact vW ml mr ha hc);obtain⟨x3,i3,j3⟩:=RowsS.at (n:=0) f C (i:=0+(c:Int)) (j:=0+(b:Int)) (by lia) (by lia) (by rw[Z,Z];exact vW ml mr hc hb);rw[Z,Z,Qg ha] at j1 j2;rw[Z,Z,Qe O hc hb] at j3;refine aa i1 (aa j1 (aa i2 (aa j2 (aa i3 (aa j3 ?_)))));k_is;exact⟨rfl,rfl⟩
    ·have ef:((Zk (n+1)).map λb=>D.int (if Dw.mg2 M a c+Dw.mg2 M c b < Dw.mg2 M a b then Dw.mg2 M a c+Dw.mg2 M c b else Dw.mg2 M a b))=(Dw.aY M (n+1) c a).map D.int:=by unfold Dw.aY;rw[ZL];rfl
     rw[ef];k_is;have lt5:=d5.pot.lt;have Y:=Sm.app S5 [Ob.lst ((Dw.aY M (n+1) c a).map D.int)] _ _ C;have lL:L < S5.length:=(Zb.mp C).1;have le:E.length=n+1:=by rw[f.len,ml]
     refine⟨_,xz Y (by lia) (by lia),?_⟩;k_is;rw[Z];have hr':RowsS p (S5++[Ob.lst ((Dw.aY M (n+1) c a).map D.int)]) E (mid M (n+1) c a):=f.keep (Sm.app _ _).kp;have hr2:=RowsS.set (i:=a) (a:=S5.length) (r:=Dw.aY M (n+1) c a) hr' Y (by lia) (by lia) aC (by lia) (GN (n:=0) hr' Y λr hh=>by rw[mr r hh];lia);rw[GL ha] at hr2;have kA:Ev.Kp p S ((S5++[Ob.lst ((Dw.aY M (n+1) c a).map D.int)]).set L (.lst (E.set a (.ref S5.length)))):=(d5.kp.trans (Sm.app _ _).kp).setNew lS;refine⟨⟨kA,((Dr.sm d5.pot (Sm.app _ _)).pot).setNe ne3⟩,_,_,rfl,?_,hr2⟩;rw[dQ (by rw[Zh];lia)]
   ·subst U;k_is;rw[GK] at f;exact⟨d5,E,_,_,_,rfl,C,f,Dw.Ar O hc,Dw.Ap O hc tr (Dw.D8 O hc)⟩
  ·subst U;have T:=CN (k:=k) (p:=p) (Q:=Q) (pt:=.ref p) (u:=aw (.int (1+(n:Int)))) (v:=aw (.int X)) (w:=u) (x:=v) C f O (by lia) λz sm=>q (n+1) M z (d4.thenSm sm) O (by lia) (by lia) tr;dsimp only[e9,Yu] at T;exact T
def tM:∀ {H:List (Int × Int)} {lo x y:Int},Ris lo H->lo < x->(∀q ∈ H,q.2 < x)->x < y->Ris lo (H++[(x,y)])
 |[],lo,x,y,_,h1,_,h3=>⟨h1,h3,trivial⟩
 |q::H,lo,x,y,h,h1,h2,h3=>by
  rw[Ris] at h;exact⟨h.1,h.2.1,tM h.2.2 (h2 q Zj) (λr b=>h2 r (Zi _ b)) h3⟩
def q8:∀ {H:List (Int × Int)} {lo:Int} {q:Int × Int},Ris lo H->q ∈ H->lo < q.1/\q.1 < q.2
 |q'::H,lo,q,h,hq=>by
  rw[Ris] at h;rcases Zn.mp hq with rfl |hq
  ·exact⟨h.1,h.2.1⟩
  ·have:=q8 h.2.2 hq
   lia
def tN:∀ {H:List (Int × Int)} {lo:Int},Ris lo H->∀ (i:Nat) q b,H[i]?=aw q->H[i+1]?=aw b->q.2 < b.1
 |q0::H,lo,h,0,q,b,e1,e2=>by
  rw[Ris] at h;cases e1;rw[YC] at e2;exact(q8 h.2.2 (Zc e2)).1
 |q0::H,lo,h,i+1,q,b,e1,e2=>by
  rw[Ris] at h;rw[YC] at e1 e2;exact tN h.2.2 i q b e1 e2
structure MeOk(r s:Int)(M:List (List Int))(H:List (Int × Int)):Prop where
 r0:0<=r
 r8:r<=8
 s0:0<=s
 s60:s<=60
 mat:Dw.Mat M.length M
 m1:1<=M.length
 m4:M.length<=4
 tri:Dw.rX M.length M.length M
 ris:Ris (-1) H
 h4:H.length<=4
 hb:∀q ∈ H,q.2<=9999
def vX(h:Pot p S)(q:∀r s M H J,Dr p S J->MeOk r s M H->Q (.tup [.int r,.int s,.tup (M.map az),.tup (H.map ac)]) J):Ok (evC ag (k+3) 61 [.ref p] S) Q:=by
 refine am (d:=fo) (ρ:=[aw (.ref p),aD,aD,aD,aD]) rfl rfl ?_;dsimp only[fo,jg];have lt:=h.lt;k_is;have d0:Dr p S (S++[Ob.lst []]):=Dr.sm h (Sm.app _ _);have a0:(S++[Ob.lst []])[Zd S]?=aw (Ob.lst (([]:List (Int × Int)).map ac)):=aC;have B:Zd S ≠ p:=by lia
 generalize S++[Ob.lst []]=S0 at *;refine⟨rfl,aE d0.pot (by decide) (by decide) λX S1 i1 i2 d1=>?_⟩;k_is
 obtain⟨fr,at1,hf⟩:∃e:Int,atI [D.int 1,D.int 5] X=aw (D.int e)/\0 < e/\e<=5:=by
  have:X=0\/X=1:=by lia
  rcases this with rfl |rfl
  ·exact⟨1,rfl,by decide,by decide⟩
  ·exact⟨5,rfl,by decide,by decide⟩
 refine⟨_,at1,?_⟩;refine⟨rfl,aE d1.pot hf.1 (by lia) λn0 S2 n1 n2 d2=>?_⟩;k_is;obtain⟨n,rfl⟩:∃n:Nat,n0=(n:Int):=⟨n0.toNat,by lia⟩;refine⟨dg (by lia) (by lia),?_⟩;rw[Zy];have d02:=(d0.trans d1).trans d2;have a2:=(d1.trans d2).kp _ _ B a0;refine gB (by lia) (λi ρ J=>Dr p S J/\∃ (H:List (Int × Int)) (b:Int) (u v:Option D),ρ=[aw (.ref p),aw (.ref (Zd S)),aw (.int b),u,v]/\J[Zd S]?=aw (.lst (H.map ac))/\H.length=i/\Ris (-1) H/\(∀q ∈ H,q.2 < b)/\0<=b/\b<=60 * i) (λi ρ S3 hi ⟨E,H,b,u,v,Y,hn,hl,hr,L,b0,b1⟩=>?_) (λρ S3 ⟨E,H,b,u,v,Y,hn,hl,hr,L,b0,b1⟩=>?_) ⟨d02,[],0,aD,aD,rfl,a2,rfl,trivial,λq hq=>by simp at hq,by decide,by decide⟩
 ·subst Y;refine⟨_,rfl,?_⟩;k_is;refine⟨rfl,aE E.pot (by decide) (by decide) λx S4 x1 x2 c=>?_⟩;k_is;have z:=c.kp _ _ B hn;refine⟨df z,?_⟩;refine⟨rfl,aE c.pot (by decide) (by decide) λy O y1 y2 f=>?_⟩;k_is;have j:=f.kp _ _ B z;rw[nv j (by rw[Za];lia)];k_is;have Z:Zd S < O.length:=(Zb.mp j).1;have f5:(O.set (Zd S) (Ob.lst (H.map ac++[D.tup [D.int (b+x),D.int (b+x+1+y)]])))[Zd S]?=aw (Ob.lst (H.map ac++[D.tup [D.int (b+x),D.int (b+x+1+y)]])):=dQ Z;refine aa (qS f5) (aa (show ixS (D.tup [D.int (b+x),D.int (b+x+1+y)]) (.int 1) (O.set (Zd S) (Ob.lst (H.map ac++[D.tup [D.int (b+x),D.int (b+x+1+y)]])))=aw (.int (b+x+1+y),_) from rfl) ?_);k_is;refine⟨⟨((E.kp.trans c.kp).trans f.kp).setNew (Ze _),f.pot.setNe B⟩,H++[(b+x,b+x+1+y)],_,_,_,rfl,by rw[f5,ZF];rfl,by rw[Zh,Zr];lia,tM hr (by lia) (λq hq=>by have:=L q hq;lia) (by lia),λq hq=>?_,by lia,by lia⟩;rcases ZS.mp hq with hq |hq
  ·have:=L q hq;lia
  ·rw[ZM.mp hq];show b+x+1+y < b+x+1+y+1;lia
 ·subst Y;k_is;refine⟨rfl,aE E.pot (by decide) (by decide) λI S4 j3 k3 c=>?_⟩;k_is
  obtain⟨r,T,h3⟩:∃e:Int,atI [D.int 8,D.int 1,D.int 2,D.int 3,D.int 0] I=aw (D.int e)/\0<=e/\e<=8:=by
   have:I=0\/I=1\/I=2\/I=3\/I=4:=by lia
   rcases this with rfl |rfl |rfl |rfl |rfl
   ·exact⟨8,rfl,by decide,by decide⟩
   ·exact⟨1,rfl,by decide,by decide⟩
   ·exact⟨2,rfl,by decide,by decide⟩
   ·exact⟨3,rfl,by decide,by decide⟩
   ·exact⟨0,rfl,by decide,by decide⟩
  refine⟨_,T,?_⟩;refine⟨rfl,aE c.pot (by decide) (by decide) λC O j5 k5 f=>?_⟩;k_is
  obtain⟨s,at5,h5⟩:∃e:Int,atI [D.int 0,D.int 2,D.int 9,D.int 60] C=aw (D.int e)/\0<=e/\e<=60:=by
   have:C=0\/C=1\/C=2\/C=3:=by lia
   rcases this with rfl |rfl |rfl |rfl
   ·exact⟨0,rfl,by decide,by decide⟩
   ·exact⟨2,rfl,by decide,by decide⟩
   ·exact⟨9,rfl,by decide,by decide⟩
   ·exact⟨60,rfl,by decide,by decide⟩
  refine⟨_,at5,?_⟩;refine⟨rfl,CO f.pot λm M S6 d6 hM m1 m4 tr=>?_⟩;have U:=((c.trans f).trans d6).kp _ _ B hn;refine aa (show aj cL (.ref (Zd S)) S6=aw (.tup (H.map ac),S6) by simp only[aj,ao,aq U,ZD,cL]) ?_;k_is;obtain rfl:=hM.len;exact q r s M H S6 (E.trans ((c.trans f).trans d6)) ⟨h3.1,h3.2,h5.1,h5.2,hM,m1,m4,tr,hr,by lia,λq hq=>by have:=L q hq;lia⟩
end Lw
namespace Lw
open PySem Ev Sn L2
variable {p:Nat} {S S':Sto} {k:Nat} {Q:D->Sto->Prop} {K:Sky}
structure Gs(p N hi:Nat)(S:Sto)(es:List D)(G:List (List Int)):Prop where
 pN:p < N
 at_:S[N]?=aw (.lst es)
 len:es.length=G.length
 row:∀ (i:Nat) g,G[i]?=aw g->∃a,es[i]?=aw (D.ref a)/\N < a/\a < hi/\S[a]?=aw (.lst (g.map D.int))
 inj:∀ (i j a:Nat),es[i]?=aw (D.ref a)->es[j]?=aw (D.ref a)->i=j
section
variable {N hi hi':Nat} {es:List D} {G:List (List Int)}
def Gs.keep(h:Gs p N hi S es G)(kp:Ev.Kp p S S'):Gs p N hi S' es G:=by
 have pN:=h.pN;refine⟨h.pN,kp _ _ (by lia) h.at_,h.len,λi g b=>?_,h.inj⟩;obtain⟨a,e,n,c,z⟩:=h.row i g b;exact⟨a,e,n,c,kp _ _ (by lia) z⟩
def Gs.up(h:Gs p N hi S es G)(c:hi<=hi'):Gs p N hi' S es G:=by
 refine⟨h.pN,h.at_,h.len,λi g b=>?_,h.inj⟩;obtain⟨a,e,n,d,z⟩:=h.row i g b;exact⟨a,e,n,by lia,z⟩
def Gs.other(h:Gs p N hi S es G){f:Nat}{o:Ob}(d:hi<=f)(hN:N < hi):Gs p N hi (S.set f o) es G:=by
 refine⟨h.pN,by rw[Zv (by lia)];exact h.at_,h.len,λi g b=>?_,h.inj⟩;obtain⟨a,e,n,c,z⟩:=h.row i g b;exact⟨a,e,n,c,by rw[Zv (by lia)];exact z⟩
def Gs.snoc(h:Gs p N S.length S es G){g:List Int}:Gs p N (S.length+1) ((S++[Ob.lst (g.map D.int)]).set N (.lst (es++[D.ref S.length]))) (es++[D.ref S.length]) (G++[g]):=by
 have L:N < S.length:=(Zb.mp h.at_).1
 have O:∀ (i a:Nat),es[i]?=aw (D.ref a)->a < S.length:=λi a e=>by
  have hi:i < G.length:=by rw[<-h.len];exact(Zb.mp e).1
  obtain⟨b,E,u,n,_⟩:=h.row i G[i] (gEG hi);rw[e] at E;cases E;exact n
 refine⟨h.pN,by rw[dQ (by rw[Zh];lia)],by rw[Zh,Zh,h.len];rfl,λi B d=>?_,λi j a C E=>?_⟩
 ·by_cases hi:i < G.length
  ·rw[Zq hi] at d;obtain⟨a,e,u,n,z⟩:=h.row i B d;exact⟨a,by rw[Zq (by rw[h.len];exact hi)];exact e,u,by lia,by rw[Zv (by lia),Zq n];exact z⟩
  ·have f:=(Zb.mp d).1;rw[Zh,Zr] at f;obtain rfl:i=G.length:=by lia
   rw[Zm (Ze _),Z7] at d;cases d;exact⟨S.length,by rw[Zm (by rw[h.len];lia),h.len,Z7];rfl,L,by lia,by rw[Zv (by lia),aC]⟩
 ·have c:∀ (i:Nat),(es++[D.ref S.length])[i]?=aw (D.ref a)->(i < es.length/\es[i]?=aw (D.ref a))\/(i=es.length/\a=S.length):=λi e=>by
   by_cases hi:i < es.length
   ·rw[Zq hi] at e;exact .inl ⟨hi,e⟩
   ·have f:=(Zb.mp e).1;rw[Zh,Zr] at f;obtain rfl:i=es.length:=by lia
    rw[Zm (Ze _),Z7] at e;cases e;exact .inr ⟨rfl,rfl⟩
  rcases c i C with ⟨y,q⟩ |⟨y,q⟩ <;> rcases c j E with ⟨v,Z⟩ |⟨v,Z⟩
  ·exact h.inj i j a q Z
  ·have:=O i a q;lia
  ·have:=O j a Z;lia
  ·lia
def Gs.setRow(h:Gs p N hi S es G){i a:Nat}{g:List Int}(hi':i < G.length)(n:es[i]?=aw (D.ref a)):Gs p N hi (S.set a (.lst (g.map D.int))) es (G.set i g):=by
 obtain⟨b,q,u,C,B⟩:=h.row i G[i] (gEG hi');rw[n] at q;cases q;have L:=(Zb.mp B).1;refine⟨h.pN,by rw[Zv (by lia)];exact h.at_,by rw[ZY];exact h.len,λj v d=>?_,h.inj⟩;by_cases f:j=i
 ·subst f;rw[ZU hi'] at d;cases d;exact⟨a,n,u,C,dQ L⟩
 ·rw[Zv (Ne.symm f)] at d;obtain⟨c,E,m1,y,Z⟩:=h.row j v d;have:c ≠ a:=λz=>f (by rw[z] at E;exact h.inj j i a E n);exact⟨c,E,m1,y,by rw[Zv (Ne.symm this)];exact Z⟩
end
abbrev GX(x:Int)(n:Nat)(r s:Int)(g:List Int):Prop:=∃b j h L d f c:Int,g=[b,j,h,L,d,f,c]/\0<=b/\b < n/\0<=j/\j+s<=h/\h<=L/\L<=x/\0<=d/\d<=x/\0<=f/\f<=99/\0<=c/\c<=r
def GX.up{x y:Int}{n:Nat}{r s:Int}{g:List Int}(h:GX x n r s g)(u:x<=y):GX y n r s g:=by
 obtain⟨b,j,q,L,d,f,c,e,z⟩:=h;exact⟨b,j,q,L,d,f,c,e,by omega⟩
abbrev GB(n:Nat)(r s:Int)(g:List Int):Prop:=GX 530 n r s g
structure SkOk(K:Sky):Prop where
 me:MeOk K.r K.s K.M K.H
 g7:K.G.length<=7
 gb:∀g ∈ K.G,GX 9999 K.M.length K.r K.s g
 nd:K.F.Nodup
 bd:∀x ∈ K.F,0<=x/\x < K.G.length
 rg:∀ (j:Nat) g,K.G[j]?=aw g->g.getD 6 0=0\/(j:Int) ∈ K.F
 ah:∀q,K.ah=aw q->0<=q.1/\q.1 < K.M.length/\0<=q.2/\q.2<=9999
def SkOk.vd(h:SkOk K):Vd K:=by
 refine⟨h.me.r0,h.me.r8,h.me.s0,h.me.s60,h.me.m1,h.me.m4,h.me.mat.row,h.me.ris,h.me.h4,λq e=>⟨(h.ah q e).1,(h.ah q e).2.1⟩,h.g7,λg b=>?_⟩;obtain⟨n,J,f,L,j,y,v,rfl,d,c,u,h4,_⟩:=h.gb g b;have:=h.me.s0;refine⟨rfl,d,c,?_⟩;show 0<=f
 lia
def bc{b:Type}{l:List b}{E:b->D}{S:Sto}:aj ca (.tup (l.map E)) S=aw (.int l.length,S):=by simp only[aj,ao,ca,Za]
def vY{b:Type}{l:List b}:l.all (λ_=>aN)=aN:=Yk.mpr λ_ _=>rfl
def tO{j:Type}{nx:Nxt}{T:Tg}{c:XA}{f:Rho}(l:List j)(E:j->D)(v:l.length<=1000)(h:∀i S',Sm S S'->nx i S'=aw ((l[i]?).map E))
  (step:∀ (i:Nat) a S',l[i]?=aw a->Sm S S'->∃b,ax T (E a) f=aw b/\Ok (c b S') λd y=>d=[.bl aN]/\Sm S' y) (q:∀S',Sm S S'->Q (.bl aN) S') :
  Ok (bu nx T c f LF 0 S) λd n=>d.length<=100000/\Ok (kN aS d n) Q:=by
 refine aX l E (λ_=>[.bl aN]) v (λ_ _=>Ze _) h step λS' u=>?_;rw[aU];refine aa (qO l (λ_=>aN) S') ?_;rw[vY];exact q S' u
def vZ{i a b:Int}(h:a<=i)(c:i<=b)(q:Q (.bl aN) S):Ok (evC ag (k+2) 1 [.int i,.int a,.int b] S) Q:=pD (p:=0) bz (by
 rw[show Dw.ip (.int i) a b=aN by simp only[Dw.ip,decide_eq_true h,decide_eq_true c,X2]];exact q)
def GO{i:Int}(h:0<=i)(b:i<=9999)(q:Q (.bl aN) S):Ok (evC ag (k+3) 2 [.int i] S) Q:=zg (p:=0) bz (by
 rw[show Dw.ip (.int i) 0 9999=aN by simp only[Dw.ip,decide_eq_true h,decide_eq_true b,X2]];exact q)
def nK{ts:List Dw.D}{d:List D}{a b:Int}(h:TDs 0 S ts d)(f:a<=ts.length)(c:(ts.length:Int)<=b)(q:Q (.bl aN) S):Ok (evC ag (k+1) 3 [.tup d,.int a,.int b] S) Q:=Cz (c9 h) (by
 rw[show Dw.isT (.tup ts) a b=aN by simp only[Dw.isT,decide_eq_true f,decide_eq_true c,X2]];exact q)
def lu{M:List (List Int)}:(Dw.Aq M).length=M.length:=by unfold Dw.Aq;rw[Za]
def Qh{r:List Int}{n:Nat}(f:r.length=n)(c:n<=4)(b:∀x ∈ r,1<=x/\x<=99)(q:∀S',Sm S S'->Q (.bl aN) S'):Ok (evC ag (k+3) 8 [az r,.int n] S) Q:=by
 refine am (d:=ff) (ρ:=[aw (az r),aw (.int n)]) rfl rfl ?_;dsimp only[ff,jb];rw[show az r = .tup (r.map D.int) from rfl];k_is;refine⟨rfl,nK (jq r) (by rw[Za];lia) (by rw[Za];lia) ?_⟩;k_is;refine tO r D.int (by lia) cv (λi x S' h sm=>⟨_,rfl,?_⟩) q;k_is;have:=b x (Zc h);exact⟨rfl,vZ this.1 this.2 ⟨rfl,Sm.refl _⟩⟩
def CP{es:List D}(h:∀e ∈ es,e = .bl aN)(S:Sto):kN aS es S=aw (.bl aN,S):=by
 have e:es.map (λ_=>D.bl aN)=es:=by
  conv=>rhs;rw[<-Wm es]
  exact Yh λx b=>(h x b).symm
 rw[<-e];exact(qO es (λ_=>aN) S).trans (by rw[vY])
def Qj(sk:SkOk K)(q:∀S',Sm S S'->Q (.bl aN) S'):Ok (evC ag (k+1) 9 [.tup (K.M.map az)] S) Q:=by
 refine am (d:=bj) (ρ:=[aw (.tup (K.M.map az)),aD]) rfl rfl ?_;dsimp only[bj,bJ];have V:=sk.vd;have m4:=sk.me.m4;k_is;refine aa bc ?_;refine⟨_,rfl,by lia,?_⟩;k_is;have y:(S++[Ob.lst ((Zk K.M.length).map λj=>D.int (Int.ofNat j))])[S.length]?=aw (.lst ((Zk K.M.length).map λj=>D.int (Int.ofNat j))):=aC;have B:∀S',Sm (S++[Ob.lst ((Zk K.M.length).map λj=>D.int (Int.ofNat j))]) S'->(au S' S.length).isSome=aN:=λS' sm=>by rw[aq (sm _ _ y)];rfl
 refine⟨B _ (Sm.refl _),?_⟩;refine(vH y (by lia) (λa=>(Zk K.M.length).flatMap λb=>(Zk K.M.length).flatMap λc=>[.bl aN]) λa S1 L h=>⟨_,rfl,?_⟩).mono λes O ⟨Y,sm⟩=>?_
 ·k_is;refine⟨B _ h,?_⟩;refine vH (h _ _ y) (by lia) _ λb O hb v=>⟨_,rfl,?_⟩;k_is;refine⟨B _ (h.trans v),?_⟩;refine vH (v _ _ (h _ _ y)) (by lia) _ λc z J C=>⟨_,rfl,?_⟩;k_is;obtain⟨r1,U,X⟩:=jX (S:=z) V (a:=a) (b:=b) (by lia) (by lia) (by lia) (by lia);obtain⟨r2,Z,T⟩:=jX (S:=z) V (a:=a) (b:=c) (by lia) (by lia) (by lia) (by lia);obtain⟨r3,e5,I⟩:=jX (S:=z) V (a:=c) (b:=b) (by lia) (by lia) (by lia) (by lia);refine aa U (aa X (aa Z (aa T (aa e5 (aa I ?_)))));k_is;refine⟨?_,Sm.refl _⟩;have t:=sk.me.tri a b c L hb J;rw[decide_eq_true (show gp K a b<=gp K a c+gp K c b from t)]
 ·subst Y
  have all:∀e ∈ (Zk K.M.length).flatMap λa=>(Zk K.M.length).flatMap λb=>(Zk K.M.length).flatMap λc=>[D.bl aN],e = .bl aN:=λe u=>by
   obtain⟨a,_,u⟩:=Ys.mp u;obtain⟨b,_,u⟩:=Ys.mp u;obtain⟨c,_,u⟩:=Ys.mp u;exact ZM.mp u
  refine⟨?_,aa (CP all _) (q _ ((Sm.app S _).trans sm))⟩;have f3:∀a b:Nat,((Zk K.M.length).flatMap λc=>[D.bl aN]).length<=4:=λ_ _=>by rw[aU (Zk K.M.length) (λ_=>D.bl aN),Za,ZG];exact m4
  have E:∀a:Nat,((Zk K.M.length).flatMap λb=>(Zk K.M.length).flatMap λc=>[D.bl aN]).length<=K.M.length * 4:=λa=>Dw.wz λb _=>f3 a b;have f1:=Dw.wz (n:=K.M.length) (m:=K.M.length * 4) (f:=λa=>(Zk K.M.length).flatMap λb=>(Zk K.M.length).flatMap λc=>[D.bl aN]) λa _=>E a;have:K.M.length * (K.M.length * 4)<=4 * (4 * 4):=Wu m4 (Wu m4 (Ze _))
  lia
def M0(sk:SkOk K)(q:∀S',Sm S S'->Q (.bl aN) S'):Ok (evC ag (k+4) 7 [.tup (K.M.map az)] S) Q:=by
 refine am (d:=iC) (ρ:=[aw (.tup (K.M.map az))]) rfl rfl ?_;dsimp only[iC,m6];have m1:=sk.me.m1;have m4:=sk.me.m4;k_is;refine⟨rfl,nK (jY K.M) (by rw[lu];lia) (by rw[lu];lia) ?_⟩;k_is;refine tO K.M az (by lia) cv (λi r S' f sm=>⟨_,rfl,?_⟩) λS' sm=>?_
 ·k_is;refine aa bc ?_;have h:=Zc f;exact⟨rfl,Qh (sk.me.mat.row r h) m4 (sk.me.mat.ent r h) λc b=>⟨rfl,b⟩⟩
 ·k_is;exact⟨rfl,Qj sk λc b=>q c (sm.trans b)⟩
def zk{z:Int × Int}(f:0<=z.1)(c:z.1 < z.2)(h:z.2<=9999)(q:Q (.bl aN) S):Ok (evC ag (k+4) 11 [ac z] S) Q:=by
 refine am (d:=fh) (ρ:=[aw (ac z)]) rfl rfl ?_;dsimp only[fh,jc];rw[show ac z = .tup [.int z.1,.int z.2] from rfl];have X:ixS (.tup [D.int z.1,.int z.2]) (.int 0) S=aw (.int z.1,S):=rfl;have b:ixS (.tup [D.int z.1,.int z.2]) (.int 1) S=aw (.int z.2,S):=rfl;k_is;refine⟨rfl,nK (aI bz (aI bz b7)) (ZB _) (ZB _) ?_⟩;k_is;refine aa X ⟨rfl,GO f (by lia) ?_⟩;k_is;refine aa b ⟨rfl,GO (by lia) h ?_⟩;k_is;refine aa X (aa b ?_);k_is;rw[decide_eq_true c];exact q
def GP(sk:SkOk K)(q:∀S',Sm S S'->Q (.bl aN) S'):Ok (evC ag (k+5) 10 [.tup (K.H.map ac)] S) Q:=by
 refine am (d:=gh) (ρ:=[aw (.tup (K.H.map ac))]) rfl rfl ?_;dsimp only[gh,kq];have h4:=sk.me.h4;k_is;refine⟨rfl,nK (jk K.H) (by rw[Za];lia) (by rw[Za];lia) ?_⟩;k_is;refine tO K.H ac (by lia) cv (λi z S' f sm=>⟨_,rfl,?_⟩) λS' sm=>?_
 ·k_is;have a:=q8 sk.me.ris (Zc f);exact⟨rfl,zk (by lia) a.2 (sk.me.hb z (Zc f)) ⟨rfl,Sm.refl _⟩⟩
 ·k_is;refine aa bc ?_;k_is;refine⟨⟨by decide,dg (by lia) (by lia)⟩,?_⟩;refine Fi (by lia) (λ_=>aN) (λi b hi c=>⟨_,rfl,?_⟩) λb c=>?_
  ·k_is;have h:i+1 < K.H.length:=by lia
   have j:(1:Int)+i=((i+1:Nat):Int):=by lia
   have Z:((i+1:Nat):Int) - 1=((i:Nat):Int):=by lia
   rw[j,Z];refine aa (pE (d:=ac K.H[i+1]) (by lia) (by rw[Zy,Zp,gEG h];rfl)) (aa (show ixS (ac K.H[i+1]) (.int 0) b=aw (.int K.H[i+1].1,b) from rfl) ?_);refine aa (pE (d:=ac K.H[i]) (by lia) (by rw[Zy,Zp,gEG (by lia)];rfl)) (aa (show ixS (ac K.H[i]) (.int 1) b=aw (.int K.H[i].2,b) from rfl) ?_);k_is;rw[decide_eq_true (tN sk.me.ris i _ _ (gEG (by lia)) (gEG h))];exact⟨rfl,Sm.refl _⟩
  ·refine aa (qO _ (λ_=>aN) _) ?_;rw[vY];exact q b (sm.trans c)
def CQ(sk:SkOk K)(q:∀S',Sm S S'->Q (.bl aN) S'):Ok (evC ag (k+6) 6 [meE K] S) Q:=by
 refine am (d:=gg) (ρ:=[aw (meE K),aD,aD,aD,aD]) rfl rfl ?_;dsimp only[gg,ko];rw[show meE K = .tup [.int K.r,.int K.s,.tup (K.M.map az),.tup (K.H.map ac)] from rfl];k_is;refine⟨rfl,nK (aI bz (aI bz (aI (c9 (jY K.M)) (aI (c9 (jk K.H)) b7)))) (ZB _) (ZB _) ?_⟩;k_is;refine⟨rfl,vZ sk.me.r0 sk.me.r8 ?_⟩;k_is;refine⟨rfl,vZ sk.me.s0 sk.me.s60 ?_⟩;k_is;refine⟨rfl,M0 sk λh c=>?_⟩;k_is;exact⟨rfl,GP sk λb f=>q b (c.trans f)⟩
def CT{i:Int}(h:0<=i)(b:i < K.M.length)(q:Q (.bl aN) S):Ok (evC ag (k+3) 12 [meE K,.int i] S) Q:=by
 refine am (d:=jN) (ρ:=[aw (meE K),aw (.int i)]) rfl rfl ?_;dsimp only[jN,o7];k_is;refine aa me2 (aa bc ?_);k_is;exact⟨rfl,vZ h (by lia) q⟩
def GQ(sk:SkOk K)(q:Q (.bl aN) S):Ok (evC ag (k+4) 16 [meE K,ahE K.ah] S) Q:=by
 refine am (d:=iE) (ρ:=[aw (meE K),aw (ahE K.ah)]) rfl rfl ?_;dsimp only[iE,m7];cases h:K.ah with
 |none=>k_is;exact aa (show ak .is (ahE aD) .non S=aw (.bl aN,S) from rfl) q
 |some z=>
  obtain⟨b,c,f,B⟩:=sk.ah z h;have X:ixS (.tup [D.int z.1,.int z.2]) (.int 0) S=aw (.int z.1,S):=rfl;have j:ixS (.tup [D.int z.1,.int z.2]) (.int 1) S=aw (.int z.2,S):=rfl;rw[show ahE (aw z) = .tup [.int z.1,.int z.2] from rfl];k_is;refine aa (show ak .is (.tup [D.int z.1,.int z.2]) .non S=aw (.bl aS,S) from rfl) ?_;k_is;refine⟨rfl,nK (aI bz (aI bz b7)) (ZB _) (ZB _) ?_⟩;k_is;refine aa X ⟨rfl,CT b c ?_⟩;k_is;exact aa j ⟨rfl,GO f B q⟩
def CU(sk:SkOk K){g:List Int}(J:g ∈ K.G)(q:∀S',Sm S S'->Q (.bl aN) S'):Ok (evC ag (k+4) 18 [meE K,az g] S) Q:=by
 obtain⟨h,j,f,L,b,n,c,rfl,B,z,b0,C,O,X,Z,Y,I,U,v,T⟩:=sk.gb g J;have s0:=sk.me.s0;refine am (d:=gj) (ρ:=[aw (meE K),aw (az [h,j,f,L,b,n,c]),aD,aD,aD,aD,aD,aD,aD]) rfl rfl ?_;dsimp only[gj,kr];rw[show az [h,j,f,L,b,n,c] = .tup [.int h,.int j,.int f,.int L,.int b,.int n,.int c] from rfl];k_is;refine⟨rfl,nK (jq [h,j,f,L,b,n,c]) (ZB _) (ZB _) ?_⟩;k_is;refine tO [j,f,L,b] D.int (by show 4<=1000;decide) (cv (l:=[j,f,L,b]) (E:=D.int)) (λi x S' y sm=>⟨_,rfl,?_⟩) λS' sm=>?_
 ·k_is;have u:=Zc y;simp only[Zn,Wh,or_false] at u;refine⟨rfl,GO ?_ ?_ ⟨rfl,Sm.refl _⟩⟩
  ·rcases u with rfl |rfl |rfl |rfl <;> lia
  ·rcases u with rfl |rfl |rfl |rfl <;> lia
 ·k_is;refine aa me1 ?_;k_is;rw[decide_eq_true C];k_is;rw[decide_eq_true O];k_is;refine⟨rfl,CT B z ?_⟩;k_is;refine⟨rfl,vZ I U ?_⟩;k_is;refine aa me0 ⟨rfl,vZ v T (q S' sm)⟩
def zl(sk:SkOk K)(q:∀S',Sm S S'->Q (.bl aN) S'):Ok (evC ag (k+5) 17 [meE K,.tup (K.G.map az)] S) Q:=by
 refine am (d:=dF) (ρ:=[aw (meE K),aw (.tup (K.G.map az))]) rfl rfl ?_;dsimp only[dF,hZ];have g7:=sk.g7;k_is;refine⟨rfl,nK (jY K.G) (by rw[lu];lia) (by rw[lu];lia) ?_⟩;k_is;refine tO K.G az (by lia) cv (λi g S' h sm=>⟨_,rfl,?_⟩) q;k_is;exact⟨rfl,CU sk (Zc h) λc b=>⟨rfl,b⟩⟩
def tP{X:List Int}{N:Nat}(nd:X.Nodup)(bd:∀x ∈ X,0<=x/\x < N)(g7:N<=7)(q:∀S',Sm S S'->Q (.bl aN) S'):Ok (evC ag (k+3) 4 [.tup (X.map D.int),.int N] S) Q:=by
 refine am (d:=fe) (ρ:=[aw (.tup (X.map D.int)),aw (.int N)]) rfl rfl ?_;dsimp only[fe,ja];have L:=Dw.bT N X nd bd;k_is;refine⟨rfl,nK (jq X) (by rw[Za];lia) (by rw[Za];lia) ?_⟩;k_is;refine tO X D.int (by lia) cv (λi x S' h sm=>⟨_,rfl,?_⟩) λS' sm=>?_
 ·k_is;have:=bd x (Zc h);exact⟨rfl,vZ this.1 (by lia) ⟨rfl,Sm.refl _⟩⟩
 ·k_is;refine tO X D.int (by lia) cv (λi x c h b=>⟨_,rfl,?_⟩) λc b=>q c (sm.trans b);k_is;refine⟨rfl,aa (B4 X x c) ?_⟩;k_is;rw[show((X.count x:Nat):Int)=1 by rw[List.Nodup.count nd,if_pos (Zc h)];rfl];exact⟨rfl,Sm.refl _⟩
def GR(sk:SkOk K)(q:∀S',Sm S S'->Q (.bl aN) S'):Ok (evC ag (k+4) 19 [.tup (K.G.map az),.tup (K.F.map D.int)] S) Q:=by
 refine am (d:=gk) (ρ:=[aw (.tup (K.G.map az)),aw (.tup (K.F.map D.int))]) rfl rfl ?_;dsimp only[gk,ku];have g7:=sk.g7;k_is;refine aa bc ?_;refine⟨rfl,tP sk.nd sk.bd sk.g7 λn Y=>?_⟩;k_is;refine gC K.G.length (λi=>.tup [.int i,((K.G.map az)[i]?).getD .non]) (λi b S'=>Sm n S'/\b.length=i/\∀e ∈ b,e = .bl aN) (λi b S' hi _=>?_) (by lia) (λi b S' hi C=>?_) (λes S' y=>by obtain⟨f,X,u⟩:=y;exact⟨by lia,aa (CP u _) (q S' (Y.trans f))⟩) ⟨Sm.refl _,rfl,λe B=>by cases B⟩
 ·show enm (K.G.map az) i=_;unfold enm;rw[if_pos (by rw[Za];exact hi)];split
  ·rename_i v;rw[gEG (by rw[Za];exact v)];rfl
  ·rw[Zs (by rw[Za];lia)];rfl
 ·obtain⟨f,X,u⟩:=C;obtain⟨T,O,J,L,E,U,h,I,_⟩:=sk.gb K.G[i] (ZJ hi);have rg:=sk.rg i _ (gEG hi);have Z:((K.G.map az)[i]?).getD .non = .tup [.int T,.int O,.int J,.int L,.int E,.int U,.int h]:=by rw[Zp,gEG hi,I];rfl
  rw[I] at rg;have rg:h=0\/(i:Int) ∈ K.F:=rg;rw[Z];have j:∀S',Sm n S'->Sm n S'/\(b++[D.bl aN]).length=i+1/\∀e ∈ b++[D.bl aN],e = .bl aN:=λS' f=>⟨f,by rw[Zh,Zr];lia,λe B=>(ZS.mp B).elim (u e) λz=>ZM.mp z⟩;refine⟨_,bm (by simp) (by simp),?_⟩;k_is;refine aa (show ixS (.tup [D.int T,.int O,.int J,.int L,.int E,.int U,.int h]) (.int 6) S'=aw (.int h,S') from rfl) ?_;k_is;cases c:decide (h=0) with
  |true=>k_is;exact j S' f
  |false=>
   k_is;refine aa (show ak .isin (.int (i:Int)) (.tup (K.F.map D.int)) S'=aw (.bl (aS != decide ((i:Int) ∈ K.F)),S') from ji aS K.F i S') ?_;rw[decide_eq_true (rg.resolve_left (of_decide_eq_false c))];exact j S' f
def Qk(sk:SkOk K)(q:∀S',Sm S S'->Q (.bl aN) S'):Ok (evC ag (k+7) 15 [skE K] S) Q:=by
 refine am (d:=nj) (ρ:=[aw (skE K),aD,aD,aD,aD]) rfl rfl ?_;dsimp only[nj,sZ];rw[show skE K = .tup [meE K,ahE K.ah,.tup (K.G.map az),.tup (K.F.map D.int)] from rfl];k_is;refine⟨rfl,nK (ts:=[.tup [.int K.r,.int K.s,.tup (Dw.Aq K.M),.tup (K.H.map Dw.wD)],ahT K.ah,.tup (Dw.Aq K.G),.tup (K.F.map Dw.D.int)]) (aI (c9 (aI bz (aI bz (aI (c9 (jY K.M)) (aI (c9 (jk K.H)) b7))))) (aI (Qc K.ah) (aI (c9 (jY K.G)) (aI (c9 (jq K.F)) b7)))) (ZB _) (ZB _) ?_⟩;k_is;refine⟨rfl,CQ sk λn c=>?_⟩;k_is;refine⟨rfl,GQ sk ?_⟩;k_is;refine⟨rfl,zl sk λj f=>?_⟩;k_is;exact⟨rfl,GR sk λb h=>q b ((c.trans f).trans h)⟩
def gH(sk:SkOk K)(q:∀S',Sm S S'->Q .non S'):Ok (evC ag (k+8) 21 [skE K] S) Q:=by
 refine am (d:=gq) (ρ:=[aw (skE K)]) rfl rfl ?_;dsimp only[gq,kC];k_is;refine⟨rfl,Qk sk λS' sm=>?_⟩;k_is;exact q S' sm
end Lw
namespace Sn
open Ev PySem
abbrev cst(K:Sky)(g m:Int):Int:=gi K.G g 5 * (if m - gi K.G g 4 > 0 then m - gi K.G g 4 else 0)
abbrev jnd(K:Sky)(l:Bool)(g m x:Int):Int:=if l=aN then (if x > m then x else m) else cst K g m+x
abbrev pH(b:List (Int × List Int)):Option (Int × List Int):=b[argBest (hY b) (b.length - 1)]?
abbrev rst(left:List Int)(g:Int):List Int:=left.filter λx=>!decide (x=g)
abbrev bb(K:Sky)(l:Bool):Nat->Option (Int × Int)->List Int->Option (Int × List Int)
 |0,_,_=>aw (0,[])
 | n+1,ah,left=>pH (left.filterMap λg=>match step K ah g (K.G.length - (n+1)) with
  |none=>aD
  | some m=>(bb K l n (aw (gi K.G g 0,m)) (rst left g)).map λz=>(jnd K l g m z.1,g::z.2))
abbrev bw(K:Sky)(l:Bool)(n:Nat)(ah:Option (Int × Int))(left:List Int)(g:Int):Option (Int × List Int):=match step K ah g (K.G.length - (n+1)) with
 |none=>aD
 |some m=>(bb K l n (aw (gi K.G g 0,m)) (rst left g)).map λz=>(jnd K l g m z.1,g::z.2)
def lv{K:Sky}{l:Bool}{n:Nat}{ah:Option (Int × Int)}{left:List Int}:bb K l (n+1) ah left=pH (left.filterMap (bw K l n ah left)):=rfl
def pJ{ws:List (Int × List Int)}{z:Int × List Int}(h:pH ws=aw z):z ∈ ws:=Zc h
def v0{K:Sky}{l:Bool}:∀ (n:Nat) (ah:Option (Int × Int)) (left:List Int) (z:Int × List Int),bb K l n ah left=aw z->z.2.length=n
 |0,_,_,z,h=>by cases h;rfl
 |n+1,ah,left,z,h=>by
  rw[lv] at h;obtain⟨g,_,e⟩:=YE.mp (pJ h);unfold bw at e;split at e
  ·cases e
  ·obtain⟨y,E,rfl⟩:=ZV.mp e;rw[Zo,v0 n _ _ y E]
end Sn
namespace Lw
open PySem Ev Sn L2
variable {p:Nat} {S S':Sto} {k:Nat} {Q:D->Sto->Prop} {K:Sky}
abbrev fL(l:Bool):D:=.str (if l=aN then "last" else "cost")
abbrev bI:Option (Int × List Int)->D
 |none=>.non
 |some z=>.tup [.int z.1,.tup (z.2.map D.int)]
abbrev Qm:Option (Int × Int)->NK
 |none=>.non
 |some z=>.tup [.inl z.1,.inl z.2]
abbrev g8(ah:Option (Int × Int))(left:List Int):List NK:=[Qm ah,.tup (left.map Sum.inl)]
def nM:∀ (X:List Int),ei (X.map D.int)=aw (X.map Sum.inl)
 |[]=>rfl
 |x::X=>by rw[Zw,ei,nM X];rfl
def eO{ah:Option (Int × Int)}{left:List Int}:nZ (.tup [ahE ah,.tup (left.map D.int)])=aw (g8 ah left):=by
 have e:Ay (.tup (left.map D.int))=aw (.tup (left.map Sum.inl)):=by show(ei _).map _=_;rw[nM];rfl
 have E:Ay (ahE ah)=aw (Qm ah):=by cases ah <;> rfl
 show oK _=_;simp only[oK,e,E,g8]
def xD:∀ {X Y:List Int},X.map (Sum.inl:Int->Key)=Y.map Sum.inl->X=Y
 |[],[],_=>rfl
 |[],_::_,e=>by cases e
 |_::_,[],e=>by cases e
 |x::X,y::Y,e=>by
  obtain⟨a,b⟩:=Wy.inj e;cases a;rw[xD b]
def tQ{a b:Option (Int × Int)}{X ys:List Int}(h:g8 a X=g8 b ys):a=b/\X=ys:=by
 unfold g8 at h;obtain⟨d,c⟩:=Wy.inj h;obtain⟨c,_⟩:=Wy.inj c;refine⟨?_,xD (NK.tup.inj c)⟩;cases a with
 |none=>cases b with
  |none=>rfl
  |some z=>cases d
 |some z=>cases b with
  |none=>cases d
  |some w=>
   obtain⟨j,Z⟩:=z;obtain⟨f,w2⟩:=w;cases d;rfl
abbrev KI(K:Sky)(l:Bool)(b:List (List NK))(c:List D):Prop:=b.length=c.length/\∀ah left d,atD b c (g8 ah left)=aw d->d=bI (bb K l left.length ah left)
structure Kn(K:Sky)(l:Bool)(p c:Nat)(S:Sto):Prop where
 ex:∃kss ds,S[p]?=aw (.dic kss ds)/\KI K l kss ds/\kss.length<=c
abbrev cnt:Nat->Nat
 |0=>0
 |n+1=>(n+1) * cnt n+1
def tR:∀ {b:List (List NK)} {c:List D} {k:List NK} {v:D},(atD b c k).isSome=aN->atD b (fR k v b c) k=aw v
 |[],_,_,_,h=>by simp[atD] at h
 |_::_,[],_,_,h=>by simp[atD] at h
 |a::b,d::c,k,v,h=>by
  simp only[fR,atD] at h ⊢;split
  ·rfl
  ·rename_i e;rw[if_neg e] at h;exact tR h
def ra:∀ {b:List (List NK)} {f:List D} {k c:List NK} {v:D},b.length=f.length->atD (b++[k]) (f++[v]) c=match atD b f c with |some d=>aw d |none=>if k=c then aw v else aD
 |[],[],k,c,v,_=>rfl
 |[],_::_,_,_,_,h=>by simp at h
 |_::_,[],_,_,_,h=>by simp at h
 |a::b,d::f,k,c,v,h=>by
  simp only[Xu,atD];split
  ·rfl
  ·exact ra (by simpa using h)
def xE:∀ {b:List (List NK)} {f:List D} {k c:List NK} {v d:D},atD b (fR k v b f) c=aw d->(k=c/\d=v)\/(atD b f c=aw d)
 |[],_,_,_,_,_,h=>by simp[fR,atD] at h
 |_::_,[],_,_,_,_,h=>by simp[fR,atD] at h
 |a::b,e::f,k,c,v,d,h=>by
  simp only[fR,atD] at h ⊢;split at h
  ·rename_i E;subst E;cases h;split
   ·rename_i j;exact .inl ⟨j.symm,rfl⟩
   ·exact .inr (if_pos rfl)
  ·rename_i E;rw[if_neg E];exact xE h
def gl9(sk:SkOk K){g:Int}(n:0<=g)(j:g < K.G.length):∃a b c d e f h,K.G[g.toNat]?=aw [a,b,c,d,e,f,h]/\gi K.G g 0=a/\gi K.G g 4=e/\gi K.G g 5=f/\0<=f/\f<=99/\0<=a/\a < K.M.length:=by
 have hi:g.toNat < K.G.length:=by lia
 obtain⟨a,b,c,d,e,f,h,E,hb⟩:=sk.gb K.G[g.toNat] (ZJ hi);have eq:K.G[g.toNat]?=aw [a,b,c,d,e,f,h]:=by rw[gEG hi,E]
 refine⟨a,b,c,d,e,f,h,eq,?_,?_,?_,by lia,by lia,by lia,by lia⟩ <;> (unfold gi;rw[eq];rfl)
def tS{g m a b c d e f h:Int}(E:gi K.G g 4=e)(j:gi K.G g 5=f)(u:0<=f)(n:f<=99)(q:Q (.int (cst K g m)) S):Ok (evC ag (k+1) 26 [az [a,b,c,d,e,f,h],.int m] S) Q:=by
 refine am (d:=dG) (ρ:=[aw (az [a,b,c,d,e,f,h]),aw (.int m),aD,aD,aD,aD,aD,aD,aD]) rfl rfl ?_;dsimp only[dG,ia];unfold cst at q;rw[E,j] at q;rw[show az [a,b,c,d,e,f,h] = .tup [.int a,.int b,.int c,.int d,.int e,.int f,.int h] from rfl];k_is;refine⟨?_,q⟩;unfold hU;rw[decide_eq_true (show -(2 ^ 64) < f by lia),decide_eq_true (show f < 2 ^ 64 by lia)];rfl
def pK(l:Bool){g m x a b c d e f h:Int}(E:gi K.G g 4=e)(u:gi K.G g 5=f)(n:0<=f)(j:f<=99)(q:Q (.int (jnd K l g m x)) S):Ok (evC ag (k+2) 54 [fL l,az [a,b,c,d,e,f,h],.int m,.int x] S) Q:=by
 refine am (d:=nq) (ρ:=[aw (fL l),aw (az [a,b,c,d,e,f,h]),aw (.int m),aw (.int x)]) rfl rfl ?_;dsimp only[nq,td];unfold jnd at q;cases l with
 |true=>
  rw[if_pos rfl] at q;k_is;refine aa (show ak .eq (fL aN) (.str "last") S=aw (.bl aN,S) from rfl) ?_;k_is;exact q
 |false=>
  rw[if_neg (by decide)] at q;k_is;refine aa (show ak .eq (fL aS) (.str "last") S=aw (.bl aS,S) from rfl) ?_;k_is;refine aa (show ak .eq (fL aS) (.str "cost") S=aw (.bl aN,S) from rfl) ?_;k_is;refine⟨rfl,tS E u n j ?_⟩;k_is;exact q
def v5{left:List Int}{g:Int}(j:left.length<=100)(q:∀S',Sm S S'->Q (.tup ((rst left g).map D.int)) S'):Ok (evC ag (k+1) 5 [.tup (left.map D.int),.int g] S) Q:=by
 refine am (d:=jM) (ρ:=[aw (.tup (left.map D.int)),aw (.int g)]) rfl rfl ?_;dsimp only[jM,o6];k_is;refine aX left D.int (λx=>if (!decide (x=g))=aN then [D.int x] else []) (by lia) (λa _=>by split <;> simp) cv (λi x S' h sm=>⟨_,rfl,?_⟩) λb f=>?_
 ·k_is;cases c:!decide (x=g) with
  |true=>exact⟨rfl,Sm.refl _⟩
  |false=>exact⟨rfl,Sm.refl _⟩
 ·rw[bv];exact aa (show cL aS (((rst left g)).map D.int) b=aw (.tup ((rst left g).map D.int),b) from rfl) (q b f)
structure Lf(K:Sky)(n:Nat)(ah:Option (Int × Int))(left:List Int):Prop where
 nd:left.Nodup
 bd:∀g ∈ left,0<=g/\g < K.G.length
 ln:left.length=n
 le:n<=K.G.length
 ah:∀q,ah=aw q->0<=q.1/\q.1 < K.M.length
def xF:∀ {left:List Int} {g:Int},left.Nodup->g ∈ left->(rst left g).length+1=left.length
 |[],_,_,h=>by cases h
 |a::l,g,nd,h=>by
  rw[Z6] at nd;unfold rst;by_cases e:a=g
  ·subst e;rw[List.filter_cons_of_neg (by simp)]
   rw[XZ.mpr λx b=>by
    have:¬ x=a:=λz=>nd.1 (z ▸ b);simp[this]]
   rw[Zo]
  ·rw[List.filter_cons_of_pos (by simp[e]),Zo,Zo];have:=xF nd.2 ((Zn.mp h).resolve_left λz=>e z.symm);unfold rst at this
   lia
def Lf.rst{n:Nat}{ah:Option (Int × Int)}{left:List Int}{g m:Int}(h:Lf K (n+1) ah left)(b:g ∈ left)(d:0<=gi K.G g 0)(f:gi K.G g 0 < K.M.length):Lf K n (aw (gi K.G g 0,m)) (Sn.rst left g):=by
 have l:=xF h.nd b;have:=h.ln;have:=h.le;exact⟨h.nd.filter _,λx c=>h.bd x (ZQ.mp c).1,by lia,by lia,λq e=>by cases e;exact⟨d,f⟩⟩
abbrev BB(K:Sky)(l:Bool)(p n k:Nat):Prop:=∀ (ah:Option (Int × Int)) (left:List Int) (S:Sto) (c:Nat) (Q:D->Sto->Prop),Lf K n ah left->Kn K l p c S->c+cnt n<=99999->(∀S',Kp p S S'->Kn K l p (c+cnt n) S'->Q (bI (bb K l n ah left)) S')->Ok (evC ag k 55 [skE K,fL l,ahE ah,.tup (left.map D.int),.ref p] S) Q
def Kn.kp{l:Bool}{c:Nat}(h:Kn K l p c S)(s:Sm S S'):Kn K l p c S':=let ⟨kss,ds,e,k⟩:=h.ex;⟨kss,ds,s _ _ e,k⟩
def Kn.up{l:Bool}{c C:Nat}(h:Kn K l p c S)(b:c<=C):Kn K l p C S:=let ⟨kss,ds,e,k,z⟩:=h.ex;⟨kss,ds,e,k,Z0 z b⟩
def GS(sk:SkOk K){l:Bool}{n k:Nat}(ih:BB K l p n (k+5)){ah:Option (Int × Int)}{left:List Int}{g:Int}(L:Lf K (n+1) ah left)(T:g ∈ left){C:Nat}(O:Kn K l p C S)(I:C+cnt n<=99999)(q:∀S',Kp p S S'->Kn K l p (C+cnt n) S'->Q (bI (bw K l n ah left g)) S'):Ok (evC ag (k+6) 56 [skE K,fL l,ahE ah,.tup (left.map D.int),.int g,.ref p] S) Q:=by
 refine am (d:=gw) (ρ:=[aw (skE K),aw (fL l),aw (ahE ah),aw (.tup (left.map D.int)),aw (.int g),aw (.ref p),aD,aD,aD]) rfl rfl ?_;dsimp only[gw,kF];have V:=sk.vd;have g7:=sk.g7;have hb:=L.bd g T;have ln:=L.ln;have le:=L.le;obtain⟨a,b,c,d,e,f,h,X,E,e4,e5,Y,f1,a0,Z⟩:=gl9 sk hb.1 hb.2;k_is;refine aa sk2 (aa bc (aa bc ?_));k_is;rw[show((K.G.length:Int) - left.length)=((K.G.length - (n+1):Nat):Int) by lia];refine⟨rfl,pF (k:=k+2) V L.ah hb.1 hb.2 λu J=>?_⟩;unfold bw at q;cases hs:step K ah g (K.G.length - (n+1)) with
 |none=>
  rw[hs] at q;rw[show nI aD = .non from rfl];k_is;refine aa (show ak .is .non .non u=aw (.bl aN,u) from rfl) ?_;k_is;exact q u J.kp ((O.kp J).up (Wk _ _))
 |some m=>
  rw[hs] at q;rw[show nI (aw m) = .int m from rfl];k_is;refine aa (show ak .is (.int m) .non u=aw (.bl aS,u) from rfl) ?_;k_is;refine aa sk2 (aa (b8 hb.1 X) ?_);k_is;refine aa (show ixS (az [a,b,c,d,e,f,h]) (.int 0) u=aw (.int a,u) from rfl) ?_;k_is;refine⟨rfl,v5 (k:=k+4) (by lia) λS2 s2=>?_⟩
  have lr:Lf K n (aw (a,m)) (Sn.rst left g):=by
   have:=L.rst (m:=m) T (by rw[E];exact a0) (by rw[E];exact Z)
   rwa [E] at this
  have v:=J.trans s2;refine⟨rfl,ih (aw (a,m)) (Sn.rst left g) S2 C _ lr (O.kp v) I λj U B=>?_⟩;rw[E] at q;cases y:bb K l n (aw (a,m)) (Sn.rst left g) with
  |none=>
   dsimp only at q;rw[y] at q;rw[show bI aD = .non from rfl];k_is;refine aa (show ak .is .non .non j=aw (.bl aN,j) from rfl) ?_;k_is;exact q j (v.kp.trans U) B
  |some z=>
   dsimp only at q;rw[y] at q;rw[show bI (aw z) = .tup [.int z.1,.tup (z.2.map D.int)] from rfl];k_is;refine aa (show ak .is (.tup [.int z.1,.tup (z.2.map D.int)]) .non j=aw (.bl aS,j) from rfl) ?_;k_is;refine aa (show ixS (.tup [.int z.1,.tup (z.2.map D.int)]) (.int 0) j=aw (.int z.1,j) from rfl) ?_;refine⟨rfl,pK (k:=k+3) l e4 e5 Y f1 ?_⟩;k_is;refine aa (show ixS (.tup [.int z.1,.tup (z.2.map D.int)]) (.int 1) j=aw (.tup (z.2.map D.int),j) from rfl) ?_;k_is;have lz:=v0 n _ _ z y;exact⟨by rw[Za,Zr];lia,q j (v.kp.trans U) B⟩
def CV{l:Bool}{k:Nat}:BB K l p 0 (k+1):=λah left S c Q lf kn hc q=>by
 refine am (d:=bO) (ρ:=[aw (skE K),aw (fL l),aw (ahE ah),aw (.tup (left.map D.int)),aw (.ref p),aD,aD]) rfl rfl ?_;dsimp only[bO,dE];have e:=ZT.mp lf.ln;subst e;k_is;exact q S (Kp.refl p S) kn
def M1{l:Bool}{b:List (List NK)}{d:List D}{ah:Option (Int × Int)}{left:List Int}(h:S[p]?=aw (.dic b d)):ak .notin (.tup [ahE ah,.tup (left.map D.int)]) (.ref p) S=aw (.bl (!(atD b d (g8 ah left)).isSome),S):=by
 have e:ak .notin (.tup [ahE ah,.tup (left.map D.int)]) (.ref p) S=inK aN (.tup [ahE ah,.tup (left.map D.int)]) (.ref p) S:=by
  simp only[ak,inS,ao,au,h,Option.map_none]
 rw[e];simp only[inK,eO,h];simp
def v7{b:List (List NK)}{c:List D}{ah:Option (Int × Int)}{left:List Int}{d:D}(f:S[p]?=aw (.dic b c))(h:atD b c (g8 ah left)=aw d):ixS (.ref p) (.tup [ahE ah,.tup (left.map D.int)]) S=aw (d,S):=by
 show ixK _ _ _=_;simp only[ixK,eO,f,h,ZD]
def xG:∀ (b:List (Int × List Int)),oU (b.map λz=>bI (aw z))=aw b
 |[]=>rfl
 |z::b=>by
  have e:Bn (bI (aw z))=aw z:=by
   show(fD (z.2.map D.int)).map _=_;rw[fw];rfl
  rw[Zw];simp only[oU,e,xG b]
def M2(b:List (Int × List Int)):oi aS (b.map λz=>bI (aw z)) S=aw (bI (pH b),S):=by
 unfold oi;rw[xG];dsimp only;rw[Za,ZE,Zp];unfold pH;cases b[argBest (hY b) (b.length - 1)]? <;> rfl
def M3{l:Bool}{ah:Option (Int × Int)}{left:List Int}{c:Nat}(I:Kn K l p c S)(J:c < 99999):∃S',jI (.ref p) (.tup [ahE ah,.tup (left.map D.int)]) (bI (bb K l left.length ah left)) S=aw S'/\Kp p S S'/\Kn K l p (c+1) S'/\ixS (.ref p) (.tup [ahE ah,.tup (left.map D.int)]) S'=aw (bI (bb K l left.length ah left),S'):=by
 obtain⟨b,n,z,⟨j,y⟩,B⟩:=I.ex;have lt:p < S.length:=(Zb.mp z).1;have e:jI (.ref p) (.tup [ahE ah,.tup (left.map D.int)]) (bI (bb K l left.length ah left)) S=AA (.ref p) (.tup [ahE ah,.tup (left.map D.int)]) (bI (bb K l left.length ah left)) S:=rfl;rw[e];simp only[AA,eO,z];rw[if_pos (by lia)];have kp:∀o,Kp p S (S.set p o):=λo i u hi h=>by rw[Zv (Ne.symm hi)];exact h
 by_cases C:(atD b n (g8 ah left)).isSome=aN
 ·rw[if_pos C];have f:(S.set p (Ob.dic b (fR (g8 ah left) (bI (bb K l left.length ah left)) b n)))[p]?=aw (.dic b (fR (g8 ah left) (bI (bb K l left.length ah left)) b n)):=ZU lt;refine⟨_,rfl,kp _,⟨_,_,f,⟨qr j,λq L d h=>?_⟩,by lia⟩,v7 f ?_⟩
  ·rcases xE h with ⟨h1,rfl⟩ |h1
   ·obtain⟨rfl,rfl⟩:=tQ h1;rfl
   ·exact y q L d h1
  ·exact tR C
 ·rw[if_neg C]
  have E:atD b n (g8 ah left)=aD:=by
   cases h:atD b n (g8 ah left) with
   |none=>rfl
   |some d=>rw[h] at C;exact absurd rfl C
  have f:(S.set p (Ob.dic (b++[g8 ah left]) (n++[bI (bb K l left.length ah left)])))[p]?=aw (.dic (b++[g8 ah left]) (n++[bI (bb K l left.length ah left)])):=ZU lt;refine⟨_,rfl,kp _,⟨_,_,f,⟨by rw[Zh,Zh,j];rfl,λq L d h=>?_⟩,by rw[Zh,Zr];lia⟩,v7 f ?_⟩
  ·rw[ra j] at h;split at h
   ·rename_i O hd;cases h;exact y q L d hd
   ·split at h
    ·rename_i v;cases h;obtain⟨rfl,rfl⟩:=tQ v;rfl
    ·cases h
  ·rw[ra j,E];dsimp only;rw[if_pos rfl]
abbrev M4{b:Type}(w:b->D):Option b->List D
 |none=>[]
 |some z=>[w z]
def tU{c b:Type}(f:c->Option b)(w:b->D):∀ (l:List c),(l.flatMap λa=>M4 w (f a))=(l.filterMap f).map w
 |[]=>rfl
 |a::l=>by
  rw[Y1,tU f w l,YQ];cases f a <;> rfl
def CW(sk:SkOk K){l:Bool}{n k:Nat}(ih:BB K l p n (k+5)):BB K l p (n+1) (k+7):=λah left S cc Q lf kn hcc q=>by
 refine am (d:=bO) (ρ:=[aw (skE K),aw (fL l),aw (ahE ah),aw (.tup (left.map D.int)),aw (.ref p),aD,aD]) rfl rfl ?_;dsimp only[bO,dE];have g7:=sk.g7;have ln:=lf.ln;have le:=lf.le;obtain⟨v,ds,Y,ki,hcl⟩:=kn.ex;have j:cnt (n+1)=(n+1) * cnt n+1:=rfl
 have ne:(left.map D.int).isEmpty=aS:=by
  cases left with
  |nil=>simp at ln
  |cons _ _=>rfl
 k_is;rw[ne];k_is;refine aa (M1 (l:=l) Y) ?_;cases O:atD v ds (g8 ah left) with
 |some d=>
  k_is;refine aa (v7 Y O) ?_;have e:=ki.2 ah left d O;rw[ln] at e;subst e;exact q S (Kp.refl p S) (kn.up (Wk _ _))
 |none=>
  k_is;refine gC left.length (λi=>D.int (left.getD i 0)) (λi c S'=>Kp p S S'/\Kn K l p (cc+i * cnt n) S'/\c=(left.take i).map λg=>bI (bw K l n ah left g)) (λi c S' hi _=>?_) (by lia) (λi c S' hi E=>?_) (λes S' y=>?_) ⟨Kp.refl p S,by rw[Nat.zero_mul];exact kn,rfl⟩
  ·show aw (left.map D.int)[i]?=_;rw[Zp];split
   ·rename_i h;rw[gEG h,ZE,gEG h];rfl
   ·rename_i h;rw[Zs (by lia)];rfl
  ·obtain⟨kp,b,rfl⟩:=E;have Z:left.getD i 0=left[i]:=by rw[ZE,gEG hi];rfl
   rw[Z];refine⟨_,rfl,?_⟩;k_is;have hi2:(i+1) * cnt n<=(n+1) * cnt n:=Nat.mul_le_mul_right _ (by lia);have B:(i+1) * cnt n=i * cnt n+cnt n:=X9 _ _;refine⟨rfl,GS (k:=k) sk ih lf (ZJ hi) b (by lia) λS1 k1 u=>⟨kp.trans k1,by rw[B,<-YR];exact u,?_⟩⟩;rw[ZX hi,ZF];rfl
  ·obtain⟨kp,b,rfl⟩:=y;rw[YM];refine⟨by rw[Za];lia,?_⟩;have T:(S'++[Ob.lst (left.map λg=>bI (bw K l n ah left g))])[S'.length]?=aw (.lst (left.map λg=>bI (bw K l n ah left g))):=aC;have X:Sm S' (S'++[Ob.lst (left.map λg=>bI (bw K l n ah left g))]):=Sm.app _ _;generalize S'++[Ob.lst (left.map λg=>bI (bw K l n ah left g))]=S1 at *;generalize S'.length=N at *;k_is;refine⟨by rw[aq T];rfl,?_⟩;refine aX left (λg=>bI (bw K l n ah left g)) (λg=>M4 (λz=>bI (aw z)) (bw K l n ah left g)) (by lia) (λg _=>by cases bw K l n ah left g <;> simp[M4]) (bH T) (λi g S2 hg sm=>⟨_,rfl,?_⟩) λS2 L=>?_
   ·k_is;cases hb:bw K l n ah left g with
    |none=>
     refine aa (show ak .isnot (bI aD) .non S2=aw (.bl aS,S2) from rfl) ?_;k_is;exact⟨rfl,Sm.refl _⟩
    |some z=>
     refine aa (show ak .isnot (bI (aw z)) .non S2=aw (.bl aN,S2) from rfl) ?_;k_is;exact⟨rfl,Sm.refl _⟩
   ·rw[tU];refine aa (M2 _) ?_;rw[<-lv]
    have k2:Kn K l p (cc+(n+1) * cnt n) S2:=by
     have:=(b.kp X).kp L
     rwa [ln] at this
    obtain⟨J,U,f,C,I⟩:=M3 (ah:=ah) (left:=left) k2 (by lia);rw[ln] at U I;refine⟨J,U,?_⟩;k_is;refine aa I (q J ((kp.trans (X.trans L).kp).trans f) ?_);rw[j,<-YR];exact C
abbrev meL(r s:Int)(M:List (List Int))(H:List (Int × Int)):D:=.tup [.int r,.int s,.tup (M.map az),.tup (H.map ac)]
def GU{r s:Int}{M G:List (List Int)}{H:List (Int × Int)}{F:List Int}{v:List D}{N n hi:Nat}{u4 u5 u6 u7 u8 u9 u10 u11 u13:Option D}(h:Pot p S)(gs:Gs p N hi S v G)(J:S[n]?=aw (.lst (F.map D.int)))(U:n ≠ p)(me:MeOk r s M H)(g7:G.length<=7)
  (q:∀a S',Dr p S S'->(∀z:Int × Int,a=aw z->0<=z.1/\z.1 < M.length/\0<=z.2/\z.2<=9999)->Q (skE ⟨r,s,M,H,a,G,F⟩) S') :
  rW (wSs (evC ag (k+3)) (fZ ag) 55 (gR.drop 5)) [aw (.ref p),aw (.int 6),aw (meL r s M H),aw (.ref N),u4,u5,u6,u7,u8,u9,u10,u11,aw (.ref n),u13,aD] S (out Q):=by
 dsimp only[gR,Yu];have m1:=me.m1;have m4:=me.m4;k_is;refine aa (show ixS (meL r s M H) (.int 2) S=aw (.tup (M.map az),S) from rfl) ?_;refine aa (show aj ca (.tup (M.map az)) S=aw (.int M.length,S) by simp only[aj,ao,ca,Za]) ?_;refine⟨rfl,aE h (by lia) (by lia) λx S1 X x2 I=>?_⟩;refine⟨rfl,aE I.pot (by decide) (by decide) λy S2 Y y2 C=>?_⟩;refine⟨rfl,aE C.pot (by decide) (by decide) λz O z1 z2 d3=>?_⟩;k_is;have d:=(I.trans C).trans d3
 obtain⟨a,ea,Z⟩:∃a:Option (Int × Int),atI [D.non,D.tup [D.int x,D.int y]] z=aw (ahE a)/\∀q,a=aw q->0<=q.1/\q.1 < M.length/\0<=q.2/\q.2<=9999:=by
  have:z=0\/z=1:=by lia
  rcases this with rfl |rfl
  ·exact⟨aD,rfl,λq e=>by cases e⟩
  ·exact⟨aw (x,y),rfl,λq e=>by cases e;exact⟨X,x2,Y,by lia⟩⟩
 refine⟨_,ea,?_⟩;k_is;have c:=gs.keep d.kp;have u:=d.kp _ _ U J;refine⟨by rw[aq c.at_];rfl,?_⟩;have le:=c.len;refine gC v.length (λi=>(v[i]?).getD .non) (λi j S'=>S'=O/\j=(G.take i).map az) (λi j S' hi ⟨e,_⟩=>by subst e;exact qR c.at_ _ xy) (by lia) (λi j f hi ⟨B,E⟩=>?_) (λT f ⟨B,E⟩=>⟨by rw[E,Za,Yb];lia,?_⟩) ⟨rfl,rfl⟩
 ·subst B;have L:i < G.length:=by lia
  obtain⟨b,eb,_,_,zb⟩:=c.row i G[i] (gEG L);simp only[eb,ZW];refine⟨_,rfl,?_⟩;k_is;refine aa (show aj cL (.ref b) f=aw (.tup (G[i].map D.int),f) by simp only[aj,ao,aq zb,ZD,cL]) ?_;refine⟨rfl,?_⟩;rw[E,ZX L,ZF];rfl
 ·subst B;rw[Ye (by lia)] at E;subst E;refine aa (show cL aS (G.map az) f=aw (.tup (G.map az),f) from rfl) ?_;refine aa (show aj cL (.ref n) f=aw (.tup (F.map D.int),f) by simp only[aj,ao,aq u,ZD,cL]) ?_;k_is;exact q a f d Z
def v8{l:List Int}{j:Nat}(h:j < l.length):(l[j]::l.eraseIdx j).Perm l:=by
 induction l generalizing j with
 |nil=>simp at h
 |cons a l I=>
  cases j with
  |zero=>exact List.Perm.refl _
  |succ j=>
   rw[Zo] at h;have:=I (j:=j) (by lia);rw[Xy,Yd];exact(List.Perm.swap _ _ _).trans (this.cons a)
def pL:∀ (l:List Int) (j:Nat),(l.map D.int).eraseIdx j=(l.eraseIdx j).map D.int
 |[],_=>rfl
 |a::l,0=>rfl
 |a::l,j+1=>by rw[Zw,Yd,Yd,Zw,pL l j]
def CY{n:Nat}{l:List Int}{j:Nat}(b:S[n]?=aw (.lst (l.map D.int)))(f:j < l.length):eU (.ref n) [.int (j:Int)] S=aw (.int l[j],S.set n (.lst ((l.eraseIdx j).map D.int))):=by
 have h:ixN (l.map D.int).length (j:Int)=aw j:=by
  unfold ixN;rw[if_pos (by lia),if_pos (by rw[Za];lia),Zy]
 have c:(l.map D.int)[j]?=aw (.int l[j]):=by rw[Zp,gEG f];rfl
 have d:(l.map D.int).eraseIdx j=(l.eraseIdx j).map D.int:=pL l j;simp only[eU,chg,b,h,c,ZD,d]
def nP{n:Nat}{l:List Int}(h:l.Perm ((Zk n).map λi=>Int.ofNat i)):l.Nodup/\(∀x ∈ l,0<=x/\x < n)/\l.length=n:=by
 refine⟨h.nodup_iff.mpr (YJ.mpr (Xa.imp λh z=>h (Int.ofNat.inj z))),λx b=>?_,by rw[h.length_eq,Za,ZG]⟩;obtain⟨i,hi,rfl⟩:=Zu.mp (h.mem_iff.mp b);have:=ZO.mp hi;show 0<=(i:Int)/\(i:Int) < n
 lia
structure Fxs(p N Nl Nf:Nat)(S:Sto)(es:List D)(G:List (List Int))(l F:List Int):Prop where
 gs:Gs p N Nl S es G
 al:S[Nl]?=aw (.lst (l.map D.int))
 af:S[Nf]?=aw (.lst (F.map D.int))
 nn:Nl < Nf
 pm:(F++l).Perm ((Zk G.length).map λi=>Int.ofNat i)
 rg:∀ (j:Nat) g,G[j]?=aw g->g.getD 6 0=0\/(j:Int) ∈ F
def Fxs.keep{N n b:Nat}{E:List D}{G:List (List Int)}{l F:List Int}(h:Fxs p N n b S E G l F)(kp:Ev.Kp p S S')(hN:N < n):Fxs p N n b S' E G l F:=by
 have:=h.gs.pN;have:=h.nn;exact⟨h.gs.keep kp,kp _ _ (by lia) h.al,kp _ _ (by lia) h.af,h.nn,h.pm,h.rg⟩
def GV{r s:Int}{M G:List (List Int)}{H:List (Int × Int)}{J:List D}{N hi:Nat}{B:Sto}{u4 u5 u6 u7 u8 u9 I:Option D}(h:Dr p B S)(l0:B.length<=N)(gs:Gs p N S.length S J G)(me:MeOk r s M H)(g7:G.length<=7)(gb:∀g ∈ G,GB M.length r s g)(g0:∀g ∈ G,g.getD 6 0=0)
  (q:∀K S',Dr p B S'->SkOk K->(∀g ∈ K.G,GB K.M.length K.r K.s g)->Q (skE K) S') :
  rW (wSs (evC ag (k+3)) (fZ ag) 57 (gR.drop 3)) [aw (.ref p),aw (.int 6),aw (meL r s M H),aw (.ref N),u4,u5,u6,u7,u8,u9,I,aD,aD,aD,aD] S (out Q):=by
 have T:=λ(u11 U:Option D) (b:List (List Int)) (es':List D) (F:List Int) (u hi:Nat) (S1:Sto) (d:Dr p B S1) (gs':Gs p N hi S1 es' b) (hf:S1[u]?=aw (.lst (F.map D.int))) (nf:u ≠ p) (g7':b.length<=7) (f:∀g ∈ b,GB M.length r s g) (nd:F.Nodup) (bd:∀x ∈ F,0<=x/\x < b.length) (rg:∀ (j:Nat) g,b[j]?=aw g->g.getD 6 0=0\/(j:Int) ∈ F)=>
  GU (k:=k) (Q:=Q) (u4:=u4) (u5:=u5) (u6:=u6) (u7:=u7) (u8:=u8) (u9:=u9) (u10:=I) (u11:=u11) (u13:=U) d.pot gs' hf nf me g7' λa S2 Z ha=>q _ S2 (d.trans Z) ⟨me,g7',λg hg=>(f g hg).up (by decide),nd,bd,rg,ha⟩ f
 dsimp only[gR,Yu] at T ⊢;have pN:=gs.pN;have le:=gs.len;have L:N < S.length:=(Zb.mp gs.at_).1;k_is;refine aa (b9 gs.at_) ?_;refine⟨J.length,rfl,by lia,?_⟩;k_is;rw[le]
 have al:(S++[Ob.lst ((Zk G.length).map λj=>D.int (Int.ofNat j))]++[Ob.lst []])[S.length]?=aw (.lst (((Zk G.length).map λj=>Int.ofNat j).map D.int)):=by
  rw[Zq (by simp),aC,ZL];rfl
 have af:(S++[Ob.lst ((Zk G.length).map λj=>D.int (Int.ofNat j))]++[Ob.lst []])[Zd (S++[Ob.lst ((Zk G.length).map λj=>D.int (Int.ofNat j))])]?=aw (.lst (([]:List Int).map D.int)):=aC;have E:Sm S (S++[Ob.lst ((Zk G.length).map λj=>D.int (Int.ofNat j))]++[Ob.lst []]):=(Sm.app _ _).trans (Sm.app _ _);have nn:S.length < Zd (S++[Ob.lst ((Zk G.length).map λj=>D.int (Int.ofNat j))]):=by simp
 generalize Zd (S++[Ob.lst ((Zk G.length).map λj=>D.int (Int.ofNat j))])=u at *;generalize S++[Ob.lst ((Zk G.length).map λj=>D.int (Int.ofNat j))]++[Ob.lst []]=S1 at *;have d1:Dr p B S1:=h.thenSm E;have fx1:Fxs p N S.length u S1 J G ((Zk G.length).map λj=>Int.ofNat j) []:=⟨gs.keep E.kp,al,af,nn,List.Perm.refl _,λj g e=>.inl (g0 g (Zc e))⟩;have sl:B.length<=S.length:=by lia
 generalize S.length=Nl at *;refine aa (b9 (E _ _ gs.at_)) ?_;k_is;rw[le];refine⟨rfl,aE d1.pot (by lia) (by lia) λt S2 t1 t2 Z=>?_⟩;refine⟨rfl,aE Z.pot (by decide) (by decide) λz S3 z1 z2 d3=>?_⟩;k_is
 obtain⟨c,ec,hc⟩:∃c:Nat,atI [D.int 0,D.int t] z=aw (D.int c)/\c<=G.length:=by
  have:z=0\/z=1:=by lia
  rcases this with rfl |rfl
  ·exact⟨0,rfl,YK _⟩
  ·obtain⟨m,rfl⟩:∃m:Nat,t=(m:Int):=⟨t.toNat,by lia⟩;exact⟨m,rfl,by lia⟩
 refine⟨_,ec,?_⟩;k_is;refine⟨dg (by lia) (by lia),?_⟩;rw[Zy];refine gB (by lia) (λi ρ S'=>Dr p B S'/\∃b l F U,ρ=[aw (.ref p),aw (.int 6),aw (meL r s M H),aw (.ref N),u4,u5,u6,u7,u8,u9,I,aw (.ref Nl),aw (.ref u),U,aD]/\Fxs p N Nl u S' J b l F/\F.length=i/\b.length=G.length/\∀g ∈ b,GB M.length r s g) (λi ρ S4 hi ⟨d4,b,l,F,U,er,fx,lF,lG,f⟩=>?_) (λρ S4 ⟨d4,b,l,F,U,er,fx,lF,lG,f⟩=>?_) ⟨(d1.trans Z).trans d3,G,_,[],aD,rfl,fx1.keep (Z.trans d3).kp L,rfl,rfl,gb⟩
 ·subst er;refine⟨_,rfl,?_⟩;k_is;have pl:F.length+l.length=b.length:=by have:=fx.pm.length_eq;rw[Zh,Za,ZG] at this;exact this
  refine⟨df fx.af,?_⟩;refine⟨df fx.al,?_⟩;refine aa (b9 fx.al) ?_;rw[Za];refine⟨rfl,aE d4.pot (by lia) (by lia) λj0 O j1 j2 d5=>?_⟩;obtain⟨j,rfl⟩:∃j:Nat,j0=(j:Int):=⟨j0.toNat,by lia⟩;have hj:j < l.length:=by lia
  have v:=fx.keep d5.kp L;refine aa (CY v.al hj) ?_;have C:=v.nn;have lt5:Nl < O.length:=(Zb.mp v.al).1;have ltf:u < O.length:=(Zb.mp v.af).1;have af6:(O.set Nl (.lst ((l.eraseIdx j).map D.int)))[u]?=aw (.lst (F.map D.int)):=by rw[Zv (by lia)];exact v.af
  rw[nv af6 (by rw[Za];lia)];k_is;have ef:F.map D.int++[D.int l[j]]=(F++[l[j]]).map D.int:=by rw[ZF];rfl
  rw[ef]
  have pm7:((F++[l[j]])++l.eraseIdx j).Perm ((Zk b.length).map λi=>Int.ofNat i):=by
   rw[Z2];exact((v8 hj).append_left F).trans fx.pm
  have X:Fxs p N Nl u ((O.set Nl (.lst ((l.eraseIdx j).map D.int))).set u (.lst ((F++[l[j]]).map D.int))) J b (l.eraseIdx j) (F++[l[j]]):=by
   refine⟨(v.gs.other (Ze _) L).other (by lia) L,?_,dQ (by rw[ZY];exact ltf),C,pm7,λj' g e=>?_⟩
   ·rw[Zv (by lia),dQ lt5]
   ·rcases fx.rg j' g e with z |z
    ·exact .inl z
    ·exact .inr (Z3 _ z)
  have d7:Dr p B ((O.set Nl (.lst ((l.eraseIdx j).map D.int))).set u (.lst ((F++[l[j]]).map D.int))):=⟨((d4.kp.trans d5.kp).setNew (by lia)).setNew (by lia),(d5.pot.setNe (by lia)).setNe (by lia)⟩;generalize (O.set Nl (.lst ((l.eraseIdx j).map D.int))).set u (.lst ((F++[l[j]]).map D.int))=S7 at *;have xb:=(nP fx.pm).2.1 l[j] (Zz _ (ZJ hj));generalize l[j]=x at *;refine aa (show ixS (meL r s M H) (.int 0) S7=aw (.int r,S7) from rfl) ?_;k_is;refine cu (λh1=>?_) λh1=>?_
  ·k_is;have r0:=of_decide_eq_true h1;have r8:=me.r8;refine⟨rfl,aE d7.pot (by decide) (by decide) λy S8 y1 y2 d8=>?_⟩;k_is;have Y:=X.keep d8.kp L;refine cu (λh2=>?_) λh2=>?_
   ·k_is;refine aa (show ixS (meL r s M H) (.int 0) S8=aw (.int r,S8) from rfl) ?_;refine⟨rfl,aE d8.pot r0 (by lia) λw S9 w1 w2 d9=>?_⟩;k_is;have n:=Y.keep d9.kp L;refine aa (qS (ds:=F.map D.int) (e:=.int x) (by rw[n.af,ZF];rfl)) ?_;have hx:x.toNat < b.length:=by lia
    obtain⟨a,ea,n1,n2,za⟩:=n.gs.row x.toNat b[x.toNat] (gEG hx);refine aa (dR n.gs.at_ xb.1 ea) ?_;k_is;obtain⟨kd,jo,fi,la,du,we,ri,eg,hb⟩:=f b[x.toNat] (ZJ hx);rw[eg] at za;refine⟨_,xz (i:=6) za (by decide) (by show 6 < 7;decide),?_⟩;k_is;have es9:(([kd,jo,fi,la,du,we,ri]:List Int).map D.int).set (6:Int).toNat (.int (1+w))=([kd,jo,fi,la,du,we,1+w]:List Int).map D.int:=rfl;rw[es9];refine⟨⟨((d7.kp.trans d8.kp).trans d9.kp).setNew (by lia),d9.pot.setNe (by lia)⟩,b.set x.toNat [kd,jo,fi,la,du,we,1+w],_,_,_,rfl,⟨n.gs.setRow hx ea,?_,?_,C,by rw[ZY];exact n.pm,λj' g e=>?_⟩,by rw[Zh,Zr];lia,by rw[ZY];exact lG,λg hg=>?_⟩
    ·rw[Zv (by lia)];exact n.al
    ·rw[Zv (by lia)];exact n.af
    ·by_cases hjj:j'=x.toNat
     ·subst hjj;right;have:((x.toNat:Nat):Int)=x:=by lia
      rw[this];exact Zz _ (ZM.mpr rfl)
     ·rw[Zv (Ne.symm hjj)] at e;exact n.rg j' g e
    ·rcases List.mem_or_eq_of_mem_set hg with hg |rfl
     ·exact f g hg
     ·exact⟨kd,jo,fi,la,du,we,1+w,rfl,by omega⟩
   ·k_is;exact⟨d7.trans d8,b,_,_,_,rfl,Y,by rw[Zh,Zr];lia,lG,f⟩
  ·k_is;exact⟨d7,b,_,_,_,rfl,X,by rw[Zh,Zr];lia,lG,f⟩
 ·subst er;k_is;have pr:=nP fx.pm;have C:=fx.nn;exact T _ _ b J F u Nl S4 d4 fx.gs fx.af (by lia) (by lia) f (List.Nodup.sublist (List.sublist_append_left F l) pr.1) (λy hy=>pr.2.1 y (Z3 _ hy)) fx.rg
def GW(h:Pot p S)(q:∀K S',Dr p S S'->SkOk K->(∀g ∈ K.G,GB K.M.length K.r K.s g)->Q (skE K) S'):Ok (evC ag (k+4) 62 [.ref p,.int 6] S) Q:=by
 refine am (d:=jV) (ρ:=[aw (.ref p),aw (.int 6),aD,aD,aD,aD,aD,aD,aD,aD,aD,aD,aD,aD,aD]) rfl rfl ?_;have C:=@GV p;dsimp only[jV];dsimp only[gR,Yu] at C ⊢;k_is;refine⟨rfl,vX h λr s M H y d1 me=>?_⟩;rw[show(D.tup [.int r,.int s,.tup (M.map az),.tup (H.map ac)])=meL r s M H from rfl];k_is;have L:=d1.pot.lt;have m1:=me.m1;have m4:=me.m4;have s0:=me.s0;have s60:=me.s60;have sl:S.length<=y.length:=Kp.len d1.kp L;have d2:Dr p S (y++[Ob.lst []]):=d1.thenSm (Sm.app _ _);have g2:Gs p y.length (Zd (y++[Ob.lst []])) (y++[Ob.lst []]) [] []:=⟨L,aC,rfl,λi g e=>by simp at e,λi j a e=>by simp at e⟩;generalize y++[Ob.lst []]=S2 at *;generalize y.length=N at *;refine⟨rfl,aE d2.pot (by decide) (by decide) λY S3 j3 k3 d3=>?_⟩;k_is
 obtain⟨wd,at3,h3⟩:∃e:Int,atI [D.int 5,D.int 20,D.int 60] Y=aw (D.int e)/\0 < e/\e<=60:=by
  have:Y=0\/Y=1\/Y=2:=by lia
  rcases this with rfl |rfl |rfl
  ·exact⟨5,rfl,by decide,by decide⟩
  ·exact⟨20,rfl,by decide,by decide⟩
  ·exact⟨60,rfl,by decide,by decide⟩
 refine⟨_,at3,?_⟩;refine⟨rfl,aE d3.pot (by decide) (by decide) λI S4 j4 k4 d4=>?_⟩;k_is
 obtain⟨lg,at4,h4⟩:∃e:Int,atI [D.int 4,D.int 30,D.int 90,D.int 400] I=aw (D.int e)/\0 < e/\e<=400:=by
  have:I=0\/I=1\/I=2\/I=3:=by lia
  rcases this with rfl |rfl |rfl |rfl
  ·exact⟨4,rfl,by decide,by decide⟩
  ·exact⟨30,rfl,by decide,by decide⟩
  ·exact⟨90,rfl,by decide,by decide⟩
  ·exact⟨400,rfl,by decide,by decide⟩
 refine⟨_,at4,?_⟩;k_is;refine⟨rfl,aE d4.pot (by decide) (by decide) λn0 S5 n1 n2 d5=>?_⟩;k_is;obtain⟨n,rfl⟩:∃n:Nat,n0=(n:Int):=⟨n0.toNat,by lia⟩;refine⟨dg (by lia) (by lia),?_⟩;rw[Zy];have f:=(d3.trans d4).trans d5;refine gB (by lia) (λi ρ S'=>Dr p S S'/\∃T G u6 u7 u8 u9 U,ρ=[aw (.ref p),aw (.int 6),aw (meL r s M H),aw (.ref N),aw (.int wd),aw (.int lg),u6,u7,u8,u9,U,aD,aD,aD,aD]/\Gs p N S'.length S' T G/\G.length=i/\∀g ∈ G,GB M.length r s g/\g.getD 6 0=0) (λi ρ S6 hi ⟨E,T,G,u6,u7,u8,u9,U,er,gs,lG,gb⟩=>?_) (λρ S6 ⟨E,T,G,u6,u7,u8,u9,U,er,gs,lG,gb⟩=>?_) ⟨d2.trans f,[],[],aD,aD,aD,aD,aD,rfl,(g2.keep f.kp).up (Kp.len f.kp f.pot.lt),rfl,λg hg=>by simp at hg⟩
 ·subst er;refine⟨_,rfl,?_⟩;k_is;refine⟨rfl,aE E.pot h3.1 (by lia) λJ S7 o1 o2 d7=>?_⟩;k_is;refine aa (show ixS (meL r s M H) (.int 1) S7=aw (.int s,S7) from rfl) ?_;k_is;refine⟨rfl,aE d7.pot (by decide) (by decide) λx S8 x1 x2 d8=>?_⟩;refine⟨rfl,aE d8.pot (by decide) (by decide) λz S9 z1 z2 d9=>?_⟩;k_is
  obtain⟨e,ate,he⟩:∃e:Int,atI [D.int 0,D.int x] z=aw (D.int e)/\0<=e/\e<=9:=by
   have:z=0\/z=1:=by lia
   rcases this with rfl |rfl
   ·exact⟨0,rfl,by decide,by decide⟩
   ·exact⟨x,rfl,by lia,by lia⟩
  refine⟨_,ate,?_⟩;k_is;refine⟨rfl,aE d9.pot h4.1 (by lia) λa Sa a1 a2 da=>?_⟩;k_is;refine⟨rfl,aE da.pot h4.1 (by lia) λb O b1 b2 db=>?_⟩;k_is;have v:=(((d7.trans d8).trans d9).trans da).trans db;have gsb:=gs.keep v.kp;refine⟨df gsb.at_,?_⟩;refine aa (show ixS (meL r s M H) (.int 2) O=aw (.tup (M.map az),O) from rfl) ?_;refine aa (show aj ca (.tup (M.map az)) O=aw (.int M.length,O) by simp only[aj,ao,ca,Za]) ?_;refine⟨rfl,aE db.pot (by lia) (by lia) λX Sc c1 c2 dc=>?_⟩;refine⟨rfl,aE dc.pot (by decide) (by decide) λw Sd w1 w2 dd=>?_⟩;k_is
  obtain⟨Z,atw,hw⟩:∃e:Int,atI [D.int 0,D.int 1,D.int 7,D.int 99] w=aw (D.int e)/\0<=e/\e<=99:=by
   have:w=0\/w=1\/w=2\/w=3:=by lia
   rcases this with rfl |rfl |rfl |rfl
   ·exact⟨0,rfl,by decide,by decide⟩
   ·exact⟨1,rfl,by decide,by decide⟩
   ·exact⟨7,rfl,by decide,by decide⟩
   ·exact⟨99,rfl,by decide,by decide⟩
  refine⟨_,atw,?_⟩;k_is;have c:=v.trans (dc.trans dd);have u:=(gs.keep c.kp).up (Kp.len c.kp c.pot.lt);have atN:=Sm.app Sd [Ob.lst [D.int X,D.int J,D.int (J+s+e),D.int (J+s+e+a),D.int (J+b),D.int Z,D.int 0]] _ _ u.at_;rw[nv atN (by rw[u.len];lia)];k_is;have sn:=u.snoc (g:=[X,J,J+s+e,J+s+e+a,J+b,Z,0]);have B:=E.trans c;refine⟨⟨(B.kp.trans (Sm.app _ _).kp).setNew (by lia),((Dr.sm B.pot (Sm.app _ _)).pot).setNe (by have:=u.pN;lia)⟩,T++[D.ref (Zd Sd)],G++[[X,J,J+s+e,J+s+e+a,J+b,Z,0]],_,_,_,_,_,rfl,?_,by rw[Zh,Zr];lia,λg hg=>?_⟩
  ·rw[ZY,Zh,Zr];exact sn
  ·rcases ZS.mp hg with hg |hg
   ·exact gb g hg
   ·rw[ZM.mp hg];exact⟨⟨X,J,J+s+e,J+s+e+a,J+b,Z,0,rfl,by have:=me.r0;omega⟩,rfl⟩
 ·subst er;exact C (hi:=0) E (by lia) gs me (by lia) (λg hg=>(gb g hg).1) (λg hg=>(gb g hg).2) q
end Lw
namespace Lw
open PySem Ev L2
variable {p:Nat} {S:Sto} {k:Nat} {Q:D->Sto->Prop}
def Qo{b c:Type}(f:b->c):∀ (l:List b) (j:Nat),(l.map f).eraseIdx j=(l.eraseIdx j).map f
 |[],_=>rfl
 |_::_,0=>rfl
 |a::l,j+1=>by rw[Zw,Yd,Yd,Zw,Qo f l j]
def Qp{b:Type}:∀ (l:List b) (j:Nat) (h:j < l.length),(l[j]::l.eraseIdx j).Perm l
 |a::l,0,_=>List.Perm.refl _
 |a::l,j+1,h=>by
  rw[Yd,Xy];exact(List.Perm.swap _ _ _).trans ((Qp l j (by simpa using h)).cons a)
def CZ{L:Nat}{I:List Int}(h:Pot p S)(v:S[L]?=aw (.lst (I.map D.int)))(T:L ≠ p)(hn:I.length<=1000)
  (q:∀ (is:List Int) b,Dr p S b->is.Perm I->Q (.ref (Zd b)) (b++[.lst (is.map D.int)])):Ok (evC ag (k+2) 69 [.ref p,.ref L] S) Q:=by
 refine am (d:=cZ) (ρ:=[aw (.ref p),aw (.ref L),aD]) rfl rfl ?_;dsimp only[cZ,f8];k_is;have Y:ao (.ref L) S=aw (aS,I.map D.int):=by simp only[ao,aq v,ZD]
 rw[Y];show Ok (aw (I.map D.int,S)) _;rw[aG];k_is;have lt:=h.lt;have O:Dr p S (S++[Ob.lst (I.map D.int)]):=Dr.sm h (Sm.app _ _);have E:=Sm.app S [Ob.lst (I.map D.int)] _ _ v;have X:L < Zd S:=(Zb.mp v).1;k_is;refine⟨(by rw[aq E];rfl),?_⟩;have lm:(I.map D.int).length=I.length:=Za _;refine gC I.length (λi=>((I.map D.int)[i]?).getD .non) (λi c b=>Ev.Kp p S b/\Pot p b/\∃left as:List Int,b[Zd S]?=aw (.lst (left.map D.int))/\c=as.map D.int/\(as++left).Perm I/\left.length+i=I.length) (λi c b hi ⟨kp,_⟩=>by rw[<-lm];exact qR (kp _ _ T v) _ xy) (by lia) (λi c u hi ⟨kp,pt,left,as,hf,ea,pm,ll⟩=>⟨_,rfl,?_⟩) (λes u ⟨kp,pt,left,as,hf,ea,pm,ll⟩=>⟨by rw[ea,Za];have:=pm.length_eq;rw[Zh] at this;lia,?_⟩) ⟨O.kp,O.pot,I,[],aC,rfl,by simp,by lia⟩
 ·k_is;refine⟨df hf,?_⟩;k_is;have U:aj ca (D.ref (Zd S)) u=aw (.int left.length,u):=by simp only[aj,ao,aq hf,ZD,ca,Za]
  refine aa U ?_;k_is;refine⟨rfl,aE pt (by lia) (by lia) λr B r1 r2 y=>?_⟩;k_is;obtain⟨j,rfl⟩:∃n:Nat,r=(n:Int):=⟨r.toNat,by lia⟩;have J:j < left.length:=by lia
  have f:=y.kp _ _ (show Zd S ≠ p by lia) hf;have C:Zd S < B.length:=(Zb.mp f).1
  have Z:eU (.ref (Zd S)) [.int (j:Int)] B=aw (.int left[j],B.set (Zd S) (.lst ((left.map D.int).eraseIdx j))):=by
   have z:ixN (left.map D.int).length (j:Int)=aw j:=by
    unfold ixN;rw[if_pos (by lia),if_pos (by rw[Za];lia),Zy]
   simp only[eU,chg,f,z,Zp,gEG J,ZD]
  refine aa Z ?_;k_is;refine⟨(kp.trans y.kp).setNew (Ze _),y.pot.setNe (by lia),left.eraseIdx j,as++[left[j]],by rw[dQ C,Qo],by rw[ea,ZF];rfl,?_,by rw[Xk J];lia⟩;refine List.Perm.trans ?_ pm;rw[Z2];exact List.Perm.append_left as (Qp left j J)
 ·subst ea;k_is;have:left=[]:=ZT.mp (by lia);subst this;rw[ZN] at pm;exact q as u ⟨kp,pt⟩ pm
def pM:∀ (ps:List (Int × Int)),dC (ps.map ac)=aw ps
 |[]=>rfl
 |q::ps=>by
  rw[Zw];simp only[dC,pM ps,ac,mw]
def v9{b:Type}(d:b)(l:List b):(Zk l.length).map (λi=>l.getD i d)=l:=by
 apply Wl
 ·simp
 ·intro i h c;simp at h;simp[h]
def zm(ps:List (Int × Int)):∃q:List (Int × Int),cV ps .non (ps.map ac)=q.map ac/\q.Perm ps:=by
 by_cases h:ps.length < 2
 ·exact⟨ps,by unfold cV;rw[if_pos (by rw[Za];exact h)],List.Perm.refl _⟩
 ·have c:0 < ps.length:=by lia
  have pm:Pm ps.length (eT (n8 ps) (Vr ps.length)):=(qu c).run;refine⟨(eT (n8 ps) (Vr ps.length)).toList.map λi=>ps.getD i (0,0),?_,?_⟩
  ·unfold cV;rw[if_neg (by rw[Za];exact h),Za,ZL];refine Yh λi hi=>?_;have b:=(Ev.ir (lt:=n8 ps) c).1 i hi;simp[b]
  ·have e:(eT (n8 ps) (Vr ps.length)).toList.Perm (Zk ps.length):=by
    have:=Array.perm_iff_toList_perm.mp pm
    simpa using this
   have:=e.map λi=>ps.getD i (0,0)
   rwa [v9] at this
end Lw
namespace Lw
open PySem Ev Sn L2
variable {p:Nat} {S S':Sto} {k:Nat} {Q:D->Sto->Prop} {K:Sky}
def wa{n:Nat}:∀i S',Sm S S'->nxR 0 n i S'=aw (((Zk n)[i]?).map λ(j:Nat)=>D.int (0+(j:Int))):=λi S' _=>by
 show aw (if i < n then aw (D.int (0+(i:Int))) else aD)=_;split
 ·rename_i h;rw[Yz h];rfl
 ·rename_i h;rw[Zs (by rw[ZG];lia)];rfl
def zn{ps:List (Int × Int)}(h:ps.length < 64):∃q:List (Int × Int),cD aS (ps.map ac)=aw (q.map ac)/\q.Perm ps:=by
 obtain⟨q,e,pm⟩:=zm ps;refine⟨q,?_,pm⟩;show(if aS=aS then uV aS (ps.map ac) else aD)=_;rw[if_pos rfl];simp only[uV,pM];rw[if_pos (by rw[Za];exact h),e]
abbrev cw(K:Sky):List Int:=((Zk K.G.length).filter λ(j:Nat)=>!decide ((j:Int) ∈ K.F)).map λ(j:Nat)=>(j:Int)
def lx(x:Int):x ∈ cw K ↔ (0<=x/\x < K.G.length/\x ∉ K.F):=by
 unfold cw;rw[Zu];constructor
 ·rintro⟨j,c,rfl⟩;obtain⟨b,h⟩:=ZQ.mp c;have:=ZO.mp b;simp at h;exact⟨by lia,by lia,h⟩
 ·rintro⟨d,b,h⟩;refine⟨x.toNat,ZQ.mpr ⟨ZO.mpr (by lia),?_⟩,by lia⟩;have:((x.toNat:Nat):Int)=x:=by lia
  rw[this];simp[h]
def rc:(cw K).Nodup:=by
 unfold cw;refine YJ.mpr ((Xa.sublist X1).imp λh z=>h (by lia))
def rd(h:SkOk K){l:List Int}(pm:l.Perm (cw K)):Ord K (K.F++l):=by
 have c:=lx (K:=K);have no:=rc (K:=K);have v:l.Nodup:=pm.nodup_iff.mpr no
 have nd:(K.F++l).Nodup:=Yx.mpr ⟨h.nd,v,λa y b hb e=>by
  have:=((c b).mp (pm.mem_iff.mp hb)).2.2;exact this (e ▸ y)⟩
 have bd:∀g ∈ K.F++l,0<=g/\g < K.G.length:=λg hg=>by
  rcases ZS.mp hg with hg |hg
  ·exact h.bd g hg
  ·have:=(c g).mp (pm.mem_iff.mp hg);exact⟨this.1,this.2.1⟩
 have u:((Zk K.G.length).map λi=>Int.ofNat i).Nodup:=YJ.mpr (Xa.imp λh z=>h (Int.ofNat.inj z))
 have f:(K.F++l).Perm ((Zk K.G.length).map λi=>Int.ofNat i):=(Xl nd u).mpr λx=>by
  constructor
  ·intro d;have:=bd x d;exact Zu.mpr ⟨x.toNat,ZO.mpr (by lia),by show((x.toNat:Nat):Int)=x;lia⟩
  ·intro d;obtain⟨j,n,rfl⟩:=Zu.mp d;have n:=ZO.mp n;by_cases q:Int.ofNat j ∈ K.F
   ·exact Z3 _ q
   ·refine Zz _ (pm.mem_iff.mpr ((c _).mpr ⟨?_,?_,q⟩))
    ·show 0<=(j:Int);lia
    ·show(j:Int) < K.G.length;lia
 have:=f.length_eq;rw[Za,ZG] at this;exact⟨nd,bd,this,⟨l,rfl⟩,f⟩
def zo{l:List Int}{n:Nat}(h:SkOk K)(b:S[n]?=aw (.lst (l.map D.int)))(pm:l.Perm (cw K))(q:∀os S',Sm S S'->Ord K os->Q (.tup (os.map D.int)) S') :
  rW (wSs (evC ag (k+2)) (fZ ag) 58 (f9.drop 2)) [aw (.ref p),aw (skE K),aw (.ref n)] S (out Q):=by
 dsimp only[f9,Yu];have ho:=rd h pm;have g7:=h.g7;have ln:=ho.ln;rw[Zh] at ln;k_is;refine aa sk3 ?_;refine aa (show aj cL (.ref n) S=aw (.tup (l.map D.int),S) by simp only[aj,ao,aq b,ZD,cL]) ?_;k_is;refine⟨by rw[Za,Za];lia,?_⟩;rw[<-ZF];exact q _ S (Sm.refl _) ho
def zp(h:Pot p S)(sk:SkOk K)(q:∀os S',Dr p S S'->Ord K os->Q (.tup (os.map D.int)) S'):Ok (evC ag (k+3) 70 [.ref p,skE K] S) Q:=by
 refine am (d:=gz) (ρ:=[aw (.ref p),aw (skE K),aD]) rfl rfl ?_;have T:=@zo p;dsimp only[gz];dsimp only[f9,Yu] at T ⊢;have g7:=sk.g7;have V:=sk.vd;k_is;refine aa sk2 ?_;refine aa (show aj ca (.tup (K.G.map az)) S=aw (.int K.G.length,S) by simp only[aj,ao,ca,Za]) ?_;k_is;refine⟨dg (by lia) (by lia),?_⟩;rw[Zy];refine aX (Zk K.G.length) (λ(j:Nat)=>D.int (0+(j:Int))) (λ(j:Nat)=>if (!decide ((j:Int) ∈ K.F))=aN then [D.int (j:Int)] else []) (by rw[ZG];lia) (λ_ _=>by split <;> simp) wa (λi j S' hj sm=>⟨_,rfl,?_⟩) λS1 O=>?_
 ·k_is;refine aa sk3 ?_;rw[Y2];refine aa (show ak .notin (.int (j:Int)) (.tup (K.F.map D.int)) S'=aw (.bl (aN != decide ((j:Int) ∈ K.F)),S') from ji aN K.F j S') ?_;k_is;cases c:decide ((j:Int) ∈ K.F) with
  |true=>k_is;exact⟨rfl,Sm.refl _⟩
  |false=>k_is;exact⟨rfl,Sm.refl _⟩
 ·rw[bv];have eo:(((Zk K.G.length).filter λ(j:Nat)=>!decide ((j:Int) ∈ K.F)).map λ(j:Nat)=>D.int (j:Int))=(cw K).map D.int:=by unfold cw;rw[ZL];rfl
  rw[eo];k_is;have lt1:=(Dr.sm h O).pot.lt;have L:Dr p S (S1++[Ob.lst ((cw K).map D.int)]):=Dr.sm h (O.trans (Sm.app _ _));have lo:(cw K).length<=7:=by unfold cw;rw[Za];exact Z0 (Yj _ _) (by rw[ZG];exact g7)
  refine⟨rfl,CZ L.pot aC (by lia) (by lia) λl n U pm=>?_⟩;k_is;have lt3:=U.pot.lt;have Y:Dr p S (n++[Ob.lst (l.map D.int)]):=(L.trans U).thenSm (Sm.app _ _);have a4:(n++[Ob.lst (l.map D.int)])[Zd n]?=aw (.lst (l.map D.int)):=aC;have n4:Zd n ≠ p:=by lia
  generalize n++[Ob.lst (l.map D.int)]=S4 at *;generalize Zd n=N at *;refine⟨rfl,aE Y.pot (by decide) (by decide) λy S5 y1 y2 Z=>?_⟩;k_is;have C:=Z.kp _ _ n4 a4;have v:=Y.trans Z;refine cu (λ_=>?_) λ_=>?_
  ·k_is;refine⟨by rw[aq C];rfl,?_⟩;have ll:l.length<=7:=by rw[pm.length_eq];exact lo
   have hb:∀x ∈ l,0<=x/\x < K.G.length:=λx B=>(rd sk pm).bd x (Zz _ B);refine aX l D.int (λx=>[ac (gi K.G x 2,x)]) (by lia) (λ_ _=>Ze _) (bH C) (λi x S' B sm=>⟨_,rfl,?_⟩) λS6 s6=>?_
   ·obtain⟨X,x1⟩:=hb x (Zc B);obtain⟨a,b,c,d,e,f,g,eg,e0,e1,e2,_⟩:=gl7 V X x1;k_is;refine aa sk2 (aa (b8 X eg) (aa (show ixS (az [a,b,c,d,e,f,g]) (.int 2) S'=aw (.int c,S') from rfl) ?_));k_is;exact⟨by rw[e2];rfl,Sm.refl _⟩
   ·rw[aU];have ep:(l.map λx=>ac (gi K.G x 2,x))=(l.map λx=>(gi K.G x 2,x)).map ac:=by rw[ZL];rfl
    rw[ep];obtain⟨u,es,pq⟩:=zn (ps:=l.map λx=>(gi K.G x 2,x)) (by rw[Za];lia);refine⟨_,es,?_⟩;have lq:u.length<=7:=by rw[pq.length_eq,Za];exact ll
    refine aX u ac (λz=>[D.int z.2]) (by lia) (λ_ _=>Ze _) cv (λi z S' hz sm=>⟨_,show ax (.tup [.name 3,.name 4]) (.tup [.int z.1,.int z.2]) _=_ from bm (by simp) (by simp),?_⟩) λS7 s7=>?_
    ·k_is;exact⟨rfl,Sm.refl _⟩
    ·rw[aU];k_is;have e7:(u.map λz=>D.int z.2)=(u.map (·.2)).map D.int:=by rw[ZL];rfl
     have I:(u.map (·.2)).Perm (cw K):=by
      have:=pq.map (·.2);rw[ZL] at this;have e8:(l.map ((·.2) ∘ λx=>(gi K.G x 2,x)))=l:=(Yh λx _=>rfl).trans (Wm l);rw[e8] at this;exact this.trans pm
     have d8:Dr p S (S7++[Ob.lst (u.map λz=>D.int z.2)]):=(v.thenSm (s6.trans s7)).thenSm (Sm.app _ _);exact T (k:=k) sk (by rw[<-e7];exact aC) I λos E J ho=>q os E (d8.thenSm J) ho
  ·k_is;exact T (k:=k) sk C pm λos E J ho=>q os E (v.thenSm J) ho
def pO(sk:SkOk K){l:Bool}{j:Nat}:∀n,BB K l p n (2 * n+5+j)
 |0=>by rw[show 2 * 0+5+j=(4+j)+1 by lia];exact CV
 |n+1=>by
  have I:=pO sk (l:=l) (j:=j) n;rw[show 2 * (n+1)+5+j=(2 * n+j)+7 by lia];exact CW sk (by rw[show 2 * n+j+5=2 * n+5+j by lia];exact I)
abbrev a7(K:Sky):List Int:=((Zk K.G.length).filter λ(j:Nat)=>!decide ((j:Int) ∈ K.F)).map λ(j:Nat)=>(j:Int)
def GY(V:Vd K)(q:∀S',Sm S S'->Q (.tup ((a7 K).map D.int)) S'):Ok (evC ag (k+1) 20 [skE K] S) Q:=by
 refine am (d:=gm) (ρ:=[aw (skE K)]) rfl rfl ?_;dsimp only[gm,kB];have g7:=V.g7;k_is;refine aa sk2 (aa bc ?_);k_is;refine⟨dg (by lia) (by lia),?_⟩;rw[Zy];refine aX (Zk K.G.length) (λ(j:Nat)=>D.int (0+(j:Int))) (λ(j:Nat)=>if (!decide ((j:Int) ∈ K.F))=aN then [D.int (j:Int)] else []) (by rw[ZG];lia) (λa _=>by split <;> simp) wa (λi j S' h sm=>⟨_,rfl,?_⟩) λb f=>?_
 ·k_is;refine aa sk3 ?_;rw[Y2];k_is;refine aa (show ak .notin (.int (j:Int)) (.tup (K.F.map D.int)) S'=aw (.bl (aN != decide ((j:Int) ∈ K.F)),S') from ji aN K.F j S') ?_;rw[show(aN != decide ((j:Int) ∈ K.F)) = !decide ((j:Int) ∈ K.F) by cases decide ((j:Int) ∈ K.F) <;> rfl];k_is;cases c:!decide ((j:Int) ∈ K.F) with
  |true=>exact⟨rfl,Sm.refl _⟩
  |false=>exact⟨rfl,Sm.refl _⟩
 ·rw[bv];refine aa (show cL aS _ b=aw (.tup _,b) from rfl) ?_;have:=q b f;unfold a7 at this
  rwa [ZL] at this
def C0(V:Vd K)(bd:∀g ∈ K.F,0<=g/\g < K.G.length)(y:K.F.length<=7)(z:∀j,rn K K.F K.ah [] = .inl j->∀S',Sm S S'->Q .non S')(v:∀R,rn K K.F K.ah [] = .inr R->∀n S',Sm S S'->S'[n]?=aw (.lst (R.map ac))->S.length<=n->Q (.ref n) S'):Ok (evC ag (k+6) 47 [skE K] S) Q:=by
 refine am (d:=cp) (ρ:=[aw (skE K),aD]) rfl rfl ?_;dsimp only[cp,eG];k_is;refine aa sk3 ?_;refine⟨rfl,kH (k:=k) V bd y λn L f q c hN u=>?_⟩;k_is;refine aa (b9 c) (aa sk3 (aa bc ?_));k_is;rw[Za];cases h:rn K K.F K.ah [] with
 |inl j=>
  have b:=u.stuck j h;have E:=ir K.F _ _ j h;rw[Z1,YG] at E;rw[decide_eq_false (show ¬ (L.length:Int)=K.F.length by lia)];k_is;exact z j h f q
 |inr R=>
  have b:=u.lands R h;have E:=gW K.F _ _ R h;rw[Z1,YG] at E;rw[decide_eq_true (show(L.length:Int)=K.F.length by rw[b,E])];k_is;exact v R h n f q (by rw[<-b];exact c) hN
abbrev aQ(K:Sky)(l:Bool):Option (Int × List Int):=match rn K K.F K.ah [] with
 |.inl _=>aD
 |.inr R=>(bb K l (a7 K).length (ay K R) (a7 K)).map λz=>(R.foldr (λy x=>jnd K l y.1 y.2 x) z.1,K.F++z.2)
def Im:∀ (os:List Int) (a:Option (Int × Int)) (L R:List (Int × Int)),(∀g ∈ os,0<=g/\g < K.G.length)->InG K L->rn K os a L = .inr R->InG K R
 |[],_,L,R,_,hL,e=>by cases e;exact hL
 |g::os,a,L,R,ho,hL,e=>by
  rw[rn] at e;split at e
  ·cases e
  ·rename_i m _;split at e
   ·cases e
   ·exact Im os _ _ R (λx h=>ho x (Zi _ h)) (λz b=>(ZS.mp b).elim (hL z) λZ=>by rw[ZM.mp Z];exact ho g Zj) e
def M5:∀n,n < 8->cnt n<=99999:=by decide
def GZ(sk:SkOk K){ah:Option (Int × Int)}(c:∀q,ah=aw q->0<=q.1/\q.1 < K.M.length):Lf K (a7 K).length ah (a7 K):=by
 refine⟨?_,λg b=>?_,rfl,?_,c⟩
 ·unfold a7;exact YJ.mpr ((Xa.filter _).imp λh z=>h (Int.ofNat.inj z))
 ·unfold a7 at b;obtain⟨j,d,rfl⟩:=Zu.mp b;have:=ZO.mp (ZQ.mp d).1
  lia
 ·unfold a7;rw[Za];have:=Yj (λ(j:Nat)=>!decide ((j:Int) ∈ K.F)) (Zk K.G.length);rw[ZG] at this;exact this
def Kp.new{o:Ob}(h:Ev.Kp S.length (S++[o]) S'):Sm S S':=λi u e=>by
 have hi:=(Zb.mp e).1;exact h i u (by lia) (Sm.app _ _ _ _ e)
def Io{n:Nat}{ds:List D}{T:Tg}{b:XS}{c:Rho}{Q:Fl->Rho->Sto->Prop}(J:ds.length<=100000)(I:Nat->Rho->Sto->Prop)(y:∀i c S',I i c S'->S'[n]?=aw (.lst ds))
  (step:∀ (i:Nat) d c S',ds[i]?=aw d->I i c S'->∃f,ax T d c=aw f/\OkS (b f S') λC h u=>match C with |.nx=>I (i+1) h u |.ct=>I (i+1) h u |.bk=>Q .nx h u |.rt d=>Q (.rt d) h u)
  (q:∀c S',I ds.length c S'->Q .nx c S') (B:I 0 c S):OkS (eV (nxS n) T b LF 0 c S) Q:=by
 refine jh ds.length I (by unfold LF;lia) (λi c S' hi j=>?_) (λc S' j=>⟨?_,q c S' j⟩) B
 ·obtain⟨f,E,z⟩:=step i ds[i] c S' (gEG hi) j;refine⟨ds[i],f,?_,E,z⟩;show(au S' n).map (λds=>ds[i]?)=_;rw[aq (y i c S' j),ZD,gEG hi]
 ·show(au S' n).map (λv=>v[ds.length]?)=_;rw[aq (y _ c S' j),ZD,Zs (Ze _)]
def C1(sk:SkOk K){l:Bool}(q:∀S',Sm S S'->Q (bI (aQ K l)) S'):Ok (evC ag (k+20) 53 [skE K,fL l] S) Q:=by
 refine am (d:=fm) (ρ:=[aw (skE K),aw (fL l),aD,aD,aD,aD,aD,aD]) rfl rfl ?_;dsimp only[fm,jf];have V:=sk.vd;have g7:=sk.g7;have lF:=Dw.bT K.G.length K.F sk.nd sk.bd;k_is;unfold aQ at q;refine⟨rfl,C0 (k:=k+13) V sk.bd (by lia) (λj J E T=>?_) (λR J n E T hn hN=>?_)⟩
 ·rw[J] at q;k_is;refine aa (show ak .is .non .non E=aw (.bl aN,E) from rfl) ?_;k_is;exact q E T
 ·rw[J] at q;k_is;refine aa (show ak .is (.ref n) .non E=aw (.bl aS,E) from rfl) ?_;k_is;have inR:InG K R:=Im K.F _ [] R sk.bd (λz hz=>by cases hz) J;refine⟨rfl,nB (k:=k+18) V hn inR ?_⟩;refine⟨rfl,GY (k:=k+18) V λO s2=>?_⟩;k_is;have Z:=GZ sk (gG V inR);have fle:=Z.le;have hc:=M5 (a7 K).length (by lia);have kn:Kn K l O.length 0 (O++[Ob.dic [] []]):=⟨[],[],aC,⟨rfl,λ_ _ _ h=>by cases h⟩,Ze _⟩;have Y:=pO (p:=O.length) sk (l:=l) (j:=k+14 - 2 * (a7 K).length) (a7 K).length;rw[show 2 * (a7 K).length+5+(k+14 - 2 * (a7 K).length)=k+19 by lia] at Y;refine⟨rfl,Y _ _ _ 0 _ Z kn (by lia) λB k3 kn3=>?_⟩;have s3:=(T.trans s2).trans (Kp.new k3);have U:=(Kp.new k3) _ _ (s2 _ _ hn);dsimp only at q;cases hb:bb K l (a7 K).length (ay K R) (a7 K) with
  |none=>
   rw[hb] at q;rw[show bI aD = .non from rfl];k_is;refine aa (show ak .is .non .non B=aw (.bl aN,B) from rfl) ?_;k_is;exact q B s3
  |some z=>
   rw[hb] at q;rw[show bI (aw z) = .tup [.int z.1,.tup (z.2.map D.int)] from rfl];k_is;refine aa (show ak .is (.tup [.int z.1,.tup (z.2.map D.int)]) .non B=aw (.bl aS,B) from rfl) ?_;k_is;refine aa (show uN (.ref n) B=aw (.ref B.length,B++[Ob.lst (R.map ac).reverse]) by simp only[uN,aq U]) ?_;have a4:(B++[Ob.lst (R.map ac).reverse])[B.length]?=aw (.lst (R.map ac).reverse):=aC;have s4:=s3.trans (Sm.app B [Ob.lst (R.map ac).reverse]);generalize B++[Ob.lst (R.map ac).reverse]=S4 at *;generalize B.length=N at *;have lR:=gW K.F _ _ R J;rw[Z1,YG] at lR;k_is;refine⟨by rw[aq a4];rfl,?_⟩;refine Io (ds:=(R.map ac).reverse) (by rw[Yq,Za];lia) (λi L S'=>S'=S4/\∃u v,L=[aw (skE K),aw (fL l),aw (.ref n),aw (.tup [.int z.1,.tup (z.2.map D.int)]),aw (.int ((R.reverse.take i).foldl (λx y=>jnd K l y.1 y.2 x) z.1)),aw (.tup (z.2.map D.int)),u,v]) (λi L S' I=>by rw[I.1];exact a4) (λi d L S' hd I=>?_) (λL S' I=>?_) ⟨rfl,_,_,rfl⟩
   ·obtain⟨rfl,u,v,rfl⟩:=I;rw[<-List.map_reverse] at hd;obtain⟨y,X,rfl⟩:=gD hd;have C:=inR y (List.mem_reverse.mp (Zc X));obtain⟨a,b,c,d,e,f,h,eg,e0,e4,e5,f0,f1,a0,a1⟩:=gl9 sk C.1 C.2;refine⟨_,show ax (.tup [.name 6,.name 7]) (.tup [.int y.1,.int y.2]) _=_ from bm (by simp) (by simp),?_⟩;k_is;refine aa sk2 (aa (b8 C.1 eg) ?_);refine⟨rfl,pK (k:=k+17) l e4 e5 f0 f1 ?_⟩;k_is
    have e:(R.reverse.take (i+1)).foldl (λx y=>jnd K l y.1 y.2 x) z.1=jnd K l y.1 y.2 ((R.reverse.take i).foldl (λx y=>jnd K l y.1 y.2 x) z.1):=by
     rw[List.take_succ,X,List.foldl_append];rfl
    rw[e];exact⟨rfl,_,_,rfl⟩
   ·obtain⟨rfl,u,v,rfl⟩:=I;rw[Yq,Za,<-Yq (as:=R),YM,List.foldl_reverse];k_is;refine aa sk3 ?_;k_is;have lz:=v0 _ _ _ z hb;refine⟨by rw[Za,Za];lia,?_⟩;have:=q _ s4;dsimp only[ZD,bI] at this
    rwa [ZF] at this
def M6(q:Q (match (o:Option (Int × List Int)) with |none=>D.non |some z=>.tup [.str "order", .int z.1,.tup (z.2.map D.int)]) S):Ok (evC ag (k+1) 52 [bI o] S) Q:=by
 refine am (d:=vG) (ρ:=[aw (bI o),aD,aD]) rfl rfl ?_;dsimp only[vG,BZ];cases o with
 |none=>
  rw[show bI aD = .non from rfl];k_is;refine aa (show ak .is .non .non S=aw (.bl aN,S) from rfl) ?_;k_is;exact q
 |some z=>
  rw[show bI (aw z) = .tup [.int z.1,.tup (z.2.map D.int)] from rfl];k_is;refine aa (show ak .is (.tup [.int z.1,.tup (z.2.map D.int)]) .non S=aw (.bl aS,S) from rfl) ?_;k_is;exact q
abbrev be:Option (Int × List Int)->D
 |none=>.non
 |some z=>.tup [.str "order", .int z.1,.tup (z.2.map D.int)]
def ju(sk:SkOk K)(l:Bool)(q:∀S',Sm S S'->Q (be (aQ K l)) S'):Ok (evC ag (k+21) (if l=aN then 50 else 51) [skE K] S) Q:=by
 have j:∀b,Sm S b->Ok (evC ag (k+20) 53 [skE K,fL l] b) λd c=>Ok (evC ag (k+20) 52 [d] c) Q:=λb f=>C1 (k:=k) sk λc n=>M6 (k:=k+19) (by
  have:=q c (f.trans n);cases h:aQ K l with
  |none=>rw[h] at this;exact this
  | some z=>rw[h] at this;exact this)
 cases l with
 |true=>
  rw[if_pos rfl];refine am (d:=fj) (ρ:=[aw (skE K)]) rfl rfl ?_;dsimp only[fj,jd];k_is;refine⟨rfl,gH (k:=k+12) sk λb f=>?_⟩;k_is;refine⟨rfl,(j b f).mono λd c h=>⟨rfl,h⟩⟩
 |false=>
  rw[if_neg (by decide)];refine am (d:=fk) (ρ:=[aw (skE K)]) rfl rfl ?_;dsimp only[fk,je];k_is;refine⟨rfl,gH (k:=k+12) sk λb f=>?_⟩;k_is;refine⟨rfl,(j b f).mono λd c h=>⟨rfl,h⟩⟩
end Lw
namespace Lw
open PySem Ev Sn
variable {K:Sky}
structure KAt(K:Sky)(L:List (Int × Int))(j:Nat)(z:Int × Int):Prop where
 lo:gi K.G z.1 2<=z.2
 hi:z.2<=gi K.G z.1 3
 op:opm K.H z.2=z.2
 gap:∀a,ay K (L.take j)=aw a->a.2+gp K a.1 (gi K.G z.1 0)<=z.2
 wt:(wts K L (jn K z.1):Int)<=K.r
 rg:bK K (L.take j) z.1 z.2=aS
abbrev jZ(K:Sky)(L:List (Int × Int)):Prop:=∀ (j:Nat) z,L[j]?=aw z->KAt K L j z
def re:∀ (l:List (Int × Int)) (m:Int),m<=opm l m
 |[],_=>ZB _
 |p::l,m=>by
  rw[opm];refine Yo ?_ (re l _);split
  ·lia
  ·exact ZB _
def nQ:∀ {l:List (Int × Int)} {lo x y:Int},Ris lo l->x<=y->opm l x<=opm l y
 |[],_,_,_,_,h=>h
 |p::l,lo,x,y,h,hxy=>by
  rw[Ris] at h;rw[opm,opm];by_cases b:p.1<=x/\x < p.2
  ·rw[if_pos b];refine nQ h.2.2 ?_;split
   ·exact ZB _
   ·lia
  ·rw[if_neg b];refine nQ h.2.2 ?_;split
   ·lia
   ·exact hxy
def tV:∀ {l:List (Int × Int)} {lo x:Int},Ris lo l->opm l (opm l x)=opm l x
 |[],_,_,_=>rfl
 |p::l,lo,x,h=>by
  rw[Ris] at h;by_cases b:p.1<=x/\x < p.2
  ·have e:opm (p::l) x=p.2:=by rw[opm,if_pos b];exact jm h.2.2 (ZB _)
   rw[e,opm,if_neg (by lia)];exact jm h.2.2 (ZB _)
  ·have e:opm (p::l) x=opm l x:=by rw[opm,if_neg b]
   rw[e,opm];by_cases c:x < p.1
   ·have:opm l x=x:=jm h.2.2 (by lia);rw[this,if_neg b];exact this
   ·have:=re l x;rw[if_neg (by lia)];exact tV h.2.2
inductive Low:List (Int × Int)->List (Int × Int)->Prop
 |nil:Low [] []
 |cons {p q:Int × Int} {P A:List (Int × Int)}:p.1=q.1->p.2<=q.2->Low P A->Low (p::P) (q::A)
def Low.len{P A:List (Int × Int)}(h:Low P A):P.length=A.length:=by
 induction h with
 |nil=>rfl
 |cons _ _ _ I=>rw[Zo,Zo,I]
def Low.fst{P A:List (Int × Int)}(h:Low P A):P.map (λp=>jn K p.1)=A.map λp=>jn K p.1:=by
 induction h with
 |nil=>rfl
 |cons e _ _ I=>rw[Zw,Zw,I,e]
def Low.snoc{P A:List (Int × Int)}{p q:Int × Int}(h:Low P A)(c:p.1=q.1)(b:p.2<=q.2):Low (P++[p]) (A++[q]):=by
 induction h with
 |nil=>exact .cons c b .nil
 |cons e l _ I=>exact .cons e l I
def Low.wts{P A:List (Int × Int)}{t:Int}(h:Low P A):wts K P t<=wts K A t:=by
 unfold Sn.wts
 induction h with
 |nil=>exact Ze _
 |@cons p q P A e l _ ih=>
  rw[Yc,Yc];by_cases b:aF K t p=aN
  ·have:aF K t q=aN:=by
    simp only[aF,bAE,decide_eq_true_eq] at b ⊢;rw[<-e]
    lia
   rw[if_pos b,if_pos this,Zo,Zo]
   lia
  ·rw[if_neg b];split
   ·rw[Zo];lia
   ·exact ih
def Low.last{P A:List (Int × Int)}(h:Low P A):∀a,ay K P=aw a->∃b,ay K A=aw b/\a.1=b.1/\a.2<=b.2:=by
 have k:∀ {P A},Low P A->(P.getLast?=aD/\A.getLast?=aD)\/∃p q,P.getLast?=aw p/\A.getLast?=aw q/\p.1=q.1/\p.2<=q.2:=by
  intro P A h
  induction h with
  |nil=>exact .inl ⟨rfl,rfl⟩
  |@cons p q P A e l _ ih=>
   right;rcases ih with ⟨d,c⟩ |⟨n,Q,d,c,j⟩
   ·rw[List.getLast?_eq_none_iff] at d c;subst d c;exact⟨p,q,rfl,rfl,e,l⟩
   ·refine⟨n,Q,?_,?_,j⟩
    ·rw[YU,d];rfl
    ·rw[YU,c];rfl
 intro a f;unfold ay at f ⊢;rcases k h with ⟨d,c⟩ |⟨p,q,d,c,j,h4⟩
 ·rw[d] at f;rw[c];exact⟨a,f,rfl,ZB _⟩
 ·rw[d] at f;rw[c];cases f;exact⟨_,rfl,by rw[j],h4⟩
def xH{A B:List Int}(h:∀x ∈ A,∃y ∈ B,x<=y)(d:∀y ∈ B,0<=y):fT 0 A<=fT 0 B:=by
 cases A with
 |nil=>
  show 0<=fT 0 B;cases B with
  |nil=>exact ZB _
  |cons b B=>
   rw[eK (by simp)];exact d _ (k9 (by simp))
 |cons a A=>
  obtain⟨y,c,_⟩:=h a Zj;have:B ≠ []:=λz=>by rw[z] at c;simp at c
  rw[eK (by simp),eK this];exact vT (by simp) h
def zq{P A:List (Int × Int)}{g m m':Int}(h:Low P A)(k:m<=m'):fu K P g m<=fu K A g m':=by
 unfold fu;refine xH (λx f=>?_) λy d=>?_
 ·obtain⟨t,b,rfl⟩:=Zu.mp f;refine⟨1+(wts K A t:Int),Zu.mpr ⟨t,?_,rfl⟩,by have:=h.wts (K:=K) (t:=t);lia⟩;unfold cK at b ⊢;obtain⟨c,j⟩:=ZQ.mp b;rw[h.fst] at c;refine ZQ.mpr ⟨c,?_⟩;simp only[bAE,decide_eq_true_eq] at j ⊢
  lia
 ·obtain⟨t,_,rfl⟩:=Zu.mp d
  lia
def zr{P A:List (Int × Int)}{g m c:Int}(h:Low P A)(d:m<=c)(b:bK K A g c=aS):bK K P g m=aS:=by
 have:=zq (K:=K) (g:=g) h d;unfold bK at b ⊢;cases f:decide (0 < gi K.G g 6) with
 |false=>rfl
 |true=>
  rw[f,Yy] at b;rw[Yy];have:=of_decide_eq_false b;exact decide_eq_false (by lia)
def Ip:∀ {l:List Int} {k:Nat} {j t:Int},l.Pairwise (·<=·)->l[k]?=aw j->t < j->(l.filter λx=>decide (x<=t)).length<=k
 |[],_,_,_,_,h,_=>by cases h
 |a::l,0,j,t,hp,h,ht=>by
  cases h
  have:(a::l).filter (λx=>decide (x<=t))=[]:=Y0.mpr λx hx=>by
   rw[decide_eq_true_eq];rcases Zn.mp hx with rfl |hx
   ·lia
   ·have:=(Z4.mp hp).1 x hx
    lia
  rw[this];exact Ze _
 |a::l,k+1,j,t,hp,h,ht=>by
  have I:=Ip (k:=k) (Z4.mp hp).2 h ht;rw[Yc];split
  ·rw[Zo];lia
  ·lia
def C2:∀ {l:List Int} {k:Nat} {j t:Int},l.Pairwise (·<=·)->l[k]?=aw j->j<=t->k+1<=(l.filter λx=>decide (x<=t)).length
 |[],_,_,_,_,h,_=>by cases h
 |a::l,0,j,t,hp,h,ht=>by
  cases h;rw[Yc,if_pos (decide_eq_true ht),Zo]
  lia
 |a::l,k+1,j,t,hp,h,ht=>by
  have I:=C2 (k:=k) (Z4.mp hp).2 h ht;have:a<=j:=(Z4.mp hp).1 j (Zc h);rw[Yc,if_pos (decide_eq_true (by lia)),Zo]
  lia
abbrev cj(K:Sky)(L:List (Int × Int))(t:Int):Nat:=(L.filter λp=>decide (jn K p.1<=t)).length
def rf{os:List Int}{L:List (Int × Int)}(ho:Ord K os)(b:L.map (·.1)=os):(js K).Perm (L.map λp=>jn K p.1):=by
 have E:(L.map λp=>jn K p.1)=os.map (jn K):=by rw[<-b,ZL];rfl
 have c:(((Zk K.G.length).map λi=>Int.ofNat i).map (jn K))=K.G.map λg=>g.getD 1 0:=by
  rw[ZL];apply Wl
  ·simp
  ·intro i d h;simp only[Za] at h;simp only[Wj,List.getElem_range,Function.comp_apply,jn,gi];show((K.G[i]?).getD []).getD 1 0=_;rw[gEG h];rfl
 rw[E];refine(bP _).trans ?_;rw[<-c];exact(ho.pm.map (jn K)).symm
def Iq{os:List Int}{L:List (Int × Int)}{t:Int}(ho:Ord K os)(h:L.map (·.1)=os):((js K).filter λx=>decide (x<=t)).length=cj K L t:=by
 rw[((rf ho h).filter _).length_eq,Wr,Za];rfl
def C3{A B:List (Int × Int)}{t:Int}:cj K (A++B) t=cj K A t+cj K B t:=by unfold cj;rw[Xm,Zh]
def xI{A B:List (Int × Int)}{t:Int}:wts K (A++B) t=wts K A t+wts K B t:=by unfold Sn.wts;rw[Xm,Zh]
def M7{B:List (Int × Int)}{t:Int}:wts K B t<=cj K B t:=lc λp _ h=>by
 simp only[aF,bAE] at h;exact h.1
def M8{B:List (Int × Int)}{t:Int}(h:∀p ∈ B,t < p.2 - K.s):cj K B t<=wts K B t:=lc λp c b=>by
 simp only[aF,bAE];exact⟨b,decide_eq_true (h p c)⟩
def Qq(h:SkOk K)(a b:Int):0<=gp K a b:=by
 unfold gp Dw.mg2;cases e:K.M[a.toNat]? with
 |none=>simp
 |some r=>
  rw[ZW];cases E:r[b.toNat]? with
  |none=>simp[E]
  |some x=>
   have:=h.me.mat.ent r (Zc e) x (Zc E);simp[E]
   lia
def nR{b:Type}{A B:List b}{z:b}:(A++z::B)[A.length]?=aw z:=by rw[Zm (Ze _),Z7];rfl
def gI{b:Type}{A B:List b}:(A++B).take A.length=A:=Xj
def gJ{b:Type}{A B:List b}{z:b}:A++z::B=A++[z]++B:=by rw[Z2];rfl
def Qu(h:SkOk K):∀ (B A:List (Int × Int)) (z:Int × Int),jZ K (A++z::B)->∀p ∈ B,z.2<=p.2
 |[],_,_,_=>λp hp=>by cases hp
 |y::B,A,z,kp=>by
  have e:=gJ (A:=A) (B:=y::B) (z:=z);have k:=kp (A++[z]).length y (by rw[e];exact nR);rw[e] at kp;have c:=k.gap (gi K.G z.1 0,z.2) (by rw[e,gI,aW]);have:=Qq h (gi K.G z.1 0) (gi K.G y.1 0);intro p hp
  have b:z.2<=y.2:=by
   have:z.2+gp K (gi K.G z.1 0) (gi K.G y.1 0)<=y.2:=c
   lia
  rcases Zn.mp hp with rfl |hp
  ·exact b
  ·exact Yo b (Qu h B (A++[z]) y kp p hp)
def G0(h:SkOk K){os:List Int}(ho:Ord K os){A B:List (Int × Int)}{z:Int × Int}{m:Int}(c:(A++z::B).map (·.1)=os)(kp:jZ K (A++z::B))(y:m<=z.2):kO K A.length m=aS:=by
 unfold kO;have r0:=h.me.r0;cases d:(js K)[(K.r+(A.length:Int)).toNat]? with
 |none=>rfl
 |some j=>
  refine decide_eq_false λk=>?_;have C:=C2 (bW _) d (ZB j);rw[show(fC (K.G.map λg=>g.getD 1 0))=js K from rfl,Iq ho c,C3] at C;have v:cj K A j<=A.length:=Yj _ _;have f:=Qu h B A z kp
  have E:cj K (z::B) j<=wts K (z::B) j:=M8 λp hp=>by
   rcases Zn.mp hp with rfl |hp
   ·lia
   ·have:=f p hp;lia
  have u:wts K (A++z::B) j=wts K A j+wts K (z::B) j:=xI;have b:j ∈ (A++z::B).map λp=>jn K p.1:=(rf ho c).mem_iff.mp (Zc d);obtain⟨q,n,rfl⟩:=Zu.mp b;obtain⟨i,hi⟩:=ZZ n;have:=(kp i q hi).wt
  lia
def C4{P A:List (Int × Int)}{z:Int × Int}{L:List (Int × Int)}{j:Nat}(d:Low P A)(k:KAt K L j z)(h:L.take j=A):a8 K (ay K P) z.1<=z.2:=by
 unfold a8;cases c:ay K P with
 |none=>exact k.lo
 |some a=>
  obtain⟨b,hb,E,f⟩:=d.last a c;have:=k.gap b (by rw[h];exact hb);have:=k.lo;dsimp only;rw[E];split <;> lia
def tW(h:SkOk K){os:List Int}(ho:Ord K os):∀ (B A P:List (Int × Int)),(A++B).map (·.1)=os->jZ K (A++B)->Low P A->∃R,rn K (B.map (·.1)) (ay K P) P = .inr R/\Low R (A++B)
 |[],A,P,_,_,hl=>⟨P,rfl,by rw[ZN];exact hl⟩
 |z::B,A,P,hL,kp,hl=>by
  have k:=kp A.length z nR;have fr:=C4 hl k gI
  have m1:opm K.H (a8 K (ay K P) z.1)<=z.2:=by
   have:=nQ h.me.ris fr;rw[k.op] at this;exact this
  have hs:Sn.step K (ay K P) z.1 P.length=aw (opm K.H (a8 K (ay K P) z.1)):=by
   unfold Sn.step;have:=k.hi;rw[hl.len,G0 h ho hL kp m1,decide_eq_false (show ¬ gi K.G z.1 3 < opm K.H (a8 K (ay K P) z.1) by lia)];rfl
  have b:bK K P z.1 (opm K.H (a8 K (ay K P) z.1))=aS:=zr hl m1 (by have:=k.rg;rw[gI] at this;exact this);have e:=gJ (A:=A) (B:=B) (z:=z);obtain⟨R,E,c⟩:=tW h ho B (A++[z]) (P++[(z.1,opm K.H (a8 K (ay K P) z.1))]) (by rw[<-e];exact hL) (by rw[<-e];exact kp) (hl.snoc rfl m1);refine⟨R,?_,by rw[e];exact c⟩;rw[Zw,rn,hs];dsimp only;rw[b,if_neg Zg];rw[aW] at E;exact E
def tX:∀ (os:List Int) (P R:List (Int × Int)),rn K os (ay K P) P = .inr R->(∃T,R=P++T/\T.map (·.1)=os)/\∀ (j:Nat) z,P.length<=j->R[j]?=aw z->Sn.step K (ay K (R.take j)) z.1 j=aw z.2/\bK K (R.take j) z.1 z.2=aS
 |[],P,R,h=>by
  cases h;exact⟨⟨[],by simp,rfl⟩,λj z f b=>by rw[Zs f] at b;cases b⟩
 |g::os,P,R,h=>by
  rw[rn] at h;cases hs:Sn.step K (ay K P) g P.length with
  |none=>rw[hs] at h;cases h
  |some m=>
   rw[hs] at h;dsimp only at h;cases c:bK K P g m with
   |true=>rw[c,if_pos rfl] at h;cases h
   |false=>
    rw[c,if_neg Zg] at h;obtain⟨⟨T,e,E⟩,I⟩:=tX os (P++[(g,m)]) R (by rw[aW];exact h);refine⟨⟨(g,m)::T,by rw[e,<-gJ],by rw[Zw,E]⟩,λj z f b=>?_⟩;by_cases d:j=P.length
    ·subst d;rw[e,<-gJ,nR] at b;cases b;rw[e,<-gJ,gI];exact⟨hs,c⟩
    ·exact I j z (by rw[Zh,Zr];lia) b
def tY(f:Int × Int->Bool):∀ (R:List (Int × Int)),∃A B,R=A++B/\(∀p ∈ A,f p=aN)/\(B=[]\/∃y b,B=y::b/\f y=aS)
 |[]=>⟨[],[],rfl,λp hp=>(by cases hp),.inl rfl⟩
 |z::R=>by
  cases h:f z with
  |false=>exact⟨[],z::R,rfl,λp hp=>(by cases hp),.inr ⟨z,R,rfl,h⟩⟩
  |true=>
   obtain⟨A,B,e,d,c⟩:=tY f R;refine⟨z::A,B,by rw[e];rfl,λp hp=>?_,c⟩;rcases Zn.mp hp with rfl |hp
   ·exact h
   ·exact d p hp
def G1(h:SkOk K){g:Int}(n:0<=g)(f:g < K.G.length):jn K g+K.s<=gi K.G g 2:=by
 have hi:g.toNat < K.G.length:=by lia
 obtain⟨k,jo,fi,L,d,p,j,E,hb⟩:=h.gb K.G[g.toNat] (ZJ hi);have b:jn K g=jo:=by unfold jn gi;rw[gEG hi,E];rfl
 have c:gi K.G g 2=fi:=by unfold gi;rw[gEG hi,E];rfl
 rw[b,c];lia
def rh{a:Option (Int × Int)}{g m:Int}{j:Nat}(h:Sn.step K a g j=aw m):m=opm K.H (a8 K a g)/\m<=gi K.G g 3/\kO K j m=aS:=by
 unfold Sn.step at h;split at h
 ·cases h
 ·rename_i b;cases h;rw[YT,decide_eq_true_eq] at b
  exact⟨rfl,by lia,by
   cases e:kO K j (opm K.H (a8 K a g)) with
   |false=>rfl
   | true=>exact absurd (.inr e) b⟩
def tZ(a:Option (Int × Int))(g:Int):gi K.G g 2<=a8 K a g/\∀q,a=aw q->q.2+gp K q.1 (gi K.G g 0)<=a8 K a g:=by
 unfold a8;cases a with
 |none=>exact⟨ZB _,λq e=>by cases e⟩
 |some q=>
  dsimp only;refine⟨by split <;> lia,λQ e=>?_⟩;cases e;split <;> lia
def ly(h:SkOk K){os:List Int}(ho:Ord K os){R:List (Int × Int)}(J:rn K os K.ah [] = .inr R):R.map (·.1)=os/\jZ K R:=by
 obtain⟨⟨T,e,f⟩,st⟩:=tX os [] R J;rw[XC] at e;subst e;have s0:=h.me.s0;have r0:=h.me.r0
 have L:∀ (j:Nat) z,R[j]?=aw z->gi K.G z.1 2<=z.2:=λj z d=>by
  obtain⟨u,_⟩:=rh (st j z (YK _) d).1;have:=(tZ (K:=K) (ay K (R.take j)) z.1).1;have:=re K.H (a8 K (ay K (R.take j)) z.1)
  lia
 have bd:∀p ∈ R,0<=p.1/\p.1 < K.G.length:=λp c=>ho.bd p.1 (by rw[<-f];exact Zu.mpr ⟨p,c,rfl⟩);have ln:R.length=K.G.length:=by rw[<-ho.ln,<-f,Za]
 refine⟨f,λj z d=>?_⟩;obtain⟨hs,I⟩:=st j z (YK _) d;obtain⟨u,U,_⟩:=rh hs;have v:=tZ (K:=K) (ay K (R.take j)) z.1;have Z:=re K.H (a8 K (ay K (R.take j)) z.1);refine⟨L j z d,U,by rw[u];exact tV h.me.ris,λa O=>by have:=v.2 a O;lia,?_,I⟩;generalize jn K z.1=t;obtain⟨A,B,E,q,Q⟩:=tY (λp=>decide (p.2 - K.s<=t)) R
 have wA:wts K A t=0:=by
  unfold Sn.wts;rw[ZT,Y0];intro p c;have:=of_decide_eq_true (q p c);simp only[aF,bAE,decide_eq_true_eq]
  lia
 rw[E,xI,wA,YG];rcases Q with rfl |⟨y,B',rfl,hy⟩
 ·exact r0
 ·have X:¬ y.2 - K.s<=t:=of_decide_eq_false hy;have Y:R[A.length]?=aw y:=by rw[E];exact nR
  obtain⟨_,_,k⟩:=rh (st A.length y (YK _) Y).1
  have C:cj K A t=A.length:=by
   unfold cj
   congr 1
   refine XZ.mpr λp c=>decide_eq_true ?_;have b:p ∈ R:=by rw[E];exact Z3 _ c
   obtain⟨i,hi⟩:=ZZ b;have:=L i p hi;have:=G1 h (bd p b).1 (bd p b).2;have:=of_decide_eq_true (q p c)
   lia
  have cR:cj K R t=A.length+cj K (y::B') t:=by rw[E,C3,C]
  have le:cj K R t<=(K.r+(A.length:Int)).toNat:=by
   unfold kO at k;cases n:(js K)[(K.r+(A.length:Int)).toNat]? with
   |none=>
    have:=Z8.mp n;rw[vU] at this;have:=Yj (λp:Int × Int=>decide (jn K p.1<=t)) R;have:cj K R t<=R.length:=this
    lia
   |some x=>
    rw[n] at k;have:=of_decide_eq_false k;rw[<-Iq ho f];exact Ip (bW _) n (by lia)
  have:=M7 (K:=K) (B:=y::B') (t:=t)
  lia
end Lw
namespace Sn
open Ev PySem Lw
def pP{q:Type}{v:q->Int}{bt:Nat->Nat->Bool}{ws:List q}(h:∀i j x y,ws[i]?=aw x->ws[j]?=aw y->if bt i j=aN then v x<=v y else v y<=v x):∀m,m < ws.length->∃x,ws[argBest bt m]?=aw x/\∀j y,j<=m->ws[j]?=aw y->v x<=v y
 | 0,hm=>⟨ws[0],gEG hm,λj y k b=>by
  rw[WB.mp k,gEG hm] at b;cases b;exact ZB _⟩
 |m+1,hm=>by
  obtain⟨x,n,p⟩:=pP h m (by lia);have b:=gEG hm;have f:=h (m+1) (argBest bt m) _ x b n;show ∃x,ws[if bt (m+1) (argBest bt m)=aN then m+1 else argBest bt m]?=aw x/\_;split at f
  ·rename_i c;rw[if_pos c];refine⟨_,b,λj y k d=>?_⟩;by_cases e:j=m+1
   ·rw[e,b] at d;cases d;exact ZB _
   ·exact Yo f (p j y (by lia) d)
  ·rename_i c;rw[if_neg c];refine⟨x,n,λj y k d=>?_⟩;by_cases e:j=m+1
   ·rw[e,b] at d;cases d;exact f
   ·exact p j y (by lia) d
def C5{ws:List (Int × List Int)}{x:Int × List Int}(h:x ∈ ws):∃z,pH ws=aw z/\z.1<=x.1:=by
 obtain⟨i,hi⟩:=ZZ h;have n:=(Zb.mp hi).1
 obtain⟨z,k,le⟩:=pP (v:=λx:Int × List Int=>x.1) (bt:=hY ws) (ws:=ws) (λi j x y f b=>by
  have e:hY ws i j=hX x y:=by
   unfold hY;rw[ZE,ZE,f,b];rfl
  rw[e];unfold hX;by_cases c:x.1=y.1
  ·rw[c];split <;> split <;> exact ZB _
  ·rw[if_neg c];split
   ·rename_i d;exact Int.le_of_lt (of_decide_eq_true d)
   ·rename_i d;rw[decide_eq_true_eq] at d;lia) (ws.length - 1) (by lia)
 exact⟨z,k,le i x (by lia) hi⟩
variable {K:Sky} {l:Bool}
def nS{g m x y:Int}(h:x<=y):jnd K l g m x<=jnd K l g m y:=by
 unfold jnd;split
 ·split <;> split <;> lia
 ·lia
abbrev W(K:Sky)(l:Bool)(L:List (Int × Int))(x:Int):Int:=L.foldr (λy x=>jnd K l y.1 y.2 x) x
def wb{x y:Int}(h:x<=y):∀ (L:List (Int × Int)),W K l L x<=W K l L y
 |[]=>h
 |z::L=>nS (l:=l) (wb h L)
def xJ{L T:List (Int × Int)}{x:Int}:W K l (L++T) x=W K l L (W K l T x):=by unfold W;rw[List.foldr_append]
def t0{left:List Int}{g:Int}(b:left.Nodup)(c:g ∈ left):left.Perm (g::rst left g):=by
 have e:rst left g=left.erase g:=by
  rw[List.Nodup.erase_eq_filter b];unfold rst;refine Wc λx _=>?_;by_cases h:x=g <;> simp[h]
 rw[e];exact XU c
def C6{left:List Int}{g:Int}(h:left.Nodup):(rst left g).Nodup:=h.sublist X1
def t5:∀ (n:Nat) (left:List Int) (L:List (Int × Int)) (z:Int × List Int),(∀g ∈ left,gi K.G g 6=0)->left.Nodup->left.length=n->L.length+n=K.G.length->bb K l n (ay K L) left=aw z->z.2.Perm left/\∃T,rn K z.2 (ay K L) L = .inr (L++T)/\z.1=W K l T 0
 |0,left,L,z,_,_,ln,_,h=>by
  cases h;rw[ZT.mp ln];exact⟨List.Perm.nil,[],by rw[ZN];rfl,rfl⟩
 |n+1,left,L,z,nr,nd,ln,hn,h=>by
  rw[lv] at h;obtain⟨g,b,e⟩:=YE.mp (pJ h);unfold bw at e;rw[show K.G.length - (n+1)=L.length by lia] at e;cases hs:step K (ay K L) g L.length with
  |none=>rw[hs] at e;cases e
  |some m=>
   rw[hs] at e;obtain⟨y,E,rfl⟩:=ZV.mp e;have c:=t0 nd b;have j:=c.length_eq;rw[Zo] at j;obtain⟨p,T,r1,k⟩:=t5 n (rst left g) (L++[(g,m)]) y (λx d=>nr x (ZQ.mp d).1) (C6 nd) (by lia) (by rw[Zh,Zr];lia) (by rw[aW];exact E);refine⟨(p.cons g).trans c.symm,(g,m)::T,?_,by show jnd K l g m y.1=_;rw[k];rfl⟩;have f:bK K L g m=aS:=by unfold bK;rw[nr g b];rfl
   rw[rn,hs];dsimp only;rw[f,if_neg Zg];rw[aW] at r1;rw[r1];exact congrArg Sum.inr gJ.symm
def Ir:∀ (r left:List Int) (L R:List (Int × Int)),r.Perm left->left.Nodup->L.length+r.length=K.G.length->rn K r (ay K L) L = .inr R->∃T z,R=L++T/\bb K l r.length (ay K L) left=aw z/\z.1<=W K l T 0
 |[],left,L,R,pm,_,_,h=>by
  cases h;exact⟨[],(0,[]),by rw[ZN],rfl,ZB _⟩
 |g::r,left,L,R,pm,nd,hn,h=>by
  rw[Zo] at hn;rw[rn] at h;cases hs:step K (ay K L) g L.length with
  |none=>rw[hs] at h;cases h
  |some m=>
   rw[hs] at h;dsimp only at h;split at h
   ·cases h
   ·have b:g ∈ left:=pm.mem_iff.mp Zj;have c:=t0 nd b;obtain⟨T,y,d,E,f⟩:=Ir r (rst left g) (L++[(g,m)]) R ((pm.trans c).cons_inv) (C6 nd) (by rw[Zh,Zr];lia) (by rw[aW];exact h)
    obtain⟨z,j,Z⟩:=C5 (ws:=left.filterMap (bw K l r.length (ay K L) left)) (x:=(jnd K l g m y.1,g::y.2)) (YE.mpr ⟨g,b,by
     unfold bw;rw[show K.G.length - (r.length+1)=L.length by lia,hs];dsimp only;rw[aW] at E;rw[E];rfl⟩)
    refine⟨(g,m)::T,z,by rw[d];exact gJ.symm,by rw[Zo,lv];exact j,Yo Z (nS (l:=l) f)⟩
def wc:∀ (os r:List Int) (a:Option (Int × Int)) (L:List (Int × Int)),a=ay K L->rn K (os++r) a L=match rn K os a L with |.inl j=>.inl j |.inr R=>rn K r (ay K R) R
 |[],r,a,L,e=>by rw[e];rfl
 |g::os,r,a,L,e=>by
  rw[Xu,rn,rn];cases step K a g L.length with
  |none=>rfl
  |some m=>
   dsimp only;split
   ·rfl
   ·exact wc os r _ _ (aW (z:=(g,m))).symm
def G2(sk:SkOk K):∀g ∈ a7 K,gi K.G g 6=0:=λg b=>by
 obtain⟨d,f,c⟩:=(lx g).mp b;have hi:g.toNat < K.G.length:=by lia
 unfold gi;rw[gEG hi];rcases sk.rg g.toNat _ (gEG hi) with h |h
 ·exact h
 ·exact absurd (by rwa [show((g.toNat:Nat):Int)=g by lia] at h) c
def nT(sk:SkOk K):K.F.length+(a7 K).length=K.G.length:=by
 have:=(rd sk (List.Perm.refl (cw K))).ln
 rwa [Zh] at this
def fA(sk:SkOk K){z:Int × List Int}(h:aQ K l=aw z):Ord K z.2/\∃R,rn K z.2 K.ah [] = .inr R/\z.1=W K l R 0:=by
 unfold aQ at h;cases b:rn K K.F K.ah [] with
 |inl j=>rw[b] at h;cases h
 |inr R=>
  rw[b] at h;obtain⟨y,e,rfl⟩:=ZV.mp h;have L:=gW K.F _ _ R b;rw[Z1,YG] at L;obtain⟨p,T,r1,c⟩:=t5 _ _ R y (G2 sk) rc rfl (by rw[L];exact nT sk) e;refine⟨rd sk p,R++T,?_,?_⟩
  ·show rn K (K.F++y.2) K.ah []=_;rw[wc _ _ _ _ (show K.ah=ay K [] from rfl),b];exact r1
  ·show W K l R y.1=_;rw[xJ,c]
def xK(sk:SkOk K){os:List Int}(ho:Ord K os){R:List (Int × Int)}(h:rn K os K.ah [] = .inr R):∃z,aQ K l=aw z/\z.1<=W K l R 0:=by
 obtain⟨r,rfl⟩:=ho.fx;rw[wc _ _ _ _ (show K.ah=ay K [] from rfl)] at h;unfold aQ;cases c:rn K K.F K.ah [] with
 |inl j=>rw[c] at h;cases h
 |inr b=>
  rw[c] at h;have L:=gW K.F _ _ b c;rw[Z1,YG] at L;have nd:=Yx.mp ho.nd
  have pm:r.Perm (a7 K):=(Xl nd.2.1 rc).mpr λx=>by
   rw[lx];constructor
   ·intro d;have:=ho.bd x (Zz _ d);exact⟨this.1,this.2,λp=>nd.2.2 x p x d rfl⟩
   ·rintro⟨u,q,n⟩;have:x ∈ K.F++r:=ho.pm.mem_iff.mpr (Zu.mpr ⟨x.toNat,ZO.mpr (by lia),by show((x.toNat:Nat):Int)=x;lia⟩);exact(ZS.mp this).resolve_left n
  obtain⟨T,y,E,f,k⟩:=Ir r (a7 K) b R pm rc (by have:=nT sk;have:=pm.length_eq;lia) h;dsimp only;rw[<-pm.length_eq,f];refine⟨_,rfl,?_⟩;show W K l b y.1<=_;rw[E,xJ];exact wb k b
end Sn
namespace Sn
open Ev PySem Lw
def Iu{K:Sky}:∀ (L:List (Int × Int)),(∀y ∈ L,0<=y.2)->0<=W K aN L 0/\(∀y ∈ L,y.2<=W K aN L 0)/\(L=[]\/W K aN L 0 ∈ L.map (·.2))
 |[],_=>⟨ZB _,λ_ h=>(by cases h),.inl rfl⟩
 |y::L,h=>by
  obtain⟨b,I,i3⟩:=Iu (K:=K) L λz hz=>h z (Zi _ hz);have d:=h y Zj;have e:W K aN (y::L) 0=if W K aN L 0 > y.2 then W K aN L 0 else y.2:=rfl
  rw[e];refine⟨by split <;> lia,λz hz=>?_,.inr ?_⟩
  ·rcases Zn.mp hz with rfl |hz
   ·split <;> lia
   ·have:=I z hz;split <;> lia
  ·rw[Zw];split
   ·rename_i c;rcases i3 with rfl |i3
    ·have c:(0:Int) > y.2:=c;lia
    ·exact Zi _ i3
   ·exact Zj
def C7{K:Sky}(L:List (Int × Int))(h:∀y ∈ L,0<=y.2):fT 0 (L.map (·.2))=W K aN L 0:=by
 obtain⟨c,I,i3⟩:=Iu (K:=K) L h;cases L with
 |nil=>rfl
 |cons y L=>
  have ne:(y::L).map (·.2) ≠ []:=by simp
  rw[eK ne];rcases i3 with i3 |i3
  ·cases i3
  ·refine XF ?_ (vS i3);obtain⟨z,b,e⟩:=Zu.mp (k9 ne);rw[<-e];exact I z b
def C8{K:Sky}:∀ (L:List (Int × Int)),(L.map λy=>cst K y.1 y.2).sum=W K aS L 0
 |[]=>rfl
 |y::L=>by
  rw[Zw,List.sum_cons,C8 L];rfl
variable {K K':Sky} {l:Bool}
def pQ(sk:SkOk K){g:Int}(h:0<=g)(c:g < K.G.length):0<=gi K.G g 2/\0<=gi K.G g 5/\0<=gi K.G g 0/\gi K.G g 0 < K.M.length:=by
 have hi:g.toNat < K.G.length:=by lia
 have s0:=sk.me.s0;obtain⟨k,j,f,L,d,b,n,E,hb⟩:=sk.gb K.G[g.toNat] (ZJ hi);unfold gi;rw[gEG hi,E];exact⟨show 0<=f by lia,show 0<=b by lia,show 0<=k by lia,show k < _ by lia⟩
def C9{g m m':Int}(h:m<=m')(w:0<=gi K.G g 5):cst K g m<=cst K g m':=by
 unfold cst;exact Int.mul_le_mul_of_nonneg_left (by split <;> split <;> lia) w
def Qv{P A:List (Int × Int)}{x:Int}(h:Low P A)(w:∀z ∈ A,0<=gi K.G z.1 5):W K l P x<=W K l A x:=by
 induction h with
 |nil=>exact ZB _
 |@cons p q P A e le _ I=>
  have I:=I λz b=>w z (Zi _ b);refine Yo (nS (l:=l) I) ?_;show jnd K l p.1 p.2 (W K l A x)<=jnd K l q.1 q.2 (W K l A x);have:=C9 (K:=K) le (w q Zj);generalize W K l A x=y;unfold jnd;rw[e];split
  ·split <;> split <;> lia
  ·lia
def M9{A B:List (Int × Int)}{z:Int × Int}{x:Int}(w:0<=gi K.G z.1 5):W K l (A++B) x<=W K l (A++z::B) x:=by
 rw[xJ,xJ];refine wb ?_ A;show W K l B x<=jnd K l z.1 z.2 (W K l B x);unfold jnd;have:0<=cst K z.1 z.2:=by unfold cst;exact Int.mul_nonneg w (by split <;> lia)
 split
 ·split <;> lia
 ·lia
abbrev rnm(f:Int->Int)(L:List (Int × Int)):List (Int × Int):=L.map λz=>(f z.1,z.2)
structure Lsr(K K':Sky)(f:Int->Int)(L:List (Int × Int)):Prop where
 g:∀z ∈ L,∀i,i ≠ 3->gi K'.G (f z.1) i=gi K.G z.1 i
 g3:∀z ∈ L,gi K.G z.1 3<=gi K'.G (f z.1) 3
 r:K.r<=K'.r
 s:K'.s=K.s
 m:K'.M=K.M
 a:K'.ah=K.ah
 o:∀t,opm K.H t=t->opm K'.H t=t
def t6{f:Int->Int}{L:List (Int × Int)}{j:Nat}:(rnm f L).take j=rnm f (L.take j):=by unfold rnm;rw[Yp]
def Lsr.sub{f:Int->Int}{L A:List (Int × Int)}(h:Lsr K K' f L)(c:∀z ∈ A,z ∈ L):Lsr K K' f A:=⟨λz b=>h.g z (c z b),λz b=>h.g3 z (c z b),h.r,h.s,h.m,h.a,h.o⟩
def xL{f:Int->Int}{t:Int}{L:List (Int × Int)}(h:Lsr K K' f L):wts K' (rnm f L) t=wts K L t:=by
 unfold wts rnm;rw[Wr,Za]
 congr 1
 refine Wc λz b=>?_;show(decide (gi K'.G (f z.1) 1<=t) && decide (t < z.2 - K'.s))=_;rw[h.g z b 1 (by decide),h.s];rfl
def Da{f:Int->Int}{L:List (Int × Int)}(h:Lsr K K' f L):ay K' (rnm f L)=ay K L:=by
 unfold ay rnm;rw[List.getLast?_map];cases b:L.getLast? with
 |none=>exact h.a
 |some z=>
  show aw (gi K'.G (f z.1) 0,z.2)=_;rw[h.g z (Xc b) 0 (by decide)]
def Db{f:Int->Int}{L:List (Int × Int)}{z:Int × Int}(h:Lsr K K' f (z::L)):fu K' (rnm f L) (f z.1) z.2=fu K L z.1 z.2:=by
 have c:=h.sub (A:=L) λy b=>Zi _ b
 have e:cK K' (rnm f L) (f z.1) z.2=cK K L z.1 z.2:=by
  unfold cK;have E:jn K' (f z.1)=jn K z.1:=h.g z Zj 1 (by decide)
  have d:(rnm f L).map (λp=>jn K' p.1)=L.map λp=>jn K p.1:=by
   unfold rnm;rw[ZL];exact Yh λy b=>c.g y b 1 (by decide)
  rw[E,d,h.s]
 unfold fu;rw[e]
 congr 1
 exact Yh λt _=>by rw[xL c]
def t7{f:Int->Int}{L:List (Int × Int)}(h:Lsr K K' f L)(kp:jZ K L):jZ K' (rnm f L):=λj y hy=>by
 unfold rnm at hy;rw[Zp] at hy;obtain⟨z,c,rfl⟩:=ZV.mp hy;have k:=kp j z c;have b:=Zc c
 have d:Lsr K K' f (z::L.take j):=h.sub λy hy=>by
  rcases Zn.mp hy with rfl |hy
  ·exact b
  ·exact Z5 hy
 refine⟨by rw[h.g z b 2 (by decide)];exact k.lo,Yo k.hi (h.g3 z b),h.o _ k.op,λa n=>?_,?_,?_⟩
 ·rw[t6,Da (d.sub λy hy=>Zi _ hy)] at n;have:=k.gap a n;show a.2+gp K' a.1 (gi K'.G (f z.1) 0)<=z.2;unfold gp;rw[h.m,h.g z b 0 (by decide)];exact this
 ·rw[xL h,show jn K' (f z.1)=jn K z.1 from h.g z b 1 (by decide)];exact Yo k.wt h.r
 ·have:=k.rg;unfold bK at this ⊢;rw[t6,Db d,h.g z b 6 (by decide)];exact this
def Dc{f:Int->Int}{x:Int}:∀ {L:List (Int × Int)},Lsr K K' f L->W K' l (rnm f L) x=W K l L x
 |[],_=>rfl
 |z::L,h=>by
  show jnd K' l (f z.1) z.2 (W K' l (rnm f L) x)=jnd K l z.1 z.2 (W K l L x);rw[Dc (h.sub λy b=>Zi _ b)];unfold jnd cst;rw[h.g z Zj 4 (by decide),h.g z Zj 5 (by decide)]
def zt{P A:List (Int × Int)}{g m:Int}(h:List.Sublist P A):fu K P g m<=fu K A g m:=by
 unfold fu;refine xH (λx d=>?_) λy c=>?_
 ·obtain⟨t,b,rfl⟩:=Zu.mp d;refine⟨1+(wts K A t:Int),Zu.mpr ⟨t,?_,rfl⟩,by have:wts K P t<=wts K A t:=(h.filter _).length_le;lia⟩;unfold cK at b ⊢;obtain⟨h1,f⟩:=ZQ.mp b;refine ZQ.mpr ⟨?_,f⟩;rcases Zn.mp h1 with e |h1
  ·rw[e];exact Zj
  ·exact Zi _ ((h.map _).subset h1)
 ·obtain⟨t,_,rfl⟩:=Zu.mp c
  lia
def zu{P A:List (Int × Int)}{g m:Int}(h:List.Sublist P A)(b:bK K A g m=aS):bK K P g m=aS:=by
 have:=zt (K:=K) (g:=g) (m:=m) h;unfold bK at b ⊢;cases c:decide (0 < gi K.G g 6) with
 |false=>rfl
 |true=>
  rw[c,Yy] at b;rw[Yy];have:=of_decide_eq_false b;exact decide_eq_false (by lia)
def Na(sk:SkOk K){a b c:Int}(d:0<=a)(f:a < K.M.length)(h:0<=b)(B:b < K.M.length)(C:0<=c)(j:c < K.M.length):gp K a b<=gp K a c+gp K c b:=sk.me.tri a.toNat b.toNat c.toNat (by lia) (by lia) (by lia)
def zv(sk:SkOk K){A B:List (Int × Int)}{x:Int × Int}(q:InG K (A++x::B))(kp:jZ K (A++x::B)):jZ K (A++B):=λj z d=>by
 have sub:List.Sublist (A++B) (A++x::B):=(Y3 x B).append_left A;have wt:∀ {t:Int},wts K (A++B) t<=wts K (A++x::B) t:=λ{t}=>(sub.filter _).length_le;by_cases Q:j < A.length
 ·have c:(A++x::B)[j]?=aw z:=by rw[Zq Q] at d ⊢;exact d
  have k:=kp j z c;have e:(A++B).take j=(A++x::B).take j:=by rw[Xd (by lia),Xd (by lia)]
  exact⟨k.lo,k.hi,k.op,by rw[e];exact k.gap,by have:=k.wt;have:=wt (t:=jn K z.1);lia,by rw[e];exact k.rg⟩
 ·obtain⟨i,rfl⟩:∃i,j=A.length+i:=⟨j - A.length,by lia⟩;rw[Zm (by lia),show A.length+i - A.length=i by lia] at d;have c:(A++x::B)[A.length+(i+1)]?=aw z:=by rw[Zm (by lia),show A.length+(i+1) - A.length=i+1 by lia];exact d
  have k:=kp _ z c;have J:(A++B).take (A.length+i)=A++B.take i:=Xf _;have L:(A++x::B).take (A.length+(i+1))=A++x::B.take i:=Xf _;refine⟨k.lo,k.hi,k.op,λa h=>?_,by have:=k.wt;have:=wt (t:=jn K z.1);lia,?_⟩
  ·rw[J] at h;have n:=k.gap;rw[L] at n;cases i with
   |succ i=>
    cases B with
    |nil=>cases d
    |cons b B=>
     refine n a ?_;rw[List.take_succ_cons] at h ⊢;unfold ay at h ⊢;rw[YL,YU] at h;rw[YL,List.getLast?_cons_cons,YU];exact h
   |zero=>
    rw[XQ,ZN] at h;have E:=n (gi K.G x.1 0,x.2) (by rw[XQ];exact aW);have O:=kp A.length x nR;have T:=O.gap a (by rw[gI];exact h);have v:=q x (Zz _ Zj);have f:=q z (Zz _ (Zi _ (Zc d)));have nx:=pQ sk v.1 v.2;have C:=pQ sk f.1 f.2
    have I:0<=a.1/\a.1 < K.M.length:=by
     unfold ay at h;cases p:A.getLast? with
     |none=>rw[p] at h;have:=sk.ah a h;exact⟨this.1,this.2.1⟩
     |some y=>
      rw[p] at h;cases h;have u:=q y (Z3 _ (Xc p));exact(pQ sk u.1 u.2).2.2
    have:=Na sk I.1 I.2 C.2.2.1 C.2.2.2 nx.2.2.1 nx.2.2.2;have E:x.2+gp K (gi K.G x.1 0) (gi K.G z.1 0)<=z.2:=E
    lia
  ·rw[J];refine zu ?_ (by have:=k.rg;rw[L] at this;exact this);exact(Y3 x _).append_left A
end Sn
namespace Sn
open Ev PySem Lw
variable {K K':Sky} {l:Bool} {os:List Int} {L:List (Int × Int)}
def jv(ho:Ord K os)(b:L.map (·.1)=os):InG K L:=λz h=>ho.bd z.1 (b ▸ Zu.mpr ⟨z,h,rfl⟩)
def cO(sk:SkOk K)(ho:Ord K os)(h:L.map (·.1)=os)(kp:jZ K L):∃z,aQ K l=aw z/\z.1<=W K l L 0:=by
 obtain⟨R,r1,r2⟩:=tW sk ho L [] [] h kp .nil;rw[h] at r1;obtain⟨z,c,Z⟩:=xK (l:=l) sk ho r1;exact⟨z,c,Yo Z (Qv r2 λy b=>(pQ sk (jv ho h y b).1 (jv ho h y b).2).2.1)⟩
abbrev Btr(K K':Sky):Prop:=∀l z,aQ K l=aw z->∃Z,aQ K' l=aw Z/\Z.1<=z.1
def xM:∀ (a b:List Int),a.Nodup->(∀x ∈ a,x ∈ b)->b.length<=a.length->a.Perm b
 |[],b,_,_,h=>by rw[ZT.mp (WB.mp h)]
 |x::a,b,c,hs,h=>by
  have f:=hs x Zj;have p:=XU f;have j:=p.length_eq;rw[Zo] at j h;have c:=Z6.mp c;exact((xM a (b.erase x) c.2 (λy d=>(List.mem_erase_of_ne (λ(e:y=x)=>c.1 (e ▸ d))).mpr (hs y (Zi _ d))) (by lia)).cons x).trans p.symm
def Dd(nd:os.Nodup)(bd:∀g ∈ os,0<=g/\g < K.G.length)(ln:os.length=K.G.length)(fx:∃r,os=K.F++r):Ord K os:=
 ⟨nd,bd,ln,fx,xM _ _ nd (λx h=>by
  have:=bd x h;exact Zu.mpr ⟨x.toNat,ZO.mpr (by lia),by show((x.toNat:Nat):Int)=x;lia⟩) (by rw[Za,ZG];lia)⟩
def jw(sk:SkOk K)(b:SkOk K')(d:K'.G.length=K.G.length)(n:∃r,K.F=K'.F++r)(h:∀L,InG K L->Lsr K K' id L):Btr K K':=λl z p=>by
 obtain⟨ho,R,r1,r2⟩:=fA sk p;obtain⟨c,kp⟩:=ly sk ho r1;have f:=h R (jv ho c);have e:rnm id R=R:=by unfold rnm;exact Wm R
 have k:=t7 f kp;have w:=Dc (l:=l) (x:=0) f;rw[e] at k w;obtain⟨r,v⟩:=n;obtain⟨j,E⟩:=ho.fx;obtain⟨Z,q,u⟩:=cO (l:=l) b (Dd ho.nd (by rw[d];exact ho.bd) (by rw[d];exact ho.ln) ⟨r++j,by rw[E,v,Z2]⟩) c k;exact⟨Z,q,by rw[r2,<-w];exact u⟩
abbrev Up(G b:List (List Int)):Prop:=b.length=G.length/\∀ (i:Nat) g,G[i]?=aw g->∃d,0<=d/\d<=19/\b[i]?=aw (g.set 3 (g.getD 3 0+d))
def Up.gi{G b:List (List Int)}(h:Up G b)(gl:∀g ∈ G,g.length=7){x:Int}(X:0<=x)(f:x < G.length):(∀i,i ≠ 3->gi b x i=gi G x i)/\gi G x 3<=gi b x 3:=by
 have hi:x.toNat < G.length:=by lia
 obtain⟨d,j,c,e⟩:=h.2 x.toNat _ (gEG hi);have l7:=gl _ (ZJ hi);unfold Sn.gi;rw[e,gEG hi];refine⟨λi hi=>?_,?_⟩
 ·show(Wv _ _ _).getD i 0=(G[x.toNat]).getD i 0;show((Wv _ _ _)[i]?).getD 0=((G[x.toNat])[i]?).getD 0;rw[Zv (Ne.symm hi)]
 ·show(G[x.toNat]).getD 3 0<=(Wv _ _ _).getD 3 0;show _<=((Wv _ _ _)[3]?).getD 0;rw[ZU (by lia)];show _<=_+d
  lia
def Iv(sk:SkOk K)(gb:∀g ∈ K.G,GB K.M.length K.r K.s g){k:List (List Int)}(h:Up K.G k):SkOk { K with G:=k }:=by
 have b:∀ (i:Nat) c,k[i]?=aw c->∃g d,K.G[i]?=aw g/\0<=d/\d<=19/\c=g.set 3 (g.getD 3 0+d):=λi c e=>by
  have hi:i < K.G.length:=by rw[<-h.1];exact(Zb.mp e).1
  obtain⟨d,n,p,z⟩:=h.2 i _ (gEG hi);rw[e] at z;cases z;exact⟨_,d,gEG hi,n,p,rfl⟩
 refine⟨sk.me,by show k.length<=7;rw[h.1];exact sk.g7,λc f=>?_,sk.nd,λx I=>by show _/\x < (k.length:Int);rw[h.1];exact sk.bd x I,λj c f=>?_,sk.ah⟩
 ·obtain⟨i,hi⟩:=ZZ f;obtain⟨g,d,e,n,p,rfl⟩:=b i c hi;obtain⟨B,J,y,v,q,C,u,E,hb⟩:=gb g (Zc e);subst E;exact⟨B,J,y,v+d,q,C,u,rfl,by dsimp only;omega⟩
 ·obtain⟨g,d,e,n,p,rfl⟩:=b j c f;obtain⟨B,J,y,v,q,C,u,E,hb⟩:=gb g (Zc e);have:=sk.rg j g e;subst E;exact this
def Nb(sk:SkOk K)(gb:∀g ∈ K.G,GB K.M.length K.r K.s g){d:List (List Int)}(h:Up K.G d):Btr K { K with G:=d }:=
 jw sk (Iv sk gb h) h.1 ⟨[],by rw[ZN]⟩ λL c=>
  have u:=λz b=>h.gi (λg f=>(sk.vd.gl g f).1) (c z b).1 (c z b).2
  ⟨λz b=>(u z b).1,λz b=>(u z b).2,ZB _,rfl,rfl,rfl,λ_ e=>e⟩
def xN(sk:SkOk K){r:Int}(c:K.r<=r)(b:r<=8):SkOk { K with r:=r }:=
 ⟨⟨Yo sk.me.r0 c,b,sk.me.s0,sk.me.s60,sk.me.mat,sk.me.m1,sk.me.m4,sk.me.tri,sk.me.ris,sk.me.h4,sk.me.hb⟩,sk.g7,λg h=>by
  obtain⟨k,j,q,p,d,n,f,E,hb⟩:=sk.gb g h;exact⟨k,j,q,p,d,n,f,E,by dsimp only;omega⟩,sk.nd,sk.bd,sk.rg,sk.ah⟩
def De(sk:SkOk K){r:Int}(h:K.r<=r)(b:r<=8):Btr K { K with r:=r }:=
 jw sk (xN sk h b) rfl ⟨[],by rw[ZN]⟩ λL _=>⟨λ_ _ _ _=>rfl,λ_ _=>ZB _,h,rfl,rfl,rfl,λ_ e=>e⟩
def xO(sk:SkOk K):SkOk { K with H:=[] }:=
 ⟨⟨sk.me.r0,sk.me.r8,sk.me.s0,sk.me.s60,sk.me.mat,sk.me.m1,sk.me.m4,sk.me.tri,trivial,YK _,λ_ h=>nomatch h⟩,sk.g7,sk.gb,sk.nd,sk.bd,sk.rg,sk.ah⟩
def Df(sk:SkOk K):Btr K { K with H:=[] }:=
 jw sk (xO sk) rfl ⟨[],by rw[ZN]⟩ λL _=>⟨λ_ _ _ _=>rfl,λ_ _=>ZB _,ZB _,rfl,rfl,rfl,λ_ _=>rfl⟩
def Dg(sk:SkOk K){n:Nat}(h:∀ (j:Nat) x,K.F[j]?=aw x->gi K.G x 6 ≠ 0->j < n):SkOk { K with F:=K.F.take n }:=
 ⟨sk.me,sk.g7,sk.gb,sk.nd.sublist (X8 _ _),λx c=>sk.bd x (Z5 c),λj g b=>by
  rcases sk.rg j g b with h1 |h1
  ·exact .inl h1
  ·by_cases z:g.getD 6 0=0
   ·exact .inl z
   ·obtain⟨i,hi⟩:=ZZ h1;have:=h i _ hi (by unfold gi;rw[Zy,b];exact z);exact .inr (Zc (i:=i) (by rw[Xr this];exact hi)),sk.ah⟩
def G3(sk:SkOk K){n:Nat}(h:∀ (j:Nat) x,K.F[j]?=aw x->gi K.G x 6 ≠ 0->j < n):Btr K { K with F:=K.F.take n }:=
 jw sk (Dg sk h) rfl ⟨K.F.drop n,(XH n K.F).symm⟩ λL _=>⟨λ_ _ _ _=>rfl,λ_ _=>ZB _,ZB _,rfl,rfl,rfl,λ_ e=>e⟩
end Sn
namespace Sn
open Ev PySem Lw
variable {K:Sky} {n:Nat}
abbrev ren(n:Nat)(x:Int):Int:=x - if x > n then 1 else 0
abbrev t8(K:Sky)(n:Nat):Sky:={ K with G:=K.G.eraseIdx n,F:=K.F.map (ren n) }
def G4{x y:Int}(c:x ≠ n)(b:y ≠ n)(h:ren n x=ren n y):x=y:=by
 unfold ren at h;split at h <;> split at h <;> lia
def Dh{X:List Int}(h:X.Nodup)(b:(n:Int) ∉ X):(X.map (ren n)).Nodup:=by
 induction X with
 |nil=>exact XN
 |cons x X I=>
  have h:=Z6.mp h;rw[Zw];refine Z6.mpr ⟨λz=>?_,I h.2 λz=>b (Zi _ z)⟩;obtain⟨y,c,e⟩:=Zu.mp z;exact h.1 (G4 (λe=>b (by rw[<-e];exact Zi _ c)) (λe=>b (by rw[<-e];exact Zj)) e ▸ c)
def Di{x m:Int}(b:0<=x)(d:x < m)(h:x ≠ n)(c:(n:Int) < m):0<=ren n x/\ren n x < m - 1:=by
 unfold ren;split <;> lia
def t9(h:n < K.G.length):((t8 K n).G.length:Int)=K.G.length - 1:=by
 show((K.G.eraseIdx n).length:Int)=_;rw[Xk h]
 lia
def Dj{x:Int}(b:0<=x)(h:x ≠ n)(i:Nat):gi (t8 K n).G (ren n x) i=gi K.G x i:=by
 unfold gi;show(((K.G.eraseIdx n)[(ren n x).toNat]?).getD []).getD i 0=_;rw[Xz];unfold ren;split
 ·rw[if_neg (by lia),show(x - 1).toNat+1=x.toNat by lia]
 ·rw[show(x - 0)=x by lia,if_pos (by lia)]
def G5{L:List (Int × Int)}(c:InG K L)(b:∀z ∈ L,z.1 ≠ n):Lsr K (t8 K n) (ren n) L:=
 ⟨λz h i _=>Dj (c z h).1 (b z h) i,λz h=>by rw[Dj (c z h).1 (b z h)];exact ZB _,ZB _,rfl,rfl,rfl,λ_ e=>e⟩
def xP(sk:SkOk K)(k:n < K.G.length)(f:(n:Int) ∉ K.F):SkOk (t8 K n):=by
 have q:=t9 k;refine⟨sk.me,by have:=sk.g7;lia,λg b=>sk.gb g (List.mem_of_mem_eraseIdx b),Dh sk.nd f,λy p=>?_,λj g b=>?_,sk.ah⟩
 ·obtain⟨x,d,rfl⟩:=Zu.mp p;have:=sk.bd x d;rw[q];exact Di this.1 this.2 (λe=>f (e ▸ d)) (by lia)
 ·have b:(K.G.eraseIdx n)[j]?=aw g:=b;rw[Xz] at b;split at b
  ·rename_i c;refine(sk.rg j g b).imp_right λh=>Zu.mpr ⟨j,h,?_⟩;unfold ren;rw[if_neg (by lia)];lia
  ·rename_i c;refine(sk.rg (j+1) g b).imp_right λh=>Zu.mpr ⟨_,h,?_⟩;unfold ren;rw[if_pos (by lia)];lia
def Dk(sk:SkOk K)(q:n < K.G.length)(L:(n:Int) ∉ K.F):Btr K (t8 K n):=λl z T=>by
 obtain⟨ho,R,r1,r2⟩:=fA sk T;obtain⟨E,kp⟩:=ly sk ho r1;have f:=jv ho E
 have Y:(n:Int) ∈ R.map (·.1):=by
  rw[E];exact ho.pm.mem_iff.mpr (Zu.mpr ⟨n,ZO.mpr q,rfl⟩)
 obtain⟨x,p,ex⟩:=Zu.mp Y;obtain⟨A,B,rfl⟩:=List.append_of_mem p;have nd:((A++x::B).map (·.1)).Nodup:=by rw[E];exact ho.nd
 rw[ZF,Zw] at nd E;have d:=(Yx.mp nd);have C:=Z6.mp d.2.1
 have b:∀y ∈ A++B,y.1 ≠ n:=λy hy e=>by
  rw[<-ex] at e;rcases ZS.mp hy with hy |hy
  ·exact d.2.2 y.1 (Zu.mpr ⟨y,hy,rfl⟩) _ Zj e
  ·exact C.1 (by rw[<-e];exact Zu.mpr ⟨y,hy,rfl⟩)
 have sub:∀y ∈ A++B,y ∈ A++x::B:=λy hy=>by
  rcases ZS.mp hy with hy |hy
  ·exact Z3 _ hy
  ·exact Zz _ (Zi _ hy)
 have Q:=G5 (λy hy=>f y (sub y hy)) b;have u:=t7 Q (zv sk f kp);have hl:=t9 q;have ea:(rnm (ren n) (A++B)).map (·.1)=((A++B).map (·.1)).map (ren n):=by unfold rnm;rw[ZL,ZL];rfl
 have J:((A++B).map (·.1)).Nodup:=by
  rw[ZF];exact nd.sublist ((Y3 _ _).append_left _)
 have I:Ord (t8 K n) ((rnm (ren n) (A++B)).map (·.1)):=by
  rw[ea];refine Dd (Dh J λh=>?_) (λy hy=>?_) ?_ ?_
  ·obtain⟨y,hy,e⟩:=Zu.mp h;exact b y hy e
  ·obtain⟨v,hv,rfl⟩:=Zu.mp hy;obtain⟨y,j,rfl⟩:=Zu.mp hv;have:=f y (sub y j);rw[hl];exact Di this.1 this.2 (b y j) (by lia)
  ·have:=ho.ln;rw[<-E,Zh,Zo,Za,Za] at this;rw[Za,Za,Zh]
   lia
  ·obtain⟨r,O⟩:=ho.fx;rw[<-E] at O
   have:∃r1,A.map (·.1)=K.F++r1:=by
    rcases List.append_eq_append_iff.mp O.symm with ⟨a,k,_⟩ |⟨c,k,j⟩
    ·exact⟨a,k⟩
    ·cases c with
     |nil=>exact⟨[],by rw[k,ZN,ZN]⟩
     |cons y c=>
      rw[Xu] at j;injection j with h3 _;exact absurd (by rw[k,<-ex,h3];exact Zz _ Zj) L
   obtain⟨r1,e2⟩:=this;exact⟨(r1++B.map (·.1)).map (ren n),by rw[ZF,e2,Z2,ZF];rfl⟩
 obtain⟨Z,U,X⟩:=cO (l:=l) (xP sk q L) I rfl u;refine⟨Z,U,Yo X ?_⟩;rw[Dc Q,r2];exact M9 (pQ sk (f x p).1 (f x p).2).2.1
end Sn
namespace Lw
open PySem Ev Sn L2
variable {p:Nat} {S S':Sto} {k:Nat} {Q:D->Sto->Prop} {K:Sky} {os:List Int} {R:List (Int × Int)}
def Dm(sk:SkOk K)(ho:Ord K os)(q:∀S',Sm S S'->Q (.bl aN) S'):Ok (evC ag (k+4) 45 [skE K,.tup (os.map D.int)] S) Q:=by
 refine am (d:=iH) (ρ:=[aw (skE K),aw (.tup (os.map D.int)),aD]) rfl rfl ?_;dsimp only[iH,m9];k_is;refine aa sk2 (aa bc ?_);k_is;refine⟨rfl,tP ho.nd ho.bd sk.g7 λc b=>?_⟩;k_is;refine aa bc ?_;k_is;rw[ho.ln,decide_eq_true (rfl:(K.G.length:Int)=K.G.length)];k_is;refine aa sk3 (aa bc ?_);k_is;refine aa sk3 ?_;obtain⟨r,E⟩:=ho.fx
 have h:dX (os.map D.int) aD (aw (K.F.length:Int))=K.F.map D.int:=by
  rw[dY _ _ (by rw[Za,E,Zh];lia),<-Yp,E,Xj]
 rw[h];exact GJ (aa (GI K.F) (by k_is;exact q c b))
def wg(sk:SkOk K)(ho:Ord K os)(b:rn K os K.ah [] = .inr R)(q:∀n S',Sm S S'->S'[n]?=aw (.lst (R.map ac))->Q (.tup [.str "lands", .ref n]) S'):Ok (evC ag (k+9) 44 [skE K,.tup (os.map D.int)] S) Q:=by
 refine am (d:=jT) (ρ:=[aw (skE K),aw (.tup (os.map D.int)),aD]) rfl rfl ?_;dsimp only[jT,pw];have g7:=sk.g7;have ln:=ho.ln;k_is;refine⟨rfl,gH sk λB f=>?_⟩;k_is;refine⟨rfl,Dm (k:=k+4) sk ho λz u=>?_⟩;k_is;refine⟨rfl,kH (k:=k+3) sk.vd ho.bd (by lia) λn L c v h hN y=>?_⟩;k_is;refine aa (b9 h) (aa bc ?_);k_is;rw[Za];have E:=y.lands R b;have j:=gW os _ _ R b;rw[Z1,YG] at j;rw[E,decide_eq_false (show ¬ (R.length:Int) < os.length by lia)];k_is;exact q n c ((f.trans u).trans v) (E ▸ h)
end Lw
namespace Lw
open PySem Ev Sn
variable {p:Nat} {S:Sto} {k:Nat} {Q:D->Sto->Prop} {K:Sky}
def Dn{n:Nat}{h:List D}{T:Tg}{b:XS}{f:Rho}{Q:Fl->Rho->Sto->Prop}(O:h.length<=100000)(I:Nat->Rho->Sto->Prop)(C:∀i f c,I i f c->c[n]?=aw (.lst h))
  (step:∀ (i:Nat) d f c,h[i]?=aw d->I i f c->∃j,ax T (.tup [.int i,d]) f=aw j/\OkS (b j c) λE u y=>match E with |.nx=>I (i+1) u y |.ct=>I (i+1) u y |.bk=>Q .nx u y |.rt d=>Q (.rt d) u y)
  (q:∀f c,I h.length f c->Q .nx f c) (L:I 0 f S):OkS (eV (AW n) T b LF 0 f S) Q:=by
 refine jh h.length I (by unfold LF;lia) (λi f c hi v=>?_) (λf c v=>⟨?_,q f c v⟩) L
 ·obtain⟨j,J,z⟩:=step i h[i] f c (gEG hi) v;refine⟨.tup [.int i,h[i]],j,?_,J,z⟩;show(au c n).bind (λh=>enm h i)=_;rw[aq (C i f c v)];show enm h i=_;unfold enm;rw[if_pos (by lia),gEG hi];rfl
 ·show(au c n).bind (λB=>enm B h.length)=_;rw[aq (C _ f c v)];show enm h h.length=_;unfold enm;rw[if_pos (Ze _),Zs (Ze _)];rfl
def qP{a b:Nat}{xs:List Int}(c:S[a]?=aw (.lst (xs.map D.int)))(hb:S[b]?=aw (.lst (xs.map D.int)))(h:a ≠ b):ak .ne (.ref a) (.ref b) S=aw (.bl aS,S):=by
 have:eqD 60 S (.ref a) (.ref b)=aw aN:=by
  show(match au S a,au S b with
   |some xs,aw ys=>if a=b then aw aN else if xs.length=ys.length then eqL (eqD 59 S) xs ys else aw aS
   | _,_=>aD)=aw aN
  rw[aq c,aq hb];dsimp only;rw[if_neg h,if_pos rfl,jr]
 simp only[ak,neS];rw[this];rfl
def G6(X:List Int):ak .ne (.tup (X.map D.int)) (.tup (X.map D.int)) S=aw (.bl aS,S):=by
 have:eqD 60 S (.tup (X.map D.int)) (.tup (X.map D.int))=eqL (eqD 59 S) (X.map D.int) (X.map D.int):=rfl;simp only[ak,neS];rw[this,jr];rfl
def Dp{X Y:List D}(h:Ok (ak .ne (.tup X) (.tup Y) S) Q):tj .ne X (.tup Y) S Q:=by
 cases Y with
 |nil=>rw[xk,aG] at h;exact h
 |cons y Y=>exact h
def Dq{os:List Int}(ho:Ord K os):fC os=(Zk K.G.length).map λi=>Int.ofNat i:=by
 refine List.Perm.eq_of_pairwise (le:=(·<=·)) (λa b _ _ d c=>XF d c) (bW os) ?_ ((bP os).trans ho.pm);refine YJ.mpr (List.pairwise_lt_range.imp λh=>?_);exact Int.ofNat_le.mpr (YW h)
def G7{i j l:Nat}{a b c:D}{d:Rho}(f:i < d.length)(h:j < d.length)(n:l < d.length):ax (.tup [.name i,.tup [.name j,.name l]]) (.tup [a,.tup [b,c]]) d=aw (((d.set i (aw a)).set j (aw b)).set l (aw c)):=by
 have e:=bm (i:=j) (j:=l) (a:=b) (b:=c) (ρ:=d.set i (aw a)) (by rw[ZY];exact h) (by rw[ZY];exact n);rw[vI,nu,if_pos f,aM,e];dsimp only;rw[qQ]
def pR{L:List (Int × Int)}{i:Nat}{z:Int × Int}(h:L[i]?=aw z):L.take (i+1)=L.take i++[z]:=by
 obtain⟨hi,e⟩:=Zb.mp h;rw[ZX hi,e]
def ua(V:Vd K){L:List (Int × Int)}{n:Nat}(hn:S[n]?=aw (.lst (L.map ac)))(hL:InG K L)(hl:L.length<=7)(q:∀b S',Sm S S'->(b=aN ↔ jZ K L)->Q (.bl b) S') :
  rW (wSs (evC ag (k+2)) (fZ ag) 58 (dr.drop 2)) [aw (skE K),aw (.ref n),aD,aD,aD,aD,aD,aD,aD,aD,aD,aD,aD] S (out Q):=by
 dsimp only[dr,Yu];k_is;refine aa sk1 ?_;k_is;refine⟨by rw[aq hn];rfl,?_⟩;refine Dn (by rw[Za];lia) (λi ρ S'=>Sm S S'/\(∃u3 Z X O T Y u9 v U u,ρ=[aw (skE K),aw (.ref n),aw (ahE (ay K (L.take i))),u3,Z,X,O,T,Y,u9,v,U,u])/\∀ (j:Nat) z,j < i->L[j]?=aw z->KAt K L j z) (λi ρ S' iv=>iv.1 _ _ hn) (λi d ρ B hd ⟨J,⟨u3,Z,X,O,T,Y,u9,v,U,u,er⟩,kp⟩=>?_) (λρ B ⟨J,⟨u3,Z,X,O,T,Y,u9,v,U,u,er⟩,kp⟩=>?_) ⟨Sm.refl S,⟨_,_,_,_,_,_,_,_,_,_,rfl⟩,λj z hj=>absurd hj (Wq j)⟩
 ·subst er;obtain⟨z,hz,rfl⟩:=gD hd;obtain⟨g0,g1⟩:=hL z (Zc hz);obtain⟨a0,b,c,d,e,f,h,eg,e0,e1,e2,e3,e6,k0,k1,c0⟩:=gl7 V g0 g1;have hn1:=J _ _ hn;have no:∀S',Sm S S'->¬ KAt K L i z->Q (.bl aS) S':=λS' s' nk=>q aS S' s' ⟨λx=>(by cases x),λkk=>absurd (kk i z hz) nk⟩;refine⟨_,show ax (.tup [.name 3,.tup [.name 4,.name 5]]) (.tup [.int i,.tup [.int z.1,.int z.2]]) _=_ from G7 (by simp) (by simp) (by simp),?_⟩;k_is;refine aa sk2 (aa (b8 g0 eg) ?_);rw[show az [a0,b,c,d,e,f,h] = .tup [.int a0,.int b,.int c,.int d,.int e,.int f,.int h] from rfl];k_is;cases c1:decide (c<=z.2) with
  |false=>
   k_is;exact no B J λI=>by have:=I.lo;have:=of_decide_eq_false c1;lia
  |true=>
  k_is;cases c2:decide (z.2<=d) with
  |false=>
   k_is;exact no B J λI=>by have:=I.hi;have:=of_decide_eq_false c2;lia
  |true=>
  k_is;refine aa sk0 (aa me3 ?_);refine⟨rfl,tI V.h4 ?_⟩;k_is;cases c3:decide (opm K.H z.2=z.2) with
  |false=>
   k_is;exact no B J λI=>absurd I.op (of_decide_eq_false c3)
  |true=>
  k_is
  have C:(∀a,ay K (L.take i)=aw a->a.2+gp K a.1 a0<=z.2)->rW (wSs (evC ag (k+2)) (fZ ag) 52 [.ifs (.or (.cmp .gt (.len (.call 64 [(.var 0),(.var 1),(.var 7)])) (.ix (.ix (.var 0) (.int 0)) (.int 0))) (.chn .lt .lt (.int 0) (.var 12) (.call 65 [(.var 0),(.sl (.var 1) aD (aw (.var 3))),(.var 4),(.var 5)]))) [.ret (.bl aS)] [],.asg (.name 2) (.tup [(.var 6),(.var 5)])]) [aw (skE K),aw (.ref n),aw (ahE (ay K (L.take i))),aw (.int i),aw (.int z.1),aw (.int z.2),aw (.int a0),aw (.int b),aw (.int c),aw (.int d),aw (.int e),aw (.int f),aw (.int h)] B (λfl ρ2 E=>match fl with
    |.nx=>Sm S E/\(∃u3 Z X O T Y u9 v U u,ρ2=[aw (skE K),aw (.ref n),aw (ahE (ay K (L.take (i+1)))),u3,Z,X,O,T,Y,u9,v,U,u])/\∀ (j:Nat) z,j < i+1->L[j]?=aw z->KAt K L j z
    |.ct=>Sm S E/\(∃u3 Z X O T Y u9 v U u,ρ2=[aw (skE K),aw (.ref n),aw (ahE (ay K (L.take (i+1)))),u3,Z,X,O,T,Y,u9,v,U,u])/\∀ (j:Nat) z,j < i+1->L[j]?=aw z->KAt K L j z
    |.bk=>False
    | .rt d=>Q d E):=λhg=>by
   k_is;refine⟨rfl,pG V hn1 hL (by lia) λN ds E s2 hN hd=>?_⟩;refine aa (b9 hN) ?_;refine aa sk0 (aa me0 ?_);k_is;rw[hd];have ej:jn K z.1=b:=e1;cases c4:decide (K.r < (wts K L b:Int)) with
   |true=>
    k_is;exact no E (J.trans s2) λI=>by have:=I.wt;rw[ej] at this;have:=of_decide_eq_true c4;lia
   |false=>
   k_is
   have fin:∀S3,Sm S S3->bK K (L.take i) z.1 z.2=aS->Sm S S3/\(∃u3 Z X O T Y u9 v U u,[aw (skE K),aw (D.ref n),aw (D.tup [D.int a0,D.int z.2]),aw (D.int i),aw (D.int z.1),aw (D.int z.2),aw (D.int a0),aw (D.int b),aw (D.int c),aw (D.int d),aw (D.int e),aw (D.int f),aw (D.int h)]=[aw (skE K),aw (.ref n),aw (ahE (ay K (L.take (i+1)))),u3,Z,X,O,T,Y,u9,v,U,u])/\∀ (j:Nat) z,j < i+1->L[j]?=aw z->KAt K L j z:=λS3 s3 hh=>by
    refine⟨s3,⟨_,_,_,_,_,_,_,_,_,_,by rw[pR hz,aW,e0];rfl⟩,λj y hj hy=>?_⟩;by_cases hji:j=i
    ·subst hji;rw[hz] at hy;cases hy;exact⟨by rw[e2];exact of_decide_eq_true c1,by rw[e3];exact of_decide_eq_true c2,of_decide_eq_true c3,λa ha=>by rw[e0];exact hg a ha,by rw[ej];have:=of_decide_eq_false c4;lia,hh⟩
    ·exact kp j y (by lia) hy
   have eh:bK K (L.take i) z.1 z.2=(decide (0 < h) && decide (h < fu K (L.take i) z.1 z.2)):=by unfold bK;rw[e6]
   cases c5:decide (0 < h) with
   |false=>
    k_is;exact fin E (J.trans s2) (by rw[eh,c5];rfl)
   |true=>
   k_is;refine aa (jp (s2 _ _ hn1)) ?_;have s3:Sm E (E++[Ob.lst ((L.map ac).take i)]):=Sm.app _ _;have a3:(E++[Ob.lst ((L.map ac).take i)])[Zd E]?=aw (Ob.lst ((L.take i).map ac)):=by rw[aC,Yp]
   generalize Zd E=N3 at *;generalize E++[Ob.lst ((L.map ac).take i)]=S3 at *;refine⟨rfl,tJ V a3 (λy hy=>hL y (Z5 hy)) (by rw[Yb];lia) g0 g1 λS4 s4=>?_⟩;k_is;have sA:=((J.trans s2).trans s3).trans s4;cases c6:decide (h < fu K (L.take i) z.1 z.2) with
   |true=>
    k_is;exact no S4 sA λI=>by have:=I.rg;rw[eh,c5,c6] at this;cases this
   |false=>
    k_is;exact fin S4 sA (by rw[eh,c5,c6];rfl)
  cases hA:ay K (L.take i) with
  |none=>
   rw[hA] at C;refine aa (show ak .isnot (ahE aD) .non B=aw (.bl aS,B) from rfl) ?_;k_is;exact C λa ha=>by cases ha
  |some y=>
   rw[hA] at C;obtain⟨y0,y1⟩:=gG V (L:=L.take i) (λy hy=>hL y (Z5 hy)) y hA;refine aa (show ak .isnot (ahE (aw y)) .non B=aw (.bl aN,B) from rfl) ?_;k_is;refine aa (show ixS (ahE (aw y)) (.int 1) B=aw (.int y.2,B) from rfl) ?_;refine aa sk0 (aa me2 (aa (show ixS (ahE (aw y)) (.int 0) B=aw (.int y.1,B) from rfl) ?_));obtain⟨r,h1,h2⟩:=jX (S:=B) V y0 y1 k0 k1;refine aa h1 (aa h2 ?_);k_is;cases c7:decide (z.2 < y.2+gp K y.1 a0) with
   |true=>
    k_is;exact no B J λI=>by have:=I.gap y hA;rw[e0] at this;have:=of_decide_eq_true c7;lia
   |false=>
    k_is;exact C λa ha=>by cases ha;have:=of_decide_eq_false c7;lia
 ·subst er;k_is;refine q aN B J ⟨λ_ j z hz=>kp j z ?_ hz,λ_=>rfl⟩;rw[Za];exact(Zb.mp hz).1
def pS(V:Vd K){os:List Int}(ho:Ord K os){L:List (Int × Int)}{n:Nat}(v:S[n]?=aw (.lst (L.map ac)))(C:L.map (·.1)=os)(q:∀b c,Sm S c->(b=aN ↔ jZ K L)->Q (.bl b) c):Ok (evC ag (k+3) 68 [skE K,.ref n] S) Q:=by
 refine am (d:=gy) (ρ:=[aw (skE K),aw (.ref n),aD,aD,aD,aD,aD,aD,aD,aD,aD,aD,aD]) rfl rfl ?_;have g7:=V.g7;have ln:=ho.ln;have lL:L.length=os.length:=by rw[<-C,Za]
 have lF:K.F.length<=os.length:=by obtain⟨r,e⟩:=ho.fx;rw[e,Zh];lia
 have I:InG K L:=λz B=>ho.bd z.1 (by rw[<-C];exact Zu.mpr ⟨z,B,rfl⟩);have f:=λ(u:Sto) (h1:u[n]?=aw (.lst (L.map ac))) (X:∀b c,Sm u c->(b=aN ↔ jZ K L)->Q (.bl b) c)=>ua (k:=k) (Q:=Q) V h1 I (by lia) X;dsimp only[dr,Yu] at f;dsimp only[gy,dr];have T:(L.map λz=>D.int z.1)=os.map D.int:=by rw[<-C,ZL];rfl
 k_is;refine⟨by rw[aq v];rfl,?_⟩;refine aX L ac (λz=>[.int z.1]) (by lia) (λ_ _=>Ze _) (bH v) (λi z c B sm=>⟨_,show ax (.tup [.name 13,.name 14]) (.tup [.int z.1,.int z.2]) _=_ from bm (by simp) (by simp),?_⟩) λu O=>?_
 ·k_is;exact⟨rfl,Sm.refl _⟩
 ·rw[aU,T];refine⟨_,nF (by lia),?_⟩;rw[Dq ho];refine aa sk2 ?_;refine aa bc ?_;refine⟨K.G.length,rfl,by lia,?_⟩;have Y:((Zk K.G.length).map λj=>D.int (Int.ofNat j))=((Zk K.G.length).map λi=>Int.ofNat i).map D.int:=by rw[ZL];rfl
  rw[Y];refine aa (qP (xs:=(Zk K.G.length).map λi=>Int.ofNat i) (by rw[Zq (by simp),aC]) aC (by simp)) ?_;k_is;have E:Sm u (u++[Ob.lst (((Zk K.G.length).map λi=>Int.ofNat i).map D.int)]++[Ob.lst (((Zk K.G.length).map λi=>Int.ofNat i).map D.int)]):=(Sm.app _ _).trans (Sm.app _ _);generalize u++[Ob.lst (((Zk K.G.length).map λi=>Int.ofNat i).map D.int)]++[Ob.lst (((Zk K.G.length).map λi=>Int.ofNat i).map D.int)]=S2 at *;have h:=E _ _ (O _ _ v);refine⟨by rw[aq h];rfl,?_⟩;refine aX L ac (λz=>[.int z.1]) (by lia) (λ_ _=>Ze _) (bH h) (λi z c B sm=>⟨_,show ax (.tup [.name 13,.name 14]) (.tup [.int z.1,.int z.2]) _=_ from bm (by simp) (by simp),?_⟩) λy J=>?_
  ·k_is;exact⟨rfl,Sm.refl _⟩
  ·rw[aU,T];refine aa (show cL aS (os.map D.int) y=aw (.tup (os.map D.int),y) from rfl) ?_;k_is;refine aa sk3 ?_;refine aa bc ?_;k_is;refine aa sk3 ?_;obtain⟨r,U⟩:=ho.fx
   have Z:dX (os.map D.int) aD (aw (K.F.length:Int))=K.F.map D.int:=by
    rw[dY _ _ (by rw[Za];lia),<-Yp,U,Xj]
   rw[Z];refine Dp (aa (G6 K.F) ?_);k_is;exact f y (J _ _ h) λb c s' hb=>q b c (((O.trans E).trans J).trans s') hb
end Lw
namespace Lw
open PySem Ev Sn L2
variable {p:Nat} {S S':Sto} {k:Nat} {Q:D->Sto->Prop} {K:Sky} {os:List Int} {L:List (Int × Int)} {n j:Nat} {z:Int × Int}
def Ds(neg:Bool){n:Nat}{is:List Int}(h:S[n]?=aw (.lst (is.map D.int)))(i:Int):inS neg (.int i) (.ref n) S=aw (.bl (neg != decide (i ∈ is)),S):=by
 have:=ji neg is i S;unfold inS at this ⊢;have e:ao (.ref n) S=aw (aS,is.map D.int):=by simp only[ao,aq h,ZD]
 rw[e];exact this
def Iw(h:L[j]?=aw z):(L.map ac)[((j:Nat):Int).toNat]?=aw (ac z):=by rw[Zy,Zp,h];rfl
def xQ:(L.map λz=>D.int z.1)=(L.map (·.1)).map D.int:=by rw[ZL];rfl
structure Gd(K:Sky)(os:List Int)(L:List (Int × Int)):Prop where
 sk:SkOk K
 ho:Ord K os
 e:L.map (·.1)=os
 kp:jZ K L
def Gd.g(h:Gd K os L):InG K L:=jv h.ho h.e
def Gd.l(h:Gd K os L):L.length=K.G.length:=by rw[<-h.ho.ln,<-h.e,Za]
def Gd.l7(h:Gd K os L):L.length<=7:=by rw[h.l];exact h.sk.g7
def ub:∀ {l:List (Int × Int)} {m:Int},fns l m=m->(∀z ∈ l,z.1 < z.2)->∀z ∈ l,(decide (z.1<=m) && decide (m < z.2))=aS
 |p::l,m,h,hl,z,hz=>by
  rw[fns] at h;split at h
  ·rename_i c;lia
  ·rename_i c;rcases Zn.mp hz with rfl |hz
   ·rw[Bool.and_eq_false_iff,decide_eq_false_iff_not,decide_eq_false_iff_not];lia
   ·exact ub h (λz hz=>hl z (Zi _ hz)) z hz
def Dt:∀ {l:List (Int × Int)} {lo:Int},Ris lo l->∀z ∈ l,z.1 < z.2
 |p::l,lo,h,z,hz=>by
  rw[Ris] at h;rcases Zn.mp hz with rfl |hz
  ·exact h.2.1
  ·exact Dt h.2.2 z hz
def G8{b:Type}(l:List b)(g:b->Bool)(S:Sto):n6 aS (l.map λt=>D.bl (g t)) S=aw (.bl (l.any g),S):=by
 unfold n6;rw[if_pos ⟨rfl,by rw[YX,Yk];intro x _;rfl⟩,Wa];rfl
def Nc(sk:SkOk K){m:Int}(h:opm K.H m=m)(q:∀S',Sm S S'->Q (.bl aS) S'):Ok (evC ag (k+1) 13 [meE K,.int m] S) Q:=by
 refine am (d:=jO) (ρ:=[aw (meE K),aw (.int m)]) rfl rfl ?_;dsimp only[jO,o8];have h4:=sk.me.h4;have hs:=ub ((qZ sk.me.ris).symm.trans h) (Dt sk.me.ris);k_is;refine aa me3 ?_;k_is;refine aX K.H ac (λz=>[.bl aS]) (by lia) (λ_ _=>Ze _) cv (λi z S' u sm=>⟨_,show ax (.tup [.name 2,.name 3]) (.tup [.int z.1,.int z.2]) _=_ from bm (by simp) (by simp),?_⟩) λb f=>?_
 ·have:=hs z (Zc u);k_is;cases c:decide (z.1<=m) with
  |true=>rw[c,Yy] at this;rw[this];k_is;exact⟨rfl,Sm.refl _⟩
  |false=>k_is;exact⟨rfl,Sm.refl _⟩
 ·rw[aU];have:=G8 K.H (λ_=>aS) b;rw[show K.H.any (λ_=>aS)=aS from X7.mpr λ_ _=>Zg] at this;refine aa this ?_;k_is;exact q b f
def Du(h:Gd K os L)(C:S[n]?=aw (.lst (L.map ac)))(B:L[j]?=aw z)(q:∀S',Sm S S'->Q .non S'):Ok (evC ag (k+2) 33 [skE K,.ref n,.int j] S) Q:=by
 refine am (d:=cY) (ρ:=[aw (skE K),aw (.ref n),aw (.int j),aD,aD,aD,aD,aD,aD,aD,aD,aD,aD,aD,aD,aD]) rfl rfl ?_;dsimp only[cY,f7];have V:=h.sk.vd;have k:=h.kp j z B;have v:=h.g z (Zc B);have E:InG K (L.take j):=λy J=>h.g y (Z5 J);obtain⟨a0,b,c,d,e,f,g,T,O,e1,e2,e3,e6,k0,Z,U⟩:=gl7 V v.1 v.2;have lo:=k.lo;have hi:=k.hi;rw[e2] at lo;rw[e3] at hi;rw[show skE K = .tup [meE K,ahE K.ah,.tup (K.G.map az),.tup (K.F.map D.int)] from rfl];k_is;refine aa (dR C (by lia) (Iw B)) ?_;rw[show ac z = .tup [.int z.1,.int z.2] from rfl];k_is;refine aa (b8 v.1 T) ?_;rw[show az [a0,b,c,d,e,f,g] = .tup [.int a0,.int b,.int c,.int d,.int e,.int f,.int g] from rfl];k_is;rw[decide_eq_false (show ¬ z.2 < c by lia)];k_is;rw[decide_eq_false (show ¬ d < z.2 by lia)];k_is;refine⟨rfl,Nc h.sk k.op λu I=>?_⟩;k_is;rw[show D.tup [meE K,ahE K.ah,.tup (K.G.map az),.tup (K.F.map D.int)]=skE K from rfl];refine aa (jp (I _ _ C)) ?_;have X:Sm u (u++[Ob.lst ((L.map ac).take j)]):=Sm.app _ _;have Y:(u++[Ob.lst ((L.map ac).take j)])[Zd u]?=aw (Ob.lst ((L.take j).map ac)):=by rw[aC,Yp]
 generalize Zd u=N at *;generalize u++[Ob.lst ((L.map ac).take j)]=S2 at *;refine⟨rfl,nB V Y E ?_⟩;refine⟨rfl,xu V (gG V E) k0 Z ?_⟩;k_is
 have hg:¬ z.2 < tD K (ay K (L.take j)) a0:=by
  unfold tD;cases hl:ay K (L.take j) with
  |none=>have:=U;dsimp only;lia
  |some a=>have:=k.gap a hl;rw[O] at this;dsimp only;lia
 rw[decide_eq_false hg];k_is;exact q S2 (I.trans X)
def G9:ak .isnot .non .non S=aw (.bl aS,S):=rfl
def Re:ak .is .non .non S=aw (.bl aN,S):=rfl
def zw(h:Gd K os L)(B:S[n]?=aw (.lst (L.map ac)))(b:L[j]?=aw z)(q:∀S',Sm S S'->Q .non S'):Ok (evC ag (k+3) 32 [skE K,.ref n,.int j] S) Q:=by
 refine am (d:=cF) (ρ:=[aw (skE K),aw (.ref n),aw (.int j),aD,aD,aD,aD,aD]) rfl rfl ?_;dsimp only[cF,fF];have l7:=h.l7;have C:=h.g z (Zc b);have hj:=(Zb.mp b).1;rw[show skE K = .tup [meE K,ahE K.ah,.tup (K.G.map az),.tup (K.F.map D.int)] from rfl];k_is;refine aa (dR B (by lia) (Iw b)) (aa (show ixS (ac z) (.int 0) S=aw (.int z.1,S) from rfl) ?_);k_is;rw[decide_eq_true C.1];k_is;refine aa bc ?_;k_is;rw[decide_eq_true C.2];k_is;refine aa (jp B) ?_;have Z:Sm S (S++[Ob.lst ((L.map ac).take j)]):=Sm.app _ _;have E:(S++[Ob.lst ((L.map ac).take j)])[Zd S]?=aw (Ob.lst ((L.take j).map ac)):=by rw[aC,Yp]
 generalize Zd S=N at *;generalize S++[Ob.lst ((L.map ac).take j)]=S1 at *;k_is;refine⟨by rw[aq E];rfl,?_⟩;refine aX (L.take j) ac (λz=>[.int z.1]) (by rw[Yb];lia) (λ_ _=>Ze _) (bH E) (λi y S' hy sm=>⟨_,show ax (.tup [.name 8,.name 9]) (.tup [.int y.1,.int y.2]) _=_ from bm (by simp) (by simp),?_⟩) λc T=>?_
 ·k_is;exact⟨rfl,Sm.refl _⟩
 ·rw[aU,xQ];k_is;have U:Sm c (c++[Ob.lst (((L.take j).map (·.1)).map D.int)]):=Sm.app _ _;refine aa (show ak .isin (.int z.1) (.ref (Zd c)) (c++[Ob.lst (((L.take j).map (·.1)).map D.int)])=aw (.bl (aS != decide (z.1 ∈ (L.take j).map (·.1))),_) from Ds aS aC z.1) ?_;have I:=(Z.trans T).trans U;generalize c++[Ob.lst (((L.take j).map (·.1)).map D.int)]=S3 at *
  have u:z.1 ∉ (L.take j).map (·.1):=λY=>by
   have nd:=h.ho.nd;rw[<-h.e,<-XH j L,ZF] at nd;refine(Yx.mp nd).2.2 z.1 Y z.1 (Zu.mpr ⟨z,?_,rfl⟩) rfl;rw[YO hj,(Zb.mp b).2];exact Zj
  rw[decide_eq_false u];k_is;refine aa bc ?_;k_is;have f:=Du (k:=k) h (I _ _ B) b λO X=>q O (I.trans X);by_cases v:j < K.F.length
  ·rw[decide_eq_true (show(j:Int) < K.F.length by lia)];k_is;refine aa (pE (ds:=K.F.map D.int) (i:=(j:Int)) (d:=.int K.F[j]) (by lia) (by rw[Zy,Zp,gEG v];rfl)) ?_;k_is
   have ez:z.1=K.F[j]:=by
    obtain⟨r,J⟩:=h.ho.fx;have:=congrArg (λl=>l[j]?) (h.e.trans J);rw[Zp,b,Zq v,gEG v] at this;exact Option.some.inj this
   rw[decide_eq_true ez];k_is;exact⟨rfl,f⟩
  ·rw[decide_eq_false (show ¬ (j:Int) < K.F.length by lia)];k_is;exact⟨rfl,f⟩
def Nd(h:Gd K os L)(B:S[n]?=aw (.lst (L.map ac)))(q:∀S',Sm S S'->Q .non S'):Ok (evC ag (k+1) 36 [skE K,.ref n] S) Q:=by
 refine am (d:=cH) (ρ:=[aw (skE K),aw (.ref n),aD,aD]) rfl rfl ?_;dsimp only[cH,fH];have g7:=h.sk.g7;have l7:=h.l7;k_is;refine⟨by rw[aq B];rfl,?_⟩;refine aX L ac (λz=>[.int z.1]) (by lia) (λ_ _=>Ze _) (bH B) (λi y S' T sm=>⟨_,show ax (.tup [.name 4,.name 5]) (.tup [.int y.1,.int y.2]) _=_ from bm (by simp) (by simp),?_⟩) λb J=>?_
 ·k_is;exact⟨rfl,Sm.refl _⟩
 ·rw[aU,xQ];k_is;have O:Sm b (b++[Ob.lst ((L.map (·.1)).map D.int)]):=Sm.app _ _;have C:(b++[Ob.lst ((L.map (·.1)).map D.int)])[Zd b]?=aw (.lst ((L.map (·.1)).map D.int)):=aC;have I:=J.trans O;generalize b++[Ob.lst ((L.map (·.1)).map D.int)]=S3 at *;generalize Zd b=N at *;refine aa sk2 (aa bc ?_);k_is;refine⟨dg (by lia) (by lia),?_⟩;rw[Zy];refine gB (by lia) (λi c S'=>S'=S3/\∃u,c=[aw (skE K),aw (.ref n),aw (.ref N),u]) (λi c S' hi v=>?_) (λc S' f=>?_) ⟨rfl,_,rfl⟩
  ·obtain⟨e,u,E⟩:=v;subst e E;refine⟨_,rfl,?_⟩;k_is;rw[Y2];refine aa (show ak .notin (.int (i:Int)) (.ref N) S'=aw (.bl (aN != decide ((i:Int) ∈ L.map (·.1))),S') from Ds aN C (i:Int)) ?_;rw[decide_eq_true (show(i:Int) ∈ L.map (·.1) by rw[h.e];exact h.ho.pm.mem_iff.mpr (Zu.mpr ⟨i,ZO.mpr hi,rfl⟩))];k_is;exact⟨rfl,_,rfl⟩
  ·obtain⟨e,u,E⟩:=f;subst e E;k_is;exact q S' I
def Ha(h:Gd K os L)(Y:S[n]?=aw (.lst (L.map ac)))(q:∀S',Sm S S'->Q .non S'):Ok (evC ag (k+3) 40 [skE K,.ref n] S) Q:=by
 refine am (d:=cJ) (ρ:=[aw (skE K),aw (.ref n),aD]) rfl rfl ?_;dsimp only[cJ,fJ];have V:=h.sk.vd;have l7:=h.l7;k_is;refine⟨rfl,nG V λB J C _=>?_⟩;k_is;generalize Zd B - 1=N at *;refine⟨by rw[aq C];rfl,?_⟩;have lj:(js K).length<=7:=by rw[vU];exact V.g7
 refine Io (by rw[Za];lia) (λi c S'=>Sm B S'/\∃u,c=[aw (skE K),aw (.ref n),u]) (λi c S' X=>X.1 _ _ C) (λi d c I hd v=>?_) (λc I f=>?_) ⟨Sm.refl _,_,rfl⟩
 ·obtain⟨b,u,E⟩:=v;subst E;obtain⟨t,T,rfl⟩:=gD hd;refine⟨_,rfl,?_⟩;k_is;refine⟨rfl,CF V (b _ _ (J _ _ Y)) h.g (by lia) λS3 Z=>?_⟩;refine aa sk0 (aa me0 ?_);k_is
  have U:¬ K.r < (wts K L t:Int):=by
   have hm:=(rf h.ho h.e).mem_iff.mp (Zc T);obtain⟨y,O,rfl⟩:=Zu.mp hm;obtain⟨i,hi⟩:=ZZ O;have:=(h.kp i y hi).wt
   lia
  rw[decide_eq_false U];k_is;exact⟨b.trans Z,_,rfl⟩
 ·obtain⟨b,u,E⟩:=f;subst E;k_is;exact q I (J.trans b)
def Hb(h:Gd K os L)(f:S[n]?=aw (.lst (L.map ac)))(q:∀S',Sm S S'->Q .non S'):Ok (evC ag (k+5) 41 [skE K,.ref n] S) Q:=by
 refine am (d:=cm) (ρ:=[aw (skE K),aw (.ref n),aD,aD]) rfl rfl ?_;dsimp only[cm,eF];have l7:=h.l7;have C:=h.g;k_is;refine⟨by rw[aq f];rfl,?_⟩;refine Dn (by rw[Za];lia) (λi c S'=>Sm S S'/\∃u v,c=[aw (skE K),aw (.ref n),u,v]) (λi c S' U=>U.1 _ _ f) (λi d c T hd I=>?_) (λc T B=>?_) ⟨Sm.refl _,_,_,rfl⟩
 ·obtain⟨b,u,v,E⟩:=I;subst E;obtain⟨z,O,rfl⟩:=gD hd;refine⟨_,bm (by simp) (by simp),?_⟩;k_is;refine⟨rfl,xw (k:=k) h.sk.vd (b _ _ f) O C (by lia) λY X=>?_⟩;rw[xt λy J=>CH (C y (Z5 J)).1 (C y (Z5 J)).2,(h.kp i z O).rg];k_is;exact⟨b.trans X,_,_,rfl⟩
 ·obtain⟨b,u,v,E⟩:=B;subst E;k_is;exact q T b
def Hc(h:Gd K os L)(c:S[n]?=aw (.lst (L.map ac)))(q:∀S',Sm S S'->Q .non S'):Ok (evC ag (k+6) 31 [skE K,.ref n] S) Q:=by
 refine am (d:=dI) (ρ:=[aw (skE K),aw (.ref n),aD,aD,aD,aD,aD]) rfl rfl ?_;dsimp only[dI,ic];have l7:=h.l7;k_is;refine aa (b9 c) ?_;k_is;rw[Za];refine⟨dg (by lia) (by lia),?_⟩;rw[Zy];refine gB (by lia) (λi y S'=>Sm S S'/\∃u v,y=[aw (skE K),aw (.ref n),u,v,aD,aD,aD]) (λi y U hi C=>?_) (λy U B=>?_) ⟨Sm.refl _,_,_,rfl⟩
 ·obtain⟨b,u,v,E⟩:=C;subst E;refine⟨_,rfl,?_⟩;k_is;rw[Y2];refine⟨rfl,zw (k:=k+2) h (b _ _ c) (gEG hi) λJ f=>?_⟩;k_is;refine aa G9 ?_;k_is;exact⟨b.trans f,_,_,rfl⟩
 ·obtain⟨b,u,v,E⟩:=B;subst E;k_is;refine⟨rfl,Nd (k:=k+4) h (b _ _ c) λJ f=>?_⟩;k_is;refine aa G9 ?_;k_is;refine⟨rfl,Ha (k:=k+2) h (f _ _ (b _ _ c)) λX I=>?_⟩;k_is;refine aa G9 ?_;k_is;refine⟨rfl,Hb (k:=k) h (I _ _ (f _ _ (b _ _ c))) λO T=>?_⟩;k_is;refine aa G9 ?_;k_is;exact q O (((b.trans f).trans I).trans T)
def Ng{z:Int × Int}(q:Q (.bl aN) S):Ok (evC ag (k+2) 30 [ac z] S) Q:=by
 refine am (d:=jR) (ρ:=[aw (ac z)]) rfl rfl ?_;dsimp only[jR,pd];rw[show ac z = .tup [.int z.1,.int z.2] from rfl];k_is;refine⟨rfl,nK (ts:=[.int z.1,.int z.2]) (aI bz (aI bz b7)) (ZB _) (ZB _) ?_⟩;k_is;refine aa (show ixS (.tup [.int z.1,.int z.2]) (.int 0) S=aw (.int z.1,S) from rfl) ?_;refine⟨rfl,nA (p:=0) bz ?_⟩;k_is;refine aa (show ixS (.tup [.int z.1,.int z.2]) (.int 1) S=aw (.int z.2,S) from rfl) ?_;exact⟨rfl,nA (p:=0) bz q⟩
def Hd(h:Gd K os L)(b:S[n]?=aw (.lst (L.map ac)))(q:∀S',Sm S S'->Q (.bl aN) S'):Ok (evC ag (k+3) 29 [.ref n] S) Q:=by
 refine am (d:=gu) (ρ:=[aw (.ref n)]) rfl rfl ?_;dsimp only[gu,kE];have l7:=h.l7;k_is;refine aa (show hV .list (.ref n) S=aw (.bl aN,S) by simp only[hV,tyN,b];rfl) ?_;k_is;refine aa (b9 b) ?_;rw[Za];k_is;rw[decide_eq_false (show ¬ (20:Int) < L.length by lia)];k_is;refine⟨by rw[aq b];rfl,?_⟩;refine tO L ac (by lia) (bH b) (λi x S' c sm=>⟨_,rfl,?_⟩) q;k_is;exact⟨rfl,Ng ⟨rfl,Sm.refl _⟩⟩
def pT(h:Gd K os L)(b:S[n]?=aw (.lst (L.map ac)))(q:∀S',Sm S S'->Q (.bl aN) S'):Ok (evC ag (k+7) 28 [skE K,.ref n] S) Q:=by
 refine am (d:=gr) (ρ:=[aw (skE K),aw (.ref n)]) rfl rfl ?_;dsimp only[gr,kD];k_is;refine⟨rfl,Hd (k:=k+3) h b λv c=>?_⟩;k_is;refine⟨rfl,Hc h (c _ _ b) λf u=>?_⟩;k_is;refine aa Re ?_;exact q f (c.trans u)
def He(h:Gd K os L)(c:S[n]?=aw (.lst (L.map ac)))(q:∀S',Sm S S'->Q (.bl aN) S'):Ok (evC ag (k+9) 22 [skE K,.ref n] S) Q:=by
 refine am (d:=qM) (ρ:=[aw (skE K),aw (.ref n)]) rfl rfl ?_;dsimp only[qM,xg];k_is;refine⟨rfl,gH h.sk λv b=>?_⟩;k_is;exact⟨rfl,pT (k:=k+1) h (b _ _ c) λf u=>q f (b.trans u)⟩
def uc(h:Gd K os L)(c:S[n]?=aw (.lst (L.map ac)))(q:∀S',Sm S S'->Q .non S'):Ok (evC ag (k+9) 27 [skE K,.ref n] S) Q:=by
 refine am (d:=dH) (ρ:=[aw (skE K),aw (.ref n)]) rfl rfl ?_;dsimp only[dH,ib];k_is;refine⟨rfl,gH h.sk λv b=>?_⟩;k_is;refine⟨rfl,pT (k:=k+1) h (b _ _ c) λf u=>?_⟩;k_is;exact q f (b.trans u)
def ud{xs:List Int}:oe aS (xs.map D.int) S=aw (.int xs.sum,S):=by unfold oe;rw[fw]
def j6{c:Int}{xs:List Int}:eA c aS (xs.map D.int) S=aw (.int (fT c xs),S):=by unfold eA;rw[fw]
def Gd.nn(h:Gd K os L):∀y ∈ L,0<=y.2:=λy b=>by
 obtain⟨j,c⟩:=ZZ b;have:=(h.kp j y c).lo;have:=(pQ h.sk (h.g y b).1 (h.g y b).2).1
 lia
def Nh(h:Gd K os L)(b:S[n]?=aw (.lst (L.map ac)))(q:∀S',Sm S S'->Q (.int (W K aN L 0)) S'):Ok (evC ag (k+10) 23 [skE K,.ref n] S) Q:=by
 refine am (d:=jP) (ρ:=[aw (skE K),aw (.ref n)]) rfl rfl ?_;dsimp only[jP,o9];have l7:=h.l7;k_is;refine⟨rfl,uc h b λB u=>?_⟩;have b:=u _ _ b;k_is;refine⟨by rw[aq b];rfl,?_⟩;refine aX L ac (λz=>[.int z.2]) (by lia) (λ_ _=>Ze _) (bH b) (λi z S' y sm=>⟨_,show ax (.tup [.name 2,.name 3]) (.tup [.int z.1,.int z.2]) _=_ from bm (by simp) (by simp),?_⟩) λf v=>?_
 ·k_is;exact⟨rfl,Sm.refl _⟩
 ·rw[aU];have:=j6 (c:=0) (xs:=L.map (·.2)) (S:=f);rw[ZL,C7 (K:=K) L h.nn] at this;refine aa this ?_;k_is;exact q f (u.trans v)
def Ni(h:Gd K os L)(u:S[n]?=aw (.lst (L.map ac)))(q:∀S',Sm S S'->Q (.int (W K aS L 0)) S'):Ok (evC ag (k+10) 24 [skE K,.ref n] S) Q:=by
 refine am (d:=jQ) (ρ:=[aw (skE K),aw (.ref n)]) rfl rfl ?_;dsimp only[jQ,pc];have l7:=h.l7;k_is;refine⟨rfl,uc h u λZ C=>?_⟩;have u:=C _ _ u;k_is;refine⟨rfl,?_⟩;refine am (d:=cE) (ρ:=[aw (skE K),aw (.ref n)]) rfl rfl ?_;dsimp only[cE,fE];k_is;refine⟨by rw[aq u];rfl,?_⟩;refine aX L ac (λz=>[.int (cst K z.1 z.2)]) (by lia) (λ_ _=>Ze _) (bH u) (λi z S' J sm=>⟨_,show ax (.tup [.name 2,.name 3]) (.tup [.int z.1,.int z.2]) _=_ from bm (by simp) (by simp),?_⟩) λB O=>?_
 ·have v:=h.g z (Zc J);obtain⟨a,b,c,d,e,f,g,E,Y,T,X,I,U,_⟩:=gl9 h.sk v.1 v.2;k_is;refine aa sk2 (aa (b8 v.1 E) ⟨rfl,tS T X I U ?_⟩);exact⟨rfl,Sm.refl _⟩
 ·rw[aU];have:=ud (xs:=L.map λy=>cst K y.1 y.2) (S:=B);rw[ZL,C8] at this;refine aa this ?_;k_is;exact q B (C.trans O)
def Qw{A B:Prop}(h:A):wC2 (.int 0) A B:=h
def Qx{A B:Prop}(h:B):wC2 (.int 1) A B:=h
def xR(sk:SkOk K){l:Bool}(q:∀S',Sm S S'->Q (.bl aN) S'):Ok (evC ag (k+11) 72 [skE K,be (aQ K l),fL l] S) Q:=by
 refine am (d:=cr) (ρ:=[aw (skE K),aw (be (aQ K l)),aw (fL l),aD,aD]) rfl rfl ?_;dsimp only[cr,eJ];cases hb:aQ K l with
 |none=>
  k_is;refine aa (show ak .is (be aD) .non S=aw (.bl aN,S) from rfl) ?_;k_is;exact q S (Sm.refl _)
 |some z=>
 obtain⟨ho,R,r1,r2⟩:=fA sk hb;obtain⟨E,kp⟩:=ly sk ho r1;have G:Gd K z.2 R:=⟨sk,ho,E,kp⟩;rw[show be (aw z) = .tup [.str "order", .int z.1,.tup (z.2.map D.int)] from rfl];k_is;refine aa (show ak .is (.tup [.str "order", .int z.1,.tup (z.2.map D.int)]) .non S=aw (.bl aS,S) from rfl) ?_;k_is;refine aa (show hV .tuple (.tup [.str "order", .int z.1,.tup (z.2.map D.int)]) S=aw (.bl aN,S) from rfl) ?_;k_is;refine aa (show aj ca (.tup [.str "order", .int z.1,.tup (z.2.map D.int)]) S=aw (.int 3,S) from rfl) ?_;k_is;refine aa (show ixS (.tup [.str "order", .int z.1,.tup (z.2.map D.int)]) (.int 0) S=aw (.str "order", S) from rfl) ?_;k_is;refine aa (show ak .ne (.str "order") (.str "order") S=aw (.bl aS,S) from rfl) ?_;k_is;refine aa (show ixS (.tup [.str "order", .int z.1,.tup (z.2.map D.int)]) (.int 2) S=aw (.tup (z.2.map D.int),S) from rfl) ?_;refine⟨rfl,wg (k:=k+1) sk ho r1 λn S1 O B=>?_⟩;k_is;refine aa (show ak .ne (.str "lands") (.str "lands") S1=aw (.bl aS,S1) from rfl) ?_;k_is;refine⟨rfl,pS (k:=k+7) sk.vd ho B E λb I C hb=>?_⟩;rw[hb.mpr kp];k_is;refine⟨rfl,He (k:=k+1) G (C _ _ B) λc J=>?_⟩;refine aa (show ak .isnot (.bl aN) (.bl aN) c=aw (.bl aS,c) from rfl) ?_;k_is;have h:=J _ _ (C _ _ B);have T:=(O.trans C).trans J
 have v:∀ {x:Int} {f:Sto},x=W K l R 0->Sm c f->Ok (ixS (.tup [.str "order", .int z.1,.tup (z.2.map D.int)]) (.int 1) f) λy I=>wCx .eq (.int x) y I λd S1=>Q d S1:=λ{x f} e u=>by
  refine aa (show ixS (.tup [.str "order", .int z.1,.tup (z.2.map D.int)]) (.int 1) f=aw (.int z.1,f) from rfl) ?_;k_is;rw[decide_eq_true (e.trans r2.symm)];exact q f (T.trans u)
 cases l with
 |true=>
  refine aa (show ak .eq (fL aN) (.str "cost") c=aw (.bl aS,c) from rfl) (aa (show uX (.bl aS) c=aw (.int 0,c) from rfl) (Qw ⟨rfl,?_⟩));exact Nh (k:=k) G h λf u=>v rfl u
 |false=>
  refine aa (show ak .eq (fL aS) (.str "cost") c=aw (.bl aN,c) from rfl) (aa (show uX (.bl aN) c=aw (.int 1,c) from rfl) (Qx ⟨rfl,?_⟩));exact Ni (k:=k) G h λf u=>v rfl u
def Hf(h:Gd K os L)(v:S[n]?=aw (.lst (L.map ac)))(q:∀S',Sm S S'->Q (.int (W K aS L 0)) S'):Ok (evC ag (k+1) 73 [skE K,.ref n] S) Q:=by
 refine am (d:=iO) (ρ:=[aw (skE K),aw (.ref n)]) rfl rfl ?_;dsimp only[iO,ni];have l7:=h.l7;k_is;refine⟨by rw[aq v];rfl,?_⟩;refine aX L ac (λz=>[.int (cst K z.1 z.2)]) (by lia) (λ_ _=>Ze _) (bH v) (λi z S' u sm=>⟨_,show ax (.tup [.name 2,.name 3]) (.tup [.int z.1,.int z.2]) _=_ from bm (by simp) (by simp),?_⟩) λB C=>?_
 ·have u:=h.g z (Zc u);obtain⟨a,b,c,d,e,f,g,E,O,I,J,T,Y,X,U⟩:=gl9 h.sk u.1 u.2;k_is;refine aa sk2 (aa (b8 u.1 E) (aa (show ixS (az [a,b,c,d,e,f,g]) (.int 5) S'=aw (.int f,S') from rfl) ?_));refine aa sk2 (aa (b8 u.1 E) (aa (show ixS (az [a,b,c,d,e,f,g]) (.int 4) S'=aw (.int e,S') from rfl) ?_));k_is;refine⟨jj (by lia) (by lia),?_⟩;unfold cst;rw[I,J];exact⟨rfl,Sm.refl _⟩
 ·rw[aU];have:=ud (xs:=L.map λy=>cst K y.1 y.2) (S:=B);rw[ZL,C8] at this;refine aa this ?_;k_is;exact q B C
abbrev Qy:List CS:=match bC with
 |[_,_,_,_,.for_ _ _ b,_]=>b
 |_=>[]
def Dv(sk:SkOk K)(ho:Ord K os){U I T E:Option D}(B:S[n]?=aw (.lst (L.map ac)))(u:L.map (·.1)=os){Q:Fl->Rho->Sto->Prop}(q:∀S',Sm S S'->Q .nx [aw (.ref p),aw (skE K),aw (be (aQ K aN)),aw (be (aQ K aS)),U,I,T,E,aw (.ref n)] S') :
  OkS (g6 (evC ag (k+11)) (fZ ag) 54 Qy [aw (.ref p),aw (skE K),aw (be (aQ K aN)),aw (be (aQ K aS)),U,I,T,E,aw (.ref n)] S) Q:=by
 dsimp only[Qy,bC];k_is;refine⟨rfl,pS (k:=k+8) sk.vd ho B u λb d v hb=>?_⟩;cases b with
 |false=>k_is;exact q d v
 |true=>
 have G:Gd K os L:=⟨sk,ho,u,hb.mp rfl⟩;have l7:=G.l7;have f:=v _ _ B;obtain⟨y,Y,y2⟩:=cO (l:=true) sk ho u (hb.mp rfl);obtain⟨w,X,w2⟩:=cO (l:=false) sk ho u (hb.mp rfl);rw[Y,X] at q ⊢;rw[show be (aw y) = .tup [.str "order", .int y.1,.tup (y.2.map D.int)] from rfl,show be (aw w) = .tup [.str "order", .int w.1,.tup (w.2.map D.int)] from rfl] at q ⊢;k_is;refine aa (show ak .is (.tup [.str "order", .int y.1,.tup (y.2.map D.int)]) .non d=aw (.bl aS,d) from rfl) ?_;k_is;refine aa (show ak .is (.tup [.str "order", .int w.1,.tup (w.2.map D.int)]) .non d=aw (.bl aS,d) from rfl) ?_;k_is;refine aa (show ixS (.tup [.str "order", .int w.1,.tup (w.2.map D.int)]) (.int 1) d=aw (.int w.1,d) from rfl) ?_;k_is;refine⟨rfl,Hf (k:=k+10) G f λO J=>?_⟩;k_is;rw[decide_eq_false (show ¬ W K aS L 0 < w.1 by lia)];k_is;refine aa (show ixS (.tup [.str "order", .int y.1,.tup (y.2.map D.int)]) (.int 1) O=aw (.int y.1,O) from rfl) ?_;k_is;have h:=J _ _ f;refine⟨by rw[aq h];rfl,?_⟩;refine aX L ac (λz=>[.int z.2]) (by lia) (λ_ _=>Ze _) (bH h) (λi z S' hz sm=>⟨_,show ax (.tup [.name 9,.name 10]) (.tup [.int z.1,.int z.2]) _=_ from bm (by simp) (by simp),?_⟩) λC Z=>?_
 ·k_is;exact⟨rfl,Sm.refl _⟩
 ·rw[aU];have:=j6 (c:=0) (xs:=L.map (·.2)) (S:=C);rw[ZL,C7 (K:=K) L G.nn] at this;refine aa this ?_;k_is;rw[decide_eq_false (show ¬ W K aN L 0 < y.1 by lia)];k_is;exact q C ((v.trans J).trans Z)
def zx(h:Pot p S)(sk:SkOk K)(q:∀S',Dr p S S'->Q (.bl aN) S'):Ok (evC ag (k+12) 74 [.ref p,skE K,be (aQ K aN),be (aQ K aS)] S) Q:=by
 refine am (d:=b6) (ρ:=[aw (.ref p),aw (skE K),aw (be (aQ K aN)),aw (be (aQ K aS)),aD,aD,aD,aD,aD]) rfl rfl ?_;dsimp only[b6,bC];have V:=sk.vd;have g7:=sk.g7;have lt0:=h.lt;k_is;refine⟨rfl,zp (k:=k+8) h sk λos S1 d1 ho=>?_⟩;k_is;have ln:=ho.ln;have lt1:=d1.pot.lt;refine⟨rfl,tL (k:=k+8) V ho.bd (by lia) λd B s2 C=>?_⟩;unfold Res at C;cases Y:rn K os K.ah [] with
 |inl j=>
  rw[Y] at C;subst C;k_is;refine aa (show ak .eq (.str "stuck") (.str "stuck") B=aw (.bl aN,B) from rfl) ?_;k_is;exact q B (d1.thenSm s2)
 |inr R=>
  rw[Y] at C;obtain⟨n,rfl,U,hb⟩:=C;obtain⟨eR,kR⟩:=ly sk ho Y;have lR:R.length=os.length:=by rw[<-eR,Za]
  k_is;refine aa (show ak .eq (.str "lands") (.str "stuck") B=aw (.bl aS,B) from rfl) ?_;k_is;have d2:=d1.thenSm s2;have np:n ≠ p:=by lia
  refine⟨by rw[aq U];rfl,?_⟩;have lm:(R.map ac).length=R.length:=Za _;refine gC R.length (λi=>((R.map ac)[i]?).getD .non) (λi f S'=>Dr p B S'/\∃L:List (Int × Int),f=L.map ac/\L.map (·.1)=(R.take i).map (·.1)) (λi f S' hi ⟨d,_⟩=>by rw[<-lm];exact qR (d.kp _ _ np U) _ xy) (by lia) (λi f b hi v=>?_) (λes b c=>?_) ⟨Dr.refl d2.pot,[],rfl,rfl⟩
  ·obtain⟨I,L,ea,E⟩:=v;have hz:R[i]?=aw R[i]:=gEG hi;have ez:((R.map ac)[i]?).getD .non = .tup [.int R[i].1,.int R[i].2]:=by rw[Zp,hz];rfl
   rw[ez];refine⟨_,bm (by simp) (by simp),?_⟩;k_is;refine⟨rfl,aE I.pot (by decide) (by decide) λx S5 x1 x2 J=>?_⟩;refine⟨rfl,aE J.pot (by decide) (by decide) λy S6 y1 y2 d6=>?_⟩;k_is;refine⟨jj (by lia) (by lia),(I.trans J).trans d6,L++[(R[i].1,R[i].2+x * y)],by rw[ea,ZF];rfl,?_⟩;rw[ZF,E,pR hz,ZF];rfl
  ·obtain⟨I,L,ea,E⟩:=c;subst ea;rw[YM] at E;have lL:L.length=R.length:=by have:=congrArg Zd E;rw[Za,Za] at this;exact this
   refine⟨by rw[Za];lia,?_⟩;k_is;have s5:Sm b (b++[Ob.lst (L.map ac)]):=Sm.app _ _;have a5:(b++[Ob.lst (L.map ac)])[Zd b]?=aw (.lst (L.map ac)):=aC;have X:=s5 _ _ (I.kp _ _ np U);generalize b++[Ob.lst (L.map ac)]=S5 at *;generalize Zd b=N at *;have J:=(d2.trans I).thenSm s5
   have hd:∀d ∈ [D.ref n,D.ref N],∃m,∃L:List (Int × Int),d = .ref m/\S5[m]?=aw (.lst (L.map ac))/\L.map (·.1)=os:=λd hd=>by
    rcases Zn.mp hd with e |hd
    ·exact⟨n,R,e,X,eR⟩
    ·rcases Zn.mp hd with e |hd
     ·exact⟨N,L,e,a5,E.trans eR⟩
     ·cases hd
   refine CC (by show 2<=100000;decide) (λi ρ S'=>Sm S5 S'/\∃u,ρ=[aw (.ref p),aw (skE K),aw (be (aQ K aN)),aw (be (aQ K aS)),aw (.tup (os.map D.int)),aw (.str "lands"),aw (.ref n),aw (.ref N),u]) (λi d ρ S' Z v=>?_) (λρ S' c=>?_) ⟨Sm.refl _,_,rfl⟩
   ·obtain⟨O,u,T⟩:=v;subst T;obtain⟨m,M,rfl,hm,hM⟩:=hd d (Zc Z);exact⟨_,rfl,Dv sk ho (O _ _ hm) hM λS6 s6=>⟨O.trans s6,_,rfl⟩⟩
   ·obtain⟨O,u,T⟩:=c;subst T;k_is;exact q S' (J.thenSm O)
end Lw
namespace Lw
open PySem Ev Sn L2
variable {p:Nat} {S S':Sto} {k:Nat} {Q:D->Sto->Prop} {K:Sky} {n j:Nat}
def Up.nil:Up [] []:=⟨rfl,λi g h=>by cases h⟩
def Up.snoc{G c:List (List Int)}{g:List Int}{d:Int}(h:Up G c)(y:0<=d)(v:d<=19):Up (G++[g]) (c++[g.set 3 (g.getD 3 0+d)]):=by
 refine⟨by rw[Zh,Zh,h.1];rfl,λi x b=>?_⟩;by_cases hi:i < G.length
 ·rw[Zq hi] at b;obtain⟨e,E,f,q⟩:=h.2 i x b;exact⟨e,E,f,by rw[Zq (by rw[h.1];exact hi)];exact q⟩
 ·have u:=(Zb.mp b).1;rw[Zh,Zr] at u;obtain rfl:i=G.length:=by lia
  rw[Zm (Ze _),Z7] at b;cases b;exact⟨d,y,v,by rw[Zm (by rw[h.1];lia),h.1,Z7];rfl⟩
abbrev rgd(K:Sky)(i:Nat):List Int:=((Zk i).filter λ(j:Nat)=>!decide (gi K.G (K.F.getD j 0) 6=0)).map λ(j:Nat)=>(j:Int)
def zy(h:Pot p S)(sk:SkOk K)(gb:∀g ∈ K.G,GB K.M.length K.r K.s g)(q:∀K' S',Dr p S S'->SkOk K'->Btr K K'->Q (skE K') S'):Ok (evC ag (k+3) 71 [.ref p,skE K] S) Q:=by
 refine am (d:=fq) (ρ:=[aw (.ref p),aw (skE K),aD,aD,aD,aD,aD,aD,aD,aD,aD]) rfl rfl ?_;dsimp only[fq,fc];have g7:=sk.g7;have r0:=sk.me.r0;have r8:=sk.me.r8;rw[show skE K = .tup [.tup [.int K.r,.int K.s,.tup (K.M.map az),.tup (K.H.map ac)],ahE K.ah,.tup (K.G.map az),.tup (K.F.map D.int)] from rfl];k_is;refine⟨rfl,aE h (by decide) (by decide) λw U w0 w1 J=>?_⟩;k_is;cases c0:decide (w=0) with
 |true=>
  k_is;refine gC K.G.length (λi=>((K.G.map az)[i]?).getD .non) (λi v S'=>Dr p U S'/\∃L:List (List Int),v=L.map az/\Up (K.G.take i) L) (λi v S' hi _=>?_) (by lia) (λi v u hi C=>?_) (λes u B=>?_) ⟨Dr.refl J.pot,[],rfl,Up.nil⟩
  ·show aw ((K.G.map az)[i]?)=_;by_cases c:i < K.G.length
   ·rw[if_pos c,gEG (by rw[Za];exact c)];rfl
   ·rw[if_neg c,Zs (by rw[Za];lia)]
  ·obtain⟨d2,L,I,O⟩:=C;have hg:K.G[i]?=aw K.G[i]:=gEG hi;obtain⟨kd,jo,fi,la,du,we,ri,Z,_⟩:=gb K.G[i] (ZJ hi);have ez:((K.G.map az)[i]?).getD .non = .tup [.int kd,.int jo,.int fi,.int la,.int du,.int we,.int ri]:=by rw[Zp,hg,Z];rfl
   rw[ez];refine⟨_,rfl,?_⟩;k_is;refine aa (show ixS (.tup [.int kd,.int jo,.int fi,.int la,.int du,.int we,.int ri]) (.int 3) u=aw (.int la,u) from rfl) ⟨rfl,aE d2.pot (by decide) (by decide) λx Y x0 x1 d3=>?_⟩;k_is;refine⟨show 3+1<=1000 by decide,show 4+3<=1000 by decide,d2.trans d3,L++[K.G[i].set 3 (K.G[i].getD 3 0+x)],?_,?_⟩
   ·rw[I,ZF,Z];rfl
   ·rw[ZX hi];exact Up.snoc O x0 (by lia)
  ·obtain⟨d2,L,I,O⟩:=B;rw[YM] at O;subst I;refine⟨by rw[Za,O.1];lia,aa (show cL aS _ u=aw (.tup _,u) from rfl) ?_⟩;exact q { K with G:=L } u (J.trans d2) (Iv sk gb O) (Nb sk gb O)
 |false=>
 k_is;cases c1:decide (w=1) with
 |true=>
  k_is;refine aa (show ixS (.tup [.int K.r,.int K.s,.tup (K.M.map az),.tup (K.H.map ac)]) (.int 0) U=aw (.int K.r,U) from rfl) ?_;k_is;exact⟨show 1+3<=1000 by decide,q { K with r:=if K.r+1 < 8 then K.r+1 else 8 } U J (xN sk (by split <;> lia) (by split <;> lia)) (De sk (by split <;> lia) (by split <;> lia))⟩
 |false=>
 k_is;cases c2:decide (w=2) with
 |true=>
  k_is;exact⟨show 3+1<=1000 by decide,q { K with H:=[] } U J (xO sk) (Df sk)⟩
 |false=>
 k_is;refine aa bc ?_;k_is;refine⟨dg (by lia) (by lia),?_⟩;rw[Zy];refine aX (Zk K.G.length) (λ(j:Nat)=>D.int (0+(j:Int))) (λ(j:Nat)=>if (!decide ((j:Int) ∈ K.F))=aN then [D.int (j:Int)] else []) (by rw[ZG];lia) (λa _=>by split <;> simp) wa (λi j S' X sm=>⟨_,rfl,?_⟩) λu s2=>?_
 ·k_is;rw[Y2];refine aa (show ak .notin (.int (j:Int)) (.tup (K.F.map D.int)) S'=aw (.bl (aN != decide ((j:Int) ∈ K.F)),S') from ji aN K.F j S') ?_;rw[show(aN != decide ((j:Int) ∈ K.F)) = !decide ((j:Int) ∈ K.F) by cases decide ((j:Int) ∈ K.F) <;> rfl];k_is;cases c:!decide ((j:Int) ∈ K.F) with
  |true=>exact⟨rfl,Sm.refl _⟩
  |false=>exact⟨rfl,Sm.refl _⟩
 rw[bv,show((Zk K.G.length).filter λ(j:Nat)=>!decide ((j:Int) ∈ K.F)).map (λ(j:Nat)=>D.int (j:Int))=(a7 K).map D.int by unfold a7;rw[ZL];rfl];k_is
 have T:∀Y,Dr p S Y->rW (wSs (evC ag (k+2)) (fZ ag) 53 (fc.drop 7)) [aw (.ref p),aw (.tup [.tup [.int K.r,.int K.s,.tup (K.M.map az),.tup (K.H.map ac)],ahE K.ah,.tup (K.G.map az),.tup (K.F.map D.int)]),aw (.tup [.int K.r,.int K.s,.tup (K.M.map az),.tup (K.H.map ac)]),aw (ahE K.ah),aw (.tup (K.G.map az)),aw (.tup (K.F.map D.int)),aw (.int w),aw (.ref (Zd u)),aD,aD,aD] Y (out Q):=λY d3=>by
  dsimp only[fc,Yu];have lF:=Dw.bT K.G.length K.F sk.nd sk.bd;k_is;refine gC K.F.length (λi=>D.tup [.int (i:Int),.int (K.F.getD i 0)]) (λi v S'=>Sm Y S'/\v=(rgd K i).map D.int) (λi v S' hi _=>?_) (by lia) (λi v S' hi C=>⟨_,bm (by simp) (by simp),?_⟩) (λes E B=>?_) ⟨Sm.refl _,rfl⟩
  ·show enm (K.F.map D.int) i=_;unfold enm;rw[if_pos (by rw[Za];exact hi),Zp,ZE];by_cases c:i < K.F.length
   ·rw[if_pos c,gEG c];rfl
   ·rw[if_neg c,Zs (by lia)];rfl
  ·obtain⟨s',I⟩:=C;have ej:K.F.getD i 0=K.F[i]:=by rw[ZE,gEG hi];rfl
   have er:rgd K (i+1)=rgd K i++if gi K.G K.F[i] 6=0 then [] else [(i:Int)]:=by
    unfold rgd;rw[Xe,Xm,ZF]
    congr 1
    rw[Yc,List.filter_nil,ej];by_cases c:gi K.G K.F[i] 6=0
    ·rw[if_pos c,decide_eq_true c];rfl
    ·rw[if_neg c,decide_eq_false c];rfl
   rw[ej,I];have bd:=sk.bd _ (ZJ hi);obtain⟨a,b,c,d,e,f,g,Z,e0,ex1,ex2,ex3,e6,_⟩:=gl7 sk.vd bd.1 bd.2;rw[e6] at er;rw[er];k_is;refine aa (b8 bd.1 Z) (aa (show ixS (az [a,b,c,d,e,f,g]) (.int 6) S'=aw (.int g,S') from rfl) ?_);k_is;cases cg:decide (g=0) with
   |true=>rw[if_pos (of_decide_eq_true cg)];exact⟨s',by rw[ZN,ZN]⟩
   |false=>rw[if_neg (of_decide_eq_false cg)];exact⟨s',by rw[ZF];rfl⟩
  obtain⟨s4,I⟩:=B;subst I
  have rb:∀x ∈ rgd K K.F.length,0<=x/\x < K.F.length:=λx z=>by
   obtain⟨j,X,rfl⟩:=Zu.mp z;have:=ZO.mp (ZQ.mp X).1
   lia
  have rl:(rgd K K.F.length).length<=7:=by
   unfold rgd;rw[Za];exact Z0 (Yj _ _) (by rw[ZG];lia)
  refine⟨by rw[Za];lia,?_⟩;k_is;have sb:=Sm.app E [Ob.lst ((rgd K K.F.length).map D.int)];have ab:(E++[Ob.lst ((rgd K K.F.length).map D.int)])[Zd E]?=aw (.lst ((rgd K K.F.length).map D.int)):=aC
  refine aa (show aj (eA (-1)) (.ref (Zd E)) (E++[Ob.lst ((rgd K K.F.length).map D.int)])=aw (.int (fT (-1) (rgd K K.F.length)),E++[Ob.lst ((rgd K K.F.length).map D.int)]) by
   simp only[aj,ao,aq ab,ZD];exact j6) ?_
  have tb:-1<=fT (-1) (rgd K K.F.length)/\fT (-1) (rgd K K.F.length) < K.F.length/\∀x ∈ rgd K K.F.length,x<=fT (-1) (rgd K K.F.length):=by
   by_cases e:rgd K K.F.length=[]
   ·rw[e];exact⟨ZB _,show(-1:Int) < _ by lia,λx z=>by cases z⟩
   ·rw[eK e];have:=rb _ (k9 e);exact⟨by lia,this.2,λx z=>vS z⟩
  obtain⟨m,em⟩:∃m:Nat,1+fT (-1) (rgd K K.F.length)=(m:Int):=⟨(1+fT (-1) (rgd K K.F.length)).toNat,by lia⟩;k_is;rw[em,dY _ _ (by rw[Za];lia),<-Yp]
  have hf:∀ (j:Nat) x,K.F[j]?=aw x->gi K.G x 6 ≠ 0->j < m:=λj x X z=>by
   have hl:=(Zb.mp X).1;have:=tb.2.2 (j:Int) (Zu.mpr ⟨j,ZQ.mpr ⟨ZO.mpr hl,by rw[ZE,X];exact(by rw[Bool.not_eq_true',decide_eq_false_iff_not];exact z)⟩,rfl⟩)
   lia
  exact q { K with F:=K.F.take m } _ ((d3.thenSm s4).thenSm sb) (Dg sk hf) (G3 sk hf)
 have s3:Sm u (u++[Ob.lst ((a7 K).map D.int)]):=Sm.app _ _;cases c3:decide (w=3) with
 |false=>exact T _ ((J.thenSm s2).thenSm s3)
 |true=>
 refine aa Fn ?_;have s4:=s3.trans (Sm.app (u++[Ob.lst ((a7 K).map D.int)]) [Ob.lst []]);have a4:(u++[Ob.lst ((a7 K).map D.int)]++[Ob.lst []])[Zd u]?=aw (.lst ((a7 K).map D.int)):=Sm.app _ _ _ _ aC;generalize u++[Ob.lst ((a7 K).map D.int)]++[Ob.lst []]=E at *;have d4:=(J.thenSm s2).thenSm s4;have np:Zd u ≠ p:=by have:=(J.thenSm s2).pot.lt;lia
 generalize Zd u=N at *;k_is;cases c4:((a7 K).map D.int).isEmpty with
 |true=>exact T _ d4
 |false=>
 k_is;have hl:=nT sk
 have f0:0 < (a7 K).length:=by
  rw[List.isEmpty_eq_false_iff_exists_mem] at c4;obtain⟨x,z⟩:=c4;have:=Xv z
  rwa [Za] at this
 refine aa (b9 a4) ?_;rw[Za];refine⟨rfl,aE d4.pot (by lia) (by lia) λx S5 x0 x1 d5=>?_⟩;have a5:=d5.kp _ _ np a4;have z:x.toNat < (a7 K).length:=by lia
 refine aa (dR a5 x0 (d:=.int (a7 K)[x.toNat]) (by rw[Zp,gEG z];rfl)) ?_;obtain⟨g0,g1,gF⟩:=(lx (K:=K) (a7 K)[x.toNat]).mp (ZJ z);obtain⟨n,en⟩:∃n:Nat,(a7 K)[x.toNat]=(n:Int):=⟨(a7 K)[x.toNat].toNat,by lia⟩;rw[en] at g0 g1 gF ⊢;k_is;have lF:=Dw.bT K.G.length K.F sk.nd sk.bd;refine aX K.F D.int (λx=>[.int (ren n x)]) (by lia) (λ_ _=>Ze _) cv (λi y S' hy sm=>⟨_,rfl,?_⟩) λS6 s6=>?_
 ·k_is;refine aa (show uX (.bl (decide ((n:Int) < y))) S'=aw (.int (if decide ((n:Int) < y)=aN then 1 else 0),S') from rfl) ?_;k_is;refine⟨?_,Sm.refl _⟩;unfold ren;simp only[decide_eq_true_eq]
 ·rw[aU];refine aa (show cL aS _ S6=aw (.tup _,S6) from rfl) ?_;k_is;have hn:n < K.G.length:=by lia
  have e1:dX (K.G.map az) aD (aw (n:Int))=(K.G.take n).map az:=by rw[dY _ _ (by rw[Za];lia),Yp]
  have e2:dX (K.G.map az) (aw ((n:Int)+1)) aD=(K.G.drop (n+1)).map az:=by rw[tK (by lia),show((n:Int)+1).toNat=n+1 by lia,List.map_drop]
  rw[e1,e2,<-ZF,<-List.eraseIdx_eq_take_drop_succ];refine⟨by rw[Za,Za,Yb,Y6];lia,?_⟩;have:=q (t8 K n) S6 ((d4.trans d5).thenSm s6) (xP sk hn gF) (Dk sk hn gF);rw[show skE (t8 K n) = .tup [.tup [.int K.r,.int K.s,.tup (K.M.map az),.tup (K.H.map ac)],ahE K.ah,.tup ((K.G.eraseIdx n).map az),.tup ((K.F.map (ren n)).map D.int)] from rfl,ZL] at this;exact this
end Lw
namespace Lw
open PySem Ev Sn L2
variable {p:Nat} {S S':Sto} {k:Nat} {Q:D->Sto->Prop} {K:Sky}
def j7(sk:SkOk K){l:Bool}{z:Int × List Int}(h:aQ K l=aw z)(L:Bool):∃y,aQ K L=aw y:=by
 obtain⟨ho,R,r1,_⟩:=fA sk h;obtain⟨y,b,_⟩:=xK (l:=L) sk ho r1;exact⟨y,b⟩
def Ix(o:Option (Int × List Int)):ak .is (be o) .non S=aw (.bl o.isNone,S):=by cases o <;> rfl
def Nj(o:Option (Int × List Int)):ak .isnot (be o) .non S=aw (.bl o.isSome,S):=by cases o <;> rfl
def main(ns:List Int)(hl:ns.length<=63):∃S',evC ag 40 75 [.ref 0] [.frz (ns.map D.int)]=aw (.bl aN,S'):=by
 have U:Ok (evC ag 40 75 [.ref 0] [.frz (ns.map D.int)]) λd _=>d = .bl aN:=by
  refine am (d:=xh) (ρ:=[aw (.ref 0),aD,aD,aD,aD,aD,aD,aD,aD]) rfl rfl ?_;dsimp only[xh,HX];k_is;have ln:aj ca (.ref 0) [Ob.frz (ns.map D.int)]=aw (.int ns.length,[Ob.frz (ns.map D.int)]):=by simp only[aj,ao,au,List.getElem?_cons_zero,ZD,ca,Za]
  refine aa ln ?_;k_is
  obtain⟨n,en,hn⟩:∃n:Nat,(if (if (6:Int) < ns.length then (6:Int) else ns.length) > 1 then (if (6:Int) < ns.length then (6:Int) else ns.length) else 1)=(n:Int)/\n<=6:=by
   refine⟨(if (if (6:Int) < ns.length then (6:Int) else ns.length) > 1 then (if (6:Int) < ns.length then (6:Int) else ns.length) else 1).toNat,?_,?_⟩
   ·split <;> split <;> omega
   ·split <;> split <;> omega
  rw[en];refine⟨dg (by lia) (by lia),?_⟩;rw[Zy];refine gB (by lia) (λi j S'=>S'[0]?=aw (.frz (ns.map D.int))/\∃a b c d e f g h,j=[aw (.ref 0),a,b,c,d,e,f,g,h]) (λi j B hi I=>?_) (λj B I=>?_) ⟨rfl,_,_,_,_,_,_,_,_,rfl⟩
  ·obtain⟨J,a,b,c,d,e,f,g,h,rfl⟩:=I;refine⟨_,rfl,?_⟩;rw[Y2];k_is;refine⟨rfl,GD (k:=38) J λx=>?_⟩;refine⟨rfl,MX (k:=38) λm=>?_⟩;have L:B.length ≠ 0:=λz=>by rw[ZT.mp z] at J;cases J
   have h2:=Sm.app B [Ob.lst [D.int m]] _ _ J;have pt:Pot B.length (B++[Ob.lst [D.int m]]):=⟨m,aC⟩;generalize B++[Ob.lst [D.int m]]=S2 at *;generalize B.length=p at *;k_is;refine⟨rfl,GW (k:=35) pt λK S3 d3 sk gb=>?_⟩;have h3:=d3.kp _ _ (Ne.symm L) h2;k_is;refine⟨rfl,ju (k:=18) sk aN λS4 s4=>?_⟩;refine⟨rfl,ju (k:=18) sk aS λS5 s5=>?_⟩;k_is;refine⟨rfl,xR (k:=28) (l:=true) sk λS6 s6=>?_⟩;k_is;refine⟨rfl,xR (k:=28) (l:=false) sk λS7 s7=>?_⟩;k_is;refine aa (Ix _) (aa (Ix _) ?_)
   have e0:(aQ K aN).isNone=(aQ K aS).isNone:=by
    cases q:aQ K aN with
    |some z=>obtain⟨y,T⟩:=j7 sk q aS;rw[T];rfl
    |none=>
     cases O:aQ K aS with
     |none=>rfl
     |some z=>obtain⟨y,T⟩:=j7 sk O aN;rw[T] at q;cases q
   rw[e0];refine aa (show ak .ne (.bl (aQ K aS).isNone) (.bl (aQ K aS).isNone) S7=aw (.bl aS,S7) by cases (aQ K aS).isNone <;> rfl) ?_;have d7:Dr p S2 S7:=d3.thenSm ((s4.trans s5).trans (s6.trans s7));have h7:=d7.kp _ _ (Ne.symm L) h2;k_is;refine⟨by decide,?_⟩;refine gB (by decide) (λ_ j S'=>S'[0]?=aw (.frz (ns.map D.int))/\Pot p S'/\∃u,j=[aw (.ref 0),aw (.int (i:Int)),aw (.ref p),aw (skE K),aw (be (aQ K aN)),aw (be (aQ K aS)),u,g,h]) (λt j S8 q I=>?_) (λj S8 I=>?_) ⟨h7,d7.pot,_,rfl⟩
   ·obtain⟨X,p8,u,rfl⟩:=I;refine⟨_,rfl,?_⟩;k_is;refine⟨rfl,zx (k:=27) p8 sk λS9 d9=>?_⟩;k_is;exact⟨d9.kp _ _ (Ne.symm L) X,d9.pot,_,rfl⟩
   ·obtain⟨X,p8,u,rfl⟩:=I;k_is;refine⟨by decide,?_⟩;refine gB (by decide) (λ_ j S'=>S'[0]?=aw (.frz (ns.map D.int))/\Pot p S'/\∃u v w,j=[aw (.ref 0),aw (.int (i:Int)),aw (.ref p),aw (skE K),aw (be (aQ K aN)),aw (be (aQ K aS)),u,v,w]) (λt j S9 q I=>?_) (λj S9 I=>?_) ⟨X,p8,_,_,_,rfl⟩
    ·obtain⟨h9,p9,u,v,w,rfl⟩:=I;refine⟨_,rfl,?_⟩;k_is;refine⟨rfl,zy (k:=36) p9 sk gb λK' Sa da E bt=>?_⟩;have ha:=da.kp _ _ (Ne.symm L) h9;k_is;refine aa (Nj _) ?_;cases q:aQ K aN with
     |none=>k_is;exact⟨ha,da.pot,_,_,_,rfl⟩
     |some z=>
     obtain⟨y,O⟩:=j7 sk q aS;obtain⟨Z,z1,z2⟩:=bt aN z q;obtain⟨Y,y1,y2⟩:=bt aS y O;rw[show(aw z).isSome=aN from rfl,O];k_is;refine⟨rfl,ju (k:=18) E aN λSb sb=>?_⟩;refine⟨rfl,ju (k:=18) E aS λC sc=>?_⟩;rw[z1,y1];have ix:∀ (o:Int × List Int) (S:Sto),ixS (be (aw o)) (.int 1) S=aw (.int o.1,S):=λ_ _=>rfl;k_is;refine aa (show ak .isin .non (.tup [be (aw Z),be (aw Y)]) C=aw (.bl aS,C) from rfl) ?_;k_is;refine aa (show ixS (.tup [be (aw Z),be (aw Y)]) (.int 0) C=aw (be (aw Z),C) from rfl) (aa (ix _ _) (aa (ix _ _) ?_));k_is;rw[decide_eq_false (show ¬ z.1 < Z.1 by lia)];k_is;refine aa (show ixS (.tup [be (aw Z),be (aw Y)]) (.int 1) C=aw (be (aw Y),C) from rfl) (aa (ix _ _) (aa (ix _ _) ?_));k_is;rw[decide_eq_false (show ¬ y.1 < Y.1 by lia)];k_is;exact⟨sc _ _ (sb _ _ ha),(da.thenSm (sb.trans sc)).pot,_,_,_,rfl⟩
    ·obtain⟨h9,p9,u,v,w,rfl⟩:=I;k_is;exact⟨h9,_,_,_,_,_,_,_,_,rfl⟩
  ·obtain⟨J,a,b,c,d,e,f,g,h,rfl⟩:=I;k_is
 obtain⟨d,S',e,rfl⟩:=U;exact⟨S',e⟩
end Lw
theorem PySem.Challenge.cw_downrings_k38_whole_no_landings_do_bette_holds : PySem.Challenge.rw_downrings_k38_whole_no_landings_do_bette.Holds :=
 Lw.head Lw.main
