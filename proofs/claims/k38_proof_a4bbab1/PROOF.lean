import PyProof.Rows.All
import KE.KIsAll
import KE.KMinBuiltin
import KE.KRevSl
import KE.KSortTup
import KE.KStateDown
import PySem.Challenge.RW_downrings_k38_whole_no_landings_do_bette
set_option Elab.async false
set_option linter.all false
set_option maxRecDepth 100000
set_option maxHeartbeats 4000000
local macro_rules|`(abbrev $n:declId $s:optDeclSig $v:declVal)=>`(noncomputable def $n $s:optDeclSig $v:declVal)
local macro_rules|`(def $n:declId $s:optDeclSig $v:declVal)=>do let d:=⟨Lean.mkNode `Lean.Parser.Command.declSig #[s.raw[0],s.raw[1][0]]⟩;`(theorem $n $d $v:declVal)
open Option renaming some → aw,none → aD
open Bool renaming true → aN,false → aS
namespace Xobt
variable{P:Prop}
def ex1{p:A→Prop}(h:∃a,p a)(k:∀a,p a→P):P:=let⟨a,h⟩:=h;k a h
def ex2{p:A→B→Prop}(h:∃a b,p a b)(k:∀a b,p a b→P):P:=let⟨a,b,h⟩:=h;k a b h
def ex3{p:A→B→C→Prop}(h:∃a b c,p a b c)(k:∀a b c,p a b c→P):P:=let⟨a,b,c,h⟩:=h;k a b c h
def ex4{p:A→B→C→D→Prop}(h:∃a b c d,p a b c d)(k:∀a b c d,p a b c d→P):P:=let⟨a,b,c,d,h⟩:=h;k a b c d h
def ex5{p:A→B→C→D→E→Prop}(h:∃a b c d e,p a b c d e)(k:∀a b c d e,p a b c d e→P):P:=let⟨a,b,c,d,e,h⟩:=h;k a b c d e h
def ex6{p:A→B→C→D→E→F→Prop}(h:∃a b c d e f,p a b c d e f)(k:∀a b c d e f,p a b c d e f→P):P:=let⟨a,b,c,d,e,f,h⟩:=h;k a b c d e f h
def ex7{p:A→B→C→D→E→F→G→Prop}(h:∃a b c d e f g,p a b c d e f g)(k:∀a b c d e f g,p a b c d e f g→P):P:=let⟨a,b,c,d,e,f,g,h⟩:=h;k a b c d e f g h
def ex8{p:A→B→C→D→E→F→G→I→Prop}(h:∃a b c d e f g i,p a b c d e f g i)(k:∀a b c d e f g i,p a b c d e f g i→P):P:=let⟨a,b,c,d,e,f,g,i,h⟩:=h;k a b c d e f g i h
def ex9{p:A→B→C→D→E→F→G→I→J→Prop}(h:∃a b c d e f g i j,p a b c d e f g i j)(k:∀a b c d e f g i j,p a b c d e f g i j→P):P:=let⟨a,b,c,d,e,f,g,i,j,h⟩:=h;k a b c d e f g i j h
def ex10{p:A→B→C→D→E→F→G→I→J→L→Prop}(h:∃a b c d e f g i j l,p a b c d e f g i j l)(k:∀a b c d e f g i j l,p a b c d e f g i j l→P):P:=let⟨a,b,c,d,e,f,g,i,j,l,h⟩:=h;k a b c d e f g i j l h
def an2(h:a∧b)(k:a→b→P):P:=k h.1 h.2
def an3(h:a∧b∧c)(k:a→b→c→P):P:=k h.1 h.2.1 h.2.2
def an4(h:a∧b∧c∧d)(k:a→b→c→d→P):P:=k h.1 h.2.1 h.2.2.1 h.2.2.2
def an5(h:a∧b∧c∧d∧e)(k:a→b→c→d→e→P):P:=k h.1 h.2.1 h.2.2.1 h.2.2.2.1 h.2.2.2.2
def an6(h:a∧b∧c∧d∧e∧f)(k:a→b→c→d→e→f→P):P:=k h.1 h.2.1 h.2.2.1 h.2.2.2.1 h.2.2.2.2.1 h.2.2.2.2.2
def an7(h:a∧b∧c∧d∧e∧f∧g)(k:a→b→c→d→e→f→g→P):P:=k h.1 h.2.1 h.2.2.1 h.2.2.2.1 h.2.2.2.2.1 h.2.2.2.2.2.1 h.2.2.2.2.2.2
def an8(h:a∧b∧c∧d∧e∧f∧g∧i)(k:a→b→c→d→e→f→g→i→P):P:=k h.1 h.2.1 h.2.2.1 h.2.2.2.1 h.2.2.2.2.1 h.2.2.2.2.2.1 h.2.2.2.2.2.2.1 h.2.2.2.2.2.2.2
def an9(h:a∧b∧c∧d∧e∧f∧g∧i∧j)(k:a→b→c→d→e→f→g→i→j→P):P:=k h.1 h.2.1 h.2.2.1 h.2.2.2.1 h.2.2.2.2.1 h.2.2.2.2.2.1 h.2.2.2.2.2.2.1 h.2.2.2.2.2.2.2.1 h.2.2.2.2.2.2.2.2
def an13(h:a∧b∧c∧d∧e∧f∧g∧i∧j∧l∧m∧n∧o)(k:a→b→c→d→e→f→g→i→j→l→m→n→o→P):P:=k h.1 h.2.1 h.2.2.1 h.2.2.2.1 h.2.2.2.2.1 h.2.2.2.2.2.1 h.2.2.2.2.2.2.1 h.2.2.2.2.2.2.2.1 h.2.2.2.2.2.2.2.2.1 h.2.2.2.2.2.2.2.2.2.1 h.2.2.2.2.2.2.2.2.2.2.1 h.2.2.2.2.2.2.2.2.2.2.2.1 h.2.2.2.2.2.2.2.2.2.2.2.2
def in2{p:A→B→Prop}(a:A)(b:B)(h:p a b):∃a b,p a b:=⟨a,b,h⟩
def in3{p:A→B→C→Prop}(a:A)(b:B)(c:C)(h:p a b c):∃a b c,p a b c:=⟨a,b,c,h⟩
def in4{p:A→B→C→D→Prop}(a:A)(b:B)(c:C)(d:D)(h:p a b c d):∃a b c d,p a b c d:=⟨a,b,c,d,h⟩
def in5{p:A→B→C→D→E→Prop}(a:A)(b:B)(c:C)(d:D)(e:E)(h:p a b c d e):∃a b c d e,p a b c d e:=⟨a,b,c,d,e,h⟩
def in6{p:A→B→C→D→E→F→Prop}(a:A)(b:B)(c:C)(d:D)(e:E)(f:F)(h:p a b c d e f):∃a b c d e f,p a b c d e f:=⟨a,b,c,d,e,f,h⟩
def in7{p:A→B→C→D→E→F→G→Prop}(a:A)(b:B)(c:C)(d:D)(e:E)(f:F)(g:G)(h:p a b c d e f g):∃a b c d e f g,p a b c d e f g:=⟨a,b,c,d,e,f,g,h⟩
def in8{p:A→B→C→D→E→F→G→I→Prop}(a:A)(b:B)(c:C)(d:D)(e:E)(f:F)(g:G)(i:I)(h:p a b c d e f g i):∃a b c d e f g i,p a b c d e f g i:=⟨a,b,c,d,e,f,g,i,h⟩
def in9{p:A→B→C→D→E→F→G→I→J→Prop}(a:A)(b:B)(c:C)(d:D)(e:E)(f:F)(g:G)(i:I)(j:J)(h:p a b c d e f g i j):∃a b c d e f g i j,p a b c d e f g i j:=⟨a,b,c,d,e,f,g,i,j,h⟩
def in10{p:A→B→C→D→E→F→G→I→J→L→Prop}(a:A)(b:B)(c:C)(d:D)(e:E)(f:F)(g:G)(i:I)(j:J)(l:L)(h:p a b c d e f g i j l):∃a b c d e f g i j l,p a b c d e f g i j l:=⟨a,b,c,d,e,f,g,i,j,l,h⟩
def in12{p:A→B→C→D→E→F→G→I→J→L→M→N→Prop}(a:A)(b:B)(c:C)(d:D)(e:E)(f:F)(g:G)(i:I)(j:J)(l:L)(m:M)(n:N)(h:p a b c d e f g i j l m n):∃a b c d e f g i j l m n,p a b c d e f g i j l m n:=⟨a,b,c,d,e,f,g,i,j,l,m,n,h⟩
end Xobt
local macro_rules
|`(tactic|obtain⟨$ps,*⟩:=$e:term)=>do
 let ps:=ps.getElems
 let n:=ps.size
 if n<2 then Lean.Macro.throwUnsupported
 let I (s:String):Lean.MacroM (Lean.TSyntax `ident):=return Lean.mkIdent (Lean.Name.mkSimple s)
 let mut vs:Array (Lean.TSyntax `ident):=#[]
 let mut sb:Array (Lean.TSyntax `tactic):=#[]
 for p in ps do
  let y ← I s!"ξ{vs.size}"
  match p with
  |`(Lean.Parser.Tactic.rcasesPatLo|$x:ident)=>
   if x.getId==`rfl then
    vs:=vs.push y
    sb:=sb.push (← `(tactic|subst $y))
   else vs:=vs.push x
  |`(Lean.Parser.Tactic.rcasesPatLo|_)=>vs:=vs.push y
  |_=>Lean.Macro.throwUnsupported
 let z ← I "ξ"
 let w ← I "ζ"
 let N (s:String):=Lean.mkIdent (`Xobt++Lean.Name.mkSimple s)
 let mk (e:Lean.TSyntax `term)(c:Array (Lean.TSyntax `tactic)):Lean.MacroM (Lean.TSyntax `tactic):=do
  let mut al:=#[]
  for i in [0:n] do
   let k:=n-1-i
   let m:=n-k
   if k>16||m>18 then continue
   let a:=vs.extract 0 k
   let b:=vs.extract k n
   let E:=N s!"ex{k}"
   let A:=N s!"an{m}"
   al:=al.push (← if k==0 then `(tacticSeq|(refine $A $e λ$b*=>?_;$[$c]*)) else if m==1 then `(tacticSeq|(refine $E $e λ$vs*=>?_;$[$c]*)) else `(tacticSeq|(refine $E $e λ$a* $z=>$A $z λ$b*=>?_;clear $z;$[$c]*)))
  al:=al.push (← `(tacticSeq|fail))
  `(tactic|first $[| $al]*)
 let t ← mk e sb
 if e.raw.isIdent then
  let i:Lean.TSyntax `ident:=⟨e.raw⟩
  let s ← mk w (#[← `(tactic|clear $w)]++sb)
  `(tactic|first|(revert $i;intro $w:ident;$s:tactic)|$t:tactic)
 else return t
|`(tactic|exact⟨$ps,*⟩)=>do
 let ps:=ps.getElems
 let n:=ps.size
 if n<3 then Lean.Macro.throwUnsupported
 let mut al:=#[]
 for i in [1:n-1] do
  let k:=n-i
  if k>12 then continue
  let a:=ps.extract 0 k
  let b:=ps.extract k n
  let E:=Lean.mkIdent (`Xobt++Lean.Name.mkSimple s!"in{k}")
  let r ← if b.size==1 then pure b[0]! else `(⟨$b,*⟩)
  al:=al.push (← `(tacticSeq|exact $E $a* $r))
 `(tactic|first $[| $al]*)
|`(tactic|refine⟨$ps,*⟩)=>do
 let ps:=ps.getElems
 let n:=ps.size
 if n<3 then Lean.Macro.throwUnsupported
 let mut al:=#[]
 for i in [1:n-1] do
  let k:=n-i
  if k>12 then continue
  let a:=ps.extract 0 k
  let b:=ps.extract k n
  let E:=Lean.mkIdent (`Xobt++Lean.Name.mkSimple s!"in{k}")
  let r ← if b.size==1 then pure b[0]! else `(⟨$b,*⟩)
  al:=al.push (← `(tacticSeq|refine $E $a* $r))
 `(tactic|first $[| $al]*)
open List renaming length_map → Za, getElem?_eq_some_iff → Zb, mem_of_getElem? → Zc, length → Zd, length_append → Zh, mem_cons_of_mem → Zi, mem_cons_self → Zj, range → Zk, size_toArray → Zl, getElem?_append_right → Zm, mem_cons → Zn, length_cons → Zo, getElem?_map → Zp, getElem?_append_left → Zq, length_singleton → Zr, getElem?_eq_none → Zs, mem_map → Zu, getElem?_set_ne → Zv, map_cons → Zw, replicate → Zx, mem_append_right → Zz, getD_eq_getElem?_getD → ZE, map_append → ZF, length_range → ZG, getElem_mem → ZJ, map_map → ZL, mem_singleton → ZM, append_nil → ZN, mem_range → ZO, mem_filter → ZQ, mem_append → ZS, length_eq_zero_iff → ZT, getElem?_set_self → ZU, take_succ_eq_append_getElem → ZX, length_set → ZY, getElem?_of_mem → ZZ, length_nil → Z1, append_assoc → Z2, mem_append_left → Z3, pairwise_cons → Z4, mem_of_mem_take → Z5, nodup_cons → Z6, getElem?_eq_none_iff → Z8, length_take → Yb, filter_cons → Yc, eraseIdx_cons_succ → Yd, take_of_length_le → Ye, replicate_succ → Yg, map_congr_left → Yh, length_filter_le → Yj, all_eq_true → Yk, zip_cons_cons → Yl, prefix_refl → Ym, map_nil → Yn, map_take → Yp, length_reverse → Yq, all_cons → Yr, mem_flatMap → Ys, drop → Yu, flatten_cons → Yv, getElem?_set → Yw, nodup_append → Yx, getElem?_range → Yz, getElem?_replicate → YA, lookup_cons → YB, getElem?_cons_succ → YC, mem_filterMap → YE, prefix_append → YF, find?_cons → YH, any_cons → YI, pairwise_map → YJ, getLast?_append → YL, take_length → YM, drop_length → YN, drop_eq_getElem_cons → YO, filterMap_cons → YQ, getLast?_cons → YU, ext_getElem? → YV, all_map → YX, reverse_cons → YY, filter_eq_nil_iff → Y0, flatMap_cons → Y1, sublist_cons_self → Y3, getElem_inj → Y5, length_drop → Y6, any_eq_true → Y7, countP_cons → Y8, nodup_range → Xa, mem_of_getLast? → Xc, take_append_of_le_length → Xd, range_succ → Xe, take_length_add_append → Xf, forIn_nil → Xi, take_left → Xj, length_eraseIdx_of_lt → Xk, perm_ext_iff_of_nodup → Xl, filter_append → Xm, map_inj_left → Xp, set_comm → Xq, getElem?_take_of_lt → Xr, cons_append → Xu, length_pos_of_mem → Xv, toArray → Xw, drop_eq_nil_of_le → Xx, getElem_cons_succ → Xy, getElem?_eraseIdx → Xz, of_mem_zip → XB, nil_append → XC, length_replicate → XG, take_append_drop → XH, mem_iff_getElem → XM, nodup_nil → XN, take_zero → XQ, perm_cons_erase → XU, flatMap_append → XV, replicate_zero → XW, length_pos_iff → XY, filter_eq_self → XZ, filter_sublist → X1, filterMap_map → X3, any_eq_false → X7, take_sublist → X8, any_map → Wa, filter_congr → Wc, flatten_nil → Wg, not_mem_nil → Wh, getElem_map → Wj, ext_getElem → Wl, map_id → Wm, foldl_cons → Wn, forIn_cons → Wo, filter_map → Wr, foldl → Ws, drop_zero → Wt, set → Wv, cons → Wy, sum → WA
open Nat renaming le_refl → Ze, lt_of_lt_of_le → ZH, ne_of_lt → ZI, lt_irrefl → ZR, le_trans → Z0, sub_self → Z7, le_succ → YD, zero_add → YG, zero_le → YK, add_assoc → YR, le_of_lt → YW, lt_succ_of_lt → YZ, lt_succ_self → Y9, le_of_succ_le → Xn, min_eq_left → XD, ne_of_gt → X6, succ_mul → X9, succ_le_succ → We, succ_ne_self → Wf, min_eq_right → Wi, le_add_right → Wk, not_lt_zero → Wq, mul_le_mul → Wu, le_zero → WB
open PySem.Heap renaming get?_push_of_some → Zf, lt_size → Zt, get?_push_size → ZA, get?_update_other → ZK, get?_update_self → Yi, size_push → Yt, size_update → Xs, get?_update_ne → XX, get?_push_ne → Wb
open Bool renaming false_ne_true → Zg, false_eq_true → ZP, true_and → Yy, eq_iff_iff → YS, or_eq_true → YT, beq_eq_decide_eq → Y4, not_true → Xb, false_and → Xh, and_eq_true_iff → XR, and_self → X2, or_false → Ww, false_or → Wx
open Int renaming toNat_natCast → Zy, le_refl → ZB, le_trans → Yo, zero_add → Y2, le_antisymm → XF, emod_lt_of_pos → X5, emod_nonneg → Wp, ediv_one → Wz
open Array renaming length_toList → ZC, forIn_toList → Xg, mem_toList_iff → XJ
open Option renaming map_some → ZD, map_eq_some_iff → ZV, getD_some → ZW, isSome_iff_exists → Z9, isSome_map → Xo, isSome_some → X4, getD_none → Wd
open PyProof.Rows renaming boot_enumerate → WC, boot_int → WD, boot_list → WE, boot_max → WF, boot_min → WG, boot_sorted → WH, boot_tuple → WI, callWith_type1 → WJ, slot_tuple_getitem → WK
open PySem.Calls renaming Name_function_global → WL
open PySem renaming Comprehension → WM, FuncData → W7, IsRangeIter → W8, NameKind → W9, Operator → Va, Spec → Vj, assignEach → VB, assignInOrder → VC, backToKw → VE, behindInMarks → VF, binaryOp → VG, bindName → VH, bootBuiltins → VI, builtinsNs → VJ, callSpecialIfBoundUnlessNone? → VL, call_meets → VM, cellsFrom → VN, codeAny_builtin → VO, codeAny_mono → VP, compareOp → VQ, concat_meets → VR, eqIsQuiet → VS, eqIsQuiet_byValue → VT, evalPart_none → VU, foldedSetIterable → VV, intItems → VW, intItems_at → VX, isSubtype_tuple_tuple → VY, keywordEach → VZ, letOwnedTupleGo → V0, mainGlobals → V1, mem_of_lookup → V2, newFunctionEnv → V3, noFill_tuple_add → V4, numAt_eq → V5, nums_intItems → V6, old_kept → V7, plainId_quiet → V8, pushCells → V9, pushCells_keeps → Ua, richCompare → Ub, richCompare_meets_room → Uc, seqIndex_neg → Ud, seqIndex_of → Ue, seqItems? → Uf, seq_tuple_add → Ug, sizeLine_eq → Uh, sliceBounds → Ui, starEach → Uj, swappedStores → Uk, swapsWith → Ul, swapsWithSole → Um, sysModules → Uo, updateSeq → Uq, wpAny_Call_Name_kw → Ur, wpAny_bind → Us, wpAny_bindName → Ut, wpAny_call_entry → Uu, wpAny_comprehension_free → Uv, wpAny_eqBool_int → Uw, wpAny_field → Ux, wpAny_forIn_list → Uy, wpAny_getItem_list_slice → Uz, wpAny_holding → UA, wpAny_letGo → UB, wpAny_letOwnedTupleGo_enum → UC, wpAny_loadPart' → UD, wpAny_mono → UE, wpAny_newObj_type → UF, wpAny_of_eq → UG, wpAny_passesOwn → UH, wpAny_pure → UI, wpAny_pyIter_enum → UJ, wpAny_pyIter_list → UK, wpAny_pyIter_rangeiter → UL, wpAny_pyIter_tuple → UM, wpAny_pyNext_enum_endD → UN, wpAny_pyNext_enum_itemD → UO, wpAny_pyNext_range_end → UP, wpAny_rule → UQ, wpAny_seqItems → UR, wpAny_sequenceKey → US, wpAny_specialOf → UT, wpAny_standAt → UU, wpAny_truthy_bool → UV, wpAny_tryCatch → UW, wpAny_typeOf → UX, wpAny_updateSeq → UY
open PySem.F renaming args_tuple_add_2 → WN, args_tuple_iterator_next_1 → WO, args_tuple_lt_2 → WQ, entry_max_loop → WR, entry_min_loop → WT, entry_tuple_add → WU, entry_tuple_iterator_next → WV, entry_tuple_lt → WW, plainAttrs_list → WX, plain_max_loop → WY, plain_min_loop → WZ, slot_NoneType_hash → W0, slot_list_append → W1, slot_list_pop → W2, slot_tuple_add → W3, slot_tuple_count → W4, slot_tuple_iterator_next → W5, slot_tuple_lt → W6
open PySem.SeqAt renaming EqAt → Vb, RcAt → Vc, RcNeAt → Ve, in_listAt → Vf, in_tupleAt → Vg, notIn_listAt → Vh, notIn_tupleAt → Vi
open PySem.W renaming Frag → Vk, callWith_K → Vl, cellsFrom_some → Vm, codeIn → Vn, findIn → Vo, fnOf → Vp, instObj → Vq, kas_sort → Vr, keepIn → Vs, kia_one → Vt, kitOne → Vu, kitx_dict → Vv, kitx_list → Vw, lookIn → Vx, methodObj → Vy, plainGet → Vz, rangeSize_down → VA
def gEG {b:Type _} {l:List b} {i:Nat} (h:i < l.length):l[i]?=aw l[i]:=List.getElem?_eq_getElem h
def bAE (a b:Bool):((a && b)=aN)=(a=aN/\b=aN):=Bool.and_eq_true a b
namespace L2
open PySem PySem.Spec PyProof.Rows
abbrev dh(s:Stmt):Arguments:=match s with
 |.FunctionDef _ a _ _ _ _ _ _ _ _=>a
 |_=>{ posonlyargs:=[],args:=[],vararg:=aD,kwonlyargs:=[],kw_defaults:=[],kwarg:=aD,defaults:=[] }
abbrev bU(s:Stmt):List Stmt:=match s with
 |.FunctionDef _ _ b _ _ _ _ _ _ _=>b
 |_=>[]
abbrev bf(s:Stmt):Scope:=match s with
 |.FunctionDef _ _ _ _ _ _ sc _ _ _=>sc
 |_=>{ kind:=.function,names:=[],isGenerator:=false,isCoroutine:=false }
end L2
namespace Ev
open PySem PySem.Spec PyProof.Rows L2
abbrev iQ:List Str:=["len", "isinstance", "all", "any", "tuple", "list", "max", "min", "repr", "range", "enumerate", "int", "bool", "str", "sorted", "zip", "sum"]
@[inline]abbrev rj:=(Str × Str) × (Arguments × List Stmt) × (Scope × Addr) × (List (Str × Addr) × Value) × (Addr × Option Str)
abbrev Hi(h:Heap):Value->Option Str
 | .ref c=>(match h.get? c with
  |some ⟨_,_,.fields vs,_⟩=>(match vs.toList with |_ :: .str n _::_=>aw n |_=>aD)
  | _=>aD)
 |_=>aD
abbrev Nm(h:Heap):Option Obj->Option rj
 |some ⟨_,_,.func ⟨nm,qn,ps,.stmts b,sc,gl,cl,dv,_,_,_,_,cd,_,bi⟩,_⟩=>aw ((nm,qn),(ps,b),(sc,gl),(cl,dv),(bi,Hi h cd))
 |_=>aD
abbrev xT(h:Heap)(x:Str):Option rj:=match h.nsMap V1 x with
 |some (.ref f)=>Nm h (h.get? f)
 |_=>aD
abbrev Dz(h:Heap)(x:Str):Option Int:=match h.nsMap V1 x with
 |some (.int v _)=>aw v
 |_=>aD
end Ev
namespace Lw
open PySem
abbrev con:List (Str × Int):=[("LAST_MINUTE", 9999),("MOST_RINGS", 8),("MOST_SINK", 60),("MOST_KINDS", 4),("MOST_GAP", 99),("MOST_SHUTS", 4),("MOST_GLIDERS", 7),("MOST_WEIGHT", 99),("MOST_LANDINGS", 20)]
abbrev nx:List (String × Nat):=[("is_whole", 7),("is_within", 8),("is_minute", 9),("is_tuple", 10),("are_unlike", 11),("without", 12),("is_meadow", 19),("are_gaps", 20),("is_gap_row", 21),("no_glider_between_helps", 22),("are_shuts", 23),("is_stretch", 24),("is_kind", 25),("is_shut", 26),("first_not_shut", 27),("is_sky", 31),("is_ahead", 32),("are_gliders", 33),("is_glider", 34),("are_fixed", 35),("free_ones", 36),("check_sky", 37),("keeps", 40),("last_of", 41),("cost_of", 42),("cost_together", 43),("glider_cost", 44),("check_keeps", 45),("keeps_sky", 46),("are_pairs", 47),("is_pair", 48),("first_amiss", 49),("landing_amiss", 50),("minute_amiss", 51),("landing_ahead", 52),("gap_end", 53),("first_lacking", 54),("waits_at", 55),("how_many_wait", 56),("joining_minutes", 57),("first_crowded", 58),("first_too_high", 59),("is_too_high", 60),("ring_needed", 61),("soonest", 63),("is_order", 64),("soonest_landings", 65),("fixed_landings", 66),("soonest_minute", 67),("leaves_too_late", 68),("least_last", 70),("least_cost", 71),("told", 72),("best_order", 73),("joined", 74),("best_behind", 75),("best_with", 76),("_law_cell_at", 78),("_law_pot", 79),("_law_take", 80),("_law_gaps", 81),("_law_meadow", 82),("_law_sky", 83),("_law_open", 84),("_law_waits", 85),("_law_need", 86),("_law_step", 87),("_law_soonest", 88),("_law_keeps", 89),("_law_shuffled", 90),("_law_order", 91),("_law_looser", 92),("_law_told_right", 93),("_law_cost", 94),("_law_none_better", 95),("law", 96)]
abbrev top(i:Nat):Stmt:=PySem.Challenge.pw_downrings_k38_whole_no_landings_do_bette.main.body.getD i (.Pass ⟨0,0,0,0⟩)
abbrev vb(l:List (String × Nat)):List (Option Ev.rj):=l.map λx=>let n:=Str.ofString x.1;aw ((n,n),(L2.dh (top x.2),L2.bU (top x.2)),(L2.bf (top x.2),V1),([],.none),(VJ,aw n))
end Lw
section
open PySem PySem.W PyProof.Rows
noncomputable abbrev Lw.view:Program:={ PySem.Challenge.pw_downrings_k38_whole_no_landings_do_bette with main:={ PySem.Challenge.pw_downrings_k38_whole_no_landings_do_bette.main with body:=[Lw.top 96] } }
noncomputable abbrev Lw.loose:List PySem.Str:=List.map PySem.Str.ofString ["is_whole", "is_within", "is_minute", "is_tuple", "are_unlike", "without", "is_meadow", "are_gaps", "is_gap_row", "no_glider_between_helps", "are_shuts", "is_stretch", "is_kind", "is_shut", "first_not_shut", "is_sky", "is_ahead", "are_gliders", "is_glider", "are_fixed", "free_ones", "check_sky", "keeps", "last_of", "cost_of", "cost_together", "glider_cost", "check_keeps", "keeps_sky", "are_pairs", "is_pair", "first_amiss", "landing_amiss", "minute_amiss", "landing_ahead", "gap_end", "first_lacking", "waits_at", "how_many_wait", "joining_minutes", "first_crowded", "first_too_high", "is_too_high", "ring_needed", "soonest", "is_order", "soonest_landings", "fixed_landings", "soonest_minute", "leaves_too_late", "least_last", "least_cost", "told", "best_order", "joined", "best_behind", "best_with", "_law_cell_at", "_law_pot", "_law_take", "_law_gaps", "_law_meadow", "_law_sky", "_law_open", "_law_waits", "_law_need", "_law_step", "_law_soonest", "_law_keeps", "_law_shuffled", "_law_order", "_law_looser", "_law_told_right", "_law_cost", "_law_none_better", "LAST_MINUTE", "MOST_RINGS", "MOST_SINK", "MOST_KINDS", "MOST_GAP", "MOST_SHUTS", "MOST_GLIDERS", "MOST_WEIGHT", "MOST_LANDINGS", "RingError", "NoSky", "NoLandings", "NoOrder"]
theorem Lw.three{σ A B C D:Type}{o:Option σ}{f:σ→A}{g v:σ→List B}{u:σ→C}{x:σ→D}{a:A}{b d:List B}{c:C}{e:D}(h1:o.map (λs=>(f s,()))=Option.some (a,()))(h2:o.map g=Option.some b)(h3:o.map (λs=>(u s,v s,x s))=Option.some (c,d,e)):o.map (λs=>(f s,(u s,g s++v s,x s)))=Option.some (a,(c,b++d,e)):=by
 cases o with
 |none=>cases h1
 |some s=>
  simp only[Option.map_some,Option.some.injEq,Prod.mk.injEq,and_true] at h1 h2 h3 ⊢
  exact And.intro h1 (And.intro h3.1 (And.intro (by rw[h2,h3.2.1]) h3.2.2))
set_option maxHeartbeats 0 in
def Lw.leftA:LeftO PySem.Challenge.rw_downrings_k38_whole_no_landings_do_bette.row.prog Lw.view Lw.loose (λs=>xlAt Lw.view [] s && recOk (RowW.records PySem.Challenge.rw_downrings_k38_whole_no_landings_do_bette.row.toRowW) s) (λ_=>()) (λ_=>()) 20000:=λw=>by kernel_rfl
set_option maxHeartbeats 0 in
def Lw.leftB:∀w,(openEnds treeTable PySem.Challenge.rw_downrings_k38_whole_no_landings_do_bette.row.prog w 20000).map (λs=>(Lw.nx.take 45).map (λx=>Ev.xT s.heap (.ofString x.1)))=aw (Lw.vb (Lw.nx.take 45)):=λw=>by kernel_rfl
set_option maxHeartbeats 0 in
def Lw.leftC:∀w,(openEnds treeTable PySem.Challenge.rw_downrings_k38_whole_no_landings_do_bette.row.prog w 20000).map (λs=>(s.heap.isNs V1,(Lw.nx.drop 45).map (λx=>Ev.xT s.heap (.ofString x.1)),Lw.con.map (λc=>Ev.Dz s.heap c.1),Ev.iQ.map λx=>(s.heap.nsMap V1 x).isNone))=aw (aN,Lw.vb (Lw.nx.drop 45),Lw.con.map (λc=>aw c.2),Ev.iQ.map λ_=>aN):=λw=>by kernel_rfl
def Lw.left0:LeftO PySem.Challenge.rw_downrings_k38_whole_no_landings_do_bette.row.prog Lw.view Lw.loose (λs=>xlAt Lw.view [] s && recOk (RowW.records PySem.Challenge.rw_downrings_k38_whole_no_landings_do_bette.row.toRowW) s) (λs=>(s.heap.isNs V1,(Lw.nx.take 45).map (λx=>Ev.xT s.heap (.ofString x.1))++(Lw.nx.drop 45).map (λx=>Ev.xT s.heap (.ofString x.1)),Lw.con.map (λc=>Ev.Dz s.heap c.1),Ev.iQ.map λx=>(s.heap.nsMap V1 x).isNone)) (λ_=>(aN,Lw.vb (Lw.nx.take 45)++Lw.vb (Lw.nx.drop 45),Lw.con.map (λc=>aw c.2),Ev.iQ.map λ_=>aN)) 20000:=λw=>Lw.three (Lw.leftA w) (Lw.leftB w) (Lw.leftC w)
set_option maxHeartbeats 0 in
def Lw.said:PySem.Challenge.rw_downrings_k38_whole_no_landings_do_bette.wellSaid=aN:=by kernel_rfl
end
namespace L2
open PySem PySem.Spec PyProof.Rows
@[inline]abbrev Key:=Sum Int Str
abbrev g9:Key->Value->Bool
 |.inl k,v=>Value.isInt k v
 |.inr x,v=>Value.isStrOf x v
abbrev Nn(w:World):Key->Int
 |.inl k=>hashInt k
 |.inr x=>hashStr w x
def aA:∀ {k:Key} {v:Value},g9 k v=aN->(∃i t,k=Sum.inl i/\v=Value.int i t)\/(∃x t,k=Sum.inr x/\v=Value.str x t)
 |.inl i,v,h=>by
  obtain⟨t,e⟩:=Value.isInt_shape (k:=i) (v:=v) h;exact .inl ⟨i,t,rfl,e⟩
 |.inr x,v,h=>by
  obtain⟨t,e⟩:=Value.isStrOf_shape (x:=x) (v:=v) h;exact .inr ⟨x,t,rfl,e⟩
def xU(i:Int)(t:Tok):g9 (.inl i) (.int i t)=aN:=by simp[g9,Value.isInt]
def xV(x:Str)(t:Tok):g9 (.inr x) (.str x t)=aN:=by simp[g9,Value.isStrOf]
def IA(a b:Int):decide ((Sum.inl a:Key)=Sum.inl b)=(a == b):=by
 by_cases e:a=b
 ·subst e;simp
 ·have h:¬ (Sum.inl a:Key)=Sum.inl b:=λq=>e (Sum.inl.inj q);rw[decide_eq_false h];exact(beq_eq_false_iff_ne.mpr e).symm
def IB(a b:Str):decide ((Sum.inr a:Key)=Sum.inr b)=decide (a=b):=by
 by_cases e:a=b
 ·subst e;simp
 ·have h:¬ (Sum.inr a:Key)=Sum.inr b:=λq=>e (Sum.inr.inj q);rw[decide_eq_false h,decide_eq_false e]
def zC(a:Int)(b:Str):decide ((Sum.inl a:Key)=Sum.inr b)=aS:=decide_eq_false (λq=>nomatch q)
def zD(a:Str)(b:Int):decide ((Sum.inr a:Key)=Sum.inl b)=aS:=decide_eq_false (λq=>nomatch q)
abbrev a9(prog:Program)(w:World):PySem.KeyKind prog w Key where
 is:=g9
 hash:=Nn w
 inj:=λv a b d hb=>by
  rcases aA d with ⟨i,t,rfl,rfl⟩ |⟨x,t,rfl,rfl⟩
  ·rcases aA hb with ⟨j,u,rfl,e⟩ |⟨y,u,rfl,e⟩
   ·injection e with e1 _;rw[e1]
   ·exact nomatch e
  ·rcases aA hb with ⟨j,u,rfl,e⟩ |⟨y,u,rfl,e⟩
   ·exact nomatch e
   ·injection e with e1 _;rw[e1]
 byValue:=λk v h=>by
  rcases aA h with ⟨i,t,rfl,rfl⟩ |⟨x,t,rfl,rfl⟩ <;> rfl
 pyHash:=λc h=>by
  rcases aA c with ⟨i,t,rfl,rfl⟩ |⟨x,t,rfl,rfl⟩
  ·exact wpAny_pyHash_int h
  ·exact wpAny_pyHash_str h
 eqBool:=λf c h=>by
  rcases aA f with ⟨i,t,rfl,rfl⟩ |⟨x,t,rfl,rfl⟩
  ·rcases aA c with ⟨j,u,rfl,rfl⟩ |⟨y,u,rfl,rfl⟩
   ·rw[IA] at h;exact Uw h
   ·rw[zC] at h;exact SeqAt.EqAt.int_str i t y u _ _ _ _ h
  ·rcases aA c with ⟨j,u,rfl,rfl⟩ |⟨y,u,rfl,rfl⟩
   ·rw[zD] at h;exact SeqAt.EqAt.str_int x t j u _ _ _ _ h
   ·rw[IB] at h;exact wpAny_eqBool_str h
 «strs»:=λk x t v h=>by
  rcases aA h with ⟨i,u,rfl,e⟩ |⟨y,u,rfl,e⟩
  ·exact nomatch e
  ·injection e with e1 _;subst e1;cases v <;> rfl
def rm(prog:Program)(w:World)(i:Int)(t:Tok):(a9 prog w).is (.inl i) (.int i t)=aN:=xU i t
def rq(prog:Program)(w:World)(x:Str)(t:Tok):(a9 prog w).is (.inr x) (.str x t)=aN:=xV x t
inductive NK where
 |non |one (k:Key) |tup (ks:List Key)
 deriving DecidableEq
def IC{c d:Type}{F G:c->d->Prop}(f:∀a b,F a b->G a b):∀ {l:List c} {m:List d},Paired F l m->Paired G l m
 |_,_,.nil=>.nil
 |_,_,.cons h t=>.cons (f _ _ h) (IC f t)
section
variable {P:Program} {w:World}
abbrev NIs(P:Program)(w:World)(h:Heap):NK->Value->Prop
 |.non,v=>v = .none
 |.one k,v=>g9 k v=aN
 |.tup ks,v=>∃b,v = .ref b/\IsTupleKey (a9 P w) h ks b
abbrev dz(P:Program)(w:World)(h:Heap)(k:List NK)(a:Addr):Prop:=∃o I n,h.get? a=aw o/\o.cls = .type "tuple"/\o.data = .seq I n/\Paired (NIs P w h) k I.toList
def NIs.inj{h:Heap}{x y:NK}{v:Value}(d:NIs P w h x v)(c:NIs P w h y v):x=y:=by
 cases x with
 |non=>
  cases d;cases y with
  |non=>rfl
  |one k=>rcases aA c with ⟨i,t,_,e⟩ |⟨i,t,_,e⟩ <;> cases e
  |tup f=>obtain⟨b,e,_⟩:=c;cases e
 |one k=>
  rcases aA d with ⟨i,t,rfl,rfl⟩ |⟨i,t,rfl,rfl⟩
  ·cases y with
   |non=>cases c
   |one n=>rw[(a9 P w).inj (Value.int i t) (Sum.inl i) n (by exact d) (by exact c)]
   |tup f=>obtain⟨b,e,_⟩:=c;cases e
  ·cases y with
   |non=>cases c
   |one n=>rw[(a9 P w).inj (Value.str i t) (Sum.inr i) n (by exact d) (by exact c)]
   |tup f=>obtain⟨b,e,_⟩:=c;cases e
 |tup f=>
  obtain⟨b,rfl,hb⟩:=d;cases y with
  |non=>cases c
  |one k=>rcases aA c with ⟨i,t,_,e⟩ |⟨i,t,_,e⟩ <;> cases e
  |tup p=>obtain⟨B,e,j⟩:=c;cases e;rw[hb.inj j]
def oj{h:Heap}:∀ {x y:List NK} {v:List Value},Paired (NIs P w h) x v->Paired (NIs P w h) y v->x=y
 |[],y,_,.nil,hy=>by cases hy;rfl
 |a::x,y,_,.cons h1 t1,hy=>by
  cases hy with
  |cons b T=>rw[h1.inj b,oj t1 T]
def dz.inj{h:Heap}{a:Addr}{x y:List NK}(j:dz P w h x a)(k:dz P w h y a):x=y:=by
 obtain⟨o,f,n,ho,_,hd,hi⟩:=j;obtain⟨o',I,p,c,_,b,d⟩:=k;obtain rfl:o=o':=Option.some.inj (ho.symm.trans c);rw[hd] at b;injection b with h1 _;subst h1;exact oj hi d
def NIs.keeps{h h':Heap}{k:NK}{v:Value}{d:Addr}{o:Obj}{E c}(x:NIs P w h k v)(ho:h.get? d=aw o)(hd:o.data = .dict E c)(hs:Heap.SameBut d h h'):NIs P w h' k v:=by
 cases k with
 |non=>exact x
 |one k=>exact x
 |tup f=>obtain⟨b,e,hb⟩:=x;exact⟨b,e,hb.keeps ho hd hs⟩
def dz.keeps{h h':Heap}{k:List NK}{a d:Addr}{o:Obj}{E p}(x:dz P w h k a)(ho:h.get? d=aw o)(hd:o.data = .dict E p)(hs:Heap.SameBut d h h'):dz P w h' k a:=by
 obtain⟨O,I,n,c,j,b,hi⟩:=x
 have f:a ≠ d:=by
  rintro rfl;obtain rfl:O=o:=Option.some.inj (c.symm.trans ho);rw[hd] at b;exact nomatch b
 exact⟨O,I,n,(hs.2 a f).trans c,j,b,IC (λ_ _ z=>z.keeps ho hd hs) hi⟩
def dz.typeIs{s:Shared}{k:List NK}{a:Addr}(x:dz P w s.heap k a):s.TypeIs (.ref a) "tuple" := let ⟨o,_,_,ho,hc,_⟩:=x;⟨o,ho,hc⟩
abbrev nkH(P:Program)(w:World):NK->Int
 |.non=>0xFCA86420
 |.one k=>Nn w k
 |.tup ks=>tupleKeyHash (a9 P w) ks
abbrev nkN:NK->Nat
 |.tup ks=>ks.length+1
 |_=>1
def xW{A:Around}{E:Value->Shared->Prop}{s:Shared}{Q:Int->Shared->Prop}(h:Q 0xFCA86420 { s with toks:=s.toks+1 }):wpAny (model P w) A (pyHash .none) Q E s:=by
 have b:s.TypeIs .none "NoneType" := typeIs_none s;unfold pyHash;have c:[Value.none].any Value.onHeap=aS:=rfl;refine Us ?_;rw[cRoomFor,if_neg (by rw[c];exact Zg)];refine UI ?_;refine Us (UT b F.slot_NoneType_hash.lookup ?_);show wpAny _ _ (if (aw (Value.builtin "NoneType.__hash__") == aw Value.none)=aN then _ else _) Q E s;rw[if_neg (by rw[beq_builtin_none];exact Zg)];refine Us (UT b F.slot_NoneType_hash.lookup ?_);show wpAny _ _ (VL .none "__hash__" _ >>= _) Q E s;refine Us (wpAny_callSpecialIfBoundUnlessNone?_slot b W0 (Uu W0 b F.entry_NoneType_hash ?_ (F.args_NoneType_hash_1 _)));show wpAny _ _ (slotArgs "__hash__" 0 _ >>= λ_=>retInt 0xFCA86420) _ _ s;refine Us (m:=slotArgs "__hash__" 0 _) (UI ?_);refine wpAny_ret_mkInt ?_;show wpAny _ _ (pure (0xFCA86420:Int)) Q E _;exact UI h
def zE{A:Around}{E:Value->Shared->Prop}{s:Shared}{k:NK}{v:Value}{Q:Int->Shared->Prop}(d:A.units < cLine)(c:NIs P w s.heap k v)(h:Q (nkH P w k) { s with toks:=s.toks+nkN k }):wpAny (model P w) A (pyHash v) Q E s:=by
 cases k with
 |non=>cases c;exact xW h
 |one k=>exact(a9 P w).pyHash c h
 |tup f=>obtain⟨b,rfl,hb⟩:=c;exact wpAny_pyHash_tuple d hb h
abbrev zF(P:Program)(w:World)(k:List NK):Int:=reduceHash (Builtin.Tuple.tupleHashOf (k.map (nkH P w)))
abbrev rA(k:List NK):Nat:=(k.map nkN).sum
def xX{A:Around}{E:Value->Shared->Prop}{s:Shared}{d:List NK}{a:Addr}{Q:Int->Shared->Prop}(u:A.units+1 < cLine)(q:dz P w s.heap d a)(h:Q (zF P w d) { s with toks:=s.toks+(rA d+1) }):wpAny (model P w) A (pyHash (.ref a)) Q E s:=by
 have f:=q.typeIs;obtain⟨o,I,n,ho,_,hd,hi⟩:=q;unfold pyHash
 first |unfold pyHashByItsType |skip
 first |refine Us (wpAny_cRoomFor_or (.inr (by omega)) ?_) |skip
 refine Us (UT f F.slot_tuple_hash.lookup ?_);show wpAny _ _ (if (aw (Value.builtin "tuple.__hash__") == aw Value.none)=aN then _ else _) Q E s;rw[if_neg (by rw[beq_builtin_none];exact Zg)];refine Us (UT f F.slot_tuple_hash.lookup ?_);show wpAny _ _ (VL (.ref a) "__hash__" _ >>= _) Q E s;refine Us (wpAny_callSpecialIfBoundUnlessNone?_slot f F.slot_tuple_hash (Uu F.slot_tuple_hash f F.entry_tuple_hash ?_ (F.args_tuple_hash_1 _)));show wpAny _ _ (Builtin.Tuple.tupleItemsOf (.ref a) >>= _) _ _ s;refine Us (wpAny_tupleItemsOf ho hd ?_);refine Us ?_;rw[<-Xg]
 refine Uy _
  (λc (b:Array Int) p=>∃done left,d=done++left/\Paired (NIs P w s.heap) left c/\b.toList=done.map (nkH P w)/\p={ s with toks:=s.toks+rA done })
  _ ?_ ?_ _ _ ⟨[],d,rfl,hi,rfl,rfl⟩
 ·rintro x c b p ⟨done,left,rfl,hl,hb,rfl⟩;cases hl with
  |@cons k _ ks' _ h1 hl'=>
   refine Us (zE u h1 ?_)
   first
    |exact UI ⟨done++[k],ks',by simp,hl',by simp[hb],by simp[rA,YR]⟩
    |exact Us (UI (UI ⟨done++[k],ks',by simp,hl',by simp[hb],by simp[rA,YR]⟩))
 ·rintro b p ⟨done,left,rfl,hl,hb,rfl⟩;cases hl;rw[ZN] at h;show wpAny _ _ (retInt (Builtin.Tuple.tupleHashOf b.toList)) _ _ _;rw[hb];refine wpAny_ret_mkInt ?_;show wpAny _ _ (if (decide (-(2:Int) ^ 63<=Builtin.Tuple.tupleHashOf (done.map (nkH P w))) && decide (Builtin.Tuple.tupleHashOf (done.map (nkH P w)) < 2 ^ 63))=aN then _ else _) Q E _;unfold zF reduceHash at h;by_cases j:(decide (-(2:Int) ^ 63<=Builtin.Tuple.tupleHashOf (done.map (nkH P w))) && decide (Builtin.Tuple.tupleHashOf (done.map (nkH P w)) < 2 ^ 63))=aN
  ·rw[if_pos j];rw[if_pos j] at h;exact UI (by simpa[YR] using h)
  ·rw[if_neg j];rw[if_neg j] at h;exact Us (UQ (UI (by simpa[YR] using h)))
def ug{b:Type}[DecidableEq b](x y:List b):((Zk (min x.length y.length)).all (λj=>decide (x[j]?=y[j]?)) && x.length == y.length)=decide (x=y):=by
 rw[YS,bAE,Yk,decide_eq_true_eq,beq_iff_eq];constructor
 ·rintro⟨h,c⟩;refine YV λj=>?_;by_cases d:j < x.length
  ·exact of_decide_eq_true (h j (ZO.mpr (by omega)))
  ·rw[Zs (by omega),Zs (by omega)]
 ·rintro rfl;exact⟨λj _=>decide_eq_true rfl,rfl⟩
def rB{A:Around}{s:Shared}{x y:Key}{u v:Value}(c:g9 x u=aN)(h:g9 y v=aN):Vb A s u v (decide (x=y)):=by
 rcases aA c with ⟨i,t,rfl,rfl⟩ |⟨a,t,rfl,rfl⟩
 ·rcases aA h with ⟨j,r,rfl,rfl⟩ |⟨b,r,rfl,rfl⟩
  ·rw[show decide ((Sum.inl i:Key)=Sum.inl j)=(i == j) by simp[Y4]];exact .int_int i t j r
  ·rw[zC];exact .int_str i t b r
 ·rcases aA h with ⟨j,r,rfl,rfl⟩ |⟨b,r,rfl,rfl⟩
  ·rw[zD];exact .str_int a t j r
  ·rw[show decide ((Sum.inr a:Key)=Sum.inr b)=(a == b) by simp[Y4]];exact .str_str a t b r
def lA{h:Heap}:∀ {b:List Key} {c:List Value},ItemsAre (a9 P w) b c->∀ (j:Nat) v,c[j]?=aw v->∃k,b[j]?=aw k/\g9 k v=aN
 |_,_,.nil,j,v,e=>by simp at e
 |_,_,.cons h1 t,0,v,e=>by cases e;exact⟨_,rfl,h1⟩
 |_,_,.cons h1 t,j+1,v,e=>lA (h:=h) t j v (by simpa using e)
def zG{A:Around}{s:Shared}{x y:NK}{u v:Value}(C:A.units < cLine)(E:NIs P w s.heap x u)(f:NIs P w s.heap y v):Vb A s u v (decide (x=y)):=by
 have tup:∀ {q:List Key} {b:Addr},IsTupleKey (a9 P w) s.heap q b->∃I:Array Value,s.heap.IsTuple b I/\ItemsAre (a9 P w) q I.toList:=λ⟨o,I,n,ho,L,hd,hi⟩=>⟨I,⟨o,ho,L,n,hd⟩,hi⟩;cases x with
 |non=>
  cases E;cases y with
  |non=>cases f;exact .same _
  |one k=>
   rw[decide_eq_false (λz=>nomatch z)];rcases aA f with ⟨i,t,rfl,rfl⟩ |⟨i,t,rfl,rfl⟩
   ·exact .none_int i t
   ·exact .none_str i t
  |tup q=>
   obtain⟨b,rfl,hb⟩:=f;obtain⟨I,d,_⟩:=tup hb;rw[decide_eq_false (λz=>nomatch z)];exact .none_tuple d C
 |one k=>
  cases y with
  |non=>
   cases f;rw[decide_eq_false (λz=>nomatch z)];rcases aA E with ⟨i,t,rfl,rfl⟩ |⟨i,t,rfl,rfl⟩
   ·exact .int_none i t
   ·exact .str_none i t
  |one J=>
   rw[show decide (NK.one k=NK.one J)=decide (k=J) by simp];exact rB E f
  |tup q=>
   obtain⟨b,rfl,hb⟩:=f;obtain⟨I,d,_⟩:=tup hb;rw[decide_eq_false (λz=>nomatch z)];rcases aA E with ⟨i,t,rfl,rfl⟩ |⟨i,t,rfl,rfl⟩
   ·exact .int_tuple i t d C
   ·exact .str_tuple i t d C
 |tup q=>
  obtain⟨b,rfl,hb⟩:=E;obtain⟨I,d,O⟩:=tup hb;cases y with
  |non=>cases f;rw[decide_eq_false (λz=>nomatch z)];exact .tuple_none d C
  |one k=>
   rw[decide_eq_false (λz=>nomatch z)];rcases aA f with ⟨i,t,rfl,rfl⟩ |⟨i,t,rfl,rfl⟩
   ·exact .tuple_int i t d C
   ·exact .tuple_str i t d C
  |tup p=>
   obtain⟨c,rfl,L⟩:=f;obtain⟨B,h2,Q⟩:=tup L;by_cases e:b=c
   ·subst e;rw[hb.inj L,decide_eq_true rfl];exact .same _
   ·refine .of_refs e ?_
    have z:=SeqAt.RcAt.tuples (e:=λj=>decide (q[j]?=p[j]?)) d h2 C λj Y Z=>by
     obtain⟨k,T,m1⟩:=lA (h:=s.heap) O j I[j] (by simp[Y]);obtain⟨J,e2,X⟩:=lA (h:=s.heap) Q j B[j] (by simp[Z]);rw[T,e2,show decide (aw k=aw J)=decide (k=J) by simp];exact rB m1 X
    have l1:q.length=I.size:=O.length.trans ZC;have U:p.length=B.size:=Q.length.trans ZC;rw[<-l1,<-U,ug] at z;rw[show decide (NK.tup q=NK.tup p)=decide (q=p) by simp];exact z
def lB{h:Heap}:∀ {b:List NK} {c:List Value},Paired (NIs P w h) b c->∀ (j:Nat) v,c[j]?=aw v->∃k,b[j]?=aw k/\NIs P w h k v
 |_,_,.nil,j,v,e=>by simp at e
 |_,_,.cons h1 t,0,v,e=>by cases e;exact⟨_,rfl,h1⟩
 |_,_,.cons h1 t,j+1,v,e=>lB t j v (by simpa using e)
def DA{A:Around}{E:Value->Shared->Prop}{s:Shared}{x y:List NK}{a b:Addr}{Q:Bool->Shared->Prop}(T:A.units+1 < cLine)(q:dz P w s.heap x a)(v:dz P w s.heap y b)(h:Q (decide (x=y)) s):wpAny (model P w) A (eqBool (.ref a) (.ref b)) Q E s:=by
 by_cases e:a=b
 ·subst e;rw[q.inj v,decide_eq_true rfl] at h;exact SeqAt.EqAt.same _ _ _ _ _ h
 ·obtain⟨o,c,n,ho,X,hd,B⟩:=q;obtain⟨o2,I,L,p,f,d,C⟩:=v
  have z:=SeqAt.RcAt.tuples (A:=A) (e:=λj=>decide (x[j]?=y[j]?)) (show s.heap.IsTuple a c from ⟨o,ho,X,n,hd⟩) (show s.heap.IsTuple b I from ⟨o2,p,f,L,d⟩) (by omega) λj Y Z=>by
   obtain⟨k,J,m1⟩:=lB B j c[j] (by simp[Y]);obtain⟨u,e2,U⟩:=lB C j I[j] (by simp[Z]);rw[J,e2,show decide (aw k=aw u)=decide (k=u) by simp];exact zG T m1 U
  have l1:x.length=c.size:=B.length.trans ZC;have O:y.length=I.size:=C.length.trans ZC;rw[<-l1,<-O,ug] at z;exact SeqAt.EqAt.of_refs e z _ _ _ _ h
def xY{A:Around}{E:Value->Shared->Prop}{s:Shared}{x:NK}{v:Value}{Q:Bool->Shared->Prop}(f:NIs P w s.heap x v)(h:Q aN s):wpAny (model P w) A (VS 7 v) Q E s:=by
 cases x with
 |non=>cases f;rw[VT _ rfl];exact UI h
 |one k=>rw[VT _ ((a9 P w).byValue k v (by exact f))];exact UI h
 |tup B=>
  obtain⟨b,rfl,z⟩:=f;have y:=z.typeIs;obtain⟨o,I,n,ho,_,hd,hi⟩:=z;unfold VS;refine Us (UT y F.slot_tuple_eq.lookup ?_);show wpAny _ _ (isInstance (.ref b) (.type "tuple") >>= _) _ _ s;refine Us (wpAny_isInstance y VY ?_);simp only[Xb,ZP,if_false];refine Us (UR ho hd ?_);refine Us ?_;show wpAny _ _ (forIn I _ _) _ _ s;rw[<-Xg];refine Uy _ (λd r q=>r.1=aD/\q=s/\∀v ∈ d,carriedByValue v=aN) _ ?_ ?_ _ _ ⟨rfl,rfl,hi.byValue⟩
  ·rintro v d r q ⟨p,rfl,c⟩;rw[VT _ (c v Zj)];refine Us (UI ?_);simp only[Xb,ZP,if_false];exact UI ⟨rfl,rfl,λu j=>c u (Zi _ j)⟩
  ·rintro⟨r1,r2⟩ q ⟨p,rfl,_⟩;simp only at p;subst p;exact UI h
def uh{A:Around}{E:Value->Shared->Prop}{s:Shared}{k:List NK}{a:Addr}{Q:Bool->Shared->Prop}(j:dz P w s.heap k a)(h:Q aN s):wpAny (model P w) A (VS 8 (.ref a)) Q E s:=by
 have f:=j.typeIs;obtain⟨o,I,n,ho,_,hd,hi⟩:=j;unfold VS;refine Us (UT f F.slot_tuple_eq.lookup ?_);show wpAny _ _ (isInstance (.ref a) (.type "tuple") >>= _) _ _ s;refine Us (wpAny_isInstance f VY ?_);simp only[Xb,ZP,if_false];refine Us (UR ho hd ?_);refine Us ?_;show wpAny _ _ (forIn I _ _) _ _ s;rw[<-Xg];refine Uy _ (λb r d=>r.1=aD/\d=s/\∃left,Paired (NIs P w s.heap) left b) _ ?_ ?_ _ _ ⟨rfl,rfl,k,hi⟩
 ·rintro v b r d ⟨c,rfl,left,hl⟩;cases hl with
  |cons q p=>
   refine Us (xY q ?_);simp only[Xb,ZP,if_false];exact UI ⟨rfl,rfl,_,p⟩
 ·rintro⟨r1,r2⟩ d ⟨c,rfl,_⟩;simp only at c;subst c;exact UI h
end
abbrev fM(P:Program)(w:World):HeapKind P w (List NK) where
 is:=dz P w
 hash:=zF P w
 draws:=λk=>rA k+1
 room:=λA=>A.units+1 < cLine
 inj:=λb d=>b.inj d
 keeps:=λx ho hd hs=>x.keeps ho hd hs
 pyHash:=λf c h=>xX f c h
 eqBool:=λf b d h=>DA f b d h
 quiet:=λc h=>uh c h
inductive V where
 |non |bl (b:Bool) |int (i:Int) |str (x:Str) |byt (b:Array UInt8) |flt (b:UInt64) |ref (a:Addr) |ty (n:String)
 deriving DecidableEq
abbrev aJ:V->Value->Prop
 |.non,u=>u=Value.none
 |.bl b,u=>u=Value.bool b
 |.int i,u=>∃t,u=Value.int i t
 |.str x,u=>∃t,u=Value.str x t
 |.byt b,u=>∃t,u=Value.bytes b t
 |.flt b,u=>∃t,u=Value.float b t
 |.ref a,u=>u=Value.ref a
 |.ty n,u=>u=Value.type n
@[inline]abbrev aO:List V->List Value->Prop:=Paired aJ
def aO.length{X:List V}{u:List Value}(r:aO X u):X.length=u.length:=Paired.length r
def aO.get:∀ {X:List V} {U:List Value} {i:Nat} {x:V},aO X U->X[i]?=aw x->∃u,U[i]?=aw u/\aJ x u
 |_,_,_,_,.nil,e=>by simp at e
 |_,_,0,_,.cons r _,e=>by simp at e;subst e;exact⟨_,rfl,r⟩
 |_,_,i+1,x,.cons _ t,e=>by
  obtain⟨u,h,b⟩:=aO.get (i:=i) (x:=x) t (by simpa using e);exact⟨u,by simpa using h,b⟩
def aO.set{x:V}{u:Value}(r:aJ x u):∀ {X:List V} {U:List Value} (i:Nat),aO X U->aO (X.set i x) (U.set i u)
 |_,_,_,.nil=>.nil
 |_,_,0,.cons _ t=>.cons r t
 |_,_,i+1,.cons q t=>.cons q (aO.set r i t)
def aO.append:∀ {X y:List V} {u b:List Value},aO X u->aO y b->aO (X++y) (u++b)
 |_,_,_,_,.nil,s=>s
 |_,_,_,_,.cons r t,s=>.cons r (aO.append t s)
def aO.take:∀ {X:List V} {u:List Value} (n:Nat),aO X u->aO (X.take n) (u.take n)
 |_,_,0,_=>.nil
 |_,_,_+1,.nil=>.nil
 |_,_,n+1,.cons r t=>.cons r (aO.take n t)
def aO.drop:∀ {X:List V} {u:List Value} (n:Nat),aO X u->aO (X.drop n) (u.drop n)
 |_,_,0,r=>r
 |_,_,_+1,.nil=>.nil
 |_,_,n+1,.cons _ t=>aO.drop n t
abbrev ui:Option V->Option Value->Prop
 |some v,aw u=>aJ v u
 |none,aD=>True
 |_,_=>False
abbrev KV{b:Type}:List (b × V)->List (b × Value)->Prop:=Paired λ(p:b × V) (q:b × Value)=>p.1=q.1/\aJ p.2 q.2
abbrev kV:Key->V
 |.inl i=>.int i
 |.inr x=>.str x
abbrev pU(h:Heap)(a:Addr)(I:Array Value):Prop:=∃o,h.get? a=aw o/\o.cls = .type "tuple"/\∃n,o.data = .seq I n/\o.dict=aD
def pU.isTup(x:pU h a items):IsTup h a items:=let ⟨o,e,c,n,d,_⟩:=x;⟨o,e,c,n,d⟩
def pU.lt(x:pU h a I):a < h.objs.size:=x.isTup.lt
def pU.new(h:Heap)(items:Array Value):pU (h.push { cls:=.type "tuple", data:=.seq items }) h.objs.size items:=⟨_,ZA _ rfl,rfl,_,rfl,rfl⟩
inductive HO where
  |lst (xs:List V)
  |tup (xs:List V)
  |dK (kvs:List (Key × V)) |dT (kvs:List (List NK × V))
  |set (S:Int->Bool) (n:Nat)
  |ins (C dx:Addr) (fs:List (Str × V))
  |own (x:Addr)
  |xd (fs:List (Str × V))
  |met (f x:Addr)
  |rng (lo hi:Int)
  |frz (o:Obj) (u:HO)
  |tbl (ps:Array Value)
  |ext (φ:Heap->Prop)
@[inline]abbrev Hp:=Addr->Option HO
abbrev upd(H:Hp)(a:Addr)(o:HO):Hp:=λb=>if b=a then aw o else H b
def bg{H:Hp}{a:Addr}{o:HO}:upd H a o a=aw o:=by unfold upd;rw[if_pos rfl]
def aB{H:Hp}{a b:Addr}{o:HO}(h:b ≠ a):upd H a o b=H b:=by unfold upd;rw[if_neg h]
def rC{H:Hp}{a b:Addr}{o u:HO}(h:H a=aw o)(h':H b=aw u)(d:o ≠ u):a ≠ b:=by
 intro e;subst e;rw[h] at h';exact d (Option.some.inj h')
def aV{H:Hp}{a b:Addr}{o:HO}(h:H a=aw o)(h':H b=aD):a ≠ b:=by
 intro e;subst e;rw[h] at h';cases h'
abbrev xZ(H:Hp):NK->V->Prop
 |.non,x=>x = .non
 |.one k,x=>x=kV k
 |.tup ks,x=>∃b,x = .ref b/\H b=aw (.tup (ks.map kV))
abbrev pV(H:Hp)(k:List NK)(a:Addr):Prop:=∃X,H a=aw (.tup X)/\Paired (xZ H) k X
def xZ.mono{H c:Hp}(d:∀b X,H b=aw (.tup X)->c b=aw (.tup X)){k:NK}{x:V}(h:xZ H k x):xZ c k x:=by
 cases k with
 |non=>exact h
 |one k=>exact h
 |tup f=>obtain⟨b,e,q⟩:=h;exact⟨b,e,d _ _ q⟩
def pV.mono{H c:Hp}{k:List NK}{a:Addr}(h:pV H k a)(d:∀b X,H b=aw (.tup X)->c b=aw (.tup X)):pV c k a:=
 let ⟨X,e,r⟩:=h;⟨X,d _ _ e,IC (λ_ _ z=>z.mono d) r⟩
section
variable (P:Program) (w:World)
abbrev bp(H:Hp)(h:Heap)(a:Addr):HO->Prop
 |.lst X=>X.length<=sizeLine/\∃ (I:List Value) (n:Nat),aO X I/\h.get? a=aw { cls:=.type "list", data:=.seq I.toArray n }
 |.tup X=>X.length<=sizeLine/\∃I:List Value,aO X I/\pU h a I.toArray
 |.dK kvs=>kvs.length<=sizeLine/\(a == Uo)=aS/\∃j,KV kvs j/\h.DictOf (a9 P w) a j
 |.dT kvs=>kvs.length<=sizeLine/\(a == Uo)=aS/\∃X:List (List NK × Addr × Value),
   Paired (λ(p:List NK × V) (q:List NK × Addr × Value)=>p.1=q.1/\pV H p.1 q.2.1/\aJ p.2 q.2.2) kvs X ∧
   ∃o E k,h.get? a=aw o/\o.ExactDict/\o.data = .dict E k/\E.toList=X.map (entryOfKey (fM P w))/\(X.map (·.1)).Nodup
 |.set S n=>h.SetOf (intKind P w) a S n
 |.ins C dx fs=>H dx=aw (.own a)/\fs.length<=1000/\dx ≠ a/\h.get? a=aw (Vq C dx) ∧
   ∃b,h.Ns1 dx b/\(∀f,ui (fs.lookup f) (b f))/\PySem.Within b (fs.map (·.1))
 |.own _=>∃o,h.get? a=aw o
 |.xd fs=>∃b,h.Ns1 a b/\∀f,ui (fs.lookup f) (b f)
 |.rng lo hi=>∃t u v,h.get? a=aw { cls:=.type "range", data:=.fields #[.int lo t,.int hi u,.int 1 v] }
 |.frz o u=>h.get? a=aw o/\bp H h a u
 |.tbl ps=>h.get? a=aw { cls:=.none,data:=.fields ps }
 |.met f x=>h.get? a=aw (Vy (.ref f) (.ref x))
 |.ext φ=>φ h/\(∃o,h.get? a=aw o)/\∀d c:Heap,φ d->(∀o,d.get? a=aw o->c.get? a=aw o)->φ c
abbrev HOk(H:Hp)(h:Heap):Prop:=∀a o,H a=aw o->bp P w H h a o
end
section
variable {P:Program} {w:World} {H H':Hp} {h h':Heap} {a:Addr} {o:HO}
def bp.lt(x:bp P w H h a o):a < h.objs.size:=by
 cases o with
 |lst X=>obtain⟨_,_,_,_,e⟩:=x;exact Zt e
 |tup X=>obtain⟨_,_,_,p⟩:=x;exact p.lt
 |dK k=>obtain⟨_,_,_,_,o,_,_,e,_⟩:=x;exact Zt e
 |dT k=>obtain⟨_,_,_,_,o,_,_,e,_⟩:=x;exact Zt e
 |set S n=>obtain⟨o,_,_,_,e,_⟩:=x;exact Zt e
 |ins C d fs=>obtain⟨_,_,_,e,_⟩:=x;exact Zt e
 |own y=>obtain⟨_,e⟩:=x;exact Zt e
 |xd fs=>obtain⟨_,⟨_,_,_,e,_⟩,_⟩:=x;exact Zt e
 |rng lo hi=>obtain⟨_,_,_,e⟩:=x;exact Zt e
 |frz ob u=>obtain⟨e,_⟩:=x;exact Zt e
 |tbl ps=>exact Zt (show h.get? a=aw _ from x)
 |met f y=>exact Zt (show h.get? a=aw _ from x)
 |ext b=>obtain⟨_,⟨_,e⟩,_⟩:=x;exact Zt e
def Paired.mapP{d j:Type}{F G:d->j->Prop}:∀ {L:List d} {c:List j},Paired F L c->(∀a b,F a b->G a b)->Paired G L c
 |_,_,.nil,_=>.nil
 |_,_,.cons r t,f=>.cons (f _ _ r) (Paired.mapP t f)
def bp.stay(x:bp P w H h a o)(k:∀b u,(b=a\/H b=aw (.own a))->h.get? b=aw u->h'.get? b=aw u)
  (ho:∀b,H b=aw (.own a)->H' b=aw (.own a)) (L:∀b X,H b=aw (.tup X)->H' b=aw (.tup X)):bp P w H' h' a o:=by
 induction o with
 |lst X=>obtain⟨z,I,n,r,e⟩:=x;exact⟨z,I,n,r,k _ _ (.inl rfl) e⟩
 |tup X=>obtain⟨z,I,r,ob,e,c⟩:=x;exact⟨z,I,r,ob,k _ _ (.inl rfl) e,c⟩
 |dK J=>obtain⟨z,y,Q,r,ob,j,E,e,c⟩:=x;exact⟨z,y,Q,r,ob,j,E,k _ _ (.inl rfl) e,c⟩
 |dT J=>
  obtain⟨z,y,X,r,ob,j,E,e,c⟩:=x;exact⟨z,y,X,Paired.mapP r λp q z=>⟨z.1,z.2.1.mono L,z.2.2⟩,ob,j,E,k _ _ (.inl rfl) e,c⟩
 |set S n=>obtain⟨ob,j,E,t,e,c⟩:=x;exact⟨ob,j,E,t,k _ _ (.inl rfl) e,c⟩
 |ins C Y fs=>
  obtain⟨d,z,ne,e,B,⟨O,j,E,T,c⟩,r⟩:=x;exact⟨ho _ d,z,ne,k _ _ (.inl rfl) e,B,⟨O,j,E,k _ _ (.inr d) T,c⟩,r⟩
 |own y=>obtain⟨ob,e⟩:=x;exact⟨ob,k _ _ (.inl rfl) e⟩
 |xd fs=>obtain⟨B,⟨O,j,E,e,c⟩,r⟩:=x;exact⟨B,⟨O,j,E,k _ _ (.inl rfl) e,c⟩,r⟩
 |rng lo hi=>obtain⟨t,u,v,e⟩:=x;exact⟨t,u,v,k _ _ (.inl rfl) e⟩
 |frz ob u U=>obtain⟨e,q⟩:=x;exact⟨k _ _ (.inl rfl) e,U q⟩
 |tbl ps=>
  have e:h.get? a=aw { cls:=.none,data:=.fields ps }:=x;show h'.get? a=aw { cls:=.none,data:=.fields ps };exact k a _ (.inl rfl) e
 |met f y=>
  have e:h.get? a=aw (Vy (.ref f) (.ref y)):=x;show h'.get? a=aw (Vy (.ref f) (.ref y));exact k a _ (.inl rfl) e
 |ext Z=>obtain⟨p,⟨o,e⟩,st⟩:=x;exact⟨st _ _ p λo q=>k _ _ (.inl rfl) q,⟨o,k _ _ (.inl rfl) e⟩,st⟩
def HOk.lt(x:HOk P w H h)(e:H a=aw o):a < h.objs.size:=(x a o e).lt
def HOk.fresh(x:HOk P w H h)(e:h.objs.size<=a):H a=aD:=by
 cases q:H a with
 |none=>rfl
 |some u=>exact absurd (ZH (x.lt q) e) (ZR _)
def HOk.kept(x:HOk P w H h)(k:∀b u,h.get? b=aw u->h'.get? b=aw u):HOk P w H h':=λa o e=>
 (x a o e).stay (λb u _ q=>k b u q) (λ_ q=>q) λ_ _ q=>q
def HOk.laid(x:HOk P w H h)(k:∀b u,h.get? b=aw u->h'.get? b=aw u)(f:h.objs.size<=a)(new:bp P w (upd H a o) h' a o):HOk P w (upd H a o) h':=λb u e=>by
 have d:=x.fresh f;by_cases hb:b=a
 ·subst hb;rw[bg] at e;cases e;exact new
 ·rw[aB hb] at e;exact(x b u e).stay (λc v _ q=>k c v q) (λc q=>by rw[aB (aV q d)];exact q) λc X q=>by rw[aB (aV q d)];exact q
end
abbrev Rd(H:Hp)(a:Addr)(u:HO):Prop:=H a=aw u\/∃o,H a=aw (.frz o u)
def Rd.ok{P:Program}{w:World}{H:Hp}{h:Heap}{a:Addr}{u:HO}(r:Rd H a u)(x:HOk P w H h):bp P w H h a u:=by
 rcases r with r |⟨o,r⟩
 ·exact x a u r
 ·obtain⟨_,q⟩:=x a _ r;exact q
abbrev Mut:Option HO->Prop
 |some (.lst _)=>True
 |some (.dK _)=>True
 |some (.dT _)=>True
 |some (.set _ _)=>True
 |some (.ins _ _ _)=>True
 |some (.ext _)=>True
 |_=>False
section
variable {P:Program} {w:World} {H:Hp} {h h':Heap} {x e:Addr} {o':HO}
def HOk.write(ok:HOk P w H h)(j:Mut (H x))(B:e=x\/H e=aw (.own x))(k:∀b u,b ≠ e->h.get? b=aw u->h'.get? b=aw u)(p:∃u,h'.get? e=aw u)
  (new:bp P w (upd H x o') h' x o'):HOk P w (upd H x o') h':=λb u q=>by
 have n:∀c y,H c=aw (.own y)->c ≠ x:=λc y r z=>by subst z;rw[r] at j;exact j
 have f:∀c X,H c=aw (.tup X)->c ≠ x:=λc X r z=>by subst z;rw[r] at j;exact j
 by_cases hb:b=x
 ·subst hb;rw[bg] at q;cases q;exact new
 ·rw[aB hb] at q;by_cases d:b=e
  ·have Q:H b=aw (.own x):=by
    rcases B with z |z
    ·exact absurd (d.trans z) hb
    ·rw[d];exact z
   rw[q] at Q;cases Q;obtain⟨v,C⟩:=p;exact⟨v,by rw[d];exact C⟩
  ·refine(ok b u q).stay (λc v hc r=>k c v ?_ r) (λc r=>by rw[aB (n c b r)];exact r) λc X r=>by rw[aB (f c X r)];exact r
   rcases hc with rfl |hc
   ·exact d
   ·rintro rfl;rcases B with z |z
    ·exact n c b hc z
    ·rw[hc] at z;cases z;exact hb rfl
end
structure Un(fs ex:List Addr)(H H':Hp)(h h':Heap):Prop where
 keep:∀b o,h.get? b=aw o->H b=aD->b ∉ fs->b ∉ ex->h'.get? b=aw o
 slot:∀b o,h.get? b=aw o->H b=aD->b ∈ fs->b ∉ ex->∃sl,h'.get? b=aw { o with slots:=sl }
 free:∀b o,h.get? b=aw o->H b=aD->b ∉ ex->H' b=aD
 there:∀b o,h.get? b=aw o->b ∉ ex->∃o',h'.get? b=aw o'
 tups:∀b xs,H b=aw (.tup xs)->H' b=aw (.tup xs)
 frzs:∀b o u,H b=aw (.frz o u)->H' b=aw (.frz o u)
 tbls:∀b ps,H b=aw (.tbl ps)->∃more,H' b=aw (.tbl (ps++more))
section
variable {fs fs' ex ex':List Addr} {H H1 H2:Hp} {h h1 h2 h':Heap} {a x e:Addr} {o:HO}
def Un.any(u:Un fs ex H H1 h h1){b:Addr}{ob:Obj}(q:h.get? b=aw ob)(n:H b=aD)(c:b ∉ ex):∃sl,h1.get? b=aw { ob with slots:=sl }:=by
 by_cases hb:b ∈ fs
 ·exact u.slot b ob q n hb c
 ·exact⟨ob.slots,u.keep b ob q n hb c⟩
def Un.kept(k:∀b u,h.get? b=aw u->h'.get? b=aw u):Un fs ex H H h h':=
 ⟨λb ob q _ _ _=>k b ob q,λb ob q _ _ _=>⟨ob.slots,k b ob q⟩,λ_ _ _ n _=>n,λb ob q _=>⟨ob,k b ob q⟩,λ_ _ q=>q,λ_ _ _ q=>q,λ_ ps q=>⟨#[],by rw[q];simp⟩⟩
def Un.refl:Un fs ex H H h h:=Un.kept λ_ _ q=>q
def Un.laid(k:∀b u,h.get? b=aw u->h'.get? b=aw u)(d:h.objs.size<=a)(c:H a=aD):Un fs ex H (upd H a o) h h' where
 keep:=λb u q _ _ _=>k b u q
 slot:=λb u q _ _ _=>⟨u.slots,k b u q⟩
 free:=λb u q n _=>by rw[aB (ZI (ZH (Zt q) d))];exact n
 there:=λb u q _=>⟨u,k b u q⟩
 tups:=λb X q=>by rw[aB (aV q c)];exact q
 frzs:=λb u X q=>by rw[aB (aV q c)];exact q
 tbls:=λb ps q=>⟨#[],by rw[aB (aV q c),q];simp⟩
def Un.write(d:Mut (H x))(v:e=x\/H e=aw (.own x))(k:∀b u,b ≠ e->h.get? b=aw u->h'.get? b=aw u)(f:∃u,h'.get? e=aw u):Un fs ex H (upd H x o) h h':=by
 have p:∀b,H b=aD->b ≠ x:=λb n z=>by subst z;rw[n] at d;exact d
 have hb:∀b,H b=aD->b ≠ e:=λb n z=>by
  subst z;rcases v with r |r
  ·exact p b n r
  ·rw[n] at r;cases r
 have j:∀b u,H b=aw u->¬ Mut (aw u)->b ≠ x:=λb u q nm z=>by subst z;rw[q] at d;exact nm d
 refine⟨λb u q n _ _=>k b u (hb b n) q,λb u q n _ _=>⟨u.slots,k b u (hb b n) q⟩,λb u q n _=>by rw[aB (p b n)];exact n,λb u q _=>?_,
  λb X q=>by rw[aB (j b _ q λz=>z)];exact q,λb u X q=>by rw[aB (j b _ q λz=>z)];exact q,λb ps q=>⟨#[],by rw[aB (j b _ q λz=>z),q];simp⟩⟩
 by_cases c:b=e
 ·subst c;exact f
 ·exact⟨u,k b u c q⟩
end
abbrev trk(h:Heap)(H:Hp):List Addr:=(Zk h.objs.size).filter λa=>(H a).isSome
abbrev pW(h:Heap)(H:Hp):Heap:=PySem.W.hideAll h (trk h H)
def x5(h:Heap)(H:Hp):(pW h H).objs.size=h.objs.size:=PySem.W.hideAll_size _ _
def zH(e:h.get? b=aw o)(n:H b=aD):(pW h H).get? b=aw o:=
 PySem.W.hideAll_get _ e λc=>by
  have q:(H b).isSome=aN:=(ZQ.mp c).2;rw[n] at q;simp at q
def DB(e:(pW h H).get? b=aw o):h.get? b=aw o/\H b=aD:=by
 have E:h.get? b=aw o:=PySem.W.of_hideAll (trk h H) e;refine⟨E,?_⟩;cases q:H b with
 |none=>rfl
 |some x=>
  have c:b ∈ trk h H:=ZQ.mpr ⟨ZO.mpr (Zt E),by simp[q]⟩;have z:(pW h H).get? b=aD:=PySem.W.hideAll_none (trk h H) c;rw[z] at e;cases e
structure Mod(K:Vk)(mg:Str->Option Value)(base:Heap):Prop where
 kin:K.In base
 glob:base.Ns V1 mg
 blt:∃mb,base.Ns VJ mb/\∀x:Str,x ≠ "__name__"->mb x=VI x
 nolimit:base.NoLimit
structure Cx where
 prog:Program
 w:World
 K:Vk
 mg:Str->Option Value
 base:Heap
 A:Around
 N:List Str
 s₀:Shared
 H₀:Hp
 env:Env
 outer:List Env
 stack:List Env
 ex:List Addr
 fn:Str->Bool
 calm:Bool
 pn:List (Addr × Obj)
 xe:Value->Shared->Prop
abbrev frs(l:List Env):List Addr:=l.filterMap (·.frame)
noncomputable abbrev Cx.fs(X:Cx):List Addr:=frs X.outer
abbrev Vis(sc:Scope)(x:Str):Prop:=sc.names.lookup x=aw .local\/sc.names.lookup x=aw .cell\/sc.names.lookup x=aw .free
abbrev Loc(sc:Scope)(x:Str):Prop:=sc.names.lookup x=aw .local\/sc.names.lookup x=aw .cell
abbrev Qz(env:Env)(h:Heap)(m:Str->Option Value)(x:Str)(u:Value):Prop:=
 (env.kindOf x=aw .local/\m x=aw u)\/((env.kindOf x=aw .cell\/env.kindOf x=aw .free)/\∃c,env.cells.lookup x=aw c/\h.IsCell c (aw u))
structure Cx.Ok(X:Cx):Prop where
 mod:Mod X.K X.mg X.base
 kind:X.env.scope.kind = .function
 glob:X.env.globals=V1
 blt:X.env.builtins=VJ
 above:X.s₀.heap.objs.size<=X.env.locals
 inj:∀x y c,X.env.cells.lookup x=aw c->X.env.cells.lookup y=aw c->x=y
 has:∀x,(X.env.kindOf x=aw .cell\/X.env.kindOf x=aw .free)->∃c,X.env.cells.lookup x=aw c
 cab:∀x c,X.fn x=aN->X.env.cells.lookup x=aw c->X.s₀.heap.objs.size<=c
 hd:X.calm=aN->X.A.handled=aD
 frames:X.A.frames=aw X.stack
 stk:X.stack=X.outer\/(X.stack=X.env::X.outer/\X.env.frame=aw X.env.locals)
 exf:∀b ∈ X.ex,b ≠ X.env.locals/\∀x c,X.env.cells.lookup x=aw c->c ≠ b
 bs:∀b o,X.base.get? b=aw o->X.s₀.heap.get? b=aw o/\X.H₀ b=aD
 bsz:X.base.objs.size<=X.s₀.heap.objs.size
 noex:∀b o,X.base.get? b=aw o->b ∉ X.ex
 exfs:∀b ∈ X.ex,b ∉ X.fs
 funs:X.s₀.heap.FunFrames X.base X.outer
 frf:∀b ∈ X.fs,X.H₀ b=aD
structure Inv(X:Cx)(pins:List (Addr × Obj))(σ:List (Option V))(H:Hp)(s:Shared):Prop where
 ok:X.Ok
 os:s.os=X.s₀.os
 bare:AllBare s.gens
 base:Un X.fs X.ex X.H₀ H X.s₀.heap s.heap
 loc:∃m,s.heap.Ns X.env.locals m/\∀ (i:Nat) (x:Str) (v:V),X.N[i]?=aw x->σ[i]?=aw (aw v)->Vis X.env.scope x->∃u,aJ v u/\Qz X.env s.heap m x u
 cell:∀x c,X.env.cells.lookup x=aw c->∃v,s.heap.IsCell c v
 free:H X.env.locals=aD
 freeC:∀x c,X.env.cells.lookup x=aw c->H c=aD
 pin:∀p ∈ X.pn++pins,s.heap.get? p.1=aw p.2/\H p.1=aD/\p.1 ≠ X.env.locals/\p.1 ∉ X.fs/\∀v,p.2.data ≠ .cell v
 hok:HOk X.prog X.w H s.heap
 len:σ.length=X.N.length
section
variable {X:Cx} {pins:List (Addr × Obj)} {σ:List (Option V)} {H H':Hp} {s:Shared} {h':Heap}
def Cx.Ok.nofr(ok:X.Ok)(e:X.base.get? b=aw o):b ∉ X.fs:=λhb=>by
 have:=(ok.funs.mem hb).1;rw[e] at this;cases this
def Inv.bs(I:Inv X pins σ H s):∀b o,X.base.get? b=aw o->s.heap.get? b=aw o/\H b=aD:=λb o e=>
 ⟨I.base.keep b o (I.ok.bs b o e).1 (I.ok.bs b o e).2 (I.ok.nofr e) (I.ok.noex b o e),I.base.free b o (I.ok.bs b o e).1 (I.ok.bs b o e).2 (I.ok.noex b o e)⟩
def Inv.bk(I:Inv X pins σ H s):∀b o,X.base.get? b=aw o->s.heap.get? b=aw o:=λb o e=>(I.bs b o e).1
def Inv.mod(I:Inv X pins σ H s):Mod X.K X.mg X.base:=I.ok.mod
def Inv.kIn(I:Inv X pins σ H s):X.K.In s.heap:=I.ok.mod.kin.keeps I.bk
def Inv.lt(I:Inv X pins σ H s):X.env.locals < s.heap.objs.size:=let ⟨_,hn,_⟩:=I.loc;hn.lt
def Inv.sz(I:Inv X pins σ H s):X.s₀.heap.objs.size<=s.heap.objs.size:=Z0 I.ok.above (YW I.lt)
def Inv.nofs(I:Inv X pins σ H s)(h:s.heap.objs.size<=a):a ∉ X.fs:=λhb=>by
 obtain⟨_,o,ho,_⟩:=I.ok.funs.mem hb;exact absurd (ZH (Zt ho) (Z0 I.sz h)) (ZR _)
def Inv.cne(I:Inv X pins σ H s):∀x c,X.env.cells.lookup x=aw c->c ≠ X.env.locals:=λx c e z=>by
 obtain⟨v,o,ho,hd⟩:=I.cell x c e;obtain⟨m,⟨O,E,d,h,b,_⟩,_⟩:=I.loc;rw[z,h] at ho;cases ho;rw[b] at hd;cases hd
def Inv.funs(I:Inv X pins σ H s):s.heap.FunFrames X.base X.outer:=by
 have all:∀ (l:List Env),(∀b ∈ frs l,b ∈ X.fs)->X.s₀.heap.FunFrames X.base l->s.heap.FunFrames X.base l:=by
  intro l
  induction l with
  |nil=>intro _ _;trivial
  |cons env r f=>
   intro hs d;obtain⟨k,⟨L,o,h,j,ho,hd⟩,n⟩:=d;have c:L ∈ X.fs:=hs L (by unfold frs;rw[YQ,h];exact Zj);obtain⟨sl,e⟩:=I.base.slot L o ho (I.ok.frf L c) c λz=>I.ok.exfs L z c;exact⟨k,⟨L,_,h,j,e,hd⟩,f (λb hb=>hs b (by unfold frs;rw[YQ,h];exact Zi _ hb)) n⟩
 exact all X.outer (λ_ hb=>hb) I.ok.funs
def Inv.stack(I:Inv X pins σ H s):s.heap.FunFrames X.base X.stack:=by
 rcases I.ok.stk with e |⟨e,hf⟩
 ·rw[e];exact I.funs
 ·rw[e];obtain⟨m,h,_⟩:=I.loc;refine .cons (by rw[I.ok.kind];decide) hf h ?_ I.funs;exact Heap.get?_none_of_le (Z0 I.ok.bsz I.ok.above)
def Inv.stkSub(I:Inv X pins σ H s):∀b ∈ frs X.stack,b ∈ X.env.locals::X.fs:=λb hb=>by
 rcases I.ok.stk with e |⟨e,hf⟩
 ·rw[e] at hb;exact Zi _ hb
 ·rw[e] at hb;unfold frs at hb;rw[YQ,hf] at hb;exact hb
def Inv.stkFree(I:Inv X pins σ H s):∀b ∈ frs X.stack,H b=aD:=λb hb=>by
 rcases Zn.mp (I.stkSub b hb) with e |hb
 ·rw[e];exact I.free
 ·obtain⟨_,o,ho,_⟩:=I.ok.funs.mem hb;exact I.base.free b o ho (I.ok.frf b hb) λz=>I.ok.exfs b z hb
def Inv.step{g':Array GenState}{t':Nat}{d':Drawn}{ch:List Addr}(I:Inv X pins σ H s)
  (j:∀b ∈ ch,(b ∈ X.ex\/X.s₀.heap.objs.size<=b)/\b ≠ X.env.locals/\(∀x c,X.env.cells.lookup x=aw c->c ≠ b)/\∀p ∈ X.pn++pins,p.1 ≠ b)
  (keep:∀b o,b ≠ X.env.locals->b ∉ X.fs->b ∉ ch->s.heap.get? b=aw o->H b=aD->h'.get? b=aw o)
  (slot:∀b o,b ≠ X.env.locals->b ∈ X.fs->b ∉ ch->s.heap.get? b=aw o->H b=aD->∃sl,h'.get? b=aw { o with slots:=sl }) (free:∀b o,b ∉ ch->s.heap.get? b=aw o->H b=aD->H' b=aD)
  (there:∀b o,b ∉ ch->s.heap.get? b=aw o->∃O,h'.get? b=aw O)
  (tups:∀b B,H b=aw (.tup B)->H' b=aw (.tup B)) (frzs:∀b o u,H b=aw (.frz o u)->H' b=aw (.frz o u)) (tbls:∀b ps,H b=aw (.tbl ps)->∃more,H' b=aw (.tbl (ps++more)))
  (ns:∀m,s.heap.Ns X.env.locals m->h'.Ns X.env.locals m) (hok:HOk X.prog X.w H' h') (hg:AllBare g') :
  Inv X pins σ H' { s with heap:=h',gens:=g',drawn:=d',toks:=t' }:=by
 have J:∀b o,X.s₀.heap.get? b=aw o->b ≠ X.env.locals:=λb o e=>ZI (ZH (Zt e) I.ok.above)
 have y:∀b o,X.s₀.heap.get? b=aw o->b ∉ X.ex->b ∉ ch:=λb o e h hb=>by
  rcases (j b hb).1 with z |z
  ·exact h z
  ·exact absurd (ZH (Zt e) z) (ZR _)
 have C:∀x c,X.env.cells.lookup x=aw c->∀v,s.heap.IsCell c v->h'.IsCell c v:=λx c e v ⟨o,ho,hd⟩=>by
  have f:c ∉ ch:=λz=>(j c z).2.2.1 x c e rfl;by_cases Y:c ∈ X.fs
  ·obtain⟨sl,q⟩:=slot c o (I.cne x c e) Y f ho (I.freeC x c e);exact⟨_,q,hd⟩
  ·exact⟨o,keep c o (I.cne x c e) Y f ho (I.freeC x c e),hd⟩
 refine⟨I.ok,I.os,hg,⟨λb o e n hb h=>?_,λb o e n hb h=>?_,λb o e n h=>?_,λb o e h=>?_,λb B e=>tups b B (I.base.tups b B e),λb o B e=>frzs b o B (I.base.frzs b o B e),λb ps e=>?_⟩,?_,λx c e=>?_,?_,λx c e=>?_,λp T=>?_,hok,I.len⟩
 ·exact keep b o (J b o e) hb (y b o e h) (I.base.keep b o e n hb h) (I.base.free b o e n h)
 ·obtain⟨sl,E⟩:=I.base.slot b o e n hb h;obtain⟨Q,L⟩:=slot b _ (J b o e) hb (y b o e h) E (I.base.free b o e n h);exact⟨Q,L⟩
 ·obtain⟨O,E⟩:=I.base.there b o e h;exact free b O (y b o e h) E (I.base.free b o e n h)
 ·obtain⟨O,E⟩:=I.base.there b o e h;exact there b O (y b o e h) E
 ·obtain⟨m1,E⟩:=I.base.tbls b ps e;obtain⟨Z,L⟩:=tbls b _ E;exact⟨m1++Z,by rw[L,Array.append_assoc]⟩
 ·obtain⟨m,hn,hl⟩:=I.loc;refine⟨m,ns m hn,λi x v E L e3=>?_⟩;obtain⟨u,r,l⟩:=hl i x v E L e3;refine⟨u,r,?_⟩;rcases l with l |⟨k,c,e,z⟩
  ·exact .inl l
  ·exact .inr ⟨k,c,e,C x c e _ z⟩
 ·obtain⟨v,z⟩:=I.cell x c e;exact⟨v,C x c e v z⟩
 ·obtain⟨m,⟨o,_,_,ho,_⟩,_⟩:=I.loc;exact free _ o (λz=>(j _ z).2.1 rfl) ho I.free
 ·obtain⟨v,o,ho,hd⟩:=I.cell x c e;exact free c o (λz=>(j c z).2.2.1 x c e rfl) ho (I.freeC x c e)
 ·obtain⟨e,n,ne,U,d⟩:=I.pin p T;have f:p.1 ∉ ch:=λz=>(j p.1 z).2.2.2 p T rfl;exact⟨keep p.1 p.2 ne U f e n,free p.1 p.2 f e n,ne,U,d⟩
def Inv.un{t':Nat}(I:Inv X pins σ H s)(u:Un X.fs [] H H' s.heap h')(hok:HOk X.prog X.w H' h'):Inv X pins σ H' { s with heap:=h',toks:=t' }:=by
 obtain⟨m,⟨o,k,q,ho,r⟩,_⟩:=id I.loc;obtain⟨sl,f⟩:=u.any ho I.free (by simp)
 exact I.step (g':=s.gens) (d':=s.drawn) (ch:=[]) (λ_ z=>nomatch z) (λb o _ hb _ e n=>u.keep b o e n hb (by simp)) (λb o _ hb _ e n=>u.slot b o e n hb (by simp)) (λb o _ e n=>u.free b o e n (by simp)) (λb o _ e=>u.there b o e (by simp)) u.tups u.frzs u.tbls (λp d=>by
  obtain⟨O,c,E,h,j⟩:=d;rw[ho] at h;cases h;exact⟨_,c,E,f,j⟩) hok I.bare
def Inv.call{g':Array GenState}{t':Nat}{d':Drawn}{ch:List Addr}(I:Inv X pins σ H s)(u:Un (frs X.stack) ch H H' s.heap h')(hok:HOk X.prog X.w H' h')(q:AllBare g')
  (f:∀b ∈ ch,(b ∈ X.ex\/X.s₀.heap.objs.size<=b)/\b ≠ X.env.locals/\(∀x c,X.env.cells.lookup x=aw c->c ≠ b)/\∀p ∈ X.pn++pins,p.1 ≠ b) :
  Inv X pins σ H' { s with heap:=h',gens:=g',drawn:=d',toks:=t' }:=by
 obtain⟨m,⟨o,C,B,ho,r⟩,_⟩:=id I.loc;obtain⟨sl,j⟩:=u.any ho I.free λz=>(f _ z).2.1 rfl
 exact I.step (ch:=ch) f (λb o j hb h e n=>u.keep b o e n (λz=>(Zn.mp (I.stkSub b z)).elim j hb) h) (λb o _ _ h e n=>u.any e n h) (λb o h e n=>u.free b o e n h) (λb o h e=>u.there b o e h) u.tups u.frzs u.tbls (λJ v=>by
  obtain⟨O,k,E,d,y⟩:=v;rw[ho] at d;cases d;exact⟨_,k,E,j,y⟩) hok q
def Inv.turned{t':Nat}{it:Addr}(I:Inv X pins σ H s)(k:∀b o,b ≠ it->s.heap.get? b=aw o->h'.get? b=aw o)(L:H it=aD)(f:it ≠ X.env.locals)
  (j:it ∈ X.ex\/X.s₀.heap.objs.size<=it) (J:∀x c,X.env.cells.lookup x=aw c->c ≠ it) (B:∀p ∈ X.pn++pins,p.1 ≠ it):Inv X pins σ H { s with heap:=h',toks:=t' }:=by
 have d:∀b u,H b=aw u->b ≠ it:=λb u e z=>by rw[z,L] at e;cases e
 refine I.step (g':=s.gens) (d':=s.drawn) (ch:=[it]) (λb hb=>?_) (λb o _ _ h e _=>k b o (λz=>h (by simp[z])) e) (λb o _ _ h e _=>⟨o.slots,k b o (λz=>h (by simp[z])) e⟩) (λ_ _ _ _ n=>n)
  (λb o h e=>⟨o,k b o (λz=>h (by simp[z])) e⟩) (λ_ _ e=>e) (λ_ _ _ e=>e) (λb ps e=>⟨#[],by rw[e];simp⟩) (λm C=>?_) (λb u e=>?_) I.bare
 ·have e:b=it:=by simpa using hb
  subst e;exact⟨j,f,J,B⟩
 ·obtain⟨o,y,E,ho,r⟩:=C;exact⟨o,y,E,k _ o (Ne.symm f) ho,r⟩
 ·refine(I.hok b u e).stay (λc v h q=>k c v ?_ q) (λ_ q=>q) λ_ _ q=>q;rcases h with z |z
  ·rw[z];exact d b u e
  ·exact d c _ z
def Inv.tok(I:Inv X pins σ H s)(t:Nat):Inv X pins σ H { s with toks:=t }:=I.un (h':=s.heap) (t':=t) Un.refl I.hok
def Inv.kept{t':Nat}(I:Inv X pins σ H s)(k:∀b u,s.heap.get? b=aw u->h'.get? b=aw u):Inv X pins σ H { s with heap:=h',toks:=t' }:=I.un (Un.kept k) (I.hok.kept k)
def Inv.laid{a:Addr}{o:HO}{t':Nat}(I:Inv X pins σ H s)(k:∀b u,s.heap.get? b=aw u->h'.get? b=aw u)(h:s.heap.objs.size<=a)(new:bp X.prog X.w (upd H a o) h' a o) :
  Inv X pins σ (upd H a o) { s with heap:=h',toks:=t' }:=I.un (Un.laid k h (I.hok.fresh h)) (I.hok.laid k h new)
def Inv.write{t':Nat}(I:Inv X pins σ H s)(d:Mut (H x))(c:e=x\/H e=aw (.own x))(k:∀b u,b ≠ e->s.heap.get? b=aw u->h'.get? b=aw u)(h:∃u,h'.get? e=aw u)
  (new:bp X.prog X.w (upd H x o) h' x o):Inv X pins σ (upd H x o) { s with heap:=h',toks:=t' }:=I.un (Un.write d c k h) (I.hok.write d c k h new)
def Inv.pins_of(I:Inv X pins σ H s)(h:∀p ∈ b,s.heap.get? p.1=aw p.2/\H p.1=aD/\p.1 ≠ X.env.locals/\p.1 ∉ X.fs/\∀v,p.2.data ≠ .cell v):Inv X b σ H s:=
 ⟨I.ok,I.os,I.bare,I.base,I.loc,I.cell,I.free,I.freeC,λp c=>(ZS.mp c).elim (λz=>I.pin p (Z3 _ z)) (h p),I.hok,I.len⟩
def rD{N:List Str}(hN:N.Nodup){i j:Nat}{x:Str}(a:N[i]?=aw x)(b:N[j]?=aw x):i=j:=by
 obtain⟨d,c⟩:=Zb.mp a;obtain⟨h,E⟩:=Zb.mp b;exact(Y5 hN).mp (c.trans E.symm)
def om{M:Model}{A:Around}{E:Value->Shared->Prop}{i:Nat}{x:Str}{v:V}{u:Value}{Q:Unit->Shared->Prop}(I:Inv X pins σ H s)(hN:X.N.Nodup)(hi:X.N[i]?=aw x)(B:Loc X.env.scope x)(r:aJ v u)
  (h:∀s',Inv X pins (σ.set i (aw v)) H s'->(∃a,Heap.SameBut a s.heap s'.heap/\(a=X.env.locals\/X.env.cells.lookup x=aw a))->Q () s') (hf:X.fn x=aN\/X.env.scope.names.lookup x=aw .local:=by first |exact .inl rfl |exact .inr rfl |assumption):wpAny M A (storeName X.env x u) Q E s:=by
 obtain⟨m,hn,hl⟩:=id I.loc;have hcls:(X.env.scope.kind == .class || (X.env.scope.kind == .module && X.env.locals != X.env.globals))=aS:=by rw[I.ok.kind];rfl
 have L:i < σ.length:=by rw[I.len];exact(Zb.mp hi).1
 have cne:=I.cne
 have T:∀ {a:Addr} {h':Heap},(∃o,s.heap.get? a=aw o/\H a=aD)->Heap.SameBut a s.heap h'->HOk X.prog X.w H h':=λ{a h'} ha hs b ob e=>by
  obtain⟨_,_,C⟩:=ha;refine(I.hok b ob e).stay (λc w' hc q=>(hs.2 c ?_).trans q) (λ_ q=>q) λ_ _ q=>q;rintro rfl;rcases hc with rfl |hc
  ·rw[C] at e;cases e
  ·rw[C] at hc;cases hc
 rcases B with hk |hk
 ·refine wpAny_storeName_local hk hn (λh' hn' hs=>?_) hcls;obtain⟨oL,_,_,hoL,_⟩:=id hn;refine h _ ⟨I.ok,I.os,I.bare,⟨λb o e n hb B=>?_,λb o e n hb B=>?_,I.base.free,λb o e B=>?_,I.base.tups,I.base.frzs,I.base.tbls⟩,⟨_,hn',λj y v' f J e3=>?_⟩,λy c e=>?_,I.free,I.freeC,λp hp=>?_,T ⟨oL,hoL,I.free⟩ hs,by simpa using I.len⟩ ⟨_,hs,.inl rfl⟩
  ·exact(hs.2 b (ZI (ZH (Zt e) I.ok.above))).trans (I.base.keep b o e n hb B)
  ·obtain⟨sl,f⟩:=I.base.slot b o e n hb B;exact⟨sl,(hs.2 b (ZI (ZH (Zt e) I.ok.above))).trans f⟩
  ·obtain⟨o',f⟩:=I.base.there b o e B;exact⟨o',(hs.2 b (ZI (ZH (Zt e) I.ok.above))).trans f⟩
  ·by_cases U:j=i
   ·subst U;rw[hi] at f;cases f;rw[ZU L] at J;cases J;exact⟨u,r,.inl ⟨hk,by simp⟩⟩
   ·rw[Zv (Ne.symm U)] at J;obtain⟨u',r',q⟩:=hl j y v' f J e3;refine⟨u',r',?_⟩;rcases q with ⟨k,e⟩ |⟨k,c,e,z⟩
    ·refine .inl ⟨k,?_⟩;have:y ≠ x:=λe=>U (rD hN f (e ▸ hi));simp[this,e]
    ·exact .inr ⟨k,c,e,z.sameBut hs (cne y c e)⟩
  ·obtain⟨w',z⟩:=I.cell y c e;exact⟨w',z.sameBut hs (cne y c e)⟩
  ·obtain⟨e,n,ne,nf,d⟩:=I.pin p hp;exact⟨(hs.2 p.1 ne).trans e,n,ne,nf,d⟩
 ·have O:X.fn x=aN:=by
   rcases hf with z |z
   ·exact z
   ·rw[z] at hk;cases hk
  obtain⟨c,hc⟩:=I.ok.has x (.inl hk);obtain⟨w',z⟩:=I.cell x c hc;refine wpAny_storeName_cell I.ok.kind hk hc z (λh' hc' hs=>?_);obtain⟨oc,hoc,Y⟩:=id z;refine h { s with heap:=h' } ⟨I.ok,I.os,I.bare,⟨λb o e n hb B=>?_,λb o e n hb B=>?_,I.base.free,λb o e B=>?_,I.base.tups,I.base.frzs,I.base.tbls⟩,⟨m,hn.sameBut hs (Ne.symm (cne x c hc)),λj y v' f J e3=>?_⟩,λy c' e=>?_,I.free,I.freeC,λp hp=>?_,T ⟨oc,hoc,I.freeC x c hc⟩ hs,by simpa using I.len⟩ ⟨c,hs,.inr hc⟩
  ·exact(hs.2 b (ZI (ZH (Zt e) (I.ok.cab x c O hc)))).trans (I.base.keep b o e n hb B)
  ·obtain⟨sl,f⟩:=I.base.slot b o e n hb B;exact⟨sl,(hs.2 b (ZI (ZH (Zt e) (I.ok.cab x c O hc)))).trans f⟩
  ·obtain⟨o',f⟩:=I.base.there b o e B;exact⟨o',(hs.2 b (ZI (ZH (Zt e) (I.ok.cab x c O hc)))).trans f⟩
  ·by_cases U:j=i
   ·subst U;rw[hi] at f;cases f;rw[ZU L] at J;cases J;exact⟨u,r,.inr ⟨.inl hk,c,hc,hc'⟩⟩
   ·rw[Zv (Ne.symm U)] at J;obtain⟨u',r',q⟩:=hl j y v' f J e3;refine⟨u',r',?_⟩;rcases q with q |⟨k,c',e,z'⟩
    ·exact .inl q
    ·refine .inr ⟨k,c',e,z'.sameBut hs ?_⟩;rintro rfl;exact U (rD hN f (I.ok.inj _ _ _ e hc ▸ hi))
  ·by_cases Z:c'=c
   ·subst Z;exact⟨_,hc'⟩
   ·obtain⟨w2,z2⟩:=I.cell y c' e;exact⟨w2,z2.sameBut hs Z⟩
  ·obtain⟨e,n,ne,nf,d⟩:=I.pin p hp;refine⟨(hs.2 p.1 ?_).trans e,n,ne,nf,d⟩;intro q;rw[q,hoc] at e;have q':oc=p.2:=Option.some.inj e;exact d w' (by rw[<-q'];exact Y)
def cS{i:Nat}(I:Inv X pins σ H s)(hN:X.N.Nodup)(hi:X.N[i]?=aw x)(c:Loc X.env.scope x)(r:aJ v u)
  (h:∀b,Inv X pins (σ.set i (aw v)) H b->Q () b) (d:X.fn x=aN\/X.env.scope.names.lookup x=aw .local:=by first |exact .inl rfl |exact .inr rfl |assumption):wpAny M A (storeName X.env x u) Q E s:=
 om I hN hi c r (λb f _=>h b f) d
def Inv.call'(I:Inv X pins σ H s)(ho:s'.os=s.os)(u:Un (frs X.stack) ch H H' s.heap s'.heap)(hok:HOk X.prog X.w H' s'.heap)(j:AllBare s'.gens)
  (h:∀b ∈ ch,(b ∈ X.ex\/X.s₀.heap.objs.size<=b)/\b ≠ X.env.locals/\(∀x c,X.env.cells.lookup x=aw c->c ≠ b)/\∀p ∈ X.pn++pins,p.1 ≠ b):Inv X pins σ H' s':=by
 obtain⟨h',d,f,T,O⟩:=s';have e:O=s.os:=ho;subst e;exact I.call (g':=d) (t':=T) (d':=f) u hok j h
end
@[inline]abbrev XK:=Value->Option Addr->Hp->Prop
@[inline]abbrev St:=List (Option V)
@[inline]abbrev VK:=V->Hp->Prop
@[inline]abbrev TE:=St->Hp->VK->Prop
@[inline]abbrev TT:=St->Hp->(Bool->Hp->Prop)->Prop
@[inline]abbrev TA:=St->Hp->(List V->Hp->Prop)->Prop
structure Ends where
 nx:St->Hp->Prop
 rt:VK
 bk:St->Hp->Prop:=λ_ _=>False
 ct:St->Hp->Prop:=λ_ _=>False
@[inline]abbrev TS:=Ends->St->Hp->Prop
abbrev EP(X:Cx)(p:List (Addr × Obj))(b:St)(Q:VK)(u:Value)(c:Shared):Prop:=∃v h,Inv X p b h c/\aJ v u/\Q v h
abbrev TP(X:Cx)(p:List (Addr × Obj))(c:St)(Q:Bool->Hp->Prop)(b:Bool)(d:Shared):Prop:=∃h,Inv X p c h d/\Q b h
abbrev AP(X:Cx)(p:List (Addr × Obj))(b:St)(Q:List V->Hp->Prop)(u:List Value)(c:Shared):Prop:=∃v h,Inv X p b h c/\aO v u/\Q v h
abbrev SP(X:Cx)(p:List (Addr × Obj))(D:Ends)(f:Flow)(c:Shared):Prop:=
 match f with
 |.next=>∃b h,Inv X p b h c/\D.nx b h
 |.brk=>∃b h,Inv X p b h c/\D.bk b h
 |.cont=>∃b h,Inv X p b h c/\D.ct b h
 |.ret u=>∃v b h,Inv X p b h c/\aJ v u/\D.rt v h
abbrev PE(X:Cx)(e:Expr)(t:TE):Prop:=
 ∀ (p:List (Addr × Obj)) (s:Shared) (b:St) (H:Hp) (Q:VK),Inv X p b H s->t b H Q->wpAny (model X.prog X.w) X.A (eval e X.env) (EP X p b Q) X.xe s
abbrev PT(X:Cx)(e:Expr)(t:TT):Prop:=
 ∀ (p:List (Addr × Obj)) (s:Shared) (b:St) (H:Hp) (Q:Bool->Hp->Prop),Inv X p b H s->t b H Q->wpAny (model X.prog X.w) X.A (isTrue e X.env (eval e X.env)) (TP X p b Q) X.xe s
abbrev PW(X:Cx)(e:Expr)(t:TT):Prop:=
 ∀ (b:Sem Value) (p:List (Addr × Obj)) (s:Shared) (c:St) (H:Hp) (Q:Bool->Hp->Prop),Inv X p c H s->t c H Q->wpAny (model X.prog X.w) X.A (isTrue e X.env b) (TP X p c Q) X.xe s
def PW.pt(h:PW X e t):PT X e t:=h _
abbrev PA(X:Cx)(E:List Expr)(t:TA):Prop:=
 ∀ (b:Pos) (p:List (Addr × Obj)) (s:Shared) (c:St) (H:Hp) (Q:List V->Hp->Prop),Inv X p c H s->t c H Q->wpAny (model X.prog X.w) X.A (spliced (backTo b (Uj E X.env))) (AP X p c Q) X.xe s
abbrev PS(X:Cx)(st:Stmt)(t:TS):Prop:=
 ∀ (p:List (Addr × Obj)) (s:Shared) (b:St) (H:Hp) (D:Ends),Inv X p b H s->t D b H->wpAny (model X.prog X.w) X.A (exec st X.env) (SP X p D) X.xe s
abbrev PSs(X:Cx)(st:List Stmt)(t:TS):Prop:=
 ∀ (p:List (Addr × Obj)) (s:Shared) (b:St) (H:Hp) (D:Ends),Inv X p b H s->t D b H->wpAny (model X.prog X.w) X.A (execs st X.env) (SP X p D) X.xe s
def thn{b:Type}{t:Sem b}{Q q:b->Shared->Prop}{M:Model}{A:Around}{E:Value->Shared->Prop}{s:Shared}(h:wpAny M A t Q E s)(c:∀a s,Q a s->q a s):wpAny M A t q E s:=UE h c λ_ _ x=>x
section
variable {X:Cx}
abbrev Np(i:Nat):TE:=λb H Q=>∃v,b[i]?=aw (aw v)/\Q v H
abbrev tC(v:V):TE:=λ_ H Q=>Q v H
def IE{i:Nat}(hN:X.N[i]?=aw x)(y:Vis X.env.scope x)(hd:(x == ("__debug__" : Str))=aS:=by decide)(d:(x == ("__classdict__" : Str))=aS:=by decide):PE X (.Name x n) (Np i):=by
 intro p s q H Q I h;obtain⟨v,e,h⟩:=h;obtain⟨m,B,k⟩:=I.loc;obtain⟨u,r,l⟩:=k i x v hN e y;have f:EP X p q Q u s:=⟨v,H,I,r,h⟩;rcases l with ⟨hk,z⟩ |⟨hk,c,j,b⟩
 ·exact wpAny_Name (wpAny_loadName_local I.ok.kind hk B z f) hd
 ·rcases hk with hk |hk
  ·exact wpAny_Name (wpAny_loadName_cell I.ok.kind hk j b f) hd
  ·exact wpAny_Name (wpAny_loadName_free I.ok.kind hk j b f d) hd
def lH{i j p}:PE X (.Constant (.int i) j p) (tC (.int i)):=λ_ _ _ H _ I h=>wpAny_Constant_int ⟨.int i,H,I.tok _,⟨_,rfl⟩,h⟩
def Nq{b j p}:PE X (.Constant (.bool b) j p) (tC (.bl b)):=λ_ _ _ H _ I h=>Constant_bool ⟨.bl b,H,I,rfl,h⟩
def zI{j pos}:PE X (.Constant .none j pos) (tC .non):=λ_ _ _ H _ I h=>Constant_none ⟨.non,H,I,rfl,h⟩
def IG{x j p}:PE X (.Constant (.str x) j p) (tC (.str x)):=λ_ _ _ H _ I h=>Calls.Constant_str ⟨.str x,H,I.tok _,⟨_,rfl⟩,h⟩
abbrev Gl(X:Cx)(x:Str):Prop:=X.env.kindOf x=aw .globalImplicit
def wm(I:Inv X p f H s)(c:Gl X x)(d:X.mg x=aw u)(h:Q u s)
  (hd:(x == ("__debug__" : Str))=aS:=by decide):wpAny (model X.prog X.w) X.A (eval (.Name x b) X.env) Q E s:=
 WL I.ok.kind c (Calls.loadGlobal_global (by rw[I.ok.glob];exact I.mod.glob.keeps I.bk) d h) hd
def dA(I:Inv X p q H s)(d:Gl X x)(k:X.mg x=aD)(f:VI x=aw u)(h:Q u s)
  (n:x ≠ "__name__" := by decide) (hd:(x == ("__debug__" : Str))=aS:=by decide):wpAny (model X.prog X.w) X.A (eval (.Name x c) X.env) Q E s:=by
 obtain⟨v,j,b⟩:=I.mod.blt;exact WL I.ok.kind d (Calls.loadGlobal_builtin (by rw[I.ok.glob];exact I.mod.glob.keeps I.bk) k (by rw[I.ok.blt];exact j.keeps I.bk) ((b x n).trans f) h) hd
def pX(b:Gl X x)(c:X.mg x=aw u)(r:aJ v u)(hd:(x == ("__debug__" : Str))=aS:=by decide):PE X (.Name x p) (tC v):=
 λ_ _ _ H _ I h=>wm I b c ⟨v,H,I,r,h⟩ hd
def iR(b:Gl X x)(d:X.mg x=aD)(c:VI x=aw u)(r:aJ v u)(f:x ≠ "__name__" := by decide)(hd:(x == ("__debug__" : Str))=aS:=by decide):PE X (.Name x p) (tC v):=
 λ_ _ _ H _ I h=>dA I b d c ⟨v,H,I,r,h⟩ f hd
variable {a b:Expr} {ta tb:TE} {pos:Pos}
variable {tA tB':TT} {rest:List Expr}
abbrev Nr(t u:TT):TT:=λd H Q=>t d H λc h=>if c=aN then u d h Q else Q aS h
abbrev tOr(t u:TT):TT:=λd H Q=>t d H λc h=>if c=aN then Q aN h else u d h Q
abbrev Nt(t:TT):TT:=λd H Q=>t d H λc h=>Q (!c) h
def DC(f:PT X a tA):PW X (.BoolOp .And [a] pos) tA:=by
 intro j p s d H Q I h;refine isTrue_and (thn (f p s d H Q I h) λc k e=>?_);cases c with
 |true=>exact isTrue_and_nil e
 |false=>exact e
def IH(f:PT X a tA):PW X (.BoolOp .Or [a] pos) tA:=by
 intro j p s d H Q I h;refine isTrue_or (thn (f p s d H Q I h) λc k e=>?_);cases c with
 |false=>exact isTrue_or_nil e
 |true=>exact e
def zJ(n:PT X a tA)(hb:PW X (.BoolOp .And (b::rest) pos) tB'):PW X (.BoolOp .And (a::b::rest) pos) (Nr tA tB'):=by
 intro k p s f H Q I h;refine isTrue_and (thn (n p s f H _ I h) λc u ⟨j,d,q⟩=>?_);cases c with
 |true=>exact hb k p u f j Q d q
 |false=>exact⟨j,d,q⟩
def Hj(n:PT X a tA)(hb:PW X (.BoolOp .Or (b::rest) pos) tB'):PW X (.BoolOp .Or (a::b::rest) pos) (tOr tA tB'):=by
 intro k p s f H Q I h;refine isTrue_or (thn (n p s f H _ I h) λc u ⟨j,d,q⟩=>?_);cases c with
 |true=>exact⟨j,d,q⟩
 |false=>exact hb k p u f j Q d q
def II(f:PT X a tA):PT X (.UnaryOp .Not a pos) (Nt tA):=by
 intro p s d H Q I h;exact isTrue_not (f p s d H (λc j=>Q (!c) j) I h)
abbrev Hk(ta tb:TE):TE:=λd H Q=>ta d H λx h=>∃c,x = .bl c/\if c=aN then tb d h Q else Q (.bl aS) h
abbrev Nu(ta tb:TE):TE:=λd H Q=>ta d H λx h=>∃c,x = .bl c/\if c=aN then Q (.bl aN) h else tb d h Q
abbrev Hl(ta:TE):TE:=λd H Q=>ta d H λx h=>∃c,x = .bl c/\Q (.bl (!c)) h
def zK{op}(h:PE X a t):PE X (.BoolOp op [a] pos) t:=λp s c H Q I d=>BoolOp_one (h p s c H Q I d)
def zL(k:PE X a ta)(hb:PE X (.BoolOp .And (b::rest) pos) tb):PE X (.BoolOp .And (a::b::rest) pos) (Hk ta tb):=by
 intro p s f H Q I h;refine BoolOp_and (thn (k p s f H _ I h) λv n ⟨x,j,d,r1,q⟩=>?_);obtain⟨c,rfl,q⟩:=q;cases r1;refine UV ?_;cases c with
 |true=>exact hb p n f j Q d q
 |false=>exact⟨.bl aS,j,d,rfl,q⟩
def Hm(k:PE X a ta)(hb:PE X (.BoolOp .Or (b::rest) pos) tb):PE X (.BoolOp .Or (a::b::rest) pos) (Nu ta tb):=by
 intro p s f H Q I h;refine BoolOp_or (thn (k p s f H _ I h) λv n ⟨x,j,d,r1,q⟩=>?_);obtain⟨c,rfl,q⟩:=q;cases r1;refine UV ?_;cases c with
 |false=>exact hb p n f j Q d q
 |true=>exact⟨.bl aN,j,d,rfl,q⟩
def IJ(j:PE X a ta):PE X (.UnaryOp .Not a pos) (Hl ta):=by
 intro p s f H Q I h;refine UnaryOp_ (thn (j p s f H _ I h) λv n ⟨x,k,d,r1,q⟩=>?_);obtain⟨c,rfl,q⟩:=q;cases r1;exact not_of (UV ⟨.bl (!c),k,d,rfl,q⟩)
abbrev tIf(t:TT)(ta tb:TE):TE:=λd H Q=>t d H λc h=>if c=aN then ta d h Q else tb d h Q
def zM{c:Expr}(u:PT X c tA)(v:PE X a ta)(hb:PE X b tb):PE X (.IfExp c a b pos) (tIf tA ta tb):=by
 intro p s f H Q I h;refine wpAny_IfExp (thn (u p s f H _ I h) λd n ⟨k,j,q⟩=>?_);cases d with
 |true=>exact v p n f k Q j q
 |false=>exact hb p n f k Q j q
end
abbrev SqL(K:Vk)(H:Hp)(a:Addr)(X:List V):Prop:=
 Rd H a (.lst X) ∨
  ∃ (o:Obj) (I:Array Value) (n:Nat),K.lookup a=aw o/\o.cls = .type "list"/\o.dict=aD/\o.data = .seq I n/\I.size<=sizeLine/\aO X I.toList
abbrev SqT(K:Vk)(H:Hp)(a:Addr)(X:List V):Prop:=
 Rd H a (.tup X) ∨
  ∃ (o:Obj) (I:Array Value) (n:Nat),K.lookup a=aw o/\o.cls = .type "tuple"/\o.data = .seq I n/\I.size<=sizeLine/\aO X I.toList
abbrev QA:Value->Option V
 |.none=>aw .non
 |.bool b=>aw (.bl b)
 |.int i _=>aw (.int i)
 |.str x _=>aw (.str x)
 |.bytes b _=>aw (.byt b)
 |.float b _=>aw (.flt b)
 |.ref a=>aw (.ref a)
 |.type n=>aw (.ty n)
 |_=>aD
def aJ.abs(r:aJ x u):QA u=aw x:=by
 cases x with
 |non=>cases r;rfl
 |bl _=>cases r;rfl
 |int _=>obtain⟨t,rfl⟩:=r;rfl
 |str _=>obtain⟨t,rfl⟩:=r;rfl
 |byt _=>obtain⟨t,rfl⟩:=r;rfl
 |flt _=>obtain⟨t,rfl⟩:=r;rfl
 |ref _=>cases r;rfl
 |ty _=>cases r;rfl
def aJ.inj{x y:V}{u:Value}(r:aJ x u)(q:aJ y u):x=y:=Option.some.inj (r.abs.symm.trans q.abs)
def aO.inj:∀ {X y:List V} {u:List Value},aO X u->aO y u->X=y
 |_,_,_,.nil,.nil=>rfl
 |_,_,_,.cons r t,.cons r' t'=>by rw[r.inj r',aO.inj t t']
section
variable {X:Cx} {pins:List (Addr × Obj)} {σ:St} {H:Hp} {s:Shared} {a:Addr} {xs ys:List V}
def SqL.of{K:Vk}(h:H a=aw (.lst xs)):SqL K H a xs:=.inl (.inl h)
def SqT.of{K:Vk}(h:H a=aw (.tup xs)):SqT K H a xs:=.inl (.inl h)
def Inv.list(I:Inv X pins σ H s)(h:SqL X.K H a xs):∃its:List Value,aO xs its/\PlainL s.heap a its.toArray/\xs.length<=sizeLine:=by
 rcases h with h |⟨o,its,n,hk,hc,hd,hs,hz,r⟩
 ·obtain⟨z,its,n,r,e⟩:=h.ok I.hok;exact⟨its,r,⟨_,n,e,rfl,rfl,rfl⟩,z⟩
 ·refine⟨its.toList,r,⟨o,n,I.kIn a o hk,hc,hd,by simpa using hs⟩,?_⟩;have e:=r.length;simp only[ZC] at e
  lia
def Inv.tuple(I:Inv X pins σ H s)(h:SqT X.K H a xs):∃its:List Value,aO xs its/\IsTup s.heap a its.toArray/\xs.length<=sizeLine:=by
 rcases h with h |⟨o,its,n,hk,hc,hs,hz,r⟩
 ·obtain⟨z,its,r,p⟩:=h.ok I.hok;exact⟨its,r,p.isTup,z⟩
 ·refine⟨its.toList,r,⟨o,I.kIn a o hk,hc,n,by simpa using hs⟩,?_⟩;have e:=r.length;simp only[ZC] at e
  lia
def Inv.list_inj(I:Inv X pins σ H s)(h:SqL X.K H a xs)(h':SqL X.K H a ys):xs=ys:=by
 obtain⟨b,r,⟨o,n,e,_,_,d⟩,_⟩:=I.list h;obtain⟨its',f,⟨O,j,E,_,_,c⟩,_⟩:=I.list h';rw[e] at E;cases E;rw[d] at c;injection c with d1 _;have:b=its':=by simpa using congrArg Array.toList d1
 subst this;exact r.inj f
def Inv.tuple_inj(I:Inv X pins σ H s)(h:SqT X.K H a xs)(h':SqT X.K H a ys):xs=ys:=by
 obtain⟨b,r,⟨o,e,_,n,d⟩,_⟩:=I.tuple h;obtain⟨its',f,⟨O,E,_,j,c⟩,_⟩:=I.tuple h';rw[e] at E;cases E;rw[d] at c;injection c with d1 _;have:b=its':=by simpa using congrArg Array.toList d1
 subst this;exact r.inj f
end
noncomputable abbrev Cx.wish(X:Cx)(E:Value->Shared->Prop):Cx:={ X with xe:=E }
noncomputable abbrev Cx.nox(X:Cx):Cx:=X.wish λ_ _=>False
def Cx.Ok.wish{X:Cx}(ok:X.Ok)(E:Value->Shared->Prop):(X.wish E).Ok:=
 ⟨ok.mod,ok.kind,ok.glob,ok.blt,ok.above,ok.inj,ok.has,ok.cab,ok.hd,ok.frames,ok.stk,ok.exf,ok.bs,ok.bsz,ok.noex,ok.exfs,ok.funs,ok.frf⟩
def Cx.Ok.unwish{X:Cx}{E:Value->Shared->Prop}(ok:(X.wish E).Ok):X.Ok:=
 ⟨ok.mod,ok.kind,ok.glob,ok.blt,ok.above,ok.inj,ok.has,ok.cab,ok.hd,ok.frames,ok.stk,ok.exf,ok.bs,ok.bsz,ok.noex,ok.exfs,ok.funs,ok.frf⟩
section
variable {X:Cx} {pins:List (Addr × Obj)} {σ:St} {H:Hp} {s:Shared} {E:Value->Shared->Prop}
def Inv.wish(I:Inv X pins σ H s)(E:Value->Shared->Prop):Inv (X.wish E) pins σ H s:=⟨I.ok.wish E,I.os,I.bare,I.base,I.loc,I.cell,I.free,I.freeC,I.pin,I.hok,I.len⟩
def Inv.unwish(I:Inv (X.wish E) pins σ H s):Inv X pins σ H s:=⟨I.ok.unwish,I.os,I.bare,I.base,I.loc,I.cell,I.free,I.freeC,I.pin,I.hok,I.len⟩
def SP.unwish{D:Ends}{f:Flow}{s':Shared}(h:SP (X.wish E) pins D f s'):SP X pins D f s':=by
 cases f with
 |next=>obtain⟨b,c,I,q⟩:=h;exact⟨b,c,I.unwish,q⟩
 |brk=>obtain⟨b,c,I,q⟩:=h;exact⟨b,c,I.unwish,q⟩
 |cont=>obtain⟨b,c,I,q⟩:=h;exact⟨b,c,I.unwish,q⟩
 |ret u=>obtain⟨v,b,c,I,r,q⟩:=h;exact⟨v,b,c,I.unwish,r,q⟩
def PSs.nox{st:List Stmt}{t:TS}(h:PSs X.nox st t):PSs X st t:=λpins s σ H D I b=>
 UE (h pins s σ H D (I.wish _) b) (λ_ _ q=>q.unwish) λ_ _ z=>False.elim z
end
section
variable {X:Cx} {st:Stmt} {rest:List Stmt} {t u:TS} {e:Expr} {te:TE} {pos:Pos}
abbrev Hn:TS:=λD b H=>D.nx b H
abbrev Nv(t u:TS):TS:=λD b H=>t { D with nx:=u D } b H
def DD:PSs X [] Hn:=λ_ _ b H _ I h=>wpAny_execs_nil ⟨b,H,I,h⟩
def zN(j:PS X st t)(c:PSs X rest u):PSs X (st::rest) (Nv t u):=by
 intro p s d H D I h;refine wpAny_execs_cons (thn (j p s d H { D with nx:=u D } I h) λf n q=>?_);cases f with
 |next=>
  obtain⟨b,k,y,q⟩:=q;exact c p n b k D y q
 |ret v=>exact q
 |brk=>exact q
 |cont=>exact q
abbrev Ho:TS:=λD b H=>D.ct b H
def rE:PS X (.Continue pos) Ho:=λ_ _ b H _ I h=>wpAny_Continue ⟨b,H,I,h⟩
def Inv.quiet{p:List (Addr × Obj)}{b:St}{H:Hp}{s:Shared}(I:Inv X p b H s):interactive X.env=aS:=by simp[interactive,I.ok.kind]
abbrev Hq(te:TE):TS:=λD b H=>te b H λ_ h=>D.nx b h
def DE(d:PE X e te)(hs:Ul e aD pos.line X.env=pure aS:=by rfl):PS X (.Expr e pos) (Hq te):=by
 intro p s b H D I h;exact wpAny_Expr_any (thn (d p s b H _ I h) λv j ⟨x,f,c,r1,q⟩=>⟨b,f,c,q⟩) I.quiet hs
abbrev Nw(te:TE):TS:=λD b H=>te b H D.rt
def IK(d:PE X e te):PS X (.Return (aw e) pos) (Nw te):=by
 intro p s b H D I h;exact wpAny_Return_some (thn (d p s b H _ I h) λv j ⟨x,f,c,r1,q⟩=>⟨x,b,f,c,r1,q⟩)
abbrev Nx(c:TT)(t u:TS):TS:=λD d H=>c d H λb h=>if b=aN then t D d h else u D d h
def Ny{c:Expr}{a b:List Stmt}{T:TT}(v:PT X c T)(y:PSs X a t)(hb:PSs X b u):PS X (.If c a b pos) (Nx T t u):=by
 intro p s f H D I h;refine wpAny_If (thn (v p s f H _ I h) λd n ⟨k,j,q⟩=>?_);cases d with
 |true=>exact y p n f k D j q
 |false=>exact hb p n f k D j q
abbrev IL:TS:=λ_ _ _=>False
def zO:PS X st IL:=λ_ _ _ _ _ _ h=>h.elim
end
@[inline]abbrev TG:=V->St->Hp->(St->Hp->Prop)->Prop
@[inline]abbrev TGs:=List V->St->Hp->(St->Hp->Prop)->Prop
abbrev PG(X:Cx)(T:Expr)(t:TG):Prop:=
 ∀ (p:List (Addr × Obj)) (s:Shared) (c:St) (H:Hp) (v:V) (u:Value) (Q:St->Hp->Prop),Inv X p c H s->aJ v u->t v c H Q ->
  wpAny (model X.prog X.w) X.A (assign T X.env u) (λ_ d=>∃b h,Inv X p b h d/\Q b h) X.xe s
abbrev PGs(X:Cx)(T:List Expr)(t:TGs):Prop:=
 ∀ (p:List (Addr × Obj)) (s:Shared) (c:St) (H:Hp) (v:List V) (u:List Value) (Q:St->Hp->Prop),Inv X p c H s->aO v u->t v c H Q ->
  wpAny (model X.prog X.w) X.A (VC ((VB T X.env).map (·.2)) u) (λ_ d=>∃b h,Inv X p b h d/\Q b h) X.xe s
@[inline]abbrev DF:=V->V->V->Hp->(Hp->Prop)->Prop
abbrev IM(X:Cx)(t:DF):Prop:=
 ∀ (p:List (Addr × Obj)) (s:Shared) (b:St) (H:Hp) (o i v:V) (O I u:Value) (Q:Hp->Prop),Inv X p b H s->aJ o O->aJ i I->aJ v u->t o i v H Q ->
  wpAny (model X.prog X.w) X.A (setItem O I u) (λ_ c=>∃h,Inv X p b h c/\Q h) X.xe s
section
variable {X:Cx} {pos:Pos}
abbrev rF(i:Nat):TG:=λv b H Q=>Q (b.set i (aw v)) H
def DG{i:Nat}(hN:X.N.Nodup)(hi:X.N[i]?=aw x)(b:Loc X.env.scope x)(c:X.fn x=aN\/X.env.scope.names.lookup x=aw .local:=by first |exact .inl rfl |exact .inr rfl |assumption):PG X (.Name x pos) (rF i):=by
 intro p s f H v u Q I r h;exact wpAny_assign_Name (cS I hN hi b r (λj d=>⟨_,H,d,h⟩) c)
abbrev Nz:TGs:=λv b H Q=>v=[]/\Q b H
abbrev Hr(t:TG)(u:TGs):TGs:=λd c H Q=>∃v r,d=v::r/\t v c H λb h=>u r b h Q
def DH:PGs X [] Nz:=by
 intro p s b H v u Q I r h;obtain⟨e,h⟩:=h;subst e;cases r;exact assignInOrder_nil ⟨b,H,I,h⟩
def zP{e:Expr}{E:List Expr}{t:TG}{u:TGs}(d:PG X e t)(q:PGs X E u)
  (hs:(VB (e::E) X.env).map (·.2)=assign e X.env::(VB E X.env).map (·.2):=by rfl):PGs X (e::E) (Hr t u):=by
 intro p s z H C U Q I r h;obtain⟨v,B,f,h⟩:=h;subst f;cases r with
 |cons r c=>
  rw[hs];refine assignInOrder_cons (thn (d p s z H _ _ _ I r h) λ_ k ⟨b,j,n,y⟩=>?_);exact q p k b j _ _ Q n c y
abbrev NA(K:Vk)(n:Nat)(t:TGs):TG:=λv c H Q=>∃a b,v = .ref a/\SqT K H a b/\b.length=n/\t b c H Q
def IP{k:Nat}{n:Nat}(J:X.calm=aN)(h:PGs X E t)
  (Y:(VB E X.env).length=n:=by rfl) (d:(VB E X.env).findIdx? (·.1)=aD:=by rfl):PG X (.Tuple E k pos) (NA X.K n t):=by
 intro p s j H v u Q I r c;obtain⟨a,T,y,B,L,c⟩:=c;subst y;cases r;obtain⟨U,f,C,Z⟩:=I.tuple B;refine assign_Tuple_tuple (I.ok.hd J) C (by simp[Y,<-L,f.length]) d λq z=>?_;have O:Inv X p j H { s with heap:=q }:=I.kept (t':=s.toks) λb o e=>z b o (ZI (Zt e)) e;exact h p _ j H T _ Q O (by simpa using f) c
abbrev NB(T c:TE)(t:DF):TG:=λv b H Q=>T b H λo d=>c b d λi h=>t o i v h λf=>Q b f
def IQ{o i:Expr}{T d:TE}{t:DF}(ho:PE X o T)(hi:PE X i d)(hs:IM X t)
  (U:∀v,assign (.Subscript o i pos) X.env v=(do
   let O <-holding [v] (eval o X.env)
   let b <-holding [v,O] (eval i X.env)
   standAt pos
   holding [v,O,b] (setItem O b v)
   release [v,O,b] []):=by intro _;rfl):PG X (.Subscript o i pos) (NB T d t):=by
 intro p s c H v u Q I r h;rw[U];refine Us (UA (thn (ho p s c H _ I h) λO j ⟨x,f,J,r1,L⟩=>?_));refine Us (UA (thn (hi p j c f _ J L) λb E ⟨y,k,B,r2,C⟩=>?_));refine Us (UU (Us (UA (thn (hs p E c k x y v O b u _ B r1 r2 r C) λ_ Y ⟨z,n,q⟩=>?_))));exact wpAny_release ⟨c,z,n,q⟩
abbrev zQ(T:TE)(g:TG):TS:=λD b H=>T b H λx h=>g x b h D.nx
def zR{T e:Expr}{b:TE}{g:TG}(n:PE X e b)(k:PG X T g)(hs:Um [T] e pos.line X.env=pure aS:=by rfl)(f:Uk [T] e X.env=pure aD:=by rfl)
  (j:(VB [T] X.env).map (·.2)=[assign T X.env]:=by rfl):PS X (.Assign [T] e pos) (zQ b g):=by
 intro p s c H D I h;refine wpAny_Assign_stores (thn (n p s c H _ I h) λv y ⟨x,u,d,r1,Q⟩=>?_) hs f;rw[j];exact thn (k p y c u x v _ d r1 Q) λ_ z q=>q
def IR{i:Nat}{x:Str}{e:Expr}{T:TE}{p:Pos}(hN:X.N.Nodup)(hi:X.N[i]?=aw x)(f:Loc X.env.scope x)(n:PE X e T)(hs:Ul e (aw (.Name x p)) pos.line X.env=pure aS:=by rfl)(j:X.fn x=aN\/X.env.scope.names.lookup x=aw .local:=by first |exact .inl rfl |exact .inr rfl |assumption) :
  PS X (.Assign [.Name x p] e pos) (zQ T (rF i)):=by
 intro b s d H D I h;refine wpAny_Assign_Name (thn (n b s d H _ I h) λv z ⟨y,u,c,r1,q⟩=>?_) hs;exact cS c hN hi f r1 (λB k=>⟨_,u,k,q⟩) j
abbrev NC(i j:Nat)(T:TA):TS:=λD b H=>T b H λc h=>∃v w,c=[v,w]/\D.nx ((b.set i (aw v)).set j (aw w)) h
def IS{i j:Nat}{x y:Str}{a b:Expr}{T:TA}{E L pt:Pos}{C n d}(hc:X.calm=aN)(hN:X.N.Nodup)(hi:X.N[i]?=aw x)(hj:X.N[j]?=aw y)(B:i ≠ j)
  (O:X.env.scope.names.lookup x=aw .local) (Z:X.env.scope.names.lookup y=aw .local) (ha:PA X [a,b] T)
  (hw:Uk [.Tuple [.Name x E,.Name y L] C pt] (.Tuple [a,b] n d) X.env=pure (aw [x,y]))
  (hs:Um [.Tuple [.Name x E,.Name y L] C pt] (.Tuple [a,b] n d) pos.line X.env=pure aS:=by rfl) :
  PS X (.Assign [.Tuple [.Name x E,.Name y L] C pt] (.Tuple [a,b] n d) pos) (NC i j T):=by
 intro c s σ H D I h;rw[exec_Assign_arm];refine Us (UU ?_);rw[hs];refine Us (UI ?_);rw[if_neg (by decide)];refine Us (Tuple_ (thn (ha _ c s σ H _ I h) λus k ⟨vs,U,I1,r1,Q⟩=>?_));obtain⟨v,w,e1,Q⟩:=Q;subst e1
 obtain⟨u,u2,rfl,rv,z⟩:∃u u2,us=[u,u2]/\aJ v u/\aJ w u2:=by
  cases r1 with
  |cons p q=>
   cases q with
   |cons p' q'=>
    cases q';exact⟨_,_,rfl,p,p'⟩
 refine UF ?_ (by show 2<=sizeLine;decide);have I2:Inv X c σ U { k with heap:=k.heap.push { cls:=.type "tuple", data:=.seq [u,u2].toArray } }:=I1.kept (t':=k.toks) λb o e=>Zf _ e;rw[hw];refine Us (UI ?_);show wpAny (model X.prog X.w) X.A (do rule "assign.swapped-stores"; let f <-unpackItems (.ref k.heap.objs.size) 2 aD;VC [λv=>VH X.env y v,λv=>VH X.env x v] f.reverse;pure Flow.next) _ _ _;refine Us (UQ (Us (unpackItems_tuple (items:=#[u,u2]) (I.ok.hd hc) (IsTup.new k.heap _) λh' J=>?_)));have I3:=I2.kept (h':=h') (t':=k.toks) λb o e=>J b o (ZI (Zt e)) e;show wpAny _ _ (VC [λv=>VH X.env y v,λv=>VH X.env x v] [u2,u] >>= λ_=>pure Flow.next) _ _ _;refine Us (assignInOrder_cons (Ut (cS I3 hN hj (.inl Z) z (λs2 I4=>?_) (.inr Z))));refine assignInOrder_cons (Ut (cS I4 hN hi (.inl O) rv (λs3 Y=>assignInOrder_nil (UI ?_)) (.inr O)));rw[Xq _ _ (Ne.symm B)] at Y;exact⟨_,U,Y,Q⟩
end
structure It where
 go:Nat->Hp->Prop
 yld:Nat->Hp->V->Hp->Prop
 stop:Nat->Hp->Prop
abbrev gX(X:Cx)(d:List (Addr × Obj))(H:Hp)(b:Addr):Prop:=
 H b=aD/\b ≠ X.env.locals/\b ∉ X.fs/\(b ∈ X.ex\/X.s₀.heap.objs.size<=b)/\(∀x c,X.env.cells.lookup x=aw c->c ≠ b)/\∀p ∈ X.pn++d,p.1 ≠ b
def Inv.fpOk(I:Inv X d k H s)(hb:s.heap.objs.size<=b)(j:h b=aD):gX X d h b:=by
 refine⟨j,X6 (ZH I.lt hb),I.nofs hb,.inr (Z0 I.sz hb),λx c e z=>?_,λp f z=>?_⟩
 ·obtain⟨v,q⟩:=I.cell x c e;exact absurd (ZH q.lt (by rw[z];exact hb)) (ZR _)
 ·exact absurd (ZH (Zt (I.pin p f).1) (by rw[z];exact hb)) (ZR _)
structure Turn(P:Program)(w:World)(K:Vk)(tg:Expr)(J:It)(fp:List Addr)(it:Addr)(tn:Nat->Heap->Prop):Prop where
 mem:it ∈ fp
 obj:∀i h,tn i h->∀b ∈ fp,∃o,h.get? b=aw o/\∀v,o.data ≠ .cell v
 keep:∀i h h',tn i h->(∀b ∈ fp,∀o,h.get? b=aw o->h'.get? b=aw o)->tn i h'
 item:∀ (X:Cx),X.prog=P->X.w=w->X.K=K->X.calm=aN->∀ (i:Nat) (pins:List (Addr × Obj)) (s:Shared) (σ:St) (H:Hp) (E:Value->Shared->Prop),Inv X pins σ H s->(∀b ∈ fp,gX X pins H b)->tn i s.heap->J.go i H ->
  wpAny (model P w) X.A (pyNext (.ref it)) (λr s1=>∃u,r=aw u ∧
   wpAny (model P w) X.A (V0 tg (.ref it) u) (λ_ s2=>∃x H',Inv X pins σ H' s2/\aJ x u/\J.yld i H x H'/\tn (i+1) s2.heap/\∀b ∈ fp,H' b=aD) E s1) E s
 done:∀ (X:Cx),X.prog=P->X.w=w->X.K=K->X.calm=aN->∀ (i:Nat) (pins:List (Addr × Obj)) (s:Shared) (σ:St) (H:Hp) (E:Value->Shared->Prop),Inv X pins σ H s->(∀b ∈ fp,gX X pins H b)->tn i s.heap->J.stop i H ->
  wpAny (model P w) X.A (pyNext (.ref it)) (λr s1=>r=aD/\Inv X pins σ H s1) E s
 self:∀ (A:Around) (i:Nat) (s:Shared) (Q:Value->Shared->Prop) (E:Value->Shared->Prop),tn i s.heap->Q (.ref it) s->wpAny (model P w) A (pyIter (.ref it)) Q E s
@[inline]abbrev TI:=St->Hp->(It->Hp->Prop)->Prop
abbrev PIE(X:Cx)(p:List (Addr × Obj))(j:St)(k:Expr)(R:It->Hp->Prop)(I:Value)(d:Shared):Prop:=
 ∃ (c:Addr) (f:List Addr) (T:Nat->Heap->Prop) (J:It) (h:Hp),I = .ref c/\Inv X p j h d/\Turn X.prog X.w X.K k J f c T/\T 0 d.heap/\(∀b ∈ f,gX X p h b)/\R J h
abbrev PI(X:Cx)(T I:Expr)(c:TI):Prop:=
 ∀ (p:List (Addr × Obj)) (s:Shared) (b:St) (H:Hp) (R:It->Hp->Prop),Inv X p b H s->c b H R ->
  wpAny (model X.prog X.w) X.A (eval I X.env) (λv d=>wpAny (model X.prog X.w) X.A (pyIter v) (PIE X p b T R) X.xe d) X.xe s
def wn(ho:s.heap.get? I=aw o)(c:o.cls = .type n)(hd:o.data = .fields v)
  (d:["enumerate", "zip", "dict_itemiterator", "dict_reverseitemiterator", "odict_iterator", "itertools.zip_longest", "itertools.pairwise"].contains n=aS) (b:Q () s):wpAny M A (V0 T (.ref I) u) Q E s:=by
 unfold V0
 cases T <;> first
  |exact UI b
  | (cases u <;> first
    |exact UI b
    | (refine Us (wpAny_load ho ?_)
       rw[c,hd];show wpAny M A (if (["enumerate", "zip", "dict_itemiterator", "dict_reverseitemiterator", "odict_iterator", "itertools.zip_longest", "itertools.pairwise"].contains n && v[0]? == aw (rawInt _))=aN then _ else _) Q E s;rw[if_neg (by intro h;rw[d,Xh] at h;cases h)];exact UI b))
abbrev Itl(K:Vk)(a:Addr):It:=
 ⟨λi H=>∃X x,SqL K H a X/\X[i]?=aw x,λi H x h=>h=H/\∀X,SqL K H a X->X[i]?=aw x,λi H=>∃X,SqL K H a X/\X.length<=i⟩
abbrev Itt(K:Vk)(a:Addr):It:=
 ⟨λi H=>∃X x,SqT K H a X/\X[i]?=aw x,λi H x h=>h=H/\∀X,SqT K H a X->X[i]?=aw x,λi H=>∃X,SqT K H a X/\X.length<=i⟩
abbrev Itr(lo:Int)(n:Nat):It:=⟨λi _=>i < n,λi H x h=>h=H/\x = .int (lo+i),λi _=>n<=i⟩
def x6{P:Program}{w:World}{K:Vk}{tg:Expr}(a it:Addr):Turn P w K tg (Itl K a) [it] it (λi h=>h.IsListIter it a i) where
 mem:=by simp
 obj:=λi h st b hb=>by
  have e:b=it:=by simpa using hb
  subst e;obtain⟨o,e,c,d⟩:=st;exact⟨o,e,λv z=>by rw[d] at z;cases z⟩
 keep:=λi h n st k=>st.at λo e=>k it (by simp) o e
 item:=by
  intro X U O B hc i f s σ H E I q st Q;subst U O B;obtain⟨xs,x,y,C⟩:=Q;obtain⟨its,Y,p,hz⟩:=I.list y;obtain⟨u,hu,ru⟩:=Y.get C;obtain⟨L,f1,f2,J,T,Z⟩:=q it (by simp);refine wpAny_pyNext_list_item st p.isList (x:=u) (by simpa using hu) λn j sb=>?_;have I1:Inv X f σ H { s with heap:=n }:=I.turned (t':=s.toks) (λb o hb e=>(sb.2 b hb).trans e) L f1 J T Z;obtain⟨o,e,c,d⟩:=id j;exact⟨u,rfl,wn (s:={ s with heap:=n }) e c d (by decide) ⟨x,H,I1,ru,⟨rfl,λys hy=>by rw[I.list_inj hy y];exact C⟩,j,λb hb=>(q b hb).1⟩⟩
 done:=by
  intro X U O B hc i f s σ H E I q st Q;subst U O B;obtain⟨xs,y,C⟩:=Q;obtain⟨its,Y,p,hz⟩:=I.list y;obtain⟨L,f1,f2,J,T,Z⟩:=q it (by simp);have hl:=Y.length;exact wpAny_pyNext_list_end (I.ok.hd hc) st p.isList (by simp;lia) λn eb=>⟨rfl,I.turned (t':=s.toks) (λb o hb e=>eb b o hb e) L f1 J T Z⟩
 self:=λ_ _ _ _ _ st h=>wpAny_pyIter_listiter st h
def uj{P:Program}{w:World}{K:Vk}{tg:Expr}(a it:Addr):Turn P w K tg (Itt K a) [it] it (λi h=>h.IsTupleIter it a i) where
 mem:=by simp
 obj:=λi h st b hb=>by
  have e:b=it:=by simpa using hb
  subst e;obtain⟨o,e,c,d⟩:=st;exact⟨o,e,λv z=>by rw[d] at z;cases z⟩
 keep:=λi h q st k=>st.at λo e=>k it (by simp) o e
 item:=by
  intro X Y Q C hc i f s σ H E I y st T;subst Y Q C;obtain⟨xs,x,B,J⟩:=T;obtain⟨j,Z,p,hz⟩:=I.tuple B;obtain⟨u,hu,ru⟩:=Z.get J;obtain⟨O,f1,f2,L,U,f5⟩:=y it (by simp);refine wpAny_pyNext_tuple_item st (show s.heap.IsTuple a j.toArray from p) (x:=u) (by simpa using hu) λq n sb=>?_;have I1:Inv X f σ H { s with heap:=q }:=I.turned (t':=s.toks) (λb o hb e=>(sb.2 b hb).trans e) O f1 L U f5;obtain⟨o,e,c,d⟩:=id n;exact⟨u,rfl,wn (s:={ s with heap:=q }) e c d (by decide) ⟨x,H,I1,ru,⟨rfl,λys hy=>by rw[I.tuple_inj hy B];exact J⟩,n,λb hb=>(y b hb).1⟩⟩
 done:=by
  intro X Y Q C hc i f s σ H E I y st T;subst Y Q C;obtain⟨xs,B,J⟩:=T;obtain⟨j,Z,p,hz⟩:=I.tuple B;obtain⟨O,f1,f2,L,U,f5⟩:=y it (by simp);have hl:=Z.length;exact wpAny_pyNext_tuple_end (I.ok.hd hc) st (show s.heap.IsTuple a j.toArray from p) (by simp;lia) λq eb=>⟨rfl,I.turned (t':=s.toks) (λb o hb e=>eb b o hb e) O f1 L U f5⟩
 self:=λ_ _ _ _ _ st h=>wpAny_pyIter_tupleiter st h
def uk{P:Program}{w:World}{K:Vk}{tg:Expr}(it:Addr)(lo:Int)(n:Nat):Turn P w K tg (Itr lo n) [it] it (λi h=>W8 h it (lo+(i:Nat) * 1) ((n:Int) - (i:Nat)) 1) where
 mem:=by simp
 obj:=λi h st b hb=>by
  have e:b=it:=by simpa using hb
  subst e
  exact⟨_,st,λv z=>by
   have Z:Data.fields _=Data.cell v:=z;cases Z⟩
 keep:=λi h d st k=>k it (by simp) _ st
 item:=by
  intro X L B j u i p s T H E I f st C;subst L B j;obtain⟨y,Q,f2,q,J,O⟩:=f it (by simp);have W:=Walks.range (prog:=X.prog) (w:=X.w) (I.ok.hd u) it lo 1 n;refine W.item i s _ _ C st λv d U Y c kk=>?_;obtain⟨t,rfl⟩:=Y;have I1:Inv X p T H { s with heap:=d,toks:=U }:=I.turned (λb o hb e=>kk b o (by simpa using hb) e) y Q q J O;refine⟨_,rfl,wn (s:={ s with heap:=d,toks:=U }) (n := "range_iterator") c rfl rfl (by decide) ⟨.int (lo+i),H,I1,⟨t,?_⟩,⟨rfl,rfl⟩,c,λb hb=>(f b hb).1⟩⟩;rw[Int.mul_one]
 done:=by
  intro X L B j u i p s T H E I f st C;subst L B j;obtain⟨y,Q,f2,q,J,O⟩:=f it (by simp);exact UP (I.ok.hd u) st (by have:n<=i:=C;lia) λd eb=>⟨rfl,I.turned (t':=s.toks) (λb o hb e=>eb b o hb e) y Q q J O⟩
 self:=λ_ _ _ _ _ st h=>UL st h
section
variable {X:Cx} {tg:Expr}
abbrev zS(K:Vk)(T:TE):TI:=λb H R=>T b H λx h=>∃a,x = .ref a/\(∃c,SqL K h a c)/\R (Itl K a) h
abbrev ND(K:Vk)(T:TE):TI:=λb H R=>T b H λx h=>∃a,x = .ref a/\(∃c,SqT K h a c)/\R (Itt K a) h
def wo{l:Expr}{T:TE}(n:PE X l T):PI X tg l (zS X.K T):=by
 intro c s u H R I h;refine thn (n c s u H _ I h) λv d ⟨x,k,f,r1,Q⟩=>?_;obtain⟨a,e,⟨C,j⟩,q⟩:=Q;subst e;cases r1;obtain⟨y,B,p,z⟩:=f.list j;refine UK p.isList ?_;refine⟨d.heap.objs.size,[d.heap.objs.size],_,_,k,rfl,f.kept (t':=d.toks) λb o e=>Zf _ e,x6 a _,⟨_,ZA _ rfl,rfl,rfl⟩,λb hb=>?_,q⟩;have e:b=d.heap.objs.size:=by simpa using hb
 subst e;exact f.fpOk (Ze _) (f.hok.fresh (Ze _))
def IT{l:Expr}{T:TE}(u:PE X l T):PI X tg l (ND X.K T):=by
 intro d s y H R I h;refine thn (u d s y H _ I h) λv c ⟨x,n,f,r1,Q⟩=>?_;obtain⟨a,e,⟨C,k⟩,q⟩:=Q;subst e;cases r1;obtain⟨j,B,p,z⟩:=f.tuple k;refine UM (show c.heap.IsTuple a j.toArray from p) ?_;refine⟨c.heap.objs.size,[c.heap.objs.size],_,_,n,rfl,f.kept (t':=c.toks) λb o e=>Zf _ e,uj a _,⟨_,ZA _ rfl,rfl,rfl⟩,λb hb=>?_,q⟩;have e:b=c.heap.objs.size:=by simpa using hb
 subst e;exact f.fpOk (Ze _) (f.hok.fresh (Ze _))
def rG{lo hi:Int}{T:Nat}(I:Inv X p d H s)(j:-(2 ^ 62)<=lo)(h:lo < 2 ^ 62)(n:-(2 ^ 62)<=hi)(h4:hi < 2 ^ 62)
  (q:R (Itr lo (hi - lo).toNat) H):wpAny (model X.prog X.w) X.A (pyIter (.ref s.heap.objs.size)) (PIE X p d tg R) E { s with heap:=s.heap.push { cls:=.type "range", data:=.fields #[.int lo t,.int hi u,.int 1 v] },toks:=T }:=by
 refine wpAny_pyIter_range (IsRange.new ..) (small_one j h n h4) ?_;have c:Inv X p d H { s with heap:=s.heap.push { cls:=.type "range", data:=.fields #[.int lo t,.int hi u,.int 1 v] },toks:=T }:=I.kept λb o e=>Zf _ e
 refine⟨(s.heap.push { cls:=.type "range", data:=.fields #[.int lo t,.int hi u,.int 1 v] }).objs.size,[(s.heap.push { cls:=.type "range", data:=.fields #[.int lo t,.int hi u,.int 1 v] }).objs.size],_,_,H,rfl,
  c.kept (t':=T) λb o e=>Zf _ e,uk _ lo (hi - lo).toNat,?_,λb hb=>?_,q⟩
 ·have k:lo+((0:Nat):Int) * 1=lo:=by simp
  have f:(((hi - lo).toNat:Nat):Int) - ((0:Nat):Int)=Builtin.Range.rangeSize lo hi 1:=by rw[rangeSize_one];split <;> lia
  show W8 _ _ (lo+((0:Nat):Int) * 1) ((((hi - lo).toNat:Nat):Int) - ((0:Nat):Int)) 1;rw[k,f];exact ZA _ rfl
 ·have e:b=(s.heap.push { cls:=.type "range", data:=.fields #[.int lo t,.int hi u,.int 1 v] }).objs.size:=by simpa using hb
  subst e;exact c.fpOk (Ze _) (c.hok.fresh (Ze _))
abbrev Hs(T:TA):TI:=λb H R=>T b H λv h=>∃j:Int,v=[.int j]/\-(2 ^ 62)<=j/\j < 2 ^ 62/\R (Itr 0 j.toNat) h
abbrev Ht(T:TA):TI:=λb H R=>T b H λv h=>∃i j:Int,v=[.int i,.int j]/\(-(2 ^ 62)<=i/\i < 2 ^ 62/\-(2 ^ 62)<=j/\j < 2 ^ 62)/\R (Itr i (j - i).toNat) h
def x8(f:Gl X "range")(k:X.mg "range" = aD)(y:PA X [a] T)(hs:Uj [a] X.env=[(aS,eval a X.env)]:=by rfl):PI X tg (.Call (.Name "range" p) [a] [] c) (Hs T):=by
 intro b s v H R I h;refine Call_ (dA I f k boot_range (WJ (thn (y c b s v H _ I h) λU B ⟨C,z,u,r1,Q⟩=>?_) hs rfl));obtain⟨j,e,Q,n,q⟩:=Q;subst e;cases r1 with
 |cons r d=>
  cases d;obtain⟨t,rfl⟩:=r;exact call_range_1 (rG u (by lia) (by lia) Q n (by simpa using q))
def x9(v:Gl X "range")(y:X.mg "range" = aD)(J:PA X [a,b] T)(hs:Uj [a,b] X.env=[(aS,eval a X.env),(aS,eval b X.env)]:=by rfl)(c:Uj [b] X.env=[(aS,eval b X.env)]:=by rfl) :
  PI X tg (.Call (.Name "range" p) [a,b] [] k) (Ht T):=by
 intro d s E H R I h;refine Call_ (dA I v y boot_range (WJ (thn (J k d s E H _ I h) λU O ⟨Y,L,C,r1,Q⟩=>?_) (by rw[hs,c]) (by rw[c];rfl)));obtain⟨i,j,e,⟨Q,z,n,u⟩,q⟩:=Q;subst e;cases r1 with
 |cons r f=>
  cases f with
  |cons B f=>
   cases f;obtain⟨t,rfl⟩:=r;obtain⟨Z,rfl⟩:=B;exact call_range_2 (rG C Q z n u q)
abbrev NF(k:TI)(g:TG)(T:TS):TS:=λD b H=>k b H λJ n=>∃W:Nat->Nat->St->Hp->Prop,(∃m,W 0 m b n)/\∀i m b H,W i m b H ->
 (J.stop i H/\D.nx b H)\/(J.go i H/\∃N:St->Hp->Prop,(∀c h,N c h->∃f,f < m/\W (i+1) f c h)/\∀x h,J.yld i H x h->g x b h λd j=>T { D with nx:=N,ct:=N,bk:=D.nx } d j)
abbrev lJ(f:List Addr)(h:Heap):List (Addr × Obj):=f.filterMap λb=>(h.get? b).map λo=>(b,o)
def eN(hb:b ∈ f)(e:h.get? b=aw o):(b,o) ∈ lJ f h:=YE.mpr ⟨b,hb,by rw[e];rfl⟩
def yb(c:p ∈ lJ f h):p.1 ∈ f/\h.get? p.1=aw p.2:=by
 obtain⟨b,hb,e⟩:=YE.mp c;cases q:h.get? b with
 |none=>rw[q] at e;cases e
 |some o=>
  rw[q] at e;have E:(b,o)=p:=Option.some.inj e;subst E;exact⟨hb,q⟩
def Inv.pinned(I:Inv X c j H s)(k:∀b ∈ f,gX X c H b)(ho:∀b ∈ f,∃o,s.heap.get? b=aw o/\∀v,o.data ≠ .cell v):Inv X (c++lJ f s.heap) j H s:=
 I.pins_of λp n=>(ZS.mp n).elim (λz=>I.pin p (Zz _ z)) λz=>by
  obtain⟨hb,e⟩:=yb z;obtain⟨h,u,q,_⟩:=k p.1 hb;obtain⟨o,E,d⟩:=ho p.1 hb;rw[e] at E;cases E;exact⟨e,h,u,q,d⟩
def Inv.unpinned(I:Inv X (b++d) c H s):Inv X b c H s:=I.pins_of λp h=>I.pin p (Zz _ (Z3 _ h))
def IU(O:PassesOwn (model X.prog X.w) X.A X.env X.xe)(hc:X.calm=aN)(hi:PI X tg B wi)(hg:PG X tg g)(hb:PSs X body tb)
  (hs:∀x,VV B X.env x=pure x:=by intro _;rfl):PS X (.For tg B body [] pos) (NF wi g tb):=by
 intro p s σ H D I h;refine wpAny_For (thn (hi p s σ H _ I h) λv s1 h1=>thn h1 λitv s2 h2=>?_) hs;obtain⟨it,E,tn,J,H2,e,I2,T,st2,f2,W,⟨m0,w0⟩,U⟩:=h2;subst e;have y:∀ {H':Hp},(∀b ∈ E,H' b=aD)->∀b ∈ E,gX X p H' b:=λhn b hb=>⟨hn b hb,(f2 b hb).2⟩;refine codeAny_forLoop_any (λn s'=>∃i j H',Inv X p j H' s'/\tn i s'.heap/\(∀b ∈ E,H' b=aD)/\W i n j H') ?_ m0 ⟨0,σ,H2,I2,st2,λb hb=>(f2 b hb).1,w0⟩;rintro n s3 ⟨i,q,H3,I3,Z,Y,w3⟩;rcases U i n q H3 w3 with ⟨stop,qn⟩ |⟨go,N,hN,step⟩
 ·refine UH O (thn (T.done X rfl rfl rfl hc i p s3 q H3 X.xe I3 (y Y) Z stop) λr s4 ⟨hr,I4⟩=>?_);subst hr;exact wpAny_execs_nil ⟨q,H3,I4,qn⟩
 ·refine UH O (thn (T.item X rfl rfl rfl hc i p s3 q H3 X.xe I3 (y Y) Z go) λr s4 ⟨u,hr,h4⟩=>?_);subst hr;refine UH O (thn h4 λ_ s5 ⟨x,H5,I5,r5,y5,C,fr5⟩=>?_);have I5':=I5.pinned (y fr5) (T.obj _ _ C);refine UH O (thn (hg _ s5 q H5 x u _ I5' r5 (step x H5 y5)) λ_ s6 ⟨σ6,H6,I6,q6⟩=>?_);refine UH O (thn (hb _ s6 σ6 H6 _ I6 q6) λf s7 Q=>?_)
  have again:∀ {c:St} {k:Hp},Inv X (p++lJ E s5.heap) c k s7->N c k->∃m,m < n/\∃i j H',Inv X p j H' s7/\tn i s7.heap/\(∀b ∈ E,H' b=aD)/\W i m j H':=λ{c k} z L=>by
   obtain⟨m',hm,w7⟩:=hN c k L;refine⟨m',hm,i+1,c,k,z.unpinned,T.keep _ _ _ C λb hb o e=>(z.pin (b,o) (Zz _ (Zz _ (eN hb e)))).1,λb hb=>?_,w7⟩;obtain⟨o,e,d⟩:=T.obj _ _ C b hb;exact(z.pin (b,o) (Zz _ (Zz _ (eN hb e)))).2.1
  cases f with
  |next=>obtain⟨c,k,z,L⟩:=Q;exact again z L
  |cont=>obtain⟨c,k,z,L⟩:=Q;exact again z L
  |brk=>obtain⟨c,k,z,Q⟩:=Q;exact⟨c,k,z.unpinned,Q⟩
  |ret v=>obtain⟨x7,c,k,z,r7,Q⟩:=Q;exact⟨x7,c,k,z.unpinned,r7,Q⟩
end
@[inline]abbrev R2:=V->V->Hp->VK->Prop
abbrev OpR(X:Cx)(f:Value->Value->Sem Value)(r:R2):Prop:=
 ∀ (p:List (Addr × Obj)) (s:Shared) (b:St) (H:Hp) (x y:V) (v u:Value) (Q:VK),Inv X p b H s->aJ x v->aJ y u->r x y H Q ->
  wpAny (model X.prog X.w) X.A (f v u) (EP X p b Q) X.xe s
abbrev UnR(X:Cx)(f:Value->Sem Value)(r:V->Hp->VK->Prop):Prop:=
 ∀ (p:List (Addr × Obj)) (s:Shared) (b:St) (H:Hp) (x:V) (v:Value) (Q:VK),Inv X p b H s->aJ x v->r x H Q ->
  wpAny (model X.prog X.w) X.A (f v) (EP X p b Q) X.xe s
abbrev aR(X:Cx)(f:Value)(r:List V->Hp->VK->Prop):Prop:=
 ∀ (p:List (Addr × Obj)) (s:Shared) (b:St) (H:Hp) (c:List V) (u:List Value) (Q:VK),Inv X p b H s->aO c u->r c H Q ->
  wpAny (model X.prog X.w) X.A (call f u) (EP X p b Q) X.xe s
abbrev QB(X:Cx)(r:V->Hp->(Bool->Hp->Prop)->Prop):Prop:=
 ∀ (p:List (Addr × Obj)) (s:Shared) (b:St) (H:Hp) (x:V) (v:Value) (Q:Bool->Hp->Prop),Inv X p b H s->aJ x v->r x H Q ->
  wpAny (model X.prog X.w) X.A (truthy v) (TP X p b Q) X.xe s
abbrev tOp(r:R2)(T d:TE):TE:=λb H Q=>T b H λx c=>d b c λy h=>r x y h Q
abbrev tUn(r:V->Hp->VK->Prop)(T:TE):TE:=λb H Q=>T b H λx h=>r x h Q
abbrev rI(C:Int->Int->Prop)(g:Int->Int->V):R2:=λx y H Q=>∃i j,x = .int i/\y = .int j/\C i j/\Q (g i j) H
abbrev rI0(g:Int->Int->V):R2:=λx y H Q=>∃i j,x = .int i/\y = .int j/\Q (g i j) H
abbrev rU(g:Int->V):V->Hp->VK->Prop:=λx H Q=>∃i,x = .int i/\Q (g i) H
section
variable {X:Cx} {a b c:Expr} {ta tb tc:TE} {pos:Pos}
def IV(T:PE X a ta)(hb:PE X b tb){p:List (Addr × Obj)}{s:Shared}{j:St}{H:Hp}{R:V->V->Hp->Prop}(I:Inv X p j H s)
  (h:ta j H λx z=>tb j z λy d=>R x y d) {Q:Value->Shared->Prop} {f:Value->Value->Sem Value}
  (B:∀v u q x y d,Inv X p j d q->aJ x v->aJ y u->R x y d->wpAny (model X.prog X.w) X.A (f v u) Q X.xe q) :
  wpAny (model X.prog X.w) X.A (eval a X.env) (λv k=>wpAny (model X.prog X.w) X.A (eval b X.env) (λu n=>wpAny (model X.prog X.w) X.A (f v u) Q X.xe n) X.xe k) X.xe s:=by
 refine thn (T p s j H _ I h) λv C ⟨x,z,L,r1,O⟩=>?_;refine thn (hb p C j z _ L O) λu q ⟨y,d,E,r2,J⟩=>?_;exact B v u q x y d E r1 r2 J
def NG{op:Va}{r:R2}(ho:OpR X (VG op) r)(k:PE X a ta)(hb:PE X b tb):PE X (.BinOp a op b pos) (tOp r ta tb):=by
 intro p s f H Q I h;exact wpAny_BinOp (IV k hb I h λv u B x y j n z d q=>ho p B f j x y v u Q n z d q)
def wp(ho:UnR X (unaryOp op) r)(j:PE X a ta):PE X (.UnaryOp op a pos) (tUn r ta):=by
 intro p s d H Q I h;exact UnaryOp_ (thn (j p s d H _ I h) λv n ⟨x,k,f,r1,q⟩=>ho p n d k x v Q f r1 q)
def opI{f:Value->Value->Sem Value}{C:Int->Int->Prop}{g:Int->Int->Int}
  (rule:∀ (i j:Int) (t u:Tok) (s:Shared) (Q:Value->Shared->Prop) (E:Value->Shared->Prop),C i j->Q (.int (g i j) s.toks) { s with toks:=s.toks+1 }->wpAny (model X.prog X.w) X.A (f (.int i t) (.int j u)) Q E s) :
  OpR X f (rI C λi j=>.int (g i j)):=by
 intro p s z H x y v u Q I n d h;obtain⟨i,j,rfl,rfl,k,q⟩:=h;obtain⟨t,rfl⟩:=n;obtain⟨T,rfl⟩:=d;exact rule i j t T s _ _ k ⟨.int (g i j),H,I.tok _,⟨_,rfl⟩,q⟩
def NH{f:Value->Value->Sem Value}{g:Int->Int->Int}
  (rule:∀ (i j:Int) (t u:Tok) (s:Shared) (Q:Value->Shared->Prop) (E:Value->Shared->Prop),Q (.int (g i j) s.toks) { s with toks:=s.toks+1 }->wpAny (model X.prog X.w) X.A (f (.int i t) (.int j u)) Q E s) :
  OpR X f (rI0 λi j=>.int (g i j)):=by
 intro p s n H x y v u Q I k d h;obtain⟨i,j,rfl,rfl,q⟩:=h;obtain⟨t,rfl⟩:=k;obtain⟨T,rfl⟩:=d;exact rule i j t T s _ _ ⟨.int (g i j),H,I.tok _,⟨_,rfl⟩,q⟩
def DI{f:Value->Value->Sem Value}{g:Int->Int->Bool}
  (rule:∀ (i j:Int) (t u:Tok) (s:Shared) (Q:Value->Shared->Prop) (E:Value->Shared->Prop),Q (.bool (g i j)) s->wpAny (model X.prog X.w) X.A (f (.int i t) (.int j u)) Q E s) :
  OpR X f (rI0 λi j=>.bl (g i j)):=by
 intro p s n H x y v u Q I k d h;obtain⟨i,j,rfl,rfl,q⟩:=h;obtain⟨t,rfl⟩:=k;obtain⟨T,rfl⟩:=d;exact rule i j t T s _ _ ⟨.bl (g i j),H,I,rfl,q⟩
abbrev QC(i j:Int):Prop:=0<=j/\j<=1000000/\i.natAbs < 2 ^ 64
abbrev NI(i j:Int):Prop:=(-(2 ^ 64) < i/\i < 2 ^ 64)\/(-(2 ^ 64) < j/\j < 2 ^ 64)
def NI.ok{i j:Int}(h:NI i j):IntMulOk i j:=by
 rcases h with ⟨d,f⟩ |⟨d,f⟩
 ·exact .of_left (intBits_le_64 d f)
 ·exact .of_right (intBits_le_64 d f)
def IW:OpR X (VG .Add) (rI0 λi j=>.int (i+j)):=NH λ_ _ _ _ _ _ _ q=>add_int q
def IX:OpR X (VG .Sub) (rI0 λi j=>.int (i - j)):=NH λ_ _ _ _ _ _ _ q=>sub_int q
def IY:OpR X (VG .Mult) (rI NI λi j=>.int (i * j)):=opI λ_ _ _ _ _ _ _ h q=>mul_int q h.ok
def IZ:OpR X (VG .Mod) (rI (λ_ j=>0 < j) λi j=>.int (i % j)):=opI λi j _ _ _ _ _ h q=>by
 have d:(0:Int) < j:=h;exact mod_int' (by lia) (by rw[Int.fmod_eq_emod_of_nonneg i (by lia)];exact q)
def I0:OpR X (VG .Pow) (rI QC λi j=>.int (i ^ j.toNat)):=opI λ_ _ _ _ _ _ _ h q=>pow_int_small h.1 h.2.1 h.2.2 q
def unI{f:Value->Sem Value}{g:Int->Int}
  (rule:∀ (i:Int) (t:Tok) (s:Shared) (Q:Value->Shared->Prop) (E:Value->Shared->Prop),Q (.int (g i) s.toks) { s with toks:=s.toks+1 }->wpAny (model X.prog X.w) X.A (f (.int i t)) Q E s) :
  UnR X f (rU λi=>.int (g i)):=by
 intro p s j H x v Q I d h;obtain⟨i,rfl,q⟩:=h;obtain⟨t,rfl⟩:=d;exact rule i t s _ _ ⟨.int (g i),H,I.tok _,⟨_,rfl⟩,q⟩
def pY:UnR X (unaryOp .USub) (rU λi=>.int (-i)):=unI λ_ _ _ _ _ q=>neg_int q
end
section
variable {X:Cx} {a b c:Expr} {ta tb tc:TE} {pos:Pos}
def zT(I:Inv X p d H s)(q:Q (.bl k) H)(e:k=f):EP X p d Q (.bool f) s:=by
 subst e;exact⟨.bl k,H,I,rfl,q⟩
def NJ:OpR X (VQ .Lt) (rI0 λi j=>.bl (decide (i < j))):=DI λ_ _ _ _ _ _ _ q=>lt_int q
def NL:OpR X (VQ .LtE) (rI0 λi j=>.bl (decide (i<=j))):=DI λ_ _ _ _ _ _ _ q=>le_int q
def NM:OpR X (VQ .Gt) (rI0 λi j=>.bl (decide (j < i))):=DI λ_ _ _ _ _ _ _ q=>gt_int q
def NN:OpR X (VQ .GtE) (rI0 λi j=>.bl (decide (j<=i))):=DI λ_ _ _ _ _ _ _ q=>ge_int q
def I8:OpR X (VQ .Is) (λx y H Q=>y = .non/\Q (.bl (decide (x = .non))) H):=by
 intro p s j H x y v u Q I d f h;obtain⟨rfl,q⟩:=h;cases f;refine is_none_gen (zT I q ?_)
 cases x <;> first
  |(cases d;rfl)
  |(obtain⟨t,rfl⟩:=d;rfl)
def DJ:OpR X (VQ .IsNot) (λx y H Q=>y = .non/\Q (.bl (!decide (x = .non))) H):=by
 intro p s j H x y v u Q I d f h;obtain⟨rfl,q⟩:=h;cases f;refine isnot_none_gen (zT I q ?_)
 cases x <;> first
  |(cases d;rfl)
  |(obtain⟨t,rfl⟩:=d;rfl)
def DK{op:CmpOp}{r:R2}(ho:OpR X (VQ op) r)(z:PE X a ta)(hb:PE X b tb)(k:VF op b=aS):PE X (.Compare a [op] [b] pos) (tOp r ta tb):=by
 intro p s f H Q I h;exact wpAny_Compare1 (IV z hb I h λv u C x y j n B d q=>ho p C f j x y v u Q n B d q) k
abbrev Hu(t:TE):TT:=λd H Q=>t d H λx h=>∃k,x = .bl k/\Q k h
def DM(ho:OpR X (VQ op) r)(Z:PE X a ta)(hb:PE X b tb)(J:VF op b=aS):PT X (.Compare a [op] [b] pos) (Hu (tOp r ta tb)):=by
 intro p s d H Q I h
 refine wpAny_isTrue_Compare1 (thn (Z p s d H _ I h) λv n ⟨x,f,U,r1,Y⟩=>thn (hb p n d f _ U Y) λu T ⟨y,q,L,r2,O⟩=>
  thn (ho p T d q x y v u _ L r1 r2 O) λc s3 ⟨z,E,C,j,k,e,B⟩=>?_) J
 subst e;cases j;exact UV ⟨E,C,B⟩
abbrev ul(r q:R2)(ta tb tc:TE):TE:=λd H Q=>ta d H λx n=>tb d n λy f=>r x y f λz h=>∃k,z = .bl k ∧
 (if k=aN then tc d h λp j=>q y p j Q else Q (.bl aS) h)
def zU(ho:OpR X (VQ op) r)(j:OpR X (VQ O) r')(ha:PE X a ta)(hb:PE X b tb)(U:PE X c tc)
  (hm:lastMarks [op,O] [b,c]=aS:=by with_unfolding_all rfl):PE X (.Compare a [op,O] [b,c] pos) (ul r r' ta tb tc):=by
 intro p s f H Q I h
 refine Compare_chain (thn (ha p s f H _ I h) λv J ⟨x,C,I1,r1,q1⟩=>chain_link (thn (hb p J f C _ I1 q1) λu s2 ⟨y,Y,I2,r2,q2⟩=>
  thn (ho p s2 f Y x y v u _ I2 r1 r2 q2) λd Z ⟨z,B,n,E,k,e,q⟩=>?_)) hm
 subst e;cases E;refine UV ?_;cases k with
 |false=>exact ite_ff ⟨.bl aS,B,n,rfl,q⟩
 |true=>exact ite_tt (chain_last (thn (U p Z f B _ n q) λL s4 ⟨z',T,I4,r4,q4⟩=>j p s4 f T y z' u L Q I4 r2 r4 q4))
def zV(ho:OpR X (VQ op) r)(j:OpR X (VQ O) r')(ha:PE X a ta)(hb:PE X b tb)(Z:PE X c tc)
  (hm:lastMarks [op,O] [b,c]=aS:=by with_unfolding_all rfl):PT X (.Compare a [op,O] [b,c] pos) (Hu (ul r r' ta tb tc)):=by
 intro p s f H Q I h
 refine isTrue_chain (thn (ha p s f H _ I h) λv L ⟨x,C,I1,r1,q1⟩=>test_link (thn (hb p L f C _ I1 q1) λu s2 ⟨y,H2,I2,r2,q2⟩=>
  thn (ho p s2 f H2 x y v u _ I2 r1 r2 q2) λd s3 ⟨z,B,n,J,k,e,q⟩=>?_)) hm
 subst e;cases J;refine UV ?_;cases k with
 |false=>
  obtain⟨k',e',q'⟩:=q;cases e';exact ite_ff ⟨B,n,q'⟩
 |true=>
  refine ite_tt (test_last (thn (Z p s3 f B _ n q) λT s4 ⟨z',U,I4,r4,q4⟩=>thn (j p s4 f U y z' u T _ I4 r2 r4 q4) λd' s5 ⟨z2,E,Y,r5,k2,e2,q5⟩=>?_));subst e2;cases r5;exact UV ⟨E,Y,q5⟩
abbrev DN(K:Vk)(x:V)(H:Hp)(k:Bool):Prop:=
 match x with
 |.non=>k=aS
 |.bl b=>k=b
 |.int i=>k=(i != 0)
 |.str y=>y.length<=sizeLine/\k=((y.length:Int) != 0)
 |.byt y=>y.size<=sizeLine/\k=((y.size:Int) != 0)
 |.ref p=>(∃f,SqL K H p f/\k = !f.isEmpty)\/(∃f,SqT K H p f/\k = !f.isEmpty)\/∃d,H p=aw (.dK d)/\k = !d.isEmpty
 |_=>False
def um{d:Type}{k:List (d × V)}{v:List (d × Value)}(r:KV k v):(!v.isEmpty) = !k.isEmpty:=by
 cases r <;> rfl
def lK{d:List V}{its:List Value}(r:aO d its):(!its.toArray.isEmpty) = !d.isEmpty:=by
 cases r <;> simp
def jx:(sizeLine:Nat) < 2 ^ 63:=by rw[Uh];decide
def Ja:QB X (λx H Q=>∃k,DN X.K x H k/\Q k H):=by
 intro J s U H x v Q I n h;obtain⟨k,e,q⟩:=h;have T:=jx;have hs:sizeLine=16777216:=Uh;cases x with
 |non=>
  cases n;have E:k=aS:=e;subst E;exact truthy_none ⟨H,I,q⟩
 |bl b=>
  cases n;have E:k=b:=e;subst E;exact UV ⟨H,I,q⟩
 |int i=>
  obtain⟨t,rfl⟩:=n;have E:k=(i != 0):=e;subst E;exact PySem.P.truthy_int ⟨H,I,q⟩
 |str y=>
  obtain⟨t,rfl⟩:=n;obtain⟨L,E⟩:y.length<=sizeLine/\k=((y.length:Int) != 0):=e;subst E;exact PySem.P.truthy_str (by lia) ⟨H,I.tok _,q⟩
 |byt y=>
  obtain⟨t,rfl⟩:=n;obtain⟨L,E⟩:y.size<=sizeLine/\k=((y.size:Int) != 0):=e;subst E;exact PySem.W.truthy_bytes (by lia) ⟨H,I.tok _,q⟩
 |ref p=>
  cases n;have E:(∃j,SqL X.K H p j/\k = !j.isEmpty)\/(∃j,SqT X.K H p j/\k = !j.isEmpty)\/∃d,H p=aw (.dK d)/\k = !d.isEmpty:=e;rcases E with ⟨j,u,E⟩ |⟨j,u,E⟩ |⟨d,u,E⟩
  ·subst E;obtain⟨B,r,z,C⟩:=I.list u;have f:=r.length;exact wpAny_truthy_list z.isList (by simp only[Zl];lia) ⟨H,I.tok _,by rw[lK r];exact q⟩
  ·subst E;obtain⟨B,r,z,C⟩:=I.tuple u;have f:=r.length;exact truthy_tuple z (by simp only[Zl];lia) ⟨H,I.tok _,by rw[lK r];exact q⟩
  ·subst E;obtain⟨C,O,vs,r,m⟩:d.length<=sizeLine/\(p == Uo)=aS/\∃vs,KV d vs/\s.heap.DictOf (a9 X.prog X.w) p vs:=I.hok p _ u;have f:d.length=vs.length:=Paired.length r;exact wpAny_truthy_dict O m (by lia) ⟨H,I.tok _,by rw[um r];exact q⟩
 |_=>exact(show False from e).elim
def zW(u:PE X a ta)(y:∀d,isTrue a X.env d=(do let v <-d;standAt a.pos;holding [v] (truthy v))) :
  PT X a (λf H Q=>ta f H λx j=>∃k,DN X.K x j k/\Q k j):=by
 intro p s f H Q I h;exact isTrue_plain (thn (u p s f H _ I h) λv B ⟨x,z,n,r1,q⟩=>Ja p B f z x v Q n r1 q) (y _)
def uo:OpR X (VG .Add) (λx y H Q=>∃i j,x = .str i/\y = .str j/\i.length+j.length<=sizeLine/\Q (.str (i++j)) H):=by
 intro p s n H x y v u Q I f d h;obtain⟨i,j,rfl,rfl,k,q⟩:=h;obtain⟨t,rfl⟩:=f;obtain⟨T,rfl⟩:=d;exact add_str (λT z=>⟨.str (i++j),H,I.tok _,⟨_,rfl⟩,q⟩) k
def bR(r:aO [x] U):∃u,U=[u]/\aJ x u:=by
 cases r with
 |cons r1 r2=>cases r2;exact⟨_,rfl,r1⟩
def rH(r:aO [x,y] U):∃u w',U=[u,w']/\aJ x u/\aJ y w':=by
 cases r with
 |cons r1 r2=>
  cases r2 with
  |cons d f=>cases f;exact⟨_,_,rfl,r1,d⟩
def yc(n:X.calm=aN):aR X (.builtin "max") (λf H Q=>∃i j,f=[.int i,.int j]/\Q (.int (if j > i then j else i)) H):=by
 intro p s y H f U Q I r h;obtain⟨i,j,rfl,q⟩:=h;obtain⟨u,B,rfl,⟨t,rfl⟩,⟨z,rfl⟩⟩:=rH r;refine max_two_ints (I.ok.hd n) λv T k=>⟨_,H,I.kept k,?_,q⟩;by_cases d:j > i
 ·rw[if_pos d,if_pos d];exact⟨_,rfl⟩
 ·rw[if_neg d,if_neg d];exact⟨_,rfl⟩
def yd(n:X.calm=aN):aR X (.builtin "min") (λf H Q=>∃i j,f=[.int i,.int j]/\Q (.int (if j < i then j else i)) H):=by
 intro p s y H f U Q I r h;obtain⟨i,j,rfl,q⟩:=h;obtain⟨u,B,rfl,⟨t,rfl⟩,⟨z,rfl⟩⟩:=rH r;refine min_two_ints (I.ok.hd n) λv T k=>⟨_,H,I.kept k,?_,q⟩;by_cases d:j < i
 ·rw[if_pos d,if_pos d];exact⟨_,rfl⟩
 ·rw[if_neg d,if_neg d];exact⟨_,rfl⟩
def ye:aR X (.type "int") (λd H Q=>(∃i,d=[.int i]/\Q (.int i) H)\/∃k,d=[.bl k]/\Q (.int (if k then 1 else 0)) H):=by
 intro p s f H d U Q I r h;rcases h with ⟨i,rfl,q⟩ |⟨k,rfl,q⟩
 ·obtain⟨u,rfl,t,rfl⟩:=bR r;exact call_int_int ⟨.int i,H,I,⟨_,rfl⟩,q⟩
 ·obtain⟨u,rfl,r1⟩:=bR r;cases r1;exact call_int_bool ⟨.int (if k then 1 else 0),H,I.tok _,⟨_,rfl⟩,q⟩
end
structure ObjM(h:Heap)(x dx C:Addr)(mA:Str->Option Value):Prop where
 obj:h.get? x=aw (Vq C dx)
 ns:h.Ns1 dx mA
 ne:dx ≠ x
def yf{h:Heap}{d:Addr}{c:Str->Option Value}(n:h.Ns1 d c):∃O,h.get? d=aw O/\∀name,Vx name O=aw (c name):=by
 obtain⟨o,E,u,ho,hd,k,_,j⟩:=n;refine⟨o,ho,λname=>?_⟩;have e:=j name;unfold nsFind findBy at e;rw[<-Array.find?_toList] at e;unfold Vx;rw[hd];dsimp only;split
 ·rename_i y q;rw[q] at e;exact congrArg aw e
 ·rename_i q;rw[q] at e
  have a:E.toList.any (·.refKey)=aS:=by
   rw[X7];intro y p;obtain⟨z,t,b⟩:=k y (XJ.mp p);simp[DictEntry.refKey,b]
  have f:¬ E.toList.any (·.refKey)=aN:=by rw[a];exact Zg
  rw[if_neg f];exact congrArg aw e
def ObjM.look(I:ObjM h x d C b):∃O,PySem.W.InstAt h x (Vq C d) C (aw O)/\∀name,Vx name O=aw (b name):=
 let ⟨O,ho,hl⟩:=yf I.ns
 ⟨O,⟨I.obj,rfl,rfl,ho⟩,hl⟩
def ui.some_of(r:ui (aw v) o):∃u,o=aw u/\aJ v u:=by
 cases o with
 |none=>exact(show False from r).elim
 |some u=>exact⟨u,rfl,r⟩
section
variable {P:Program} {w:World} {H H':Hp} {h h':Heap} {a C dx:Addr} {fs fs':List (Str × V)}
def DP(hok:HOk P w H h)(e:H a=aw (.ins C dx fs)):∃b,ObjM h a dx C b/\(∀f,ui (fs.lookup f) (b f))/\PySem.Within b (fs.map (·.1))/\fs.length<=1000/\H dx=aw (.own a):=by
 obtain⟨d,z,ne,ob,b,n,r,q⟩:=(show bp P w H h a (.ins C dx fs) from hok a _ e);exact⟨b,⟨ob,n,ne⟩,r,q,z,d⟩
end
structure Cls(K:Vk)(C:Addr):Prop where
 pg:Vz K C Str.empty=aN
 hd:PySem.W.hasDictIn K C=aN
 po:PySem.W.plainOver K C=aN
 sa:Vo K (.ref C) "__setattr__" = aw (aw (.builtin "object.__setattr__"))
def Cls.get{K:Vk}{C:Addr}(c:Cls K C)(f:Str):Vz K C f=aN:=c.pg
section
variable {X:Cx} {pins:List (Addr × Obj)} {σ:St} {H:Hp} {s:Shared} {A:Around} {E:Value->Shared->Prop} {Q:Value->Shared->Prop} {c:Value} {b:Bool}
inductive TyOf(K:Vk)(H:Hp):V->Value->Prop where
 |non:TyOf K H .non (.type "NoneType")
 |bl (x:Bool):TyOf K H (.bl x) (.type "bool")
 |int (i:Int):TyOf K H (.int i) (.type "int")
 |str (x:Str):TyOf K H (.str x) (.type "str")
 |flt (x:UInt64):TyOf K H (.flt x) (.type "float")
 |lst {a:Addr} {xs:List V} (e:H a=aw (.lst xs)):TyOf K H (.ref a) (.type "list")
 |frz {a:Addr} {o:Obj} {xs:List V} (e:H a=aw (.frz o (.lst xs))):TyOf K H (.ref a) (.type "list")
 |tup {a:Addr} {xs:List V} (e:H a=aw (.tup xs)):TyOf K H (.ref a) (.type "tuple")
 |dK {a:Addr} {kvs:List (Key × V)} (e:H a=aw (.dK kvs)):TyOf K H (.ref a) (.type "dict")
 |dT {a:Addr} {kvs:List (List NK × V)} (e:H a=aw (.dT kvs)):TyOf K H (.ref a) (.type "dict")
 |ins {a C dx:Addr} {fs:List (Str × V)} (e:H a=aw (.ins C dx fs)) (cl:Cls K C) (ha:Vo K (.ref C) "__class__" = aw (aw (.builtin "object.__class__")))
   (hn:PySem.W.specialIn K (.builtin "object.__class__") "__get__" = aw (aw (.builtin "getset_descriptor.__get__"))) (htk:PySem.W.takesIn K (.builtin "object.__class__")=aw aN)
   (hm:PySem.W.mroIn K C (.type "object")=aw aN):TyOf K H (.ref a) (.ref C)
def yg(I:Inv X pins σ H s)(d:aJ x u)(ty:TyOf X.K H x t)(e:Vu X.K t c=aw b)(h:∀T,Q (.bool b) { s with toks:=T }) :
  wpAny (model X.prog X.w) A (call (.builtin "isinstance") [u,c]) Q E s:=by
 cases ty with
 |non=>cases (show u=Value.none from d);exact Vt PySem.W.kitx_none I.kIn True.intro e (λz=>nomatch z) h
 |bl y=>cases (show u=Value.bool y from d);exact Vt PySem.W.kitx_bool I.kIn True.intro e (λz=>nomatch z) h
 |int i=>obtain⟨t,q⟩:=(show ∃t,u=Value.int i t from d);cases q;exact Vt PySem.W.kitx_int I.kIn True.intro e (λz=>nomatch z) h
 |str y=>obtain⟨t,q⟩:=(show ∃t,u=Value.str y t from d);cases q;exact Vt PySem.W.kitx_str I.kIn True.intro e (λz=>nomatch z) h
 |flt y=>obtain⟨t,q⟩:=(show ∃t,u=Value.float y t from d);cases q;exact Vt PySem.W.kitx_float I.kIn True.intro e (λz=>nomatch z) h
 |@lst a j ea=>
  cases (show u=Value.ref a from d);obtain⟨_,_,n,_,f⟩:=(show bp X.prog X.w H s.heap a (.lst j) from I.hok a _ ea);exact Vt Vw I.kIn ⟨_,f,rfl⟩ e (λz=>nomatch z) h
 |@frz a ob j ea=>
  cases (show u=Value.ref a from d);obtain⟨_,_,_,n,_,f⟩:=(show bp X.prog X.w H s.heap a (.frz ob (.lst j)) from I.hok a _ ea);exact Vt Vw I.kIn ⟨_,f,rfl⟩ e (λz=>nomatch z) h
 |@tup a j ea=>
  cases (show u=Value.ref a from d);obtain⟨_,_,_,p⟩:=(show bp X.prog X.w H s.heap a (.tup j) from I.hok a _ ea);obtain⟨o,f,k,_⟩:=p;exact Vt PySem.W.kitx_tuple I.kIn ⟨o,f,k⟩ e (λz=>nomatch z) h
 |@dK a kvs ea=>
  cases (show u=Value.ref a from d);obtain⟨_,_,L,_,p⟩:=(show bp X.prog X.w H s.heap a (.dK kvs) from I.hok a _ ea);obtain⟨o,B,v,f,k,_⟩:=p;exact Vt Vv I.kIn ⟨o,f,k.1⟩ e (λz=>nomatch z) h
 |@dT a kvs ea=>
  cases (show u=Value.ref a from d);obtain⟨_,_,j,_,o,B,v,f,k,_⟩:=(show bp X.prog X.w H s.heap a (.dT kvs) from I.hok a _ ea);exact Vt Vv I.kIn ⟨o,f,k.1⟩ e (λz=>nomatch z) h
 |@ins a C dx fs ea cl ha hn htk hm=>
  cases (show u=Value.ref a from d);obtain⟨U,O,_⟩:=DP I.hok ea;obtain⟨Y,J,_⟩:=O.look;exact Vt (PySem.W.kitx_own (cl.get _) cl.hd ha hn htk hm) I.kIn J e (λz=>nomatch z) h
end
structure Room(k:Nat)(A:Around):Prop where
 hd:A.handled=aD
 dp:A.depth+3 * k+5 < recursionLimit
 un:A.units+16 * k+200 < cLine
 gd:A.guards=aw []
def Room.deeper{k:Nat}(r:Room (k+1) A)(env:Env):Room k (A.deeper env):=
 ⟨r.hd,by have:=r.dp;show A.depth+1+3 * k+5 < _;lia,by have:=r.un;show A.units+3+16 * k+200 < _;lia,r.gd⟩
def Room.depth{k:Nat}(r:Room k A):A.depth < recursionLimit:=by have:=r.dp;lia
def Room.units{k:Nat}(r:Room k A):A.units+64 < cLine:=by have:=r.un;lia
abbrev jy:TA:=λ_ H Q=>Q [] H
abbrev cf(c:TE)(T:TA):TA:=λb H Q=>c b H λx d=>T b d λX h=>Q (x::X) h
section
variable {X:Cx} {e:Expr} {es:List Expr} {te:TE} {t:TA} {pos:Pos}
def uq:PA X [] jy:=λ_ _ _ _ H Q I h=>Calls.spliced_nil ⟨[],H,I,.nil,h⟩
def pZ(j:PE X e te)(z:PA X es t)(hs:Uj (e::es) X.env=(aS,eval e X.env)::Uj es X.env:=by rfl):PA X (e::es) (cf te t):=by
 intro pos p s b H Q I h;rw[hs];show wpAny _ _ (spliced ((aS,eval e X.env)::backTo pos (Uj es X.env))) _ _ s;refine Calls.spliced_cons (thn (j p s b H _ I h) λu v ⟨x,n,c,r1,q⟩=>?_);exact thn (z pos p v b n _ c q) λU B ⟨d,f,k,r2,y⟩=>⟨x::d,f,k,.cons r1 r2,y⟩
abbrev NP(t:TA):TE:=λc H Q=>t c H λb h=>b.length<=sizeLine/\∀p,h p=aD->Q (.ref p) (upd h p (.tup b))
abbrev NQ(t:TA):TE:=λc H Q=>t c H λb h=>b.length<=sizeLine/\∀p,h p=aD->Q (.ref p) (upd h p (.lst b))
def Jb{y}(h:PA X es t):PE X (.Tuple es y pos) (NP t):=by
 intro p s k H Q I j;refine wpAny_Tuple_spliced (thn (h pos p s k H _ I j) λU c ⟨v,f,d,r,z,q⟩=>⟨by rw[<-r.length];exact z,?_⟩);have n:f c.heap.objs.size=aD:=d.hok.fresh (Ze _);refine⟨.ref c.heap.objs.size,upd f c.heap.objs.size (.tup v),d.laid (t':=c.toks) (λb u e=>Zf _ e) (Ze _) ?_,rfl,q _ n⟩;exact⟨z,U,r,pU.new _ _⟩
def zX(h:PA X es t):PE X (.List es pos) (NQ t):=by
 intro p s k H Q I j;refine wpAny_List_spliced (thn (h pos p s k H _ I j) λU c ⟨v,f,d,r,z,q⟩=>⟨by rw[<-r.length];exact z,?_⟩);have n:f c.heap.objs.size=aD:=d.hok.fresh (Ze _);refine⟨.ref c.heap.objs.size,upd f c.heap.objs.size (.lst v),d.laid (t':=c.toks) (λb u e=>Zf _ e) (Ze _) ?_,rfl,q _ n⟩;exact⟨z,U,0,r,ZA _ rfl⟩
end
@[inline]abbrev Sp:=List V->Hp->VK->XK->Prop
@[inline]abbrev CXT:=List Env->Hp->Shared->XK->Value->Shared->Prop
structure Env0(P:Program)(w:World)(K:Vk)(mg:Str->Option Value)(base:Heap)(A:Around)(outer:List Env)(s:Shared)(H:Hp):Prop where
 frames:A.frames=aw outer
 mod:Mod K mg base
 bs:∀b o,base.get? b=aw o->s.heap.get? b=aw o/\H b=aD
 bsz:base.objs.size<=s.heap.objs.size
 funs:s.heap.FunFrames base outer
 frf:∀b ∈ frs outer,H b=aD
 hok:HOk P w H s.heap
 bare:AllBare s.gens
abbrev CE(outer:List Env)(P:Program)(w:World)(H:Hp)(s:Shared)(Q:VK)(u:Value)(b:Shared):Prop:=
 ∃v h,b.os=s.os/\AllBare b.gens/\Un (frs outer) [] H h s.heap b.heap/\HOk P w h b.heap/\aJ v u/\Q v h
abbrev CR(C:CXT)(outer:List Env)(P:Program)(w:World)(H:Hp)(s:Shared)(Q:VK)(E:XK)(r:Result)(b:Shared):Prop:=
 match r with
 |.ok (.ret u)=>CE outer P w H s Q u b
 |.ok _=>False
 |.error e=>C outer H s E e b
structure FnOk(P:Program)(w:World)(K:Vk)(mg:Str->Option Value)(base:Heap)(CX:CXT)(k:Nat)(f:Addr)(fd:W7)(ps:List Str)(sp:Sp):Prop where
 len:∀vs H Q E,sp vs H Q E->vs.length=ps.length
 run:∀ (A:Around) (outer:List Env) (s:Shared) (H:Hp) (args:Args) (us:List Value) (vs:List V) (Q:VK) (E:XK),Room k A->Env0 P w K mg base A outer s H->BindsTo s fd args (ps.zip us)->aO vs us->sp vs H Q E ->
  codeAny (model P w) A (.call (.ref f) args) (CR CX outer P w H s Q E) s
section
variable {X:Cx} {pins:List (Addr × Obj)} {σ:St} {H:Hp} {s s':Shared}
def Inv.env0(I:Inv X pins σ H s):Env0 X.prog X.w X.K X.mg X.base X.A X.stack s H:=
 ⟨I.ok.frames,I.ok.mod,I.bs,Z0 I.ok.bsz I.sz,I.stack,I.stkFree,I.hok,I.bare⟩
def Inv.after(I:Inv X pins σ H s)(h:CE X.stack X.prog X.w H s Q u s'):EP X pins σ Q u s':=by
 obtain⟨v,c,os,bare,un,hok,r,q⟩:=h;obtain⟨f,g,d,t,O⟩:=s';obtain rfl:O=s.os:=os;exact⟨v,c,I.call (h':=f) (g':=g) (d':=d) (t':=t) (ch:=[]) un hok bare (λb z=>absurd z (by simp)),r,q⟩
end
abbrev oo(c:Sp)(d:List V)(E:XK)(t:TA):TE:=λb H Q=>t b H λv h=>c (v++d) h Q E
abbrev iS(K:Vk)(f:W7)(ps:List Str)(d:List Value):Prop:=
 ∀ (s:Shared) (u:List Value),K.In s.heap->(u++d).length=ps.length->BindsTo s f ⟨u,[]⟩ (ps.zip (u++d))
def iS.all{K:Vk}{f:W7}{ps:List Str}(h:∀u:List Value,u.length=ps.length->bindArgs f ⟨u,[]⟩=pure (ps.zip u)):iS K f ps []:=λs u _ b=>by
 rw[ZN] at b ⊢;exact .of_eq (h u b)
abbrev ur(C:CXT)(X:Cx)(E:XK):Prop:=∀ (p:List (Addr × Obj)) (c:St) (H:Hp) (s:Shared) (e:Value) (b:Shared),Inv X p c H s->C X.stack H s E e b->X.xe e b
section
variable {X:Cx} {CX:CXT} {k:Nat} {f C:Addr} {fd:W7} {ps:List Str} {sp:Sp} {dvs:List V} {ds:List Value} {E:XK} {x m:Str} {p pos apos:Pos} {e o:Expr} {es:List Expr} {ta:TE} {t:TA}
def zY(F:FnOk X.prog X.w X.K X.mg X.base CX k f fd ps sp)(z:Room k X.A)(hb:iS X.K fd ps ds)(hd:aO dvs ds)(n:ur CX X E)
  (I:Inv X b d H s) (r:aO v U) (h:sp (v++dvs) H Q E):wpAny (model X.prog X.w) X.A (call (.ref f) U) (EP X b d Q) X.xe s:=by
 have r2:aO (v++dvs) (U++ds):=r.append hd;have j:(U++ds).length=ps.length:=by rw[<-r2.length];exact F.len _ _ _ _ h
 refine wpAny_call (VP (F.run X.A X.stack s H ⟨U,[]⟩ (U++ds) (v++dvs) Q E z I.env0 (hb s U I.kIn j) r2 h) λr y c=>?_);cases r with
 |error e=>exact n b d H s e y I c
 |ok q=>
  cases q with
  |ret u=>exact I.after c
  |next=>exact False.elim c
  |brk=>exact False.elim c
  |cont=>exact False.elim c
def DQ(F:FnOk X.prog X.w X.K X.mg X.base CX k f fd ps sp)(v:Room k X.A)(y:Gl X x)(z:X.mg x=aw (.ref f))(u:Vs X.K (.ref f)=aN)(hb:iS X.K fd ps ds)(hd:aO dvs ds)(n:ur CX X E)
  (L:PA X (e::es) t) (d:(x == ("__debug__" : Str))=aS:=by decide) (B:Uj (e::es) X.env=(aS,eval e X.env)::Uj es X.env:=by rfl) (c:(backTo pos (Uj es X.env)).any (·.1)=aS:=by rfl) :
  PE X (.Call (.Name x p) (e::es) [] pos) (oo sp dvs E t):=by
 intro b s J H Q I h;refine Ur (wm I y z ?_ d);refine Vl (h₀:=X.base) I.ok.mod.kin u (thn (L pos b s J H _ I h) λU T ⟨Y,O,j,r,q⟩=>⟨j.kIn,?_⟩) B c;exact zY F v hb hd n j r q
end
abbrev PK(X:Cx)(k:List Keyword)(t:TA):Prop:=
 ∀ (b:Pos) (p:List (Addr × Obj)) (s:Shared) (c:St) (H:Hp) (Q:List V->Hp->Prop),Inv X p c H s->t c H Q->wpAny (model X.prog X.w) X.A (evalAll ((VE b (VZ k X.env)).map (·.2))) (AP X p c Q) X.xe s
section
variable {X:Cx} {CX:CXT} {k:Nat} {f C:Addr} {fd:W7} {ps ks:List Str} {sp:Sp} {E:XK} {x m:Str} {p pos apos kpos:Pos} {e o:Expr} {es:List Expr} {kws:List Keyword} {te ta:TE} {t tk:TA} {nm:Option Str}
def zZ:PK X [] jy:=λ_ _ _ _ H Q I h=>wpAny_evalAll_nil ⟨[],H,I,.nil,h⟩
def wq(O:PE X e te)(q:PK X kws t):PK X (⟨nm,e,kpos⟩::kws) (cf te t):=by
 intro pos b s c H Q I h;show wpAny _ _ (evalAll ((do let v <-eval e X.env;standAt pos;pure v)::(VE pos (VZ kws X.env)).map (·.2))) _ _ s;refine wpAny_evalAll_cons (Us (thn (O b s c H _ I h) λu j ⟨x,d,B,r1,J⟩=>Us (UU (UI ?_))));exact thn (q pos b j c d _ B J) λU T ⟨L,n,y,r2,z⟩=>⟨x::L,n,y,.cons r1 r2,z⟩
variable {g:List Value->List Value->List Value} {gV:List V->List V->List V}
end
structure FnScope(N P:List Str)(sc:Scope):Prop where
 kind:sc.kind = .function
 co:sc.isCoroutine=aS
 gen:sc.isGenerator=aS
 nd:N.Nodup
 pre:N.take P.length=P
 par:∀x ∈ P,sc.names.lookup x=aw .local\/sc.names.lookup x=aw .cell
 nofree:∀y ∈ sc.names,y.2 ≠ .free
def oq{kindOf:Str->Option W9}{x:Str}:∀ {binds:List (Str × Value)} {m:Str->Option Value},(∀v,(x,v) ∉ binds)->bindL kindOf binds m x=m x
 |[],_,_=>rfl
 |(n,v)::r,m,h=>by
  unfold bindL;rw[oq λw b=>h w (Zi _ b)];split
  ·have:x ≠ n:=by rintro rfl;exact h v Zj
   simp[this]
  ·rfl
def ot{kindOf:Str->Option W9}{x:Str}:∀ {binds:List (Str × Value)} {m:Str->Option Value},(∀v,(x,v) ∉ binds)->bindC kindOf binds m x=m x
 |[],_,_=>rfl
 |(n,v)::r,m,h=>by
  unfold bindC;rw[ot λw b=>h w (Zi _ b)];split
  ·rfl
  ·have:x ≠ n:=by rintro rfl;exact h v Zj
   simp[this]
def ou{kindOf:Str->Option W9}{x:Str}{v:Value}:∀ {P:List Str} {b:List Value} {i:Nat} {m:Str->Option Value},P.Nodup->P[i]?=aw x->b[i]?=aw v->kindOf x=aw .local ->
  bindL kindOf (P.zip b) m x=aw v
 |[],_,_,_,_,h,_,_=>by simp at h
 |_::_,[],_,_,_,_,h,_=>by simp at h
 |p::P,w::b,0,m,nd,h1,h2,hk=>by
  simp at h1 h2;subst h1;subst h2;show bindL kindOf ((p,w)::P.zip b) m p=_;unfold bindL;rw[oq λv c=>(Z6.mp nd).1 (XB c).1,if_pos hk];simp
 |p::P,w::b,i+1,m,nd,h1,h2,hk=>by
  show bindL kindOf ((p,w)::P.zip b) m x=_;unfold bindL;exact ou (i:=i) (Z6.mp nd).2 (by simpa using h1) (by simpa using h2) hk
def ow{kindOf:Str->Option W9}{x:Str}{v:Value}:∀ {P:List Str} {b:List Value} {i:Nat} {m:Str->Option Value},P.Nodup->P[i]?=aw x->b[i]?=aw v->kindOf x ≠ aw .local ->
  bindC kindOf (P.zip b) m x=aw v
 |[],_,_,_,_,h,_,_=>by simp at h
 |_::_,[],_,_,_,_,h,_=>by simp at h
 |p::P,w::b,0,m,nd,h1,h2,hk=>by
  simp at h1 h2;subst h1;subst h2;show bindC kindOf ((p,w)::P.zip b) m p=_;unfold bindC;rw[ot λv c=>(Z6.mp nd).1 (XB c).1,if_neg hk];simp
 |p::P,w::b,i+1,m,nd,h1,h2,hk=>by
  show bindC kindOf ((p,w)::P.zip b) m x=_;unfold bindC;exact ow (i:=i) (Z6.mp nd).2 (by simpa using h1) (by simpa using h2) hk
abbrev hJ(N:List Str)(v:List V):St:=v.map aw++Zx (N.length - v.length) aD
abbrev ut(d:CXT)(P:Program)(w:World)(K:Vk)(mg:Str->Option Value)(base:Heap)(N:List Str)(q:Str)(b:Scope)(f:Addr)(C:Value)(A:Around)(outer:List Env)(s:Shared)(H:Hp)(E:XK):Cx where
 prog:=P
 w:=w
 K:=K
 mg:=mg
 base:=base
 A:=A.deeper (envOfC q b s.heap.objs.size f C)
 N:=N
 s₀:=s
 H₀:=H
 env:=envOfC q b s.heap.objs.size f C
 outer:=outer
 stack:=envOfC q b s.heap.objs.size f C::outer
 ex:=[]
 calm:=true
 fn:=λ_=>aN
 pn:=[]
 xe:=λe j=>wpAny (model P w) (A.deeper (envOfC q b s.heap.objs.size f C)) (leaving (envOfC q b s.heap.objs.size f C) e) (λ_ c=>d outer H s E e c) (λh c=>d outer H s E h c) j
def rJ{sc:Scope}{n:Nat}{x:Str}(h:sc.names.lookup x=aw .cell):∃c,(VN n sc.names []).lookup x=aw c:=by
 have q:=Vm sc.names n [] (.inl h);exact Z9.mp q
def yh{X:CXT}{P:Program}{w:World}{K:Vk}{mg:Str->Option Value}{base:Heap}{N ps:List Str}{Q:Str}{d:Scope}{f:Addr}{T:Value}{A:Around}{outer:List Env}{s s1:Shared}{H:Hp}{E:XK}{U:List Value}{I:List V}
  (S:FnScope N ps d) (hd:A.handled=aD) (B:Env0 P w K mg base A outer s H) (hl:I.length=ps.length) (r:aO I U)
  (x:InCallC s s.heap.objs.size (bindL (envOfC Q d s.heap.objs.size f T).kindOf (ps.zip U) λ_=>aD) (VN (s.heap.objs.size+1) d.names []) (bindC (envOfC Q d s.heap.objs.size f T).kindOf (ps.zip U) λ_=>aD) s1) :
  Inv (ut X P w K mg base N Q d f T A outer s H E) [] (hJ N I) H s1:=by
 have hpl:ps.length<=N.length:=by have:=congrArg Zd S.pre;rw[Yb] at this;lia
 obtain⟨O,tk,rfl,Z⟩:=x.done;have C:∀b:Addr,b ∉ (ut X P w K mg base N Q d f T A outer s H E).ex:=λb z=>absurd (show b ∈ ([]:List Addr) from z) (by simp)
 refine⟨⟨B.mod,S.kind,rfl,rfl,Ze _,λy z c O j=>?_,λy hy=>?_,λy c _ h=>?_,λ_=>hd,Around.frames_deeper B.frames,.inr ⟨rfl,rfl⟩,λb z=>absurd z (C b),B.bs,B.bsz,λb _ _=>C b,λb z=>absurd z (C b),B.funs,B.frf⟩,
  rfl,B.bare,Un.kept Z,⟨_,x.toInCall.ns,λi y v O j h3=>?_⟩,λy c h=>⟨_,x.cell y c h⟩,B.hok.fresh (Ze _),λy c h=>?_,λp J=>absurd (show p ∈ ([]:List (Addr × Obj)) from J) (by simp),B.hok.kept Z,?_⟩
 ·exact name_of_addr x.apart (V2 O) (V2 j)
 ·have hy:d.names.lookup y=aw .cell\/d.names.lookup y=aw .free:=hy;rcases hy with hy |hy
  ·exact rJ hy
  ·exact absurd rfl (S.nofree _ (V2 hy))
 ·exact YW (x.above y c (V2 h))
 ·have hi:i < I.length:=by
   unfold hJ at j;by_cases hi:i < I.length
   ·exact hi
   ·rw[Zm (by simpa using hi)] at j;rw[YA] at j;split at j <;> cases j
  have ha:I[i]?=aw v:=by
   unfold hJ at j;rw[Zq (by simpa using hi),Zp] at j;cases e:I[i]? with
   |none=>rw[e] at j;cases j
   |some a=>rw[e] at j;cases j;rfl
  obtain⟨u,Y,rv⟩:=r.get ha
  have J:ps[i]?=aw y:=by
   rw[<-S.pre,Xr (by lia)];exact O
  have L:ps.Nodup:=by rw[<-S.pre];exact S.nd.sublist (X8 _ _)
  refine⟨u,rv,?_⟩;rcases S.par y (Zc J) with k |k
  ·exact .inl ⟨k,ou L J Y k⟩
  ·obtain⟨c,e⟩:=rJ (n:=s.heap.objs.size+1) k;refine .inr ⟨.inl k,c,e,?_⟩;have q:=x.cell y c e;rw[ow L J Y (by show d.names.lookup y ≠ _;rw[k];decide)] at q;exact q
 ·exact B.hok.fresh (YW (x.above y c (V2 h)))
 ·unfold hJ;show _=N.length;rw[Zh,Za,XG]
  lia
def NR{Y:CXT}{P:Program}{w:World}{K:Vk}{mg:Str->Option Value}{base:Heap}{k:Nat}{f:Addr}{name d:Str}{p:Arguments}{body:List Stmt}{c:Scope}{dV kV X pm C ct oc:Value}{an od:Option Addr}
  {osl:Array (Option Value)} {N ps:List Str} {sp:Sp} (lk:K.lookup f=aw ⟨oc,od,.func (Vp name d p body c dV kV X pm an C ct),osl⟩) (hcd:Vn K C d=aN) (S:FnScope N ps c)
  (len:∀j H Q E,sp j H Q E->j.length=ps.length)
  (L:∀ (A:Around) (outer:List Env) (s:Shared) (H:Hp) (j:List V) (Q:VK) (E:XK),Room k (A.deeper (envOfC d c s.heap.objs.size f C))->sp j H Q E ->
   ∃t,PSs (ut Y P w K mg base N d c f C A outer s H E) body t/\t { nx:=λ_ z=>Q .non z,rt:=Q } (hJ N j) H) :
  FnOk P w K mg base Y (k+1) f (Vp name d p body c dV kV X pm an C ct) ps sp:=by
 refine⟨len,λA outer s H args us j Q E Z T hb r O=>?_⟩;have hl:=len _ _ _ _ O;have KX:K.In s.heap:=T.mod.kin.keeps λb o e=>(T.bs b o e).1;have lim:s.heap.NoLimit:=T.mod.nolimit.keeps λb o e=>(T.bs b o e).1
 have B:∀y ∈ ps.zip us,c.names.lookup y.1=aw .local\/(c.names.lookup y.1=aw .cell/\((VN (s.heap.objs.size+1) c.names []).lookup y.1).isSome=aN):=λ⟨n,v⟩ hy=>by
  rcases S.par n (XB hy).1 with q |q
  ·exact .inl q
  ·exact .inr ⟨q,Vm _ _ _ (.inl q)⟩
 refine codeAny_call_function Z.depth (KX _ _ lk) rfl S.co S.gen rfl (PySem.W.codeRec_of KX hcd) (hb _ _ _ _ ?_);refine wpAny_newFunctionEnv_cells S.kind B λenv he s1 x=>?_;subst he;refine⟨lim.keeps x.toInCall.keep,codeAny_func ?_⟩;obtain⟨t,ht,hq⟩:=L A outer s H j Q E (Z.deeper _) O;have I:Inv (ut Y P w K mg base N d c f C A outer s H E) [] (hJ N j) H s1:=yh S Z.hd T hl r x;refine UE (ht [] s1 (hJ N j) H _ I hq) (λfl s' hs=>?_) λe s' hs=>hs
 have U:∀ {h:St} {z:Hp} {v:V} {u:Value},Inv (ut Y P w K mg base N d c f C A outer s H E) [] h z s'->aJ v u->Q v z->CE outer P w H s Q u s':=
  λ{h z v u} J rv q=>⟨v,z,J.os,J.bare,J.base,J.hok,rv,q⟩
 cases fl with
 |ret u=>
  obtain⟨v,h,z,J,rv,q⟩:=hs;exact U J rv q
 |next=>
  obtain⟨h,z,J,q⟩:=hs;exact U (v:=V.non) (u:=Value.none) J rfl q
 |brk=>
  obtain⟨_,_,_,q⟩:=hs;exact False.elim q
 |cont=>
  obtain⟨_,_,_,q⟩:=hs;exact False.elim q
section
variable {X:Cx} {x:Str} {p pos:Pos} {e:Expr} {es:List Expr} {t:TA} {id T:String} {r:List V->Hp->VK->Prop}
abbrev tCB(r:List V->Hp->VK->Prop)(t:TA):TE:=λb H Q=>t b H λv h=>r v h Q
def iT(q:aR X (.builtin id) r)(v:Gl X x)(z:X.mg x=aD)(j:VI x=aw (.builtin id))(J:PA X (e::es) t)(L:x ≠ "__name__" := by decide)(d:(x == ("__debug__" : Str))=aS:=by decide)
  (B:Uj (e::es) X.env=(aS,eval e X.env)::Uj es X.env:=by rfl) (c:(backTo pos (Uj es X.env)).any (·.1)=aS:=by rfl):PE X (.Call (.Name x p) (e::es) [] pos) (tCB r t):=by
 intro b s f H Q I h;refine Ur (dA I v z j ?_ L d);exact PyProof.Rows.callWith_builtin1 (thn (J pos b s f H _ I h) λu n ⟨y,k,C,r1,E⟩=>q b n f k y u Q C r1 E) B c
def jz(q:aR X (.type T) r)(v:Gl X x)(z:X.mg x=aD)(j:VI x=aw (.type T))(J:PA X (e::es) t)(L:x ≠ "__name__" := by decide)(d:(x == ("__debug__" : Str))=aS:=by decide)
  (B:Uj (e::es) X.env=(aS,eval e X.env)::Uj es X.env:=by rfl) (c:(backTo pos (Uj es X.env)).any (·.1)=aS:=by rfl):PE X (.Call (.Name x p) (e::es) [] pos) (tCB r t):=by
 intro b s f H Q I h;refine Ur (dA I v z j ?_ L d);exact WJ (thn (J pos b s f H _ I h) λu n ⟨y,k,C,r1,E⟩=>q b n f k y u Q C r1 E) B c
end
end L2
namespace HT
open PySem PyProof.Rows
abbrev cT:List Int->List Int->Bool
 |[],[]=>aS
 |[],_::_=>aN
 |_::_,[]=>aS
 |x::xs,y::ys=>if x=y then cT xs ys else decide (x < y)
def lP(x y:Int)(X Y:List Int):cT (x::X) (y::Y)=if x=y then cT X Y else decide (x < y):=rfl
def nU:cT [] []=aS:=rfl
def lQ(y:Int)(Y:List Int):cT [] (y::Y)=aN:=rfl
def lU(x:Int)(X:List Int):cT (x::X) []=aS:=rfl
def rK(A:Around)(s:Shared)(a:Int)(t:Tok)(c:Int)(u:Tok):∃e,Vb A s (.int a t) (.int c u) e/\(e=aN ↔ a=c):=
 ⟨(a == c),SeqAt.EqAt.int_int a t c u,by simp⟩
def rL(A:Around)(s:Shared)(a:Int)(t:Tok)(c:Int)(u:Tok)(prog:Program)(w:World)(E:Value->Shared->Prop)(Q:Value->Shared->Prop)(h:Q (.bool (decide (a < c))) s) :
  wpAny (model prog w) A (Ub .Lt (.int a t) (.int c u)) Q E s:=
 (PyProof.Rows.lt_int h:wpAny (model prog w) A (VQ .Lt (.int a t) (.int c u)) Q E s)
section
open PySem.SeqAt
open PySem.AutoSeq1 (wpAny_loadPart')
open PySem.MeetsSeq PySem.MeetsSeq2 PySem.MeetsSeq3
def nV(l b:Addr)(f I:Array Value)(n n2:Nat)(dd dd2:Option Addr)(sl sl2:Array (Option Value))(ns U:List Int)(hi:IntsAre f.toList ns)(hj:IntsAre I.toList U) :
  Meets (Builtin.«tuple.__lt__» ⟨[.ref l,.ref b],[]⟩)
   (λ_ R s=>s.heap.get? l=aw { cls:=.type "tuple", dict:=dd,data:=.seq f n,slots:=sl }/\s.heap.get? b=aw { cls:=.type "tuple", dict:=dd2,data:=.seq I n2,slots:=sl2 } ∧
    R (.ok (.ret (.bool (cT ns U)))) s):=
 .of_wp λprog w A R s h=>by
  obtain⟨T,g,d,Z,os⟩:=s;obtain⟨hl,hb,h⟩:=h;have f2:=AutoSeq1.sub_tuple_tuple;have z1:f.size=ns.length:=by rw[<-hi.length];simp
  have z2:I.size=U.length:=by rw[<-hj.length];simp
  wp_walk using UD hl,UD hb,Uy _ (λB b s'=>b.1=aD/\s'=⟨T,g,d,Z,os⟩/\∃ (Y X:List Value) (k p:List Int),B=Y.zip X ∧
   IntsAre Y k/\IntsAre X p/\k.length+I.size=p.length+f.size/\R (.ok (.ret (.bool (cT k p)))) ⟨T,g,d,Z,os⟩) _
  case turn=>
   rintro⟨y,x⟩ B b s' ⟨L,rfl,Y,X,k,p,z,J,v,j,C⟩;cases J with
   |nil=>rw[List.zip_nil_left] at z;cases z
   |cons a t Q=>
    cases v with
    |nil=>rw[List.zip_nil_right] at z;cases z
    |cons c u O=>
     rw[Yl] at z;injection z with hyx hrest;injection hyx with hy hx;subst hy hx;rw[lP] at C;simp only[Zo] at j;obtain⟨e,he,E⟩:=rK A.in1 ⟨T,g,d,Z,os⟩ a t c u;refine Us (he prog w _ _ ?_);cases e with
     |true=>
      rw[if_pos (E.mp rfl)] at C
      wp_walk
      exact⟨rfl,rfl,_,_,_,_,hrest,Q,O,by lia,C⟩
     |false=>
      rw[if_neg (λq=>absurd (E.mpr q) Zg)] at C;have hri:=rL A.in1 ⟨T,g,d,Z,os⟩ a t c u prog w
      wp_walk using hri
      exact⟨_,rfl,by simpa using C⟩
  case fin=>
   rintro⟨b1,b2⟩ s' ⟨L,rfl,Y,X,k,p,z,J,v,j,C⟩;simp only at L;subst L
   have hv:cT k p=decide (f.size < I.size):=by
    cases J with
    |nil=>
     cases v with
     |nil=>
      simp only[Z1] at j;rw[nU];exact(decide_eq_false (by lia)).symm
     |cons c u hw=>
      simp only[Z1,Zo] at j;rw[lQ];exact(decide_eq_true (by lia)).symm
    |cons a t hv=>
     cases v with
     |nil=>
      simp only[Z1,Zo] at j;rw[lU];exact(decide_eq_false (by lia)).symm
     |cons c u hw=>
      rw[Yl] at z;cases z
   rw[hv] at C
   wp_walk
   exact⟨_,rfl,by simpa[Builtin.Tuple.tupleCompareSizes] using C⟩
  case h=>
   exact⟨rfl,rfl,f.toList,I.toList,ns,U,rfl,hi,hj,by lia,h⟩
end
section
variable {prog:Program} {w:World} {A:Around} {E:Value->Shared->Prop} {s:Shared}
def uu(J:IsTup s.heap l c)(hb:IsTup s.heap b I)(hi:IntsAre c.toList ns)(L:IntsAre I.toList k)
  (B:A.units < cLine) (h:Q (.bool (cT ns k)) s):wpAny (model prog w) A (VQ .Lt (.ref l) (.ref b)) Q E s:=by
 obtain⟨⟨y,O,u,sl⟩,ho,v,n,hd⟩:=id J;obtain⟨⟨C,q,data2,p⟩,j,f,z,d⟩:=id hb;simp only at v hd f d;subst v hd f d
 exact Uc (op:=.Lt) ⟨_,ho,rfl⟩ ⟨_,j,rfl⟩ W6 WW (WQ _ _) (nV l b c I n z O q sl p ns k hi L)
  ⟨ho,j,show Value.bool (cT ns k) ≠ Value.notImplemented/\Q (.bool (cT ns k)) s from ⟨(λx=>nomatch x),h⟩⟩ B
def DR(J:IsTup s.heap t v.toArray)(hb:IsTup s.heap b c.toArray)(u:v ≠ [])
  (I:c=[]->Q (.ref t) s) (L:c ≠ []->Q (.ref s.heap.objs.size) { s with heap:=s.heap.push { cls:=.type "tuple", data:=.seq (v++c).toArray } })
  (q:v.length+c.length<=sizeLine):wpAny (model prog w) A (VG .Add (.ref t) (.ref b)) Q E s:=by
 obtain⟨⟨cls,B,data,sl⟩,ho,z,n,hd⟩:=id J;obtain⟨⟨C,j,data2,d⟩,h,k,y,f⟩:=id hb;simp only at z hd k f;subst z hd k f;have e:v.toArray++c.toArray=(v++c).toArray:=by simp
 by_cases p:c=[]
 ·exact VR ⟨_,ho,rfl⟩ ⟨_,h,rfl⟩ V4 Ug W3 WU (WN _ _)
   (tuple_addW1 t b v.toArray c.toArray n y B j sl d (by simpa using u) (by simp[p])) ⟨ho,h,I p⟩
 ·refine VR ⟨_,ho,rfl⟩ ⟨_,h,rfl⟩ V4 Ug W3 WU (WN _ _)
   (tuple_addW2 t b v.toArray c.toArray n y B j sl d (by simpa using u) (by simpa using p) (by rw[Zl,Zl];exact q)) ⟨ho,h,?_⟩
  rw[e];exact L p
abbrev sIx(n d:Nat):Option Int->Nat
 |none=>d
 |some v=>if v < 0 then (v+(n:Int)).toNat else min v.toNat n
def z3(n d:Nat):sIx n d aD=d:=rfl
def Jc(n d:Nat)(hd:d<=n)(o:Option Int):sIx n d o<=n:=by
 cases o with
 |none=>exact hd
 |some v=>
  show(if v < 0 then (v+(n:Int)).toNat else min v.toNat n)<=n;by_cases h:v < 0
  ·rw[if_pos h];lia
  ·rw[if_neg h];exact Nat.min_le_right _ _
def wu(v:Int)(n d:Nat):(if v < 0 then max (v+(n:Int)) 0 else min v (n:Int))=((sIx n d (aw v):Nat):Int):=by
 show(if v < 0 then max (v+(n:Int)) 0 else min v (n:Int))=(((if v < 0 then (v+(n:Int)).toNat else min v.toNat n):Nat):Int);by_cases h:v < 0
 ·simp only[if_pos h];lia
 ·simp only[if_neg h];lia
def uv(lo hi:Option Int)(n:Nat):Builtin.Slice.sliceAdjust lo hi 1 (n:Int)=(((sIx n 0 lo:Nat):Int),((sIx n n hi:Nat):Int)):=by
 have h:¬ ((1:Int) < 0):=by lia
 unfold Builtin.Slice.sliceAdjust;simp only[h,if_false];refine Prod.ext ?_ ?_
 ·cases lo with
  |none=>rfl
  |some v=>exact wu v n 0
 ·cases hi with
  |none=>rfl
  |some v=>exact wu v n n
def uw(i j:Nat):Builtin.Slice.slicePlaces (i:Int) (j:Int) 1=j - i:=by
 unfold Builtin.Slice.slicePlaces;have h:(1:Int) > 0:=by lia
 simp only[h,if_true,Wz];split <;> lia
def lV(p:IsPart v o)(h:Q o s):wpAny (model prog w) A (Builtin.Slice.slicePartIndex v) Q E s:=by
 cases p with
 |none=>exact slicePart_none h
 |int i t=>exact slicePart_int h
def dU{sl:Addr}{d v:Value}{lo hi:Option Int}{n:Nat}{Q:Int × Int × Nat->Shared->Prop}(hs:s.heap.IsSliceOf sl d v .none)(p:IsPart d lo)(j:IsPart v hi)
  (h:Q (((sIx n 0 lo:Nat):Int),1,sIx n n hi - sIx n 0 lo) s):wpAny (model prog w) A (Builtin.Slice.sliceApplied (.ref sl) (pure (n:Int))) Q E s:=by
 obtain⟨os,c,f,b⟩:=id hs;unfold Builtin.Slice.sliceApplied Builtin.Slice.sliceFields;refine Us (Us (Ux c b (x:=d) rfl (Us (Ux c b (x:=v) rfl (Us (Ux c b (x:=.none) rfl (UI ?_)))))));refine Us (slicePart_none ?_);show wpAny _ _ (if ((1:Int) == 0)=aN then _ else _) _ _ s;rw[if_neg (by decide)];refine Us (lV p (Us (lV j (Us (UI ?_)))));show wpAny _ _ (match Builtin.Slice.sliceAdjust lo hi 1 (n:Int) with |(lo,hi)=>pure (lo,(1:Int),Builtin.Slice.slicePlaces lo hi 1)) _ _ s;rw[uv lo hi n];show wpAny _ _ (pure (((sIx n 0 lo:Nat):Int),(1:Int),Builtin.Slice.slicePlaces ((sIx n 0 lo:Nat):Int) ((sIx n n hi:Nat):Int) 1)) _ _ s;rw[uw];exact UI h
def z4(X:Array Value)(i k:Nat):((Zk k).filterMap λ(m:Nat)=>X[((i:Int)+(m:Int) * 1).toNat]?).toArray=((X.toList.drop i).take k).toArray:=by
 have e:(λ(m:Nat)=>X[((i:Int)+(m:Int) * 1).toNat]?)=λm=>X[i+m]?:=by
  funext m
  have:((i:Int)+(m:Int) * 1).toNat=i+m:=by lia
  rw[this]
 rw[e];have:=pick_run X i k;rw[X3] at this;have b:((λx=>X[x]?) ∘ λx=>i+x)=λm=>X[i+m]?:=rfl;rw[b] at this;rw[this]
def iU{t sl:Addr}{I:Array Value}{v n:Value}{lo hi:Option Int}{Q:Value->Shared->Prop}(c:IsTup s.heap t I)(hs:s.heap.IsSliceOf sl v n .none)(u:IsPart v lo)(y:IsPart n hi)
  (z:¬ (sIx I.size 0 lo=0/\sIx I.size I.size hi=I.size))
  (h:Q (.ref s.heap.objs.size) { s with heap:=s.heap.push { cls:=.type "tuple", data:=.seq ((I.toList.drop (sIx I.size 0 lo)).take (sIx I.size I.size hi - sIx I.size 0 lo)).toArray } })
  (B:I.size<=sizeLine):wpAny (model prog w) A (getItem (.ref t) (.ref sl)) Q E s:=by
 have b:sizeOk (.seq ((I.toList.drop (sIx I.size 0 lo)).take (sIx I.size I.size hi - sIx I.size 0 lo)).toArray):=by
  show((I.toList.drop (sIx I.size 0 lo)).take (sIx I.size I.size hi - sIx I.size 0 lo)).toArray.size<=sizeLine;rw[Zl,Yb,Y6,ZC]
  lia
 have C:sIx I.size I.size hi<=I.size:=Jc _ _ (Ze _) hi;obtain⟨os,d,k,p⟩:=id hs;have f:s.TypeIs (.ref sl) "slice" := ⟨os,d,k⟩;unfold getItem
 try with_reducible refine UA ?_
 first |refine Us (UI ?_) |skip
 refine Us (US c.typeIs (by decide) ?_)
 refine Us (wpAny_callSpecial?_slot (name:=Str.ofString "__getitem__") c.typeIs WK
  (Uu WK c.typeIs entry_tuple_getitem ?_ (args_tuple_getitem _ _)))
 show wpAny _ _ (Builtin.Tuple.tupleItemsOf (.ref t) >>= _) _ _ s;refine Us (tupleItemsOf_ c ?_);refine Us (UX f ?_);rw[if_pos (by decide)];refine Us (dU hs u y ?_)
 have j:¬ ((((sIx I.size 0 lo:Nat):Int) == 0 && (1:Int) == 1 && (sIx I.size I.size hi - sIx I.size 0 lo) == I.size)=aN):=by
  intro q;rw[bAE,bAE] at q;have L:((sIx I.size 0 lo:Nat):Int)=0:=eq_of_beq q.1.1;have J:sIx I.size I.size hi - sIx I.size 0 lo=I.size:=eq_of_beq q.2;exact z ⟨by lia,by lia⟩
 show wpAny _ _ (if (((sIx I.size 0 lo:Nat):Int) == 0 && (1:Int) == 1 && (sIx I.size I.size hi - sIx I.size 0 lo) == I.size)=aN then _ else _) _ _ s;rw[if_neg j,z4]
 first
  |exact Us (m:=Builtin.Tuple.tupleExact _) (UF (UI ⟨_,rfl,UI h⟩) b)
  |exact Us (m:=Builtin.Tuple.tupleExact _) (UF (Us (UI (UI ⟨_,rfl,UI h⟩))) b)
  |exact Us (Us (m:=Builtin.Tuple.tupleExact _) (UF (UI (UI ⟨_,rfl,UI h⟩)) b))
  |exact Us (Us (m:=Builtin.Tuple.tupleExact _) (UF (UI ⟨_,rfl,UI h⟩) b))
end
end HT
namespace L2
open PySem PySem.Spec PyProof.Rows
@[inline]abbrev TO:=St->Hp->(Option Int->Hp->Prop)->Prop
abbrev PO(X:Cx)(e:Option Expr)(t:TO):Prop:=
 ∀ (p:List (Addr × Obj)) (s:Shared) (b:St) (H:Hp) (Q:Option Int->Hp->Prop),Inv X p b H s->t b H Q ->
  wpAny (model X.prog X.w) X.A (evalPart e X.env) (λu c=>∃o h,Inv X p b h c/\IsPart u o/\Q o h) X.xe s
abbrev ww:TO:=λ_ H Q=>Q aD H
abbrev Hv(t:TE):TO:=λb H Q=>t b H λx h=>∃i,x = .int i/\Q (aw i) h
section
variable {X:Cx} {e:Expr} {te:TE} {lo hi:Option Expr} {tl th:TO} {pos p2:Pos}
def DS:PO X aD ww:=by
 intro p s b H Q I h;rw[VU];exact UI ⟨aD,H,I,.none,h⟩
def wx(h:PE X e te):PO X (aw e) (Hv te):=by
 intro p s d H Q I f;rw[evalPart_some];refine thn (h p s d H _ I f) λu k ⟨x,j,b,r1,c⟩=>?_;obtain⟨i,rfl,q⟩:=c;obtain⟨t,rfl⟩:=r1;exact⟨aw i,j,b,.int i t,q⟩
abbrev SlR(X:Cx)(r:V->Option Int->Option Int->Hp->VK->Prop):Prop:=
 ∀ (p:List (Addr × Obj)) (s:Shared) (c:St) (H:Hp) (x:V) (v d b:Value) (lo hi:Option Int) (sl:Addr) (Q:VK),Inv X p c H s->aJ x v->s.heap.IsSliceOf sl d b .none->IsPart d lo->IsPart b hi->r x lo hi H Q ->
  ∃T id,typeLookup (.type T) "__getitem__" = pure (aw (.builtin id))/\s.TypeIs v T/\wpAny (model X.prog X.w) X.A (getItem v (.ref sl)) (EP X p c Q) X.xe s
def SlR.or{r n:V->Option Int->Option Int->Hp->VK->Prop}(h:SlR X r)(h':SlR X n):SlR X (λx lo hi H Q=>r x lo hi H Q\/n x lo hi H Q):=by
 intro p s c H x v f b lo hi sl Q I j hs d k q;rcases q with q |q
 ·exact h p s c H x v f b lo hi sl Q I j hs d k q
 ·exact h' p s c H x v f b lo hi sl Q I j hs d k q
abbrev tSl(r:V->Option Int->Option Int->Hp->VK->Prop)(te:TE)(tl th:TO):TE:=λb H Q=>te b H λx c=>tl b c λl h=>th b h λu d=>r x l u d Q
def z5(Z:SlR X r)(he:PE X e te)(J:PO X lo tl)(E:PO X hi th):PE X (.Subscript e (.Slice lo hi aD p2) pos) (tSl r te tl th):=by
 intro p s d H Q I h;refine Subscript_ (thn (he p s d H _ I h) λv B ⟨x,y,I1,r1,q1⟩=>?_);refine wpAny_Slice (thn (J p B d y _ I1 q1) λf s2 ⟨l,L,I2,n,q2⟩=>thn (E p s2 d L _ I2 q2) λj c ⟨u,k,Y,C,O⟩=>?_);rw[VU];refine UI ?_;have U:Inv X p d k { c with heap:=c.heap.push { cls:=.type "slice", data:=.fields #[f,j,.none] } }:=Y.kept (t':=c.toks) λb ob q=>Zf _ q;obtain⟨T,id,hT,z,hg⟩:=Z p { c with heap:=c.heap.push { cls:=.type "slice", data:=.fields #[f,j,.none] } } d k x v f j l u c.heap.objs.size Q U r1 (Heap.IsSliceOf.new ..) n C O;show wpAny (model X.prog X.w) X.A (subscriptTail e (.Slice lo hi aD p2) v (.ref c.heap.objs.size)) (EP X p d Q) X.xe { c with heap:=c.heap.push { cls:=.type "slice", data:=.fields #[f,j,.none] } };exact tail_any (ops:=[.ref c.heap.objs.size,v]) z hT hg (by with_unfolding_all rfl)
abbrev lW(b:List V)(lo hi:Option Int):List V:=(b.drop (HT.sIx b.length 0 lo)).take (HT.sIx b.length b.length hi - HT.sIx b.length 0 lo)
def j8(b:List V)(lo hi:Option Int):(lW b lo hi).length<=b.length:=by
 unfold lW;rw[Yb,Y6]
 lia
abbrev QD(K:Vk):V->Option Int->Option Int->Hp->VK->Prop:=λx lo hi H Q=>∃a b,x = .ref a/\SqT K H a b ∧
 ¬ (HT.sIx b.length 0 lo=0/\HT.sIx b.length b.length hi=b.length)/\∀p,H p=aD->Q (.ref p) (upd H p (.tup (lW b lo hi)))
def Jd:SlR X (QD X.K):=by
 intro p s J H x v C E lo hi sl Q I B hs u y h;obtain⟨a,d,rfl,n,z,q⟩:=h;cases B;obtain⟨f,r,j,k⟩:=I.tuple n;have c:f.toArray.size=d.length:=by rw[Zl];exact r.length.symm
 refine⟨"tuple", _,PyProof.Rows.slot_tuple_getitem.lookup,j.typeIs,?_⟩;refine HT.iU j hs u y (by rw[c];exact z) ?_ (by rw[c];exact k);rw[c];refine⟨.ref s.heap.objs.size,_,I.laid (t':=s.toks) (o:=.tup (lW d lo hi)) (λb ob q=>Zf _ q) (Ze _) ?_,rfl,q _ (I.hok.fresh (Ze _))⟩;exact⟨Z0 (j8 d lo hi) k,_,(r.drop (HT.sIx d.length 0 lo)).take (HT.sIx d.length d.length hi - HT.sIx d.length 0 lo),pU.new _ _⟩
abbrev NS(K:Vk):R2:=λx y H Q=>∃a b c Y,x = .ref a/\y = .ref b/\SqT K H a c/\SqT K H b Y/\c ≠ []/\c.length+Y.length<=sizeLine ∧
 (Y=[]->Q (.ref a) H)/\(Y ≠ []->∀p,H p=aD->Q (.ref p) (upd H p (.tup (c++Y))))
def aO.nil_iff(r:aO b u):u=[] ↔ b=[]:=by
 cases r with
 |nil=>simp
 |cons _ _=>simp
def DT:OpR X (VG .Add) (NS X.K):=by
 intro p s O H x y v u Q I j n h;obtain⟨a,b,C,Y,rfl,rfl,J,hb,f,c,B,k⟩:=h;cases j;cases n;obtain⟨E,r1,L,_⟩:=I.tuple J;obtain⟨d,r2,p2,_⟩:=I.tuple hb;refine HT.DR L p2 (λz=>f (r1.nil_iff.mp z)) (λz=>⟨.ref a,H,I,rfl,B (r2.nil_iff.mp z)⟩) (λz=>?_) (by rw[<-r1.length,<-r2.length];exact c);refine⟨.ref s.heap.objs.size,_,I.laid (t':=s.toks) (o:=.tup (C++Y)) (λb ob q=>Zf _ q) (Ze _) ?_,rfl,k (λw=>z (r2.nil_iff.mpr w)) _ (I.hok.fresh (Ze _))⟩;exact⟨by rw[Zh];exact c,_,r1.append r2,pU.new _ _⟩
end
abbrev ixN(n:Nat)(i:Int):Option Nat:=if 0<=i then (if i < n then aw i.toNat else aD) else if -(n:Int)<=i then aw (i+n).toNat else aD
abbrev atI{α:Type}(X:List α)(i:Int):Option α:=(ixN X.length i).bind λj=>X[j]?
def p0{n:Nat}{i:Int}{j:Nat}(h:ixN n i=aw j):seqIndex? i n=aw j/\j < n/\-(n:Int)<=i/\i < n:=by
 unfold ixN at h;by_cases c:0<=i
 ·rw[if_pos c] at h;by_cases b:i < n
  ·rw[if_pos b] at h;have e:i.toNat=j:=Option.some.inj h;exact⟨by rw[Ue c b,e],by lia,by lia,b⟩
  ·rw[if_neg b] at h;cases h
 ·rw[if_neg c] at h;by_cases b:-(n:Int)<=i
  ·rw[if_pos b] at h;have e:(i+n).toNat=j:=Option.some.inj h;exact⟨by rw[Ud (by lia) b,e],by lia,b,by lia⟩
  ·rw[if_neg b] at h;cases h
def qa{b:Type}{X:List b}{i:Int}{v:b}(h:atI X i=aw v):∃j,seqIndex? i X.length=aw j/\X[j]?=aw v/\j < X.length/\-(X.length:Int)<=i/\i < X.length:=by
 unfold atI at h;cases e:ixN X.length i with
 |none=>rw[e] at h;cases h
 |some j=>
  rw[e] at h;obtain⟨d,c,f,h4⟩:=p0 e;exact⟨j,d,h,c,f,h4⟩
def wy{b:Type}{X:List b}{j:Nat}{v:b}(h:X[j]?=aw v):atI X (j:Int)=aw v:=by
 have c:j < X.length:=(Zb.mp h).1
 have e:ixN X.length (j:Int)=aw j:=by
  unfold ixN;rw[if_pos (by lia),if_pos (by lia)];simp
 unfold atI;rw[e];exact h
abbrev qb(b:Expr):Prop:=∀o i,subscripted b aS o i=operate [o,i] (getItem o i)
abbrev IxR(X:Cx)(r:R2):Prop:=
 ∀ (c b:Expr) (p:List (Addr × Obj)) (s:Shared) (d:St) (H:Hp) (x y:V) (v u:Value) (Q:VK),Inv X p d H s->aJ x v->aJ y u->r x y H Q ->
  subscripted b aS v u=operate [v,u] (getItem v u)->wpAny (model X.prog X.w) X.A (subscriptTail c b v u) (EP X p d Q) X.xe s
abbrev MtR(X:Cx)(id:String)(r:V->List V->Hp->VK->Prop):Prop:=
 ∀ (p:List (Addr × Obj)) (s:Shared) (b:St) (H:Hp) (x:V) (c:List V) (v:Value) (u:List Value) (Q:VK),Inv X p b H s->aJ x v->aO c u->r x c H Q ->
  wpAny (model X.prog X.w) X.A (call (.builtin id) (v::u)) (EP X p b Q) X.xe s
section
variable {X:Cx} {a b:Expr} {ta tb:TE} {pos:Pos}
def IxR.or{r n:R2}(h:IxR X r)(h':IxR X n):IxR X (λx y H Q=>r x y H Q\/n x y H Q):=by
 intro c d p s j H x y v u Q I k f q hs;rcases q with q |q
 ·exact h c d p s j H x y v u Q I k f q hs
 ·exact h' c d p s j H x y v u Q I k f q hs
def z6(B:IxR X r)(k:PE X a ta)(hb:PE X b tb)(hs:qb b):PE X (.Subscript a b pos) (tOp r ta tb):=by
 intro p s f H Q I h;exact Subscript_ (IV k hb I h λv u d x y j n z c q=>B a b p d f j x y v u Q n z c q (hs _ _))
abbrev Je(K:Vk):R2:=λx y H Q=>∃p c i v,x = .ref p/\y = .int i/\SqL K H p c/\atI c i=aw v/\Q v H
abbrev NT(K:Vk):R2:=λx y H Q=>∃p c i v,x = .ref p/\y = .int i/\SqT K H p c/\atI c i=aw v/\Q v H
abbrev NU:R2:=λx y H Q=>∃z i c,x = .str z/\y = .int i/\z.length<=sizeLine/\atI z.cps.toList i=aw c/\Q (.str ⟨#[c]⟩) H
def DU:IxR X (Je X.K):=by
 intro n E c s T H x y v u Q I rx ry h hs;obtain⟨p,xs,i,z,rfl,rfl,U,he,q⟩:=h;cases rx;obtain⟨t,rfl⟩:=ry;obtain⟨J,r,k,hz⟩:=I.list U;obtain⟨j,d,h2,h3,h4,Z⟩:=qa he;obtain⟨w,L,B⟩:=r.get h2;have Y:=r.length;have hn:=jx;have f:EP X c T Q w s:=⟨z,H,I,B,q⟩;by_cases O:0<=i
 ·have C:i.toNat=j:=by
   rw[Ue O Z] at d;exact Option.some.inj d
  exact item_listR k.isList O (by lia) (by rw[C];simpa using L) f hs
 ·have C:(i+(J.toArray.size:Int)).toNat=j:=by
   rw[Ud (by lia) h4] at d;rw[Zl,<-Y];exact Option.some.inj d
  exact subscriptTail_builtinR (x:=w) k.isList.typeIs slot_list_getitem.lookup
   (wpAny_getItem_list_neg (Q:=λr s'=>r=w/\EP X c T Q r s') k.isList (by lia) (by rw[Zl] <;> lia) (by lia) (by rw[C];simpa using L) ⟨rfl,f⟩) hs
def z7:IxR X (NT X.K):=by
 intro d k c s C H x y v u Q I T U h hs;obtain⟨p,xs,i,z,rfl,rfl,J,O,q⟩:=h;cases T;obtain⟨t,rfl⟩:=U;obtain⟨its,r,B,hz⟩:=I.tuple J;obtain⟨j,E,Y,h3,h4,h5⟩:=qa O;obtain⟨w,Z,f⟩:=r.get Y;have L:=r.length;have hn:=jx;have n:EP X c C Q w s:=⟨z,H,I,f,q⟩
 exact subscriptTail_builtinR (x:=w) B.typeIs slot_tuple_getitem.lookup
  (getItem_tuple (j:=j) (Q:=λr s'=>r=w/\EP X c C Q r s') B (by lia) (by lia) (by rw[Zl,<-L];exact E) (by simpa using Z) ⟨rfl,n⟩) hs
def Jf:IxR X NU:=by
 intro d f p s Z H x y v u Q I J L h hs;obtain⟨z,i,c,rfl,rfl,U,C,q⟩:=h;obtain⟨t,rfl⟩:=J;obtain⟨t',rfl⟩:=L;obtain⟨j,k,T,Y,h4,B⟩:=qa C;have n:z.cps.toList.length=z.length:=by simp[Str.length]
 rw[n] at k h4 B;have hn:=jx
 exact tail_any (typeIs_str s z t) slot_str_getitem.lookup (getItem_str (c:=c) (by
  have E:decide (i < -(2 ^ 63:Int))=aS:=decide_eq_false (by lia);have O:decide (i ≥ 2 ^ 63)=aS:=decide_eq_false (by lia);rw[E,O,Ww]) (by rw[k];simpa using T) ⟨.str ⟨#[c]⟩,H,I.tok _,⟨_,rfl⟩,q⟩) hs
abbrev rIx(K:Vk):R2:=λx y H Q=>Je K x y H Q\/NT K x y H Q\/NU x y H Q
def z8:IxR X (rIx X.K):=DU.or (z7.or Jf)
def ux(its:List Value)(n j:Nat)(u:Value):Obj.mapSeq (·.setIfInBounds j u) { cls:=.type "list", data:=.seq its.toArray n }={ cls:=.type "list", data:=.seq (its.set j u).toArray n }:=by
 simp[Obj.mapSeq]
def Inv.lst{c:List (Addr × Obj)}{f:St}{H:Hp}{s:Shared}{p:Addr}{d:List V}(I:Inv X c f H s)(h:H p=aw (.lst d)) :
  ∃ (its:List Value) (n:Nat),aO d its/\s.heap.get? p=aw { cls:=.type "list", data:=.seq its.toArray n }/\d.length<=sizeLine:=by
 obtain⟨z,its,n,r,e⟩:=I.hok p _ h;exact⟨its,n,r,e,z⟩
def Inv.lstUpd{c:List (Addr × Obj)}{k:St}{H:Hp}{s:Shared}{p:Addr}{z y:List V}{its its':List Value}{n d:Nat}{f:Obj->Obj}(I:Inv X c k H s)(h:H p=aw (.lst z))
  (ho:s.heap.get? p=aw { cls:=.type "list", data:=.seq its.toArray n }) (j:f { cls:=.type "list", data:=.seq its.toArray n }={ cls:=.type "list", data:=.seq its'.toArray d }) (r:aO y its') (v:y.length<=sizeLine) (t:Nat) :
  Inv X c k (upd H p (.lst y)) { s with heap:=s.heap.update p f,toks:=t }:=by
 have e:(s.heap.update p f).get? p=aw { cls:=.type "list", data:=.seq its'.toArray d }:=by
  rw[Yi f ho (by rw[j] <;> rfl),j]
 refine I.write (x:=p) (e:=p) (by rw[h];trivial) (.inl rfl) (λb u hb q=>(ZK _ _ (Ne.symm hb)).trans q) ⟨_,e⟩ ?_;exact⟨v,its',d,r,e⟩
abbrev NV:V->V->V->Hp->(Hp->Prop)->Prop:=λo i v H Q=>∃p c k j,o = .ref p/\i = .int k/\H p=aw (.lst c)/\ixN c.length k=aw j/\Q (upd H p (.lst (c.set j v)))
def z9:IM X NV:=by
 intro c s Z H o i v ov iv u Q I O U Y h;obtain⟨p,xs,k,j,rfl,rfl,B,T,q⟩:=h;cases O;obtain⟨t,rfl⟩:=U;obtain⟨d,n,r,ho,L⟩:=I.lst B;obtain⟨f,h2,E,h4⟩:=p0 T;have y:=r.length;have hn:=jx
 have C:Inv X c Z (upd H p (.lst (xs.set j v))) { s with heap:=s.heap.update p (Obj.mapSeq (·.setIfInBounds j u)) }:=
  I.lstUpd B ho (ux d n j u) (r.set Y j) (by rw[ZY];exact L) s.toks
 by_cases J:0<=k
 ·have z:k.toNat=j:=by
   rw[Ue J h4] at f;exact Option.some.inj f
  exact PySem.W.ki_setAt ho J (by lia) (by rw[Zl,<-y];exact h4) (by rw[z];exact⟨_,C,q⟩)
 ·have z:(k+(d.toArray.size:Int)).toNat=j:=by
   rw[Ud (by lia) E] at f;rw[Zl,<-y];exact Option.some.inj f
  exact PySem.W.ki_setBack ho (by lia) (by rw[Zl,<-y];exact E) (by lia) (by rw[z];exact⟨_,C,q⟩)
def qc(lo hi:Option Int)(n:Nat):(Ui lo hi aD n).1=((HT.sIx n 0 lo:Nat):Int)/\(Ui lo hi aD n).2.1=((HT.sIx n n hi:Nat):Int)/\(Ui lo hi aD n).2.2=1:=by
 refine⟨?_,?_,rfl⟩
 ·cases lo with
  |none=>simp[Ui,HT.sIx]
  |some i=>
   simp only[Ui,HT.sIx,Wd,show(1:Int) > 0 by decide,if_true];by_cases h:i < 0
   ·simp only[h,if_true] <;> lia
   ·simp only[h,if_false] <;> lia
 ·cases hi with
  |none=>simp[Ui,HT.sIx]
  |some i=>
   simp only[Ui,HT.sIx,Wd,show(1:Int) > 0 by decide,if_true];by_cases h:i < 0
   ·simp only[h,if_true] <;> lia
   ·simp only[h,if_false] <;> lia
def nW(its:List Value)(lo hi:Option Int):slicePick its.toArray lo hi aD=((its.drop (HT.sIx its.length 0 lo)).take (HT.sIx its.length its.length hi - HT.sIx its.length 0 lo)).toArray:=by
 obtain⟨h,c,d⟩:=qc lo hi its.toArray.size;unfold slicePick;rw[h,c,d];simp only[sliceRange_one,pick_run,Zl] <;> rfl
abbrev QE(K:Vk):V->Option Int->Option Int->Hp->VK->Prop:=λx lo hi H Q=>∃a c,x = .ref a/\SqL K H a c/\∀p,H p=aD->Q (.ref p) (upd H p (.lst (lW c lo hi)))
def DV:SlR X (QE X.K):=by
 intro p s C H x v E B lo hi sl Q I u hs n y h;obtain⟨a,c,rfl,j,q⟩:=h;cases u;obtain⟨k,r,f,z⟩:=I.list j;have d:=r.length;refine⟨"list", _,slot_list_getitem.lookup,f.isList.typeIs,?_⟩;refine Uz f.isList hs n y .none (by simp) ?_ (by rw[Zl] <;> lia);rw[nW,<-d];refine⟨.ref s.heap.objs.size,_,I.laid (t':=s.toks) (o:=.lst (lW c lo hi)) (λb ob q=>Zf _ q) (Ze _) ?_,rfl,q _ (I.hok.fresh (Ze _))⟩;exact⟨Z0 (j8 c lo hi) z,_,0,(r.drop (HT.sIx c.length 0 lo)).take (HT.sIx c.length c.length hi - HT.sIx c.length 0 lo),ZA _ rfl⟩
abbrev dW:V->Bool
 |.non=>aN
 |.bl _=>aN
 |.int _=>aN
 |.str _=>aN
 |_=>aS
abbrev eqV:V->V->Bool
 |.non,.non=>aN
 |.bl a,.bl b=>a == b
 |.bl a,.int b=>(if a then 1 else 0) == b
 |.int a,.bl b=>a == (if b then 1 else 0)
 |.int a,.int b=>a == b
 |.str a,.str b=>a == b
 |_,_=>aS
def Jg(d:aJ y u)(c:aJ x v)(f:dW y=aN)(fx:dW x=aN):Vb A s u v (eqV y x):=by
 cases y with
 |non=>
  cases d;cases x with
  |non=>cases c;exact SeqAt.EqAt.same _
  |bl b=>cases c;exact SeqAt.EqAt.none_bool b
  |int b=>obtain⟨t,rfl⟩:=c;exact SeqAt.EqAt.none_int b t
  |str b=>obtain⟨t,rfl⟩:=c;exact SeqAt.EqAt.none_str b t
  |_=>exact absurd (show aS=aN from fx) Zg
 |bl a=>
  cases d;cases x with
  |non=>cases c;exact SeqAt.EqAt.bool_none a
  |bl b=>cases c;exact SeqAt.EqAt.bool_bool a b
  |int b=>obtain⟨t,rfl⟩:=c;exact SeqAt.EqAt.bool_int a b t
  |str b=>obtain⟨t,rfl⟩:=c;exact SeqAt.EqAt.bool_str a b t
  |_=>exact absurd (show aS=aN from fx) Zg
 |int a=>
  obtain⟨T,rfl⟩:=d;cases x with
  |non=>cases c;exact SeqAt.EqAt.int_none a T
  |bl b=>cases c;exact SeqAt.EqAt.int_bool a T b
  |int b=>obtain⟨t,rfl⟩:=c;exact SeqAt.EqAt.int_int a T b t
  |str b=>obtain⟨t,rfl⟩:=c;exact SeqAt.EqAt.int_str a T b t
  |_=>exact absurd (show aS=aN from fx) Zg
 |str a=>
  obtain⟨T,rfl⟩:=d;cases x with
  |non=>cases c;exact SeqAt.EqAt.str_none a T
  |bl b=>cases c;exact SeqAt.EqAt.str_bool a T b
  |int b=>obtain⟨t,rfl⟩:=c;exact SeqAt.EqAt.str_int a T b t
  |str b=>obtain⟨t,rfl⟩:=c;exact SeqAt.EqAt.str_str a T b t
  |_=>exact absurd (show aS=aN from fx) Zg
 |_=>exact absurd (show aS=aN from f) Zg
abbrev eqU(x:V)(u:Value):Bool:=match u with
 |.none=>eqV .non x
 |.bool b=>eqV (.bl b) x
 |.int i _=>eqV (.int i) x
 |.str z _=>eqV (.str z) x
 |_=>aS
def uy(r:aJ y u)(f:dW y=aN):eqU x u=eqV y x:=by
 cases y with
 |non=>cases r;rfl
 |bl b=>cases r;rfl
 |int i=>obtain⟨t,rfl⟩:=r;rfl
 |str z=>obtain⟨t,rfl⟩:=r;rfl
 |_=>exact absurd (show aS=aN from f) Zg
def iV:∀ {c:List V} {U:List Value},aO c U->c.all dW=aN->U.any (eqU x)=c.any λy=>eqV y x
 |_,_,.nil,_=>rfl
 |y::c,u::U,.cons r t,f=>by
  rw[Yr,bAE] at f;rw[YI,YI,uy r f.1,iV t f.2]
def dX(d:aJ x v)(fx:dW x=aN):∀ {c:List V} {U:List Value},aO c U->c.all dW=aN->∀u ∈ U,Vb A s u v (eqU x u)
 |_,_,.nil,_=>λu hu=>by cases hu
 |y::c,u::U,.cons r t,f=>λh hu=>by
  rw[Yr,bAE] at f;rcases Zn.mp hu with rfl |hu
  ·rw[uy r f.1];exact Jg r d f.1 fx
  ·exact dX d fx t f.2 h hu
abbrev inV(x:V)(c:List V):Bool:=c.any λy=>eqV y x
abbrev rIn(K:Vk)(neg:Bool):R2:=λx y H Q=>∃p c,y = .ref p/\(SqL K H p c\/SqT K H p c)/\dW x=aN/\c.all dW=aN/\Q (.bl (if neg then !inV x c else inV x c)) H
def yi:OpR X (VQ .In) (rIn X.K aS):=by
 intro j s B H x y v u Q I k n h;obtain⟨p,C,rfl,hq,fx,fs,q⟩:=h;cases n;rcases hq with hq |hq
 ·obtain⟨c,r,f,z⟩:=I.list hq;refine Vf (eqU x) f.isList (λw d=>dX k fx r fs w (by simpa using d)) ⟨.bl _,H,I,rfl,?_⟩;rw[show c.toArray.any (eqU x)=c.any (eqU x) by simp,iV r fs];exact q
 ·obtain⟨c,r,f,z⟩:=I.tuple hq;refine Vg (eqU x) f (λw d=>dX k fx r fs w (by simpa using d)) ⟨.bl _,H,I,rfl,?_⟩;rw[show c.toArray.any (eqU x)=c.any (eqU x) by simp,iV r fs];exact q
def qd:OpR X (VQ .NotIn) (rIn X.K aN):=by
 intro j s B H x y v u Q I k n h;obtain⟨p,C,rfl,hq,fx,fs,q⟩:=h;cases n;rcases hq with hq |hq
 ·obtain⟨c,r,f,z⟩:=I.list hq;refine Vh (eqU x) f.isList (λw d=>dX k fx r fs w (by simpa using d)) ⟨.bl _,H,I,rfl,?_⟩;rw[show c.toArray.any (eqU x)=c.any (eqU x) by simp,iV r fs];exact q
 ·obtain⟨c,r,f,z⟩:=I.tuple hq;refine Vi (eqU x) f (λw d=>dX k fx r fs w (by simpa using d)) ⟨.bl _,H,I,rfl,?_⟩;rw[show c.toArray.any (eqU x)=c.any (eqU x) by simp,iV r fs];exact q
def qe:aR X (.builtin "len") (λk H Q=>∃p y,k=[.ref p]/\(SqL X.K H p y\/SqT X.K H p y)/\Q (.int y.length) H):=by
 intro n s B H k U Q I r h;obtain⟨p,y,rfl,hq,q⟩:=h;obtain⟨u,rfl,v⟩:=bR r;cases v;have C:=jx;rcases hq with hq |hq
 ·obtain⟨d,j,f,z⟩:=I.list hq;have c:=j.length;exact Calls.call_len_list f.isList (by simp only[Zl] <;> lia) ⟨.int y.length,H,I.tok _,⟨s.toks+1,by rw[Zl,c]⟩,q⟩
 ·obtain⟨d,j,f,z⟩:=I.tuple hq;have c:=j.length;exact len_tuple f (by simp only[Zl] <;> lia) ⟨.int y.length,H,I.tok _,⟨s.toks+1,by rw[Zl,c]⟩,q⟩
def qf:aR X (.type "list") (λJ H Q=>∃p y,J=[.ref p]/\(SqL X.K H p y\/SqT X.K H p y)/\∀l,H l=aD->Q (.ref l) (upd H l (.lst y))):=by
 intro v s T H J U Q I r h;obtain⟨p,y,rfl,hq,q⟩:=h;obtain⟨u,rfl,L⟩:=bR r;cases L
 have z:∀ (c:List Value),aO y c->y.length<=sizeLine->∀ (d:Heap) (C:Nat),(∀b O,s.heap.get? b=aw O->d.get? b=aw O) ->
   d.get? s.heap.objs.size=aw { cls:=.type "list", dict:=aD,data:=.seq c.toArray C,slots:=#[] }->EP X v T Q (.ref s.heap.objs.size) { s with heap:=d }:=λc f j d C kp e=>
  ⟨.ref s.heap.objs.size,_,I.laid (t':=s.toks) kp (Ze _) (show bp X.prog X.w _ d _ (.lst y) from ⟨j,c,C,f,e⟩),rfl,q _ (I.hok.fresh (Ze _))⟩
 rcases hq with hq |hq
 ·obtain⟨c,f,B,j⟩:=I.list hq;have k:=f.length;obtain⟨o,ho,E,n,hd⟩:=B.isList;exact call_list_seq p (.inl rfl) ho E hd (λd C kp e=>z c f j d C kp e) (by simp only[Zl] <;> lia)
 ·obtain⟨c,f,B,j⟩:=I.tuple hq;have k:=f.length;obtain⟨o,ho,E,n,hd⟩:=B;exact call_list_seq p (.inr rfl) ho E hd (λd C kp e=>z c f j d C kp e) (by simp only[Zl] <;> lia)
def nX:aR X (.type "tuple") (λC H Q=>∃p y,C=[.ref p]/\((SqL X.K H p y/\∀l,H l=aD->Q (.ref l) (upd H l (.tup y)))\/(SqT X.K H p y/\Q (.ref p) H))):=by
 intro c s E H C U Q I r h;obtain⟨p,y,rfl,h⟩:=h;obtain⟨u,rfl,L⟩:=bR r;cases L;rcases h with ⟨k,q⟩ |⟨k,q⟩
 ·obtain⟨d,n,j,v⟩:=I.list k;have z:=n.length;refine call_tuple_list j.isList (λf kp=>?_) (by simp only[Zl] <;> lia);have B:Inv X c E H { s with heap:=f }:=I.kept (t':=s.toks) kp
  have J:Inv X c E (upd H f.objs.size (.tup y)) { s with heap:=f.push { cls:=.type "tuple", data:=.seq d.toArray } }:=
   B.laid (t':=s.toks) (λb o e=>Zf _ e) (Ze _) (show bp X.prog X.w _ _ _ (.tup y) from ⟨v,d,n,pU.new _ _⟩)
  exact⟨.ref f.objs.size,_,J,rfl,q _ (B.hok.fresh (Ze _))⟩
 ·obtain⟨d,n,j,v⟩:=I.tuple k;exact call_tuple_same j ⟨.ref p,H,I,rfl,q⟩
abbrev tyV(K:Vk)(T:String)(x:V)(H:Hp):Prop:=match x with
 |.str _=>T = "str"
 |.int _=>T = "int"
 |.ref p=>(T = "list"/\∃c,SqL K H p c)\/(T = "tuple"/\((∃o,K.lookup p=aw o/\o.cls = .type "tuple"/\o.dict=aD)\/∃c,H p=aw (.tup c))) ∨
   (T = "dict"/\((∃k,H p=aw (.dK k))\/∃k,H p=aw (.dT k)))\/(T = "set"/\∃S n,H p=aw (.set S n))
 |_=>False
def Jh(I:Inv X j B H s)(r:aJ x v)(ty:tyV X.K T x H) :
  s.TypeIs v T/\∀a,v = .ref a->∃ob,s.heap.get? a=aw ob/\ob.dict=aD:=by
 cases x with
 |str z=>
  obtain⟨t,rfl⟩:=r;cases (show T = "str" from ty);exact⟨typeIs_str s z t,λ_ e=>nomatch e⟩
 |int i=>
  obtain⟨t,rfl⟩:=r;cases (show T = "int" from ty);exact⟨typeIs_int s i t,λ_ e=>nomatch e⟩
 |ref p=>
  cases r;rcases ty with ⟨rfl,u,y⟩ |⟨rfl,⟨o,h,d,hd⟩ |⟨u,h⟩⟩ |⟨rfl,h⟩ |⟨rfl,S,n,h⟩
  ·obtain⟨f,_,q,_⟩:=I.list y;refine⟨q.isList.typeIs,λa e=>?_⟩;cases e;obtain⟨o,n,e,c,hd,_⟩:=q;exact⟨o,e,hd⟩
  ·refine⟨⟨o,I.kIn p o h,d⟩,λa e=>?_⟩;cases e;exact⟨o,I.kIn _ o h,hd⟩
  ·obtain⟨_,f,_,o,e,d,_,_,hd⟩:=I.hok p _ h;refine⟨⟨o,e,d⟩,λa E=>?_⟩;cases E;exact⟨o,e,hd⟩
  ·have z:∃o,s.heap.get? p=aw o/\o.ExactDict:=by
    rcases h with ⟨k,h⟩ |⟨k,h⟩
    ·obtain⟨_,_,_,_,o,_,_,e,ex,_⟩:=I.hok p _ h;exact⟨o,e,ex⟩
    ·obtain⟨_,_,_,_,o,_,_,e,ex,_⟩:=I.hok p _ h;exact⟨o,e,ex⟩
   obtain⟨o,e,ex⟩:=z;refine⟨⟨o,e,ex.1⟩,λa E=>?_⟩;cases E;exact⟨o,e,ex.2.1⟩
  ·obtain⟨o,_,_,_,e,ex,_⟩:=I.hok p _ h;refine⟨⟨o,e,ex.1⟩,λa E=>?_⟩;cases E;exact⟨o,e,ex.2.1⟩
 |_=>exact False.elim ty
abbrev tBM(K:Vk)(T:String)(r:V->List V->Hp->VK->Prop)(j:TE)(t:TA):TE:=λc H Q=>j c H λx h=>tyV K T x h/\t c h λf d=>r x f d Q
variable {o e:Expr} {es:List Expr} {to:TE} {t:TA} {name:Str} {apos cpos:Pos} {T id:String} {r:V->List V->Hp->VK->Prop}
def Aa(C:PlainAttrs T)(slot:Slot T name id)(k:typeOf (.builtin id)=pure (.type "method_descriptor"))(L:MtR X id r)(ho:PE X o to)(ha:PA X (e::es) t)
  (f:attributeBase o name X.env (eval o X.env)=eval o X.env:=by rfl)
  (j:((backTo cpos (Uj (e::es) X.env)).all (λx=>!x.1) && (VE cpos (VZ [] X.env)).all (λx=>x.1.isSome)
   && decide ((e::es).length+([]:List Keyword).length+(if ([]:List Keyword).isEmpty then 0 else 1) < 30))=aN:=by rfl)
  (d:(apos.endLine == cpos.line)=aN:=by rfl) (hs:Uj (e::es) X.env=(aS,eval e X.env)::Uj es X.env:=by rfl) (c:(backTo cpos (Uj es X.env)).any (·.1)=aS:=by rfl) :
  PE X (.Call (.Attribute o name apos) (e::es) [] cpos) (tBM X.K T r to t):=by
 intro p s n H Q I h;refine wpAny_Call_method_late f j d rfl (thn (ho p s n H _ I h) λv B ⟨x,z,u,r1,ty,q1⟩=>?_);obtain⟨y,h2⟩:=Jh u r1 ty;refine⟨T,id,C,slot,k,y,h2,?_⟩;have q:=ha cpos p B n z _ u q1;rw[hs] at q ⊢;refine Calls.callWith_builtin (by show(aS || (backTo cpos (Uj es X.env)).any (·.1))=aS;rw[c] <;> rfl) (Calls.evalArgs_plain ?_);exact thn q λU Z ⟨J,E,O,r2,Y⟩=>L p Z n E x J v U Q O r1 r2 Y
end
abbrev MtM(X:Cx)(id:String)(r:V->List V->Hp->VK->Prop):Prop:=
 ∀ (p:List (Addr × Obj)) (s:Shared) (b:St) (H:Hp) (x:V) (c:List V) (v:Value) (u:List Value) (Q:VK),Inv X p b H s->aJ x v->aO c u->r x c H Q ->
  wpAny (model X.prog X.w) X.A (call (.builtin id) (v::u)) (EP X p b Q) X.xe s
def aO.one:∀ {x:V} {U:List Value},aO [x] U->∃u,U=[u]/\aJ x u
 |_,_,.cons r .nil=>⟨_,rfl,r⟩
def aO.eraseIdx:∀ {X:List V} {u:List Value} (i:Nat),aO X u->aO (X.eraseIdx i) (u.eraseIdx i)
 |_,_,_,.nil=>.nil
 |_,_,0,.cons _ t=>t
 |_,_,i+1,.cons r t=>.cons r (aO.eraseIdx i t)
def aO.rep(h:aO X u):∀k:Nat,aO (Zx k X).flatten (Zx k u).flatten
 |0=>.nil
 |k+1=>by
  rw[Yg,Yg,Yv,Yv];exact aO.append h (aO.rep h k)
def oz{b:Type}:∀ (l:List b) (i:Nat),(l.eraseIdx i).length<=l.length
 |[],_=>Ze _
 |_::_,0=>YD _
 |_::r,i+1=>We (oz r i)
def oB(its:List Value):∀ (k:Nat) (b:List Value),
  Ws (λc X=>c++X) b.toArray (Zx k its.toArray)=(b++(Zx k its).flatten).toArray
 |0,b=>by simp
 |k+1,b=>by
  have e:b.toArray++its.toArray=(b++its).toArray:=by simp
  have E:(b++its)++(Zx k its).flatten=b++(Zx (k+1) its).flatten:=by
   rw[Yg,Yv,Z2]
  rw[<-E,<-oB its k (b++its),<-e,Yg,Wn]
section
variable {X:Cx} {pins:List (Addr × Obj)} {σ:St} {H:Hp} {s:Shared} {l b:Addr} {xs ys zs:List V}
def Inv.lset{its its':List Value}{n:Nat}{f:Array Value->Array Value}{t':Nat}(I:Inv X pins σ H s)(j:H l=aw (.lst xs))
  (e:s.heap.get? l=aw { cls:=.type "list", data:=.seq its.toArray n }) (c:f its.toArray=its'.toArray) (d:aO ys its') (k:ys.length<=sizeLine) :
  Inv X pins σ (upd H l (.lst ys)) { s with heap:=s.heap.update l (Obj.mapSeq f),toks:=t' }:=by
 have q:=PySem.IsL.update e f;rw[c] at q;refine I.write (x:=l) (e:=l) (by rw[j];exact trivial) (.inl rfl) (λB u hb h=>(ZK s.heap (Obj.mapSeq f) (Ne.symm hb)).trans h) ⟨_,q⟩ ?_;exact⟨k,its',_,d,q⟩
def Inv.lnew{t':Nat}(I:Inv X pins σ H s)(h:aO ys its)(c:ys.length<=sizeLine) :
  Inv X pins σ (upd H s.heap.objs.size (.lst ys)) { s with heap:=s.heap.push { cls:=.type "list", data:=.seq its.toArray },toks:=t' }:=
 I.laid (λ_ _ q=>Zf _ q) (Ze _) ⟨c,its,0,h,ZA _ rfl⟩
def Inv.fresh(I:Inv X pins σ H s):H s.heap.objs.size=aD:=I.hok.fresh (Ze _)
def Inv.lstM(I:Inv X pins σ H s)(h:H l=aw (.lst xs)):xs.length<=sizeLine/\∃ (its:List Value) (n:Nat),aO xs its/\xs.length=its.length/\s.heap.get? l=aw { cls:=.type "list", data:=.seq its.toArray n }:=by
 obtain⟨z,its,n,r,e⟩:=I.hok l _ h;exact⟨z,its,n,r,r.length,e⟩
def Ab{n:Nat}(h:n<=sizeLine):Builtin.List.listTooLong n=aS:=by
 unfold Builtin.List.listTooLong;exact decide_eq_false (by lia)
end
section
variable {X:Cx}
abbrev DW:V->List V->Hp->VK->Prop:=λx v H Q=>∃l b y,x = .ref l/\v=[y]/\H l=aw (.lst b)/\b.length < sizeLine/\Q .non (upd H l (.lst (b++[y])))
def oC:MtM X "list.append" DW:=by
 intro p s E H x C v U Q I d f h;obtain⟨l,J,y,rfl,rfl,c,k,q⟩:=h;cases d;obtain⟨u,rfl,j⟩:=f.one;obtain⟨z,b,n,r,B,e⟩:=I.lstM c;refine VM W1 ⟨_,e,rfl⟩ F.entry_list_append (F.args_list_append_2 _ _) (PySem.list_append l b.toArray n u (by rw[Zl];lia)) ⟨e,?_⟩;refine⟨.non,_,I.lset (its':=b++[u]) c e (by simp) (r.append (.cons j .nil)) ?_,rfl,q⟩;rw[Zh,Zr]
 lia
abbrev Ji:V->List V->Hp->VK->Prop:=λx v H Q=>∃l b i k y,x = .ref l/\v=[.int i]/\H l=aw (.lst b)/\-(2 ^ 63)<=i/\i < 2 ^ 63/\seqIndex? i b.length=aw k/\b[k]?=aw y/\Q y (upd H l (.lst (b.eraseIdx k)))
def Ac:MtM X "list.pop" Ji:=by
 intro p s σ H x Z v Y Q I J L h;obtain⟨l,T,i,k,y,rfl,rfl,d,f,O,C,E,q⟩:=h;cases J;obtain⟨u,rfl,U⟩:=L.one;obtain⟨t,rfl⟩:=U;obtain⟨z,b,n,r,j,e⟩:=I.lstM d;obtain⟨w,B,c⟩:=r.get E
 refine VM W2 ⟨_,e,rfl⟩ F.entry_list_pop (F.args_list_pop_2 _ _)
  (MeetsSeq.list_pop_at l b.toArray n i t k w (fitsIndex_both f O) (by rw[Zl,<-j];exact C) (by rw[<-Array.getElem?_toList];exact B) (by rw[Zl];lia)) ⟨e,?_⟩
 refine⟨y,_,I.lset (its':=b.eraseIdx k) d e ?_ (r.eraseIdx k) ?_,c,q⟩
 ·show b.toArray.eraseIdxIfInBounds k=(b.eraseIdx k).toArray;rw[List.eraseIdxIfInBounds_toArray]
 ·have:=oz T k
  lia
abbrev QF:R2:=λx y H Q=>∃l b c z,x = .ref l/\y = .ref b/\H l=aw (.lst c)/\H b=aw (.lst z)/\c.length+z.length<=sizeLine/\∀p,H p=aD->Q (.ref p) (upd H p (.lst (c++z)))
def Jj:OpR X (VG .Add) QF:=by
 intro p s U H x y v u Q I k B h;obtain⟨l,b,Y,zs,rfl,rfl,J,f,O,q⟩:=h;cases k;cases B;obtain⟨z,d,n,r,T,e⟩:=I.lstM J;obtain⟨Z,c,L,r2,j,C⟩:=I.lstM f;refine PySem.P.add_list e C ?_ (by rw[Zl,Zl];lia);have E:d.toArray++c.toArray=(d++c).toArray:=by simp
 rw[E];exact⟨.ref _,_,I.lnew (t':=s.toks) (r.append r2) (by rw[Zh];lia),rfl,q _ I.fresh⟩
abbrev QG:R2:=λx y H Q=>∃l k b,x = .ref l/\y = .int k/\H l=aw (.lst b)/\-(2 ^ 63)<=k/\k < 2 ^ 63/\b.length * k.toNat<=sizeLine ∧
 ∀p,H p=aD->Q (.ref p) (upd H p (.lst (Zx k.toNat b).flatten))
def DX{c:Type}(b:List c)(k:Nat):(Zx k b).flatten.length=k * b.length:=by
 induction k with
 |zero=>simp
 |succ k I=>rw[Yg,Yv,Zh,I,X9,Nat.add_comm]
def Jk:OpR X (VG .Mult) QG:=by
 intro J s σ H x y v u Q I Z ry h;obtain⟨l,k,xs,rfl,rfl,hH,L,h2,E,q⟩:=h;cases Z;obtain⟨t,rfl⟩:=ry;obtain⟨z,b,n,r,O,e⟩:=I.lstM hH;have j:b.toArray.size * k.toNat<=sizeLine:=by rw[Zl,<-O];exact E
 have f:¬ b.toArray.size * k.toNat > (2 ^ 63 - 1) / 8:=by
  have:(sizeLine:Nat)<=(2 ^ 63 - 1) / 8:=by decide
  lia
 have d:¬ (!Builtin.List.listFitsIndex k)=aN:=by
  rw[fitsIndex_both L h2];exact Zg
 have c:¬ Builtin.List.listTooLong (b.toArray.size * k.toNat)=aN:=by
  rw[Ab j];exact Zg
 have p:Ws (λC B=>C++B) #[] (Zx (if b.toArray.isEmpty=aN then 0 else k.toNat) b.toArray)=(Zx k.toNat b).flatten.toArray:=by
  have Y:∀m:Nat,Ws (λC B=>C++B) #[] (Zx m b.toArray)=(Zx m b).flatten.toArray:=λm=>by
   have:=oB b m [];rw[XC] at this;exact this
  rw[Y];cases b with
  |nil=>simp
  |cons a r'=>rw[if_neg (by simp)]
 refine wpAny_binaryOp_repeat_ref (T := "list") (U := "int") (by decide) ⟨_,e,rfl⟩ (λs'=>typeIs_int s' k t) noFill_list_mul F.fills_int_mul F.slot_int_rmul repeat_list F.slot_int_index.lookup
  (VM F.slot_int_rmul (typeIs_int s k t) F.entry_int_rmul (F.args_int_rmul_2 _ _) (int___rmul___int_list k t l b.toArray n)
   ⟨e,rfl,⟨_,e,rfl⟩,VM F.slot_list_mul ⟨_,e,rfl⟩ F.entry_list_mul (F.args_list_mul_2 _ _) (AutoListH.list___mul___list_int_3 l b.toArray n k t d f c) ⟨e,?_⟩⟩)
 rw[p];exact⟨.ref _,_,I.lnew (t':=s.toks) (r.rep k.toNat) (by rw[DX,Nat.mul_comm];exact E),rfl,q _ I.fresh⟩
end
end L2
namespace Att
open PySem PySem.W PySem.Calls PyProof.Rows
def kI:∀ (ns:List Int) (v:List Value),WellAll P h v (ns.map WData.int)->IntsAre v ns:=by
 intro ns
 induction ns with
 |nil=>
  intro v w;rw[Yn] at w;cases w;exact .nil
 |cons n ns I=>
  intro v w;rw[Zw] at w;cases w with
  |cons a b=>
   cases a;exact .cons _ _ (I _ b)
def yj{l:OpenLaw}{n:Nat}(I:l.most=aw n){P:Params}{h:Heap}{args:List WData}{v:List Value}
  (b:l.row.toRowW.claim.pre args=aN) (p:WellAll P h v args) :
  ∃a y ns,v=[Value.ref a]/\args=[WData.list (ns.map WData.int)]/\h.get? a=aw { cls:=.type "list", data:=.seq y.toArray }/\IntsAre y ns/\ns.length<=n:=by
 have k:WShape.hasAll [] args [.list .int]=aN:=(pre_splitW b).1;have u:l.pre.holds [] { args:=args }=aN:=(pre_splitW b).2;obtain⟨d,r,rfl,z,E⟩:=hasAllW_cons k;obtain rfl:=hasAllW_nil E;obtain⟨X,rfl,C⟩:=hasW_list z;obtain⟨ns,rfl⟩:=items_int C
 have c:ns.length<=n:=by
  unfold OpenLaw.pre at u
  have h4:(WTm.not (.lt (.lit (.int (n:Int))) (.len (.arg 0)))).holds [] { args:=[.list (ns.map .int)] }=aN:=by
   have h4:=(holds_andW u).1;rw[I] at h4;exact h4
  have j:=condW_of h4 (w_not (w_lt w_lit (w_len_list (w_arg rfl))));rw[Za] at j;refine Nat.le_of_not_lt λq=>?_;have Q:(n:Int) < ((ns.length:Nat):Int):=by lia
  first
   |(rw[decide_eq_true Q] at j;exact absurd j (by decide))
   |(simp at j;lia)
 cases p with
 |cons B w2=>
  cases w2;cases B with
  |list ho f=>exact⟨_,_,ns,rfl,rfl,ho,kI ns _ f,c⟩
def yk(l:OpenLaw)(args:List WData):l.row.toRowW.claim.post args (.bool aN) args=aN:=
 postW_of (r:=l.row.toRowW) (X:=(aN == aN))
  (show WShape.has [] (.bool aN) .bool=aN by first |rfl |decide |simp[WShape.has,WShape.arms,WShape.armsAll])
  (show(WTm.eq .res (.lit (.bool aN))).value [] { args:=args,res:=aw (.bool aN),after:=args }=aw (.bool (aN == aN)) from w_eq_bool (w_res rfl) w_lit) rfl
def attach_call{l:OpenLaw}{n:Nat}{q:Program}{loose:List Str}{X:(Str->Option Value)->Heap->Prop}{U:World->Heap->Prop}{d:DefRec}
  (hn:l.most=aw n) (I:d.params.defaults=[])
  (call:∀ (w:World) (s₀ b:Shared) (mg B:Str->Option Value) (p:Addr) (o:Obj) (pm C c:Value) (a:Addr) (v:List Value) (ns:List Int),
   Ground q loose [] X w s₀ mg B b.heap->U w b.heap ->
   b.heap.get? p=aw o->o.data = .func (docDef d.name d.params d.body d.scope pm C c)->b.heap.CodeRec C d.name->mg d.name=aw (.ref p) ->
   b.heap.get? a=aw { cls:=.type "list", data:=.seq v.toArray }->IntsAre v ns->ns.length<=n->b.gens=#[] ->
   codeAny (model l.prog w) callerA (.call (.ref p) ⟨[.ref a],[]⟩) (λr y=>r = .ok (.ret (.bool aN))/\OldK b.heap y.heap/\y.os=b.os/\AllBare y.gens) b) :
  WalkO q loose X U l.row.toRowW d [] (λf v=>PySem.call f v):=by
 intro w s₀ b mg B G Y p o pm C c dV kV ho hd J T z hg L Q as k O hrd E Z;obtain rfl:dV = .none:=Dflts.none T I;obtain rfl:kV = .none:=Dflts.noKw T;obtain⟨a,v,ns,rfl,rfl,u,h,j⟩:=yj hn k E;refine enter_call (VP (call w s₀ b mg B p o pm C c a v ns G Y ho (fd_plain hd) J z u h j hg) λr y hq=>?_);obtain⟨rfl,h2,h3,h4⟩:=hq;exact⟨.inl ⟨.bool aN,.bool aN,[],rfl,λ_=>rfl,.bool aN,yk l _,λ_=>⟨List.Pairwise.nil,λ_ hm=>(nomatch hm)⟩⟩,h2,h3,h4⟩
end Att
namespace L2
open PySem PySem.Spec PyProof.Rows
def jA:∀ {v:List Value} {ns:List Int},IntsAre v ns->aO (ns.map V.int) v
 |_,_,.nil=>.nil
 |_,_,.cons n t h=>.cons ⟨t,rfl⟩ (jA h)
abbrev NW(H:Hp):Prop:=∀b,H b=aD\/∃o X,H b=aw (.frz o (.lst X))
def Ae{P:Program}{w:World}{K:Vk}{mg U:Str->Option Value}{CX:CXT}{k:Nat}{fa a:Addr}{fd:W7}{x:Str}{sp:Sp}{s₁:Shared}{j:List Value}{ns:List Int}
  (KX:K.In s₁.heap) (O:s₁.heap.Ns V1 mg) (hb:s₁.heap.Ns VJ U) (hbb:∀x:Str,x ≠ "__name__"->U x=VI x) (E:s₁.heap.NoLimit) (hg:s₁.gens=#[])
  (Q:s₁.heap.get? a=aw { cls:=.type "list", data:=.seq j.toArray }) (hi:IntsAre j ns) (hl:ns.length<=sizeLine) (hr:Room k callerA)
  (F:∀base:Heap,K.In base->base.Ns V1 mg->FnOk P w K mg base CX k fa fd [x] sp) (p:∀ (s:Shared) (u:Value),BindsTo s fd ⟨[u],[]⟩ [(x,u)])
  (hsp:∀H:Hp,NW H->SqL K H a (ns.map V.int)->sp [.ref a] H (λv _=>v = .bl aN) λ_ _ _=>False)
  (hCX:∀H e c,CX [] H s₁ (λ_ _ _=>False) e c->False) :
  codeAny (model P w) callerA (.call (.ref fa) ⟨[.ref a],[]⟩) (λr c=>r = .ok (.ret (.bool aN))/\OldK s₁.heap c.heap/\c.os=s₁.os/\AllBare c.gens) s₁:=by
 have rv:=jA hi;have L:=hi.length
 have C:∀H:Hp,NW H->SqL K H a (ns.map V.int)->HOk P w H s₁.heap->(∀b,H b ≠ aD->b=a)->(H a ≠ aD->K.lookup a=aD) ->
   codeAny (model P w) callerA (.call (.ref fa) ⟨[.ref a],[]⟩) (λr c=>r = .ok (.ret (.bool aN))/\OldK s₁.heap c.heap/\c.os=s₁.os/\AllBare c.gens) s₁:=by
  intro H hO hS hok hA hK;have B:∀ {b:Addr} {o:Obj},s₁.heap.get? b=aw o->H b=aD->(pW s₁.heap H).get? b=aw o:=λe n=>zH e n
  have T:∀ {b:Addr} {o:Obj} {I:Array DictEntry} {ep:Nat},s₁.heap.get? b=aw o->o.data = .dict I ep->H b=aD:=λ{b o I ep} e d=>by
   cases q:H b with
   |none=>rfl
   |some u=>
    have X:b=a:=hA b (by rw[q];simp);subst X;rw[Q] at e;cases e;have d':Data.seq j.toArray _=Data.dict I ep:=d;cases d'
  have f:∀ {b:Addr} {m:Str->Option Value},s₁.heap.Ns b m->(pW s₁.heap H).Ns b m:=λ{b m} ⟨o,I,ep,e,d,r⟩=>⟨o,I,ep,B e (T e d),d,r⟩
  have y:K.In (pW s₁.heap H):=λb o e=>B (KX b o e) (by
   cases q:H b with
   |none=>rfl
   |some u=>
    have X:b=a:=hA b (by rw[q];simp);subst X;rw[hK (by rw[q];simp)] at e;cases e)
  have hM:Mod K mg (pW s₁.heap H):=⟨y,f O,⟨U,f hb,hbb⟩,let ⟨mc,h1,h2⟩:=E;⟨mc,f h1,h2⟩⟩;have e0:Env0 P w K mg (pW s₁.heap H) callerA [] s₁ H:=⟨rfl,hM,λb o e=>DB e,Nat.le_of_eq (x5 _ _),trivial,λb hb=>absurd (show b ∈ ([]:List Addr) from hb) (by simp),hok,.of_eq hg⟩;refine VP ((F _ y (f O)).run callerA [] s₁ H ⟨[.ref a],[]⟩ [.ref a] [.ref a] _ _ hr e0 (p s₁ (.ref a)) (.cons rfl .nil) (hsp H hO hS)) λr c h=>?_;cases r with
  |error e=>exact(hCX H e c h).elim
  |ok fl=>
   cases fl with
   |next=>exact False.elim h
   |brk=>exact False.elim h
   |cont=>exact False.elim h
   |ret u=>
    obtain⟨v,H',os,bare,un,J,r',q⟩:=h;have q':v = .bl aN:=q;subst q';obtain rfl:u=Value.bool aN:=r';refine⟨rfl,OldK.of_keep λb o e=>?_,os,bare⟩;cases q:H b with
    |none=>exact un.keep b o e q (by intro z;exact absurd (show b ∈ ([]:List Addr) from z) (by simp)) (by simp)
    |some u=>
     rcases hO b with z |⟨ob,xs,z⟩
     ·rw[q] at z;cases z
     ·have z2:=un.frzs b ob _ z;obtain⟨e1,_⟩:=hok b _ z;obtain⟨e2,_⟩:=J b _ z2;rw[e] at e1;cases e1;exact e2
 cases Y:K.lookup a with
 |some o=>
  have e:=KX a o Y;rw[Q] at e;cases e;refine C (λ_=>aD) (λ_=>.inl rfl) (.inr ⟨_,j.toArray,_,Y,rfl,rfl,rfl,by rw[Zl,L];exact hl,by simpa using rv⟩) (λb u z=>by have Z:(aD:Option HO)=aw u:=z;cases Z) (λb z=>absurd rfl z) λz=>absurd rfl z
 |none=>
  refine C (λb=>if b=a then aw (.frz { cls:=.type "list", data:=.seq j.toArray } (.lst (ns.map V.int))) else aD) (λb=>?_) (.inl (.inr ⟨{ cls:=.type "list", data:=.seq j.toArray },if_pos rfl⟩)) (λb u z=>?_) (λb z=>?_) λ_=>Y
  ·by_cases hb:b=a
   ·exact .inr ⟨_,_,if_pos hb⟩
   ·exact .inl (if_neg hb)
  ·by_cases hb:b=a
   ·have Z:=(if_pos hb).symm.trans z;cases Z;subst hb;exact⟨Q,by rw[Za];exact hl,j,_,rv,Q⟩
   ·have Z:=(if_neg hb).symm.trans z;cases Z
  ·by_cases hb:b=a
   ·exact hb
   ·exact absurd (if_neg hb) z
@[inline]abbrev CX0:CXT:=λ_ _ _ _ _ _=>False
@[inline]abbrev E0:XK:=λ_ _ _=>False
def Hw:ur CX0 X E0:=λ_ _ _ _ _ _ _ h=>h.elim
structure Fun(K:Vk)(x qual:Str)(st:Stmt)(f:Addr)(fd:W7):Prop where
 ex:∃ (oc:Value) (od:Option Addr) (kV doc pm:Value) (an:Option Addr) (cdv ct:Value) (osl:Array (Option Value)),
  fd=Vp x qual (dh st) (bU st) (bf st) .none kV doc pm an cdv ct/\K.lookup f=aw ⟨oc,od,.func fd,osl⟩/\Vn K cdv qual=aN
 kp:Vs K (.ref f)=aN
section
variable {P:Program} {w:World} {K:Vk} {mg:Str->Option Value} {base:Heap}
def Fun.ok{x b:Str}{st:Stmt}{f:Addr}{p:W7}{N ps:List Str}{k:Nat}{sp:Sp}(F:Fun K x b st f p)(S:FnScope N ps (bf st))(len:∀v H Q E,sp v H Q E->v.length=ps.length)
  (d:∀ (c:Value) (A:Around) (outer:List Env) (s:Shared) (H:Hp) (v:List V) (Q:VK) (E:XK),Room k (A.deeper (envOfC b (bf st) s.heap.objs.size f c))->sp v H Q E ->
   ∃t,PSs (ut CX0 P w K mg base N b (bf st) f c A outer s H E).nox (bU st) t/\t { nx:=λ_ u=>Q .non u,rt:=Q } (hJ N v) H):FnOk P w K mg base CX0 (k+1) f p ps sp:=by
 obtain⟨I,C,kV,z,pm,B,c,ct,O,rfl,L,j⟩:=F.ex;refine NR L j S len λA outer s H v Q E y n=>?_;obtain⟨t,h,q⟩:=d c A outer s H v Q E y n;exact⟨t,h.nox,q⟩
def Fun.binds{x q:Str}{st:Stmt}{f:Addr}{j:W7}{ps:List Str}(F:Fun K x q st f j)
  (h:∀ (kV d pm:Value) (b:Option Addr) (c ct:Value) (u:List Value),u.length=ps.length->bindArgs (Vp x q (dh st) (bU st) (bf st) .none kV d pm b c ct) ⟨u,[]⟩=pure (ps.zip u)):iS K j ps []:=by
 obtain⟨p,n,kV,d,pm,b,c,ct,O,rfl,L,k⟩:=F.ex;exact .all (h kV d pm b c ct)
def Jl{x qual:Str}{st:Stmt}{f:Addr}{h:Value}{j b:Option Addr}{O:Array (Option Value)}{kV d pm C ct:Value}(l:K.lookup f=aw ⟨h,j,.func (Vp x qual (dh st) (bU st) (bf st) .none kV d pm b C ct),O⟩)
  (c:Vn K C qual=aN) (k:Vs K (.ref f)=aN):Fun K x qual st f (Vp x qual (dh st) (bU st) (bf st) .none kV d pm b C ct):=⟨⟨h,j,kV,d,pm,b,C,ct,O,rfl,l,c⟩,k⟩
end
def ym{n:Nat}(h:n<=1000):n < sizeLine:=Nat.lt_of_le_of_lt h (by decide)
abbrev qg(ifs:List Expr)(env:Env):Sem Bool:=
 forIn ifs aN λc r=>if r=aN then do let ok <-isTrue c env (eval c env);pure (ForInStep.yield ok) else pure (ForInStep.yield r)
def DY{d:Nat}
  (hg:b[d]?=aw ⟨T,J,ifs,0⟩)
  (h:wpAny M A (pyNext I) (λr z=>match r with
   |none=>Q (.done .next) z
   | some v=>wpAny M A (V0 T I v) (λ_ O=>wpAny M A (assign T env v) (λ_ L=>wpAny M A (qg ifs env) (λok u=>if ok=aN then (match b[d+1]? with
     |none=>wpAny M A (eval f env) (λx k=>wpAny M A (call (.builtin "list.append") [j,x]) (λ_ n=>Q (.again (.compLoop (.ListComp f b c p) d I j env)) n) E k) E u
     | some g'=>g'.is_async=0/\wpAny M A (eval g'.iter env) (λx k=>wpAny M A (VV g'.iter env x) (λZ n=>wpAny M A (pyIter Z) (λq U=>
       wpAny M A (runOwn (.compStart (.ListComp f b c p) (d+1) q j env) env) (λ_ X=>Q (.again (.compLoop (.ListComp f b c p) d I j env)) X) E U) E n) E k) E u)
    else Q (.again (.compLoop (.ListComp f b c p) d I j env)) u) E L) E O) E z) E s) :
  wpAny M A (compTurn (.ListComp f b c p) d I j env) Q E s:=by
 unfold compTurn;simp only[hg];refine Us (UU ?_);show wpAny M A (pyNext I >>= _) Q E s;refine Us (UE h (λr z C=>?_) λ_ _ x=>x);cases r with
 |none=>exact UI C
 |some v=>
  refine Us (UE C (λ_ O h2=>?_) λ_ _ x=>x);refine Us (UE h2 (λ_ L h3=>?_) λ_ _ x=>x);refine Us (UE h3 (λok u h4=>?_) λ_ _ x=>x);cases ok with
  |false=>exact UI h4
  |true=>
   simp only[if_true] at h4 ⊢;cases Y:b[d+1]? with
   |none=>
    rw[Y] at h4;refine Us (Us (UE h4 (λx k B=>?_) λ_ _ x=>x));exact Us (UE B (λ_ n y=>UI (UI y)) λ_ _ x=>x)
   |some g'=>
    rw[Y] at h4;obtain⟨ha,h4⟩:=h4;refine Us (UE h4 (λx k B=>Us (UU ?_)) λ_ _ x=>x);rw[ha];show wpAny M A (VV g'.iter env x >>= _) Q E k;refine Us (UE B (λZ n y=>?_) λ_ _ x=>x);refine Us (UA (UE y (λq U h7=>?_) λ_ _ x=>x));exact Us (UE h7 (λ_ X h8=>UI h8) λ_ _ x=>x)
abbrev bV(c:List (Str × Addr)):List (Str × W9)->List (Str × Addr)->List (Str × Addr)
 |[],acc=>acc
 |(n,k)::r,acc=>if k == .free then bV c r ((n,(c.lookup n).getD 0)::acc) else bV c r acc
def im:∀ (b:List (Str × W9)) (d:List (Str × Addr)),(∀y ∈ b,y.2 = .free->∃c,env.cells.lookup y.1=aw c) ->
  (forIn b d λ(x:Str × W9) (C:List (Str × Addr))=>(match x with |(name,kind)=>if kind == .free then (do let a <-cellOf env name;pure (ForInStep.yield ((name,a)::C))) else pure (ForInStep.yield C):Sem (ForInStep (List (Str × Addr)))))
   = (pure (bV env.cells b d):Sem (List (Str × Addr)))
 |[],d,_=>by rw[Xi];rfl
 |(n,k)::r,d,h=>by
  rw[Wo];have p:∀y ∈ r,y.2 = .free->∃c,env.cells.lookup y.1=aw c:=λy q=>h y (Zi _ q);cases f:(k == NameKind.free) with
  |true=>
   obtain⟨c,j⟩:=h (n,k) Zj (by simpa using f);have e:cellOf env n=pure c:=by unfold cellOf;rw[show env.cells.lookup n=aw c from j]
   simp only[f,if_true,e,pure_bind];rw[im r _ p]
   conv=>rhs;rw[bV]
   simp only[f,if_true];rw[show env.cells.lookup n=aw c from j];rfl
  |false=>
   simp only[f,ZP,if_false,pure_bind];rw[im r _ p]
   conv=>rhs;rw[bV]
   simp only[f,ZP,if_false]
def wz(h:∀y ∈ b.names,y.2 = .free->∃c,env.cells.lookup y.1=aw c):closureFor b env=pure (bV env.cells b.names []):=by
 have e:=im (env:=env) b.names [] h;unfold closureFor;refine Eq.trans ?_ e
 first
  |rfl
  |(rw[bind_pure])
  |(simp only[bind_pure])
def jB:∀ {b:List (Str × W9)} {d:List (Str × Addr)} {x:Str} {c:Addr},(x,c) ∈ bV C b d->(x,c) ∈ d\/((x,NameKind.free) ∈ b/\c=(C.lookup x).getD 0)
 |[],_,_,_,h=>.inl h
 |(n,k)::r,d,x,c,h=>by
  unfold bV at h;split at h
  ·rename_i j;have f:k = .free:=by simpa using j
   rcases jB h with e |⟨e,q⟩
   ·rcases Zn.mp e with e |e
    ·cases e;exact .inr ⟨by rw[f];exact Zj,rfl⟩
    ·exact .inl e
   ·exact .inr ⟨Zi _ e,q⟩
  ·rcases jB h with e |⟨e,q⟩
   ·exact .inl e
   ·exact .inr ⟨Zi _ e,q⟩
def fN:∀ {l:List (Str × Addr)},(∃c,(x,c) ∈ l)->∃c,l.lookup x=aw c
 |[],⟨_,h⟩=>nomatch h
 |(n,c)::r,⟨c',h⟩=>by
  rw[YB];cases hb:x == n with
  |true=>exact⟨c,rfl⟩
  |false=>
   rcases Zn.mp h with e |e
   ·cases e;simp at hb
   ·exact fN ⟨c',e⟩
def gK:∀ {b:List (Str × W9)} {acc:List (Str × Addr)},(x,NameKind.free) ∈ b\/(∃c,(x,c) ∈ acc)->∃c,(x,c) ∈ bV cells b acc
 |[],_,h=>h.elim (λe=>nomatch e) id
 |(n,k)::r,acc,h=>by
  unfold bV;split
  ·rename_i d;refine gK ?_;rcases h with h |⟨c,h⟩
   ·rcases Zn.mp h with e |e
    ·cases e;exact .inr ⟨_,Zj⟩
    ·exact .inl e
   ·exact .inr ⟨c,Zi _ h⟩
  ·rename_i d;refine gK ?_;rcases h with h |⟨c,h⟩
   ·rcases Zn.mp h with e |e
    ·cases e;exact absurd rfl d
    ·exact .inl e
   ·exact .inr ⟨c,h⟩
def cy:∀ (b:List (Str × W9)) (n:Nat) (c:List (Str × Addr)),VN n b c=VN n b []++c
 |[],_,_=>rfl
 |(y,k)::r,n,c=>by
  unfold VN;split
  ·rw[cy r (n+1) ((y,n)::c),cy r (n+1) [(y,n)],Z2];rfl
  ·exact cy r n c
def dB:∀ (b:List (Str × W9)) (n:Nat) (d:List (Str × Addr)) (x:Str) (c:Addr),(x,c) ∈ VN n b d->(x,c) ∈ d\/(x,NameKind.cell) ∈ b
 |[],_,_,_,_,h=>.inl h
 |(y,k)::r,n,d,x,c,h=>by
  unfold VN at h;split at h
  ·rename_i j;have f:k = .cell:=by simpa using j
   rcases dB r _ _ x c h with e |e
   ·rcases Zn.mp e with e |e
    ·cases e;exact .inr (by rw[f];exact Zj)
    ·exact .inl e
   ·exact .inr (Zi _ e)
  ·rcases dB r _ _ x c h with e |e
   ·exact .inl e
   ·exact .inr (Zi _ e)
abbrev nY(sc:Scope)(n:Str)(k:W9):W9:=if (k == .free && sc.kind == .function && sc.names.lookup n == aw .cell) then .cell else k
abbrev fO(b sc:Scope):Scope:={ b with names:=b.names.map λy=>(y.1,nY sc y.1 y.2) }
def DZ(b:Scope)(env:Env):relabel b env=fO b env.scope:=by
 unfold relabel fO
 congr 1
 refine Yh λy _=>?_;obtain⟨n,k⟩:=y;unfold nY;dsimp only;show(if (k == NameKind.free && env.scope.kind == ScopeKind.function && List.lookup n env.scope.names == aw NameKind.cell)=aN then (n,NameKind.cell) else (n,k))=_;split <;> rfl
def fP(sc:Scope)(x:Str):∀b:List (Str × W9),(b.map λy=>(y.1,nY sc y.1 y.2)).lookup x=(b.lookup x).map (nY sc x)
 |[]=>rfl
 |(n,k)::r=>by
  rw[Zw,YB,YB];dsimp only;cases hb:x == n with
  |true=>
   have q:x=n:=by simpa using hb
   subst q;rfl
  |false=>exact fP sc x r
abbrev uz(scope:Scope)(C:Addr)(env:Env):Env:=
 { scope:=fO scope env.scope,locals:=C,globals:=env.globals,cells:=VN (C+1) scope.names (bV env.cells scope.names []),qual:=env.qual,func:=aD,code:=env.code,frame:=env.frame,builtins:=env.builtins }
def yn
  (h:Q { scope:=scope,locals:=s.heap.objs.size,globals:=env.globals,cells:=VN (s.heap.objs.size+1) scope.names cl,qual:=env.qual,func:=aD,code:=env.code,frame:=env.frame,builtins:=env.builtins }
   { s with heap:=V9 (s.heap.push { cls:=.type "dict", data:=.dict #[] }) scope.names }) :
  wpAny M A (V3 scope env.globals cl [] env.qual aD .none (aw env)) Q E s:=by
 simp only[V3,X4,if_true];refine Us (wpAny_alloc ?_);refine Us (wpAny_layCells _ (λname kind cells=>by cases b:kind == NameKind.cell <;> simp[b]) _ _ _ _ ?_);rw[show({ s with heap:=s.heap.push { cls:=.type "dict", data:=.dict #[] } }:Shared).heap.objs.size=s.heap.objs.size+1 from Yt ..];simp only[Xi]
 first
  |exact Us (UI (UI h))
  |exact UI h
abbrev Af(i:Nat):Str:=⟨#[i]⟩
abbrev cU:List Nat->List Str->List Str
 |[],N=>N
 |i::hs,N=>cU hs (N.set i (Af i))
def jC:∀ (hs:List Nat) (N:List Str),(cU hs N).length=N.length
 |[],_=>rfl
 |i::hs,N=>by rw[cU,jC hs,ZY]
def oD:∀ (hs:List Nat) (N:List Str) {i:Nat} {x:Str},(cU hs N)[i]?=aw x->N[i]?=aw x\/∃j ∈ hs,x=Af j
 |[],_,_,_,h=>.inl h
 |k::hs,N,i,x,h=>by
  rw[cU] at h;rcases oD hs (N.set k (Af k)) h with e |⟨j,hj,e⟩
  ·rw[Yw] at e;split at e
   ·split at e
    ·exact .inr ⟨k,Zj,(Option.some.inj e).symm⟩
    ·cases e
   ·exact .inl e
  ·exact .inr ⟨j,Zi _ hj,e⟩
structure CmScope(own:List Str)(hs:List Nat)(N:List Str)(scope sc:Scope):Prop where
 kind:scope.kind = .function
 nd:(cU hs N++own).Nodup
 uniq:(scope.names.map (·.1)).Nodup
 dis:∀x ∈ cU hs N,scope.names.lookup x ≠ aw .local/\scope.names.lookup x ≠ aw .cell
 fr:∀y ∈ scope.names,y.2 = .free->sc.names.lookup y.1=aw .cell\/sc.names.lookup y.1=aw .free
 hd:∀i ∈ hs,scope.names.lookup (Af i)=aD
def cP:∀ {l:List (Str × W9)} {x:Str} {k:W9},(l.map (·.1)).Nodup->(x,k) ∈ l->l.lookup x=aw k
 |(n,k')::r,x,k,nd,h=>by
  rw[Zw,Z6] at nd;rw[YB];rcases Zn.mp h with e |e
  ·cases e;simp
  ·have ne:(x == n)=aS:=by
    cases hb:x == n with
    |false=>rfl
    |true=>
     have q:x=n:=by simpa using hb
     subst q;exact absurd (Zu.mpr ⟨(x,k),e,rfl⟩) nd.1
   rw[ne];exact cP nd.2 e
abbrev cxC(X:Cx)(own:List Str)(hs:List Nat)(b:Scope)(C:Addr)(ex:List Addr)(s:Shared)(H:Hp):Cx where
 prog:=X.prog
 w:=X.w
 K:=X.K
 mg:=X.mg
 base:=X.base
 A:=X.A
 N:=cU hs X.N++own
 s₀:=s
 H₀:=H
 env:=uz b C X.env
 outer:=X.stack
 stack:=X.stack
 ex:=ex
 fn:=λx=>b.names.lookup x == aw .cell
 calm:=X.calm
 pn:=[]
 xe:=λ_ _=>False
section
variable {X:Cx} {pins:List (Addr × Obj)} {σ:St} {H:Hp} {s:Shared} {own:List Str} {hs:List Nat} {scope:Scope} {fp:List Addr}
def Inv.compStart(I:Inv X pins σ H s)(S:CmScope own hs X.N scope X.env.scope)(hf:∀b ∈ fp,gX X pins H b)(hfo:∀b ∈ fp,b < s.heap.objs.size) :
  Inv (cxC X own hs scope s.heap.objs.size fp s H) [] (σ++Zx own.length aD) H { s with heap:=V9 (s.heap.push { cls:=.type "dict", data:=.dict #[] }) scope.names }:=by
 have keep:∀b o,s.heap.get? b=aw o->(V9 (s.heap.push { cls:=.type "dict", data:=.dict #[] }) scope.names).get? b=aw o:=λb o e=>Ua _ _ b o (Zf _ e);have ok:=cellsFrom_ok scope.names (s.heap.push { cls:=.type "dict", data:=.dict #[] }) (s.heap.objs.size+1) [] ⟨λ_ _ hm=>(nomatch hm),List.Pairwise.nil⟩ (by rw[Yt];exact Ze _);rw[Yt] at ok;have C:(uz scope s.heap.objs.size X.env).cells=VN (s.heap.objs.size+1) scope.names []++bV X.env.cells scope.names []:=cy _ _ _;have hasX:∀x,(x,NameKind.free) ∈ scope.names->∃c,X.env.cells.lookup x=aw c:=λx h=>I.ok.has x (S.fr (x,.free) h rfl)
 have old:∀x c,(x,c) ∈ bV X.env.cells scope.names []->X.env.cells.lookup x=aw c/\(x,NameKind.free) ∈ scope.names:=λx c h=>by
  rcases jB h with e |⟨e,q⟩
  ·exact nomatch e
  ·obtain⟨c',T⟩:=hasX x e;rw[T] at q;exact⟨by rw[T,q];rfl,e⟩
 have O:∀x c,X.env.cells.lookup x=aw c->c < s.heap.objs.size:=λx c h=>let ⟨_,z⟩:=I.cell x c h;z.lt
 have d:∀x c,(uz scope s.heap.objs.size X.env).cells.lookup x=aw c->((x,c) ∈ VN (s.heap.objs.size+1) scope.names [])\/(X.env.cells.lookup x=aw c/\(x,NameKind.free) ∈ scope.names):=λx c h=>by
  have m:=V2 h;rw[C] at m;rcases ZS.mp m with e |e
  ·exact .inl e
  ·exact .inr (old x c e)
 have B:∀x c,(x,c) ∈ VN (s.heap.objs.size+1) scope.names []->s.heap.objs.size+1<=c:=λx c h=>(ok.empty x c h).2
 have U:∀b ∈ fp,b ∉ frs X.stack:=λb hb z=>by
  rcases Zn.mp (I.stkSub b z) with e |e
  ·exact(hf b hb).2.1 e
  ·exact(hf b hb).2.2.1 e
 have xok:(cxC X own hs scope s.heap.objs.size fp s H).Ok:=by
  refine⟨I.ok.mod,S.kind,I.ok.glob,I.ok.blt,Ze _,?_,?_,?_,I.ok.hd,I.ok.frames,.inl rfl,?_,I.bs,Z0 I.ok.bsz I.sz,?_,U,I.stack,I.stkFree⟩
  ·intro x y c L Q;rcases d x c L with a |⟨a,_⟩ <;> rcases d y c Q with b |⟨b,_⟩
   ·exact name_of_addr ok.apart a b
   ·exact absurd (ZH (O y c b) (Xn (B x c a))) (ZR _)
   ·exact absurd (ZH (O x c a) (Xn (B y c b))) (ZR _)
   ·exact I.ok.inj x y c a b
  ·intro x hx;have hx':(fO scope X.env.scope).names.lookup x=aw .cell\/(fO scope X.env.scope).names.lookup x=aw .free:=hx;have e:=fP X.env.scope x scope.names
   have key:(x,NameKind.cell) ∈ scope.names\/(x,NameKind.free) ∈ scope.names:=by
    cases E:scope.names.lookup x with
    |none=>rw[E] at e;rcases hx' with z |z <;> (rw[show(fO scope X.env.scope).names.lookup x=aD from e] at z;cases z)
    |some k=>
     have m:=V2 E;rw[E] at e;cases k with
     |cell=>exact .inl m
     |free=>exact .inr m
     |_=>rcases hx' with z |z <;> (rw[show(fO scope X.env.scope).names.lookup x=_ from e] at z;simp[nY] at z)
   rcases key with h |h
   ·have q:=Vm scope.names (s.heap.objs.size+1) (bV X.env.cells scope.names []) (x:=x) (.inl (cP S.uniq h));exact Z9.mp q
   ·obtain⟨c,T⟩:=gK (cells:=X.env.cells) (acc:=[]) (.inl h);have q:∃c,(x,c) ∈ (uz scope s.heap.objs.size X.env).cells:=⟨c,by rw[C];exact Zz _ T⟩;exact fN q
  ·intro x c hfn E
   have J:scope.names.lookup x=aw .cell:=by
    have z:(scope.names.lookup x == aw NameKind.cell)=aN:=hfn
    simpa using z
   rcases d x c E with a |⟨_,b⟩
   ·exact Z0 (YD _) (B x c a)
   ·rw[cP S.uniq b] at J;cases J
  ·intro b hb;refine⟨ZI (hfo b hb),λx c h z=>?_⟩;rcases d x c h with a |⟨a,_⟩
   ·exact absurd (ZH (z ▸ hfo b hb) (Xn (B x c a))) (ZR _)
   ·exact(hf b hb).2.2.2.2.1 x c a z
  ·intro b o e hb;rcases (hf b hb).2.2.2.1 with z |z
   ·exact I.ok.noex b o e z
   ·have L:=Zt e;exact absurd (ZH L (Z0 I.ok.bsz z)) (ZR _)
 have m0:(V9 (s.heap.push { cls:=.type "dict", data:=.dict #[] }) scope.names).Ns s.heap.objs.size (λ_=>aD):=(Heap.Ns.new s.heap (.type "dict")).keeps (Ua _ _);refine⟨xok,rfl,I.bare,Un.kept keep,⟨_,m0,?_⟩,?_,I.hok.fresh (Ze _),?_,λp hp=>absurd (show p ∈ ([]:List (Addr × Obj)) from hp) (by simp),I.hok.kept keep,?_⟩
 ·intro i x v L Q h3
  have hi:i < σ.length:=by
   by_cases hi:i < σ.length
   ·exact hi
   ·rw[Zm (by lia),YA] at Q;split at Q <;> cases Q
  rw[Zq hi] at Q;have hN:i < X.N.length:=by rw[<-I.len];exact hi
  have h1h:(cU hs X.N)[i]?=aw x:=by
   have L:(cU hs X.N++own)[i]?=aw x:=L
   rwa [Zq (by rw[jC];exact hN)] at L
  have dx:=S.dis x (Zc h1h);have e:=fP X.env.scope x scope.names;have Y:(fO scope X.env.scope).names.lookup x=aw .local\/(fO scope X.env.scope).names.lookup x=aw .cell\/(fO scope X.env.scope).names.lookup x=aw .free:=h3
  have f:scope.names.lookup x=aw .free:=by
   cases E:scope.names.lookup x with
   |none=>rw[E] at e;rcases Y with z |z |z <;> (rw[show(fO scope X.env.scope).names.lookup x=aD from e] at z;cases z)
   |some k=>
    rw[E] at e dx;cases k with
    |free=>rfl
    |«local»=>exact absurd rfl dx.1
    |cell=>exact absurd rfl dx.2
    |_=>rcases Y with z |z |z <;> (rw[show(fO scope X.env.scope).names.lookup x=_ from e] at z;simp[nY] at z)
  have h1':X.N[i]?=aw x:=by
   rcases oD hs X.N h1h with z |⟨j,hj,z⟩
   ·exact z
   ·rw[z,S.hd j hj] at f;cases f
  have n:=V2 f;have kX:=S.fr (x,.free) n rfl;obtain⟨m,hn,E⟩:=I.loc;obtain⟨u,r,l⟩:=E i x v h1' Q (kX.elim (λz=>.inr (.inl z)) λz=>.inr (.inr z));refine⟨u,r,.inr ⟨?_,?_⟩⟩
  ·have k3:(fO scope X.env.scope).names.lookup x=aw (nY X.env.scope x .free):=by rw[f] at e;exact e
   have k4:nY X.env.scope x .free = .cell\/nY X.env.scope x .free = .free:=by unfold nY;split <;> simp
   rcases k4 with z |z
   ·exact .inl (by show(fO scope X.env.scope).names.lookup x=_;rw[k3,z])
   ·exact .inr (by show(fO scope X.env.scope).names.lookup x=_;rw[k3,z])
  ·rcases l with ⟨lk,_⟩ |⟨_,c,T,z⟩
   ·have Z:X.env.scope.names.lookup x=aw .local:=lk;rcases kX with q |q <;> (rw[q] at Z;cases Z)
   ·refine⟨c,?_,z.keeps keep⟩;obtain⟨c',hc'⟩:=gK (cells:=X.env.cells) (acc:=[]) (.inl n);obtain⟨c2,hl2⟩:=fN (l:=(uz scope s.heap.objs.size X.env).cells) ⟨c',by rw[C];exact Zz _ hc'⟩;rcases d x c2 hl2 with a |⟨a,_⟩
    ·rcases dB _ _ _ _ _ a with q |q
     ·exact nomatch q
     ·rw[cP S.uniq q] at f;cases f
    ·rw[T] at a;cases a;exact hl2
 ·intro x c h;rcases d x c h with a |⟨a,_⟩
  ·exact⟨_,(ok.empty x c a).1⟩
  ·obtain⟨v,z⟩:=I.cell x c a;exact⟨v,z.keeps keep⟩
 ·intro x c h;rcases d x c h with a |⟨a,_⟩
  ·exact I.hok.fresh (Z0 (YD _) (B x c a))
  ·exact I.freeC x c a
 ·show(σ++Zx own.length aD).length=(cU hs X.N++own).length;rw[Zh,Zh,XG,jC,I.len]
end
abbrev rN(J:It)(g:TG)(T:TS)(D:Ends)(b:St)(H:Hp):Prop:=∃W:Nat->Nat->St->Hp->Prop,(∃m,W 0 m b H)/\∀i m b H,W i m b H ->
 (J.stop i H/\D.nx b H)\/(J.go i H/\∃N:St->Hp->Prop,(∀c h,N c h->∃f,f < m/\W (i+1) f c h)/\∀x h,J.yld i H x h->g x b h λd j=>T { D with nx:=N,ct:=N,bk:=D.nx } d j)
abbrev PTs(Y:Cx)(ifs:List Expr)(t:TT):Prop:=
 ∀ (p:List (Addr × Obj)) (s:Shared) (b:St) (H:Hp) (Q:Bool->Hp->Prop),Inv Y p b H s->t b H Q->wpAny (model Y.prog Y.w) Y.A (qg ifs Y.env) (TP Y p b Q) Y.xe s
abbrev D0:TT:=λ_ H Q=>Q aN H
def D1:PTs Y [] D0:=λ_ _ _ H _ I h=>by
 unfold qg;rw[Xi];exact UI ⟨H,I,h⟩
def D2(d:PT Y c t):PTs Y [c] t:=λp s f H Q I h=>by
 unfold qg;rw[Wo];simp only[if_true,Xi];refine Us (Us (thn (d p s f H Q I h) λb j q=>UI ?_));exact UI q
abbrev PTl(Y:Cx)(E:Expr)(c:List WM)(f:Scope)(n:Pos)(j:Addr)(d:Nat)(t:TS):Prop:=
 ∀ (p:List (Addr × Obj)) (s:Shared) (v:St) (H:Hp) (D:Ends),Inv Y p v H s->t D v H ->
  match c[d+1]? with
  |none=>wpAny (model Y.prog Y.w) Y.A (eval E Y.env) (λx q=>wpAny (model Y.prog Y.w) Y.A (call (.builtin "list.append") [.ref j,x]) (λ_ u=>∃b h,Inv Y p b h u/\D.nx b h) (λ_ _=>False) q) (λ_ _=>False) s
  | some k=>k.is_async=0/\wpAny (model Y.prog Y.w) Y.A (eval k.iter Y.env) (λx q=>wpAny (model Y.prog Y.w) Y.A (VV k.iter Y.env x) (λX u=>wpAny (model Y.prog Y.w) Y.A (pyIter X) (λI y=>
    wpAny (model Y.prog Y.w) Y.A (runOwn (.compStart (.ListComp E c f n) (d+1) I (.ref j) Y.env) Y.env) (λ_ z=>∃b h,Inv Y p b h z/\D.nx b h) (λ_ _=>False) y) (λ_ _=>False) u) (λ_ _=>False) q) (λ_ _=>False) s
abbrev fB(T:TT)(t:TS):TS:=λD b H=>T b H λc h=>if c=aN then t D b h else D.nx b h
abbrev Hx(b:Addr)(T:TE):TS:=λD c H=>T c H λx h=>∃X,h b=aw (.lst X)/\X.length < sizeLine/\D.nx c (upd h b (.lst (X++[x])))
section
variable {Y:Cx} {elt:Expr} {gens:List WM} {scope:Scope} {pos:Pos} {acc:Addr} {d:Nat}
def Ag(c:Y.xe=λ_ _=>False)(U:gens[d+1]?=aD)(J:PE Y elt T):PTl Y elt gens scope pos acc d (Hx acc T):=by
 intro p s b H D I h;rw[U];have f:=J p s b H _ I h;rw[c] at f;refine thn f λx k ⟨v,u,B,O,X,j,L,q⟩=>?_;have z:=oC p k b u (.ref acc) [v] (.ref acc) [x] (λy C=>y = .non/\D.nx b C) B rfl (.cons O .nil) ⟨acc,X,v,rfl,rfl,j,L,rfl,q⟩;rw[c] at z;exact thn z λy Z ⟨v6,E,n,r6,e6,Q⟩=>⟨b,E,n,Q⟩
def lX{A:Around}{R:Result->Shared->Prop}{prog:Program}{w:World}{s:Shared}{T I:Expr}{ifs:List Expr}{f acc:Value}{env:Env}(p:gens[d]?=aw ⟨T,I,ifs,0⟩)
  (n:codeAny (model prog w) A (.compLoop (.ListComp elt gens scope pos) d f acc env) R s)
  (h:wpAny (model prog w) A (pyIter f) (λb c=>codeAny (model prog w) A (.compLoop (.ListComp elt gens scope pos) d b acc env) R c) (notedBy (model prog w) A env λx c=>R (.error x) c) s) :
  codeAny (model prog w) A (.compStart (.ListComp elt gens scope pos) d f acc env) R s:=by
 refine codeAny_of_tree ?_;show wpAny _ _ ((compStart (.ListComp elt gens scope pos) d f acc env).onRaise (λx=>do noteFrame x env;standAt theWindowsPlace)) _ _ s;refine wpAny_notedAt ?_;unfold compStart;have k:(clausesOf (.ListComp elt gens scope pos))[d]?=aw ⟨T,I,ifs,0⟩:=p;simp only[k,Option.elim];show wpAny _ _ (ask >>= _) _ _ s;refine Us (wpAny_askSetting (wpAny_ite ?_));split
 ·first
   |exact Us (UI (UI (And.intro rfl n)))
   |exact UI (And.intro rfl n)
 ·first
   |exact Us (UQ (Us (UU (Us (UE h (λb c j=>UI (And.intro rfl j)) λ_ _ x=>x)))))
   |(refine Us (UQ ?_);show wpAny _ _ (standAt I.pos >>= _) _ _ s;exact Us (UU (Us (UE h (λb c j=>UI (And.intro rfl j)) λ_ _ x=>x))))
def oE
  (hx:Y.xe=λ_ _=>False) (hc:Y.calm=aN) (hg:gens[d]?=aw ⟨tg,iter,ifs,0⟩) (T:Turn Y.prog Y.w Y.K tg J y it tn) (I2:Inv Y p σ H s) (st2:tn 0 s.heap) (f2:∀b ∈ y,gX Y p H b)
  (hgt:PG Y tg g) (hts:PTs Y ifs ti) (htl:PTl Y elt gens scope pos acc d t) (hW:rN J g (fB ti t) D σ H) :
  codeAny (model Y.prog Y.w) Y.A (.compLoop (.ListComp elt gens scope pos) d (.ref it) (.ref acc) Y.env) (λr s'=>r = .ok .next/\∃c H',Inv Y p c H' s'/\D.nx c H') s:=by
 obtain⟨W,⟨m0,w0⟩,U⟩:=hW;have j:∀ {H':Hp},(∀b ∈ y,H' b=aD)->∀b ∈ y,gX Y p H' b:=λZ b hb=>⟨Z b hb,(f2 b hb).2⟩;refine codeAny_loop rfl (λn s'=>∃i c H',Inv Y p c H' s'/\tn i s'.heap/\(∀b ∈ y,H' b=aD)/\W i n c H') (λn s3 hI=>?_) m0 ⟨0,σ,H,I2,st2,λb hb=>(f2 b hb).1,w0⟩;obtain⟨i,h,X,I3,L,Q,w3⟩:=hI;show wpAny _ _ ((compTurn (.ListComp elt gens scope pos) d (.ref it) (.ref acc) Y.env).onRaise (λx=>do noteFrame x Y.env;theTreesLotGoes x)) _ _ s3;refine wpAny_noted (UE (E:=λ_ _=>False) ?_ (λ_ _ q=>q) λ_ _ z=>z.elim);refine DY hg ?_;rcases U i n h X w3 with ⟨stop,qn⟩ |⟨go,N,hN,step⟩
 ·refine thn (T.done Y rfl rfl rfl hc i p s3 h X _ I3 (j Q) L stop) λr s4 ⟨hr,I4⟩=>?_;subst hr;exact⟨rfl,h,X,I4,qn⟩
 ·refine thn (T.item Y rfl rfl rfl hc i p s3 h X _ I3 (j Q) L go) λr s4 ⟨u,hr,h4⟩=>?_;subst hr;refine thn h4 λ_ s5 ⟨x,H5,I5,r5,y5,v,fr5⟩=>?_;have I5':=I5.pinned (j fr5) (T.obj _ _ v)
  have again:∀ {f:St} {k:Hp} {C:Shared},Inv Y (p++lJ y s5.heap) f k C->N f k->∃m,m < n/\∃i c H',Inv Y p c H' C/\tn i C.heap/\(∀b ∈ y,H' b=aD)/\W i m c H':=λ{f k C} I n7=>by
   obtain⟨m',hm,w7⟩:=hN f k n7;refine⟨m',hm,i+1,f,k,I.unpinned,T.keep _ _ _ v λb hb o e=>(I.pin (b,o) (Zz _ (Zz _ (eN hb e)))).1,λb hb=>?_,w7⟩;obtain⟨o,e,dd⟩:=T.obj _ _ v b hb;exact(I.pin (b,o) (Zz _ (Zz _ (eN hb e)))).2.1
  have hG:=hgt _ s5 h H5 x u _ I5' r5 (step x H5 y5);rw[hx] at hG;refine thn hG λ_ s6 ⟨O,H6,I6,q6⟩=>?_;have hT:=hts _ s6 O H6 _ I6 q6;rw[hx] at hT;refine thn hT λok C ⟨k,I,q7⟩=>?_;cases ok with
  |false=>
   simp only[ZP,if_false] at q7 ⊢;exact⟨by trivial,again I q7⟩
  |true=>
   simp only[if_true] at q7 ⊢;have B:=htl _ C O k _ I q7;cases Z:gens[d+1]? with
   |none=>
    rw[Z] at B;exact thn B λx s8 h8=>thn h8 λ_ s9 ⟨σ9,H9,I9,q9⟩=>⟨by trivial,again I9 q9⟩
   |some g'=>
    rw[Z] at B;obtain⟨ha,B⟩:=B;exact⟨ha,thn B λx s8 h8=>thn h8 λx' s9 h9=>thn h9 λit' s10 h10=>thn h10 λ_ s11 ⟨σ9,H9,I9,q9⟩=>⟨by trivial,again I9 q9⟩⟩
abbrev Ah(c:TI)(g:TG)(T:TT)(t:TS):TS:=λD b H=>c b H λJ h=>rN J g (fB T t) D b h
def D3(k:gens[d+1]?=aw ⟨y,b,ifs,0⟩)
  (hi:PI Y y b B) (f:PG Y y g) (j:PTs Y ifs ti) (n:PTl Y elt gens scope pos acc (d+1) t) (u:Y.xe=λ_ _=>False:=by rfl) (O:Y.calm=aN:=by rfl) (hs:∀x,VV b Y.env x=pure x:=by intro _;rfl) :
  PTl Y elt gens scope pos acc d (Ah B g ti t):=by
 intro p s σ H D I h;rw[k];refine⟨rfl,?_⟩;have z:=hi p s σ H _ I h;rw[u] at z;refine thn z λv s5 X=>UG (hs v) (thn X λQ s6 E=>?_);obtain⟨it,fp,tn,J,H6,e,C,T,c,Z,W⟩:=E;subst e;have L:=oE (elt:=elt) (gens:=gens) (scope:=scope) (pos:=pos) (acc:=acc) u O k T C c Z f j n W;refine wpAny_runOwn (VP (lX k L (T.self _ 0 s6 _ _ c L)) λr s8 U=>?_);obtain⟨rfl,q⟩:=U;exact q
end
abbrev Ai(own:Nat)(d:TI)(g:TG)(T:Addr->TS):TE:=λc H Q=>d c H λJ h=>∀b,h b=aD ->
 rN J g (T b) { nx:=λ_ f=>Q (.ref b) f,rt:=λ_ _=>False } (c++Zx own aD) (upd h b (.lst []))
section
variable {X:Cx} {elt tg iter:Expr} {ifs:List Expr} {rest:List WM} {scope:Scope} {pos:Pos} {own:List Str} {hs:List Nat} {wi:TI} {g:TG} {ti:TT} {t:Addr->TS}
def lY{j:List (Addr × Obj)}{σ:St}{Q:VK}{B:Value}{s2:Shared}{E:Value->Shared->Prop}(hc:X.calm=aN)(S:CmScope own hs X.N scope X.env.scope)
  (hgt:∀C ex s H,PG (cxC X own hs scope C ex s H) tg g) (hts:∀C ex s H,PTs (cxC X own hs scope C ex s H) ifs ti)
  (htl:∀C ex s H f,PTl (cxC X own hs scope C ex s H) elt (⟨tg,iter,ifs,0⟩::rest) scope pos f 0 (t f))
  (h2:PIE X j σ tg (λJ H1=>∀f,H1 f=aD->rN J g (fB ti (t f)) { nx:=λ_ k=>Q (.ref f) k,rt:=λ_ _=>False } (σ++Zx own.length aD) (upd H1 f (.lst []))) B s2)
  {RR:Value->Addr->Result->Shared->Prop} (hRR:∀f C k s',Inv X j σ k s'->gX X j k C->(∃m,s'.heap.Ns C m)->Q (.ref f) k->RR (.ref f) C (.ok .next) s') :
  wpAny (model X.prog X.w) X.A (newList []) (λf h=>wpAny (model X.prog X.w) X.A (V3 scope X.env.globals (bV X.env.cells scope.names []) [] X.env.qual aD .none (aw X.env)) (λn y=>
   codeAny (model X.prog X.w) X.A (.compStart (.ListComp elt (⟨tg,iter,ifs,0⟩::rest) scope pos) 0 B f { n with scope:=relabel scope X.env }) (RR f n.locals) y) E h) E s2:=by
 obtain⟨it,u,tn,J,H2,e,I2,T,st2,f2,R⟩:=h2;subst e;refine UF ?_;have O:Inv X j σ (upd H2 s2.heap.objs.size (.lst [])) { s2 with heap:=s2.heap.push { cls:=.type "list", dict:=aD,data:=.seq ([]:List Value).toArray } }:=I2.lnew (its:=[]) (t':=s2.toks) .nil (YK _);have W:=R s2.heap.objs.size (I2.hok.fresh (Ze _));generalize hs3:({ s2 with heap:=s2.heap.push { cls:=.type "list", dict:=aD,data:=.seq ([]:List Value).toArray } }:Shared)=h at O ⊢;have e3:h.heap=s2.heap.push { cls:=.type "list", dict:=aD,data:=.seq ([]:List Value).toArray }:=by rw[<-hs3]
 have k3:∀b o,s2.heap.get? b=aw o->h.heap.get? b=aw o:=λb o e=>by rw[e3];exact Zf _ e
 have Z:tn 0 h.heap:=T.keep _ _ _ st2 λb _ o e=>k3 b o e;have fne:∀b ∈ u,b < s2.heap.objs.size:=λb hb=>let ⟨o,e,_⟩:=T.obj _ _ st2 b hb;Zt e;have v:∀b ∈ u,gX X j (upd H2 s2.heap.objs.size (.lst [])) b:=λb hb=>⟨by rw[aB (ZI (fne b hb))];exact(f2 b hb).1,(f2 b hb).2⟩;have z:∀b ∈ u,b < h.heap.objs.size:=λb hb=>let ⟨o,e,_⟩:=T.obj _ _ Z b hb;Zt e;refine yn ?_;have U:=O.compStart S v z;generalize hH3:upd H2 s2.heap.objs.size (.lst [])=H3 at O U v W
 have eE:({ scope:=relabel scope X.env,locals:=h.heap.objs.size,globals:=X.env.globals,cells:=VN (h.heap.objs.size+1) scope.names (bV X.env.cells scope.names []),qual:=X.env.qual,func:=aD,code:=X.env.code,frame:=X.env.frame,builtins:=X.env.builtins }:Env)=uz scope h.heap.objs.size X.env:=by
  unfold uz;rw[DZ]
 generalize hs4:({ h with heap:=V9 (h.heap.push { cls:=.type "dict", data:=.dict #[] }) scope.names }:Shared)=y at U ⊢;have k4:∀b o,h.heap.get? b=aw o->y.heap.get? b=aw o:=λb o e=>by rw[<-hs4];exact Ua _ _ b o (Zf _ e)
 have st4:tn 0 y.heap:=T.keep _ _ _ Z λb _ o e=>k4 b o e
 have f4:∀b ∈ u,gX (cxC X own hs scope h.heap.objs.size u h H3) [] H3 b:=λb hb=>by
  refine⟨(v b hb).1,ZI (z b hb),U.ok.exfs b hb,.inl hb,λx c hl=>(U.ok.exf b hb).2 x c hl,λp hp=>absurd (show p ∈ ([]:List (Addr × Obj)) from hp) (by simp)⟩
 have L:=oE (Y:=cxC X own hs scope h.heap.objs.size u h H3) (elt:=elt) (gens:=⟨tg,iter,ifs,0⟩::rest) (d:=0) (scope:=scope) (pos:=pos) (acc:=s2.heap.objs.size) rfl hc rfl T U st4 f4 (hgt _ _ _ _) (hts _ _ _ _) (htl _ _ _ _ _) W;have C:=lX (elt:=elt) (gens:=⟨tg,iter,ifs,0⟩::rest) (d:=0) (scope:=scope) (pos:=pos) rfl L (T.self _ 0 y _ _ st4 L);show codeAny (model X.prog X.w) X.A (.compStart (.ListComp elt (⟨tg,iter,ifs,0⟩::rest) scope pos) 0 (.ref it) (.ref s2.heap.objs.size) { scope:=relabel scope X.env,locals:=h.heap.objs.size,globals:=X.env.globals,cells:=VN (h.heap.objs.size+1) scope.names (bV X.env.cells scope.names []),qual:=X.env.qual,func:=aD,code:=X.env.code,frame:=X.env.frame,builtins:=X.env.builtins }) (RR (.ref s2.heap.objs.size) h.heap.objs.size) y;rw[eE];refine VP C λr s' hr=>?_;obtain⟨rfl,σ',k,I,q⟩:=hr;obtain⟨mC,nC,_⟩:=id I.loc;have freeC:k h.heap.objs.size=aD:=I.free;refine hRR _ _ k s' ?_ (O.fpOk (Ze _) freeC) ⟨mC,nC⟩ q;exact O.call' (ch:=u) I.os I.base I.hok I.bare λb hb=>⟨(v b hb).2.2.2.1,(v b hb).2.1,(v b hb).2.2.2.2.1,(v b hb).2.2.2.2.2⟩
def D4(L:X.calm=aN)(S:CmScope own hs X.N scope X.env.scope)(hi:PI X tg iter wi)
  (n:∀C ex s H,PG (cxC X own hs scope C ex s H) tg g) (k:∀C ex s H,PTs (cxC X own hs scope C ex s H) ifs ti)
  (u:∀C ex s H c,PTl (cxC X own hs scope C ex s H) elt (⟨tg,iter,ifs,0⟩::rest) scope pos c 0 (t c))
  (hs:∀x,VV iter X.env x=pure x:=by intro _;rfl) :
  PE X (.ListComp elt (⟨tg,iter,ifs,0⟩::rest) scope pos) (Ai own.length wi g λc=>fB ti (t c)):=by
 intro p s z H Q I h;rw[eval_ListComp];refine Uv (use:=aD) (cl:=bV X.env.cells scope.names []) rfl hs (wz λy j d=>I.ok.has y.1 (S.fr y j d)) S.kind (λy j d=>cP S.uniq (by rw[<-d];exact j)) ?_;refine thn (hi p s z H _ I h) λv s1 B=>thn B λT s2 Y=>?_;refine lY L S n k u Y (RR:=λc C=>compPost (model X.prog X.w) X.A X.xe aD (EP X p z Q) c C) λc C O Z E f U q=>?_;obtain⟨m,nm⟩:=U;refine⟨m,nm,λh' J=>⟨.ref c,O,?_,rfl,q⟩⟩;exact E.turned (t':=Z.toks) (λb o hb e=>(J.2 b hb).trans e) f.1 f.2.1 f.2.2.2.1 f.2.2.2.2.1 f.2.2.2.2.2
def D5{i:Nat}(hc:X.calm=aN)(S:CmScope own hs X.N scope X.env.scope)(hN:X.N.Nodup)(B:X.N[i]?=aw x)(hx:X.env.scope.names.lookup x=aw .local)(hi:PI X tg iter wi)
  (Y:∀C ex s H,PG (cxC X own hs scope C ex s H) tg g) (U:∀C ex s H,PTs (cxC X own hs scope C ex s H) ifs ti)
  (Z:∀C ex s H c,PTl (cxC X own hs scope C ex s H) elt (⟨tg,iter,ifs,0⟩::rest) scope pos c 0 (t c))
  (u:Ul (.ListComp elt (⟨tg,iter,ifs,0⟩::rest) scope pos) (aw (.Name x p)) j.line X.env=pure aN:=by rfl)
  (hs:∀x,VV iter X.env x=pure x:=by intro _;rfl) :
  PS X (.Assign [.Name x p] (.ListComp elt (⟨tg,iter,ifs,0⟩::rest) scope pos) j) (zQ (Ai own.length wi g λc=>fB ti (t c)) (rF i)):=by
 intro d s σ H D I h;rw[exec_Assign_Name_used _ _ _ _ u];refine Us (UU (Us ?_));show wpAny _ X.A (do let _ <-comprehension (.ListComp elt (⟨tg,iter,ifs,0⟩::rest) scope pos) scope X.env _ (newList []) aS (eval iter X.env) (aw (assign (.Name x p) X.env))) _ _ s
 refine Us (UE (Uv (use:=aw (assign (.Name x p) X.env)) (Q:=λ_ k=>SP X d D .next k) (cl:=bV X.env.cells scope.names []) rfl hs (wz λy L J=>I.ok.has y.1 (S.fr y L J)) S.kind (λy L J=>cP S.uniq (by rw[<-J];exact L))
  ?_) (λ_ k hq=>UI (UI hq)) λ_ _ e=>e)
 refine thn (hi d s σ H _ I h) λv s1 h1=>thn h1 λitv s2 h2=>?_;refine lY (Q:=λy E=>rF i y σ E D.nx) hc S Y U Z h2 (RR:=λc C=>compPost (model X.prog X.w) X.A X.xe (aw (assign (.Name x p) X.env)) (λ_ k=>SP X d D .next k) c C) λc C E k I' f m' q=>?_;obtain⟨m,nm⟩:=m';show wpAny _ X.A (assign (.Name x p) X.env (.ref c)) _ _ _;refine wpAny_assign_Name (om (v:=.ref c) I' hN B (.inl hx) rfl (λT I'' O=>?_) (.inr hx));obtain⟨a,n,ha⟩:=O
 have ne:C ≠ a:=by
  rcases ha with e |e
  ·rw[e];exact f.2.1
  ·exactλz=>f.2.2.2.2.1 x a e z.symm
 refine⟨m,nm.sameBut n ne,λh' sb=>⟨_,E,?_,q⟩⟩;exact I''.turned (t':=T.toks) (λb o hb e=>(sb.2 b hb).trans e) f.1 f.2.1 f.2.2.2.1 f.2.2.2.2.1 f.2.2.2.2.2
end
end L2
namespace HT
open PySem PyProof.Rows
section
variable {prog:Program} {w:World} {A:Around} {E:Value->Shared->Prop} {s:Shared}
def Aj{t b:Addr}{u:List Value}{Q:Value->Shared->Prop}(B:IsTup s.heap t ([]:List Value).toArray)(hb:IsTup s.heap b u.toArray)(h:Q (.ref b) s):wpAny (model prog w) A (VG .Add (.ref t) (.ref b)) Q E s:=by
 obtain⟨⟨v,z,q,sl⟩,ho,p,n,hd⟩:=id B;obtain⟨⟨C,j,data2,k⟩,c,d,y,f⟩:=id hb;simp only at p hd d f;subst p hd d f
 exact VR ⟨_,ho,rfl⟩ ⟨_,c,rfl⟩ V4 Ug W3 WU (WN _ _)
   (tuple_addW0 t b _ u.toArray n y z j sl k (by simp)) ⟨ho,c,h⟩
def gY{t sl:Addr}{I:Array Value}{p v:Value}{lo hi:Option Int}{Q:Value->Shared->Prop}(b:IsTup s.heap t I)(hs:s.heap.IsSliceOf sl p v .none)(y:IsPart p lo)(z:IsPart v hi)
  (k:sIx I.size 0 lo=0/\sIx I.size I.size hi=I.size) (h:Q (.ref t) s):wpAny (model prog w) A (getItem (.ref t) (.ref sl)) Q E s:=by
 obtain⟨os,f,j,u⟩:=id hs;have d:s.TypeIs (.ref sl) "slice" := ⟨os,f,j⟩;obtain⟨o,ho,B,n,hd⟩:=id b;unfold getItem
 try with_reducible refine UA ?_
 first |refine Us (UI ?_) |skip
 refine Us (US b.typeIs (by decide) ?_)
 refine Us (wpAny_callSpecial?_slot (name:=Str.ofString "__getitem__") b.typeIs WK
  (Uu WK b.typeIs entry_tuple_getitem ?_ (args_tuple_getitem _ _)))
 show wpAny _ _ (Builtin.Tuple.tupleItemsOf (.ref t) >>= _) _ _ s;refine Us (tupleItemsOf_ b ?_);refine Us (UX d ?_);rw[if_pos (by decide)];refine Us (dU hs y z ?_)
 have c:((((sIx I.size 0 lo:Nat):Int) == 0 && (1:Int) == 1 && (sIx I.size I.size hi - sIx I.size 0 lo) == I.size)=aN):=by
  rw[k.1,k.2];simp
 show wpAny _ _ (if (((sIx I.size 0 lo:Nat):Int) == 0 && (1:Int) == 1 && (sIx I.size I.size hi - sIx I.size 0 lo) == I.size)=aN then _ else _) _ _ s;rw[if_pos c];have q:s.TypeIs (.ref t) "tuple" := b.typeIs
 first
  | (refine Us (m:=Builtin.Tuple.tupleIsExact _) ?_
     unfold Builtin.Tuple.tupleIsExact;refine Us (UX q (UI ?_));rw[if_pos (by decide)];exact Us (UQ (UI ⟨_,rfl,UI h⟩)))
end
end HT
namespace L2
open PySem PySem.Spec PyProof.Rows
def rO{s:Shared}{h':Heap}{o:Obj}(c:∀b x,b ∉ [s.heap.objs.size]->(s.heap.push o).get? b=aw x->h'.get? b=aw x):∀b x,s.heap.get? b=aw x->h'.get? b=aw x:=
 λb x e=>c b x (λh=>by rw[ZM.mp h] at e;exact ZR _ (Zt e)) (Zf _ e)
section
variable {X:Cx}
abbrev NX(K:Vk):R2:=λx y H Q=>∃a b c Y,x = .ref a/\y = .ref b/\SqT K H a c/\SqT K H b Y/\c.length+Y.length<=sizeLine ∧
 (c=[]->Q (.ref b) H)/\(c ≠ []->Y=[]->Q (.ref a) H)/\(c ≠ []->Y ≠ []->∀p,H p=aD->Q (.ref p) (upd H p (.tup (c++Y))))
def D6:OpR X (VG .Add) (NX X.K):=by
 intro p s J H x y v u Q I d f h;obtain⟨a,b,j,Y,rfl,rfl,n,hb,q,C,E,B⟩:=h;by_cases c:j=[]
 ·subst c;cases d;cases f;obtain⟨L,r1,O,_⟩:=I.tuple n;obtain⟨k,r2,z,_⟩:=I.tuple hb;cases r1;exact HT.Aj O z ⟨.ref b,H,I,rfl,C rfl⟩
 ·exact DT p s J H _ _ v u Q I d f ⟨a,b,j,Y,rfl,rfl,n,hb,c,q,E c,B c⟩
abbrev QH(K:Vk):V->Option Int->Option Int->Hp->VK->Prop:=λx lo hi H Q=>∃a b,x = .ref a/\SqT K H a b ∧
 ((HT.sIx b.length 0 lo=0/\HT.sIx b.length b.length hi=b.length)->Q (.ref a) H) ∧
 (¬ (HT.sIx b.length 0 lo=0/\HT.sIx b.length b.length hi=b.length)->∀p,H p=aD->Q (.ref p) (upd H p (.tup (lW b lo hi))))
def D7:SlR X (QH X.K):=by
 intro p s E H x v y z lo hi sl Q I u hs k q h;obtain⟨a,b,rfl,j,C,B⟩:=h;by_cases d:(HT.sIx b.length 0 lo=0/\HT.sIx b.length b.length hi=b.length)
 ·cases u;obtain⟨f,r,n,J⟩:=I.tuple j;have c:f.toArray.size=b.length:=by rw[Zl];exact r.length.symm
  refine⟨"tuple", _,PyProof.Rows.slot_tuple_getitem.lookup,n.typeIs,?_⟩;exact HT.gY n hs k q (by rw[c];exact d) ⟨.ref a,H,I,rfl,C d⟩
 ·exact Jd p s E H _ v y z lo hi sl Q I u hs k q ⟨a,b,rfl,j,d,B d⟩
def rP:aR X (.builtin "isinstance") (λc H Q=>∃x n t b,c=[x,.ty n]/\TyOf X.K H x t/\Vu X.K t (.type n)=aw b/\Q (.bl b) H):=by
 intro p s j H c U Q I r h;obtain⟨x,n,t,b,rfl,ty,e,q⟩:=h;obtain⟨u,k,rfl,f,d⟩:=rH r;cases d;exact yg I f ty e λT=>⟨.bl b,H,I.tok T,rfl,q⟩
def io:∀ {bs:List Bool} {u:List Value},aO (bs.map V.bl) u->u=bs.map Value.bool
 |[],_,.nil=>rfl
 |_::_,_,.cons r t=>by rw[Zw,io t];cases r;rfl
def yo(y:X.calm=aN):aR X (.builtin "all") (λn H Q=>∃ (l:Addr) (bs:List Bool),n=[.ref l]/\SqL X.K H l (bs.map V.bl)/\Q (.bl (bs.all id)) H):=by
 intro k s σ H n Y Q I r h;obtain⟨l,bs,rfl,z,q⟩:=h;obtain⟨u,rfl,L⟩:=bR r;cases L;obtain⟨O,J,p,Z⟩:=I.list z;have e:=io J;subst e;have d:=p.isList;have f:l < s.heap.objs.size:=by obtain⟨_,e,_⟩:=d;exact Zt e
 refine call_all_walk (UK d ?_)
 refine⟨s.heap.objs.size,[s.heap.objs.size,l],[s.heap.objs.size],_,_,_,λi=>(bs[i]?).getD aN,rfl,Walks.list (A:=X.A.in1) (I.ok.hd y) _ l (ZI f) _,
  ⟨⟨_,ZA _ rfl,rfl,rfl⟩,d.push _⟩,λi v s' Q' E' C j=>?_,λU T B=>?_⟩
 ·have c:(bs.map Value.bool)[i]?=aw v:=by simpa using C
  rw[Zp] at c;cases hb:bs[i]? with
  |none=>rw[hb] at c;cases c
  |some b=>
   rw[hb] at c;have E:Value.bool b=v:=Option.some.inj c;subst E;simp only[hb,ZW] at j;exact UV j
 ·have e:((Zk (bs.map Value.bool).toArray.size).all λi=>(bs[i]?).getD aN)=bs.all id:=by
   rw[Zl,Za,YS];simp only[Yk,ZO,id];constructor
   ·intro h b hb;obtain⟨i,hi,rfl⟩:=XM.mp hb;have:=h i hi
    rwa [gEG hi,ZW] at this
   ·intro h i hi;rw[gEG hi,ZW];exact h _ (ZJ hi)
  rw[e];exact⟨.bl (bs.all id),H,I.kept (t':=T) (rO B),rfl,q⟩
def yp(y:X.calm=aN):aR X (.builtin "any") (λn H Q=>∃ (l:Addr) (bs:List Bool),n=[.ref l]/\SqL X.K H l (bs.map V.bl)/\Q (.bl (bs.any id)) H):=by
 intro k s σ H n Y Q I r h;obtain⟨l,bs,rfl,z,q⟩:=h;obtain⟨u,rfl,L⟩:=bR r;cases L;obtain⟨O,J,p,Z⟩:=I.list z;have e:=io J;subst e;have d:=p.isList;have f:l < s.heap.objs.size:=by obtain⟨_,e,_⟩:=d;exact Zt e
 refine call_any_walk (UK d ?_)
 refine⟨s.heap.objs.size,[s.heap.objs.size,l],[s.heap.objs.size],_,_,_,λi=>(bs[i]?).getD aS,rfl,Walks.list (A:=X.A.in1) (I.ok.hd y) _ l (ZI f) _,
  ⟨⟨_,ZA _ rfl,rfl,rfl⟩,d.push _⟩,λi v s' Q' E' C j=>?_,λU T B=>?_⟩
 ·have c:(bs.map Value.bool)[i]?=aw v:=by simpa using C
  rw[Zp] at c;cases hb:bs[i]? with
  |none=>rw[hb] at c;cases c
  |some b=>
   rw[hb] at c;have E:Value.bool b=v:=Option.some.inj c;subst E;simp only[hb,ZW] at j;exact UV j
 ·have e:((Zk (bs.map Value.bool).toArray.size).any λi=>(bs[i]?).getD aS)=bs.any id:=by
   rw[Zl,Za,YS];simp only[Y7,ZO,id];constructor
   ·rintro⟨i,hi,h⟩;rw[gEG hi,ZW] at h;exact⟨_,ZJ hi,h⟩
   ·rintro⟨b,hb,h⟩;obtain⟨i,hi,rfl⟩:=XM.mp hb;exact⟨i,hi,by rw[gEG hi,ZW];exact h⟩
  rw[e];exact⟨.bl (bs.any id),H,I.kept (t':=T) (rO B),rfl,q⟩
def Jm:OpR X (VQ .Is) (λx y H Q=>∃b c,x = .bl b/\y = .bl c/\Q (.bl (b == c)) H):=by
 intro p s j H x y v u Q I f d h;obtain⟨b,c,rfl,rfl,q⟩:=h;cases f;cases d;exact is_bool ⟨.bl _,H,I,rfl,q⟩
def yq:OpR X (VQ .IsNot) (λx y H Q=>∃b c,x = .bl b/\y = .bl c/\Q (.bl (b != c)) H):=by
 intro p s j H x y v u Q I f d h;obtain⟨b,c,rfl,rfl,q⟩:=h;cases f;cases d;exact isnot_bool ⟨.bl _,H,I,rfl,q⟩
def lZ(L:X.calm=aN):∀ {p:List (Addr × Obj)} {s:Shared} {C:St} {H:Hp} {Q:VK} {r:Addr} {n:Nat} {t u v:Tok},Inv X p C H s->IsRange s.heap r 0 n 1 t u v->n<=1000->(∀l,H l=aD->Q (.ref l) (upd H l (.lst ((Zk n).map λ(i:Nat)=>V.int i)))) ->
  wpAny (model X.prog X.w) X.A (call (.type "list") [.ref r]) (EP X p C Q) X.xe s:=by
 intro p s C H Q r n t u v I Z hn q;have f:Builtin.Range.small 0 n 1=aN:=small_one (by lia) (by lia) (by lia) (by lia);refine call_list_range (n:=n) (I.ok.hd L) Z f (by rw[rangeSize_one];split <;> lia) (by lia) λh' E b J U z h=>?_;refine⟨.ref s.heap.objs.size,_,I.laid (t':=E) (o:=.lst ((Zk n).map λ(i:Nat)=>V.int i)) U (Ze _) ?_,rfl,q _ (I.hok.fresh (Ze _))⟩;have B:b.size=n:=h.1;refine⟨by rw[Za,ZG];exact YW (ym hn),b.toList,J,?_,by simpa using z⟩
 have go:∀ (m:Nat) (k:Nat) (l:List Value),l.length=m->(∀j x,l[j]?=aw x->∃E,x=Value.int (((k+j:Nat):Nat):Int) E)->aO ((List.range' k m).map λ(i:Nat)=>V.int i) l:=by
  intro m
  induction m with
  |zero=>intro k l d _;cases l with |nil=>exact .nil |cons _ _=>cases d
  |succ m ih=>
   intro k l d c;cases l with
   |nil=>cases d
   |cons x l=>
    rw[List.range'_succ,Zw];obtain⟨t,e⟩:=c 0 x rfl;refine .cons ⟨t,by simpa using e⟩ (ih (k+1) l (by simpa using d) λj y Y=>?_);obtain⟨t',O⟩:=c (j+1) y (by simpa using Y);exact⟨t',by rw[O,show((k+(j+1):Nat):Int)=((k+1+j:Nat):Int) from by lia]⟩
 rw[List.range_eq_range'];refine go n 0 b.toList (by simpa using B) λj x c=>?_;obtain⟨T,e⟩:=h.2 j x (by simpa using c);exact⟨T,by rw[e,show(0:Int)+(j:Nat) * 1=((0+j:Nat):Int) from by lia]⟩
end
section
variable {κ:Type} [DecidableEq κ]
abbrev jD(b:List (κ × V))(k:κ):Option V:=(b.find? λc=>decide (c.1=k)).map (·.2)
abbrev l5(b:List (κ × V))(k:κ)(v:V):List (κ × V):=
 if (b.any λc=>decide (c.1=k))=aN then b.map (λc=>if c.1=k then (c.1,v) else c) else b++[(k,v)]
def iW{p:κ × V}{r:List (κ × V)}{k:κ}(e:p.1=k):jD (p::r) k=aw p.2:=by simp[jD,YH,e]
def fQ{p:κ × V}{r:List (κ × V)}{k:κ}(e:¬ p.1=k):jD (p::r) k=jD r k:=by simp[jD,YH,e]
def l6(k:κ):∀b:List (κ × V),(b.any λc=>decide (c.1=k))=(jD b k).isSome
 |[]=>rfl
 |p::r=>by
  rw[YI];by_cases e:p.1=k
  ·simp only[iW e,decide_eq_true e,Bool.true_or,X4]
  ·rw[fQ e,decide_eq_false e,Wx];exact l6 k r
def j9(b:List (κ × V))(k:κ)(v:V):(l5 b k v).length<=b.length+1:=by
 unfold l5;split
 ·rw[Za];omega
 ·rw[Zh,Zo,Z1];omega
def ui.isSome_eq(r:ui o u):o.isSome=u.isSome:=by
 cases o with
 |none=>cases u with
  |none=>rfl
  |some _=>exact(show False from r).elim
 |some _=>cases u with
  |none=>exact(show False from r).elim
  |some _=>rfl
def KV.val{c:List (κ × V)}{v:List (κ × Value)}(r:KV c v)(k:κ):ui (jD c k) (valueAt v k):=by
 unfold KV at r
 induction r with
 |nil=>exact True.intro
 |@cons p q ps qs h t ih=>
  obtain⟨d,f⟩:=h;by_cases e:p.1=k
  ·have E:q.1=k:=d.symm.trans e;have b:valueAt (q::qs) k=aw q.2:=by simp[valueAt,YH,E]
   rw[iW e,b];exact f
  ·have E:¬ q.1=k:=λz=>e (d.trans z);have b:valueAt (q::qs) k=valueAt qs k:=by simp[valueAt,YH,E]
   rw[fQ e,b];exact ih
def KV.any{b:List (κ × V)}{v:List (κ × Value)}(r:KV b v)(k:κ):(b.any λc=>decide (c.1=k))=v.any λc=>decide (c.1=k):=by
 unfold KV at r
 induction r with
 |nil=>rfl
 |cons h t I=>rw[YI,YI,I,h.1]
def KV.repl(r:KV d v)(k:κ)(f:aJ y u) :
  KV (d.map λb=>if b.1=k then (b.1,y) else b) (v.map λb=>if b.1=k then (b.1,u) else b):=by
 unfold KV at r ⊢
 induction r with
 |nil=>exact .nil
 |@cons p q ps qs h t ih=>
  rw[Zw,Zw];refine .cons ?_ ih;obtain⟨c,j⟩:=h;by_cases e:p.1=k
  ·rw[if_pos e,if_pos (c.symm.trans e)];exact⟨c,f⟩
  ·rw[if_neg e,if_neg (λz=>e (c.trans z))];exact⟨c,j⟩
def KV.put(r:KV b v)(k:κ)(c:aJ y u):KV (l5 b k y) (stored v k u):=by
 unfold l5 stored;rw[r.any k];by_cases e:(v.any λd=>decide (d.1=k))=aN
 ·rw[if_pos e,if_pos e];exact r.repl k c
 ·rw[if_neg e,if_neg e];exact Paired.snoc r ⟨rfl,c⟩
def KV.length(r:KV k v):k.length=v.length:=Paired.length r
end
def oG(r:aJ (kV k) u):(a9 P w).is k u=aN:=by
 cases k with
 |inl i=>obtain⟨t,e⟩:=(show ∃t,u=Value.int i t from r);subst e;exact rm P w i t
 |inr x=>obtain⟨t,e⟩:=(show ∃t,u=Value.str x t from r);subst e;exact rq P w x t
def oH:∀ {b:List Key} {u:List Value},aO (b.map kV) u->ItemsAre (a9 P w) b u
 |[],_,r=>by rw[Yn] at r;cases r;exact .nil
 |k::b,_,r=>by
  rw[Zw] at r;cases r with
  |cons h t=>exact .cons (oG h) (oH t)
@[inline]abbrev KT(H:Hp):List (List NK × V)->List (List NK × Addr × Value)->Prop:=Paired λp q=>p.1=q.1/\pV H p.1 q.2.1/\aJ p.2 q.2.2
def KT.val{H:Hp}{c:List (List NK × V)}{X:List (List NK × Addr × Value)}(r:KT H c X)(k:List NK):ui (jD c k) ((atKey X k).map (·.2)):=by
 induction r with
 |nil=>exact True.intro
 |@cons p q ps qs h t ih=>
  obtain⟨d,_,f⟩:=h;by_cases e:p.1=k
  ·have E:q.1=k:=d.symm.trans e;have b:atKey (q::qs) k=aw q.2:=by simp[atKey,YH,E]
   rw[iW e,b];exact f
  ·have E:¬ q.1=k:=λz=>e (d.trans z);have b:atKey (q::qs) k=atKey qs k:=by simp[atKey,YH,E]
   rw[fQ e,b];exact ih
def KT.repl(r:KT H d X)(k:List NK)(j:aJ y u) :
  KT H (d.map λc=>if c.1=k then (c.1,y) else c) (X.map (putAt k u)):=by
 induction r with
 |nil=>exact .nil
 |@cons p q ps qs h t ih=>
  rw[Zw,Zw];refine .cons ?_ ih;obtain⟨b,f,n⟩:=h;unfold putAt;by_cases e:p.1=k
  ·rw[if_pos e,if_pos (b.symm.trans e)];exact⟨b,f,j⟩
  ·rw[if_neg e,if_neg (λz=>e (b.trans z))];exact⟨b,f,n⟩
def KT.put(r:KT H c X)(k:List NK)(hb:pV H k b)(d:aJ y u) :
  KT H (l5 c k y) (storedH X k b u):=by
 have e:(c.any λf=>decide (f.1=k))=(atKey X k).isSome:=by
  rw[l6,(r.val k).isSome_eq,Xo]
 unfold l5 storedH;rw[e];by_cases q:(atKey X k).isSome=aN
 ·rw[if_pos q,if_pos q];exact r.repl k d
 ·rw[if_neg q,if_neg q];exact Paired.snoc r ⟨rfl,hb,d⟩
def KT.keeps(r:KT H k xs)(h:∀b y,H b=aw (.tup y)->c b=aw (.tup y)):KT c k xs:=
 Paired.mapP r λ_ _ z=>⟨z.1,z.2.1.mono h,z.2.2⟩
section
variable {P:Program} {w:World} {H:Hp} {h:Heap} {a:Addr}
def Hy(ok:HOk P w H h)(e:Rd H a u):bp P w H h a u:=e.ok ok
def rQ(ok:HOk P w H h)(e:Rd H a (.dK k)):k.length<=sizeLine/\(a == Uo)=aS/\∃vs,KV k vs/\h.DictOf (a9 P w) a vs:=
 show bp P w H h a (.dK k) from Hy ok e
def NY(ok:HOk P w H h)(e:H a=aw (.dK k)):k.length<=sizeLine/\(a == Uo)=aS/\∃vs,KV k vs/\h.DictOf (a9 P w) a vs:=rQ ok (.inl e)
def Ak(ok:HOk P w H h)(e:H a=aw (.tup (k.map kV))):IsTupleKey (a9 P w) h k a:=by
 obtain⟨_,I,r,o,c,b,n,d,_⟩:=(show bp P w H h a (.tup (k.map kV)) from ok a _ e);exact⟨o,I.toArray,n,c,b,d,by simpa using oH r⟩
def eO{c:List NK}(ok:HOk P w H h)(e:pV H c a):(fM P w).is h c a:=by
 obtain⟨X,E,j⟩:=e;obtain⟨_,I,r,o,f,d,n,v,_⟩:=(show bp P w H h a (.tup X) from ok a _ E);refine⟨o,I.toArray,n,f,d,v,?_⟩
 have all:∀ {c:List NK} {X:List V} {us:List Value},Paired (xZ H) c X->aO X us->Paired (NIs P w h) c us:=by
  intro c X us p
  induction p generalizing us with
  |nil=>intro q;cases q;exact .nil
  |@cons k x c X hk _ ih=>
   intro q;cases q with
   |cons Q u=>
    refine .cons ?_ (ih u);cases k with
    |non=>cases hk;exact Q
    |one k=>cases hk;exact oG (P:=P) (w:=w) Q
    |tup y=>obtain⟨b,rfl,hb⟩:=hk;cases Q;exact⟨b,rfl,Ak ok hb⟩
 simpa using all j r
def rR(ok:HOk P w H h)(e:Rd H a (.dT k)):k.length<=sizeLine/\(a == Uo)=aS ∧
  ∃xs,KT H k xs/\h.DictOfH (fM P w) a xs:=by
 obtain⟨z,y,xs,r,o,E,f,c,b,j,h4,d⟩:=(show bp P w H h a (.dT k) from Hy ok e);refine⟨z,y,xs,r,o,E,f,c,b,j,h4,λx hx=>?_,d⟩
 have all:∀ {l:List (List NK × V)} {m:List (List NK × Addr × Value)},KT H l m->∀x ∈ m,(fM P w).is h x.1 x.2.1:=by
  intro l m q
  induction q with
  |nil=>intro x hx;exact nomatch hx
  |@cons p q ps qs hq t ih=>
   intro x hx;rcases Zn.mp hx with e |hx
   ·subst e;exact eO ok (by rw[<-hq.1];exact hq.2.1)
   ·exact ih x hx
 exact all r x hx
def NZ(ok:HOk P w H h)(e:H a=aw (.dT k)):k.length<=sizeLine/\(a == Uo)=aS ∧
  ∃xs,KT H k xs/\h.DictOfH (fM P w) a xs:=rR ok (.inl e)
end
abbrev Al(H:Hp)(a:Addr)(y:V)(r:Option V):Prop:=
 (∃c k,Rd H a (.dK c)/\y=kV k/\r=jD c k)\/∃c k b,Rd H a (.dT c)/\y = .ref b/\pV H k b/\r=jD c k
abbrev N0(H:Hp)(a:Addr)(y v:V)(h:Hp):Prop:=
 (∃c k,H a=aw (.dK c)/\y=kV k/\c.length < sizeLine/\h=upd H a (.dK (l5 c k v))) ∨
 ∃c k b,H a=aw (.dT c)/\y = .ref b/\pV H k b/\c.length < sizeLine/\h=upd H a (.dT (l5 c k v))
section
variable {X:Cx} {pins:List (Addr × Obj)} {σ:St} {H:Hp} {s:Shared} {a:Addr} {y v:V} {u r:Value} {o:Option V} {A:Around} {E:Value->Shared->Prop}
def Inv.big(I:Inv X pins σ H s):Uo < s.heap.objs.size:=by
 have h:V1 < s.heap.objs.size:=(I.mod.glob.keeps I.bk).lt;exact Nat.lt_trans (by decide) h
def yr(O:A.units+2 < cLine)(I:Inv X pins σ H s)(g:Al H a y (aw v))(C:aJ y u)(h:∀d J,Inv X pins σ H J->aJ v d->Q d J) :
  wpAny (model X.prog X.w) A (getItem (.ref a) u) Q E s:=by
 rcases g with ⟨B,k,e,j,l⟩ |⟨B,k,b,e,j,T,l⟩
 ·subst j;obtain⟨z,hd,U,rel,q⟩:=rQ I.hok e;obtain⟨d,f,c⟩:=ui.some_of (v:=v) (o:=valueAt U k) (by rw[l];exact rel.val k);exact wpAny_getItem_of (oG C) q.mapOf f (h d _ (I.tok _) c)
 ·subst j;cases (show u=Value.ref b from C);obtain⟨z,hd,Y,rel,q⟩:=rR I.hok e;obtain⟨d,f,c⟩:=ui.some_of (v:=v) (o:=(atKey Y k).map (·.2)) (by rw[l];exact rel.val k);obtain⟨p,L,n⟩:=ZV.mp f;refine wpAny_getItem_heap (show _+1 < _ from O) (eO I.hok T) q L ?_;rw[n];exact h d _ (I.tok _) c
def QI(p:A.units+2 < cLine)(I:Inv X pins σ H s)(g:Al H a y o)(j:aJ y u)(h:∀n,Inv X pins σ H n->Q (.bool o.isSome) n) :
  wpAny (model X.prog X.w) A (VQ .In u (.ref a)) Q E s:=by
 rcases g with ⟨c,k,e,d,l⟩ |⟨c,k,b,e,d,B,l⟩
 ·subst d;obtain⟨z,hd,J,rel,f⟩:=rQ I.hok e;refine wpAny_in_of (oG j) hd f.mapOf ?_;rw[<-(rel.val k).isSome_eq,<-l];exact h _ (I.tok _)
 ·subst d;cases (show u=Value.ref b from j);obtain⟨z,hd,C,rel,f⟩:=rR I.hok e;refine wpAny_in_heap (show _+1 < _ from p) (eO I.hok B) hd f ?_;have q:=(rel.val k).isSome_eq;rw[Xo] at q;rw[<-q,<-l];exact h _ (I.tok _)
def D8(p:A.units+2 < cLine)(I:Inv X pins σ H s)(g:Al H a y o)(j:aJ y u)(h:∀n,Inv X pins σ H n->Q (.bool (!o.isSome)) n) :
  wpAny (model X.prog X.w) A (VQ .NotIn u (.ref a)) Q E s:=by
 rcases g with ⟨c,k,e,d,l⟩ |⟨c,k,b,e,d,B,l⟩
 ·subst d;obtain⟨z,hd,J,rel,f⟩:=rQ I.hok e;refine wpAny_notIn_of (oG j) hd f.mapOf ?_;rw[<-(rel.val k).isSome_eq,<-l];exact h _ (I.tok _)
 ·subst d;cases (show u=Value.ref b from j);obtain⟨z,hd,C,rel,f⟩:=rR I.hok e;refine wpAny_notIn_heap (show _+1 < _ from p) (eO I.hok B) hd f ?_;have q:=(rel.val k).isSome_eq;rw[Xo] at q;rw[<-q,<-l];exact h _ (I.tok _)
def wD{t':Nat}(I:Inv X pins σ H s)(c:Mut (H a))(hs:Heap.SameBut a s.heap h')(h:∃q,h'.get? a=aw q)(new:bp X.prog X.w (upd H a ob) h' a ob) :
  Inv X pins σ (upd H a ob) { s with heap:=h',toks:=t' }:=
 I.write (x:=a) (e:=a) c (.inl rfl) (λb q hb z=>(hs.2 b hb).trans z) h new
def Jn(z:k.length<=sizeLine)(hd:(a == Uo)=aS)(rel:KV k b)(d:h'.DictOf (a9 P w) a b) :
  bp P w h h' a (.dK k):=⟨z,hd,b,rel,d⟩
def yt(hu:A.units+2 < cLine)(I:Inv X pins σ H s)(g:N0 H a y v H')(U:aJ y u)(Y:aJ v r)(h:∀Z,Inv X pins σ H' Z->Q () Z) :
  wpAny (model X.prog X.w) A (setItem (.ref a) u r) Q E s:=by
 rcases g with ⟨d,k,e,C,l,B⟩ |⟨d,k,b,e,C,O,l,B⟩
 ·subst C B;obtain⟨z,hd,vs,rel,J⟩:=NY I.hok e;have n:vs.length<=sizeLine:=by rw[<-rel.length];exact z
  have p:(l5 d k v).length<=sizeLine:=by have:=j9 d k v;omega
  refine wpAny_setItem_pairs (hsz:=n) (oG U) J λL f hs=>h _ ?_;have he:∃q,L.get? a=aw q:=let ⟨q,_,_,j,_⟩:=f;⟨q,j⟩;exact wD I (by rw[e];exact True.intro) hs he (Jn p hd (rel.put k Y) f)
 ·subst C B;cases (show u=Value.ref b from U);obtain⟨z,hd,xs,rel,J⟩:=NZ I.hok e;have n:xs.length<=sizeLine:=by rw[<-Paired.length rel];exact z
  have p:(l5 d k v).length<=sizeLine:=by have:=j9 d k v;omega
  refine wpAny_setItem_heap (hsz:=n) (show _+1 < _ from hu) (eO I.hok O) J λL f hs=>h _ ?_;obtain⟨q,es,ep,j,h2,h3,h4,_,h5⟩:=f;refine wD I (by rw[e];exact True.intro) hs ⟨q,j⟩ ⟨p,hd,_,(rel.put k O Y).keeps λc ys T=>?_,q,es,ep,j,h2,h3,h4,h5⟩;rw[aB (rC T e (λz=>nomatch z))];exact T
end
def rT(I:Inv X p h H s)(g:Al H a y o):s.TypeIs (.ref a) "dict" := by
 rcases g with ⟨c,k,e,_,_⟩ |⟨c,k,b,e,_,_,_⟩
 ·obtain⟨_,_,v,_,d⟩:=rQ I.hok e;exact d.typeIs
 ·obtain⟨_,_,f,_,d⟩:=rR I.hok e;exact d.typeIs
def Am(h:Heap)(hb:Uo < h.objs.size):bp P w H (h.push { cls:=.type "dict", data:=.dict #[] }) h.objs.size (.dT []):=
 ⟨YK _,beq_eq_false_iff_ne.mpr (Ne.symm (ZI hb)),[],.nil,_,#[],0,ZA _ rfl,⟨rfl,rfl,rfl⟩,rfl,rfl,XN⟩
abbrev An:TE:=λ_ H Q=>∀p,H p=aD->Q (.ref p) (upd H p (.dT []))
section
variable {X:Cx} {pos:Pos}
def Ao:PE X (.Dict [] [] pos) An:=λp s b H Q I h=>
 wpAny_Dict_empty ⟨.ref s.heap.objs.size,_,I.laid (a:=s.heap.objs.size) (o:=.dT []) (t':=s.toks) (λ_ _ q=>Zf _ q) (Ze _) (Am s.heap I.big),rfl,h _ (I.hok.fresh (Ze _))⟩
end
end L2
namespace HT
open PySem PyProof.Rows
open AutoSeq1 (wpAny_loadPart')
section
variable {prog:Program} {w:World} {A:Around} {E:Value->Shared->Prop} {s:Shared}
def kJ{i:Nat}(h:s.heap.IsTupleIter b t i)(n:s.heap.IsTuple t I)(k:I[i]?=aw x)
  (j:∀h',h'.IsTupleIter b t (i+1)->Heap.SameBut b s.heap h'->Q x { s with heap:=h' }):wpAny (model prog w) A (Builtin.SmallTypes.nextOf (.ref b)) Q E s:=by
 obtain⟨o,ho,f,hd⟩:=id h;obtain⟨O,c,_,p,d⟩:=n;unfold Builtin.SmallTypes.nextOf
 refine Us (wpAny_callSpecial?_slot (name:=Str.ofString "__next__") h.typeIs W5
  (Uu W5 h.typeIs WV ?_ (WO _)))
 show wpAny _ _ (field (.ref b) 0 >>= _) _ _ s;refine Us (Ux ho hd (x:=.ref t) rfl ?_);show wpAny _ _ (if (Value.ref t == Value.none)=aN then _ else _) _ _ s;rw[if_neg (show ¬ ((Value.ref t == Value.none)=aN) from Zg)];show wpAny _ _ (field (.ref b) 1 >>= _) _ _ s;refine Us (Ux ho hd (x:=.int i 0) rfl ?_);show wpAny _ _ (Uf (.ref t) >>= _) _ _ s;refine Us (UR c d ?_);simp only[Zy,k];refine Us (wpAny_setField ho hd (by simp) (UI ⟨x,rfl,UI (j _ ?_ (Heap.SameBut.update ..))⟩))
 exact⟨_,Yi _ ho (Obj.isFreed_of_fields (Obj.data_mapFields hd _)),(Obj.cls_mapFields ..).trans f,by
  rw[Obj.data_mapFields hd];simp[rawInt]⟩
def l8{i:Nat}(f:A.handled=aD)(h:s.heap.IsTupleIter b t i)(n:s.heap.IsTuple t I)(j:I[i]?=aD)
  (k:∀h' e,Heap.ExtBut b s.heap h'->(∃o,h'.get? e=aw o/\o.cls = .type "StopIteration")->E (.ref e) { s with heap:=h' }):wpAny (model prog w) A (Builtin.SmallTypes.nextOf (.ref b)) Q E s:=by
 obtain⟨o,ho,q,hd⟩:=id h;obtain⟨O,c,_,p,d⟩:=n;unfold Builtin.SmallTypes.nextOf
 refine Us (wpAny_callSpecial?_slot (name:=Str.ofString "__next__") h.typeIs W5
  (Uu W5 h.typeIs WV ?_ (WO _)))
 show wpAny _ _ (field (.ref b) 0 >>= _) _ _ s;refine Us (Ux ho hd (x:=.ref t) rfl ?_);show wpAny _ _ (if (Value.ref t == Value.none)=aN then _ else _) _ _ s;rw[if_neg (show ¬ ((Value.ref t == Value.none)=aN) from Zg)];show wpAny _ _ (field (.ref b) 1 >>= _) _ _ s;refine Us (Ux ho hd (x:=.int i 0) rfl ?_);show wpAny _ _ (Uf (.ref t) >>= _) _ _ s;refine Us (UR c d ?_);simp only[Zy,j];refine Us (UQ (Us (wpAny_setField ho hd (by simp) ?_)));show wpAny _ _ (newExc (.type "StopIteration") [] >>= _) _ _ _;refine Us ?_;simp only[newExc,newTuple];refine Us (UF ?_ (by size_fits));refine Us (m:=firstArgMember _ _) (UG (a:=Value.none) (by first |rfl |(simp only[firstArgMember];rfl)) ?_);refine UF ?_ (by size_fits);simp only[raiseNew];refine Us (wpAny_handled ?_)
 first |rw[show A.in1.handled=aD from f] |rw[f]
 refine Us (UI (wpAny_throw ?_));exact k _ _ (((Heap.SameBut.update ..).extBut.push _).push _) ⟨_,ZA _ rfl,rfl⟩
end
def Ap(q:A.handled=aD)(d l:Addr)(f:l ≠ d)(I:Array Value) :
  Draws prog w A d [d,l] I.size (λi v=>I[i]?=aw v) (λi h=>h.IsTupleIter d l i/\h.IsTuple l I) where
 live:=λ_ _ st=>let ⟨o,ho,_⟩:=st.1;⟨o,ho⟩
 frame:=λ_ _ _ st j=>⟨st.1.at λo e=>j d (by simp) o e,let ⟨o,e,r⟩:=st.2;⟨o,j l (by simp) o e,r⟩⟩
 item:=λi s Q E hi st n=>by
  refine kJ st.1 st.2 (x:=I[i]) (by simp[hi]) λk c b=>?_;exact n _ k s.toks (by simp[hi]) ⟨c,let ⟨o,e,r⟩:=st.2;⟨o,b.extBut l o f e,r⟩⟩ b
 done:=λs Q E st p=>l8 q st.1 st.2 (by simp) p
def rV(l:Addr)(items:Array Value)(n:Nat)(f:Option Addr)(sl:Array (Option Value)) :
  Meets (Builtin.«enumerate.__new__» ⟨[.type "enumerate", .ref l],[]⟩) (λ_ R s=>s.heap.get? l=aw { cls:=.type "tuple", dict:=f,data:=.seq items n,slots:=sl } ∧
   R (.ok (.ret (.ref (s.heap.push { cls:=.type "tuple_iterator", data:=.fields #[.ref l,.int 0 0] }).objs.size)))
    { s with heap:=(s.heap.push { cls:=.type "tuple_iterator", data:=.fields #[.ref l,.int 0 0] }).push { cls:=.type "enumerate", data:=.fields #[.none,.bool aS,.ref s.heap.objs.size,rawInt 0,.none,.none] } }):=
 .of_wp λprog w A R s h=>by
  obtain⟨p,g,d,T,os⟩:=s;obtain⟨b,h⟩:=h;have k:=sub_enumerate;have j:Heap.IsTuple (Shared.heap ⟨p,g,d,T,os⟩) l items:=⟨_,b,rfl,n,rfl⟩
  wp_walk using UD b
  refine wpAny_stack_any λst=>UI ?_;split
  ·rename_i c _ _ _ _ _;cases (c == Value.type "enumerate")
   ·wp_walk using UD b,UM j
    exact⟨_,rfl,h⟩
   ·wp_walk using UD b,UM j
    exact⟨_,rfl,h⟩
  ·wp_walk using UD b,UM j
   exact⟨_,rfl,h⟩
def uA(u:IsTup s.heap l I)
  (h:∀h',IsEnum h' (s.heap.objs.size+1) s.heap.objs.size 0 .none->h'.IsTupleIter s.heap.objs.size l 0->h'.objs.size=s.heap.objs.size+2 ->
   (∀b o,s.heap.get? b=aw o->h'.get? b=aw o)->Q (.ref (s.heap.objs.size+1)) { s with heap:=h' }) :
  wpAny (model prog w) A (call (.type "enumerate") [.ref l]) Q E s:=by
 obtain⟨⟨c,j,q,sl⟩,p,d,n,hd⟩:=u;replace d:c = .type "tuple" := d;replace hd:q = .seq I n:=hd;subst d hd
 refine callType_new PySem.F.called_enumerate (by decide) (PySem.F.typeCall_enumerate_1 _) (PySem.F.newCall_enumerate_1 _) (λobj=>PySem.F.args_object_init_2 obj _) PySem.F.entry_enumerate_new
  (rV l I n j sl) ⟨p,?_⟩
 have f:(s.heap.push { cls:=.type "tuple_iterator", data:=.fields #[.ref l,.int 0 0] }).objs.size=s.heap.objs.size+1:=Yt ..;show _/\_;rw[f]
 have k:IsEnum ((s.heap.push { cls:=.type "tuple_iterator", data:=.fields #[.ref l,.int 0 0] }).push
   { cls:=.type "enumerate", data:=.fields #[.none,.bool aS,.ref s.heap.objs.size,rawInt 0,.none,.none] }) (s.heap.objs.size+1) s.heap.objs.size 0 .none:=by
  have:=ZA (s.heap.push { cls:=.type "tuple_iterator", data:=.fields #[.ref l,.int 0 0] })
   (o:={ cls:=.type "enumerate", data:=.fields #[.none,.bool aS,.ref s.heap.objs.size,rawInt 0,.none,.none] }) rfl
  rw[f] at this;exact this
 exact⟨⟨_,k,rfl⟩,h _ k ⟨_,Zf _ (ZA _ rfl),rfl,rfl⟩ (by rw[Yt,f]) λb o x=>Zf _ (Zf _ x)⟩
end HT
namespace L2
open PySem PySem.Spec PyProof.Rows
abbrev Ite(K:Vk)(a:Addr)(b:Vk->Hp->Addr->List V->Prop):It:=
 ⟨λi H=>∃X x,b K H a X/\X[i]?=aw x,λi H x h=>∃T,H T=aD/\x = .ref T/\∀X v,b K H a X->X[i]?=aw v->h=upd H T (.tup [.int i,v]),λi H=>∃X,b K H a X/\X.length=i⟩
def Inv.turnedLaid{X:Cx}{p:List (Addr × Obj)}{y:St}{H:Hp}{s:Shared}{h':Heap}{T:Addr}{o:HO}{t':Nat}{ch:List Addr}(I:Inv X p y H s)(d:∀b ∈ ch,gX X p H b)
  (k:∀b ob,b ∉ ch->s.heap.get? b=aw ob->h'.get? b=aw ob) (j:s.heap.objs.size<=T) (new:bp X.prog X.w (upd H T o) h' T o):Inv X p y (upd H T o) { s with heap:=h',toks:=t' }:=by
 have fr:=I.hok.fresh j;have neT:∀b ob,s.heap.get? b=aw ob->b ≠ T:=λb ob e=>ZI (ZH (Zt e) j)
 refine I.step (g':=s.gens) (d':=s.drawn) (ch:=ch) (λb hb=>⟨(d b hb).2.2.2.1,(d b hb).2.1,(d b hb).2.2.2.2.1,(d b hb).2.2.2.2.2⟩) (λb ob _ _ h e _=>k b ob h e) (λb ob _ _ h e _=>⟨ob.slots,k b ob h e⟩)
  (λb ob _ e n=>by rw[aB (neT b ob e)];exact n) (λb ob h e=>⟨ob,k b ob h e⟩) (λb B q=>by rw[aB (aV q fr)];exact q) (λb u B q=>by rw[aB (aV q fr)];exact q)
  (λb ps q=>⟨#[],by rw[aB (aV q fr),q];simp⟩) (λm J=>?_) (λb u q=>?_) I.bare
 ·obtain⟨ob,C,E,f,L⟩:=J;exact⟨ob,C,E,k _ ob (λz=>(d _ z).2.1 rfl) f,L⟩
 ·by_cases hb:b=T
  ·subst hb;rw[bg] at q;cases q;exact new
  ·rw[aB hb] at q;refine(I.hok b u q).stay (λc v h Q=>k c v (λz=>?_) Q) (λc q=>by rw[aB (aV q fr)];exact q) λc B q=>by rw[aB (aV q fr)];exact q
   have n:=(d c z).1;rcases h with w |w
   ·rw[w,q] at n;cases n
   ·rw[w] at n;cases n
def Inv.turnedAll{X:Cx}{p:List (Addr × Obj)}{j:St}{H:Hp}{s:Shared}{h':Heap}{t':Nat}{ch:List Addr}(I:Inv X p j H s)(d:∀b ∈ ch,gX X p H b)
  (k:∀b ob,b ∉ ch->s.heap.get? b=aw ob->h'.get? b=aw ob):Inv X p j H { s with heap:=h',toks:=t' }:=by
 refine I.step (g':=s.gens) (d':=s.drawn) (ch:=ch) (λb hb=>⟨(d b hb).2.2.2.1,(d b hb).2.1,(d b hb).2.2.2.2.1,(d b hb).2.2.2.2.2⟩) (λb ob _ _ h e _=>k b ob h e) (λb ob _ _ h e _=>⟨ob.slots,k b ob h e⟩)
  (λb ob _ e n=>n) (λb ob h e=>⟨ob,k b ob h e⟩) (λb y q=>q) (λb u y q=>q)
  (λb ps q=>⟨#[],by rw[q];simp⟩) (λm C=>?_) (λb u q=>?_) I.bare
 ·obtain⟨ob,B,E,f,J⟩:=C;exact⟨ob,B,E,k _ ob (λz=>(d _ z).2.1 rfl) f,J⟩
 ·refine(I.hok b u q).stay (λc v h Q=>k c v (λz=>?_) Q) (λc q=>q) λc y q=>q;have n:=(d c z).1;rcases h with w |w
  ·rw[w,q] at n;cases n
  ·rw[w] at n;cases n
def uB{P:Program}{w:World}{K:Vk}{elts:List Expr}{x1:Nat}{tp:Pos}(a e it:Addr)(T:e ≠ it) :
  Turn P w K (.Tuple elts x1 tp) (Ite K a SqL) [e,it] e (λi h=>(∃O,IsEnum h e it i O)/\h.IsListIter it a i) where
 mem:=by simp
 obj:=λi h st b hb=>by
  obtain⟨⟨O,C⟩,o,U,c,d⟩:=st;rcases Zn.mp hb with z |z
  ·subst z;exact⟨_,C,λv z=>by have z':Data.fields _=Data.cell v:=z;cases z'⟩
  ·have z':=ZM.mp z;subst z';exact⟨o,U,λv z=>by rw[d] at z;cases z⟩
 keep:=λi h h' st k=>⟨let ⟨O,C⟩:=st.1;⟨O,k e (by simp) _ C⟩,st.2.at λo U=>k it (by simp) o U⟩
 item:=by
  intro X hP hw hK hc i pins s σ H E I hf st hg;subst hP hw hK;obtain⟨xs,x,hq,hx⟩:=hg;obtain⟨f,rv,p,hz⟩:=I.list hq;obtain⟨u,hu,ru⟩:=rv.get hx;obtain⟨⟨O,C⟩,B⟩:=st;have Z:s.heap.IsList a f.toArray:=p.isList
  have hae:e ≠ a:=λz=>by
   subst z;obtain⟨o,ho,hc',n,j⟩:=id Z;rw[C] at ho;cases ho;have z':Data.fields _=Data.seq f.toArray n:=j;cases z'
  have L:a ≠ it:=λz=>by
   subst z;obtain⟨o,ho,hc',n,j⟩:=id Z;obtain⟨o',Q,c',d'⟩:=id B;rw[Q] at ho;cases ho;rw[d'] at j;cases j
  have hi:i < f.toArray.size:=by
   have:=(Zb.mp hu).1
   simpa using this
  refine UO (Draws.list (A:=X.A.in1) (I.ok.hd hc) it a L f.toArray) C ⟨B,Z⟩ hi T (by simp[T,hae]) λy h' tk hP ho hs' hT hsz hk=>?_
  have ey:y=u:=by
   have z:f.toArray[i]?=aw u:=by simpa using hu
   rw[z] at hP;exact(Option.some.inj hP).symm
  subst ey;refine⟨_,rfl,?_⟩;refine UC ho λh2 he2 Y=>?_;have J:e < s.heap.objs.size:=Zt C;have hilt:it < s.heap.objs.size:=by obtain⟨o,U,_⟩:=B;exact Zt U
  have hT2:h2.get? s.heap.objs.size=aw { cls:=.type "tuple", data:=.seq #[.int i tk,y] }:=(Y.2 _ (X6 J)).trans hT;have fresh:=I.hok.fresh (Ze s.heap.objs.size);refine⟨.ref s.heap.objs.size,upd H s.heap.objs.size (.tup [.int i,x]),?_,rfl,⟨_,fresh,rfl,λys v hy hv=>?_⟩,⟨⟨y,by simpa using he2⟩,hs'.1.at λo U=>(Y.2 it (Ne.symm T)).trans U⟩,λb hb=>?_⟩
  ·exact I.turnedLaid (t':=tk+1) hf (λb ob hb eb=>(Y.2 b λz=>hb (by simp[z])).trans (hk b ob (λz=>hb (by simp[z])) (λz=>hb (by simp[z])) eb)) (Ze _)
    ⟨by show 2<=sizeLine;decide,[.int i tk,y],.cons ⟨tk,rfl⟩ (.cons ru .nil),⟨_,hT2,rfl,_,rfl,rfl⟩⟩
  ·rw[I.list_inj hy hq,hx] at hv;cases hv;rfl
  ·rcases Zn.mp hb with z |z
   ·rw[z,aB (ZI J)];exact(hf e (by simp)).1
   ·rw[ZM.mp z,aB (ZI hilt)];exact(hf it (by simp)).1
 done:=by
  intro X hP hw hK hc i pins s σ H E I hf st hg;subst hP hw hK;obtain⟨xs,hq,hx⟩:=hg;obtain⟨f,rv,p,hz⟩:=I.list hq;obtain⟨⟨O,C⟩,B⟩:=st;have Z:s.heap.IsList a f.toArray:=p.isList
  have L:a ≠ it:=λz=>by
   subst z;obtain⟨o,ho,hc',n,j⟩:=id Z;obtain⟨o',Q,c',d'⟩:=id B;rw[Q] at ho;cases ho;rw[d'] at j;cases j
  have hn:f.toArray.size=i:=by rw[Zl,<-rv.length,hx]
  subst hn;refine UN (Draws.list (A:=X.A.in1) (I.ok.hd hc) it a L f.toArray) C ⟨B,Z⟩ λh' eb=>⟨rfl,?_⟩;exact I.turnedAll (t':=s.toks) hf λb ob hb q=>eb b ob (λz=>hb (by simp[z])) q
 self:=λ_ _ _ _ _ st h=>let ⟨⟨O,C⟩,_⟩:=st;UJ C h
def uC{P:Program}{w:World}{K:Vk}{elts:List Expr}{x1:Nat}{tp:Pos}(a e it:Addr)(T:e ≠ it) :
  Turn P w K (.Tuple elts x1 tp) (Ite K a SqT) [e,it] e (λi h=>(∃O,IsEnum h e it i O)/\h.IsTupleIter it a i) where
 mem:=by simp
 obj:=λi h st b hb=>by
  obtain⟨⟨O,C⟩,o,U,c,d⟩:=st;rcases Zn.mp hb with z |z
  ·subst z;exact⟨_,C,λv z=>by have z':Data.fields _=Data.cell v:=z;cases z'⟩
  ·have z':=ZM.mp z;subst z';exact⟨o,U,λv z=>by rw[d] at z;cases z⟩
 keep:=λi h h' st k=>⟨let ⟨O,C⟩:=st.1;⟨O,k e (by simp) _ C⟩,st.2.at λo U=>k it (by simp) o U⟩
 item:=by
  intro X hP hw hK hc i pins s σ H E I hf st hg;subst hP hw hK;obtain⟨xs,x,hq,hx⟩:=hg;obtain⟨f,rv,p,hz⟩:=I.tuple hq;obtain⟨u,hu,ru⟩:=rv.get hx;obtain⟨⟨O,C⟩,B⟩:=st;have Z:s.heap.IsTuple a f.toArray:=p
  have hae:e ≠ a:=λz=>by
   subst z;obtain⟨o,ho,hc',n,j⟩:=id Z;rw[C] at ho;cases ho;have z':Data.fields _=Data.seq f.toArray n:=j;cases z'
  have L:a ≠ it:=λz=>by
   subst z;obtain⟨o,ho,hc',n,j⟩:=id Z;obtain⟨o',Q,c',d'⟩:=id B;rw[Q] at ho;cases ho;rw[d'] at j;cases j
  have hi:i < f.toArray.size:=by
   have:=(Zb.mp hu).1
   simpa using this
  refine UO (HT.Ap (A:=X.A.in1) (I.ok.hd hc) it a L f.toArray) C ⟨B,Z⟩ hi T (by simp[T,hae]) λy h' tk hP ho hs' hT hsz hk=>?_
  have ey:y=u:=by
   have z:f.toArray[i]?=aw u:=by simpa using hu
   rw[z] at hP;exact(Option.some.inj hP).symm
  subst ey;refine⟨_,rfl,?_⟩;refine UC ho λh2 he2 Y=>?_;have J:e < s.heap.objs.size:=Zt C;have hilt:it < s.heap.objs.size:=by obtain⟨o,U,_⟩:=B;exact Zt U
  have hT2:h2.get? s.heap.objs.size=aw { cls:=.type "tuple", data:=.seq #[.int i tk,y] }:=(Y.2 _ (X6 J)).trans hT;have fresh:=I.hok.fresh (Ze s.heap.objs.size);refine⟨.ref s.heap.objs.size,upd H s.heap.objs.size (.tup [.int i,x]),?_,rfl,⟨_,fresh,rfl,λys v hy hv=>?_⟩,⟨⟨y,by simpa using he2⟩,hs'.1.at λo U=>(Y.2 it (Ne.symm T)).trans U⟩,λb hb=>?_⟩
  ·exact I.turnedLaid (t':=tk+1) hf (λb ob hb eb=>(Y.2 b λz=>hb (by simp[z])).trans (hk b ob (λz=>hb (by simp[z])) (λz=>hb (by simp[z])) eb)) (Ze _)
    ⟨by show 2<=sizeLine;decide,[.int i tk,y],.cons ⟨tk,rfl⟩ (.cons ru .nil),⟨_,hT2,rfl,_,rfl,rfl⟩⟩
  ·rw[I.tuple_inj hy hq,hx] at hv;cases hv;rfl
  ·rcases Zn.mp hb with z |z
   ·rw[z,aB (ZI J)];exact(hf e (by simp)).1
   ·rw[ZM.mp z,aB (ZI hilt)];exact(hf it (by simp)).1
 done:=by
  intro X hP hw hK hc i pins s σ H E I hf st hg;subst hP hw hK;obtain⟨xs,hq,hx⟩:=hg;obtain⟨f,rv,p,hz⟩:=I.tuple hq;obtain⟨⟨O,C⟩,B⟩:=st;have Z:s.heap.IsTuple a f.toArray:=p
  have L:a ≠ it:=λz=>by
   subst z;obtain⟨o,ho,hc',n,j⟩:=id Z;obtain⟨o',Q,c',d'⟩:=id B;rw[Q] at ho;cases ho;rw[d'] at j;cases j
  have hn:f.toArray.size=i:=by rw[Zl,<-rv.length,hx]
  subst hn;refine UN (HT.Ap (A:=X.A.in1) (I.ok.hd hc) it a L f.toArray) C ⟨B,Z⟩ λh' eb=>⟨rfl,?_⟩;exact I.turnedAll (t':=s.toks) hf λb ob hb q=>eb b ob (λz=>hb (by simp[z])) q
 self:=λ_ _ _ _ _ st h=>let ⟨⟨O,C⟩,_⟩:=st;UJ C h
abbrev Jo(K:Vk)(T:TA):TI:=λb H R=>T b H λv h=>∃a X,v=[.ref a]/\SqL K h a X/\R (Ite K a SqL) h
abbrev N5(K:Vk)(T:TA):TI:=λb H R=>T b H λv h=>∃a X,v=[.ref a]/\SqT K h a X/\R (Ite K a SqT) h
section
variable {X:Cx} {elts:List Expr} {x1:Nat} {tp:Pos}
def Aq{a:Expr}{T:TA}{p f:Pos}(O:Gl X "enumerate")(Q:X.mg "enumerate" = aD)(ha:PA X [a] T)(hs:Uj [a] X.env=[(aS,eval a X.env)]:=by rfl):PI X (.Tuple elts x1 tp) (.Call (.Name "enumerate" p) [a] [] f) (Jo X.K T):=by
 intro c s y H R I h;refine Call_ (dA I O Q WC (WJ (thn (ha f c s y H _ I h) λus d ⟨vs,k,j,r1,Y⟩=>?_) hs rfl));obtain⟨l,xs,e,E,q⟩:=Y;subst e;obtain⟨u,rfl,Z⟩:=bR r1;cases Z;obtain⟨its,rv,C,hz⟩:=j.list E;refine call_enumerate_list C.isList λB v n L J=>UJ v ?_;have U:Inv X c y k { d with heap:=B }:=j.kept (t':=d.toks) J;have fr:∀b,d.heap.objs.size<=b->gX X c k b:=λb hb=>j.fpOk hb (j.hok.fresh hb);refine⟨_,[d.heap.objs.size+1,d.heap.objs.size],_,_,k,rfl,U,uB l _ _ (Wf _),⟨⟨_,v⟩,n⟩,λb hb=>?_,q⟩;rcases Zn.mp hb with z |z
 ·rw[z];exact fr _ (YD _)
 ·rw[ZM.mp z];exact fr _ (Ze _)
def Jp{a:Expr}{T:TA}{p f:Pos}(O:Gl X "enumerate")(Q:X.mg "enumerate" = aD)(ha:PA X [a] T)(hs:Uj [a] X.env=[(aS,eval a X.env)]:=by rfl):PI X (.Tuple elts x1 tp) (.Call (.Name "enumerate" p) [a] [] f) (N5 X.K T):=by
 intro c s y H R I h;refine Call_ (dA I O Q WC (WJ (thn (ha f c s y H _ I h) λus d ⟨vs,k,j,r1,Y⟩=>?_) hs rfl));obtain⟨l,xs,e,E,q⟩:=Y;subst e;obtain⟨u,rfl,Z⟩:=bR r1;cases Z;obtain⟨its,rv,C,hz⟩:=j.tuple E;refine HT.uA C λB v n L J=>UJ v ?_;have U:Inv X c y k { d with heap:=B }:=j.kept (t':=d.toks) J;have fr:∀b,d.heap.objs.size<=b->gX X c k b:=λb hb=>j.fpOk hb (j.hok.fresh hb);refine⟨_,[d.heap.objs.size+1,d.heap.objs.size],_,_,k,rfl,U,uC l _ _ (Wf _),⟨⟨_,v⟩,n⟩,λb hb=>?_,q⟩;rcases Zn.mp hb with z |z
 ·rw[z];exact fr _ (YD _)
 ·rw[ZM.mp z];exact fr _ (Ze _)
end
section
variable {X:Cx}
def rX:aR X (.type "range") (λc H Q=>∃j:Int,c=[.int j]/\∀p,H p=aD->Q (.ref p) (upd H p (.rng 0 j))):=by
 intro d s k H c U Q I r h;obtain⟨j,rfl,q⟩:=h;obtain⟨u,rfl,f⟩:=bR r;obtain⟨t,rfl⟩:=f;exact call_range_1 ⟨.ref s.heap.objs.size,_,I.laid (t':=s.toks+1+1) (o:=.rng 0 j) (λb o e=>Zf _ e) (Ze _) ⟨_,_,_,ZA _ rfl⟩,rfl,q _ (I.hok.fresh (Ze _))⟩
def qh(d:X.calm=aN):aR X (.type "list") (λb H Q=>∃ (p:Addr) (n:Nat),b=[.ref p]/\H p=aw (.rng 0 n)/\n<=1000/\∀l,H l=aD->Q (.ref l) (upd H l (.lst ((Zk n).map λ(i:Nat)=>V.int i)))):=by
 intro c s y H b U Q I r h;obtain⟨p,n,rfl,k,j,q⟩:=h;obtain⟨u,rfl,f⟩:=bR r;cases f;obtain⟨t,u,v,e⟩:=(show bp X.prog X.w H s.heap p (.rng 0 n) from I.hok p _ k);exact lZ d I e j q
end
section
variable {X:Cx}
abbrev Hz(i j k:Nat)(T:TA):TS:=λD b H=>T b H λc h=>∃v w z,c=[v,w,z]/\D.nx (((b.set i (aw v)).set j (aw w)).set k (aw z)) h
def D9{i j k:Nat}{Z E f}(hc:X.calm=aN)(hN:X.N.Nodup)(hi:X.N[i]?=aw x)(hj:X.N[j]?=aw y)(hk:X.N[k]?=aw z)(O:i ≠ j)(C:i ≠ k)(T:j ≠ k)
  (hx:X.env.scope.names.lookup x=aw .local) (hy:X.env.scope.names.lookup y=aw .local) (hz:X.env.scope.names.lookup z=aw .local) (ha:PA X [a,b,c] ta)
  (hw:Uk [.Tuple [.Name x px,.Name y py,.Name z pz] Z pt] (.Tuple [a,b,c] E f) X.env=pure (aw [x,y,z]))
  (hs:Um [.Tuple [.Name x px,.Name y py,.Name z pz] Z pt] (.Tuple [a,b,c] E f) Y.line X.env=pure aS:=by rfl) :
  PS X (.Assign [.Tuple [.Name x px,.Name y py,.Name z pz] Z pt] (.Tuple [a,b,c] E f) Y) (Hz i j k ta):=by
 intro d s σ H D I h;rw[exec_Assign_arm];refine Us (UU ?_);rw[hs];refine Us (UI ?_);rw[if_neg (by decide)];refine Us (Tuple_ (thn (ha _ d s σ H _ I h) λus u ⟨vs,H1,I1,r1,q1⟩=>?_));obtain⟨v,w,z',e1,q1⟩:=q1;subst e1
 obtain⟨U,B,u3,rfl,rv,L,rz⟩:∃U B u3,us=[U,B,u3]/\aJ v U/\aJ w B/\aJ z' u3:=by
  cases r1 with
  |cons p q=>
   cases q with
   |cons p' q'=>
    cases q' with
    |cons J Q=>
     cases Q;exact⟨_,_,_,rfl,p,p',J⟩
 refine UF ?_ (by show 3<=sizeLine;decide);have I2:Inv X d σ H1 { u with heap:=u.heap.push { cls:=.type "tuple", data:=.seq [U,B,u3].toArray } }:=I1.kept (t':=u.toks) λb o e=>Zf _ e;rw[hw];refine Us (UI ?_);show wpAny (model X.prog X.w) X.A (do rule "assign.swapped-stores"; let n <-unpackItems (.ref u.heap.objs.size) 3 aD;VC [λv=>VH X.env z v,λv=>VH X.env y v,λv=>VH X.env x v] n.reverse;pure Flow.next) _ _ _;refine Us (UQ (Us (unpackItems_tuple (items:=#[U,B,u3]) (I.ok.hd hc) (IsTup.new u.heap _) λh' hx'=>?_)));have I3:=I2.kept (h':=h') (t':=u.toks) λb o e=>hx' b o (ZI (Zt e)) e;show wpAny _ _ (VC [λv=>VH X.env z v,λv=>VH X.env y v,λv=>VH X.env x v] [u3,B,U] >>= λ_=>pure Flow.next) _ _ _;refine Us (assignInOrder_cons (Ut (cS I3 hN hk (.inl hz) rz (λs2 I4=>?_) (.inr hz))));refine assignInOrder_cons (Ut (cS I4 hN hj (.inl hy) L (λs3 I5=>?_) (.inr hy)));refine assignInOrder_cons (Ut (cS I5 hN hi (.inl hx) rv (λs4 I6=>assignInOrder_nil (UI ?_)) (.inr hx)));refine⟨_,H1,?_,q1⟩;rw[Xq _ _ (Ne.symm T),Xq _ _ (Ne.symm C),Xq (aw w) (aw v) (Ne.symm O)] at I6;exact I6
end
abbrev jE:List Str->Bool
 |[]=>aN
 |x::r=>!r.contains x && jE r
def iX:∀ {l:List Str},jE l=aN->l.Nodup
 |[],_=>XN
 |x::r,h=>by
  unfold jE at h;rw[bAE] at h;refine Z6.mpr ⟨λm=>?_,iX h.2⟩;have:=h.1;simp[m] at this
abbrev cmB(own:List Str)(hs:List Nat)(N:List Str)(b sc:Scope):Bool:=
 (b.kind == .function) && jE (cU hs N++own) && jE (b.names.map (·.1)) && ((cU hs N).all λx=>b.names.lookup x != aw .local && b.names.lookup x != aw .cell) &&
 (b.names.all λy=>y.2 != .free || (sc.names.lookup y.1 == aw .cell || sc.names.lookup y.1 == aw .free)) && hs.all λi=>(b.names.lookup (Af i)).isNone
def Ar(hs:List Nat)(h:cmB own hs N b sc=aN):CmScope own hs N b sc:=by
 unfold cmB at h;simp only[bAE,Yk] at h;obtain⟨⟨⟨⟨⟨f,c⟩,q⟩,h4⟩,j⟩,n⟩:=h;refine⟨by simpa using f,iX c,iX q,λx d=>?_,λy k p=>?_,λi hi=>by simpa using n i hi⟩
 ·have:=h4 x d
  simpa using this
 ·have:=j y k;rw[p] at this
  simpa using this
section
variable {X:Cx} {tg l a:Expr} {tl:TE} {ta:TA} {es:List Expr} {t:TGs} {p pos:Pos} {n k:Nat} {elts:List Expr} {x1:Nat} {tp:Pos} {o e:Expr} {to:TE} {tt:TA} {name:Str} {apos cpos:Pos}
abbrev HA(K:Vk):List V->Hp->VK->Prop:=λc H Q=>∃x n t b,c=[x,.ty n]/\TyOf K H x t/\Vu K t (.type n)=aw b/\Q (.bl b) H
def qi(K:Vk)(h:X.K=K:=by rfl):aR X (.builtin "isinstance") (HA K):=h ▸ rP
end
def l9:∀ {X:List V} {U:List Value},aO X U->X.all dW=aN->U.countP (eqU x)=X.countP λy=>eqV y x
 |_,_,.nil,_=>rfl
 |y::X,u::U,.cons r t,f=>by
  rw[Yr,bAE] at f;rw[Y8,Y8,uy r f.1,l9 t f.2]
section
variable {X:Cx}
abbrev Ea(K:Vk):V->List V->Hp->VK->Prop:=λx v H Q=>∃p b y,x = .ref p/\v=[y]/\SqT K H p b/\dW y=aN/\b.all dW=aN/\Q (.int ((b.countP λz=>eqV z y:Nat):Int)) H
def yu(K:Vk)(j:X.K=K:=by rfl):MtR X "tuple.count" (Ea K):=by
 subst j;intro f s σ H x vs v Y Q I J O h;obtain⟨p,T,y,rfl,rfl,k,E,fs,q⟩:=h;cases J;obtain⟨u,rfl,U⟩:=O.one;obtain⟨b,r,⟨⟨C,L,d,sl⟩,e,c,n,hd⟩,Z⟩:=I.tuple k;simp only at c hd;subst c hd;refine VM W4 ⟨_,e,rfl⟩ F.entry_tuple_count (F.args_tuple_count_2 _ _) (SeqAt.tuple_countAt p b.toArray n L sl u (eqU y)) ⟨e,λw B=>dX U E r fs w (by simpa using B),?_⟩;refine⟨.int _,H,I.tok _,⟨_,rfl⟩,?_⟩
 have z:(b.toArray.toList.countP (eqU y))=T.countP λz=>eqV z y:=by
  rw[List.toList_toArray];exact l9 r fs
 rw[z];exact q
end
end L2
namespace Dw
open PySem PySem.Spec PyProof.Rows L2
inductive D where
 |non |bl (b:Bool) |int (i:Int) |str (x:Str) |tup (ds:List D) |lst (ds:List D) |dic (ks:List Key) (ds:List D)
abbrev isB:D->Bool |.bl _=>aN |_=>aS
abbrev isW(d:D):Bool:=match d with |.int _=>aN |_=>aS
abbrev ip(d:D)(a b:Int):Bool:=match d with |.int i=>decide (a<=i) && decide (i<=b) |_=>aS
abbrev isT(d:D)(a b:Int):Bool:=match d with |.tup ds=>decide (a<=(ds.length:Int)) && decide ((ds.length:Int)<=b) |_=>aS
def oI{b:Type}(n:Nat)(f:Nat->List b):(Zk (n+1)).flatMap f=(Zk n).flatMap f++f n:=by
 rw[Xe,XV];simp
def wG{b:Type}{n m:Nat}{f:Nat->List b}(h:∀i,i < n->(f i).length<=m):((Zk n).flatMap f).length<=n * m:=by
 induction n with
 |zero=>simp
 |succ n I=>
  rw[oI,Zh];have:=I λi hi=>h i (by omega);have:=h n (by omega);rw[X9];omega
abbrev dY(d:List D)(lo hi:Option Int):List D:=(d.drop (HT.sIx d.length 0 lo)).take (HT.sIx d.length d.length hi - HT.sIx d.length 0 lo)
def Jq(n:Nat)(a:Int)(h:0<=a):HT.sIx n 0 (aw a)=min a.toNat n:=by
 show(if a < 0 then (a+(n:Int)).toNat else min a.toNat n)=_;rw[if_neg (by omega)]
def uD(n:Nat)(a:Int)(h:0<=a):HT.sIx n n (aw a)=min a.toNat n:=by
 show(if a < 0 then (a+(n:Int)).toNat else min a.toNat n)=_;rw[if_neg (by omega)]
abbrev wH(q:Int × Int):D:=.tup [.int q.1,.int q.2]
abbrev mg2(M:List (List Int))(i j:Nat):Int:=(((M[i]?).getD [])[j]?).getD 0
structure Mat(n:Nat)(M:List (List Int)):Prop where
 len:M.length=n
 row:∀r ∈ M,r.length=n
 ent:∀r ∈ M,∀x ∈ r,1<=x/\x<=99
def Mat.at{n:Nat}(h:Mat n M){i j:Nat}(hi:i < n)(k:j < n):∃r,M[i]?=aw r/\r.length=n/\r[j]?=aw (mg2 M i j)/\1<=mg2 M i j/\mg2 M i j<=99:=by
 have b:i < M.length:=by rw[h.len];exact hi
 have E:M[i]?=aw M[i]:=gEG b;have f:=h.row _ (ZJ b);have c:j < M[i].length:=by omega
 have d:mg2 M i j=M[i][j]:=by unfold mg2;rw[E,ZW,gEG c,ZW]
 have:=h.ent _ (ZJ b) _ (ZJ c);exact⟨M[i],E,f,by rw[d,gEG c],by omega,by omega⟩
abbrev rY(n k:Nat)(M:List (List Int)):Prop:=∀a b q,a < n->b < n->q < k->mg2 M a b<=mg2 M a q+mg2 M q b
def As{n k:Nat}(h:Mat n M)(d:k < n)(u:rY n k M)(v:∀i j,i < n->j < n->mg2 M' i j=min (mg2 M i j) (mg2 M i k+mg2 M k j)):rY n (k+1) M':=by
 intro a b q p hb z;have c:q < n:=by omega
 obtain⟨_,_,_,_,U,_⟩:=h.at p hb;obtain⟨_,_,_,_,C,_⟩:=h.at p d;obtain⟨_,_,_,_,L,_⟩:=h.at d hb;obtain⟨_,_,_,_,Q,_⟩:=h.at d d;obtain⟨_,_,_,_,O,_⟩:=h.at p c;obtain⟨_,_,_,_,B,_⟩:=h.at c hb;obtain⟨_,_,_,_,y,_⟩:=h.at d c;obtain⟨_,_,_,_,E,_⟩:=h.at c d;rw[v a b p hb,v a q p c,v q b c hb];by_cases e:q=k
 ·subst e;omega
 ·have f:q < k:=by omega
  have I:=u a b q p hb f;have T:=u k b q d hb f;have J:=u a k q p d f;omega
abbrev Au(M:List (List Int)):List D:=M.map λr=>.tup (r.map .int)
abbrev aY(M:List (List Int))(n c i:Nat):List Int:=(Zk n).map λj=>if mg2 M i c+mg2 M c j < mg2 M i j then mg2 M i c+mg2 M c j else mg2 M i j
def rZ(M:List (List Int))(n c i:Nat):(aY M n c i).length=n:=by unfold aY;rw[Za,ZG]
def r9(M:List (List Int)){n c i j:Nat}(h:j < n):(aY M n c i)[j]?=aw (if mg2 M i c+mg2 M c j < mg2 M i j then mg2 M i c+mg2 M c j else mg2 M i j):=by
 unfold aY;rw[Zp,Yz h];rfl
def Eb{n c:Nat}(h:Mat n M)(d:c < n):∀i j,i < n->j < n->mg2 ((Zk n).map (aY M n c)) i j=min (mg2 M i j) (mg2 M i c+mg2 M c j):=λi j hi b=>by
 have e:mg2 ((Zk n).map (aY M n c)) i j=if mg2 M i c+mg2 M c j < mg2 M i j then mg2 M i c+mg2 M c j else mg2 M i j:=by
  show((((Zk n).map (aY M n c))[i]?.getD [])[j]?).getD 0=_;rw[Zp,Yz hi];show((aY M n c i)[j]?).getD 0=_;rw[r9 M b];rfl
 rw[e];split <;> omega
def Av{n c:Nat}(h:Mat n M)(k:c < n):Mat n ((Zk n).map (aY M n c)):=by
 refine⟨by rw[Za,ZG],λr d=>?_,λr d x p=>?_⟩
 ·obtain⟨u,_,rfl⟩:=Zu.mp d;exact rZ M n c u
 ·obtain⟨u,f,rfl⟩:=Zu.mp d;rw[ZO] at f;unfold aY at p;obtain⟨j,b,rfl⟩:=Zu.mp p;rw[ZO] at b;obtain⟨_,_,_,_,z,Q⟩:=h.at f b;obtain⟨_,_,_,_,q,B⟩:=h.at f k;obtain⟨_,_,_,_,v,y⟩:=h.at k b;split <;> omega
def bT:∀ (n:Nat) (l:List Int),l.Nodup->(∀x ∈ l,0<=x/\x < (n:Int))->l.length<=n
 |0,l,_,h=>by
  cases l with
  |nil=>exact Ze _
  |cons x l=>have:=h x Zj;lia
 |n+1,l,nd,h=>by
  by_cases c:(n:Int) ∈ l
  ·have I:=bT n (l.erase n) (nd.erase _) λx b=>by
    have f:=h x (List.mem_of_mem_erase b);have d:x ≠ (n:Int):=λe=>(List.Nodup.not_mem_erase nd) (e ▸ b)
    lia
   rw[List.length_erase_of_mem c] at I;have:=Xv c
   lia
  ·have I:=bT n l nd λx b=>by
    have f:=h x b;have d:x ≠ (n:Int):=λe=>c (e ▸ b)
    lia
   lia
def dZ(d:List D)(k:Nat)(h:k<=d.length):dY d aD (aw (k:Int))=d.take k:=by
 unfold dY;rw[uD _ _ (by omega)];show(d.drop 0).take (min ((k:Int).toNat) d.length - 0)=_;rw[Wt,Nat.sub_zero,Zy,XD h]
mutual
noncomputable def bnd(B:Nat):D->Prop
 |.int i=>i.natAbs < B
 |.tup ds=>Ec B ds
 |.lst ds=>Ec B ds
 |.dic ks ds=>(∀k ∈ ks,∃i,k=Sum.inl i/\i.natAbs < B)/\ks.length=ds.length/\Ec B ds
 |_=>True
noncomputable def Ec(B:Nat):List D->Prop
 |[]=>True
 |d::ds=>bnd B d/\Ec B ds
end
end Dw
namespace Ev
open PySem PySem.Spec PyProof.Rows L2
inductive D where
 |non |bl (b:Bool) |int (i:Int) |str (x:Str) |tup (ds:List D) |ref (n:Nat)
inductive Ob where
 |lst (ds:List D) |frz (ds:List D) |dic (ks:List (List NK)) (ds:List D)
@[inline]abbrev Sto:=List Ob
@[inline]abbrev Rho:=List (Option D)
mutual
noncomputable def VD(K:Vk)(m:List Addr)(H:Hp):D->V->Prop
 |.non,v=>v = .non
 |.bl b,v=>v = .bl b
 |.int i,v=>v = .int i
 |.str x,v=>v = .str x
 |.tup ds,v=>∃a X,v = .ref a/\H a=aw (.tup X)/\VDs K m H ds X
 |.ref n,v=>∃a,m[n]?=aw a/\v = .ref a
noncomputable def VDs(K:Vk)(m:List Addr)(H:Hp):List D->List V->Prop
 |[],xs=>xs=[]
 |d::ds,xs=>∃x r,xs=x::r/\VD K m H d x/\VDs K m H ds r
end
structure Ext(m:List Addr)(H:Hp)(m':List Addr)(H':Hp):Prop where
 pre:m <+: m'
 keep:∀a o,H a=aw o->a ∉ m->H' a=aw o
 new:∀a,a ∈ m'->a ∉ m->H a=aD
abbrev ObR(K:Vk)(m:List Addr)(H:Hp)(a:Addr):Ob->Prop
 |.lst ds=>∃v,H a=aw (.lst v)/\VDs K m H ds v
 |.frz ds=>∃o v,H a=aw (.frz o (.lst v))/\VDs K m H ds v
 |.dic ks ds=>∃v,H a=aw (.dT (ks.zip v))/\ks.length=ds.length/\VDs K m H ds v
structure Rel(K:Vk)(m:List Addr)(S:Sto)(H:Hp):Prop where
 len:m.length=S.length
 nd:m.Nodup
 ob:∀ (i:Nat) (o:Ob),S[i]?=aw o->∃a,m[i]?=aw a/\ObR K m H a o
structure EnvR(K:Vk)(m:List Addr)(H:Hp)(ρ:Rho)(σ:L2.St):Prop where
 len:ρ.length=σ.length
 at_:∀ (i:Nat) (d:D),ρ[i]?=aw (aw d)->∃v,σ[i]?=aw (aw v)/\VD K m H d v
def Ext.refl(m:List Addr)(H:Hp):Ext m H m H:=⟨Ym m,λ_ _ h _=>h,λ_ h n=>absurd h n⟩
def Ext.trans(x:Ext m H m1 f)(y:Ext m1 f c H2):Ext m H c H2:=by
 refine⟨x.pre.trans y.pre,λa o h n=>?_,λa h n=>?_⟩
 ·have d:a ∉ m1:=λz=>by have:=x.new a z n;rw[this] at h;cases h
  exact y.keep a o (x.keep a o h n) d
 ·by_cases b:a ∈ m1
  ·exact x.new a b n
  ·cases e:H a with
   |none=>rfl
   |some o=>
    have:=x.keep a o e n;rw[y.new a h b] at this;cases this
section
variable {K:Vk} {m m':List Addr} {S S':Sto} {H H':Hp} {a:Addr}
def Rel.ex(R:Rel K m S H)(j:a ∈ m):∃o ob,H a=aw o/\ObR K m H a ob:=by
 obtain⟨i,hi,e⟩:=List.getElem_of_mem j;have c:i < S.length:=by rw[<-R.len];exact hi
 obtain⟨b,hb,r⟩:=R.ob i S[i] (gEG c);have:b=a:=by rw[gEG hi] at hb;rw[<-e];exact(Option.some.inj hb).symm
 subst this;cases f:S[i] with
 |lst d=>rw[f] at r;obtain⟨v,h,q⟩:=r;exact⟨_,.lst d,h,v,h,q⟩
 |frz d=>rw[f] at r;obtain⟨o,v,h,q⟩:=r;exact⟨_,.frz d,h,o,v,h,q⟩
 |dic k d=>rw[f] at r;obtain⟨v,h,q⟩:=r;exact⟨_,.dic k d,h,v,h,q⟩
def Rel.no(R:Rel K m S H)(h:H a=aD):a ∉ m:=λz=>by
 obtain⟨o,_,e,_⟩:=R.ex z;rw[h] at e;cases e
def Rel.notTup(R:Rel K m S H)(h:H a=aw (.tup X)):a ∉ m:=λz=>by
 obtain⟨o,ob,e,r⟩:=R.ex z;cases ob with
 |lst d=>obtain⟨v,q,_⟩:=r;rw[q] at h;cases h
 |frz d=>obtain⟨o,v,q,_⟩:=r;rw[q] at h;cases h
 |dic k d=>obtain⟨v,q,_⟩:=r;rw[q] at h;cases h
def Tup.ext(R:Rel K m S H)(x:Ext m H m' H')(h:H a=aw (.tup X)):H' a=aw (.tup X):=x.keep _ _ h (R.notTup h)
def kP{i:Nat}(h:m <+: m')(e:m[i]?=aw a):m'[i]?=aw a:=by
 obtain⟨t,rfl⟩:=h;have hi:i < m.length:=(Zb.mp e).1;rw[Zq hi];exact e
mutual
theorem VD.mono0(pre:m <+: m')(T:∀a X,H a=aw (.tup X)->H' a=aw (.tup X)):∀ {d:D} {v:V},VD K m H d v->VD K m' H' d v
 |.non,v,h=>by rw[VD] at h ⊢;exact h
 |.bl _,v,h=>by rw[VD] at h ⊢;exact h
 |.int _,v,h=>by rw[VD] at h ⊢;exact h
 |.str _,v,h=>by rw[VD] at h ⊢;exact h
 |.tup ds,v,h=>by
  rw[VD] at h ⊢;obtain⟨a,X,e,q,r⟩:=h;exact⟨a,X,e,T a X q,VDs.mono0 pre T r⟩
 |.ref n,v,h=>by
  rw[VD] at h ⊢;obtain⟨a,q,e⟩:=h;exact⟨a,kP pre q,e⟩
theorem VDs.mono0(pre:m <+: m')(T:∀a X,H a=aw (.tup X)->H' a=aw (.tup X)):∀ {b:List D} {v:List V},VDs K m H b v->VDs K m' H' b v
 |[],v,h=>by rw[VDs] at h ⊢;exact h
 |d::b,v,h=>by
  rw[VDs] at h ⊢;obtain⟨y,r,e,p,q⟩:=h;exact⟨y,r,e,VD.mono0 pre T p,VDs.mono0 pre T q⟩
end
def VD.mono(R:Rel K m S H)(x:Ext m H m' H')(h:VD K m H d v):VD K m' H' d v:=VD.mono0 x.pre (λ_ _=>Tup.ext R x) h
def VDs.mono(R:Rel K m S H)(x:Ext m H m' H')(h:VDs K m H d vs):VDs K m' H' d vs:=VDs.mono0 x.pre (λ_ _=>Tup.ext R x) h
def EnvR.mono(R:Rel K m S H)(x:Ext m H m' H')(h:EnvR K m H b σ):EnvR K m' H' b σ:=
 ⟨h.len,λi d e=>let ⟨v,p,q⟩:=h.at_ i d e;⟨v,p,VD.mono R x q⟩⟩
def VDs.length:∀ {b:List D} {v:List V},VDs K m H b v->b.length=v.length
 |[],v,h=>by rw[VDs] at h;rw[h];rfl
 |d::b,v,h=>by
  rw[VDs] at h;obtain⟨y,r,e,_,q⟩:=h;rw[e,Zo,Zo,VDs.length q]
def VDs.nil:VDs K m H [] []:=by rw[VDs]
def VDs.cons(h:VD K m H d v)(t:VDs K m H c b):VDs K m H (d::c) (v::b):=by rw[VDs];exact⟨v,b,rfl,h,t⟩
def VDs.get:∀ {c:List D} {b:List V} {i:Nat} {d:D},VDs K m H c b->c[i]?=aw d->∃v,b[i]?=aw v/\VD K m H d v
 |[],_,_,_,_,e=>by simp at e
 |d::c,b,0,d',h,e=>by
  rw[VDs] at h;obtain⟨y,r,rfl,p,q⟩:=h;simp at e;subst e;exact⟨y,rfl,p⟩
 |d::c,b,i+1,d',h,e=>by
  rw[VDs] at h;obtain⟨y,r,rfl,p,q⟩:=h;obtain⟨v,j,f⟩:=VDs.get (i:=i) q (by simpa using e);exact⟨v,by simpa using j,f⟩
def VDs.append:∀ {c E:List D} {v b:List V},VDs K m H c v->VDs K m H E b->VDs K m H (c++E) (v++b)
 |[],_,v,_,h,t=>by rw[VDs] at h;subst h;exact t
 |d::c,E,v,b,h,t=>by
  rw[VDs] at h;obtain⟨y,r,rfl,p,q⟩:=h;exact .cons p (VDs.append q t)
def VDs.drop:∀ {b:List D} {v:List V} (n:Nat),VDs K m H b v->VDs K m H (b.drop n) (v.drop n)
 |b,v,0,h=>h
 |[],v,n+1,h=>by rw[VDs] at h;subst h;exact .nil
 |d::b,v,n+1,h=>by
  rw[VDs] at h;obtain⟨y,r,rfl,p,q⟩:=h;exact VDs.drop n q
def VDs.take:∀ {b:List D} {v:List V} (n:Nat),VDs K m H b v->VDs K m H (b.take n) (v.take n)
 |b,v,0,h=>by simp only[XQ];exact .nil
 |[],v,n+1,h=>by rw[VDs] at h;subst h;exact .nil
 |d::b,v,n+1,h=>by
  rw[VDs] at h;obtain⟨y,r,rfl,p,q⟩:=h;exact .cons p (VDs.take n q)
def VDs.set:∀ {c:List D} {b:List V} {i:Nat} {d:D} {v:V},VDs K m H c b->VD K m H d v->VDs K m H (c.set i d) (b.set i v)
 |[],b,_,_,_,h,_=>by rw[VDs] at h;subst h;exact .nil
 |_::c,b,0,d,v,h,p=>by
  rw[VDs] at h;obtain⟨y,r,rfl,_,q⟩:=h;exact .cons p q
 |_::c,b,i+1,d,v,h,p=>by
  rw[VDs] at h;obtain⟨y,r,rfl,f,q⟩:=h;exact .cons f (VDs.set q p)
def Ext.beside(R:Rel K m S H)(h:H a=aD)(o:HO):Ext m H m (upd H a o):=
 ⟨Ym m,λb u e _=>by rw[aB (aV e h)];exact e,λb z n=>absurd z n⟩
def Rel.ext_keep(R:Rel K m S H)(x:Ext m H m H')(k:∀b ∈ m,H' b=H b):Rel K m S H':=by
 refine⟨R.len,R.nd,λi o e=>?_⟩;obtain⟨b,hb,r⟩:=R.ob i o e;have h:b ∈ m:=Zc hb;refine⟨b,hb,?_⟩;cases o with
 |lst d=>obtain⟨v,p,q⟩:=r;exact⟨v,(k b h).trans p,VDs.mono R x q⟩
 |frz d=>obtain⟨o,v,p,q⟩:=r;exact⟨o,v,(k b h).trans p,VDs.mono R x q⟩
 |dic c d=>obtain⟨v,p,l,q⟩:=r;exact⟨v,(k b h).trans p,l,VDs.mono R x q⟩
def Rel.beside(R:Rel K m S H)(h:H a=aD)(o:HO):Rel K m S (upd H a o):=
 R.ext_keep (Ext.beside R h o) λb hb=>aB λz=>R.no h (z ▸ hb)
def Rel.adopt(R:Rel K m S H)(n:a ∉ m)(h:H a=aw (.lst v))(q:VDs K m H d v):Rel K (m++[a]) (S++[.lst d]) H:=by
 have p:=YF m [a];have g:∀ {E:List D} {ws:List V},VDs K m H E ws->VDs K (m++[a]) H E ws:=λz=>VDs.mono0 p (λ_ _ t=>t) z;refine⟨by simp[R.len],Yx.mpr ⟨R.nd,by simp,λx k y c=>by simp at c;subst c;exactλz=>n (z ▸ k)⟩,λi o e=>?_⟩;by_cases hi:i < S.length
 ·rw[Zq hi] at e;obtain⟨b,hb,r⟩:=R.ob i o e;refine⟨b,kP p hb,?_⟩;cases o with
  |lst d=>obtain⟨v,p,q⟩:=r;exact⟨v,p,g q⟩
  |frz d=>obtain⟨o,v,p,q⟩:=r;exact⟨o,v,p,g q⟩
  |dic u d=>obtain⟨v,p,l,q⟩:=r;exact⟨v,p,l,g q⟩
 ·rw[Zm (by lia)] at e
  have f:i - S.length=0:=by
   have:=(Zb.mp e).1;simp at this;lia
  rw[f] at e;have j:Ob.lst d=o:=by simpa using e
  subst j;refine⟨a,?_,v,h,g q⟩;rw[Zm (by rw[R.len];lia),R.len,f];rfl
def Ext.adopt(x:Ext m H m H')(h:H a=aD):Ext m H (m++[a]) H':=
 ⟨YF m [a],x.keep,λb hb nb=>by
  rcases ZS.mp hb with z |z
  ·exact absurd z nb
  ·simp at z;subst z;exact h⟩
def Rel.write(R:Rel K m S H){i:Nat}(hi:m[i]?=aw a)(q:VDs K m H B v):Ext m H m (upd H a (.lst v))/\Rel K m (S.set i (.lst B)) (upd H a (.lst v)):=by
 have y:a ∈ m:=Zc hi;have x:Ext m H m (upd H a (.lst v)):=⟨Ym m,λb u e n=>by rw[aB (show b ≠ a fromλz=>n (by rw[z];exact y))];exact e,λb z n=>absurd z n⟩;refine⟨x,by simp[R.len],R.nd,λj o e=>?_⟩;rw[Yw] at e;by_cases h:i=j
 ·subst h;rw[if_pos rfl] at e;split at e
  ·have f:=Option.some.inj e;subst f;exact⟨a,hi,v,bg,VDs.mono R x q⟩
  ·cases e
 ·rw[if_neg h] at e;obtain⟨b,hb,r⟩:=R.ob j o e
  have ne:b ≠ a:=λz=>by
   subst z;have k:=Zb.mp hi;have d:=Zb.mp hb;exact h ((Y5 R.nd).mp (k.2.trans d.2.symm))
  refine⟨b,hb,?_⟩;cases o with
  |lst E=>obtain⟨c,p,q⟩:=r;exact⟨c,by rw[aB ne];exact p,VDs.mono R x q⟩
  |frz E=>obtain⟨o,c,p,q⟩:=r;exact⟨o,c,by rw[aB ne];exact p,VDs.mono R x q⟩
  |dic C E=>obtain⟨c,p,l,q⟩:=r;exact⟨c,by rw[aB ne];exact p,l,VDs.mono R x q⟩
def Rel.lst(R:Rel K m S H){i:Nat}(e:S[i]?=aw (.lst d)):∃a vs,m[i]?=aw a/\H a=aw (.lst vs)/\VDs K m H d vs:=by
 obtain⟨a,h,vs,p,q⟩:=R.ob i _ e;exact⟨a,vs,h,p,q⟩
end
abbrev au(S:Sto)(n:Nat):Option (List D):=match S[n]? with
 |some (.lst ds)=>aw ds
 |some (.frz ds)=>aw ds
 |_=>aD
def Rel.seq{K:Vk}{m:List Addr}{S:Sto}{H:Hp}(R:Rel K m S H){i:Nat}{d:List D}(e:au S i=aw d):∃a vs,m[i]?=aw a/\SqL K H a vs/\VDs K m H d vs:=by
 unfold au at e;cases h:S[i]? with
 |none=>rw[h] at e;cases e
 |some o=>
  rw[h] at e;cases o with
  |lst E=>cases e;obtain⟨a,b,vs,p,q⟩:=R.ob i _ h;exact⟨a,vs,b,.inl (.inl p),q⟩
  |frz E=>cases e;obtain⟨a,b,o,vs,p,q⟩:=R.ob i _ h;exact⟨a,vs,b,.inl (.inr ⟨o,p⟩),q⟩
  |dic k E=>cases e
@[inline]abbrev XE:=Rho->Sto->Option (D × Sto)
@[inline]abbrev XT:=Rho->Sto->Option (Bool × Sto)
@[inline]abbrev XA:=Rho->Sto->Option (List D × Sto)
abbrev bnd{b c:Type}(x:Option (b × Sto))(f:b->Sto->Option (c × Sto)):Option (c × Sto):=match x with
 |none=>aD
 |some (a,S)=>f a S
def ae{b c:Type}{x:Option (b × Sto)}{f:b->Sto->Option (c × Sto)}{r:c × Sto}(h:bnd x f=aw r):∃a S,x=aw (a,S)/\f a S=aw r:=by
 unfold bnd at h;cases x with
 |none=>cases h
 |some p=>exact⟨p.1,p.2,rfl,h⟩
structure Aft(K:Vk)(m:List Addr)(H:Hp)(S':Sto)(m':List Addr)(H':Hp):Prop where
 ext:Ext m H m' H'
 rel:Rel K m' S' H'
abbrev tE(K:Vk)(x:XE):TE:=λj H Q=>∃m c S d b,EnvR K m H c j/\Rel K m S H/\x c S=aw (d,b)/\∀f h v,Aft K m H b f h->VD K f h d v->Q v h
abbrev tT(K:Vk)(x:XT):TT:=λf H Q=>∃m d S b c,EnvR K m H d f/\Rel K m S H/\x d S=aw (b,c)/\∀j h,Aft K m H c j h->Q b h
abbrev tAr(K:Vk)(x:XA):TA:=λj H Q=>∃m c S f b,EnvR K m H c j/\Rel K m S H/\x c S=aw (f,b)/\∀d h v,Aft K m H b d h->VDs K d h f v->Q v h
abbrev SqB(K:Vk)(T:Bool)(H:Hp)(a:Addr)(v:List V):Prop:=if T=aN then H a=aw (.tup v) else SqL K H a v
abbrev eP(K:Vk)(x:XA):TE:=λk H Q=>∃m f S j d,EnvR K m H f k/\Rel K m S H/\x f S=aw (j,d)/\∀c h a v,Aft K m H d c h->h a=aw (.lst v)->a ∉ c->(∀b,b ∈ m->b ≠ a)->H a=aD->VDs K c h j v->Q (.ref a) h
section
variable {X:Cx} {e:Expr} {K:Vk} {m m1 m2:List Addr} {H H1 H2:Hp} {S S1 S2:Sto}
def PE.imp(h:PE X e t)(f:∀b H Q,t' b H Q->t b H Q):PE X e t':=λp s b H Q I q=>h p s b H Q I (f b H Q q)
def PT.imp(h:PT X e t)(f:∀b H Q,t' b H Q->t b H Q):PT X e t':=λp s b H Q I q=>h p s b H Q I (f b H Q q)
def PA.imp(h:PA X E t)(f:∀b H Q,t' b H Q->t b H Q):PA X E t':=λp c s b H Q I q=>h p c s b H Q I (f b H Q q)
def PS.imp{st:Stmt}{t t':TS}(h:PS X st t)(f:∀D b H,t' D b H->t D b H):PS X st t':=λp s b H D I q=>h p s b H D I (f D b H q)
def PSs.imp{st:List Stmt}{t t':TS}(h:PSs X st t)(f:∀D b H,t' D b H->t D b H):PSs X st t':=λp s b H D I q=>h p s b H D I (f D b H q)
def PI.imp(h:PI X T c t)(f:∀b H Q,t' b H Q->t b H Q):PI X T c t':=λp s b H Q I q=>h p s b H Q I (f b H Q q)
def PI.or(h:PI X T c t)(h':PI X T c t'):PI X T c (λb H Q=>t b H Q\/t' b H Q):=λp s b H Q I q=>q.elim (h p s b H Q I) (h' p s b H Q I)
def OpR.imp(h:OpR X f r)(g:∀x y H Q,r' x y H Q->r x y H Q):OpR X f r':=λp s c H x y v u Q I d b q=>h p s c H x y v u Q I d b (g _ _ _ _ q)
def OpR.or(h:OpR X f r)(h':OpR X f j):OpR X f (λx y H Q=>r x y H Q\/j x y H Q):=λp s c H x y v u Q I d b q=>
 q.elim (h p s c H x y v u Q I d b) (h' p s c H x y v u Q I d b)
def aR.imp(h:aR X f r)(g:∀x H Q,r' x H Q->r x H Q):aR X f r':=λp s c H b u Q I d q=>h p s c H b u Q I d (g _ _ _ q)
def aR.or(h:aR X f r)(h':aR X f j):aR X f (λx H Q=>r x H Q\/j x H Q):=λp s c H b u Q I d q=>
 q.elim (h p s c H b u Q I d) (h' p s c H b u Q I d)
def Aft.refl(R:Rel K m S H):Aft K m H S m H:=⟨Ext.refl m H,R⟩
def Aft.trans(x:Aft K m H S1 m1 H1)(y:Aft K m1 H1 S2 m2 H2):Aft K m H S2 m2 H2:=⟨x.ext.trans y.ext,y.rel⟩
abbrev rS(K:Vk)(f:D->D->Sto->Option (D × Sto)):R2:=λv w H Q=>∃m S a b d c,Rel K m S H/\VD K m H a v/\VD K m H b w/\f a b S=aw (d,c)/\∀j h u,Aft K m H c j h->VD K j h d u->Q u h
abbrev rS1(K:Vk)(f:D->Sto->Option (D × Sto)):V->Hp->VK->Prop:=λv H Q=>∃m S a d b,Rel K m S H/\VD K m H a v/\f a S=aw (d,b)/\∀c h u,Aft K m H b c h->VD K c h d u->Q u h
abbrev rSA(K:Vk)(f:List D->Sto->Option (D × Sto)):List V->Hp->VK->Prop:=λv H Q=>∃m S j d b,Rel K m S H/\VDs K m H j v/\f j S=aw (d,b)/\∀c h u,Aft K m H b c h->VD K c h d u->Q u h
abbrev rSq(K:Vk)(f:Bool->List D->Sto->Option (D × Sto)):V->Hp->VK->Prop:=λv H Q=>∃m S T k a b d c,Rel K m S H/\v = .ref a/\SqB K T H a b/\VDs K m H k b/\f T k S=aw (d,c)/\∀j h u,Aft K m H c j h->VD K j h d u->Q u h
abbrev sd(f:D->D->Sto->Option (D × Sto))(x y:XE):XE:=λc S=>bnd (x c S) λa S1=>bnd (y c S1) λb S2=>f a b S2
abbrev xUn(f:D->Sto->Option (D × Sto))(x:XE):XE:=λb S=>bnd (x b S) λa S1=>f a S1
abbrev kK(f:List D->Sto->Option (D × Sto))(x:XA):XE:=λb S=>bnd (x b S) λa S1=>f a S1
abbrev ma(f:Bool->List D->Sto->Option (D × Sto))(x:XA):XE:=λb S=>bnd (x b S) λd S1=>f aS d S1
abbrev ao(d:D)(S:Sto):Option (Bool × List D):=match d with
 |.tup b=>aw (aN,b)
 |.ref n=>(au S n).map λb=>(aS,b)
 |_=>aD
abbrev aj(f:Bool->List D->Sto->Option (D × Sto))(d:D)(S:Sto):Option (D × Sto):=match ao d S with
 |some r=>f r.1 r.2 S
 |none=>aD
abbrev md(f:Bool->List D->Sto->Option (D × Sto))(x:XE):XE:=λb S=>bnd (x b S) λd S1=>aj f d S1
def qj{f:D->D->Sto->Option (D × Sto)}{x y:XE}{k:L2.St}{H:Hp}{Q:VK}(h:tE K (sd f x y) k H Q):tOp (rS K f) (tE K x) (tE K y) k H Q:=by
 obtain⟨m,n,S,d,z,E,R,e,q⟩:=h;obtain⟨a,S1,p,e⟩:=ae e;obtain⟨b,S2,J,e⟩:=ae e;refine⟨m,n,S,a,S1,E,R,p,λm1 H1 v c L=>⟨m1,n,S1,b,S2,E.mono R c.ext,c.rel,J,λm2 H2 w j vb=>?_⟩⟩;exact⟨m2,S2,a,b,d,z,j.rel,L.mono c.rel j.ext,vb,e,λB C u I vd=>q B C u ((c.trans j).trans I) vd⟩
def Aw{f:D->Sto->Option (D × Sto)}{x:XE}{b:L2.St}{H:Hp}{Q:VK}(h:tE K (xUn f x) b H Q):tUn (rS1 K f) (tE K x) b H Q:=by
 obtain⟨m,y,S,d,k,E,R,e,q⟩:=h;obtain⟨a,S1,j,e⟩:=ae e;exact⟨m,y,S,a,S1,E,R,j,λm1 H1 v c p=>⟨m1,S1,a,d,k,c.rel,p,e,λn z u B vd=>q n z u (c.trans B) vd⟩⟩
def Ax{f:List D->Sto->Option (D × Sto)}{x:XA}{b:L2.St}{H:Hp}{Q:VK}(h:tE K (kK f x) b H Q):tCB (rSA K f) (tAr K x) b H Q:=by
 obtain⟨m,y,S,d,k,E,R,e,q⟩:=h;obtain⟨a,S1,j,e⟩:=ae e;exact⟨m,y,S,a,S1,E,R,j,λm1 H1 v c p=>⟨m1,S1,a,d,k,c.rel,p,e,λn z u B vd=>q n z u (c.trans B) vd⟩⟩
def Jr{f:Bool->List D->Sto->Option (D × Sto)}{x:XA}{b:L2.St}{H:Hp}{Q:VK}(h:tE K (ma f x) b H Q):tUn (rSq K f) (eP K x) b H Q:=by
 obtain⟨m,z,S,d,n,E,R,e,q⟩:=h;obtain⟨j,S1,k,e⟩:=ae e;exact⟨m,z,S,j,S1,E,R,k,λm1 H1 a v c B _ _ _ vd=>⟨m1,S1,aS,j,a,v,d,n,c.rel,rfl,show SqL K H1 a v from SqL.of B,vd,e,λp y u C vd=>q p y u (c.trans C) vd⟩⟩
abbrev yv(i:Nat):XE:=λb S=>match b[i]? with
 |some (aw d)=>aw (d,S)
 |_=>aD
abbrev xC(d:D):XE:=λ_ S=>aw (d,S)
def Js{i:Nat}(h:tE K (yv i) c H Q):Np i c H Q:=by
 obtain⟨m,j,S,d,n,E,R,e,q⟩:=h;unfold yv at e;cases b:j[i]? with
 |none=>rw[b] at e;cases e
 |some o=>
  rw[b] at e;cases o with
  |none=>cases e
  |some k=>
   cases e;obtain⟨v,f,vd⟩:=E.at_ i d b;exact⟨v,f,q m H v (Aft.refl R) vd⟩
def Ay(c:∀m H,VD K m H d v)(h:tE K (xC d) b H Q):tC v b H Q:=by
 obtain⟨m,k,S,f,j,E,R,e,q⟩:=h;cases e;exact q m H v (Aft.refl R) (c m H)
def qk:VD K m H .non .non:=by rw[VD]
def bD:VD K m H (.bl b) (.bl b):=by rw[VD]
def bh{i:Int}:VD K m H (.int i) (.int i):=by rw[VD]
def uE:VD K m H (.str x) (.str x):=by rw[VD]
def ql(h:H a=aw (.tup v))(q:VDs K m H d v):VD K m H (.tup d) (.ref a):=by rw[VD];exact⟨a,v,rfl,h,q⟩
def VD.ints{i:Int}(h:VD K m H (.int i) v):v = .int i:=by rw[VD] at h;exact h
def VD.bls(h:VD K m H (.bl i) v):v = .bl i:=by rw[VD] at h;exact h
def VD.strs(h:VD K m H (.str i) v):v = .str i:=by rw[VD] at h;exact h
def VD.nons(h:VD K m H .non v):v = .non:=by rw[VD] at h;exact h
def VD.tups(h:VD K m H (.tup d) v):∃a vs,v = .ref a/\H a=aw (.tup vs)/\VDs K m H d vs:=by rw[VD] at h;exact h
def VD.refs{n:Nat}(h:VD K m H (.ref n) v):∃a,m[n]?=aw a/\v = .ref a:=by rw[VD] at h;exact h
abbrev Ed:XA:=λ_ S=>aw ([],S)
abbrev wJ(x:XE)(y:XA):XA:=λb S=>bnd (x b S) λa S1=>bnd (y b S1) λc S2=>aw (a::c,S2)
def Jt(h:tAr K Ed b H Q):jy b H Q:=by
 obtain⟨m,f,S,d,c,E,R,e,q⟩:=h;cases e;exact q m H [] (Aft.refl R) .nil
def Ee{x:XE}{y:XA}{d:L2.St}{H:Hp}{Q:List V->Hp->Prop}(h:tAr K (wJ x y) d H Q):cf (tE K x) (tAr K y) d H Q:=by
 obtain⟨m,f,S,u,z,E,R,e,q⟩:=h;obtain⟨a,S1,n,e⟩:=ae e;obtain⟨b,S2,k,e⟩:=ae e;cases e;refine⟨m,f,S,a,S1,E,R,n,λm1 H1 v c p=>⟨m1,f,S1,b,_,E.mono R c.ext,c.rel,k,λm2 H2 w j vb=>?_⟩⟩;exact q m2 H2 _ (c.trans j) (.cons (p.mono c.rel j.ext) vb)
abbrev kL(d:List D)(S:Sto):Option (D × Sto):=if d.length<=1000 then aw (.tup d,S) else aD
def mf{n:Nat}(h:n<=1000):n<=sizeLine:=by rw[Uh];lia
def iY{d:List D}{v:List V}{Q:VK}(R:Rel K m S H)(vd:VDs K m H d v)(q:∀c h u,Aft K m H S c h->VD K c h (.tup d) u->Q u h):∀p,H p=aD->Q (.ref p) (upd H p (.tup v)):=λp b=>
 q m _ _ ⟨Ext.beside R b _,R.beside b _⟩ (ql bg (vd.mono R (Ext.beside R b _)))
def kQ{d:List D}{v:List V}{Q:VK}(R:Rel K m S H)(vd:VDs K m H d v)(q:∀c b u,Aft K m H (S++[.lst d]) c b->VD K c b (.ref S.length) u->Q u b):∀p,H p=aD->Q (.ref p) (upd H p (.lst v)):=λp h=>by
 have x:=Ext.beside R h (.lst v);refine q (m++[p]) _ _ ⟨x.adopt h,(R.beside h _).adopt (R.no h) bg (vd.mono R x)⟩ ?_;rw[VD];exact⟨p,by rw[Zm (by rw[R.len];exact Ze _),R.len,Z7];rfl,rfl⟩
def kS{f:List D}{v:List V}{Q:VK}(R:Rel K m S H)(vd:VDs K m H f v)(q:∀d c a v,Aft K m H S d c->c a=aw (.lst v)->a ∉ d->(∀b,b ∈ m->b ≠ a)->H a=aD->VDs K d c f v->Q (.ref a) c):∀p,H p=aD->Q (.ref p) (upd H p (.lst v)):=λp h=>
 q m _ _ _ ⟨Ext.beside R h _,R.beside h _⟩ bg (R.no h) (λb hb z=>R.no h (z ▸ hb)) h (vd.mono R (Ext.beside R h _))
def Ju{x:XA}{b:L2.St}{H:Hp}{Q:VK}(h:tE K (kK kL x) b H Q):NP (tAr K x) b H Q:=by
 obtain⟨m,p,S,z,B,E,R,e,q⟩:=h;obtain⟨a,S1,j,e⟩:=ae e;unfold kL at e;split at e
 ·rename_i f;cases e;exact⟨m,p,S,a,_,E,R,j,λm1 H1 C c v=>⟨mf (by rw[<-v.length];exact f),iY c.rel v λn k u y d=>q n k u (c.trans y) d⟩⟩
 ·cases e
abbrev oJ(x:XA):XA:=λb S=>bnd (x b S) λd S1=>if d.length<=1000 then aw (d,S1) else aD
def Ef{x:XA}{j:L2.St}{H:Hp}{Q:VK}(h:eP K (oJ x) j H Q):NQ (tAr K x) j H Q:=by
 obtain⟨m,L,S,Y,T,E,R,e,q⟩:=h;obtain⟨a,S1,k,e⟩:=ae e;split at e
 ·rename_i p;cases e;refine⟨m,L,S,_,_,E,R,k,λm1 H1 Z c v=>⟨mf (by rw[<-v.length];exact p),kS c.rel v λC y u U I J B n d z=>?_⟩⟩
  have O:H u=aD:=by
   cases e:H u with
   |none=>rfl
   |some o=>
    by_cases f:u ∈ m
    ·exact absurd rfl (n u (c.ext.pre.subset f))
    ·have:=c.ext.keep u o e f;rw[this] at d;cases d
  exact q C y u U (c.trans I) J B (λb hb=>n b (c.ext.pre.subset hb)) O z
 ·cases e
def ei{d:D}{v:V}{tu:Bool}{ds:List D}(R:Rel K m S H)(vd:VD K m H d v)(e:ao d S=aw (tu,ds)):∃a vs,v = .ref a/\SqB K tu H a vs/\VDs K m H ds vs:=by
 unfold ao at e;cases d with
 |tup c=>
  cases e;obtain⟨a,vs,e,q,r⟩:=vd.tups;exact⟨a,vs,e,q,r⟩
 |ref n=>
  obtain⟨a,h,E⟩:=vd.refs;cases hs:au S n with
  |none=>simp[hs] at e
  |some c=>
   simp[hs] at e;obtain⟨rfl,rfl⟩:=e;obtain⟨b,vs,hb,q,r⟩:=R.seq hs;rw[h] at hb;cases hb;exact⟨a,vs,E,q,r⟩
 |_=>cases e
def Jv{f:Bool->List D->Sto->Option (D × Sto)}{x:XE}{k:L2.St}{H:Hp}{Q:VK}(h:tE K (md f x) k H Q):tUn (rSq K f) (tE K x) k H Q:=by
 obtain⟨m,O,S,d,p,E,R,e,q⟩:=h;obtain⟨a,S1,n,e⟩:=ae e;refine⟨m,O,S,a,S1,E,R,n,λm1 H1 v j L=>?_⟩;unfold aj at e;split at e
 ·rename_i r hi;obtain⟨b,C,B,I,c⟩:=ei (tu:=r.1) (ds:=r.2) j.rel L hi;exact⟨m1,S1,r.1,r.2,b,C,d,p,j.rel,B,I,c,e,λy z u J vd=>q y z u (j.trans J) vd⟩
 ·cases e
abbrev dC(x:XA):XE:=λb S=>bnd (x b S) λd S1=>aw (.ref S1.length,S1++[.lst d])
def se{x:XA}{f:L2.St}{H:Hp}{Q:VK}(h:tE K (dC x) f H Q):eP K x f H Q:=by
 obtain⟨m,p,S,d,B,E,R,e,q⟩:=h;obtain⟨v,S1,j,e⟩:=ae e;cases e;refine⟨m,p,S,v,S1,E,R,j,λm1 H1 a C c u k y n vd=>?_⟩;refine q (m1++[a]) H1 _ ⟨⟨c.ext.pre.trans (YF _ _),c.ext.keep,λb hb nb=>?_⟩,c.rel.adopt k u vd⟩ ?_
 ·rcases ZS.mp hb with z |z
  ·exact c.ext.new b z nb
  ·simp at z;subst z;exact n
 ·rw[VD];exact⟨a,by rw[Zm (by rw[c.rel.len];exact Ze _),c.rel.len,Z7];rfl,rfl⟩
end
abbrev eqL(f:D->D->Option Bool):List D->List D->Option Bool
 |[],[]=>aw aN
 |[],_::_=>aw aS
 |_::_,[]=>aw aS
 |x::xs,y::ys=>match f x y,eqL f xs ys with
  |some a,aw b=>aw (a && b)
  |_,_=>aD
abbrev eqD:Nat->Sto->D->D->Option Bool
 |0,_,_,_=>aD
 |n+1,S,x,y=>match x,y with
  |.non,.non=>aw aN
  |.bl a,.bl b=>aw (a == b)
  |.int a,.int b=>aw (a == b)
  |.str a,.str b=>aw (a == b)
  |.bl a,.int b=>aw ((if a then 1 else 0) == b)
  |.int a,.bl b=>aw (a == (if b then 1 else 0))
  |.tup xs,.tup ys=>eqL (eqD n S) xs ys
  |.ref a,.ref b=>match au S a,au S b with
   |some xs,aw ys=>if a=b then aw aN else if xs.length=ys.length then eqL (eqD n S) xs ys else aw aS
   |_,_=>aD
  |.tup _,.ref b=>match au S b with
   |some _=>aw aS
   |none=>aD
  |.ref a,.tup _=>match au S a with
   |some _=>aw aS
   |none=>aD
  |.ref a,_=>match au S a with
   |some _=>aw aS
   |none=>aD
  |_,.ref a=>match au S a with
   |some _=>aw aS
   |none=>aD
  |_,_=>aw aS
section
variable {X:Cx} {K:Vk} {m:List Addr} {H:Hp} {S:Sto}
def sf{f:D->D->Option Bool}:∀ {d Y:List D} {b:Bool},eqL f d Y=aw b->∃g:Nat->Bool,(∀j x y,d[j]?=aw x->Y[j]?=aw y->f x y=aw (g j))/\b=((Zk (min d.length Y.length)).all g && d.length == Y.length)
 |[],[],b,h=>by simp[eqL] at h;exact⟨λ_=>aN,λj x y e=>by simp at e,by simp[<-h]⟩
 |[],_::_,b,h=>by simp[eqL] at h;exact⟨λ_=>aN,λj x y e=>by simp at e,by simp[<-h]⟩
 |_::_,[],b,h=>by simp[eqL] at h;exact⟨λ_=>aN,λj x y _ e=>by simp at e,by simp[<-h]⟩
 |x::d,y::Y,b,h=>by
  simp only[eqL] at h;cases k:f x y with
  |none=>simp[k] at h
  |some a=>
   cases p:eqL f d Y with
   |none=>simp[k,p] at h
   |some c=>
    simp[k,p] at h;obtain⟨g,u,q⟩:=sf p;refine⟨λj=>match j with |0=>a |j+1=>g j,λj z v n E=>?_,?_⟩
    ·cases j with
     |zero=>simp at n E;subst n E;exact k
     |succ j=>simp at n E;exact u j z v n E
    ·rw[<-h,q];simp only[Zo,Nat.succ_min_succ,List.range_succ_eq_map,Yr,YX];rw[Bool.and_assoc]
     congr 1
     rw[show(d.length+1 == Y.length+1)=(d.length == Y.length) by simp];rfl
def Eg{p:List (Addr × Obj)}{d:L2.St}{s:Shared}{a:Addr}{b ys:List V}(I:Inv X p d H s)(c:H a=aw (.tup b))(h:H a=aw (.tup ys)):b=ys:=by
 rw[c] at h;cases h;rfl
def yw{m:List Addr}(nd:m.Nodup){i j:Nat}{a:Addr}(b:m[i]?=aw a)(h:m[j]?=aw a):i=j:=by
 obtain⟨c,q⟩:=Zb.mp b;obtain⟨p,Q⟩:=Zb.mp h;exact(Y5 nd).mp (q.trans Q.symm)
def sh{u:List (Addr × Obj)}{σ:L2.St}{s:Shared}(I:Inv X u σ H s)(R:Rel X.K m S H):∀ (n:Nat) {x y:D} {v:V} {b:Bool},VD X.K m H x v->VD X.K m H y v->eqD n S x y=aw b->b=aN
 |0,_,_,_,_,_,_,h=>by simp[eqD] at h
 |n+1,x,y,v,b,h1,h2,h=>by
  have L:∀ {f Y:List D} {j:List V} {b:Bool},VDs X.K m H f j->VDs X.K m H Y j->eqL (eqD n S) f Y=aw b->b=aN:=by
   intro f
   induction f with
   |nil=>
    intro Y j b p q e;have l1:=p.length;have T:=q.length;cases Y with
    |nil=>simp[eqL] at e;simp_all
    |cons _ _=>simp at l1 T;lia
   |cons x f ih=>
    intro Y j b p q e;have l1:=p.length;have T:=q.length;cases Y with
    |nil=>simp at l1 T;lia
    |cons y Y=>
     rw[VDs] at p q;obtain⟨a,r,e1,p1,p2⟩:=p;obtain⟨B,r',e2,q1,q2⟩:=q;rw[e1] at e2;cases e2;simp only[eqL] at e;cases O:eqD n S x y with
     |none=>simp[O] at e
     |some c=>
      cases f2:eqL (eqD n S) f Y with
      |none=>simp[O,f2] at e
      |some d=>
       simp[O,f2] at e;rw[<-e,sh I R n p1 q1 O,ih p2 q2 f2];rfl
  cases x with
  |non=>cases h1.nons;cases y <;> simp[VD] at h2 <;> simp[eqD] at h <;> simp[h]
  |bl a=>cases h1.bls;cases y <;> simp[VD] at h2 <;> simp[eqD] at h <;> simp_all
  |int a=>cases h1.ints;cases y <;> simp[VD] at h2 <;> simp[eqD] at h <;> simp_all
  |str a=>cases h1.strs;cases y <;> simp[VD] at h2 <;> simp[eqD] at h <;> simp_all
  |tup f=>
   obtain⟨a,j,e,C,p⟩:=h1.tups;subst e;cases y with
   |tup Y=>
    obtain⟨B,Q,E,U,q⟩:=h2.tups;cases E;have:=Eg I C U;subst this;simp only[eqD] at h;exact L p q h
   |ref k=>
    obtain⟨B,J,E⟩:=h2.refs;cases E;have z:a ∈ m:=Zc J;exact absurd z (R.notTup C)
   |non=>cases h2.nons
   |bl _=>cases h2.bls
   |int _=>cases h2.ints
   |str _=>cases h2.strs
  |ref k=>
   obtain⟨a,J,e⟩:=h1.refs;subst e;cases y with
   |ref k'=>
    obtain⟨B,Z,E⟩:=h2.refs;cases E;have:=yw R.nd J Z;subst this;simp only[eqD] at h;cases hs:au S k with
    |none=>rw[hs] at h;cases h
    |some es=>rw[hs] at h;simp at h;exact h.symm ▸ rfl
   |tup Y=>
    obtain⟨B,Q,E,C,q⟩:=h2.tups;cases E;have z:a ∈ m:=Zc J;exact absurd z (R.notTup C)
   |non=>cases h2.nons
   |bl _=>cases h2.bls
   |int _=>cases h2.ints
   |str _=>cases h2.strs
def qm{c:List V}{its:List Value}{b:List D}(p:VDs K m H b c)(r:aO c its){j:Nat}(q:j < its.toArray.size):∃x v,b[j]?=aw x/\VD K m H x v/\aJ v its.toArray[j]:=by
 have h:j < its.length:=by simpa using q
 have l1:=p.length;have L:=r.length;obtain⟨v,k,vd⟩:=p.get (i:=j) (d:=b[j]'(by lia)) (gEG _);obtain⟨u,f,n⟩:=r.get k;refine⟨_,v,gEG (by lia),vd,?_⟩;have e:its[j]?=aw its[j]:=gEG h;rw[e] at f;cases f
 simpa using n
@[inline]abbrev Jw(X:Cx)(m:List Addr)(H:Hp)(S:Sto)(s:Shared)(n:Nat):Prop:=∀ (A:Around) (x y:D) (v w:V) (u U:Value) (b:Bool),VD X.K m H x v->VD X.K m H y w->aJ v u->aJ w U->eqD n S x y=aw b->A.units+n < cLine->Vb A s u U b
def si{pins:List (Addr × Obj)}{σ:L2.St}{s:Shared}{n:Nat}(U:Jw X m H S s n){A:Around}{k Y:List D}{B z:List V}{I c:List Value}{b:Bool}(p:VDs X.K m H k B)(q:VDs X.K m H Y z)(r1:aO B I)(r2:aO z c)
  (h:eqL (eqD n S) k Y=aw b) (Z:A.units+(n+1) < cLine):∃g:Nat->Bool,(∀j (u:j < I.toArray.size) (C:j < c.toArray.size),Vb A.in1 s I.toArray[j] c.toArray[j] (g j))/\b=((Zk (min I.toArray.size c.toArray.size)).all g && I.toArray.size == c.toArray.size):=by
 obtain⟨g,O,hb⟩:=sf h;have l1:I.toArray.size=k.length:=by rw[Zl,<-r1.length,<-p.length]
 have L:c.toArray.size=Y.length:=by rw[Zl,<-r2.length,<-q.length]
 refine⟨g,λj u C=>?_,by rw[hb,l1,L]⟩;obtain⟨x,v,E,Q,d⟩:=qm p r1 u;obtain⟨y,w,T,J,f⟩:=qm q r2 C;exact U _ _ _ _ _ _ _ _ Q J d f (O j x y E T) (by show A.units+1+n < cLine;lia)
def Az{n:Nat}:(Zk n).all (λ_=>aN)=aN:=by simp
def AA{C:List (Addr × Obj)}{σ:L2.St}{s:Shared}(I:Inv X C σ H s)(R:Rel X.K m S H){n:Nat}(ih:Jw X m H S s n){A:Around}{x y:D}{a a':Addr}{b:Bool}(O:VD X.K m H x (.ref a))(B:VD X.K m H y (.ref a'))(h:eqD (n+1) S x y=aw b)(hu:A.units+(n+1) < cLine) :
  Vc A s (.ref a) (.ref a') b/\Ve A s (.ref a) (.ref a') (!b):=by
 have d:A.units < cLine:=by lia
 cases x with
 |non=>cases O.nons
 |bl _=>cases O.bls
 |int _=>cases O.ints
 |str _=>cases O.strs
 |tup xs=>
  obtain⟨_,vs,e,Z,p⟩:=O.tups;cases e;obtain⟨Y,r1,T,_⟩:=I.tuple (.of Z);cases y with
  |non=>cases B.nons
  |bl _=>cases B.bls
  |int _=>cases B.ints
  |str _=>cases B.strs
  |tup ys=>
   obtain⟨_,ws,e,f,q⟩:=B.tups;cases e;obtain⟨Q,r2,u,_⟩:=I.tuple (.of f);simp only[eqD] at h;obtain⟨g,U,hb⟩:=si (pins:=C) (σ:=σ) ih p q r1 r2 h hu;rw[hb];exact⟨SeqAt.RcAt.tuples T u d U,PySem.SeqAt.RcNeAt.tuples T u d U⟩
  |ref k=>
   simp only[eqD] at h;cases hs:au S k with
   |none=>rw[hs] at h;cases h
   |some es=>
    rw[hs] at h;cases h;obtain⟨b',ws,hb,f,q⟩:=R.seq hs;obtain⟨c,E,ec⟩:=B.refs;cases ec;rw[hb] at E;cases E;obtain⟨Q,r2,u,_⟩:=I.list f;exact⟨SeqAt.RcAt.tuple_list T u.isList d,PySem.SeqAt.RcNeAt.tuple_list T u.isList d⟩
 |ref k=>
  obtain⟨c,E,ec⟩:=O.refs;cases ec;cases y with
  |non=>cases B.nons
  |bl _=>cases B.bls
  |int _=>cases B.ints
  |str _=>cases B.strs
  |tup ys=>
   obtain⟨_,ws,e,f,q⟩:=B.tups;cases e;obtain⟨Q,r2,u,_⟩:=I.tuple (.of f);simp only[eqD] at h;cases hs:au S k with
   |none=>rw[hs] at h;cases h
   |some es=>
    rw[hs] at h;cases h;obtain⟨b',vs,hb,Z,p⟩:=R.seq hs;rw[hb] at E;cases E;obtain⟨Y,r1,T,_⟩:=I.list Z;exact⟨SeqAt.RcAt.list_tuple T.isList u d,PySem.SeqAt.RcNeAt.list_tuple T.isList u d⟩
  |ref k'=>
   obtain⟨c',hc',ec'⟩:=B.refs;cases ec';simp only[eqD] at h;cases hs:au S k with
   |none=>rw[hs] at h;cases h
   |some es=>
    cases L:au S k' with
    |none=>rw[hs,L] at h;cases h
    |some es'=>
     rw[hs,L] at h;dsimp only at h;obtain⟨b1,vs,hb,Z,p⟩:=R.seq hs;rw[hb] at E;cases E;obtain⟨b2,ws,J,f,q⟩:=R.seq L;rw[J] at hc';cases hc';obtain⟨Y,r1,T,_⟩:=I.list Z;obtain⟨Q,r2,u,_⟩:=I.list f;split at h
     ·rename_i hk;subst hk;rw[hb] at J;cases J;cases h;have z:=SeqAt.RcAt.lists (e:=λ_=>aN) T.isList T.isList rfl d λj h1 h2=>SeqAt.EqAt.same _;have z':=PySem.SeqAt.RcNeAt.lists (e:=λ_=>aN) T.isList T.isList rfl d λj h1 h2=>SeqAt.EqAt.same _;rw[Az] at z z';exact⟨z,z'⟩
     ·have l1:Y.toArray.size=es.length:=by rw[Zl,<-r1.length,<-p.length]
      have l2:Q.toArray.size=es'.length:=by rw[Zl,<-r2.length,<-q.length]
      split at h
      ·rename_i hl;obtain⟨g,U,hb3⟩:=si (pins:=C) (σ:=σ) ih p q r1 r2 h hu;have v:Y.toArray.size=Q.toArray.size:=by rw[l1,l2,hl]
       rw[hb3,<-v,Nat.min_self,beq_self_eq_true,Bool.and_true];exact⟨SeqAt.RcAt.lists T.isList u.isList v d U,PySem.SeqAt.RcNeAt.lists T.isList u.isList v d U⟩
      ·rename_i hl;cases h;have v:(Y.toArray.size != Q.toArray.size)=aN:=by rw[l1,l2];simpa using hl
       exact⟨SeqAt.RcAt.lists_lengths T.isList u.isList v d,PySem.SeqAt.RcNeAt.lists_lengths T.isList u.isList v d⟩
def bq{b:List (Addr × Obj)}{f:L2.St}{s:Shared}(I:Inv X b f H s)(R:Rel X.K m S H){k:Nat}{v:V}{j:List D}(h:VD X.K m H (.ref k) v)(hs:au S k=aw j):∃a i,v = .ref a/\s.heap.IsList a i:=by
 obtain⟨c,d,E⟩:=h.refs;obtain⟨B,u,hb,n,p⟩:=R.seq hs;rw[hb] at d;cases d;obtain⟨q,r1,T,_⟩:=I.list n;exact⟨_,_,E,T.isList⟩
def bB{b:List (Addr × Obj)}{c:L2.St}{s:Shared}(I:Inv X b c H s){v:V}{E:List D}(h:VD X.K m H (.tup E) v):∃a i,v = .ref a/\s.heap.IsTuple a i:=by
 obtain⟨a,j,e,d,p⟩:=h.tups;obtain⟨f,r1,T,_⟩:=I.tuple (.of d);exact⟨_,_,e,T⟩
def qo{C:List (Addr × Obj)}{σ:L2.St}{s:Shared}(I:Inv X C σ H s)(R:Rel X.K m S H):∀n,Jw X m H S s n
 |0=>λA x y v w u U b p d r1 r2 h _=>by simp[eqD] at h
 |n+1=>λA x y v w u U b p d r1 r2 h T=>by
  have f:A.units < cLine:=by lia
  have seq:∀ {a q:Addr},v = .ref a->w = .ref q->Vb A s u U b:=by
   intro a q e B;subst e B;cases r1;cases r2;by_cases z:a=q
   ·subst z;have:=sh I R (n+1) p d h;subst this;exact SeqAt.EqAt.same _
   ·exact SeqAt.EqAt.of_refs z (AA I R (qo I R n) p d h T).1
  cases x with
  |non=>
   cases p.nons;cases r1;cases y with
   |non=>cases d.nons;cases r2;simp[eqD] at h;subst h;exact SeqAt.EqAt.same _
   |bl j=>cases d.bls;cases r2;simp[eqD] at h;subst h;exact SeqAt.EqAt.none_bool _
   |int j=>cases d.ints;obtain⟨t,rfl⟩:=r2;simp[eqD] at h;subst h;exact SeqAt.EqAt.none_int _ _
   |str j=>cases d.strs;obtain⟨t,rfl⟩:=r2;simp[eqD] at h;subst h;exact SeqAt.EqAt.none_str _ _
   |tup Y=>obtain⟨a,i,e,l⟩:=bB I d;subst e;cases r2;simp[eqD] at h;subst h;exact SeqAt.EqAt.none_tuple l f
   |ref k=>
    simp only[eqD] at h;cases hs:au S k with
    |none=>rw[hs] at h;cases h
    |some E=>rw[hs] at h;cases h;obtain⟨a,i,e,l⟩:=bq I R d hs;subst e;cases r2;exact SeqAt.EqAt.none_list l f
  |bl i=>
   cases p.bls;cases r1;cases y with
   |non=>cases d.nons;cases r2;simp[eqD] at h;subst h;exact SeqAt.EqAt.bool_none _
   |bl j=>cases d.bls;cases r2;simp only[eqD] at h;cases h;exact SeqAt.EqAt.bool_bool _ _
   |int j=>cases d.ints;obtain⟨t,rfl⟩:=r2;simp only[eqD] at h;cases h;exact SeqAt.EqAt.bool_int _ _ _
   |str j=>cases d.strs;obtain⟨t,rfl⟩:=r2;simp[eqD] at h;subst h;exact SeqAt.EqAt.bool_str _ _ _
   |tup Y=>obtain⟨a,i,e,l⟩:=bB I d;subst e;cases r2;simp[eqD] at h;subst h;exact SeqAt.EqAt.bool_tuple _ l f
   |ref k=>
    simp only[eqD] at h;cases hs:au S k with
    |none=>rw[hs] at h;cases h
    |some E=>rw[hs] at h;cases h;obtain⟨a,i,e,l⟩:=bq I R d hs;subst e;cases r2;exact SeqAt.EqAt.bool_list _ l f
  |int i=>
   cases p.ints;obtain⟨Z,rfl⟩:=r1;cases y with
   |non=>cases d.nons;cases r2;simp[eqD] at h;subst h;exact SeqAt.EqAt.int_none _ _
   |bl j=>cases d.bls;cases r2;simp only[eqD] at h;cases h;exact SeqAt.EqAt.int_bool _ _ _
   |int j=>cases d.ints;obtain⟨t,rfl⟩:=r2;simp only[eqD] at h;cases h;exact SeqAt.EqAt.int_int _ _ _ _
   |str j=>cases d.strs;obtain⟨t,rfl⟩:=r2;simp[eqD] at h;subst h;exact SeqAt.EqAt.int_str _ _ _ _
   |tup Y=>obtain⟨a,i,e,l⟩:=bB I d;subst e;cases r2;simp[eqD] at h;subst h;exact SeqAt.EqAt.int_tuple _ _ l f
   |ref k=>
    simp only[eqD] at h;cases hs:au S k with
    |none=>rw[hs] at h;cases h
    |some E=>rw[hs] at h;cases h;obtain⟨a,i,e,l⟩:=bq I R d hs;subst e;cases r2;exact SeqAt.EqAt.int_list _ _ l f
  |str i=>
   cases p.strs;obtain⟨Z,rfl⟩:=r1;cases y with
   |non=>cases d.nons;cases r2;simp[eqD] at h;subst h;exact SeqAt.EqAt.str_none _ _
   |bl j=>cases d.bls;cases r2;simp[eqD] at h;subst h;exact SeqAt.EqAt.str_bool _ _ _
   |int j=>cases d.ints;obtain⟨t,rfl⟩:=r2;simp[eqD] at h;subst h;exact SeqAt.EqAt.str_int _ _ _ _
   |str j=>cases d.strs;obtain⟨t,rfl⟩:=r2;simp only[eqD] at h;cases h;exact SeqAt.EqAt.str_str _ _ _ _
   |tup Y=>obtain⟨a,i,e,l⟩:=bB I d;subst e;cases r2;simp[eqD] at h;subst h;exact SeqAt.EqAt.str_tuple _ _ l f
   |ref k=>
    simp only[eqD] at h;cases hs:au S k with
    |none=>rw[hs] at h;cases h
    |some E=>rw[hs] at h;cases h;obtain⟨a,i,e,l⟩:=bq I R d hs;subst e;cases r2;exact SeqAt.EqAt.str_list _ _ l f
  |tup xs=>
   obtain⟨a,i,e,l⟩:=bB I p;subst e;cases r1;cases y with
   |non=>cases d.nons;cases r2;simp[eqD] at h;subst h;exact SeqAt.EqAt.tuple_none l f
   |bl j=>cases d.bls;cases r2;simp[eqD] at h;subst h;exact SeqAt.EqAt.tuple_bool _ l f
   |int j=>cases d.ints;obtain⟨t,rfl⟩:=r2;simp[eqD] at h;subst h;exact SeqAt.EqAt.tuple_int _ _ l f
   |str j=>cases d.strs;obtain⟨t,rfl⟩:=r2;simp[eqD] at h;subst h;exact SeqAt.EqAt.tuple_str _ _ l f
   |tup Y=>obtain⟨q,i',B,Q⟩:=bB I d;exact seq rfl B
   |ref k=>obtain⟨c,O,J⟩:=d.refs;exact seq rfl J
  |ref k=>
   obtain⟨c,O,J⟩:=p.refs;cases y with
   |tup Y=>obtain⟨q,i',B,Q⟩:=bB I d;exact seq J B
   |ref k=>obtain⟨c,O,L⟩:=d.refs;exact seq J L
   |non=>
    simp only[eqD] at h;cases hs:au S k with
    |none=>rw[hs] at h;cases h
    |some E=>rw[hs] at h;cases h;obtain⟨a,i,e,l⟩:=bq I R p hs;subst e;cases r1;cases d.nons;cases r2;exact SeqAt.EqAt.list_none l f
   |bl j=>
    simp only[eqD] at h;cases hs:au S k with
    |none=>rw[hs] at h;cases h
    |some E=>rw[hs] at h;cases h;obtain⟨a,i,e,l⟩:=bq I R p hs;subst e;cases r1;cases d.bls;cases r2;exact SeqAt.EqAt.list_bool _ l f
   |int j=>
    simp only[eqD] at h;cases hs:au S k with
    |none=>rw[hs] at h;cases h
    |some E=>rw[hs] at h;cases h;obtain⟨a,i,e,l⟩:=bq I R p hs;subst e;cases r1;cases d.ints;obtain⟨t,rfl⟩:=r2;exact SeqAt.EqAt.list_int _ _ l f
   |str j=>
    simp only[eqD] at h;cases hs:au S k with
    |none=>rw[hs] at h;cases h
    |some E=>rw[hs] at h;cases h;obtain⟨a,i,e,l⟩:=bq I R p hs;subst e;cases r1;cases d.strs;obtain⟨t,rfl⟩:=r2;exact SeqAt.EqAt.list_str _ _ l f
def N6{z:List (Addr × Obj)}{σ:L2.St}{s:Shared}(I:Inv X z σ H s)(R:Rel X.K m S H)(n:Nat){A:Around}{x y:D}{v w:V}{u U:Value}{b:Bool}(p:VD X.K m H x v)(f:VD X.K m H y w)(r1:aJ v u)(r2:aJ w U)(h:eqD (n+1) S x y=aw b)(Q:A.units+(n+1) < cLine) :
  Vc A s u U b/\Ve A s u U (!b):=by
 have d:A.units < cLine:=by lia
 have seq:∀ {a B:Addr},v = .ref a->w = .ref B->Vc A s u U b/\Ve A s u U (!b):=by
  intro a B e q;subst e q;cases r1;cases r2;exact AA I R (qo I R n) p f h Q
 cases x with
 |non=>
  cases p.nons;cases r1;cases y with
  |non=>cases f.nons;cases r2;simp[eqD] at h;subst h;exact⟨SeqAt.RcAt.none_none,PySem.SeqAt.RcNeAt.none_none⟩
  |bl j=>cases f.bls;cases r2;simp[eqD] at h;subst h;exact⟨SeqAt.RcAt.none_bool _,PySem.SeqAt.RcNeAt.none_bool _⟩
  |int j=>cases f.ints;obtain⟨T,rfl⟩:=r2;simp[eqD] at h;subst h;exact⟨SeqAt.RcAt.none_int _ _,PySem.SeqAt.RcNeAt.none_int _ _⟩
  |str j=>cases f.strs;obtain⟨T,rfl⟩:=r2;simp[eqD] at h;subst h;exact⟨SeqAt.RcAt.none_str _ _,PySem.SeqAt.RcNeAt.none_str _ _⟩
  |tup Y=>obtain⟨a,i,e,l⟩:=bB I f;subst e;cases r2;simp[eqD] at h;subst h;exact⟨SeqAt.RcAt.none_tuple l d,PySem.SeqAt.RcNeAt.none_tuple l d⟩
  |ref k=>
   simp only[eqD] at h;cases hs:au S k with
   |none=>rw[hs] at h;cases h
   |some E=>rw[hs] at h;cases h;obtain⟨a,i,e,l⟩:=bq I R f hs;subst e;cases r2;exact⟨SeqAt.RcAt.none_list l d,PySem.SeqAt.RcNeAt.none_list l d⟩
 |bl i=>
  cases p.bls;cases r1;cases y with
  |non=>cases f.nons;cases r2;simp[eqD] at h;subst h;exact⟨SeqAt.RcAt.bool_none _,PySem.SeqAt.RcNeAt.bool_none _⟩
  |bl j=>cases f.bls;cases r2;simp only[eqD] at h;cases h;exact⟨SeqAt.RcAt.bool_bool _ _,PySem.SeqAt.RcNeAt.bool_bool _ _⟩
  |int j=>cases f.ints;obtain⟨T,rfl⟩:=r2;simp only[eqD] at h;cases h;exact⟨SeqAt.RcAt.bool_int _ _ _,PySem.SeqAt.RcNeAt.bool_int _ _ _⟩
  |str j=>cases f.strs;obtain⟨T,rfl⟩:=r2;simp[eqD] at h;subst h;exact⟨SeqAt.RcAt.bool_str _ _ _,PySem.SeqAt.RcNeAt.bool_str _ _ _⟩
  |tup Y=>obtain⟨a,i,e,l⟩:=bB I f;subst e;cases r2;simp[eqD] at h;subst h;exact⟨SeqAt.RcAt.bool_tuple _ l d,PySem.SeqAt.RcNeAt.bool_tuple _ l d⟩
  |ref k=>
   simp only[eqD] at h;cases hs:au S k with
   |none=>rw[hs] at h;cases h
   |some E=>rw[hs] at h;cases h;obtain⟨a,i,e,l⟩:=bq I R f hs;subst e;cases r2;exact⟨SeqAt.RcAt.bool_list _ l d,PySem.SeqAt.RcNeAt.bool_list _ l d⟩
 |int i=>
  cases p.ints;obtain⟨Z,rfl⟩:=r1;cases y with
  |non=>cases f.nons;cases r2;simp[eqD] at h;subst h;exact⟨SeqAt.RcAt.int_none _ _,PySem.SeqAt.RcNeAt.int_none _ _⟩
  |bl j=>cases f.bls;cases r2;simp only[eqD] at h;cases h;exact⟨SeqAt.RcAt.int_bool _ _ _,PySem.SeqAt.RcNeAt.int_bool _ _ _⟩
  |int j=>cases f.ints;obtain⟨T,rfl⟩:=r2;simp only[eqD] at h;cases h;exact⟨SeqAt.RcAt.int_int _ _ _ _,PySem.SeqAt.RcNeAt.int_int _ _ _ _⟩
  |str j=>cases f.strs;obtain⟨T,rfl⟩:=r2;simp[eqD] at h;subst h;exact⟨SeqAt.RcAt.int_str _ _ _ _,PySem.SeqAt.RcNeAt.int_str _ _ _ _⟩
  |tup Y=>obtain⟨a,i,e,l⟩:=bB I f;subst e;cases r2;simp[eqD] at h;subst h;exact⟨SeqAt.RcAt.int_tuple _ _ l d,PySem.SeqAt.RcNeAt.int_tuple _ _ l d⟩
  |ref k=>
   simp only[eqD] at h;cases hs:au S k with
   |none=>rw[hs] at h;cases h
   |some E=>rw[hs] at h;cases h;obtain⟨a,i,e,l⟩:=bq I R f hs;subst e;cases r2;exact⟨SeqAt.RcAt.int_list _ _ l d,PySem.SeqAt.RcNeAt.int_list _ _ l d⟩
 |str i=>
  cases p.strs;obtain⟨Z,rfl⟩:=r1;cases y with
  |non=>cases f.nons;cases r2;simp[eqD] at h;subst h;exact⟨SeqAt.RcAt.str_none _ _,PySem.SeqAt.RcNeAt.str_none _ _⟩
  |bl j=>cases f.bls;cases r2;simp[eqD] at h;subst h;exact⟨SeqAt.RcAt.str_bool _ _ _,PySem.SeqAt.RcNeAt.str_bool _ _ _⟩
  |int j=>cases f.ints;obtain⟨T,rfl⟩:=r2;simp[eqD] at h;subst h;exact⟨SeqAt.RcAt.str_int _ _ _ _,PySem.SeqAt.RcNeAt.str_int _ _ _ _⟩
  |str j=>cases f.strs;obtain⟨T,rfl⟩:=r2;simp only[eqD] at h;cases h;exact⟨SeqAt.RcAt.str_str _ _ _ _,PySem.SeqAt.RcNeAt.str_str _ _ _ _⟩
  |tup Y=>obtain⟨a,i,e,l⟩:=bB I f;subst e;cases r2;simp[eqD] at h;subst h;exact⟨SeqAt.RcAt.str_tuple _ _ l d,PySem.SeqAt.RcNeAt.str_tuple _ _ l d⟩
  |ref k=>
   simp only[eqD] at h;cases hs:au S k with
   |none=>rw[hs] at h;cases h
   |some E=>rw[hs] at h;cases h;obtain⟨a,i,e,l⟩:=bq I R f hs;subst e;cases r2;exact⟨SeqAt.RcAt.str_list _ _ l d,PySem.SeqAt.RcNeAt.str_list _ _ l d⟩
 |tup xs=>
  obtain⟨a,i,e,l⟩:=bB I p;cases y with
  |non=>subst e;cases r1;cases f.nons;cases r2;simp[eqD] at h;subst h;exact⟨SeqAt.RcAt.tuple_none l d,PySem.SeqAt.RcNeAt.tuple_none l d⟩
  |bl j=>subst e;cases r1;cases f.bls;cases r2;simp[eqD] at h;subst h;exact⟨SeqAt.RcAt.tuple_bool _ l d,PySem.SeqAt.RcNeAt.tuple_bool _ l d⟩
  |int j=>subst e;cases r1;cases f.ints;obtain⟨T,rfl⟩:=r2;simp[eqD] at h;subst h;exact⟨SeqAt.RcAt.tuple_int _ _ l d,PySem.SeqAt.RcNeAt.tuple_int _ _ l d⟩
  |str j=>subst e;cases r1;cases f.strs;obtain⟨T,rfl⟩:=r2;simp[eqD] at h;subst h;exact⟨SeqAt.RcAt.tuple_str _ _ l d,PySem.SeqAt.RcNeAt.tuple_str _ _ l d⟩
  |tup Y=>obtain⟨B,i',q,O⟩:=bB I f;exact seq e q
  |ref k=>obtain⟨c,L,C⟩:=f.refs;exact seq e C
 |ref k=>
  obtain⟨c,L,C⟩:=p.refs;cases y with
  |tup Y=>obtain⟨B,i',q,O⟩:=bB I f;exact seq C q
  |ref k=>obtain⟨c,L,J⟩:=f.refs;exact seq C J
  |non=>
   simp only[eqD] at h;cases hs:au S k with
   |none=>rw[hs] at h;cases h
   |some E=>rw[hs] at h;cases h;obtain⟨a,i,e,l⟩:=bq I R p hs;subst e;cases r1;cases f.nons;cases r2;exact⟨SeqAt.RcAt.list_none l d,PySem.SeqAt.RcNeAt.list_none l d⟩
  |bl j=>
   simp only[eqD] at h;cases hs:au S k with
   |none=>rw[hs] at h;cases h
   |some E=>rw[hs] at h;cases h;obtain⟨a,i,e,l⟩:=bq I R p hs;subst e;cases r1;cases f.bls;cases r2;exact⟨SeqAt.RcAt.list_bool _ l d,PySem.SeqAt.RcNeAt.list_bool _ l d⟩
  |int j=>
   simp only[eqD] at h;cases hs:au S k with
   |none=>rw[hs] at h;cases h
   |some E=>rw[hs] at h;cases h;obtain⟨a,i,e,l⟩:=bq I R p hs;subst e;cases r1;cases f.ints;obtain⟨T,rfl⟩:=r2;exact⟨SeqAt.RcAt.list_int _ _ l d,PySem.SeqAt.RcNeAt.list_int _ _ l d⟩
  |str j=>
   simp only[eqD] at h;cases hs:au S k with
   |none=>rw[hs] at h;cases h
   |some E=>rw[hs] at h;cases h;obtain⟨a,i,e,l⟩:=bq I R p hs;subst e;cases r1;cases f.strs;obtain⟨T,rfl⟩:=r2;exact⟨SeqAt.RcAt.list_str _ _ l d,PySem.SeqAt.RcNeAt.list_str _ _ l d⟩
abbrev eqS(x y:D)(S:Sto):Option (D × Sto):=(eqD 60 S x y).map λb=>(.bl b,S)
abbrev neS(x y:D)(S:Sto):Option (D × Sto):=(eqD 60 S x y).map λb=>(.bl (!b),S)
def rC{x y:D}{S:Sto}{b:Bool}(h:eqD 60 S x y=aw b):neS x y S=aw (.bl (!b),S):=by unfold neS;rw[h];rfl
def Jx(C:X.A.units+64 < cLine):OpR X (VQ .Eq) (rS X.K eqS):=by
 intro p s z H x y v u Q I n j h;obtain⟨m,S,a,b,d,B,R,k,vb,e,q⟩:=h;unfold eqS at e;cases f:eqD 60 S a b with
 |none=>rw[f] at e;cases e
 |some c=>
  rw[f] at e;cases e;exact(N6 I R 59 k vb n j f (by lia)).1 _ _ _ _ ⟨.bl c,H,I,rfl,q m H _ (Aft.refl R) bD⟩
def Jy(C:X.A.units+64 < cLine):OpR X (VQ .NotEq) (rS X.K neS):=by
 intro p s z H x y v u Q I n j h;obtain⟨m,S,a,b,d,B,R,k,vb,e,q⟩:=h;unfold neS at e;cases f:eqD 60 S a b with
 |none=>rw[f] at e;cases e
 |some c=>
  rw[f] at e;cases e;exact(N6 I R 59 k vb n j f (by lia)).2 _ _ _ _ ⟨.bl (!c),H,I,rfl,q m H _ (Aft.refl R) bD⟩
end
abbrev eu:List D->Option (List Key)
 |[]=>aw []
 |.int i::ds=>(eu ds).map (.inl i::·)
 |.str x::ds=>(eu ds).map (.inr x::·)
 |_=>aD
abbrev AB:D->Option NK
 |.non=>aw .non
 |.int i=>aw (.one (.inl i))
 |.str x=>aw (.one (.inr x))
 |.tup ds=>(eu ds).map .tup
 |_=>aD
abbrev oK:List D->Option (List NK)
 |[]=>aw []
 |d::ds=>match AB d,oK ds with
  |some k,aw ks=>aw (k::ks)
  |_,_=>aD
abbrev nZ:D->Option (List NK)
 |.tup ds=>oK ds
 |_=>aD
abbrev atD:List (List NK)->List D->List NK->Option D
 |a::kss,d::ds,k=>if a=k then aw d else atD kss ds k
 |_,_,_=>aD
abbrev fR(k:List NK)(v:D):List (List NK)->List D->List D
 |a::kss,d::ds=>(if a=k then v else d)::fR k v kss ds
 |_,_=>[]
section
variable {K:Vk} {m:List Addr} {H:Hp} {S:Sto}
def mh:∀ {d:List D} {k:List Key} {b:List V},eu d=aw k->VDs K m H d b->b=k.map kV
 |[],_,_,e,h=>by cases e;rw[VDs] at h;exact h
 |.int i::d,k,b,e,h=>by
  simp only[eu] at e;obtain⟨j,E,rfl⟩:=ZV.mp e;rw[VDs] at h;obtain⟨v,r,rfl,f,c⟩:=h;rw[f.ints,mh E c];rfl
 |.str x::d,k,b,e,h=>by
  simp only[eu] at e;obtain⟨j,E,rfl⟩:=ZV.mp e;rw[VDs] at h;obtain⟨v,r,rfl,f,c⟩:=h;rw[f.strs,mh E c];rfl
 |.non::_,_,_,e,_=>by simp[eu] at e
 |.bl _::_,_,_,e,_=>by simp[eu] at e
 |.tup _::_,_,_,e,_=>by simp[eu] at e
 |.ref _::_,_,_,e,_=>by simp[eu] at e
def Eh{d:D}{k:NK}{v:V}(e:AB d=aw k)(h:VD K m H d v):xZ H k v:=by
 cases d with
 |non=>cases e;exact h.nons
 |int i=>cases e;exact h.ints
 |str x=>cases e;exact h.strs
 |tup j=>
  simp only[AB] at e;obtain⟨c,E,rfl⟩:=ZV.mp e;obtain⟨a,f,rfl,b,q⟩:=h.tups;exact⟨a,rfl,by rw[<-mh E q];exact b⟩
 |_=>cases e
def sj:∀ {f:List D} {b:List NK} {c:List V},oK f=aw b->VDs K m H f c->Paired (xZ H) b c
 |[],_,_,e,h=>by cases e;rw[VDs] at h;subst h;exact .nil
 |d::f,b,c,e,h=>by
  rw[VDs] at h;obtain⟨v,r,rfl,n,j⟩:=h;simp only[oK] at e;split at e
  ·rename_i k q p E;cases e;exact .cons (Eh p n) (sj E j)
  ·cases e
def wK{d:D}{k:List NK}{v:V}(e:nZ d=aw k)(h:VD K m H d v):∃a,v = .ref a/\pV H k a:=by
 cases d with
 |tup f=>
  obtain⟨a,b,rfl,c,q⟩:=h.tups;exact⟨a,rfl,b,c,sj e q⟩
 |_=>cases e
def Rel.dic(R:Rel K m S H){n:Nat}{k:List (List NK)}{d:List D}{x:V}(j:S[n]?=aw (.dic k d))(v:VD K m H (.ref n) x):∃a vs,x = .ref a/\m[n]?=aw a/\H a=aw (.dT (k.zip vs))/\k.length=d.length/\VDs K m H d vs:=by
 obtain⟨a,b,vs,f,c,p⟩:=R.ob n _ j;obtain⟨q,h,rfl⟩:=v.refs;rw[b] at h;cases h;exact⟨a,vs,rfl,b,f,c,p⟩
def qp:∀ {b:List (List NK)} {c:List D} {f:List V} {k:List NK},b.length=c.length->VDs K m H c f->atD b c k=aD->jD (b.zip f) k=aD/\k ∉ b
 |[],_,_,_,_,_,_=>⟨rfl,by simp⟩
 |a::b,d::c,f,k,hl,h,e=>by
  rw[VDs] at h;obtain⟨v,r,rfl,p,j⟩:=h;simp only[atD] at e;split at e
  ·cases e
  ·rename_i ne;obtain⟨I,n⟩:=qp (by simpa using hl) j e;refine⟨?_,λz=>(Zn.mp z).elim (λz=>ne z.symm) n⟩;rw[Yl,fQ ne];exact I
 |_::_,[],_,_,hl,_,_=>by simp at hl
def kT:∀ {b:List (List NK)} {f:List D} {c:List V} {k:List NK} {d:D},VDs K m H f c->atD b f k=aw d->∃v,jD (b.zip c) k=aw v/\VD K m H d v
 |[],_,_,_,_,_,e=>by simp[atD] at e
 |a::b,d::f,c,k,d',h,e=>by
  rw[VDs] at h;obtain⟨v,r,rfl,n,j⟩:=h;simp only[atD] at e;rw[Yl];split at e
  ·rename_i eq;cases e;exact⟨v,iW eq,n⟩
  ·rename_i ne;rw[fQ ne];exact kT j e
 |_::_,[],_,_,_,_,e=>by simp[atD] at e
abbrev inK(neg:Bool)(x y:D)(S:Sto):Option (D × Sto):=match nZ x,y with
 | some k,.ref n=>(match S[n]? with
  |some (.dic kss ds)=>aw (.bl (neg != (atD kss ds k).isSome),S)
  | _=>aD)
 |_,_=>aD
def sr{neg:Bool}{x y d:D}{f:Sto}(e:inK neg x y S=aw (d,f)):∃k n b c,nZ x=aw k/\y = .ref n/\S[n]?=aw (.dic b c)/\d = .bl (neg != (atD b c k).isSome)/\f=S:=by
 unfold inK at e;split at e
 ·rename_i k n j;split at e
  ·rename_i b c h;cases e;exact⟨k,n,b,c,j,rfl,h,rfl,rfl⟩
  ·cases e
 ·cases e
def qq(R:Rel K m S H){n:Nat}{c:List (List NK)}{h:List D}{x y:D}{k:List NK}{u v:V}(I:nZ x=aw k)(B:S[n]?=aw (.dic c h))(L:VD K m H x u)(C:VD K m H (.ref n) v):∃a b,v = .ref a/\u = .ref b/\∃o,Al H a (.ref b) o/\o.isSome=(atD c h k).isSome/\∀d,atD c h k=aw d->∃w,o=aw w/\VD K m H d w:=by
 obtain⟨b,rfl,j⟩:=wK I L;obtain⟨a,q,rfl,_,J,p,f⟩:=R.dic B C;refine⟨a,b,rfl,rfl,jD (c.zip q) k,.inr ⟨_,k,b,.inl J,rfl,j,rfl⟩,?_,λd e=>?_⟩
 ·cases e:atD c h k with
  |none=>rw[(qp p f e).1];rfl
  |some d=>obtain⟨w,E,_⟩:=kT f e;rw[E];rfl
 ·obtain⟨w,E,z⟩:=kT f e;exact⟨w,E,z⟩
abbrev ixK(d y:D)(S:Sto):Option (D × Sto):=match nZ y,d with
 | some k,.ref n=>(match S[n]? with
  |some (.dic kss ds)=>(atD kss ds k).map λv=>(v,S)
  | _=>aD)
 |_,_=>aD
def AC{x y d:D}{f:Sto}(e:ixK x y S=aw (d,f)):∃k n b c,nZ y=aw k/\x = .ref n/\S[n]?=aw (.dic b c)/\atD b c k=aw d/\f=S:=by
 unfold ixK at e;split at e
 ·rename_i k n p;split at e
  ·rename_i b c j;obtain⟨v,h,E⟩:=ZV.mp e;cases E;exact⟨k,n,b,c,p,rfl,j,h,rfl⟩
  ·cases e
 ·cases e
abbrev AE(o y v:D)(S:Sto):Option Sto:=match nZ y,o with
 | some k,.ref n=>(match S[n]? with
  |some (.dic kss ds)=>if kss.length < 100000 then aw (if (atD kss ds k).isSome=aN then S.set n (.dic kss (fR k v kss ds)) else S.set n (.dic (kss++[k]) (ds++[v]))) else aD
  | _=>aD)
 |_,_=>aD
def yx{o y v:D}{c:Sto}(e:AE o y v S=aw c):∃k n b d,nZ y=aw k/\o = .ref n/\S[n]?=aw (.dic b d)/\b.length < 100000/\c=if (atD b d k).isSome=aN then S.set n (.dic b (fR k v b d)) else S.set n (.dic (b++[k]) (d++[v])):=by
 unfold AE at e;split at e
 ·rename_i k n j;split at e
  ·rename_i b d f;split at e
   ·rename_i h;exact⟨k,n,b,d,j,rfl,f,h,(Option.some.inj e).symm⟩
   ·cases e
  ·cases e
 ·cases e
def AF{k:List NK}{v:D}{w:V}(p:VD K m H v w):∀ {b:List (List NK)} {j:List D} {f:List V},b.length=j.length->VDs K m H j f->∃c,(b.zip f).map (λn=>if n.1=k then (n.1,w) else n)=b.zip c/\VDs K m H (fR k v b j) c
 |[],[],f,_,h=>⟨[],by simp,by simp only[fR];rw[VDs]⟩
 |[],_::_,_,hl,_=>by simp at hl
 |_::_,[],_,hl,_=>by simp at hl
 |a::b,d::j,f,hl,h=>by
  rw[VDs] at h;obtain⟨u,r,rfl,y,q⟩:=h;obtain⟨c,z,E⟩:=AF p (by simpa using hl) q;rw[Yl,Zw,z];simp only[fR];by_cases e:a=k
  ·rw[if_pos e,if_pos e];exact⟨w::c,by rw[Yl],.cons p E⟩
  ·rw[if_neg e,if_neg e];exact⟨u::c,by rw[Yl],.cons y E⟩
def qr{k:List NK}{v:D}:∀ {b:List (List NK)} {c:List D},b.length=c.length->b.length=(fR k v b c).length
 |[],[],_=>rfl
 |[],_::_,hl=>by simp at hl
 |_::_,[],hl=>by simp at hl
 |a::b,d::c,hl=>by simp only[fR,Zo];rw[qr (by simpa using hl)]
def Rel.writeD(R:Rel K m S H){i:Nat}{a:Addr}{k:List (List NK)}{d:List D}{v:List V}(hi:m[i]?=aw a)(y:k.length=d.length)(q:VDs K m H d v):Aft K m H (S.set i (.dic k d)) m (upd H a (.dT (k.zip v))):=by
 have C:a ∈ m:=Zc hi;have x:Ext m H m (upd H a (.dT (k.zip v))):=⟨Ym m,λb u e n=>by rw[aB (show b ≠ a fromλz=>n (by rw[z];exact C))];exact e,λb z n=>absurd z n⟩;refine⟨x,by simp[R.len],R.nd,λj o e=>?_⟩;rw[Yw] at e;by_cases h:i=j
 ·subst h;rw[if_pos rfl] at e;split at e
  ·have B:=Option.some.inj e;subst B;exact⟨a,hi,v,bg,y,VDs.mono R x q⟩
  ·cases e
 ·rw[if_neg h] at e;obtain⟨b,hb,r⟩:=R.ob j o e
  have ne:b ≠ a:=λz=>by
   subst z;have f:=Zb.mp hi;have I:=Zb.mp hb;exact h ((Y5 R.nd).mp (f.2.trans I.2.symm))
  refine⟨b,hb,?_⟩;cases o with
  |lst E=>obtain⟨c,p,q⟩:=r;exact⟨c,by rw[aB ne];exact p,VDs.mono R x q⟩
  |frz E=>obtain⟨o,c,p,q⟩:=r;exact⟨o,c,by rw[aB ne];exact p,VDs.mono R x q⟩
  |dic J E=>obtain⟨c,p,l,q⟩:=r;exact⟨c,by rw[aB ne];exact p,l,VDs.mono R x q⟩
def Ei(R:Rel K m S H){n:Nat}{f:List (List NK)}{j:List D}{y v:D}{k:List NK}{u o w:V}(Q:nZ y=aw k)(Y:S[n]?=aw (.dic f j))(h5:f.length < 100000)(O:VD K m H y u)(I:VD K m H (.ref n) o)(B:VD K m H v w) :
  ∃a b H',o = .ref a/\u = .ref b/\N0 H a (.ref b) w H'/\Aft K m H (if (atD f j k).isSome=aN then S.set n (.dic f (fR k v f j)) else S.set n (.dic (f++[k]) (j++[v]))) m H':=by
 obtain⟨b,rfl,T⟩:=wK Q O;obtain⟨a,q,rfl,C,Z,p,h⟩:=R.dic Y I;have z:f.length=q.length:=by rw[p,h.length]
 have J:(f.zip q).length < sizeLine:=by rw[List.length_zip,Uh];lia
 refine⟨a,b,_,rfl,rfl,.inr ⟨_,k,b,Z,rfl,T,J,rfl⟩,?_⟩
 have any:((f.zip q).any λX=>decide (X.1=k))=(atD f j k).isSome:=by
  rw[l6];cases e:atD f j k with
  |none=>rw[(qp p h e).1];rfl
  |some d=>obtain⟨w,L,_⟩:=kT h e;rw[L];rfl
 unfold l5;rw[any];by_cases c:(atD f j k).isSome=aN
 ·rw[if_pos c,if_pos c];obtain⟨ws,E,U⟩:=AF B p h;rw[E];exact R.writeD C (qr p) U
 ·rw[if_neg c,if_neg c];have e:f.zip q++[(k,w)]=(f++[k]).zip (q++[w]):=by rw[List.zip_append z];rfl
  rw[e];exact R.writeD C (by rw[Zh,Zh,p];rfl) (h.append (.cons B .nil))
end
abbrev Jz(a b:Nat)(S:Sto):Option (D × Sto):=match S[a]? with
 | some (.lst xs)=>(match S[b]? with
  |some (.lst ys)=>if xs.length+ys.length<=100000 then aw (.ref S.length,S++[.lst (xs++ys)]) else aD
  | _=>aD)
 |_=>aD
abbrev kM:D->D->Sto->Option (D × Sto)
 |.int i,.int j,S=>aw (.int (i+j),S)
 |.tup xs,.tup ys,S=>if xs.length+ys.length<=1000 then aw (.tup (xs++ys),S) else aD
 |.ref a,.ref b,S=>Jz a b S
 |.str x,.str y,S=>if x.length+y.length<=100000 then aw (.str (x++y),S) else aD
 |_,_,_=>aD
abbrev N7:D->D->Sto->Option (D × Sto)
 |.int i,.int j,S=>aw (.int (i - j),S)
 |_,_,_=>aD
abbrev hU(i j:Int):Bool:=(decide (-(2 ^ 64) < i) && decide (i < 2 ^ 64)) || (decide (-(2 ^ 64) < j) && decide (j < 2 ^ 64))
abbrev su:D->D->Sto->Option (D × Sto)
 |.int i,.int j,S=>if hU i j=aN then aw (.int (i * j),S) else aD
 | .ref n,.int k,S=>(match S[n]? with
  |some (.lst xs)=>if 0<=k/\xs.length * k.toNat<=1000/\k<=1000 then aw (.ref S.length,S++[.lst (Zx k.toNat xs).flatten]) else aD
  | _=>aD)
 |_,_,_=>aD
abbrev JA:D->D->Sto->Option (D × Sto)
 |.int i,.int j,S=>if 0 < j then aw (.int (i % j),S) else aD
 |_,_,_=>aD
abbrev AG:D->D->Sto->Option (D × Sto)
 |.int i,.int j,S=>if 0 < j/\j < 1298074214633706907132624082305024 then aw (.int (i / j),S) else aD
 |_,_,_=>aD
abbrev JB:D->D->Sto->Option (D × Sto)
 |.int i,.int j,S=>if 0<=j/\j<=1000000/\i.natAbs < 2 ^ 64 then aw (.int (i ^ j.toNat),S) else aD
 |_,_,_=>aD
inductive BOp where |add |sub |mul |mod |fdiv |pow
abbrev bL:BOp->D->D->Sto->Option (D × Sto)
 |.add=>kM |.sub=>N7 |.mul=>su |.mod=>JA |.fdiv=>AG |.pow=>JB
abbrev BOp.op:BOp->Va
 |.add=>.Add |.sub=>.Sub |.mul=>.Mult |.mod=>.Mod |.fdiv=>.FloorDiv |.pow=>.Pow
section
variable {X:Cx} {K:Vk} {m:List Addr} {H:Hp} {S:Sto}
def gL{op:Va}{f:D->D->Sto->Option (D × Sto)}{C:Int->Int->Prop}{g:Int->Int->Int}(ho:OpR X (VG op) (rI C λi j=>.int (g i j)))
  (n:∀a b S d k,f a b S=aw (d,k)->∃i j,a = .int i/\b = .int j/\C i j/\d = .int (g i j)/\k=S):OpR X (VG op) (rS X.K f):=by
 refine OpR.imp ho λx y H Q h=>?_;obtain⟨m,S,a,b,d,k,R,v,vb,e,q⟩:=h;obtain⟨i,j,rfl,rfl,c,rfl,rfl⟩:=n _ _ _ _ _ e;exact⟨i,j,v.ints,vb.ints,c,q m H _ (Aft.refl R) bh⟩
def uF:OpR X (VG .Add) (λx y H Q=>∃m S c Y,Rel X.K m S H/\VD X.K m H (.tup c) x/\VD X.K m H (.tup Y) y/\c.length+Y.length<=1000/\∀j d u,Aft X.K m H S j d->VD X.K j d (.tup (c++Y)) u->Q u d):=by
 refine OpR.imp D6 λx y H Q h=>?_;obtain⟨m,S,c,Y,R,v,vb,B,q⟩:=h;obtain⟨a,p,rfl,sa,f⟩:=v.tups;obtain⟨b,z,rfl,n,k⟩:=vb.tups;have l1:=f.length;have L:=k.length;refine⟨a,b,p,z,rfl,rfl,.of sa,.of n,mf (by lia),λe=>?_,λ_ e=>?_,λ_ _=>iY R (f.append k) q⟩
 ·subst e;have e:c=[]:=ZT.mp (by simpa using l1);subst e;exact q m H _ (Aft.refl R) vb
 ·subst e;have e:Y=[]:=ZT.mp (by simpa using L);subst e;rw[ZN] at q;exact q m H _ (Aft.refl R) v
def Ej:OpR X (VG .Add) (rS X.K kM):=by
 refine OpR.imp (OpR.or IW (OpR.or uF (OpR.or uo Jj))) λx y H Q h=>?_;obtain⟨m,S,a,b,d,S',R,v,vb,e,q⟩:=h;cases a with
 |int i=>
  cases b with
  |int j=>cases e;exact .inl ⟨i,j,v.ints,vb.ints,q m H _ (Aft.refl R) bh⟩
  |_=>simp[kM] at e
 |tup z=>
  cases b with
  |tup Y=>
   simp only[kM] at e;split at e
   ·rename_i n;cases e;exact .inr (.inl ⟨m,S,z,Y,R,v,vb,n,q⟩)
   ·cases e
  |_=>simp[kM] at e
 |str i=>
  cases b with
  |str j=>
   simp only[kM] at e;split at e
   ·rename_i n;cases e;exact .inr (.inr (.inl ⟨i,j,v.strs,vb.strs,by rw[Uh];lia,q m H _ (Aft.refl R) uE⟩))
   ·cases e
  |_=>simp[kM] at e
 |ref i=>
  cases b with
  |ref j=>
   simp only[kM,Jz] at e;split at e
   ·rename_i z B;split at e
    ·rename_i Y L;split at e
     ·rename_i n;cases e;obtain⟨a,O,U,Z,u⟩:=R.lst B;obtain⟨c,J,I,C,p⟩:=R.lst L;obtain⟨a',f,E⟩:=v.refs;obtain⟨c',k,T⟩:=vb.refs;rw[U] at f;cases f;rw[I] at k;cases k;exact .inr (.inr (.inr ⟨a,c,O,J,E,T,Z,C,by rw[Uh,<-u.length,<-p.length];lia,kQ R (u.append p) q⟩))
     ·cases e
    ·cases e
   ·cases e
  |_=>simp[kM] at e
 |_=>cases b <;> simp[kM] at e
def wL(h:VDs K m H d v):∀n:Nat,VDs K m H (Zx n d).flatten (Zx n v).flatten
 |0=>by rw[XW,XW,Wg,Wg,VDs]
 |n+1=>by rw[Yg,Yg,Yv,Yv];exact h.append (wL h n)
def Ek:OpR X (VG .Mult) (rS X.K su):=by
 refine OpR.imp (OpR.or Jk IY) λx y H Q h=>?_;obtain⟨m,S,a,b,d,C,R,v,vb,e,q⟩:=h;cases a with
 |int i=>
  cases b with
  |int j=>
   simp only[su] at e;split at e
   ·rename_i f;cases e;simp only[hU,YT,bAE,decide_eq_true_eq] at f;exact .inr ⟨i,j,v.ints,vb.ints,f,q m H _ (Aft.refl R) bh⟩
   ·cases e
  |_=>simp[su] at e
 |ref n=>
  cases b with
  |int k=>
   simp only[su] at e;split at e
   ·rename_i I p;split at e
    ·rename_i f;cases e;obtain⟨l,z,u,B,vd⟩:=R.lst p;obtain⟨L,c,E⟩:=v.refs;rw[u] at c;cases c;exact .inl ⟨l,k,z,E,vb.ints,B,by lia,by lia,by rw[Uh,<-vd.length];lia,kQ R (wL vd k.toNat) q⟩
    ·cases e
   ·cases e
  |_=>simp[su] at e
 |_=>cases b <;> simp[su] at e
def AH:OpR X (VG .FloorDiv) (rI (λ_ j=>0 < j/\j < 1298074214633706907132624082305024) λi j=>.int (i / j)):=opI λi j _ _ _ _ _ h q=>by
 have d:(0:Int) < j:=h.1;have c:j < 1298074214633706907132624082305024:=h.2
 exact floordiv_int (by lia) (by rw[Int.fdiv_eq_ediv_of_nonneg i (by lia)];exact q) (.inl (PyProof.noPylong_of_log2 (by
  have b:j.natAbs ≠ 0:=by lia
  have:j.natAbs.log2 < 110:=(Nat.log2_lt b).mpr (by lia)
  lia)))
def El(o:BOp):OpR X (VG o.op) (rS X.K (bL o)):=by
 cases o with
 |add=>exact Ej
 |sub=>
  refine gL (C:=λ_ _=>True) (g:=λi j=>i - j) (OpR.imp IX λx y H Q ⟨i,j,a,b,_,q⟩=>⟨i,j,a,b,q⟩) λa b S d c e=>?_;cases a <;> cases b <;> simp[bL,N7] at e;exact⟨_,_,rfl,rfl,trivial,e.1.symm,e.2.symm⟩
 |mul=>exact Ek
 |mod=>
  refine gL IZ λa b S d c e=>?_;cases a <;> cases b <;> simp[bL,JA] at e;rename_i i j;exact⟨i,j,rfl,rfl,e.1,e.2.1.symm,e.2.2.symm⟩
 |fdiv=>
  refine gL AH λa b S d c e=>?_;cases a <;> cases b <;> simp[bL,AG] at e;rename_i i j;exact⟨i,j,rfl,rfl,e.1,e.2.1.symm,e.2.2.symm⟩
 |pow=>
  refine gL I0 λa b S d c e=>?_;cases a <;> cases b <;> simp[bL,JB] at e;rename_i i j;exact⟨i,j,rfl,rfl,e.1,e.2.1.symm,e.2.2.symm⟩
abbrev yy(p:Int->Int->Bool):D->D->Sto->Option (D × Sto)
 |.int i,.int j,S=>aw (.bl (p i j),S)
 |_,_,_=>aD
abbrev HB:D->Bool
 |.non=>aN
 |_=>aS
abbrev isB(neg:Bool):D->D->Sto->Option (D × Sto)
 |d,.non,S=>aw (.bl (neg != HB d),S)
 |.bl a,.bl b,S=>aw (.bl (neg != (a == b)),S)
 |_,_,_=>aD
abbrev cB:D->Bool
 |.non=>aN |.bl _=>aN |.int _=>aN |.str _=>aN |_=>aS
abbrev eqF:D->D->Bool
 |.non,.non=>aN
 |.bl a,.bl b=>a == b
 |.bl a,.int b=>(if a then 1 else 0) == b
 |.int a,.bl b=>a == (if b then 1 else 0)
 |.int a,.int b=>a == b
 |.str a,.str b=>a == b
 |_,_=>aS
abbrev inF(x:D)(d:List D):Bool:=d.any λy=>eqF y x
abbrev inD(x:D)(d:List D)(S:Sto):Option Bool:=if (d.all λy=>(eqD 58 S y x).isSome)=aN then aw (d.any λy=>eqD 58 S y x == aw aN) else aD
abbrev inS(neg:Bool)(x y:D)(S:Sto):Option (D × Sto):=match ao y S with
 |some (_,ds)=>if cB x=aN/\ds.all cB=aN then aw (.bl (neg != inF x ds),S) else (inD x ds S).map λb=>(.bl (neg != b),S)
 |none=>inK neg x y S
inductive COp where |eq |ne |lt |le |gt |ge |is |isnot |isin |notin
abbrev ak:COp->D->D->Sto->Option (D × Sto)
 |.eq=>eqS |.ne=>neS
 |.lt=>yy λi j=>decide (i < j) |.le=>yy λi j=>decide (i<=j) |.gt=>yy λi j=>decide (j < i) |.ge=>yy λi j=>decide (j<=i)
 |.is=>isB aS |.isnot=>isB aN |.isin=>inS aS |.notin=>inS aN
abbrev COp.op:COp->CmpOp
 |.eq=>.Eq |.ne=>.NotEq |.lt=>.Lt |.le=>.LtE |.gt=>.Gt |.ge=>.GtE |.is=>.Is |.isnot=>.IsNot |.isin=>.In |.notin=>.NotIn
def eS(ho:OpR X (VQ op) (rI0 λi j=>.bl (p i j))):OpR X (VQ op) (rS X.K (yy p)):=by
 refine OpR.imp ho λx y H Q h=>?_;obtain⟨m,S,a,b,d,c,R,v,vb,e,q⟩:=h;cases a <;> cases b <;> simp[yy] at e;obtain⟨rfl,rfl⟩:=e;exact⟨_,_,v.ints,vb.ints,q m H _ (Aft.refl R) bD⟩
def kU(h:VD K m H x v)(f:cB x=aN):dW v=aN:=by
 cases x <;> simp[cB] at f
 ·cases h.nons;rfl
 ·cases h.bls;rfl
 ·cases h.ints;rfl
 ·cases h.strs;rfl
def AI(h:VD K m H x v)(f:cB x=aN)(h':VD K m H y w)(b:cB y=aN):eqV v w=eqF x y:=by
 cases x <;> simp[cB] at f <;> cases y <;> simp[cB] at b <;> simp[VD] at h h' <;> subst h <;> subst h' <;> rfl
def iZ:∀ {b:List D} {v:List V},VDs K m H b v->b.all cB=aN->v.all dW=aN
 |[],v,h,_=>by rw[VDs] at h;rw[h];rfl
 |d::b,v,h,f=>by
  rw[VDs] at h;obtain⟨x,r,rfl,p,q⟩:=h;rw[Yr,bAE] at f;rw[Yr,kU p f.1,iZ q f.2];rfl
def uG(h:VD K m H x v)(f:cB x=aN):∀ {c:List D} {b:List V},VDs K m H c b->c.all cB=aN->inV v b=inF x c
 |[],b,h,_=>by rw[VDs] at h;rw[h];rfl
 |d::c,b,h',f'=>by
  rw[VDs] at h';obtain⟨y,r,rfl,p,q⟩:=h';rw[Yr,bAE] at f';have I:=uG h f q f'.2;unfold inV inF at I ⊢;rw[YI,YI,AI p f'.1 h f,I]
def oM(h:VD K m H x v)(f:cB x=aN):∀ {c:List D} {b:List V},VDs K m H c b->c.all cB=aN->(b.countP λz=>eqV z v)=c.countP λz=>eqF z x
 |[],b,h,_=>by rw[VDs] at h;rw[h];rfl
 |d::c,b,h',f'=>by
  rw[VDs] at h';obtain⟨y,r,rfl,p,q⟩:=h';rw[Yr,bAE] at f';rw[Y8,Y8,AI p f'.1 h f,oM h f q f'.2]
def iq(h:SqB K T H a vs):SqL K H a vs\/SqT K H a vs:=by
 cases T with
 |false=>exact .inl h
 |true=>exact .inr (.of h)
def qt(I:Inv X Q σ H s)(R:Rel X.K m S H)(T:VD X.K m H x v)(O:aJ v u)(J:A.units+58 < cLine)(vd:VDs X.K m H q Z)(r:aO Z its)(h:inD x q S=aw b) :
  ∃e:Value->Bool,(∀w ∈ its,Vb A s w u (e w))/\its.any e=b:=by
 unfold inD at h;split at h
 ·rename_i hs;cases h;rw[Yk] at hs
  have at_:∀ (i:Nat) w,its[i]?=aw w->∃y f,q[i]?=aw y/\VD X.K m H y f/\aJ f w:=λi w d=>by
   have hi:=(Zb.mp d).1;obtain⟨y,f,E,B,n⟩:=qm vd r (j:=i) (by simpa using hi);refine⟨y,f,E,B,?_⟩
   have:its.toArray[i]=w:=by
    have:=(Zb.mp d).2
    simpa using this
   rw[<-this];exact n
  refine⟨λw=>@decide (∃ (i:Nat) (y:D),q[i]?=aw y/\its[i]?=aw w/\eqD 58 S y x=aw aN) (Classical.propDecidable _),λw d=>?_,?_⟩
  ·obtain⟨i,hi⟩:=ZZ d;dsimp only;by_cases p:∃ (i:Nat) (y:D),q[i]?=aw y/\its[i]?=aw w/\eqD 58 S y x=aw aN
   ·rw[@decide_eq_true _ (Classical.propDecidable _) p];obtain⟨j,y,E,B,n⟩:=p;obtain⟨y',f,k,C,z⟩:=at_ j w B;rw[E] at k;cases k;exact qo I R 58 A y x f v w u aN C T z O n J
   ·rw[@decide_eq_false _ (Classical.propDecidable _) p];obtain⟨y,f,k,C,z⟩:=at_ i w hi;obtain⟨c,L⟩:=Z9.mp (hs y (Zc k));cases c with
    |true=>exact absurd ⟨i,y,k,hi,L⟩ p
    |false=>exact qo I R 58 A y x f v w u aS C T z O L J
  ·rw[YS,Y7,Y7];constructor
   ·rintro⟨w,_,d⟩;obtain⟨i,y,E,_,n⟩:=@of_decide_eq_true _ (Classical.propDecidable _) d;exact⟨y,Zc E,by rw[n];rfl⟩
   ·rintro⟨y,Y,e⟩;obtain⟨i,hi⟩:=ZZ Y;obtain⟨f,U,_⟩:=vd.get hi;obtain⟨w,d,_⟩:=r.get U;exact⟨w,Zc d,@decide_eq_true _ (Classical.propDecidable _) ⟨i,y,hi,d,by simpa using e⟩⟩
 ·cases h
def JC(hu:X.A.units+64 < cLine):OpR X (VQ .In) (rS X.K (inS aS)):=by
 intro z s σ H x y v u Q I E T h;obtain⟨m,S,a,b,d,S',R,B,vb,e,q⟩:=h;unfold inS at e;split at e
 ·rename_i tu U hi;obtain⟨p,vs,rfl,Y,j⟩:=ei R vb hi;split at e
  ·rename_i C;cases e;refine yi z s σ H x _ v u Q I E T ⟨p,vs,rfl,iq Y,kU B C.1,iZ j C.2,q m H _ (Aft.refl R) ?_⟩;rw[if_neg (by decide),uG B C.1 j C.2]
   simpa using bD
  ·cases hd:inD a U S with
   |none=>rw[hd] at e;cases e
   |some c=>
    rw[hd] at e;cases e;cases T;have Z:X.A.in1.units+58 < cLine:=by show X.A.units+1+58 < cLine;lia
    rcases iq Y with hq |hq
    ·obtain⟨f,r,J,hz⟩:=I.list hq;obtain⟨e,O,hb⟩:=qt I R B E Z j r hd;refine Vf e J.isList (λw L=>O w (by simpa using L)) ⟨.bl _,H,I,rfl,?_⟩;rw[show f.toArray.any e=f.any e by simp,hb];exact q m H _ (Aft.refl R) (by simpa using bD)
    ·obtain⟨f,r,J,hz⟩:=I.tuple hq;obtain⟨e,O,hb⟩:=qt I R B E Z j r hd;refine Vg e J (λw L=>O w (by simpa using L)) ⟨.bl _,H,I,rfl,?_⟩;rw[show f.toArray.any e=f.any e by simp,hb];exact q m H _ (Aft.refl R) (by simpa using bD)
 ·obtain⟨k,n,kss,U,hk,rfl,hn,rfl,rfl⟩:=sr e;obtain⟨a,b,rfl,rfl,o,g,ho,_⟩:=qq (y:=.ref n) R hk hn B vb;cases T;refine QI (show X.A.units+2 < cLine by lia) I g E λs' I'=>⟨.bl _,H,I',rfl,?_⟩;rw[ho];exact q m H _ (Aft.refl R) (by simpa using bD)
def yz(hu:X.A.units+64 < cLine):OpR X (VQ .NotIn) (rS X.K (inS aN)):=by
 intro z s σ H x y v u Q I E T h;obtain⟨m,S,a,b,d,S',R,B,vb,e,q⟩:=h;unfold inS at e;split at e
 ·rename_i tu U hi;obtain⟨p,vs,rfl,Y,j⟩:=ei R vb hi;split at e
  ·rename_i C;cases e;refine qd z s σ H x _ v u Q I E T ⟨p,vs,rfl,iq Y,kU B C.1,iZ j C.2,q m H _ (Aft.refl R) ?_⟩;rw[if_pos rfl,uG B C.1 j C.2]
   simpa using bD
  ·cases hd:inD a U S with
   |none=>rw[hd] at e;cases e
   |some c=>
    rw[hd] at e;cases e;cases T;have Z:X.A.in1.units+58 < cLine:=by show X.A.units+1+58 < cLine;lia
    rcases iq Y with hq |hq
    ·obtain⟨f,r,J,hz⟩:=I.list hq;obtain⟨e,O,hb⟩:=qt I R B E Z j r hd;refine Vh e J.isList (λw L=>O w (by simpa using L)) ⟨.bl _,H,I,rfl,?_⟩;rw[show f.toArray.any e=f.any e by simp,hb];exact q m H _ (Aft.refl R) (by simpa using bD)
    ·obtain⟨f,r,J,hz⟩:=I.tuple hq;obtain⟨e,O,hb⟩:=qt I R B E Z j r hd;refine Vi e J (λw L=>O w (by simpa using L)) ⟨.bl _,H,I,rfl,?_⟩;rw[show f.toArray.any e=f.any e by simp,hb];exact q m H _ (Aft.refl R) (by simpa using bD)
 ·obtain⟨k,n,kss,U,hk,rfl,hn,rfl,rfl⟩:=sr e;obtain⟨a,b,rfl,rfl,o,g,ho,_⟩:=qq (y:=.ref n) R hk hn B vb;cases T;refine D8 (show X.A.units+2 < cLine by lia) I g E λs' I'=>⟨.bl _,H,I',rfl,?_⟩;rw[ho];exact q m H _ (Aft.refl R) (by simpa using bD)
def AJ(h:VD K m H d v):decide (v=V.non)=HB d:=by
 cases d with
 |non=>cases h.nons;rfl
 |bl _=>cases h.bls;rfl
 |int _=>cases h.ints;rfl
 |str _=>cases h.strs;rfl
 |tup _=>obtain⟨_,_,e,_⟩:=h.tups;subst e;rfl
 |ref _=>obtain⟨_,_,e⟩:=h.refs;subst e;rfl
def JD:OpR X (VQ .Is) (rS X.K (isB aS)):=by
 refine OpR.imp (OpR.or I8 Jm) λx y H Q h=>?_;obtain⟨m,S,a,b,d,c,R,v,vb,e,q⟩:=h;cases b with
 |non=>
  simp[isB] at e;obtain⟨rfl,rfl⟩:=e;exact .inl ⟨vb.nons,q m H _ (Aft.refl R) (by rw[AJ v];exact bD)⟩
 |bl j=>
  cases a with
  |bl i=>
   simp[isB] at e;obtain⟨rfl,rfl⟩:=e;exact .inr ⟨i,j,v.bls,vb.bls,q m H _ (Aft.refl R) bD⟩
  |_=>simp[isB] at e
 |_=>cases a <;> simp[isB] at e
def yA:OpR X (VQ .IsNot) (rS X.K (isB aN)):=by
 refine OpR.imp (OpR.or DJ yq) λx y H Q h=>?_;obtain⟨m,S,a,b,d,c,R,v,vb,e,q⟩:=h;cases b with
 |non=>
  simp[isB] at e;obtain⟨rfl,rfl⟩:=e;exact .inl ⟨vb.nons,q m H _ (Aft.refl R) (by rw[AJ v];exact bD)⟩
 |bl j=>
  cases a with
  |bl i=>
   simp[isB] at e;obtain⟨rfl,rfl⟩:=e;exact .inr ⟨i,j,v.bls,vb.bls,q m H _ (Aft.refl R) (by simpa[bne] using bD)⟩
  |_=>simp[isB] at e
 |_=>cases a <;> simp[isB] at e
def gM(h:X.A.units+64 < cLine)(o:COp):OpR X (VQ o.op) (rS X.K (ak o)):=by
 cases o with
 |eq=>exact Jx h
 |ne=>exact Jy h
 |lt=>exact eS NJ
 |le=>exact eS NL
 |gt=>exact eS NM
 |ge=>exact eS NN
 |is=>exact JD
 |isnot=>exact yA
 |isin=>exact JC h
 |notin=>exact yz h
end
section
variable {X:Cx} {K:Vk} {m:List Addr} {H:Hp} {S:Sto}
abbrev ixS(d i:D)(S:Sto):Option (D × Sto):=match i with
 | .int k=>(match d with
  |.str z=>if z.length<=100000 then (atI z.cps.toList k).map λc=>(.str ⟨#[c]⟩,S) else aD
  | d=>(match ao d S with
   |some (_,ds)=>(atI ds k).map λx=>(x,S)
   | none=>aD))
 |i=>ixK d i S
def JE{k:Int}(h:VDs K m H b c)(e:atI b k=aw d):∃v,atI c k=aw v/\VD K m H d v:=by
 unfold atI at e ⊢;rw[<-h.length];cases hi:ixN b.length k with
 |none=>rw[hi] at e;cases e
 |some j=>
  rw[hi] at e;exact h.get e
def AK{k:Int}(c:SqB K tu H a b)(vd:VDs K m H h b)(e:atI h k=aw d)(q:∀v,VD K m H d v->Q v H):rIx K (.ref a) (.int k) H Q:=by
 obtain⟨v,E,f⟩:=JE vd e;cases tu with
 |false=>exact .inl ⟨a,b,k,v,rfl,rfl,c,E,q v f⟩
 |true=>exact .inr (.inl ⟨a,b,k,v,rfl,rfl,.of c,E,q v f⟩)
def QJ(hu:X.A.units+64 < cLine):IxR X (rS X.K ixS):=by
 intro f j B s σ H x y v u Q I Z ry h hs;obtain⟨m,S,a,b,d,U,R,L,vb,e,q⟩:=h
 have C:ixK a b S=aw (d,U)->wpAny (model X.prog X.w) X.A (subscriptTail f j v u) (EP X B σ Q) X.xe s:=λe=>by
  obtain⟨k,n,kss,Y,hk,rfl,hn,hd,rfl⟩:=AC e;obtain⟨a',b',rfl,rfl,o,g,ho,hv⟩:=qq (y:=.ref n) R hk hn vb L;obtain⟨w,rfl,vw⟩:=hv d hd;cases Z;cases ry;exact tail_any (rT I g) PySem.F.slot_dict_getitem.lookup (yr (show X.A.units+2 < cLine by lia) I g rfl λw' s' I' J=>⟨w,H,I',J,q m H _ (Aft.refl R) vw⟩) hs
 cases b with
 |int k=>
  refine z8 f j B s σ H x y v u Q I Z ry ?_ hs;cases vb.ints
  have main:∀r,ao a S=aw r->(atI r.2 k).map (λx=>(x,S))=aw (d,U)->rIx X.K x (.int k) H Q:=by
   intro r hi e;cases O:atI r.2 k with
   |none=>rw[O] at e;cases e
   |some z=>
    rw[O] at e;cases e;obtain⟨p,vs,rfl,sq,T⟩:=ei (tu:=r.1) (ds:=r.2) R L hi;exact AK sq T O λv vv=>q m H v (Aft.refl R) vv
  cases a with
  |str z=>
   simp only[ixS] at e;split at e
   ·rename_i hl;cases E:atI z.cps.toList k with
    |none=>rw[E] at e;cases e
    |some c=>
     rw[E] at e;cases e;exact .inr (.inr ⟨z,k,c,L.strs,rfl,by rw[Uh];lia,E,q m H _ (Aft.refl R) uE⟩)
   ·cases e
  |tup Y=>exact main (aN,Y) rfl e
  |ref n=>
   simp only[ixS] at e;cases hi:ao (.ref n) S with
   |none=>rw[hi] at e;cases e
   |some r=>rw[hi] at e;exact main r hi e
  |_=>simp[ixS,ao] at e
 |_=>exact C e
abbrev uH(x:XA)(y:XE):XE:=λb S=>bnd (x b S) λh f=>bnd (y b f) λi c=>match i with
 |.int k=>(atI h k).map λd=>(d,c)
 |_=>aD
def JF(h:tE K (uH x y) Y H Q):tOp (rIx K) (eP K x) (tE K y) Y H Q:=by
 obtain⟨m,u,S,d,S',E,R,e,q⟩:=h;obtain⟨n,p,B,e⟩:=ae e;obtain⟨i,J,U,e⟩:=ae e;refine⟨m,u,S,n,p,E,R,B,λm1 H1 a L b T O Z n3 vd=>⟨m1,u,p,i,J,E.mono R b.ext,b.rel,U,λI j w c vb=>?_⟩⟩;cases i with
 |int k=>
  cases vb.ints;dsimp only at e;cases f:atI n k with
  |none=>rw[f] at e;cases e
  |some z=>
   rw[f] at e;cases e;exact AK (tu:=false) (show SqL K j a L from SqL.of (c.ext.keep _ _ T O)) (vd.mono b.rel c.ext) f λv C=>q I j v (b.trans c) C
 |_=>cases e
abbrev dY(d:List D)(lo hi:Option Int):List D:=(d.drop (HT.sIx d.length 0 lo)).take (HT.sIx d.length d.length hi - HT.sIx d.length 0 lo)
def uI(h:VDs K m H d v)(lo hi:Option Int):VDs K m H (dY d lo hi) (lW v lo hi):=by
 unfold dY lW;rw[<-h.length];exact(h.drop _).take _
abbrev slS(lo hi:Option Int)(d:D)(S:Sto):Option (D × Sto):=match d with
 |.tup b=>aw (.tup (dY b lo hi),S)
 | .ref n=>(match au S n with
  |some b=>aw (.ref S.length,S++[.lst (dY b lo hi)])
  | none=>aD)
 |_=>aD
abbrev rSl(K:Vk):V->Option Int->Option Int->Hp->VK->Prop:=λv lo hi H Q=>∃m S a d b,Rel K m S H/\VD K m H a v/\slS lo hi a S=aw (d,b)/\∀c h u,Aft K m H b c h->VD K c h d u->Q u h
def uJ{vs:List V}{lo hi:Option Int}(h:HT.sIx vs.length 0 lo=0/\HT.sIx vs.length vs.length hi=vs.length):lW vs lo hi=vs:=by
 unfold lW;rw[h.1,h.2];simp
def QK:SlR X (rSl X.K):=by
 intro f s U H x v B O lo hi sl Q I T hs z E h;refine(SlR.or D7 DV) f s U H x v B O lo hi sl Q I T hs z E ?_;obtain⟨m,S,a,d,Z,R,y,e,q⟩:=h;cases a with
 |tup L=>
  cases e;obtain⟨p,k,rfl,j,b⟩:=y.tups;refine .inl ⟨p,k,rfl,.of j,λJ=>?_,λ_=>iY R (uI b lo hi) q⟩;have:=uI b lo hi;rw[uJ J] at this;exact q m H _ (Aft.refl R) (ql j this)
 |ref n=>
  simp only[slS] at e;cases u:au S n with
  |none=>rw[u] at e;cases e
  |some L=>
   rw[u] at e;cases e;obtain⟨p,k,C,j,b⟩:=R.seq u;obtain⟨Y,c,rfl⟩:=y.refs;rw[C] at c;cases c;exact .inr ⟨p,k,rfl,j,kQ R (uI b lo hi) q⟩
 |_=>cases e
@[inline]abbrev XO:=Rho->Sto->Option (Option Int × Sto)
abbrev tOI(K:Vk)(x:XO):TO:=λd H Q=>∃m c S o b,EnvR K m H c d/\Rel K m S H/\x c S=aw (o,b)/\∀f h,Aft K m H b f h->Q o h
abbrev uK:XO:=λ_ S=>aw (aD,S)
abbrev uL(x:XE):XO:=λb S=>bnd (x b S) λd c=>match d with
 |.int i=>aw (aw i,c)
 |_=>aD
def Em(h:tOI K uK b H Q):ww b H Q:=by
 obtain⟨m,d,S,o,c,E,R,e,q⟩:=h;cases e;exact q m H (Aft.refl R)
def En(h:tOI K (uL x) b H Q):Hv (tE K x) b H Q:=by
 obtain⟨m,j,S,o,p,E,R,e,q⟩:=h;obtain⟨d,f,c,e⟩:=ae e;refine⟨m,j,S,d,f,E,R,c,λm1 n v k vd=>?_⟩;cases d with
 |int i=>cases e;exact⟨i,vd.ints,q m1 n k⟩
 |_=>cases e
def PO.imp(h:PO X e t)(f:∀b H Q,t' b H Q->t b H Q):PO X e t':=λp s b H Q I q=>h p s b H Q I (f b H Q q)
abbrev xSl(x:XE)(lo hi:XO):XE:=λb S=>bnd (x b S) λd f=>bnd (lo b f) λl c=>bnd (hi b c) λh j=>slS l h d j
def N8{x:XE}{lo hi:XO}{n:L2.St}{H:Hp}{Q:VK}(h:tE K (xSl x lo hi) n H Q):tSl (rSl K) (tE K x) (tOI K lo) (tOI K hi) n H Q:=by
 obtain⟨m,j,S,d,I,E,R,e,q⟩:=h;obtain⟨a,p,z,e⟩:=ae e;obtain⟨l,k,O,e⟩:=ae e;obtain⟨u,y,U,e⟩:=ae e;refine⟨m,j,S,a,p,E,R,z,λm1 Y v b vd=>⟨m1,j,p,l,k,E.mono R b.ext,b.rel,O,λC Z c=>⟨C,j,k,u,y,E.mono R (b.trans c).ext,c.rel,U,λJ H3 f=>?_⟩⟩⟩;exact⟨J,y,a,d,I,f.rel,vd.mono b.rel (c.trans f).ext,e,λm4 B w T L=>q m4 B w (((b.trans c).trans f).trans T) L⟩
abbrev mi(d:D)(S:Sto):Option (Bool × Sto):=match d with
 |.non=>aw (aS,S)
 |.bl b=>aw (b,S)
 |.int i=>aw (i != 0,S)
 |.str y=>if y.length<=100000 then aw ((y.length:Int) != 0,S) else aD
 |.tup c=>aw (!c.isEmpty,S)
 | .ref n=>(match au S n with
  |some c=>aw (!c.isEmpty,S)
  | none=>aD)
def mj(h:VDs K m H d v):d.isEmpty=v.isEmpty:=by
 have:=h.length;cases d <;> cases v <;> simp at this ⊢
def JG(R:Rel K m S H)(vd:VD K m H d v)(e:mi d S=aw (b,q)):q=S/\DN K v H b:=by
 cases d with
 |non=>cases e;cases vd.nons;exact⟨rfl,rfl⟩
 |bl _=>cases e;cases vd.bls;exact⟨rfl,rfl⟩
 |int _=>cases e;cases vd.ints;exact⟨rfl,rfl⟩
 |str y=>
  simp only[mi] at e;split at e
  ·rename_i B;cases e;cases vd.strs;exact⟨rfl,by rw[Uh];lia,rfl⟩
  ·cases e
 |tup z=>
  cases e;obtain⟨a,f,rfl,j,c⟩:=vd.tups;exact⟨rfl,.inr (.inl ⟨f,.of j,by rw[mj c]⟩)⟩
 |ref n=>
  simp only[mi] at e;cases k:au S n with
  |none=>rw[k] at e;cases e
  |some z=>
   rw[k] at e;cases e;obtain⟨p,f,u,j,c⟩:=R.seq k;obtain⟨C,h,rfl⟩:=vd.refs;rw[u] at h;cases h;exact⟨rfl,.inl ⟨f,j,by rw[mj c]⟩⟩
abbrev Eo(x:XE):XT:=λb S=>bnd (x b S) λd c=>mi d c
def JH(h:tT K (Eo x) f H Q):(tE K x) f H λv H'=>∃k,DN K v H' k/\Q k H':=by
 obtain⟨m,p,S,b,y,E,R,e,q⟩:=h;obtain⟨d,n,j,e⟩:=ae e;refine⟨m,p,S,d,n,E,R,j,λm1 u v c vd=>?_⟩;obtain⟨rfl,t⟩:=JG c.rel vd e;exact⟨b,t,q m1 u c⟩
abbrev xB(x:XE):XT:=λc S=>bnd (x c S) λd f=>match d with
 |.bl b=>aw (b,f)
 |_=>aD
def N9(h:tT K (xB x) c H Q):(tE K x) c H λv H'=>∃k,v = .bl k/\Q k H':=by
 obtain⟨m,n,S,b,y,E,R,e,q⟩:=h;obtain⟨d,j,f,e⟩:=ae e;refine⟨m,n,S,d,j,E,R,f,λm1 u v p vd=>?_⟩;cases d with
 |bl k=>cases e;exact⟨b,vd.bls,q m1 u p⟩
 |_=>cases e
abbrev cb(_:Bool)(d:List D)(S:Sto):Option (D × Sto):=aw (.int d.length,S)
abbrev cL(_:Bool)(d:List D)(S:Sto):Option (D × Sto):=aw (.tup d,S)
abbrev yB:D->Bool
 |.bl _=>aN
 |_=>aS
abbrev n5:D->Bool
 |.bl b=>b
 |_=>aS
abbrev kN(T:Bool)(d:List D)(S:Sto):Option (D × Sto):=if T=aS/\d.all yB=aN then aw (.bl (d.all n5),S) else aD
abbrev n6(T:Bool)(d:List D)(S:Sto):Option (D × Sto):=if T=aS/\d.all yB=aN then aw (.bl (d.any n5),S) else aD
abbrev r1(r:V->Hp->VK->Prop):List V->Hp->VK->Prop
 |[x],H,Q=>r x H Q
 |_,_,_=>False
def bW(h:r1 r b H Q):∃x,b=[x]/\r x H Q:=by
 match b,h with
 |[x],h=>exact⟨x,rfl,h⟩
def yC:aR X (.builtin "len") (r1 (rSq X.K cb)):=by
 refine aR.imp qe λc H Q h=>?_;obtain⟨_,rfl,m,S,T,j,a,v,d,f,R,rfl,b,vd,e,q⟩:=bW h;cases e;exact⟨a,v,rfl,iq b,q m H _ (Aft.refl R) (by rw[vd.length];exact bh)⟩
def yD:aR X (.type "tuple") (r1 (rSq X.K cL)):=by
 refine aR.imp nX λc H Q h=>?_;obtain⟨_,rfl,m,S,T,j,a,v,d,f,R,rfl,b,vd,e,q⟩:=bW h;cases e;cases T with
 |false=>exact⟨a,v,rfl,.inl ⟨b,iY R vd q⟩⟩
 |true=>exact⟨a,v,rfl,.inr ⟨.of b,q m H _ (Aft.refl R) (ql b vd)⟩⟩
def uM:∀ {c:List D} {v:List V},VDs K m H c v->c.all yB=aN->v=(c.map n5).map V.bl
 |[],v,h,_=>by rw[VDs] at h;rw[h];rfl
 |d::c,v,h,f=>by
  rw[VDs] at h;obtain⟨x,r,rfl,p,q⟩:=h;rw[Yr,bAE] at f;cases d with
  |bl b=>rw[p.bls,uM q f.2];rfl
  |_=>simp[yB] at f
def JI(d:List D):(d.map n5).all id=d.all n5:=by rw[YX];rfl
def JJ(d:List D):(d.map n5).any id=d.any n5:=by rw[Wa];rfl
def yE(c:X.calm=aN):aR X (.builtin "all") (r1 (rSq X.K kN)):=by
 refine aR.imp (yo c) λk H Q h=>?_;obtain⟨_,rfl,m,S,T,j,a,v,d,n,R,rfl,f,vd,e,q⟩:=bW h;unfold kN at e;split at e
 ·rename_i b;cases e;obtain⟨rfl,b⟩:=b;refine⟨a,j.map n5,rfl,?_,q m H _ (Aft.refl R) (by rw[JI];exact bD)⟩;rw[<-uM vd b];exact f
 ·cases e
def yF(c:X.calm=aN):aR X (.builtin "any") (r1 (rSq X.K n6)):=by
 refine aR.imp (yp c) λk H Q h=>?_;obtain⟨_,rfl,m,S,T,j,a,v,d,n,R,rfl,f,vd,e,q⟩:=bW h;unfold n6 at e;split at e
 ·rename_i b;cases e;obtain⟨rfl,b⟩:=b;refine⟨a,j.map n5,rfl,?_,q m H _ (Aft.refl R) (by rw[JJ];exact bD)⟩;rw[<-uM vd b];exact f
 ·cases e
abbrev rTm(K:Vk)(f:Bool->List D->Option (List D)):V->Hp->VK->Prop:=λv H Q=>∃m S T k a d E,Rel K m S H/\v = .ref a/\SqB K T H a d/\VDs K m H k d/\f T k=aw E ∧
 ∀c h p j,Aft K m H S c h->h p=aw (.lst j)->p ∉ c->(∀b,b ∈ m->b ≠ p)->H p=aD->VDs K c h E j->Q (.ref p) h
def mm:aR X (.type "list") (r1 (rTm X.K λ_ d=>aw d)):=by
 refine aR.imp qf λc H Q h=>?_;obtain⟨_,rfl,m,S,T,d,a,v,E,R,rfl,b,vd,e,q⟩:=bW h;cases e;exact⟨a,v,rfl,iq b,kS R vd q⟩
abbrev AL:D->D->Sto->Option (D × Sto)
 |.int i,.int j,S=>aw (.int (if j > i then j else i),S)
 |_,_,_=>aD
abbrev AM:D->D->Sto->Option (D × Sto)
 |.int i,.int j,S=>aw (.int (if j < i then j else i),S)
 |_,_,_=>aD
abbrev two(f:D->D->Sto->Option (D × Sto)):List D->Sto->Option (D × Sto)
 |[a,b],S=>f a b S
 |_,_=>aD
def yG(h:VDs K m H [a,b] c):∃v w,c=[v,w]/\VD K m H a v/\VD K m H b w:=by
 rw[VDs] at h;obtain⟨v,r,rfl,p,q⟩:=h;rw[VDs] at q;obtain⟨w,f,rfl,d,Q⟩:=q;rw[VDs] at Q;subst Q;exact⟨v,w,rfl,p,d⟩
def JK(h:VDs K m H [a] b):∃v,b=[v]/\VD K m H a v:=by
 rw[VDs] at h;obtain⟨v,r,rfl,p,q⟩:=h;rw[VDs] at q;subst q;exact⟨v,rfl,p⟩
def sv(h:two f c S=aw r):∃a b,c=[a,b]/\f a b S=aw r:=by
 match c,h with
 |[a,b],h=>exact⟨a,b,rfl,h⟩
def uN(c:X.calm=aN):aR X (.builtin "max") (rSA X.K (two AL)):=by
 refine aR.imp (yc c) λj H Q h=>?_;obtain⟨m,S,n,d,k,R,vd,e,q⟩:=h;obtain⟨a,b,rfl,E⟩:=sv e;obtain⟨v,w,rfl,p,f⟩:=yG vd;cases a <;> cases b <;> simp[AL] at E;obtain⟨rfl,rfl⟩:=E;exact⟨_,_,by rw[p.ints,f.ints],q m H _ (Aft.refl R) bh⟩
def uO(c:X.calm=aN):aR X (.builtin "min") (rSA X.K (two AM)):=by
 refine aR.imp (yd c) λj H Q h=>?_;obtain⟨m,S,n,d,k,R,vd,e,q⟩:=h;obtain⟨a,b,rfl,E⟩:=sv e;obtain⟨v,w,rfl,p,f⟩:=yG vd;cases a <;> cases b <;> simp[AM] at E;obtain⟨rfl,rfl⟩:=E;exact⟨_,_,by rw[p.ints,f.ints],q m H _ (Aft.refl R) bh⟩
inductive Ty where |int |bool |tuple |list |str
abbrev Ty.nm:Ty->String
 |.int => "int" |.bool => "bool" |.tuple => "tuple" |.list => "list" |.str => "str"
abbrev tyN(d:D)(S:Sto):Option String:=match d with
 |.non=>aw "NoneType" |.bl _=>aw "bool" |.int _=>aw "int" |.str _=>aw "str" |.tup _=>aw "tuple"
 | .ref n=>(match S[n]? with
  |some (.lst _)=>aw "list"
  |some (.frz _)=>aw "list"
  |some (.dic _ _)=>aw "dict"
  | none=>aD)
abbrev fS(t:Ty)(n:String):Bool:=n == t.nm || (match t with |.int=>n == "bool" |_=>aS)
abbrev hV(t:Ty)(d:D)(S:Sto):Option (D × Sto):=(tyN d S).map λn=>(.bl (fS t n),S)
def Ep(K:Vk)(t:Ty):(Vu K (.type "NoneType") (.type t.nm)=aw (fS t "NoneType"))/\(Vu K (.type "bool") (.type t.nm)=aw (fS t "bool"))/\(Vu K (.type "int") (.type t.nm)=aw (fS t "int")) ∧
  (Vu K (.type "str") (.type t.nm)=aw (fS t "str"))/\(Vu K (.type "tuple") (.type t.nm)=aw (fS t "tuple"))/\(Vu K (.type "list") (.type t.nm)=aw (fS t "list"))/\(Vu K (.type "dict") (.type t.nm)=aw (fS t "dict")):=by
 cases t <;> exact⟨by kernel_rfl,by kernel_rfl,by kernel_rfl,by kernel_rfl,by kernel_rfl,by kernel_rfl,by kernel_rfl⟩
def Oa(R:Rel K m S H)(vd:VD K m H d v)(e:tyN d S=aw n):TyOf K H v (.type n):=by
 cases d with
 |non=>cases e;cases vd.nons;exact .non
 |bl _=>cases e;cases vd.bls;exact .bl _
 |int _=>cases e;cases vd.ints;exact .int _
 |str _=>cases e;cases vd.strs;exact .str _
 |tup j=>cases e;obtain⟨a,c,rfl,q,_⟩:=vd.tups;exact .tup q
 |ref k=>
  simp only[tyN] at e;obtain⟨a,p,rfl⟩:=vd.refs;cases f:S[k]? with
  |none=>rw[f] at e;cases e
  |some o=>
   rw[f] at e;obtain⟨y,b,r⟩:=R.ob k o f;rw[p] at b;cases b;cases o with
   |lst j=>cases e;obtain⟨c,h,_⟩:=r;exact .lst h
   |frz j=>cases e;obtain⟨o,c,h,_⟩:=r;exact .frz h
   |dic u j=>cases e;obtain⟨c,h,_⟩:=r;exact .dT h
def AN(e:tyN d S=aw n):n = "NoneType"\/n = "bool"\/n = "int"\/n = "str"\/n = "tuple"\/n = "list"\/n = "dict" := by
 cases d with
 |ref k=>
  simp only[tyN] at e;cases h:S[k]? with
  |none=>rw[h] at e;cases e
  |some o=>rw[h] at e;cases o <;> cases e <;> simp
 |_=>cases e <;> simp
def JL(K:Vk)(t:Ty)(h:n = "NoneType"\/n = "bool"\/n = "int"\/n = "str"\/n = "tuple"\/n = "list"\/n = "dict"):Vu K (.type n) (.type t.nm)=aw (fS t n):=by
 obtain⟨a,b,c,d,e,f,g⟩:=Ep K t;rcases h with rfl |rfl |rfl |rfl |rfl |rfl |rfl <;> assumption
abbrev Oc(K:Vk)(t:Ty)(T:TE):TE:=tCB (HA K) (cf T (cf (tC (.ty t.nm)) jy))
def Er(h:tE K (xUn (hV t) x) j H Q):Oc K t (tE K x) j H Q:=by
 obtain⟨m,u,S,d,z,E,R,e,q⟩:=h;obtain⟨a,c,k,e⟩:=ae e;refine⟨m,u,S,a,c,E,R,k,λm1 y v f p=>?_⟩;unfold hV at e;cases b:tyN a c with
 |none=>rw[b] at e;cases e
 |some n=>
  rw[b] at e;cases e;exact⟨v,t.nm,_,_,rfl,Oa f.rel p b,JL K t (AN b),q m1 y _ f bD⟩
end
end Ev
namespace HT
open PySem PySem.Spec PyProof.Rows
section
variable {prog:Program} {w:World} {A:Around} {E:Value->Shared->Prop} {s:Shared}
def jF{sl:Addr}{n:Nat}{T:Tok}{Q:Int × Int × Nat->Shared->Prop}(hs:s.heap.IsSliceOf sl .none .none (.int (-1) T))
  (h:Q ((n:Int) - 1,-1,n) s):wpAny (model prog w) A (Builtin.Slice.sliceApplied (.ref sl) (pure (n:Int))) Q E s:=by
 obtain⟨os,c,k,b⟩:=id hs;unfold Builtin.Slice.sliceApplied Builtin.Slice.sliceFields;refine Us (Us (Ux c b (x:=.none) rfl (Us (Ux c b (x:=.none) rfl (Us (Ux c b (x:=.int (-1) T) rfl (UI ?_)))))));refine Us (slicePart_int ?_);show wpAny _ _ (if ((-1:Int) == 0)=aN then _ else _) _ _ s;rw[if_neg (by decide)];refine Us (slicePart_none (Us (slicePart_none (Us (UI ?_)))));show wpAny _ _ (match Builtin.Slice.sliceAdjust aD aD (-1) (n:Int) with |(lo,hi)=>pure (lo,(-1:Int),Builtin.Slice.slicePlaces lo hi (-1))) _ _ s
 have j:Builtin.Slice.sliceAdjust aD aD (-1) (n:Int)=((n:Int) - 1,-1):=by
  unfold Builtin.Slice.sliceAdjust;simp
 rw[j];show wpAny _ _ (pure ((n:Int) - 1,(-1:Int),Builtin.Slice.slicePlaces ((n:Int) - 1) (-1) (-1))) _ _ s
 have d:Builtin.Slice.slicePlaces ((n:Int) - 1) (-1) (-1)=n:=by
  unfold Builtin.Slice.slicePlaces;have f:¬ ((-1:Int) > 0):=by decide
  simp only[f,if_false,show(- -1:Int)=1 from rfl,Wz];split <;> omega
 rw[d];exact UI h
def AO(X:Array Value):((Zk X.size).filterMap λ(m:Nat)=>X[((X.size:Int) - 1+(m:Int) * -1).toNat]?).toArray=X.toList.reverse.toArray:=by
 have e:(Zk X.size).filterMap (λ(m:Nat)=>X[((X.size:Int) - 1+(m:Int) * -1).toNat]?)=((Zk X.size).map λk=>X.size - 1 - k).filterMap (X[·]?):=by
  rw[X3]
  congr 1
  funext m
  show X[((X.size:Int) - 1+(m:Int) * -1).toNat]?=X[X.size - 1 - m]?
  congr 1
  omega
 rw[e,PySem.W.krv_range,List.filterMap_reverse,PySem.W.krv_all]
def i6{t sl:Addr}{I:Array Value}{T:Tok}{Q:Value->Shared->Prop}(c:IsTup s.heap t I)(hs:s.heap.IsSliceOf sl .none .none (.int (-1) T))
  (h:Q (.ref s.heap.objs.size) { s with heap:=s.heap.push { cls:=.type "tuple", data:=.seq I.toList.reverse.toArray } })
  (k:I.size<=sizeLine):wpAny (model prog w) A (getItem (.ref t) (.ref sl)) Q E s:=by
 have b:sizeOk (.seq I.toList.reverse.toArray):=by
  show I.toList.reverse.toArray.size<=sizeLine;rw[Zl,Yq,ZC];exact k
 obtain⟨os,f,j,n⟩:=id hs;have d:s.TypeIs (.ref sl) "slice" := ⟨os,f,j⟩;unfold getItem
 try with_reducible refine UA ?_
 first |refine Us (UI ?_) |skip
 refine Us (US c.typeIs (by decide) ?_)
 refine Us (wpAny_callSpecial?_slot (name:=Str.ofString "__getitem__") c.typeIs WK
  (Uu WK c.typeIs entry_tuple_getitem ?_ (args_tuple_getitem _ _)))
 show wpAny _ _ (Builtin.Tuple.tupleItemsOf (.ref t) >>= _) _ _ s;refine Us (tupleItemsOf_ c ?_);refine Us (UX d ?_);rw[if_pos (by decide)];refine Us (jF hs ?_);show wpAny _ _ (if (((I.size:Int) - 1) == 0 && (-1:Int) == 1 && I.size == I.size)=aN then _ else _) _ _ s;rw[if_neg (by rw[show((-1:Int) == 1)=aS from rfl,Bool.and_false,Xh];exact Zg),AO]
 first
  |exact Us (m:=Builtin.Tuple.tupleExact _) (UF (UI ⟨_,rfl,UI h⟩) b)
  |exact Us (m:=Builtin.Tuple.tupleExact _) (UF (Us (UI (UI ⟨_,rfl,UI h⟩))) b)
  |exact Us (Us (m:=Builtin.Tuple.tupleExact _) (UF (UI (UI ⟨_,rfl,UI h⟩)) b))
  |exact Us (Us (m:=Builtin.Tuple.tupleExact _) (UF (UI ⟨_,rfl,UI h⟩) b))
end
end HT
namespace Ev
open PySem PySem.Spec PyProof.Rows L2
section
variable {X:Cx} {e:Expr} {te:TE} {pos p2 p3 p4:Pos}
def aO.rev:∀ {b:List V} {u:List Value},aO b u->aO b.reverse u.reverse
 |[],_,.nil=>.nil
 |_::_,_,.cons r t=>by rw[YY,YY];exact(aO.rev t).append (.cons r .nil)
def VDs.rev{K:Vk}:∀ {b:List D} {v:List V},VDs K m H b v->VDs K m H b.reverse v.reverse
 |[],v,h=>by rw[VDs] at h;subst h;exact .nil
 |d::b,v,h=>by
  rw[VDs] at h;obtain⟨y,r,rfl,p,q⟩:=h;rw[YY,YY];exact(VDs.rev q).append (.cons p .nil)
abbrev uQ(d:D)(S:Sto):Option (D × Sto):=match d with
 |.tup b=>aw (.tup b.reverse,S)
 | .ref n=>(match au S n with
  |some b=>aw (.ref S.length,S++[.lst b.reverse])
  | none=>aD)
 |_=>aD
def JM{k:Nat}(he:PE X e te):PE X (.Subscript e (.Slice aD aD (aw (.UnaryOp .USub (.Constant (.int 1) k p3) p4)) p2) pos) (tUn (rS1 X.K uQ) te):=by
 intro f s T H Q I h;refine Subscript_ (thn (he f s T H _ I h) λv s1 ⟨x,Z,I1,r1,q1⟩=>?_);refine wpAny_Slice ?_;rw[VU];refine UI (UI ?_);refine thn (wx (wp pY lH) f s1 T Z (λo L=>o=aw (-1)/\L=Z) I1 ⟨_,rfl,_,rfl,rfl,rfl⟩) λvk J ⟨o,L,I2,pk,ho,hH⟩=>?_;subst ho hH;cases pk with
 |int i tk=>
  have y:L2.Inv X f T L { J with heap:=J.heap.push { cls:=.type "slice", data:=.fields #[.none,.none,.int (-1) tk] } }:=I2.kept (t':=J.toks) λb ob q=>Zf _ q;obtain⟨m,S,a,d,S',R,va,E,q⟩:=q1;cases a with
  |tup ds=>
   cases E;obtain⟨p,C,rfl,O,u⟩:=va.tups;cases r1;obtain⟨j,r,ht,z⟩:=y.tuple (.of O);have c:j.toArray.size=C.length:=by rw[Zl];exact r.length.symm
   refine tail_any (ops:=[.ref p,.ref J.heap.objs.size]) ht.typeIs PyProof.Rows.slot_tuple_getitem.lookup (HT.i6 ht (Heap.IsSliceOf.new ..) ?_ (by rw[c];exact z)) (by with_unfolding_all rfl);refine⟨.ref _,_,y.laid (o:=.tup C.reverse) (λb ob q=>Zf _ q) (Ze _) ?_,rfl,iY R (VDs.rev u) q _ (y.hok.fresh (Ze _))⟩;exact⟨by rw[Yq];exact z,_,aO.rev r,pU.new _ _⟩
  |ref n=>
   simp only[uQ] at E;cases U:au S n with
   |none=>rw[U] at E;cases E
   |some ds=>
    rw[U] at E;cases E;obtain⟨p,C,hp,O,u⟩:=R.seq U;obtain⟨p',B,rfl⟩:=va.refs;rw[hp] at B;cases B;cases r1;obtain⟨j,r,Y,z⟩:=y.list O;have c:j.toArray.size=C.length:=by rw[Zl];exact r.length.symm
    refine tail_any (ops:=[.ref p,.ref J.heap.objs.size]) Y.isList.typeIs PySem.slot_list_getitem.lookup (Uz Y.isList (Heap.IsSliceOf.new ..) .none .none (.int (-1) tk) (by decide) ?_ (by rw[c];exact z)) (by with_unfolding_all rfl);rw[PySem.W.krv_pick];refine⟨.ref _,_,y.laid (o:=.lst C.reverse) (λb ob q=>Zf _ q) (Ze _) ?_,rfl,kQ R (VDs.rev u) q _ (y.hok.fresh (Ze _))⟩;exact⟨by rw[Yq];exact z,_,0,aO.rev r,ZA _ rfl⟩
  |_=>cases E
end
end Ev
namespace Ev
open PySem PySem.Spec PyProof.Rows L2
open PySem.W (KasT kas_sort kas_asc kas_desc kas_tail3 kas_descPart kas_count kas_place kas_bin kas_rev kas_ask KatTups)
abbrev eT{b:Type}(lt:Nat->Nat->Bool):KasT b->b
 |.ret a=>a
 |.ask i j k=>eT lt (k (lt i j))
abbrev KT{c:Type}(n:Nat)(P:c->Prop):KasT c->Prop
 |.ret a=>P a
 |.ask i j k=>i < n/\j < n/\∀b,KT n P (k b)
def KT.bind{c p:Type}{n:Nat}{P:c->Prop}{R:p->Prop}{f:c->KasT p}(d:∀a,P a->KT n R (f a)):∀ {t:KasT c},KT n P t->KT n R (t.bind f)
 |.ret a,h=>d a h
 |.ask i j k,h=>⟨h.1,h.2.1,λb=>KT.bind d (h.2.2 b)⟩
def KT.run{b:Type}{n:Nat}{P:b->Prop}{lt:Nat->Nat->Bool}:∀ {t:KasT b},KT n P t->P (eT lt t)
 |.ret a,h=>h
 |.ask i j k,h=>KT.run (t:=k (lt i j)) (h.2.2 (lt i j))
def sx{b:Type}{n:Nat}{P:b->Prop}{lt:Nat->Nat->Bool}{cmp:Nat->Nat->(Bool->Shared->Prop)->Shared->Prop}{s:Shared}(c:∀i j,i < n->j < n->∀C:Bool->Shared->Prop,C (lt i j) s->cmp i j C s){Q:b->Shared->Prop} :
  ∀ {t:KasT b},KT n P t->Q (eT lt t) s->t.kasWp cmp Q s
 |.ret a,_,q=>q
 |.ask i j k,h,q=>c i j h.1 h.2.1 _ (sx c (h.2.2 (lt i j)) q)
abbrev Pm(n:Nat)(p:Array Nat):Prop:=p.Perm (Xw (Zk n))
def Pm.at{n i:Nat}(h:Pm n p)(c:0 < n):p.getD i 0 < n:=by
 by_cases hi:i < p.size
 ·have e:p.getD i 0=p[i]:=by simp[Array.getD,hi]
  rw[e];have b:p[i] ∈ p:=Array.getElem_mem hi;have:=h.mem_iff.mp b
  simpa using this
 ·have e:p.getD i 0=0:=by simp[Array.getD,hi]
  omega
def Pm.rev{n i j:Nat}(h:Pm n p):Pm n (kas_rev p i j):=(mirror_perm p i j _).trans h
def uR{n:Nat}(h:Pm n p)(c:0 < n):∀f m,KT n (λ_=>True) (kas_asc p f m)
 |0,_=>trivial
 | f+1,m=>⟨h.at c,h.at c,λb=>by
  cases b with
  |true=>exact trivial
  | false=>exact uR h c f (m+1)⟩
def kW{n:Nat}(c:0 < n):∀f (p:Array Nat) m q,Pm n p->KT n (λr:Array Nat × Nat × Nat=>Pm n r.1) (kas_desc f p m q)
 |0,p,m,q,h=>h
 | f+1,p,m,q,h=>⟨h.at c,h.at c,λb=>by
  cases b with
  |true=>
   show KT n _ (if q > 0 then kas_desc f (kas_rev p (m - (q+1)) m) (m+1) 0 else kas_desc f p (m+1) 0);split
   ·exact kW c f _ _ _ h.rev
   ·exact kW c f _ _ _ h
  | false=>exact⟨h.at c,h.at c,λd=>by
   cases d with
   |true=>exact h
   | false=>exact kW c f _ _ _ h⟩⟩
def sy{n:Nat}{p:Array Nat}(b:0 < n)(h:Pm n p)(m r:Nat):KT n (λr:Nat × Array Nat=>Pm n r.2) (kas_tail3 m r p):=KT.bind (P:=λ_=>True) (f:=λm=>KasT.ret (m,kas_rev p 0 _)) (λ_ _=>(show KT n (λr:Nat × Array Nat=>Pm n r.2) (KasT.ret (_,kas_rev p 0 _)) from h.rev)) (uR h.rev b _ _)
def kc{n:Nat}{p:Array Nat}(b:0 < n)(h:Pm n p)(m r:Nat):KT n (λr:Nat × Array Nat=>Pm n r.2) (kas_descPart m r p):=KT.bind (λa c=>by
 show KT n _ (if a.2.2 > 0 then _ else _);split
 ·exact sy b (Pm.rev c) _ _
 ·exact sy b c _ _) (kW b _ _ _ _ h)
def AQ{n:Nat}{p:Array Nat}(c:0 < n)(h:Pm n p)(r:Nat):KT n (λr:Nat × Array Nat=>Pm n r.2) (kas_count r p):=KT.bind (λa _=>by
 show KT n _ (if (a == r)=aN then _ else if a > 1 then _ else _);split
 ·exact h
 ·split
  ·exact⟨h.at c,h.at c,λb=>by
    cases b with
    |true=>exact h
    | false=>exact kc c h.rev _ _⟩
  ·exact kc c h _ _) (uR h c _ _)
def mq{n:Nat}{p:Array Nat}(c:0 < n)(h:Pm n p)(m:Nat):∀f l r,KT n (λ_=>True) (kas_place p m f l r)
 |0,_,_=>trivial
 |f+1,l,r=>by
  show KT n _ (if l ≥ r then _ else _);split
  ·exact trivial
  ·exact⟨h.at c,h.at c,λb=>by
    cases b with
    |true=>exact mq c h m f _ _
    | false=>exact mq c h m f _ _⟩
def AR{n:Nat}(b:0 < n):∀f (p:Array Nat) m,Pm n p->KT n (Pm n) (kas_bin f p m)
 |0,p,_,h=>h
 |f+1,p,m,h=>KT.bind (λl _=>AR b f _ _ ((bubble_perm p m _).trans h)) (mq b h m _ _ _)
def qu{n:Nat}(b:0 < n):KT n (Pm n) (kas_sort n):=KT.bind (λr h=>by
 show KT n _ (if r.1 < n then _ else _);split
 ·exact AR b _ _ _ h
 ·exact h) (AQ b (Array.Perm.refl _) n)
section
variable {prog:Program} {w:World} {A:Around} {E:Value->Shared->Prop} {s:Shared}
def qv{a:Addr}{v:List Value}{n:Nat}{P:PySem.Fin->Shared->Prop}(ho:s.heap.get? a=aw (seqObj "list" v.toArray n))(J:v.length < 64)(B:SortKind)(lt:Nat->Nat->Bool)
  (Z:2<=v.length->∀ (Q:SortKind->Shared->Prop),Q B { s with heap:=((s.heap.update a (Obj.mapSeq λ_=>#[])).push (seqObj "tuple" v.toArray 0)).push (seqObj "list" #[] 0) }->wpAny (model prog w) A (keyKind' v.toArray) Q E { s with heap:=((s.heap.update a (Obj.mapSeq λ_=>#[])).push (seqObj "tuple" v.toArray 0)).push (seqObj "list" #[] 0) })
  (T:∀i j,i < v.length->j < v.length->∀C:Bool->Shared->Prop,C (lt i j) { s with heap:=((s.heap.update a (Obj.mapSeq λ_=>#[])).push (seqObj "tuple" v.toArray 0)).push (seqObj "list" #[] 0) } ->
   kas_ask prog w A B v i j C { s with heap:=((s.heap.update a (Obj.mapSeq λ_=>#[])).push (seqObj "tuple" v.toArray 0)).push (seqObj "list" #[] 0) })
  (h:P (.done (.ret .none)) { s with heap:=sortedHeap s.heap a v (if v.length < 2 then v.toArray else Xw ((eT lt (kas_sort v.length)).toList.map λi=>v.getD i Value.none)) }) :
  wpAny (model prog w) A (Builtin.«list.sort» ⟨[.ref a],[]⟩) P E s:=by
 rw[list_sort_plain];have U:a < s.heap.objs.size:=Zt ho;refine Us (listItems_at ho rfl ?_);refine Us (listUpdate_at ho rfl ?_);obtain⟨z,q⟩:∃z,(s.heap.update a (Obj.mapSeq λ_=>#[])).get? a=aw (seqObj "list" #[] z):=⟨_,get?_update_seq ho (λ_=>#[])⟩;refine Us (seqEpoch_at q rfl ?_);refine Us (wpAny_newTuple ?_);refine Us (wpAny_newList ?_);refine UA ?_
 have b:(((s.heap.update a (Obj.mapSeq λ_=>#[])).push (seqObj "tuple" v.toArray 0)).push (seqObj "list" #[] 0)).get? a=aw (seqObj "list" #[] z):=by
  rw[Wb _ _ _ (by rw[size_push',Xs];exact ZI (YZ U)),Wb _ _ _ (by rw[Xs];exact ZI U)];exact q
 show wpAny (model prog w) A _ P E { s with heap:=((s.heap.update a (Obj.mapSeq λ_=>#[])).push (seqObj "tuple" v.toArray 0)).push (seqObj "list" #[] 0) };dsimp only;have I:v.toArray.size=v.length:=by simp
 by_cases k:v.toArray.size < 2
 ·rw[if_pos k,if_pos k];refine Us (UI ?_);rw[StateT.run_pure];refine Us (UI ?_);dsimp only;refine Us (seqEpoch_at b rfl ?_);refine Us (listUpdate_at b rfl ?_ (hsz2:=by rw[Array.size_map];show(pairsOf v).size<=_;rw[pairsOf_size,Uh];omega));simp only[bne_self_eq_false,ZP,if_false];rw[if_pos (by rw[<-I];exact k)] at h
  have e:Array.map (λx:Keyed=>x.2) (v.toArray.zip v.toArray)=v.toArray:=by
   apply Array.toList_inj.mp;rw[Array.toList_map,Array.toList_zip,List.map_snd_zip (by simp)]
  refine UI ?_;show P _ { s with heap:=sortedHeap s.heap a v (Array.map (λx:Keyed=>x.2) (v.toArray.zip v.toArray)) };rw[e];exact h
 ·have d:2<=v.length:=by omega
  rw[if_neg k,if_neg k];rw[if_neg (by omega)] at h;refine Us (Z d _ ?_)
  refine Us (UE (PySem.W.kat_run (κ:=B) (ks:=v) (Q:=λc y=>y={ s with heap:=((s.heap.update a (Obj.mapSeq λ_=>#[])).push (seqObj "tuple" v.toArray 0)).push (seqObj "list" #[] 0) }/\arrOf c=(eT lt (kas_sort v.length)).map (PySem.W.kas_item (v.toArray.zip v.toArray))/\(eT lt (kas_sort v.length)).size=v.length/\failedOf c=aD)
   (G:=λp y=>y={ s with heap:=((s.heap.update a (Obj.mapSeq λ_=>#[])).push (seqObj "tuple" v.toArray 0)).push (seqObj "list" #[] 0) }/\p=eT lt (kas_sort v.length)) rfl d J (λp c y Y a2 a3 L=>⟨L.1,L.2 ▸ a2,L.2 ▸ Y,a3⟩) (sx T (qu (by omega)) ⟨rfl,rfl⟩)) ?_ λ_ _ e=>e)
  rintro⟨⟨⟩,c⟩ y ⟨rfl,O,f,X⟩;dsimp only;have u:=PySem.W.kat_snds rfl O;refine Us (seqEpoch_at b rfl ?_);rw[u];refine Us (listUpdate_at b rfl ?_ (hsz2:=by rw[Zl,Za,ZC,f,Uh];omega));rw[X];simp only[bne_self_eq_false,ZP,if_false];exact UI h
end
section
variable {prog:Program} {w:World} {A:Around} {E:Value->Shared->Prop} {s:Shared}
def yH(y:s.heap.IsList l v.toArray)(u:v.length < 64)(p:SortKind)(lt:Nat->Nat->Bool)
  (B:2<=v.length->∀ (A:Around) (f:Shared),(∀b o,s.heap.get? b=aw o->f.heap.get? b=aw o)->∀ (E:Value->Shared->Prop) (Q:SortKind->Shared->Prop),Q p f->wpAny (model prog w) A (keyKind' v.toArray) Q E f)
  (d:∀ (A:Around) (f:Shared),(∀b o,s.heap.get? b=aw o->f.heap.get? b=aw o)->∀i j,i < v.length->j < v.length->∀C:Bool->Shared->Prop,C (lt i j) f->kas_ask prog w A p v i j C f)
  (h:Q (.ref (s.heap.objs.size+1)) { s with heap:=sortedAll s.heap v (if v.length < 2 then v.toArray else Xw ((eT lt (kas_sort v.length)).toList.map λi=>v.getD i Value.none)) }) :
  wpAny (model prog w) A (call (.builtin "sorted") [.ref l]) Q E s:=by
 refine Calls.call_function_entry kind_sorted plain_sorted entry_sorted (args_sorted1 _) ?_;unfold Builtin.«sorted»;refine Us (m:=checkCount "sorted" 1 1 _) (UI ?_);refine Us (collect_list y ?_);refine Us (wpAny_newList ?_)
 have k:((s.heap.push (seqObj "list" #[] 0)).update s.heap.objs.size (Obj.mapSeq (·++v.toArray))).objs.size=s.heap.objs.size+1:=by
  rw[Xs,size_push']
 have n:(((s.heap.push (seqObj "list" #[] 0)).update s.heap.objs.size (Obj.mapSeq (·++v.toArray))).push (seqObj "list" v.toArray 0)).get? (s.heap.objs.size+1)=aw (seqObj "list" v.toArray 0):=by
  rw[<-k];exact ZA _ rfl
 have keep:∀b o,s.heap.get? b=aw o->(((((s.heap.push (seqObj "list" #[] 0)).update s.heap.objs.size (Obj.mapSeq (·++v.toArray))).push (seqObj "list" v.toArray 0)).update (s.heap.objs.size+1) (Obj.mapSeq λ_=>#[])).push (seqObj "tuple" v.toArray 0)).get? b=aw o:=λb o q=>by
  have d:b < s.heap.objs.size:=Zt q;refine Zf _ ?_;rw[XX _ _ _ _ (ZI (YZ d))];refine Zf _ ?_;rw[XX _ _ _ _ (ZI d)];exact Zf _ q
 show wpAny _ _ _ _ _ { s with heap:=((s.heap.push (seqObj "list" #[] 0)).update s.heap.objs.size (Obj.mapSeq (·++v.toArray))).push (seqObj "list" v.toArray 0) };rw[k];refine Us (UA (Uu slot_list_sort ⟨_,n,rfl⟩ entry_list_sort (qv n u p lt (λJ Q q=>B J _ _ (λb o z=>Zf _ (keep b o z)) _ Q q) (λi j hi I C c=>d _ _ (λb o z=>Zf _ (keep b o z)) i j hi I C c) ⟨_,rfl,?_⟩) (args_list_sort _)));exact UI ⟨_,rfl,h⟩
abbrev uS(x y:Int × Int):Bool:=if x.1 == y.1 then (if x.2 == y.2 then aS else decide (x.2 < y.2)) else decide (x.1 < y.1)
def AS{a b c d:Int}{n k:Nat}(p:s.heap.get? x=aw O)(u:O.data = .seq #[.int a v,.int b q] n)(J:s.heap.get? y=aw B)(z:B.data = .seq #[.int c T,.int d I] k)
  (h:C (uS (a,b) (c,d)) s):wpAny (model prog w) A (keyLt' (tuples' aN) (.ref x) (.ref y)) C E s:=by
 refine PySem.W.kat_lt p u J z ?_;show PySem.W.KatLex prog w A aN _ C [(.int a v,.int c T),(.int b q,.int d I)] 0 s;unfold uS at h;refine Uw ?_;cases j:a == c with
 |true=>
  rw[if_pos rfl];simp only[j,if_true] at h;refine Uw ?_;cases f:b == d with
  |true=>rw[if_pos rfl];simp only[f,if_true] at h;exact h
  |false=>
   rw[if_neg Zg];simp only[f,ZP,if_false] at h;exact PySem.W.kat_one _ _ (lt_int h)
 |false=>
  rw[if_neg Zg];simp only[j,ZP,if_false] at h;exact oneLt_int h
end
end Ev
namespace Ev
open PySem PySem.Spec PyProof.Rows L2
open PySem.W (kas_sort KatTups)
section
variable {X:Cx} {K:Vk} {m:List Addr} {H:Hp} {S:Sto}
inductive PairsV(H:Hp):List V->List (Int × Int)->Prop where
 |nil:PairsV H [] []
 |cons {r:Addr} {x y:Int} {vs:List V} {ps:List (Int × Int)}:H r=aw (.tup [.int x,.int y])->PairsV H vs ps->PairsV H (.ref r::vs) ((x,y)::ps)
abbrev n8(ps:List (Int × Int))(i j:Nat):Bool:=uS (ps.getD i (0,0)) (ps.getD j (0,0))
abbrev cV{α:Type}(ps:List (Int × Int))(d:α)(v:List α):List α:=if v.length < 2 then v else (eT (n8 ps) (kas_sort v.length)).toList.map λi=>v.getD i d
def PairsV.len{v:List V}{ps:List (Int × Int)}(h:PairsV H v ps):v.length=ps.length:=by
 induction h with
 |nil=>rfl
 |cons _ _ I=>simp[I]
abbrev HC(h:Heap)(v:Value)(q:Int × Int):Prop:=∃r o b T n,v = .ref r/\h.get? r=aw o/\o.cls = .type "tuple"/\o.data = .seq #[.int q.1 b,.int q.2 T] n
def PairsV.heap{p:List (Addr × Obj)}{s:Shared}{j:L2.St}(I:Inv X p j H s){v:List V}{ps:List (Int × Int)}(h:PairsV H v ps):∀ {its:List Value},aO v its->∀ (i:Nat),i < its.length->HC s.heap (its.getD i Value.none) (ps.getD i (0,0)):=by
 induction h with
 |nil=>intro its r i hi;cases r;simp at hi
 |@cons r x y v ps hr _ ih=>
  intro its c i hi;cases c with
  |@cons _ u _ us r1 r2=>
   cases i with
   |zero=>
    cases r1;obtain⟨k,f,⟨o,e,d,n,hd⟩,_⟩:=I.tuple (SqT.of (K:=X.K) hr);obtain⟨a,b,rfl,⟨q,rfl⟩,⟨T,rfl⟩⟩:=rH f;exact⟨r,o,q,T,n,rfl,e,d,hd⟩
   |succ i=>
    have:=ih r2 i (by simpa using hi)
    simpa using this
def wM{h:Heap}:∀ {its:List Value} {ps:List (Int × Int)},(∀i,i < its.length->HC h (its.getD i Value.none) (ps.getD i (0,0)))->∃fs:List Value,KatTups h its fs/\fs.length=its.length/\∀v ∈ fs,∃i t,v = .int i t
 |[],_,_=>⟨[],KatTups.nil,rfl,λv d=>by simp at d⟩
 |v::its,ps,hp=>by
  obtain⟨r,o,T,j,n,f,e,c,hd⟩:=hp 0 (by simp)
  obtain⟨fs,k,b,hi⟩:=wM (its:=its) (ps:=ps.tail) λi hi=>by
   have:=hp (i+1) (by simpa using hi);cases ps with
   |nil=>simpa using this
   |cons _ _=>simpa using this
  have E:v = .ref r:=by simpa using f
  subst E
  exact⟨.int (ps.getD 0 (0,0)).1 T::fs,KatTups.cons e c hd rfl k,by simp[b],λw hw=>by
   rcases Zn.mp hw with rfl |hw
   ·exact⟨_,_,rfl⟩
   ·exact hi w hw⟩
def Es(r:aO v its){i:Nat}(hi:i < v.length):aJ (v.getD i .non) (its.getD i Value.none):=by
 obtain⟨u,e,b⟩:=r.get (gEG hi);rw[ZE,ZE,gEG hi,e];exact b
def oO{v:List V}{its:List Value}(r:aO v its):∀ (l:List Nat),(∀i ∈ l,i < v.length)->aO (l.map λi=>v.getD i .non) (l.map λi=>its.getD i Value.none)
 |[],_=>.nil
 |i::l,h=>.cons (Es r (h i Zj)) (oO r l λj b=>h j (Zi _ b))
def ir{n:Nat}{lt:Nat->Nat->Bool}(b:0 < n):(∀i ∈ (eT lt (kas_sort n)).toList,i < n)/\(eT lt (kas_sort n)).toList.length=n:=by
 have h:Pm n (eT lt (kas_sort n)):=(qu b).run;refine⟨λi hi=>?_,?_⟩
 ·have:=h.mem_iff.mp (XJ.mp hi)
  simpa using this
 ·have:=h.size_eq;rw[ZC,this];simp
def uT{b:Type}{ps:List (Int × Int)}{d:b}{v:List b}:(cV ps d v).length=v.length:=by
 unfold cV;split
 ·rfl
 ·rw[Za,(ir (by lia)).2]
def uU:aR X (.builtin "sorted") (λZ H Q=>∃a f ps,Z=[.ref a]/\SqL X.K H a f/\PairsV H f ps/\f.length < 64/\∀p,H p=aD->Q (.ref p) (upd H p (.lst (cV ps .non f)))):=by
 intro Y s σ H Z us Q I r h;obtain⟨a,f,ps,rfl,sq,U,h64,q⟩:=h;obtain⟨u,rfl,ru⟩:=bR r;cases ru;obtain⟨c,k,pl,hz⟩:=I.list sq;have d:=k.length;have B:=U.heap I k;have hl2:=U.len;refine yH pl.isList (by lia) (tuples' aN) (n8 ps) (λh2 A J kp E Q' hq=>?_) (λA J kp i j hi hj C hC=>?_) ?_
 ·obtain⟨fs,kt,hf,hi⟩:=wM (h:=J.heap) λi hi=>by
   obtain⟨r,o,O,L,n,e1,e2,e3,e4⟩:=B i hi;exact⟨r,o,O,L,n,e1,kp _ _ e2,e3,e4⟩
  refine PySem.W.kat_kind (T:=.type "int") kt (by lia) (λv y=>?_) (by decide) hq;obtain⟨i,t,rfl⟩:=hi v y;exact PySem.W.Looks.of_pure rfl
 ·obtain⟨r1,o1,O,L,n1,a1,a2,a3,a4⟩:=B i hi;obtain⟨r2,o2,t3,t4,n2,b1,b2,b3,b4⟩:=B j hj;show wpAny _ A (keyLt' (tuples' aN) (c.getD i Value.none) (c.getD j Value.none)) C _ J;rw[a1,b1];exact AS (kp _ _ a2) a4 (kp _ _ b2) b4 hC
 ·have y:aO (cV ps .non f) (if c.length < 2 then c else (eT (n8 ps) (kas_sort c.length)).toList.map λi=>c.getD i Value.none):=by
   unfold cV;rw[d];split
   ·exact k
   ·exact oO k _ λi hi=>by rw[d];exact(ir (by lia)).1 i hi
  have eo:(if c.length < 2 then c.toArray else Xw ((eT (n8 ps) (kas_sort c.length)).toList.map λi=>c.getD i Value.none))=(if c.length < 2 then c else (eT (n8 ps) (kas_sort c.length)).toList.map λi=>c.getD i Value.none).toArray:=by split <;> rfl
  rw[eo];obtain⟨e,he⟩:=sortedAll_at s.heap c (if c.length < 2 then c else (eT (n8 ps) (kas_sort c.length)).toList.map λi=>c.getD i Value.none).toArray;exact⟨.ref (s.heap.objs.size+1),_,I.laid (t':=s.toks) (a:=s.heap.objs.size+1) (o:=.lst (cV ps .non f)) (λb o z=>sortedAll_old z) (YD _) ⟨by rw[uT];exact hz,_,e,y,he⟩,rfl,q _ (I.hok.fresh (YD _))⟩
abbrev uV(x:Int):List Int->List Int
 |[]=>[x]
 |y::l=>if x<=y then x::y::l else y::uV x l
abbrev fC:List Int->List Int
 |[]=>[]
 |x::l=>uV x (fC l)
def jG(x:Int):∀l,(uV x l).Perm (x::l)
 |[]=>List.Perm.refl _
 |y::l=>by
  unfold uV;split
  ·exact List.Perm.refl _
  ·exact((jG x l).cons y).trans (List.Perm.swap x y l)
def bP:∀l,(fC l).Perm l
 |[]=>List.Perm.refl _
 |x::l=>(jG x (fC l)).trans ((bP l).cons x)
def kf(x:Int):∀l:List Int,l.Pairwise (·<=·)->(uV x l).Pairwise (·<=·)
 |[],_=>by unfold uV;simp
 |y::l,h=>by
  unfold uV;rw[Z4] at h;split
  ·rename_i c;refine Z4.mpr ⟨λz hz=>?_,Z4.mpr h⟩;rcases Zn.mp hz with rfl |hz
   ·exact c
   ·have:=h.1 z hz;lia
  ·rename_i c;refine Z4.mpr ⟨λz hz=>?_,kf x l h.2⟩;rcases Zn.mp ((jG x l).mem_iff.mp hz) with rfl |hz
   ·lia
   ·exact h.1 z hz
def bX:∀l,(fC l).Pairwise (·<=·)
 |[]=>List.Pairwise.nil
 |x::l=>kf x _ (bX l)
def mv:∀ {a b:List Int},a.Perm b->a.Pairwise (·<=·)->b.Pairwise (·<=·)->a=b
 |[],b,p,_,_=>(List.Perm.nil_eq p)
 |x::a,[],p,_,_=>(List.Perm.nil_eq p.symm).symm
 |x::a,y::b,p,ha,hb=>by
  rw[Z4] at ha hb
  have e:x=y:=by
   have h1:=p.mem_iff.mp (Zj (a:=x) (l:=a));have h2:=p.mem_iff.mpr (Zj (a:=y) (l:=b));rcases Zn.mp h1 with rfl |h1
   ·rfl
   ·rcases Zn.mp h2 with h2 |h2
    ·exact h2.symm
    ·have:=ha.1 y h2;have:=hb.1 x h1
     lia
  subst e;rw[mv (List.Perm.cons_inv p) ha.2 hb.2]
def bx:∀ {ns:List Int} {u:List Value},aO (ns.map V.int) u->IntsAre u ns
 |[],_,h=>by cases h;exact .nil
 |n::ns,_,h=>by
  cases h with
  |cons r1 r2=>obtain⟨t,rfl⟩:=r1;exact .cons n t (bx r2)
def uW:aR X (.builtin "sorted") (λk H Q=>∃a ns,k=[.ref a]/\SqL X.K H a (ns.map V.int)/\ns.length < 64/\∀p,H p=aD->Q (.ref p) (upd H p (.lst ((fC ns).map V.int)))):=by
 intro v s Y H k U Q I r h;obtain⟨a,ns,rfl,L,E,q⟩:=h;obtain⟨u,rfl,T⟩:=bR r;cases T;obtain⟨d,j,B,f⟩:=I.list L;have c:=j.length;rw[Za] at c f;refine sorted_ints B.isList (bx j) (by lia) λout n y O C=>?_;have e:n=fC ns:=mv (O.trans (bP ns).symm) C (bX ns);subst e;obtain⟨e,J⟩:=sortedAll_at s.heap d out;refine⟨.ref (s.heap.objs.size+1),_,I.laid (t':=s.toks) (a:=s.heap.objs.size+1) (o:=.lst ((fC ns).map V.int)) (λb o z=>sortedAll_old z) (YD _) ⟨by rw[Za,(bP ns).length_eq];exact f,out.toList,e,jA y,by simpa using J⟩,rfl,q _ (I.hok.fresh (YD _))⟩
abbrev mw:D->Option (Int × Int)
 |.tup [.int a,.int b]=>aw (a,b)
 |_=>aD
abbrev dD:List D->Option (List (Int × Int))
 |[]=>aw []
 |d::ds=>match mw d,dD ds with
  |some p,aw ps=>aw (p::ps)
  |_,_=>aD
abbrev fD:List D->Option (List Int)
 |[]=>aw []
 |d::ds=>match d,fD ds with
  |.int i,aw ms=>aw (i::ms)
  |_,_=>aD
abbrev uX(_:Bool)(d:List D):Option (List D):=match dD d with
 |some ps=>if d.length < 64 then aw (cV ps .non d) else aD
 | none=>(match fD d with
  |some ns=>if ns.length < 64 then aw ((fC ns).map D.int) else aD
  | none=>aD)
def eA:∀ {b:List D} {ns:List Int},fD b=aw ns->b=ns.map D.int
 |[],_,e=>by cases e;rfl
 |d::b,ns,e=>by
  simp only[fD] at e;split at e
  ·rename_i i c h;cases e;rw[eA h];rfl
  ·cases e
def cQ:∀ {ns:List Int} {b:List V},VDs K m H (ns.map D.int) b->b=ns.map V.int
 |[],_,h=>by rw[Yn,VDs] at h;exact h
 |n::ns,_,h=>by
  rw[Zw,VDs] at h;obtain⟨v,r,rfl,c,d⟩:=h;rw[c.ints,cQ d];rfl
def oP:∀ (ns:List Int),VDs K m H (ns.map D.int) (ns.map V.int)
 |[]=>by rw[Yn,Yn,VDs]
 |n::ns=>by rw[Zw,Zw,VDs];exact⟨_,_,rfl,bh,oP ns⟩
def sC:∀ {c:List D} {b:List V} {ps:List (Int × Int)},dD c=aw ps->VDs K m H c b->PairsV H b ps
 |[],b,ps,e,h=>by rw[VDs] at h;subst h;cases e;exact .nil
 |d::c,b,ps,e,h=>by
  rw[VDs] at h;obtain⟨v,r,rfl,n,k⟩:=h;simp only[dD] at e;cases hd:mw d with
  |none=>rw[hd] at e;cases e
  |some p=>
   cases f:dD c with
   |none=>rw[hd,f] at e;cases e
   |some Q=>
    rw[hd,f] at e;cases e;unfold mw at hd;split at hd
    ·cases hd;obtain⟨a,B,rfl,z,u⟩:=n.tups;obtain⟨x,y,rfl,q,j⟩:=yG u;cases q.ints;cases j.ints;exact .cons z (sC f k)
    ·cases hd
def wN(h:VDs K m H d b):∀ (l:List Nat),(∀i ∈ l,i < d.length)->VDs K m H (l.map λi=>d.getD i .non) (l.map λi=>b.getD i .non)
 |[],_=>by rw[Yn,Yn,VDs]
 |i::l,hl=>by
  rw[Zw,Zw,VDs];obtain⟨v,e,f⟩:=h.get (gEG (hl i Zj));refine⟨_,_,rfl,?_,wN h l λj c=>hl j (Zi _ c)⟩;rw[ZE,ZE,gEG (hl i Zj),e];exact f
def oQ:aR X (.builtin "sorted") (r1 (rTm X.K λT d=>if T=aS then uX T d else aD)):=by
 refine aR.imp (aR.or uU uW) λn H Q h=>?_;obtain⟨_,rfl,m,S,T,d,a,v,es,R,rfl,j,vd,e,q⟩:=bW h;cases T with
 |true=>cases e
 |false=>
  have e:uX aS d=aw es:=by simpa using e
  unfold uX at e;cases c:dD d with
  |none=>
   rw[c] at e;dsimp only at e;cases hi:fD d with
   |none=>rw[hi] at e;cases e
   |some ns=>
    rw[hi] at e;dsimp only at e;split at e
    ·rename_i f;cases e;have k:=eA hi;subst k;have E:=cQ vd;subst E;exact .inr ⟨a,ns,rfl,j,f,kS R (oP _) q⟩
    ·cases e
  |some ps=>
   rw[c] at e;dsimp only at e;split at e
   ·rename_i f;cases e;have b:=vd.length;refine .inl ⟨a,v,ps,rfl,j,sC c vd,by lia,kS R ?_ q⟩;unfold cV;rw[<-b];split
    ·exact vd
    ·exact wN vd _ λi hi=>(ir (by lia)).1 i hi
   ·cases e
end
end Ev
namespace Ev
open PySem PySem.Spec PyProof.Rows L2
abbrev iu:List Int->Int
 |[]=>0
 |n::ns=>ns.foldl (λa b=>if a < b then b else a) n
def i7:∀ (ns:List Int) (n:Int),(ns.foldl (λa b=>if a < b then b else a) n) ∈ n::ns/\∀x ∈ n::ns,x<=ns.foldl (λa b=>if a < b then b else a) n
 |[],n=>⟨Zj,λx hx=>by simp at hx;subst hx;exact ZB _⟩
 |m::ns,n=>by
  obtain⟨f,c⟩:=i7 ns (if n < m then m else n);rw[Wn];refine⟨?_,λx hx=>?_⟩
  ·rcases Zn.mp f with h |h
   ·rw[h];split <;> simp
   ·exact Zi _ (Zi _ h)
  ·have d:=c _ Zj;rcases Zn.mp hx with rfl |hx
   ·split at d <;> split <;> omega
   ·rcases Zn.mp hx with rfl |hx
    ·split at d <;> split <;> omega
    ·exact c x (Zi _ hx)
def uY{M:Int}(h:M ∈ ns)(c:∀a,a ∈ ns->a<=M):M=iu ns:=by
 cases ns with
 |nil=>simp at h
 |cons n ns=>
  obtain⟨a,b⟩:=i7 ns n;have:=c _ a;have:=b _ h;show M=ns.foldl _ n;omega
section
variable {X:Cx} {K:Vk} {m:List Addr} {H:Hp} {S:Sto}
def yI(T:X.calm=aN):aR X (.builtin "max") (λB H Q=>∃a ns,B=[.ref a]/\SqL X.K H a (ns.map V.int)/\ns ≠ []/\Q (.int (iu ns)) H):=by
 intro p s σ H B us Q I r h;obtain⟨a,ns,rfl,Z,c,q⟩:=h;obtain⟨u,rfl,ru⟩:=bR r;cases ru;obtain⟨its,rv,O,hz⟩:=I.list Z;have hi:=bx rv;have n:=O.isList;obtain⟨y,e⟩:=hi.allInts.items
 have b:ns=y.toList.map (·.1):=by
  have d:=hi.numsOf;rw[<-V6,<-e];exact d.symm
 have f:0 < y.size:=by
  have z:0 < ns.length:=XY.mpr c;rw[b,Za,ZC] at z;exact z
 rw[e] at n;refine max_intList (I.ok.hd T) n f λv E tk J U=>?_;obtain⟨t,rfl⟩:=VX J;obtain⟨b1,L⟩:=argBest_gt (numAt y) (y.size - 1);have k:∀M:Int,M ∈ ns->(∀a,a ∈ ns->a<=M)->∃x H',Inv X p σ H' { s with heap:=E,toks:=tk }/\aJ x (.int M t)/\Q x H':=λM d h2=>⟨.int (iu ns),H,I.kept U,⟨t,by rw[uY d h2]⟩,q⟩;refine k _ ?_ λa C=>?_
 ·rw[b,V5];exact getD_mem (by rw[Za,ZC];omega)
 ·rw[b] at C;obtain⟨j,Y,rfl⟩:=mem_getD C;rw[Za,ZC] at Y;rw[<-V5];exact L j (by omega)
def qw(q:A.handled=aD)(k:s.heap.IsTuple l (VW d))(n:0 < d.size)
  (h:∀v h' T,(VW d)[argBest (λi j=>decide (numAt d i > numAt d j)) (d.size - 1)]?=aw v->(∀b o,s.heap.get? b=aw o->h'.get? b=aw o)->Q v { s with heap:=h',toks:=T }) :
  wpAny (model prog w) A (call (.builtin "max") [.ref l]) Q E s:=by
 have f:l < s.heap.objs.size:=by obtain⟨_,e,_⟩:=k;exact Zt e
 refine call_max_walk (UM k ?_);refine⟨_,[_,l],[_],_,_,_,_,rfl,Walks.tuple (A:=A.in1) q _ l (ZI f) (VW d),⟨⟨_,ZA _ rfl,rfl,rfl⟩,k.push _⟩,λc hc=>?_,by simpa[VW] using n,CmpOf.ints_gt (numAt d) (λ_ _=>VX),λv h' T u p=>?_⟩
 ·show c < (s.heap.push _).objs.size;rw[Yt];rcases Zn.mp hc with rfl |hc
  ·exact Y9 _
  ·rcases Zn.mp hc with rfl |hc
   ·exact YZ f
   ·cases hc
 ·refine h v h' T (by simpa[VW] using u) λb o e=>p b o (λhm=>?_) (Zf _ e);rcases Zn.mp hm with e1 |hm
  ·exact absurd (e1 ▸ Zt e) (ZR _)
  ·cases hm
def yJ(U:X.calm=aN):aR X (.builtin "max") (λC H Q=>∃a ns,C=[.ref a]/\SqT X.K H a (ns.map V.int)/\ns ≠ []/\Q (.int (iu ns)) H):=by
 intro p s σ H C us Q I r h;obtain⟨a,ns,rfl,sq,c,q⟩:=h;obtain⟨u,rfl,ru⟩:=bR r;cases ru;obtain⟨k,rv,T,hz⟩:=I.tuple sq;have hi:=bx rv;have z:s.heap.IsTuple a k.toArray:=T;obtain⟨y,e⟩:=hi.allInts.items
 have b:ns=y.toList.map (·.1):=by
  have d:=hi.numsOf;rw[<-V6,<-e];exact d.symm
 have f:0 < y.size:=by
  have B:0 < ns.length:=XY.mpr c;rw[b,Za,ZC] at B;exact B
 rw[e] at z;refine qw (I.ok.hd U) z f λv J tk L Y=>?_;obtain⟨t,rfl⟩:=VX L;obtain⟨b1,O⟩:=argBest_gt (numAt y) (y.size - 1);have n:∀M:Int,M ∈ ns->(∀a,a ∈ ns->a<=M)->∃x H',Inv X p σ H' { s with heap:=J,toks:=tk }/\aJ x (.int M t)/\Q x H':=λM d h2=>⟨.int (iu ns),H,I.kept Y,⟨t,by rw[uY d h2]⟩,q⟩;refine n _ ?_ λa E=>?_
 ·rw[b,V5];exact getD_mem (by rw[Za,ZC];omega)
 ·rw[b] at E;obtain⟨j,Z,rfl⟩:=mem_getD E;rw[Za,ZC] at Z;rw[<-V5];exact O j (by omega)
abbrev n9(T:Bool)(d:List D)(S:Sto):Option (D × Sto):=match fD d with
 |some (n::ns)=>aw (.int (iu (n::ns)),S)
 |_=>aD
def yK(b:X.calm=aN):aR X (.builtin "max") (r1 (rSq X.K n9)):=by
 refine aR.imp (aR.or (yI b) (yJ b)) λf H Q h=>?_;obtain⟨_,rfl,m,S,T,k,a,v,d,j,R,rfl,sq,vd,e,q⟩:=bW h;unfold n9 at e;split at e
 ·rename_i n ns hi;cases e;have c:=eA hi;subst c;have E:=cQ vd;subst E;rcases iq sq with sq |sq
  ·exact .inl ⟨a,n::ns,rfl,sq,by simp,q m H _ (Aft.refl R) bh⟩
  ·exact .inr ⟨a,n::ns,rfl,sq,by simp,q m H _ (Aft.refl R) bh⟩
 ·cases e
abbrev oe(T:Bool)(d:List D)(S:Sto):Option (D × Sto):=match T,fD d with
 |false,aw ns=>aw (.int (WA ns),S)
 |_,_=>aD
def yL(k:X.calm=aN):aR X (.builtin "sum") (λd H Q=>∃ (a:Addr) (ns:List Int),d=[.ref a]/\SqL X.K H a (ns.map V.int)/\Q (.int (WA ns)) H):=by
 intro p s L H d U Q I r h;obtain⟨a,ns,rfl,v,q⟩:=h;obtain⟨u,rfl,B⟩:=bR r;cases B;obtain⟨C,z,j,J⟩:=I.list v;have hi:=bx z;have c:=j.isList;obtain⟨y,e⟩:=hi.allInts.items
 have b:ns=y.toList.map (·.1):=by
  have f:=hi.numsOf;rw[<-V6,<-e];exact f.symm
 rw[e] at c;refine sum_intListG (I.ok.hd k) c λE O T n=>⟨.int (WA ns),H,I.kept n,⟨T,?_⟩,q⟩;rw[preSum_eq,b,Ye (by rw[Za,ZC];exact Ze _)]
def yM(b:X.calm=aN):aR X (.builtin "sum") (r1 (rSq X.K oe)):=by
 refine aR.imp (yL b) λj H Q h=>?_;obtain⟨_,rfl,m,S,T,n,a,v,d,k,R,rfl,c,vd,e,q⟩:=bW h;unfold oe at e;split at e
 ·rename_i ns hi;cases e;have f:=eA hi;subst f;have E:=cQ vd;subst E;exact⟨a,ns,rfl,c,q m H _ (Aft.refl R) bh⟩
 ·cases e
abbrev uZ(d:D)(S:Sto):Option (D × Sto):=match d with
 |.int i=>aw (.int i,S)
 |.bl b=>aw (.int (if b then 1 else 0),S)
 |_=>aD
def yN:aR X (.type "int") (r1 (rS1 X.K uZ)):=by
 refine aR.imp ye λc H Q h=>?_;obtain⟨x,rfl,m,S,a,d,f,R,v,e,q⟩:=bW h;cases a with
 |int i=>cases e;exact .inl ⟨i,by rw[v.ints],q m H _ (Aft.refl R) bh⟩
 |bl b=>cases e;exact .inr ⟨b,by rw[v.bls],q m H _ (Aft.refl R) bh⟩
 |_=>cases e
end
def AU(a d:Value):argsOk "max" ⟨[a],[(Str.ofString "default", d)]⟩:=by unfold argsOk;kernel_rfl
section
variable {prog:Program} {w:World} {A:Around} {R:Result->Shared->Prop} {I S:Addr} {fp wr:List Addr} {n:Nat} {P:Nat->Value->Prop} {St:Nat->Heap->Prop} {bt:Nat->Nat->Bool} {kw:List (Str × Value)}
def wP:(toString "max" ++ toString ".loop" : String) = "max.loop" := by decide
def my(W:Walks prog w A.in1 I fp wr n P St)(L:CmpOf prog w A.in1 .Gt P bt)(y:S ∉ fp):∀ (m i:Nat) (s:Shared) (b:Value) (c:Nat),i+1+m=n->St (i+1) s.heap->P (argBest bt i) b->s.heap.get? S=aw { cls:=.type "list", dict:=aD,data:=.seq #[b,b] c,slots:=#[] } ->
  (∀v h' B,P (argBest bt (n - 1)) v->(∀a o,a ∉ wr->a ≠ S->s.heap.get? a=aw o->h'.get? a=aw o)->R (.ok (.ret v)) { s with heap:=h',toks:=B })->codeAny (model prog w) A (.builtin "max.loop" ⟨[.ref I,.none,.ref S],kw⟩) R s
 |0,i,s,b,c,e,st,pb,gs,r=>by
  have E:S ∉ wr:=λh=>y (W.sub _ h);refine VO WR ?_;rw[Around.under_plainId WY _];show wpAny _ A.in1 (Uf (.ref S) >>= _) _ _ s;refine Us (UR gs rfl ?_);show wpAny _ A.in1 (tryCatch (pyNext (.ref I)) _ >>= _) _ _ s;refine Us (UW (W.done s _ _ (by rw[<-e];exact st) λh' B k=>?_));show wpAny _ A.in1 (Uq S (λ_=>#[]) >>= _) _ _ _;refine Us (UY (k S _ E gs) rfl (Us (UB (UI ?_))));exact r b _ B (by rw[<-e];exact pb) λa o d q z=>(ZK _ _ (Ne.symm q)).trans (k a o d z)
 |m+1,i,s,b,c,e,st,pb,gs,r=>by
  have E:S ∉ wr:=λh=>y (W.sub _ h);refine VO WR ?_;rw[Around.under_plainId WY _];show wpAny _ A.in1 (Uf (.ref S) >>= _) _ _ s;refine Us (UR gs rfl ?_);show wpAny _ A.in1 (tryCatch (pyNext (.ref I)) _ >>= _) _ _ s;refine Us (UW (W.item (i+1) s _ _ (by lia) st λv h' B O u k=>?_));have f:=k S _ E gs;show wpAny _ A.in1 (tryCatch (holding [v,v] (Ub .Gt v b >>= _)) _ >>= _) _ _ _;refine Us (UW (UA (Us (L (i+1) (argBest bt i) v b _ _ _ O pb ?_))));refine Us (UA (UV ?_));refine Us (UB (UI ?_));cases hb:bt (i+1) (argBest bt i) with
  |true=>
   simp only[if_true];refine Us (UY f rfl (Us (UB ?_)));rw[wP];refine UI ⟨V8 WY _,my W L y m (i+1) _ v _ (by lia) (W.frame _ _ _ u λa af o z=>?_) (by simp only[argBest,hb,if_true];exact O) (Yi _ f rfl) λJ j T p C=>?_⟩
   ·exact(ZK _ _ (λz:S=a=>y (by rw[z];exact af))).trans z
   ·exact r J j T p λa o d q z=>C a o d q ((ZK _ _ (Ne.symm q)).trans (k a o d z))
  |false=>
   simp only[ZP,if_false];refine Us (UB ?_);rw[wP];refine UI ⟨V8 WY _,my W L y m (i+1) _ b c (by lia) u (by simp only[argBest,hb,ZP,if_false];exact pb) f λJ j T p C=>?_⟩;exact r J j T p λa o d q z=>C a o d q (k a o d z)
def yO(W:Walks prog w A.in1 I fp wr n P St)(O:CmpOf prog w A.in1 .Gt P bt)(j:S ∉ fp)(B:0 < n){c:Nat}(st:St 0 s.heap)(gs:s.heap.get? S=aw { cls:=.type "list", dict:=aD,data:=.seq #[] c,slots:=#[] })
  (r:∀v h' y,P (argBest bt (n - 1)) v->(∀a o,a ∉ wr->a ≠ S->s.heap.get? a=aw o->h'.get? a=aw o)->R (.ok (.ret v)) { s with heap:=h',toks:=y }):codeAny (model prog w) A (.builtin "max.loop" ⟨[.ref I,.none,.ref S],kw⟩) R s:=by
 have E:S ∉ wr:=λh=>j (W.sub _ h);refine VO WR ?_;rw[Around.under_plainId WY _];show wpAny _ A.in1 (Uf (.ref S) >>= _) _ _ s;refine Us (UR gs rfl ?_);show wpAny _ A.in1 (tryCatch (pyNext (.ref I)) _ >>= _) _ _ s;refine Us (UW (W.item 0 s _ _ B st λv h' y L f q=>?_));have b:=q S _ E gs;show wpAny _ A.in1 (Uq S (λ_=>#[v,v]) >>= _) _ _ _;refine Us (UY b rfl ?_);rw[wP];refine UI ⟨V8 WY _,my W O j (n - 1) 0 _ v _ (by lia) (W.frame _ _ _ f λa af o z=>?_) L (Yi _ b rfl) λJ d T p C=>?_⟩
 ·exact(ZK _ _ (λz:S=a=>j (by rw[z];exact af))).trans z
 ·exact r J d T p λa o k u z=>C a o k u ((ZK _ _ (Ne.symm u)).trans (q a o k z))
def AV(W:Walks prog w A.in1 I fp wr 0 P St)(b:S ∉ fp){c:Nat}(st:St 0 s.heap)(gs:s.heap.get? S=aw { cls:=.type "list", dict:=aD,data:=.seq #[] c,slots:=#[] })
  (r:∀h' T,(∀a o,a ∉ wr->s.heap.get? a=aw o->h'.get? a=aw o)->R (.ok (.ret d)) { s with heap:=h',toks:=T }):codeAny (model prog w) A (.builtin "max.loop" ⟨[.ref I,.none,.ref S],[(Str.ofString "default", d)]⟩) R s:=by
 refine VO WR ?_;rw[Around.under_plainId WY _];show wpAny _ A.in1 (Uf (.ref S) >>= _) _ _ s;refine Us (UR gs rfl ?_);show wpAny _ A.in1 (tryCatch (pyNext (.ref I)) _ >>= _) _ _ s;refine Us (UW (W.done s _ _ st λh' T k=>?_));exact Us (UQ (UI (r h' T k)))
variable {E:Value->Shared->Prop} {s:Shared} {l:Addr} {xs:Array (Int × Tok)}
def AW(B:A.handled=aD)(q:s.heap.IsList l (VW xs))
  (y:0 < xs.size->∀v h' T,(VW xs)[argBest (λi j=>decide (numAt xs i > numAt xs j)) (xs.size - 1)]?=aw v->(∀b o,s.heap.get? b=aw o->h'.get? b=aw o)->Q v { s with heap:=h',toks:=T })
  (u:xs.size=0->∀h' T,(∀b o,s.heap.get? b=aw o->h'.get? b=aw o)->Q d { s with heap:=h',toks:=T }):wpAny (model prog w) A (call (.builtin "max") [.ref l] [(Str.ofString "default", d)]) Q E s:=by
 refine kmb_tree F.kind_max F.plain_max F.entry_max (AU _ _) ?_;show wpAny _ A.in1 (Builtin.Builtins.bindParams "max" ["key", "default"] 0 ⟨[],[(Str.ofString "default", d)]⟩ >>= _) _ _ s;refine Us (UG (show Builtin.Builtins.bindParams "max" ["key", "default"] 0 ⟨[],[(Str.ofString "default", d)]⟩=pure [aD,aw d] from rfl) ?_);refine Us (UI ?_);refine Us (iter_intList q λC e st f L=>?_);subst e;have W:=Walks.list (prog:=prog) (w:=w) (A:=A.in1) B s.heap.objs.size l L (VW xs);refine Us (UF ?_);have J:∀b ∈ [s.heap.objs.size,l],b < (s.heap.push { cls:=.type "list_iterator", data:=.fields #[.ref l,.int 0 0] }).objs.size:=f;rw[wP];by_cases k:xs.size=0
 ·have p:(VW xs).size=0:=by simpa[VW] using k
  rw[p] at W;refine UI ⟨V8 WY _,AV W (λh=>ZR _ (f _ h)) (W.frame _ _ _ st λb _ o e=>Zf _ e) (ZA _ rfl) λh' T c=>?_⟩;exact u k h' T (V7 λb o hb e=>c b o hb (Zf _ e))
 ·refine UI ⟨V8 WY _,yO W (CmpOf.ints_gt (numAt xs) (λ_ _=>VX)) (λh=>ZR _ (f _ h)) (by simp[VW];lia) (W.frame _ _ _ st λb _ o e=>Zf _ e) (ZA _ rfl) λv h' T z c=>?_⟩;exact y (by lia) v h' T (by simpa[VW] using z) (V7 λb o hb e=>c b o hb (ZI (Zt e)) (Zf _ e))
end
abbrev fT(c:Int):List Int->Int
 |[]=>c
 |n::ns=>iu (n::ns)
abbrev eB(c:Int)(T:Bool)(d:List D)(S:Sto):Option (D × Sto):=match T,fD d with
 |false,aw ns=>aw (.int (fT c ns),S)
 |_,_=>aD
section
variable {X:Cx} {K:Vk} {m:List Addr} {H:Hp} {S:Sto} {e:Expr} {t:TA} {p pos kp vp:Pos} {c:Int} {j:Nat}
def JN(hc:X.calm=aN)(hg:Gl X "max")(hm:X.mg "max" = aD)(hdb:(("max" : Str) == ("__debug__" : Str))=aS){de:Expr}(hd:PE X de (tC (.int c)))(C:PA X [e] t)(he:Uj [e] X.env=(aS,eval e X.env)::Uj [] X.env) :
  PE X (.Call (.Name "max" p) [e] [⟨aw "default", de,kp⟩] pos) (tCB (r1 (rSq X.K (eB c))) t):=by
 intro b s B H Q I h;refine Ur (dA I hg hm WF ?_ (by decide) hdb);refine callWith_kw (thn (C pos b s B H _ I h) λus s1 ⟨vs,L,I1,r,q1⟩=>?_) (by rw[he];rfl) (by rw[he];rfl) rfl rfl;refine thn (wq (nm:=aw "default") (kpos:=kp) hd zZ pos b s1 B L _ I1 (show cf (tC (.int c)) jy B L (λzs f=>zs=[.int c]/\f=L) from ⟨rfl,rfl⟩)) λks s2 ⟨zs,f,z,rz,ez,eH⟩=>?_;subst ez eH;obtain⟨u,rfl,ru⟩:=bR rz;obtain⟨tk,rfl⟩:=ru;obtain⟨_,rfl,m,S,tu,ds,a,ws,d,S',R,rfl,sq,vd,E,q⟩:=bW q1;obtain⟨u',rfl,ru'⟩:=bR r;cases ru';unfold eB at E;split at E
 ·rename_i ns hi;cases E;have ed:=eA hi;subst ed;have ev:=cQ vd;subst ev;have sq:SqL X.K f a (ns.map V.int):=sq;obtain⟨its,rv,pl,hz⟩:=z.list sq;have hi:=bx rv;have hl:=pl.isList;obtain⟨Y,ey⟩:=hi.allInts.items
  have k:ns=Y.toList.map (·.1):=by
   have J:=hi.numsOf;rw[<-V6,<-ey];exact J.symm
  have y:ns.length=Y.size:=by rw[k,Za,ZC]
  rw[ey] at hl;refine AW (z.ok.hd hc) hl (λZ v h' T hv U=>?_) (λZ h' T U=>?_)
  ·obtain⟨t',rfl⟩:=VX hv;obtain⟨b1,b2⟩:=argBest_gt (numAt Y) (Y.size - 1)
   have et:fT c ns=iu ns:=by
    cases ns with
    |nil=>rw[Z1] at y;lia
    |cons n ns=>rfl
   have O:∀M:Int,M ∈ ns->(∀a,a ∈ ns->a<=M)->∃x H',Inv X b B H' { s2 with heap:=h',toks:=T }/\aJ x (.int M t')/\Q x H':=λM J h2=>⟨.int (fT c ns),f,z.kept U,⟨t',by rw[uY J h2,et]⟩,q m f _ (Aft.refl R) bh⟩;refine O _ ?_ λa C=>?_
   ·rw[k,V5];exact getD_mem (by rw[Za,ZC];lia)
   ·rw[k] at C;obtain⟨j,hj,rfl⟩:=mem_getD C;rw[Za,ZC] at hj;rw[<-V5];exact b2 j (by lia)
  ·have en:ns=[]:=ZT.mp (by lia);subst en;exact⟨.int c,f,z.kept U,⟨tk,rfl⟩,q m f _ (Aft.refl R) bh⟩
 ·cases E
end
section
variable {X:Cx} {K:Vk} {m:List Addr} {H:Hp} {S:Sto}
abbrev fU(d:D)(S:Sto):Bool:=match d with
 |.ref n=>(au S n).isSome
 |_=>aS
abbrev isTup:D->Bool
 |.tup _=>aN
 |_=>aS
abbrev AX(c:D->Sto->Bool)(f:D->List D->Sto->Option (D × Sto))(x:XE)(y:XA):XE:=λh S=>bnd (x h S) λd b=>if c d b=aN then bnd (y h b) λk j=>f d k j else aD
abbrev rM(K:Vk)(f:D->List D->Sto->Option (D × Sto)):V->List V->Hp->VK->Prop:=λv k H Q=>∃m S a j d b,Rel K m S H/\VD K m H a v/\VDs K m H j k/\f a j S=aw (d,b)/\∀c h u,Aft K m H b c h->VD K c h d u->Q u h
def u0(hT:∀ {m H S d v},Rel K m S H->VD K m H d v->c d S=aN->tyV K T v H)(h:tE K (AX c f x y) σ H Q):tBM K T (rM K f) (tE K x) (tAr K y) σ H Q:=by
 obtain⟨m,B,S,d,L,E,R,e,q⟩:=h;obtain⟨a,p,C,e⟩:=ae e;split at e
 ·rename_i J;obtain⟨n,k,Z,e⟩:=ae e;refine⟨m,B,S,a,p,E,R,C,λm1 H1 v b z=>⟨hT b.rel z J,m1,B,p,n,k,E.mono R b.ext,b.rel,Z,λI H2 vs j vb=>?_⟩⟩;exact⟨I,k,a,n,d,L,j.rel,z.mono b.rel j.ext,vb,e,λO U u Y vd=>q O U u ((b.trans j).trans Y) vd⟩
 ·cases e
def AY(R:Rel K m S H)(vd:VD K m H d v)(h:fU d S=aN):tyV K "list" v H:=by
 cases d with
 |ref n=>
  simp only[fU] at h;obtain⟨u,hs⟩:=Z9.mp h;obtain⟨p,c,j,k,f⟩:=R.seq hs;obtain⟨q,b,rfl⟩:=vd.refs;rw[j] at b;cases b;exact .inl ⟨rfl,c,k⟩
 |_=>cases h
def JO(R:Rel K m S H)(vd:VD K m H d v)(h:(λd (_:Sto)=>isTup d) d S=aN):tyV K "tuple" v H:=by
 cases d with
 |tup f=>
  obtain⟨a,c,rfl,b,_⟩:=vd.tups;exact .inr (.inl ⟨rfl,.inr ⟨c,b⟩⟩)
 |_=>cases h
abbrev chg(n:Nat)(S:Sto)(f:List D->Option (D × List D)):Option (D × Sto):=match S[n]? with
 |some (.lst ds)=>(f ds).map λr=>(r.1,S.set n (.lst r.2))
 |_=>aD
def sD{n:Nat}(h:chg n S f=aw (d,k)):∃b E,S[n]?=aw (.lst b)/\f b=aw (d,E)/\k=S.set n (.lst E):=by
 unfold chg at h;cases j:S[n]? with
 |none=>rw[j] at h;cases h
 |some o=>
  rw[j] at h;cases o with
  |lst b=>
   dsimp only at h;cases c:f b with
   |none=>rw[c] at h;cases h
   |some r=>rw[c] at h;cases h;exact⟨b,r.2,rfl,c,rfl⟩
  |_=>cases h
abbrev sE(d:D)(c:List D)(S:Sto):Option (D × Sto):=match d,c with
 |.ref n,[e]=>chg n S λb=>if b.length < 100000 then aw (.non,b++[e]) else aD
 |_,_=>aD
abbrev eU(d:D)(c:List D)(S:Sto):Option (D × Sto):=match d,c with
 |.ref n,[.int i]=>chg n S λb=>match ixN b.length i with
  |some k=>(b[k]?).map λx=>(x,b.eraseIdx k)
  |none=>aD
 |_,_=>aD
def ve{n:Nat}(R:Rel K m S H)(vd:VD K m H (.ref n) v)(c:S[n]?=aw (.lst d)):∃a vs,v = .ref a/\m[n]?=aw a/\H a=aw (.lst vs)/\VDs K m H d vs:=by
 obtain⟨a,vs,b,f,q⟩:=R.lst c;obtain⟨j,h,e⟩:=vd.refs;rw[b] at h;cases h;exact⟨a,vs,e,b,f,q⟩
def jH{n:Nat}(R:Rel K m S H)(h:m[n]?=aw a)(vd:VDs K m H E b):Aft K m H (S.set n (.lst E)) m (upd H a (.lst b)):=let ⟨x,y⟩:=R.write h vd;⟨x,y⟩
def JP:MtR X "list.append" (rM X.K sE):=by
 intro b s L H x O v u Q I J C h;refine oC b s L H x O v u Q I J C ?_;obtain⟨m,S,a,as,d,S',R,T,E,e,q⟩:=h;unfold sE at e;split at e
 ·rename_i n z;obtain⟨ds,es,U,f,rfl⟩:=sD e;split at f
  ·rename_i Z;cases f;obtain⟨p,k,rfl,j,Y,c⟩:=ve R T U;obtain⟨y,rfl,B⟩:=JK E;refine⟨p,k,y,rfl,rfl,Y,by rw[Uh,<-c.length];lia,q m _ _ (jH R j (c.append (.cons B .nil))) qk⟩
  ·cases f
 ·cases e
def sF:∀ {b:List D} {v:List V} (k:Nat),VDs K m H b v->VDs K m H (b.eraseIdx k) (v.eraseIdx k)
 |[],v,k,h=>by rw[VDs] at h;subst h;exact .nil
 |d::b,v,0,h=>by
  rw[VDs] at h;obtain⟨y,r,rfl,p,q⟩:=h;exact q
 |d::b,v,k+1,h=>by
  rw[VDs] at h;obtain⟨y,r,rfl,p,q⟩:=h;exact .cons p (sF k q)
def yP:MtR X "list.pop" (rM X.K eU):=by
 intro f s σ H x xs v U Q I rx Z h;refine Ac f s σ H x xs v U Q I rx Z ?_;obtain⟨m,S,a,as,d,S',R,va,vs,e,q⟩:=h;unfold eU at e;split at e
 ·rename_i n i;obtain⟨B,es,hn,c,rfl⟩:=sD e;cases u:ixN B.length i with
  |none=>rw[u] at c;cases c
  |some k=>
   rw[u] at c;dsimp only at c;cases j:B[k]? with
   |none=>rw[j] at c;cases c
   |some z=>
    rw[j] at c;cases c;obtain⟨p,T,rfl,J,C,b⟩:=ve R va hn;obtain⟨y,rfl,O⟩:=JK vs;cases O.ints;obtain⟨y,hy,Y⟩:=b.get j;have A:=jH R J (sF k b);obtain⟨E,h2,h3,h4⟩:=p0 u;have L:=(I.lst C).choose_spec.choose_spec.2.2;have hle:=b.length;rw[Uh] at L;exact⟨p,T,i,k,y,rfl,rfl,C,by lia,by lia,by rw[<-b.length];exact E,hy,q m _ _ A (Y.mono R A.ext)⟩
 ·cases e
abbrev vf(d:D)(b:List D)(S:Sto):Option (D × Sto):=match d,b with
 |.tup ds,[x]=>if cB x=aN/\ds.all cB=aN then aw (.int (ds.countP λz=>eqF z x:Nat),S) else aD
 |_,_=>aD
def Et:MtR X "tuple.count" (rM X.K vf):=by
 intro b s J H x L v u Q I C n h;refine yu X.K rfl b s J H x L v u Q I C n ?_;obtain⟨m,S,a,Y,d,T,R,O,B,e,q⟩:=h;unfold vf at e;split at e
 ·rename_i U z;split at e
  ·rename_i f;cases e;obtain⟨p,k,rfl,E,c⟩:=O.tups;obtain⟨y,rfl,j⟩:=JK B;exact⟨p,k,y,rfl,rfl,.of E,kU j f.1,iZ c f.2,q m H _ (Aft.refl R) (by rw[oM j f.1 c f.2];exact bh)⟩
  ·cases e
 ·cases e
abbrev jI(o i v:D)(S:Sto):Option Sto:=match o,i with
 | .ref n,.int k=>(match S[n]? with
  |some (.lst ds)=>(ixN ds.length k).map λj=>S.set n (.lst (ds.set j v))
  | _=>aD)
 |o,i=>AE o i v S
abbrev Od(K:Vk):DF:=λo i v H Q=>∃m S a b c d,Rel K m S H/\VD K m H a o/\VD K m H b i/\VD K m H c v/\jI a b c S=aw d/\∀f h,Aft K m H d f h->Q h
def Oe(hu:X.A.units+64 < cLine):IM X (Od X.K):=by
 intro d s σ H o i v ov U u Q I E J O h;obtain⟨m,S,a,b,c,S',R,T,vb,L,e,q⟩:=h;unfold jI at e;split at e
 ·rename_i n k;cases y:S[n]? with
  |none=>rw[y] at e;cases e
  |some ob=>
   rw[y] at e;cases ob with
   |lst C=>
    dsimp only at e;cases z:ixN C.length k with
    |none=>rw[z] at e;cases e
    |some j=>
     rw[z] at e;cases e;obtain⟨p,ws,rfl,Z,hH,f⟩:=ve R T y;cases vb.ints;exact z9 d s σ H _ _ v ov U u Q I E J O ⟨p,ws,k,j,rfl,rfl,hH,by rw[<-f.length];exact z,q m _ (jH R Z (f.set L))⟩
   |_=>cases e
 ·obtain⟨k,n,Y,C,hk,rfl,y,hl,rfl⟩:=yx e;obtain⟨a,b,B,rfl,rfl,g,A⟩:=Ei R hk y hl vb T L;cases E;cases J;exact yt (show X.A.units+2 < cLine by lia) I g rfl O λs' I'=>⟨B,I',q m B A⟩
open Classical in
end
@[inline]abbrev Nxt:=Nat->Sto->Option (Option D)
@[inline]abbrev XI:=Rho->Sto->Option (Nxt × Sto)
structure ExtB(B:List Addr)(m:List Addr)(H:Hp)(m':List Addr)(H':Hp):Prop where
 pre:m <+: m'
 keep:∀a o,H a=aw o->a ∉ m->a ∉ B->H' a=aw o
 new:∀a,a ∈ m'->a ∉ m->H a=aD
 nb:∀b,b ∈ B->b ∉ m'
abbrev AtB(B:List Addr)(m:List Addr)(H:Hp):Prop:=∀b,b ∈ B->(∃v,H b=aw (.lst v))/\b ∉ m
def Ext.toB(c:AtB B m H)(x:Ext m H d H'):ExtB B m H d H':=⟨x.pre,λa o h n _=>x.keep a o h n,x.new,λb hb z=>by
 obtain⟨⟨v,e⟩,n⟩:=c b hb;have:=x.new b z n;rw[e] at this;cases this⟩
def ExtB.trans(x:ExtB B m H m1 f)(y:ExtB B m1 f c H2):ExtB B m H c H2:=by
 refine⟨x.pre.trans y.pre,λa o h n nb=>?_,λa h n=>?_,y.nb⟩
 ·have d:a ∉ m1:=λz=>by have:=x.new a z n;rw[this] at h;cases h
  exact y.keep a o (x.keep a o h n nb) d nb
 ·by_cases b:a ∈ m1
  ·exact x.new a b n
  ·cases e:H a with
   |none=>rfl
   |some o=>
    by_cases hb:a ∈ B
    ·exact absurd h (y.nb a hb)
    ·have:=x.keep a o e n hb;rw[y.new a h b] at this;cases this
def AtB.ext(h:AtB B m H)(x:Ext m H c H'):AtB B c H':=λb hb=>by
 obtain⟨⟨v,e⟩,n⟩:=h b hb;exact⟨⟨v,x.keep _ _ e n⟩,(x.toB h).nb b hb⟩
abbrev IOk(K:Vk)(B:List Addr)(J:It)(nx:Nxt)(m0:List Addr)(b:Hp):Prop:=∀ (m:List Addr) (S:Sto) (H:Hp) (i:Nat),ExtB B m0 b m H->Rel K m S H ->
 (nx i S=aw aD->J.stop i H)/\(∀d,nx i S=aw (aw d)->J.go i H/\∀x h,J.yld i H x h->Aft K m H S m h/\VD K m h d x)
abbrev tIt(K:Vk)(B:List Addr)(x:XI):TI:=λf H R=>∃m c S nx b,EnvR K m H c f/\Rel K m S H/\AtB B m H/\x c S=aw (nx,b)/\∀d h J,Aft K m H b d h->IOk K B J nx d h->R J h
abbrev nxL(d:List D):Nxt:=λi _=>aw d[i]?
abbrev nxS(n:Nat):Nxt:=λi S=>(au S n).map λd=>d[i]?
abbrev nxR(lo:Int)(n:Nat):Nxt:=λi _=>aw (if i < n then aw (.int (lo+i)) else aD)
abbrev wH(i:Nat)(d:D):D:=.tup [.int i,d]
abbrev enm(d:List D)(i:Nat):Option (Option D):=if i<=d.length then aw (d[i]?.map (wH i)) else aD
abbrev vg(d:List D):Nxt:=λi _=>enm d i
abbrev AZ(n:Nat):Nxt:=λi S=>(au S n).bind λd=>enm d i
section
variable {X:Cx} {K:Vk} {m B:List Addr} {H:Hp} {S:Sto}
def Eu(R:Rel K m0 f b)(d:AtB B m0 b)(x:ExtB B m0 b m H)(h:b a=aw (.tup c)):H a=aw (.tup c):=x.keep _ _ h (R.notTup h) λz=>by
 obtain⟨⟨v,e⟩,_⟩:=d a z;rw[e] at h;cases h
def VDs.monoB(R:Rel K m0 f b)(c:AtB B m0 b)(x:ExtB B m0 b m H)(h:VDs K m0 b d vs):VDs K m H d vs:=VDs.mono0 x.pre (λ_ _=>Eu R c x) h
def VD.monoB(R:Rel K m0 f b)(c:AtB B m0 b)(x:ExtB B m0 b m H)(h:VD K m0 b d v):VD K m H d v:=VD.mono0 x.pre (λ_ _=>Eu R c x) h
def EnvR.monoB(R:Rel K m0 j b)(c:AtB B m0 b)(x:ExtB B m0 b m H)(h:EnvR K m0 b f σ):EnvR K m H f σ:=
 ⟨h.len,λi d e=>let ⟨v,p,q⟩:=h.at_ i d e;⟨v,p,VD.monoB R c x q⟩⟩
def sG(h:∀m S H i o,ExtB B m0 H0 m H->Rel K m S H->nx i S=aw o->∃f b,o=f[i]?/\SqL K H a b/\VDs K m H f b):IOk K B (Itl K a) nx m0 H0:=by
 intro m S H i x R;refine⟨λe=>?_,λd e=>?_⟩
 ·obtain⟨f,b,E,c,vd⟩:=h m S H i _ x R e;exact⟨b,c,by rw[<-vd.length];exact Z8.mp E.symm⟩
 ·obtain⟨f,b,E,c,vd⟩:=h m S H i _ x R e;obtain⟨v,j,p⟩:=vd.get E.symm;refine⟨⟨b,v,c,j⟩,λy q ⟨k,n⟩=>?_⟩;subst k;have:=n b c;rw[j] at this;cases this;exact⟨Aft.refl R,p⟩
def Ew(f:Rel K m0 u H0)(j:AtB B m0 H0)(k:H0 a=aw (.tup vs))(vd:VDs K m0 H0 n vs):IOk K B (Itt K a) (nxL n) m0 H0:=by
 intro m S H i x R;have b:SqT K H a vs:=.of (Eu f j x k);have c:=vd.monoB f j x;refine⟨λe=>⟨vs,b,?_⟩,λd e=>?_⟩
 ·rw[<-c.length];exact Z8.mp (Option.some.inj e)
 ·obtain⟨v,h,q⟩:=c.get (Option.some.inj e);refine⟨⟨vs,v,b,h⟩,λy z ⟨E,p⟩=>?_⟩;subst E;have:=p vs b;rw[h] at this;cases this;exact⟨Aft.refl R,q⟩
def wQ{lo:Int}{n:Nat}:IOk K B (Itr lo n) (nxR lo n) m0 H0:=by
 intro m S H i x R;unfold nxR;refine⟨λe=>?_,λd e=>?_⟩
 ·split at e
  ·cases e
  ·show n<=i;lia
 ·split at e
  ·rename_i hi;cases e;exact⟨hi,λy b ⟨E,h⟩=>by subst E;subst h;exact⟨Aft.refl R,bh⟩⟩
  ·cases e
def qx(h:∀m S H i o,ExtB B m0 H0 m H->Rel K m S H->nx i S=aw o->∃c b,enm c i=aw o/\j K H a b/\VDs K m H c b):IOk K B (Ite K a j) nx m0 H0:=by
 intro m S H i x R;refine⟨λe=>?_,λd e=>?_⟩
 ·obtain⟨c,b,E,f,vd⟩:=h m S H i _ x R e;unfold enm at E;split at E
  ·rename_i J;refine⟨b,f,?_⟩;rw[<-vd.length];cases hd:c[i]? with
   |none=>have:=Z8.mp hd;lia
   |some z=>rw[hd] at E;cases E
  ·cases E
 ·obtain⟨c,b,E,f,vd⟩:=h m S H i _ x R e;unfold enm at E;split at E
  ·cases hd:c[i]? with
   |none=>rw[hd] at E;cases E
   |some z=>
    rw[hd] at E;cases E;obtain⟨v,k,q⟩:=vd.get hd;refine⟨⟨b,v,f,k⟩,λy L ⟨T,p,I,C⟩=>?_⟩;subst I;have u:=C b v f k;subst u;have n:=Ext.beside R p (.tup [.int i,v]);exact⟨⟨n,R.beside p _⟩,ql bg (.cons bh (.cons (q.mono R n) .nil))⟩
  ·cases E
abbrev Rf(d:D):Option Nxt:=match d with
 |.tup ds=>aw (nxL ds)
 |.ref n=>aw (nxS n)
 |_=>aD
abbrev xIV(x:XE):XI:=λc S=>bnd (x c S) λd b=>match d with
 |.tup ds=>aw (nxL ds,b)
 |.ref n=>if (au b n).isSome=aN then aw (nxS n,b) else aD
 |_=>aD
abbrev xIT(x:XA):XI:=λb S=>bnd (x b S) λd c=>aw (nxL d,c)
abbrev xEV(x:XE):XI:=λc S=>bnd (x c S) λd b=>match d with
 |.tup ds=>aw (vg ds,b)
 |.ref n=>if (au b n).isSome=aN then aw (AZ n,b) else aD
 |_=>aD
abbrev xET(x:XA):XI:=λb S=>bnd (x b S) λd c=>aw (vg d,c)
abbrev lim(i:Int):Bool:=decide (-(2 ^ 62)<=i) && decide (i < 2 ^ 62)
abbrev xR1(x:XE):XI:=λb S=>bnd (x b S) λd c=>match d with
 |.int j=>if lim j=aN then aw (nxR 0 j.toNat,c) else aD
 |_=>aD
abbrev xR2(x y:XE):XI:=λb S=>bnd (x b S) λd f=>bnd (y b f) λe c=>match d,e with
 |.int i,.int j=>if lim i=aN/\lim j=aN then aw (nxR i (j - i).toNat,c) else aD
 |_,_=>aD
def fV{i:Int}(h:lim i=aN):-(2 ^ 62)<=i/\i < 2 ^ 62:=by simpa[lim] using h
def kY{n:Nat}(b:m0[n]?=aw a)(x:m0 <+: m)(R:Rel K m S H)(hs:au S n=aw d):∃vs,SqL K H a vs/\VDs K m H d vs:=by
 obtain⟨p,vs,h,c,vd⟩:=R.seq hs;have:=kP x b;rw[this] at h;cases h;exact⟨vs,c,vd⟩
def Og(b:AtB B m H)(h:H a=aD):a ∉ B:=λz=>by
 obtain⟨⟨v,e⟩,_⟩:=b a z;rw[h] at e;cases e
def QL(h:tIt K B (xIV x) L H R):zS K (tE K x) L H R\/ND K (tE K x) L H R:=by
 obtain⟨m,Q,S,nx,S',E,J,Z,e,q⟩:=h;obtain⟨d,S1,I,e⟩:=ae e;cases d with
 |tup ds=>
  cases e;refine .inr ⟨m,Q,S,_,_,E,J,I,λm1 u v b vd=>?_⟩;obtain⟨a,z,rfl,j,f⟩:=vd.tups;exact⟨a,rfl,⟨z,.of j⟩,q m1 u _ b (Ew b.rel (Z.ext b.ext) j f)⟩
 |ref n=>
  dsimp only at e;split at e
  ·rename_i hs;cases e;refine .inl ⟨m,Q,S,_,_,E,J,I,λm1 u v b vd=>?_⟩;obtain⟨a,O,rfl⟩:=vd.refs;obtain⟨ds,p⟩:=Z9.mp hs;obtain⟨z,j,f⟩:=kY O (Ym _) b.rel p;refine⟨a,rfl,⟨z,j⟩,q m1 u _ b (sG λm2 U H2 i o T R2 c=>?_)⟩;unfold nxS at c;cases C:au U n with
   |none=>rw[C] at c;cases c
   |some Y=>
    rw[C] at c;cases c;obtain⟨ws,k,y⟩:=kY O T.pre R2 C;exact⟨Y,ws,rfl,k,y⟩
  ·cases e
 |_=>cases e
def QM(h:tIt K B (xIT x) C H R):zS K (eP K x) C H R:=by
 obtain⟨m,I,S,nx,T,E,p,d,e,q⟩:=h;obtain⟨u,U,j,e⟩:=ae e;cases e;refine⟨m,I,S,_,_,E,p,j,λm1 k a v b f y J n vd=>⟨a,rfl,⟨v,.of f⟩,q m1 k _ b (sG λL O Q i o c R2 z=>?_)⟩⟩;cases z;exact⟨u,v,rfl,.of (c.keep _ _ f y (Og d n)),vd.monoB b.rel (d.ext b.ext) c⟩
def Oh(h:tIt K B (xEV x) U H R):Jo K (cf (tE K x) jy) U H R\/N5 K (cf (tE K x) jy) U H R:=by
 obtain⟨m,Z,S,nx,S',E,L,Q,e,q⟩:=h;obtain⟨d,S1,J,e⟩:=ae e;cases d with
 |tup T=>
  cases e;refine .inr ⟨m,Z,S,_,_,E,L,J,λm1 z v b vd=>?_⟩;obtain⟨a,k,rfl,p,f⟩:=vd.tups;refine⟨a,k,rfl,.of p,q m1 z _ b (qx λm2 O H2 i o j R2 c=>⟨T,k,c,.of (Eu b.rel (Q.ext b.ext) j p),f.monoB b.rel (Q.ext b.ext) j⟩)⟩
 |ref n=>
  dsimp only at e;split at e
  ·rename_i hs;cases e;refine .inl ⟨m,Z,S,_,_,E,L,J,λm1 z v b vd=>?_⟩;obtain⟨a,Y,rfl⟩:=vd.refs;obtain⟨T,y⟩:=Z9.mp hs;obtain⟨k,p,f⟩:=kY Y (Ym _) b.rel y;refine⟨a,k,rfl,p,q m1 z _ b (qx λm2 O H2 i o j R2 c=>?_)⟩;unfold AZ at c;cases I:au O n with
   |none=>rw[I] at c;cases c
   |some es=>
    rw[I] at c;obtain⟨ws,u,C⟩:=kY Y j.pre R2 I;exact⟨es,ws,c,u,C⟩
  ·cases e
 |_=>cases e
def Oi(h:tIt K B (xET x) C H R):Jo K (cf (eP K x) jy) C H R:=by
 obtain⟨m,I,S,nx,T,E,p,d,e,q⟩:=h;obtain⟨u,U,j,e⟩:=ae e;cases e;exact⟨m,I,S,_,_,E,p,j,λm1 k a v b f y J n vd=>⟨a,v,rfl,.of f,q m1 k _ b (qx λL O Q i o c R2 z=>⟨u,v,z,.of (c.keep _ _ f y (Og d n)),vd.monoB b.rel (d.ext b.ext) c⟩)⟩⟩
def Oj(h:tIt K B (xR1 x) f H R):Hs (cf (tE K x) jy) f H R:=by
 obtain⟨m,p,S,nx,z,E,c,C,e,q⟩:=h;obtain⟨d,n,k,e⟩:=ae e;refine⟨m,p,S,d,n,E,c,k,λm1 y v u vd=>?_⟩;cases d with
 |int j=>
  dsimp only at e;split at e
  ·rename_i b;cases e;exact⟨j,by rw[vd.ints],(fV b).1,(fV b).2,q m1 y _ u wQ⟩
  ·cases e
 |_=>cases e
def Ol(h:tIt K B (xR2 x y) Q H R):Ht (cf (tE K x) (cf (tE K y) jy)) Q H R:=by
 obtain⟨m,p,S,nx,U,E,k,Y,e,q⟩:=h;obtain⟨d,n,u,e⟩:=ae e;obtain⟨c,C,O,e⟩:=ae e;refine⟨m,p,S,d,n,E,k,u,λm1 T v f vd=>⟨m1,p,n,c,C,E.mono k f.ext,f.rel,O,λz I w L J=>?_⟩⟩;cases d with
 |int i=>
  cases c with
  |int j=>
   dsimp only at e;split at e
   ·rename_i b;cases e;exact⟨i,j,by rw[vd.ints,J.ints],⟨(fV b.1).1,(fV b.1).2,(fV b.2).1,(fV b.2).2⟩,q z I _ (f.trans L) wQ⟩
   ·cases e
  |_=>cases e
 |_=>cases e
inductive Tg where
 |name (i:Nat) |tup (ts:List Tg)
mutual
noncomputable def ax:Tg->D->Rho->Option Rho
 |.name i,d,ρ=>if i < ρ.length then aw (ρ.set i (aw d)) else aD
 |.tup ts,.tup ds,ρ=>aM ts ds ρ
 |_,_,_=>aD
noncomputable def aM:List Tg->List D->Rho->Option Rho
 |[],[],ρ=>aw ρ
 |t::ts,d::ds,ρ=>match ax t d ρ with
  |some b=>aM ts ds b
  |none=>aD
 |_,_,_=>aD
end
abbrev tTg(K:Vk)(t:Tg):TG:=λx h H Q=>∃m S f d c,Rel K m S H/\EnvR K m H f h/\VD K m H d x/\ax t d f=aw c/\∀b,EnvR K m H c b->Q b H
abbrev A0(K:Vk)(T:List Tg):TGs:=λj h H Q=>∃m S d f c,Rel K m S H/\EnvR K m H d h/\VDs K m H f j/\aM T f d=aw c/\∀b,EnvR K m H c b->Q b H
def EnvR.set{i:Nat}(E:EnvR K m H n k)(h:VD K m H d v):EnvR K m H (n.set i (aw d)) (k.set i (aw v)):=by
 refine⟨by simp[E.len],λj c e=>?_⟩;rw[Yw] at e;rw[Yw,<-E.len];by_cases b:i=j
 ·rw[if_pos b] at e ⊢;split at e
  ·rename_i f;rw[if_pos f];cases e;exact⟨v,rfl,h⟩
  ·cases e
 ·rw[if_neg b] at e ⊢;exact E.at_ j c e
def qy{i:Nat}(h:tTg K (.name i) x b H Q):rF i x b H Q:=by
 obtain⟨m,S,f,d,c,R,E,vd,e,q⟩:=h;simp only[ax] at e;split at e
 ·cases e;exact q _ (E.set vd)
 ·cases e
def JQ{n:Nat}(u:n=T.length)(h:tTg K (.tup T) x j H Q):NA K n (A0 K T) x j H Q:=by
 obtain⟨m,S,f,d,b,R,E,vd,e,q⟩:=h;cases d with
 |tup c=>
  simp only[ax] at e;obtain⟨a,k,rfl,p,v⟩:=vd.tups;refine⟨a,k,rfl,.of p,?_,m,S,f,c,b,R,E,v,e,q⟩
  have len:∀ (T:List Tg) (c:List D) (f b:Rho),aM T c f=aw b->T.length=c.length:=by
   intro T
   induction T with
   |nil=>intro c f b e;cases c with |nil=>rfl |cons _ _=>simp[aM] at e
   |cons t T I=>
    intro c f b e;cases c with
    |nil=>simp[aM] at e
    |cons d c=>
     simp only[aM] at e;split at e
     ·simp[I _ _ _ e]
     ·cases e
  rw[u,<-v.length];exact(len _ _ _ _ e).symm
 |_=>simp[ax] at e
def Ex(h:A0 K [] c b H Q):Nz c b H Q:=by
 obtain⟨m,S,j,f,d,R,E,vd,e,q⟩:=h;cases f with
 |nil=>simp[aM] at e;subst e;rw[VDs] at vd;exact⟨vd,q _ E⟩
 |cons _ _=>simp[aM] at e
def A6(h:A0 K (t::T) u k H Q):Hr (tTg K t) (A0 K T) u k H Q:=by
 obtain⟨m,S,j,f,c,R,E,vd,e,q⟩:=h;cases f with
 |nil=>simp[aM] at e
 |cons d f=>
  simp only[aM] at e;rw[VDs] at vd;obtain⟨y,r,rfl,p,v⟩:=vd;cases hb:ax t d j with
  |none=>rw[hb] at e;cases e
  |some b=>
   rw[hb] at e;exact⟨y,r,rfl,m,S,j,d,b,R,E,p,hb,λn z=>⟨m,S,b,f,c,R,z,v,e,q⟩⟩
def PG.imp(h:PG X e t)(f:∀x b H Q,t' x b H Q->t x b H Q):PG X e t':=λp s b H v u Q I r q=>h p s b H v u Q I r (f v b H Q q)
def PGs.imp(h:PGs X E t)(f:∀x b H Q,t' x b H Q->t x b H Q):PGs X E t':=λp s b H v u Q I r q=>h p s b H v u Q I r (f v b H Q q)
end
inductive Fl where
 |nx |bk |ct |rt (d:D)
@[inline]abbrev XS:=Rho->Sto->Option (Fl × Rho × Sto)
abbrev A7(K:Vk)(m:List Addr)(H:Hp)(f:Fl)(c:Rho)(D:Ends):Prop:=match f with
 |.nx=>∀b,EnvR K m H c b->D.nx b H
 |.bk=>∀b,EnvR K m H c b->D.bk b H
 |.ct=>∀b,EnvR K m H c b->D.ct b H
 |.rt d=>∀v,VD K m H d v->D.rt v H
abbrev tSt(K:Vk)(x:XS):TS:=λD k H=>∃m d S j b c,EnvR K m H d k/\Rel K m S H/\x d S=aw (j,b,c)/\∀f h,Aft K m H c f h->A7 K f h j b D
section
variable {X:Cx} {K:Vk} {m:List Addr} {H:Hp} {S:Sto}
abbrev A8(x y:XS):XS:=λb S=>match x b S with
 |none=>aD
 |some (.nx,ρ1,S1)=>y ρ1 S1
 |some r=>aw r
abbrev HD:XS:=λb S=>aw (.nx,b,S)
def Ey{D:Ends}{b:L2.St}{H:Hp}(h:tSt K HD D b H):Hn D b H:=by
 obtain⟨m,f,S,j,c,d,E,R,e,q⟩:=h;cases e;exact q m H (Aft.refl R) b E
def JR{x y:XS}{D:Ends}{n:L2.St}{H:Hp}(h:tSt K (A8 x y) D n H):Nv (tSt K x) (tSt K y) D n H:=by
 obtain⟨m,u,S,O,k,I,E,R,e,q⟩:=h;unfold A8 at e;cases f:x u S with
 |none=>rw[f] at e;cases e
 |some r=>
  obtain⟨v,b,p⟩:=r;rw[f] at e;refine⟨m,u,S,v,b,p,E,R,f,λm1 j c=>?_⟩;cases v with
  |nx=>exactλz J=>⟨m1,b,p,O,k,I,J,c.rel,e,λB C L=>q B C (c.trans L)⟩
  |bk=>cases e;exact q m1 j c
  |ct=>cases e;exact q m1 j c
  |rt d=>cases e;exact q m1 j c
abbrev sH(x:XE):XS:=λb S=>match x b S with
 |none=>aD
 |some (_,S1)=>aw (.nx,b,S1)
abbrev A9(x:XE):XS:=λb S=>match x b S with
 |none=>aD
 |some (d,S1)=>aw (.rt d,b,S1)
abbrev Om:XS:=λb S=>aw (.ct,b,S)
def Ez{x:XE}{D:Ends}{b:L2.St}{H:Hp}(h:tSt K (sH x) D b H):Hq (tE K x) D b H:=by
 obtain⟨m,f,S,y,k,p,E,R,e,q⟩:=h;unfold sH at e;cases c:x f S with
 |none=>rw[c] at e;cases e
 |some r=>
  obtain⟨d,u⟩:=r;rw[c] at e;cases e;exact⟨m,f,S,d,_,E,R,c,λm1 n v j _=>q m1 n j b (E.mono R j.ext)⟩
def JS{x:XE}{D:Ends}{c:L2.St}{H:Hp}(h:tSt K (A9 x) D c H):Nw (tE K x) D c H:=by
 obtain⟨m,f,S,y,j,p,E,R,e,q⟩:=h;unfold A9 at e;cases b:x f S with
 |none=>rw[b] at e;cases e
 |some r=>
  obtain⟨d,u⟩:=r;rw[b] at e;cases e;exact⟨m,f,S,d,_,E,R,b,λm1 k v n vd=>q m1 k n v vd⟩
def JT{D:Ends}{b:L2.St}{H:Hp}(h:tSt K Om D b H):Ho D b H:=by
 obtain⟨m,f,S,j,c,d,E,R,e,q⟩:=h;cases e;exact q m H (Aft.refl R) b E
abbrev xIf(c:XT)(x y:XS):XS:=λd S=>match c d S with
 |none=>aD
 |some (b,S1)=>if b=aN then x d S1 else y d S1
def Oo{c:XT}{x y:XS}{D:Ends}{z:L2.St}{H:Hp}(h:tSt K (xIf c x y) D z H):Nx (tT K c) (tSt K x) (tSt K y) D z H:=by
 obtain⟨m,j,S,C,f,B,E,R,e,q⟩:=h;unfold xIf at e;cases n:c j S with
 |none=>rw[n] at e;cases e
 |some r=>
  obtain⟨b,v⟩:=r;rw[n] at e;dsimp only at e;refine⟨m,j,S,b,v,E,R,n,λm1 I d=>?_⟩;dsimp only;split
  ·rename_i hb;rw[if_pos hb] at e;exact⟨m1,j,v,C,f,B,E.mono R d.ext,d.rel,e,λk p u=>q k p (d.trans u)⟩
  ·rename_i hb;rw[if_neg hb] at e;exact⟨m1,j,v,C,f,B,E.mono R d.ext,d.rel,e,λk p u=>q k p (d.trans u)⟩
abbrev mz(x:XE)(t:Tg):XS:=λc S=>match x c S with
 |none=>aD
 |some (d,S1)=>(ax t d c).map λb=>(.nx,b,S1)
def vh{x:XE}{t:Tg}{D:Ends}{k:L2.St}{H:Hp}(h:tSt K (mz x t) D k H):zQ (tE K x) (tTg K t) D k H:=by
 obtain⟨m,b,S,C,n,z,E,R,e,q⟩:=h;unfold mz at e;cases c:x b S with
 |none=>rw[c] at e;cases e
 |some r=>
  obtain⟨d,B⟩:=r;rw[c] at e;dsimp only at e;cases hb:ax t d b with
  |none=>rw[hb] at e;cases e
  |some u=>
   rw[hb] at e;cases e;exact⟨m,b,S,d,_,E,R,c,λm1 p v j vd=>⟨m1,_,b,d,_,j.rel,E.mono R j.ext,vd,hb,λf y=>q m1 p j f y⟩⟩
abbrev sI(v o i:XE):XS:=λb S=>match v b S with
 |none=>aD
 |some (dv,S1)=>match o b S1 with
  |none=>aD
  |some (d_o,S2)=>match i b S2 with
   |none=>aD
   |some (di,S3)=>(jI d_o di dv S3).map λc=>(.nx,b,c)
def EA{v o i:XE}{D:Ends}{C:L2.St}{H:Hp}(h:tSt K (sI v o i) D C H):zQ (tE K v) (NB (tE K o) (tE K i) (Od K)) D C H:=by
 obtain⟨m,c,S,fl,ρ',S',E,R,e,q⟩:=h;unfold sI at e;cases k:v c S with
 |none=>rw[k] at e;cases e
 |some r1=>
  obtain⟨L,I⟩:=r1;rw[k] at e;dsimp only at e;cases B:o c I with
  |none=>rw[B] at e;cases e
  |some r2=>
   obtain⟨z,n⟩:=r2;rw[B] at e;dsimp only at e;cases y:i c n with
   |none=>rw[y] at e;cases e
   |some T=>
    obtain⟨u,O⟩:=T;rw[y] at e;dsimp only at e;cases h4:jI z u L O with
    |none=>rw[h4] at e;cases e
    |some S4=>
     rw[h4] at e;cases e;refine⟨m,c,S,L,I,E,R,k,λm1 H1 v1 d j=>⟨m1,c,I,z,n,E.mono R d.ext,d.rel,B,λY H2 v2 b p=>⟨Y,c,n,u,O,E.mono R (d.trans b).ext,b.rel,y,λZ H3 v3 f J=>?_⟩⟩⟩;exact⟨Z,O,z,u,L,_,f.rel,p.mono b.rel f.ext,J,j.mono d.rel (b.trans f).ext,h4,λm4 U Q=>q m4 U (((d.trans b).trans f).trans Q) C (E.mono R (((d.trans b).trans f).trans Q).ext)⟩
abbrev eV(nx:Nxt)(T:Tg)(b:XS):Nat->Nat->XS
 |0,_=>λ_ _=>aD
 |k+1,i=>λf S=>match nx i S with
  |none=>aD
  |some aD=>aw (.nx,f,S)
  |some (aw d)=>match ax T d f with
   |none=>aD
   |some c=>match b c S with
    |none=>aD
    |some (.nx,ρ2,S2)=>eV nx T b k (i+1) ρ2 S2
    |some (.ct,ρ2,S2)=>eV nx T b k (i+1) ρ2 S2
    |some (.bk,ρ2,S2)=>aw (.nx,ρ2,S2)
    |some (.rt d,ρ2,S2)=>aw (.rt d,ρ2,S2)
abbrev Ba(I:XI)(T:Tg)(b:XS)(k:Nat):XS:=λc S=>match I c S with
 |none=>aD
 |some (nx,S1)=>eV nx T b k 0 c S1
abbrev lpW(K:Vk)(nx:Nxt)(T:Tg)(b:XS)(m1:List Addr)(q:Hp)(D:Ends)(i k:Nat)(p:L2.St)(H:Hp):Prop:=∃m j S n c d,EnvR K m H j p/\Rel K m S H/\Ext m1 q m H/\eV nx T b k i j S=aw (n,c,d)/\∀f h,Aft K m H d f h->A7 K f h n c D
def EB{nx:Nxt}{T:Tg}{b:XS}{J:It}{m1:List Addr}{Y:Hp}{D:Ends}(hI:IOk K [] J nx m1 Y)(k:Nat){m:List Addr}{I:Rho}{S:Sto}{j:L2.St}{H:Hp}{L:Fl}{c:Rho}{C:Sto}(E:EnvR K m H I j)(R:Rel K m S H)(x:Ext m1 Y m H)(e:eV nx T b k 0 I S=aw (L,c,C))(q:∀U h,Aft K m H C U h->A7 K U h L c D) :
  ∃W:Nat->Nat->L2.St->Hp->Prop,(∃m,W 0 m j H)/\∀i m j H,W i m j H ->
   (J.stop i H/\D.nx j H)\/(J.go i H/\∃N:L2.St->Hp->Prop,(∀n h,N n h->∃U,U < m/\W (i+1) U n h)/\∀x h,J.yld i H x h->tTg K T x j h λO H2=>tSt K b { D with nx:=N,ct:=N,bk:=D.nx } O H2):=by
 refine⟨lpW K nx T b m1 Y D,⟨k,m,I,S,L,c,C,E,R,x,e,q⟩,?_⟩;intro i k j H z;obtain⟨m,I,S,L,c,C,E,R,x,e,q⟩:=z;cases k with
 |zero=>simp[eV] at e
 |succ k=>
  simp only[eV] at e;cases hn:nx i S with
  |none=>rw[hn] at e;cases e
  |some o=>
   rw[hn] at e;obtain⟨h1,h2⟩:=hI m S H i (x.toB λb hb=>absurd hb (by simp)) R;cases o with
   |none=>cases e;exact .inl ⟨h1 hn,q m H (Aft.refl R) j E⟩
   |some d=>
    obtain⟨go,hy⟩:=h2 d hn;dsimp only at e;cases hb:ax T d I with
    |none=>rw[hb] at e;cases e
    |some B=>
     rw[hb] at e;dsimp only at e;cases hx:b B S with
     |none=>rw[hx] at e;cases e
     |some r=>
      obtain⟨f2,p,S2⟩:=r;rw[hx] at e;refine .inr ⟨go,lpW K nx T b m1 Y D (i+1) k,λn h z=>⟨k,Y9 k,z⟩,λy h yl=>?_⟩;obtain⟨A,vd⟩:=hy y h yl;refine⟨m,S,I,d,B,A.rel,E.mono R A.ext,vd,hb,λO E2=>⟨m,B,S,f2,p,S2,E2,A.rel,hx,λZ H3 f=>?_⟩⟩;cases f2 with
      |nx=>exactλu Q=>⟨Z,p,S2,L,c,C,Q,f.rel,(x.trans A.ext).trans f.ext,e,λm4 H4 A4=>q m4 H4 ((A.trans f).trans A4)⟩
      |ct=>exactλu Q=>⟨Z,p,S2,L,c,C,Q,f.rel,(x.trans A.ext).trans f.ext,e,λm4 H4 A4=>q m4 H4 ((A.trans f).trans A4)⟩
      |bk=>cases e;exactλu Q=>q Z H3 (A.trans f) u Q
      |rt d=>cases e;exactλv vd=>q Z H3 (A.trans f) v vd
def JU{I:XI}{T:Tg}{b:XS}{k:Nat}{D:Ends}{d:L2.St}{H:Hp}(h:tSt K (Ba I T b k) D d H):NF (tIt K [] I) (tTg K T) (tSt K b) D d H:=by
 obtain⟨m,f,S,C,u,B,E,R,e,q⟩:=h;unfold Ba at e;cases hi:I f S with
 |none=>rw[hi] at e;cases e
 |some r=>
  obtain⟨nx,v⟩:=r;rw[hi] at e;exact⟨m,f,S,nx,v,E,R,λb hb=>absurd hb (by simp),hi,λm1 z J c y=>EB y k (E.mono R c.ext) c.rel (Ext.refl _ _) e λj n p=>q j n (c.trans p)⟩
end
mutual
noncomputable def dj:Tg->Rho->Bool
 |.name i,ρ=>match ρ[i]? with
  |some aD=>aN
  |_=>aS
 |.tup ts,ρ=>fW ts ρ
noncomputable def fW:List Tg->Rho->Bool
 |[],_=>aN
 |t::ts,ρ=>dj t ρ && fW ts ρ
end
structure LeR(ρ ρ':Rho):Prop where
 len:ρ.length=ρ'.length
 at_:∀ (i:Nat) (d:D),ρ[i]?=aw (aw d)->ρ'[i]?=aw (aw d)
def LeR.refl(ρ:Rho):LeR ρ ρ:=⟨rfl,λ_ _ h=>h⟩
mutual
theorem sJ:∀ {t:Tg} {d:D} {k b:Rho},LeR c k->dj t c=aN->ax t d k=aw b->LeR c b
 |.name i,d,k,b,l,f,e=>by
  simp only[ax] at e;split at e
  ·cases e;refine⟨by simp[l.len],λj p h=>?_⟩;rw[Yw];by_cases n:i=j
   ·subst n;simp only[dj] at f;rw[h] at f;cases f
   ·rw[if_neg n];exact l.at_ j p h
  ·cases e
 |.tup ts,.tup ds,k,b,l,f,e=>by
  simp only[ax] at e;simp only[dj] at f;exact oT l f e
 |.tup ts,.non,_,_,_,_,e=>by simp[ax] at e
 |.tup ts,.bl _,_,_,_,_,e=>by simp[ax] at e
 |.tup ts,.int _,_,_,_,_,e=>by simp[ax] at e
 |.tup ts,.str _,_,_,_,_,e=>by simp[ax] at e
 |.tup ts,.ref _,_,_,_,_,e=>by simp[ax] at e
theorem oT:∀ {T:List Tg} {j:List D} {h b:Rho},LeR c h->fW T c=aN->aM T j h=aw b->LeR c b
 |[],[],h,b,l,_,e=>by simp only[aM] at e;cases e;exact l
 |[],_::_,_,_,_,_,e=>by simp[aM] at e
 |_::_,[],_,_,_,_,e=>by simp[aM] at e
 |t::T,d::j,h,b,l,f,e=>by
  simp only[aM] at e;simp only[fW,bAE] at f;cases hb:ax t d h with
  |none=>rw[hb] at e;cases e
  |some k=>rw[hb] at e;exact oT (sJ l f.1 hb) f.2 e
end
section
variable {X:Cx} {K:Vk} {m:List Addr} {H:Hp} {S:Sto}
def EnvR.weaken(E:EnvR K m H b σ)(l:LeR c b):EnvR K m H c σ:=⟨l.len.trans E.len,λi d h=>E.at_ i d (l.at_ i d h)⟩
abbrev bu(nx:Nxt)(T:Tg)(c:XA)(f:Rho):Nat->Nat->Sto->Option (List D × Sto)
 |0,_,_=>aD
 |k+1,i,S=>match nx i S with
  |none=>aD
  |some aD=>aw ([],S)
  |some (aw d)=>match ax T d f with
   |none=>aD
   |some b=>bnd (c b S) λE j=>bnd (bu nx T c f k (i+1) j) λn h=>aw (E++n,h)
abbrev Bb(t:XT)(c:XA):XA:=λf S=>bnd (t f S) λb d=>if b=aN then c f d else aw ([],d)
abbrev HE(x:XE):XA:=λb S=>bnd (x b S) λd c=>aw ([d],c)
abbrev jJ(I:XI)(T:Tg)(c:XA)(k:Nat):XA:=λb S=>if dj T b=aN then bnd (I b S) λnx d=>bu nx T c b k 0 d else aD
abbrev mB(own:Nat)(I:XI)(T:Tg)(c:XA)(k:Nat):XA:=λb S=>bnd (I b S) λnx f=>if dj T (b++Zx own aD)=aN then
 (bnd (bu nx T c (b++Zx own aD) k 0 f) λE d=>if E.length<=100000 then aw (E,d) else aD) else aD
abbrev tCl(K:Vk)(b:Addr)(c:XA):TS:=λD p H=>∃m j S E k z n,EnvR K m H j p/\Rel K m S H/\b ∉ m/\H b=aw (.lst n)/\VDs K m H z n/\z.length+E.length<=100000/\c j S=aw (E,k) ∧
 ∀f h d v,ExtB [b] m H f h->Rel K f k h->h b=aw (.lst v)->VDs K f h (z++E) v->EnvR K f h j d->D.nx d h
def Bc(h:H c=aw (.lst v))(n:c ∉ m):AtB [c] m H:=λb hb=>by simp at hb;subst hb;exact⟨⟨v,h⟩,n⟩
def ExtB.refl(n:c ∉ m):ExtB [c] m H m H:=⟨Ym m,λ_ _ h _ _=>h,λ_ h n=>absurd h n,λb hb=>by simp at hb;subst hb;exact n⟩
def ExtB.put(n:c ∉ m)(o:HO):ExtB [c] m H m (upd H c o):=⟨Ym m,λa u h _ nb=>by
 rw[aB (λz=>nb (by simp[z]))];exact h,λ_ h n=>absurd h n,λb hb=>by simp at hb;subst hb;exact n⟩
def Rel.extB(R:Rel K m S H)(c:AtB [d] m H)(x:ExtB [d] m H m H')(k:∀b ∈ m,H' b=H b):Rel K m S H':=by
 refine⟨R.len,R.nd,λi o e=>?_⟩;obtain⟨b,hb,r⟩:=R.ob i o e;have h:b ∈ m:=Zc hb;refine⟨b,hb,?_⟩;cases o with
 |lst f=>obtain⟨v,p,q⟩:=r;exact⟨v,(k b h).trans p,VDs.monoB R c x q⟩
 |frz f=>obtain⟨o,v,p,q⟩:=r;exact⟨o,v,(k b h).trans p,VDs.monoB R c x q⟩
 |dic j f=>obtain⟨v,p,l,q⟩:=r;exact⟨v,(k b h).trans p,l,VDs.monoB R c x q⟩
def EC{c:Addr}{x:XE}{D:Ends}{y:L2.St}{H:Hp}(h:tCl K c (HE x) D y H):Hx c (tE K x) D y H:=by
 obtain⟨m,T,S,Z,U,zs,u,E,R,I,J,C,O,e,q⟩:=h;obtain⟨d,S1,L,e⟩:=ae e;cases e;refine⟨m,T,S,d,_,E,R,L,λm1 B v j vd=>?_⟩;have Q:=Bc J I;have k:B c=aw (.lst u):=j.ext.keep _ _ J I;have xB:=j.ext.toB Q;have n:c ∉ m1:=xB.nb c (by simp);have p:=ExtB.put (H:=B) n (.lst (u++[v]));have f:=Bc k n;have Y:=C.length;simp only[Zr] at O;refine⟨u,k,by rw[Uh];lia,q m1 _ y (u++[v]) (xB.trans p) (j.rel.extB f p λb hb=>aB λz=>n (z ▸ hb)) bg ?_ ((E.mono R j.ext).monoB j.rel f p)⟩;exact VDs.append ((C.mono R j.ext).monoB j.rel f p) (.cons (vd.monoB j.rel f p) .nil)
def ED{d:Addr}{t:XT}{c:XA}{D:Ends}{p:L2.St}{H:Hp}(h:tCl K d (Bb t c) D p H):fB (tT K t) (tCl K d c) D p H:=by
 obtain⟨m,J,S,Z,Y,zs,v,E,R,B,I,z,T,e,q⟩:=h;obtain⟨b,C,L,e⟩:=ae e;refine⟨m,J,S,b,C,E,R,L,λm1 y f=>?_⟩;have hB:=Bc I B;have j:y d=aw (.lst v):=f.ext.keep _ _ I B;have xB:=f.ext.toB hB;have n:d ∉ m1:=xB.nb d (by simp);dsimp only;split
 ·rename_i hb;rw[if_pos hb] at e;exact⟨m1,J,C,Z,Y,zs,v,E.mono R f.ext,f.rel,n,j,z.mono R f.ext,T,e,λQ U k u O R2 h2 v2 E2=>q Q U k u (xB.trans O) R2 h2 v2 E2⟩
 ·rename_i hb;rw[if_neg hb] at e;cases e;refine q m1 y p v xB f.rel j ?_ (E.mono R f.ext);rw[ZN];exact z.mono R f.ext
def sK{t:TS}{D:Ends}{b:L2.St}{H:Hp}(h:t D b H):fB D0 t D b H:=by
 show if aN=aN then t D b H else D.nx b H
 rw[if_pos rfl];exact h
def JV{b:Addr}{c:XA}{D:Ends}{d:L2.St}{H:Hp}(h:tCl K b c D d H):fB D0 (tCl K b c) D d H:=by
 exact sK h
abbrev clW(K:Vk)(b:Addr)(nx:Nxt)(T:Tg)(c:XA)(j:Rho)(m1:List Addr)(y:Hp)(u:Ends)(i k:Nat)(q:L2.St)(H:Hp):Prop:=∃m S n E z p,EnvR K m H j q/\Rel K m S H/\ExtB [b] m1 y m H/\H b=aw (.lst p)/\VDs K m H z p/\z.length+E.length<=100000/\bu nx T c j k i S=aw (E,n)/\∀f h d v,ExtB [b] m H f h->Rel K f n h->h b=aw (.lst v)->VDs K f h (z++E) v->EnvR K f h j d->u.nx d h
def wR(hI:IOk K [b] J nx m1 Q)(hts:∀D n H,tCl K b c D n H->ts D n H)(k:Nat)
  (fr:dj T f=aN) (E:EnvR K m H f n) (R:Rel K m S H) (x:ExtB [b] m1 Q m H) (u:H b=aw (.lst vs)) (B:VDs K m H zs vs) (U:zs.length+C.length<=100000) (e:bu nx T c f k 0 S=aw (C,Y))
  (q:∀O h j v,ExtB [b] m H O h->Rel K O Y h->h b=aw (.lst v)->VDs K O h (zs++C) v->EnvR K O h f j->EE.nx j h):rN J (tTg K T) ts EE n H:=by
 refine⟨clW K b nx T c f m1 Q EE,⟨k,m,S,Y,C,zs,vs,E,R,x,u,B,U,e,q⟩,?_⟩;intro i k n H z;obtain⟨m,S,Y,C,zs,vs,E,R,x,u,B,U,e,q⟩:=z;have I:b ∉ m:=x.nb b (by simp);have hB:=Bc u I;cases k with
 |zero=>simp[bu] at e
 |succ k=>
  simp only[bu] at e;cases L:nx i S with
  |none=>rw[L] at e;cases e
  |some o=>
   rw[L] at e;obtain⟨h1,h2⟩:=hI m S H i x R;cases o with
   |none=>
    cases e;exact .inl ⟨h1 L,q m H n vs (ExtB.refl I) R u (by rw[ZN];exact B) E⟩
   |some d=>
    obtain⟨go,hy⟩:=h2 d L;dsimp only at e;cases hb:ax T d f with
    |none=>rw[hb] at e;cases e
    |some p=>
     rw[hb] at e;dsimp only at e;obtain⟨e1,S1,c1,e⟩:=ae e;obtain⟨rs,S2,c2,e⟩:=ae e;cases e;rw[Zh] at U;refine .inr ⟨go,clW K b nx T c f m1 Q EE (i+1) k,λj h z=>⟨k,Y9 k,z⟩,λy h yl=>?_⟩;obtain⟨A,vd⟩:=hy y h yl;have xA:=A.ext.toB hB;have ha':h b=aw (.lst vs):=A.ext.keep _ _ u I;refine⟨m,S,f,d,p,A.rel,E.mono R A.ext,vd,hb,λσ2 E2=>hts _ _ _ ⟨m,p,S,e1,S1,zs,vs,E2,A.rel,I,ha',B.mono R A.ext,by lia,c1,λm3 H3 σ3 vs3 x3 R3 h3 v3 E3=>?_⟩⟩;refine⟨m3,S1,_,rs,zs++e1,vs3,E3.weaken (sJ (LeR.refl f) fr hb),R3,(x.trans xA).trans x3,h3,v3,by rw[Zh];lia,c2,λm4 H4 σ4 Z x4 R4 h4 v4 E4=>?_⟩;refine q m4 H4 σ4 Z ((xA.trans x3).trans x4) R4 h4 ?_ E4;rw[<-Z2];exact v4
def Bd{b:Addr}{I:XI}{T:Tg}{t:TT}{c C:XA}{k:Nat}{D:Ends}{d:L2.St}{H:Hp}(p:∀D d H,tCl K b c D d H->fB t (tCl K b C) D d H)(h:tCl K b (jJ I T c k) D d H):Ah (tIt K [b] I) (tTg K T) t (tCl K b C) D d H:=by
 obtain⟨m,ρ,S,es,S',zs,vs,E,R,y,z,O,U,e,q⟩:=h;unfold jJ at e;split at e
 ·rename_i fr;obtain⟨nx,S1,B,e⟩:=ae e;have u:=Bc z y;refine⟨m,ρ,S,nx,S1,E,R,u,B,λm1 H1 J f hI=>?_⟩;have xB:=f.ext.toB u;have n:b ∉ m1:=xB.nb b (by simp);exact wR hI p k fr (E.mono R f.ext) f.rel (ExtB.refl n) (f.ext.keep _ _ z y) (O.mono R f.ext) U e λQ Y j v L R2 h2 Z E2=>q Q Y j v (xB.trans L) R2 h2 Z E2
 ·cases e
def EnvR.more(E:EnvR K m H b c)(n:Nat):EnvR K m H (b++Zx n aD) (c++Zx n aD):=by
 refine⟨by simp[E.len],λi d e=>?_⟩;by_cases hi:i < b.length
 ·rw[Zq hi] at e;rw[Zq (by rw[<-E.len];exact hi)];exact E.at_ i d e
 ·rw[Zm (by lia),YA] at e;split at e <;> cases e
def wU{own:Nat}{k:Nat}(C:∀acc D v H,tCl K acc c D v H->fB t (tCl K acc U) D v H)(h:eP K (mB own it tg c k) v H Q):Ai own (tIt K [] it) (tTg K tg) (λacc=>fB t (tCl K acc U)) v H Q:=by
 obtain⟨m,ρ,S,es,S',E,R,e,q⟩:=h;obtain⟨nx,S1,Z,e⟩:=ae e;split at e
 ·rename_i fr;obtain⟨es',O,e2,e⟩:=ae e;split at e
  ·rename_i hl;cases e;refine⟨m,ρ,S,nx,S1,E,R,λb hb=>absurd hb (by simp),Z,λm1 L J f hI acc d=>?_⟩;have Y:=Ext.beside f.rel d (.lst []);have R0:=f.rel.beside d (.lst []);have B:=f.rel.no d
   have I:IOk K [acc] J nx m1 (upd L acc (.lst [])):=by
    intro u O H2 i j R2;refine hI u O H2 i ⟨j.pre,λa o h n _=>?_,λa h n=>?_,λb hb=>absurd hb (by simp)⟩ R2
    ·have ne:a ≠ acc:=aV h d;exact j.keep a o (by rw[aB ne];exact h) n (by simp[ne])
    ·have:=j.new a h n;by_cases p:a=acc
     ·subst p;exact d
     ·rw[aB p] at this;exact this
   refine wR (zs:=[]) (vs:=[]) I (C acc) k fr ((E.mono R f.ext |>.mono f.rel Y).more own) R0 (ExtB.refl B) bg .nil (by simpa using hl) e2 λu H2 σ2 y j R2 h2 v2 E2=>?_
   have xx:Ext m1 L u H2:=⟨j.pre,λa o h n=>by
    have ne:a ≠ acc:=aV h d;exact j.keep a o (by rw[aB ne];exact h) n (by simp[ne]),λa h n=>by
    have:=j.new a h n;by_cases p:a=acc
    ·subst p;exact d
    ·rw[aB p] at this;exact this⟩
   have hn:H acc=aD:=by
    cases eh:H acc with
    |none=>rfl
    |some o=>
     by_cases T:acc ∈ m
     ·exact absurd (f.ext.pre.subset T) B
     ·have:=f.ext.keep acc o eh T;rw[d] at this;cases this
   exact q u H2 acc y (f.trans ⟨xx,R2⟩) h2 (j.nb acc (by simp)) (λb hb z=>B (f.ext.pre.subset (z ▸ hb))) hn (by simpa using v2)
  ·cases e
 ·cases e
end
section
variable {X:Cx} {K:Vk} {m:List Addr} {H:Hp} {S:Sto}
abbrev Be(x y:XE):XE:=λb S=>bnd (x b S) λd c=>match d with
 |.bl aN=>y b c
 |.bl aS=>aw (.bl aS,c)
 |_=>aD
abbrev xOr(x y:XE):XE:=λb S=>bnd (x b S) λd c=>match d with
 |.bl aN=>aw (.bl aN,c)
 |.bl aS=>y b c
 |_=>aD
abbrev yQ:D->Sto->Option (D × Sto)
 |.bl b,S=>aw (.bl (!b),S)
 |_,_=>aD
abbrev JW:D->Sto->Option (D × Sto)
 |.int i,S=>aw (.int (-i),S)
 |_,_=>aD
abbrev JX(c:XT)(x y:XE):XE:=λd S=>bnd (c d S) λb f=>if b=aN then x d f else y d f
def Bf(h:tE K (Be x y) p H Q):Hk (tE K x) (tE K y) p H Q:=by
 obtain⟨m,j,S,d,z,E,R,e,q⟩:=h;obtain⟨a,f,u,e⟩:=ae e;refine⟨m,j,S,a,f,E,R,u,λm1 C v c B=>?_⟩;cases a with
 |bl b=>
  refine⟨b,B.bls,?_⟩;cases b with
  |true=>exact⟨m1,j,f,d,z,E.mono R c.ext,c.rel,e,λk n w I vd=>q k n w (c.trans I) vd⟩
  |false=>cases e;exact q m1 C _ c bD
 |_=>cases e
def HF(h:tE K (xOr x y) p H Q):Nu (tE K x) (tE K y) p H Q:=by
 obtain⟨m,j,S,d,z,E,R,e,q⟩:=h;obtain⟨a,f,u,e⟩:=ae e;refine⟨m,j,S,a,f,E,R,u,λm1 C v c B=>?_⟩;cases a with
 |bl b=>
  refine⟨b,B.bls,?_⟩;cases b with
  |false=>exact⟨m1,j,f,d,z,E.mono R c.ext,c.rel,e,λk n w I vd=>q k n w (c.trans I) vd⟩
  |true=>cases e;exact q m1 C _ c bD
 |_=>cases e
def JY(h:tE K (xUn yQ x) c H Q):Hl (tE K x) c H Q:=by
 obtain⟨m,n,S,d,y,E,R,e,q⟩:=h;obtain⟨a,j,f,e⟩:=ae e;refine⟨m,n,S,a,j,E,R,f,λm1 u v p k=>?_⟩;cases a with
 |bl b=>cases e;exact⟨b,k.bls,q m1 u _ p bD⟩
 |_=>cases e
def EF:UnR X (unaryOp .USub) (rS1 X.K JW):=by
 intro p s b H x v Q I f h;refine pY p s b H x v Q I f ?_;obtain⟨m,S,a,d,j,R,c,e,q⟩:=h;cases a with
 |int i=>cases e;exact⟨i,c.ints,q m H _ (Aft.refl R) bh⟩
 |_=>cases e
def JZ(h:tE K (JX c x y) z H Q):tIf (tT K c) (tE K x) (tE K y) z H Q:=by
 obtain⟨m,p,S,d,v,E,R,e,q⟩:=h;obtain⟨b,n,B,e⟩:=ae e;refine⟨m,p,S,b,n,E,R,B,λm1 C f=>?_⟩;dsimp only;split
 ·rename_i hb;rw[if_pos hb] at e;exact⟨m1,p,n,d,v,E.mono R f.ext,f.rel,e,λj k w u vd=>q j k w (f.trans u) vd⟩
 ·rename_i hb;rw[if_neg hb] at e;exact⟨m1,p,n,d,v,E.mono R f.ext,f.rel,e,λj k w u vd=>q j k w (f.trans u) vd⟩
abbrev yR(f g:D->D->Sto->Option (D × Sto))(x y z:XE):XE:=λd S=>bnd (x d S) λa n=>bnd (y d n) λb j=>bnd (f a b j) λr h=>match r with
 |.bl aN=>bnd (z d h) λc k=>g b c k
 |.bl aS=>aw (.bl aS,h)
 |_=>aD
def Bg(h:tE K (yR f g x y z) σ H Q):ul (rS K f) (rS K g) (tE K x) (tE K y) (tE K z) σ H Q:=by
 obtain⟨m,C,S,d,S',E,R,e,q⟩:=h;obtain⟨a,O,U,e⟩:=ae e;obtain⟨b,I,e2,e⟩:=ae e;obtain⟨r,T,e3,e⟩:=ae e;refine⟨m,C,S,a,O,E,R,U,λm1 H1 v n va=>⟨m1,C,O,b,I,E.mono R n.ext,n.rel,e2,λZ H2 w j vb=>?_⟩⟩;refine⟨Z,I,a,b,r,T,j.rel,va.mono n.rel j.ext,vb,e3,λJ H3 u p vr=>?_⟩;cases r with
 |bl k=>
  refine⟨k,vr.bls,?_⟩;cases k with
  |true=>
   dsimp only at e;obtain⟨c,L,e4,e⟩:=ae e;exact⟨J,C,T,c,L,E.mono R ((n.trans j).trans p).ext,p.rel,e4,λm4 H4 y B vc=>⟨m4,L,b,c,d,S',B.rel,vb.mono j.rel (p.trans B).ext,vc,e,λm5 Y t A5 vd=>q m5 Y t ((((n.trans j).trans p).trans B).trans A5) vd⟩⟩
  |false=>cases e;exact q J H3 _ ((n.trans j).trans p) bD
 |_=>cases e
abbrev Bh(x y:XT):XT:=λc S=>bnd (x c S) λb d=>if b=aN then y c d else aw (aS,d)
abbrev J0(x y:XT):XT:=λc S=>bnd (x c S) λb d=>if b=aN then aw (aN,d) else y c d
abbrev Bi(x:XT):XT:=λc S=>bnd (x c S) λb d=>aw (!b,d)
def Bj(h:tT K (Bh x y) p H Q):Nr (tT K x) (tT K y) p H Q:=by
 obtain⟨m,j,S,d,v,E,R,e,q⟩:=h;obtain⟨b,f,u,e⟩:=ae e;refine⟨m,j,S,b,f,E,R,u,λm1 z c=>?_⟩;dsimp only;split
 ·rename_i hb;rw[if_pos hb] at e;exact⟨m1,j,f,d,v,E.mono R c.ext,c.rel,e,λk n B=>q k n (c.trans B)⟩
 ·rename_i hb;rw[if_neg hb] at e;cases e;exact q m1 z c
def HG(h:tT K (J0 x y) p H Q):tOr (tT K x) (tT K y) p H Q:=by
 obtain⟨m,j,S,d,v,E,R,e,q⟩:=h;obtain⟨b,f,u,e⟩:=ae e;refine⟨m,j,S,b,f,E,R,u,λm1 z c=>?_⟩;dsimp only;split
 ·rename_i hb;rw[if_pos hb] at e;cases e;exact q m1 z c
 ·rename_i hb;rw[if_neg hb] at e;exact⟨m1,j,f,d,v,E.mono R c.ext,c.rel,e,λk n B=>q k n (c.trans B)⟩
def J1(h:tT K (Bi x) c H Q):Nt (tT K x) c H Q:=by
 obtain⟨m,j,S,d,p,E,R,e,q⟩:=h;obtain⟨b,u,f,e⟩:=ae e;cases e;exact⟨m,j,S,b,_,E,R,f,λm1 n k=>q m1 n k⟩
@[inline]abbrev Calls:=Nat->List D->Sto->Option (D × Sto)
abbrev spC(K:Vk)(g:List D->Sto->Option (D × Sto))(n:Nat):Sp:=λj H Q _=>∃m b S d c,VDs K m H b j/\Rel K m S H/\b.length=n/\g b S=aw (d,c)/\∀f h v,Aft K m H c f h->VD K f h d v->Q v h
abbrev kh(g:List D->Sto->Option (D × Sto))(n:Nat)(x:XA):XE:=λc S=>bnd (x c S) λd b=>if d.length=n then g d b else aD
def wV{n:Nat}(h:tE K (kh g n x) C H Q):oo (spC K g n) [] E0 (tAr K x) C H Q:=by
 obtain⟨m,I,S,d,z,E,R,e,q⟩:=h;obtain⟨b,c,j,e⟩:=ae e;split at e
 ·rename_i u;refine⟨m,I,S,b,c,E,R,j,λm1 J L f vd=>⟨m1,b,c,d,z,by rw[ZN];exact vd,f.rel,u,e,λp y v B k=>q p y v (f.trans B) k⟩⟩
 ·cases e
abbrev Bk(g g':List D->Sto->Option (D × Sto))(n f:Nat)(y:XE)(x:XA):XE:=λb S=>bnd (y b S) λd c=>match d with
 |.int k=>if k=0 then kh g n x b c else if k=1 then kh g' f x b c else aD
 |_=>aD
abbrev HH(K:Vk)(f d:Addr)(k b:Sp)(T:TE)(t:TA):TE:=λh H Q=>∀a,H a=aD->T h (upd H a (.lst [.ref f,.ref d])) λv n=>Je K (.ref a) v n λu j=>∃c:Bool,u = .ref (if c then d else f)/\oo (if c then b else k) [] E0 t h j Q
def Bl{X:Cx}{k:Nat}{f n:Addr}{fd B:W7}{ps z:List Str}{sp j:Sp}{x y:Str}{p p' lp xp b:Pos}{e T:Expr}{E:List Expr}{ti:TE}{t:TA}(F:FnOk X.prog X.w X.K X.mg X.base CX0 k f fd ps sp)(F':FnOk X.prog X.w X.K X.mg X.base CX0 k n B z j)(hr:Room k X.A)(hg:Gl X x)(hm:X.mg x=aw (.ref f))(hk:Vs X.K (.ref f)=aN)(hb:iS X.K fd ps [])
  (U:Gl X y) (hm':X.mg y=aw (.ref n)) (Y:Vs X.K (.ref n)=aN) (hb':iS X.K B z []) (hi:PE X T ti) (hp:qb T) (ha:PA X (e::E) t) (hdb:(x == ("__debug__" : Str))=aS) (u:(y == ("__debug__" : Str))=aS) (he:Uj (e::E) X.env=(aS,eval e X.env)::Uj E X.env) (Z:(backTo b (Uj E X.env)).any (·.1)=aS) :
  PE X (.Call (.Subscript (.List [.Name x p,.Name y p'] lp) T xp) (e::E) [] b) (HH X.K f n sp j ti t):=by
 intro d s C H Q I h;show wpAny _ _ (eval (.Subscript (.List [.Name x p,.Name y p'] lp) T xp) X.env >>= λfv=>callWith b fv [] (backTo b (Uj (e::E) X.env)) (VE b (VZ [] X.env))) _ _ s;refine Us (thn ((z6 DU (zX (pZ (pX (v:=.ref f) hg hm rfl hdb) (pZ (pX (v:=.ref n) U hm' rfl u) uq rfl) rfl)) hi hp) d s C H (λv O=>∃c:Bool,v = .ref (if c then n else f)/\oo (if c then j else sp) [] E0 t C O Q) I ?_) λfv s1 ⟨v,O,I1,rv,c,hv,L⟩=>?_)
 ·refine⟨by rw[Uh];show 2<=16777216;decide,λa h0=>?_⟩;exact h a h0
 ·subst hv
  have J:∀ {g:Addr} {fg:W7} {pg:List Str} {sg:Sp},FnOk X.prog X.w X.K X.mg X.base CX0 k g fg pg sg->Vs X.K (.ref g)=aN->iS X.K fg pg []->oo sg [] E0 t C O Q->wpAny (model X.prog X.w) X.A (callWith b (.ref g) [] (backTo b (Uj (e::E) X.env)) (VE b (VZ [] X.env))) (EP X d C Q) X.xe s1:=λG hk hb L=>
   Vl (h₀:=X.base) I.ok.mod.kin hk (thn (ha b d s1 C O _ I1 L) λus s2 ⟨vs,H2,I2,r,q⟩=>⟨I2.kIn,zY (dvs:=[]) G hr hb .nil Hw I2 r q⟩) he Z
  cases c with
  |true=>cases rv;exact J F' Y hb' L
  |false=>cases rv;exact J F hk hb L
def EG{f I:Addr}{n T:Nat}(h:tE K (Bk g g' n T y x) U H Q):HH K f I (spC K g n) (spC K g' T) (tE K y) (tAr K x) U H Q:=by
 obtain⟨m,z,S,d,B,E,R,e,q⟩:=h;obtain⟨b,u,Y,e⟩:=ae e;intro a c;have p:Ext m H m (upd H a (.lst [.ref f,.ref I])):=Ext.beside R c _;refine⟨m,z,S,b,u,E.mono R p,R.beside c _,Y,λm1 Z v j vb=>?_⟩;have O:=SqL.of (K:=K) (j.ext.keep _ _ bg (R.no c));have go:∀ {w:List D->Sto->Option (D × Sto)} {l:Nat},kh w l x z u=aw (d,B)->oo (spC K w l) [] E0 (tAr K x) U Z Q:=λe=>wV ⟨m1,z,u,d,B,(E.mono R p).mono (R.beside c _) j.ext,j.rel,e,λm2 H2 v J vv=>q m2 H2 v ⟨p.trans (j.ext.trans J.ext),J.rel⟩ vv⟩;cases b with
 |int k=>
  cases vb.ints;dsimp only at e;by_cases C:k=0
  ·subst C;rw[if_pos rfl] at e;exact⟨a,_,_,_,rfl,rfl,O,rfl,aS,rfl,go e⟩
  ·rw[if_neg C] at e;by_cases L:k=1
   ·subst L;rw[if_pos rfl] at e;exact⟨a,_,_,_,rfl,rfl,O,rfl,aN,rfl,go e⟩
   ·rw[if_neg L] at e;cases e
 |_=>cases e
end
abbrev hX(x y:Int × List Int):Bool:=if x.1=y.1 then HT.cT x.2 y.2 else decide (x.1 < y.1)
def sL:∀ns:List Int,HT.cT ns ns=aS
 |[]=>rfl
 |n::ns=>by rw[HT.lP,if_pos rfl];exact sL ns
def kZ{b:List Value}{ns:List Int}(h:IntsAre b ns):∀ (j:Nat) v,b[j]?=aw v->∃n t,ns[j]?=aw n/\v = .int n t:=by
 induction h with
 |nil=>intro j v e;simp at e
 |cons a t _ I=>
  intro j v e;cases j with
  |zero=>cases e;exact⟨a,t,rfl,rfl⟩
  |succ j=>exact I j v (by simpa using e)
def yS{A:Around}{s:Shared}{p q:Addr}{X y:Array Value}{ns ms:List Int}(J:A.units < cLine)(B:s.heap.IsTuple p X)(C:s.heap.IsTuple q y)(I:IntsAre X.toList ns)(d:IntsAre y.toList ms):∃e,Vb A s (.ref p) (.ref q) e/\(e=aN ↔ ns=ms):=by
 by_cases e:p=q
 ·subst e;obtain⟨o,ho,_,n,hd⟩:=B;obtain⟨U,h,_,Y,c⟩:=C;rw[ho] at h;cases h;rw[hd] at c;cases c
  have en:ns=ms:=by
   have l1:=I.length;have L:=d.length;refine YV λj=>?_;cases f:X.toList[j]? with
   |none=>
    have:=Z8.mp f;rw[Zs (by lia),Zs (by lia)]
   |some v=>
    obtain⟨a,t,E,rfl⟩:=kZ I j v f;obtain⟨b,Z,k,z⟩:=kZ d j _ f;cases z;rw[E,k]
  exact⟨aN,.same _,by simp[en]⟩
 ·refine⟨_,.of_refs e (SeqAt.RcAt.tuples (e:=λj=>decide (ns[j]?=ms[j]?)) B C J λj O Q=>?_),?_⟩
  ·obtain⟨a,t,E,z⟩:=kZ I j X[j] (by simp[O]);obtain⟨b,u,k,T⟩:=kZ d j y[j] (by simp[Q]);rw[E,k,z,T,show decide (aw a=aw b)=(a == b) by simp[Y4]];exact .int_int a t b u
  ·have l1:ns.length=X.size:=by rw[<-I.length];exact ZC
   have L:ms.length=y.size:=by rw[<-d.length];exact ZC
   rw[<-l1,<-L,ug,decide_eq_true_eq]
section
open PySem.SeqAt
open PySem.AutoSeq1 (wpAny_loadPart')
open PySem.MeetsSeq PySem.MeetsSeq2 PySem.MeetsSeq3
def oh(l b:Addr)(x y:Int)(t u:Tok)(p q:Addr)(n n2:Nat)(dd L:Option Addr)(sl J:Array (Option Value))(ns I:List Int) :
  Meets (Builtin.«tuple.__lt__» ⟨[.ref l,.ref b],[]⟩)
   (λA R s=>s.heap.get? l=aw { cls:=.type "tuple", dict:=dd,data:=.seq #[.int x t,.ref p] n,slots:=sl }/\s.heap.get? b=aw { cls:=.type "tuple", dict:=L,data:=.seq #[.int y u,.ref q] n2,slots:=J } ∧
    (∃X Y,IsTup s.heap p X/\IsTup s.heap q Y/\IntsAre X.toList ns/\IntsAre Y.toList I)/\A.in1.units < cLine ∧
    R (.ok (.ret (.bool (hX (x,ns) (y,I))))) s):=
 .of_wp λprog w A R s h=>by
  obtain⟨B,g,d,T,os⟩:=s;obtain⟨hl,hb,⟨X,Y,Z,tq,i1,i2⟩,hu,h⟩:=h;have f2:=AutoSeq1.sub_tuple_tuple
  wp_walk using UD hl,UD hb,Uy _ (λc b U=>b.1=aD/\U=⟨B,g,d,T,os⟩/\((c=[(.int x t,.int y u),(.ref p,.ref q)])\/(c=[(.ref p,.ref q)]/\x=y)\/(c=[]/\x=y/\ns=I))) _
  case turn=>
   rintro⟨v,z⟩ c b U ⟨C,rfl,j⟩;rcases j with j |⟨j,hxy⟩ |⟨j,_⟩
   ·injection j with hvz hrest;injection hvz with hv hz;subst hv hz;obtain⟨e,O,f⟩:=HT.rK A.in1 ⟨B,g,d,T,os⟩ x t y u;refine Us (O prog w _ _ ?_);cases e with
    |true=>
     wp_walk
     exact⟨rfl,rfl,.inr (.inl ⟨hrest,f.mp rfl⟩)⟩
    |false=>
     have k:=HT.rL A.in1 ⟨B,g,d,T,os⟩ x t y u prog w
     wp_walk using k
     refine⟨_,rfl,?_⟩;unfold hX at h;rw[if_neg (λq=>absurd (f.mpr q) Zg)] at h
     simpa using h
   ·injection j with hvz hrest;injection hvz with hv hz;subst hv hz hxy;obtain⟨e,O,f⟩:=yS (A:=A.in1) (s:=⟨B,g,d,T,os⟩) hu Z tq i1 i2;refine Us (O prog w _ _ ?_);unfold hX at h;rw[if_pos rfl] at h;cases e with
    |true=>
     wp_walk
     exact⟨rfl,rfl,.inr (.inr ⟨hrest,rfl,f.mp rfl⟩)⟩
    |false=>
     have k:∀ (E:Value->Shared->Prop) (Q:Value->Shared->Prop),Q (.bool (HT.cT ns I)) ⟨B,g,d,T,os⟩->wpAny (model prog w) A.in1 (Ub .Lt (.ref p) (.ref q)) Q E ⟨B,g,d,T,os⟩:=λE Q hq=>HT.uu (s:=⟨B,g,d,T,os⟩) Z tq i1 i2 hu hq
     wp_walk using k
     exact⟨_,rfl,by simpa using h⟩
   ·cases j
  case fin=>
   rintro⟨b1,b2⟩ U ⟨C,rfl,j⟩;simp only at C;subst C;rcases j with j |⟨j,_⟩ |⟨_,hxy,hnm⟩
   ·cases j
   ·cases j
   ·subst hxy hnm;unfold hX at h;rw[if_pos rfl,sL] at h
    wp_walk
    exact⟨_,rfl,by simpa[Builtin.Tuple.tupleCompareSizes] using h⟩
  case h=>exact⟨rfl,rfl,.inl rfl⟩
end
section
variable {prog:Program} {w:World} {A:Around} {R:Result->Shared->Prop} {I S:Addr} {fp wr:List Addr} {n:Nat} {P:Nat->Value->Prop} {St:Nat->Heap->Prop} {bt:Nat->Nat->Bool} {base:Heap} {d:Value}
abbrev J2(prog:Program)(w:World)(A:Around)(base:Heap)(P:Nat->Value->Prop)(bt:Nat->Nat->Bool):Prop:=
 ∀i j b v (s:Shared) (Q:Value->Shared->Prop) (E:Value->Shared->Prop),(∀a o,base.get? a=aw o->s.heap.get? a=aw o)->P i b->P j v->Q (.bool (bt i j)) s->wpAny (model prog w) A (Ub .Lt b v) Q E s
def Bm(a d:Value):argsOk "min" ⟨[a],[(Str.ofString "default", d)]⟩:=by unfold argsOk;kernel_rfl
def wW:(toString "min" ++ toString ".loop" : String) = "min.loop" := by decide
def mD(W:Walks prog w A.in1 I fp wr n P St)(U:J2 prog w A.in1 base P bt)(C:S ∉ fp)(bw:∀a ∈ wr,base.get? a=aD)(Q:base.get? S=aD):∀ (m i:Nat) (s:Shared) (b:Value) (c:Nat),i+1+m=n->St (i+1) s.heap->P (argBest bt i) b->(∀a o,base.get? a=aw o->s.heap.get? a=aw o)->s.heap.get? S=aw { cls:=.type "list", dict:=aD,data:=.seq #[b,b] c,slots:=#[] } ->
  (∀v h' E,P (argBest bt (n - 1)) v->(∀a o,a ∉ wr->a ≠ S->s.heap.get? a=aw o->h'.get? a=aw o)->R (.ok (.ret v)) { s with heap:=h',toks:=E })->codeAny (model prog w) A (.builtin "min.loop" ⟨[.ref I,.none,.ref S],[(Str.ofString "default", d)]⟩) R s
 |0,i,s,b,c,e,st,pb,kb,gs,r=>by
  have L:S ∉ wr:=λh=>C (W.sub _ h);refine VO WT ?_;rw[Around.under_plainId WZ _];show wpAny _ A.in1 (Uf (.ref S) >>= _) _ _ s;refine Us (UR gs rfl ?_);show wpAny _ A.in1 (tryCatch (pyNext (.ref I)) _ >>= _) _ _ s;refine Us (UW (W.done s _ _ (by rw[<-e];exact st) λh' E j=>?_));show wpAny _ A.in1 (Uq S (λ_=>#[]) >>= _) _ _ _;refine Us (UY (j S _ L gs) rfl (Us (UB (UI ?_))));exact r b _ E (by rw[<-e];exact pb) λa o f y z=>(ZK _ _ (Ne.symm y)).trans (j a o f z)
 |m+1,i,s,b,c,e,st,pb,kb,gs,r=>by
  have L:S ∉ wr:=λh=>C (W.sub _ h);refine VO WT ?_;rw[Around.under_plainId WZ _];show wpAny _ A.in1 (Uf (.ref S) >>= _) _ _ s;refine Us (UR gs rfl ?_);show wpAny _ A.in1 (tryCatch (pyNext (.ref I)) _ >>= _) _ _ s;refine Us (UW (W.item (i+1) s _ _ (by lia) st λv h' E X B j=>?_));have q:=j S _ L gs;have Y:∀a o,base.get? a=aw o->a ∉ wr/\a ≠ S:=λa o h=>⟨λz=>(by rw[bw a z] at h;cases h),λz=>(by rw[z,Q] at h;cases h)⟩;have k:∀a o,base.get? a=aw o->h'.get? a=aw o:=λa o h=>j a o (Y a o h).1 (kb a o h);show wpAny _ A.in1 (tryCatch (holding [v,v] (Ub .Lt v b >>= _)) _ >>= _) _ _ _;refine Us (UW (UA (Us (U (i+1) (argBest bt i) v b _ _ _ k X pb ?_))));refine Us (UA (UV ?_));refine Us (UB (UI ?_));cases hb:bt (i+1) (argBest bt i) with
  |true=>
   simp only[if_true];refine Us (UY q rfl (Us (UB ?_)));rw[wW];refine UI ⟨V8 WZ _,mD W U C bw Q m (i+1) _ v _ (by lia) (W.frame _ _ _ B λa af o z=>?_) (by simp only[argBest,hb,if_true];exact X) (λa o h=>(ZK _ _ (Ne.symm (Y a o h).2)).trans (k a o h)) (Yi _ q rfl) λO u T p J=>?_⟩
   ·exact(ZK _ _ (λz:S=a=>C (by rw[z];exact af))).trans z
   ·exact r O u T p λa o f y z=>J a o f y ((ZK _ _ (Ne.symm y)).trans (j a o f z))
  |false=>
   simp only[ZP,if_false];refine Us (UB ?_);rw[wW];refine UI ⟨V8 WZ _,mD W U C bw Q m (i+1) _ b c (by lia) B (by simp only[argBest,hb,ZP,if_false];exact pb) k q λO u T p J=>?_⟩;exact r O u T p λa o f y z=>J a o f y (j a o f z)
def yT{s:Shared}(W:Walks prog w A.in1 I fp wr n P St)(X:J2 prog w A.in1 base P bt)(q:S ∉ fp)(bw:∀a ∈ wr,base.get? a=aD)(B:base.get? S=aD)(J:0 < n){c:Nat}(st:St 0 s.heap)(Y:∀a o,base.get? a=aw o->s.heap.get? a=aw o)(gs:s.heap.get? S=aw { cls:=.type "list", dict:=aD,data:=.seq #[] c,slots:=#[] })
  (r:∀v h' E,P (argBest bt (n - 1)) v->(∀a o,a ∉ wr->a ≠ S->s.heap.get? a=aw o->h'.get? a=aw o)->R (.ok (.ret v)) { s with heap:=h',toks:=E }):codeAny (model prog w) A (.builtin "min.loop" ⟨[.ref I,.none,.ref S],[(Str.ofString "default", d)]⟩) R s:=by
 have O:S ∉ wr:=λh=>q (W.sub _ h);refine VO WT ?_;rw[Around.under_plainId WZ _];show wpAny _ A.in1 (Uf (.ref S) >>= _) _ _ s;refine Us (UR gs rfl ?_);show wpAny _ A.in1 (tryCatch (pyNext (.ref I)) _ >>= _) _ _ s;refine Us (UW (W.item 0 s _ _ J st λv h' E U j k=>?_));have b:=k S _ O gs;have C:∀a o,base.get? a=aw o->a ∉ wr/\a ≠ S:=λa o h=>⟨λz=>(by rw[bw a z] at h;cases h),λz=>(by rw[z,B] at h;cases h)⟩;show wpAny _ A.in1 (Uq S (λ_=>#[v,v]) >>= _) _ _ _;refine Us (UY b rfl ?_);rw[wW];refine UI ⟨V8 WZ _,mD W X q bw B (n - 1) 0 _ v _ (by lia) (W.frame _ _ _ j λa af o z=>?_) U (λa o h=>(ZK _ _ (Ne.symm (C a o h).2)).trans (k a o (C a o h).1 (Y a o h))) (Yi _ b rfl) λQ f T p L=>?_⟩
 ·exact(ZK _ _ (λz:S=a=>q (by rw[z];exact af))).trans z
 ·exact r Q f T p λa o u y z=>L a o u y ((ZK _ _ (Ne.symm y)).trans (k a o u z))
def Bn{s:Shared}(W:Walks prog w A.in1 I fp wr 0 P St)(b:S ∉ fp){c:Nat}(st:St 0 s.heap)(gs:s.heap.get? S=aw { cls:=.type "list", dict:=aD,data:=.seq #[] c,slots:=#[] })
  (r:∀h' T,(∀a o,a ∉ wr->s.heap.get? a=aw o->h'.get? a=aw o)->R (.ok (.ret d)) { s with heap:=h',toks:=T }):codeAny (model prog w) A (.builtin "min.loop" ⟨[.ref I,.none,.ref S],[(Str.ofString "default", d)]⟩) R s:=by
 refine VO WT ?_;rw[Around.under_plainId WZ _];show wpAny _ A.in1 (Uf (.ref S) >>= _) _ _ s;refine Us (UR gs rfl ?_);show wpAny _ A.in1 (tryCatch (pyNext (.ref I)) _ >>= _) _ _ s;refine Us (UW (W.done s _ _ st λh' T k=>?_));exact Us (UQ (UI (r h' T k)))
variable {E:Value->Shared->Prop} {s:Shared} {l:Addr} {its:Array Value} {Q:Value->Shared->Prop}
def Bo(j:s.heap.IsList l its)
  (h:∀c:Shared,c={ s with heap:=s.heap.push { cls:=.type "list_iterator", data:=.fields #[.ref l,.int 0 0] } } ->
   (c.heap.IsListIter s.heap.objs.size l 0/\c.heap.IsList l its)->(∀b ∈ [s.heap.objs.size,l],b < c.heap.objs.size)->l ≠ s.heap.objs.size->Q (.ref s.heap.objs.size) c) :
  wpAny (model prog w) A (pyIter (.ref l)) Q E s:=by
 have f:l < s.heap.objs.size:=by obtain⟨_,e,_⟩:=j;exact Zt e
 refine UK j (h _ rfl ⟨⟨_,ZA _ rfl,rfl,rfl⟩,j.push _⟩ (λb hb=>?_) (ZI f));show b < (s.heap.push _).objs.size;rw[Yt];simp only[Zn,Wh,or_false] at hb;rcases hb with rfl |rfl
 ·exact Y9 _
 ·exact YZ f
def Bp(z:A.handled=aD)(p:s.heap.IsList l its)(y:J2 prog w A.in1 s.heap (λi v=>its[i]?=aw v) bt)
  (k:0 < its.size->∀v h' T,its[argBest bt (its.size - 1)]?=aw v->(∀b o,s.heap.get? b=aw o->h'.get? b=aw o)->Q v { s with heap:=h',toks:=T })
  (C:its.size=0->∀h' T,(∀b o,s.heap.get? b=aw o->h'.get? b=aw o)->Q d { s with heap:=h',toks:=T }):wpAny (model prog w) A (call (.builtin "min") [.ref l] [(Str.ofString "default", d)]) Q E s:=by
 refine kmb_tree F.kind_min F.plain_min F.entry_min (Bm _ _) ?_;show wpAny _ A.in1 (Builtin.Builtins.bindParams "min" ["key", "default"] 0 ⟨[],[(Str.ofString "default", d)]⟩ >>= _) _ _ s;refine Us (UG (show Builtin.Builtins.bindParams "min" ["key", "default"] 0 ⟨[],[(Str.ofString "default", d)]⟩=pure [aD,aw d] from rfl) ?_);refine Us (UI ?_);refine Us (Bo p λO e st f L=>?_);subst e;have W:=Walks.list (prog:=prog) (w:=w) (A:=A.in1) z s.heap.objs.size l L its;refine Us (UF ?_);have U:∀b ∈ [s.heap.objs.size,l],b < (s.heap.push { cls:=.type "list_iterator", data:=.fields #[.ref l,.int 0 0] }).objs.size:=f;rw[wW]
 have B:s.heap.get? s.heap.objs.size=aD:=by
  cases q:s.heap.get? s.heap.objs.size with
  |none=>rfl
  |some o=>exact absurd (Zt q) (ZR _)
 by_cases j:its.size=0
 ·rw[j] at W;refine UI ⟨V8 WZ _,Bn W (λc=>ZR _ (f _ c)) (W.frame _ _ _ st λb _ o e=>Zf _ e) (ZA _ rfl) λh' T h=>?_⟩;exact C j h' T (V7 λb o hb e=>h b o hb (Zf _ e))
 ·refine UI ⟨V8 WZ _,yT (base:=s.heap) W y (λc=>ZR _ (f _ c)) ?_ ?_ (by lia) (W.frame _ _ _ st λb _ o e=>Zf _ e) (λa o e=>Zf _ (Zf _ e)) (ZA _ rfl) λv h' T u h=>?_⟩
  ·intro a J;rw[ZM.mp J];exact B
  ·cases q:s.heap.get? (s.heap.push { cls:=.type "list_iterator", data:=.fields #[.ref l,.int 0 0] }).objs.size with
   |none=>rfl
   |some o=>have:=Zt q;rw[Yt] at this;lia
  ·exact k (by lia) v h' T u (V7 λb o hb e=>h b o hb (ZI (Zt e)) (Zf _ e))
end
abbrev Bq:D->Option (Int × List Int)
 |.tup [.int n,.tup es]=>(fD es).map λns=>(n,ns)
 |_=>aD
abbrev oU:List D->Option (List (Int × List Int))
 |[]=>aw []
 |d::ds=>match Bq d,oU ds with
  |some w,aw ws=>aw (w::ws)
  |_,_=>aD
abbrev hY(b:List (Int × List Int))(i j:Nat):Bool:=hX (b.getD i (0,[])) (b.getD j (0,[]))
abbrev oi(T:Bool)(d:List D)(S:Sto):Option (D × Sto):=match T,oU d with
 |false,aw ws=>aw (d.getD (argBest (hY ws) (d.length - 1)) .non,S)
 |_,_=>aD
def wX:∀ {f:List D} {c:List (Int × List Int)},oU f=aw c->c.length=f.length/\∀ (i:Nat) d,f[i]?=aw d->∃w,c[i]?=aw w/\d = .tup [.int w.1,.tup (w.2.map D.int)]
 |[],_,e=>by cases e;exact⟨rfl,λi d h=>by simp at h⟩
 |d::f,c,e=>by
  simp only[oU] at e;split at e
  ·rename_i w p b k;cases e;obtain⟨l,r⟩:=wX k;refine⟨by rw[Zo,Zo,l],λi j h=>?_⟩;cases i with
   |zero=>
    cases h;refine⟨w,rfl,?_⟩;unfold Bq at b;split at b
    ·rename_i n q;obtain⟨ns,E,rfl⟩:=ZV.mp b;rw[eA E]
    ·cases b
   |succ i=>exact r i j (by simpa using h)
  ·cases e
section
variable {X:Cx} {K:Vk} {m:List Addr} {H:Hp} {S:Sto} {e:Expr} {t:TA} {p pos kp vp:Pos} {j:Nat}
def oV{c:List (Addr × Obj)}{Z:L2.St}{s:Shared}(I:Inv X c Z H s){n:Int}{ns:List Int}{v:V}{u:Value}(vd:VD X.K m H (.tup [.int n,.tup (ns.map D.int)]) v)(r:aJ v u) :
  ∃l t q o nn f sl d,u = .ref l/\o=(⟨.type "tuple", f,.seq #[.int n t,.ref q] nn,sl⟩:Obj)/\s.heap.get? l=aw o/\IsTup s.heap q d/\IntsAre d.toList ns:=by
 obtain⟨l,vs,rfl,J,Q⟩:=vd.tups;obtain⟨a,b,rfl,va,vb⟩:=yG Q;clear Q;cases va.ints;obtain⟨q,ws,rfl,E,O⟩:=vb.tups;have Y:=cQ O;subst Y;cases r;obtain⟨_,its,U,o,B,z,nn,k,h4⟩:=I.hok l _ J;obtain⟨x,y,rfl,r1,r2⟩:=rH U;obtain⟨tk,rfl⟩:=r1;cases r2;obtain⟨d,L,T,_⟩:=I.tuple (.of E);obtain⟨C,f,h,sl⟩:=o;simp only at z k;subst z k;exact⟨l,tk,q,_,nn,f,sl,d.toArray,rfl,rfl,B,T,by simpa using bx L⟩
def J3(hu:X.A.units+64 < cLine)(hc:X.calm=aN)(hg:Gl X "min")(hm:X.mg "min" = aD)(hdb:(("min" : Str) == ("__debug__" : Str))=aS)(ha:PA X [e] t)(he:Uj [e] X.env=(aS,eval e X.env)::Uj [] X.env) :
  PE X (.Call (.Name "min" p) [e] [⟨aw "default", .Constant .none j vp,kp⟩] pos) (tCB (r1 (rSq X.K oi)) t):=by
 intro f s σ H Q I h;refine Ur (dA I hg hm WG ?_ (by decide) hdb);refine callWith_kw (thn (ha pos f s σ H _ I h) λus s1 ⟨vs,H1,I1,r,q1⟩=>?_) (by rw[he];rfl) (by rw[he];rfl) rfl rfl;refine thn (wq (nm:=aw "default") (kpos:=kp) (zI (X:=X) (j:=j) (pos:=vp)) zZ pos f s1 σ H1 _ I1 (show cf (tC .non) jy σ H1 (λzs c=>zs=[.non]/\c=H1) from ⟨rfl,rfl⟩)) λks s2 ⟨zs,c,C,rz,ez,eH⟩=>?_;subst ez eH;obtain⟨u,rfl,ru⟩:=bR rz;cases ru;obtain⟨_,rfl,m,S,tu,k,a,ws,d,S',R,rfl,sq,vd,U,q⟩:=bW q1;obtain⟨u',rfl,ru'⟩:=bR r;cases ru';unfold oi at U;split at U
 ·rename_i T hw;cases U;obtain⟨lw,at_⟩:=wX hw;have sq:SqL X.K c a ws:=sq;obtain⟨b,rv,pl,hz⟩:=C.list sq;have ld:=vd.length;have lr:=rv.length
  have there:∀ (i:Nat) v,b.toArray[i]?=aw v->∃x d,k[i]?=aw d/\T[i]?=aw x/\d = .tup [.int x.1,.tup (x.2.map D.int)]/\∃y,ws[i]?=aw y/\VD X.K m c d y/\aJ y v:=λi v B=>by
   have B:b[i]?=aw v:=by simpa using B
   have hi:i < k.length:=by have:=(Zb.mp B).1;lia
   obtain⟨y,O,vy⟩:=vd.get (gEG hi);obtain⟨v',J,ry⟩:=rv.get O;rw[B] at J;cases J;obtain⟨x,L,ex⟩:=at_ i _ (gEG hi);exact⟨x,_,gEG hi,L,ex,y,O,vy,ry⟩
  refine Bp (bt:=hY T) (C.ok.hd hc) pl.isList ?_ (λE v h' Z B hk=>?_) (λE h' Z hk=>?_)
  ·intro i j vi vj s3 Q3 E3 kp pi pj hq;obtain⟨x,d1,n,L,rfl,y1,_,v1,r1⟩:=there i vi pi;obtain⟨y,d2,hd2,O,rfl,y2,_,v2,r2⟩:=there j vj pj;obtain⟨l1,t1,p1,o1,n1,dd1,sl1,xs1,rfl,rfl,g1,tp1,i1⟩:=oV C v1 r1;obtain⟨l2,t2,p2,o2,n2,dd2,sl2,xs2,rfl,rfl,g2,Y,i2⟩:=oV C v2 r2
   have e:hY T i j=hX x y:=by
    unfold hY;rw[ZE,ZE,L,O];rfl
   rw[e] at hq
   exact Uc (op:=.Lt) ⟨_,kp _ _ g1,rfl⟩ ⟨_,kp _ _ g2,rfl⟩ W6 WW (WQ _ _) (oh l1 l2 x.1 y.1 t1 t2 p1 p2 n1 n2 dd1 dd2 sl1 sl2 x.2 y.2)
    ⟨kp _ _ g1,kp _ _ g2,⟨xs1,xs2,tp1.keeps kp,Y.keeps kp,i1,i2⟩,(show X.A.units+1+1 < cLine by lia),show Value.bool (hX x y) ≠ Value.notImplemented/\Q3 (.bool (hX x y)) s3 from ⟨(λz=>nomatch z),hq⟩⟩ (show X.A.units+1 < cLine by lia)
  ·have hn:0 < k.length:=by have:b.toArray.size=b.length:=Zl;lia
   obtain⟨x,d1,n,L,ed,y1,_,v1,r1⟩:=there _ v B;have e:b.toArray.size=k.length:=by rw[Zl];lia
   rw[e] at n;refine⟨y1,c,C.kept hk,r1,?_⟩;rw[show k.getD (argBest (hY T) (k.length - 1)) .non=d1 by rw[ZE,n];rfl] at q;exact q m c _ (Aft.refl R) v1
  ·have en:k=[]:=ZT.mp (by rw[Zl] at E;lia);subst en;exact⟨.non,c,C.kept hk,rfl,q m c _ (Aft.refl R) qk⟩
 ·cases U
end
end Ev
namespace L2
open PySem PySem.Spec PyProof.Rows
abbrev Itd(hi:Int)(n:Nat):It:=⟨λi _=>i < n,λi H x h=>h=H/\x = .int (hi - i),λi _=>n<=i⟩
def yU{P:Program}{w:World}{K:Vk}{tg:Expr}(it:Addr)(lo:Int)(n:Nat):Turn P w K tg (Itd lo n) [it] it (λi h=>W8 h it (lo+(i:Nat) * (-1)) ((n:Int) - (i:Nat)) (-1)) where
 mem:=by simp
 obj:=λi h st b hb=>by
  have e:b=it:=by simpa using hb
  subst e
  exact⟨_,st,λv z=>by
   have Z:Data.fields _=Data.cell v:=z;cases Z⟩
 keep:=λi h d st k=>k it (by simp) _ st
 item:=by
  intro X L B j u i p s T H E I f st C;subst L B j;obtain⟨y,Q,f2,q,J,O⟩:=f it (by simp);have W:=Walks.range (prog:=X.prog) (w:=X.w) (I.ok.hd u) it lo (-1) n;refine W.item i s _ _ C st λv d U Y c kk=>?_;obtain⟨t,rfl⟩:=Y;have I1:Inv X p T H { s with heap:=d,toks:=U }:=I.turned (λb o hb e=>kk b o (by simpa using hb) e) y Q q J O;refine⟨_,rfl,wn (s:={ s with heap:=d,toks:=U }) (n := "range_iterator") c rfl rfl (by decide) ⟨.int (lo - i),H,I1,⟨t,?_⟩,⟨rfl,rfl⟩,c,λb hb=>(f b hb).1⟩⟩
  congr 1
  omega
 done:=by
  intro X L B j u i p s T H E I f st C;subst L B j;obtain⟨y,Q,f2,q,J,O⟩:=f it (by simp);exact UP (I.ok.hd u) st (by have:n<=i:=C;omega) λd eb=>⟨rfl,I.turned (t':=s.toks) (λb o hb e=>eb b o hb e) y Q q J O⟩
 self:=λ_ _ _ _ _ st h=>UL st h
section
variable {X:Cx} {tg:Expr}
def vm{a:Int}(b:-(2 ^ 62)<=a)(h:a < 2 ^ 62):Builtin.Range.small a (-1) (-1)=aN:=by
 unfold Builtin.Range.small;rw[VA];simp only[Builtin.Range.rangeFitsLong,bAE,YT,decide_eq_true_eq,beq_iff_eq,show ¬ (-1:Int) > 0 by decide,if_false];split <;> omega
def EH{p:List (Addr × Obj)}{d:St}{H:Hp}{s:Shared}{R:It->Hp->Prop}{E:Value->Shared->Prop}{lo:Int}{t u v:Tok}{T:Nat}(I:Inv X p d H s)(j:-(2 ^ 62)<=lo)(h:lo < 2 ^ 62)
  (q:R (Itd lo (lo+1).toNat) H):wpAny (model X.prog X.w) X.A (pyIter (.ref s.heap.objs.size)) (PIE X p d tg R) E { s with heap:=s.heap.push { cls:=.type "range", data:=.fields #[.int lo t,.int (-1) u,.int (-1) v] },toks:=T }:=by
 refine wpAny_pyIter_range (IsRange.new ..) (vm j h) ?_;have c:Inv X p d H { s with heap:=s.heap.push { cls:=.type "range", data:=.fields #[.int lo t,.int (-1) u,.int (-1) v] },toks:=T }:=I.kept λb o e=>Zf _ e
 refine⟨(s.heap.push { cls:=.type "range", data:=.fields #[.int lo t,.int (-1) u,.int (-1) v] }).objs.size,[(s.heap.push { cls:=.type "range", data:=.fields #[.int lo t,.int (-1) u,.int (-1) v] }).objs.size],_,_,H,rfl,
  c.kept (t':=T) λb o e=>Zf _ e,yU _ lo (lo+1).toNat,?_,λb hb=>?_,q⟩
 ·have k:lo+((0:Nat):Int) * (-1)=lo:=by simp
  have f:(((lo+1).toNat:Nat):Int) - ((0:Nat):Int)=Builtin.Range.rangeSize lo (-1) (-1):=by rw[VA];split <;> omega
  show W8 _ _ (lo+((0:Nat):Int) * (-1)) ((((lo+1).toNat:Nat):Int) - ((0:Nat):Int)) (-1);rw[k,f];exact ZA _ rfl
 ·have e:b=(s.heap.push { cls:=.type "range", data:=.fields #[.int lo t,.int (-1) u,.int (-1) v] }).objs.size:=by simpa using hb
  subst e;exact c.fpOk (Ze _) (c.hok.fresh (Ze _))
abbrev iDn(T:TA):TI:=λb H R=>T b H λv h=>∃i:Int,v=[.int i,.int (-1),.int (-1)]/\(-(2 ^ 62)<=i/\i < 2 ^ 62)/\R (Itd i (i+1).toNat) h
def Op{a b c:Expr}{T:TA}{p d:Pos}(v:Gl X "range")(y:X.mg "range" = aD)(J:PA X [a,b,c] T)(hs:Uj [a,b,c] X.env=(aS,eval a X.env)::Uj [b,c] X.env)(k:(backTo d (Uj [b,c] X.env)).any (·.1)=aS) :
  PI X tg (.Call (.Name "range" p) [a,b,c] [] d) (iDn T):=by
 intro j s E H R I h;refine Call_ (dA I v y boot_range (WJ (thn (J d j s E H _ I h) λU O ⟨Y,L,C,r1,Q⟩=>?_) hs k));obtain⟨i,e,⟨Q,z⟩,q⟩:=Q;subst e;cases r1 with
 |cons r f=>
  cases f with
  |cons B f=>
   cases f with
   |cons n f=>
    cases f;obtain⟨t,rfl⟩:=r;obtain⟨Z,rfl⟩:=B;obtain⟨u,rfl⟩:=n;exact call_range_3 (by decide) (EH C Q z q) (.inl (PyProof.noPylong_of_log2 (by decide +kernel)))
end
end L2
namespace Ev
open PySem PySem.Spec PyProof.Rows L2
abbrev nxD(hi:Int)(n:Nat):Nxt:=λi _=>aw (if i < n then aw (.int (hi - i)) else aD)
section
variable {K:Vk} {m m0:List Addr} {H H0:Hp} {S:Sto} {B:List Addr}
def J4{lo:Int}{n:Nat}:IOk K B (Itd lo n) (nxD lo n) m0 H0:=by
 intro m S H i x R;unfold nxD;refine⟨λe=>?_,λd e=>?_⟩
 ·split at e
  ·cases e
  ·show n<=i;lia
 ·split at e
  ·rename_i hi;cases e;exact⟨hi,λy b ⟨E,h⟩=>by subst E;subst h;exact⟨Aft.refl R,bh⟩⟩
  ·cases e
abbrev xDn(x:XE):XI:=λb S=>bnd (x b S) λd c=>match d with
 |.int j=>if lim j=aN then aw (nxD j (j+1).toNat,c) else aD
 |_=>aD
def Oq(h:tIt K B (xDn x) f H R):iDn (cf (tE K x) (cf (tC (.int (-1))) (cf (tC (.int (-1))) jy))) f H R:=by
 obtain⟨m,n,S,nx,y,E,c,z,e,q⟩:=h;obtain⟨d,k,j,e⟩:=ae e;refine⟨m,n,S,d,k,E,c,j,λm1 u v p vd=>?_⟩;cases d with
 |int i=>
  dsimp only at e;split at e
  ·rename_i b;cases e;exact⟨i,by rw[vd.ints],⟨(fV b).1,(fV b).2⟩,q m1 u _ p J4⟩
  ·cases e
 |_=>cases e
end
mutual
inductive CE where |non |bl (b:Bool) |int (i:Int) |str (x:Str) |var (i:Nat) |con (k:Nat)(v:Int) |tup (es:List CE) |lst (es:List CE) |dic0 |bin (o:BOp)(a b:CE) |neg (a:CE) |cmp (o:COp)(a b:CE) |chn (o p:COp)(a b c:CE) |and (a b:CE) |or (a b:CE) |not (a:CE) |ite (c a b:CE) |ix (a b:CE) |sl (a:CE)(lo hi:Option CE) |call (f:Nat)(es:List CE) |cal2 (f g:Nat)(i:CE)(es:List CE) |inst (t:Ty)(a:CE) |len (a:CE) |all (a:CE) |any (a:CE) |tupOf (a:CE) |listOf (a:CE) |listR (a:CE) |srt (a:CE) |mxL (a:CE) |mxD (a:CE)(c:Int) |sm (a:CE) |intOf (a:CE) |rev (a:CE) |mnN (a:CE) |mx (a b:CE) |mn (a b:CE) |comp (own:List Str)(elt:CE)(cls:List Cl) |app (o e:CE) |popAt (o e:CE) |cnt (o e:CE)
inductive CI where
 |val (a:CE) |r1 (a:CE) |r2 (a b:CE) |dn (a:CE) |en (a:CE)
inductive Cl where
 |mk (tg:Tg) (it:CI) (cond:Option CE)
end
abbrev ai:CE->Bool
 |.lst _=>aN |.comp _ _ _=>aN |.listOf _=>aN |.listR _=>aN |.srt _=>aN
 |_=>aS
abbrev LF:Nat:=1000000
abbrev xNo{b:Type}:Rho->Sto->Option (b × Sto):=λ_ _=>aD
abbrev mE(x:XE):XA:=λc S=>bnd (x c S) λd b=>(ao d b).map λr=>(r.2,b)
abbrev cD(T:Bool)(d:List D):Option (List D):=if T=aS then uX T d else aD
abbrev yV(f:Bool->List D->Option (List D))(x:XA):XA:=λc S=>bnd (x c S) λd b=>(f aS d).map λE=>(E,b)
abbrev yW(f:Bool->List D->Option (List D))(x:XE):XA:=λc S=>bnd (x c S) λd b=>match ao d b with
 |some r=>(f r.1 r.2).map λE=>(E,b)
 |none=>aD
abbrev yX(x:XE):XA:=λb S=>bnd (x b S) λd c=>match d with
 |.int i=>if 0<=i/\i<=1000 then aw ((Zk i.toNat).map λj=>.int (Int.ofNat j),c) else aD
 |_=>aD
abbrev Br:XE:=λ_ S=>aw (.ref S.length,S++[.dic [] []])
abbrev cnd(t:CE->XT):Option CE->XA->XA
 |some c,x=>Bb (t c) x
 |none,x=>x
abbrev opt(t:CE->XE):Option CE->XO
 |some l=>uL (t l)
 |none=>uK
mutual
noncomputable def evE(C:Calls)(h:Nat->Nat):Nat->CE->XE
 |0,_=>xNo
 |n+1,e=>match e with
  |.non=>xC .non
  |.bl b=>xC (.bl b)
  |.int i=>xC (.int i)
  |.str x=>xC (.str x)
  |.var i=>yv i
  |.con _ v=>xC (.int v)
  |.tup es=>kK kL (evA C h n es)
  |.lst es=>dC (oJ (evA C h n es))
  |.dic0=>Br
  |.bin o a b=>sd (bL o) (evE C h n a) (evE C h n b)
  |.neg a=>xUn JW (evE C h n a)
  |.cmp o a b=>sd (ak o) (evE C h n a) (evE C h n b)
  |.chn o p a b c=>yR (ak o) (ak p) (evE C h n a) (evE C h n b) (evE C h n c)
  |.and a b=>Be (evE C h n a) (evE C h n b)
  |.or a b=>xOr (evE C h n a) (evE C h n b)
  |.not a=>xUn yQ (evE C h n a)
  |.ite c a b=>JX (evT C h n c) (evE C h n a) (evE C h n b)
  |.ix a b=>if ai a=aN then uH (ce C h n a) (evE C h n b) else sd ixS (evE C h n a) (evE C h n b)
  |.sl a lo hi=>xSl (evE C h n a) (opt (evE C h n) lo) (opt (evE C h n) hi)
  |.call f es=>kh (C f) (h f) (evA C h n es)
  |.cal2 f g i es=>Bk (C f) (C g) (h f) (h g) (evE C h n i) (evA C h n es)
  |.inst t a=>xUn (hV t) (evE C h n a)
  |.len a=>if ai a=aN then ma cb (ce C h n a) else md cb (evE C h n a)
  |.all a=>if ai a=aN then ma kN (ce C h n a) else md kN (evE C h n a)
  |.any a=>if ai a=aN then ma n6 (ce C h n a) else md n6 (evE C h n a)
  |.tupOf a=>if ai a=aN then ma cL (ce C h n a) else md cL (evE C h n a)
  |.listOf a=>dC (if ai a=aN then ce C h n a else mE (evE C h n a))
  |.listR a=>dC (yX (evE C h n a))
  |.srt a=>dC (if ai a=aN then yV cD (ce C h n a) else yW cD (evE C h n a))
  |.mxL a=>if ai a=aN then ma n9 (ce C h n a) else md n9 (evE C h n a)
  |.mxD a c=>if ai a=aN then ma (eB c) (ce C h n a) else md (eB c) (evE C h n a)
  |.sm a=>if ai a=aN then ma oe (ce C h n a) else md oe (evE C h n a)
  |.rev a=>xUn uQ (evE C h n a)
  |.mnN a=>if ai a=aN then ma oi (ce C h n a) else md oi (evE C h n a)
  |.intOf a=>xUn uZ (evE C h n a)
  |.mx a b=>kK (two AL) (evA C h n [a,b])
  |.mn a b=>kK (two AM) (evA C h n [a,b])
  | .comp own elt cls=>dC (match cls with
   |[]=>xNo
   | ⟨tg,it,cond⟩::rest=>mB own.length (evI C h n it) tg (cnd (evT C h n) cond (gZ C h n elt rest)) LF)
  |.app o a=>AX fU sE (evE C h n o) (evA C h n [a])
  |.popAt o a=>AX fU eU (evE C h n o) (evA C h n [a])
  |.cnt o a=>AX (λd _=>isTup d) vf (evE C h n o) (evA C h n [a])
noncomputable def evA(C:Calls)(b:Nat->Nat):Nat->List CE->XA
 |0,_=>xNo
 |n+1,es=>match es with
  |[]=>Ed
  |e::es=>wJ (evE C b n e) (evA C b n es)
noncomputable def ce(C:Calls)(b:Nat->Nat):Nat->CE->XA
 |0,_=>xNo
 |n+1,e=>match e with
  |.lst es=>oJ (evA C b n es)
  |.listOf a=>if ai a=aN then ce C b n a else mE (evE C b n a)
  |.listR a=>yX (evE C b n a)
  |.srt a=>if ai a=aN then yV cD (ce C b n a) else yW cD (evE C b n a)
  |.comp own elt cls=>match cls with
   |[]=>xNo
   |⟨tg,it,cond⟩::rest=>mB own.length (evI C b n it) tg (cnd (evT C b n) cond (gZ C b n elt rest)) LF
  |_=>xNo
noncomputable def gZ(C:Calls)(b:Nat->Nat):Nat->CE->List Cl->XA
 |0,_,_=>xNo
 |n+1,elt,cls=>match cls with
  |[]=>HE (evE C b n elt)
  |⟨tg,it,cond⟩::rest=>jJ (evI C b n it) tg (cnd (evT C b n) cond (gZ C b n elt rest)) LF
noncomputable def evI(C:Calls)(c:Nat->Nat):Nat->CI->XI
 |0,_=>xNo
 |n+1,it=>match it with
  |.val a=>if ai a=aN then xIT (ce C c n a) else xIV (evE C c n a)
  |.r1 a=>xR1 (evE C c n a)
  |.dn a=>xDn (evE C c n a)
  |.r2 a b=>xR2 (evE C c n a) (evE C c n b)
  |.en a=>if ai a=aN then xET (ce C c n a) else xEV (evE C c n a)
noncomputable def evT(C:Calls)(d:Nat->Nat):Nat->CE->XT
 |0,_=>xNo
 |n+1,e=>match e with
  |.cmp o a b=>xB (sd (ak o) (evE C d n a) (evE C d n b))
  |.chn o p a b c=>xB (yR (ak o) (ak p) (evE C d n a) (evE C d n b) (evE C d n c))
  |.and a b=>Bh (evT C d n a) (evT C d n b)
  |.or a b=>J0 (evT C d n a) (evT C d n b)
  |.not a=>Bi (evT C d n a)
  |.ite _ _ _=>xNo
  |e=>Eo (evE C d n e)
end
structure Tab where
 con:List (Str × Int)
 fns:List (Str × Nat)
structure Blk where
 sc:Scope
 fs:Option Scope
 N:List Str
abbrev Blk.glo(b:Blk)(x:Str):Bool:=b.sc.names.lookup x == aw .globalImplicit && !(x == ("__debug__" : Str))
abbrev Blk.vis(b:Blk)(x:Str):Bool:=(match b.sc.names.lookup x with
 |some .local=>aN
 |some .cell=>aN
 |some .free=>aN
 | _=>aS) && !(x == ("__debug__" : Str)) && !(x == ("__classdict__" : Str))
abbrev Blk.own(b:Blk)(x:Str):Bool:=match b.sc.names.lookup x with
 |some .local=>aN
 | some .cell=>(match b.fs with
  |none=>aN
  | some sc=>sc.names.lookup x == aw .cell)
 |_=>aS
def bN{P:Prop}[Decidable P]{f:P->Bool}(h:(if p:P then f p else aS)=aN):∃p,f p=aN:=by
 by_cases p:P
 ·rw[dif_pos p] at h;exact⟨p,h⟩
 ·rw[dif_neg p] at h;cases h
def an2{a b:Bool}(h:(a && b)=aN):a=aN/\b=aN:=by cases a;cases h;exact⟨rfl,h⟩
def an3{a b c:Bool}(h:(a && b && c)=aN):a=aN/\b=aN/\c=aN:=⟨(an2 (an2 h).1).1,(an2 (an2 h).1).2,(an2 h).2⟩
def an4{a b c d:Bool}(h:(a && b && c && d)=aN):a=aN/\b=aN/\c=aN/\d=aN:=⟨(an3 (an2 h).1).1,(an3 (an2 h).1).2.1,(an3 (an2 h).1).2.2,(an2 h).2⟩
def an5{a b c d e:Bool}(h:(a && b && c && d && e)=aN):a=aN/\b=aN/\c=aN/\d=aN/\e=aN:=⟨(an4 (an2 h).1).1,(an4 (an2 h).1).2.1,(an4 (an2 h).1).2.2.1,(an4 (an2 h).1).2.2.2,(an2 h).2⟩
def an6{a b c d e f:Bool}(h:(a && b && c && d && e && f)=aN):a=aN/\b=aN/\c=aN/\d=aN/\e=aN/\f=aN:=⟨(an5 (an2 h).1).1,(an5 (an2 h).1).2.1,(an5 (an2 h).1).2.2.1,(an5 (an2 h).1).2.2.2.1,(an5 (an2 h).1).2.2.2.2,(an2 h).2⟩
abbrev l1{b:Type}(l:List b)(k:b->Bool):Bool:=match l with
 |[]=>aS
 |x::t=>t.isEmpty && k x
abbrev lC{b:Type}(l:List b)(k:b->List b->Bool):Bool:=match l with
 |[]=>aS
 |x::t=>k x t
def dE{b:Type}{l:List b}{k:b->List b->Bool}(h:lC l k=aN):∃x t,l=x::t/\k x t=aN:=by
 cases l with
 |nil=>cases h
 |cons x t=>exact⟨x,t,rfl,h⟩
def eW{b:Type}{l:List b}(h:l.isEmpty=aN):l=[]:=by cases l;rfl;cases h
def g5{b:Type}{l:List b}{k:b->Bool}(h:l1 l k=aN):∃x,l=[x]/\k x=aN:=by
 cases l with
 |nil=>cases h
 |cons x t=>obtain⟨d,c⟩:=an2 h;cases eW d;exact⟨x,rfl,c⟩
abbrev aH(e:Expr):Bool:=!(e.ctorIdx == 22 || e.ctorIdx == 26 || e.ctorIdx == 7)
abbrev qz(e:Expr)(k:BoolOp->List Expr->Pos->Bool):Bool:=if h:e.ctorIdx=0 then @Expr.BoolOp.elim (λ_=>Bool) e h k else aS
def oW{e:Expr}{k:BoolOp->List Expr->Pos->Bool}(h:qz e k=aN):∃X c b,e = .BoolOp X c b/\k X c b=aN:=by
 obtain⟨d,h⟩:=bN h;exact Expr.BoolOp.elim (motive_1:=λe=>∀f,@Expr.BoolOp.elim (λ_=>Bool) e f k=aN->∃X c b,e = .BoolOp X c b/\k X c b=aN) e d (λX c b _ j=>⟨X,c,b,rfl,j⟩) d h
abbrev Bs(e:Expr)(k:Expr->Va->Expr->Pos->Bool):Bool:=if h:e.ctorIdx=2 then @Expr.BinOp.elim (λ_=>Bool) e h k else aS
def Bt{e:Expr}{k:Expr->Va->Expr->Pos->Bool}(h:Bs e k=aN):∃X d b c,e = .BinOp X d b c/\k X d b c=aN:=by
 obtain⟨f,h⟩:=bN h;exact Expr.BinOp.elim (motive_1:=λe=>∀j,@Expr.BinOp.elim (λ_=>Bool) e j k=aN->∃X d b c,e = .BinOp X d b c/\k X d b c=aN) e f (λX d b c _ n=>⟨X,d,b,c,rfl,n⟩) f h
abbrev i8(e:Expr)(k:UnaryOp->Expr->Pos->Bool):Bool:=if h:e.ctorIdx=3 then @Expr.UnaryOp.elim (λ_=>Bool) e h k else aS
def mF{e:Expr}{k:UnaryOp->Expr->Pos->Bool}(h:i8 e k=aN):∃X c b,e = .UnaryOp X c b/\k X c b=aN:=by
 obtain⟨d,h⟩:=bN h;exact Expr.UnaryOp.elim (motive_1:=λe=>∀f,@Expr.UnaryOp.elim (λ_=>Bool) e f k=aN->∃X c b,e = .UnaryOp X c b/\k X c b=aN) e d (λX c b _ j=>⟨X,c,b,rfl,j⟩) d h
abbrev Bu(e:Expr)(k:Expr->Expr->Expr->Pos->Bool):Bool:=if h:e.ctorIdx=5 then @Expr.IfExp.elim (λ_=>Bool) e h k else aS
def Bv{e:Expr}{k:Expr->Expr->Expr->Pos->Bool}(h:Bu e k=aN):∃X d b c,e = .IfExp X d b c/\k X d b c=aN:=by
 obtain⟨f,h⟩:=bN h;exact Expr.IfExp.elim (motive_1:=λe=>∀j,@Expr.IfExp.elim (λ_=>Bool) e j k=aN->∃X d b c,e = .IfExp X d b c/\k X d b c=aN) e f (λX d b c _ n=>⟨X,d,b,c,rfl,n⟩) f h
abbrev HI(e:Expr)(k:List (Option Expr)->List Expr->Pos->Bool):Bool:=if h:e.ctorIdx=6 then @Expr.Dict.elim (λ_=>Bool) e h k else aS
def EI{e:Expr}{k:List (Option Expr)->List Expr->Pos->Bool}(h:HI e k=aN):∃X c b,e = .Dict X c b/\k X c b=aN:=by
 obtain⟨d,h⟩:=bN h;exact Expr.Dict.elim (motive_1:=λe=>∀f,@Expr.Dict.elim (λ_=>Bool) e f k=aN->∃X c b,e = .Dict X c b/\k X c b=aN) e d (λX c b _ j=>⟨X,c,b,rfl,j⟩) d h
abbrev jK(e:Expr)(k:Expr->List WM->Scope->Pos->Bool):Bool:=if h:e.ctorIdx=8 then @Expr.ListComp.elim (λ_=>Bool) e h k else aS
def kj{e:Expr}{k:Expr->List WM->Scope->Pos->Bool}(h:jK e k=aN):∃X d b c,e = .ListComp X d b c/\k X d b c=aN:=by
 obtain⟨f,h⟩:=bN h;exact Expr.ListComp.elim (motive_1:=λe=>∀j,@Expr.ListComp.elim (λ_=>Bool) e j k=aN->∃X d b c,e = .ListComp X d b c/\k X d b c=aN) e f (λX d b c _ n=>⟨X,d,b,c,rfl,n⟩) f h
abbrev mG(e:Expr)(k:Expr->List CmpOp->List Expr->Pos->Bool):Bool:=if h:e.ctorIdx=15 then @Expr.Compare.elim (λ_=>Bool) e h k else aS
def mH{e:Expr}{k:Expr->List CmpOp->List Expr->Pos->Bool}(h:mG e k=aN):∃X d b c,e = .Compare X d b c/\k X d b c=aN:=by
 obtain⟨f,h⟩:=bN h;exact Expr.Compare.elim (motive_1:=λe=>∀j,@Expr.Compare.elim (λ_=>Bool) e j k=aN->∃X d b c,e = .Compare X d b c/\k X d b c=aN) e f (λX d b c _ n=>⟨X,d,b,c,rfl,n⟩) f h
abbrev sM(e:Expr)(k:Expr->List Expr->List Keyword->Pos->Bool):Bool:=if h:e.ctorIdx=16 then @Expr.Call.elim (λ_=>Bool) e h k else aS
def qA{e:Expr}{k:Expr->List Expr->List Keyword->Pos->Bool}(h:sM e k=aN):∃X d b c,e = .Call X d b c/\k X d b c=aN:=by
 obtain⟨f,h⟩:=bN h;exact Expr.Call.elim (motive_1:=λe=>∀j,@Expr.Call.elim (λ_=>Bool) e j k=aN->∃X d b c,e = .Call X d b c/\k X d b c=aN) e f (λX d b c _ n=>⟨X,d,b,c,rfl,n⟩) f h
abbrev eC(e:Expr)(k:Const->Nat->Pos->Bool):Bool:=if h:e.ctorIdx=19 then @Expr.Constant.elim (λ_=>Bool) e h k else aS
def dk{e:Expr}{k:Const->Nat->Pos->Bool}(h:eC e k=aN):∃X c b,e = .Constant X c b/\k X c b=aN:=by
 obtain⟨d,h⟩:=bN h;exact Expr.Constant.elim (motive_1:=λe=>∀f,@Expr.Constant.elim (λ_=>Bool) e f k=aN->∃X c b,e = .Constant X c b/\k X c b=aN) e d (λX c b _ j=>⟨X,c,b,rfl,j⟩) d h
abbrev mI(e:Expr)(k:Expr->Str->Pos->Bool):Bool:=if h:e.ctorIdx=20 then @Expr.Attribute.elim (λ_=>Bool) e h k else aS
def qB{e:Expr}{k:Expr->Str->Pos->Bool}(h:mI e k=aN):∃X c b,e = .Attribute X c b/\k X c b=aN:=by
 obtain⟨d,h⟩:=bN h;exact Expr.Attribute.elim (motive_1:=λe=>∀f,@Expr.Attribute.elim (λ_=>Bool) e f k=aN->∃X c b,e = .Attribute X c b/\k X c b=aN) e d (λX c b _ j=>⟨X,c,b,rfl,j⟩) d h
abbrev cW(e:Expr)(k:Expr->Expr->Pos->Bool):Bool:=if h:e.ctorIdx=21 then @Expr.Subscript.elim (λ_=>Bool) e h k else aS
def cM{e:Expr}{k:Expr->Expr->Pos->Bool}(h:cW e k=aN):∃X c b,e = .Subscript X c b/\k X c b=aN:=by
 obtain⟨d,h⟩:=bN h;exact Expr.Subscript.elim (motive_1:=λe=>∀f,@Expr.Subscript.elim (λ_=>Bool) e f k=aN->∃X c b,e = .Subscript X c b/\k X c b=aN) e d (λX c b _ j=>⟨X,c,b,rfl,j⟩) d h
abbrev sN(e:Expr)(k:Str->Pos->Bool):Bool:=if h:e.ctorIdx=23 then @Expr.Name.elim (λ_=>Bool) e h k else aS
def k6{e:Expr}{k:Str->Pos->Bool}(h:sN e k=aN):∃X b,e = .Name X b/\k X b=aN:=by
 obtain⟨c,h⟩:=bN h;exact Expr.Name.elim (motive_1:=λe=>∀d,@Expr.Name.elim (λ_=>Bool) e d k=aN->∃X b,e = .Name X b/\k X b=aN) e c (λX b _ f=>⟨X,b,rfl,f⟩) c h
abbrev HJ(e:Expr)(k:List Expr->Pos->Bool):Bool:=if h:e.ctorIdx=24 then @Expr.List.elim (λ_=>Bool) e h k else aS
def wY{e:Expr}{k:List Expr->Pos->Bool}(h:HJ e k=aN):∃X b,e = .List X b/\k X b=aN:=by
 obtain⟨c,h⟩:=bN h;exact Expr.List.elim (motive_1:=λe=>∀d,@Expr.List.elim (λ_=>Bool) e d k=aN->∃X b,e = .List X b/\k X b=aN) e c (λX b _ f=>⟨X,b,rfl,f⟩) c h
abbrev Bw(e:Expr)(k:List Expr->Nat->Pos->Bool):Bool:=if h:e.ctorIdx=25 then @Expr.Tuple.elim (λ_=>Bool) e h k else aS
def Bx{e:Expr}{k:List Expr->Nat->Pos->Bool}(h:Bw e k=aN):∃X c b,e = .Tuple X c b/\k X c b=aN:=by
 obtain⟨d,h⟩:=bN h;exact Expr.Tuple.elim (motive_1:=λe=>∀f,@Expr.Tuple.elim (λ_=>Bool) e f k=aN->∃X c b,e = .Tuple X c b/\k X c b=aN) e d (λX c b _ j=>⟨X,c,b,rfl,j⟩) d h
abbrev vn(e:Expr)(k:Option Expr->Option Expr->Option Expr->Pos->Bool):Bool:=if h:e.ctorIdx=26 then @Expr.Slice.elim (λ_=>Bool) e h k else aS
def sO{e:Expr}{k:Option Expr->Option Expr->Option Expr->Pos->Bool}(h:vn e k=aN):∃X d b c,e = .Slice X d b c/\k X d b c=aN:=by
 obtain⟨f,h⟩:=bN h;exact Expr.Slice.elim (motive_1:=λe=>∀j,@Expr.Slice.elim (λ_=>Bool) e j k=aN->∃X d b c,e = .Slice X d b c/\k X d b c=aN) e f (λX d b c _ n=>⟨X,d,b,c,rfl,n⟩) f h
abbrev vq(e:Expr):Bool:=!(e.ctorIdx == 22 || sM e λf E k _=>f.ctorIdx == 23 && E.isEmpty && k.isEmpty)
abbrev J5(e:Expr):Bool:=!(e.ctorIdx == 0 || e.ctorIdx == 5 || e.ctorIdx == 15 || i8 e λo _ _=>decide (o = .Not))
abbrev mJ(own N:List Str):List Nat:=(Zk N.length).filter λi=>match N[i]? with
 |some x=>own.contains x
 |none=>aS
abbrev Blk.inner(b:Blk)(own:List Str)(c:Scope):Blk:=⟨fO c b.sc,aw c,cU (mJ own b.N) b.N++own⟩
abbrev Bz(e:Expr):Option (Str × Pos):=if h:e.ctorIdx=23 then aw (@Expr.Name.elim (λ_=>Str × Pos) e h λx p=>(x,p)) else aD
abbrev yY(e:Expr):Option (List Expr × Nat × Pos):=if h:e.ctorIdx=25 then aw (@Expr.Tuple.elim (λ_=>List Expr × Nat × Pos) e h λE k p=>(E,k,p)) else aD
def HK{b:Type}{P:Prop}[Decidable P]{f:P->b}{r:b}(h:(if p:P then aw (f p) else aD)=aw r):∃p,f p=r:=by
 by_cases p:P
 ·rw[dif_pos p] at h;cases h;exact⟨p,rfl⟩
 ·rw[dif_neg p] at h;cases h
def qC{e:Expr}{x:Str}{p:Pos}(h:Bz e=aw (x,p)):e = .Name x p:=by
 obtain⟨b,h⟩:=HK h;exact Expr.Name.elim (motive_1:=λe=>∀c,Expr.Name.elim (motive_1:=λ_=>Str × Pos) e c (λx p=>(x,p))=(x,p)->e = .Name x p) e b (λ_ _ _ d=>by cases d;rfl) b h
def qD{e:Expr}{E:List Expr}{k:Nat}{p:Pos}(h:yY e=aw (E,k,p)):e = .Tuple E k p:=by
 obtain⟨b,h⟩:=HK h;exact Expr.Tuple.elim (motive_1:=λe=>∀c,Expr.Tuple.elim (motive_1:=λ_=>List Expr × Nat × Pos) e c (λE k p=>(E,k,p))=(E,k,p)->e = .Tuple E k p) e b (λ_ _ _ _ d=>by cases d;rfl) b h
abbrev oA{b:Type}(o:Option b)(k:b->Bool):Bool:=match o with
 |some r=>k r
 |none=>aS
def sP{b:Type}{o:Option b}{k:b->Bool}(h:oA o k=aN):∃r,o=aw r/\k r=aN:=by
 cases o with
 |none=>cases h
 |some r=>exact⟨r,rfl,h⟩
def BA{a b:Bool}(h:(a || b)=aN):a=aN\/b=aN:=by cases a;exact .inr h;exact .inl rfl
mutual
noncomputable def vt(b:Blk)(e:Expr):Tg->Bool
 |.name i=>oA (Bz e) λr=>b.N[i]? == aw r.1 && b.own r.1
 |.tup ts=>oA (yY e) λr=>mL b r.1 ts
noncomputable def mL(b:Blk)(E:List Expr):List Tg->Bool
 |[]=>E.isEmpty
 |t::ts=>lC E λe E=>vt b e t && aH e && mL b E ts
end
abbrev J6(e:Expr):Bool:=eC e λc _ _=>decide (c = .none)
abbrev sBl(v:Bool)(e:Expr):Bool:=eC e λc _ _=>decide (c = .bool v)
abbrev mM(v:Int)(e:Expr):Bool:=eC e λc _ _=>decide (c = .int v)
abbrev Ot(v:Str)(e:Expr):Bool:=eC e λc _ _=>decide (c = .str v)
abbrev wZ(k:Str->Bool)(e:Expr):Bool:=sN e λx _=>k x
abbrev J7(k:List Expr->Bool)(e:Expr):Bool:=Bw e λE _ _=>k E
abbrev J8(k:List Expr->Bool)(e:Expr):Bool:=HJ e λE _=>k E
abbrev Ou(o:Va)(k l:Expr->Bool)(e:Expr):Bool:=Bs e λx op y _=>decide (op=o) && k x && l y
abbrev sQ(k:Expr->Bool)(e:Expr):Bool:=i8 e λo x _=>decide (o = .USub) && k x
abbrev J9(k:Expr->Bool)(e:Expr):Bool:=i8 e λo x _=>decide (o = .Not) && k x
abbrev Ka(o:CmpOp)(k l:Expr->Bool)(e:Expr):Bool:=mG e λx os Y _=>l1 os λop=>l1 Y λy=>decide (op=o) && k x && l y && aH y
abbrev Kb(o p:CmpOp)(k l m:Expr->Bool)(e:Expr):Bool:=mG e λx os Y _=>lC os λop os=>l1 os λO=>lC Y λy Y=>l1 Y λz=>decide (op=o) && decide (O=p) && k x && l y && m z && aH z
abbrev BC(o:BoolOp)(k l:Expr->Bool)(e:Expr):Bool:=qz e λop v _=>lC v λx v=>l1 v λy=>decide (op=o) && k x && l y
abbrev BD(o:BoolOp)(k l:Expr->Bool)(e:Expr):Bool:=qz e λop v p=>lC v λx v=>lC v λy v=>lC v λz Y=>decide (op=o) && k x && l (.BoolOp o (y::z::Y) p)
abbrev Ov(k l m:Expr->Bool)(e:Expr):Bool:=Bu e λx y z _=>k x && l y && m z
abbrev sIx(k l:Expr->Bool)(e:Expr):Bool:=cW e λx y _=>k x && l y && aH y
abbrev sSl(k:Expr->Bool)(l m:Option Expr->Bool)(e:Expr):Bool:=cW e λx s _=>vn s λy z w _=>w.isNone && k x && l y && m z
abbrev Ow(k:Expr->Bool)(e:Expr):Bool:=cW e λx s _=>vn s λy z w _=>y.isNone && z.isNone && k x && oA w λe=>sQ (mM 1) e
abbrev sCN(e:Expr)(k:Str->List Expr->List Keyword->Bool):Bool:=sM e λf E b _=>sN f λx _=>k x E b
abbrev HL(k:Str->Bool)(l:List Expr->Bool)(e:Expr):Bool:=sCN e λx E b=>lC E λe E=>b.isEmpty && k x && l (e::E)
abbrev vA(b:Blk)(f:Str)(k:List Expr->Bool)(e:Expr):Bool:=sCN e λx E c=>lC E λe E=>c.isEmpty && x == f && b.glo x && k (e::E)
abbrev bZ(b:Blk)(f:Str)(k:Expr->Bool)(e:Expr):Bool:=sCN e λx E c=>l1 E λe=>c.isEmpty && x == f && b.glo x && k e && aH e
abbrev Ox(c:Int)(k:List Keyword):Bool:=l1 k λw=>w.arg == aw (Str.ofString "default") && (mM c w.value || sQ (mM (-c)) w.value)
abbrev HM(b:Blk)(k:Expr->Bool)(e:Expr):Bool:=sCN e λx E c=>l1 E λe=>(l1 c λw=>w.arg == aw (Str.ofString "default") && J6 w.value) && x == "min" && b.glo x && k e && aH e
abbrev sDn(b:Blk)(k:Expr->Bool)(e:Expr):Bool:=sCN e λx E f=>lC E λc E=>lC E λd E=>l1 E λh=>f.isEmpty && x == "range" && b.glo x && (k c && aH c && sQ (mM 1) d && sQ (mM 1) h)
abbrev HN(b:Blk)(c:Int)(k:Expr->Bool)(e:Expr):Bool:=sCN e λx E d=>l1 E λe=>Ox c d && x == "max" && b.glo x && k e && aH e
abbrev vB(b:Blk)(f:Str)(k l:Expr->Bool)(e:Expr):Bool:=sCN e λx E d=>lC E λe E=>l1 E λc=>d.isEmpty && (x == f && b.glo x && k e && aH e && l c && aH c)
abbrev EJ(m:Str)(k:Expr->Bool)(l:List Expr->Bool)(e:Expr):Bool:=sM e λf E b p=>mI f λx d c=>b.isEmpty && d == m && vq x && (c.endLine == p.line) && k x && l E
abbrev HP(k:Expr->Expr->Expr->List Expr->List WM->Scope->Bool)(e:Expr):Bool:=jK e λe gs b _=>lC gs λg gs=>decide (g.is_async=0) && k e g.target g.iter g.ifs gs b
abbrev HQ(e:Expr):Bool:=HI e λk v _=>k.isEmpty && v.isEmpty
def bE{x y:Str}(h:(x == y)=aN):x=y:=eq_of_beq h
section
variable {e:Expr} {k l m:Expr->Bool}
def BE(h:J6 e=aN):∃a p,e = .Constant .none a p:=by
 obtain⟨c,a,p,rfl,h⟩:=dk h;cases of_decide_eq_true h;exact⟨a,p,rfl⟩
def Oy{v:Bool}(h:sBl v e=aN):∃a p,e = .Constant (.bool v) a p:=by
 obtain⟨c,a,p,rfl,h⟩:=dk h;cases of_decide_eq_true h;exact⟨a,p,rfl⟩
def jL{v:Int}(h:mM v e=aN):∃a p,e = .Constant (.int v) a p:=by
 obtain⟨c,a,p,rfl,h⟩:=dk h;cases of_decide_eq_true h;exact⟨a,p,rfl⟩
def Kc{v:Str}(h:Ot v e=aN):∃a p,e = .Constant (.str v) a p:=by
 obtain⟨c,a,p,rfl,h⟩:=dk h;cases of_decide_eq_true h;exact⟨a,p,rfl⟩
def qE{k:Str->Bool}(h:wZ k e=aN):∃x p,e = .Name x p/\k x=aN:=k6 h
def BF{k:List Expr->Bool}(h:J7 k e=aN):∃x a p,e = .Tuple x a p/\k x=aN:=Bx h
def Kd{k:List Expr->Bool}(h:J8 k e=aN):∃x p,e = .List x p/\k x=aN:=wY h
def Ke{o:Va}(h:Ou o k l e=aN):∃x y p,e = .BinOp x o y p/\k x=aN/\l y=aN:=by
 obtain⟨x,op,y,p,rfl,h⟩:=Bt h;obtain⟨b,z⟩:=an3 h;cases of_decide_eq_true b;exact⟨x,y,p,rfl,z⟩
def mN(h:sQ k e=aN):∃x p,e = .UnaryOp .USub x p/\k x=aN:=by
 obtain⟨op,x,p,rfl,h⟩:=mF h;obtain⟨b,z⟩:=an2 h;cases of_decide_eq_true b;exact⟨x,p,rfl,z⟩
def BG(h:J9 k e=aN):∃x p,e = .UnaryOp .Not x p/\k x=aN:=by
 obtain⟨op,x,p,rfl,h⟩:=mF h;obtain⟨b,z⟩:=an2 h;cases of_decide_eq_true b;exact⟨x,p,rfl,z⟩
def BH{o:CmpOp}(h:Ka o k l e=aN):∃x y p,e = .Compare x [o] [y] p/\k x=aN/\l y=aN/\aH y=aN:=by
 obtain⟨x,os,Y,p,rfl,h⟩:=mH h;obtain⟨op,rfl,h⟩:=g5 h;obtain⟨y,rfl,h⟩:=g5 h;obtain⟨b,z⟩:=an4 h;cases of_decide_eq_true b;exact⟨x,y,p,rfl,z⟩
def BI{o p:CmpOp}(h:Kb o p k l m e=aN):∃x y z q,e = .Compare x [o,p] [y,z] q/\k x=aN/\l y=aN/\m z=aN/\aH z=aN:=by
 obtain⟨x,os,Y,q,rfl,h⟩:=mH h;obtain⟨op,os,rfl,h⟩:=dE h;obtain⟨O,rfl,h⟩:=g5 h;obtain⟨y,Y,rfl,h⟩:=dE h;obtain⟨z,rfl,h⟩:=g5 h;obtain⟨c,b,Z⟩:=an6 h;cases of_decide_eq_true c;cases of_decide_eq_true b;exact⟨x,y,z,q,rfl,Z⟩
def qF{o:BoolOp}(h:BC o k l e=aN):∃x y p,e = .BoolOp o [x,y] p/\k x=aN/\l y=aN:=by
 obtain⟨op,v,p,rfl,h⟩:=oW h;obtain⟨x,v,rfl,h⟩:=dE h;obtain⟨y,rfl,h⟩:=g5 h;obtain⟨b,z⟩:=an3 h;cases of_decide_eq_true b;exact⟨x,y,p,rfl,z⟩
def qG{o:BoolOp}(h:BD o k l e=aN):∃x y z Y p,e = .BoolOp o (x::y::z::Y) p/\k x=aN/\l (.BoolOp o (y::z::Y) p)=aN:=by
 obtain⟨op,v,p,rfl,h⟩:=oW h;obtain⟨x,v,rfl,h⟩:=dE h;obtain⟨y,v,rfl,h⟩:=dE h;obtain⟨z,v,rfl,h⟩:=dE h;obtain⟨b,Z⟩:=an3 h;cases of_decide_eq_true b;exact⟨x,y,z,v,p,rfl,Z⟩
def Kf(h:Ov k l m e=aN):∃x y z p,e = .IfExp x y z p/\k x=aN/\l y=aN/\m z=aN:=by
 obtain⟨x,y,z,p,rfl,h⟩:=Bv h;exact⟨x,y,z,p,rfl,an3 h⟩
def HR(h:sIx k l e=aN):∃x y p,e = .Subscript x y p/\k x=aN/\l y=aN/\aH y=aN:=by
 obtain⟨x,y,p,rfl,h⟩:=cM h;exact⟨x,y,p,rfl,an3 h⟩
def Oz{l m:Option Expr->Bool}(h:sSl k l m e=aN):∃x y z p q,e = .Subscript x (.Slice y z aD p) q/\k x=aN/\l y=aN/\m z=aN:=by
 obtain⟨x,s,q,rfl,h⟩:=cM h;obtain⟨y,z,w,p,rfl,h⟩:=sO h;obtain⟨b,Z⟩:=an4 h;cases w;exact⟨x,y,z,p,q,rfl,Z⟩;cases b
def Kg(h:Ow k e=aN):∃x n p d b c,e = .Subscript x (.Slice aD aD (aw (.UnaryOp .USub (.Constant (.int 1) n b) c)) d) p/\k x=aN:=by
 obtain⟨x,s,q,rfl,h⟩:=cM h;obtain⟨y,z,w,p,rfl,h⟩:=sO h;obtain⟨j,f,C,h4⟩:=an4 h;obtain⟨u,rfl,h4⟩:=sP h4;obtain⟨v,c,rfl,B⟩:=mN h4;obtain⟨n,b,rfl⟩:=jL B;cases y <;> cases z <;> first |exact⟨x,n,q,p,b,c,rfl,C⟩ |(cases j;done) |(cases f;done)
def mO{k:Str->List Expr->List Keyword->Bool}(h:sCN e k=aN):∃x p E b q,e = .Call (.Name x p) E b q/\k x E b=aN:=by
 obtain⟨f,E,b,q,rfl,h⟩:=qA h;obtain⟨x,p,rfl,h⟩:=k6 h;exact⟨x,p,E,b,q,rfl,h⟩
def EK{k:Str->Bool}{l:List Expr->Bool}(h:HL k l e=aN):∃x X E p q,e = .Call (.Name x p) (X::E) [] q/\k x=aN/\l (X::E)=aN:=by
 obtain⟨x,p,E,c,q,rfl,h⟩:=mO h;obtain⟨X,E,rfl,h⟩:=dE h;obtain⟨b,z⟩:=an3 h;cases eW b;exact⟨x,X,E,p,q,rfl,z⟩
def sR{b:Blk}{f:Str}{k:List Expr->Bool}(h:vA b f k e=aN):∃x E p q,e = .Call (.Name f p) (x::E) [] q/\b.glo f=aN/\k (x::E)=aN:=by
 obtain⟨x,p,E,j,q,rfl,h⟩:=mO h;obtain⟨X,E,rfl,h⟩:=dE h;obtain⟨d,c,z⟩:=an4 h;cases eW d;cases bE c;exact⟨X,E,p,q,rfl,z⟩
def bj{b:Blk}{f:Str}(h:bZ b f k e=aN):∃x p q,e = .Call (.Name f p) [x] [] q/\b.glo f=aN/\k x=aN/\aH x=aN:=by
 obtain⟨x,p,E,j,q,rfl,h⟩:=mO h;obtain⟨X,rfl,h⟩:=g5 h;obtain⟨d,c,z⟩:=an5 h;cases eW d;cases bE c;exact⟨X,p,q,rfl,z⟩
def Kh{c:Int}{b:List Keyword}(h:Ox c b=aN):∃v q,b=[⟨aw "default", v,q⟩]/\(mM c v || sQ (mM (-c)) v)=aN:=by
 obtain⟨⟨a,v,q⟩,rfl,h⟩:=g5 h;obtain⟨d,z⟩:=an2 h;obtain E:=eq_of_beq d;exact⟨v,q,by rw[show a=_ from E],z⟩
def EL{b:Blk}{c:Int}(h:HN b c k e=aN):∃x p q v Q,e = .Call (.Name "max" p) [x] [⟨aw "default", v,Q⟩] q/\(mM c v || sQ (mM (-c)) v)=aN/\b.glo "max" = aN/\k x=aN/\aH x=aN:=by
 obtain⟨x,p,E,n,q,rfl,h⟩:=mO h;obtain⟨X,rfl,h⟩:=g5 h;obtain⟨f,d,z⟩:=an5 h;obtain⟨v,Q,rfl,j⟩:=Kh f;cases bE d;exact⟨X,p,q,v,Q,rfl,j,z⟩
abbrev HS(k l:Str->Bool)(m:Expr->Bool)(a:List Expr->Bool)(e:Expr):Bool:=sM e λc E b _=>lC E λe E=>b.isEmpty && a (e::E) && sIx (J8 λw=>lC w λx w=>l1 w λy=>(sN x λx _=>k x) && sN y λy _=>l y) m c
def EM{k l:Str->Bool}{m:Expr->Bool}{a:List Expr->Bool}(h:HS k l m a e=aN):∃x y p f L i b X E q,e = .Call (.Subscript (.List [.Name x p,.Name y f] L) i b) (X::E) [] q/\k x=aN/\l y=aN/\m i=aN/\aH i=aN/\a (X::E)=aN:=by
 obtain⟨c,E,C,q,rfl,h⟩:=qA h;obtain⟨X,E,rfl,h⟩:=dE h;obtain⟨u,n,B⟩:=an3 h;cases eW u;obtain⟨w,i,b,rfl,h4,v,z⟩:=HR B;obtain⟨w,L,rfl,h4⟩:=wY h4;obtain⟨x,w,rfl,h4⟩:=dE h4;obtain⟨y,rfl,h4⟩:=g5 h4;obtain⟨d,j⟩:=an2 h4;obtain⟨x,p,rfl,d⟩:=k6 d;obtain⟨y,f,rfl,j⟩:=k6 j;exact⟨x,y,p,f,L,i,b,X,E,q,rfl,d,j,v,z,n⟩
def EN{b:Blk}(h:HM b k e=aN):∃x p q j c Q,e = .Call (.Name "min" p) [x] [⟨aw "default", .Constant .none j c,Q⟩] q/\b.glo "min" = aN/\k x=aN/\aH x=aN:=by
 obtain⟨x,p,C,B,q,rfl,h⟩:=mO h;obtain⟨X,rfl,h⟩:=g5 h;obtain⟨f,d,z⟩:=an5 h;obtain⟨⟨a,v,Q⟩,rfl,y⟩:=g5 f;obtain⟨h4,n⟩:=an2 y;obtain⟨j,c,u⟩:=BE n;have E:=eq_of_beq h4;cases bE d;exact⟨X,p,q,j,c,Q,by rw[show v=_ from u,show a=_ from E],z⟩
def HU{b:Blk}(h:sDn b k e=aN):∃x p q n f r2 c j d,e = .Call (.Name "range" p) [x,.UnaryOp .USub (.Constant (.int 1) n f) r2,.UnaryOp .USub (.Constant (.int 1) c j) d] [] q/\b.glo "range" = aN/\k x=aN/\aH x=aN:=by
 obtain⟨x,p,E,O,q,rfl,h⟩:=mO h;obtain⟨z,E,rfl,h⟩:=dE h;obtain⟨Q,E,rfl,h⟩:=dE h;obtain⟨T,rfl,h⟩:=g5 h;obtain⟨B,L,I,h4⟩:=an4 h;obtain⟨J,C,v,y⟩:=an4 h4;obtain⟨u,r2,rfl,v⟩:=mN v;obtain⟨n,f,rfl⟩:=jL v;obtain⟨u,d,rfl,y⟩:=mN y;obtain⟨c,j,rfl⟩:=jL y;cases bE L;cases eW B;exact⟨z,p,q,n,f,r2,c,j,d,rfl,I,J,C⟩
def mP{b:Blk}{f:Str}(h:vB b f k l e=aN):∃x y p q,e = .Call (.Name f p) [x,y] [] q/\b.glo f=aN/\k x=aN/\aH x=aN/\l y=aN/\aH y=aN:=by
 obtain⟨x,p,E,j,q,rfl,h⟩:=mO h;obtain⟨X,E,rfl,h⟩:=dE h;obtain⟨y,rfl,h⟩:=g5 h;obtain⟨d,Y⟩:=an2 h;obtain⟨c,z⟩:=an6 Y;cases eW d;cases bE c;exact⟨X,y,p,q,rfl,z⟩
def vC{m:Str}{l:List Expr->Bool}(h:EJ m k l e=aN):∃x b E p,e = .Call (.Attribute x m b) E [] p/\vq x=aN/\(b.endLine == p.line)=aN/\k x=aN/\l E=aN:=by
 obtain⟨f,E,j,p,rfl,h⟩:=qA h;obtain⟨x,n,b,rfl,h⟩:=qB h;obtain⟨d,c,z⟩:=an6 h;cases eW d;cases bE c;exact⟨x,b,E,p,rfl,z⟩
def w4{k:Expr->Expr->Expr->List Expr->List WM->Scope->Bool}(h:HP k e=aN):∃E t i ifs gs b p,e = .ListComp E (⟨t,i,ifs,0⟩::gs) b p/\k E t i ifs gs b=aN:=by
 obtain⟨E,gs,b,p,rfl,h⟩:=kj h;obtain⟨⟨t,i,ifs,d⟩,gs,rfl,h⟩:=dE h;obtain⟨c,z⟩:=an2 h;cases of_decide_eq_true c;exact⟨E,t,i,ifs,gs,b,p,rfl,z⟩
def EO(h:HQ e=aN):∃p,e = .Dict [] [] p:=by
 obtain⟨d,v,p,rfl,h⟩:=EI h;obtain⟨c,b⟩:=an2 h;cases eW c;cases eW b;exact⟨p,rfl⟩
end
abbrev BJ(f:Expr->CE->Bool)(l:Option Expr):Option CE->Bool
 |none=>l.isNone
 |some c=>oA l λe=>f e c
abbrev BK(f:Expr->CE->Bool)(l:List Expr):Option CE->Bool
 |none=>l.isEmpty
 |some c=>l1 l λe=>f e c
abbrev clC(c:List Cl)(k:Tg->CI->Option CE->List Cl->Bool):Bool:=match c with
 |[]=>aS
 |⟨tg,it,cond⟩::rest=>k tg it cond rest
def HV{c:List Cl}{k:Tg->CI->Option CE->List Cl->Bool}(h:clC c k=aN):∃T I cond b,c=⟨T,I,cond⟩::b/\k T I cond b=aN:=by
 cases c with
 |nil=>cases h
 |cons g b=>obtain⟨T,I,cond⟩:=g;exact⟨T,I,cond,b,rfl,h⟩
mutual
noncomputable def aK(T:Tab):Nat->Blk->Expr->CE->Bool
 |0,_,_,_=>aS
 |n+1,b,e,c=>match c with
  |.non=>J6 e
  |.bl v=>sBl v e
  |.int i=>mM i e
  |.str x=>Ot x e
  |.var i=>wZ (λx=>b.N[i]? == aw x && b.vis x) e
  |.con k v=>wZ (λx=>T.con[k]? == aw (x,v) && b.glo x) e
  |.tup cs=>J7 (λE=>eX T n b E cs) e
  |.lst cs=>J8 (λE=>eX T n b E cs) e
  |.dic0=>HQ e
  |.bin o a c=>Ou o.op (λx=>aK T n b x a) (λx=>aK T n b x c) e
  |.neg a=>sQ (λx=>aK T n b x a) e
  |.cmp o a c=>Ka o.op (λx=>aK T n b x a) (λx=>aK T n b x c) e
  |.chn o p a c d=>Kb o.op p.op (λx=>aK T n b x a) (λx=>aK T n b x c) (λx=>aK T n b x d) e
  |.and a c=>BC .And (λx=>aK T n b x a) (λx=>aK T n b x c) e || BD .And (λx=>aK T n b x a) (λx=>aK T n b x c) e
  |.or a c=>BC .Or (λx=>aK T n b x a) (λx=>aK T n b x c) e || BD .Or (λx=>aK T n b x a) (λx=>aK T n b x c) e
  |.not a=>J9 (λx=>aK T n b x a) e
  |.ite t a c=>Ov (λx=>fK T n b x t) (λx=>aK T n b x a) (λx=>aK T n b x c) e
  |.ix a c=>sIx (λx=>aK T n b x a) (λx=>aK T n b x c) e
  |.sl a lo hi=>sSl (λx=>aK T n b x a) (λl=>BJ (aK T n b) l lo) (λl=>BJ (aK T n b) l hi) e
  |.cal2 f g i cs=>HS (λx=>oA T.fns[f]? (λy=>y.1 == x) && b.glo x) (λx=>oA T.fns[g]? (λy=>y.1 == x) && b.glo x) (λx=>aK T n b x i) (λE=>eX T n b E cs) e
  |.call f cs=>HL (λx=>oA T.fns[f]? (λy=>y.1 == x) && b.glo x) (λE=>eX T n b E cs) e
  |.inst t a=>vB b "isinstance" (λx=>aK T n b x a) (wZ λy=>y == Str.ofString t.nm && b.glo y) e
  |.len a=>bZ b "len" (λx=>aK T n b x a) e
  |.all a=>bZ b "all" (λx=>aK T n b x a) e
  |.any a=>bZ b "any" (λx=>aK T n b x a) e
  |.tupOf a=>bZ b "tuple" (λx=>aK T n b x a) e
  |.listOf a=>bZ b "list" (λx=>aK T n b x a) e
  |.listR a=>bZ b "list" (bZ b "range" λx=>aK T n b x a) e
  |.srt a=>bZ b "sorted" (λx=>aK T n b x a) e
  |.mxL a=>bZ b "max" (λx=>aK T n b x a) e
  |.mxD a c=>HN b c (λx=>aK T n b x a) e
  |.sm a=>bZ b "sum" (λx=>aK T n b x a) e
  |.rev a=>Ow (λx=>aK T n b x a) e
  |.mnN a=>HM b (λx=>aK T n b x a) e
  |.intOf a=>bZ b "int" (λx=>aK T n b x a) e
  |.mx a c=>vA b "max" (λE=>eX T n b E [a,c]) e
  |.mn a c=>vA b "min" (λE=>eX T n b E [a,c]) e
  |.comp own elt cls=>clC cls λq I cond j=>HP (λu t i ifs gs h=>cmB own (mJ own b.N) b.N h b.sc && sS T n b t i I && vt (b.inner own h) t q && BK (fK T n (b.inner own h)) ifs cond && oX T n (b.inner own h) u gs elt j) e
  |.app o a=>EJ "append" (λx=>aK T n b x o) (λE=>eX T n b E [a]) e
  |.popAt o a=>EJ "pop" (λx=>aK T n b x o) (λE=>eX T n b E [a]) e
  |.cnt o a=>EJ "count" (λx=>aK T n b x o) (λE=>eX T n b E [a]) e
noncomputable def eX(T:Tab):Nat->Blk->List Expr->List CE->Bool
 |0,_,_,_=>aS
 |n+1,b,E,cs=>match cs with
  |[]=>E.isEmpty
  |c::cs=>lC E λe E=>aK T n b e c && aH e && eX T n b E cs
noncomputable def oX(T:Tab):Nat->Blk->Expr->List WM->CE->List Cl->Bool
 |0,_,_,_,_,_=>aS
 |n+1,b,e,gs,elt,cls=>match cls with
  |[]=>gs.isEmpty && aK T n b e elt
  |⟨tg,it,cond⟩::rest=>lC gs λg gs=>decide (g.is_async=0) && sS T n b g.target g.iter it && vt b g.target tg && BK (fK T n b) g.ifs cond && oX T n b e gs elt rest
noncomputable def sS(T:Tab):Nat->Blk->Expr->Expr->CI->Bool
 |0,_,_,_,_=>aS
 |n+1,b,t,e,c=>match c with
  |.val a=>aK T n b e a && aH e
  |.r1 a=>bZ b "range" (λx=>aK T n b x a) e
  |.dn a=>sDn b (λx=>aK T n b x a) e
  |.r2 a c=>vB b "range" (λx=>aK T n b x a) (λx=>aK T n b x c) e
  |.en a=>bZ b "enumerate" (λx=>aK T n b x a) e && J7 (λ_=>aN) t
noncomputable def fK(T:Tab):Nat->Blk->Expr->CE->Bool
 |0,_,_,_=>aS
 |n+1,b,e,c=>match c with
  |.cmp o a c=>Ka o.op (λx=>aK T n b x a) (λx=>aK T n b x c) e
  |.chn o p a c d=>Kb o.op p.op (λx=>aK T n b x a) (λx=>aK T n b x c) (λx=>aK T n b x d) e
  |.and a c=>BC .And (λx=>fK T n b x a) (λx=>fK T n b x c) e || BD .And (λx=>fK T n b x a) (λx=>fK T n b x c) e
  |.or a c=>BC .Or (λx=>fK T n b x a) (λx=>fK T n b x c) e || BD .Or (λx=>fK T n b x a) (λx=>fK T n b x c) e
  |.not a=>J9 (λx=>fK T n b x a) e
  |.ite _ _ _=>aS
  |c=>aK T n b e c && J5 e
end
def gN{T:Tab}{n:Nat}{b:Blk}{t e:Expr}{c:CI}(h:sS T n b t e c=aN)(d:∀e,aH e=aN->∀env x,VV e env x=pure x):∀env x,VV e env x=pure x:=by
 cases n with
 |zero=>cases h
 |succ n=>
  cases c with
  |val a=>exact d e (an2 h).2
  |r1 a=>obtain⟨x,p,q,rfl,_⟩:=bj h;intro _ _;rfl
  |dn a=>obtain⟨x,p,q,k,f,r2,u,j,v,rfl,_⟩:=HU h;intro _ _;rfl
  |r2 a c=>obtain⟨x,y,p,q,rfl,_⟩:=mP h;intro _ _;rfl
  |en a=>obtain⟨x,p,q,rfl,_⟩:=bj (an2 h).1;intro _ _;rfl
structure CtxOk(T:Tab)(C:Calls)(ar:Nat->Nat)(k:Nat)(b:Blk)(X:Cx):Prop where
 calm:X.calm=aN
 xe:X.xe=λ_ _=>False
 hN:X.N=b.N
 hs:X.env.scope=b.sc
 nd:b.N.Nodup
 fn:∀x,(match b.fs with |none=>aN |some sc=>sc.names.lookup x == aw .cell)=aN->X.fn x=aN
 room:Room k X.A
 con:∀ (i:Nat) (x:Str) (v:Int),T.con[i]?=aw (x,v)->∃tk,X.mg x=aw (.int v tk)
 bl:∀x,x ∈ iQ->X.mg x=aD
 fns:∀ (i:Nat) (y:Str × Nat),T.fns[i]?=aw y->ar i=y.2/\∃f fd ps,X.mg y.1=aw (.ref f)/\Vs X.K (.ref f)=aN/\iS X.K fd ps []/\FnOk X.prog X.w X.K X.mg X.base CX0 k f fd ps (spC X.K (C i) (ar i))
section
variable {T:Tab} {C:Calls} {ar:Nat->Nat} {k:Nat} {b:Blk} {X:Cx}
def av{e:Expr}{E:List Expr}{env:Env}(h:aH e=aN):Uj (e::E) env=(aS,eval e env)::Uj E env:=by
 cases e <;> first |rfl |(exact absurd h Zg)
def mQ{e:Expr}(h:aH e=aN):qb e:=by
 intro o i;cases e <;> first |rfl |(exact absurd h Zg)
def iw{e:Expr}{op:CmpOp}(h:aH e=aN):VF op e=aS:=by
 cases e <;> first |rfl |(exact absurd h Zg)
def mR{e f:Expr}{op O:CmpOp}(h:aH e=aN):lastMarks [op,O] [f,e]=aS:=by
 show VF O e=aS;exact iw h
def eY{e:Expr}{env:Env}(h:aH e=aN):∀x,VV e env x=pure x:=by
 intro x;cases e <;> first |rfl |(exact absurd h Zg)
def iy{e:Expr}{m:Str}{env:Env}{w:Sem Value}(h:vq e=aN):attributeBase e m env w=w:=by
 cases e with
 |Call f d c p=>
  cases f with
  |Name x q=>
   cases d with
   |nil=>cases c with |nil=>exact absurd h Zg |cons _ _=>rfl
   |cons _ _=>rfl
  |_=>rfl
 |_=>first |rfl |(exact absurd h Zg)
def vD{e:Expr}{env:Env}(h:J5 e=aN):∀c,isTrue e env c=(do let v <-c;standAt e.pos;holding [v] (truthy v)):=by
 intro c;cases e with
 |UnaryOp op x p=>cases op <;> first |rfl |(exact absurd h Zg)
 |_=>first |rfl |(exact absurd h Zg)
def gO{E:List Expr}{env:Env}{p:Pos}(h:∀e ∈ E,aH e=aN):(backTo p (Uj E env)).any (·.1)=aS:=by
 induction E with
 |nil=>rfl
 |cons e E I=>
  rw[av (h e Zj)];show(aS || (backTo p (Uj E env)).any (·.1))=aS;rw[I λe c=>h e (Zi _ c)];rfl
def bF:∀ {n:Nat} {E:List Expr} {d:List CE},eX T n b E d=aN->∀e ∈ E,aH e=aN
 |0,_,_,h=>absurd h Zg
 |n+1,E,[],h=>λx hx=>by rw[eW h] at hx;cases hx
 |n+1,E,c::d,h=>by
  obtain⟨e,E,rfl,h⟩:=dE h;obtain⟨_,f,h⟩:=an3 h;intro x hx;rcases Zn.mp hx with rfl |hx
  ·exact f
  ·exact bF h x hx
def CtxOk.gl(G:CtxOk T C ar k b X){x:Str}(h:b.glo x=aN):Gl X x/\(x == ("__debug__" : Str))=aS:=by
 unfold Blk.glo at h;rw[bAE] at h;refine⟨?_,by simpa using h.2⟩;show X.env.scope.names.lookup x=_;rw[G.hs]
 simpa using h.1
def CtxOk.vis(G:CtxOk T C ar k b X){x:Str}(h:b.vis x=aN):Vis X.env.scope x/\(x == ("__debug__" : Str))=aS/\(x == ("__classdict__" : Str))=aS:=by
 unfold Blk.vis at h;rw[bAE,bAE] at h;refine⟨?_,by simpa using h.1.2,by simpa using h.2⟩;unfold Vis;rw[G.hs];have c:=h.1.1;split at c
 ·rename_i e;exact .inl e
 ·rename_i e;exact .inr (.inl e)
 ·rename_i e;exact .inr (.inr e)
 ·cases c
def CtxOk.own(G:CtxOk T C ar k b X){x:Str}(h:b.own x=aN):L2.Loc X.env.scope x/\(X.fn x=aN\/X.env.scope.names.lookup x=aw .local):=by
 unfold Blk.own at h;unfold L2.Loc;rw[G.hs];split at h
 ·rename_i e;exact⟨.inl e,.inr e⟩
 ·rename_i e;refine⟨.inr e,.inl (G.fn x ?_)⟩;cases c:b.fs with
  |none=>rfl
  |some sc=>rw[c] at h;exact h
 ·cases h
def CtxOk.inner(G:CtxOk T C ar k b X){own:List Str}{c:Scope}(S:CmScope own (mJ own b.N) b.N c b.sc){C':Addr}{ex:List Addr}{s:Shared}{H:Hp}:CtxOk T C ar k (b.inner own c) (cxC X own (mJ own b.N) c C' ex s H):=
 ⟨G.calm,rfl,by show cU (mJ own b.N) X.N++own=_;rw[G.hN];rfl,by show fO c X.env.scope=_;rw[G.hs];rfl,S.nd,λx h=>h,G.room,G.con,G.bl,G.fns⟩
def oY{e:Expr}{E:List Expr}{env:Env}(h:aH e=aN):VB (e::E) env=(aS,assign e env)::VB E env:=by
 cases e <;> first |rfl |(exact absurd h Zg)
mutual
theorem gP(G:CtxOk T C ar k b X):∀ {e:Expr} {t:Tg},vt b e t=aN->PG X e (tTg X.K t)
 |e,.name i,h=>by
  obtain⟨r,c,h⟩:=sP h;obtain⟨n,f⟩:=an2 h;rw[qC c];have o:=G.own f;exact PG.imp (DG (i:=i) (x:=r.1) (by rw[G.hN];exact G.nd) (by rw[G.hN];exact eq_of_beq n) o.1 o.2) λx j H Q q=>qy q
 |e,.tup ts,h=>by
  obtain⟨r,c,h⟩:=sP h;rw[qD c];have d:=oZ h;exact PG.imp (IP G.calm (sU G h) rfl d.2) λx j H Q q=>JQ d.1 q
theorem sU(G:CtxOk T C ar k b X):∀ {E:List Expr} {c:List Tg},mL b E c=aN->PGs X E (A0 X.K c)
 |E,[],h=>by
  rw[eW h];exact PGs.imp DH λx f H Q q=>Ex q
 |E,t::c,h=>by
  obtain⟨e,E,rfl,h⟩:=dE h;obtain⟨j,d,h⟩:=an3 h;exact PGs.imp (zP (gP G j) (sU G h) (by rw[oY d];rfl)) λx f H Q q=>A6 q
theorem oZ:∀ {E:List Expr} {c:List Tg},mL b E c=aN->(VB E X.env).length=c.length/\(VB E X.env).findIdx? (·.1)=aD
 |E,[],h=>by
  rw[eW h];exact⟨rfl,rfl⟩
 |E,t::c,h=>by
  obtain⟨e,E,rfl,h⟩:=dE h;obtain⟨f,d,h⟩:=an3 h;have I:=oZ h;rw[oY d];refine⟨congrArg (·+1) I.1,?_⟩;rw[List.findIdx?_cons];simp[I.2]
end
end
structure Snd(T:Tab)(C:Calls)(ar:Nat->Nat)(k n:Nat):Prop where
 e:∀ (b:Blk) (X:Cx) (e:Expr) (c:CE),CtxOk T C ar k b X->aK T n b e c=aN->PE X e (tE X.K (evE C ar n c))
 tm:∀ (b:Blk) (X:Cx) (e:Expr) (c:CE),CtxOk T C ar k b X->ai c=aN->aK T n b e c=aN->PE X e (eP X.K (ce C ar n c))
 a:∀ (b:Blk) (X:Cx) (es:List Expr) (cs:List CE),CtxOk T C ar k b X->eX T n b es cs=aN->PA X es (tAr X.K (evA C ar n cs))
 t:∀ (b:Blk) (X:Cx) (e:Expr) (c:CE),CtxOk T C ar k b X->fK T n b e c=aN->PT X e (tT X.K (evT C ar n c))
 i:∀ (B:List Addr) (b:Blk) (X:Cx) (t e:Expr) (c:CI),CtxOk T C ar k b X->sS T n b t e c=aN->PI X t e (tIt X.K B (evI C ar n c))
 cl:∀ (b:Blk) (X:Cx) (e:Expr) (gs:List WM) (elt:CE) (cls:List Cl),CtxOk T C ar k b X->oX T n b e gs elt cls=aN ->
  ∀ (gens:List WM) (scope:Scope) (pos:Pos) (acc:Addr) (d:Nat),gens.drop (d+1)=gs->PTl X e gens scope pos acc d (tCl X.K acc (gZ C ar n elt cls))
section
variable {T:Tab} {C:Calls} {ar:Nat->Nat} {k n:Nat} {b:Blk} {X:Cx}
def eD{e:Expr}{E:List Expr}{c:TE}{t:TA}(h:PE X e c)(f:PA X E t)(d:aH e=aN):PA X (e::E) (cf c t):=pZ h f (av d)
def OA(I:Snd T C ar k n)(E:List Expr)(d:List CE)(G:CtxOk T C ar k b X)(h:eX T (n+1) b E d=aN):PA X E (tAr X.K (evA C ar (n+1) d)):=by
 cases d with
 |nil=>rw[eW h];exact PA.imp uq λj H Q q=>Jt q
 |cons c d=>
  obtain⟨e,E,rfl,h⟩:=dE h;obtain⟨p,f,h⟩:=an3 h;exact PA.imp (eD (I.e b X e c G p) (I.a b X E d G h) f) λj H Q q=>Ee q
def ci{e:Expr}{c:TE}(h:PE X e c)(d:aH e=aN):PA X [e] (cf c jy):=eD h uq d
def eZ{x:Str}{id:String}{e:Expr}{d:TE}{r:V->Hp->VK->Prop}{p c:Pos}(u:aR X (.builtin id) (r1 r))(G:CtxOk T C ar k b X)(f:b.glo x=aN)(hb:x ∈ iQ)(v:VI x=aw (.builtin id))(y:x ≠ "__name__")(h:PE X e d)(j:aH e=aN) :
  PE X (.Call (.Name x p) [e] [] c) (tUn r d):=
 PE.imp (iT u (G.gl f).1 (G.bl x hb) v (ci h j) y (G.gl f).2 (av j) rfl) λz H Q q=>q
def k7{x:Str}{id:String}{e:Expr}{d:TE}{r:V->Hp->VK->Prop}{p c:Pos}(u:aR X (.type id) (r1 r))(G:CtxOk T C ar k b X)(f:b.glo x=aN)(hb:x ∈ iQ)(v:VI x=aw (.type id))(y:x ≠ "__name__")(h:PE X e d)(j:aH e=aN) :
  PE X (.Call (.Name x p) [e] [] c) (tUn r d):=
 PE.imp (jz u (G.gl f).1 (G.bl x hb) v (ci h j) y (G.gl f).2 (av j) rfl) λz H Q q=>q
def fX{x:Str}{e:Expr}{a:CE}{f:Bool->List D->Sto->Option (D × Sto)}{j:List Keyword}{p c:Pos}(I:Snd T C ar k n)(G:CtxOk T C ar k b X)(u:∀d:TE,PE X e d->PE X (.Call (.Name x p) [e] j c) (tUn (rSq X.K f) d))(h:aK T n b e a=aN) :
  PE X (.Call (.Name x p) [e] j c) (tE X.K (if ai a=aN then ma f (ce C ar n a) else md f (evE C ar n a))):=by
 split
 ·rename_i y;exact PE.imp (u _ (I.tm b X e a G y h)) λv H Q q=>Jr q
 ·exact PE.imp (u _ (I.e b X e a G h)) λv H Q q=>Jv q
def k8{x y:Str}(h:(x == y)=aN):x=y:=eq_of_beq h
def qH{K:Vk}{x:XE}{j:L2.St}{H:Hp}{Q Q':VK}(h:tE K x j H Q)(f:∀v c,Q v c->Q' v c):tE K x j H Q':=by
 obtain⟨m,y,S,d,p,E,R,e,q⟩:=h;exact⟨m,y,S,d,p,E,R,e,λu c v A vd=>f _ _ (q u c v A vd)⟩
def BL{x:XE}{z:L2.St}{H:Hp}{Q:VK}{K:Vk}(h:eP K (mE x) z H Q):tUn (rTm K λ_ u=>aw u) (tE K x) z H Q:=by
 obtain⟨m,ρ,S,u,S',E,R,e,q⟩:=h;obtain⟨d,S1,B,e⟩:=ae e;cases hi:ao d S1 with
 |none=>rw[hi] at e;cases e
 |some r=>
  rw[hi] at e;cases e;refine⟨m,ρ,S,d,_,E,R,B,λm1 H1 v c vd=>?_⟩;obtain⟨a,vs,Z,sq,f⟩:=ei (tu:=r.1) (ds:=r.2) c.rel vd hi;refine⟨m1,_,r.1,r.2,a,vs,r.2,c.rel,Z,sq,f,rfl,λL O p U A2 J n1 j I vw=>?_⟩
  have hn:H p=aD:=by
   cases Y:H p with
   |none=>rfl
   |some o=>
    by_cases y:p ∈ m
    ·exact absurd rfl (j p (c.ext.pre.subset y))
    ·have:=c.ext.keep p o Y y;rw[I] at this;cases this
  exact q L O p U (c.trans A2) J n1 (λb hb=>j b (c.ext.pre.subset hb)) hn vw
def BM{x:XA}{u:L2.St}{H:Hp}{Q:VK}{K:Vk}(h:eP K x u H Q):tUn (rTm K λ_ d=>aw d) (eP K x) u H Q:=by
 obtain⟨m,ρ,S,d,L,E,R,e,q⟩:=h;refine⟨m,ρ,S,d,L,E,R,e,λm1 B a v c ha na _ _ vd=>?_⟩;refine⟨m1,_,aS,d,a,v,d,c.rel,rfl,show SqL K B a v from SqL.of ha,vd,rfl,λI J p O A2 z Z f y Y=>?_⟩
 have hn:H p=aD:=by
  cases U:H p with
  |none=>rfl
  |some o=>
   by_cases j:p ∈ m
   ·exact absurd rfl (f p (c.ext.pre.subset j))
   ·have:=c.ext.keep p o U j;rw[y] at this;cases this
 exact q I J p O (c.trans A2) z Z (λb hb=>f b (c.ext.pre.subset hb)) hn Y
abbrev ifT(C:Calls)(ar:Nat->Nat)(n:Nat)(K:Vk):Option CE->TT
 |none=>D0
 |some c=>tT K (evT C ar n c)
def mS(I:Snd T C ar k n)(G:CtxOk T C ar k b X){ifs:List Expr}{cond:Option CE}(h:BK (fK T n b) ifs cond=aN):PTs X ifs (ifT C ar n X.K cond):=by
 cases cond with
 |none=>rw[eW h];exact D1
 |some c=>obtain⟨e,rfl,h⟩:=g5 h;exact D2 (I.t b X e c G h)
def vE{K:Vk}{cond:Option CE}{d:Addr}{c:XA}{D:Ends}{f:L2.St}{H:Hp}(q:tCl K d (cnd (evT C ar n) cond c) D f H):fB (ifT C ar n K cond) (tCl K d c) D f H:=by
 cases cond with
 |none=>exact JV q
 |some c=>exact ED q
def sV(I:Snd T C ar k n)(G:CtxOk T C ar k b X){l:Option Expr}{lo:Option CE}(h:BJ (aK T n b) l lo=aN):PO X l (tOI X.K (opt (evE C ar n) lo)):=by
 cases lo with
 |none=>
  cases l with
  |none=>exact PO.imp DS λd H Q q=>Em q
  |some _=>cases h
 |some c=>obtain⟨e,rfl,h⟩:=sP h;exact PO.imp (wx (I.e b X e c G h)) λd H Q q=>En q
def Ki(L:Snd T C ar k n)(e:Expr)(gs:List WM)(E:CE)(y:List Cl)(G:CtxOk T C ar k b X)(h:oX T (n+1) b e gs E y=aN)(c:List WM)(j:Scope)(u:Pos)(p:Addr)(d:Nat)(hd:c.drop (d+1)=gs) :
  PTl X e c j u p d (tCl X.K p (gZ C ar (n+1) E y)):=by
 have imp:∀ {t t':TS},PTl X e c j u p d t->(∀D v H,t' D v H->t D v H)->PTl X e c j u p d t':=λh f J s v H D I q=>h J s v H D I (f D v H q);cases y with
 |nil=>
  obtain⟨U,h⟩:=an2 h;cases eW U
  have Y:c[d+1]?=aD:=by
   have:=congrArg Zd hd;simp at this;exact Z8.mpr (by omega)
  exact imp (Ag G.xe Y (L.e b X e E G h)) λD v H q=>EC q
 |cons g B=>
  obtain⟨tg,it,cond⟩:=g;obtain⟨⟨t,i,ifs,as⟩,gs',rfl,h⟩:=dE h;obtain⟨U,Z,h2,h3,h4⟩:=an5 h;cases of_decide_eq_true U
  have Y:c[d+1]?=aw ⟨t,i,ifs,0⟩:=by
   have:=congrArg (·[0]?) hd
   simpa using this
  have Q:c.drop (d+1+1)=gs':=by
   have:=congrArg (Yu 1) hd
   simpa[List.drop_drop] using this
  have O:=gN Z (λe he env=>eY he) X.env;exact imp (D3 Y (L.i [p] b X t i it G Z) (gP G h2) (mS L G h3) (L.cl b X e gs' E B G h4 c j u p (d+1) Q) G.xe G.calm O) λD v H q=>Bd (λD v H z=>vE z) q
def OB(I:Snd T C ar k n)(B:List Addr)(t e:Expr)(c:CI)(G:CtxOk T C ar k b X)(h:sS T (n+1) b t e c=aN):PI X t e (tIt X.K B (evI C ar (n+1) c)):=by
 cases c with
 |val a=>
  have h:=an2 h;show PI X t _ (tIt X.K B (if ai a=aN then xIT (ce C ar n a) else xIV (evE C ar n a)));split
  ·rename_i v;exact PI.imp (wo (I.tm b X _ a G v h.1)) λj H R q=>QM q
  ·exact PI.imp (PI.or (wo (I.e b X _ a G h.1)) (IT (I.e b X _ a G h.1))) λj H R q=>QL q
 |r1 a=>
  obtain⟨x,p,q,rfl,f,d,h4⟩:=bj h;exact PI.imp (x8 (G.gl f).1 (G.bl _ (by decide)) (ci (I.e b X x a G d) h4) (av h4)) λj H R q=>Oj q
 |dn a=>
  obtain⟨x,p,q,J,Y,r2,L,Z,U,rfl,f,d,h4⟩:=HU h;have m1:∀ {n p r},PE X (.UnaryOp .USub (.Constant (.int 1) n p) r) (tC (.int (-1))):=λ{n p r}=>PE.imp (wp pY lH) λj H Q q=>⟨1,rfl,q⟩;exact PI.imp (Op (G.gl f).1 (G.bl _ (by decide)) (eD (I.e b X x a G d) (eD m1 (ci m1 rfl) rfl) h4) (av h4) rfl) λj H R q=>Oq q
 |r2 a c=>
  obtain⟨x,y,p,q,rfl,f,d,h4,z,u⟩:=mP h;exact PI.imp (x9 (G.gl f).1 (G.bl _ (by decide)) (eD (I.e b X x a G d) (ci (I.e b X y c G z) u) h4) (by rw[av h4,av u];rfl) (av u)) λj H R q=>Ol q
 |en a=>
  have h:=an2 h;obtain⟨x,p,q,rfl,f,d,h4⟩:=bj h.1;obtain⟨E,x1,O,rfl,_⟩:=BF h.2;show PI X _ _ (tIt X.K B (if ai a=aN then xET (ce C ar n a) else xEV (evE C ar n a)));split
  ·rename_i v;exact PI.imp (Aq (G.gl f).1 (G.bl _ (by decide)) (ci (I.tm b X x a G v d) h4) (av h4)) λj H R q=>Oi q
  ·exact PI.imp (PI.or (Aq (G.gl f).1 (G.bl _ (by decide)) (ci (I.e b X x a G d) h4) (av h4)) (Jp (G.gl f).1 (G.bl _ (by decide)) (ci (I.e b X x a G d) h4) (av h4))) λj H R q=>Oh q
end
section
variable {T:Tab} {C:Calls} {ar:Nat->Nat} {k n:Nat} {b:Blk} {X:Cx}
def mU{k:Nat}{A:Around}(r:Room k A):A.units+64 < cLine:=r.units
def i9(K:Vk)(m:List Addr)(H:Hp):∀l:List Nat,VDs K m H (l.map λj=>D.int (Int.ofNat j)) (l.map λ(j:Nat)=>V.int j)
 |[]=>by rw[Yn,Yn,VDs]
 |a::l=>by rw[Zw,Zw,VDs];exact⟨_,_,rfl,bh,i9 K m H l⟩
def Rel.adoptO{K:Vk}{m:List Addr}{S:Sto}{H:Hp}{a:Addr}(R:Rel K m S H)(n:a ∉ m){ob:Ob}(h:ObR K (m++[a]) H a ob):Rel K (m++[a]) (S++[ob]) H:=by
 have p:=YF m [a];have g:∀ {E:List D} {ws:List V},VDs K m H E ws->VDs K (m++[a]) H E ws:=λz=>VDs.mono0 p (λ_ _ t=>t) z;refine⟨by simp[R.len],Yx.mpr ⟨R.nd,by simp,λx u y c=>by simp at c;subst c;exactλz=>n (z ▸ u)⟩,λi o e=>?_⟩;by_cases hi:i < S.length
 ·rw[Zq hi] at e;obtain⟨b,hb,r⟩:=R.ob i o e;refine⟨b,kP p hb,?_⟩;cases o with
  |lst d=>obtain⟨v,p,q⟩:=r;exact⟨v,p,g q⟩
  |frz d=>obtain⟨o,v,p,q⟩:=r;exact⟨o,v,p,g q⟩
  |dic B d=>obtain⟨v,p,l,q⟩:=r;exact⟨v,p,l,g q⟩
 ·rw[Zm (by lia)] at e
  have f:i - S.length=0:=by
   have:=(Zb.mp e).1;simp at this;lia
  rw[f] at e;have j:ob=o:=by simpa using e
  subst j;refine⟨a,?_,h⟩;rw[Zm (by rw[R.len];lia),R.len,f];rfl
def ER{K:Vk}{m:List Addr}{H:Hp}{S:Sto}{p:Addr}{c:List (List NK)}{d:List D}{v:List V}{Q:VK}(R:Rel K m S H)(h:H p=aD)(vd:VDs K m H d v)(y:c.length=d.length)(q:∀j f u,Aft K m H (S++[.dic c d]) j f->VD K j f (.ref S.length) u->Q u f):Q (.ref p) (upd H p (.dT (c.zip v))):=by
 have x:=Ext.beside R h (.dT (c.zip v));have z:=R.beside h (.dT (c.zip v));refine q (m++[p]) _ _ ⟨x.adopt h,?_⟩ ?_
 ·exact z.adoptO (R.no h) (ob:=.dic c d) ⟨v,bg,y,VDs.mono0 (YF m [p]) (λ_ _ t=>t) (vd.mono R x)⟩
 ·rw[VD];exact⟨p,by rw[Zm (by rw[R.len];exact Ze _),R.len,Z7];rfl,rfl⟩
def vF{E:List Expr}{a:CE}(h:eX T n b E [a]=aN):∃y,E=[y]:=by
 cases n with
 |zero=>exact absurd h Zg
 |succ n=>
  obtain⟨e,E,rfl,h⟩:=dE h;have h:=(an2 h).2;cases n with
  |zero=>exact absurd h Zg
  |succ n=>cases eW h;exact⟨e,rfl⟩
def ES(v:Snd T C ar k n){own:List Str}{E:CE}{u:Tg}{I:CI}{cond:Option CE}{d:List Cl}{e t i:Expr}{ifs:List Expr}{gs:List WM}{c:Scope}{p:Pos}(G:CtxOk T C ar k b X)
  (U:cmB own (mJ own b.N) b.N c b.sc=aN) (y:sS T n b t i I=aN) (O:vt (b.inner own c) t u=aN) (J:BK (fK T n (b.inner own c)) ifs cond=aN) (h4:oX T n (b.inner own c) e gs E d=aN) :
  PE X (.ListComp e (⟨t,i,ifs,0⟩::gs) c p) (eP X.K (mB own.length (evI C ar n I) u (cnd (evT C ar n) cond (gZ C ar n E d)) LF)):=by
 have S:CmScope own (mJ own b.N) b.N c b.sc:=Ar _ U;have B:CmScope own (mJ own b.N) X.N c X.env.scope:=by rw[G.hN,G.hs];exact S
 have j:=gN y (λe L env=>eY L) X.env
 refine PE.imp (D4 (g:=tTg X.K u) (ti:=ifT C ar n X.K cond) (t:=λf=>tCl X.K f (gZ C ar n E d)) G.calm B (v.i [] b X t i I G y) (λh ex s H=>gP (G.inner S (C':=h) (ex:=ex) (s:=s) (H:=H)) O) (λh ex s H=>mS v (G.inner S (C':=h) (ex:=ex) (s:=s) (H:=H)) J)
  (λh ex s H f=>v.cl _ _ e gs E d (G.inner S (C':=h) (ex:=ex) (s:=s) (H:=H)) h4 _ c p f 0 rfl) j) λY H Q q=>?_
 exact wU (λf D Y H z=>vE z) q
def Kj{x:XE}{Y:L2.St}{H:Hp}{Q:VK}{K:Vk}(h:eP K (yX x) Y H Q):tE K x Y H λv c=>∃i:Nat,v = .int i/\i<=1000/\∀p,c p=aD->∀l,upd c p (.rng 0 i) l=aD->Q (.ref l) (upd (upd c p (.rng 0 i)) l (.lst ((Zk i).map λ(j:Nat)=>V.int j))):=by
 obtain⟨m,ρ,S,ds,L,E,R,e,q⟩:=h;obtain⟨d,S1,Z,e⟩:=ae e;cases d with
 |int i=>
  dsimp only at e;split at e
  ·rename_i hi;cases e;refine⟨m,ρ,S,.int i,_,E,R,Z,λm1 c v f vd=>⟨i.toNat,by rw[vd.ints];congr 1;lia,by lia,λp I l u=>?_⟩⟩;have y:Aft K m1 c L m1 (upd c p (.rng 0 i.toNat)):=⟨Ext.beside f.rel I _,f.rel.beside I _⟩;have A3:Aft K m1 (upd c p (.rng 0 i.toNat)) L m1 (upd (upd c p (.rng 0 i.toNat)) l (.lst ((Zk i.toNat).map λ(j:Nat)=>V.int j))):=⟨Ext.beside y.rel u _,y.rel.beside u _⟩;have B:l ∉ m1:=y.rel.no u
   have U:c l=aD:=by
    cases J:c l with
    |none=>rfl
    |some o=>rw[(Ext.beside f.rel I (.rng 0 i.toNat)).keep l o J B] at u;cases u
   have nH:H l=aD:=by
    cases J:H l with
    |none=>rfl
    |some o=>
     by_cases O:l ∈ m
     ·exact absurd (f.ext.pre.subset O) B
     ·rw[f.ext.keep l o J O] at U;cases U
   refine q m1 _ l _ (f.trans (y.trans A3)) bg B (λb hb z=>B (z ▸ f.ext.pre.subset hb)) nH ?_;exact i9 _ _ _ _
  ·cases e
 |_=>cases e
def ET{c:L2.St}{H:Hp}{Q:VK}{K:Vk}(h:tE K Br c H Q):An c H Q:=by
 obtain⟨m,u,S,d,j,E,R,e,q⟩:=h;cases e;exactλp f=>ER R f (show VDs K m H [] [] by rw[VDs]) rfl q
def Kk{f:Bool->List D->Option (List D)}{x:XE}{B:L2.St}{H:Hp}{Q:VK}{K:Vk}(h:eP K (yW f x) B H Q):tUn (rTm K f) (tE K x) B H Q:=by
 obtain⟨m,ρ,S,Z,S',E,R,e,q⟩:=h;obtain⟨d,S1,I,e⟩:=ae e;cases hi:ao d S1 with
 |none=>rw[hi] at e;cases e
 |some r=>
  rw[hi] at e;dsimp only at e;cases j:f r.1 r.2 with
  |none=>rw[j] at e;cases e
  |some es=>
  rw[j] at e;cases e;refine⟨m,ρ,S,d,_,E,R,I,λm1 H1 v c vd=>?_⟩;obtain⟨a,vs,ev,sq,u⟩:=ei (tu:=r.1) (ds:=r.2) c.rel vd hi;refine⟨m1,_,r.1,r.2,a,vs,Z,c.rel,ev,sq,u,j,λO U p Y A2 L n1 y J vw=>?_⟩
  have hn:H p=aD:=by
   cases eh:H p with
   |none=>rfl
   |some o=>
    by_cases z:p ∈ m
    ·exact absurd rfl (y p (c.ext.pre.subset z))
    ·have:=c.ext.keep p o eh z;rw[J] at this;cases this
  exact q O U p Y (c.trans A2) L n1 (λb hb=>y b (c.ext.pre.subset hb)) hn vw
def Kl{f:Bool->List D->Option (List D)}{x:XA}{z:L2.St}{H:Hp}{Q:VK}{K:Vk}(h:eP K (yV f x) z H Q):tUn (rTm K f) (eP K x) z H Q:=by
 obtain⟨m,ρ,S,Y,S',E,R,e,q⟩:=h;obtain⟨j,S1,B,e⟩:=ae e;cases d:f aS j with
 |none=>rw[d] at e;cases e
 |some es'=>
 rw[d] at e;cases e;refine⟨m,ρ,S,j,_,E,R,B,λm1 L a v c ha na _ _ vd=>?_⟩;refine⟨m1,_,aS,j,a,v,Y,c.rel,rfl,show SqL K L a v from SqL.of ha,vd,d,λO U p Z A2 J n1 u I vw=>?_⟩
 have hn:H p=aD:=by
  cases eh:H p with
  |none=>rfl
  |some o=>
   by_cases y:p ∈ m
   ·exact absurd rfl (u p (c.ext.pre.subset y))
   ·have:=c.ext.keep p o eh y;rw[I] at this;cases this
 exact q O U p Z (c.trans A2) J n1 (λb hb=>u b (c.ext.pre.subset hb)) hn vw
def BN(I:Snd T C ar k n)(e:Expr)(c:CE)(G:CtxOk T C ar k b X)(u:ai c=aN)(h:aK T (n+1) b e c=aN):PE X e (eP X.K (ce C ar (n+1) c)):=by
 cases c with
 |lst cs=>
  obtain⟨es,p,rfl,J⟩:=Kd h;exact PE.imp (zX (I.a b X es cs G J)) λB H Q q=>Ef q
 |listOf a=>
  obtain⟨x,p,q,rfl,d,j,h4⟩:=bj h;show PE X _ (eP X.K (if ai a=aN then ce C ar n a else mE (evE C ar n a)));split
  ·rename_i u;exact PE.imp (k7 mm G d (by decide) WE (by decide) (I.tm b X x a G u j) h4) λB H Q q=>BM q
  ·exact PE.imp (k7 mm G d (by decide) WE (by decide) (I.e b X x a G j) h4) λB H Q q=>BL q
 |listR a=>
  obtain⟨x,p,q,rfl,d,j,h4⟩:=bj h;obtain⟨y,p',q',rfl,O,h6,U⟩:=bj j
  exact PE.imp (jz (qh G.calm) (G.gl d).1 (G.bl _ (by decide)) WE (ci (jz rX (G.gl O).1 (G.bl _ (by decide)) PyProof.Rows.boot_range (ci (I.e b X y a G h6) U) (by decide) (G.gl O).2 (av U) rfl) h4) (by decide) (G.gl d).2 (av h4) rfl) λB H Q q=>qH (Kj q) λv H1 ⟨i,ev,hi,z⟩=>by
    subst ev;exact⟨i,rfl,λp hp=>⟨p,i,rfl,bg,hi,λl hl=>z p hp l hl⟩⟩
 |srt a=>
  obtain⟨x,p,q,rfl,d,j,h4⟩:=bj h;show PE X _ (eP X.K (if ai a=aN then yV cD (ce C ar n a) else yW cD (evE C ar n a)));split
  ·rename_i u;exact PE.imp (eZ oQ G d (by decide) WH (by decide) (I.tm b X x a G u j) h4) λB H Q q=>Kl (f:=cD) q
  ·exact PE.imp (eZ oQ G d (by decide) WH (by decide) (I.e b X x a G j) h4) λB H Q q=>Kk (f:=cD) q
 |comp own elt Y=>
  obtain⟨tg,it,cond,L,rfl,hc⟩:=HV h;obtain⟨el,t,i,ifs,gs,E,p,rfl,J⟩:=w4 hc;obtain⟨h0,Z,d,j,h4⟩:=an5 J;exact ES I G h0 Z d j h4
 |_=>cases u
def qI{y:Expr}{p:Pos}(h:aH y=aN):((backTo p (Uj [y] X.env)).all (λx=>!x.1) && (VE p (VZ [] X.env)).all (λx=>x.1.isSome) && decide (([y]:List Expr).length+([]:List Keyword).length+(if ([]:List Keyword).isEmpty then 0 else 1) < 30))=aN:=by
 rw[av h];rfl
def OC(I:Snd T C ar k n)(e:Expr)(c:CE)(G:CtxOk T C ar k b X)(h:aK T (n+1) b e c=aN):PE X e (tE X.K (evE C ar (n+1) c)):=by
 have hu:=mU G.room
 have tmp:ai c=aN->evE C ar (n+1) c=dC (ce C ar (n+1) c)->PE X e (tE X.K (evE C ar (n+1) c)):=λht he=>by
  rw[he];exact PE.imp (BN I e c G ht h) λL H Q q=>se q
 cases c with
 |non=>obtain⟨_,_,rfl⟩:=BE h;exact PE.imp zI λL H Q q=>Ay (λ_ _=>qk) q
 |bl v=>obtain⟨_,_,rfl⟩:=Oy h;exact PE.imp Nq λL H Q q=>Ay (λ_ _=>bD) q
 |int v=>obtain⟨_,_,rfl⟩:=jL h;exact PE.imp lH λL H Q q=>Ay (λ_ _=>bh) q
 |str v=>obtain⟨_,_,rfl⟩:=Kc h;exact PE.imp IG λL H Q q=>Ay (λ_ _=>uE) q
 |var i=>
  obtain⟨x,p,rfl,hh⟩:=qE h;have hh:=an2 hh;have v:=G.vis hh.2;exact PE.imp (IE (i:=i) (by rw[G.hN];exact eq_of_beq hh.1) v.1 v.2.1 v.2.2) λL H Q q=>Js q
 |con k' v=>
  obtain⟨x,p,rfl,hh⟩:=qE h;have hh:=an2 hh;have g:=G.gl hh.2;obtain⟨tk,hm⟩:=G.con k' x v (eq_of_beq hh.1);exact PE.imp (pX (v:=.int v) g.1 hm ⟨tk,rfl⟩ g.2) λL H Q q=>Ay (λ_ _=>bh) q
 |tup cs=>obtain⟨U,_,_,rfl,hh⟩:=BF h;exact PE.imp (Jb (I.a b X U cs G hh)) λL H Q q=>Ju q
 |lst cs=>exact tmp rfl rfl
 |dic0=>obtain⟨p,rfl⟩:=EO h;exact PE.imp Ao λL H Q q=>ET q
 |bin o a O=>obtain⟨l,r,p,rfl,B,E⟩:=Ke h;exact PE.imp (NG (El o) (I.e b X l a G B) (I.e b X r O G E)) λL H Q q=>qj q
 |neg a=>obtain⟨x,p,rfl,hh⟩:=mN h;exact PE.imp (wp EF (I.e b X x a G hh)) λL H Q q=>Aw q
 |cmp o a O=>obtain⟨l,r,p,rfl,B,E,h4⟩:=BH h;exact PE.imp (DK (gM hu o) (I.e b X l a G B) (I.e b X r O G E) (iw h4)) λL H Q q=>qj q
 |chn o Z a O d=>obtain⟨l,r,s,p,rfl,B,E,h4,Y⟩:=BI h;exact PE.imp (zU (gM hu o) (gM hu Z) (I.e b X l a G B) (I.e b X r O G E) (I.e b X s d G h4) (mR Y)) λL H Q q=>Bg q
 |and a O=>
  rcases BA h with h |h
  ·obtain⟨x,y,p,rfl,h1,B⟩:=qF h;exact PE.imp (zL (I.e b X x a G h1) (zK (I.e b X y O G B))) λL H Q q=>Bf q
  ·obtain⟨x,y,z,ys,p,rfl,h1,B⟩:=qG h;exact PE.imp (zL (I.e b X x a G h1) (I.e b X _ O G B)) λL H Q q=>Bf q
 |or a O=>
  rcases BA h with h |h
  ·obtain⟨x,y,p,rfl,h1,B⟩:=qF h;exact PE.imp (Hm (I.e b X x a G h1) (zK (I.e b X y O G B))) λL H Q q=>HF q
  ·obtain⟨x,y,z,ys,p,rfl,h1,B⟩:=qG h;exact PE.imp (Hm (I.e b X x a G h1) (I.e b X _ O G B)) λL H Q q=>HF q
 |not a=>obtain⟨x,p,rfl,hh⟩:=BG h;exact PE.imp (IJ (I.e b X x a G hh)) λL H Q q=>JY q
 |ite t a O=>obtain⟨x,y,z,p,rfl,h1,B,E⟩:=Kf h;exact PE.imp (zM (I.t b X x t G h1) (I.e b X y a G B) (I.e b X z O G E)) λL H Q q=>JZ q
 |ix a O=>
  obtain⟨x,y,p,rfl,h1,B,E⟩:=HR h;show PE X _ (tE X.K (if ai a=aN then uH (ce C ar n a) (evE C ar n O) else sd ixS (evE C ar n a) (evE C ar n O)));split
  ·rename_i ht;exact PE.imp (z6 z8 (I.tm b X x a G ht h1) (I.e b X y O G B) (mQ E)) λL H Q q=>JF q
  ·exact PE.imp (z6 (QJ hu) (I.e b X x a G h1) (I.e b X y O G B) (mQ E)) λL H Q q=>qj q
 |sl a lo hi=>obtain⟨x,y,z,p,Z,rfl,h1,B,E⟩:=Oz h;exact PE.imp (z5 QK (I.e b X x a G h1) (sV I G B) (sV I G E)) λL H Q q=>N8 q
 |call f cs=>
  obtain⟨x,e,U,p,Z,rfl,h12,E⟩:=EK (k:=λx=>oA T.fns[f]? (λy=>y.1 == x) && b.glo x) (l:=λU=>eX T n b U cs) (e:=e) h;obtain⟨h1,B⟩:=an2 h12
  ·obtain⟨y,hy,h1⟩:=sP h1;have hx:=k8 h1;subst hx;obtain⟨ha,fa,fd,ps,hm,hk,hb,F⟩:=G.fns f y hy;have J:=bF E;have g:=G.gl B;exact PE.imp (DQ F G.room g.1 hm hk hb .nil Hw (I.a b X (e::U) cs G E) g.2 (av (J e Zj)) (gO λe he=>J e (Zi _ he))) λL H Q q=>wV q
 |cal2 f g i cs=>
  obtain⟨x,y,p,Z,lp,ie,xp,e,U,q,rfl,h1,B,E,h4,Y⟩:=EM (k:=λx=>oA T.fns[f]? (λy=>y.1 == x) && b.glo x) (l:=λx=>oA T.fns[g]? (λy=>y.1 == x) && b.glo x) (m:=λx=>aK T n b x i) (a:=λU=>eX T n b U cs) (e:=e) h;obtain⟨h1,g1⟩:=an2 h1;obtain⟨B,g2⟩:=an2 B;obtain⟨z,hz,h1⟩:=sP h1;obtain⟨u,hu',B⟩:=sP B;have hx:=k8 h1;subst hx;have hx:=k8 B;subst hx;obtain⟨ha,fa,fd,ps,hm,hk,hb,F⟩:=G.fns f z hz;obtain⟨ha',fa',fd',ps',hm',hk',hb',F'⟩:=G.fns g u hu';have J:=bF Y;have g1:=G.gl g1;have g2:=G.gl g2;exact PE.imp (Bl F F' G.room g1.1 hm hk hb g2.1 hm' hk' hb' (I.e b X ie i G E) (mQ h4) (I.a b X (e::U) cs G Y) g1.2 g2.2 (av (J e Zj)) (gO λe he=>J e (Zi _ he))) λL H Q q=>EG q
 |inst t a=>
  obtain⟨x,y,p,Z,rfl,B,Y,h6,h7,_⟩:=mP h;obtain⟨y,p'',rfl,h8⟩:=qE h7;obtain⟨E,h4⟩:=an2 h8;have hy:=k8 E;subst hy
  have ty:PE X (.Name (Str.ofString t.nm) p'') (tC (.ty t.nm)):=by
   have g:=G.gl h4;cases t with
   |int=>exact iR g.1 (G.bl _ (by decide)) WD rfl (by decide) g.2
   |bool=>exact iR g.1 (G.bl _ (by decide)) PyProof.Rows.boot_bool rfl (by decide) g.2
   |tuple=>exact iR g.1 (G.bl _ (by decide)) WI rfl (by decide) g.2
   |list=>exact iR g.1 (G.bl _ (by decide)) WE rfl (by decide) g.2
   |str=>exact iR g.1 (G.bl _ (by decide)) PyProof.Rows.boot_str rfl (by decide) g.2
  exact PE.imp (iT (qi X.K) (G.gl B).1 (G.bl _ (by decide)) PyProof.Rows.boot_isinstance (eD (I.e b X x a G Y) (ci ty rfl) h6) (by decide) (G.gl B).2 (av h6) rfl) λL H Q q=>Er q
 |len a=>obtain⟨x,p,Z,rfl,B,E,h4⟩:=bj h;exact fX I G (λte z=>eZ yC G B (by decide) PySem.boot_len (by decide) z h4) E
 |all a=>obtain⟨x,p,Z,rfl,B,E,h4⟩:=bj h;exact fX I G (λte z=>eZ (yE G.calm) G B (by decide) PyProof.Rows.boot_all (by decide) z h4) E
 |any a=>obtain⟨x,p,Z,rfl,B,E,h4⟩:=bj h;exact fX I G (λte z=>eZ (yF G.calm) G B (by decide) PyProof.Rows.boot_any (by decide) z h4) E
 |mxL a=>obtain⟨x,p,Z,rfl,B,E,h4⟩:=bj h;exact fX I G (λte z=>eZ (yK G.calm) G B (by decide) WF (by decide) z h4) E
 |mxD a c=>
  obtain⟨x,p,q,v,q',rfl,h1,B,E,h4⟩:=EL h
  have hd:PE X v (tC (.int c)):=by
   rcases BA h1 with h1 |h1
   ·obtain⟨j,p,rfl⟩:=jL h1;exact lH
   ·obtain⟨u,r,rfl,h1⟩:=mN h1;obtain⟨j,p,rfl⟩:=jL h1;exact PE.imp (wp pY lH) λL H Q q=>⟨-c,rfl,by show Q (.int (- -c)) H;rw[Int.neg_neg];exact q⟩
  exact fX I G (λte z=>PE.imp (JN G.calm (G.gl B).1 (G.bl _ (by decide)) (G.gl B).2 hd (ci z h4) (av h4)) λL H Q q=>q) E
 |rev a=>obtain⟨x,k,p,p2,p3,p4,rfl,h1⟩:=Kg h;exact PE.imp (JM (I.e b X x a G h1)) λL H Q q=>Aw q
 |mnN a=>
  obtain⟨x,p,q,j,Z,q',rfl,B,E,h4⟩:=EN h;exact fX I G (λte z=>PE.imp (J3 hu G.calm (G.gl B).1 (G.bl _ (by decide)) (G.gl B).2 (ci z h4) (av h4)) λL H Q q=>q) E
 |sm a=>obtain⟨x,p,Z,rfl,B,E,h4⟩:=bj h;exact fX I G (λte z=>eZ (yM G.calm) G B (by decide) PyProof.Rows.boot_sum (by decide) z h4) E
 |intOf a=>obtain⟨x,p,Z,rfl,B,E,h4⟩:=bj h;exact PE.imp (k7 yN G B (by decide) WD (by decide) (I.e b X x a G E) h4) λL H Q q=>Aw q
 |tupOf a=>obtain⟨x,p,Z,rfl,B,E,h4⟩:=bj h;exact fX I G (λte z=>k7 yD G B (by decide) WI (by decide) z h4) E
 |listOf a=>exact tmp rfl rfl
 |listR a=>exact tmp rfl rfl
 |srt a=>exact tmp rfl rfl
 |mx a O=>
  obtain⟨x,U,p,Z,rfl,B,E⟩:=sR (b:=b) (f := "max") (k:=λU=>eX T n b U [a,O]) (e:=e) h;have J:=bF E;exact PE.imp (iT (uN G.calm) (G.gl B).1 (G.bl _ (by decide)) WF (I.a b X (x::U) [a,O] G E) (by decide) (G.gl B).2 (av (J x Zj)) (gO λe he=>J e (Zi _ he))) λL H Q q=>Ax q
 |mn a O=>
  obtain⟨x,U,p,Z,rfl,B,E⟩:=sR (b:=b) (f := "min") (k:=λU=>eX T n b U [a,O]) (e:=e) h;have J:=bF E;exact PE.imp (iT (uO G.calm) (G.gl B).1 (G.bl _ (by decide)) WG (I.a b X (x::U) [a,O] G E) (by decide) (G.gl B).2 (av (J x Zj)) (gO λe he=>J e (Zi _ he))) λL H Q q=>Ax q
 |comp own elt cls=>exact tmp rfl rfl
 |app o a=>
  obtain⟨x,ap,U,p,rfl,B,E,h4,Y⟩:=vC h;obtain⟨y,rfl⟩:=vF Y;have J:=bF Y y (by simp);exact PE.imp (Aa WX W1 PySem.F.type_list_append JP (I.e b X x o G h4) (I.a b X [y] [a] G Y) (iy B) (qI J) E (av J) rfl) λL H Q q=>u0 (λR vd c=>AY R vd c) q
 |popAt o a=>
  obtain⟨x,ap,U,p,rfl,B,E,h4,Y⟩:=vC h;obtain⟨y,rfl⟩:=vF Y;have J:=bF Y y (by simp);exact PE.imp (Aa WX W2 PySem.F.type_list_pop yP (I.e b X x o G h4) (I.a b X [y] [a] G Y) (iy B) (qI J) E (av J) rfl) λL H Q q=>u0 (λR vd c=>AY R vd c) q
 |cnt o a=>
  obtain⟨x,ap,U,p,rfl,B,E,h4,Y⟩:=vC h;obtain⟨y,rfl⟩:=vF Y;have J:=bF Y y (by simp);exact PE.imp (Aa PySem.F.plainAttrs_tuple W4 PySem.F.type_tuple_count Et (I.e b X x o G h4) (I.a b X [y] [a] G Y) (iy B) (qI J) E (av J) rfl) λL H Q q=>u0 (λR vd c=>JO R vd c) q
end
section
variable {T:Tab} {C:Calls} {ar:Nat->Nat} {k n:Nat} {b:Blk} {X:Cx}
def w5{op:BoolOp}{v:List Expr}{p:Pos}{t:TT}(h:PT X (.BoolOp op v p) t):PW X (.BoolOp op v p) t:=λd c s f H Q I q=>h c s f H Q I q
def OD(I:Snd T C ar k n)(e:Expr)(c:CE)(G:CtxOk T C ar k b X)(h:fK T (n+1) b e c=aN):PT X e (tT X.K (evT C ar (n+1) c)):=by
 have E:=mU G.room
 have dflt:evT C ar (n+1) c=Eo (evE C ar n c)->(aK T n b e c && J5 e)=aN->PT X e (tT X.K (evT C ar (n+1) c)):=λL B=>by
  rw[L];have B:=an2 B;exact PT.imp (zW (I.e b X e c G B.1) (vD B.2)) λv H Q q=>JH q
 cases c with
 |cmp o a j=>obtain⟨l,r,p,rfl,f,J,h4⟩:=BH h;exact PT.imp (DM (gM E o) (I.e b X l a G f) (I.e b X r j G J) (iw h4)) λv H Q q=>qj (N9 q)
 |chn o O a j d=>obtain⟨l,r,s,p,rfl,f,J,h4,U⟩:=BI h;exact PT.imp (zV (gM E o) (gM E O) (I.e b X l a G f) (I.e b X r j G J) (I.e b X s d G h4) (mR U)) λv H Q q=>Bg (N9 q)
 |and a j=>
  rcases BA h with h |h
  ·obtain⟨x,y,p,rfl,u,f⟩:=qF h;exact PT.imp (zJ (I.t b X x a G u) (DC (I.t b X y j G f))).pt λv H Q q=>Bj q
  ·obtain⟨x,y,z,Y,p,rfl,u,f⟩:=qG h;exact PT.imp (zJ (I.t b X x a G u) (w5 (I.t b X _ j G f))).pt λv H Q q=>Bj q
 |or a j=>
  rcases BA h with h |h
  ·obtain⟨x,y,p,rfl,u,f⟩:=qF h;exact PT.imp (Hj (I.t b X x a G u) (IH (I.t b X y j G f))).pt λv H Q q=>HG q
  ·obtain⟨x,y,z,Y,p,rfl,u,f⟩:=qG h;exact PT.imp (Hj (I.t b X x a G u) (w5 (I.t b X _ j G f))).pt λv H Q q=>HG q
 |not a=>obtain⟨x,p,rfl,u⟩:=BG h;exact PT.imp (II (I.t b X x a G u)) λv H Q q=>J1 q
 |ite _ _ _=>cases h
 |_=>exact dflt rfl h
def snd:∀n,Snd T C ar k n
 |0=>⟨λb X e c _ h=>absurd h Zg,λb X e c _ _ h=>absurd h Zg,λb X e c _ h=>absurd h Zg,λb X e c _ h=>absurd h Zg,λB b X t e c _ h=>absurd h Zg,λb X e gs E d _ h=>absurd h Zg⟩
 |n+1=>⟨λb X e c G h=>OC (snd n) e c G h,λb X e c G p h=>BN (snd n) e c G p h,λb X f j G h=>OA (snd n) f j G h,λb X e c G h=>OD (snd n) e c G h,λB b X t e c G h=>OB (snd n) B t e c G h,λb X e gs E d G h=>Ki (snd n) e gs E d G h⟩
end
inductive CS where |asg (t:Tg)(e:CE) |setI (v o i:CE) |ex (e:CE) |ret (e:CE) |ifs (c:CE)(a b:List CS) |for_ (t:Tg)(it:CI)(b:List CS) |cnt |never
abbrev EU:XS:=λ_ _=>aD
mutual
noncomputable def evS(C:Calls)(d:Nat->Nat):Nat->CS->XS
 |0,_=>EU
 |n+1,s=>match s with
  |.asg t e=>mz (evE C d n e) t
  |.setI v o i=>sI (evE C d n v) (evE C d n o) (evE C d n i)
  |.ex e=>sH (evE C d n e)
  |.ret e=>A9 (evE C d n e)
  |.ifs c a b=>xIf (evT C d n c) (g6 C d n a) (g6 C d n b)
  |.for_ t it b=>Ba (evI C d n it) t (g6 C d n b) LF
  |.cnt=>Om
  |.never=>EU
noncomputable def g6(C:Calls)(b:Nat->Nat):Nat->List CS->XS
 |0,_=>EU
 |n+1,ss=>match ss with
  |[]=>HD
  |s::ss=>A8 (evS C b n s) (g6 C b n ss)
end
abbrev BO:Expr->Bool
 |.Starred _ _=>aN
 |_=>aS
abbrev gQ(sc:Scope)(L:Nat)(T:List Expr):List Str:=T.filterMap λ
 |.Name id pos=>if sc.names.lookup id == aw .local && pos.line == L then aw id else aD
 |_=>aD
abbrev w6(sc:Scope)(ts vs:List Expr):Option (Option (List Str)):=
 if (!(ts.length == 2 || ts.length == 3) || vs.length != ts.length)=aN then aw aD
 else if (vs.any BO)=aN then aw aD
 else if ((gQ sc ((ts.head?.map (·.pos.line)).getD 0) ts).length != ts.length || (gQ sc ((ts.head?.map (·.pos.line)).getD 0) ts).eraseDups.length != (gQ sc ((ts.head?.map (·.pos.line)).getD 0) ts).length)=aN then aw aD
 else if (vs.all (foldedForSure 8))=aN then aw aD
 else if (vs.all (constantsAlone 8))=aN then aD
 else aw (aw (gQ sc ((ts.head?.map (·.pos.line)).getD 0) ts))
def OE{k k2:Nat}(n:env.blockKind = .function)(hs:env.scope=sc)(h:w6 sc ts v=aw r):Uk [.Tuple ts k p] (.Tuple v k2 p2) env=pure r:=by
 unfold w6 at h;unfold Uk
 have f:(v.any λ|.Starred ..=>aN |_=>aS)=v.any BO:=by
  congr 1
 have E:(ts.filterMap λ
   |.Name id pos=>if env.kindOf id == aw .local && pos.line == ((ts.head?.map (·.pos.line)).getD 0) then aw id else aD
   | _=>aD)=gQ sc ((ts.head?.map (·.pos.line)).getD 0) ts:=by
  unfold gQ Env.kindOf;rw[hs]
 have q:(env.blockKind != .function)=aS:=by rw[n];rfl
 simp only[q,Ww];split at h
 ·rename_i C;rw[if_pos C];cases h;rfl
 rename_i C;rw[if_neg C];split at h
 ·rename_i d;cases h;exact if_pos (f.trans d)
 rename_i d;refine Eq.trans (if_neg λz=>d (f.symm.trans z)) ?_;split at h
 ·rename_i c;cases h;rw[<-E] at c;exact if_pos c
 rename_i c;rw[<-E] at c h;refine Eq.trans (if_neg c) ?_;split at h
 ·rename_i b;cases h;exact if_pos b
 rename_i b;refine Eq.trans (if_neg b) ?_;split at h
 ·cases h
 rename_i j;cases h;exact if_neg j
abbrev BP:Expr->Option (Scope × Pos)
 |.ListComp _ _ s p=>aw (s,p)
 |.SetComp _ _ s p=>aw (s,p)
 |.DictComp _ _ _ s p=>aw (s,p)
 |_=>aD
abbrev swW(sc:Scope)(v:Expr)(t:Str)(b:Pos):Bool:=match BP v with
 |none=>aS
 |some (s,p)=>sc.names.lookup t == aw .local && b.line == p.line && !(s.names.any λy=>y.1 == t && (y.2 == .local || y.2 == .cell))
def Km{line:Nat}(h:env.blockKind = .function)(hs:env.scope=sc):Ul v (aw (.Name t pos)) line env=pure (swW sc v t pos):=by
 unfold Ul swW BP;have E:(env.blockKind == .function)=aN:=by rw[h];rfl
 cases v <;> first |rfl |(simp only[E,Yy,Env.kindOf,hs];rfl)
def sW{L:Nat}(h:∀x p,T ≠ .Name x p):Um [T] v L env=pure aS:=by
 show Ul v (aw T) L env=pure aS;unfold Ul;cases v <;> first |rfl |(cases T <;> first |rfl |(exact absurd rfl (h _ _)))
def w8(h:(∀E k p,v ≠ .Tuple E k p)\/(∃x p,T = .Name x p)\/(∃o i p,T = .Subscript o i p)):Uk [T] v env=pure aD:=by
 unfold Uk;rcases h with h |⟨x,p,rfl⟩ |⟨o,i,p,rfl⟩
 ·split
  ·rename_i e;split at e
   ·exact absurd rfl (h _ _ _)
   ·exact absurd rfl (h _ _ _)
   ·cases e
  ·rfl
 ·rfl
 ·rfl
abbrev nmL:List Expr->Option (List Str)
 |[]=>aw []
 |e::es=>match Bz e,nmL es with
  |some r,aw xs=>aw (r.1::xs)
  |_,_=>aD
def fY(h:nmL b=aw (x::xs)):∃p E,b = .Name x p::E/\nmL E=aw xs:=by
 cases b with
 |nil=>cases h
 |cons e b=>
  rw[nmL] at h;split at h
  ·rename_i r y d c;cases h;exact⟨_,b,by rw[qC d],c⟩
  ·cases h
def w9(h:nmL E=aw []):E=[]:=by
 cases E with
 |nil=>rfl
 |cons e E=>
  rw[nmL] at h;split at h <;> cases h
abbrev tgL:List Tg->Option (List Nat)
 |[]=>aw []
 |.name i::ts=>match tgL ts with
  |some is=>aw (i::is)
  |none=>aD
 |.tup _::_=>aD
def BQ:∀ {T:List Tg} {is:List Nat},tgL T=aw is->T=is.map Tg.name
 |[],_,h=>by cases h;rfl
 |.name i::T,is,h=>by
  rw[tgL] at h;cases e:tgL T with
  |none=>rw[e] at h;cases h
  |some js=>rw[e] at h;cases h;rw[BQ e];rfl
 |.tup _::_,_,h=>by cases h
abbrev OG(b:Blk)(ns:List Str)(is:List Nat):Bool:=match ns with
 | [x,y]=>(match is with
  |[i,j]=>b.N[i]? == aw x && b.N[j]? == aw y && i != j && b.sc.names.lookup x == aw .local && b.sc.names.lookup y == aw .local
  | _=>aS)
 | [x,y,z]=>(match is with
  |[i,j,l]=>b.N[i]? == aw x && b.N[j]? == aw y && b.N[l]? == aw z && i != j && i != l && j != l && b.sc.names.lookup x == aw .local && b.sc.names.lookup y == aw .local && b.sc.names.lookup z == aw .local
  | _=>aS)
 |_=>aS
abbrev QN(e:Expr):Bool:=jK e λ_ _ _ _=>aN
abbrev QO(e:Expr):Bool:=e.ctorIdx == 24
abbrev vG(T:Tab)(n:Nat)(b:Blk)(d e:Expr)(t:Tg)(c:CE):Bool:=match t with
 | .name i=>(match Bz d with
  |some r=>aK T n b e c && b.N[i]? == aw r.1 && b.own r.1 && (!(swW b.sc e r.1 r.2) || (QN e && b.sc.names.lookup r.1 == aw .local))
  | none=>aS)
 | .tup gs=>(match yY d with
  | some r=>aK T n b e c && (match yY e with
   | some q=>(match w6 b.sc r.1 q.1 with
    |some aD=>mL b r.1 gs
    | some (aw ns)=>(match tgL gs with
     |some is=>nmL r.1 == aw ns && q.1.length == ns.length && OG b ns is
     | none=>aS)
    | none=>aS)
   | none=>!(QO e) && mL b r.1 gs)
  | none=>aS)
abbrev xa(e:Stmt)(k:Option Expr->Pos->Bool):Bool:=if h:e.ctorIdx=3 then @Stmt.Return.elim (λ_=>Bool) e h k else aS
def yZ(h:xa e k=aN):∃X b,e = .Return X b/\k X b=aN:=by
 obtain⟨c,h⟩:=bN h;exact Stmt.Return.elim (motive_2:=λe=>∀d,@Stmt.Return.elim (λ_=>Bool) e d k=aN->∃X b,e = .Return X b/\k X b=aN) e c (λX b _ f=>⟨X,b,rfl,f⟩) c h
abbrev qJ(e:Stmt)(k:List Expr->Expr->Pos->Bool):Bool:=if h:e.ctorIdx=5 then @Stmt.Assign.elim (λ_=>Bool) e h k else aS
def o0(h:qJ e k=aN):∃X c b,e = .Assign X c b/\k X c b=aN:=by
 obtain⟨d,h⟩:=bN h;exact Stmt.Assign.elim (motive_2:=λe=>∀f,@Stmt.Assign.elim (λ_=>Bool) e f k=aN->∃X c b,e = .Assign X c b/\k X c b=aN) e d (λX c b _ j=>⟨X,c,b,rfl,j⟩) d h
abbrev OH(e:Stmt)(k:Expr->Expr->List Stmt->List Stmt->Pos->Bool):Bool:=if h:e.ctorIdx=9 then @Stmt.For.elim (λ_=>Bool) e h k else aS
def Ko(h:OH e k=aN):∃X f b d c,e = .For X f b d c/\k X f b d c=aN:=by
 obtain⟨j,h⟩:=bN h;exact Stmt.For.elim (motive_2:=λe=>∀n,@Stmt.For.elim (λ_=>Bool) e n k=aN->∃X f b d c,e = .For X f b d c/\k X f b d c=aN) e j (λX f b d c _ p=>⟨X,f,b,d,c,rfl,p⟩) j h
abbrev jIf(e:Stmt)(k:Expr->List Stmt->List Stmt->Pos->Bool):Bool:=if h:e.ctorIdx=12 then @Stmt.If.elim (λ_=>Bool) e h k else aS
def OI(h:jIf e k=aN):∃X d b c,e = .If X d b c/\k X d b c=aN:=by
 obtain⟨f,h⟩:=bN h;exact Stmt.If.elim (motive_2:=λe=>∀j,@Stmt.If.elim (λ_=>Bool) e j k=aN->∃X d b c,e = .If X d b c/\k X d b c=aN) e f (λX d b c _ n=>⟨X,d,b,c,rfl,n⟩) f h
abbrev HW(e:Stmt)(k:Expr->Pos->Bool):Bool:=if h:e.ctorIdx=24 then @Stmt.Expr.elim (λ_=>Bool) e h k else aS
def EV(h:HW e k=aN):∃X b,e = .Expr X b/\k X b=aN:=by
 obtain⟨c,h⟩:=bN h;exact Stmt.Expr.elim (motive_2:=λe=>∀d,@Stmt.Expr.elim (λ_=>Bool) e d k=aN->∃X b,e = .Expr X b/\k X b=aN) e c (λX b _ f=>⟨X,b,rfl,f⟩) c h
abbrev o3(e:Stmt)(k:Pos->Bool):Bool:=if h:e.ctorIdx=27 then @Stmt.Continue.elim (λ_=>Bool) e h k else aS
def sX(h:o3 e k=aN):∃X,e = .Continue X/\k X=aN:=by
 obtain⟨b,h⟩:=bN h;exact Stmt.Continue.elim (motive_2:=λe=>∀c,@Stmt.Continue.elim (λ_=>Bool) e c k=aN->∃X,e = .Continue X/\k X=aN) e b (λX _ d=>⟨X,rfl,d⟩) b h
abbrev qK(e:Expr):Bool:=e.ctorIdx == 8 || e.ctorIdx == 9 || e.ctorIdx == 10
abbrev OJ(k:Expr->Expr->Bool)(s:Stmt):Bool:=qJ s λT v _=>l1 T λb=>k b v
abbrev HX(k l m:Expr->Bool)(s:Stmt):Bool:=qJ s λT z _=>l1 T λb=>cW b λx y _=>k z && l x && m y && aH y
abbrev zEx(k:Expr->Bool)(s:Stmt):Bool:=HW s λv _=>k v && !(qK v)
abbrev OK(k:Expr->Bool)(s:Stmt):Bool:=xa s λv _=>oA v k
abbrev zIf(k:Expr->Bool)(l m:List Stmt->Bool)(s:Stmt):Bool:=jIf s λt p q _=>k t && l p && m q
abbrev OL(k:Expr->Expr->Bool)(l:List Stmt->Bool)(s:Stmt):Bool:=OH s λT i p q _=>q.isEmpty && k T i && l p
abbrev OM(s:Stmt):Bool:=o3 s λ_=>aN
section
variable {s:Stmt} {k l m:Expr->Bool}
def Kq{k:Expr->Expr->Bool}(h:OJ k s=aN):∃T v p,s = .Assign [T] v p/\k T v=aN:=by
 obtain⟨b,v,p,rfl,h⟩:=o0 h;obtain⟨T,rfl,h⟩:=g5 h;exact⟨T,v,p,rfl,h⟩
def EW(h:HX k l m s=aN):∃x y q z p,s = .Assign [.Subscript x y q] z p/\k z=aN/\l x=aN/\m y=aN/\aH y=aN:=by
 obtain⟨T,v,p,rfl,h⟩:=o0 h;obtain⟨b,rfl,h⟩:=g5 h;obtain⟨x,y,q,rfl,h⟩:=cM h;exact⟨x,y,q,v,p,rfl,an4 h⟩
def OO(h:zEx k s=aN):∃v p,s = .Expr v p/\k v=aN/\qK v=aS:=by
 obtain⟨v,p,rfl,h⟩:=EV h;obtain⟨c,b⟩:=an2 h;exact⟨v,p,rfl,c,by cases e:qK v;rfl;rw[e] at b;cases b⟩
def Kr(h:OK k s=aN):∃v p,s = .Return (aw v) p/\k v=aN:=by
 obtain⟨v,p,rfl,h⟩:=yZ h;obtain⟨v,rfl,h⟩:=sP h;exact⟨v,p,rfl,h⟩
def OP{l m:List Stmt->Bool}(h:zIf k l m s=aN):∃t p q r,s = .If t p q r/\k t=aN/\l p=aN/\m q=aN:=by
 obtain⟨t,p,q,r,rfl,h⟩:=OI h;exact⟨t,p,q,r,rfl,an3 h⟩
def Ks{k:Expr->Expr->Bool}{l:List Stmt->Bool}(h:OL k l s=aN):∃T i p q,s = .For T i p [] q/\k T i=aN/\l p=aN:=by
 obtain⟨T,i,p,q,r,rfl,h⟩:=Ko h;obtain⟨b,z⟩:=an3 h;cases eW b;exact⟨T,i,p,r,rfl,z⟩
def Kt(h:OM s=aN):∃p,s = .Continue p:=by obtain⟨p,rfl,_⟩:=sX h;exact⟨p,rfl⟩
end
mutual
noncomputable def OQ(T:Tab):Nat->Blk->Stmt->CS->Bool
 |0,_,_,_=>aS
 |n+1,b,s,c=>match c with
  |.asg t e=>OJ (λd v=>vG T n b d v t e) s
  |.setI v o i=>HX (λx=>aK T n b x v) (λx=>aK T n b x o) (λx=>aK T n b x i) s
  |.ex e=>zEx (λx=>aK T n b x e) s
  |.ret e=>OK (λx=>aK T n b x e) s
  |.ifs c x y=>zIf (λe=>fK T n b e c) (λp=>o4 T n b p x) (λp=>o4 T n b p y) s
  |.for_ t it x=>OL (λd i=>sS T n b d i it && vt b d t) (λp=>o4 T n b p x) s
  |.cnt=>OM s
  |.never=>aN
noncomputable def o4(T:Tab):Nat->Blk->List Stmt->List CS->Bool
 |0,_,_,_=>aS
 |n+1,b,ss,cs=>match cs with
  |[]=>ss.isEmpty
  |c::cs=>lC ss λs ss=>OQ T n b s c && o4 T n b ss cs
end
section
variable {T:Tab} {C:Calls} {ar:Nat->Nat} {k n:Nat} {b:Blk} {X:Cx}
def EX{d:Nat}(h:aK T (n+1) b (.Tuple E d p) (.tup c)=aN):eX T n b E c=aN:=h
def BR{j:Nat}(h:aK T (n+1) b (.Tuple u j p) c=aN):∃cs,c = .tup cs:=by
 cases c with
 |tup cs=>exact⟨cs,rfl⟩
 |comp own E d=>
  cases d with
  |nil=>exact absurd h Zg
  |cons g f=>obtain⟨q,I,cond⟩:=g;exact absurd h Zg
 |_=>exact absurd h Zg
def iz:∀ (f:List Tg) (h:List D) (j c:Rho),aM f h j=aw c->f.length=h.length
 |[],[],_,_,_=>rfl
 |[],_::_,_,_,e=>by simp[aM] at e
 |_::_,[],_,_,e=>by simp[aM] at e
 |t::f,d::h,j,c,e=>by
  simp only[aM] at e;split at e
  ·simp[iz _ _ _ _ e]
  ·cases e
def sY{K:Vk}{x:XA}{v:List Tg}{D:Ends}{y:L2.St}{H:Hp}(h:tSt K (mz (kK kL x) (.tup v)) D y H):tAr K x y H λz H1=>∃m1 f d j,EnvR K m1 H1 f y/\VDs K m1 H1 j z/\aM v j f=aw d/\∀c,EnvR K m1 H1 d c->D.nx c H1:=by
 obtain⟨m,f,S,U,d,O,E,R,e,q⟩:=h;unfold mz at e;cases u:kK kL x f S with
 |none=>rw[u] at e;cases e
 |some r=>
  rw[u] at e;obtain⟨j,Q,I,p⟩:=ae u;unfold kL at p;split at p
  ·cases p;dsimp only at e;simp only[ax] at e;cases hb:aM v j f with
   |none=>rw[hb] at e;cases e
   |some L=>
    rw[hb] at e;cases e;exact⟨m,f,S,j,_,E,R,I,λm1 H1 z B vd=>⟨m1,f,_,j,E.mono R B.ext,vd,hb,λc J=>q m1 H1 B c J⟩⟩
  ·cases p
def sZ{K:Vk}{x:XA}{j:L2.St}{H:Hp}{Q Q':List V->Hp->Prop}(h:tAr K x j H Q)(f:∀v c,Q v c->Q' v c):tAr K x j H Q':=by
 obtain⟨m,y,S,d,p,E,R,e,q⟩:=h;exact⟨m,y,S,d,p,E,R,e,λu c v A vd=>f _ _ (q u c v A vd)⟩
def mV{f c:Rho}{i:Nat}{d:D}(h:(if i < f.length then aw (f.set i (aw d)) else aD)=aw c):c=f.set i (aw d):=by
 split at h
 ·cases h;rfl
 ·cases h
def EY{K:Vk}{x:XA}{i j:Nat}{D:Ends}{d:L2.St}{H:Hp}(h:tSt K (mz (kK kL x) (.tup [.name i,.name j])) D d H):NC i j (tAr K x) D d H:=by
 refine sZ (sY h) λJ O ⟨m1,L,y,I,E,vd,e,q⟩=>?_;have p:=iz _ _ _ _ e
 match I,p with
 |[a,c],_=>
  obtain⟨v,w,rfl,z,B⟩:=yG vd;refine⟨v,w,rfl,q _ ?_⟩;simp only[aM,ax] at e;split at e
  ·rename_i r1 u;have:=mV u;subst this;split at e
   ·rename_i r2 f;have:=mV f;subst this;cases e;exact(E.set z).set B
   ·cases e
  ·cases e
def QP{K:Vk}{m:List Addr}{H:Hp}{a b c:D}{d:List V}(h:VDs K m H [a,b,c] d):∃v w z,d=[v,w,z]/\VD K m H a v/\VD K m H b w/\VD K m H c z:=by
 rw[VDs] at h;obtain⟨v,r,rfl,p,q⟩:=h;obtain⟨w,z,rfl,f,Q⟩:=yG q;exact⟨v,w,z,rfl,p,f,Q⟩
def EZ{K:Vk}{x:XA}{i j l:Nat}{D:Ends}{p:L2.St}{H:Hp}(h:tSt K (mz (kK kL x) (.tup [.name i,.name j,.name l])) D p H):Hz i j l (tAr K x) D p H:=by
 refine sZ (sY h) λZ U ⟨m1,ρ,O,B,E,vd,e,q⟩=>?_;have y:=iz _ _ _ _ e
 match B,y with
 |[a,c,d],_=>
  obtain⟨v,w,z,rfl,Q,J,f⟩:=QP vd;refine⟨v,w,z,rfl,q _ ?_⟩;simp only[aM,ax] at e;split at e
  ·rename_i r1 u;have:=mV u;subst this;split at e
   ·rename_i r2 L;have:=mV L;subst this;split at e
    ·rename_i Y I;have:=mV I;subst this;cases e;exact((E.set Q).set J).set f
    ·cases e
   ·cases e
  ·cases e
def BS(h:aK T (n+1) b (.ListComp e gs d p) c=aN):∃own E u I cond f t i ifs j,c = .comp own E (⟨u,I,cond⟩::f)/\gs=⟨t,i,ifs,0⟩::j ∧
  cmB own (mJ own b.N) b.N d b.sc=aN/\sS T n b t i I=aN/\vt (b.inner own d) t u=aN/\BK (fK T n (b.inner own d)) ifs cond=aN/\oX T n (b.inner own d) e j E f=aN:=by
 cases c with
 |comp own E v=>
  ·obtain⟨u,I,cond,f,rfl,z⟩:=HV h;obtain⟨Y,t,i,ifs,j,q,U,J,L⟩:=w4 z;cases J;obtain⟨Q,y,O,B,h4⟩:=an5 L;exact⟨own,E,u,I,cond,f,t,i,ifs,j,rfl,rfl,Q,y,O,B,h4⟩
 |_=>exact absurd h Zg
end
section
variable {T:Tab} {C:Calls} {ar:Nat->Nat} {k n:Nat} {b:Blk} {X:Cx}
def E5(h:X.env.scope.kind = .function):X.env.blockKind = .function:=by
 unfold Env.blockKind;rw[h];rfl
def E6{c:Type}{l:List c}(h:l.length=2):∃a b,l=[a,b]:=by
 match l,h with
 |[a,b],_=>exact⟨a,b,rfl⟩
def y3{d:Type}{l:List d}(h:l.length=3):∃a b c,l=[a,b,c]:=by
 match l,h with
 |[a,b,c],_=>exact⟨a,b,c,rfl⟩
def Ku(G:CtxOk T C ar k b X)(hk:X.env.scope.kind = .function){tg e:Expr}{t:Tg}{c:CE}{p:Pos}(h:vG T n b tg e t c=aN):PS X (.Assign [tg] e p) (tSt X.K (mz (evE C ar n c) t)):=by
 have hb:=E5 hk;unfold vG at h;cases t with
 |name i=>
  dsimp only at h;cases u:Bz tg with
  |none=>rw[u] at h;cases h
  |some r=>
  obtain⟨x,px⟩:=r;rw[u] at h;rw[qC u];simp only[bAE] at h;obtain⟨⟨⟨I,h2⟩,d⟩,h4⟩:=h;have hi:X.N[i]?=aw x:=by rw[G.hN];simpa using h2
  have nd:X.N.Nodup:=by rw[G.hN];exact G.nd
  have o:=G.own d;have sw:=Km (sc:=b.sc) (v:=e) (t:=x) (pos:=px) (line:=p.line) hb G.hs;cases E:swW b.sc e x px with
  |false=>
   rw[E] at sw;exact PS.imp (IR nd hi o.1 ((snd n).e b X e c G I) sw o.2) λD σ H q=>qH (vh q) λv H' z=>qy z
  |true=>
   rw[E] at h4 sw;simp only[Xb,Wx,bAE] at h4;obtain⟨h5,h4⟩:=h4;obtain⟨el,gs,f,pp,rfl,_⟩:=kj h5
   ·cases n with
    |zero=>exact absurd I Zg
    |succ n=>
     obtain⟨own,U,tg',it,cond,J,tt,ii,ifs,gs',rfl,rfl,c0,c1,c2,c3,c4⟩:=BS I;have S:CmScope own (mJ own b.N) b.N f b.sc:=Ar _ c0;have S':CmScope own (mJ own b.N) X.N f X.env.scope:=by rw[G.hN,G.hs];exact S
     have hpl:=gN c1 (λe he env=>eY he) X.env;have u:X.env.scope.names.lookup x=aw .local:=by rw[G.hs];simpa using h4
     refine PS.imp (D5 (g:=tTg X.K tg') (ti:=ifT C ar n X.K cond) (t:=λB=>tCl X.K B (gZ C ar n U J)) G.calm S' nd hi u ((snd n).i [] b X tt ii it G c1) (λY ex s H=>gP (G.inner S (C':=Y) (ex:=ex) (s:=s) (H:=H)) c2) (λY ex s H=>mS (snd n) (G.inner S (C':=Y) (ex:=ex) (s:=s) (H:=H)) c3)
      (λY ex s H B=>(snd n).cl _ _ el gs' U J (G.inner S (C':=Y) (ex:=ex) (s:=s) (H:=H)) c4 _ f pp B 0 rfl) sw hpl) λD σ H q=>?_
     exact wU (λB D σ H z=>vE z) (se (qH (vh q) λv H' z=>qy z))
 |tup gs=>
  dsimp only at h;cases u:yY tg with
  |none=>rw[u] at h;cases h
  |some r=>
  obtain⟨Q,kt,pt⟩:=r;rw[u] at h;rw[qD u];simp only[bAE] at h;obtain⟨I,d⟩:=h;have so:Um [.Tuple Q kt pt] e p.line X.env=pure aS:=sW λx p z=>nomatch z
  have plain:∀ (E:Uk [.Tuple Q kt pt] e X.env=pure aD) (hg:mL b Q gs=aN),PS X (.Assign [.Tuple Q kt pt] e p) (tSt X.K (mz (evE C ar n c) (.tup gs))):=λE hg=>
   PS.imp (zR ((snd n).e b X e c G I) (gP G (e:=.Tuple Q kt pt) (t:=.tup gs) hg) so E rfl) λD σ H q=>vh q
  cases Z:yY e with
  |none=>
   rw[Z] at d;simp only[bAE] at d;exact plain (w8 (.inl λes k p z=>by rw[z] at Z;cases Z)) d.2
  |some q=>
   obtain⟨es,ke,pe⟩:=q;rw[Z] at d;obtain rfl:=qD Z;cases n with
   |zero=>exact absurd I Zg
   |succ n=>
    obtain⟨cs,rfl⟩:=BR I;have ha:=EX I;dsimp only at d;cases hr:w6 b.sc Q es with
    |none=>rw[hr] at d;cases d
    |some w=>
     have E:=OE (k:=kt) (p:=pt) (k2:=ke) (p2:=pe) hb G.hs hr;rw[hr] at d;cases w with
     |none=>exact plain E d
     |some ns=>
      dsimp only at d;cases ht:tgL gs with
      |none=>rw[ht] at d;cases d
      |some is=>
       rw[ht] at d;simp only[bAE] at d;obtain⟨⟨hn0,hl0⟩,d⟩:=d;have hn:nmL Q=aw ns:=by simpa using hn0
       have hl:es.length=ns.length:=by simpa using hl0
       clear hn0 hl0;obtain rfl:=BQ ht;unfold OG at d;split at d
       ·rename_i x y;split at d
        ·rename_i i j;obtain⟨p1,t1,rfl,O⟩:=fY hn;obtain⟨p2,t2,rfl,L⟩:=fY O;obtain rfl:=w9 L;obtain⟨a1,a2,rfl⟩:=E6 hl;simp only[bAE] at d;obtain⟨⟨⟨⟨q2,q3⟩,q4⟩,q5⟩,q6⟩:=d;exact PS.imp (IS (i:=i) (j:=j) G.calm (by rw[G.hN];exact G.nd) (by rw[G.hN];simpa using q2) (by rw[G.hN];simpa using q3) (by simpa using q4) (by rw[G.hs];simpa using q5) (by rw[G.hs];simpa using q6) ((snd n).a b X _ cs G ha) E so) λD σ H q=>EY q
        ·cases d
       ·rename_i x y z;split at d
        ·rename_i i j l;obtain⟨p1,t1,rfl,O⟩:=fY hn;obtain⟨p2,t2,rfl,L⟩:=fY O;obtain⟨p3,t3,rfl,hn3⟩:=fY L;obtain rfl:=w9 hn3;obtain⟨a1,a2,a3,rfl⟩:=y3 hl;simp only[bAE] at d;obtain⟨⟨⟨⟨⟨⟨⟨⟨q2,q3⟩,q3'⟩,q4⟩,q4'⟩,q4''⟩,q5⟩,q6⟩,q7⟩:=d;exact PS.imp (D9 (i:=i) (j:=j) (k:=l) G.calm (by rw[G.hN];exact G.nd) (by rw[G.hN];simpa using q2) (by rw[G.hN];simpa using q3) (by rw[G.hN];simpa using q3') (by simpa using q4) (by simpa using q4') (by simpa using q4'') (by rw[G.hs];simpa using q5) (by rw[G.hs];simpa using q6) (by rw[G.hs];simpa using q7) ((snd n).a b X _ cs G ha) E so) λD σ H q=>EZ q
        ·cases d
       ·cases d
def BU{L:Nat}(h:qK v=aS):Ul v aD L X.env=pure aS:=by
 unfold Ul;cases v <;> first |rfl |(exact absurd h (λz=>Zg z.symm))
structure SndS(T:Tab)(C:Calls)(ar:Nat->Nat)(k n:Nat):Prop where
 s:∀ (b:Blk) (X:Cx) (s:Stmt) (c:CS),CtxOk T C ar k b X->X.env.scope.kind = .function->OQ T n b s c=aN->PS X s (tSt X.K (evS C ar n c))
 ss:∀ (b:Blk) (X:Cx) (s:List Stmt) (c:List CS),CtxOk T C ar k b X->X.env.scope.kind = .function->o4 T n b s c=aN->PSs X s (tSt X.K (g6 C ar n c))
def OT{K:Vk}{D:Ends}{c:L2.St}{H:Hp}(h:tSt K EU D c H):False:=by
 obtain⟨m,j,S,p,d,f,E,R,e,q⟩:=h;cases e
def OU:∀n,SndS T C ar k n
 |0=>⟨λb X s c _ _ h=>absurd h Zg,λb X s c _ _ h=>absurd h Zg⟩
 |n+1=>by
  have I:=OU n;refine⟨λb X s c G j h=>?_,λb X ss E G j h=>?_⟩
  ·have L:PassesOwn (model X.prog X.w) X.A X.env X.xe:=by rw[G.xe];exact PassesOwn.never
   cases c with
   |asg t e=>obtain⟨Q,v,p,rfl,d⟩:=Kq h;exact Ku G j d
   |setI v o i=>
    obtain⟨x,y,Z,z,p,rfl,d,u,B,J⟩:=EW h
    exact PS.imp (zR ((snd n).e b X z v G d) (IQ ((snd n).e b X x o G u) ((snd n).e b X y i G B) (Oe (mU G.room)) (λv=>by
     cases y <;> first | rfl | (exact absurd J Zg))) (sW λx p z=>nomatch z) (w8 (.inr (.inr ⟨_,_,_,rfl⟩))) rfl) λD f H q=>EA q
   |ex e=>obtain⟨v,p,rfl,d,u⟩:=OO h;exact PS.imp (DE ((snd n).e b X v e G d) (BU u)) λD f H q=>Ez q
   |ret e=>obtain⟨v,p,rfl,d⟩:=Kr h;exact PS.imp (IK ((snd n).e b X _ _ G d)) λD f H q=>JS q
   |ifs c x y=>obtain⟨t,p,q,r,rfl,d,u,B⟩:=OP h;exact PS.imp (Ny ((snd n).t b X _ _ G d) (I.ss b X _ _ G j u) (I.ss b X _ _ G j B)) λD f H q=>Oo q
   |for_ t Y x=>
    obtain⟨Q,i,p,O,rfl,d,u⟩:=Ks h;have d:=an2 d;exact PS.imp (IU L G.calm ((snd n).i [] b X _ _ _ G d.1) (gP G d.2) (I.ss b X _ _ G j u) (gN d.1 (λe U env=>eY U) X.env)) λD f H q=>JU q
   |cnt=>obtain⟨p,rfl⟩:=Kt h;exact PS.imp rE λD f H q=>JT q
   |never=>exact PS.imp zO λD f H q=>(OT q).elim
  ·cases E with
   |nil=>rw[eW h];exact PSs.imp DD λD f H q=>Ey q
   |cons c E=>
    obtain⟨s,ss,rfl,h⟩:=dE h;have h:=an2 h;exact PSs.imp (zN (I.s b X s c G j h.1) (I.ss b X ss E G j h.2)) λD f H q=>JR q
end
structure DefE where
 x:Str
 st:Stmt
 N:List Str
 ps:List Str
 body:List CS
abbrev FU:Nat:=60
abbrev fZ(ag:List DefE)(f:Nat):Nat:=match ag[f]? with
 |some d=>d.ps.length
 |none=>0
abbrev Kv(C:Calls)(c:Nat->Nat)(d:DefE)(b:List D)(S:Sto):Option (D × Sto):=
 match g6 C c FU d.body (b.map aw++Zx (d.N.length - b.length) aD) S with
 |some (.rt v,_,S')=>aw (v,S')
 |some (.nx,_,S')=>aw (.non,S')
 |_=>aD
abbrev evC(ag:List DefE):Nat->Calls
 |0=>λ_ _ _=>aD
 |k+1=>λf b S=>match ag[f]? with
  |some d=>Kv (evC ag k) (fZ ag) d b S
  |none=>aD
abbrev BV(N ps:List Str)(sc:Scope):Bool:=sc.kind == .function && sc.isCoroutine == aS && sc.isGenerator == aS && jE N && N.take ps.length == ps && (ps.all λx=>sc.names.lookup x == aw .local || sc.names.lookup x == aw .cell) && sc.names.all λy=>y.2 != .free
def E7{N ps:List Str}{sc:Scope}(h:BV N ps sc=aN):FnScope N ps sc:=by
 unfold BV at h;simp only[bAE,Yk] at h;obtain⟨⟨⟨⟨⟨⟨d,b⟩,c⟩,h4⟩,j⟩,k⟩,n⟩:=h;refine⟨by simpa using d,by simpa using b,by simpa using c,iX h4,by simpa using j,λx f=>?_,λy p=>by simpa using n y p⟩;have:=k x f
 simpa using this
abbrev E8(T:Tab)(d:DefE):Bool:=BV d.N d.ps (bf d.st) && o4 T FU ⟨bf d.st,aD,d.N⟩ (bU d.st) d.body
abbrev xc(con:List (Str × Int))(ag:List DefE):Tab:=⟨con,ag.map λd=>(d.x,d.ps.length)⟩
structure TextOk(K:Vk)(mg:Str->Option Value)(con:List (Str × Int))(ag:List DefE):Prop where
 con:∀ (i:Nat) (x:Str) (v:Int),con[i]?=aw (x,v)->∃tk,mg x=aw (.int v tk)
 bl:∀x,x ∈ iQ->mg x=aD
 fn:∀ (i:Nat) (d:DefE),ag[i]?=aw d->∃f fd,mg d.x=aw (.ref f)/\Vs K (.ref f)=aN/\iS K fd d.ps []/\Fun K d.x d.x d.st f fd
section
variable {P:Program} {w:World} {K:Vk} {mg:Str->Option Value} {base:Heap} {con:List (Str × Int)} {ag:List DefE}
def E9{f:Addr}{c:W7}{ps:List Str}{i n:Nat}:FnOk P w K mg base CX0 0 f c ps (spC K (evC ag 0 i) n):=
 ⟨λv H Q E h=>(by obtain⟨m,k,S,d,j,_,_,_,e,_⟩:=h;cases e),λA outer s H b u v Q E _ _ _ _ h=>(by obtain⟨m,k,S,d,j,_,_,_,e,_⟩:=h;cases e)⟩
def y4{m:List Addr}{H:Hp}{N:List Str}{b:List D}{c:List V}(vd:VDs K m H b c):EnvR K m H (b.map aw++Zx (N.length - b.length) aD) (L2.hJ N c):=by
 have f:=vd.length;unfold L2.hJ;refine⟨by simp[f],λi d e=>?_⟩;by_cases hi:i < b.length
 ·rw[Zq (by simpa using hi),Zp] at e;cases h:b[i]? with
  |none=>rw[h] at e;cases e
  |some n=>
   rw[h] at e;cases e;obtain⟨v,j,k⟩:=vd.get h;exact⟨v,by rw[Zq (by simp;omega),Zp,j];rfl,k⟩
 ·rw[Zm (by simpa using hi),YA] at e;split at e <;> cases e
def xf(T:TextOk K mg con ag)(U:ag.all (E8 (xc con ag))=aN):∀ (k i:Nat) (d:DefE),ag[i]?=aw d->∀f B,mg d.x=aw (.ref f)->Fun K d.x d.x d.st f B->FnOk P w K mg base CX0 k f B d.ps (spC K (evC ag k i) d.ps.length)
 |0,i,d,_,f,B,_,_=>E9
 |k+1,i,d,hd,f,B,hm,F=>by
  have ih:=xf T U k;have C:=Yk.mp U d (Zc hd);unfold E8 at C;rw[bAE] at C;have S:=E7 C.1;refine F.ok S (λvs H Q E h=>?_) λL A outer s H vs Q E hr h=>?_
  ·obtain⟨m,J,S,d',S',vd,_,X,_⟩:=h;rw[<-vd.length,X]
  ·have G:CtxOk (xc con ag) (evC ag k) (fZ ag) k ⟨bf d.st,aD,d.N⟩ (ut CX0 P w K mg base d.N d.x (bf d.st) f L A outer s H E).nox:=by
    refine⟨rfl,rfl,rfl,rfl,S.nd,λ_ _=>rfl,hr,T.con,T.bl,λj y hy=>?_⟩;have b:(ag.map λd=>(d.x,d.ps.length))[j]?=aw y:=hy;rw[Zp] at b;cases c:ag[j]? with
    |none=>rw[c] at b;cases b
    |some e=>
     rw[c] at b;cases b;have ha:fZ ag j=e.ps.length:=by unfold fZ;rw[c]
     obtain⟨Z,n,p,k',b',F'⟩:=T.fn j e c;refine⟨ha,Z,n,e.ps,p,k',b',?_⟩;rw[ha];exact ih j e c Z n p F'
   refine⟨_,(OU FU).ss _ _ (bU d.st) d.body G S.kind C.2,?_⟩;obtain⟨m,J,S0,r,S',vd,R,X,e,q⟩:=h;simp only[evC,hd,Kv] at e;cases I:g6 (evC ag k) (fZ ag) FU d.body (J.map aw++Zx (d.N.length - J.length) aD) S0 with
   |none=>rw[I] at e;cases e
   |some z=>
    obtain⟨fl,O,S1⟩:=z;rw[I] at e;refine⟨m,_,S0,fl,O,S1,y4 vd,R,I,λp Y A'=>?_⟩;cases fl with
    |nx=>cases e;exactλσ _=>q p Y .non A' qk
    |rt v=>cases e;exactλu vu=>q p Y u A' vu
    |bk=>cases e
    |ct=>cases e
end
abbrev xg(d:DefE):Option rj:=aw ((d.x,d.x),(dh d.st,bU d.st),(bf d.st,V1),([],.none),(VJ,aw d.x))
@[inline]abbrev BW:=Bool × List (Option rj) × List (Option Int) × List Bool
abbrev y6(con:List (Str × Int))(ag:List DefE)(h:Heap):BW:=(h.isNs V1,ag.map (λd=>xT h d.x),con.map (λc=>Dz h c.1),iQ.map λx=>(h.nsMap V1 x).isNone)
abbrev td(con:List (Str × Int))(ag:List DefE):BW:=(aN,ag.map xg,con.map (λc=>aw c.2),iQ.map λ_=>aN)
abbrev HY(d:DefE):Prop:=∀ (kV b pm:Value) (f:Option Addr) (c ct:Value) (u:List Value),u.length=d.ps.length->bindArgs (Vp d.x d.x (dh d.st) (bU d.st) (bf d.st) .none kV b pm f c ct) ⟨u,[]⟩=pure (d.ps.zip u)
abbrev y7:List DefE->Prop
 |[]=>True
 |d::ds=>HY d/\y7 ds
def y7.at:∀ {b:List DefE} {d:DefE},y7 b->d ∈ b->HY d
 |e::b,d,h,hd=>by
  rcases Zn.mp hd with rfl |hd
  ·exact h.1
  ·exact y7.at h.2 hd
abbrev o5(h:Heap)(f:Addr):Vk:=match h.get? f with
 | some o=>(f,o)::(match o.data with
  | .func fd=>(match fd.code with
   |.ref c=>(match h.get? c with |some O=>[(c,O)] |none=>[])
   | _=>[])
  | _=>[])
 |none=>[]
abbrev dm(h:Heap)(d:DefE):Vk:=match h.nsMap V1 d.x with
 |some (.ref f)=>o5 h f
 |_=>[]
abbrev OV(K:Vk):Prop:=∀a o,K.lookup a=aw o->∀I n,o.data ≠ .seq I n
structure Says(con:List (Str × Int))(ag:List DefE)(h:Heap):Prop where
 ns:∃m,h.Ns V1 m
 frag:∃K:Vk,K.In h/\OV K/\∀mg,h.Ns V1 mg->TextOk K mg con ag
def mW{K:Vk}{a:Addr}{o:Obj}(h:K.lookup a=aw o):(a,o) ∈ K:=by
 induction K with
 |nil=>cases h
 |cons p K I=>
  obtain⟨b,q⟩:=p;rw[YB] at h;cases hb:a == b with
  |true=>
   rw[hb] at h;cases h;have:a=b:=by simpa using hb
   subst this;exact Zj
  |false=>rw[hb] at h;exact Zi _ (I h)
def BX{K:Vk}{a:Addr}{o:Obj}(h:(a,o) ∈ K):∃o',K.lookup a=aw o':=by
 induction K with
 |nil=>cases h
 |cons p K I=>
  obtain⟨b,q⟩:=p;rw[YB];cases hb:a == b with
  |true=>exact⟨_,rfl⟩
  |false=>
   rcases Zn.mp h with e |h
   ·cases e;simp at hb
   ·exact I h
def BZ{h:Heap}{f a:Addr}{o:Obj}(e:(a,o) ∈ o5 h f):h.get? a=aw o:=by
 unfold o5 at e;cases d:h.get? f with
 |none=>rw[d] at e;cases e
 |some of=>
  rw[d] at e;dsimp only at e;rcases Zn.mp e with q |e
  ·cases q;exact d
  ·split at e
   ·split at e
    ·rename_i c j;cases b:h.get? c with
     |none=>rw[b] at e;cases e
     |some O=>
      rw[b] at e;dsimp only at e;rcases Zn.mp e with q |e
      ·cases q;exact b
      ·cases e
    ·cases e
   ·cases e
def Kw{h:Heap}{a:Addr}{mg:Str->Option Value}(N:h.Ns a mg):h.nsMap a=mg:=by
 obtain⟨o,E,c,ho,hd,_,b⟩:=N
 funext x
 unfold Heap.nsMap;rw[ho];dsimp only;rw[hd];exact b x
def B0{h:Heap}{d:DefE}(e:xT h d.x=xg d):∃f u y kV j pm k c ct O p C v a t r q,h.nsMap V1 d.x=aw (.ref f)/\h.get? f=aw ⟨u,y,.func (Vp d.x d.x (dh d.st) (bU d.st) (bf d.st) .none kV j pm k (.ref c) ct),O⟩ ∧
  h.get? c=aw ⟨p,C,.fields v,q⟩/\v.toList=a :: .str d.x t::r:=by
 unfold xT xg at e;split at e
 ·rename_i f z;unfold Nm at e;split at e
  ·rename_i u y nm T ps b sc gl cl Q kV j pm k J ct L O I;simp only[Option.some.injEq,Prod.mk.injEq] at e;obtain⟨⟨rfl,rfl⟩,⟨rfl,rfl⟩,⟨rfl,rfl⟩,⟨rfl,rfl⟩,rfl,e⟩:=e;unfold Hi at e;split at e
   ·rename_i c;split at e
    ·rename_i p C v q E;split at e
     ·rename_i a n t r B;cases e;exact⟨f,u,y,kV,j,pm,k,c,ct,O,p,C,v,a,t,r,q,z,I,E,B⟩
     ·cases e
    ·cases e
   ·cases e
  ·cases e
 ·cases e
def Fa{con:List (Str × Int)}{ag:List DefE}(hb:y7 ag){h:Heap}(e:y6 con ag h=td con ag):Says con ag h:=by
 unfold y6 td at e;simp only[Prod.mk.injEq] at e;obtain⟨e0,Y,e2,e3⟩:=e;have N:=Heap.Ns.of_isNs e0;have D:∀d ∈ ag,xT h d.x=xg d:=λd hd=>Xp.mp Y d hd
 have inK:∀a o,(a,o) ∈ ag.flatMap (dm h)->h.get? a=aw o:=λa o he=>by
  obtain⟨d,hd,he⟩:=Ys.mp he;obtain⟨f,U,J,kV,k,pm,E,c,ct,O,Q,y,I,B,t,r,T,b,j,g3,u⟩:=B0 (D d hd);unfold dm at he;rw[b] at he;exact BZ he
 have L:∀a o,(a,o) ∈ ag.flatMap (dm h)->(ag.flatMap (dm h)).lookup a=aw o:=λa o he=>by
  obtain⟨o',q⟩:=BX he;have z:=inK a o' (mW q);rw[inK a o he] at z;cases z;exact q
 refine⟨⟨_,N⟩,ag.flatMap (dm h),λa o q=>inK a o (mW q),λa o q its n hs=>?_,λmg G=>?_⟩
 ·obtain⟨d,hd,he⟩:=Ys.mp (mW q);obtain⟨f,U,J,kV,k,pm,E,c,ct,O,Q,y,I,B,t,r,T,b,j,g3,u⟩:=B0 (D d hd);unfold dm at he;rw[b] at he;dsimp only at he;unfold o5 at he;rw[j] at he;dsimp only at he;rw[g3] at he;dsimp only at he;rcases Zn.mp he with z |he
  ·cases z;cases hs
  ·rcases Zn.mp he with z |he
   ·cases z;cases hs
   ·cases he
 ·have p:=Kw G;refine⟨λi x v hi=>?_,λx X=>?_,λi d hi=>?_⟩
  ·have z:=Xp.mp e2 (x,v) (Zc hi);unfold Dz at z;rw[p] at z;dsimp only at z;split at z
   ·rename_i v' t Z;cases z;exact⟨t,Z⟩
   ·cases z
  ·have z:=Xp.mp e3 x X;rw[p] at z
   simpa using z
  ·have hd:=Zc hi;obtain⟨f,U,J,kV,k,pm,E,c,ct,O,Q,y,I,B,t,r,T,b,j,g3,u⟩:=B0 (D d hd)
   have m1:(f,_) ∈ ag.flatMap (dm h):=Ys.mpr ⟨d,hd,by
    show _ ∈ dm h d;unfold dm;rw[b];dsimp only;unfold o5;rw[j];exact Zj⟩
   have m2:(c,_) ∈ ag.flatMap (dm h):=Ys.mpr ⟨d,hd,by
    show _ ∈ dm h d;unfold dm;rw[b];dsimp only;unfold o5;rw[j];dsimp only;rw[g3];exact Zi _ Zj⟩
   have l1:=L _ _ m1;have l2:=L _ _ m2;have kp:Vs (ag.flatMap (dm h)) (.ref f)=aN:=by unfold Vs;dsimp only;rw[l1]
   have C:Vn (ag.flatMap (dm h)) (.ref c) d.x=aN:=by
    unfold Vn;dsimp only;rw[l2];dsimp only;rw[u];simp
   have F:=Jl (st:=d.st) (x:=d.x) (qual:=d.x) l1 C kp;refine⟨f,_,by rw[<-p];exact b,kp,F.binds (hb.at hd),F⟩
def vH{con:List (Str × Int)}{ag:List DefE}{h h':Heap}(x:Says con ag h)(k:∀b o,h.get? b=aw o->h'.get? b=aw o):Says con ag h':=by
 obtain⟨⟨m,N⟩,K,n,ns,T⟩:=x
 have B:∀mg,h'.Ns V1 mg->h.Ns V1 mg:=λmg ⟨o,E,d,ho,r⟩=>by
  obtain⟨O,j,f,c,p⟩:=N;have z:=k _ _ c;rw[ho] at z;cases z;exact⟨o,E,d,c,r⟩
 refine⟨⟨m,let ⟨o,E,d,ho,r⟩:=N;⟨o,E,d,k _ _ ho,r⟩⟩,K,λa o q=>k _ _ (n a o q),ns,λmg G=>T mg (B mg G)⟩
abbrev qL(con:List (Str × Int))(ag:List DefE)(hb:y7 ag):PySem.W.Hook:=
 ⟨BW,λs=>y6 con ag s.heap,λ_=>td con ag,λ_ h=>Says con ag h,λ_ _ e=>Fa hb e,λ_ _ _ x k=>vH x k⟩
def mX{K:Vk}{m:List Addr}{H:Hp}:∀ns:List Int,VDs K m H (ns.map D.int) (ns.map V.int)
 |[]=>by rw[Yn,Yn,VDs]
 |a::l=>by rw[Zw,Zw,VDs];exact⟨_,_,rfl,bh,mX l⟩
def Fb{l:PySem.W.OpenLaw}{n k i:Nat}{q:Program}{loose:List Str}{XP:(Str->Option Value)->Heap->Prop}{d:DefRec}{con:List (Str × Int)}{ag:List DefE}{hb:y7 ag}{dl:DefE}{x:Str}
  (hn:l.most=aw n) (Q:n<=sizeLine) (J:d.params.defaults=[]) (hr:Room k callerA) (hx:d.name=dl.x) (hi:ag[i]?=aw dl) (h:dl.ps=[x]) (hc:ag.all (E8 (xc con ag))=aN)
  (main:∀ns:List Int,ns.length<=n->∃I,evC ag k i [.ref 0] [.frz (ns.map D.int)]=aw (.bl aN,I)) :
  PySem.W.WalkO q loose XP (qL con ag hb).says l.row.toRowW d [] (λf vs=>PySem.call f vs):=by
 refine Att.attach_call hn J λw s₀ B mg mb fa o pm cd E a vs ns G Y ho hd O c C p b hg=>?_;obtain⟨_,K,KX,X,T⟩:=(show Says con ag B.heap from Y);have T:=T mg G.T.g;obtain⟨f,Z,hm,kp,_,F⟩:=T.fn i dl hi;rw[hx] at c;rw[c] at hm;cases hm
 have bd:∀ (s:Shared) (u:Value),BindsTo s Z ⟨[u],[]⟩ [(x,u)]:=λs u=>by
  obtain⟨oc,od,kV,E,pm,an,L,ct,osl,rfl,lk,O⟩:=F.ex;have z:=(hb.at (Zc hi)) kV E pm an L ct [u] (by rw[h];rfl);rw[h] at z;exact .of_eq z
 refine Ae (CX:=CX0) (sp:=spC K (evC ag k i) dl.ps.length) KX G.T.g G.T.b G.T.builtins G.T.nolimit hg C p (Z0 b Q) hr (λbase _ _=>by
  have:=xf (P:=l.row.toRowW.prog) (w:=w) (base:=base) T hc k i dl hi fa Z c F;rw[h] at this ⊢;exact this) bd (λH hO hS=>?_) λH e s' z=>z
 have U:∃o,H a=aw (.frz o (.lst (ns.map V.int))):=by
  rcases hS with (z |⟨o,z⟩) |⟨o,its,n',hk,hc,hdd,hdt,_⟩
  ·rcases hO a with y |⟨o',xs,y⟩
   ·rw[y] at z;cases z
   ·rw[y] at z;cases z
  ·exact⟨o,z⟩
  ·exact absurd hdt (X a o hk its n')
 obtain⟨o,U⟩:=U;obtain⟨I,e⟩:=main ns b;refine⟨[a],[.ref 0],[.frz (ns.map D.int)],.bl aN,I,?_,⟨rfl,by simp,λj ob ej=>?_⟩,by rw[h];rfl,e,λm' H' v A vv=>vv.bls⟩
 ·rw[VDs];exact⟨_,_,rfl,by rw[VD];exact⟨a,rfl,rfl⟩,by rw[VDs]⟩
 ·cases j with
  |zero=>cases ej;exact⟨a,rfl,o,_,U,mX ns⟩
  |succ j=>simp at ej
end Ev
namespace Lw
open PySem Ev
abbrev mY:List CS:=[.ret (.and (.inst .int (.var 0)) (.not (.inst .bool (.var 0))))]
abbrev kl:List CS:=[.ret (.and (.call 0 [.var 0]) (.chn .le .le (.var 1) (.var 0) (.var 2)))]
abbrev km:List CS:=[.ret (.call 1 [.var 0,.int 0,.con 0 9999])]
abbrev mZ:List CS:=[.ret (.and (.inst .tuple (.var 0)) (.chn .le .le (.var 1) (.len (.var 0)) (.var 2)))]
abbrev ja:List CS:=[.ifs (.or (.not (.call 3 [.var 0,.int 0,.var 1])) (.not (.all (.comp ["number"] (.call 1 [.var 2,.int 0,.bin .sub (.var 1) (.int 1)]) [⟨.name 2,.val (.var 0),aD⟩])))) [.ret (.bl aS)] [],.ret (.all (.comp ["number"] (.cmp .eq (.cnt (.var 0) (.var 2)) (.int 1)) [⟨.name 2,.val (.var 0),aD⟩]))]
abbrev o6:List CS:=[.ret (.tupOf (.comp ["other"] (.var 2) [⟨.name 2,.val (.var 0),aw (.cmp .ne (.var 2) (.var 1))⟩]))]
abbrev ko:List CS:=[.ifs (.not (.call 3 [.var 0,.int 4,.int 4])) [.ret (.bl aS)] [],.asg (.tup [.name 1,.name 2,.name 3,.name 4]) (.var 0),.ret (.and (.call 1 [.var 1,.int 0,.con 1 8]) (.and (.call 1 [.var 2,.int 0,.con 2 60]) (.and (.call 7 [.var 3]) (.call 10 [.var 4]))))]
abbrev m6:List CS:=[.ifs (.not (.call 3 [.var 0,.int 1,.con 3 4])) [.ret (.bl aS)] [],.ret (.and (.all (.comp ["row"] (.call 8 [.var 1,.len (.var 0)]) [⟨.name 1,.val (.var 0),aD⟩])) (.call 9 [.var 0]))]
abbrev jb:List CS:=[.ret (.and (.call 3 [.var 0,.var 1,.var 1]) (.all (.comp ["gap"] (.call 1 [.var 2,.int 1,.con 4 99]) [⟨.name 2,.val (.var 0),aD⟩])))]
abbrev bJ:List CS:=[.asg (.name 1) (.listR (.len (.var 0))),.ret (.all (.comp ["a", "b", "c"] (.cmp .le (.ix (.ix (.var 0) (.var 2)) (.var 3)) (.bin .add (.ix (.ix (.var 0) (.var 2)) (.var 4)) (.ix (.ix (.var 0) (.var 4)) (.var 3)))) [⟨.name 2,.val (.var 1),aD⟩,⟨.name 3,.val (.var 1),aD⟩,⟨.name 4,.val (.var 1),aD⟩]))]
abbrev kq:List CS:=[.ifs (.or (.not (.call 3 [.var 0,.int 0,.con 5 4])) (.not (.all (.comp ["part"] (.call 11 [.var 1]) [⟨.name 1,.val (.var 0),aD⟩])))) [.ret (.bl aS)] [],.ret (.all (.comp ["at"] (.cmp .gt (.ix (.ix (.var 0) (.var 1)) (.int 0)) (.ix (.ix (.var 0) (.bin .sub (.var 1) (.int 1))) (.int 1))) [⟨.name 1,.r2 (.int 1) (.len (.var 0)),aD⟩]))]
abbrev jc:List CS:=[.ret (.and (.call 3 [.var 0,.int 2,.int 2]) (.and (.call 2 [.ix (.var 0) (.int 0)]) (.and (.call 2 [.ix (.var 0) (.int 1)]) (.cmp .lt (.ix (.var 0) (.int 0)) (.ix (.var 0) (.int 1))))))]
abbrev o7:List CS:=[.ret (.call 1 [.var 1,.int 0,.bin .sub (.len (.ix (.var 0) (.int 2))) (.int 1)])]
abbrev o8:List CS:=[.ret (.any (.comp ["begin", "end"] (.chn .le .lt (.var 2) (.var 1) (.var 3)) [⟨.tup [.name 2,.name 3],.val (.ix (.var 0) (.int 3)),aD⟩]))]
abbrev eF:List CS:=[.for_ (.tup [.name 2,.name 3]) (.val (.ix (.var 0) (.int 3))) [.ifs (.chn .le .lt (.var 2) (.var 1) (.var 3)) [.ret (.var 3)] []],.ret (.var 1)]
abbrev tf:List CS:=[.ifs (.not (.call 3 [.var 0,.int 4,.int 4])) [.ret (.bl aS)] [],.asg (.tup [.name 1,.name 2,.name 3,.name 4]) (.var 0),.ret (.and (.call 6 [.var 1]) (.and (.call 16 [.var 1,.var 2]) (.and (.call 17 [.var 1,.var 3]) (.call 19 [.var 3,.var 4]))))]
abbrev m7:List CS:=[.ifs (.cmp .is (.var 1) .non) [.ret (.bl aN)] [],.ret (.and (.call 3 [.var 1,.int 2,.int 2]) (.and (.call 12 [.var 0,.ix (.var 1) (.int 0)]) (.call 2 [.ix (.var 1) (.int 1)])))]
abbrev hZ:List CS:=[.ret (.and (.call 3 [.var 1,.int 0,.con 6 7]) (.all (.comp ["part"] (.call 18 [.var 0,.var 2]) [⟨.name 2,.val (.var 1),aD⟩])))]
abbrev kr:List CS:=[.ifs (.not (.call 3 [.var 1,.int 7,.int 7])) [.ret (.bl aS)] [],.asg (.tup [.name 2,.name 3,.name 4,.name 5,.name 6,.name 7,.name 8]) (.var 1),.ifs (.not (.all (.comp ["minute"] (.call 2 [.var 9]) [⟨.name 9,.val (.tup [.var 3,.var 4,.var 5,.var 6]),aD⟩]))) [.ret (.bl aS)] [],.ifs (.not (.chn .le .le (.bin .add (.var 3) (.ix (.var 0) (.int 1))) (.var 4) (.var 5))) [.ret (.bl aS)] [],.ret (.and (.call 12 [.var 0,.var 2]) (.and (.call 1 [.var 7,.int 0,.con 7 99]) (.call 1 [.var 8,.int 0,.ix (.var 0) (.int 0)])))]
abbrev ku:List CS:=[.ifs (.not (.call 4 [.var 1,.len (.var 0)])) [.ret (.bl aS)] [],.ret (.all (.comp ["number", "glider"] (.or (.cmp .eq (.ix (.var 3) (.int 6)) (.int 0)) (.cmp .isin (.var 2) (.var 1))) [⟨.tup [.name 2,.name 3],.en (.var 0),aD⟩]))]
abbrev kB:List CS:=[.ret (.tupOf (.comp ["number"] (.var 1) [⟨.name 1,.r1 (.len (.ix (.var 0) (.int 2))),aw (.cmp .notin (.var 1) (.ix (.var 0) (.int 3)))⟩]))]
abbrev kC:List CS:=[.ifs (.not (.call 15 [.var 0])) [.never] []]
abbrev xh:List CS:=[.ex (.call 21 [.var 0]),.ret (.call 28 [.var 0,.var 1])]
abbrev o9:List CS:=[.ex (.call 27 [.var 0,.var 1]),.ret (.mxD (.comp ["glider", "minute"] (.var 3) [⟨.tup [.name 2,.name 3],.val (.var 1),aD⟩]) 0)]
abbrev pc:List CS:=[.ex (.call 27 [.var 0,.var 1]),.ret (.call 25 [.var 0,.var 1])]
abbrev fE:List CS:=[.ret (.sm (.comp ["glider", "minute"] (.call 26 [.ix (.ix (.var 0) (.int 2)) (.var 2),.var 3]) [⟨.tup [.name 2,.name 3],.val (.var 1),aD⟩]))]
abbrev ia:List CS:=[.asg (.tup [.name 2,.name 3,.name 4,.name 5,.name 6,.name 7,.name 8]) (.var 0),.ret (.bin .mul (.var 7) (.mx (.int 0) (.bin .sub (.var 1) (.var 6))))]
abbrev ib:List CS:=[.ex (.call 21 [.var 0]),.ifs (.not (.call 28 [.var 0,.var 1])) [.never] []]
abbrev kD:List CS:=[.ret (.and (.call 29 [.var 1]) (.cmp .is (.call 31 [.var 0,.var 1]) .non))]
abbrev kE:List CS:=[.ifs (.or (.not (.inst .list (.var 0))) (.cmp .gt (.len (.var 0)) (.con 8 20))) [.ret (.bl aS)] [],.ret (.all (.comp ["part"] (.call 30 [.var 1]) [⟨.name 1,.val (.var 0),aD⟩]))]
abbrev pd:List CS:=[.ret (.and (.call 3 [.var 0,.int 2,.int 2]) (.and (.call 0 [.ix (.var 0) (.int 0)]) (.call 0 [.ix (.var 0) (.int 1)])))]
abbrev ic:List CS:=[.for_ (.name 2) (.r1 (.len (.var 1))) [.asg (.name 3) (.call 32 [.var 0,.var 1,.var 2]),.ifs (.cmp .isnot (.var 3) .non) [.ret (.tup [.var 3,.ix (.ix (.var 1) (.var 2)) (.int 0)])] []],.asg (.name 4) (.call 36 [.var 0,.var 1]),.ifs (.cmp .isnot (.var 4) .non) [.ret (.tup [.str "lacks", .var 4])] [],.asg (.name 5) (.call 40 [.var 0,.var 1]),.ifs (.cmp .isnot (.var 5) .non) [.ret (.tup [.str "rings", .var 5])] [],.asg (.name 6) (.call 41 [.var 0,.var 1]),.ifs (.cmp .isnot (.var 6) .non) [.ret (.tup [.str "ring", .var 6])] [],.ret .non]
abbrev fF:List CS:=[.asg (.tup [.name 3,.name 4,.name 5,.name 6]) (.var 0),.asg (.name 7) (.ix (.ix (.var 1) (.var 2)) (.int 0)),.ifs (.not (.chn .le .lt (.int 0) (.var 7) (.len (.var 5)))) [.ret (.str "none")] [],.ifs (.cmp .isin (.var 7) (.comp ["other", "minute"] (.var 8) [⟨.tup [.name 8,.name 9],.val (.sl (.var 1) aD (aw (.var 2))),aD⟩])) [.ret (.str "twice")] [],.ifs (.and (.cmp .lt (.var 2) (.len (.var 6))) (.cmp .ne (.var 7) (.ix (.var 6) (.var 2)))) [.ret (.str "order")] [],.ret (.call 33 [.var 0,.var 1,.var 2])]
abbrev f7:List CS:=[.asg (.tup [.name 3,.name 4,.name 5,.name 6]) (.var 0),.asg (.tup [.name 7,.name 8]) (.ix (.var 1) (.var 2)),.asg (.tup [.name 9,.name 10,.name 11,.name 12,.name 13,.name 14,.name 15]) (.ix (.var 5) (.var 7)),.ifs (.cmp .lt (.var 8) (.var 11)) [.ret (.str "soon")] [],.ifs (.cmp .gt (.var 8) (.var 12)) [.ret (.str "late")] [],.ifs (.call 13 [.var 3,.var 8]) [.ret (.str "shut")] [],.ifs (.cmp .lt (.var 8) (.call 35 [.var 0,.call 34 [.var 0,.sl (.var 1) aD (aw (.var 2))],.var 9])) [.ret (.str "gap")] [],.ret .non]
abbrev fG:List CS:=[.ifs (.not (.var 1)) [.ret (.ix (.var 0) (.int 1))] [],.asg (.tup [.name 2,.name 3]) (.ix (.var 1) (.neg (.int 1))),.ret (.tup [.ix (.ix (.ix (.var 0) (.int 2)) (.var 2)) (.int 0),.var 3])]
abbrev pf:List CS:=[.ifs (.cmp .is (.var 1) .non) [.ret (.int 0)] [],.ret (.bin .add (.ix (.var 1) (.int 1)) (.ix (.ix (.ix (.ix (.var 0) (.int 0)) (.int 2)) (.ix (.var 1) (.int 0))) (.var 2)))]
abbrev fH:List CS:=[.asg (.name 2) (.comp ["glider", "minute"] (.var 4) [⟨.tup [.name 4,.name 5],.val (.var 1),aD⟩]),.for_ (.name 3) (.r1 (.len (.ix (.var 0) (.int 2)))) [.ifs (.cmp .notin (.var 3) (.var 2)) [.ret (.var 3)] []],.ret .non]
abbrev m8:List CS:=[.asg (.tup [.name 3,.name 4]) (.var 1),.ret (.chn .le .lt (.ix (.ix (.ix (.var 0) (.int 2)) (.var 3)) (.int 1)) (.var 2) (.bin .sub (.var 4) (.ix (.ix (.var 0) (.int 0)) (.int 1))))]
abbrev fI:List CS:=[.ret (.len (.comp ["landing"] (.var 3) [⟨.name 3,.val (.var 1),aw (.call 37 [.var 0,.var 3,.var 2])⟩]))]
abbrev dq:List CS:=[.ret (.srt (.comp ["glider"] (.ix (.var 1) (.int 1)) [⟨.name 1,.val (.ix (.var 0) (.int 2)),aD⟩]))]
abbrev fJ:List CS:=[.for_ (.name 2) (.val (.call 39 [.var 0])) [.ifs (.cmp .gt (.call 38 [.var 0,.var 1,.var 2]) (.ix (.ix (.var 0) (.int 0)) (.int 0))) [.ret (.var 2)] []],.ret .non]
abbrev eG:List CS:=[.for_ (.tup [.name 2,.name 3]) (.en (.var 1)) [.ifs (.call 42 [.var 0,.var 1,.var 2]) [.ret (.ix (.var 3) (.int 0))] []],.ret .non]
abbrev ig:List CS:=[.asg (.tup [.name 3,.name 4,.name 5,.name 6,.name 7,.name 8,.name 9]) (.ix (.ix (.var 0) (.int 2)) (.ix (.ix (.var 1) (.var 2)) (.int 0))),.ret (.and (.cmp .gt (.var 9) (.int 0)) (.and (.call 37 [.var 0,.ix (.var 1) (.var 2),.var 4]) (.cmp .gt (.call 43 [.var 0,.var 1,.var 2,.var 4]) (.var 9))))]
abbrev ij:List CS:=[.asg (.name 4) (.sl (.var 1) aD (aw (.var 2))),.asg (.name 5) (.comp ["when"] (.var 6) [⟨.name 6,.val (.call 39 [.var 0]),aw (.and (.cmp .gt (.var 6) (.var 3)) (.call 37 [.var 0,.ix (.var 1) (.var 2),.var 6]))⟩]),.ret (.mxL (.comp ["when"] (.bin .add (.int 1) (.call 38 [.var 0,.var 4,.var 6])) [⟨.name 6,.val (.bin .add (.lst [.var 3]) (.var 5)),aD⟩]))]
abbrev pw:List CS:=[.ex (.call 21 [.var 0]),.ifs (.not (.call 45 [.var 0,.var 1])) [.never] [],.asg (.name 2) (.call 46 [.var 0,.var 1]),.ifs (.cmp .lt (.len (.var 2)) (.len (.var 1))) [.ret (.tup [.str "stuck", .len (.var 2)])] [],.ret (.tup [.str "lands", .var 2])]
abbrev m9:List CS:=[.asg (.name 2) (.len (.ix (.var 0) (.int 2))),.ret (.and (.call 4 [.var 1,.var 2]) (.and (.cmp .eq (.len (.var 1)) (.var 2)) (.cmp .eq (.sl (.var 1) aD (aw (.len (.ix (.var 0) (.int 3))))) (.ix (.var 0) (.int 3)))))]
abbrev cX:List CS:=[.asg (.name 2) (.lst []),.for_ (.tup [.name 3,.name 4]) (.en (.var 1)) [.asg (.name 5) (.call 48 [.var 0,.call 34 [.var 0,.var 2],.var 4,.var 3]),.ifs (.cmp .is (.var 5) .non) [.ret (.var 2)] [],.ex (.app (.var 2) (.tup [.var 4,.var 5])),.ifs (.call 42 [.var 0,.var 2,.var 3]) [.ret (.sl (.var 2) aD (aw (.var 3)))] []],.ret (.var 2)]
abbrev eI:List CS:=[.asg (.name 1) (.call 46 [.var 0,.ix (.var 0) (.int 3)]),.ret (.ite (.cmp .eq (.len (.var 1)) (.len (.ix (.var 0) (.int 3)))) (.var 1) .non)]
abbrev eJ:List CS:=[.asg (.tup [.name 4,.name 5,.name 6,.name 7,.name 8,.name 9,.name 10]) (.ix (.ix (.var 0) (.int 2)) (.var 2)),.asg (.name 11) (.call 14 [.ix (.var 0) (.int 0),.mx (.var 6) (.call 35 [.var 0,.var 1,.var 4])]),.ifs (.or (.cmp .gt (.var 11) (.var 7)) (.call 49 [.var 0,.var 3,.var 11])) [.ret .non] [],.ret (.var 11)]
abbrev dr:List CS:=[.asg (.tup [.name 3,.name 4,.name 5,.name 6]) (.ix (.var 0) (.int 0)),.asg (.name 7) (.call 39 [.var 0]),.asg (.name 8) (.bin .add (.var 3) (.var 1)),.ret (.and (.cmp .lt (.var 8) (.len (.var 7))) (.cmp .gt (.bin .sub (.var 2) (.var 4)) (.ix (.var 7) (.var 8))))]
abbrev jd:List CS:=[.ex (.call 21 [.var 0]),.ret (.call 52 [.call 53 [.var 0,.str "last"]])]
abbrev je:List CS:=[.ex (.call 21 [.var 0]),.ret (.call 52 [.call 53 [.var 0,.str "cost"]])]
abbrev B1:List CS:=[.ifs (.cmp .is (.var 0) .non) [.ret .non] [],.asg (.tup [.name 1,.name 2]) (.var 0),.ret (.tup [.str "order", .var 1,.var 2])]
abbrev jf:List CS:=[.asg (.name 2) (.call 47 [.var 0]),.ifs (.cmp .is (.var 2) .non) [.ret .non] [],.asg (.name 3) (.call 55 [.var 0,.var 1,.call 34 [.var 0,.var 2],.call 20 [.var 0],.dic0]),.ifs (.cmp .is (.var 3) .non) [.ret .non] [],.asg (.tup [.name 4,.name 5]) (.var 3),.for_ (.tup [.name 6,.name 7]) (.val (.rev (.var 2))) [.asg (.name 4) (.call 54 [.var 1,.ix (.ix (.var 0) (.int 2)) (.var 6),.var 7,.var 4])],.ret (.tup [.var 4,.bin .add (.ix (.var 0) (.int 3)) (.var 5)])]
abbrev tj:List CS:=[.ifs (.cmp .eq (.var 0) (.str "last")) [.ret (.mx (.var 2) (.var 3))] [],.ifs (.cmp .eq (.var 0) (.str "cost")) [.ret (.bin .add (.call 26 [.var 1,.var 2]) (.var 3))] [],.ret (.mx (.call 26 [.var 1,.var 2]) (.var 3))]
abbrev dF:List CS:=[.ifs (.not (.var 3)) [.ret (.tup [.int 0,.tup []])] [],.asg (.name 5) (.tup [.var 2,.var 3]),.ifs (.cmp .notin (.var 5) (.var 4)) [.asg (.name 6) (.comp ["number"] (.call 56 [.var 0,.var 1,.var 2,.var 3,.var 7,.var 4]) [⟨.name 7,.val (.var 3),aD⟩]),.setI (.mnN (.comp ["way"] (.var 7) [⟨.name 7,.val (.var 6),aw (.cmp .isnot (.var 7) .non)⟩])) (.var 4) (.var 5)] [],.ret (.ix (.var 4) (.var 5))]
abbrev kF:List CS:=[.asg (.name 6) (.call 48 [.var 0,.var 2,.var 4,.bin .sub (.len (.ix (.var 0) (.int 2))) (.len (.var 3))]),.ifs (.cmp .is (.var 6) .non) [.ret .non] [],.asg (.name 7) (.ix (.ix (.var 0) (.int 2)) (.var 4)),.asg (.name 8) (.call 55 [.var 0,.var 1,.tup [.ix (.var 7) (.int 0),.var 6],.call 5 [.var 3,.var 4],.var 5]),.ifs (.cmp .is (.var 8) .non) [.ret .non] [],.ret (.tup [.call 54 [.var 1,.var 7,.var 6,.ix (.var 8) (.int 0)],.bin .add (.tup [.var 4]) (.ix (.var 8) (.int 1))])]
abbrev ik:List CS:=[.ifs (.cmp .lt (.var 1) (.len (.var 0))) [.ret (.ix (.var 0) (.var 1))] [],.ret (.int 0)]
abbrev pA:List CS:=[.ifs (.cmp .ge (.var 0) (.bin .pow (.int 10) (.int 18))) [.ret (.lst [.bin .sub (.var 0) (.bin .pow (.int 10) (.int 18))])] [],.asg (.name 1) (.int 0),.for_ (.name 2) (.r1 (.int 64)) [.asg (.name 3) (.bin .mod (.bin .mul (.bin .add (.bin .add (.bin .mod (.var 0) (.int 2147483629)) (.bin .mul (.int 7919) (.var 2))) (.int 1)) (.int 48271)) (.int 2147483647)),.asg (.name 3) (.bin .mod (.bin .add (.bin .add (.bin .mul (.var 3) (.var 3)) (.bin .mul (.int 69621) (.var 2))) (.int 7)) (.int 2147483587)),.asg (.name 1) (.bin .add (.bin .mul (.var 1) (.int 2147483587)) (.var 3))],.ret (.lst [.var 1])]
abbrev nc:List CS:=[.asg (.name 2) (.bin .mod (.ix (.var 0) (.int 0)) (.var 1)),.setI (.bin .fdiv (.ix (.var 0) (.int 0)) (.var 1)) (.var 0) (.int 0),.ret (.var 2)]
abbrev e9:List CS:=[.asg (.tup [.name 1,.name 2]) (.tup [.bin .add (.int 1) (.call 59 [.var 0,.int 4]),.ix (.lst [.int 3,.int 12,.int 40]) (.call 59 [.var 0,.int 3])]),.asg (.name 3) (.comp ["_law_a"] (.comp ["_law_b"] (.bin .add (.int 1) (.call 59 [.var 0,.var 2])) [⟨.name 7,.r1 (.var 1),aD⟩]) [⟨.name 6,.r1 (.var 1),aD⟩]),.for_ (.name 4) (.r1 (.var 1)) [.for_ (.name 5) (.r1 (.var 1)) [.setI (.comp ["_law_b"] (.mn (.ix (.ix (.var 3) (.var 5)) (.var 6)) (.bin .add (.ix (.ix (.var 3) (.var 5)) (.var 4)) (.ix (.ix (.var 3) (.var 4)) (.var 6)))) [⟨.name 6,.r1 (.var 1),aD⟩]) (.var 3) (.var 5)]],.ret (.tupOf (.comp ["_law_row"] (.tupOf (.var 6)) [⟨.name 6,.val (.var 3),aD⟩]))]
abbrev jg:List CS:=[.asg (.tup [.name 1,.name 2]) (.tup [.lst [],.int 0]),.for_ (.name 3) (.r1 (.call 59 [.var 0,.ix (.lst [.int 1,.int 5]) (.call 59 [.var 0,.int 2])])) [.asg (.name 4) (.bin .add (.var 2) (.call 59 [.var 0,.int 25])),.ex (.app (.var 1) (.tup [.var 4,.bin .add (.bin .add (.var 4) (.int 1)) (.call 59 [.var 0,.int 25])])),.asg (.name 2) (.bin .add (.ix (.ix (.var 1) (.neg (.int 1))) (.int 1)) (.int 1))],.ret (.tup [.ix (.lst [.int 8,.int 1,.int 2,.int 3,.int 0]) (.call 59 [.var 0,.int 5]),.ix (.lst [.int 0,.int 2,.int 9,.int 60]) (.call 59 [.var 0,.int 4]),.call 60 [.var 0],.tupOf (.var 1)])]
abbrev gR:List CS:=[.asg (.tup [.name 2,.name 3]) (.tup [.call 61 [.var 0],.lst []]),.asg (.tup [.name 4,.name 5]) (.tup [.ix (.lst [.int 5,.int 20,.int 60]) (.call 59 [.var 0,.int 3]),.ix (.lst [.int 4,.int 30,.int 90,.int 400]) (.call 59 [.var 0,.int 4])]),.for_ (.name 6) (.r1 (.call 59 [.var 0,.bin .add (.var 1) (.int 1)])) [.asg (.name 7) (.call 59 [.var 0,.var 4]),.asg (.name 8) (.bin .add (.bin .add (.var 7) (.ix (.var 2) (.int 1))) (.ix (.lst [.int 0,.call 59 [.var 0,.int 9]]) (.call 59 [.var 0,.int 2]))),.asg (.tup [.name 9,.name 10]) (.tup [.bin .add (.var 8) (.call 59 [.var 0,.var 5]),.bin .add (.var 7) (.call 59 [.var 0,.var 5])]),.ex (.app (.var 3) (.lst [.call 59 [.var 0,.len (.ix (.var 2) (.int 2))],.var 7,.var 8,.var 9,.var 10,.ix (.lst [.int 0,.int 1,.int 7,.int 99]) (.call 59 [.var 0,.int 4]),.int 0]))],.asg (.tup [.name 11,.name 12]) (.tup [.listR (.len (.var 3)),.lst []]),.for_ (.name 13) (.r1 (.ix (.lst [.int 0,.call 59 [.var 0,.bin .add (.len (.var 3)) (.int 1)]]) (.call 59 [.var 0,.int 2]))) [.ex (.app (.var 12) (.popAt (.var 11) (.call 59 [.var 0,.len (.var 11)]))),.ifs (.and (.cmp .gt (.ix (.var 2) (.int 0)) (.int 0)) (.cmp .eq (.call 59 [.var 0,.int 3]) (.int 0))) [.setI (.bin .add (.int 1) (.call 59 [.var 0,.ix (.var 2) (.int 0)])) (.ix (.var 3) (.ix (.var 12) (.neg (.int 1)))) (.int 6)] []],.asg (.name 14) (.ix (.lst [.non,.tup [.call 59 [.var 0,.len (.ix (.var 2) (.int 2))],.call 59 [.var 0,.int 30]]]) (.call 59 [.var 0,.int 2])),.ret (.tup [.var 2,.var 14,.tupOf (.comp ["_law_one"] (.tupOf (.var 15)) [⟨.name 15,.val (.var 3),aD⟩]),.tupOf (.var 12)])]
abbrev ng:List CS:=[.for_ (.tup [.name 2,.name 3]) (.val (.var 0)) [.ifs (.chn .le .lt (.var 2) (.var 1) (.var 3)) [.asg (.name 1) (.var 3)] []],.ret (.var 1)]
abbrev kG:List CS:=[.ret (.comp ["_law_one", "_law_minute"] (.var 3) [⟨.tup [.name 3,.name 4],.val (.var 1),aw (.chn .le .lt (.ix (.ix (.ix (.var 0) (.int 2)) (.var 3)) (.int 1)) (.var 2) (.bin .sub (.var 4) (.ix (.ix (.var 0) (.int 0)) (.int 1))))⟩])]
abbrev nh:List CS:=[.asg (.name 4) (.ix (.ix (.ix (.var 0) (.int 2)) (.var 2)) (.int 1)),.asg (.name 5) (.bin .add (.lst [.var 4]) (.comp ["_law_one", "_law_when"] (.ix (.ix (.ix (.var 0) (.int 2)) (.var 7)) (.int 1)) [⟨.tup [.name 7,.name 8],.val (.var 1),aD⟩])),.asg (.name 6) (.comp ["_law_at"] (.bin .add (.int 1) (.len (.call 64 [.var 0,.var 1,.var 7]))) [⟨.name 7,.val (.var 5),aw (.chn .le .lt (.var 4) (.var 7) (.bin .sub (.var 3) (.ix (.ix (.var 0) (.int 0)) (.int 1))))⟩]),.ret (.mxD (.var 6) 0)]
abbrev fb:List CS:=[.asg (.tup [.name 4,.name 5,.name 6,.name 7]) (.sl (.ix (.ix (.var 0) (.int 2)) (.var 2)) aD (aw (.int 4))),.ifs (.cmp .isnot (.var 1) .non) [.asg (.name 6) (.mx (.var 6) (.bin .add (.ix (.var 1) (.int 1)) (.ix (.ix (.ix (.ix (.var 0) (.int 0)) (.int 2)) (.ix (.var 1) (.int 0))) (.var 4))))] [],.asg (.name 8) (.call 63 [.ix (.ix (.var 0) (.int 0)) (.int 3),.var 6]),.asg (.name 9) (.sl (.srt (.comp ["_law_one"] (.ix (.var 10) (.int 1)) [⟨.name 10,.val (.ix (.var 0) (.int 2)),aD⟩])) (aw (.bin .add (.ix (.ix (.var 0) (.int 0)) (.int 0)) (.var 3))) aD),.ifs (.or (.cmp .gt (.var 8) (.var 7)) (.and (.cmp .ne (.var 9) (.lst [])) (.cmp .gt (.bin .sub (.var 8) (.ix (.ix (.var 0) (.int 0)) (.int 1))) (.ix (.var 9) (.int 0))))) [.ret .non] [],.ret (.var 8)]
abbrev il:List CS:=[.asg (.tup [.name 2,.name 3]) (.tup [.ix (.var 0) (.int 1),.lst []]),.for_ (.tup [.name 4,.name 5]) (.en (.var 1)) [.asg (.tup [.name 6,.name 7]) (.tup [.call 66 [.var 0,.var 2,.var 5,.var 4],.ix (.ix (.ix (.var 0) (.int 2)) (.var 5)) (.int 6)]),.ifs (.or (.cmp .is (.var 6) .non) (.chn .lt .lt (.int 0) (.var 7) (.call 65 [.var 0,.var 3,.var 5,.var 6]))) [.ret (.tup [.str "stuck", .var 4])] [],.ex (.app (.var 3) (.tup [.var 5,.var 6])),.asg (.name 2) (.tup [.ix (.ix (.ix (.var 0) (.int 2)) (.var 5)) (.int 0),.var 6])],.ret (.tup [.str "lands", .var 3])]
abbrev dw:List CS:=[.ifs (.cmp .ne (.srt (.comp ["_law_one", "_law_minute"] (.var 13) [⟨.tup [.name 13,.name 14],.val (.var 1),aD⟩])) (.listR (.len (.ix (.var 0) (.int 2))))) [.ret (.bl aS)] [],.ifs (.cmp .ne (.sl (.tupOf (.comp ["_law_one", "_law_minute"] (.var 13) [⟨.tup [.name 13,.name 14],.val (.var 1),aD⟩])) aD (aw (.len (.ix (.var 0) (.int 3))))) (.ix (.var 0) (.int 3))) [.ret (.bl aS)] [],.asg (.name 2) (.ix (.var 0) (.int 1)),.for_ (.tup [.name 3,.tup [.name 4,.name 5]]) (.en (.var 1)) [.asg (.tup [.name 6,.name 7,.name 8,.name 9,.name 10,.name 11,.name 12]) (.ix (.ix (.var 0) (.int 2)) (.var 4)),.ifs (.or (.not (.chn .le .le (.var 8) (.var 5) (.var 9))) (.cmp .ne (.call 63 [.ix (.ix (.var 0) (.int 0)) (.int 3),.var 5]) (.var 5))) [.ret (.bl aS)] [],.ifs (.and (.cmp .isnot (.var 2) .non) (.cmp .lt (.var 5) (.bin .add (.ix (.var 2) (.int 1)) (.ix (.ix (.ix (.ix (.var 0) (.int 0)) (.int 2)) (.ix (.var 2) (.int 0))) (.var 6))))) [.ret (.bl aS)] [],.ifs (.or (.cmp .gt (.len (.call 64 [.var 0,.var 1,.var 7])) (.ix (.ix (.var 0) (.int 0)) (.int 0))) (.chn .lt .lt (.int 0) (.var 12) (.call 65 [.var 0,.sl (.var 1) aD (aw (.var 3)),.var 4,.var 5]))) [.ret (.bl aS)] [],.asg (.name 2) (.tup [.var 6,.var 5])],.ret (.bl aN)]
abbrev f8:List CS:=[.asg (.name 2) (.listOf (.var 1)),.ret (.comp ["_law_one"] (.popAt (.var 2) (.call 59 [.var 0,.len (.var 2)])) [⟨.name 3,.val (.var 1),aD⟩])]
abbrev f9:List CS:=[.asg (.name 2) (.call 69 [.var 0,.comp ["_law_one"] (.var 3) [⟨.name 3,.r1 (.len (.ix (.var 1) (.int 2))),aw (.cmp .notin (.var 3) (.ix (.var 1) (.int 3)))⟩]]),.ifs (.cmp .eq (.call 59 [.var 0,.int 2]) (.int 0)) [.asg (.name 2) (.comp ["_law_first", "_law_one"] (.var 4) [⟨.tup [.name 3,.name 4],.val (.srt (.comp ["_law_one"] (.tup [.ix (.ix (.ix (.var 1) (.int 2)) (.var 3)) (.int 2),.var 3]) [⟨.name 3,.val (.var 2),aD⟩])),aD⟩])] [],.ret (.bin .add (.ix (.var 1) (.int 3)) (.tupOf (.var 2)))]
abbrev fc:List CS:=[.asg (.tup [.name 2,.name 3,.name 4,.name 5]) (.var 1),.asg (.name 6) (.call 59 [.var 0,.int 5]),.ifs (.cmp .eq (.var 6) (.int 0)) [.ret (.tup [.var 2,.var 3,.tupOf (.comp ["_law_one"] (.bin .add (.bin .add (.sl (.var 11) aD (aw (.int 3))) (.tup [.bin .add (.ix (.var 11) (.int 3)) (.call 59 [.var 0,.int 20])])) (.sl (.var 11) (aw (.int 4)) aD)) [⟨.name 11,.val (.var 4),aD⟩]),.var 5])] [],.ifs (.cmp .eq (.var 6) (.int 1)) [.ret (.tup [.bin .add (.tup [.mn (.int 8) (.bin .add (.ix (.var 2) (.int 0)) (.int 1))]) (.sl (.var 2) (aw (.int 1)) aD),.var 3,.var 4,.var 5])] [],.ifs (.cmp .eq (.var 6) (.int 2)) [.ret (.tup [.bin .add (.sl (.var 2) aD (aw (.int 3))) (.tup [.tup []]),.var 3,.var 4,.var 5])] [],.asg (.name 7) (.comp ["_law_one"] (.var 11) [⟨.name 11,.r1 (.len (.var 4)),aw (.cmp .notin (.var 11) (.var 5))⟩]),.ifs (.and (.cmp .eq (.var 6) (.int 3)) (.cmp .ne (.var 7) (.lst []))) [.asg (.name 8) (.ix (.var 7) (.call 59 [.var 0,.len (.var 7)])),.asg (.name 9) (.tupOf (.comp ["_law_one"] (.bin .sub (.var 11) (.intOf (.cmp .gt (.var 11) (.var 8)))) [⟨.name 11,.val (.var 5),aD⟩])),.ret (.tup [.var 2,.var 3,.bin .add (.sl (.var 4) aD (aw (.var 8))) (.sl (.var 4) (aw (.bin .add (.var 8) (.int 1))) aD),.var 9])] [],.asg (.name 10) (.comp ["_law_k", "_law_one"] (.var 11) [⟨.tup [.name 11,.name 12],.en (.var 5),aw (.cmp .ne (.ix (.ix (.var 4) (.var 12)) (.int 6)) (.int 0))⟩]),.ret (.tup [.var 2,.var 3,.var 4,.sl (.var 5) aD (aw (.bin .add (.int 1) (.mxD (.var 10) (-1))))])]
abbrev eK:List CS:=[.ifs (.cmp .is (.var 1) .non) [.ret (.bl aN)] [],.ifs (.or (.not (.inst .tuple (.var 1))) (.or (.cmp .ne (.len (.var 1)) (.int 3)) (.cmp .ne (.ix (.var 1) (.int 0)) (.str "order")))) [.ret (.bl aS)] [],.asg (.tup [.name 3,.name 4]) (.call 44 [.var 0,.ix (.var 1) (.int 2)]),.ifs (.or (.cmp .ne (.var 3) (.str "lands")) (.or (.not (.call 68 [.var 0,.var 4])) (.cmp .isnot (.call 22 [.var 0,.var 4]) (.bl aN)))) [.ret (.bl aS)] [],.ret (.cmp .eq (.cal2 23 24 (.intOf (.cmp .eq (.var 2) (.str "cost"))) [.var 0,.var 4]) (.ix (.var 1) (.int 1)))]
abbrev ni:List CS:=[.ret (.sm (.comp ["_law_one", "_law_minute"] (.bin .mul (.ix (.ix (.ix (.var 0) (.int 2)) (.var 2)) (.int 5)) (.mx (.int 0) (.bin .sub (.var 3) (.ix (.ix (.ix (.var 0) (.int 2)) (.var 2)) (.int 4))))) [⟨.tup [.name 2,.name 3],.val (.var 1),aD⟩]))]
abbrev bC:List CS:=[.asg (.name 4) (.call 70 [.var 0,.var 1]),.asg (.tup [.name 5,.name 6]) (.call 67 [.var 1,.var 4]),.ifs (.cmp .eq (.var 5) (.str "stuck")) [.ret (.bl aN)] [],.asg (.name 7) (.comp ["_law_one", "_law_minute"] (.tup [.var 9,.bin .add (.var 10) (.bin .mul (.call 59 [.var 0,.int 2]) (.call 59 [.var 0,.int 12]))]) [⟨.tup [.name 9,.name 10],.val (.var 6),aD⟩]),.for_ (.name 8) (.val (.tup [.var 6,.var 7])) [.ifs (.call 68 [.var 1,.var 8]) [.ifs (.or (.cmp .is (.var 2) .non) (.or (.cmp .is (.var 3) .non) (.cmp .gt (.ix (.var 3) (.int 1)) (.call 73 [.var 1,.var 8])))) [.ret (.bl aS)] [],.ifs (.cmp .gt (.ix (.var 2) (.int 1)) (.mxD (.comp ["_law_one", "_law_minute"] (.var 10) [⟨.tup [.name 9,.name 10],.val (.var 8),aD⟩]) 0)) [.ret (.bl aS)] []] []],.ret (.bl aN)]
abbrev HZ:List CS:=[.for_ (.name 1) (.r1 (.mx (.int 1) (.mn (.len (.var 0)) (.int 6)))) [.asg (.name 2) (.call 58 [.call 57 [.var 0,.var 1]]),.asg (.name 3) (.call 62 [.var 2,.int 6]),.asg (.tup [.name 4,.name 5]) (.tup [.call 50 [.var 3],.call 51 [.var 3]]),.ifs (.or (.not (.call 72 [.var 3,.var 4,.str "last"])) (.not (.call 72 [.var 3,.var 5,.str "cost"]))) [.ret (.bl aS)] [],.ifs (.cmp .ne (.cmp .is (.var 4) .non) (.cmp .is (.var 5) .non)) [.ret (.bl aS)] [],.for_ (.name 6) (.r1 (.int 4)) [.ifs (.not (.call 74 [.var 2,.var 3,.var 4,.var 5])) [.ret (.bl aS)] []],.for_ (.name 6) (.r1 (.int 2)) [.asg (.name 7) (.call 71 [.var 2,.var 3]),.ifs (.cmp .isnot (.var 4) .non) [.asg (.name 8) (.tup [.call 50 [.var 7],.call 51 [.var 7]]),.ifs (.or (.cmp .isin .non (.var 8)) (.or (.cmp .gt (.ix (.ix (.var 8) (.int 0)) (.int 1)) (.ix (.var 4) (.int 1))) (.cmp .gt (.ix (.ix (.var 8) (.int 1)) (.int 1)) (.ix (.var 5) (.int 1))))) [.ret (.bl aS)] []] []]],.ret (.bl aN)]
abbrev iA:DefE:=⟨"is_whole", top 7,["thing"],["thing"],mY⟩
abbrev ga:DefE:=⟨"is_within", top 8,["thing", "least", "most"],["thing", "least", "most"],kl⟩
abbrev gf:DefE:=⟨"is_minute", top 9,["thing"],["thing"],km⟩
abbrev iB:DefE:=⟨"is_tuple", top 10,["thing", "least", "most"],["thing", "least", "most"],mZ⟩
abbrev fe:DefE:=⟨"are_unlike", top 11,["thing", "many"],["thing", "many"],ja⟩
abbrev jM:DefE:=⟨"without", top 12,["numbers", "number"],["numbers", "number"],o6⟩
abbrev gg:DefE:=⟨"is_meadow", top 19,["thing", "rings", "sink", "gaps", "shuts"],["thing"],ko⟩
abbrev iC:DefE:=⟨"are_gaps", top 20,["thing"],["thing"],m6⟩
abbrev ff:DefE:=⟨"is_gap_row", top 21,["thing", "many"],["thing", "many"],jb⟩
abbrev bm:DefE:=⟨"no_glider_between_helps", top 22,["gaps", "kinds"],["gaps"],bJ⟩
abbrev gh:DefE:=⟨"are_shuts", top 23,["thing"],["thing"],kq⟩
abbrev fh:DefE:=⟨"is_stretch", top 24,["thing"],["thing"],jc⟩
abbrev jN:DefE:=⟨"is_kind", top 25,["meadow", "thing"],["meadow", "thing"],o7⟩
abbrev jO:DefE:=⟨"is_shut", top 26,["meadow", "minute"],["meadow", "minute"],o8⟩
abbrev cm:DefE:=⟨"first_not_shut", top 27,["meadow", "minute", "begin", "end"],["meadow", "minute"],eF⟩
abbrev nj:DefE:=⟨"is_sky", top 31,["thing", "meadow", "ahead", "gliders", "fixed"],["thing"],tf⟩
abbrev iE:DefE:=⟨"is_ahead", top 32,["meadow", "thing"],["meadow", "thing"],m7⟩
abbrev dG:DefE:=⟨"are_gliders", top 33,["meadow", "thing"],["meadow", "thing"],hZ⟩
abbrev gj:DefE:=⟨"is_glider", top 34,["meadow", "thing", "kind", "joins", "first", "last", "due", "weight", "ring"],["meadow", "thing"],kr⟩
abbrev gk:DefE:=⟨"are_fixed", top 35,["gliders", "thing"],["gliders", "thing"],ku⟩
abbrev gm:DefE:=⟨"free_ones", top 36,["sky"],["sky"],kB⟩
abbrev gq:DefE:=⟨"check_sky", top 37,["thing"],["thing"],kC⟩
abbrev qM:DefE:=⟨"keeps", top 40,["sky", "thing"],["sky", "thing"],xh⟩
abbrev jP:DefE:=⟨"last_of", top 41,["sky", "landings"],["sky", "landings"],o9⟩
abbrev jQ:DefE:=⟨"cost_of", top 42,["sky", "landings"],["sky", "landings"],pc⟩
abbrev cE:DefE:=⟨"cost_together", top 43,["sky", "landings"],["sky", "landings"],fE⟩
abbrev dH:DefE:=⟨"glider_cost", top 44,["glider", "minute", "kind", "joins", "first", "last", "due", "weight", "ring"],["glider", "minute"],ia⟩
abbrev dI:DefE:=⟨"check_keeps", top 45,["sky", "thing"],["sky", "thing"],ib⟩
abbrev gr:DefE:=⟨"keeps_sky", top 46,["sky", "thing"],["sky", "thing"],kD⟩
abbrev gu:DefE:=⟨"are_pairs", top 47,["thing"],["thing"],kE⟩
abbrev jR:DefE:=⟨"is_pair", top 48,["thing"],["thing"],pd⟩
abbrev dJ:DefE:=⟨"first_amiss", top 49,["sky", "landings", "place", "word", "lacking", "crowded", "high"],["sky", "landings"],ic⟩
abbrev cF:DefE:=⟨"landing_amiss", top 50,["sky", "landings", "place", "meadow", "ahead", "gliders", "fixed", "glider"],["sky", "landings", "place"],fF⟩
abbrev cY:DefE:=⟨"minute_amiss", top 51,["sky", "landings", "place", "meadow", "ahead", "gliders", "fixed", "number", "minute", "kind", "joins", "first", "last", "due", "weight", "ring"],["sky", "landings", "place"],f7⟩
abbrev cG:DefE:=⟨"landing_ahead", top 52,["sky", "sooner", "number", "minute"],["sky", "sooner"],fG⟩
abbrev jS:DefE:=⟨"gap_end", top 53,["sky", "ahead", "kind"],["sky", "ahead", "kind"],pf⟩
abbrev cH:DefE:=⟨"first_lacking", top 54,["sky", "landings", "landed", "number"],["sky", "landings"],fH⟩
abbrev iG:DefE:=⟨"waits_at", top 55,["sky", "landing", "minute", "number", "lands"],["sky", "landing", "minute"],m8⟩
abbrev cI:DefE:=⟨"how_many_wait", top 56,["sky", "landings", "minute"],["sky", "landings", "minute"],fI⟩
abbrev b5:DefE:=⟨"joining_minutes", top 57,["sky"],["sky"],dq⟩
abbrev cJ:DefE:=⟨"first_crowded", top 58,["sky", "landings", "minute"],["sky", "landings"],fJ⟩
abbrev cp:DefE:=⟨"first_too_high", top 59,["sky", "landings", "place", "landing"],["sky", "landings"],eG⟩
abbrev dM:DefE:=⟨"is_too_high", top 60,["sky", "landings", "place", "kind", "joins", "first", "last", "due", "weight", "ring"],["sky", "landings", "place"],ig⟩
abbrev dN:DefE:=⟨"ring_needed", top 61,["sky", "landings", "place", "minute", "sooner", "later"],["sky", "landings", "place", "minute"],ij⟩
abbrev jT:DefE:=⟨"soonest", top 63,["sky", "order", "landings"],["sky", "order"],pw⟩
abbrev iH:DefE:=⟨"is_order", top 64,["sky", "thing", "many"],["sky", "thing"],m9⟩
abbrev bQ:DefE:=⟨"soonest_landings", top 65,["sky", "numbers", "landings", "place", "number", "minute"],["sky", "numbers"],cX⟩
abbrev cq:DefE:=⟨"fixed_landings", top 66,["sky", "landings"],["sky"],eI⟩
abbrev cr:DefE:=⟨"soonest_minute", top 67,["sky", "ahead", "number", "place", "kind", "joins", "first", "last", "due", "weight", "ring", "minute"],["sky", "ahead", "number", "place"],eJ⟩
abbrev b6:DefE:=⟨"leaves_too_late", top 68,["sky", "place", "minute", "rings", "sink", "gaps", "shuts", "joins", "one_too_many"],["sky", "place", "minute"],dr⟩
abbrev fj:DefE:=⟨"least_last", top 70,["sky"],["sky"],jd⟩
abbrev fk:DefE:=⟨"least_cost", top 71,["sky"],["sky"],je⟩
abbrev vI:DefE:=⟨"told", top 72,["best", "number", "order"],["best"],B1⟩
abbrev fm:DefE:=⟨"best_order", top 73,["sky", "aim", "landings", "best", "number", "order", "glider", "minute"],["sky", "aim"],jf⟩
abbrev nq:DefE:=⟨"joined", top 74,["aim", "glider", "minute", "number"],["aim", "glider", "minute", "number"],tj⟩
abbrev bO:DefE:=⟨"best_behind", top 75,["sky", "aim", "ahead", "left", "known", "key", "ways"],["sky", "aim", "ahead", "left", "known"],dF⟩
abbrev gw:DefE:=⟨"best_with", top 76,["sky", "aim", "ahead", "left", "number", "known", "minute", "glider", "best"],["sky", "aim", "ahead", "left", "number", "known"],kF⟩
abbrev dP:DefE:=⟨"_law_cell_at", top 78,["_law_script", "_law_k"],["_law_script", "_law_k"],ik⟩
abbrev jU:DefE:=⟨"_law_pot", top 79,["_law_cell", "_law_number", "_law_j", "_law_more"],["_law_cell"],pA⟩
abbrev iI:DefE:=⟨"_law_take", top 80,["_law_pot_here", "_law_wide", "_law_found"],["_law_pot_here", "_law_wide"],nc⟩
abbrev iJ:DefE:=⟨"_law_gaps", top 81,["_law_pot_here", "_law_many", "_law_far", "_law_found", "_law_c", "_law_a"],["_law_pot_here"],e9⟩
abbrev fo:DefE:=⟨"_law_meadow", top 82,["_law_pot_here", "_law_shuts", "_law_at", "_law_turn", "_law_begin"],["_law_pot_here"],jg⟩
abbrev jV:DefE:=⟨"_law_sky", top 83,["_law_pot_here", "_law_most", "_law_meadow_here", "_law_gliders", "_law_wide", "_law_long", "_law_number", "_law_joins", "_law_first", "_law_last", "_law_due", "_law_left", "_law_fixed", "_law_turn", "_law_ahead"],["_law_pot_here", "_law_most"],gR⟩
abbrev iK:DefE:=⟨"_law_open", top 84,["_law_shuts", "_law_minute", "_law_begin", "_law_end"],["_law_shuts", "_law_minute"],ng⟩
abbrev gx:DefE:=⟨"_law_waits", top 85,["_law_sky_here", "_law_landed", "_law_at"],["_law_sky_here", "_law_landed", "_law_at"],kG⟩
abbrev iL:DefE:=⟨"_law_need", top 86,["_law_sky_here", "_law_landed", "_law_number", "_law_minute", "_law_joins", "_law_known", "_law_counts"],["_law_sky_here", "_law_landed", "_law_number", "_law_minute"],nh⟩
abbrev iM:DefE:=⟨"_law_step", top 87,["_law_sky_here", "_law_ahead", "_law_number", "_law_place", "_law_kind", "_law_joins", "_law_first", "_law_last", "_law_minute", "_law_late"],["_law_sky_here", "_law_ahead", "_law_number", "_law_place"],fb⟩
abbrev dQ:DefE:=⟨"_law_soonest", top 88,["_law_sky_here", "_law_order_here", "_law_ahead", "_law_landed", "_law_place", "_law_number", "_law_minute", "_law_ring"],["_law_sky_here", "_law_order_here"],il⟩
abbrev gy:DefE:=⟨"_law_keeps", top 89,["_law_sky_here", "_law_landed", "_law_ahead", "_law_k", "_law_number", "_law_minute", "_law_kind", "_law_joins", "_law_first", "_law_last", "_law_due", "_law_weight", "_law_ring"],["_law_sky_here", "_law_landed"],dw⟩
abbrev cZ:DefE:=⟨"_law_shuffled", top 90,["_law_pot_here", "_law_some", "_law_left"],["_law_pot_here", "_law_some"],f8⟩
abbrev gz:DefE:=⟨"_law_order", top 91,["_law_pot_here", "_law_sky_here", "_law_rest"],["_law_pot_here", "_law_sky_here"],f9⟩
abbrev fq:DefE:=⟨"_law_looser", top 92,["_law_pot_here", "_law_sky_here", "_law_meadow_here", "_law_ahead", "_law_gliders", "_law_fixed", "_law_way", "_law_free", "_law_gone", "_law_left", "_law_ringed"],["_law_pot_here", "_law_sky_here"],fc⟩
abbrev cu:DefE:=⟨"_law_told_right", top 93,["_law_sky_here", "_law_found", "_law_aim", "_law_way", "_law_landed"],["_law_sky_here", "_law_found", "_law_aim"],eK⟩
abbrev iO:DefE:=⟨"_law_cost", top 94,["_law_sky_here", "_law_landed"],["_law_sky_here", "_law_landed"],ni⟩
abbrev b7:DefE:=⟨"_law_none_better", top 95,["_law_pot_here", "_law_sky_here", "_law_last", "_law_cost_here", "_law_order_here", "_law_way", "_law_landed", "_law_late", "_law_some"],["_law_pot_here", "_law_sky_here", "_law_last", "_law_cost_here"],bC⟩
abbrev xi:DefE:=⟨"law", top 96,["_law_script", "_law_k", "_law_pot_here", "_law_sky_here", "_law_last", "_law_cost_here", "_law_turn", "_law_wide", "_law_more"],["_law_script"],HZ⟩
abbrev ag:List DefE:=[iA,ga,gf,iB,fe,jM,gg,iC,ff,bm,gh,fh,jN,jO,cm,nj,iE,dG,gj,gk,gm,gq,qM,jP,jQ,cE,dH,dI,gr,gu,jR,dJ,cF,cY,cG,jS,cH,iG,cI,b5,cJ,cp,dM,dN,jT,iH,bQ,cq,cr,b6,fj,fk,vI,fm,nq,bO,gw,dP,jU,iI,iJ,fo,jV,iK,gx,iL,iM,dQ,gy,cZ,gz,fq,cu,iO,b7,xi]
def chk:ag.all (E8 (xc con ag))=aN:=by kernel_rfl
def us1:∀ {u:List Value},u.length=1->∃b,u=[b]
 |[b],_=>⟨b,rfl⟩
def us2:∀ {u:List Value},u.length=2->∃c b,u=[c,b]
 |[c,b],_=>⟨c,b,rfl⟩
def us3:∀ {u:List Value},u.length=3->∃d b c,u=[d,b,c]
 |[d,b,c],_=>⟨d,b,c,rfl⟩
def us4:∀ {u:List Value},u.length=4->∃d b c f,u=[d,b,c,f]
 |[d,b,c,f],_=>⟨d,b,c,f,rfl⟩
def us5:∀ {u:List Value},u.length=5->∃f c d h b,u=[f,c,d,h,b]
 |[f,c,d,h,b],_=>⟨f,c,d,h,b,rfl⟩
def us6:∀ {u:List Value},u.length=6->∃h c f j b d,u=[h,c,f,j,b,d]
 |[h,c,f,j,b,d],_=>⟨h,c,f,j,b,d,rfl⟩
def bind:y7 ag:=by
 repeat' apply And.intro
 all_goals first |trivial |(intro _ _ _ _ _ _ u h;first |(obtain⟨_,rfl⟩:=us1 h;rfl) |(obtain⟨_,_,rfl⟩:=us2 h;rfl) |(obtain⟨_,_,_,rfl⟩:=us3 h;rfl) |(obtain⟨_,_,_,_,rfl⟩:=us4 h;rfl) |(obtain⟨_,_,_,_,_,rfl⟩:=us5 h;rfl) |(obtain⟨_,_,_,_,_,_,rfl⟩:=us6 h;rfl))
end Lw
section
open PySem PySem.W PyProof.Rows
def Lw.eqs(h:Heap):Ev.y6 Lw.con Lw.ag h=(h.isNs V1,(Lw.nx.take 45).map (λx=>Ev.xT h (.ofString x.1))++(Lw.nx.drop 45).map (λx=>Ev.xT h (.ofString x.1)),Lw.con.map (λc=>Ev.Dz h c.1),Ev.iQ.map λx=>(h.nsMap V1 x).isNone):=by kernel_rfl
def Lw.eqv:Ev.td Lw.con Lw.ag=(aN,Lw.vb (Lw.nx.take 45)++Lw.vb (Lw.nx.drop 45),Lw.con.map (λc=>aw c.2),Ev.iQ.map λ_=>aN):=by kernel_rfl
set_option maxHeartbeats 0 in
def Lw.head(h:∀ns:List Int,ns.length<=63->∃b,Ev.evC Lw.ag 40 75 [.ref 0] [.frz (ns.map Ev.D.int)]=aw (.bl aN,b)):PySem.Challenge.rw_downrings_k38_whole_no_landings_do_bette.Holds:=by
 w_on;refine holds_law Lw.said λsaid=>?_
 refine holds_open (q:=Lw.view) (loose:=Lw.loose) (Xt:=(λs=>xlAt Lw.view [] s && recOk (RowW.records PySem.Challenge.rw_downrings_k38_whole_no_landings_do_bette.row.toRowW) s)) (XP:=XL Lw.view []) (Yf:=(Hook.obs (Ev.qL Lw.con Lw.ag Lw.bind))) (Ya:=(Hook.val (Ev.qL Lw.con Lw.ag Lw.bind))) (YP:=Hook.says (Ev.qL Lw.con Lw.ag Lw.bind)) (N:=20000) ?hl (Hook.of _) (Hook.keeps _) (λs e=>xl_of s (XR.mp e).1) XL.keeps (by rfl) (by rfl) (by rfl) (λs e=>recFacts_of (XR.mp e).2) (by rfl) (by first |assumption |decide +kernel) (by decide +kernel) ⟨rfl,rfl,rfl,rfl,rfl,by decide +kernel⟩ ?hw ?hc
 case hw=>w_witness2
 case hl=>show LeftO _ _ _ _ (λs=>Ev.y6 Lw.con Lw.ag s.heap) (λ_=>Ev.td Lw.con Lw.ag) 20000;rw[Lw.eqv,show(λs:Shared=>Ev.y6 Lw.con Lw.ag s.heap)=_ from funext λs=>Lw.eqs s.heap];exact Lw.left0
 case hc=>exact Ev.Fb (l:=PySem.Challenge.rw_downrings_k38_whole_no_landings_do_bette) (n:=63) (k:=40) (i:=75) (dl:=Lw.xi) rfl (by decide) rfl ⟨rfl,by decide,by decide,rfl⟩ rfl rfl rfl Lw.chk h
end
namespace Ev
open PySem PySem.Spec PyProof.Rows L2
abbrev Ok{b:Type}(x:Option (b × Sto))(Q:b->Sto->Prop):Prop:=∃a S,x=aw (a,S)/\Q a S
abbrev OkS(x:Option (Fl × Rho × Sto))(Q:Fl->Rho->Sto->Prop):Prop:=∃f b S,x=aw (f,b,S)/\Q f b S
section
variable {α β:Type} {S S':Sto} {ρ ρ':Rho}
def aG{a:α}{Q:α->Sto->Prop}:Ok (aw (a,S)) Q=Q a S:=by
 apply propext;exact⟨λ⟨_,_,e,q⟩=>by cases e;exact q,λq=>⟨a,S,rfl,q⟩⟩
def ba{Q:α->Sto->Prop}:Ok aD Q=False:=propext ⟨λ⟨_,_,e,_⟩=>(nomatch e),λh=>h.elim⟩
def bG{x:Option (α × Sto)}{f:α->Sto->Option (β × Sto)}{Q:β->Sto->Prop}:Ok (bnd x f) Q=Ok x λa S=>Ok (f a S) Q:=by
 apply propext;constructor
 ·rintro⟨b,S',e,q⟩;obtain⟨a,S,c,E⟩:=ae e;exact⟨a,S,c,b,S',E,q⟩
 ·rintro⟨a,S,c,b,S',E,q⟩;exact⟨b,S',by rw[c];exact E,q⟩
def c8{c:Prop}[Decidable c]{x y:Option (α × Sto)}{Q:α->Sto->Prop}:Ok (if c then x else y) Q=if c then Ok x Q else Ok y Q:=by split <;> rfl
def Kx{x:Option β}{f:β->α × Sto}{Q:α->Sto->Prop}:Ok (x.map f) Q=∃b,x=aw b/\Q (f b).1 (f b).2:=by
 apply propext;cases x with
 |none=>exact⟨λ⟨_,_,e,_⟩=>(nomatch e),λ⟨_,e,_⟩=>(nomatch e)⟩
 |some b=>exact⟨λ⟨a,S,e,q⟩=>⟨b,rfl,by have E:=Option.some.inj e;rw[E];exact q⟩,λ⟨B,e,q⟩=>by cases e;exact⟨_,_,rfl,q⟩⟩
def Ok.mono{x:Option (α × Sto)}{Q Q':α->Sto->Prop}(h:Ok x Q)(f:∀a S,Q a S->Q' a S):Ok x Q':=let ⟨a,S,e,q⟩:=h;⟨a,S,e,f a S q⟩
def OkS.mono{x:Option (Fl × Rho × Sto)}{Q Q':Fl->Rho->Sto->Prop}(h:OkS x Q)(f:∀a ρ S,Q a ρ S->Q' a ρ S):OkS x Q':=let ⟨a,ρ,S,e,q⟩:=h;⟨a,ρ,S,e,f a ρ S q⟩
abbrev nxt(y:XS)(Q:Fl->Rho->Sto->Prop)(f:Fl)(ρ:Rho)(S:Sto):Prop:=match f with
 |.nx=>OkS (y ρ S) Q
 |f=>Q f ρ S
def Fc{x y:XS}{Q:Fl->Rho->Sto->Prop}:OkS (A8 x y ρ S) Q=OkS (x ρ S) (nxt y Q):=by
 apply propext;unfold A8;constructor
 ·rintro⟨f,b,c,e,q⟩;split at e
  ·cases e
  ·rename_i d j h;exact⟨_,_,_,h,f,b,c,e,q⟩
  ·rename_i r n h;cases e;cases f with
   |nx=>exact absurd rfl (n b c)
   |_=>exact⟨_,_,_,h,q⟩
 ·rintro⟨f,b,c,e,q⟩;rw[e];cases f with
  |nx=>exact q
  |_=>exact⟨_,_,_,rfl,q⟩
def Ky{c:XT}{x y:XS}{Q:Fl->Rho->Sto->Prop}:OkS (xIf c x y ρ S) Q=Ok (c ρ S) λb d=>if b=aN then OkS (x ρ d) Q else OkS (y ρ d) Q:=by
 apply propext;unfold xIf;constructor
 ·rintro⟨f,j,d,e,q⟩;cases h:c ρ S with
  |none=>rw[h] at e;cases e
  |some r=>
   obtain⟨b,k⟩:=r;rw[h] at e;refine⟨b,k,rfl,?_⟩;dsimp only at e ⊢;split
   ·rename_i hb;rw[if_pos hb] at e;exact⟨f,j,d,e,q⟩
   ·rename_i hb;rw[if_neg hb] at e;exact⟨f,j,d,e,q⟩
 ·rintro⟨b,k,e,q⟩;rw[e];dsimp only;split
  ·rename_i hb;rw[if_pos hb] at q;exact q
  ·rename_i hb;rw[if_neg hb] at q;exact q
def Fd{x:XE}{t:Tg}{Q:Fl->Rho->Sto->Prop}:OkS (mz x t ρ S) Q=Ok (x ρ S) λd S1=>∃b,ax t d ρ=aw b/\Q .nx b S1:=by
 apply propext;unfold mz;constructor
 ·rintro⟨f,b,S1,e,q⟩;cases h:x ρ S with
  |none=>rw[h] at e;cases e
  |some r=>
   obtain⟨d,j⟩:=r;rw[h] at e;dsimp only at e;cases c:ax t d ρ with
   |none=>rw[c] at e;cases e
   |some k=>rw[c] at e;cases e;exact⟨d,_,rfl,b,c,q⟩
 ·rintro⟨d,j,e,b,E,q⟩;rw[e];dsimp only;rw[E];exact⟨_,_,_,rfl,q⟩
def B2{x:XE}{Q:Fl->Rho->Sto->Prop}:OkS (sH x ρ S) Q=Ok (x ρ S) λ_ S1=>Q .nx ρ S1:=by
 apply propext;unfold sH;constructor
 ·rintro⟨f,b,S1,e,q⟩;cases h:x ρ S with
  |none=>rw[h] at e;cases e
  |some r=>rw[h] at e;cases e;exact⟨_,_,rfl,q⟩
 ·rintro⟨d,c,e,q⟩;rw[e];exact⟨_,_,_,rfl,q⟩
def Fe{x:XE}{Q:Fl->Rho->Sto->Prop}:OkS (A9 x ρ S) Q=Ok (x ρ S) λd S1=>Q (.rt d) ρ S1:=by
 apply propext;unfold A9;constructor
 ·rintro⟨f,b,S1,e,q⟩;cases h:x ρ S with
  |none=>rw[h] at e;cases e
  |some r=>rw[h] at e;cases e;exact⟨_,_,rfl,q⟩
 ·rintro⟨d,c,e,q⟩;rw[e];exact⟨_,_,_,rfl,q⟩
def B3{v o i:XE}{Q:Fl->Rho->Sto->Prop}:OkS (sI v o i ρ S) Q=Ok (v ρ S) λa j=>Ok (o ρ j) λb n=>Ok (i ρ n) λc u=>∃S4,jI b c a u=aw S4/\Q .nx ρ S4:=by
 apply propext;unfold sI;constructor
 ·rintro⟨f,B,j,e,q⟩;cases h:v ρ S with
  |none=>rw[h] at e;cases e
  |some r=>
   rw[h] at e;dsimp only at e;cases d:o ρ r.2 with
   |none=>rw[d] at e;cases e
   |some r2=>
    rw[d] at e;dsimp only at e;cases k:i ρ r2.2 with
    |none=>rw[k] at e;cases e
    |some p=>
     rw[k] at e;dsimp only at e;cases h4:jI r2.1 p.1 r.1 p.2 with
     |none=>rw[h4] at e;cases e
     |some S4=>rw[h4] at e;cases e;exact⟨_,_,rfl,_,_,d,_,_,k,_,h4,q⟩
 ·rintro⟨a,j,y,b,n,E,c,u,C,S4,z,q⟩;rw[y];dsimp only;rw[E];dsimp only;rw[C];dsimp only;rw[z];exact⟨_,_,_,rfl,q⟩
def Ff{I:XI}{T:Tg}{b:XS}{k:Nat}{Q:Fl->Rho->Sto->Prop}:OkS (Ba I T b k ρ S) Q=Ok (I ρ S) λnx c=>OkS (eV nx T b k 0 ρ c) Q:=by
 apply propext;unfold Ba;constructor
 ·rintro⟨f,j,c,e,q⟩;cases h:I ρ S with
  |none=>rw[h] at e;cases e
  |some r=>rw[h] at e;exact⟨_,_,rfl,_,_,_,e,q⟩
 ·rintro⟨d,n,e,q⟩;rw[e];exact q
abbrev out(Q:D->Sto->Prop)(f:Fl)(_:Rho)(S:Sto):Prop:=match f with
 |.rt v=>Q v S
 |.nx=>Q .non S
 |_=>False
def Kz{Q:D->Sto->Prop}{d:D}:out Q (.rt d) ρ S=Q d S:=rfl
def KA{Q:D->Sto->Prop}:out Q .nx ρ S=Q .non S:=rfl
def am{ag:List DefE}{k f:Nat}{d:DefE}{c:List D}{Q:D->Sto->Prop}(hd:ag[f]?=aw d)(b:c.map aw++Zx (d.N.length - c.length) aD=ρ)(h:OkS (g6 (evC ag k) (fZ ag) 60 d.body ρ S) (out Q)):Ok (evC ag (k+1) f c S) Q:=by
 subst b;simp only[evC,hd,Kv];obtain⟨n,j,p,e,q⟩:=h;show Ok (match g6 (evC ag k) (fZ ag) FU d.body _ S with |some (.rt v,_,S')=>aw (v,S') |some (.nx,_,S')=>aw (.non,S') |_=>aD) Q;unfold FU;rw[e];cases n with
 |rt v=>exact⟨_,_,rfl,q⟩
 |nx=>exact⟨_,_,rfl,q⟩
 |bk=>exact q.elim
 |ct=>exact q.elim
def pB{nx:Nxt}{T:Tg}{c:XA}{N:Nat}(I:Nat->List D->Sto->Prop)
  (step:∀i b S,i < N->I i b S->∃d f,nx i S=aw (aw d)/\ax T d ρ=aw f/\Ok (c f S) λE j=>I (i+1) (b++E) j) (stop:∀b S,I N b S->nx N S=aw aD) :
  ∀ (n i k:Nat) (b:List D) (S:Sto),N=i+n->n < k->I i b S->Ok (bu nx T c ρ k i S) λE S'=>I N (b++E) S'
 |0,i,k+1,b,S,hN,hk,h=>by
  obtain rfl:N=i:=by omega
  simp only[bu,stop b S h];exact⟨_,_,rfl,by show I _ (b++[]) S;rw[ZN];exact h⟩
 |n+1,i,k+1,b,S,hN,hk,h=>by
  obtain⟨d,f,y,p,E,j,C,q⟩:=step i b S (by omega) h;simp only[bu,y,p,C,bnd];obtain⟨B,u,z,v⟩:=pB I step stop n (i+1) k (b++E) j (by omega) (by omega) q;simp only[z];exact⟨_,_,rfl,by show I _ (b++(E++B)) u;rw[<-Z2];exact v⟩
def gA{nx:Nxt}{T:Tg}{c:XA}{k:Nat}(N:Nat)(I:Nat->List D->Sto->Prop)(n:N < k)
  (step:∀i b S,i < N->I i b S->∃d f,nx i S=aw (aw d)/\ax T d ρ=aw f/\Ok (c f S) λE j=>I (i+1) (b++E) j) (stop:∀b S,I N b S->nx N S=aw aD) (h:I 0 [] S) :
  Ok (bu nx T c ρ k 0 S) (I N):=(pB I step stop N 0 k [] S (by omega) n h).mono λE S' z=>by rw[XC] at z;exact z
def nt{nx:Nxt}{T:Tg}{b:XS}{N:Nat}{Q:Fl->Rho->Sto->Prop}(I:Nat->Rho->Sto->Prop)
  (step:∀i ρ S,i < N->I i ρ S->∃d j,nx i S=aw (aw d)/\ax T d ρ=aw j/\OkS (b j S) λq c f=>match q with |.nx=>I (i+1) c f |.ct=>I (i+1) c f |.bk=>Q .nx c f |.rt d=>Q (.rt d) c f)
  (stop:∀ρ S,I N ρ S->nx N S=aw aD/\Q .nx ρ S) :
  ∀ (n i k:Nat) (ρ:Rho) (S:Sto),N=i+n->n < k->I i ρ S->OkS (eV nx T b k i ρ S) Q
 |0,i,k+1,ρ,S,hN,hk,h=>by
  obtain rfl:N=i:=by omega
  simp only[eV,(stop ρ S h).1];exact⟨_,_,_,rfl,(stop ρ S h).2⟩
 |n+1,i,k+1,ρ,S,hN,hk,h=>by
  obtain⟨d,j,u,E,q,c,f,v,p⟩:=step i ρ S (by omega) h;simp only[eV,u,E,v];cases q with
  |nx=>exact nt I step stop n (i+1) k c f (by omega) (by omega) p
  |ct=>exact nt I step stop n (i+1) k c f (by omega) (by omega) p
  |bk=>exact⟨_,_,_,rfl,p⟩
  |rt d=>exact⟨_,_,_,rfl,p⟩
def jh{nx:Nxt}{T:Tg}{b:XS}{k:Nat}{Q:Fl->Rho->Sto->Prop}(N:Nat)(I:Nat->Rho->Sto->Prop)(n:N < k)
  (step:∀i ρ S,i < N->I i ρ S->∃d f,nx i S=aw (aw d)/\ax T d ρ=aw f/\OkS (b f S) λp c j=>match p with |.nx=>I (i+1) c j |.ct=>I (i+1) c j |.bk=>Q .nx c j |.rt d=>Q (.rt d) c j)
  (stop:∀ρ S,I N ρ S->nx N S=aw aD/\Q .nx ρ S) (h:I 0 ρ S):OkS (eV nx T b k 0 ρ S) Q:=nt I step stop N 0 k ρ S (by omega) n h
end
mutual
noncomputable def TD(p:Nat)(S:Sto):Dw.D->D->Prop
 |.non,d=>d = .non
 |.bl b,d=>d = .bl b
 |.int i,d=>d = .int i
 |.str x,d=>d = .str x
 |.tup ts,d=>∃c,d = .tup c/\TDs p S ts c
 |.lst ts,d=>∃n c,d = .ref n/\n ≠ p/\S[n]?=aw (.lst c)/\TDs p S ts c
 |.dic _ _,_=>False
noncomputable def TDs(p:Nat)(S:Sto):List Dw.D->List D->Prop
 |[],ds=>ds=[]
 |t::ts,ds=>∃d r,ds=d::r/\TD p S t d/\TDs p S ts r
end
abbrev Kp(p:Nat)(S b:Sto):Prop:=∀i o,i ≠ p->S[i]?=aw o->b[i]?=aw o
abbrev Sm(S b:Sto):Prop:=∀ (i:Nat) (o:Ob),S[i]?=aw o->b[i]?=aw o
def Sm.kp{p:Nat}{S S':Sto}(h:Sm S S'):Kp p S S':=λi o _ e=>h i o e
def Sm.refl(S:Sto):Sm S S:=λ_ _ e=>e
def Sm.trans{S c S2:Sto}(a:Sm S c)(b:Sm c S2):Sm S S2:=λi o e=>b i o (a i o e)
def Sm.app(S X:Sto):Sm S (S++X):=λi o e=>by
 have hi:=(Zb.mp e).1;rw[Zq hi];exact e
def Kp.refl(p:Nat)(S:Sto):Kp p S S:=λ_ _ _ e=>e
def Kp.trans{p:Nat}{S c S2:Sto}(a:Kp p S c)(b:Kp p c S2):Kp p S S2:=λi o n e=>b i o n (a i o n e)
section
variable {p:Nat} {S S':Sto}
def KB:TD p S .non .non:=by rw[TD]
def bz{i:Int}:TD p S (.int i) (.int i):=by rw[TD]
def c9{T:List Dw.D}{d:List D}(h:TDs p S T d):TD p S (.tup T) (.tup d):=by rw[TD];exact⟨d,rfl,h⟩
def b8:TDs p S [] []:=by rw[TDs]
def aI{t:Dw.D}{d:D}{T:List Dw.D}{b:List D}(h:TD p S t d)(q:TDs p S T b):TDs p S (t::T) (d::b):=by rw[TDs];exact⟨d,b,rfl,h,q⟩
def TD.non{d:D}(h:TD p S .non d):d = .non:=by rw[TD] at h;exact h
def TD.bl{b:Bool}{d:D}(h:TD p S (.bl b) d):d = .bl b:=by rw[TD] at h;exact h
def TD.int{i:Int}{d:D}(h:TD p S (.int i) d):d = .int i:=by rw[TD] at h;exact h
def TD.str{x:Str}{d:D}(h:TD p S (.str x) d):d = .str x:=by rw[TD] at h;exact h
def TD.tup{T:List Dw.D}{d:D}(h:TD p S (.tup T) d):∃ds,d = .tup ds/\TDs p S T ds:=by rw[TD] at h;exact h
def TDs.cons{t:Dw.D}{T:List Dw.D}{b:List D}(h:TDs p S (t::T) b):∃d r,b=d::r/\TD p S t d/\TDs p S T r:=by rw[TDs] at h;exact h
def TDs.nil{d:List D}(h:TDs p S [] d):d=[]:=by rw[TDs] at h;exact h
def TDs.len:∀ {T:List Dw.D} {b:List D},TDs p S T b->b.length=T.length
 |[],_,h=>by rw[h.nil];rfl
 |t::T,_,h=>by obtain⟨d,r,rfl,_,q⟩:=h.cons;simp[q.len]
abbrev tyT:Dw.D->String
 |.non => "NoneType" |.bl _ => "bool" |.int _ => "int" |.str _ => "str" |.tup _ => "tuple" |.lst _ => "list" |.dic _ _ => "dict"
def OW{t:Dw.D}{d:D}(h:TD p S t d):tyN d S=aw (tyT t):=by
 cases t with
 |non=>rw[h.non];rfl
 |bl _=>rw[h.bl];rfl
 |int _=>rw[h.int];rfl
 |str _=>rw[h.str];rfl
 |tup _=>obtain⟨_,rfl,_⟩:=h.tup;rfl
 |lst _=>rw[TD] at h;obtain⟨n,b,rfl,_,e,_⟩:=h;simp only[tyN,e];rfl
 |dic _ _=>rw[TD] at h;exact h.elim
def qN{ty:Ty}{t:Dw.D}{d:D}(h:TD p S t d):hV ty d S=aw (.bl (fS ty (tyT t)),S):=by
 unfold hV;rw[OW h];rfl
end
def Fg{n:Nat}:Ok (kh g n x c S) Q=Ok (x c S) λd b=>d.length=n/\Ok (g d b) Q:=by
 unfold kh;rw[bG]
 congr 1
 funext d b
 rw[c8,ba];apply propext;split
 ·rename_i h;exact⟨λz=>⟨h,z⟩,λz=>z.2⟩
 ·rename_i h;exact⟨λz=>z.elim,λz=>(h z.1).elim⟩
def KC:Ok (Be x y c S) Q=Ok (x c S) λd S1=>∃b,d = .bl b/\if b=aN then Ok (y c S1) Q else Q (.bl aS) S1:=by
 unfold Be;rw[bG]
 congr 1
 funext d S1
 apply propext;cases d with
 |bl b=>cases b <;> simp[aG]
 |_=>simp[ba]
def OX:Ok (xOr x y f S) Q=Ok (x f S) λd c=>∃b,d = .bl b/\if b=aN then Q (.bl aN) c else Ok (y f c) Q:=by
 unfold xOr;rw[bG]
 congr 1
 funext d c
 apply propext;cases d with
 |bl b=>cases b <;> simp[aG]
 |_=>simp[ba]
def KD:Ok (yQ d S) Q=∃b,d = .bl b/\Q (.bl (!b)) S:=by
 apply propext;cases d with
 |bl b=>simp[yQ,aG]
 |_=>simp[yQ,ba]
def KF:Ok (yR f g x y z d S) Q=Ok (x d S) λa j=>Ok (y d j) λb h=>Ok (f a b h) λr S3=>∃c,r = .bl c/\if c=aN then Ok (z d S3) λe k=>Ok (g b e k) Q else Q (.bl aS) S3:=by
 unfold yR;rw[bG]
 congr 1
 funext a j
 rw[bG]
 congr 1
 funext b h
 rw[bG]
 congr 1
 funext r S3
 apply propext;cases r with
 |bl c=>cases c <;> simp[aG,bG]
 |_=>simp[ba]
def KG{i:Nat}:Ok (yv i b S) Q=∃d,b[i]?=aw (aw d)/\Q d S:=by
 apply propext;unfold yv;cases h:b[i]? with
 |none=>simp[ba]
 |some o=>cases o with
  |none=>simp[ba]
  |some d=>simp[aG]
def OY{i j:Int}:Ok (ak .le (.int i) (.int j) S) Q=Q (.bl (decide (i<=j))) S:=aG
def OZ{i j:Int}:Ok (ak .lt (.int i) (.int j) S) Q=Q (.bl (decide (i < j))) S:=aG
def O0{i j:Int}:Ok (ak .gt (.int i) (.int j) S) Q=Q (.bl (decide (j < i))) S:=aG
def O1{i j:Int}:Ok (ak .ge (.int i) (.int j) S) Q=Q (.bl (decide (j<=i))) S:=aG
def KH{i j:Int}:Ok (bL .add (.int i) (.int j) S) Q=Q (.int (i+j)) S:=aG
def KJ{i j:Int}:Ok (bL .sub (.int i) (.int j) S) Q=Q (.int (i - j)) S:=aG
def O2:Ok (xB x c S) Q=Ok (x c S) λd S1=>∃b,d = .bl b/\Q b S1:=by
 unfold xB;rw[bG]
 congr 1
 funext d S1
 apply propext;cases d with
 |bl b=>simp[aG]
 |_=>simp[ba]
def Fh{own k:Nat}:Ok (mB own I T c k b S) Q=Ok (I b S) λnx d=>dj T (b++Zx own aD)=aN/\Ok (bu nx T c (b++Zx own aD) k 0 d) λE S2=>E.length<=100000/\Q E S2:=by
 unfold mB;rw[bG]
 congr 1
 funext nx d
 rw[c8,ba];apply propext
 have e:Ok (bnd (bu nx T c (b++Zx own aD) k 0 d) λE S2=>if E.length<=100000 then aw (E,S2) else aD) Q=Ok (bu nx T c (b++Zx own aD) k 0 d) λE S2=>E.length<=100000/\Q E S2:=by
  rw[bG]
  congr 1
  funext E S2
  rw[c8,ba,aG];apply propext;split
  ·rename_i h;exact⟨λz=>⟨h,z⟩,λz=>z.2⟩
  ·rename_i h;exact⟨λz=>z.elim,λz=>(h z.1).elim⟩
 rw[e];split
 ·rename_i h;exact⟨λz=>⟨h,z⟩,λz=>z.2⟩
 ·rename_i h;exact⟨λz=>z.elim,λz=>(h z.1).elim⟩
def B4{k:Nat}:Ok (jJ I T c k b S) Q=(dj T b=aN/\Ok (I b S) λnx d=>Ok (bu nx T c b k 0 d) Q):=by
 unfold jJ;rw[c8,ba,bG];apply propext;split
 ·rename_i h;exact⟨λz=>⟨h,z⟩,λz=>z.2⟩
 ·rename_i h;exact⟨λz=>z.elim,λz=>(h z.1).elim⟩
def Fi:Ok (oJ x b S) Q=Ok (x b S) λd S1=>d.length<=1000/\Q d S1:=by
 unfold oJ;rw[bG]
 congr 1
 funext d S1
 rw[c8,ba,aG];apply propext;split
 ·rename_i h;exact⟨λz=>⟨h,z⟩,λz=>z.2⟩
 ·rename_i h;exact⟨λz=>z.elim,λz=>(h z.1).elim⟩
def Fj:Ok (kL d S) Q=(d.length<=1000/\Q (.tup d) S):=by
 unfold kL;rw[c8,ba,aG];apply propext;split
 ·rename_i h;exact⟨λz=>⟨h,z⟩,λz=>z.2⟩
 ·rename_i h;exact⟨λz=>z.elim,λz=>(h z.1).elim⟩
def qO{b:Type}(l:List b)(g:b->Bool)(S:Sto):kN aS (l.map λt=>D.bl (g t)) S=aw (.bl (l.all g),S):=by
 unfold kN;have c:(l.map λt=>D.bl (g t)).all yB=aN:=by rw[YX];simp[Function.comp_def,yB]
 have h:(l.map λt=>D.bl (g t)).all n5=l.all g:=by rw[YX];rfl
 rw[if_pos ⟨rfl,c⟩,h]
def Fk{S:Sto}{n:Nat}{lo:Int}{T:Tg}{c:XA}{p:Rho}{Q:List D->Sto->Prop}(v:n<=100000)(g:Nat->Bool)
  (step:∀ (i:Nat) b,i < n->Sm S b->∃d,ax T (.int (lo+i)) p=aw d/\Ok (c d b) λE k=>E=[.bl (g i)]/\Sm b k) (q:∀b,Sm S b->Q ((Zk n).map λi=>.bl (g i)) b) :
  Ok (bu (nxR lo n) T c p LF 0 S) λE S2=>E.length<=100000/\Q E S2:=by
 refine(gA n (λi f b=>Sm S b/\f=(Zk i).map λt=>.bl (g t)) (by unfold LF;lia) (λi f b hi ⟨sm,h⟩=>?_) (λf b ⟨sm,h⟩=>?_) ⟨Sm.refl S,by simp⟩).mono λE b ⟨sm,h⟩=>?_
 ·obtain⟨d,u,E,k,y,rfl,j⟩:=step i b hi sm;refine⟨_,d,by show aw (if i < n then aw (D.int (lo+i)) else aD)=_;rw[if_pos hi],u,_,k,y,sm.trans j,?_⟩;rw[h,Xe,ZF];rfl
 ·show aw (if n < n then aw (D.int (lo+n)) else aD)=_;rw[if_neg (ZR n)]
 ·subst h;exact⟨by rw[Za,ZG];exact v,q b sm⟩
def vJ{m n:Nat}(v:S[m]?=aw (.lst ((Zk n).map λj=>.int (Int.ofNat j))))(C:n<=1000)(f:Nat->List D)
  (step:∀ (i:Nat) b,i < n->Sm S b->∃d,ax T (.int i) z=aw d/\Ok (c d b) λE q=>E=f i/\Sm b q):Ok (bu (nxS m) T c z LF 0 S) λE S2=>E=(Zk n).flatMap f/\Sm S S2:=by
 refine(gA n (λi h b=>Sm S b/\h=(Zk i).flatMap f) (by unfold LF;lia) (λi h b hi ⟨sm,k⟩=>?_) (λh b ⟨sm,k⟩=>?_) ⟨Sm.refl S,by simp⟩).mono λE b ⟨sm,k⟩=>⟨k,sm⟩
 ·obtain⟨d,y,E,q,B,rfl,p⟩:=step i b hi sm;refine⟨.int i,d,?_,y,_,q,B,sm.trans p,?_⟩
  ·show(au b m).map (λu=>u[i]?)=_;simp only[au,sm _ _ v,ZD,Zp,Yz hi];rfl
  ·rw[k,Dw.oI]
 ·show(au b m).map (λu=>u[n]?)=_;simp only[au,sm _ _ v,ZD];rw[Zs (by simp)]
def B5:Ok (dC x c S) Q=Ok (x c S) λd b=>Q (.ref b.length) (b++[.lst d]):=by
 unfold dC;rw[bG]
 congr 1
 funext d b
 rw[aG]
def KL(h:Ok (x c S) λd b=>∃i:Nat,d = .int i/\i<=1000/\Q ((Zk i).map λj=>.int (Int.ofNat j)) b):Ok (yX x c S) Q:=by
 unfold yX;rw[bG];refine h.mono λd b ⟨i,e,hi,q⟩=>?_;subst e;dsimp only;rw[if_pos (by lia),aG,Zy];exact q
def tv(is:List Int):(is.map D.int).all cB=aN:=by rw[YX];simp[Function.comp_def,cB]
def B6(is:List Int)(i:Int)(S:Sto):vf (.tup (is.map D.int)) [.int i] S=aw (.int (is.count i:Nat),S):=by
 have e:((is.map D.int).countP λz=>eqF z (.int i))=is.count i:=by
  rw[List.countP_map];unfold List.count
  congr 1
 simp only[vf];rw[if_pos ⟨rfl,tv is⟩,e]
def ji(neg:Bool)(is:List Int)(i:Int)(S:Sto):inS neg (.int i) (.tup (is.map D.int)) S=aw (.bl (neg != decide (i ∈ is)),S):=by
 have e:inF (.int i) (is.map D.int)=decide (i ∈ is):=by
  unfold inF;rw[Wa,YS,Y7];simp only[Function.comp_def,eqF,beq_iff_eq,decide_eq_true_eq];exact⟨λ⟨x,b,e⟩=>e ▸ b,λh=>⟨i,h,rfl⟩⟩
 simp only[inS,ao];rw[if_pos ⟨rfl,tv is⟩,e]
def Fm(i j:Int)(S:Sto):ak .eq (.int i) (.int j) S=aw (.bl (decide (i=j)),S):=by
 simp only[ak,eqS];have:eqD 60 S (.int i) (.int j)=aw (i == j):=rfl;rw[this];rfl
def qP(i j:Int)(S:Sto):ak .ne (.int i) (.int j) S=aw (.bl (!decide (i=j)),S):=rC (x:=.int i) (y:=.int j) (b:=decide (i=j)) rfl
def KM{i j:Int}:Ok (ak .eq (.int i) (.int j) S) Q=Q (.bl (decide (i=j))) S:=by rw[Fm,aG]
def KN{i j:Int}:Ok (ak .ne (.int i) (.int j) S) Q=Q (.bl (!decide (i=j))) S:=by rw[qP,aG]
def Fn{i:Nat}:ax (.name i) d b=if i < b.length then aw (b.set i (aw d)) else aD:=by simp only[ax]
def vK:ax (.tup T) (.tup d) ρ=aM T d ρ:=by simp only[ax]
def qQ:aM [] [] ρ=aw ρ:=by simp only[aM]
def nu{i:Nat}:aM (.name i::T) (d::j) c=if i < c.length then aM T j (c.set i (aw d)) else aD:=by
 simp only[aM,ax];split
 ·rename_i f h;split at h
  ·rename_i b;cases h;rw[if_pos b]
  ·cases h
 ·rename_i h;split at h
  ·cases h
  ·rename_i b;rw[if_neg b]
def bn{i j:Nat}(h:i < ρ.length)(c:j < ρ.length):ax (.tup [.name i,.name j]) (.tup [a,b]) ρ=aw ((ρ.set i (aw a)).set j (aw b)):=by
 rw[vK,nu,if_pos h,nu,if_pos (by rw[ZY];exact c),qQ]
def aq{a:Nat}(h:S[a]?=aw (.lst es)):au S a=aw es:=by simp only[au,h]
def Fo{a b n:Nat}(c:S[a]?=aw (.lst E))(h:S[b]?=aw (.lst []))(d:a ≠ b):eqD (n+1) S (.ref a) (.ref b)=aw E.isEmpty:=by
 show(match au S a,au S b with |some X,aw ys=>if a=b then aw aN else if X.length=ys.length then eqL (eqD n S) X ys else aw aS |_,_=>aD)=_;rw[aq c,aq h];show(if a=b then aw aN else if E.length=([]:List D).length then eqL (eqD n S) E [] else aw aS)=_;rw[if_neg d];cases E with
 |nil=>simp[eqL]
 |cons x X=>simp
def ne_nil{a b:Nat}(c:S[a]?=aw (.lst E))(h:S[b]?=aw (.lst []))(d:a ≠ b):ak .ne (.ref a) (.ref b) S=aw (.bl (!E.isEmpty),S):=rC (Fo c h d)
def Fp:ak .ne (.ref (Zd S)) (.ref (Zd (S++[Ob.lst E]))) (S++[Ob.lst E]++[Ob.lst []])=aw (.bl (!E.isEmpty),S++[Ob.lst E]++[Ob.lst []]):=
 ne_nil (by rw[Z2,Zm (Ze _),Z7];rfl) (by rw[Zm (Ze _),Z7];rfl) (by simp)
def dZ(d:List D)(k:Nat)(h:k<=d.length):dY d aD (aw (k:Int))=d.take k:=by
 unfold dY;rw[Dw.uD _ _ (by lia),Zy,XD h];rfl
def KO{p:Nat}(h:TDs p S T d):aj cb (.tup d) S=aw (.int T.length,S):=by
 simp only[aj,ao,cb,h.len]
section
variable {S S' S1 S2:Sto} {p:Nat} {Q:D->Sto->Prop} {ρ:Rho}
def KP{i j:Int}:Ok (bL .mod (.int i) (.int j) S) Q=(0 < j/\Q (.int (i % j)) S):=by
 simp only[bL,JA,c8,aG,ba];apply propext;split
 ·rename_i h;exact⟨λz=>⟨h,z⟩,λz=>z.2⟩
 ·rename_i h;exact⟨λz=>z.elim,λz=>(h z.1).elim⟩
def Fq{i j:Int}:Ok (bL .fdiv (.int i) (.int j) S) Q=((0 < j/\j < 1298074214633706907132624082305024)/\Q (.int (i / j)) S):=by
 simp only[bL,AG,c8,aG,ba];apply propext;split
 ·rename_i h;exact⟨λz=>⟨h,z⟩,λz=>z.2⟩
 ·rename_i h;exact⟨λz=>z.elim,λz=>(h z.1).elim⟩
def KQ{i j:Int}:Ok (bL .mul (.int i) (.int j) S) Q=(hU i j=aN/\Q (.int (i * j)) S):=by
 simp only[bL,su,c8,aG,ba];apply propext;split
 ·rename_i h;exact⟨λz=>⟨h,z⟩,λz=>z.2⟩
 ·rename_i h;exact⟨λz=>z.elim,λz=>(h z.1).elim⟩
def KR{i j:Int}:Ok (bL .pow (.int i) (.int j) S) Q=((0<=j/\j<=1000000/\i.natAbs < 2 ^ 64)/\Q (.int (i ^ j.toNat)) S):=by
 simp only[bL,JB,c8,aG,ba];apply propext;split
 ·rename_i h;exact⟨λz=>⟨h,z⟩,λz=>z.2⟩
 ·rename_i h;exact⟨λz=>z.elim,λz=>(h z.1).elim⟩
def xj{i j:Int}(h:-(2 ^ 64) < j)(b:j < 2 ^ 64):hU i j=aN:=by simp only[hU,YT,bAE,decide_eq_true_eq];exact .inr ⟨h,b⟩
def jj{i j:Int}(h:-(2 ^ 64) < i)(b:i < 2 ^ 64):hU i j=aN:=by simp only[hU,YT,bAE,decide_eq_true_eq];exact .inl ⟨h,b⟩
abbrev Pot(p:Nat)(S:Sto):Prop:=∃n:Int,S[p]?=aw (.lst [.int n])
structure Dr(p:Nat)(S S':Sto):Prop where
 kp:Kp p S S'
 pot:Pot p S'
def Dr.refl(h:Pot p S):Dr p S S:=⟨Kp.refl p S,h⟩
def Dr.trans(a:Dr p S S1)(b:Dr p S1 S2):Dr p S S2:=⟨a.kp.trans b.kp,b.pot⟩
def Dr.sm(h:Pot p S)(s:Sm S S'):Dr p S S':=⟨s.kp,let ⟨n,e⟩:=h;⟨n,s _ _ e⟩⟩
def Dr.thenSm(a:Dr p S S1)(s:Sm S1 S2):Dr p S S2:=a.trans (Dr.sm a.pot s)
def Pot.lt(h:Pot p S):p < S.length:=let ⟨_,e⟩:=h;(Zb.mp e).1
def KS:Kp p S (S.set p o):=λi u n e=>by rw[Zv (Ne.symm n)];exact e
def dR(h:p < S.length):(S.set p o)[p]?=aw o:=by rw[ZU h]
def gB{n:Nat}{lo:Int}{T:Tg}{b:XS}{Q:Fl->Rho->Sto->Prop}(u:n<=100000)(I:Nat->Rho->Sto->Prop)
  (step:∀ (i:Nat) ρ S,i < n->I i ρ S->∃f,ax T (.int (lo+i)) ρ=aw f/\OkS (b f S) λk c S2=>match k with |.nx=>I (i+1) c S2 |.ct=>I (i+1) c S2 |.bk=>Q .nx c S2 |.rt d=>Q (.rt d) c S2)
  (q:∀ρ S',I n ρ S'->Q .nx ρ S') (j:I 0 ρ S):OkS (eV (nxR lo n) T b LF 0 ρ S) Q:=by
 refine jh n I (by unfold LF;lia) (λi ρ S' hi h=>?_) (λρ S' h=>⟨?_,q ρ S' h⟩) j
 ·obtain⟨f,E,z⟩:=step i ρ S' hi h;exact⟨_,f,by show aw (if i < n then aw (D.int (lo+i)) else aD)=_;rw[if_pos hi],E,z⟩
 ·show aw (if n < n then aw (D.int (lo+n)) else aD)=_;rw[if_neg (ZR n)]
def vL{n:Nat}{lo:Int}{T:Tg}{c:XA}{Q:List D->Sto->Prop}(k:n<=100000)(I:Nat->List D->Sto->Prop)
  (step:∀ (i:Nat) b S',i < n->I i b S'->∃d,ax T (.int (lo+i)) ρ=aw d/\Ok (c d S') λE S1=>I (i+1) (b++E) S1) (q:∀E S',I n E S'->E.length<=100000/\Q E S') (j:I 0 [] S) :
  Ok (bu (nxR lo n) T c ρ LF 0 S) λE S2=>E.length<=100000/\Q E S2:=by
 refine(gA n I (by unfold LF;lia) (λi b S' hi f=>?_) (λb S' f=>?_) j).mono q
 ·obtain⟨d,h,z⟩:=step i b S' hi f;exact⟨_,d,by show aw (if i < n then aw (D.int (lo+i)) else aD)=_;rw[if_pos hi],h,z⟩
 ·show aw (if n < n then aw (D.int (lo+n)) else aD)=_;rw[if_neg (ZR n)]
def KU:Ok (uH x y ρ S) Q=Ok (x ρ S) λb S1=>Ok (y ρ S1) λi S2=>∃k,i = .int k/\∃d,atI b k=aw d/\Q d S2:=by
 unfold uH;rw[bG]
 congr 1
 funext b S1
 rw[bG]
 congr 1
 funext i S2
 apply propext;cases i with
 |int k=>simp[Kx]
 |_=>simp[ba]
def KW{i:Int}(h:0<=i)(b:i < ds.length):∃d,atI ds i=aw d/\ds[i.toNat]?=aw d:=by
 have hi:i.toNat < ds.length:=by lia
 refine⟨ds[i.toNat],?_,gEG hi⟩;unfold atI ixN;rw[if_pos h,if_pos (by lia)];exact gEG hi
def gC{nx:Nxt}{T:Tg}{c:XA}{Q:List D->Sto->Prop}(n:Nat)(j:Nat->D)(I:Nat->List D->Sto->Prop)(h:∀i b S',i<=n->I i b S'->nx i S'=aw (if i < n then aw (j i) else aD))(v:n<=100000)
  (step:∀ (i:Nat) b S',i < n->I i b S'->∃d,ax T (j i) ρ=aw d/\Ok (c d S') λE S1=>I (i+1) (b++E) S1) (q:∀E S',I n E S'->E.length<=100000/\Q E S') (u:I 0 [] S) :
  Ok (bu nx T c ρ LF 0 S) λE S2=>E.length<=100000/\Q E S2:=by
 refine(gA n I (by unfold LF;lia) (λi b S' hi f=>?_) (λb S' f=>?_) u).mono q
 ·obtain⟨d,k,z⟩:=step i b S' hi f;exact⟨_,d,by rw[h i b S' (by lia) f,if_pos hi],k,z⟩
 ·rw[h n b S' (Ze _) f,if_neg (ZR n)]
def qR{m i:Nat}(h:S[m]?=aw (.lst b))(E:Nat->D)(c:∀i d,b[i]?=aw d->E i=d):nxS m i S=aw (if i < b.length then aw (E i) else aD):=by
 show(au S m).map (λb=>b[i]?)=_;rw[aq h,ZD];split
 ·rename_i hi;rw[gEG hi,c i _ (gEG hi)]
 ·rename_i hi;rw[Zs (by lia)]
structure RowsS(p:Nat)(S:Sto)(rs:List D)(M:List (List Int)):Prop where
 len:rs.length=M.length
 row:∀ (i:Nat) r,M[i]?=aw r->∃a,rs[i]?=aw (.ref a)/\a ≠ p/\S[a]?=aw (.lst (r.map D.int))
def RowsS.keep(h:RowsS p S b M)(k:Kp p S S'):RowsS p S' b M:=⟨h.len,λi r c=>let ⟨a,e,n,z⟩:=h.row i r c;⟨a,e,n,k _ _ n z⟩⟩
def RowsS.nil:RowsS p S [] []:=⟨rfl,λi r h=>by simp at h⟩
def RowsS.snoc{a:Nat}(h:RowsS p S f M)(n:a ≠ p)(z:S[a]?=aw (.lst (r.map D.int))):RowsS p S (f++[.ref a]) (M++[r]):=by
 refine⟨by simp[h.len],λi j c=>?_⟩;by_cases hi:i < M.length
 ·rw[Zq hi] at c;obtain⟨b,e,nb,Z⟩:=h.row i j c;exact⟨b,by rw[Zq (by rw[h.len];exact hi)];exact e,nb,Z⟩
 ·rw[Zm (by lia)] at c
  have d:i - M.length=0:=by
   have:=(Zb.mp c).1;simp at this;lia
  rw[d] at c;cases c;exact⟨a,by rw[Zm (by rw[h.len];lia),h.len,d];rfl,n,z⟩
def aC:(S++[o])[S.length]?=aw o:=by rw[Zm (Ze _),Z7];rfl
def Kp.setNew{f:Nat}(h:Kp p S S')(b:S.length<=f):Kp p S (S'.set f o):=λi u n e=>by
 have hi:=(Zb.mp e).1;rw[Zv (by lia)];exact h i u n e
def Pot.setNe{f:Nat}(h:Pot p S)(b:f ≠ p):Pot p (S.set f o):=by
 obtain⟨n,e⟩:=h;exact⟨n,by rw[Zv b];exact e⟩
abbrev ac(q:Int × Int):D:=.tup [.int q.1,.int q.2]
def jk:∀ (E:List (Int × Int)),TDs p S (E.map Dw.wH) (E.map ac)
 |[]=>b8
 |e::E=>aI (c9 (aI bz (aI bz b8))) (jk E)
def nv{f:Nat}(h:S[f]?=aw (.lst d))(b:d.length < 100000):Ok (sE (.ref f) [e] S) Q=Q .non (S.set f (.lst (d++[e]))):=by
 simp only[sE,chg,h];rw[if_pos b];exact aG
def df{f:Nat}(h:S[f]?=aw (.lst d)):fU (.ref f) S=aN:=by simp only[fU,aq h];rfl
def qS{f:Nat}(h:S[f]?=aw (.lst (ds++[e]))):ixS (.ref f) (.int (-1)) S=aw (e,S):=by
 have:atI (ds++[e]) (-1:Int)=aw e:=by
  unfold atI ixN;rw[if_neg (by decide),if_pos (by rw[Zh,Zr];lia)];show(ds++[e])[((-1:Int)+((ds++[e]).length:Int)).toNat]?=aw e;have:((-1:Int)+((ds++[e]).length:Int)).toNat=ds.length:=by rw[Zh,Zr];lia
  rw[this,Zm (Ze _),Z7];rfl
 simp only[ixS,ao,aq h,ZD,this]
def z7{i:Nat}(h:b[i]?=aw d):ixS (.tup b) (.int i) S=aw (d,S):=by
 have hi:=(Zb.mp h).1
 have E:atI b (i:Int)=aw d:=by
  unfold atI ixN;rw[if_pos (by lia),if_pos (by lia),Zy];exact h
 simp only[ixS,ao,E,ZD]
def wy{i:Nat}(h:b[i]?=aw d):atI b (i:Int)=aw d:=by
 have hi:=(Zb.mp h).1;unfold atI ixN;rw[if_pos (by lia),if_pos (by lia),Zy];exact h
def xk:ak .eq (.tup d) (.tup []) S=aw (.bl d.isEmpty,S):=by
 simp only[ak,eqS]
 have:eqD 60 S (.tup d) (.tup [])=aw d.isEmpty:=by
  cases d <;> rfl
 rw[this];rfl
def xl:ak .ne (.tup d) (.tup []) S=aw (.bl (!d.isEmpty),S):=rC (x:=.tup d) (y:=.tup []) (b:=d.isEmpty) (by cases d <;> rfl)
def KY:Ok (bL .add (.tup X) (.tup y) S) Q=(X.length+y.length<=1000/\Q (.tup (X++y)) S):=by
 simp only[bL,kM,c8,aG,ba];apply propext;split
 ·rename_i h;exact⟨λz=>⟨h,z⟩,λz=>z.2⟩
 ·rename_i h;exact⟨λz=>z.elim,λz=>(h z.1).elim⟩
end
@[inline]abbrev WP(b:Type):=Rho->Sto->(b->Sto->Prop)->Prop
abbrev Sd{b:Type}(w:WP b)(x:Rho->Sto->Option (b × Sto)):Prop:=∀c S Q,w c S Q->Ok (x c S) Q
def aZ{b c:Type}{x:Option (b × Sto)}{f:b->Sto->Option (c × Sto)}{Q:c->Sto->Prop}(h:Ok x λa S=>Ok (f a S) Q):Ok (bnd x f) Q:=bG ▸ h
def bA{b:Type}{a:b}{S:Sto}{Q:b->Sto->Prop}(h:Q a S):Ok (aw (a,S)) Q:=⟨_,_,rfl,h⟩
abbrev wIf(b:Bool)(A B:Prop):Prop:=match b with
 |true=>A
 |false=>B
def xm{b:Bool}{A B:Prop}(h:wIf b A B):if b=aN then A else B:=by cases b <;> exact h
abbrev wBl(d:D)(Q:Bool->Prop):Prop:=match d with
 |.bl b=>Q b
 |.non=>False |.int _=>False |.str _=>False |.tup _=>False |.ref _=>False
abbrev cN(d:D)(Q:Int->Prop):Prop:=match d with
 |.int i=>Q i
 |.non=>False |.bl _=>False |.str _=>False |.tup _=>False |.ref _=>False
def ny{d:D}{Q:Bool->Prop}(h:wBl d Q):∃b,d = .bl b/\Q b:=by cases d <;> first |exact h.elim |exact⟨_,rfl,h⟩
def cz{d:D}{Q:Int->Prop}(h:cN d Q):∃b,d = .int b/\Q b:=by cases d <;> first |exact h.elim |exact⟨_,rfl,h⟩
abbrev QQ(o:Option D)(Q:D->Prop):Prop:=match o with
 |some d=>Q d
 |none=>False
abbrev vM:Rho->Nat->(D->Prop)->Prop
 |[],_,_=>False
 |o::_,0,Q=>QQ o Q
 |_::ρ,i+1,Q=>vM ρ i Q
def xn:∀ {ρ:Rho} {i:Nat} {Q:D->Prop},vM ρ i Q->∃d,ρ[i]?=aw (aw d)/\Q d
 |[],_,_,h=>h.elim
 |some d::_,0,_,h=>⟨d,rfl,h⟩
 |none::_,0,_,h=>h.elim
 |o::ρ,i+1,_,h=>by rw[YC];exact xn (ρ:=ρ) h
abbrev O3(i:Nat):WP D:=λb S Q=>vM b i λd=>Q d S
def O4{i:Nat}:Sd (O3 i) (yv i):=λb S Q h=>by
 rw[KG];exact xn h
abbrev wC(d:D):WP D:=λ_ S Q=>Q d S
def s_c{d:D}:Sd (wC d) (xC d):=λ_ _ _ h=>bA h
abbrev Fs(g:D->D->Sto->(D->Sto->Prop)->Prop)(x y:WP D):WP D:=λc S Q=>x c S λa f=>y c f λb d=>g a b d Q
def B7{g:D->D->Sto->(D->Sto->Prop)->Prop}{f:D->D->Sto->Option (D × Sto)}{w v:WP D}{x y:XE}(c:Sd w x)(d:Sd v y)(j:∀ {a b S Q},g a b S Q->Ok (f a b S) Q):Sd (Fs g w v) (sd f x y):=
 λ_ _ _ h=>aZ ((c _ _ _ h).mono λ_ _ h=>aZ ((d _ _ _ h).mono λ_ _ h=>j h))
abbrev wUn{b β:Type}(g:b->Sto->(β->Sto->Prop)->Prop)(x:WP b):WP β:=λc S Q=>x c S λa d=>g a d Q
def Ft{b c:Type}{g:b->Sto->(c->Sto->Prop)->Prop}{f:b->Sto->Option (c × Sto)}{w:WP b}{x:Rho->Sto->Option (b × Sto)}(d:Sd w x)(j:∀ {a S Q},g a S Q->Ok (f a S) Q):Sd (wUn g w) (λk S=>bnd (x k S) f):=
 λ_ _ _ h=>aZ ((d _ _ _ h).mono λ_ _ h=>j h)
abbrev wOk{b c:Type}(f:b->Sto->Option (c × Sto))(a:b)(S:Sto)(Q:c->Sto->Prop):Prop:=Ok (f a S) Q
abbrev wII:BOp->Int->Int->Sto->(D->Sto->Prop)->Prop
 |.add,i,j,S,Q=>Q (.int (i+j)) S
 |.sub,i,j,S,Q=>Q (.int (i - j)) S
 |.mul,i,j,S,Q=>hU i j=aN/\Q (.int (i * j)) S
 |.mod,i,j,S,Q=>0 < j/\Q (.int (i % j)) S
 |.fdiv,i,j,S,Q=>(0 < j/\j < 1298074214633706907132624082305024)/\Q (.int (i / j)) S
 |.pow,i,j,S,Q=>(0<=j/\j<=1000000/\i.natAbs < 2 ^ 64)/\Q (.int (i ^ j.toNat)) S
def KZ{o:BOp}{i j:Int}{S:Sto}{Q:D->Sto->Prop}(h:wII o i j S Q):Ok (bL o (.int i) (.int j) S) Q:=by
 cases o with
 |add=>rw[KH];exact h
 |sub=>rw[KJ];exact h
 |mul=>rw[KQ];exact h
 |mod=>rw[KP];exact h
 |fdiv=>rw[Fq];exact h
 |pow=>rw[KR];exact h
abbrev wTT:BOp->List D->List D->Sto->(D->Sto->Prop)->Prop
 |.add,xs,ys,S,Q=>xs.length+ys.length<=1000/\Q (.tup (xs++ys)) S
 |.sub,_,_,_,_=>False
 |.mul,_,_,_,_=>False
 |.mod,_,_,_,_=>False
 |.fdiv,_,_,_,_=>False
 |.pow,_,_,_,_=>False
def K0{o:BOp}{i j:List D}{S:Sto}{Q:D->Sto->Prop}(h:wTT o i j S Q):Ok (bL o (.tup i) (.tup j) S) Q:=by
 cases o with
 |add=>rw[KY];exact h
 |_=>exact h.elim
abbrev B8(o:BOp)(i:Int)(y:D)(S:Sto)(Q:D->Sto->Prop):Prop:=match y with
 |.int j=>wII o i j S Q
 |.non=>False |.bl _=>False |.str _=>False |.ref _=>False
 |.tup ys=>Ok (bL o (.int i) (.tup ys) S) Q
abbrev xo(o:BOp)(X:List D)(y:D)(S:Sto)(Q:D->Sto->Prop):Prop:=match y with
 |.tup ys=>wTT o X ys S Q
 |.non=>False |.bl _=>False |.str _=>False |.ref _=>False
 |.int j=>Ok (bL o (.tup X) (.int j) S) Q
abbrev vN(o:BOp)(x y:D)(S:Sto)(Q:D->Sto->Prop):Prop:=match x with
 |.int i=>B8 o i y S Q
 |.tup xs=>xo o xs y S Q
 |.non=>Ok (bL o .non y S) Q
 |.bl b=>Ok (bL o (.bl b) y S) Q
 |.str b=>Ok (bL o (.str b) y S) Q
 |.ref b=>Ok (bL o (.ref b) y S) Q
def Fu{o:BOp}{x y:D}{S:Sto}{Q:D->Sto->Prop}(h:vN o x y S Q):Ok (bL o x y S) Q:=by
 cases x with
 |int i=>cases y with
  |int j=>exact KZ h
  |tup Y=>exact h
  |_=>exact h.elim
 |tup X=>cases y with
  |int j=>exact h
  |tup Y=>exact K0 h
  |_=>exact h.elim
 |_=>exact h
abbrev wCI:COp->Int->Int->Sto->(D->Sto->Prop)->Prop
 |.eq,i,j,S,Q=>Q (.bl (decide (i=j))) S
 |.ne,i,j,S,Q=>Q (.bl (!decide (i=j))) S
 |.lt,i,j,S,Q=>Q (.bl (decide (i < j))) S
 |.le,i,j,S,Q=>Q (.bl (decide (i<=j))) S
 |.gt,i,j,S,Q=>Q (.bl (decide (j < i))) S
 |.ge,i,j,S,Q=>Q (.bl (decide (j<=i))) S
 |.is,_,_,_,_=>False
 |.isnot,_,_,_,_=>False
 |.isin,_,_,_,_=>False
 |.notin,_,_,_,_=>False
def K1{o:COp}{i j:Int}{S:Sto}{Q:D->Sto->Prop}(h:wCI o i j S Q):Ok (ak o (.int i) (.int j) S) Q:=by
 cases o with
 |eq=>rw[KM];exact h
 |ne=>rw[KN];exact h
 |lt=>rw[OZ];exact h
 |le=>rw[OY];exact h
 |gt=>rw[O0];exact h
 |ge=>rw[O1];exact h
 |_=>exact h.elim
abbrev K2(o:COp)(i:Int)(y:D)(S:Sto)(Q:D->Sto->Prop):Prop:=match y with
 |.int j=>wCI o i j S Q
 |.non=>Ok (ak o (.int i) .non S) Q
 |.bl b=>Ok (ak o (.int i) (.bl b) S) Q
 |.str b=>Ok (ak o (.int i) (.str b) S) Q
 |.ref b=>Ok (ak o (.int i) (.ref b) S) Q
 |.tup b=>Ok (ak o (.int i) (.tup b) S) Q
abbrev tw(o:COp)(X:List D)(y:D)(S:Sto)(Q:D->Sto->Prop):Prop:=match o with
 |.eq=>match y with
  |.tup ys=>match ys with
   |[]=>Q (.bl X.isEmpty) S
   |y::ys=>Ok (ak .eq (.tup X) (.tup (y::ys)) S) Q
  |.non=>Ok (ak .eq (.tup X) .non S) Q
  |.bl b=>Ok (ak .eq (.tup X) (.bl b) S) Q
  |.str b=>Ok (ak .eq (.tup X) (.str b) S) Q
  |.ref b=>Ok (ak .eq (.tup X) (.ref b) S) Q
  |.int b=>Ok (ak .eq (.tup X) (.int b) S) Q
 |.ne=>match y with
  |.tup ys=>match ys with
   |[]=>Q (.bl (!X.isEmpty)) S
   |y::ys=>Ok (ak .ne (.tup X) (.tup (y::ys)) S) Q
  |.non=>Ok (ak .ne (.tup X) .non S) Q
  |.bl b=>Ok (ak .ne (.tup X) (.bl b) S) Q
  |.str b=>Ok (ak .ne (.tup X) (.str b) S) Q
  |.ref b=>Ok (ak .ne (.tup X) (.ref b) S) Q
  |.int b=>Ok (ak .ne (.tup X) (.int b) S) Q
 |.is=>Ok (ak .is (.tup X) y S) Q
 |.isnot=>Ok (ak .isnot (.tup X) y S) Q
 |.isin=>Ok (ak .isin (.tup X) y S) Q
 |.notin=>Ok (ak .notin (.tup X) y S) Q
 |.lt=>False |.le=>False |.gt=>False |.ge=>False
abbrev wCx(o:COp)(x y:D)(S:Sto)(Q:D->Sto->Prop):Prop:=match x with
 |.int i=>K2 o i y S Q
 |.tup xs=>tw o xs y S Q
 |.non=>Ok (ak o .non y S) Q
 |.bl b=>Ok (ak o (.bl b) y S) Q
 |.str b=>Ok (ak o (.str b) y S) Q
 |.ref b=>Ok (ak o (.ref b) y S) Q
def K3{o:COp}{x y:D}{S:Sto}{Q:D->Sto->Prop}(h:wCx o x y S Q):Ok (ak o x y S) Q:=by
 cases x with
 |int i=>cases y with
  |int j=>exact K1 h
  |_=>exact h
 |tup X=>cases o with
  |eq=>cases y with
   |tup Y=>cases Y with
    |nil=>rw[xk,aG];exact h
    |cons y Y=>exact h
   |_=>exact h
  |ne=>cases y with
   |tup Y=>cases Y with
    |nil=>rw[xl,aG];exact h
    |cons y Y=>exact h
   |_=>exact h
  |lt=>exact h.elim
  |le=>exact h.elim
  |gt=>exact h.elim
  |ge=>exact h.elim
  |_=>exact h
 |_=>exact h
abbrev wCm(o:COp)(x y:D)(S:Sto)(Q:D->Sto->Prop):Prop:=match o with
 |.is=>Ok (ak .is x y S) Q
 |.isnot=>Ok (ak .isnot x y S) Q
 |.isin=>Ok (ak .isin x y S) Q
 |.notin=>Ok (ak .notin x y S) Q
 |.eq=>wCx .eq x y S Q
 |.ne=>wCx .ne x y S Q
 |.lt=>wCx .lt x y S Q
 |.le=>wCx .le x y S Q
 |.gt=>wCx .gt x y S Q
 |.ge=>wCx .ge x y S Q
def qT{o:COp}{x y:D}{S:Sto}{Q:D->Sto->Prop}(h:wCm o x y S Q):Ok (ak o x y S) Q:=by
 cases o <;> first |exact K3 h |exact h
abbrev K4(o p:COp)(x y z:WP D):WP D:=λd S Q=>x d S λa k=>y d k λb h=>wCm o a b h λr f=>wBl r λc=>wIf c (z d f λe j=>wCm p b e j Q) (Q (.bl aS) f)
def H8{o p:COp}{w v u:WP D}{x y z:XE}(d:Sd w x)(f:Sd v y)(j:Sd u z):Sd (K4 o p w v u) (yR (ak o) (ak p) x y z):=λ_ _ _ h=>by
 rw[KF];refine(d _ _ _ h).mono λa q h=>(f _ _ _ h).mono λb k h=>(qT h).mono λr B h=>?_;obtain⟨c,e,h⟩:=ny h;refine⟨c,e,?_⟩;cases c with
 |true=>exact(j _ _ _ h).mono λe n h=>qT h
 |false=>exact h
abbrev O5(x y:WP D):WP D:=λf S Q=>x f S λd c=>wBl d λb=>wIf b (y f c Q) (Q (.bl aS) c)
def O6{w v:WP D}{x y:XE}(b:Sd w x)(d:Sd v y):Sd (O5 w v) (Be x y):=λ_ _ _ h=>by
 rw[KC];refine(b _ _ _ h).mono λa f h=>?_;obtain⟨c,e,h⟩:=ny h;refine⟨c,e,?_⟩;cases c with
 |true=>exact d _ _ _ h
 |false=>exact h
abbrev wOr(x y:WP D):WP D:=λf S Q=>x f S λd c=>wBl d λb=>wIf b (Q (.bl aN) c) (y f c Q)
def QR{w v:WP D}{x y:XE}(b:Sd w x)(d:Sd v y):Sd (wOr w v) (xOr x y):=λ_ _ _ h=>by
 rw[OX];refine(b _ _ _ h).mono λa f h=>?_;obtain⟨c,e,h⟩:=ny h;refine⟨c,e,?_⟩;cases c with
 |false=>exact d _ _ _ h
 |true=>exact h
abbrev O7(x:WP D):WP D:=λf S Q=>x f S λd c=>wBl d λb=>Q (.bl (!b)) c
def O8{w:WP D}{x:XE}(b:Sd w x):Sd (O7 w) (xUn yQ x):=λ_ _ _ h=>aZ ((b _ _ _ h).mono λa c h=>by
 rw[KD];exact ny h)
abbrev O9(x:WP D):WP D:=λb S Q=>x b S λd c=>cN d λi=>Q (.int (-i)) c
def Pa{w:WP D}{x:XE}(b:Sd w x):Sd (O9 w) (xUn JW x):=λ_ _ _ h=>aZ ((b _ _ _ h).mono λa c h=>by
 obtain⟨i,rfl,h⟩:=cz h;exact bA h)
abbrev Pb{α:Type}(c:WP Bool)(x y:WP α):WP α:=λd S Q=>c d S λb f=>wIf b (x d f Q) (y d f Q)
def Pc{c:WP Bool}{w v:WP D}{t:XT}{x y:XE}(d:Sd c t)(f:Sd w x)(j:Sd v y):Sd (Pb c w v) (JX t x y):=λ_ _ _ h=>aZ ((d _ _ _ h).mono λb k h=>by
 cases b with
 |true=>exact f _ _ _ h
 | false=>exact j _ _ _ h)
abbrev wO:Option (WP D)->WP (Option Int)
 |none=>λ_ S Q=>Q aD S
 |some w=>λc S Q=>w c S λd b=>cN d λi=>Q (aw i) b
abbrev vO(lo hi:Option Int)(d:D)(S:Sto)(Q:D->Sto->Prop):Prop:=match d with
 |.tup ds=>Q (.tup (dY ds lo hi)) S
 |.ref n=>Ok (slS lo hi (.ref n) S) Q
 |.non=>False |.bl _=>False |.str _=>False |.int _=>False
abbrev wSl(x:WP D)(lo hi:WP (Option Int)):WP D:=λb S Q=>x b S λd f=>lo b f λl c=>hi b c λh j=>vO l h d j Q
def QS:Sd (wO aD) uK:=λ_ _ _ h=>bA h
def QT{w:WP D}{x:XE}(b:Sd w x):Sd (wO (aw w)) (uL x):=λ_ _ _ h=>aZ ((b _ _ _ h).mono λd c h=>by
 obtain⟨i,rfl,h⟩:=cz h;exact bA h)
def QU{w:WP D}{l u:WP (Option Int)}{x:XE}{lo hi:XO}(f:Sd w x)(c:Sd l lo)(j:Sd u hi):Sd (wSl w l u) (xSl x lo hi):=λ_ _ _ h=>aZ ((f _ _ _ h).mono λd p h=>aZ ((c _ _ _ h).mono λa k h=>aZ ((j _ _ _ h).mono λb q h=>by
 cases d with
 |tup v=>exact bA h
 |ref n=>exact h
 | _=>exact h.elim)))
abbrev xq(g:List D->Sto->Option (D × Sto))(n:Nat)(x:WP (List D)):WP D:=λc S Q=>x c S λd b=>d.length=n/\Ok (g d b) Q
def vP{g:List D->Sto->Option (D × Sto)}{n:Nat}{w:WP (List D)}{x:XA}(b:Sd w x):Sd (xq g n w) (kh g n x):=λ_ _ _ h=>by
 rw[Fg];exact b _ _ _ h
abbrev wC2(d:D)(A B:Prop):Prop:=match d with
 |.int k=>wIf (decide (k=0)) A (wIf (decide (k=1)) B False)
 |_=>False
abbrev Ia(g g':List D->Sto->Option (D × Sto))(n f:Nat)(y:WP D)(x:WP (List D)):WP D:=λb S Q=>y b S λd c=>wC2 d (xq g n x b c Q) (xq g' f x b c Q)
def K5{g g':List D->Sto->Option (D × Sto)}{n j:Nat}{v:WP D}{w:WP (List D)}{y:XE}{x:XA}(p:Sd v y)(f:Sd w x):Sd (Ia g g' n j v w) (Bk g g' n j y x):=λu S Q h=>by
 refine aZ ((p _ _ _ h).mono λd q h=>?_);cases d with
 |int k=>
  have h:=xm h;dsimp only;by_cases b:k=0
  ·rw[if_pos (by simp[b])] at h;rw[if_pos b];exact vP f _ _ _ h
  ·rw[if_neg (by simp[b])] at h;have h:=xm h;by_cases c:k=1
   ·rw[if_pos (by simp[c])] at h;rw[if_neg b,if_pos c];exact vP f _ _ _ h
   ·rw[if_neg (by simp[c])] at h;exact h.elim
 |_=>exact h.elim
abbrev jW(x:WP (List D)):WP D:=λc S Q=>x c S λd b=>Q (.ref b.length) (b++[.lst d])
def gU{w:WP (List D)}{x:XA}(b:Sd w x):Sd (jW w) (dC x):=λ_ _ _ h=>by rw[B5];exact b _ _ _ h
abbrev ft:Nat->List CE->Prop->Prop
 |_,[],A=>A
 |0,_::_,_=>False
 |n+1,_::es,A=>ft n es A
def jl:∀ {n:Nat} {es:List CE} {A:Prop},ft n es A->es.length<=n/\A
 |n,[],_,h=>⟨YK _,by cases n <;> exact h⟩
 |0,_::_,_,h=>h.elim
 |n+1,_::es,_,h=>by rw[Zo];exact⟨We (jl (es:=es) h).1,(jl (es:=es) h).2⟩
abbrev wSh{α:Type}(E:List CE)(x:WP α):WP α:=λb S Q=>ft 60 E (x b S Q)
abbrev Fv(c:D->Sto->Bool)(f:D->List D->Sto->Option (D × Sto))(x:WP D)(y:WP (List D)):WP D:=λh S Q=>x h S λd b=>c d b=aN/\y h b λk j=>Ok (f d k j) Q
def B9{c:D->Sto->Bool}{f:D->List D->Sto->Option (D × Sto)}{w:WP D}{v:WP (List D)}{x:XE}{y:XA}(b:Sd w x)(j:Sd v y):Sd (Fv c f w v) (AX c f x y):=λ_ _ _ h=>aZ ((b _ _ _ h).mono λd k h=>by
 rw[if_pos h.1];exact aZ (j _ _ _ h.2))
abbrev K6(x:WP D):WP (List D):=λc S Q=>x c S λd b=>∃i:Nat,d = .int i/\i<=1000/\Q ((Zk i).map λj=>.int (Int.ofNat j)) b
def Ib{w:WP D}{x:XE}(b:Sd w x):Sd (K6 w) (yX x):=λ_ _ _ h=>KL (b _ _ _ h)
abbrev Pd:WP (List D):=λ_ S Q=>Q [] S
def Pe:Sd Pd Ed:=λ_ _ _ h=>bA h
abbrev Ic(x:WP D)(y:WP (List D)):WP (List D):=λb S Q=>x b S λa d=>y b d λf c=>Q (a::f) c
def K7{w:WP D}{v:WP (List D)}{x:XE}{y:XA}(b:Sd w x)(c:Sd v y):Sd (Ic w v) (wJ x y):=λ_ _ _ h=>aZ ((b _ _ _ h).mono λd j h=>aZ ((c _ _ _ h).mono λk f h=>bA h))
abbrev QV(o:Option D)(A:Prop):Prop:=match o with
 |none=>A
 |some _=>False
abbrev wFr:Rho->Nat->Prop->Prop
 |[],_,_=>False
 |o::_,0,A=>QV o A
 |_::ρ,i+1,A=>wFr ρ i A
def qU:∀ {ρ:Rho} {i:Nat} {A:Prop},wFr ρ i A->ρ[i]?=aw aD/\A
 |[],_,_,h=>h.elim
 |none::_,0,_,h=>⟨rfl,h⟩
 |some _::_,0,_,h=>h.elim
 |o::ρ,i+1,_,h=>by rw[YC];exact qU (ρ:=ρ) h
abbrev tz:List Tg->Rho->Prop->Prop
 |[],_,A=>A
 |.name i::ts,ρ,A=>wFr ρ i (tz ts ρ A)
 |.tup us::ts,ρ,A=>dj (.tup us) ρ=aN/\tz ts ρ A
abbrev wFt:Tg->Rho->Prop->Prop
 |.name i,ρ,A=>wFr ρ i A
 |.tup ts,ρ,A=>tz ts ρ A
def pC{i:Nat}{b:Rho}(h:b[i]?=aw aD):dj (.name i) b=aN:=by rw[dj,h]
def qV:∀ {T:List Tg} {b:Rho} {A:Prop},tz T b A->fW T b=aN/\A
 |[],_,_,h=>⟨by rw[fW],h⟩
 |.name i::T,b,_,h=>by
  obtain⟨e,h⟩:=qU h;obtain⟨E,h⟩:=qV h;exact⟨by rw[fW,pC e,E];rfl,h⟩
 |.tup us::T,b,_,h=>by
  obtain⟨e,h⟩:=h;obtain⟨E,h⟩:=qV h;exact⟨by rw[fW,e,E];rfl,h⟩
def vQ{t:Tg}{b:Rho}{A:Prop}(h:wFt t b A):dj t b=aN/\A:=by
 cases t with
 |name i=>exact⟨pC (qU h).1,(qU h).2⟩
 |tup T=>rw[dj];exact qV h
abbrev tB:List Str->Rho->(Rho->Prop)->Prop
 |[],r,Q=>Q r
 |_::own,r,Q=>tB own (aD::r) Q
abbrev tD:Rho->Rho->(Rho->Prop)->Prop
 |[],r,Q=>Q r
 |o::ρ,r,Q=>tD ρ r λb=>Q (o::b)
def xr:∀ {ρ r:Rho} {Q:Rho->Prop},tD ρ r Q->Q (ρ++r)
 |[],_,_,h=>h
 |o::ρ,r,Q,h=>xr (ρ:=ρ) (Q:=λb=>Q (o::b)) h
def xt:∀ {own:List Str} {k:Nat} {Q:Rho->Prop},tB own (Zx k aD) Q->Q (Zx (own.length+k) aD)
 |[],k,_,h=>by rw[Z1,YG];exact h
 |_::own,k,Q,h=>by
  have:=xt (own:=own) (k:=k+1) h;rw[Zo,show own.length+1+k=own.length+(k+1) by lia];exact this
abbrev Ie(own:List Str)(I:WP Nxt)(T:Tg)(c:XA)(k:Nat):WP (List D):=λd S Q=>I d S λnx h=>tB own [] λr=>tD d r λb=>wFt T b (Ok (bu nx T c b k 0 h) λE f=>E.length<=100000/\Q E f)
def Ca{own:List Str}{k:Nat}{w:WP Nxt}{I:XI}{T:Tg}{c:XA}(b:Sd w I):Sd (Ie own w T c k) (mB own.length I T c k):=λ_ _ _ h=>by
 rw[Fh]
 exact(b _ _ _ h).mono λnx d h=>by
  have h:=xr (xt (own:=own) (k:=0) h);exact vQ h
abbrev Cb(I:WP Nxt)(T:Tg)(c:XA)(k:Nat):WP (List D):=λb S Q=>wFt T b (I b S λnx d=>Ok (bu nx T c b k 0 d) Q)
def Fw{k:Nat}{w:WP Nxt}{I:XI}{T:Tg}{c:XA}(b:Sd w I):Sd (Cb w T c k) (jJ I T c k):=λ_ _ _ h=>by
 rw[B4];exact⟨(vQ h).1,b _ _ _ (vQ h).2⟩
abbrev Cc(d:D)(b:Sto)(Q:Nxt->Sto->Prop):Prop:=match d with
 |.tup ds=>Q (nxL ds) b
 |.ref n=>(au b n).isSome=aN/\Q (nxS n) b
 |.non=>False |.bl _=>False |.str _=>False |.int _=>False
def QW{w:WP D}{x:XE}(c:Sd w x):Sd (λf S Q=>w f S λd b=>Cc d b Q) (xIV x):=λ_ _ _ h=>aZ ((c _ _ _ h).mono λd b h=>by
 cases d with
 |tup j=>exact bA h
 |ref n=>dsimp only;rw[if_pos h.1];exact bA h.2
 | _=>exact h.elim)
abbrev Cd(d:D)(b:Sto)(Q:Nxt->Sto->Prop):Prop:=match d with
 |.tup ds=>Q (vg ds) b
 |.ref n=>(au b n).isSome=aN/\Q (AZ n) b
 |.non=>False |.bl _=>False |.str _=>False |.int _=>False
def QX{w:WP D}{x:XE}(c:Sd w x):Sd (λf S Q=>w f S λd b=>Cd d b Q) (xEV x):=λ_ _ _ h=>aZ ((c _ _ _ h).mono λd b h=>by
 cases d with
 |tup j=>exact bA h
 |ref n=>dsimp only;rw[if_pos h.1];exact bA h.2
 | _=>exact h.elim)
abbrev wOn{b β:Type}(f:b->β)(x:WP b):WP β:=λd S Q=>x d S λa c=>Q (f a) c
def Ce{b n:Type}{f:b->n}{w:WP b}{x:Rho->Sto->Option (b × Sto)}(j:Sd w x):Sd (wOn f w) (λk S=>bnd (x k S) λa c=>aw (f a,c)):=λ_ _ _ h=>aZ ((j _ _ _ h).mono λd c h=>bA h)
abbrev wR1(x:WP D):WP Nxt:=λc S Q=>x c S λd b=>cN d λj=>lim j=aN/\Q (nxR 0 j.toNat) b
def QY{w:WP D}{x:XE}(b:Sd w x):Sd (wR1 w) (xR1 x):=λ_ _ _ h=>aZ ((b _ _ _ h).mono λd c h=>by
 obtain⟨i,rfl,h⟩:=cz h;dsimp only;rw[if_pos h.1];exact bA h.2)
abbrev wDn(x:WP D):WP Nxt:=λc S Q=>x c S λd b=>cN d λj=>lim j=aN/\Q (nxD j (j+1).toNat) b
def QZ{w:WP D}{x:XE}(b:Sd w x):Sd (wDn w) (xDn x):=λ_ _ _ h=>aZ ((b _ _ _ h).mono λd c h=>by
 cases d with
 |int j=>obtain⟨h,q⟩:=h;dsimp only;rw[if_pos h];exact bA q
 | _=>exact h.elim)
abbrev wR2(x y:WP D):WP Nxt:=λb S Q=>x b S λd f=>y b f λe c=>cN d λi=>cN e λj=>(lim i=aN/\lim j=aN)/\Q (nxR i (j - i).toNat) c
def Q0{w v:WP D}{x y:XE}(f:Sd w x)(k:Sd v y):Sd (wR2 w v) (xR2 x y):=λ_ _ _ h=>aZ ((f _ _ _ h).mono λd p h=>aZ ((k _ _ _ h).mono λe n h=>by
 obtain⟨i,rfl,c⟩:=cz h;obtain⟨j,rfl,b⟩:=cz c;dsimp only;rw[if_pos b.1];exact bA b.2))
abbrev cC(d:D)(S:Sto)(Q:Bool->Sto->Prop):Prop:=match d with
 |.bl b=>Q b S
 |.tup ds=>Q (!ds.isEmpty) S
 |.int i=>Q (i != 0) S
 |.non=>Q aS S
 |.str y=>Ok (mi (.str y) S) Q
 |.ref y=>Ok (mi (.ref y) S) Q
def Cf{d:D}{S:Sto}{Q:Bool->Sto->Prop}(h:cC d S Q):Ok (mi d S) Q:=by cases d <;> first |exact bA h |exact h
abbrev wB(x:WP D):WP Bool:=λf S Q=>x f S λd c=>wBl d λb=>Q b c
def s_b{w:WP D}{x:XE}(b:Sd w x):Sd (wB w) (xB x):=λ_ _ _ h=>by
 rw[O2];exact(b _ _ _ h).mono λd c h=>ny h
abbrev Ig(x y:WP Bool):WP Bool:=λd S Q=>x d S λb c=>wIf b (y d c Q) (Q aS c)
abbrev Pf(x y:WP Bool):WP Bool:=λd S Q=>x d S λb c=>wIf b (Q aN c) (y d c Q)
abbrev Ih(x:WP Bool):WP Bool:=λc S Q=>x c S λb d=>Q (!b) d
def K8{w v:WP Bool}{x y:XT}(c:Sd w x)(d:Sd v y):Sd (Ig w v) (Bh x y):=λ_ _ _ h=>aZ ((c _ _ _ h).mono λb f h=>by
 cases b with
 |true=>exact d _ _ _ h
 | false=>exact bA h)
def Pg{w v:WP Bool}{x y:XT}(c:Sd w x)(d:Sd v y):Sd (Pf w v) (J0 x y):=λ_ _ _ h=>aZ ((c _ _ _ h).mono λb f h=>by
 cases b with
 |false=>exact d _ _ _ h
 | true=>exact bA h)
def K9{w:WP Bool}{x:XT}(c:Sd w x):Sd (Ih w) (Bi x):=λ_ _ _ h=>aZ ((c _ _ _ h).mono λb d h=>bA h)
abbrev Ii(t:WP Bool)(c:WP (List D)):WP (List D):=λf S Q=>t f S λb d=>wIf b (c f d Q) (Q [] d)
def La{t:WP Bool}{c:WP (List D)}{x:XT}{y:XA}(f:Sd t x)(d:Sd c y):Sd (Ii t c) (Bb x y):=λ_ _ _ h=>aZ ((f _ _ _ h).mono λb j h=>by
 cases b with
 |true=>exact d _ _ _ h
 | false=>exact bA h)
abbrev Fx(f:Bool->List D->Option (List D))(d:List D)(S:Sto)(Q:List D->Sto->Prop):Prop:=∃E,f aS d=aw E/\Q E S
abbrev Fy(f:Bool->List D->Option (List D))(d:D)(S:Sto)(Q:List D->Sto->Prop):Prop:=∃r E,ao d S=aw r/\f r.1 r.2=aw E/\Q E S
abbrev vR(d:D)(S:Sto)(Q:List D->Sto->Prop):Prop:=Ok ((ao d S).map λr=>(r.2,S)) Q
def Ph{f:Bool->List D->Option (List D)}{w:WP (List D)}{x:XA}(c:Sd w x):Sd (λj S Q=>w j S λd b=>Fx f d b Q) (yV f x):=λ_ _ _ h=>aZ ((c _ _ _ h).mono λd b ⟨E,e,h⟩=>by rw[e];exact bA h)
def Pj{f:Bool->List D->Option (List D)}{w:WP D}{x:XE}(c:Sd w x):Sd (λj S Q=>w j S λd b=>Fy f d b Q) (yW f x):=λ_ _ _ h=>aZ ((c _ _ _ h).mono λd b ⟨r,k,E,e,h⟩=>by
 rw[E];dsimp only;rw[e];exact bA h)
abbrev wNo{α:Type}:WP α:=λ_ _ _=>False
def qW{b:Type}{x:Rho->Sto->Option (b × Sto)}:Sd wNo x:=λ_ _ _ h=>h.elim
abbrev aP(b:Bool)(x:WP (List D))(y:WP D)(c:Rho)(S:Sto)(KT:List D->Sto->Prop)(KV:D->Sto->Prop):Prop:=match b with
 |true=>x c S KT
 |false=>y c S KV
abbrev wOf{α:Type}(b:Bool)(x:WP (List D))(y:WP D)(gt:List D->Sto->(α->Sto->Prop)->Prop)(f:D->Sto->(α->Sto->Prop)->Prop):WP α:=λh S Q=>aP b x y h S (λj c=>gt j c Q) (λd c=>f d c Q)
def s_of{c:Type}{b:Bool}{w:WP (List D)}{v:WP D}{gt:List D->Sto->(c->Sto->Prop)->Prop}{j:D->Sto->(c->Sto->Prop)->Prop}{x y:Rho->Sto->Option (c × Sto)}(k:Sd (λh S Q=>w h S λp f=>gt p f Q) x)(n:Sd (λh S Q=>v h S λd f=>j d f Q) y):Sd (wOf b w v gt j) (if b=aN then x else y):=by
 cases b with
 |true=>exact k
 |false=>exact n
def Q1{b:Bool}{w:WP (List D)}{v u:WP D}{x:XA}{y z:XE}(q:Sd w x)(B:Sd u z)(p:Sd v y):Sd (λf S Q=>aP b w u f S (λn c=>v f c λi j=>cN i λk=>∃d,atI n k=aw d/\Q d j) (λd c=>v f c λi j=>Ok (ixS d i j) Q)) (if b=aN then uH x y else sd ixS z y):=λf S Q h=>by
 cases b with
 |true=>
  show Ok (uH x y f S) Q;rw[KU];exact(q _ _ _ h).mono λn c h=>(p _ _ _ h).mono λi j h=>cz h
 |false=>exact aZ ((B _ _ _ h).mono λn c h=>aZ (p _ _ _ h))
abbrev wO2(t:CE->WP D):Option CE->Option (WP D)
 |none=>aD
 |some e=>aw (t e)
abbrev Fz(t:CE->WP Bool):Option CE->WP (List D)->WP (List D)
 |some c,x=>Ii (t c) x
 |none,x=>x
abbrev Cg(x y:D)(S:Sto)(Q:D->Sto->Prop):Prop:=cN x λi=>cN y λj=>Q (.int (if j > i then j else i)) S
abbrev Ch(x y:D)(S:Sto)(Q:D->Sto->Prop):Prop:=cN x λi=>cN y λj=>Q (.int (if j < i then j else i)) S
abbrev w2(g:D->D->Sto->(D->Sto->Prop)->Prop):List D->Sto->(D->Sto->Prop)->Prop
 |[],_,_=>False
 |[_],_,_=>False
 |[x,y],S,Q=>g x y S Q
 |_::_::_::_,_,_=>False
def Ij{g:D->D->Sto->(D->Sto->Prop)->Prop}{f:D->D->Sto->Option (D × Sto)}(c:∀ {a b S Q},g a b S Q->Ok (f a b S) Q):∀ {d:List D} {S:Sto} {Q:D->Sto->Prop},w2 g d S Q->Ok (two f d S) Q
 |[],_,_,h=>h.elim
 |[_],_,_,h=>h.elim
 |[x,y],_,_,h=>c h
 |_::_::_::_,_,_,h=>h.elim
abbrev Ik:WP D:=λ_ S Q=>Q (.ref (Zd S)) (S++[.dic [] []])
abbrev wCf(i:CI->WP Nxt)(own:List Str)(t:CE->XT)(e:List Cl->XA):List Cl->WP (List D)
 |[]=>wNo
 |⟨tg,it,cond⟩::rest=>Ie own (i it) tg (cnd t cond (e rest)) LF
mutual
noncomputable def wE(C:Calls)(h:Nat->Nat):Nat->CE->WP D
 |0,_=>wNo
 |n+1,e=>match e with
  |.non=>wC .non
  |.bl b=>wC (.bl b)
  |.int i=>wC (.int i)
  |.str x=>wC (.str x)
  |.var i=>O3 i
  |.con _ v=>wC (.int v)
  |.tup es=>wSh es (wOn D.tup (wA C h n es))
  |.lst es=>jW (wSh es (wA C h n es))
  |.dic0=>Ik
  |.bin o a b=>Fs (vN o) (wE C h n a) (wE C h n b)
  |.neg a=>O9 (wE C h n a)
  |.cmp o a b=>Fs (wCm o) (wE C h n a) (wE C h n b)
  |.chn o p a b c=>K4 o p (wE C h n a) (wE C h n b) (wE C h n c)
  |.and a b=>O5 (wE C h n a) (wE C h n b)
  |.or a b=>wOr (wE C h n a) (wE C h n b)
  |.not a=>O7 (wE C h n a)
  |.ite c a b=>Pb (wT C h n c) (wE C h n a) (wE C h n b)
  |.ix a b=>λu S Q=>aP (ai a) (wTm C h n a) (wE C h n a) u S (λy q=>wE C h n b u q λi j=>cN i λk=>∃d,atI y k=aw d/\Q d j) (λd q=>wE C h n b u q λi j=>Ok (ixS d i j) Q)
  |.sl a lo hi=>wSl (wE C h n a) (wO (wO2 (wE C h n) lo)) (wO (wO2 (wE C h n) hi))
  |.call f es=>xq (C f) (h f) (wA C h n es)
  |.cal2 f g i es=>Ia (C f) (C g) (h f) (h g) (wE C h n i) (wA C h n es)
  |.inst t a=>wUn (wOk (hV t)) (wE C h n a)
  |.len a=>wOf (ai a) (wTm C h n a) (wE C h n a) (wOk (cb aS)) (wOk (aj cb))
  |.all a=>wOf (ai a) (wTm C h n a) (wE C h n a) (wOk (kN aS)) (wOk (aj kN))
  |.any a=>wOf (ai a) (wTm C h n a) (wE C h n a) (wOk (n6 aS)) (wOk (aj n6))
  |.tupOf a=>wOf (ai a) (wTm C h n a) (wE C h n a) (wOk (cL aS)) (wOk (aj cL))
  |.listOf a=>jW (wOf (ai a) (wTm C h n a) (wE C h n a) (λy S Q=>Q y S) vR)
  |.listR a=>jW (K6 (wE C h n a))
  |.srt a=>jW (wOf (ai a) (wTm C h n a) (wE C h n a) (Fx cD) (Fy cD))
  |.mxL a=>wOf (ai a) (wTm C h n a) (wE C h n a) (wOk (n9 aS)) (wOk (aj n9))
  |.mxD a c=>wOf (ai a) (wTm C h n a) (wE C h n a) (wOk (eB c aS)) (wOk (aj (eB c)))
  |.sm a=>wOf (ai a) (wTm C h n a) (wE C h n a) (wOk (oe aS)) (wOk (aj oe))
  |.rev a=>wUn (wOk uQ) (wE C h n a)
  |.mnN a=>wOf (ai a) (wTm C h n a) (wE C h n a) (wOk (oi aS)) (wOk (aj oi))
  |.intOf a=>wUn (wOk uZ) (wE C h n a)
  |.mx a b=>wUn (w2 Cg) (wA C h n [a,b])
  |.mn a b=>wUn (w2 Ch) (wA C h n [a,b])
  |.comp own elt cls=>jW (wCf (wI C h n) own (evT C h n) (gZ C h n elt) cls)
  |.app o a=>Fv fU sE (wE C h n o) (wA C h n [a])
  |.popAt o a=>Fv fU eU (wE C h n o) (wA C h n [a])
  |.cnt o a=>Fv (λd _=>isTup d) vf (wE C h n o) (wA C h n [a])
noncomputable def wA(C:Calls)(b:Nat->Nat):Nat->List CE->WP (List D)
 |0,_=>wNo
 |n+1,es=>match es with
  |[]=>Pd
  |e::es=>Ic (wE C b n e) (wA C b n es)
noncomputable def wTm(C:Calls)(b:Nat->Nat):Nat->CE->WP (List D)
 |0,_=>wNo
 |n+1,e=>match e with
  |.lst es=>wSh es (wA C b n es)
  |.listOf a=>wOf (ai a) (wTm C b n a) (wE C b n a) (λd S Q=>Q d S) vR
  |.listR a=>K6 (wE C b n a)
  |.srt a=>wOf (ai a) (wTm C b n a) (wE C b n a) (Fx cD) (Fy cD)
  |.comp own elt cls=>wCf (wI C b n) own (evT C b n) (gZ C b n elt) cls
  |_=>wNo
noncomputable def wI(C:Calls)(c:Nat->Nat):Nat->CI->WP Nxt
 |0,_=>wNo
 |n+1,it=>match it with
  |.val a=>wOf (ai a) (wTm C c n a) (wE C c n a) (λd S Q=>Q (nxL d) S) Cc
  |.r1 a=>wR1 (wE C c n a)
  |.dn a=>wDn (wE C c n a)
  |.r2 a b=>wR2 (wE C c n a) (wE C c n b)
  |.en a=>wOf (ai a) (wTm C c n a) (wE C c n a) (λd S Q=>Q (vg d) S) Cd
noncomputable def wT(C:Calls)(d:Nat->Nat):Nat->CE->WP Bool
 |0,_=>wNo
 |n+1,e=>match e with
  |.cmp o a b=>wB (Fs (wCm o) (wE C d n a) (wE C d n b))
  |.chn o p a b c=>wB (K4 o p (wE C d n a) (wE C d n b) (wE C d n c))
  |.and a b=>Ig (wT C d n a) (wT C d n b)
  |.or a b=>Pf (wT C d n a) (wT C d n b)
  |.not a=>Ih (wT C d n a)
  |.ite _ _ _=>wNo
  |e=>wUn cC (wE C d n e)
end
abbrev wCl(C:Calls)(b:Nat->Nat)(n:Nat)(E:CE):List Cl->WP (List D)
 |[]=>wOn (λd=>[d]) (wE C b n E)
 |⟨tg,it,cond⟩::rest=>Cb (wI C b n it) tg (cnd (evT C b n) cond (gZ C b n E rest)) LF
def qX{C:Calls}{f:Nat->Nat}:∀ {n:Nat} {E:List CE} {j:Rho} {S c:Sto} {d:List D},evA C f n E j S=aw (d,c)->d.length=E.length
 |0,_,_,_,_,_,h=>by simp only[evA,xNo] at h;cases h
 |n+1,[],_,_,_,_,h=>by simp only[evA,Ed] at h;cases h;rfl
 |n+1,e::E,_,_,_,_,h=>by
  simp only[evA,wJ] at h;obtain⟨a,q,p,h⟩:=ae h;obtain⟨u,k,b,h⟩:=ae h;cases h;rw[Zo,Zo,qX b]
structure SndW(C:Calls)(ar:Nat->Nat)(n:Nat):Prop where
 e:∀ {e:CE},Sd (wE C ar n e) (evE C ar n e)
 a:∀ {es:List CE},Sd (wA C ar n es) (evA C ar n es)
 m:∀ {e:CE},Sd (wTm C ar n e) (ce C ar n e)
 i:∀ {i:CI},Sd (wI C ar n i) (evI C ar n i)
 t:∀ {e:CE},Sd (wT C ar n e) (evT C ar n e)
section
variable {C:Calls} {ar:Nat->Nat} {n:Nat}
def Pk(h:SndW C ar n){E:List CE}:Sd (wSh E (wOn D.tup (wA C ar n E))) (kK kL (evA C ar n E)):=λf S Q w=>by
 obtain⟨le,w⟩:=jl w;obtain⟨d,c,b,q⟩:=h.a _ _ _ w;refine aZ ⟨d,c,b,?_⟩;have l:=qX b;show Ok (kL d c) Q;rw[Fj];exact⟨by lia,q⟩
def Ci(h:SndW C ar n){E:List CE}:Sd (wSh E (wA C ar n E)) (oJ (evA C ar n E)):=λf S Q w=>by
 obtain⟨le,w⟩:=jl w;obtain⟨d,c,b,q⟩:=h.a _ _ _ w;rw[Fi];have l:=qX b;exact⟨d,c,b,by lia,q⟩
def Il(h:SndW C ar n){o:Option CE}:Sd (wO (wO2 (wE C ar n) o)) (opt (evE C ar n) o):=by
 cases o with
 |none=>exact QS
 |some e=>exact QT h.e
def FA{a b:D}{S:Sto}{Q:D->Sto->Prop}(h:Cg a b S Q):Ok (AL a b S) Q:=by
 obtain⟨i,rfl,d⟩:=cz h;obtain⟨j,rfl,c⟩:=cz d;exact bA c
def FB{a b:D}{S:Sto}{Q:D->Sto->Prop}(h:Ch a b S Q):Ok (AM a b S) Q:=by
 obtain⟨i,rfl,d⟩:=cz h;obtain⟨j,rfl,c⟩:=cz d;exact bA c
end
section
variable {C:Calls} {ar:Nat->Nat} {n:Nat}
def Pl(h:SndW C ar n){o:Option CE}{w:WP (List D)}{x:XA}(b:Sd w x):Sd (Fz (wT C ar n) o w) (cnd (evT C ar n) o x):=by
 cases o with
 |none=>exact b
 |some c=>exact La h.t b
def Cj{b c:Type}{f:b->Sto->Option (c × Sto)}{a:b}{S:Sto}{Q:c->Sto->Prop}(h:wOk f a S Q):Ok (f a S) Q:=h
def s_q(h:SndW C ar n){f:Bool->List D->Sto->Option (D × Sto)}{a:CE}:Sd (wOf (ai a) (wTm C ar n a) (wE C ar n a) (wOk (f aS)) (wOk (aj f))) (if ai a=aN then ma f (ce C ar n a) else md f (evE C ar n a)):=
 s_of (Ft (f:=f aS) h.m Cj) (Ft (f:=aj f) h.e Cj)
def Im(h:SndW C ar n){a:CE}:Sd (wOf (ai a) (wTm C ar n a) (wE C ar n a) (λd S Q=>Q d S) vR) (if ai a=aN then ce C ar n a else mE (evE C ar n a)):=s_of h.m (λ_ _ _ w=>aZ (h.e _ _ _ w))
def Io(h:SndW C ar n){a:CE}:Sd (wOf (ai a) (wTm C ar n a) (wE C ar n a) (Fx cD) (Fy cD)) (if ai a=aN then yV cD (ce C ar n a) else yW cD (evE C ar n a)):=s_of (Ph h.m) (Pj h.e)
def s_u{g:D->Sto->Option (D × Sto)}{w:WP D}{x:XE}(h:Sd w x):Sd (wUn (wOk g) w) (xUn g x):=Ft (f:=g) h Cj
def Q2{w:WP (List D)}{x:XA}(b:Sd w x):Sd (wUn (w2 Cg) w) (kK (two AL) x):=λ_ _ _ h=>aZ ((b _ _ _ h).mono λ_ _ h=>Ij (λz=>FA z) h)
def Q4{w:WP (List D)}{x:XA}(b:Sd w x):Sd (wUn (w2 Ch) w) (kK (two AM) x):=λ_ _ _ h=>aZ ((b _ _ _ h).mono λ_ _ h=>Ij (λz=>FB z) h)
def Lb:Sd Ik Br:=λ_ _ _ h=>bA h
def Pn{w:WP D}{x:XE}(h:Sd w x):Sd (wUn cC w) (Eo x):=Ft (f:=mi) h Cf
def tF:∀n,SndW C ar n
 |0=>⟨qW,qW,qW,qW,qW⟩
 |n+1=>by
  have h:=tF n;refine⟨λ{e}=>?_,λ{E}=>?_,λ{e}=>?_,λ{i}=>?_,λ{e}=>?_⟩
  ·cases e with
   |non=>exact s_c
   |bl b=>exact s_c
   |int b=>exact s_c
   |str b=>exact s_c
   |var b=>exact O4
   |con b v=>exact s_c
   |tup E=>exact Pk h
   |lst E=>exact gU (Ci h)
   |dic0=>exact Lb
   |bin o a b=>exact B7 h.e h.e Fu
   |neg a=>exact Pa h.e
   |cmp o a b=>exact B7 h.e h.e qT
   |chn o p a b c=>exact H8 h.e h.e h.e
   |and a b=>exact O6 h.e h.e
   |or a b=>exact QR h.e h.e
   |not a=>exact O8 h.e
   |ite c a b=>exact Pc h.t h.e h.e
   |ix a b=>exact Q1 h.m h.e h.e
   |sl a lo hi=>exact QU h.e (Il h) (Il h)
   |call f E=>exact vP h.a
   |cal2 f g i E=>exact K5 h.e h.a
   |inst t a=>exact s_u h.e
   |len a=>exact s_q h
   |all a=>exact s_q h
   |any a=>exact s_q h
   |tupOf a=>exact s_q h
   |listOf a=>exact gU (Im h)
   |listR a=>exact gU (Ib h.e)
   |srt a=>exact gU (Io h)
   |mxL a=>exact s_q h
   |mxD a c=>exact s_q h
   |rev a=>exact s_u h.e
   |mnN a=>exact s_q h
   |sm a=>exact s_q h
   |intOf a=>exact s_u h.e
   |mx a b=>exact Q2 h.a
   |mn a b=>exact Q4 h.a
   |comp own k d=>cases d with
    |nil=>exact gU qW
    |cons c j=>cases c with |mk T I cond=>exact gU (Ca h.i)
   |app o a=>exact B9 h.e h.a
   |popAt o a=>exact B9 h.e h.a
   |cnt o a=>exact B9 h.e h.a
  ·cases E with
   |nil=>exact Pe
   |cons e E=>exact K7 h.e h.a
  ·cases e with
   |lst E=>exact Ci h
   |listOf a=>exact Im h
   |listR a=>exact Ib h.e
   |srt a=>exact Io h
   |comp own k d=>cases d with
    |nil=>exact qW
    |cons c j=>cases c with |mk T I cond=>exact Ca h.i
   |_=>exact qW
  ·cases i with
   |val a=>exact s_of (Ce h.m) (QW h.e)
   |r1 a=>exact QY h.e
   |dn a=>exact QZ h.e
   |r2 a b=>exact Q0 h.e h.e
   |en a=>exact s_of (Ce h.m) (QX h.e)
  ·cases e with
   |cmp o a b=>exact s_b (B7 h.e h.e qT)
   |chn o p a b c=>exact s_b (H8 h.e h.e h.e)
   |and a b=>exact K8 h.t h.t
   |or a b=>exact Pg h.t h.t
   |not a=>exact K9 h.t
   |ite a b c=>exact qW
   |_=>exact Pn h.e
def Q5{E:CE}{b:List Cl}:Sd (wCl C ar n E b) (gZ C ar (n+1) E b):=by
 cases b with
 |nil=>exact Ce (tF n).e
 |cons c d=>cases c with |mk T I cond=>exact Fw (tF n).i
def Lc{E:CE}{c:List Cl}{o:Option CE}{b:Rho}{S:Sto}{Q:List D->Sto->Prop}(h:Fz (wT C ar (n+1)) o (wCl C ar n E c) b S Q):Ok (cnd (evT C ar (n+1)) o (gZ C ar (n+1) E c) b S) Q:=Pl (tF (n+1)) Q5 _ _ _ h
abbrev wNm:Nat->D->Rho->(Rho->Prop)->Prop
 |_,_,[],_=>False
 |0,d,_::ρ,Q=>Q (aw d::ρ)
 |i+1,d,o::ρ,Q=>wNm i d ρ λb=>Q (o::b)
def qY:∀ {i:Nat} {d:D} {ρ:Rho} {Q:Rho->Prop},wNm i d ρ Q->i < ρ.length/\Q (ρ.set i (aw d))
 |i,_,[],_,h=>by cases i <;> exact h.elim
 |0,d,_::ρ,Q,h=>⟨by simp,h⟩
 |i+1,d,o::ρ,Q,h=>by
  have:=qY (ρ:=ρ) (Q:=λb=>Q (o::b)) h;exact⟨by rw[Zo];lia,this.2⟩
abbrev wBs:List Tg->List D->Rho->(Rho->Prop)->Prop
 |[],[],ρ,Q=>Q ρ
 |[],_::_,_,_=>False
 |.name _::_,[],_,_=>False
 |.tup _::_,[],_,_=>False
 |.name i::ts,d::ds,ρ,Q=>wNm i d ρ λb=>wBs ts ds b Q
 |.tup us::ts,d::ds,ρ,Q=>∃b,ax (.tup us) d ρ=aw b/\wBs ts ds b Q
abbrev wTp(T:List Tg)(d:D)(b:Rho)(Q:Rho->Prop):Prop:=match d with
 |.tup ds=>wBs T ds b Q
 |.non=>False |.bl _=>False |.str _=>False |.int _=>False |.ref _=>False
abbrev wBd:Tg->D->Rho->(Rho->Prop)->Prop
 |.name i,d,ρ,Q=>wNm i d ρ Q
 |.tup ts,d,ρ,Q=>wTp ts d ρ Q
def Ck{i:Nat}{d:D}{b:Rho}{Q:Rho->Prop}(h:wNm i d b Q):∃ρ1,ax (.name i) d b=aw ρ1/\Q ρ1:=⟨_,by rw[Fn,if_pos (qY h).1],(qY h).2⟩
def vS:∀ {T:List Tg} {j:List D} {f:Rho} {Q:Rho->Prop},wBs T j f Q->∃b,aM T j f=aw b/\Q b
 |[],[],f,Q,h=>⟨f,qQ,h⟩
 |[],_::_,_,_,h=>h.elim
 |.name _::_,[],_,_,h=>h.elim
 |.tup _::_,[],_,_,h=>h.elim
 |.name i::T,d::j,f,Q,h=>by
  obtain⟨b,e,q⟩:=Ck h;obtain⟨c,E,q⟩:=vS q;exact⟨c,by rw[aM,e];exact E,q⟩
 |.tup us::T,d::j,f,Q,h=>by
  obtain⟨b,e,q⟩:=h;obtain⟨c,E,q⟩:=vS q;exact⟨c,by rw[aM,e];exact E,q⟩
def Lg{t:Tg}{d:D}{b:Rho}{Q:Rho->Prop}(h:wBd t d b Q):∃ρ1,ax t d b=aw ρ1/\Q ρ1:=by
 cases t with
 |name i=>exact Ck h
 |tup T=>cases d with
  |tup c=>rw[vK];exact vS h
  |_=>exact h.elim
@[inline]abbrev WS:=Rho->Sto->(Fl->Rho->Sto->Prop)->Prop
abbrev rW(y:WS)(b:Rho)(S:Sto)(Q:Fl->Rho->Sto->Prop):Prop:=y b S Q
abbrev wNx(y:WS)(Q:Fl->Rho->Sto->Prop)(f:Fl)(b:Rho)(S:Sto):Prop:=match f with
 |.nx=>rW y b S Q
 |.rt d=>Q (.rt d) b S
 |.bk=>Q .bk b S
 |.ct=>Q .ct b S
mutual
noncomputable def wS(C:Calls)(ar:Nat->Nat):Nat->CS->WS
 |0,_=>λ_ _ _=>False
 |n+1,s=>match s with
  |.asg t e=>λf S Q=>wE C ar n e f S λd h=>wBd t d f λj=>Q .nx j h
  |.setI v o i=>λf S Q=>wE C ar n v f S λa h=>wE C ar n o f h λb p=>wE C ar n i f p λc q=>∃k,jI b c a q=aw k/\Q .nx f k
  |.ex e=>λf S Q=>wE C ar n e f S λ_ h=>Q .nx f h
  |.ret e=>λf S Q=>wE C ar n e f S λd h=>Q (.rt d) f h
  |.ifs c a b=>λf S Q=>wT C ar n c f S λt h=>wIf t (rW (wSs C ar n a) f h Q) (rW (wSs C ar n b) f h Q)
  |.for_ t it b=>λf S Q=>wI C ar n it f S λnx h=>OkS (eV nx t (g6 C ar n b) LF 0 f h) Q
  |.cnt=>λf S Q=>Q .ct f S
  |.never=>λ_ _ _=>False
noncomputable def wSs(C:Calls)(ar:Nat->Nat):Nat->List CS->WS
 |0,_=>λ_ _ _=>False
 |n+1,ss=>match ss with
  |[]=>λb S Q=>Q .nx b S
  |s::ss=>λb S Q=>wS C ar n s b S (wNx (wSs C ar n ss) Q)
end
structure SdS(C:Calls)(ar:Nat->Nat)(n:Nat):Prop where
 s:∀ {s:CS} {ρ S Q},wS C ar n s ρ S Q->OkS (evS C ar n s ρ S) Q
 ss:∀ {ss:List CS} {ρ S Q},wSs C ar n ss ρ S Q->OkS (g6 C ar n ss ρ S) Q
def Cm:∀n,SdS C ar n
 |0=>⟨λh=>by simp only[wS] at h,λh=>by simp only[wSs] at h⟩
 |n+1=>by
  have h:=Cm n;have g:SndW C ar n:=tF n;refine⟨λ{s ρ S Q} w=>?_,λ{ss ρ S Q} w=>?_⟩
  ·cases s with
   |asg t e=>simp only[evS,Fd];simp only[wS] at w;exact(g.e _ _ _ w).mono λd j w=>Lg w
   |setI v o i=>simp only[evS,B3];simp only[wS] at w;exact(g.e _ _ _ w).mono λa j w=>(g.e _ _ _ w).mono λb p w=>g.e _ _ _ w
   |ex e=>simp only[evS,B2];simp only[wS] at w;exact g.e _ _ _ w
   |ret e=>simp only[evS,Fe];simp only[wS] at w;exact g.e _ _ _ w
   |ifs c a b=>
    simp only[evS,Ky];simp only[wS] at w;refine(g.t _ _ _ w).mono λt j w=>?_;cases t with
    |true=>exact h.ss w
    |false=>exact h.ss w
   |for_ t I b=>simp only[evS,Ff];simp only[wS] at w;exact g.i _ _ _ w
   |cnt=>simp only[wS] at w;simp only[evS];exact⟨_,_,_,rfl,w⟩
   |never=>simp only[wS] at w
  ·cases ss with
   |nil=>simp only[wSs] at w;simp only[g6];exact⟨_,_,_,rfl,w⟩
   |cons s ss=>
    simp only[wSs] at w;simp only[g6,Fc];refine(h.s w).mono λf k j w=>?_;cases f with
    |nx=>exact h.ss w
    |_=>exact w
def Lh{ss:List CS}{b:Rho}{S:Sto}{Q:Fl->Rho->Sto->Prop}(h:rW (wSs C ar n ss) b S Q):OkS (g6 C ar n ss b S) Q:=(Cm n).ss h
def Cn{s:CS}{ss:List CS}{b:Rho}{S:Sto}{Q:Fl->Rho->Sto->Prop}(h:wS C ar n s b S (wNx (wSs C ar n ss) Q)):rW (wSs C ar (n+1) (s::ss)) b S Q:=h
def FC{b:Rho}{S:Sto}{Q:Fl->Rho->Sto->Prop}(h:Q .nx b S):rW (wSs C ar (n+1) []) b S Q:=h
end
section
variable {C:Calls} {ar:Nat->Nat} {A B:Prop} {S S1:Sto} {Q:D->Sto->Prop} {Ql:List D->Sto->Prop} {Qn:Nxt->Sto->Prop} {Qb:Bool->Prop} {Qi:Int->Prop} {Qd:D->Prop} {Qr:Rho->Prop} {Qt:Bool->Sto->Prop} {Qs:Fl->Rho->Sto->Prop} {t:Bool} {d x y:D} {i j:Int} {n m f:Nat} {s:Str} {o:BOp} {c p:COp} {ds xs ys:List D} {l h:Option Int} {tg:Tg} {ts:List Tg} {ρ ρ2:Rho} {es:List CE} {a b e:CE} {oa ob cd:Option CE} {own:List Str} {it:CI} {rest:List Cl} {ty:Ty} {w wl:WP (List D)} {wv:WP D} {sa sb:List CS} {ws:WS} {od:Option D} {g:D->D->Sto->(D->Sto->Prop)->Prop}
def Li:wE C ar (n+1) (.non) ρ S Q=(Q .non S):=rfl
def Po:wE C ar (n+1) (.bl t) ρ S Q=(Q (.bl t) S):=rfl
def Lj:wE C ar (n+1) (.int i) ρ S Q=(Q (.int i) S):=rfl
def Lk:wE C ar (n+1) (.str s) ρ S Q=(Q (.str s) S):=rfl
def Ll:wE C ar (n+1) (.con m i) ρ S Q=(Q (.int i) S):=rfl
def Lm:wE C ar (n+1) (.var m) ρ S Q=(vM ρ m λd=>Q d S):=rfl
def Ln:wE C ar (n+1) (.tup es) ρ S Q=(ft 60 es (wA C ar n es ρ S λds S1=>Q (.tup ds) S1)):=rfl
def Lp:wE C ar (n+1) (.lst es) ρ S Q=(ft 60 es (wA C ar n es ρ S λds S1=>Q (.ref S1.length) (S1++[.lst ds]))):=rfl
def FD:wE C ar (n+1) (.dic0) ρ S Q=(Q (.ref (Zd S)) (S++[.dic [] []])):=rfl
def Lq:wE C ar (n+1) (.bin o a b) ρ S Q=(wE C ar n a ρ S λx S1=>wE C ar n b ρ S1 λy k=>vN o x y k Q):=rfl
def Lr:wE C ar (n+1) (.neg a) ρ S Q=(wE C ar n a ρ S λd S1=>cN d λi=>Q (.int (-i)) S1):=rfl
def Ls:wE C ar (n+1) (.cmp c a b) ρ S Q=(wE C ar n a ρ S λx S1=>wE C ar n b ρ S1 λy k=>wCm c x y k Q):=rfl
def Lu:wE C ar (n+1) (.chn c p a b e) ρ S Q=(wE C ar n a ρ S λx S1=>wE C ar n b ρ S1 λy q=>wCm c x y q λr k=>wBl r λt=>wIf t (wE C ar n e ρ k λz u=>wCm p y z u Q) (Q (.bl aS) k)):=rfl
def Lv:wE C ar (n+1) (.and a b) ρ S Q=(wE C ar n a ρ S λd S1=>wBl d λt=>wIf t (wE C ar n b ρ S1 Q) (Q (.bl aS) S1)):=rfl
def Pp:wE C ar (n+1) (.or a b) ρ S Q=(wE C ar n a ρ S λd S1=>wBl d λt=>wIf t (Q (.bl aN) S1) (wE C ar n b ρ S1 Q)):=rfl
def Lx:wE C ar (n+1) (.not a) ρ S Q=(wE C ar n a ρ S λd S1=>wBl d λt=>Q (.bl (!t)) S1):=rfl
def Ly:wE C ar (n+1) (.ite e a b) ρ S Q=(wT C ar n e ρ S λt S1=>wIf t (wE C ar n a ρ S1 Q) (wE C ar n b ρ S1 Q)):=rfl
def Pq:wE C ar (n+1) (.ix a b) ρ S Q=(aP (ai a) (wTm C ar n a) (wE C ar n a) ρ S (λds S1=>wE C ar n b ρ S1 λi q=>cN i λk=>∃d,atI ds k=aw d/\Q d q) (λd S1=>wE C ar n b ρ S1 λi q=>Ok (ixS d i q) Q)):=rfl
def FE:wE C ar (n+1) (.sl a aD aD) ρ S Q=(wE C ar n a ρ S λd S1=>vO aD aD d S1 Q):=rfl
def FF:wE C ar (n+1) (.sl a aD (aw b)) ρ S Q=(wE C ar n a ρ S λd S1=>wE C ar n b ρ S1 λy k=>cN y λj=>vO aD (aw j) d k Q):=rfl
def FG:wE C ar (n+1) (.sl a (aw b) aD) ρ S Q=(wE C ar n a ρ S λd S1=>wE C ar n b ρ S1 λy k=>cN y λj=>vO (aw j) aD d k Q):=rfl
def FH:wE C ar (n+1) (.sl a (aw b) (aw e)) ρ S Q=(wE C ar n a ρ S λd S1=>wE C ar n b ρ S1 λy q=>cN y λj=>wE C ar n e ρ q λz u=>cN z λk=>vO (aw j) (aw k) d u Q):=rfl
def FI{q:Nat}:wE C ar (n+1) (.cal2 f q a es) ρ S Q=(wE C ar n a ρ S λd S1=>wC2 d (wA C ar n es ρ S1 λds k=>ds.length=ar f/\Ok (C f ds k) Q) (wA C ar n es ρ S1 λds k=>ds.length=ar q/\Ok (C q ds k) Q)):=rfl
def FJ:wE C ar (n+1) (.call f es) ρ S Q=(wA C ar n es ρ S λds S1=>ds.length=ar f/\Ok (C f ds S1) Q):=rfl
def FK:wE C ar (n+1) (.inst ty a) ρ S Q=(wE C ar n a ρ S λd S1=>Ok (hV ty d S1) Q):=rfl
def Lz:wE C ar (n+1) (.len a) ρ S Q=(aP (ai a) (wTm C ar n a) (wE C ar n a) ρ S (λds S1=>Ok (cb aS ds S1) Q) (λd S1=>Ok (aj cb d S1) Q)):=rfl
def LA:wE C ar (n+1) (.all a) ρ S Q=(aP (ai a) (wTm C ar n a) (wE C ar n a) ρ S (λds S1=>Ok (kN aS ds S1) Q) (λd S1=>Ok (aj kN d S1) Q)):=rfl
def LB:wE C ar (n+1) (.any a) ρ S Q=(aP (ai a) (wTm C ar n a) (wE C ar n a) ρ S (λds S1=>Ok (n6 aS ds S1) Q) (λd S1=>Ok (aj n6 d S1) Q)):=rfl
def Co:wE C ar (n+1) (.tupOf a) ρ S Q=(aP (ai a) (wTm C ar n a) (wE C ar n a) ρ S (λds S1=>Ok (cL aS ds S1) Q) (λd S1=>Ok (aj cL d S1) Q)):=rfl
def LC:wE C ar (n+1) (.mxL a) ρ S Q=(aP (ai a) (wTm C ar n a) (wE C ar n a) ρ S (λds S1=>Ok (n9 aS ds S1) Q) (λd S1=>Ok (aj n9 d S1) Q)):=rfl
def LG:wE C ar (n+1) (.mxD a i) ρ S Q=(aP (ai a) (wTm C ar n a) (wE C ar n a) ρ S (λds S1=>Ok (eB i aS ds S1) Q) (λd S1=>Ok (aj (eB i) d S1) Q)):=rfl
def Pr:wE C ar (n+1) (.sm a) ρ S Q=(aP (ai a) (wTm C ar n a) (wE C ar n a) ρ S (λds S1=>Ok (oe aS ds S1) Q) (λd S1=>Ok (aj oe d S1) Q)):=rfl
def y8:wE C ar (n+1) (.listOf a) ρ S Q=(aP (ai a) (wTm C ar n a) (wE C ar n a) ρ S (λds S1=>Q (.ref S1.length) (S1++[.lst ds])) (λd S1=>Ok ((ao d S1).map λr=>(r.2,S1)) λds S1=>Q (.ref S1.length) (S1++[.lst ds]))):=rfl
def Cp:wE C ar (n+1) (.listR a) ρ S Q=(wE C ar n a ρ S λd S1=>∃i:Nat,d = .int i/\i<=1000/\Q (.ref S1.length) (S1++[.lst ((Zk i).map λj=>.int (Int.ofNat j))])):=rfl
def LH:wE C ar (n+1) (.srt a) ρ S Q=(aP (ai a) (wTm C ar n a) (wE C ar n a) ρ S (λds S1=>∃es,cD aS ds=aw es/\Q (.ref S1.length) (S1++[.lst es])) (λd S1=>∃r es,ao d S1=aw r/\cD r.1 r.2=aw es/\Q (.ref S1.length) (S1++[.lst es]))):=rfl
def LI:wE C ar (n+1) (.rev a) ρ S Q=(wE C ar n a ρ S λd S1=>Ok (uQ d S1) Q):=rfl
def LJ:wE C ar (n+1) (.mnN a) ρ S Q=(aP (ai a) (wTm C ar n a) (wE C ar n a) ρ S (λds S1=>Ok (oi aS ds S1) Q) (λd S1=>Ok (aj oi d S1) Q)):=rfl
def Cq:wE C ar (n+1) (.intOf a) ρ S Q=(wE C ar n a ρ S λd S1=>Ok (uZ d S1) Q):=rfl
def Ps:wE C ar (n+1) (.mx a b) ρ S Q=(wA C ar n [a,b] ρ S λds S1=>w2 Cg ds S1 Q):=rfl
def Pt:wE C ar (n+1) (.mn a b) ρ S Q=(wA C ar n [a,b] ρ S λds S1=>w2 Ch ds S1 Q):=rfl
def FL:wE C ar (n+1) (.comp own a (⟨tg,it,cd⟩::rest)) ρ S Q=(wI C ar n it ρ S λnx S1=>tB own [] λr=>tD ρ r λk=>wFt tg k (Ok (bu nx tg (cnd (evT C ar n) cd (gZ C ar n a rest)) k LF 0 S1) λes q=>es.length<=100000/\Q (.ref q.length) (q++[.lst es]))):=rfl
def LK:wE C ar (n+1) (.app a b) ρ S Q=(wE C ar n a ρ S λd S1=>fU d S1=aN/\wA C ar n [b] ρ S1 λq k=>Ok (sE d q k) Q):=rfl
def Cr:wE C ar (n+1) (.popAt a b) ρ S Q=(wE C ar n a ρ S λd S1=>fU d S1=aN/\wA C ar n [b] ρ S1 λq k=>Ok (eU d q k) Q):=rfl
def LL:wE C ar (n+1) (.cnt a b) ρ S Q=(wE C ar n a ρ S λd S1=>isTup d=aN/\wA C ar n [b] ρ S1 λq k=>Ok (vf d q k) Q):=rfl
def Q6:wA C ar (n+1) [] ρ S Ql=Ql [] S:=rfl
def Q7:wA C ar (n+1) (a::es) ρ S Ql=(wE C ar n a ρ S λd S1=>wA C ar n es ρ S1 λds k=>Ql (d::ds) k):=rfl
def LM:wTm C ar (n+1) (.lst es) ρ S Ql=ft 60 es (wA C ar n es ρ S Ql):=rfl
def y9:wTm C ar (n+1) (.listOf a) ρ S Ql=(aP (ai a) (wTm C ar n a) (wE C ar n a) ρ S (λds S1=>Ql ds S1) (λd S1=>Ok ((ao d S1).map λr=>(r.2,S1)) Ql)):=rfl
def Cs:wTm C ar (n+1) (.listR a) ρ S Ql=(wE C ar n a ρ S λd S1=>∃i:Nat,d = .int i/\i<=1000/\Ql ((Zk i).map λj=>.int (Int.ofNat j)) S1):=rfl
def LN:wTm C ar (n+1) (.srt a) ρ S Ql=(aP (ai a) (wTm C ar n a) (wE C ar n a) ρ S (λds S1=>∃es,cD aS ds=aw es/\Ql es S1) (λd S1=>∃r es,ao d S1=aw r/\cD r.1 r.2=aw es/\Ql es S1)):=rfl
def FM:wTm C ar (n+1) (.comp own a (⟨tg,it,cd⟩::rest)) ρ S Ql=(wI C ar n it ρ S λnx S1=>tB own [] λr=>tD ρ r λk=>wFt tg k (Ok (bu nx tg (cnd (evT C ar n) cd (gZ C ar n a rest)) k LF 0 S1) λes q=>es.length<=100000/\Ql es q)):=rfl
def LP:wI C ar (n+1) (.val a) ρ S Qn=(aP (ai a) (wTm C ar n a) (wE C ar n a) ρ S (λds S1=>Qn (nxL ds) S1) (λd S1=>Cc d S1 Qn)):=rfl
def Pu:wI C ar (n+1) (.en a) ρ S Qn=(aP (ai a) (wTm C ar n a) (wE C ar n a) ρ S (λds S1=>Qn (vg ds) S1) (λd S1=>Cd d S1 Qn)):=rfl
def Pv:wI C ar (n+1) (.r1 a) ρ S Qn=(wE C ar n a ρ S λd S1=>cN d λj=>lim j=aN/\Qn (nxR 0 j.toNat) S1):=rfl
def Pw:wI C ar (n+1) (.dn a) ρ S Qn=(wE C ar n a ρ S λd S1=>cN d λj=>lim j=aN/\Qn (nxD j (j+1).toNat) S1):=rfl
def Px:wI C ar (n+1) (.r2 a b) ρ S Qn=(wE C ar n a ρ S λd S1=>wE C ar n b ρ S1 λe k=>cN d λi=>cN e λj=>(lim i=aN/\lim j=aN)/\Qn (nxR i (j - i).toNat) k):=rfl
def LQ:wT C ar (n+1) (.cmp c a b) ρ S Qt=(wE C ar n a ρ S λx S1=>wE C ar n b ρ S1 λy q=>wCm c x y q λd k=>wBl d λt=>Qt t k):=rfl
def LR:wT C ar (n+1) (.chn c p a b e) ρ S Qt=(wE C ar n a ρ S λx S1=>wE C ar n b ρ S1 λy q=>wCm c x y q λr k=>wBl r λt=>wIf t (wE C ar n e ρ k λz u=>wCm p y z u λd v=>wBl d λt=>Qt t v) (wBl (.bl aS) λt=>Qt t k)):=rfl
def LS:wT C ar (n+1) (.and a b) ρ S Qt=(wT C ar n a ρ S λt S1=>wIf t (wT C ar n b ρ S1 Qt) (Qt aS S1)):=rfl
def Py:wT C ar (n+1) (.or a b) ρ S Qt=(wT C ar n a ρ S λt S1=>wIf t (Qt aN S1) (wT C ar n b ρ S1 Qt)):=rfl
def LU:wT C ar (n+1) (.not a) ρ S Qt=(wT C ar n a ρ S λt S1=>Qt (!t) S1):=rfl
def Pz:wT C ar (n+1) (.bl t) ρ S Qt=(wE C ar n (.bl t) ρ S λd S1=>cC d S1 Qt):=rfl
def LV:wT C ar (n+1) (.var m) ρ S Qt=(wE C ar n (.var m) ρ S λd S1=>cC d S1 Qt):=rfl
def FN:wT C ar (n+1) (.call f es) ρ S Qt=(wE C ar n (.call f es) ρ S λd S1=>cC d S1 Qt):=rfl
def FO:wT C ar (n+1) (.inst ty a) ρ S Qt=(wE C ar n (.inst ty a) ρ S λd S1=>cC d S1 Qt):=rfl
def LW:wT C ar (n+1) (.all a) ρ S Qt=(wE C ar n (.all a) ρ S λd S1=>cC d S1 Qt):=rfl
def LX:wT C ar (n+1) (.any a) ρ S Qt=(wE C ar n (.any a) ρ S λd S1=>cC d S1 Qt):=rfl
def LY:wT C ar (n+1) (.len a) ρ S Qt=(wE C ar n (.len a) ρ S λd S1=>cC d S1 Qt):=rfl
def PB:wT C ar (n+1) (.ix a b) ρ S Qt=(wE C ar n (.ix a b) ρ S λd S1=>cC d S1 Qt):=rfl
def LZ:wT C ar (n+1) (.lst es) ρ S Qt=(wE C ar n (.lst es) ρ S λd S1=>cC d S1 Qt):=rfl
def L0:wT C ar (n+1) (.tup es) ρ S Qt=(wE C ar n (.tup es) ρ S λd S1=>cC d S1 Qt):=rfl
def Q8:wCl C ar n a [] ρ S Ql=(wE C ar n a ρ S λd S1=>Ql [d] S1):=rfl
def Q9:wCl C ar n a (⟨tg,it,cd⟩::rest) ρ S Ql=(wFt tg ρ (wI C ar n it ρ S λnx S1=>Ok (bu nx tg (cnd (evT C ar n) cd (gZ C ar n a rest)) ρ LF 0 S1) Ql)):=rfl
def Ra:Fz (wT C ar n) aD w ρ S Ql=w ρ S Ql:=rfl
def Rb:Fz (wT C ar n) (aw a) w ρ S Ql=(wT C ar n a ρ S λt S1=>wIf t (w ρ S1 Ql) (Ql [] S1)):=rfl
def L1:wS C ar (n+1) (.asg tg a) ρ S Qs=(wE C ar n a ρ S λd S1=>wBd tg d ρ λk=>Qs .nx k S1):=rfl
def FP:wS C ar (n+1) (.setI a b e) ρ S Qs=(wE C ar n a ρ S λx S1=>wE C ar n b ρ S1 λy q=>wE C ar n e ρ q λz u=>∃k,jI y z x u=aw k/\Qs .nx ρ k):=rfl
def PC:wS C ar (n+1) (.ex a) ρ S Qs=(wE C ar n a ρ S λ_ S1=>Qs .nx ρ S1):=rfl
def L3:wS C ar (n+1) (.ret a) ρ S Qs=(wE C ar n a ρ S λd S1=>Qs (.rt d) ρ S1):=rfl
def L4:wS C ar (n+1) (.ifs a sa sb) ρ S Qs=(wT C ar n a ρ S λt S1=>wIf t (rW (wSs C ar n sa) ρ S1 Qs) (rW (wSs C ar n sb) ρ S1 Qs)):=rfl
def L5:wS C ar (n+1) (.for_ tg it sa) ρ S Qs=(wI C ar n it ρ S λnx S1=>OkS (eV nx tg (g6 C ar n sa) LF 0 ρ S1) Qs):=rfl
def L6:wS C ar (n+1) .cnt ρ S Qs=Qs .ct ρ S:=rfl
def PD:wNx ws Qs .nx ρ S=rW ws ρ S Qs:=rfl
def PF:wNx ws Qs (.rt d) ρ S=Qs (.rt d) ρ S:=rfl
def PH:wNx ws Qs .bk ρ S=Qs .bk ρ S:=rfl
def PJ:wNx ws Qs .ct ρ S=Qs .ct ρ S:=rfl
def L7:wIf (aN && t) A B=wIf t A B:=rfl
def L8:wIf (aS && t) A B=B:=rfl
def L9:wIf (aN || t) A B=A:=rfl
def FQ:wIf (aS || t) A B=wIf t A B:=rfl
def FR:wIf (!(aN && t)) A B=wIf (!t) A B:=rfl
def FS:wIf (!(aS && t)) A B=A:=rfl
def FT:wIf (!(aN || t)) A B=B:=rfl
def FV:wIf (!(aS || t)) A B=wIf (!t) A B:=rfl
def PL:wIf aN A B=A:=rfl
def PM:wIf aS A B=B:=rfl
def Ma:wIf (!aN) A B=B:=rfl
def Mb:wIf (!aS) A B=A:=rfl
def PN:wBl (.bl t) Qb=Qb t:=rfl
def Mc:cN (.int i) Qi=Qi i:=rfl
def Md:vM (aw d::ρ) 0 Qd=Qd d:=rfl
def Me:vM (od::ρ) (n+1) Qd=vM ρ n Qd:=rfl
def PP:wFr (aD::ρ) 0 A=A:=rfl
def PQ:wFr (od::ρ) (n+1) A=wFr ρ n A:=rfl
def Mf:tz [] ρ A=A:=rfl
def Mg:tz (.name m::ts) ρ A=wFr ρ m (tz ts ρ A):=rfl
def PR:wFt (.name m) ρ A=wFr ρ m A:=rfl
def PU:wFt (.tup ts) ρ A=tz ts ρ A:=rfl
def Mh:tB [] ρ Qr=Qr ρ:=rfl
def Mi:tB (s::own) ρ Qr=tB own (aD::ρ) Qr:=rfl
def Mj:tD [] ρ Qr=Qr ρ:=rfl
def Ml:tD (od::ρ) ρ2 Qr=tD ρ ρ2 λr=>Qr (od::r):=rfl
def PV:ft (n+1) [] A=A:=rfl
def PX:ft (n+1) (a::es) A=ft n es A:=rfl
def PY:wNm 0 d (od::ρ) Qr=Qr (aw d::ρ):=rfl
def PZ:wNm (n+1) d (od::ρ) Qr=wNm n d ρ λr=>Qr (od::r):=rfl
def P0:wBs [] [] ρ Qr=Qr ρ:=rfl
def P1:wBs (.name m::ts) (d::ds) ρ Qr=wNm m d ρ λr=>wBs ts ds r Qr:=rfl
def P2:wBd (.name m) d ρ Qr=wNm m d ρ Qr:=rfl
def P3:wBd (.tup ts) d ρ Qr=wTp ts d ρ Qr:=rfl
def P4:wTp ts (.tup ds) ρ Qr=wBs ts ds ρ Qr:=rfl
def FW:wII .add i j S Q=Q (.int (i+j)) S:=rfl
def FX:wII .sub i j S Q=Q (.int (i - j)) S:=rfl
def FY:wII .mul i j S Q=(hU i j=aN/\Q (.int (i * j)) S):=rfl
def FZ:wII .mod i j S Q=(0 < j/\Q (.int (i % j)) S):=rfl
def Ct:wII .fdiv i j S Q=((0 < j/\j < 1298074214633706907132624082305024)/\Q (.int (i / j)) S):=rfl
def F0:wII .pow i j S Q=((0<=j/\j<=1000000/\i.natAbs < 2 ^ 64)/\Q (.int (i ^ j.toNat)) S):=rfl
def F1:wTT .add xs ys S Q=(xs.length+ys.length<=1000/\Q (.tup (xs++ys)) S):=rfl
def F2:B8 o i (.int j) S Q=wII o i j S Q:=rfl
def F3:xo o xs (.tup ys) S Q=wTT o xs ys S Q:=rfl
def F4:xo o xs (.int j) S Q=Ok (bL o (.tup xs) (.int j) S) Q:=rfl
def Mm:vN o (.int i) y S Q=B8 o i y S Q:=rfl
def Mn:vN o (.tup xs) y S Q=xo o xs y S Q:=rfl
def Mo:vN o (.ref n) y S Q=Ok (bL o (.ref n) y S) Q:=rfl
def Mp:vN o (.str s) y S Q=Ok (bL o (.str s) y S) Q:=rfl
def Mq:wCI .eq i j S Q=Q (.bl (decide (i=j))) S:=rfl
def Mr:wCm .eq x y S Q=wCx .eq x y S Q:=rfl
def Ms:wCI .ne i j S Q=Q (.bl (!decide (i=j))) S:=rfl
def Mu:wCm .ne x y S Q=wCx .ne x y S Q:=rfl
def Mv:wCI .lt i j S Q=Q (.bl (decide (i < j))) S:=rfl
def Mw:wCm .lt x y S Q=wCx .lt x y S Q:=rfl
def Mx:wCI .le i j S Q=Q (.bl (decide (i<=j))) S:=rfl
def My:wCm .le x y S Q=wCx .le x y S Q:=rfl
def Mz:wCI .gt i j S Q=Q (.bl (decide (j < i))) S:=rfl
def MA:wCm .gt x y S Q=wCx .gt x y S Q:=rfl
def MB:wCI .ge i j S Q=Q (.bl (decide (j<=i))) S:=rfl
def MC:wCm .ge x y S Q=wCx .ge x y S Q:=rfl
def MD:wCm .is x y S Q=Ok (ak .is x y S) Q:=rfl
def zd:wCm .isnot x y S Q=Ok (ak .isnot x y S) Q:=rfl
def Cu:wCm .isin x y S Q=Ok (ak .isin x y S) Q:=rfl
def ze:wCm .notin x y S Q=Ok (ak .notin x y S) Q:=rfl
def P5:wCx c (.int i) y S Q=K2 c i y S Q:=rfl
def P6:wCx c (.tup xs) y S Q=tw c xs y S Q:=rfl
def P7:wCx c .non y S Q=Ok (ak c .non y S) Q:=rfl
def P8:wCx c (.bl t) y S Q=Ok (ak c (.bl t) y S) Q:=rfl
def P9:wCx c (.str s) y S Q=Ok (ak c (.str s) y S) Q:=rfl
def Qa:wCx c (.ref n) y S Q=Ok (ak c (.ref n) y S) Q:=rfl
def ME:K2 c i (.int j) S Q=wCI c i j S Q:=rfl
def MF:tw .eq xs (.tup []) S Q=Q (.bl xs.isEmpty) S:=rfl
def MG:tw .ne xs (.tup []) S Q=Q (.bl (!xs.isEmpty)) S:=rfl
def F5:tw .eq xs (.tup (y::ys)) S Q=Ok (ak .eq (.tup xs) (.tup (y::ys)) S) Q:=rfl
def F6:tw .ne xs (.tup (y::ys)) S Q=Ok (ak .ne (.tup xs) (.tup (y::ys)) S) Q:=rfl
def MH:vO l h (.tup ds) S Q=Q (.tup (dY ds l h)) S:=rfl
def MI:vO l h (.ref n) S Q=Ok (slS l h (.ref n) S) Q:=rfl
def MJ:Cc (.tup ds) S Qn=Qn (nxL ds) S:=rfl
def ML:Cc (.ref n) S Qn=((au S n).isSome=aN/\Qn (nxS n) S):=rfl
def MM:Cd (.tup ds) S Qn=Qn (vg ds) S:=rfl
def MN:Cd (.ref n) S Qn=((au S n).isSome=aN/\Qn (AZ n) S):=rfl
def F7:cC (.bl t) S Qt=Qt t S:=rfl
def F8:cC (.tup ds) S Qt=Qt (!ds.isEmpty) S:=rfl
def F9:cC (.int i) S Qt=Qt (i != 0) S:=rfl
def Ga:cC (.ref n) S Qt=Ok (mi (.ref n) S) Qt:=rfl
def Rc:w2 g [x,y] S Q=g x y S Q:=rfl
def MO:Cg (.int i) (.int j) S Q=Q (.int (if j > i then j else i)) S:=rfl
def MP:Ch (.int i) (.int j) S Q=Q (.int (if j < i then j else i)) S:=rfl
def Gb:aP (ai (.lst es)) wl wv ρ S Ql Q=wl ρ S Ql:=rfl
def vT:aP (ai (.listOf a)) wl wv ρ S Ql Q=wl ρ S Ql:=rfl
def zf:aP (ai (.listR a)) wl wv ρ S Ql Q=wl ρ S Ql:=rfl
def Gc:aP (ai (.srt a)) wl wv ρ S Ql Q=wl ρ S Ql:=rfl
def Cv:aP (ai (.comp own a rest)) wl wv ρ S Ql Q=wl ρ S Ql:=rfl
def Gf:aP (ai (.non)) wl wv ρ S Ql Q=wv ρ S Q:=rfl
def MQ:aP (ai (.bl t)) wl wv ρ S Ql Q=wv ρ S Q:=rfl
def Gg:aP (ai (.int i)) wl wv ρ S Ql Q=wv ρ S Q:=rfl
def Gh:aP (ai (.str s)) wl wv ρ S Ql Q=wv ρ S Q:=rfl
def Gi:aP (ai (.var m)) wl wv ρ S Ql Q=wv ρ S Q:=rfl
def Gj:aP (ai (.con m i)) wl wv ρ S Ql Q=wv ρ S Q:=rfl
def Gk:aP (ai (.tup es)) wl wv ρ S Ql Q=wv ρ S Q:=rfl
def Cw:aP (ai (.dic0)) wl wv ρ S Ql Q=wv ρ S Q:=rfl
def Gm:aP (ai (.bin o a b)) wl wv ρ S Ql Q=wv ρ S Q:=rfl
def Gn:aP (ai (.neg a)) wl wv ρ S Ql Q=wv ρ S Q:=rfl
def Go:aP (ai (.cmp c a b)) wl wv ρ S Ql Q=wv ρ S Q:=rfl
def Gp:aP (ai (.chn c p a b e)) wl wv ρ S Ql Q=wv ρ S Q:=rfl
def Gq:aP (ai (.and a b)) wl wv ρ S Ql Q=wv ρ S Q:=rfl
def MR:aP (ai (.or a b)) wl wv ρ S Ql Q=wv ρ S Q:=rfl
def Gr:aP (ai (.not a)) wl wv ρ S Ql Q=wv ρ S Q:=rfl
def Gu:aP (ai (.ite e a b)) wl wv ρ S Ql Q=wv ρ S Q:=rfl
def MS:aP (ai (.ix a b)) wl wv ρ S Ql Q=wv ρ S Q:=rfl
def MU:aP (ai (.sl a oa ob)) wl wv ρ S Ql Q=wv ρ S Q:=rfl
def Cy{k:Nat}:aP (ai (.cal2 f k a es)) wl wv ρ S Ql Q=wv ρ S Q:=rfl
def Cz:aP (ai (.call f es)) wl wv ρ S Ql Q=wv ρ S Q:=rfl
def CA:aP (ai (.inst ty a)) wl wv ρ S Ql Q=wv ρ S Q:=rfl
def Gv:aP (ai (.len a)) wl wv ρ S Ql Q=wv ρ S Q:=rfl
def Gw:aP (ai (.all a)) wl wv ρ S Ql Q=wv ρ S Q:=rfl
def Gx:aP (ai (.any a)) wl wv ρ S Ql Q=wv ρ S Q:=rfl
def zg:aP (ai (.tupOf a)) wl wv ρ S Ql Q=wv ρ S Q:=rfl
def Gy:aP (ai (.mxL a)) wl wv ρ S Ql Q=wv ρ S Q:=rfl
def Gz:aP (ai (.mxD a i)) wl wv ρ S Ql Q=wv ρ S Q:=rfl
def MV:aP (ai (.sm a)) wl wv ρ S Ql Q=wv ρ S Q:=rfl
def GA:aP (ai (.rev a)) wl wv ρ S Ql Q=wv ρ S Q:=rfl
def GC:aP (ai (.mnN a)) wl wv ρ S Ql Q=wv ρ S Q:=rfl
def zh:aP (ai (.intOf a)) wl wv ρ S Ql Q=wv ρ S Q:=rfl
def MW:aP (ai (.mx a b)) wl wv ρ S Ql Q=wv ρ S Q:=rfl
def MX:aP (ai (.mn a b)) wl wv ρ S Ql Q=wv ρ S Q:=rfl
def GD:aP (ai (.app a b)) wl wv ρ S Ql Q=wv ρ S Q:=rfl
def zi:aP (ai (.popAt a b)) wl wv ρ S Ql Q=wv ρ S Q:=rfl
def GF:aP (ai (.cnt a b)) wl wv ρ S Ql Q=wv ρ S Q:=rfl
def aa{k:Type}{z:Option (k × Sto)}{r:k}{u:Sto}{K:k->Sto->Prop}(e:z=aw (r,u))(q:K r u):Ok z K:=⟨r,u,e,q⟩
def cv(k:t=aN->A)(q:t=aS->B):wIf t A B:=by
 cases t with
 |true=>exact k rfl
 |false=>exact q rfl
end
end Ev
local macro_rules|`(tactic|k_go)=>do
 let f s:Lean.MacroM (Lean.TSyntax ``Lean.Parser.Tactic.simpLemma):=`(Lean.Parser.Tactic.simpLemma|↓$(Lean.mkIdent (`Ev++s.toName)):ident)
 let a ← ("Li Po Lj Lk Ll Lm Ln Lp FD Lq Lr Ls Lu Lv Pp Lx Ly Pq FE FF FG FH FJ FI FK Lz LA LB Co LC LG Pr y8 Cp LH Cq LI LJ Ps Pt FL LK Cr LL Q6 Q7 LM y9 Cs LN FM LP Pu Pv Px Pw LQ LR LS Py LU Pz LV FN FO LW LX LY PB LZ L0 Q8 Q9 Ra Rb L1 FP PC L3 L4 L5 L6 PD PF PH PJ L7 L8 L9 FQ FR FS FT FV PL PM Ma Mb PN Mc Md Me PP PQ Mf Mg PR PU Mh Mi Mj Ml PV PX PY PZ P0 P1 P2 P3 P4 FW FX FY FZ Ct F0 F1 F2 F3 F4 Mm Mn Mo Mp Mq Mr Ms Mu Mv Mw Mx My Mz MA MB MC MD zd Cu ze P5 P6 P7 P8 P9 Qa ME MF MG F5 F6 MH MI MJ ML MM MN F7 F8 F9 Ga Rc MO MP Gb vT zf Gc Cv Gf MQ Gg Gh Gi Gj Gk Cw Gm Gn Go Gp Gq MR Gr Gu MS MU Cz Cy CA Gv Gw Gx zg Gy Gz MV zh GA GC MW MX GD zi GF Kz KA".splitOn).toArray.mapM f
 `(tactic|dsimp only[$a,*])
local macro_rules |`(tactic|k_is)=>`(tactic|((with_reducible first |refine Ev.Lh ?_ |refine Ev.Lc ?_ |refine Ev.wcl_ok ?_ |skip);(try dsimp only[List.set_cons_zero,List.set_cons_succ]);(try k_go);(repeat ((with_reducible first |refine Ev.Cn ?_ |refine Ev.FC ?_);(try k_go)))))
namespace Lw
open PySem Ev
variable {p:Nat} {S:Sto} {k:Nat} {Q:D->Sto->Prop}
def nA(h:TD p S t d)(q:Q (.bl (Dw.isW t)) S):Ok (evC ag (k+1) 0 [d] S) Q:=by
 refine am (d:=iA) (ρ:=[aw d]) rfl rfl ?_;dsimp only[iA,mY];k_is;refine aa (qN h) ?_;k_is;cases t <;> first |exact q |(k_is;rw[qN h,aG];exact q)
def pD{a b:Int}(h:TD p S t d)(q:Q (.bl (Dw.ip t a b)) S):Ok (evC ag (k+2) 1 [d,.int a,.int b] S) Q:=by
 refine am (d:=ga) (ρ:=[aw d,aw (.int a),aw (.int b)]) rfl rfl ?_;dsimp only[ga,kl];k_is;refine⟨rfl,nA h ?_⟩;k_is;cases t with
 |int i=>
  obtain rfl:=h.int;dsimp only[Dw.isW];k_is;dsimp only[Dw.ip] at q;cases c:decide (a<=i) with
  |true=>rw[c] at q;exact q
  |false=>rw[c] at q;exact q
 |_=>exact q
def zj(h:TD p S t d)(q:Q (.bl (Dw.ip t 0 9999)) S):Ok (evC ag (k+3) 2 [d] S) Q:=by
 refine am (d:=gf) (ρ:=[aw d]) rfl rfl ?_;dsimp only[gf,km];k_is;exact⟨rfl,pD h q⟩
def CB{a b:Int}(h:TD p S t d)(q:Q (.bl (Dw.isT t a b)) S):Ok (evC ag (k+1) 3 [d,.int a,.int b] S) Q:=by
 refine am (d:=iB) (ρ:=[aw d,aw (.int a),aw (.int b)]) rfl rfl ?_;dsimp only[iB,mZ];k_is;refine aa (qN h) ?_;k_is;cases t with
 |tup T=>
  obtain⟨f,rfl,hs⟩:=h.tup;rw[show fS Ty.tuple (tyT (Dw.D.tup T))=aN from rfl];k_is;refine aa (KO hs) ?_;k_is;dsimp only[Dw.isT] at q;cases c:decide (a<=(T.length:Int)) with
  |true=>rw[c] at q;exact q
  |false=>rw[c] at q;exact q
 |_=>exact q
def aE{f:Int}(h:Pot p S)(b:0 < f)(j:f < 1298074214633706907132624082305024)(q:∀ (r:Int) c,0<=r->r < f->Dr p S c->Q (.int r) c):Ok (evC ag (k+1) 59 [.ref p,.int f] S) Q:=by
 obtain⟨n,e⟩:=h;have lt:p < S.length:=(Zb.mp e).1;refine am (d:=iI) (ρ:=[aw (.ref p),aw (.int f),aD]) rfl rfl ?_;dsimp only[iI,nc];k_is;have ix:ixS (.ref p) (.int 0) S=aw (.int n,S):=by simp only[ixS,ao,au,e];rfl
 refine aa ix ?_;k_is;refine⟨b,?_⟩;k_is;refine aa ix ?_;k_is;refine⟨⟨b,j⟩,?_⟩;k_is;refine⟨S.set p (.lst [.int (n / f)]),by simp only[jI,e];rfl,?_⟩;exact q _ _ (Wp _ (by omega)) (X5 _ b) ⟨KS,_,dR lt⟩
def GG{c:Nat}{ns:List Int}(h:S[0]?=aw (.frz (ns.map D.int)))(q:∀i:Int,Q (.int i) S):Ok (evC ag (k+1) 57 [.ref 0,.int c] S) Q:=by
 refine am (d:=dP) (ρ:=[aw (.ref 0),aw (.int c)]) rfl rfl ?_;dsimp only[dP,ik];k_is;have ln:aj cb (.ref 0) S=aw (.int ns.length,S):=by simp only[aj,ao,au,h,ZD,cb,Za]
 refine aa ln ?_;k_is;refine cv (λb=>?_) λb=>?_
 ·k_is;have j:=of_decide_eq_true b;obtain⟨d,n,E⟩:=KW (ds:=ns.map D.int) (i:=c) (by omega) (by rw[Za];omega);have ix:ixS (.ref 0) (.int c) S=aw (d,S):=by simp only[ixS,ao,au,h,ZD,n]
  refine aa ix ?_;rw[Zp] at E;cases f:ns[(c:Int).toNat]? with
  |none=>rw[f] at E;cases E
  |some i=>rw[f] at E;cases E;exact q i
 ·k_is;exact q 0
def MY{c:Int}(q:∀n:Int,Q (.ref S.length) (S++[.lst [.int n]])):Ok (evC ag (k+1) 58 [.int c] S) Q:=by
 refine am (d:=jU) (ρ:=[aw (.int c),aD,aD,aD]) rfl rfl ?_;dsimp only[jU,pA];k_is;refine⟨⟨by decide,by decide,by decide⟩,?_⟩;k_is;refine cv (λ_=>?_) λ_=>?_
 ·k_is;refine⟨⟨by decide,by decide,by decide⟩,?_⟩;k_is;exact q _
 ·k_is;refine⟨by decide,?_⟩;refine gB (by decide) (λi f b=>b=S/\∃n:Int,∃u v,f=[aw (.int c),aw (.int n),u,v]) (λi f b hi ⟨E,n,u,v,h⟩=>?_) (λf b ⟨E,n,u,v,h⟩=>?_) ⟨rfl,0,aD,aD,rfl⟩
  ·subst E h;refine⟨_,rfl,?_⟩;k_is;refine⟨by decide,?_⟩;k_is;refine⟨jj (by decide) (by decide),?_⟩;k_is;refine⟨xj (by decide) (by decide),by decide,?_⟩;k_is;have j:=Wp ((c % 2147483629+7919 * (0+(i:Int))+1) * 48271) (show(2147483647:Int) ≠ 0 by decide);have y:=X5 ((c % 2147483629+7919 * (0+(i:Int))+1) * 48271) (show(0:Int) < 2147483647 by decide);refine⟨jj (by omega) (by omega),?_⟩;k_is;refine⟨jj (by decide) (by decide),?_⟩;k_is;refine⟨by decide,?_⟩;k_is;refine⟨xj (by decide) (by decide),?_⟩;k_is;exact⟨rfl,_,_,_,rfl⟩
  ·subst E h;k_is;exact q n
end Lw
namespace Sn
open Ev
structure Sky where
 r:Int
 s:Int
 M:List (List Int)
 H:List (Int × Int)
 ah:Option (Int × Int)
 G:List (List Int)
 F:List Int
abbrev gi(G:List (List Int))(i:Int)(k:Nat):Int:=((G[i.toNat]?).getD []).getD k 0
abbrev fns:List (Int × Int)->Int->Int
 |[],m=>m
 |p::l,m=>if p.1<=m/\m < p.2 then p.2 else fns l m
abbrev opm:List (Int × Int)->Int->Int
 |[],m=>m
 |p::l,m=>opm l (if p.1<=m/\m < p.2 then p.2 else m)
abbrev Ris:Int->List (Int × Int)->Prop
 |_,[]=>True
 |lo,p::l=>lo < p.1/\p.1 < p.2/\Ris p.2 l
def jm:∀ {l:List (Int × Int)} {lo m:Int},Ris lo l->m<=lo->opm l m=m
 |[],_,_,_,_=>rfl
 |p::l,lo,m,h,hm=>by
  rw[Ris] at h;rw[opm,if_neg (by lia)];exact jm h.2.2 (by lia)
def qZ:∀ {l:List (Int × Int)} {lo m:Int},Ris lo l->opm l m=fns l m
 |[],_,_,_=>rfl
 |p::l,lo,m,h=>by
  rw[Ris] at h;rw[opm,fns];split
  ·exact jm h.2.2 (ZB _)
  ·exact qZ h.2.2
section
variable (K:Sky)
abbrev jn(g:Int):Int:=gi K.G g 1
abbrev gp(a b:Int):Int:=Dw.mg2 K.M a.toNat b.toNat
abbrev tG(ah:Option (Int × Int))(k:Int):Int:=match ah with
 |none=>0
 |some p=>p.2+gp K p.1 k
abbrev a8(ah:Option (Int × Int))(g:Int):Int:=match ah with
 |none=>gi K.G g 2
 |some p=>if p.2+gp K p.1 (gi K.G g 0) > gi K.G g 2 then p.2+gp K p.1 (gi K.G g 0) else gi K.G g 2
abbrev js:List Int:=fC (K.G.map λg=>g.getD 1 0)
abbrev kO(p:Nat)(m:Int):Bool:=match (js K)[(K.r+p).toNat]? with
 |some j=>decide (j < m - K.s)
 |none=>aS
abbrev step(ah:Option (Int × Int))(g:Int)(p:Nat):Option Int:=if (decide (gi K.G g 3 < opm K.H (a8 K ah g)) || kO K p (opm K.H (a8 K ah g)))=aN then aD else aw (opm K.H (a8 K ah g))
abbrev aF(t:Int)(p:Int × Int):Bool:=decide (jn K p.1<=t) && decide (t < p.2 - K.s)
abbrev wts(L:List (Int × Int))(t:Int):Nat:=(L.filter (aF K t)).length
abbrev cK(L:List (Int × Int))(g m:Int):List Int:=((jn K g::L.map λp=>jn K p.1).filter λt=>decide (jn K g<=t) && decide (t < m - K.s))
abbrev fu(L:List (Int × Int))(g m:Int):Int:=fT 0 ((cK K L g m).map λt=>1+(wts K L t:Int))
abbrev iP(L:List (Int × Int))(g m:Int):List Int:=jn K g::(js K).filter λt=>decide (jn K g < t) && aF K t (g,m)
abbrev tH(L:List (Int × Int))(g m:Int):Int:=iu ((iP K L g m).map λt=>1+(wts K L t:Int))
abbrev tI(L:List (Int × Int))(g m:Int):Bool:=decide (0 < gi K.G g 6) && (aF K (jn K g) (g,m) && decide (gi K.G g 6 < tH K L g m))
abbrev bK(L:List (Int × Int))(g m:Int):Bool:=decide (0 < gi K.G g 6) && decide (gi K.G g 6 < fu K L g m)
abbrev rn:List Int->Option (Int × Int)->List (Int × Int)->Nat ⊕ List (Int × Int)
 |[],_,L=>.inr L
 |g::os,ah,L=>match step K ah g L.length with
  |none=>.inl L.length
  |some m=>if bK K L g m=aN then .inl L.length else rn os (aw (gi K.G g 0,m)) (L++[(g,m)])
end
variable {K:Sky}
def k9(h:ns ≠ []):iu ns ∈ ns:=by
 cases ns with
 |nil=>exact absurd rfl h
 |cons n ns=>exact(i7 ns n).1
def vU{x:Int}(h:x ∈ ns):x<=iu ns:=by
 cases ns with
 |nil=>simp at h
 |cons n ns=>exact(i7 ns n).2 x h
def vV(c:A ≠ [])(h:∀x ∈ A,∃y ∈ B,x<=y):iu A<=iu B:=by
 obtain⟨y,d,b⟩:=h _ (k9 c);exact Yo b (vU d)
def eM{c:Int}(h:ns ≠ []):fT c ns=iu ns:=by
 cases ns with
 |nil=>exact absurd rfl h
 |cons n ns=>rfl
def lc{b:Type}{p q:b->Bool}:∀ {l:List b},(∀x ∈ l,p x=aN->q x=aN)->(l.filter p).length<=(l.filter q).length
 |[],_=>Ze _
 |a::l,h=>by
  have I:=lc (l:=l) λx f=>h x (Zi _ f);have d:=h a Zj;rw[Yc,Yc];split
  ·rename_i c;rw[if_pos (d c),Zo,Zo]
   lia
  ·split
   ·rw[Zo];lia
   ·exact I
def CC{j t:Int}(f:j<=t):∀ (L:List (Int × Int)),∃u,(u=j\/∃p ∈ L,u=jn K p.1)/\j<=u/\u<=t/\∀p ∈ L,aF K t p=aN->jn K p.1<=u
 |[]=>⟨j,.inl rfl,ZB _,f,λp n=>by simp at n⟩
 |p::L=>by
  obtain⟨u,b,k,v,h4⟩:=CC f L;by_cases d:aF K t p=aN/\u < jn K p.1
  ·refine⟨jn K p.1,.inr ⟨p,Zj,rfl⟩,by lia,?_,λq hq h=>?_⟩
   ·have:=d.1;simp only[aF,bAE,decide_eq_true_eq] at this;exact this.1
   ·rcases Zn.mp hq with rfl |hq
    ·exact ZB _
    ·have:=h4 q hq h;lia
  ·refine⟨u,?_,k,v,λq hq h=>?_⟩
   ·rcases b with b |⟨q,hq,b⟩
    ·exact .inl b
    ·exact .inr ⟨q,Zi _ hq,b⟩
   ·rcases Zn.mp hq with rfl |hq
    ·by_cases c:u < jn K q.1
     ·exact absurd ⟨h,c⟩ d
     ·lia
    ·exact h4 q hq h
def GH{L:List (Int × Int)}{g m:Int}(h:jn K g < m - K.s)(q:∀p ∈ L,jn K p.1 ∈ js K):tH K L g m=fu K L g m:=by
 have k:jn K g ∈ cK K L g m:=by
  unfold cK;rw[ZQ];exact⟨Zj,by simp[h]⟩
 have n:(cK K L g m).map (λt=>1+(wts K L t:Int)) ≠ []:=λz=>by
  rw[List.map_eq_nil_iff] at z;rw[z] at k;simp at k
 unfold fu tH;rw[eM n];refine XF (vV (by simp[iP]) λx d=>?_) (vV n λx d=>?_)
 ·obtain⟨t,ht,rfl⟩:=Zu.mp d
  have c:jn K g<=t/\t < m - K.s:=by
   rcases Zn.mp ht with rfl |ht
   ·exact⟨ZB _,h⟩
   ·have:=(ZQ.mp ht).2;simp only[aF,bAE,decide_eq_true_eq] at this;exact⟨this.2.1,this.2.2⟩
  obtain⟨u,h1,f,v,h4⟩:=CC (K:=K) c.1 L;refine⟨1+(wts K L u:Int),Zu.mpr ⟨u,?_,rfl⟩,?_⟩
  ·unfold cK;refine ZQ.mpr ⟨?_,by simp only[bAE,decide_eq_true_eq];lia⟩;rcases h1 with rfl |⟨p,b,rfl⟩
   ·exact Zj
   ·exact Zi _ (Zu.mpr ⟨p,b,rfl⟩)
  ·have:wts K L t<=wts K L u:=lc λp b j=>by
    have a:=h4 p b j;simp only[aF,bAE,decide_eq_true_eq] at j ⊢
    lia
   lia
 ·obtain⟨t,ht,rfl⟩:=Zu.mp d;refine⟨1+(wts K L t:Int),Zu.mpr ⟨t,?_,rfl⟩,ZB _⟩;unfold cK at ht;obtain⟨h1,f⟩:=ZQ.mp ht;simp only[bAE,decide_eq_true_eq] at f;unfold iP;by_cases e:t=jn K g
  ·rw[e];exact Zj
  ·refine Zi _ (ZQ.mpr ⟨?_,by simp only[aF,bAE,decide_eq_true_eq];lia⟩);rcases Zn.mp h1 with rfl |h1
   ·exact absurd rfl e
   ·obtain⟨p,b,rfl⟩:=Zu.mp h1;exact q p b
def zk{g m:Int}(h:¬ jn K g < m - K.s):fu K L g m=0:=by
 have:cK K L g m=[]:=by
  unfold cK;rw[Y0];intro t _;simp only[bAE,decide_eq_true_eq]
  lia
 unfold fu;rw[this];rfl
def xu{g m:Int}(c:∀p ∈ L,jn K p.1 ∈ js K):tI K L g m=bK K L g m:=by
 unfold tI bK;by_cases h:jn K g < m - K.s
 ·rw[GH h c];have:aF K (jn K g) (g,m)=aN:=by simp only[aF,bAE,decide_eq_true_eq];exact⟨ZB _,h⟩
  rw[this,Yy]
 ·rw[zk h];have:aF K (jn K g) (g,m)=aS:=by simp[aF,h]
  rw[this,Xh];by_cases b:0 < gi K.G g 6
  ·have e:decide (gi K.G g 6 < 0)=aS:=by simp;lia
   rw[e]
  ·rw[decide_eq_false b];rfl
def CD{g:Int}(h:0<=gi K.G g 2):(if tG K ah (gi K.G g 0) > gi K.G g 2 then tG K ah (gi K.G g 0) else gi K.G g 2)=a8 K ah g:=by
 cases ah with
 |none=>unfold tG a8;dsimp only;rw[if_neg (by lia)]
 |some p=>rfl
end Sn
namespace Lw
open PySem Ev Sn
variable {p:Nat} {S:Sto} {k:Nat} {Q:D->Sto->Prop}
def CF{f:List D}{T:Tg}{b:XS}{c:Rho}{Q:Fl->Rho->Sto->Prop}(C:f.length<=100000)(I:Nat->Rho->Sto->Prop)
  (step:∀ (i:Nat) d c h,f[i]?=aw d->I i c h->∃n,ax T d c=aw n/\OkS (b n h) λB j u=>match B with |.nx=>I (i+1) j u |.ct=>I (i+1) j u |.bk=>Q .nx j u |.rt d=>Q (.rt d) j u)
  (q:∀c h,I f.length c h->Q .nx c h) (y:I 0 c S):OkS (eV (nxL f) T b LF 0 c S) Q:=by
 refine jh f.length I (by unfold LF;lia) (λi c h hi v=>?_) (λc h v=>⟨?_,q c h v⟩) y
 ·obtain⟨n,E,z⟩:=step i f[i] c h (gEG hi) v;exact⟨f[i],n,by show aw f[i]?=_;rw[gEG hi],E,z⟩
 ·show aw f[f.length]?=_;rw[Zs (Ze _)]
def CG{f:List D}{T:Tg}{b:XS}{c:Rho}{Q:Fl->Rho->Sto->Prop}(C:f.length<=100000)(I:Nat->Rho->Sto->Prop)
  (step:∀ (i:Nat) d c h,f[i]?=aw d->I i c h->∃n,ax T (.tup [.int i,d]) c=aw n/\OkS (b n h) λB j u=>match B with |.nx=>I (i+1) j u |.ct=>I (i+1) j u |.bk=>Q .nx j u |.rt d=>Q (.rt d) j u)
  (q:∀c h,I f.length c h->Q .nx c h) (y:I 0 c S):OkS (eV (vg f) T b LF 0 c S) Q:=by
 refine jh f.length I (by unfold LF;lia) (λi c h hi v=>?_) (λc h v=>⟨?_,q c h v⟩) y
 ·obtain⟨n,E,z⟩:=step i f[i] c h (gEG hi) v;refine⟨.tup [.int i,f[i]],n,?_,E,z⟩;show enm f i=_;unfold enm;rw[if_pos (by lia),gEG hi];rfl
 ·show enm f f.length=_;unfold enm;rw[if_pos (Ze _),Zs (Ze _)];rfl
def aX{z:Type}{nx:Nxt}{T:Tg}{c:XA}{I:Rho}{Q:List D->Sto->Prop}(l:List z)(E:z->D)(f:z->List D)(Y:l.length<=1000)(J:∀a ∈ l,(f a).length<=1)
  (y:∀i d,Sm S d->nx i d=aw ((l[i]?).map E))
  (step:∀ (i:Nat) a d,l[i]?=aw a->Sm S d->∃j,ax T (E a) I=aw j/\Ok (c j d) λn C=>n=f a/\Sm d C) (q:∀d,Sm S d->Q (l.flatMap f) d) :
  Ok (bu nx T c I LF 0 S) λn S2=>n.length<=100000/\Q n S2:=by
 refine(gA l.length (λi u d=>Sm S d/\u=(l.take i).flatMap f) (by unfold LF;lia) (λi u d hi ⟨sm,v⟩=>?_) (λu d ⟨sm,v⟩=>?_) ⟨Sm.refl S,by simp⟩).mono λn d ⟨sm,v⟩=>?_
 ·obtain⟨j,O,n,C,X,L,B⟩:=step i l[i] d (gEG hi) sm;refine⟨E l[i],j,by rw[y i d sm,gEG hi];rfl,O,n,C,X,sm.trans B,?_⟩;rw[v,L,ZX hi,XV];simp
 ·rw[y _ d sm,Zs (Ze _)];rfl
 ·rw[YM] at v;subst v;refine⟨?_,q d sm⟩
  have:∀m:List z,(∀a ∈ m,(f a).length<=1)->(m.flatMap f).length<=m.length:=λm=>by
   induction m with
   |nil=>intro _;simp
   |cons a m U=>
    intro h;rw[Y1,Zh,Zo];have:=h a Zj;have:=U λb hb=>h b (Zi _ hb)
    lia
  have:=this l J
  lia
def cw{c:Type}{l:List c}{E:c->D}:∀i b,Sm S b->nxL (l.map E) i b=aw ((l[i]?).map E):=λi b _=>by
 show aw (l.map E)[i]?=_;rw[Zp]
def bH{c:Type}{n:Nat}{l:List c}{E:c->D}(h:S[n]?=aw (.lst (l.map E))):∀i b,Sm S b->nxS n i b=aw ((l[i]?).map E):=λi b sm=>by
 show(au b n).map (λd=>d[i]?)=_;rw[aq (sm _ _ h),ZD,Zp]
def aU{b:Type}(l:List b)(f:b->D):(l.flatMap λa=>[f a])=l.map f:=by
 induction l with
 |nil=>rfl
 |cons a l I=>rw[Y1,I];rfl
def bv{b:Type}(l:List b)(c:b->Bool)(f:b->D):(l.flatMap λa=>if c a=aN then [f a] else [])=(l.filter c).map f:=by
 induction l with
 |nil=>rfl
 |cons a l I=>
  rw[Y1,I,Yc];split <;> rfl
abbrev az(r:List Int):D:=.tup (r.map D.int)
abbrev ahE:Option (Int × Int)->D
 |none=>.non
 |some q=>.tup [.int q.1,.int q.2]
abbrev meE(K:Sky):D:=.tup [.int K.r,.int K.s,.tup (K.M.map az),.tup (K.H.map ac)]
abbrev skE(K:Sky):D:=.tup [meE K,ahE K.ah,.tup (K.G.map az),.tup (K.F.map D.int)]
structure Vd(K:Sky):Prop where
 r0:0<=K.r
 r8:K.r<=8
 s0:0<=K.s
 s60:K.s<=60
 m0:1<=K.M.length
 m4:K.M.length<=4
 row:∀r ∈ K.M,r.length=K.M.length
 ris:Ris (-1) K.H
 h4:K.H.length<=4
 ah0:∀q,K.ah=aw q->0<=q.1/\q.1 < K.M.length
 g7:K.G.length<=7
 gl:∀g ∈ K.G,g.length=7/\0<=g.getD 0 0/\g.getD 0 0 < K.M.length/\0<=g.getD 2 0
variable {K:Sky}
def sk0:ixS (skE K) (.int 0) S=aw (meE K,S):=rfl
def sk1:ixS (skE K) (.int 1) S=aw (ahE K.ah,S):=rfl
def sk2:ixS (skE K) (.int 2) S=aw (.tup (K.G.map az),S):=rfl
def sk3:ixS (skE K) (.int 3) S=aw (.tup (K.F.map D.int),S):=rfl
def me0:ixS (meE K) (.int 0) S=aw (.int K.r,S):=rfl
def me1:ixS (meE K) (.int 1) S=aw (.int K.s,S):=rfl
def me2:ixS (meE K) (.int 2) S=aw (.tup (K.M.map az),S):=rfl
def me3:ixS (meE K) (.int 3) S=aw (.tup (K.H.map ac),S):=rfl
def gl7(V:Vd K){g:Int}(u:0<=g)(v:g < K.G.length):∃a b c d e f h,K.G[g.toNat]?=aw [a,b,c,d,e,f,h]/\gi K.G g 0=a/\gi K.G g 1=b/\gi K.G g 2=c/\gi K.G g 3=d/\gi K.G g 6=h/\0<=a/\a < K.M.length/\0<=c:=by
 have hi:g.toNat < K.G.length:=by lia
 obtain⟨l7,n,j,C⟩:=V.gl K.G[g.toNat] (ZJ hi)
 match q:K.G[g.toNat],l7 with
 |[a,b,c,d,e,f,h],_=>
  have eq:K.G[g.toNat]?=aw [a,b,c,d,e,f,h]:=by rw[gEG hi,q]
  rw[q] at n j C;refine⟨a,b,c,d,e,f,h,eq,?_,?_,?_,?_,?_,n,j,C⟩ <;> (unfold gi;rw[eq];rfl)
def pE{i:Int}(b:0<=i)(h:ds[i.toNat]?=aw d):ixS (.tup ds) (.int i) S=aw (d,S):=by
 obtain⟨n,rfl⟩:∃n:Nat,i=(n:Int):=⟨i.toNat,by lia⟩;exact z7 h
def b9{g:Int}(b:0<=g)(h:K.G[g.toNat]?=aw r):ixS (.tup (K.G.map az)) (.int g) S=aw (az r,S):=pE b (by rw[Zp,h];rfl)
def jX(V:Vd K){a b:Int}(c:0<=a)(f:a < K.M.length)(B:0<=b)(d:b < K.M.length):∃r,ixS (.tup (K.M.map az)) (.int a) S=aw (az r,S)/\ixS (az r) (.int b) S=aw (.int (gp K a b),S):=by
 have hi:a.toNat < K.M.length:=by lia
 have j:=V.row K.M[a.toNat] (ZJ hi);have h:b.toNat < K.M[a.toNat].length:=by lia
 refine⟨K.M[a.toNat],pE c (by rw[Zp,gEG hi];rfl),pE B ?_⟩;rw[Zp,gEG h];have:gp K a b=K.M[a.toNat][b.toNat]:=by unfold gp Dw.mg2;rw[gEG hi,ZW,gEG h];rfl
 rw[this];rfl
end Lw
namespace Lw
open PySem Ev Sn
variable {p:Nat} {S:Sto} {k:Nat} {Q:D->Sto->Prop} {K:Sky}
def tJ{t u:Bool}{A B:Prop}(h:t=aN->u=aN->A)(hb:(t && u)=aS->B):wIf t (wIf u A B) B:=by
 cases t with
 |false=>exact hb rfl
 |true=>cases u with
  |true=>exact h rfl rfl
  |false=>exact hb rfl
def lh{b:Type}{l:List b}{i:Nat}{a:b}(h:l[i]?=aw a):l.drop i=a::l.drop (i+1):=by
 obtain⟨hi,e⟩:=Zb.mp h;rw[YO hi,e]
def gD{b:Type}{l:List b}{E:b->D}{i:Nat}{d:D}(h:(l.map E)[i]?=aw d):∃a,l[i]?=aw a/\d=E a:=by
 rw[Zp] at h;cases e:l[i]? with
 |none=>rw[e] at h;cases h
 |some a=>rw[e] at h;cases h;exact⟨a,rfl,rfl⟩
def MZ{m:Int}(I:K.H.length<=4)(q:Q (.int (fns K.H m)) S):Ok (evC ag (k+1) 14 [meE K,.int m] S) Q:=by
 refine am (d:=cm) (ρ:=[aw (meE K),aw (.int m),aD,aD]) rfl rfl ?_;dsimp only[cm,eF];k_is;refine aa me3 ?_;k_is;refine CF (by rw[Za];lia) (λi f b=>b=S/\fns K.H m=fns (K.H.drop i) m/\∃u v,f=[aw (meE K),aw (.int m),u,v]) (λi d f b hd ⟨c,E,u,v,j⟩=>?_) (λf b ⟨c,E,u,v,j⟩=>?_) ⟨rfl,rfl,aD,aD,rfl⟩
 ·subst c j;obtain⟨n,C,rfl⟩:=gD hd;refine⟨_,show ax (.tup [.name 2,.name 3]) (.tup [.int n.1,.int n.2]) _=_ from bn (by simp) (by simp),?_⟩;k_is;rw[lh C,fns] at E;refine tJ (λB y=>?_) λh=>?_
  ·k_is;rw[if_pos ⟨of_decide_eq_true B,of_decide_eq_true y⟩] at E;rw[E] at q;exact q
  ·k_is;rw[if_neg (λz=>by rw[decide_eq_true z.1,decide_eq_true z.2] at h;cases h)] at E;exact⟨rfl,E,_,_,rfl⟩
 ·subst c j;k_is;rw[Za,YN,fns] at E;rw[E] at q;exact q
abbrev ay(K:Sky)(L:List (Int × Int)):Option (Int × Int):=match L.getLast? with
 |none=>K.ah
 |some p=>aw (gi K.G p.1 0,p.2)
abbrev InG(K:Sky)(L:List (Int × Int)):Prop:=∀p ∈ L,0<=p.1/\p.1 < K.G.length
def nB(V:Vd K){L:List (Int × Int)}{n:Nat}(u:S[n]?=aw (.lst (L.map ac)))(v:InG K L)(q:Q (ahE (ay K L)) S):Ok (evC ag (k+1) 34 [skE K,.ref n] S) Q:=by
 refine am (d:=cG) (ρ:=[aw (skE K),aw (.ref n),aD,aD]) rfl rfl ?_;dsimp only[cG,fG];k_is;have T:mi (.ref n) S=aw (!(L.map ac).isEmpty,S):=by simp only[mi,aq u]
 refine aa T ?_;k_is;rcases List.eq_nil_or_concat L with rfl |⟨L',z,rfl⟩
 ·k_is;exact aa sk1 q
 ·rw[List.concat_eq_append] at u v q ⊢;rw[show(!!((L'++[z]).map ac).isEmpty)=aS by simp];k_is;have j:=v z (by simp);refine aa (qS (ds:=L'.map ac) (e:=ac z) (by rw[u,ZF];rfl)) ?_;rw[show ac z = .tup [.int z.1,.int z.2] from rfl];k_is;refine aa sk2 ?_;obtain⟨a,b,c,d,e,f,h,E,y,_⟩:=gl7 V j.1 j.2;refine aa (b9 j.1 E) (aa (show ixS (az [a,b,c,d,e,f,h]) (.int 0) S=aw (.int a,S) from rfl) ?_);k_is
  have:ay K (L'++[z])=aw (a,z.2):=by
   unfold ay;rw[YL];simp[y]
  rw[this] at q;exact q
def xv(V:Vd K){a:Option (Int × Int)}{b:Int}(j:∀q,a=aw q->0<=q.1/\q.1 < K.M.length)(n:0<=b)(u:b < K.M.length)(q:Q (.int (tG K a b)) S):Ok (evC ag (k+1) 35 [skE K,ahE a,.int b] S) Q:=by
 refine am (d:=jS) (ρ:=[aw (skE K),aw (ahE a),aw (.int b)]) rfl rfl ?_;dsimp only[jS,pf];k_is;cases a with
 |none=>exact aa (show ak .is (ahE aD) .non S=aw (.bl aN,S) from rfl) (by k_is;exact q)
 |some z=>
  refine aa (show ak .is (ahE (aw z)) .non S=aw (.bl aS,S) from rfl) ?_;k_is;obtain⟨h,c⟩:=j z rfl;refine aa (show ixS (ahE (aw z)) (.int 1) S=aw (.int z.2,S) from rfl) ?_;refine aa sk0 (aa me2 (aa (show ixS (ahE (aw z)) (.int 0) S=aw (.int z.1,S) from rfl) ?_));obtain⟨r,f,v⟩:=jX (S:=S) V h c n u;refine aa f (aa v ?_);k_is;exact q
def nD(V:Vd K){z:Int × Int}{t:Int}(j:0<=z.1)(n:z.1 < K.G.length)(q:Q (.bl (aF K t z)) S):Ok (evC ag (k+1) 37 [skE K,ac z,.int t] S) Q:=by
 refine am (d:=iG) (ρ:=[aw (skE K),aw (ac z),aw (.int t),aD,aD]) rfl rfl ?_;dsimp only[iG,m8];rw[show ac z = .tup [.int z.1,.int z.2] from rfl];k_is;refine aa sk2 ?_;obtain⟨a,b,c,d,e,f,h,v,_,u,_⟩:=gl7 V j n;refine aa (b9 j v) (aa (show ixS (az [a,b,c,d,e,f,h]) (.int 1) S=aw (.int b,S) from rfl) ?_);k_is;have E:aF K t z=(decide (b<=t) && decide (t < z.2 - K.s)):=by unfold aF jn;rw[u]
 rw[E] at q;cases C:decide (b<=t) with
 |false=>rw[C] at q;k_is;exact q
 |true=>
  rw[C] at q;k_is;refine aa sk0 (aa me1 ?_);k_is;exact q
def CH(V:Vd K){L:List (Int × Int)}{n:Nat}{t:Int}(h:S[n]?=aw (.lst (L.map ac)))(f:InG K L)(c:L.length<=1000)(q:∀b,Sm S b->Q (.int (wts K L t)) b):Ok (evC ag (k+2) 38 [skE K,.ref n,.int t] S) Q:=by
 refine am (d:=cI) (ρ:=[aw (skE K),aw (.ref n),aw (.int t)]) rfl rfl ?_;dsimp only[cI,fI];k_is;refine⟨by rw[aq h];rfl,?_⟩;refine aX L ac (λz=>if aF K t z=aN then [ac z] else []) c (λz _=>by split <;> simp) (bH h) (λi z b j sm=>⟨_,rfl,?_⟩) λb sm=>?_
 ·have:=f z (Zc j);k_is;refine⟨rfl,nD V this.1 this.2 ?_⟩;k_is;cases aF K t z with
  |true=>k_is;exact⟨rfl,Sm.refl _⟩
  |false=>k_is;exact⟨rfl,Sm.refl _⟩
 ·rw[bv];refine aa (show cb aS ((L.filter (aF K t)).map ac) b=aw (.int (wts K L t),b) by unfold cb wts;rw[Za]) ?_;k_is;exact q b sm
def zl{x:Int}{X:List Int}:dD ((x::X).map D.int)=aD:=by simp only[Zw,dD,mw]
def fw:∀ (X:List Int),fD (X.map D.int)=aw X
 |[]=>rfl
 |x::X=>by simp only[Zw,fD,fw X]
def nF{xs:List Int}(h:xs.length < 64):cD aS (xs.map D.int)=aw ((fC xs).map D.int):=by
 unfold cD;rw[if_pos rfl];cases xs with
 |nil=>rfl
 |cons x xs=>
  simp only[uX,zl,fw];rw[if_pos h]
def vW:(js K).length=K.G.length:=by unfold js;rw[(bP _).length_eq,Za]
def nG(V:Vd K)(q:∀S',Sm S S'->S'[Zd S' - 1]?=aw (.lst ((js K).map D.int))->Zd S<=Zd S' - 1->Q (.ref (Zd S' - 1)) S'):Ok (evC ag (k+1) 39 [skE K] S) Q:=by
 refine am (d:=b5) (ρ:=[aw (skE K)]) rfl rfl ?_;dsimp only[b5,dq];k_is;refine aa sk2 ?_;k_is;refine aX K.G az (λg=>[.int (g.getD 1 0)]) (by have:=V.g7;lia) (λ_ _=>Ze _) cw (λi g S' u sm=>⟨_,rfl,?_⟩) λS' sm=>?_
 ·obtain⟨l7,_⟩:=V.gl g (Zc u)
  match g,l7 with
  |[a,b,c,d,e,f,h],_=>
   k_is;exact aa (show ixS (az [a,b,c,d,e,f,h]) (.int 1) S'=aw (.int b,S') from rfl) ⟨rfl,Sm.refl _⟩
 ·rw[aU];refine⟨_,show cD aS (K.G.map λg=>D.int (g.getD 1 0))=aw ((js K).map D.int) from ?_,?_⟩
  ·have:=nF (xs:=K.G.map λg=>g.getD 1 0) (by rw[Za];have:=V.g7;lia);rw[ZL] at this;exact this
  ·have e:Zd (S'++[Ob.lst ((js K).map D.int)]) - 1=Zd S':=by simp
   have sl:Zd S<=Zd S':=by
    cases n:decide (Zd S<=Zd S') with
    |true=>exact of_decide_eq_true n
    |false=>
     exfalso;have j:Zd S' < Zd S:=by have:=of_decide_eq_false n;lia
     have:=sm (Zd S') S[Zd S'] (gEG j);rw[Zs (Ze _)] at this;cases this
   have:=q (S'++[Ob.lst ((js K).map D.int)]) (sm.trans (Sm.app _ _)) (by rw[e];exact aC) (by rw[e];exact sl);rw[e] at this;exact this
def dS{n:Nat}{b:List D}{i:Int}{d:D}(c:S[n]?=aw (.lst b))(f:0<=i)(h:b[i.toNat]?=aw d):ixS (.ref n) (.int i) S=aw (d,S):=by
 obtain⟨j,rfl⟩:∃j:Nat,i=(j:Int):=⟨i.toNat,by lia⟩;rw[Zy] at h;simp only[ixS,ao,aq c,ZD,Ev.wy h]
def jp{n:Nat}{d:List D}{j:Nat}(b:S[n]?=aw (.lst d)):slS aD (aw (j:Int)) (.ref n) S=aw (.ref (Zd S),S++[.lst (d.take j)]):=by
 have:dY d aD (aw (j:Int))=d.take j:=by
  by_cases h:j<=d.length
  ·exact dZ d j h
  ·unfold dY;rw[Dw.uD _ _ (by lia),Zy,Wi (by lia)];show(d.drop 0).take (d.length - 0)=d.take j;rw[Wt,Ye (by lia),Ye (by lia)]
 simp only[slS,aq b,this]
def xw{a b:Nat}{xs y:List D}(h:S[a]?=aw (.lst xs))(hb:S[b]?=aw (.lst y))(c:xs.length+y.length<=100000):bL .add (.ref a) (.ref b) S=aw (.ref (Zd S),S++[.lst (xs++y)]):=by
 simp only[bL,kM,Jz,h,hb];rw[if_pos c]
def ca{n:Nat}{d:List D}(h:S[n]?=aw (.lst d)):aj cb (.ref n) S=aw (.int d.length,S):=by simp only[aj,ao,aq h,ZD,cb]
def CJ{xs:List Int}(h:xs ≠ []):n9 aS (xs.map D.int) S=aw (.int (iu xs),S):=by
 cases xs with
 |nil=>exact absurd rfl h
 |cons x xs=>unfold n9;rw[fw]
def GI(V:Vd K){L:List (Int × Int)}{n j:Nat}{z:Int × Int}(hn:S[n]?=aw (.lst (L.map ac)))(J:L[j]?=aw z)(C:InG K L)(hl:L.length<=100)(q:∀f,Sm S f->Q (.int (tH K (L.take j) z.1 z.2)) f):Ok (evC ag (k+3) 43 [skE K,.ref n,.int j,.int (jn K z.1)] S) Q:=by
 refine am (d:=dN) (ρ:=[aw (skE K),aw (.ref n),aw (.int j),aw (.int (jn K z.1)),aD,aD]) rfl rfl ?_;dsimp only[dN,ij];have h:=C z (Zc J);k_is;refine aa (jp hn) ?_;k_is;have I:Sm S (S++[Ob.lst ((L.map ac).take j)]):=Sm.app _ _;have a1:(S++[Ob.lst ((L.map ac).take j)])[Zd S]?=aw (Ob.lst ((L.take j).map ac)):=by rw[aC,Yp]
 generalize Zd S=N1 at *;generalize S++[Ob.lst ((L.map ac).take j)]=S1 at *;refine⟨rfl,nG V λS2 B X _=>?_⟩;k_is;refine⟨by rw[aq X];rfl,?_⟩;have v:(js K).length<=7:=by rw[vW];exact V.g7
 refine aX (js K) D.int (λt=>if (decide (jn K z.1 < t) && aF K t z)=aN then [D.int t] else []) (by lia) (λ_ _=>by split <;> simp) (bH X) (λi t f ht sm=>⟨_,rfl,?_⟩) λb T=>?_
 ·k_is;cases c:decide (jn K z.1 < t) with
  |false=>k_is;exact⟨rfl,Sm.refl _⟩
  |true=>
   k_is;have y:=sm _ _ (B _ _ (I _ _ hn));refine aa (dS y (by lia) (show(L.map ac)[((j:Nat):Int).toNat]?=aw (ac z) by rw[Zy,Zp,J];rfl)) ?_;refine⟨rfl,nD V h.1 h.2 ?_⟩;k_is;cases aF K t z with
   |true=>k_is;exact⟨rfl,Sm.refl _⟩
   |false=>k_is;exact⟨rfl,Sm.refl _⟩
 ·rw[bv];k_is;have lt3:Zd b < Zd (b++[Ob.lst (((js K).filter λt=>decide (jn K z.1 < t) && aF K t z).map D.int)]):=by simp
  have a3:(b++[Ob.lst (((js K).filter λt=>decide (jn K z.1 < t) && aF K t z).map D.int)])[Zd b]?=aw (Ob.lst (((js K).filter λt=>decide (jn K z.1 < t) && aF K t z).map D.int)):=aC;have U:Sm b (b++[Ob.lst (((js K).filter λt=>decide (jn K z.1 < t) && aF K t z).map D.int)]):=Sm.app _ _;have lf:((js K).filter λt=>decide (jn K z.1 < t) && aF K t z).length<=7:=Z0 (Yj _ _) v;generalize Zd b=N3 at *;generalize b++[Ob.lst (((js K).filter λt=>decide (jn K z.1 < t) && aF K t z).map D.int)]=S4 at *;have u:Sm S4 (S4++[Ob.lst [D.int (jn K z.1)]]):=Sm.app _ _;refine aa (xw (xs:=[D.int (jn K z.1)]) aC (u _ _ a3) (by rw[Za,Zr];lia)) ?_;k_is;have O:Sm (S4++[Ob.lst [D.int (jn K z.1)]]) (S4++[Ob.lst [D.int (jn K z.1)]]++[Ob.lst ([D.int (jn K z.1)]++((js K).filter λt=>decide (jn K z.1 < t) && aF K t z).map D.int)]):=Sm.app _ _;have Z:(S4++[Ob.lst [D.int (jn K z.1)]]++[Ob.lst ([D.int (jn K z.1)]++((js K).filter λt=>decide (jn K z.1 < t) && aF K t z).map D.int)])[Zd (S4++[Ob.lst [D.int (jn K z.1)]])]?=aw (Ob.lst ((iP K (L.take j) z.1 z.2).map D.int)):=aC;refine⟨by rw[aq Z];rfl,?_⟩;have sA:=((((I.trans B).trans T).trans U).trans u).trans O;have aL:=(((((B.trans T).trans U).trans u).trans O)) _ _ a1;refine aX (iP K (L.take j) z.1 z.2) D.int (λt=>[D.int (1+(wts K (L.take j) t:Int))]) (by show((js K).filter λt=>decide (jn K z.1 < t) && aF K t z).length+1<=1000;lia) (λ_ _=>Ze _) (bH Z) (λi t f ht sm=>⟨_,rfl,?_⟩) λY s7=>?_
  ·k_is;refine⟨rfl,CH V (sm _ _ aL) (λw hw=>C w (Z5 hw)) (by rw[Yb];lia) λS8 s8=>?_⟩;k_is;exact⟨rfl,s8⟩
  ·rw[aU];have E:=CJ (S:=Y) (xs:=(iP K (L.take j) z.1 z.2).map λt=>1+(wts K (L.take j) t:Int)) (by unfold iP;simp);rw[ZL] at E;exact aa E (by k_is;exact q Y (sA.trans s7))
def xy(V:Vd K){L:List (Int × Int)}{n j:Nat}{z:Int × Int}(I:S[n]?=aw (.lst (L.map ac)))(B:L[j]?=aw z)(C:InG K L)(Y:L.length<=100)(q:∀v,Sm S v->Q (.bl (tI K (L.take j) z.1 z.2)) v):Ok (evC ag (k+4) 42 [skE K,.ref n,.int j] S) Q:=by
 refine am (d:=dM) (ρ:=[aw (skE K),aw (.ref n),aw (.int j),aD,aD,aD,aD,aD,aD,aD]) rfl rfl ?_;dsimp only[dM,ig];have u:=C z (Zc B);obtain⟨a,b,c,d,e,f,h,U,e0,T,e2,e3,e6,_⟩:=gl7 V u.1 u.2;have hi:=dS I (show(0:Int)<=(j:Int) by lia) (show(L.map ac)[((j:Nat):Int).toNat]?=aw (ac z) by rw[Zy,Zp,B];rfl);k_is;refine aa sk2 (aa hi (aa (show ixS (ac z) (.int 0) S=aw (.int z.1,S) from rfl) (aa (b9 u.1 U) ?_)));rw[show az [a,b,c,d,e,f,h] = .tup [.int a,.int b,.int c,.int d,.int e,.int f,.int h] from rfl];k_is;have E:jn K z.1=b:=T;have Z:tI K (L.take j) z.1 z.2=(decide (0 < h) && (aF K b z && decide (h < tH K (L.take j) z.1 z.2))):=by unfold tI;rw[e6,E]
 rw[Z] at q;cases J:decide (0 < h) with
 |false=>rw[J] at q;k_is;exact q S (Sm.refl S)
 |true=>
  rw[J] at q;k_is;refine aa hi ?_;refine⟨rfl,nD V u.1 u.2 ?_⟩;k_is;cases O:aF K b z with
  |false=>rw[O] at q;k_is;exact q S (Sm.refl S)
  |true=>
   rw[O] at q;k_is
   have rg:=GI (k:=k) (Q:=λy X=>wCx .gt y (.int h) X λd S1=>Q d S1) V I B C Y λv sm=>by
    k_is;exact q v sm
   rw[E] at rg;exact⟨rfl,rg⟩
def GJ(V:Vd K){j:Nat}{m:Int}(q:∀n,Sm S n->Q (.bl (kO K j m)) n):Ok (evC ag (k+2) 49 [skE K,.int j,.int m] S) Q:=by
 refine am (d:=b6) (ρ:=[aw (skE K),aw (.int j),aw (.int m),aD,aD,aD,aD,aD,aD]) rfl rfl ?_;dsimp only[b6,dr];k_is;refine aa sk0 ?_;rw[show meE K = .tup [.int K.r,.int K.s,.tup (K.M.map az),.tup (K.H.map ac)] from rfl];k_is;refine⟨rfl,nG V λu v f _=>?_⟩;k_is;refine aa (ca f) ?_;k_is;rw[Za];have r0:=V.r0;have E:kO K j m=match (js K)[(K.r+j).toNat]? with |some t=>decide (t < m - K.s) |none=>aS:=rfl
 refine cv (λh=>?_) λh=>?_
 ·have b:(K.r+j).toNat < (js K).length:=by have:=of_decide_eq_true h;lia
  rw[gEG b] at E;k_is;refine aa (dS f (by lia) (show((js K).map D.int)[(K.r+(j:Int)).toNat]?=aw (.int (js K)[(K.r+(j:Int)).toNat]) by rw[Zp,gEG b];rfl)) ?_;k_is;have:=q u v;rw[E] at this;exact this
 ·have c:(js K).length<=(K.r+j).toNat:=by have:=of_decide_eq_false h;lia
  rw[Zs c] at E;have:=q u v;rw[E] at this;exact this
abbrev nI:Option Int->D
 |none=>.non
 |some m=>.int m
def pF(V:Vd K){a:Option (Int × Int)}{g:Int}{j:Nat}(Z:∀q,a=aw q->0<=q.1/\q.1 < K.M.length)(v:0<=g)(Y:g < K.G.length)(q:∀y,Sm S y->Q (nI (Sn.step K a g j)) y):Ok (evC ag (k+3) 48 [skE K,ahE a,.int g,.int j] S) Q:=by
 refine am (d:=cr) (ρ:=[aw (skE K),aw (ahE a),aw (.int g),aw (.int j),aD,aD,aD,aD,aD,aD,aD,aD]) rfl rfl ?_;dsimp only[cr,eJ];obtain⟨n,b,c,d,e,f,h,J,L,e1,E,e3,e6,T,X,U⟩:=gl7 V v Y;k_is;refine aa sk2 (aa (b9 v J) ?_);rw[show az [n,b,c,d,e,f,h] = .tup [.int n,.int b,.int c,.int d,.int e,.int f,.int h] from rfl];k_is;refine aa sk0 ?_;refine⟨rfl,xv V Z T X ?_⟩;k_is;refine⟨rfl,MZ V.h4 ?_⟩;k_is
 have I:fns K.H (if tG K a n > c then tG K a n else c)=opm K.H (a8 K a g):=by
  have:=CD (K:=K) (ah:=a) (g:=g) (by rw[E];exact U);rw[L,E] at this;rw[this,qZ V.ris]
 rw[I];have O:Sn.step K a g j=if (decide (d < opm K.H (a8 K a g)) || kO K j (opm K.H (a8 K a g)))=aN then aD else aw (opm K.H (a8 K a g)):=by unfold Sn.step;rw[e3]
 rw[O] at q;cases C:decide (d < opm K.H (a8 K a g)) with
 |true=>rw[C] at q;k_is;exact q S (Sm.refl S)
 |false=>
  rw[C] at q;k_is;refine⟨rfl,GJ V λz u=>?_⟩;k_is;cases B:kO K j (opm K.H (a8 K a g)) with
  |true=>rw[B] at q;k_is;exact q z u
  |false=>rw[B] at q;k_is;exact q z u
def Sm.setNew{S b:Sto}{f:Nat}{o:Ob}(h:Sm S b)(c:S.length<=f):Sm S (b.set f o):=λi u e=>by
 have hi:=(Zb.mp e).1;rw[Zv (by lia)];exact h i u e
def CK{g:Int}(b:0<=g)(c:g < K.G.length):jn K g ∈ js K:=by
 have hi:g.toNat < K.G.length:=by lia
 refine(bP _).mem_iff.mpr (Zu.mpr ⟨K.G[g.toNat],ZJ hi,?_⟩);unfold jn gi;rw[gEG hi];rfl
def gG(V:Vd K){L:List (Int × Int)}(u:InG K L):∀q,ay K L=aw q->0<=q.1/\q.1 < K.M.length:=λq e=>by
 unfold ay at e;cases h:L.getLast? with
 |none=>rw[h] at e;exact V.ah0 q e
 |some z=>
  rw[h] at e;cases e;have j:=u z (Xc h);obtain⟨a,b,c,d,e,f,h,I,E,C,y,O,B,n,v,J⟩:=gl7 V j.1 j.2;show 0<=gi K.G z.1 0/\gi K.G z.1 0 < K.M.length;rw[E];exact⟨n,v⟩
def aW{L:List (Int × Int)}{z:Int × Int}:ay K (L++[z])=aw (gi K.G z.1 0,z.2):=by
 unfold ay;rw[YL];rfl
def ir:∀ (os:List Int) (a:Option (Int × Int)) (L:List (Int × Int)) (j:Nat),rn K os a L = .inl j->j < L.length+os.length
 |[],_,_,_,h=>by cases h
 |g::os,a,L,j,h=>by
  rw[rn] at h;rw[Zo];split at h
  ·cases h;lia
  ·split at h
   ·cases h;lia
   ·have:=ir os _ _ j h;rw[Zh,Zr] at this
    lia
def gW:∀ (os:List Int) (a:Option (Int × Int)) (L R:List (Int × Int)),rn K os a L = .inr R->R.length=L.length+os.length
 |[],_,_,_,h=>by cases h;rfl
 |g::os,a,L,R,h=>by
  rw[rn] at h;rw[Zo];split at h
  ·cases h
  ·split at h
   ·cases h
   ·have:=gW os _ _ R h;rw[Zh,Zr] at this
    lia
structure Ends(K:Sky)(os:List Int)(L:List (Int × Int)):Prop where
 stuck:∀j,rn K os K.ah [] = .inl j->L.length=j
 lands:∀R,rn K os K.ah [] = .inr R->L=R
def kH(V:Vd K){os:List Int}(ho:∀g ∈ os,0<=g/\g < K.G.length)(lo:os.length<=7)
  (q:∀n L E,Sm S E->E[n]?=aw (.lst (L.map ac))->Zd S<=n->Ends K os L->Q (.ref n) E):Ok (evC ag (k+5) 46 [skE K,.tup (os.map D.int)] S) Q:=by
 refine am (d:=bQ) (ρ:=[aw (skE K),aw (.tup (os.map D.int)),aD,aD,aD,aD]) rfl rfl ?_;dsimp only[bQ,cX];k_is;refine CG (by rw[Za];lia) (λi ρ E=>Sm S E/\∃L u v w,ρ=[aw (skE K),aw (.tup (os.map D.int)),aw (.ref (Zd S)),u,v,w]/\E[Zd S]?=aw (.lst (L.map ac))/\L.length=i/\InG K L/\rn K os K.ah []=rn K (os.drop i) (ay K L) L) (λi d ρ S1 hd ⟨X,L,u,v,w,er,U,hi,C,b⟩=>?_) (λρ S1 ⟨X,L,u,v,w,er,U,hi,C,b⟩=>?_) ⟨Sm.app _ _,[],aD,aD,aD,rfl,aC,rfl,λ_ h=>(by simp at h),rfl⟩
 ·subst er;obtain⟨g,hg,rfl⟩:=gD hd;have y:=ho g (Zc hg);have hil:i < os.length:=(Zb.mp hg).1;rw[lh hg,rn,hi] at b;refine⟨_,bn (by simp) (by simp),?_⟩;k_is;refine⟨rfl,nB V U C ?_⟩;refine⟨rfl,pF V (gG V C) y.1 y.2 λf Y=>?_⟩;k_is;cases T:Sn.step K (ay K L) g i with
  |none=>
   rw[T] at b;refine aa (show ak .is (nI aD) .non f=aw (.bl aN,f) from rfl) ?_;k_is;exact q _ L f (X.trans Y) (Y _ _ U) (Ze _) ⟨λj e=>by rw[b] at e;cases e;exact hi,λR e=>by rw[b] at e;cases e⟩
  |some m=>
   rw[T] at b;refine aa (show ak .is (nI (aw m)) .non f=aw (.bl aS,f) from rfl) ?_;rw[show nI (aw m) = .int m from rfl];k_is;have B:=Y _ _ U;refine⟨df B,?_⟩;rw[nv B (by rw[Za];lia)];k_is;have lt2:Zd S < f.length:=(Zb.mp B).1;have c:(f.set (Zd S) (Ob.lst (L.map ac++[D.tup [D.int g,D.int m]])))[Zd S]?=aw (.lst ((L++[(g,m)]).map ac)):=by rw[dR lt2,ZF];rfl
   have s3:Sm S (f.set (Zd S) (Ob.lst (L.map ac++[D.tup [D.int g,D.int m]]))):=Sm.setNew (X.trans Y) (Ze _);generalize f.set (Zd S) (Ob.lst (L.map ac++[D.tup [D.int g,D.int m]]))=S3 at *
   have J:InG K (L++[(g,m)]):=λz hz=>by
    rcases ZS.mp hz with hz |hz
    ·exact C z hz
    ·rw[ZM.mp hz];exact y
   have Z:(L++[(g,m)])[i]?=aw (g,m):=by rw[Zm (by lia),hi,Z7];rfl
   have I:(L++[(g,m)]).take i=L:=by rw[<-hi,Xj]
   refine⟨rfl,xy V c Z J (by rw[Zh,Zr];lia) λS4 O=>?_⟩;rw[I,xu λz hz=>CK (C z hz).1 (C z hz).2];k_is;dsimp only at b;cases hh:bK K L g m with
   |true=>
    rw[hh,if_pos rfl] at b;k_is;refine aa (jp (O _ _ c)) ?_;k_is;have a5:(S4++[Ob.lst (((L++[(g,m)]).map ac).take i)])[Zd S4]?=aw (.lst (L.map ac)):=by rw[aC,<-Yp,I]
    have l4:Zd S<=Zd S4:=YW (Zb.mp (O _ _ c)).1;exact q _ L _ ((s3.trans O).trans (Sm.app _ _)) a5 l4 ⟨λj e=>by rw[b] at e;cases e;exact hi,λR e=>by rw[b] at e;cases e⟩
   |false=>
    rw[hh,if_neg Zg] at b;k_is;exact⟨s3.trans O,L++[(g,m)],_,_,_,rfl,O _ _ c,by rw[Zh,Zr];lia,J,by rw[aW];exact b⟩
 ·subst er;k_is;rw[Za,YN,rn] at b;exact q _ L S1 X U (Ze _) ⟨λj e=>(by rw[b] at e;cases e),λR e=>(by rw[b] at e;cases e;rfl)⟩
end Lw
namespace Lw
open PySem Ev
variable {p:Nat} {S:Sto} {k:Nat} {Q:D->Sto->Prop}
end Lw
namespace Lw
open PySem Ev Sn
variable {p:Nat} {S:Sto} {k:Nat} {Q:D->Sto->Prop} {K:Sky}
def jq(r:List Int):TDs p S (r.map Dw.D.int) (r.map D.int):=by
 induction r with
 |nil=>exact b8
 |cons a r I=>exact aI bz I
def jY:∀ (M:List (List Int)),TDs p S (Dw.Au M) (M.map az)
 |[]=>b8
 |r::M=>aI (c9 (jq r)) (jY M)
abbrev ahT:Option (Int × Int)->Dw.D
 |none=>.non
 |some q=>.tup [.int q.1,.int q.2]
def Qc:∀ (a:Option (Int × Int)),TD p S (ahT a) (ahE a)
 |none=>KB
 |some q=>c9 (aI bz (aI bz b8))
structure Ord(K:Sky)(os:List Int):Prop where
 nd:os.Nodup
 bd:∀g ∈ os,0<=g/\g < K.G.length
 ln:os.length=K.G.length
 fx:∃r,os=K.F++r
 pm:os.Perm ((Zk K.G.length).map λi=>Int.ofNat i)
def jr{n:Nat}:∀ (X:List Int),eqL (eqD (n+1) S) (X.map D.int) (X.map D.int)=aw aN
 |[]=>rfl
 |x::X=>by
  have e:eqD (n+1) S (D.int x) (D.int x)=aw (x == x):=rfl;rw[Zw,eqL,e,jr X,beq_self_eq_true];rfl
def GK(X:List Int):ak .eq (.tup (X.map D.int)) (.tup (X.map D.int)) S=aw (.bl aN,S):=by
 have:eqD 60 S (.tup (X.map D.int)) (.tup (X.map D.int))=eqL (eqD 59 S) (X.map D.int) (X.map D.int):=rfl;simp only[ak,eqS];rw[this,jr];rfl
def GL{X Y:List D}(h:Ok (ak .eq (.tup X) (.tup Y) S) Q):tw .eq X (.tup Y) S Q:=by
 cases Y with
 |nil=>rw[xk,aG] at h;exact h
 |cons y Y=>exact h
abbrev Res(K:Sky)(os:List Int)(b:Nat)(d:D)(c:Sto):Prop:=match rn K os K.ah [] with
 |.inl j=>d = .tup [.str "stuck", .int j]
 |.inr R=>∃n,d = .tup [.str "lands", .ref n]/\c[n]?=aw (.lst (R.map ac))/\b<=n
def tK{H:List (Int × Int)}{m:Int}(J:H.length<=4)(q:Q (.int (opm H m)) S):Ok (evC ag (k+1) 63 [.tup (H.map ac),.int m] S) Q:=by
 refine am (d:=iK) (ρ:=[aw (.tup (H.map ac)),aw (.int m),aD,aD]) rfl rfl ?_;dsimp only[iK,ng];k_is;refine CF (by rw[Za];lia) (λi j c=>c=S/\∃ (b:Int) (u v:Option D),opm H m=opm (H.drop i) b/\j=[aw (.tup (H.map ac)),aw (.int b),u,v]) (λi d j c hd ⟨f,b,u,v,E,n⟩=>?_) (λj c ⟨f,b,u,v,E,n⟩=>?_) ⟨rfl,m,aD,aD,rfl,rfl⟩
 ·subst f n;obtain⟨y,I,rfl⟩:=gD hd;refine⟨_,show ax (.tup [.name 2,.name 3]) (.tup [.int y.1,.int y.2]) _=_ from bn (by simp) (by simp),?_⟩;k_is;rw[lh I,opm] at E;refine tJ (λC B=>?_) λh=>?_
  ·k_is;rw[if_pos ⟨of_decide_eq_true C,of_decide_eq_true B⟩] at E;exact⟨rfl,_,_,_,E,rfl⟩
  ·k_is;rw[if_neg (λz=>by rw[decide_eq_true z.1,decide_eq_true z.2] at h;cases h)] at E;exact⟨rfl,_,_,_,E,rfl⟩
 ·subst f n;k_is;rw[Za,YN,opm] at E;rw[E] at q;exact q
def pG(V:Vd K){L:List (Int × Int)}{n:Nat}{t:Int}(y:S[n]?=aw (.lst (L.map ac)))(I:InG K L)(O:L.length<=1000)(q:∀N u j,Sm S j->j[N]?=aw (.lst u)->u.length=wts K L t->Q (.ref N) j):Ok (evC ag (k+1) 64 [skE K,.ref n,.int t] S) Q:=by
 refine am (d:=gx) (ρ:=[aw (skE K),aw (.ref n),aw (.int t)]) rfl rfl ?_;dsimp only[gx,kG];k_is;refine⟨by rw[aq y];rfl,?_⟩;refine aX L ac (λz=>if aF K t z=aN then [.int z.1] else []) O (λz _=>by split <;> simp) (bH y) (λi z j J sm=>⟨_,show ax (.tup [.name 3,.name 4]) (.tup [.int z.1,.int z.2]) _=_ from bn (by simp) (by simp),?_⟩) λj sm=>?_
 ·obtain⟨v,B⟩:=I z (Zc J);obtain⟨a,b,c,d,e,f,h,C,_,E,_⟩:=gl7 V v B;k_is;refine aa sk2 (aa (b9 v C) (aa (show ixS (az [a,b,c,d,e,f,h]) (.int 1) j=aw (.int b,j) from rfl) ?_));k_is;have T:aF K t z=(decide (b<=t) && decide (t < z.2 - K.s)):=by unfold aF jn;rw[E]
  rw[T];cases X:decide (b<=t) with
  |false=>k_is;exact⟨rfl,Sm.refl _⟩
  |true=>
   k_is;refine aa sk0 (aa me1 ?_);k_is;cases U:decide (t < z.2 - K.s) with
   |true=>k_is;exact⟨rfl,Sm.refl _⟩
   |false=>k_is;exact⟨rfl,Sm.refl _⟩
 ·rw[bv];k_is;exact q _ _ _ (sm.trans (Sm.app _ _)) aC (by rw[Za];rfl)
def zm{c:Int}{X:List Int}{n:Nat}(h:S[n]?=aw (.lst (X.map D.int))):aj (eB c) (.ref n) S=aw (.int (fT c X),S):=by
 simp only[aj,ao,aq h,ZD,eB,fw]
def tL(V:Vd K){L:List (Int × Int)}{n:Nat}{g m:Int}(Z:S[n]?=aw (.lst (L.map ac)))(J:InG K L)(hl:L.length<=100)(T:0<=g)(g1:g < K.G.length)(q:∀u,Sm S u->Q (.int (fu K L g m)) u):Ok (evC ag (k+2) 65 [skE K,.ref n,.int g,.int m] S) Q:=by
 refine am (d:=iL) (ρ:=[aw (skE K),aw (.ref n),aw (.int g),aw (.int m),aD,aD,aD]) rfl rfl ?_;dsimp only[iL,nh];obtain⟨a,b,c,d,e,f,h,B,_,E,_⟩:=gl7 V T g1;have Y:jn K g=b:=E;k_is;refine aa sk2 (aa (b9 T B) (aa (show ixS (az [a,b,c,d,e,f,h]) (.int 1) S=aw (.int b,S) from rfl) ?_));k_is;have O:Sm S (S++[Ob.lst [D.int b]]):=Sm.app _ _;have a1:(S++[Ob.lst [D.int b]])[Zd S]?=aw (Ob.lst [D.int b]):=aC;generalize Zd S=N1 at *;generalize S++[Ob.lst [D.int b]]=S1 at *;have v:=O _ _ Z;refine⟨by rw[aq v];rfl,?_⟩;refine aX L ac (λz=>[.int (jn K z.1)]) (by lia) (λ_ _=>Ze _) (bH v) (λi z u hz sm=>⟨_,show ax (.tup [.name 7,.name 8]) (.tup [.int z.1,.int z.2]) _=_ from bn (by simp) (by simp),?_⟩) λj s2=>?_
 ·obtain⟨h0,h1⟩:=J z (Zc hz);obtain⟨a,b,c,d,e,f,h,B,_,E,_⟩:=gl7 V h0 h1;k_is;refine aa sk2 (aa (b9 h0 B) (aa (show ixS (az [a,b,c,d,e,f,h]) (.int 1) u=aw (.int b,u) from rfl) ?_));exact⟨by rw[show jn K z.1=b from E],Sm.refl _⟩
 ·rw[aU];have U:Sm j (j++[Ob.lst (L.map λz=>D.int (jn K z.1))]):=Sm.app _ _;refine aa (xw (U _ _ (s2 _ _ a1)) aC (by rw[Za,Zr];lia)) ?_;k_is;have s4:Sm (j++[Ob.lst (L.map λz=>D.int (jn K z.1))]) (j++[Ob.lst (L.map λz=>D.int (jn K z.1))]++[Ob.lst ([D.int b]++L.map λz=>D.int (jn K z.1))]):=Sm.app _ _
  have a4:(j++[Ob.lst (L.map λz=>D.int (jn K z.1))]++[Ob.lst ([D.int b]++L.map λz=>D.int (jn K z.1))])[Zd (j++[Ob.lst (L.map λz=>D.int (jn K z.1))])]?=aw (Ob.lst ((jn K g::L.map λz=>jn K z.1).map D.int)):=by
   rw[aC,Y,Zw,ZL];rfl
  have X:=((O.trans s2).trans U).trans s4;have I:=X _ _ Z;generalize Zd (j++[Ob.lst (L.map λz=>D.int (jn K z.1))])=N4 at *;generalize j++[Ob.lst (L.map λz=>D.int (jn K z.1))]++[Ob.lst ([D.int b]++L.map λz=>D.int (jn K z.1))]=S4 at *;refine⟨by rw[aq a4];rfl,?_⟩;refine aX (jn K g::L.map λz=>jn K z.1) D.int (λt=>if (decide (jn K g<=t) && decide (t < m - K.s))=aN then [D.int (1+(wts K L t:Int))] else []) (by rw[Zo,Za];lia) (λ_ _=>by split <;> simp) (bH a4) (λi t u ht sm=>⟨_,rfl,?_⟩) λy s5=>?_
  ·k_is;rw[Y];cases c1:decide (b<=t) with
   |false=>k_is;exact⟨rfl,Sm.refl _⟩
   |true=>
    k_is;refine aa sk0 (aa me1 ?_);k_is;cases c2:decide (t < m - K.s) with
    |false=>k_is;exact⟨rfl,Sm.refl _⟩
    |true=>
     k_is;refine⟨rfl,pG V (sm _ _ I) J (by lia) λN ds S6 C hN hd=>?_⟩;refine aa (ca hN) ?_;k_is;rw[hd];exact⟨rfl,C⟩
  ·rw[bv];k_is;have C:Sm y (y++[Ob.lst ((cK K L g m).map λt=>D.int (1+(wts K L t:Int)))]):=Sm.app _ _;have a6:(y++[Ob.lst ((cK K L g m).map λt=>D.int (1+(wts K L t:Int)))])[Zd y]?=aw (Ob.lst (((cK K L g m).map λt=>1+(wts K L t:Int)).map D.int)):=by rw[aC,ZL];rfl
   refine aa (zm a6) ?_;k_is;exact q _ ((X.trans s5).trans C)
def tM{d:List D}{i:Int}(b:0<=i):dY d (aw i) aD=d.drop i.toNat:=by
 unfold dY;rw[Dw.Jq _ _ b,HT.z3];by_cases h:i.toNat<=d.length
 ·rw[XD h,Ye (by rw[Y6];lia)]
 ·rw[Wi (by lia),YN,List.take_nil,Xx (by lia)]
def CL{n:Nat}{d:List D}{i:Int}(b:S[n]?=aw (.lst d))(h:0<=i):slS (aw i) aD (.ref n) S=aw (.ref (Zd S),S++[.lst (d.drop i.toNat)]):=by
 simp only[slS,aq b,tM h]
def vX(V:Vd K){a:Option (Int × Int)}{g:Int}{j:Nat}{kd jo L:Int}{w1 w2:Option D}(e3:gi K.G g 3=L)(q:∀u,Sm S u->Q (nI (Sn.step K a g j)) u) :
  rW (wSs (evC ag (k+1)) (fZ ag) 58 (fb.drop 2)) [aw (skE K),aw (ahE a),aw (.int g),aw (.int j),aw (.int kd),aw (.int jo),aw (.int (a8 K a g)),aw (.int L),aD,aD] S (out Q):=by
 dsimp only[fb,Yu];k_is;refine aa sk0 (aa me3 ?_);refine⟨rfl,tK V.h4 ?_⟩;k_is;have X:Sn.step K a g j=if (decide (L < opm K.H (a8 K a g)) || kO K j (opm K.H (a8 K a g)))=aN then aD else aw (opm K.H (a8 K a g)):=by unfold Sn.step;rw[e3]
 rw[X] at q;generalize opm K.H (a8 K a g)=m at *;refine aa sk2 ?_;k_is;refine aX K.G az (λg=>[.int (g.getD 1 0)]) (by have:=V.g7;lia) (λ_ _=>Ze _) cw (λi g u Y sm=>⟨_,rfl,?_⟩) λn T=>?_
 ·obtain⟨l7,_⟩:=V.gl g (Zc Y)
  match g,l7 with
  |[a,b,c,d,e,f,h],_=>
   k_is;exact aa (show ixS (az [a,b,c,d,e,f,h]) (.int 1) u=aw (.int b,u) from rfl) ⟨rfl,Sm.refl _⟩
 ·rw[aU];refine⟨_,show cD aS (K.G.map λg=>D.int (g.getD 1 0))=aw ((js K).map D.int) from ?_,?_⟩
  ·have:=nF (xs:=K.G.map λg=>g.getD 1 0) (by rw[Za];have:=V.g7;lia);rw[ZL] at this;exact this
  ·refine aa sk0 (aa me0 ?_);k_is;have s2:Sm n (n++[Ob.lst ((js K).map D.int)]):=Sm.app _ _;have Z:(n++[Ob.lst ((js K).map D.int)])[Zd n]?=aw (Ob.lst ((js K).map D.int)):=aC;generalize Zd n=N1 at *;generalize n++[Ob.lst ((js K).map D.int)]=S2 at *;have r0:=V.r0;refine aa (CL Z (by lia)) ?_;k_is;have U:Sm S2 (S2++[Ob.lst (((js K).map D.int).drop (K.r+(j:Int)).toNat)]):=Sm.app _ _;have C:(S2++[Ob.lst (((js K).map D.int).drop (K.r+(j:Int)).toNat)])[Zd S2]?=aw (Ob.lst (((js K).map D.int).drop (K.r+(j:Int)).toNat)):=aC;have l3:Zd S2 < Zd (S2++[Ob.lst (((js K).map D.int).drop (K.r+(j:Int)).toNat)]):=by simp
   generalize Zd S2=N2 at *;generalize S2++[Ob.lst (((js K).map D.int).drop (K.r+(j:Int)).toNat)]=S3 at *;have B:=(T.trans s2).trans U;cases I:decide (L < m) with
   |true=>rw[I] at q;k_is;exact q _ B
   |false=>
    rw[I] at q;k_is;refine aa (ne_nil (Sm.app _ _ _ _ C) aC (by lia)) ?_;k_is;have z:Sm S (S3++[Ob.lst []]):=B.trans (Sm.app _ _);have J:=Sm.app S3 [Ob.lst []] _ _ C;generalize S3++[Ob.lst []]=S4 at *;have E:kO K j m=match (js K)[(K.r+j).toNat]? with |some t=>decide (t < m - K.s) |none=>aS:=rfl
    by_cases v:(K.r+(j:Int)).toNat < (js K).length
    ·rw[gEG v] at E;dsimp only at E
     have y:((js K).map D.int).drop (K.r+(j:Int)).toNat = .int (js K)[(K.r+(j:Int)).toNat]::((js K).map D.int).drop ((K.r+(j:Int)).toNat+1):=by
      rw[YO (by rw[Za];exact v),Wj]
     rw[y] at J;rw[y,show(!(D.int (js K)[(K.r+(j:Int)).toNat]::((js K).map D.int).drop ((K.r+(j:Int)).toNat+1)).isEmpty)=aN from rfl];k_is;refine aa sk0 (aa me1 ?_);k_is;refine aa (dS (i:=0) J (by lia) rfl) ?_;k_is;rw[E] at q;cases O:decide ((js K)[(K.r+(j:Int)).toNat] < m - K.s) with
     |true=>rw[O] at q;k_is;exact q _ z
     |false=>rw[O] at q;k_is;exact q _ z
    ·rw[Zs (by lia)] at E;have y:((js K).map D.int).drop (K.r+(j:Int)).toNat=[]:=Xx (by rw[Za];lia);rw[y,show(!([]:List D).isEmpty)=aS from rfl];k_is;rw[E] at q;exact q _ z
def CM(V:Vd K){a:Option (Int × Int)}{g:Int}{j:Nat}(X:∀q,a=aw q->0<=q.1/\q.1 < K.M.length)(u:0<=g)(U:g < K.G.length)(q:∀v,Sm S v->Q (nI (Sn.step K a g j)) v):Ok (evC ag (k+2) 66 [skE K,ahE a,.int g,.int j] S) Q:=by
 refine am (d:=iM) (ρ:=[aw (skE K),aw (ahE a),aw (.int g),aw (.int j),aD,aD,aD,aD,aD,aD]) rfl rfl ?_;dsimp only[iM,fb];obtain⟨n,b,c,d,e,f,h,C,I,e1,y,e3,e6,J,L,c0⟩:=gl7 V u U;k_is;refine aa sk2 (aa (b9 u C) ?_);rw[show az [n,b,c,d,e,f,h] = .tup [.int n,.int b,.int c,.int d,.int e,.int f,.int h] from rfl];k_is;rw[show dY [D.int n,.int b,.int c,.int d,.int e,.int f,.int h] aD (aw 4)=[.int n,.int b,.int c,.int d] from rfl];k_is;have T:=vX (k:=k) (S:=S) (Q:=Q) V (a:=a) (g:=g) (j:=j) (kd:=n) (jo:=b) (w1:=aD) (w2:=aD) e3 q;dsimp only[fb,Yu] at T;cases a with
 |none=>
  have E:a8 K aD g=c:=y;rw[E] at T;refine aa (show ak .isnot (ahE aD) .non S=aw (.bl aS,S) from rfl) ?_;k_is;exact T
 |some z=>
  obtain⟨Z,Y⟩:=X z rfl;refine aa (show ak .isnot (ahE (aw z)) .non S=aw (.bl aN,S) from rfl) ?_;k_is;refine aa (show ixS (ahE (aw z)) (.int 1) S=aw (.int z.2,S) from rfl) ?_;refine aa sk0 (aa me2 (aa (show ixS (ahE (aw z)) (.int 0) S=aw (.int z.1,S) from rfl) ?_));obtain⟨r,B,O⟩:=jX (S:=S) V Z Y J L;refine aa B (aa O ?_);k_is;have E:a8 K (aw z) g=if z.2+gp K z.1 n > c then z.2+gp K z.1 n else c:=by unfold a8;rw[I,y]
  rw[E] at T;exact T
def nJ(V:Vd K){L:List (Int × Int)}{j:Sto}{N i:Nat}{g m h:Int}{O ad:D}(u:j[N]?=aw (.lst (L.map ac)))(C:L.length<=100)(n:0<=g)(y:g < K.G.length){Qf:Fl->Rho->Sto->Prop}
  (q:Qf .nx [aw (skE K),aw O,aw (ahE (ay K (L++[(g,m)]))),aw (.ref N),aw (.int i),aw (.int g),aw (.int m),aw (.int h)] (j.set N (.lst (L.map ac++[.tup [.int g,.int m]])))) :
  fU (.ref N) j=aN/\Ok (sE (.ref N) [.tup [.int g,.int m]] j) λ_ z=>rW (wSs (evC ag (k+2)) (fZ ag) 54 [CS.asg (Tg.name 2) (CE.tup [(((CE.var 0).ix (CE.int 2)).ix (CE.var 5)).ix (CE.int 0),CE.var 6])]) [aw (skE K),aw O,aw ad,aw (.ref N),aw (.int i),aw (.int g),aw (.int m),aw (.int h)] z Qf:=by
 refine⟨df u,?_⟩;rw[nv u (by rw[Za];lia)];obtain⟨a,b,c,d,e,f,v,E,B,_⟩:=gl7 V n y;k_is;refine aa sk2 (aa (b9 n E) (aa (show ixS (az [a,b,c,d,e,f,v]) (.int 0) (j.set N (.lst (L.map ac++[.tup [.int g,.int m]])))=aw (.int a,_) from rfl) ?_));k_is;rw[aW,B] at q;exact q
def tN(V:Vd K){os:List Int}(ho:∀g ∈ os,0<=g/\g < K.G.length)(lo:os.length<=7)(q:∀d S',Sm S S'->Res K os (Zd S) d S'->Q d S'):Ok (evC ag (k+3) 67 [skE K,.tup (os.map D.int)] S) Q:=by
 refine am (d:=dQ) (ρ:=[aw (skE K),aw (.tup (os.map D.int)),aD,aD,aD,aD,aD,aD]) rfl rfl ?_;dsimp only[dQ,il];k_is;refine aa sk1 ?_;k_is;refine CG (by rw[Za];lia) (λi ρ S'=>Sm S S'/\∃L u v w x,ρ=[aw (skE K),aw (.tup (os.map D.int)),aw (ahE (ay K L)),aw (.ref (Zd S)),u,v,w,x]/\S'[Zd S]?=aw (.lst (L.map ac))/\L.length=i/\InG K L/\rn K os K.ah []=rn K (os.drop i) (ay K L) L) (λi d ρ S1 hd ⟨E,L,u,v,w,x,X,hn,hi,U,n⟩=>?_) (λρ S1 ⟨E,L,u,v,w,x,X,hn,hi,U,n⟩=>?_) ⟨Sm.app _ _,[],aD,aD,aD,aD,rfl,aC,rfl,λ_ h=>(by simp at h),rfl⟩
 ·subst X;obtain⟨g,Y,rfl⟩:=gD hd;have j:=ho g (Zc Y);have hil:i < os.length:=(Zb.mp Y).1;rw[lh Y,rn,hi] at n;refine⟨_,bn (by simp) (by simp),?_⟩;k_is;refine⟨rfl,CM V (gG V U) j.1 j.2 λC J=>?_⟩;obtain⟨a,b,c,d,e,f,h,eg,e0,e1,e2,e3,e6,k0,k1,c0⟩:=gl7 V j.1 j.2;refine aa sk2 (aa (b9 j.1 eg) (aa (show ixS (az [a,b,c,d,e,f,h]) (.int 6) C=aw (.int h,C) from rfl) ?_));k_is;have y:=J _ _ hn;have stuck:rn K os K.ah [] = .inl i->∀S',Sm S S'->Q (.tup [.str "stuck", .int i]) S':=λe S' s=>q _ S' s (by unfold Res;rw[e]);cases O:Sn.step K (ay K L) g i with
  |none=>
   rw[O] at n;refine aa (show ak .is (nI aD) .non C=aw (.bl aN,C) from rfl) ?_;k_is;exact stuck n C (E.trans J)
  |some m=>
   rw[O] at n;refine aa (show ak .is (nI (aw m)) .non C=aw (.bl aS,C) from rfl) ?_;rw[show nI (aw m) = .int m from rfl];k_is;dsimp only at n;have eh:bK K L g m=(decide (0 < h) && decide (h < fu K L g m)):=by unfold bK;rw[e6]
   rw[eh] at n
   have T:∀B,Sm S B->B[Zd S]?=aw (.lst (L.map ac))->rn K os K.ah []=rn K (os.drop (i+1)) (aw (gi K.G g 0,m)) (L++[(g,m)])->Sm S (B.set (Zd S) (.lst (L.map ac++[.tup [.int g,.int m]])))/\∃L' u v w x,[aw (skE K),aw (.tup (os.map D.int)),aw (ahE (ay K (L++[(g,m)]))),aw (.ref (Zd S)),aw (.int (i:Int)),aw (.int g),aw (.int m),aw (.int h)]=[aw (skE K),aw (.tup (os.map D.int)),aw (ahE (ay K L')),aw (.ref (Zd S)),u,v,w,x]/\(B.set (Zd S) (.lst (L.map ac++[.tup [.int g,.int m]])))[Zd S]?=aw (.lst (L'.map ac))/\L'.length=i+1/\InG K L'/\rn K os K.ah []=rn K (os.drop (i+1)) (ay K L') L':=λB I h3 n=>by
    have lt3:Zd S < B.length:=(Zb.mp h3).1;refine⟨Sm.setNew I (Ze _),L++[(g,m)],_,_,_,_,rfl,by rw[dR lt3,ZF];rfl,by rw[Zh,Zr];lia,λz hz=>?_,by rw[aW];exact n⟩;rcases ZS.mp hz with hz |hz
    ·exact U z hz
    ·rw[ZM.mp hz];exact j
   refine cv (λZ=>?_) λZ=>?_
   ·rw[Z,Yy] at n;k_is;refine⟨rfl,tL (k:=k) V y U (by lia) j.1 j.2 λB I=>?_⟩;k_is;cases c2:decide (h < fu K L g m) with
    |true=>
     rw[c2,if_pos rfl] at n;k_is;exact stuck n B ((E.trans J).trans I)
    |false=>
     rw[c2,if_neg Zg] at n;k_is;refine nJ V (I _ _ y) (by lia) j.1 j.2 ?_;exact T B ((E.trans J).trans I) (I _ _ y) n
   ·rw[Z,Xh,if_neg Zg] at n;k_is;refine nJ V y (by lia) j.1 j.2 ?_;exact T C (E.trans J) y n
 ·subst X;k_is;rw[Za,YN,rn] at n;exact q _ S1 E (by unfold Res;rw[n];exact⟨_,rfl,hn,Ze _⟩)
def xz{b:List D}(i:Nat)(d:D)(h:b[i]?=aw d):(λi=>(b[i]?).getD .non) i=d:=by
 show(b[i]?).getD .non=d;rw[h];rfl
def dg{i:Int}(b:0<=i)(h:i < 1000):lim i=aN:=by simp only[lim,bAE,decide_eq_true_eq];lia
def M0{n:Nat}{lo:Int}{T:Tg}{c:XA}{v:Rho}{Q:List D->Sto->Prop}(f:Nat->D)(I:n<=1000)(step:∀ (i:Nat),i < n->∃b,ax T (.int (lo+i)) v=aw b/\Ok (c b S) λE h=>E=[f i]/\h=S)(q:Q ((Zk n).map f) S) :
  Ok (bu (nxR lo n) T c v LF 0 S) λE S2=>E.length<=100000/\Q E S2:=by
 refine vL (by lia) (λi d j=>j=S/\d=(Zk i).map f) (λi d j hi ⟨e,u⟩=>?_) (λE j ⟨e,u⟩=>?_) ⟨rfl,rfl⟩
 ·subst e;obtain⟨b,y,E,h,C,z,B⟩:=step i hi;exact⟨b,y,E,h,C,B,by rw[u,z,Xe,ZF];rfl⟩
 ·subst e u;exact⟨by rw[Za,ZG];lia,q⟩
abbrev mid(M:List (List Int))(n c a:Nat):List (List Int):=(Zk n).map λi=>if i < a then Dw.aY M n c i else (M[i]?).getD []
def jt{M:List (List Int)}{n c a i:Nat}(hi:i < n):(mid M n c a)[i]?=aw (if i < a then Dw.aY M n c i else (M[i]?).getD []):=by
 unfold mid;rw[Zp,Yz hi];rfl
def CN{M:List (List Int)}{n c:Nat}(h:Dw.Mat n M):mid M n c 0=M:=by
 apply YV;intro i;by_cases hi:i < n
 ·rw[jt hi,if_neg (by lia)];have:i < M.length:=by rw[h.len];exact hi
  rw[gEG this];rfl
 ·rw[Zs (by unfold mid;rw[Za,ZG];lia),Zs (by rw[h.len];lia)]
def GM{M:List (List Int)}{n c:Nat}:mid M n c n=(Zk n).map (Dw.aY M n c):=by
 unfold mid;refine Yh λi hi=>?_;rw[if_pos (ZO.mp hi)]
def GN{M:List (List Int)}{n c a:Nat}(d:a < n):(mid M n c a).set a (Dw.aY M n c a)=mid M n c (a+1):=by
 apply YV;intro i;by_cases hi:i < n
 ·rw[jt hi];by_cases b:i=a
  ·subst b;rw[ZU (by unfold mid;rw[Za,ZG];lia),if_pos (by lia)]
  ·rw[Zv (Ne.symm b),jt hi];by_cases h:i < a
   ·rw[if_pos h,if_pos (by lia)]
   ·rw[if_neg h,if_neg (by lia)]
 ·rw[Zs (by rw[ZY];unfold mid;rw[Za,ZG];lia),Zs (by unfold mid;rw[Za,ZG];lia)]
def Qe{M:List (List Int)}{n c a b:Nat}(h:Dw.Mat n M)(d:c < n)(hb:b < n):Dw.mg2 (mid M n c a) c b=Dw.mg2 M c b:=by
 unfold Dw.mg2;rw[jt d];split
 ·rw[ZW,Dw.r9 M hb];obtain⟨_,_,_,_,f,_⟩:=h.at d d;show(if Dw.mg2 M c c+Dw.mg2 M c b < Dw.mg2 M c b then Dw.mg2 M c c+Dw.mg2 M c b else Dw.mg2 M c b)=_;rw[if_neg (by lia)];rfl
 ·rfl
def Qg{M:List (List Int)}{n c a b:Nat}(h:a < n):Dw.mg2 (mid M n c a) a b=Dw.mg2 M a b:=by
 unfold Dw.mg2;rw[jt h,if_neg (ZR _)];rfl
def RowsS.at{b:List D}{M:List (List Int)}(h:RowsS p S b M){n:Nat}{L:Nat}(f:S[L]?=aw (.lst b)){i j:Int}(I:0<=i)(J:0<=j)(d:∃r x,M[i.toNat]?=aw r/\r[j.toNat]?=aw x/\x=Dw.mg2 M i.toNat j.toNat) :
  ∃a,ixS (.ref L) (.int i) S=aw (.ref a,S)/\ixS (.ref a) (.int j) S=aw (.int (Dw.mg2 M i.toNat j.toNat),S):=by
 obtain⟨r,x,q,c,ex⟩:=d;obtain⟨a,E,u,z⟩:=h.row _ r q;exact⟨a,dS f I E,dS z J (by rw[Zp,c,ex];rfl)⟩
def vY{M:List (List Int)}{n i j:Nat}(f:M.length=n)(d:∀r ∈ M,r.length=n)(hi:i < n)(c:j < n):∃r x,M[i]?=aw r/\r[j]?=aw x/\x=Dw.mg2 M i j:=by
 have h:i < M.length:=by lia
 have b:j < M[i].length:=by rw[d _ (ZJ h)];exact c
 refine⟨M[i],M[i][j],gEG h,gEG b,?_⟩;unfold Dw.mg2;rw[gEG h,ZW,gEG b];rfl
def CO{M:List (List Int)}{n c a:Nat}(h:Dw.Mat n M):∀r ∈ mid M n c a,r.length=n:=λr b=>by
 unfold mid at b;obtain⟨i,hi,rfl⟩:=Zu.mp b;have hi:=ZO.mp hi;split
 ·exact Dw.rZ M n c i
 ·have:i < M.length:=by rw[h.len];exact hi
  rw[gEG this];exact h.row _ (ZJ this)
def GO{M:List (List Int)}{n c a:Nat}:(mid M n c a).length=n:=by unfold mid;rw[Za,ZG]
def RowsS.set{d:List D}{M:List (List Int)}{L i a:Nat}{r:List Int}(h:RowsS p S d M)(y:S[L]?=aw (.lst d))(hi:i < M.length)(v:a ≠ p)(Z:S[a]?=aw (.lst (r.map D.int)))(u:a ≠ L)(q:∀ (i:Nat) r b,M[i]?=aw r->d[i]?=aw (D.ref b)->b ≠ L):RowsS p (S.set L (.lst (d.set i (.ref a)))) (d.set i (.ref a)) (M.set i r):=by
 refine⟨by rw[ZY,ZY];exact h.len,λj n c=>?_⟩;by_cases f:j=i
 ·subst f;rw[ZU hi] at c;cases c;exact⟨a,by rw[ZU (by rw[h.len];exact hi)],v,by rw[Zv (Ne.symm u)];exact Z⟩
 ·rw[Zv (Ne.symm f)] at c;obtain⟨b,E,nb,z⟩:=h.row j n c;have:=q j n b c E;exact⟨b,by rw[Zv (Ne.symm f)];exact E,nb,by rw[Zv (Ne.symm this)];exact z⟩
def GP{c:List D}{M:List (List Int)}{L n:Nat}(h:RowsS p S c M)(q:S[L]?=aw (.lst c))(v:∀r ∈ M,0 < r.length):∀ (i:Nat) r b,M[i]?=aw r->c[i]?=aw (D.ref b)->b ≠ L:=λi r b j E u=>by
 obtain⟨B,f,_,z⟩:=h.row i r j;rw[E] at f;cases f;rw[u,q] at z;cases z;rw[Zp] at E;cases d:r[i]? with
 |none=>rw[d] at E;cases E
 |some x=>rw[d] at E;cases E
end Lw
namespace Lw
open PySem Ev Sn L2
variable {p:Nat} {S:Sto} {k:Nat} {Q:D->Sto->Prop} {K:Sky}
def Kp.len{p:Nat}{S b:Sto}(h:Ev.Kp p S b)(f:p < b.length):S.length<=b.length:=by
 by_cases d:S.length<=b.length
 ·exact d
 ·exfalso;have c:b.length < S.length:=by lia
  have:=h b.length S[b.length] (by lia) (gEG c);rw[Zs (Ze _)] at this;cases this
def xD{n:Nat}{d:List D}{i:Int}{v:D}(b:S[n]?=aw (.lst d))(c:0<=i)(f:i.toNat < d.length):jI (.ref n) (.int i) v S=aw (S.set n (.lst (d.set i.toNat v))):=by
 have h:ixN d.length i=aw i.toNat:=by
  unfold ixN;rw[if_pos (by lia),if_pos (by lia)]
 simp only[jI,b,h,ZD]
def CP{n L:Nat}{f:List D}{M:List (List Int)}{u v w x:Option D}{pt:D}(B:S[L]?=aw (.lst f))(z:RowsS p S f M)(j:Dw.Mat n M)(J:n<=4)(q:∀d,Sm S d->Q (.tup (M.map az)) d) :
  rW (wSs (evC ag (k+1)) (fZ ag) 57 (e9.drop 3)) [aw pt,u,v,aw (.ref L),w,x] S (out Q):=by
 dsimp only[e9,Yu];k_is;refine⟨by rw[aq B];rfl,?_⟩;have le:f.length=n:=by rw[z.len,j.len]
 refine gC n (λi=>(f[i]?).getD .non) (λi b d=>d=S/\b=(M.take i).map az) (λi b d hi ⟨e,_⟩=>by subst e;rw[<-le];exact qR B _ xz) (by lia) (λi b c hi ⟨h,E⟩=>?_) (λC c ⟨h,E⟩=>⟨by rw[E,Za,Yb];lia,?_⟩) ⟨rfl,rfl⟩
 ·subst h;have y:i < M.length:=by rw[j.len];exact hi
  obtain⟨a,I,O,Z⟩:=z.row i M[i] (gEG y);simp only[I,ZW];refine⟨_,rfl,?_⟩;k_is;refine aa (show aj cL (.ref a) c=aw (.tup (M[i].map D.int),c) by simp only[aj,ao,aq Z,ZD,cL]) ?_;refine⟨rfl,?_⟩;rw[E,ZX y,ZF];rfl
 ·subst h;rw[Ye (by rw[j.len];exact Ze _)] at E;subst E;refine aa (show cL aS (M.map az) c=aw (.tup (M.map az),c) from rfl) ?_;k_is;exact q c (Sm.refl _)
def CQ(h:Pot p S)(q:∀n M z,Dr p S z->Dw.Mat n M->1<=n->n<=4->Dw.rY n n M->Q (.tup (M.map az)) z):Ok (evC ag (k+2) 60 [.ref p] S) Q:=by
 refine am (d:=iJ) (ρ:=[aw (.ref p),aD,aD,aD,aD,aD]) rfl rfl ?_;dsimp only[iJ,e9];k_is;refine⟨rfl,aE h (by decide) (by decide) λr0 S0 r1 r2 d0=>?_⟩;k_is;refine⟨rfl,aE d0.pot (by decide) (by decide) λf0 S1 f1 f2 d01=>?_⟩;k_is;have d1:=d0.trans d01;obtain⟨n,rfl⟩:∃n:Nat,r0=(n:Int):=⟨r0.toNat,by lia⟩
 obtain⟨X,at1,hf⟩:∃e:Int,atI [D.int 3,D.int 12,D.int 40] f0=aw (D.int e)/\0 < e/\e<=40:=by
  have:f0=0\/f0=1\/f0=2:=by lia
  rcases this with rfl |rfl |rfl
  ·exact⟨3,rfl,by decide,by decide⟩
  ·exact⟨12,rfl,by decide,by decide⟩
  ·exact⟨40,rfl,by decide,by decide⟩
 refine⟨_,at1,?_⟩;k_is;have e1:((1:Int)+n).toNat=n+1:=by lia
 have l1:lim (1+(n:Int))=aN:=dg (by lia) (by lia);refine⟨l1,?_⟩;rw[e1];refine vL (by lia) (λi C z=>Dr p S1 z/\∃M:List (List Int),M.length=i/\RowsS p z C M/\∀r ∈ M,r.length=n+1/\∀x ∈ r,1<=x/\x<=99) (λi C I hi ⟨d2,M,lM,rM,bM⟩=>⟨_,rfl,?_⟩) (λE I ⟨d2,M,lM,rM,bM⟩=>⟨by rw[rM.len];lia,?_⟩) ⟨Dr.refl d1.pot,[],rfl,RowsS.nil,λr f=>by simp at f⟩
 ·k_is;refine⟨l1,?_⟩;rw[e1];refine vL (by lia) (λj C z=>Dr p I z/\∃r:List Int,C=r.map D.int/\r.length=j/\∀x ∈ r,1<=x/\x<=99) (λj C S3 hj ⟨J,r,ea,lr,br⟩=>⟨_,rfl,?_⟩) (λE S3 ⟨J,r,ea,lr,br⟩=>⟨by rw[ea,Za];lia,?_⟩) ⟨Dr.refl d2.pot,[],rfl,rfl,λx hx=>by simp at hx⟩
  ·k_is;refine⟨rfl,aE J.pot hf.1 (by lia) λx S4 x1 x2 d4=>?_⟩;k_is;refine⟨J.trans d4,r++[1+x],by rw[ea,ZF];rfl,by simp[lr],λy hy=>?_⟩;rcases ZS.mp hy with hy |hy
   ·exact br y hy
   ·simp at hy;lia
  ·subst ea;k_is;have lt:=J.pot.lt;refine⟨(d2.trans J).thenSm (Sm.app _ _),M++[r],by simp[lM],((rM.keep J.kp).keep (Sm.app _ _).kp).snoc (by lia) aC,λr' hr'=>?_⟩;rcases ZS.mp hr' with hr' |hr'
   ·exact bM r' hr'
   ·simp at hr';subst hr';exact⟨lr,br⟩
 ·have lt2:=d2.pot.lt;have J:Dr p S (I++[Ob.lst E]):=(d1.trans d2).thenSm (Sm.app _ _);have r3:RowsS p (I++[Ob.lst E]) E M:=rM.keep (Sm.app _ _).kp;have a3:(I++[Ob.lst E])[I.length]?=aw (Ob.lst E):=aC;have m3:Dw.Mat (n+1) M:=⟨lM,λr f=>(bM r f).1,λr f=>(bM r f).2⟩;have lS:S.length<=I.length:=Kp.len (d1.trans d2).kp lt2;have ne3:I.length ≠ p:=by lia
  revert a3 r3 J;generalize I++[Ob.lst E]=S3;generalize I.length=L at *;intro J r3 a3;k_is;refine⟨l1,?_⟩;rw[e1];refine gB (by lia) (λc ρ z=>Dr p S z/\∃E M u v,ρ=[aw (.ref p),aw (.int (1+(n:Int))),aw (.int X),aw (.ref L),u,v]/\z[L]?=aw (.lst E)/\RowsS p z E M/\Dw.Mat (n+1) M/\Dw.rY (n+1) c M) (λc ρ S4 hc ⟨d4,E,M,u,v,Y,B,f,O,tr⟩=>?_) (λρ S4 ⟨d4,E,M,u,v,Y,B,f,O,tr⟩=>?_) ⟨J,E,M,aD,aD,rfl,a3,r3,m3,λ_ _ _ _ _ h=>absurd h (Wq _)⟩
  ·subst Y;refine⟨_,rfl,?_⟩;k_is;refine⟨l1,?_⟩;rw[e1];refine gB (by lia) (λa ρ z=>Dr p S z/\∃E v,ρ=[aw (.ref p),aw (.int (1+(n:Int))),aw (.int X),aw (.ref L),aw (.int (0+(c:Int))),v]/\z[L]?=aw (.lst E)/\RowsS p z E (mid M (n+1) c a)) (λa ρ U ha ⟨d5,E,v,Y,B,f⟩=>?_) (λρ U ⟨d5,E,v,Y,B,f⟩=>?_) ⟨d4,E,v,rfl,B,by rw[CN O];exact f⟩
   ·subst Y;refine⟨_,rfl,?_⟩;k_is;refine⟨l1,?_⟩;rw[e1];have ml:=@GO M (n+1) c a;have mr:=CO (c:=c) (a:=a) O;have Z:∀x:Nat,((0:Int)+x).toNat=x:=λx=>by lia
    refine M0 (λb=>.int (if Dw.mg2 M a c+Dw.mg2 M c b < Dw.mg2 M a b then Dw.mg2 M a c+Dw.mg2 M c b else Dw.mg2 M a b)) (by lia) (λb hb=>⟨_,rfl,?_⟩) ?_
    ·k_is;obtain⟨x1,i1,j1⟩:=RowsS.at (n:=0) f B (i:=0+(a:Int)) (j:=0+(b:Int)) (by lia) (by lia) (by rw[Z,Z];exact vY ml mr ha hb);obtain⟨x2,i2,j2⟩:=RowsS.at (n:=0) f B (i:=0+(a:Int)) (j:=0+(c:Int)) (by lia) (by lia) (by rw[Z,Z];exact vY ml mr ha hc);obtain⟨x3,i3,j3⟩:=RowsS.at (n:=0) f B (i:=0+(c:Int)) (j:=0+(b:Int)) (by lia) (by lia) (by rw[Z,Z];exact vY ml mr hc hb);rw[Z,Z,Qg ha] at j1 j2;rw[Z,Z,Qe O hc hb] at j3;refine aa i1 (aa j1 (aa i2 (aa j2 (aa i3 (aa j3 ?_)))));k_is;exact⟨rfl,rfl⟩
    ·have ef:((Zk (n+1)).map λb=>D.int (if Dw.mg2 M a c+Dw.mg2 M c b < Dw.mg2 M a b then Dw.mg2 M a c+Dw.mg2 M c b else Dw.mg2 M a b))=(Dw.aY M (n+1) c a).map D.int:=by unfold Dw.aY;rw[ZL];rfl
     rw[ef];k_is;have lt5:=d5.pot.lt;have hL':=Sm.app U [Ob.lst ((Dw.aY M (n+1) c a).map D.int)] _ _ B;have lL:L < U.length:=(Zb.mp B).1;have le:E.length=n+1:=by rw[f.len,ml]
     refine⟨_,xD hL' (by lia) (by lia),?_⟩;k_is;rw[Z];have hr':RowsS p (U++[Ob.lst ((Dw.aY M (n+1) c a).map D.int)]) E (mid M (n+1) c a):=f.keep (Sm.app _ _).kp;have hr2:=RowsS.set (i:=a) (a:=U.length) (r:=Dw.aY M (n+1) c a) hr' hL' (by lia) (by lia) aC (by lia) (GP (n:=0) hr' hL' λr hh=>by rw[mr r hh];lia);rw[GN ha] at hr2;have kA:Ev.Kp p S ((U++[Ob.lst ((Dw.aY M (n+1) c a).map D.int)]).set L (.lst (E.set a (.ref U.length)))):=(d5.kp.trans (Sm.app _ _).kp).setNew lS;refine⟨⟨kA,((Dr.sm d5.pot (Sm.app _ _)).pot).setNe ne3⟩,_,_,rfl,?_,hr2⟩;rw[dR (by rw[Zh];lia)]
   ·subst Y;k_is;rw[GM] at f;exact⟨d5,E,_,_,_,rfl,B,f,Dw.Av O hc,Dw.As O hc tr (Dw.Eb O hc)⟩
  ·subst Y;have T:=CP (k:=k) (p:=p) (Q:=Q) (pt:=.ref p) (u:=aw (.int (1+(n:Int)))) (v:=aw (.int X)) (w:=u) (x:=v) B f O (by lia) λz sm=>q (n+1) M z (d4.thenSm sm) O (by lia) (by lia) tr;dsimp only[e9,Yu] at T;exact T
def tO:∀ {H:List (Int × Int)} {lo x y:Int},Ris lo H->lo < x->(∀q ∈ H,q.2 < x)->x < y->Ris lo (H++[(x,y)])
 |[],lo,x,y,_,h1,_,h3=>⟨h1,h3,trivial⟩
 |q::H,lo,x,y,h,h1,h2,h3=>by
  rw[Ris] at h;exact⟨h.1,h.2.1,tO h.2.2 (h2 q Zj) (λr b=>h2 r (Zi _ b)) h3⟩
def q8:∀ {H:List (Int × Int)} {lo:Int} {q:Int × Int},Ris lo H->q ∈ H->lo < q.1/\q.1 < q.2
 |q'::H,lo,q,h,hq=>by
  rw[Ris] at h;rcases Zn.mp hq with rfl |hq
  ·exact⟨h.1,h.2.1⟩
  ·have:=q8 h.2.2 hq
   lia
def tP:∀ {H:List (Int × Int)} {lo:Int},Ris lo H->∀ (i:Nat) q b,H[i]?=aw q->H[i+1]?=aw b->q.2 < b.1
 |q0::H,lo,h,0,q,b,e1,e2=>by
  rw[Ris] at h;cases e1;rw[YC] at e2;exact(q8 h.2.2 (Zc e2)).1
 |q0::H,lo,h,i+1,q,b,e1,e2=>by
  rw[Ris] at h;rw[YC] at e1 e2;exact tP h.2.2 i q b e1 e2
structure MeOk(r s:Int)(M:List (List Int))(H:List (Int × Int)):Prop where
 r0:0<=r
 r8:r<=8
 s0:0<=s
 s60:s<=60
 mat:Dw.Mat M.length M
 m1:1<=M.length
 m4:M.length<=4
 tri:Dw.rY M.length M.length M
 ris:Ris (-1) H
 h4:H.length<=4
 hb:∀q ∈ H,q.2<=9999
def vZ(h:Pot p S)(q:∀r s M H z,Dr p S z->MeOk r s M H->Q (.tup [.int r,.int s,.tup (M.map az),.tup (H.map ac)]) z):Ok (evC ag (k+3) 61 [.ref p] S) Q:=by
 refine am (d:=fo) (ρ:=[aw (.ref p),aD,aD,aD,aD]) rfl rfl ?_;dsimp only[fo,jg];have lt:=h.lt;k_is;have d0:Dr p S (S++[Ob.lst []]):=Dr.sm h (Sm.app _ _);have a0:(S++[Ob.lst []])[Zd S]?=aw (Ob.lst (([]:List (Int × Int)).map ac)):=aC;have E:Zd S ≠ p:=by lia
 generalize S++[Ob.lst []]=S0 at *;refine⟨rfl,aE d0.pot (by decide) (by decide) λT S1 i1 i2 d1=>?_⟩;k_is
 obtain⟨fr,Y,hf⟩:∃e:Int,atI [D.int 1,D.int 5] T=aw (D.int e)/\0 < e/\e<=5:=by
  have:T=0\/T=1:=by lia
  rcases this with rfl |rfl
  ·exact⟨1,rfl,by decide,by decide⟩
  ·exact⟨5,rfl,by decide,by decide⟩
 refine⟨_,Y,?_⟩;refine⟨rfl,aE d1.pot hf.1 (by lia) λn0 S2 n1 n2 d2=>?_⟩;k_is;obtain⟨n,rfl⟩:∃n:Nat,n0=(n:Int):=⟨n0.toNat,by lia⟩;refine⟨dg (by lia) (by lia),?_⟩;rw[Zy];have Z:=(d0.trans d1).trans d2;have a2:=(d1.trans d2).kp _ _ E a0;refine gB (by lia) (λi ρ z=>Dr p S z/\∃ (H:List (Int × Int)) (b:Int) (u v:Option D),ρ=[aw (.ref p),aw (.ref (Zd S)),aw (.int b),u,v]/\z[Zd S]?=aw (.lst (H.map ac))/\H.length=i/\Ris (-1) H/\(∀q ∈ H,q.2 < b)/\0<=b/\b<=60 * i) (λi ρ S3 hi ⟨B,H,b,u,v,er,hn,hl,hr,O,b0,b1⟩=>?_) (λρ S3 ⟨B,H,b,u,v,er,hn,hl,hr,O,b0,b1⟩=>?_) ⟨Z,[],0,aD,aD,rfl,a2,rfl,trivial,λq hq=>by simp at hq,by decide,by decide⟩
 ·subst er;refine⟨_,rfl,?_⟩;k_is;refine⟨rfl,aE B.pot (by decide) (by decide) λx S4 x1 x2 c=>?_⟩;k_is;have J:=c.kp _ _ E hn;refine⟨df J,?_⟩;refine⟨rfl,aE c.pot (by decide) (by decide) λy L y1 y2 f=>?_⟩;k_is;have C:=f.kp _ _ E J;rw[nv C (by rw[Za];lia)];k_is;have U:Zd S < L.length:=(Zb.mp C).1;have f5:(L.set (Zd S) (Ob.lst (H.map ac++[D.tup [D.int (b+x),D.int (b+x+1+y)]])))[Zd S]?=aw (Ob.lst (H.map ac++[D.tup [D.int (b+x),D.int (b+x+1+y)]])):=dR U;refine aa (qS f5) (aa (show ixS (D.tup [D.int (b+x),D.int (b+x+1+y)]) (.int 1) (L.set (Zd S) (Ob.lst (H.map ac++[D.tup [D.int (b+x),D.int (b+x+1+y)]])))=aw (.int (b+x+1+y),_) from rfl) ?_);k_is;refine⟨⟨((B.kp.trans c.kp).trans f.kp).setNew (Ze _),f.pot.setNe E⟩,H++[(b+x,b+x+1+y)],_,_,_,rfl,by rw[f5,ZF];rfl,by rw[Zh,Zr];lia,tO hr (by lia) (λq hq=>by have:=O q hq;lia) (by lia),λq hq=>?_,by lia,by lia⟩;rcases ZS.mp hq with hq |hq
  ·have:=O q hq;lia
  ·rw[ZM.mp hq];show b+x+1+y < b+x+1+y+1;lia
 ·subst er;k_is;refine⟨rfl,aE B.pot (by decide) (by decide) λI S4 j3 k3 c=>?_⟩;k_is
  obtain⟨r,X,h3⟩:∃e:Int,atI [D.int 8,D.int 1,D.int 2,D.int 3,D.int 0] I=aw (D.int e)/\0<=e/\e<=8:=by
   have:I=0\/I=1\/I=2\/I=3\/I=4:=by lia
   rcases this with rfl |rfl |rfl |rfl |rfl
   ·exact⟨8,rfl,by decide,by decide⟩
   ·exact⟨1,rfl,by decide,by decide⟩
   ·exact⟨2,rfl,by decide,by decide⟩
   ·exact⟨3,rfl,by decide,by decide⟩
   ·exact⟨0,rfl,by decide,by decide⟩
  refine⟨_,X,?_⟩;refine⟨rfl,aE c.pot (by decide) (by decide) λj L j5 k5 f=>?_⟩;k_is
  obtain⟨s,at5,h5⟩:∃e:Int,atI [D.int 0,D.int 2,D.int 9,D.int 60] j=aw (D.int e)/\0<=e/\e<=60:=by
   have:j=0\/j=1\/j=2\/j=3:=by lia
   rcases this with rfl |rfl |rfl |rfl
   ·exact⟨0,rfl,by decide,by decide⟩
   ·exact⟨2,rfl,by decide,by decide⟩
   ·exact⟨9,rfl,by decide,by decide⟩
   ·exact⟨60,rfl,by decide,by decide⟩
  refine⟨_,at5,?_⟩;refine⟨rfl,CQ f.pot λm M S6 d6 hM m1 m4 tr=>?_⟩;have hn6:=((c.trans f).trans d6).kp _ _ E hn;refine aa (show aj cL (.ref (Zd S)) S6=aw (.tup (H.map ac),S6) by simp only[aj,ao,aq hn6,ZD,cL]) ?_;k_is;obtain rfl:=hM.len;exact q r s M H S6 (B.trans ((c.trans f).trans d6)) ⟨h3.1,h3.2,h5.1,h5.2,hM,m1,m4,tr,hr,by lia,λq hq=>by have:=O q hq;lia⟩
end Lw
namespace Lw
open PySem Ev Sn L2
variable {p:Nat} {S S':Sto} {k:Nat} {Q:D->Sto->Prop} {K:Sky}
structure Gs(p N hi:Nat)(S:Sto)(es:List D)(G:List (List Int)):Prop where
 pN:p < N
 at_:S[N]?=aw (.lst es)
 len:es.length=G.length
 row:∀ (i:Nat) g,G[i]?=aw g->∃a,es[i]?=aw (D.ref a)/\N < a/\a < hi/\S[a]?=aw (.lst (g.map D.int))
 inj:∀ (i j a:Nat),es[i]?=aw (D.ref a)->es[j]?=aw (D.ref a)->i=j
section
variable {N hi hi':Nat} {es:List D} {G:List (List Int)}
def Gs.keep(h:Gs p N hi S es G)(kp:Ev.Kp p S S'):Gs p N hi S' es G:=by
 have pN:=h.pN;refine⟨h.pN,kp _ _ (by lia) h.at_,h.len,λi g b=>?_,h.inj⟩;obtain⟨a,e,c,n,z⟩:=h.row i g b;exact⟨a,e,c,n,kp _ _ (by lia) z⟩
def Gs.up(h:Gs p N hi S es G)(d:hi<=hi'):Gs p N hi' S es G:=by
 refine⟨h.pN,h.at_,h.len,λi g b=>?_,h.inj⟩;obtain⟨a,e,n,c,z⟩:=h.row i g b;exact⟨a,e,n,by lia,z⟩
def Gs.other(h:Gs p N hi S es G){f:Nat}{o:Ob}(d:hi<=f)(hN:N < hi):Gs p N hi (S.set f o) es G:=by
 refine⟨h.pN,by rw[Zv (by lia)];exact h.at_,h.len,λi g b=>?_,h.inj⟩;obtain⟨a,e,c,n,z⟩:=h.row i g b;exact⟨a,e,c,n,by rw[Zv (by lia)];exact z⟩
def Gs.snoc(h:Gs p N S.length S es G){g:List Int}:Gs p N (S.length+1) ((S++[Ob.lst (g.map D.int)]).set N (.lst (es++[D.ref S.length]))) (es++[D.ref S.length]) (G++[g]):=by
 have L:N < S.length:=(Zb.mp h.at_).1
 have O:∀ (i a:Nat),es[i]?=aw (D.ref a)->a < S.length:=λi a e=>by
  have hi:i < G.length:=by rw[<-h.len];exact(Zb.mp e).1
  obtain⟨b,E,u,n,_⟩:=h.row i G[i] (gEG hi);rw[e] at E;cases E;exact n
 refine⟨h.pN,by rw[dR (by rw[Zh];lia)],by rw[Zh,Zh,h.len];rfl,λi B c=>?_,λi j a v E=>?_⟩
 ·by_cases hi:i < G.length
  ·rw[Zq hi] at c;obtain⟨a,e,u,n,z⟩:=h.row i B c;exact⟨a,by rw[Zq (by rw[h.len];exact hi)];exact e,u,by lia,by rw[Zv (by lia),Zq n];exact z⟩
  ·have f:=(Zb.mp c).1;rw[Zh,Zr] at f;obtain rfl:i=G.length:=by lia
   rw[Zm (Ze _),Z7] at c;cases c;exact⟨S.length,by rw[Zm (by rw[h.len];lia),h.len,Z7];rfl,L,by lia,by rw[Zv (by lia),aC]⟩
 ·have d:∀ (i:Nat),(es++[D.ref S.length])[i]?=aw (D.ref a)->(i < es.length/\es[i]?=aw (D.ref a))\/(i=es.length/\a=S.length):=λi e=>by
   by_cases hi:i < es.length
   ·rw[Zq hi] at e;exact .inl ⟨hi,e⟩
   ·have f:=(Zb.mp e).1;rw[Zh,Zr] at f;obtain rfl:i=es.length:=by lia
    rw[Zm (Ze _),Z7] at e;cases e;exact .inr ⟨rfl,rfl⟩
  rcases d i v with ⟨y,q⟩ |⟨y,q⟩ <;> rcases d j E with ⟨C,Z⟩ |⟨C,Z⟩
  ·exact h.inj i j a q Z
  ·have:=O i a q;lia
  ·have:=O j a Z;lia
  ·lia
def Gs.setRow(h:Gs p N hi S es G){i a:Nat}{g:List Int}(hi':i < G.length)(n:es[i]?=aw (D.ref a)):Gs p N hi (S.set a (.lst (g.map D.int))) es (G.set i g):=by
 obtain⟨b,q,C,y,Z⟩:=h.row i G[i] (gEG hi');rw[n] at q;cases q;have L:=(Zb.mp Z).1;refine⟨h.pN,by rw[Zv (by lia)];exact h.at_,by rw[ZY];exact h.len,λj v d=>?_,h.inj⟩;by_cases f:j=i
 ·subst f;rw[ZU hi'] at d;cases d;exact⟨a,n,C,y,dR L⟩
 ·rw[Zv (Ne.symm f)] at d;obtain⟨c,E,m1,u,B⟩:=h.row j v d;have:c ≠ a:=λz=>f (by rw[z] at E;exact h.inj j i a E n);exact⟨c,E,m1,u,by rw[Zv (Ne.symm this)];exact B⟩
end
abbrev GX(x:Int)(n:Nat)(r s:Int)(g:List Int):Prop:=∃h j f L d b c:Int,g=[h,j,f,L,d,b,c]/\0<=h/\h < n/\0<=j/\j+s<=f/\f<=L/\L<=x/\0<=d/\d<=x/\0<=b/\b<=99/\0<=c/\c<=r
def GX.up{x y:Int}{n:Nat}{r s:Int}{g:List Int}(h:GX x n r s g)(q:x<=y):GX y n r s g:=by
 obtain⟨c,J,f,L,d,b,j,e,z⟩:=h;exact⟨c,J,f,L,d,b,j,e,by omega⟩
abbrev GB(n:Nat)(r s:Int)(g:List Int):Prop:=GX 530 n r s g
structure SkOk(K:Sky):Prop where
 me:MeOk K.r K.s K.M K.H
 g7:K.G.length<=7
 gb:∀g ∈ K.G,GX 9999 K.M.length K.r K.s g
 nd:K.F.Nodup
 bd:∀x ∈ K.F,0<=x/\x < K.G.length
 rg:∀ (j:Nat) g,K.G[j]?=aw g->g.getD 6 0=0\/(j:Int) ∈ K.F
 ah:∀q,K.ah=aw q->0<=q.1/\q.1 < K.M.length/\0<=q.2/\q.2<=9999
def SkOk.vd(h:SkOk K):Vd K:=by
 refine⟨h.me.r0,h.me.r8,h.me.s0,h.me.s60,h.me.m1,h.me.m4,h.me.mat.row,h.me.ris,h.me.h4,λq e=>⟨(h.ah q e).1,(h.ah q e).2.1⟩,h.g7,λg d=>?_⟩;obtain⟨y,J,f,L,j,n,u,rfl,c,b,v,h4,_⟩:=h.gb g d;have:=h.me.s0;refine⟨rfl,c,b,?_⟩;show 0<=f
 lia
def bc{b:Type}{l:List b}{E:b->D}{S:Sto}:aj cb (.tup (l.map E)) S=aw (.int l.length,S):=by simp only[aj,ao,cb,Za]
def v0{b:Type}{l:List b}:l.all (λ_=>aN)=aN:=Yk.mpr λ_ _=>rfl
def tQ{f:Type}{nx:Nxt}{T:Tg}{c:XA}{j:Rho}(l:List f)(E:f->D)(n:l.length<=1000)(h:∀i S',Sm S S'->nx i S'=aw ((l[i]?).map E))
  (step:∀ (i:Nat) a S',l[i]?=aw a->Sm S S'->∃b,ax T (E a) j=aw b/\Ok (c b S') λd v=>d=[.bl aN]/\Sm S' v) (q:∀S',Sm S S'->Q (.bl aN) S') :
  Ok (bu nx T c j LF 0 S) λd u=>d.length<=100000/\Ok (kN aS d u) Q:=by
 refine aX l E (λ_=>[.bl aN]) n (λ_ _=>Ze _) h step λS' y=>?_;rw[aU];refine aa (qO l (λ_=>aN) S') ?_;rw[v0];exact q S' y
def v5{i a b:Int}(c:a<=i)(h:i<=b)(q:Q (.bl aN) S):Ok (evC ag (k+2) 1 [.int i,.int a,.int b] S) Q:=pD (p:=0) bz (by
 rw[show Dw.ip (.int i) a b=aN by simp only[Dw.ip,decide_eq_true c,decide_eq_true h,X2]];exact q)
def GQ{i:Int}(b:0<=i)(h:i<=9999)(q:Q (.bl aN) S):Ok (evC ag (k+3) 2 [.int i] S) Q:=zj (p:=0) bz (by
 rw[show Dw.ip (.int i) 0 9999=aN by simp only[Dw.ip,decide_eq_true b,decide_eq_true h,X2]];exact q)
def nK{ts:List Dw.D}{d:List D}{a b:Int}(h:TDs 0 S ts d)(c:a<=ts.length)(f:(ts.length:Int)<=b)(q:Q (.bl aN) S):Ok (evC ag (k+1) 3 [.tup d,.int a,.int b] S) Q:=CB (c9 h) (by
 rw[show Dw.isT (.tup ts) a b=aN by simp only[Dw.isT,decide_eq_true c,decide_eq_true f,X2]];exact q)
def lu{M:List (List Int)}:(Dw.Au M).length=M.length:=by unfold Dw.Au;rw[Za]
def Qh{r:List Int}{n:Nat}(c:r.length=n)(f:n<=4)(b:∀x ∈ r,1<=x/\x<=99)(q:∀S',Sm S S'->Q (.bl aN) S'):Ok (evC ag (k+3) 8 [az r,.int n] S) Q:=by
 refine am (d:=ff) (ρ:=[aw (az r),aw (.int n)]) rfl rfl ?_;dsimp only[ff,jb];rw[show az r = .tup (r.map D.int) from rfl];k_is;refine⟨rfl,nK (jq r) (by rw[Za];lia) (by rw[Za];lia) ?_⟩;k_is;refine tQ r D.int (by lia) cw (λi x S' h sm=>⟨_,rfl,?_⟩) q;k_is;have:=b x (Zc h);exact⟨rfl,v5 this.1 this.2 ⟨rfl,Sm.refl _⟩⟩
def CT{es:List D}(h:∀e ∈ es,e = .bl aN)(S:Sto):kN aS es S=aw (.bl aN,S):=by
 have e:es.map (λ_=>D.bl aN)=es:=by
  conv=>rhs;rw[<-Wm es]
  exact Yh λx b=>(h x b).symm
 rw[<-e];exact(qO es (λ_=>aN) S).trans (by rw[v0])
def Qj(sk:SkOk K)(q:∀S',Sm S S'->Q (.bl aN) S'):Ok (evC ag (k+1) 9 [.tup (K.M.map az)] S) Q:=by
 refine am (d:=bm) (ρ:=[aw (.tup (K.M.map az)),aD]) rfl rfl ?_;dsimp only[bm,bJ];have V:=sk.vd;have m4:=sk.me.m4;k_is;refine aa bc ?_;refine⟨_,rfl,by lia,?_⟩;k_is;have y:(S++[Ob.lst ((Zk K.M.length).map λj=>D.int (Int.ofNat j))])[S.length]?=aw (.lst ((Zk K.M.length).map λj=>D.int (Int.ofNat j))):=aC;have z:∀S',Sm (S++[Ob.lst ((Zk K.M.length).map λj=>D.int (Int.ofNat j))]) S'->(au S' S.length).isSome=aN:=λS' sm=>by rw[aq (sm _ _ y)];rfl
 refine⟨z _ (Sm.refl _),?_⟩;refine(vJ y (by lia) (λa=>(Zk K.M.length).flatMap λb=>(Zk K.M.length).flatMap λc=>[.bl aN]) λa S1 Y h=>⟨_,rfl,?_⟩).mono λes J ⟨C,sm⟩=>?_
 ·k_is;refine⟨z _ h,?_⟩;refine vJ (h _ _ y) (by lia) _ λb J hb v=>⟨_,rfl,?_⟩;k_is;refine⟨z _ (h.trans v),?_⟩;refine vJ (v _ _ (h _ _ y)) (by lia) _ λc B L sm3=>⟨_,rfl,?_⟩;k_is;obtain⟨r1,E,X⟩:=jX (S:=B) V (a:=a) (b:=b) (by lia) (by lia) (by lia) (by lia);obtain⟨r2,e3,U⟩:=jX (S:=B) V (a:=a) (b:=c) (by lia) (by lia) (by lia) (by lia);obtain⟨r3,O,T⟩:=jX (S:=B) V (a:=c) (b:=b) (by lia) (by lia) (by lia) (by lia);refine aa E (aa X (aa e3 (aa U (aa O (aa T ?_)))));k_is;refine⟨?_,Sm.refl _⟩;have t:=sk.me.tri a b c Y hb L;rw[decide_eq_true (show gp K a b<=gp K a c+gp K c b from t)]
 ·subst C
  have all:∀e ∈ (Zk K.M.length).flatMap λa=>(Zk K.M.length).flatMap λb=>(Zk K.M.length).flatMap λc=>[D.bl aN],e = .bl aN:=λe u=>by
   obtain⟨a,_,u⟩:=Ys.mp u;obtain⟨b,_,u⟩:=Ys.mp u;obtain⟨c,_,u⟩:=Ys.mp u;exact ZM.mp u
  refine⟨?_,aa (CT all _) (q _ ((Sm.app S _).trans sm))⟩;have I:∀a b:Nat,((Zk K.M.length).flatMap λc=>[D.bl aN]).length<=4:=λ_ _=>by rw[aU (Zk K.M.length) (λ_=>D.bl aN),Za,ZG];exact m4
  have Z:∀a:Nat,((Zk K.M.length).flatMap λb=>(Zk K.M.length).flatMap λc=>[D.bl aN]).length<=K.M.length * 4:=λa=>Dw.wG λb _=>I a b;have f1:=Dw.wG (n:=K.M.length) (m:=K.M.length * 4) (f:=λa=>(Zk K.M.length).flatMap λb=>(Zk K.M.length).flatMap λc=>[D.bl aN]) λa _=>Z a;have:K.M.length * (K.M.length * 4)<=4 * (4 * 4):=Wu m4 (Wu m4 (Ze _))
  lia
def M1(sk:SkOk K)(q:∀S',Sm S S'->Q (.bl aN) S'):Ok (evC ag (k+4) 7 [.tup (K.M.map az)] S) Q:=by
 refine am (d:=iC) (ρ:=[aw (.tup (K.M.map az))]) rfl rfl ?_;dsimp only[iC,m6];have m1:=sk.me.m1;have m4:=sk.me.m4;k_is;refine⟨rfl,nK (jY K.M) (by rw[lu];lia) (by rw[lu];lia) ?_⟩;k_is;refine tQ K.M az (by lia) cw (λi r S' f sm=>⟨_,rfl,?_⟩) λS' sm=>?_
 ·k_is;refine aa bc ?_;have h:=Zc f;exact⟨rfl,Qh (sk.me.mat.row r h) m4 (sk.me.mat.ent r h) λc b=>⟨rfl,b⟩⟩
 ·k_is;exact⟨rfl,Qj sk λc b=>q c (sm.trans b)⟩
def zn{z:Int × Int}(c:0<=z.1)(f:z.1 < z.2)(h:z.2<=9999)(q:Q (.bl aN) S):Ok (evC ag (k+4) 11 [ac z] S) Q:=by
 refine am (d:=fh) (ρ:=[aw (ac z)]) rfl rfl ?_;dsimp only[fh,jc];rw[show ac z = .tup [.int z.1,.int z.2] from rfl];have X:ixS (.tup [D.int z.1,.int z.2]) (.int 0) S=aw (.int z.1,S):=rfl;have b:ixS (.tup [D.int z.1,.int z.2]) (.int 1) S=aw (.int z.2,S):=rfl;k_is;refine⟨rfl,nK (aI bz (aI bz b8)) (ZB _) (ZB _) ?_⟩;k_is;refine aa X ⟨rfl,GQ c (by lia) ?_⟩;k_is;refine aa b ⟨rfl,GQ (by lia) h ?_⟩;k_is;refine aa X (aa b ?_);k_is;rw[decide_eq_true f];exact q
def GR(sk:SkOk K)(q:∀S',Sm S S'->Q (.bl aN) S'):Ok (evC ag (k+5) 10 [.tup (K.H.map ac)] S) Q:=by
 refine am (d:=gh) (ρ:=[aw (.tup (K.H.map ac))]) rfl rfl ?_;dsimp only[gh,kq];have h4:=sk.me.h4;k_is;refine⟨rfl,nK (jk K.H) (by rw[Za];lia) (by rw[Za];lia) ?_⟩;k_is;refine tQ K.H ac (by lia) cw (λi z S' f sm=>⟨_,rfl,?_⟩) λS' sm=>?_
 ·k_is;have a:=q8 sk.me.ris (Zc f);exact⟨rfl,zn (by lia) a.2 (sk.me.hb z (Zc f)) ⟨rfl,Sm.refl _⟩⟩
 ·k_is;refine aa bc ?_;k_is;refine⟨⟨by decide,dg (by lia) (by lia)⟩,?_⟩;refine Fk (by lia) (λ_=>aN) (λi b hi c=>⟨_,rfl,?_⟩) λb c=>?_
  ·k_is;have h:i+1 < K.H.length:=by lia
   have Z:(1:Int)+i=((i+1:Nat):Int):=by lia
   have j:((i+1:Nat):Int) - 1=((i:Nat):Int):=by lia
   rw[Z,j];refine aa (pE (d:=ac K.H[i+1]) (by lia) (by rw[Zy,Zp,gEG h];rfl)) (aa (show ixS (ac K.H[i+1]) (.int 0) b=aw (.int K.H[i+1].1,b) from rfl) ?_);refine aa (pE (d:=ac K.H[i]) (by lia) (by rw[Zy,Zp,gEG (by lia)];rfl)) (aa (show ixS (ac K.H[i]) (.int 1) b=aw (.int K.H[i].2,b) from rfl) ?_);k_is;rw[decide_eq_true (tP sk.me.ris i _ _ (gEG (by lia)) (gEG h))];exact⟨rfl,Sm.refl _⟩
  ·refine aa (qO _ (λ_=>aN) _) ?_;rw[v0];exact q b (sm.trans c)
def CU(sk:SkOk K)(q:∀S',Sm S S'->Q (.bl aN) S'):Ok (evC ag (k+6) 6 [meE K] S) Q:=by
 refine am (d:=gg) (ρ:=[aw (meE K),aD,aD,aD,aD]) rfl rfl ?_;dsimp only[gg,ko];rw[show meE K = .tup [.int K.r,.int K.s,.tup (K.M.map az),.tup (K.H.map ac)] from rfl];k_is;refine⟨rfl,nK (aI bz (aI bz (aI (c9 (jY K.M)) (aI (c9 (jk K.H)) b8)))) (ZB _) (ZB _) ?_⟩;k_is;refine⟨rfl,v5 sk.me.r0 sk.me.r8 ?_⟩;k_is;refine⟨rfl,v5 sk.me.s0 sk.me.s60 ?_⟩;k_is;refine⟨rfl,M1 sk λh c=>?_⟩;k_is;exact⟨rfl,GR sk λb f=>q b (c.trans f)⟩
def CV{i:Int}(h:0<=i)(b:i < K.M.length)(q:Q (.bl aN) S):Ok (evC ag (k+3) 12 [meE K,.int i] S) Q:=by
 refine am (d:=jN) (ρ:=[aw (meE K),aw (.int i)]) rfl rfl ?_;dsimp only[jN,o7];k_is;refine aa me2 (aa bc ?_);k_is;exact⟨rfl,v5 h (by lia) q⟩
def GS(sk:SkOk K)(q:Q (.bl aN) S):Ok (evC ag (k+4) 16 [meE K,ahE K.ah] S) Q:=by
 refine am (d:=iE) (ρ:=[aw (meE K),aw (ahE K.ah)]) rfl rfl ?_;dsimp only[iE,m7];cases h:K.ah with
 |none=>k_is;exact aa (show ak .is (ahE aD) .non S=aw (.bl aN,S) from rfl) q
 |some z=>
  obtain⟨f,c,B,b⟩:=sk.ah z h;have X:ixS (.tup [D.int z.1,.int z.2]) (.int 0) S=aw (.int z.1,S):=rfl;have j:ixS (.tup [D.int z.1,.int z.2]) (.int 1) S=aw (.int z.2,S):=rfl;rw[show ahE (aw z) = .tup [.int z.1,.int z.2] from rfl];k_is;refine aa (show ak .is (.tup [D.int z.1,.int z.2]) .non S=aw (.bl aS,S) from rfl) ?_;k_is;refine⟨rfl,nK (aI bz (aI bz b8)) (ZB _) (ZB _) ?_⟩;k_is;refine aa X ⟨rfl,CV f c ?_⟩;k_is;exact aa j ⟨rfl,GQ B b q⟩
def CW(sk:SkOk K){g:List Int}(T:g ∈ K.G)(q:∀S',Sm S S'->Q (.bl aN) S'):Ok (evC ag (k+4) 18 [meE K,az g] S) Q:=by
 obtain⟨n,j,f,L,b,c,h,rfl,U,C,Y,I,B,Z,X,c1,O,J,z,y⟩:=sk.gb g T;have s0:=sk.me.s0;refine am (d:=gj) (ρ:=[aw (meE K),aw (az [n,j,f,L,b,c,h]),aD,aD,aD,aD,aD,aD,aD]) rfl rfl ?_;dsimp only[gj,kr];rw[show az [n,j,f,L,b,c,h] = .tup [.int n,.int j,.int f,.int L,.int b,.int c,.int h] from rfl];k_is;refine⟨rfl,nK (jq [n,j,f,L,b,c,h]) (ZB _) (ZB _) ?_⟩;k_is;refine tQ [j,f,L,b] D.int (by show 4<=1000;decide) (cw (l:=[j,f,L,b]) (E:=D.int)) (λi x S' v sm=>⟨_,rfl,?_⟩) λS' sm=>?_
 ·k_is;have u:=Zc v;simp only[Zn,Wh,or_false] at u;refine⟨rfl,GQ ?_ ?_ ⟨rfl,Sm.refl _⟩⟩
  ·rcases u with rfl |rfl |rfl |rfl <;> lia
  ·rcases u with rfl |rfl |rfl |rfl <;> lia
 ·k_is;refine aa me1 ?_;k_is;rw[decide_eq_true I];k_is;rw[decide_eq_true B];k_is;refine⟨rfl,CV U C ?_⟩;k_is;refine⟨rfl,v5 O J ?_⟩;k_is;refine aa me0 ⟨rfl,v5 z y (q S' sm)⟩
def zo(sk:SkOk K)(q:∀S',Sm S S'->Q (.bl aN) S'):Ok (evC ag (k+5) 17 [meE K,.tup (K.G.map az)] S) Q:=by
 refine am (d:=dG) (ρ:=[aw (meE K),aw (.tup (K.G.map az))]) rfl rfl ?_;dsimp only[dG,hZ];have g7:=sk.g7;k_is;refine⟨rfl,nK (jY K.G) (by rw[lu];lia) (by rw[lu];lia) ?_⟩;k_is;refine tQ K.G az (by lia) cw (λi g S' h sm=>⟨_,rfl,?_⟩) q;k_is;exact⟨rfl,CW sk (Zc h) λc b=>⟨rfl,b⟩⟩
def tR{X:List Int}{N:Nat}(nd:X.Nodup)(bd:∀x ∈ X,0<=x/\x < N)(g7:N<=7)(q:∀S',Sm S S'->Q (.bl aN) S'):Ok (evC ag (k+3) 4 [.tup (X.map D.int),.int N] S) Q:=by
 refine am (d:=fe) (ρ:=[aw (.tup (X.map D.int)),aw (.int N)]) rfl rfl ?_;dsimp only[fe,ja];have L:=Dw.bT N X nd bd;k_is;refine⟨rfl,nK (jq X) (by rw[Za];lia) (by rw[Za];lia) ?_⟩;k_is;refine tQ X D.int (by lia) cw (λi x S' h sm=>⟨_,rfl,?_⟩) λS' sm=>?_
 ·k_is;have:=bd x (Zc h);exact⟨rfl,v5 this.1 (by lia) ⟨rfl,Sm.refl _⟩⟩
 ·k_is;refine tQ X D.int (by lia) cw (λi x c h b=>⟨_,rfl,?_⟩) λc b=>q c (sm.trans b);k_is;refine⟨rfl,aa (B6 X x c) ?_⟩;k_is;rw[show((X.count x:Nat):Int)=1 by rw[List.Nodup.count nd,if_pos (Zc h)];rfl];exact⟨rfl,Sm.refl _⟩
def GU(sk:SkOk K)(q:∀S',Sm S S'->Q (.bl aN) S'):Ok (evC ag (k+4) 19 [.tup (K.G.map az),.tup (K.F.map D.int)] S) Q:=by
 refine am (d:=gk) (ρ:=[aw (.tup (K.G.map az)),aw (.tup (K.F.map D.int))]) rfl rfl ?_;dsimp only[gk,ku];have g7:=sk.g7;k_is;refine aa bc ?_;refine⟨rfl,tR sk.nd sk.bd sk.g7 λv Y=>?_⟩;k_is;refine gC K.G.length (λi=>.tup [.int i,((K.G.map az)[i]?).getD .non]) (λi b S'=>Sm v S'/\b.length=i/\∀e ∈ b,e = .bl aN) (λi b S' hi _=>?_) (by lia) (λi b S' hi u=>?_) (λes S' C=>by obtain⟨f,Z,y⟩:=C;exact⟨by lia,aa (CT y _) (q S' (Y.trans f))⟩) ⟨Sm.refl _,rfl,λe n=>by cases n⟩
 ·show enm (K.G.map az) i=_;unfold enm;rw[if_pos (by rw[Za];exact hi)];split
  ·rename_i B;rw[gEG (by rw[Za];exact B)];rfl
  ·rw[Zs (by rw[Za];lia)];rfl
 ·obtain⟨f,Z,y⟩:=u;obtain⟨O,T,U,L,E,I,h,J,_⟩:=sk.gb K.G[i] (ZJ hi);have rg:=sk.rg i _ (gEG hi);have X:((K.G.map az)[i]?).getD .non = .tup [.int O,.int T,.int U,.int L,.int E,.int I,.int h]:=by rw[Zp,gEG hi,J];rfl
  rw[J] at rg;have rg:h=0\/(i:Int) ∈ K.F:=rg;rw[X];have j:∀S',Sm v S'->Sm v S'/\(b++[D.bl aN]).length=i+1/\∀e ∈ b++[D.bl aN],e = .bl aN:=λS' f=>⟨f,by rw[Zh,Zr];lia,λe n=>(ZS.mp n).elim (y e) λz=>ZM.mp z⟩;refine⟨_,bn (by simp) (by simp),?_⟩;k_is;refine aa (show ixS (.tup [D.int O,.int T,.int U,.int L,.int E,.int I,.int h]) (.int 6) S'=aw (.int h,S') from rfl) ?_;k_is;cases c:decide (h=0) with
  |true=>k_is;exact j S' f
  |false=>
   k_is;refine aa (show ak .isin (.int (i:Int)) (.tup (K.F.map D.int)) S'=aw (.bl (aS != decide ((i:Int) ∈ K.F)),S') from ji aS K.F i S') ?_;rw[decide_eq_true (rg.resolve_left (of_decide_eq_false c))];exact j S' f
def Qk(sk:SkOk K)(q:∀S',Sm S S'->Q (.bl aN) S'):Ok (evC ag (k+7) 15 [skE K] S) Q:=by
 refine am (d:=nj) (ρ:=[aw (skE K),aD,aD,aD,aD]) rfl rfl ?_;dsimp only[nj,tf];rw[show skE K = .tup [meE K,ahE K.ah,.tup (K.G.map az),.tup (K.F.map D.int)] from rfl];k_is;refine⟨rfl,nK (ts:=[.tup [.int K.r,.int K.s,.tup (Dw.Au K.M),.tup (K.H.map Dw.wH)],ahT K.ah,.tup (Dw.Au K.G),.tup (K.F.map Dw.D.int)]) (aI (c9 (aI bz (aI bz (aI (c9 (jY K.M)) (aI (c9 (jk K.H)) b8))))) (aI (Qc K.ah) (aI (c9 (jY K.G)) (aI (c9 (jq K.F)) b8)))) (ZB _) (ZB _) ?_⟩;k_is;refine⟨rfl,CU sk λn f=>?_⟩;k_is;refine⟨rfl,GS sk ?_⟩;k_is;refine⟨rfl,zo sk λj h=>?_⟩;k_is;exact⟨rfl,GU sk λc b=>q c ((f.trans h).trans b)⟩
def gH(sk:SkOk K)(q:∀S',Sm S S'->Q .non S'):Ok (evC ag (k+8) 21 [skE K] S) Q:=by
 refine am (d:=gq) (ρ:=[aw (skE K)]) rfl rfl ?_;dsimp only[gq,kC];k_is;refine⟨rfl,Qk sk λS' sm=>?_⟩;k_is;exact q S' sm
end Lw
namespace Sn
open Ev PySem
abbrev cst(K:Sky)(g m:Int):Int:=gi K.G g 5 * (if m - gi K.G g 4 > 0 then m - gi K.G g 4 else 0)
abbrev jnd(K:Sky)(l:Bool)(g m x:Int):Int:=if l=aN then (if x > m then x else m) else cst K g m+x
abbrev pH(b:List (Int × List Int)):Option (Int × List Int):=b[argBest (hY b) (b.length - 1)]?
abbrev rst(left:List Int)(g:Int):List Int:=left.filter λx=>!decide (x=g)
abbrev bb(K:Sky)(l:Bool):Nat->Option (Int × Int)->List Int->Option (Int × List Int)
 |0,_,_=>aw (0,[])
 | n+1,ah,left=>pH (left.filterMap λg=>match step K ah g (K.G.length - (n+1)) with
  |none=>aD
  | some m=>(bb K l n (aw (gi K.G g 0,m)) (rst left g)).map λz=>(jnd K l g m z.1,g::z.2))
abbrev bw(K:Sky)(l:Bool)(n:Nat)(ah:Option (Int × Int))(left:List Int)(g:Int):Option (Int × List Int):=match step K ah g (K.G.length - (n+1)) with
 |none=>aD
 |some m=>(bb K l n (aw (gi K.G g 0,m)) (rst left g)).map λz=>(jnd K l g m z.1,g::z.2)
def lv{K:Sky}{l:Bool}{n:Nat}{ah:Option (Int × Int)}{left:List Int}:bb K l (n+1) ah left=pH (left.filterMap (bw K l n ah left)):=rfl
def pJ{ws:List (Int × List Int)}{z:Int × List Int}(h:pH ws=aw z):z ∈ ws:=Zc h
def v7{K:Sky}{l:Bool}:∀ (n:Nat) (ah:Option (Int × Int)) (left:List Int) (z:Int × List Int),bb K l n ah left=aw z->z.2.length=n
 |0,_,_,z,h=>by cases h;rfl
 |n+1,ah,left,z,h=>by
  rw[lv] at h;obtain⟨g,_,e⟩:=YE.mp (pJ h);unfold bw at e;split at e
  ·cases e
  ·obtain⟨y,E,rfl⟩:=ZV.mp e;rw[Zo,v7 n _ _ y E]
end Sn
namespace Lw
open PySem Ev Sn L2
variable {p:Nat} {S S':Sto} {k:Nat} {Q:D->Sto->Prop} {K:Sky}
abbrev fL(l:Bool):D:=.str (if l=aN then "last" else "cost")
abbrev bI:Option (Int × List Int)->D
 |none=>.non
 |some z=>.tup [.int z.1,.tup (z.2.map D.int)]
abbrev Qm:Option (Int × Int)->NK
 |none=>.non
 |some z=>.tup [.inl z.1,.inl z.2]
abbrev g8(ah:Option (Int × Int))(left:List Int):List NK:=[Qm ah,.tup (left.map Sum.inl)]
def nM:∀ (X:List Int),eu (X.map D.int)=aw (X.map Sum.inl)
 |[]=>rfl
 |x::X=>by rw[Zw,eu,nM X];rfl
def eO{ah:Option (Int × Int)}{left:List Int}:nZ (.tup [ahE ah,.tup (left.map D.int)])=aw (g8 ah left):=by
 have e:AB (.tup (left.map D.int))=aw (.tup (left.map Sum.inl)):=by show(eu _).map _=_;rw[nM];rfl
 have E:AB (ahE ah)=aw (Qm ah):=by cases ah <;> rfl
 show oK _=_;simp only[oK,e,E,g8]
def xE:∀ {X Y:List Int},X.map (Sum.inl:Int->Key)=Y.map Sum.inl->X=Y
 |[],[],_=>rfl
 |[],_::_,e=>by cases e
 |_::_,[],e=>by cases e
 |x::X,y::Y,e=>by
  obtain⟨a,b⟩:=Wy.inj e;cases a;rw[xE b]
def tS{a b:Option (Int × Int)}{X ys:List Int}(h:g8 a X=g8 b ys):a=b/\X=ys:=by
 unfold g8 at h;obtain⟨d,c⟩:=Wy.inj h;obtain⟨c,_⟩:=Wy.inj c;refine⟨?_,xE (NK.tup.inj c)⟩;cases a with
 |none=>cases b with
  |none=>rfl
  |some z=>cases d
 |some z=>cases b with
  |none=>cases d
  |some w=>
   obtain⟨Z,f⟩:=z;obtain⟨j,w2⟩:=w;cases d;rfl
abbrev KI(K:Sky)(l:Bool)(b:List (List NK))(c:List D):Prop:=b.length=c.length/\∀ah left d,atD b c (g8 ah left)=aw d->d=bI (bb K l left.length ah left)
structure Kn(K:Sky)(l:Bool)(p c:Nat)(S:Sto):Prop where
 ex:∃kss ds,S[p]?=aw (.dic kss ds)/\KI K l kss ds/\kss.length<=c
abbrev cnt:Nat->Nat
 |0=>0
 |n+1=>(n+1) * cnt n+1
def tU:∀ {b:List (List NK)} {c:List D} {k:List NK} {v:D},(atD b c k).isSome=aN->atD b (fR k v b c) k=aw v
 |[],_,_,_,h=>by simp[atD] at h
 |_::_,[],_,_,h=>by simp[atD] at h
 |a::b,d::c,k,v,h=>by
  simp only[fR,atD] at h ⊢;split
  ·rfl
  ·rename_i e;rw[if_neg e] at h;exact tU h
def ra:∀ {b:List (List NK)} {f:List D} {k c:List NK} {v:D},b.length=f.length->atD (b++[k]) (f++[v]) c=match atD b f c with |some d=>aw d |none=>if k=c then aw v else aD
 |[],[],k,c,v,_=>rfl
 |[],_::_,_,_,_,h=>by simp at h
 |_::_,[],_,_,_,h=>by simp at h
 |a::b,d::f,k,c,v,h=>by
  simp only[Xu,atD];split
  ·rfl
  ·exact ra (by simpa using h)
def xF:∀ {b:List (List NK)} {f:List D} {k c:List NK} {v d:D},atD b (fR k v b f) c=aw d->(k=c/\d=v)\/(atD b f c=aw d)
 |[],_,_,_,_,_,h=>by simp[fR,atD] at h
 |_::_,[],_,_,_,_,h=>by simp[fR,atD] at h
 |a::b,e::f,k,c,v,d,h=>by
  simp only[fR,atD] at h ⊢;split at h
  ·rename_i E;subst E;cases h;split
   ·rename_i j;exact .inl ⟨j.symm,rfl⟩
   ·exact .inr (if_pos rfl)
  ·rename_i E;rw[if_neg E];exact xF h
def gl9(sk:SkOk K){g:Int}(j:0<=g)(n:g < K.G.length):∃a b c d e f h,K.G[g.toNat]?=aw [a,b,c,d,e,f,h]/\gi K.G g 0=a/\gi K.G g 4=e/\gi K.G g 5=f/\0<=f/\f<=99/\0<=a/\a < K.M.length:=by
 have hi:g.toNat < K.G.length:=by lia
 obtain⟨a,b,c,d,e,f,h,E,hb⟩:=sk.gb K.G[g.toNat] (ZJ hi);have eq:K.G[g.toNat]?=aw [a,b,c,d,e,f,h]:=by rw[gEG hi,E]
 refine⟨a,b,c,d,e,f,h,eq,?_,?_,?_,by lia,by lia,by lia,by lia⟩ <;> (unfold gi;rw[eq];rfl)
def tV{g m a b c d e f h:Int}(E:gi K.G g 4=e)(j:gi K.G g 5=f)(n:0<=f)(u:f<=99)(q:Q (.int (cst K g m)) S):Ok (evC ag (k+1) 26 [az [a,b,c,d,e,f,h],.int m] S) Q:=by
 refine am (d:=dH) (ρ:=[aw (az [a,b,c,d,e,f,h]),aw (.int m),aD,aD,aD,aD,aD,aD,aD]) rfl rfl ?_;dsimp only[dH,ia];unfold cst at q;rw[E,j] at q;rw[show az [a,b,c,d,e,f,h] = .tup [.int a,.int b,.int c,.int d,.int e,.int f,.int h] from rfl];k_is;refine⟨?_,q⟩;unfold hU;rw[decide_eq_true (show -(2 ^ 64) < f by lia),decide_eq_true (show f < 2 ^ 64 by lia)];rfl
def pK(l:Bool){g m x a b c d e f h:Int}(E:gi K.G g 4=e)(n:gi K.G g 5=f)(j:0<=f)(u:f<=99)(q:Q (.int (jnd K l g m x)) S):Ok (evC ag (k+2) 54 [fL l,az [a,b,c,d,e,f,h],.int m,.int x] S) Q:=by
 refine am (d:=nq) (ρ:=[aw (fL l),aw (az [a,b,c,d,e,f,h]),aw (.int m),aw (.int x)]) rfl rfl ?_;dsimp only[nq,tj];unfold jnd at q;cases l with
 |true=>
  rw[if_pos rfl] at q;k_is;refine aa (show ak .eq (fL aN) (.str "last") S=aw (.bl aN,S) from rfl) ?_;k_is;exact q
 |false=>
  rw[if_neg (by decide)] at q;k_is;refine aa (show ak .eq (fL aS) (.str "last") S=aw (.bl aS,S) from rfl) ?_;k_is;refine aa (show ak .eq (fL aS) (.str "cost") S=aw (.bl aN,S) from rfl) ?_;k_is;refine⟨rfl,tV E n j u ?_⟩;k_is;exact q
def v8{left:List Int}{g:Int}(h:left.length<=100)(q:∀S',Sm S S'->Q (.tup ((rst left g).map D.int)) S'):Ok (evC ag (k+1) 5 [.tup (left.map D.int),.int g] S) Q:=by
 refine am (d:=jM) (ρ:=[aw (.tup (left.map D.int)),aw (.int g)]) rfl rfl ?_;dsimp only[jM,o6];k_is;refine aX left D.int (λx=>if (!decide (x=g))=aN then [D.int x] else []) (by lia) (λa _=>by split <;> simp) cw (λi x S' j sm=>⟨_,rfl,?_⟩) λb f=>?_
 ·k_is;cases c:!decide (x=g) with
  |true=>exact⟨rfl,Sm.refl _⟩
  |false=>exact⟨rfl,Sm.refl _⟩
 ·rw[bv];exact aa (show cL aS (((rst left g)).map D.int) b=aw (.tup ((rst left g).map D.int),b) from rfl) (q b f)
structure Lf(K:Sky)(n:Nat)(ah:Option (Int × Int))(left:List Int):Prop where
 nd:left.Nodup
 bd:∀g ∈ left,0<=g/\g < K.G.length
 ln:left.length=n
 le:n<=K.G.length
 ah:∀q,ah=aw q->0<=q.1/\q.1 < K.M.length
def xG:∀ {left:List Int} {g:Int},left.Nodup->g ∈ left->(rst left g).length+1=left.length
 |[],_,_,h=>by cases h
 |a::l,g,nd,h=>by
  rw[Z6] at nd;unfold rst;by_cases e:a=g
  ·subst e;rw[List.filter_cons_of_neg (by simp)]
   rw[XZ.mpr λx b=>by
    have:¬ x=a:=λz=>nd.1 (z ▸ b);simp[this]]
   rw[Zo]
  ·rw[List.filter_cons_of_pos (by simp[e]),Zo,Zo];have:=xG nd.2 ((Zn.mp h).resolve_left λz=>e z.symm);unfold rst at this
   lia
def Lf.rst{n:Nat}{ah:Option (Int × Int)}{left:List Int}{g m:Int}(h:Lf K (n+1) ah left)(d:g ∈ left)(f:0<=gi K.G g 0)(b:gi K.G g 0 < K.M.length):Lf K n (aw (gi K.G g 0,m)) (Sn.rst left g):=by
 have l:=xG h.nd d;have:=h.ln;have:=h.le;exact⟨h.nd.filter _,λx c=>h.bd x (ZQ.mp c).1,by lia,by lia,λq e=>by cases e;exact⟨f,b⟩⟩
abbrev BB(K:Sky)(l:Bool)(p n k:Nat):Prop:=∀ (ah:Option (Int × Int)) (left:List Int) (S:Sto) (c:Nat) (Q:D->Sto->Prop),Lf K n ah left->Kn K l p c S->c+cnt n<=99999->(∀S',Kp p S S'->Kn K l p (c+cnt n) S'->Q (bI (bb K l n ah left)) S')->Ok (evC ag k 55 [skE K,fL l,ahE ah,.tup (left.map D.int),.ref p] S) Q
def Kn.kp{l:Bool}{c:Nat}(h:Kn K l p c S)(s:Sm S S'):Kn K l p c S':=let ⟨kss,ds,e,k⟩:=h.ex;⟨kss,ds,s _ _ e,k⟩
def Kn.up{l:Bool}{c C:Nat}(h:Kn K l p c S)(b:c<=C):Kn K l p C S:=let ⟨kss,ds,e,k,z⟩:=h.ex;⟨kss,ds,e,k,Z0 z b⟩
def GV(sk:SkOk K){l:Bool}{n k:Nat}(ih:BB K l p n (k+5)){ah:Option (Int × Int)}{left:List Int}{g:Int}(L:Lf K (n+1) ah left)(U:g ∈ left){C:Nat}(T:Kn K l p C S)(J:C+cnt n<=99999)(q:∀S',Kp p S S'->Kn K l p (C+cnt n) S'->Q (bI (bw K l n ah left g)) S'):Ok (evC ag (k+6) 56 [skE K,fL l,ahE ah,.tup (left.map D.int),.int g,.ref p] S) Q:=by
 refine am (d:=gw) (ρ:=[aw (skE K),aw (fL l),aw (ahE ah),aw (.tup (left.map D.int)),aw (.int g),aw (.ref p),aD,aD,aD]) rfl rfl ?_;dsimp only[gw,kF];have V:=sk.vd;have g7:=sk.g7;have hb:=L.bd g U;have ln:=L.ln;have le:=L.le;obtain⟨a,b,c,d,e,f,h,X,E,e4,e5,f0,f1,a0,Y⟩:=gl9 sk hb.1 hb.2;k_is;refine aa sk2 (aa bc (aa bc ?_));k_is;rw[show((K.G.length:Int) - left.length)=((K.G.length - (n+1):Nat):Int) by lia];refine⟨rfl,pF (k:=k+2) V L.ah hb.1 hb.2 λy I=>?_⟩;unfold bw at q;cases hs:step K ah g (K.G.length - (n+1)) with
 |none=>
  rw[hs] at q;rw[show nI aD = .non from rfl];k_is;refine aa (show ak .is .non .non y=aw (.bl aN,y) from rfl) ?_;k_is;exact q y I.kp ((T.kp I).up (Wk _ _))
 |some m=>
  rw[hs] at q;rw[show nI (aw m) = .int m from rfl];k_is;refine aa (show ak .is (.int m) .non y=aw (.bl aS,y) from rfl) ?_;k_is;refine aa sk2 (aa (b9 hb.1 X) ?_);k_is;refine aa (show ixS (az [a,b,c,d,e,f,h]) (.int 0) y=aw (.int a,y) from rfl) ?_;k_is;refine⟨rfl,v8 (k:=k+4) (by lia) λZ s2=>?_⟩
  have lr:Lf K n (aw (a,m)) (Sn.rst left g):=by
   have:=L.rst (m:=m) U (by rw[E];exact a0) (by rw[E];exact Y)
   rwa [E] at this
  have v:=I.trans s2;refine⟨rfl,ih (aw (a,m)) (Sn.rst left g) Z C _ lr (T.kp v) J λj O B=>?_⟩;rw[E] at q;cases u:bb K l n (aw (a,m)) (Sn.rst left g) with
  |none=>
   dsimp only at q;rw[u] at q;rw[show bI aD = .non from rfl];k_is;refine aa (show ak .is .non .non j=aw (.bl aN,j) from rfl) ?_;k_is;exact q j (v.kp.trans O) B
  |some z=>
   dsimp only at q;rw[u] at q;rw[show bI (aw z) = .tup [.int z.1,.tup (z.2.map D.int)] from rfl];k_is;refine aa (show ak .is (.tup [.int z.1,.tup (z.2.map D.int)]) .non j=aw (.bl aS,j) from rfl) ?_;k_is;refine aa (show ixS (.tup [.int z.1,.tup (z.2.map D.int)]) (.int 0) j=aw (.int z.1,j) from rfl) ?_;refine⟨rfl,pK (k:=k+3) l e4 e5 f0 f1 ?_⟩;k_is;refine aa (show ixS (.tup [.int z.1,.tup (z.2.map D.int)]) (.int 1) j=aw (.tup (z.2.map D.int),j) from rfl) ?_;k_is;have lz:=v7 n _ _ z u;exact⟨by rw[Za,Zr];lia,q j (v.kp.trans O) B⟩
def CY{l:Bool}{k:Nat}:BB K l p 0 (k+1):=λah left S c Q lf kn hc q=>by
 refine am (d:=bO) (ρ:=[aw (skE K),aw (fL l),aw (ahE ah),aw (.tup (left.map D.int)),aw (.ref p),aD,aD]) rfl rfl ?_;dsimp only[bO,dF];have e:=ZT.mp lf.ln;subst e;k_is;exact q S (Kp.refl p S) kn
def M2{l:Bool}{b:List (List NK)}{d:List D}{ah:Option (Int × Int)}{left:List Int}(h:S[p]?=aw (.dic b d)):ak .notin (.tup [ahE ah,.tup (left.map D.int)]) (.ref p) S=aw (.bl (!(atD b d (g8 ah left)).isSome),S):=by
 have e:ak .notin (.tup [ahE ah,.tup (left.map D.int)]) (.ref p) S=inK aN (.tup [ahE ah,.tup (left.map D.int)]) (.ref p) S:=by
  simp only[ak,inS,ao,au,h,Option.map_none]
 rw[e];simp only[inK,eO,h];simp
def v9{b:List (List NK)}{c:List D}{ah:Option (Int × Int)}{left:List Int}{d:D}(f:S[p]?=aw (.dic b c))(h:atD b c (g8 ah left)=aw d):ixS (.ref p) (.tup [ahE ah,.tup (left.map D.int)]) S=aw (d,S):=by
 show ixK _ _ _=_;simp only[ixK,eO,f,h,ZD]
def xH:∀ (b:List (Int × List Int)),oU (b.map λz=>bI (aw z))=aw b
 |[]=>rfl
 |z::b=>by
  have e:Bq (bI (aw z))=aw z:=by
   show(fD (z.2.map D.int)).map _=_;rw[fw];rfl
  rw[Zw];simp only[oU,e,xH b]
def M3(b:List (Int × List Int)):oi aS (b.map λz=>bI (aw z)) S=aw (bI (pH b),S):=by
 unfold oi;rw[xH];dsimp only;rw[Za,ZE,Zp];unfold pH;cases b[argBest (hY b) (b.length - 1)]? <;> rfl
def M4{l:Bool}{ah:Option (Int × Int)}{left:List Int}{c:Nat}(I:Kn K l p c S)(O:c < 99999):∃S',jI (.ref p) (.tup [ahE ah,.tup (left.map D.int)]) (bI (bb K l left.length ah left)) S=aw S'/\Kp p S S'/\Kn K l p (c+1) S'/\ixS (.ref p) (.tup [ahE ah,.tup (left.map D.int)]) S'=aw (bI (bb K l left.length ah left),S'):=by
 obtain⟨b,n,y,⟨j,z⟩,E⟩:=I.ex;have lt:p < S.length:=(Zb.mp y).1;have e:jI (.ref p) (.tup [ahE ah,.tup (left.map D.int)]) (bI (bb K l left.length ah left)) S=AE (.ref p) (.tup [ahE ah,.tup (left.map D.int)]) (bI (bb K l left.length ah left)) S:=rfl;rw[e];simp only[AE,eO,y];rw[if_pos (by lia)];have kp:∀o,Kp p S (S.set p o):=λo i u hi h=>by rw[Zv (Ne.symm hi)];exact h
 by_cases C:(atD b n (g8 ah left)).isSome=aN
 ·rw[if_pos C];have f:(S.set p (Ob.dic b (fR (g8 ah left) (bI (bb K l left.length ah left)) b n)))[p]?=aw (.dic b (fR (g8 ah left) (bI (bb K l left.length ah left)) b n)):=ZU lt;refine⟨_,rfl,kp _,⟨_,_,f,⟨qr j,λq L d h=>?_⟩,by lia⟩,v9 f ?_⟩
  ·rcases xF h with ⟨h1,rfl⟩ |h1
   ·obtain⟨rfl,rfl⟩:=tS h1;rfl
   ·exact z q L d h1
  ·exact tU C
 ·rw[if_neg C]
  have B:atD b n (g8 ah left)=aD:=by
   cases h:atD b n (g8 ah left) with
   |none=>rfl
   |some d=>rw[h] at C;exact absurd rfl C
  have f:(S.set p (Ob.dic (b++[g8 ah left]) (n++[bI (bb K l left.length ah left)])))[p]?=aw (.dic (b++[g8 ah left]) (n++[bI (bb K l left.length ah left)])):=ZU lt;refine⟨_,rfl,kp _,⟨_,_,f,⟨by rw[Zh,Zh,j];rfl,λq L d h=>?_⟩,by rw[Zh,Zr];lia⟩,v9 f ?_⟩
  ·rw[ra j] at h;split at h
   ·rename_i J hd;cases h;exact z q L d hd
   ·split at h
    ·rename_i v;cases h;obtain⟨rfl,rfl⟩:=tS v;rfl
    ·cases h
  ·rw[ra j,B];dsimp only;rw[if_pos rfl]
abbrev M5{b:Type}(w:b->D):Option b->List D
 |none=>[]
 |some z=>[w z]
def tW{b c:Type}(f:b->Option c)(w:c->D):∀ (l:List b),(l.flatMap λa=>M5 w (f a))=(l.filterMap f).map w
 |[]=>rfl
 |a::l=>by
  rw[Y1,tW f w l,YQ];cases f a <;> rfl
def CZ(sk:SkOk K){l:Bool}{n k:Nat}(ih:BB K l p n (k+5)):BB K l p (n+1) (k+7):=λah left S cc Q lf kn hcc q=>by
 refine am (d:=bO) (ρ:=[aw (skE K),aw (fL l),aw (ahE ah),aw (.tup (left.map D.int)),aw (.ref p),aD,aD]) rfl rfl ?_;dsimp only[bO,dF];have g7:=sk.g7;have ln:=lf.ln;have le:=lf.le;obtain⟨f,ds,J,ki,hcl⟩:=kn.ex;have j:cnt (n+1)=(n+1) * cnt n+1:=rfl
 have ne:(left.map D.int).isEmpty=aS:=by
  cases left with
  |nil=>simp at ln
  |cons _ _=>rfl
 k_is;rw[ne];k_is;refine aa (M2 (l:=l) J) ?_;cases Y:atD f ds (g8 ah left) with
 |some d=>
  k_is;refine aa (v9 J Y) ?_;have e:=ki.2 ah left d Y;rw[ln] at e;subst e;exact q S (Kp.refl p S) (kn.up (Wk _ _))
 |none=>
  k_is;refine gC left.length (λi=>D.int (left.getD i 0)) (λi c S'=>Kp p S S'/\Kn K l p (cc+i * cnt n) S'/\c=(left.take i).map λg=>bI (bw K l n ah left g)) (λi c S' hi _=>?_) (by lia) (λi c S' hi B=>?_) (λes S' E=>?_) ⟨Kp.refl p S,by rw[Nat.zero_mul];exact kn,rfl⟩
  ·show aw (left.map D.int)[i]?=_;rw[Zp];split
   ·rename_i h;rw[gEG h,ZE,gEG h];rfl
   ·rename_i h;rw[Zs (by lia)];rfl
  ·obtain⟨kp,b,rfl⟩:=B;have Z:left.getD i 0=left[i]:=by rw[ZE,gEG hi];rfl
   rw[Z];refine⟨_,rfl,?_⟩;k_is;have hi2:(i+1) * cnt n<=(n+1) * cnt n:=Nat.mul_le_mul_right _ (by lia);have v:(i+1) * cnt n=i * cnt n+cnt n:=X9 _ _;refine⟨rfl,GV (k:=k) sk ih lf (ZJ hi) b (by lia) λS1 k1 C=>⟨kp.trans k1,by rw[v,<-YR];exact C,?_⟩⟩;rw[ZX hi,ZF];rfl
  ·obtain⟨kp,b,rfl⟩:=E;rw[YM];refine⟨by rw[Za];lia,?_⟩;have O:(S'++[Ob.lst (left.map λg=>bI (bw K l n ah left g))])[S'.length]?=aw (.lst (left.map λg=>bI (bw K l n ah left g))):=aC;have L:Sm S' (S'++[Ob.lst (left.map λg=>bI (bw K l n ah left g))]):=Sm.app _ _;generalize S'++[Ob.lst (left.map λg=>bI (bw K l n ah left g))]=S1 at *;generalize S'.length=N at *;k_is;refine⟨by rw[aq O];rfl,?_⟩;refine aX left (λg=>bI (bw K l n ah left g)) (λg=>M5 (λz=>bI (aw z)) (bw K l n ah left g)) (by lia) (λg _=>by cases bw K l n ah left g <;> simp[M5]) (bH O) (λi g S2 hg sm=>⟨_,rfl,?_⟩) λS2 X=>?_
   ·k_is;cases hb:bw K l n ah left g with
    |none=>
     refine aa (show ak .isnot (bI aD) .non S2=aw (.bl aS,S2) from rfl) ?_;k_is;exact⟨rfl,Sm.refl _⟩
    |some z=>
     refine aa (show ak .isnot (bI (aw z)) .non S2=aw (.bl aN,S2) from rfl) ?_;k_is;exact⟨rfl,Sm.refl _⟩
   ·rw[tW];refine aa (M3 _) ?_;rw[<-lv]
    have k2:Kn K l p (cc+(n+1) * cnt n) S2:=by
     have:=(b.kp L).kp X
     rwa [ln] at this
    obtain⟨T,U,u,y,I⟩:=M4 (ah:=ah) (left:=left) k2 (by lia);rw[ln] at U I;refine⟨T,U,?_⟩;k_is;refine aa I (q T ((kp.trans (L.trans X).kp).trans u) ?_);rw[j,<-YR];exact y
abbrev meL(r s:Int)(M:List (List Int))(H:List (Int × Int)):D:=.tup [.int r,.int s,.tup (M.map az),.tup (H.map ac)]
def GW{r s:Int}{M G:List (List Int)}{H:List (Int × Int)}{F:List Int}{u:List D}{N n hi:Nat}{u4 u5 u6 u7 u8 u9 u10 u11 u13:Option D}(h:Pot p S)(gs:Gs p N hi S u G)(J:S[n]?=aw (.lst (F.map D.int)))(T:n ≠ p)(me:MeOk r s M H)(g7:G.length<=7)
  (q:∀a S',Dr p S S'->(∀z:Int × Int,a=aw z->0<=z.1/\z.1 < M.length/\0<=z.2/\z.2<=9999)->Q (skE ⟨r,s,M,H,a,G,F⟩) S') :
  rW (wSs (evC ag (k+3)) (fZ ag) 55 (gR.drop 5)) [aw (.ref p),aw (.int 6),aw (meL r s M H),aw (.ref N),u4,u5,u6,u7,u8,u9,u10,u11,aw (.ref n),u13,aD] S (out Q):=by
 dsimp only[gR,Yu];have m1:=me.m1;have m4:=me.m4;k_is;refine aa (show ixS (meL r s M H) (.int 2) S=aw (.tup (M.map az),S) from rfl) ?_;refine aa (show aj cb (.tup (M.map az)) S=aw (.int M.length,S) by simp only[aj,ao,cb,Za]) ?_;refine⟨rfl,aE h (by lia) (by lia) λx S1 x1 X C=>?_⟩;refine⟨rfl,aE C.pot (by decide) (by decide) λy S2 Y y2 I=>?_⟩;refine⟨rfl,aE I.pot (by decide) (by decide) λz S3 z1 z2 U=>?_⟩;k_is;have d:=(C.trans I).trans U
 obtain⟨a,O,ha⟩:∃a:Option (Int × Int),atI [D.non,D.tup [D.int x,D.int y]] z=aw (ahE a)/\∀q,a=aw q->0<=q.1/\q.1 < M.length/\0<=q.2/\q.2<=9999:=by
  have:z=0\/z=1:=by lia
  rcases this with rfl |rfl
  ·exact⟨aD,rfl,λq e=>by cases e⟩
  ·exact⟨aw (x,y),rfl,λq e=>by cases e;exact⟨x1,X,Y,by lia⟩⟩
 refine⟨_,O,?_⟩;k_is;have c:=gs.keep d.kp;have B:=d.kp _ _ T J;refine⟨by rw[aq c.at_];rfl,?_⟩;have le:=c.len;refine gC u.length (λi=>(u[i]?).getD .non) (λi j S'=>S'=S3/\j=(G.take i).map az) (λi j S' hi ⟨e,_⟩=>by subst e;exact qR c.at_ _ xz) (by lia) (λi j f hi ⟨v,E⟩=>?_) (λes' f ⟨v,E⟩=>⟨by rw[E,Za,Yb];lia,?_⟩) ⟨rfl,rfl⟩
 ·subst v;have L:i < G.length:=by lia
  obtain⟨b,eb,_,_,Z⟩:=c.row i G[i] (gEG L);simp only[eb,ZW];refine⟨_,rfl,?_⟩;k_is;refine aa (show aj cL (.ref b) f=aw (.tup (G[i].map D.int),f) by simp only[aj,ao,aq Z,ZD,cL]) ?_;refine⟨rfl,?_⟩;rw[E,ZX L,ZF];rfl
 ·subst v;rw[Ye (by lia)] at E;subst E;refine aa (show cL aS (G.map az) f=aw (.tup (G.map az),f) from rfl) ?_;refine aa (show aj cL (.ref n) f=aw (.tup (F.map D.int),f) by simp only[aj,ao,aq B,ZD,cL]) ?_;k_is;exact q a f d ha
def wa{l:List Int}{j:Nat}(h:j < l.length):(l[j]::l.eraseIdx j).Perm l:=by
 induction l generalizing j with
 |nil=>simp at h
 |cons a l I=>
  cases j with
  |zero=>exact List.Perm.refl _
  |succ j=>
   rw[Zo] at h;have:=I (j:=j) (by lia);rw[Xy,Yd];exact(List.Perm.swap _ _ _).trans (this.cons a)
def pL:∀ (l:List Int) (j:Nat),(l.map D.int).eraseIdx j=(l.eraseIdx j).map D.int
 |[],_=>rfl
 |a::l,0=>rfl
 |a::l,j+1=>by rw[Zw,Yd,Yd,Zw,pL l j]
def C0{n:Nat}{l:List Int}{j:Nat}(f:S[n]?=aw (.lst (l.map D.int)))(c:j < l.length):eU (.ref n) [.int (j:Int)] S=aw (.int l[j],S.set n (.lst ((l.eraseIdx j).map D.int))):=by
 have h:ixN (l.map D.int).length (j:Int)=aw j:=by
  unfold ixN;rw[if_pos (by lia),if_pos (by rw[Za];lia),Zy]
 have b:(l.map D.int)[j]?=aw (.int l[j]):=by rw[Zp,gEG c];rfl
 have d:(l.map D.int).eraseIdx j=(l.eraseIdx j).map D.int:=pL l j;simp only[eU,chg,f,h,b,ZD,d]
def nP{n:Nat}{l:List Int}(h:l.Perm ((Zk n).map λi=>Int.ofNat i)):l.Nodup/\(∀x ∈ l,0<=x/\x < n)/\l.length=n:=by
 refine⟨h.nodup_iff.mpr (YJ.mpr (Xa.imp λh z=>h (Int.ofNat.inj z))),λx b=>?_,by rw[h.length_eq,Za,ZG]⟩;obtain⟨i,hi,rfl⟩:=Zu.mp (h.mem_iff.mp b);have:=ZO.mp hi;show 0<=(i:Int)/\(i:Int) < n
 lia
structure Fxs(p N Nl Nf:Nat)(S:Sto)(es:List D)(G:List (List Int))(l F:List Int):Prop where
 gs:Gs p N Nl S es G
 al:S[Nl]?=aw (.lst (l.map D.int))
 af:S[Nf]?=aw (.lst (F.map D.int))
 nn:Nl < Nf
 pm:(F++l).Perm ((Zk G.length).map λi=>Int.ofNat i)
 rg:∀ (j:Nat) g,G[j]?=aw g->g.getD 6 0=0\/(j:Int) ∈ F
def Fxs.keep{N n b:Nat}{E:List D}{G:List (List Int)}{l F:List Int}(h:Fxs p N n b S E G l F)(kp:Ev.Kp p S S')(hN:N < n):Fxs p N n b S' E G l F:=by
 have:=h.gs.pN;have:=h.nn;exact⟨h.gs.keep kp,kp _ _ (by lia) h.al,kp _ _ (by lia) h.af,h.nn,h.pm,h.rg⟩
def GY{r s:Int}{M G:List (List Int)}{H:List (Int × Int)}{L:List D}{N hi:Nat}{B:Sto}{u4 u5 u6 u7 u8 u9 I:Option D}(h:Dr p B S)(l0:B.length<=N)(gs:Gs p N S.length S L G)(me:MeOk r s M H)(g7:G.length<=7)(gb:∀g ∈ G,GB M.length r s g)(g0:∀g ∈ G,g.getD 6 0=0)
  (q:∀K S',Dr p B S'->SkOk K->(∀g ∈ K.G,GB K.M.length K.r K.s g)->Q (skE K) S') :
  rW (wSs (evC ag (k+3)) (fZ ag) 57 (gR.drop 3)) [aw (.ref p),aw (.int 6),aw (meL r s M H),aw (.ref N),u4,u5,u6,u7,u8,u9,I,aD,aD,aD,aD] S (out Q):=by
 have T:=λ(u11 U:Option D) (b:List (List Int)) (es':List D) (F:List Int) (v hi:Nat) (S1:Sto) (d:Dr p B S1) (gs':Gs p N hi S1 es' b) (hf:S1[v]?=aw (.lst (F.map D.int))) (nf:v ≠ p) (g7':b.length<=7) (f:∀g ∈ b,GB M.length r s g) (nd:F.Nodup) (bd:∀x ∈ F,0<=x/\x < b.length) (rg:∀ (j:Nat) g,b[j]?=aw g->g.getD 6 0=0\/(j:Int) ∈ F)=>
  GW (k:=k) (Q:=Q) (u4:=u4) (u5:=u5) (u6:=u6) (u7:=u7) (u8:=u8) (u9:=u9) (u10:=I) (u11:=u11) (u13:=U) d.pot gs' hf nf me g7' λa S2 d2 ha=>q _ S2 (d.trans d2) ⟨me,g7',λg hg=>(f g hg).up (by decide),nd,bd,rg,ha⟩ f
 dsimp only[gR,Yu] at T ⊢;have pN:=gs.pN;have le:=gs.len;have O:N < S.length:=(Zb.mp gs.at_).1;k_is;refine aa (ca gs.at_) ?_;refine⟨L.length,rfl,by lia,?_⟩;k_is;rw[le]
 have al:(S++[Ob.lst ((Zk G.length).map λj=>D.int (Int.ofNat j))]++[Ob.lst []])[S.length]?=aw (.lst (((Zk G.length).map λj=>Int.ofNat j).map D.int)):=by
  rw[Zq (by simp),aC,ZL];rfl
 have af:(S++[Ob.lst ((Zk G.length).map λj=>D.int (Int.ofNat j))]++[Ob.lst []])[Zd (S++[Ob.lst ((Zk G.length).map λj=>D.int (Int.ofNat j))])]?=aw (.lst (([]:List Int).map D.int)):=aC;have E:Sm S (S++[Ob.lst ((Zk G.length).map λj=>D.int (Int.ofNat j))]++[Ob.lst []]):=(Sm.app _ _).trans (Sm.app _ _);have nn:S.length < Zd (S++[Ob.lst ((Zk G.length).map λj=>D.int (Int.ofNat j))]):=by simp
 generalize Zd (S++[Ob.lst ((Zk G.length).map λj=>D.int (Int.ofNat j))])=v at *;generalize S++[Ob.lst ((Zk G.length).map λj=>D.int (Int.ofNat j))]++[Ob.lst []]=S1 at *;have d1:Dr p B S1:=h.thenSm E;have fx1:Fxs p N S.length v S1 L G ((Zk G.length).map λj=>Int.ofNat j) []:=⟨gs.keep E.kp,al,af,nn,List.Perm.refl _,λj g e=>.inl (g0 g (Zc e))⟩;have sl:B.length<=S.length:=by lia
 generalize S.length=Nl at *;refine aa (ca (E _ _ gs.at_)) ?_;k_is;rw[le];refine⟨rfl,aE d1.pot (by lia) (by lia) λt S2 t1 t2 d2=>?_⟩;refine⟨rfl,aE d2.pot (by decide) (by decide) λz S3 z1 z2 d3=>?_⟩;k_is
 obtain⟨c,ec,hc⟩:∃c:Nat,atI [D.int 0,D.int t] z=aw (D.int c)/\c<=G.length:=by
  have:z=0\/z=1:=by lia
  rcases this with rfl |rfl
  ·exact⟨0,rfl,YK _⟩
  ·obtain⟨m,rfl⟩:∃m:Nat,t=(m:Int):=⟨t.toNat,by lia⟩;exact⟨m,rfl,by lia⟩
 refine⟨_,ec,?_⟩;k_is;refine⟨dg (by lia) (by lia),?_⟩;rw[Zy];refine gB (by lia) (λi ρ S'=>Dr p B S'/\∃b l F U,ρ=[aw (.ref p),aw (.int 6),aw (meL r s M H),aw (.ref N),u4,u5,u6,u7,u8,u9,I,aw (.ref Nl),aw (.ref v),U,aD]/\Fxs p N Nl v S' L b l F/\F.length=i/\b.length=G.length/\∀g ∈ b,GB M.length r s g) (λi ρ S4 hi ⟨d4,b,l,F,U,er,fx,lF,lG,f⟩=>?_) (λρ S4 ⟨d4,b,l,F,U,er,fx,lF,lG,f⟩=>?_) ⟨(d1.trans d2).trans d3,G,_,[],aD,rfl,fx1.keep (d2.trans d3).kp O,rfl,rfl,gb⟩
 ·subst er;refine⟨_,rfl,?_⟩;k_is;have pl:F.length+l.length=b.length:=by have:=fx.pm.length_eq;rw[Zh,Za,ZG] at this;exact this
  refine⟨df fx.af,?_⟩;refine⟨df fx.al,?_⟩;refine aa (ca fx.al) ?_;rw[Za];refine⟨rfl,aE d4.pot (by lia) (by lia) λj0 J j1 j2 d5=>?_⟩;obtain⟨j,rfl⟩:∃j:Nat,j0=(j:Int):=⟨j0.toNat,by lia⟩;have hj:j < l.length:=by lia
  have u:=fx.keep d5.kp O;refine aa (C0 u.al hj) ?_;have C:=u.nn;have lt5:Nl < J.length:=(Zb.mp u.al).1;have ltf:v < J.length:=(Zb.mp u.af).1;have af6:(J.set Nl (.lst ((l.eraseIdx j).map D.int)))[v]?=aw (.lst (F.map D.int)):=by rw[Zv (by lia)];exact u.af
  rw[nv af6 (by rw[Za];lia)];k_is;have ef:F.map D.int++[D.int l[j]]=(F++[l[j]]).map D.int:=by rw[ZF];rfl
  rw[ef]
  have pm7:((F++[l[j]])++l.eraseIdx j).Perm ((Zk b.length).map λi=>Int.ofNat i):=by
   rw[Z2];exact((wa hj).append_left F).trans fx.pm
  have X:Fxs p N Nl v ((J.set Nl (.lst ((l.eraseIdx j).map D.int))).set v (.lst ((F++[l[j]]).map D.int))) L b (l.eraseIdx j) (F++[l[j]]):=by
   refine⟨(u.gs.other (Ze _) O).other (by lia) O,?_,dR (by rw[ZY];exact ltf),C,pm7,λj' g e=>?_⟩
   ·rw[Zv (by lia),dR lt5]
   ·rcases fx.rg j' g e with z |z
    ·exact .inl z
    ·exact .inr (Z3 _ z)
  have d7:Dr p B ((J.set Nl (.lst ((l.eraseIdx j).map D.int))).set v (.lst ((F++[l[j]]).map D.int))):=⟨((d4.kp.trans d5.kp).setNew (by lia)).setNew (by lia),(d5.pot.setNe (by lia)).setNe (by lia)⟩;generalize (J.set Nl (.lst ((l.eraseIdx j).map D.int))).set v (.lst ((F++[l[j]]).map D.int))=S7 at *;have xb:=(nP fx.pm).2.1 l[j] (Zz _ (ZJ hj));generalize l[j]=x at *;refine aa (show ixS (meL r s M H) (.int 0) S7=aw (.int r,S7) from rfl) ?_;k_is;refine cv (λh1=>?_) λh1=>?_
  ·k_is;have r0:=of_decide_eq_true h1;have r8:=me.r8;refine⟨rfl,aE d7.pot (by decide) (by decide) λy S8 y1 y2 d8=>?_⟩;k_is;have Y:=X.keep d8.kp O;refine cv (λh2=>?_) λh2=>?_
   ·k_is;refine aa (show ixS (meL r s M H) (.int 0) S8=aw (.int r,S8) from rfl) ?_;refine⟨rfl,aE d8.pot r0 (by lia) λw S9 w1 w2 d9=>?_⟩;k_is;have n:=Y.keep d9.kp O;refine aa (qS (ds:=F.map D.int) (e:=.int x) (by rw[n.af,ZF];rfl)) ?_;have hx:x.toNat < b.length:=by lia
    obtain⟨a,ea,n1,n2,za⟩:=n.gs.row x.toNat b[x.toNat] (gEG hx);refine aa (dS n.gs.at_ xb.1 ea) ?_;k_is;obtain⟨kd,jo,fi,la,du,we,ri,eg,hb⟩:=f b[x.toNat] (ZJ hx);rw[eg] at za;refine⟨_,xD (i:=6) za (by decide) (by show 6 < 7;decide),?_⟩;k_is;have es9:(([kd,jo,fi,la,du,we,ri]:List Int).map D.int).set (6:Int).toNat (.int (1+w))=([kd,jo,fi,la,du,we,1+w]:List Int).map D.int:=rfl;rw[es9];refine⟨⟨((d7.kp.trans d8.kp).trans d9.kp).setNew (by lia),d9.pot.setNe (by lia)⟩,b.set x.toNat [kd,jo,fi,la,du,we,1+w],_,_,_,rfl,⟨n.gs.setRow hx ea,?_,?_,C,by rw[ZY];exact n.pm,λj' g e=>?_⟩,by rw[Zh,Zr];lia,by rw[ZY];exact lG,λg hg=>?_⟩
    ·rw[Zv (by lia)];exact n.al
    ·rw[Zv (by lia)];exact n.af
    ·by_cases Z:j'=x.toNat
     ·subst Z;right;have:((x.toNat:Nat):Int)=x:=by lia
      rw[this];exact Zz _ (ZM.mpr rfl)
     ·rw[Zv (Ne.symm Z)] at e;exact n.rg j' g e
    ·rcases List.mem_or_eq_of_mem_set hg with hg |rfl
     ·exact f g hg
     ·exact⟨kd,jo,fi,la,du,we,1+w,rfl,by omega⟩
   ·k_is;exact⟨d7.trans d8,b,_,_,_,rfl,Y,by rw[Zh,Zr];lia,lG,f⟩
  ·k_is;exact⟨d7,b,_,_,_,rfl,X,by rw[Zh,Zr];lia,lG,f⟩
 ·subst er;k_is;have pr:=nP fx.pm;have C:=fx.nn;exact T _ _ b L F v Nl S4 d4 fx.gs fx.af (by lia) (by lia) f (List.Nodup.sublist (List.sublist_append_left F l) pr.1) (λy hy=>pr.2.1 y (Z3 _ hy)) fx.rg
def GZ(h:Pot p S)(q:∀K S',Dr p S S'->SkOk K->(∀g ∈ K.G,GB K.M.length K.r K.s g)->Q (skE K) S'):Ok (evC ag (k+4) 62 [.ref p,.int 6] S) Q:=by
 refine am (d:=jV) (ρ:=[aw (.ref p),aw (.int 6),aD,aD,aD,aD,aD,aD,aD,aD,aD,aD,aD,aD,aD]) rfl rfl ?_;have C:=@GY p;dsimp only[jV];dsimp only[gR,Yu] at C ⊢;k_is;refine⟨rfl,vZ h λr s M H y d1 me=>?_⟩;rw[show(D.tup [.int r,.int s,.tup (M.map az),.tup (H.map ac)])=meL r s M H from rfl];k_is;have L:=d1.pot.lt;have m1:=me.m1;have m4:=me.m4;have s0:=me.s0;have s60:=me.s60;have sl:S.length<=y.length:=Kp.len d1.kp L;have d2:Dr p S (y++[Ob.lst []]):=d1.thenSm (Sm.app _ _);have g2:Gs p y.length (Zd (y++[Ob.lst []])) (y++[Ob.lst []]) [] []:=⟨L,aC,rfl,λi g e=>by simp at e,λi j a e=>by simp at e⟩;generalize y++[Ob.lst []]=S2 at *;generalize y.length=N at *;refine⟨rfl,aE d2.pot (by decide) (by decide) λZ S3 j3 k3 d3=>?_⟩;k_is
 obtain⟨wd,at3,h3⟩:∃e:Int,atI [D.int 5,D.int 20,D.int 60] Z=aw (D.int e)/\0 < e/\e<=60:=by
  have:Z=0\/Z=1\/Z=2:=by lia
  rcases this with rfl |rfl |rfl
  ·exact⟨5,rfl,by decide,by decide⟩
  ·exact⟨20,rfl,by decide,by decide⟩
  ·exact⟨60,rfl,by decide,by decide⟩
 refine⟨_,at3,?_⟩;refine⟨rfl,aE d3.pot (by decide) (by decide) λI S4 j4 k4 d4=>?_⟩;k_is
 obtain⟨lg,at4,h4⟩:∃e:Int,atI [D.int 4,D.int 30,D.int 90,D.int 400] I=aw (D.int e)/\0 < e/\e<=400:=by
  have:I=0\/I=1\/I=2\/I=3:=by lia
  rcases this with rfl |rfl |rfl |rfl
  ·exact⟨4,rfl,by decide,by decide⟩
  ·exact⟨30,rfl,by decide,by decide⟩
  ·exact⟨90,rfl,by decide,by decide⟩
  ·exact⟨400,rfl,by decide,by decide⟩
 refine⟨_,at4,?_⟩;k_is;refine⟨rfl,aE d4.pot (by decide) (by decide) λn0 S5 n1 n2 d5=>?_⟩;k_is;obtain⟨n,rfl⟩:∃n:Nat,n0=(n:Int):=⟨n0.toNat,by lia⟩;refine⟨dg (by lia) (by lia),?_⟩;rw[Zy];have u:=(d3.trans d4).trans d5;refine gB (by lia) (λi ρ S'=>Dr p S S'/\∃O G u6 u7 u8 u9 U,ρ=[aw (.ref p),aw (.int 6),aw (meL r s M H),aw (.ref N),aw (.int wd),aw (.int lg),u6,u7,u8,u9,U,aD,aD,aD,aD]/\Gs p N S'.length S' O G/\G.length=i/\∀g ∈ G,GB M.length r s g/\g.getD 6 0=0) (λi ρ S6 hi ⟨X,O,G,u6,u7,u8,u9,U,er,gs,lG,gb⟩=>?_) (λρ S6 ⟨X,O,G,u6,u7,u8,u9,U,er,gs,lG,gb⟩=>?_) ⟨d2.trans u,[],[],aD,aD,aD,aD,aD,rfl,(g2.keep u.kp).up (Kp.len u.kp u.pot.lt),rfl,λg hg=>by simp at hg⟩
 ·subst er;refine⟨_,rfl,?_⟩;k_is;refine⟨rfl,aE X.pot h3.1 (by lia) λJ S7 o1 o2 d7=>?_⟩;k_is;refine aa (show ixS (meL r s M H) (.int 1) S7=aw (.int s,S7) from rfl) ?_;k_is;refine⟨rfl,aE d7.pot (by decide) (by decide) λx S8 x1 x2 d8=>?_⟩;refine⟨rfl,aE d8.pot (by decide) (by decide) λz S9 z1 z2 d9=>?_⟩;k_is
  obtain⟨e,ate,he⟩:∃e:Int,atI [D.int 0,D.int x] z=aw (D.int e)/\0<=e/\e<=9:=by
   have:z=0\/z=1:=by lia
   rcases this with rfl |rfl
   ·exact⟨0,rfl,by decide,by decide⟩
   ·exact⟨x,rfl,by lia,by lia⟩
  refine⟨_,ate,?_⟩;k_is;refine⟨rfl,aE d9.pot h4.1 (by lia) λa Sa a1 a2 da=>?_⟩;k_is;refine⟨rfl,aE da.pot h4.1 (by lia) λb T b1 b2 db=>?_⟩;k_is;have v:=(((d7.trans d8).trans d9).trans da).trans db;have gsb:=gs.keep v.kp;refine⟨df gsb.at_,?_⟩;refine aa (show ixS (meL r s M H) (.int 2) T=aw (.tup (M.map az),T) from rfl) ?_;refine aa (show aj cb (.tup (M.map az)) T=aw (.int M.length,T) by simp only[aj,ao,cb,Za]) ?_;refine⟨rfl,aE db.pot (by lia) (by lia) λY Sc c1 c2 dc=>?_⟩;refine⟨rfl,aE dc.pot (by decide) (by decide) λw Sd w1 w2 dd=>?_⟩;k_is
  obtain⟨E,atw,hw⟩:∃e:Int,atI [D.int 0,D.int 1,D.int 7,D.int 99] w=aw (D.int e)/\0<=e/\e<=99:=by
   have:w=0\/w=1\/w=2\/w=3:=by lia
   rcases this with rfl |rfl |rfl |rfl
   ·exact⟨0,rfl,by decide,by decide⟩
   ·exact⟨1,rfl,by decide,by decide⟩
   ·exact⟨7,rfl,by decide,by decide⟩
   ·exact⟨99,rfl,by decide,by decide⟩
  refine⟨_,atw,?_⟩;k_is;have c:=v.trans (dc.trans dd);have f:=(gs.keep c.kp).up (Kp.len c.kp c.pot.lt);have atN:=Sm.app Sd [Ob.lst [D.int Y,D.int J,D.int (J+s+e),D.int (J+s+e+a),D.int (J+b),D.int E,D.int 0]] _ _ f.at_;rw[nv atN (by rw[f.len];lia)];k_is;have sn:=f.snoc (g:=[Y,J,J+s+e,J+s+e+a,J+b,E,0]);have B:=X.trans c;refine⟨⟨(B.kp.trans (Sm.app _ _).kp).setNew (by lia),((Dr.sm B.pot (Sm.app _ _)).pot).setNe (by have:=f.pN;lia)⟩,O++[D.ref (Zd Sd)],G++[[Y,J,J+s+e,J+s+e+a,J+b,E,0]],_,_,_,_,_,rfl,?_,by rw[Zh,Zr];lia,λg hg=>?_⟩
  ·rw[ZY,Zh,Zr];exact sn
  ·rcases ZS.mp hg with hg |hg
   ·exact gb g hg
   ·rw[ZM.mp hg];exact⟨⟨Y,J,J+s+e,J+s+e+a,J+b,E,0,rfl,by have:=me.r0;omega⟩,rfl⟩
 ·subst er;exact C (hi:=0) X (by lia) gs me (by lia) (λg hg=>(gb g hg).1) (λg hg=>(gb g hg).2) q
end Lw
namespace Lw
open PySem Ev L2
variable {p:Nat} {S:Sto} {k:Nat} {Q:D->Sto->Prop}
def Qo{b c:Type}(f:b->c):∀ (l:List b) (j:Nat),(l.map f).eraseIdx j=(l.eraseIdx j).map f
 |[],_=>rfl
 |_::_,0=>rfl
 |a::l,j+1=>by rw[Zw,Yd,Yd,Zw,Qo f l j]
def Qp{b:Type}:∀ (l:List b) (j:Nat) (h:j < l.length),(l[j]::l.eraseIdx j).Perm l
 |a::l,0,_=>List.Perm.refl _
 |a::l,j+1,h=>by
  rw[Yd,Xy];exact(List.Perm.swap _ _ _).trans ((Qp l j (by simpa using h)).cons a)
def C1{L:Nat}{I:List Int}(h:Pot p S)(u:S[L]?=aw (.lst (I.map D.int)))(T:L ≠ p)(hn:I.length<=1000)
  (q:∀ (is:List Int) b,Dr p S b->is.Perm I->Q (.ref (Zd b)) (b++[.lst (is.map D.int)])):Ok (evC ag (k+2) 69 [.ref p,.ref L] S) Q:=by
 refine am (d:=cZ) (ρ:=[aw (.ref p),aw (.ref L),aD]) rfl rfl ?_;dsimp only[cZ,f8];k_is;have Z:ao (.ref L) S=aw (aS,I.map D.int):=by simp only[ao,aq u,ZD]
 rw[Z];show Ok (aw (I.map D.int,S)) _;rw[aG];k_is;have lt:=h.lt;have O:Dr p S (S++[Ob.lst (I.map D.int)]):=Dr.sm h (Sm.app _ _);have z:=Sm.app S [Ob.lst (I.map D.int)] _ _ u;have X:L < Zd S:=(Zb.mp u).1;k_is;refine⟨(by rw[aq z];rfl),?_⟩;have lm:(I.map D.int).length=I.length:=Za _;refine gC I.length (λi=>((I.map D.int)[i]?).getD .non) (λi c b=>Ev.Kp p S b/\Pot p b/\∃left as:List Int,b[Zd S]?=aw (.lst (left.map D.int))/\c=as.map D.int/\(as++left).Perm I/\left.length+i=I.length) (λi c b hi ⟨kp,_⟩=>by rw[<-lm];exact qR (kp _ _ T u) _ xz) (by lia) (λi c v hi ⟨kp,pt,left,as,hf,ea,pm,ll⟩=>⟨_,rfl,?_⟩) (λes v ⟨kp,pt,left,as,hf,ea,pm,ll⟩=>⟨by rw[ea,Za];have:=pm.length_eq;rw[Zh] at this;lia,?_⟩) ⟨O.kp,O.pot,I,[],aC,rfl,by simp,by lia⟩
 ·k_is;refine⟨df hf,?_⟩;k_is;have Y:aj cb (D.ref (Zd S)) v=aw (.int left.length,v):=by simp only[aj,ao,aq hf,ZD,cb,Za]
  refine aa Y ?_;k_is;refine⟨rfl,aE pt (by lia) (by lia) λr y r1 r2 J=>?_⟩;k_is;obtain⟨j,rfl⟩:∃n:Nat,r=(n:Int):=⟨r.toNat,by lia⟩;have E:j < left.length:=by lia
  have f:=J.kp _ _ (show Zd S ≠ p by lia) hf;have C:Zd S < y.length:=(Zb.mp f).1
  have U:eU (.ref (Zd S)) [.int (j:Int)] y=aw (.int left[j],y.set (Zd S) (.lst ((left.map D.int).eraseIdx j))):=by
   have B:ixN (left.map D.int).length (j:Int)=aw j:=by
    unfold ixN;rw[if_pos (by lia),if_pos (by rw[Za];lia),Zy]
   simp only[eU,chg,f,B,Zp,gEG E,ZD]
  refine aa U ?_;k_is;refine⟨(kp.trans J.kp).setNew (Ze _),J.pot.setNe (by lia),left.eraseIdx j,as++[left[j]],by rw[dR C,Qo],by rw[ea,ZF];rfl,?_,by rw[Xk E];lia⟩;refine List.Perm.trans ?_ pm;rw[Z2];exact List.Perm.append_left as (Qp left j E)
 ·subst ea;k_is;have:left=[]:=ZT.mp (by lia);subst this;rw[ZN] at pm;exact q as v ⟨kp,pt⟩ pm
def pM:∀ (ps:List (Int × Int)),dD (ps.map ac)=aw ps
 |[]=>rfl
 |q::ps=>by
  rw[Zw];simp only[dD,pM ps,ac,mw]
def wb{b:Type}(d:b)(l:List b):(Zk l.length).map (λi=>l.getD i d)=l:=by
 apply Wl
 ·simp
 ·intro i h c;simp at h;simp[h]
def zp(ps:List (Int × Int)):∃q:List (Int × Int),cV ps .non (ps.map ac)=q.map ac/\q.Perm ps:=by
 by_cases h:ps.length < 2
 ·exact⟨ps,by unfold cV;rw[if_pos (by rw[Za];exact h)],List.Perm.refl _⟩
 ·have c:0 < ps.length:=by lia
  have pm:Pm ps.length (eT (n8 ps) (Vr ps.length)):=(qu c).run;refine⟨(eT (n8 ps) (Vr ps.length)).toList.map λi=>ps.getD i (0,0),?_,?_⟩
  ·unfold cV;rw[if_neg (by rw[Za];exact h),Za,ZL];refine Yh λi hi=>?_;have b:=(Ev.ir (lt:=n8 ps) c).1 i hi;simp[b]
  ·have e:(eT (n8 ps) (Vr ps.length)).toList.Perm (Zk ps.length):=by
    have:=Array.perm_iff_toList_perm.mp pm
    simpa using this
   have:=e.map λi=>ps.getD i (0,0)
   rwa [wb] at this
end Lw
namespace Lw
open PySem Ev Sn L2
variable {p:Nat} {S S':Sto} {k:Nat} {Q:D->Sto->Prop} {K:Sky}
def wc{n:Nat}:∀i S',Sm S S'->nxR 0 n i S'=aw (((Zk n)[i]?).map λ(j:Nat)=>D.int (0+(j:Int))):=λi S' _=>by
 show aw (if i < n then aw (D.int (0+(i:Int))) else aD)=_;split
 ·rename_i h;rw[Yz h];rfl
 ·rename_i h;rw[Zs (by rw[ZG];lia)];rfl
def zq{ps:List (Int × Int)}(h:ps.length < 64):∃q:List (Int × Int),cD aS (ps.map ac)=aw (q.map ac)/\q.Perm ps:=by
 obtain⟨q,e,pm⟩:=zp ps;refine⟨q,?_,pm⟩;show(if aS=aS then uX aS (ps.map ac) else aD)=_;rw[if_pos rfl];simp only[uX,pM];rw[if_pos (by rw[Za];exact h),e]
abbrev cx(K:Sky):List Int:=((Zk K.G.length).filter λ(j:Nat)=>!decide ((j:Int) ∈ K.F)).map λ(j:Nat)=>(j:Int)
def lx(x:Int):x ∈ cx K ↔ (0<=x/\x < K.G.length/\x ∉ K.F):=by
 unfold cx;rw[Zu];constructor
 ·rintro⟨j,c,rfl⟩;obtain⟨b,h⟩:=ZQ.mp c;have:=ZO.mp b;simp at h;exact⟨by lia,by lia,h⟩
 ·rintro⟨d,b,h⟩;refine⟨x.toNat,ZQ.mpr ⟨ZO.mpr (by lia),?_⟩,by lia⟩;have:((x.toNat:Nat):Int)=x:=by lia
  rw[this];simp[h]
def rc:(cx K).Nodup:=by
 unfold cx;refine YJ.mpr ((Xa.sublist X1).imp λh z=>h (by lia))
def rd(h:SkOk K){l:List Int}(pm:l.Perm (cx K)):Ord K (K.F++l):=by
 have d:=lx (K:=K);have no:=rc (K:=K);have y:l.Nodup:=pm.nodup_iff.mpr no
 have nd:(K.F++l).Nodup:=Yx.mpr ⟨h.nd,y,λa v b hb e=>by
  have:=((d b).mp (pm.mem_iff.mp hb)).2.2;exact this (e ▸ v)⟩
 have bd:∀g ∈ K.F++l,0<=g/\g < K.G.length:=λg hg=>by
  rcases ZS.mp hg with hg |hg
  ·exact h.bd g hg
  ·have:=(d g).mp (pm.mem_iff.mp hg);exact⟨this.1,this.2.1⟩
 have u:((Zk K.G.length).map λi=>Int.ofNat i).Nodup:=YJ.mpr (Xa.imp λh z=>h (Int.ofNat.inj z))
 have f:(K.F++l).Perm ((Zk K.G.length).map λi=>Int.ofNat i):=(Xl nd u).mpr λx=>by
  constructor
  ·intro c;have:=bd x c;exact Zu.mpr ⟨x.toNat,ZO.mpr (by lia),by show((x.toNat:Nat):Int)=x;lia⟩
  ·intro c;obtain⟨j,q,rfl⟩:=Zu.mp c;have q:=ZO.mp q;by_cases n:Int.ofNat j ∈ K.F
   ·exact Z3 _ n
   ·refine Zz _ (pm.mem_iff.mpr ((d _).mpr ⟨?_,?_,n⟩))
    ·show 0<=(j:Int);lia
    ·show(j:Int) < K.G.length;lia
 have:=f.length_eq;rw[Za,ZG] at this;exact⟨nd,bd,this,⟨l,rfl⟩,f⟩
def zr{l:List Int}{n:Nat}(h:SkOk K)(b:S[n]?=aw (.lst (l.map D.int)))(pm:l.Perm (cx K))(q:∀os S',Sm S S'->Ord K os->Q (.tup (os.map D.int)) S') :
  rW (wSs (evC ag (k+2)) (fZ ag) 58 (f9.drop 2)) [aw (.ref p),aw (skE K),aw (.ref n)] S (out Q):=by
 dsimp only[f9,Yu];have ho:=rd h pm;have g7:=h.g7;have ln:=ho.ln;rw[Zh] at ln;k_is;refine aa sk3 ?_;refine aa (show aj cL (.ref n) S=aw (.tup (l.map D.int),S) by simp only[aj,ao,aq b,ZD,cL]) ?_;k_is;refine⟨by rw[Za,Za];lia,?_⟩;rw[<-ZF];exact q _ S (Sm.refl _) ho
def zt(h:Pot p S)(sk:SkOk K)(q:∀os S',Dr p S S'->Ord K os->Q (.tup (os.map D.int)) S'):Ok (evC ag (k+3) 70 [.ref p,skE K] S) Q:=by
 refine am (d:=gz) (ρ:=[aw (.ref p),aw (skE K),aD]) rfl rfl ?_;have T:=@zr p;dsimp only[gz];dsimp only[f9,Yu] at T ⊢;have g7:=sk.g7;have V:=sk.vd;k_is;refine aa sk2 ?_;refine aa (show aj cb (.tup (K.G.map az)) S=aw (.int K.G.length,S) by simp only[aj,ao,cb,Za]) ?_;k_is;refine⟨dg (by lia) (by lia),?_⟩;rw[Zy];refine aX (Zk K.G.length) (λ(j:Nat)=>D.int (0+(j:Int))) (λ(j:Nat)=>if (!decide ((j:Int) ∈ K.F))=aN then [D.int (j:Int)] else []) (by rw[ZG];lia) (λ_ _=>by split <;> simp) wc (λi j S' hj sm=>⟨_,rfl,?_⟩) λS1 O=>?_
 ·k_is;refine aa sk3 ?_;rw[Y2];refine aa (show ak .notin (.int (j:Int)) (.tup (K.F.map D.int)) S'=aw (.bl (aN != decide ((j:Int) ∈ K.F)),S') from ji aN K.F j S') ?_;k_is;cases c:decide ((j:Int) ∈ K.F) with
  |true=>k_is;exact⟨rfl,Sm.refl _⟩
  |false=>k_is;exact⟨rfl,Sm.refl _⟩
 ·rw[bv];have eo:(((Zk K.G.length).filter λ(j:Nat)=>!decide ((j:Int) ∈ K.F)).map λ(j:Nat)=>D.int (j:Int))=(cx K).map D.int:=by unfold cx;rw[ZL];rfl
  rw[eo];k_is;have lt1:=(Dr.sm h O).pot.lt;have Y:Dr p S (S1++[Ob.lst ((cx K).map D.int)]):=Dr.sm h (O.trans (Sm.app _ _));have lo:(cx K).length<=7:=by unfold cx;rw[Za];exact Z0 (Yj _ _) (by rw[ZG];exact g7)
  refine⟨rfl,C1 Y.pot aC (by lia) (by lia) λl u U pm=>?_⟩;k_is;have lt3:=U.pot.lt;have L:Dr p S (u++[Ob.lst (l.map D.int)]):=(Y.trans U).thenSm (Sm.app _ _);have a4:(u++[Ob.lst (l.map D.int)])[Zd u]?=aw (.lst (l.map D.int)):=aC;have n4:Zd u ≠ p:=by lia
  generalize u++[Ob.lst (l.map D.int)]=S4 at *;generalize Zd u=N at *;refine⟨rfl,aE L.pot (by decide) (by decide) λy S5 y1 y2 d5=>?_⟩;k_is;have E:=d5.kp _ _ n4 a4;have v:=L.trans d5;refine cv (λ_=>?_) λ_=>?_
  ·k_is;refine⟨by rw[aq E];rfl,?_⟩;have ll:l.length<=7:=by rw[pm.length_eq];exact lo
   have hb:∀x ∈ l,0<=x/\x < K.G.length:=λx B=>(rd sk pm).bd x (Zz _ B);refine aX l D.int (λx=>[ac (gi K.G x 2,x)]) (by lia) (λ_ _=>Ze _) (bH E) (λi x S' B sm=>⟨_,rfl,?_⟩) λS6 s6=>?_
   ·obtain⟨X,x1⟩:=hb x (Zc B);obtain⟨a,b,c,d,e,f,g,eg,e0,e1,e2,_⟩:=gl7 V X x1;k_is;refine aa sk2 (aa (b9 X eg) (aa (show ixS (az [a,b,c,d,e,f,g]) (.int 2) S'=aw (.int c,S') from rfl) ?_));k_is;exact⟨by rw[e2];rfl,Sm.refl _⟩
   ·rw[aU];have ep:(l.map λx=>ac (gi K.G x 2,x))=(l.map λx=>(gi K.G x 2,x)).map ac:=by rw[ZL];rfl
    rw[ep];obtain⟨n,es,Z⟩:=zq (ps:=l.map λx=>(gi K.G x 2,x)) (by rw[Za];lia);refine⟨_,es,?_⟩;have lq:n.length<=7:=by rw[Z.length_eq,Za];exact ll
    refine aX n ac (λz=>[D.int z.2]) (by lia) (λ_ _=>Ze _) cw (λi z S' hz sm=>⟨_,show ax (.tup [.name 3,.name 4]) (.tup [.int z.1,.int z.2]) _=_ from bn (by simp) (by simp),?_⟩) λS7 s7=>?_
    ·k_is;exact⟨rfl,Sm.refl _⟩
    ·rw[aU];k_is;have e7:(n.map λz=>D.int z.2)=(n.map (·.2)).map D.int:=by rw[ZL];rfl
     have J:(n.map (·.2)).Perm (cx K):=by
      have:=Z.map (·.2);rw[ZL] at this;have e8:(l.map ((·.2) ∘ λx=>(gi K.G x 2,x)))=l:=(Yh λx _=>rfl).trans (Wm l);rw[e8] at this;exact this.trans pm
     have d8:Dr p S (S7++[Ob.lst (n.map λz=>D.int z.2)]):=(v.thenSm (s6.trans s7)).thenSm (Sm.app _ _);exact T (k:=k) sk (by rw[<-e7];exact aC) J λos C I ho=>q os C (d8.thenSm I) ho
  ·k_is;exact T (k:=k) sk E pm λos C I ho=>q os C (v.thenSm I) ho
def pO(sk:SkOk K){l:Bool}{j:Nat}:∀n,BB K l p n (2 * n+5+j)
 |0=>by rw[show 2 * 0+5+j=(4+j)+1 by lia];exact CY
 |n+1=>by
  have I:=pO sk (l:=l) (j:=j) n;rw[show 2 * (n+1)+5+j=(2 * n+j)+7 by lia];exact CZ sk (by rw[show 2 * n+j+5=2 * n+5+j by lia];exact I)
abbrev a7(K:Sky):List Int:=((Zk K.G.length).filter λ(j:Nat)=>!decide ((j:Int) ∈ K.F)).map λ(j:Nat)=>(j:Int)
def G0(V:Vd K)(q:∀S',Sm S S'->Q (.tup ((a7 K).map D.int)) S'):Ok (evC ag (k+1) 20 [skE K] S) Q:=by
 refine am (d:=gm) (ρ:=[aw (skE K)]) rfl rfl ?_;dsimp only[gm,kB];have g7:=V.g7;k_is;refine aa sk2 (aa bc ?_);k_is;refine⟨dg (by lia) (by lia),?_⟩;rw[Zy];refine aX (Zk K.G.length) (λ(j:Nat)=>D.int (0+(j:Int))) (λ(j:Nat)=>if (!decide ((j:Int) ∈ K.F))=aN then [D.int (j:Int)] else []) (by rw[ZG];lia) (λa _=>by split <;> simp) wc (λi j S' h sm=>⟨_,rfl,?_⟩) λb f=>?_
 ·k_is;refine aa sk3 ?_;rw[Y2];k_is;refine aa (show ak .notin (.int (j:Int)) (.tup (K.F.map D.int)) S'=aw (.bl (aN != decide ((j:Int) ∈ K.F)),S') from ji aN K.F j S') ?_;rw[show(aN != decide ((j:Int) ∈ K.F)) = !decide ((j:Int) ∈ K.F) by cases decide ((j:Int) ∈ K.F) <;> rfl];k_is;cases c:!decide ((j:Int) ∈ K.F) with
  |true=>exact⟨rfl,Sm.refl _⟩
  |false=>exact⟨rfl,Sm.refl _⟩
 ·rw[bv];refine aa (show cL aS _ b=aw (.tup _,b) from rfl) ?_;have:=q b f;unfold a7 at this
  rwa [ZL] at this
def C2(V:Vd K)(bd:∀g ∈ K.F,0<=g/\g < K.G.length)(y:K.F.length<=7)(v:∀j,rn K K.F K.ah [] = .inl j->∀S',Sm S S'->Q .non S')(z:∀R,rn K K.F K.ah [] = .inr R->∀n S',Sm S S'->S'[n]?=aw (.lst (R.map ac))->S.length<=n->Q (.ref n) S'):Ok (evC ag (k+6) 47 [skE K] S) Q:=by
 refine am (d:=cq) (ρ:=[aw (skE K),aD]) rfl rfl ?_;dsimp only[cq,eI];k_is;refine aa sk3 ?_;refine⟨rfl,kH (k:=k) V bd y λn L u c q hN f=>?_⟩;k_is;refine aa (ca q) (aa sk3 (aa bc ?_));k_is;rw[Za];cases h:rn K K.F K.ah [] with
 |inl j=>
  have b:=f.stuck j h;have E:=ir K.F _ _ j h;rw[Z1,YG] at E;rw[decide_eq_false (show ¬ (L.length:Int)=K.F.length by lia)];k_is;exact v j h u c
 |inr R=>
  have b:=f.lands R h;have E:=gW K.F _ _ R h;rw[Z1,YG] at E;rw[decide_eq_true (show(L.length:Int)=K.F.length by rw[b,E])];k_is;exact z R h n u c (by rw[<-b];exact q) hN
abbrev aQ(K:Sky)(l:Bool):Option (Int × List Int):=match rn K K.F K.ah [] with
 |.inl _=>aD
 |.inr R=>(bb K l (a7 K).length (ay K R) (a7 K)).map λz=>(R.foldr (λy x=>jnd K l y.1 y.2 x) z.1,K.F++z.2)
def Ip:∀ (os:List Int) (a:Option (Int × Int)) (L R:List (Int × Int)),(∀g ∈ os,0<=g/\g < K.G.length)->InG K L->rn K os a L = .inr R->InG K R
 |[],_,L,R,_,hL,e=>by cases e;exact hL
 |g::os,a,L,R,ho,hL,e=>by
  rw[rn] at e;split at e
  ·cases e
  ·rename_i m _;split at e
   ·cases e
   ·exact Ip os _ _ R (λx h=>ho x (Zi _ h)) (λz b=>(ZS.mp b).elim (hL z) λZ=>by rw[ZM.mp Z];exact ho g Zj) e
def M6:∀n,n < 8->cnt n<=99999:=by decide
def G1(sk:SkOk K){ah:Option (Int × Int)}(d:∀q,ah=aw q->0<=q.1/\q.1 < K.M.length):Lf K (a7 K).length ah (a7 K):=by
 refine⟨?_,λg b=>?_,rfl,?_,d⟩
 ·unfold a7;exact YJ.mpr ((Xa.filter _).imp λh z=>h (Int.ofNat.inj z))
 ·unfold a7 at b;obtain⟨j,c,rfl⟩:=Zu.mp b;have:=ZO.mp (ZQ.mp c).1
  lia
 ·unfold a7;rw[Za];have:=Yj (λ(j:Nat)=>!decide ((j:Int) ∈ K.F)) (Zk K.G.length);rw[ZG] at this;exact this
def Kp.new{o:Ob}(h:Ev.Kp S.length (S++[o]) S'):Sm S S':=λi u e=>by
 have hi:=(Zb.mp e).1;exact h i u (by lia) (Sm.app _ _ _ _ e)
def Iq{n:Nat}{ds:List D}{T:Tg}{b:XS}{c:Rho}{Q:Fl->Rho->Sto->Prop}(J:ds.length<=100000)(I:Nat->Rho->Sto->Prop)(y:∀i c S',I i c S'->S'[n]?=aw (.lst ds))
  (step:∀ (i:Nat) d c S',ds[i]?=aw d->I i c S'->∃h,ax T d c=aw h/\OkS (b h S') λC f u=>match C with |.nx=>I (i+1) f u |.ct=>I (i+1) f u |.bk=>Q .nx f u |.rt d=>Q (.rt d) f u)
  (q:∀c S',I ds.length c S'->Q .nx c S') (B:I 0 c S):OkS (eV (nxS n) T b LF 0 c S) Q:=by
 refine jh ds.length I (by unfold LF;lia) (λi c S' hi j=>?_) (λc S' j=>⟨?_,q c S' j⟩) B
 ·obtain⟨h,E,z⟩:=step i ds[i] c S' (gEG hi) j;refine⟨ds[i],h,?_,E,z⟩;show(au S' n).map (λds=>ds[i]?)=_;rw[aq (y i c S' j),ZD,gEG hi]
 ·show(au S' n).map (λv=>v[ds.length]?)=_;rw[aq (y _ c S' j),ZD,Zs (Ze _)]
def C3(sk:SkOk K){l:Bool}(q:∀S',Sm S S'->Q (bI (aQ K l)) S'):Ok (evC ag (k+20) 53 [skE K,fL l] S) Q:=by
 refine am (d:=fm) (ρ:=[aw (skE K),aw (fL l),aD,aD,aD,aD,aD,aD]) rfl rfl ?_;dsimp only[fm,jf];have V:=sk.vd;have g7:=sk.g7;have lF:=Dw.bT K.G.length K.F sk.nd sk.bd;k_is;unfold aQ at q;refine⟨rfl,C2 (k:=k+13) V sk.bd (by lia) (λj J E T=>?_) (λR J n E T hn hN=>?_)⟩
 ·rw[J] at q;k_is;refine aa (show ak .is .non .non E=aw (.bl aN,E) from rfl) ?_;k_is;exact q E T
 ·rw[J] at q;k_is;refine aa (show ak .is (.ref n) .non E=aw (.bl aS,E) from rfl) ?_;k_is;have inR:InG K R:=Ip K.F _ [] R sk.bd (λz hz=>by cases hz) J;refine⟨rfl,nB (k:=k+18) V hn inR ?_⟩;refine⟨rfl,G0 (k:=k+18) V λU s2=>?_⟩;k_is;have fl:=G1 sk (gG V inR);have fle:=fl.le;have hc:=M6 (a7 K).length (by lia);have kn:Kn K l U.length 0 (U++[Ob.dic [] []]):=⟨[],[],aC,⟨rfl,λ_ _ _ h=>by cases h⟩,Ze _⟩;have bo:=pO (p:=U.length) sk (l:=l) (j:=k+14 - 2 * (a7 K).length) (a7 K).length;rw[show 2 * (a7 K).length+5+(k+14 - 2 * (a7 K).length)=k+19 by lia] at bo;refine⟨rfl,bo _ _ _ 0 _ fl kn (by lia) λB X kn3=>?_⟩;have Y:=(T.trans s2).trans (Kp.new X);have O:=(Kp.new X) _ _ (s2 _ _ hn);dsimp only at q;cases hb:bb K l (a7 K).length (ay K R) (a7 K) with
  |none=>
   rw[hb] at q;rw[show bI aD = .non from rfl];k_is;refine aa (show ak .is .non .non B=aw (.bl aN,B) from rfl) ?_;k_is;exact q B Y
  |some z=>
   rw[hb] at q;rw[show bI (aw z) = .tup [.int z.1,.tup (z.2.map D.int)] from rfl];k_is;refine aa (show ak .is (.tup [.int z.1,.tup (z.2.map D.int)]) .non B=aw (.bl aS,B) from rfl) ?_;k_is;refine aa (show uQ (.ref n) B=aw (.ref B.length,B++[Ob.lst (R.map ac).reverse]) by simp only[uQ,aq O]) ?_;have a4:(B++[Ob.lst (R.map ac).reverse])[B.length]?=aw (.lst (R.map ac).reverse):=aC;have s4:=Y.trans (Sm.app B [Ob.lst (R.map ac).reverse]);generalize B++[Ob.lst (R.map ac).reverse]=S4 at *;generalize B.length=N at *;have lR:=gW K.F _ _ R J;rw[Z1,YG] at lR;k_is;refine⟨by rw[aq a4];rfl,?_⟩;refine Iq (ds:=(R.map ac).reverse) (by rw[Yq,Za];lia) (λi L S'=>S'=S4/\∃u v,L=[aw (skE K),aw (fL l),aw (.ref n),aw (.tup [.int z.1,.tup (z.2.map D.int)]),aw (.int ((R.reverse.take i).foldl (λx y=>jnd K l y.1 y.2 x) z.1)),aw (.tup (z.2.map D.int)),u,v]) (λi L S' I=>by rw[I.1];exact a4) (λi d L S' hd I=>?_) (λL S' I=>?_) ⟨rfl,_,_,rfl⟩
   ·obtain⟨rfl,u,v,rfl⟩:=I;rw[<-List.map_reverse] at hd;obtain⟨y,Z,rfl⟩:=gD hd;have C:=inR y (List.mem_reverse.mp (Zc Z));obtain⟨a,b,c,d,e,f,h,eg,e0,e4,e5,f0,f1,a0,a1⟩:=gl9 sk C.1 C.2;refine⟨_,show ax (.tup [.name 6,.name 7]) (.tup [.int y.1,.int y.2]) _=_ from bn (by simp) (by simp),?_⟩;k_is;refine aa sk2 (aa (b9 C.1 eg) ?_);refine⟨rfl,pK (k:=k+17) l e4 e5 f0 f1 ?_⟩;k_is
    have e:(R.reverse.take (i+1)).foldl (λx y=>jnd K l y.1 y.2 x) z.1=jnd K l y.1 y.2 ((R.reverse.take i).foldl (λx y=>jnd K l y.1 y.2 x) z.1):=by
     rw[List.take_succ,Z,List.foldl_append];rfl
    rw[e];exact⟨rfl,_,_,rfl⟩
   ·obtain⟨rfl,u,v,rfl⟩:=I;rw[Yq,Za,<-Yq (as:=R),YM,List.foldl_reverse];k_is;refine aa sk3 ?_;k_is;have lz:=v7 _ _ _ z hb;refine⟨by rw[Za,Za];lia,?_⟩;have:=q _ s4;dsimp only[ZD,bI] at this
    rwa [ZF] at this
def M7(q:Q (match (o:Option (Int × List Int)) with |none=>D.non |some z=>.tup [.str "order", .int z.1,.tup (z.2.map D.int)]) S):Ok (evC ag (k+1) 52 [bI o] S) Q:=by
 refine am (d:=vI) (ρ:=[aw (bI o),aD,aD]) rfl rfl ?_;dsimp only[vI,B1];cases o with
 |none=>
  rw[show bI aD = .non from rfl];k_is;refine aa (show ak .is .non .non S=aw (.bl aN,S) from rfl) ?_;k_is;exact q
 |some z=>
  rw[show bI (aw z) = .tup [.int z.1,.tup (z.2.map D.int)] from rfl];k_is;refine aa (show ak .is (.tup [.int z.1,.tup (z.2.map D.int)]) .non S=aw (.bl aS,S) from rfl) ?_;k_is;exact q
abbrev be:Option (Int × List Int)->D
 |none=>.non
 |some z=>.tup [.str "order", .int z.1,.tup (z.2.map D.int)]
def ju(sk:SkOk K)(l:Bool)(q:∀S',Sm S S'->Q (be (aQ K l)) S'):Ok (evC ag (k+21) (if l=aN then 50 else 51) [skE K] S) Q:=by
 have f:∀b,Sm S b->Ok (evC ag (k+20) 53 [skE K,fL l] b) λd c=>Ok (evC ag (k+20) 52 [d] c) Q:=λb j=>C3 (k:=k) sk λc n=>M7 (k:=k+19) (by
  have:=q c (j.trans n);cases h:aQ K l with
  |none=>rw[h] at this;exact this
  | some z=>rw[h] at this;exact this)
 cases l with
 |true=>
  rw[if_pos rfl];refine am (d:=fj) (ρ:=[aw (skE K)]) rfl rfl ?_;dsimp only[fj,jd];k_is;refine⟨rfl,gH (k:=k+12) sk λb j=>?_⟩;k_is;refine⟨rfl,(f b j).mono λd c h=>⟨rfl,h⟩⟩
 |false=>
  rw[if_neg (by decide)];refine am (d:=fk) (ρ:=[aw (skE K)]) rfl rfl ?_;dsimp only[fk,je];k_is;refine⟨rfl,gH (k:=k+12) sk λb j=>?_⟩;k_is;refine⟨rfl,(f b j).mono λd c h=>⟨rfl,h⟩⟩
end Lw
namespace Lw
open PySem Ev Sn
variable {K:Sky}
structure KAt(K:Sky)(L:List (Int × Int))(j:Nat)(z:Int × Int):Prop where
 lo:gi K.G z.1 2<=z.2
 hi:z.2<=gi K.G z.1 3
 op:opm K.H z.2=z.2
 gap:∀a,ay K (L.take j)=aw a->a.2+gp K a.1 (gi K.G z.1 0)<=z.2
 wt:(wts K L (jn K z.1):Int)<=K.r
 rg:bK K (L.take j) z.1 z.2=aS
abbrev jZ(K:Sky)(L:List (Int × Int)):Prop:=∀ (j:Nat) z,L[j]?=aw z->KAt K L j z
def re:∀ (l:List (Int × Int)) (m:Int),m<=opm l m
 |[],_=>ZB _
 |p::l,m=>by
  rw[opm];refine Yo ?_ (re l _);split
  ·lia
  ·exact ZB _
def nQ:∀ {l:List (Int × Int)} {lo x y:Int},Ris lo l->x<=y->opm l x<=opm l y
 |[],_,_,_,_,h=>h
 |p::l,lo,x,y,h,hxy=>by
  rw[Ris] at h;rw[opm,opm];by_cases b:p.1<=x/\x < p.2
  ·rw[if_pos b];refine nQ h.2.2 ?_;split
   ·exact ZB _
   ·lia
  ·rw[if_neg b];refine nQ h.2.2 ?_;split
   ·lia
   ·exact hxy
def tX:∀ {l:List (Int × Int)} {lo x:Int},Ris lo l->opm l (opm l x)=opm l x
 |[],_,_,_=>rfl
 |p::l,lo,x,h=>by
  rw[Ris] at h;by_cases b:p.1<=x/\x < p.2
  ·have e:opm (p::l) x=p.2:=by rw[opm,if_pos b];exact jm h.2.2 (ZB _)
   rw[e,opm,if_neg (by lia)];exact jm h.2.2 (ZB _)
  ·have e:opm (p::l) x=opm l x:=by rw[opm,if_neg b]
   rw[e,opm];by_cases c:x < p.1
   ·have:opm l x=x:=jm h.2.2 (by lia);rw[this,if_neg b];exact this
   ·have:=re l x;rw[if_neg (by lia)];exact tX h.2.2
inductive Low:List (Int × Int)->List (Int × Int)->Prop
 |nil:Low [] []
 |cons {p q:Int × Int} {P A:List (Int × Int)}:p.1=q.1->p.2<=q.2->Low P A->Low (p::P) (q::A)
def Low.len{P A:List (Int × Int)}(h:Low P A):P.length=A.length:=by
 induction h with
 |nil=>rfl
 |cons _ _ _ I=>rw[Zo,Zo,I]
def Low.fst{P A:List (Int × Int)}(h:Low P A):P.map (λp=>jn K p.1)=A.map λp=>jn K p.1:=by
 induction h with
 |nil=>rfl
 |cons e _ _ I=>rw[Zw,Zw,I,e]
def Low.snoc{P A:List (Int × Int)}{p q:Int × Int}(h:Low P A)(c:p.1=q.1)(b:p.2<=q.2):Low (P++[p]) (A++[q]):=by
 induction h with
 |nil=>exact .cons c b .nil
 |cons e l _ I=>exact .cons e l I
def Low.wts{P A:List (Int × Int)}{t:Int}(h:Low P A):wts K P t<=wts K A t:=by
 unfold Sn.wts
 induction h with
 |nil=>exact Ze _
 |@cons p q P A e l _ ih=>
  rw[Yc,Yc];by_cases b:aF K t p=aN
  ·have:aF K t q=aN:=by
    simp only[aF,bAE,decide_eq_true_eq] at b ⊢;rw[<-e]
    lia
   rw[if_pos b,if_pos this,Zo,Zo]
   lia
  ·rw[if_neg b];split
   ·rw[Zo];lia
   ·exact ih
def Low.last{P A:List (Int × Int)}(h:Low P A):∀a,ay K P=aw a->∃b,ay K A=aw b/\a.1=b.1/\a.2<=b.2:=by
 have k:∀ {P A},Low P A->(P.getLast?=aD/\A.getLast?=aD)\/∃p q,P.getLast?=aw p/\A.getLast?=aw q/\p.1=q.1/\p.2<=q.2:=by
  intro P A h
  induction h with
  |nil=>exact .inl ⟨rfl,rfl⟩
  |@cons p q P A e l _ ih=>
   right;rcases ih with ⟨d,c⟩ |⟨n,Q,d,c,j⟩
   ·rw[List.getLast?_eq_none_iff] at d c;subst d c;exact⟨p,q,rfl,rfl,e,l⟩
   ·refine⟨n,Q,?_,?_,j⟩
    ·rw[YU,d];rfl
    ·rw[YU,c];rfl
 intro a f;unfold ay at f ⊢;rcases k h with ⟨d,c⟩ |⟨p,q,d,c,j,h4⟩
 ·rw[d] at f;rw[c];exact⟨a,f,rfl,ZB _⟩
 ·rw[d] at f;rw[c];cases f;exact⟨_,rfl,by rw[j],h4⟩
def xI{A B:List Int}(h:∀x ∈ A,∃y ∈ B,x<=y)(d:∀y ∈ B,0<=y):fT 0 A<=fT 0 B:=by
 cases A with
 |nil=>
  show 0<=fT 0 B;cases B with
  |nil=>exact ZB _
  |cons b B=>
   rw[eM (by simp)];exact d _ (k9 (by simp))
 |cons a A=>
  obtain⟨y,c,_⟩:=h a Zj;have:B ≠ []:=λz=>by rw[z] at c;simp at c
  rw[eM (by simp),eM this];exact vV (by simp) h
def zu{P A:List (Int × Int)}{g m m':Int}(h:Low P A)(k:m<=m'):fu K P g m<=fu K A g m':=by
 unfold fu;refine xI (λx f=>?_) λy j=>?_
 ·obtain⟨t,c,rfl⟩:=Zu.mp f;refine⟨1+(wts K A t:Int),Zu.mpr ⟨t,?_,rfl⟩,by have:=h.wts (K:=K) (t:=t);lia⟩;unfold cK at c ⊢;obtain⟨b,d⟩:=ZQ.mp c;rw[h.fst] at b;refine ZQ.mpr ⟨b,?_⟩;simp only[bAE,decide_eq_true_eq] at d ⊢
  lia
 ·obtain⟨t,_,rfl⟩:=Zu.mp j
  lia
def zv{P A:List (Int × Int)}{g m c:Int}(h:Low P A)(f:m<=c)(b:bK K A g c=aS):bK K P g m=aS:=by
 have:=zu (K:=K) (g:=g) h f;unfold bK at b ⊢;cases d:decide (0 < gi K.G g 6) with
 |false=>rfl
 |true=>
  rw[d,Yy] at b;rw[Yy];have:=of_decide_eq_false b;exact decide_eq_false (by lia)
def Ir:∀ {l:List Int} {k:Nat} {j t:Int},l.Pairwise (·<=·)->l[k]?=aw j->t < j->(l.filter λx=>decide (x<=t)).length<=k
 |[],_,_,_,_,h,_=>by cases h
 |a::l,0,j,t,hp,h,ht=>by
  cases h
  have:(a::l).filter (λx=>decide (x<=t))=[]:=Y0.mpr λx hx=>by
   rw[decide_eq_true_eq];rcases Zn.mp hx with rfl |hx
   ·lia
   ·have:=(Z4.mp hp).1 x hx
    lia
  rw[this];exact Ze _
 |a::l,k+1,j,t,hp,h,ht=>by
  have I:=Ir (k:=k) (Z4.mp hp).2 h ht;rw[Yc];split
  ·rw[Zo];lia
  ·lia
def C4:∀ {l:List Int} {k:Nat} {j t:Int},l.Pairwise (·<=·)->l[k]?=aw j->j<=t->k+1<=(l.filter λx=>decide (x<=t)).length
 |[],_,_,_,_,h,_=>by cases h
 |a::l,0,j,t,hp,h,ht=>by
  cases h;rw[Yc,if_pos (decide_eq_true ht),Zo]
  lia
 |a::l,k+1,j,t,hp,h,ht=>by
  have I:=C4 (k:=k) (Z4.mp hp).2 h ht;have:a<=j:=(Z4.mp hp).1 j (Zc h);rw[Yc,if_pos (decide_eq_true (by lia)),Zo]
  lia
abbrev cj(K:Sky)(L:List (Int × Int))(t:Int):Nat:=(L.filter λp=>decide (jn K p.1<=t)).length
def rf{os:List Int}{L:List (Int × Int)}(ho:Ord K os)(c:L.map (·.1)=os):(js K).Perm (L.map λp=>jn K p.1):=by
 have b:(L.map λp=>jn K p.1)=os.map (jn K):=by rw[<-c,ZL];rfl
 have E:(((Zk K.G.length).map λi=>Int.ofNat i).map (jn K))=K.G.map λg=>g.getD 1 0:=by
  rw[ZL];apply Wl
  ·simp
  ·intro i d h;simp only[Za] at h;simp only[Wj,List.getElem_range,Function.comp_apply,jn,gi];show((K.G[i]?).getD []).getD 1 0=_;rw[gEG h];rfl
 rw[b];refine(bP _).trans ?_;rw[<-E];exact(ho.pm.map (jn K)).symm
def Iu{os:List Int}{L:List (Int × Int)}{t:Int}(ho:Ord K os)(h:L.map (·.1)=os):((js K).filter λx=>decide (x<=t)).length=cj K L t:=by
 rw[((rf ho h).filter _).length_eq,Wr,Za];rfl
def C5{A B:List (Int × Int)}{t:Int}:cj K (A++B) t=cj K A t+cj K B t:=by unfold cj;rw[Xm,Zh]
def xJ{A B:List (Int × Int)}{t:Int}:wts K (A++B) t=wts K A t+wts K B t:=by unfold Sn.wts;rw[Xm,Zh]
def M8{B:List (Int × Int)}{t:Int}:wts K B t<=cj K B t:=lc λp _ h=>by
 simp only[aF,bAE] at h;exact h.1
def M9{B:List (Int × Int)}{t:Int}(h:∀p ∈ B,t < p.2 - K.s):cj K B t<=wts K B t:=lc λp c b=>by
 simp only[aF,bAE];exact⟨b,decide_eq_true (h p c)⟩
def Qq(h:SkOk K)(a b:Int):0<=gp K a b:=by
 unfold gp Dw.mg2;cases e:K.M[a.toNat]? with
 |none=>simp
 |some r=>
  rw[ZW];cases E:r[b.toNat]? with
  |none=>simp[E]
  |some x=>
   have:=h.me.mat.ent r (Zc e) x (Zc E);simp[E]
   lia
def nR{b:Type}{A B:List b}{z:b}:(A++z::B)[A.length]?=aw z:=by rw[Zm (Ze _),Z7];rfl
def gI{b:Type}{A B:List b}:(A++B).take A.length=A:=Xj
def gJ{b:Type}{A B:List b}{z:b}:A++z::B=A++[z]++B:=by rw[Z2];rfl
def Qu(h:SkOk K):∀ (B A:List (Int × Int)) (z:Int × Int),jZ K (A++z::B)->∀p ∈ B,z.2<=p.2
 |[],_,_,_=>λp hp=>by cases hp
 |y::B,A,z,kp=>by
  have e:=gJ (A:=A) (B:=y::B) (z:=z);have k:=kp (A++[z]).length y (by rw[e];exact nR);rw[e] at kp;have c:=k.gap (gi K.G z.1 0,z.2) (by rw[e,gI,aW]);have:=Qq h (gi K.G z.1 0) (gi K.G y.1 0);intro p hp
  have b:z.2<=y.2:=by
   have:z.2+gp K (gi K.G z.1 0) (gi K.G y.1 0)<=y.2:=c
   lia
  rcases Zn.mp hp with rfl |hp
  ·exact b
  ·exact Yo b (Qu h B (A++[z]) y kp p hp)
def G2(h:SkOk K){os:List Int}(ho:Ord K os){A B:List (Int × Int)}{z:Int × Int}{m:Int}(d:(A++z::B).map (·.1)=os)(kp:jZ K (A++z::B))(v:m<=z.2):kO K A.length m=aS:=by
 unfold kO;have r0:=h.me.r0;cases c:(js K)[(K.r+(A.length:Int)).toNat]? with
 |none=>rfl
 |some j=>
  refine decide_eq_false λk=>?_;have C:=C4 (bX _) c (ZB j);rw[show(fC (K.G.map λg=>g.getD 1 0))=js K from rfl,Iu ho d,C5] at C;have y:cj K A j<=A.length:=Yj _ _;have n:=Qu h B A z kp
  have E:cj K (z::B) j<=wts K (z::B) j:=M9 λp hp=>by
   rcases Zn.mp hp with rfl |hp
   ·lia
   ·have:=n p hp;lia
  have u:wts K (A++z::B) j=wts K A j+wts K (z::B) j:=xJ;have b:j ∈ (A++z::B).map λp=>jn K p.1:=(rf ho d).mem_iff.mp (Zc c);obtain⟨q,f,rfl⟩:=Zu.mp b;obtain⟨i,hi⟩:=ZZ f;have:=(kp i q hi).wt
  lia
def C6{P A:List (Int × Int)}{z:Int × Int}{L:List (Int × Int)}{j:Nat}(h:Low P A)(k:KAt K L j z)(c:L.take j=A):a8 K (ay K P) z.1<=z.2:=by
 unfold a8;cases d:ay K P with
 |none=>exact k.lo
 |some a=>
  obtain⟨b,hb,E,f⟩:=h.last a d;have:=k.gap b (by rw[c];exact hb);have:=k.lo;dsimp only;rw[E];split <;> lia
def tY(h:SkOk K){os:List Int}(ho:Ord K os):∀ (B A P:List (Int × Int)),(A++B).map (·.1)=os->jZ K (A++B)->Low P A->∃R,rn K (B.map (·.1)) (ay K P) P = .inr R/\Low R (A++B)
 |[],A,P,_,_,hl=>⟨P,rfl,by rw[ZN];exact hl⟩
 |z::B,A,P,hL,kp,hl=>by
  have k:=kp A.length z nR;have fr:=C6 hl k gI
  have m1:opm K.H (a8 K (ay K P) z.1)<=z.2:=by
   have:=nQ h.me.ris fr;rw[k.op] at this;exact this
  have hs:Sn.step K (ay K P) z.1 P.length=aw (opm K.H (a8 K (ay K P) z.1)):=by
   unfold Sn.step;have:=k.hi;rw[hl.len,G2 h ho hL kp m1,decide_eq_false (show ¬ gi K.G z.1 3 < opm K.H (a8 K (ay K P) z.1) by lia)];rfl
  have c:bK K P z.1 (opm K.H (a8 K (ay K P) z.1))=aS:=zv hl m1 (by have:=k.rg;rw[gI] at this;exact this);have e:=gJ (A:=A) (B:=B) (z:=z);obtain⟨R,E,b⟩:=tY h ho B (A++[z]) (P++[(z.1,opm K.H (a8 K (ay K P) z.1))]) (by rw[<-e];exact hL) (by rw[<-e];exact kp) (hl.snoc rfl m1);refine⟨R,?_,by rw[e];exact b⟩;rw[Zw,rn,hs];dsimp only;rw[c,if_neg Zg];rw[aW] at E;exact E
def tZ:∀ (os:List Int) (P R:List (Int × Int)),rn K os (ay K P) P = .inr R->(∃T,R=P++T/\T.map (·.1)=os)/\∀ (j:Nat) z,P.length<=j->R[j]?=aw z->Sn.step K (ay K (R.take j)) z.1 j=aw z.2/\bK K (R.take j) z.1 z.2=aS
 |[],P,R,h=>by
  cases h;exact⟨⟨[],by simp,rfl⟩,λj z f b=>by rw[Zs f] at b;cases b⟩
 |g::os,P,R,h=>by
  rw[rn] at h;cases hs:Sn.step K (ay K P) g P.length with
  |none=>rw[hs] at h;cases h
  |some m=>
   rw[hs] at h;dsimp only at h;cases c:bK K P g m with
   |true=>rw[c,if_pos rfl] at h;cases h
   |false=>
    rw[c,if_neg Zg] at h;obtain⟨⟨T,e,E⟩,I⟩:=tZ os (P++[(g,m)]) R (by rw[aW];exact h);refine⟨⟨(g,m)::T,by rw[e,<-gJ],by rw[Zw,E]⟩,λj z f b=>?_⟩;by_cases d:j=P.length
    ·subst d;rw[e,<-gJ,nR] at b;cases b;rw[e,<-gJ,gI];exact⟨hs,c⟩
    ·exact I j z (by rw[Zh,Zr];lia) b
def t0(f:Int × Int->Bool):∀ (R:List (Int × Int)),∃A B,R=A++B/\(∀p ∈ A,f p=aN)/\(B=[]\/∃y d,B=y::d/\f y=aS)
 |[]=>⟨[],[],rfl,λp hp=>(by cases hp),.inl rfl⟩
 |z::R=>by
  cases h:f z with
  |false=>exact⟨[],z::R,rfl,λp hp=>(by cases hp),.inr ⟨z,R,rfl,h⟩⟩
  |true=>
   obtain⟨A,B,e,c,b⟩:=t0 f R;refine⟨z::A,B,by rw[e];rfl,λp hp=>?_,b⟩;rcases Zn.mp hp with rfl |hp
   ·exact h
   ·exact c p hp
def G3(h:SkOk K){g:Int}(d:0<=g)(j:g < K.G.length):jn K g+K.s<=gi K.G g 2:=by
 have hi:g.toNat < K.G.length:=by lia
 obtain⟨p,jo,fi,L,f,k,n,E,hb⟩:=h.gb K.G[g.toNat] (ZJ hi);have c:jn K g=jo:=by unfold jn gi;rw[gEG hi,E];rfl
 have b:gi K.G g 2=fi:=by unfold gi;rw[gEG hi,E];rfl
 rw[c,b];lia
def rh{a:Option (Int × Int)}{g m:Int}{j:Nat}(h:Sn.step K a g j=aw m):m=opm K.H (a8 K a g)/\m<=gi K.G g 3/\kO K j m=aS:=by
 unfold Sn.step at h;split at h
 ·cases h
 ·rename_i b;cases h;rw[YT,decide_eq_true_eq] at b
  exact⟨rfl,by lia,by
   cases e:kO K j (opm K.H (a8 K a g)) with
   |false=>rfl
   | true=>exact absurd (.inr e) b⟩
def t5(a:Option (Int × Int))(g:Int):gi K.G g 2<=a8 K a g/\∀q,a=aw q->q.2+gp K q.1 (gi K.G g 0)<=a8 K a g:=by
 unfold a8;cases a with
 |none=>exact⟨ZB _,λq e=>by cases e⟩
 |some q=>
  dsimp only;refine⟨by split <;> lia,λQ e=>?_⟩;cases e;split <;> lia
def ly(h:SkOk K){os:List Int}(ho:Ord K os){R:List (Int × Int)}(J:rn K os K.ah [] = .inr R):R.map (·.1)=os/\jZ K R:=by
 obtain⟨⟨T,e,f⟩,st⟩:=tZ os [] R J;rw[XC] at e;subst e;have s0:=h.me.s0;have r0:=h.me.r0
 have L:∀ (j:Nat) z,R[j]?=aw z->gi K.G z.1 2<=z.2:=λj z d=>by
  obtain⟨q,_⟩:=rh (st j z (YK _) d).1;have:=(t5 (K:=K) (ay K (R.take j)) z.1).1;have:=re K.H (a8 K (ay K (R.take j)) z.1)
  lia
 have bd:∀p ∈ R,0<=p.1/\p.1 < K.G.length:=λp c=>ho.bd p.1 (by rw[<-f];exact Zu.mpr ⟨p,c,rfl⟩);have ln:R.length=K.G.length:=by rw[<-ho.ln,<-f,Za]
 refine⟨f,λj z d=>?_⟩;obtain⟨hs,Q⟩:=st j z (YK _) d;obtain⟨q,U,_⟩:=rh hs;have O:=t5 (K:=K) (ay K (R.take j)) z.1;have og:=re K.H (a8 K (ay K (R.take j)) z.1);refine⟨L j z d,U,by rw[q];exact tX h.me.ris,λa X=>by have:=O.2 a X;lia,?_,Q⟩;generalize jn K z.1=t;obtain⟨A,B,E,u,I⟩:=t0 (λp=>decide (p.2 - K.s<=t)) R
 have wA:wts K A t=0:=by
  unfold Sn.wts;rw[ZT,Y0];intro p c;have:=of_decide_eq_true (u p c);simp only[aF,bAE,decide_eq_true_eq]
  lia
 rw[E,xJ,wA,YG];rcases I with rfl |⟨y,B',rfl,hy⟩
 ·exact r0
 ·have v:¬ y.2 - K.s<=t:=of_decide_eq_false hy;have Y:R[A.length]?=aw y:=by rw[E];exact nR
  obtain⟨_,_,k⟩:=rh (st A.length y (YK _) Y).1
  have C:cj K A t=A.length:=by
   unfold cj
   congr 1
   refine XZ.mpr λp c=>decide_eq_true ?_;have b:p ∈ R:=by rw[E];exact Z3 _ c
   obtain⟨i,hi⟩:=ZZ b;have:=L i p hi;have:=G3 h (bd p b).1 (bd p b).2;have:=of_decide_eq_true (u p c)
   lia
  have Z:cj K R t=A.length+cj K (y::B') t:=by rw[E,C5,C]
  have le:cj K R t<=(K.r+(A.length:Int)).toNat:=by
   unfold kO at k;cases n:(js K)[(K.r+(A.length:Int)).toNat]? with
   |none=>
    have:=Z8.mp n;rw[vW] at this;have:=Yj (λp:Int × Int=>decide (jn K p.1<=t)) R;have:cj K R t<=R.length:=this
    lia
   |some x=>
    rw[n] at k;have:=of_decide_eq_false k;rw[<-Iu ho f];exact Ir (bX _) n (by lia)
  have:=M8 (K:=K) (B:=y::B') (t:=t)
  lia
end Lw
namespace Sn
open Ev PySem Lw
def pP{q:Type}{v:q->Int}{bt:Nat->Nat->Bool}{ws:List q}(h:∀i j x y,ws[i]?=aw x->ws[j]?=aw y->if bt i j=aN then v x<=v y else v y<=v x):∀m,m < ws.length->∃x,ws[argBest bt m]?=aw x/\∀j y,j<=m->ws[j]?=aw y->v x<=v y
 | 0,hm=>⟨ws[0],gEG hm,λj y k d=>by
  rw[WB.mp k,gEG hm] at d;cases d;exact ZB _⟩
 |m+1,hm=>by
  obtain⟨x,p,n⟩:=pP h m (by lia);have d:=gEG hm;have f:=h (m+1) (argBest bt m) _ x d p;show ∃x,ws[if bt (m+1) (argBest bt m)=aN then m+1 else argBest bt m]?=aw x/\_;split at f
  ·rename_i c;rw[if_pos c];refine⟨_,d,λj y k b=>?_⟩;by_cases e:j=m+1
   ·rw[e,d] at b;cases b;exact ZB _
   ·exact Yo f (n j y (by lia) b)
  ·rename_i c;rw[if_neg c];refine⟨x,p,λj y k b=>?_⟩;by_cases e:j=m+1
   ·rw[e,d] at b;cases b;exact f
   ·exact n j y (by lia) b
def C7{ws:List (Int × List Int)}{x:Int × List Int}(h:x ∈ ws):∃z,pH ws=aw z/\z.1<=x.1:=by
 obtain⟨i,hi⟩:=ZZ h;have n:=(Zb.mp hi).1
 obtain⟨z,k,le⟩:=pP (v:=λx:Int × List Int=>x.1) (bt:=hY ws) (ws:=ws) (λi j x y b f=>by
  have e:hY ws i j=hX x y:=by
   unfold hY;rw[ZE,ZE,b,f];rfl
  rw[e];unfold hX;by_cases c:x.1=y.1
  ·rw[c];split <;> split <;> exact ZB _
  ·rw[if_neg c];split
   ·rename_i d;exact Int.le_of_lt (of_decide_eq_true d)
   ·rename_i d;rw[decide_eq_true_eq] at d;lia) (ws.length - 1) (by lia)
 exact⟨z,k,le i x (by lia) hi⟩
variable {K:Sky} {l:Bool}
def nS{g m x y:Int}(h:x<=y):jnd K l g m x<=jnd K l g m y:=by
 unfold jnd;split
 ·split <;> split <;> lia
 ·lia
abbrev W(K:Sky)(l:Bool)(L:List (Int × Int))(x:Int):Int:=L.foldr (λy x=>jnd K l y.1 y.2 x) x
def wg{x y:Int}(h:x<=y):∀ (L:List (Int × Int)),W K l L x<=W K l L y
 |[]=>h
 |z::L=>nS (l:=l) (wg h L)
def xK{L T:List (Int × Int)}{x:Int}:W K l (L++T) x=W K l L (W K l T x):=by unfold W;rw[List.foldr_append]
def t6{left:List Int}{g:Int}(c:left.Nodup)(b:g ∈ left):left.Perm (g::rst left g):=by
 have e:rst left g=left.erase g:=by
  rw[List.Nodup.erase_eq_filter c];unfold rst;refine Wc λx _=>?_;by_cases h:x=g <;> simp[h]
 rw[e];exact XU b
def C8{left:List Int}{g:Int}(h:left.Nodup):(rst left g).Nodup:=h.sublist X1
def t7:∀ (n:Nat) (left:List Int) (L:List (Int × Int)) (z:Int × List Int),(∀g ∈ left,gi K.G g 6=0)->left.Nodup->left.length=n->L.length+n=K.G.length->bb K l n (ay K L) left=aw z->z.2.Perm left/\∃T,rn K z.2 (ay K L) L = .inr (L++T)/\z.1=W K l T 0
 |0,left,L,z,_,_,ln,_,h=>by
  cases h;rw[ZT.mp ln];exact⟨List.Perm.nil,[],by rw[ZN];rfl,rfl⟩
 |n+1,left,L,z,nr,nd,ln,hn,h=>by
  rw[lv] at h;obtain⟨g,b,e⟩:=YE.mp (pJ h);unfold bw at e;rw[show K.G.length - (n+1)=L.length by lia] at e;cases hs:step K (ay K L) g L.length with
  |none=>rw[hs] at e;cases e
  |some m=>
   rw[hs] at e;obtain⟨y,E,rfl⟩:=ZV.mp e;have c:=t6 nd b;have d:=c.length_eq;rw[Zo] at d;obtain⟨p,T,r1,j⟩:=t7 n (rst left g) (L++[(g,m)]) y (λx f=>nr x (ZQ.mp f).1) (C8 nd) (by lia) (by rw[Zh,Zr];lia) (by rw[aW];exact E);refine⟨(p.cons g).trans c.symm,(g,m)::T,?_,by show jnd K l g m y.1=_;rw[j];rfl⟩;have k:bK K L g m=aS:=by unfold bK;rw[nr g b];rfl
   rw[rn,hs];dsimp only;rw[k,if_neg Zg];rw[aW] at r1;rw[r1];exact congrArg Sum.inr gJ.symm
def Iv:∀ (r left:List Int) (L R:List (Int × Int)),r.Perm left->left.Nodup->L.length+r.length=K.G.length->rn K r (ay K L) L = .inr R->∃T z,R=L++T/\bb K l r.length (ay K L) left=aw z/\z.1<=W K l T 0
 |[],left,L,R,pm,_,_,h=>by
  cases h;exact⟨[],(0,[]),by rw[ZN],rfl,ZB _⟩
 |g::r,left,L,R,pm,nd,hn,h=>by
  rw[Zo] at hn;rw[rn] at h;cases hs:step K (ay K L) g L.length with
  |none=>rw[hs] at h;cases h
  |some m=>
   rw[hs] at h;dsimp only at h;split at h
   ·cases h
   ·have b:g ∈ left:=pm.mem_iff.mp Zj;have f:=t6 nd b;obtain⟨T,y,c,E,j⟩:=Iv r (rst left g) (L++[(g,m)]) R ((pm.trans f).cons_inv) (C8 nd) (by rw[Zh,Zr];lia) (by rw[aW];exact h)
    obtain⟨z,Z,d⟩:=C7 (ws:=left.filterMap (bw K l r.length (ay K L) left)) (x:=(jnd K l g m y.1,g::y.2)) (YE.mpr ⟨g,b,by
     unfold bw;rw[show K.G.length - (r.length+1)=L.length by lia,hs];dsimp only;rw[aW] at E;rw[E];rfl⟩)
    refine⟨(g,m)::T,z,by rw[c];exact gJ.symm,by rw[Zo,lv];exact Z,Yo d (nS (l:=l) j)⟩
def wj:∀ (os r:List Int) (a:Option (Int × Int)) (L:List (Int × Int)),a=ay K L->rn K (os++r) a L=match rn K os a L with |.inl j=>.inl j |.inr R=>rn K r (ay K R) R
 |[],r,a,L,e=>by rw[e];rfl
 |g::os,r,a,L,e=>by
  rw[Xu,rn,rn];cases step K a g L.length with
  |none=>rfl
  |some m=>
   dsimp only;split
   ·rfl
   ·exact wj os r _ _ (aW (z:=(g,m))).symm
def G4(sk:SkOk K):∀g ∈ a7 K,gi K.G g 6=0:=λg b=>by
 obtain⟨f,d,c⟩:=(lx g).mp b;have hi:g.toNat < K.G.length:=by lia
 unfold gi;rw[gEG hi];rcases sk.rg g.toNat _ (gEG hi) with h |h
 ·exact h
 ·exact absurd (by rwa [show((g.toNat:Nat):Int)=g by lia] at h) c
def nT(sk:SkOk K):K.F.length+(a7 K).length=K.G.length:=by
 have:=(rd sk (List.Perm.refl (cx K))).ln
 rwa [Zh] at this
def fA(sk:SkOk K){z:Int × List Int}(h:aQ K l=aw z):Ord K z.2/\∃R,rn K z.2 K.ah [] = .inr R/\z.1=W K l R 0:=by
 unfold aQ at h;cases b:rn K K.F K.ah [] with
 |inl j=>rw[b] at h;cases h
 |inr R=>
  rw[b] at h;obtain⟨y,e,rfl⟩:=ZV.mp h;have L:=gW K.F _ _ R b;rw[Z1,YG] at L;obtain⟨p,T,r1,c⟩:=t7 _ _ R y (G4 sk) rc rfl (by rw[L];exact nT sk) e;refine⟨rd sk p,R++T,?_,?_⟩
  ·show rn K (K.F++y.2) K.ah []=_;rw[wj _ _ _ _ (show K.ah=ay K [] from rfl),b];exact r1
  ·show W K l R y.1=_;rw[xK,c]
def xL(sk:SkOk K){os:List Int}(ho:Ord K os){R:List (Int × Int)}(h:rn K os K.ah [] = .inr R):∃z,aQ K l=aw z/\z.1<=W K l R 0:=by
 obtain⟨r,rfl⟩:=ho.fx;rw[wj _ _ _ _ (show K.ah=ay K [] from rfl)] at h;unfold aQ;cases c:rn K K.F K.ah [] with
 |inl j=>rw[c] at h;cases h
 |inr b=>
  rw[c] at h;have L:=gW K.F _ _ b c;rw[Z1,YG] at L;have nd:=Yx.mp ho.nd
  have pm:r.Perm (a7 K):=(Xl nd.2.1 rc).mpr λx=>by
   rw[lx];constructor
   ·intro d;have:=ho.bd x (Zz _ d);exact⟨this.1,this.2,λk=>nd.2.2 x k x d rfl⟩
   ·rintro⟨q,u,f⟩;have:x ∈ K.F++r:=ho.pm.mem_iff.mpr (Zu.mpr ⟨x.toNat,ZO.mpr (by lia),by show((x.toNat:Nat):Int)=x;lia⟩);exact(ZS.mp this).resolve_left f
  obtain⟨T,y,n,E,p⟩:=Iv r (a7 K) b R pm rc (by have:=nT sk;have:=pm.length_eq;lia) h;dsimp only;rw[<-pm.length_eq,E];refine⟨_,rfl,?_⟩;show W K l b y.1<=_;rw[n,xK];exact wg p b
end Sn
namespace Sn
open Ev PySem Lw
def Iw{K:Sky}:∀ (L:List (Int × Int)),(∀y ∈ L,0<=y.2)->0<=W K aN L 0/\(∀y ∈ L,y.2<=W K aN L 0)/\(L=[]\/W K aN L 0 ∈ L.map (·.2))
 |[],_=>⟨ZB _,λ_ h=>(by cases h),.inl rfl⟩
 |y::L,h=>by
  obtain⟨d,I,i3⟩:=Iw (K:=K) L λz hz=>h z (Zi _ hz);have b:=h y Zj;have e:W K aN (y::L) 0=if W K aN L 0 > y.2 then W K aN L 0 else y.2:=rfl
  rw[e];refine⟨by split <;> lia,λz hz=>?_,.inr ?_⟩
  ·rcases Zn.mp hz with rfl |hz
   ·split <;> lia
   ·have:=I z hz;split <;> lia
  ·rw[Zw];split
   ·rename_i c;rcases i3 with rfl |i3
    ·have c:(0:Int) > y.2:=c;lia
    ·exact Zi _ i3
   ·exact Zj
def C9{K:Sky}(L:List (Int × Int))(h:∀y ∈ L,0<=y.2):fT 0 (L.map (·.2))=W K aN L 0:=by
 obtain⟨c,I,i3⟩:=Iw (K:=K) L h;cases L with
 |nil=>rfl
 |cons y L=>
  have ne:(y::L).map (·.2) ≠ []:=by simp
  rw[eM ne];rcases i3 with i3 |i3
  ·cases i3
  ·refine XF ?_ (vU i3);obtain⟨z,b,e⟩:=Zu.mp (k9 ne);rw[<-e];exact I z b
def Da{K:Sky}:∀ (L:List (Int × Int)),(L.map λy=>cst K y.1 y.2).sum=W K aS L 0
 |[]=>rfl
 |y::L=>by
  rw[Zw,List.sum_cons,Da L];rfl
variable {K K':Sky} {l:Bool}
def pQ(sk:SkOk K){g:Int}(c:0<=g)(h:g < K.G.length):0<=gi K.G g 2/\0<=gi K.G g 5/\0<=gi K.G g 0/\gi K.G g 0 < K.M.length:=by
 have hi:g.toNat < K.G.length:=by lia
 have s0:=sk.me.s0;obtain⟨k,J,f,L,d,b,j,E,hb⟩:=sk.gb K.G[g.toNat] (ZJ hi);unfold gi;rw[gEG hi,E];exact⟨show 0<=f by lia,show 0<=b by lia,show 0<=k by lia,show k < _ by lia⟩
def Db{g m m':Int}(h:m<=m')(w:0<=gi K.G g 5):cst K g m<=cst K g m':=by
 unfold cst;exact Int.mul_le_mul_of_nonneg_left (by split <;> split <;> lia) w
def Qv{P A:List (Int × Int)}{x:Int}(h:Low P A)(w:∀z ∈ A,0<=gi K.G z.1 5):W K l P x<=W K l A x:=by
 induction h with
 |nil=>exact ZB _
 |@cons p q P A e le _ I=>
  have I:=I λz b=>w z (Zi _ b);refine Yo (nS (l:=l) I) ?_;show jnd K l p.1 p.2 (W K l A x)<=jnd K l q.1 q.2 (W K l A x);have:=Db (K:=K) le (w q Zj);generalize W K l A x=y;unfold jnd;rw[e];split
  ·split <;> split <;> lia
  ·lia
def Na{A B:List (Int × Int)}{z:Int × Int}{x:Int}(w:0<=gi K.G z.1 5):W K l (A++B) x<=W K l (A++z::B) x:=by
 rw[xK,xK];refine wg ?_ A;show W K l B x<=jnd K l z.1 z.2 (W K l B x);unfold jnd;have:0<=cst K z.1 z.2:=by unfold cst;exact Int.mul_nonneg w (by split <;> lia)
 split
 ·split <;> lia
 ·lia
abbrev rnm(f:Int->Int)(L:List (Int × Int)):List (Int × Int):=L.map λz=>(f z.1,z.2)
structure Lsr(K K':Sky)(f:Int->Int)(L:List (Int × Int)):Prop where
 g:∀z ∈ L,∀i,i ≠ 3->gi K'.G (f z.1) i=gi K.G z.1 i
 g3:∀z ∈ L,gi K.G z.1 3<=gi K'.G (f z.1) 3
 r:K.r<=K'.r
 s:K'.s=K.s
 m:K'.M=K.M
 a:K'.ah=K.ah
 o:∀t,opm K.H t=t->opm K'.H t=t
def t8{f:Int->Int}{L:List (Int × Int)}{j:Nat}:(rnm f L).take j=rnm f (L.take j):=by unfold rnm;rw[Yp]
def Lsr.sub{f:Int->Int}{L A:List (Int × Int)}(h:Lsr K K' f L)(c:∀z ∈ A,z ∈ L):Lsr K K' f A:=⟨λz b=>h.g z (c z b),λz b=>h.g3 z (c z b),h.r,h.s,h.m,h.a,h.o⟩
def xM{f:Int->Int}{t:Int}{L:List (Int × Int)}(h:Lsr K K' f L):wts K' (rnm f L) t=wts K L t:=by
 unfold wts rnm;rw[Wr,Za]
 congr 1
 refine Wc λz b=>?_;show(decide (gi K'.G (f z.1) 1<=t) && decide (t < z.2 - K'.s))=_;rw[h.g z b 1 (by decide),h.s];rfl
def Dc{f:Int->Int}{L:List (Int × Int)}(h:Lsr K K' f L):ay K' (rnm f L)=ay K L:=by
 unfold ay rnm;rw[List.getLast?_map];cases b:L.getLast? with
 |none=>exact h.a
 |some z=>
  show aw (gi K'.G (f z.1) 0,z.2)=_;rw[h.g z (Xc b) 0 (by decide)]
def Dd{f:Int->Int}{L:List (Int × Int)}{z:Int × Int}(h:Lsr K K' f (z::L)):fu K' (rnm f L) (f z.1) z.2=fu K L z.1 z.2:=by
 have c:=h.sub (A:=L) λy b=>Zi _ b
 have e:cK K' (rnm f L) (f z.1) z.2=cK K L z.1 z.2:=by
  unfold cK;have d:jn K' (f z.1)=jn K z.1:=h.g z Zj 1 (by decide)
  have E:(rnm f L).map (λp=>jn K' p.1)=L.map λp=>jn K p.1:=by
   unfold rnm;rw[ZL];exact Yh λy b=>c.g y b 1 (by decide)
  rw[d,E,h.s]
 unfold fu;rw[e]
 congr 1
 exact Yh λt _=>by rw[xM c]
def t9{f:Int->Int}{L:List (Int × Int)}(h:Lsr K K' f L)(kp:jZ K L):jZ K' (rnm f L):=λj y hy=>by
 unfold rnm at hy;rw[Zp] at hy;obtain⟨z,d,rfl⟩:=ZV.mp hy;have k:=kp j z d;have b:=Zc d
 have c:Lsr K K' f (z::L.take j):=h.sub λy hy=>by
  rcases Zn.mp hy with rfl |hy
  ·exact b
  ·exact Z5 hy
 refine⟨by rw[h.g z b 2 (by decide)];exact k.lo,Yo k.hi (h.g3 z b),h.o _ k.op,λa n=>?_,?_,?_⟩
 ·rw[t8,Dc (c.sub λy hy=>Zi _ hy)] at n;have:=k.gap a n;show a.2+gp K' a.1 (gi K'.G (f z.1) 0)<=z.2;unfold gp;rw[h.m,h.g z b 0 (by decide)];exact this
 ·rw[xM h,show jn K' (f z.1)=jn K z.1 from h.g z b 1 (by decide)];exact Yo k.wt h.r
 ·have:=k.rg;unfold bK at this ⊢;rw[t8,Dd c,h.g z b 6 (by decide)];exact this
def De{f:Int->Int}{x:Int}:∀ {L:List (Int × Int)},Lsr K K' f L->W K' l (rnm f L) x=W K l L x
 |[],_=>rfl
 |z::L,h=>by
  show jnd K' l (f z.1) z.2 (W K' l (rnm f L) x)=jnd K l z.1 z.2 (W K l L x);rw[De (h.sub λy b=>Zi _ b)];unfold jnd cst;rw[h.g z Zj 4 (by decide),h.g z Zj 5 (by decide)]
def zw{P A:List (Int × Int)}{g m:Int}(h:List.Sublist P A):fu K P g m<=fu K A g m:=by
 unfold fu;refine xI (λx d=>?_) λy f=>?_
 ·obtain⟨t,b,rfl⟩:=Zu.mp d;refine⟨1+(wts K A t:Int),Zu.mpr ⟨t,?_,rfl⟩,by have:wts K P t<=wts K A t:=(h.filter _).length_le;lia⟩;unfold cK at b ⊢;obtain⟨h1,c⟩:=ZQ.mp b;refine ZQ.mpr ⟨?_,c⟩;rcases Zn.mp h1 with e |h1
  ·rw[e];exact Zj
  ·exact Zi _ ((h.map _).subset h1)
 ·obtain⟨t,_,rfl⟩:=Zu.mp f
  lia
def zx{P A:List (Int × Int)}{g m:Int}(h:List.Sublist P A)(b:bK K A g m=aS):bK K P g m=aS:=by
 have:=zw (K:=K) (g:=g) (m:=m) h;unfold bK at b ⊢;cases c:decide (0 < gi K.G g 6) with
 |false=>rfl
 |true=>
  rw[c,Yy] at b;rw[Yy];have:=of_decide_eq_false b;exact decide_eq_false (by lia)
def Nb(sk:SkOk K){a b c:Int}(f:0<=a)(d:a < K.M.length)(j:0<=b)(B:b < K.M.length)(h:0<=c)(C:c < K.M.length):gp K a b<=gp K a c+gp K c b:=sk.me.tri a.toNat b.toNat c.toNat (by lia) (by lia) (by lia)
def zy(sk:SkOk K){A B:List (Int × Int)}{x:Int × Int}(n:InG K (A++x::B))(kp:jZ K (A++x::B)):jZ K (A++B):=λj z d=>by
 have sub:List.Sublist (A++B) (A++x::B):=(Y3 x B).append_left A;have wt:∀ {t:Int},wts K (A++B) t<=wts K (A++x::B) t:=λ{t}=>(sub.filter _).length_le;by_cases O:j < A.length
 ·have c:(A++x::B)[j]?=aw z:=by rw[Zq O] at d ⊢;exact d
  have k:=kp j z c;have e:(A++B).take j=(A++x::B).take j:=by rw[Xd (by lia),Xd (by lia)]
  exact⟨k.lo,k.hi,k.op,by rw[e];exact k.gap,by have:=k.wt;have:=wt (t:=jn K z.1);lia,by rw[e];exact k.rg⟩
 ·obtain⟨i,rfl⟩:∃i,j=A.length+i:=⟨j - A.length,by lia⟩;rw[Zm (by lia),show A.length+i - A.length=i by lia] at d;have c:(A++x::B)[A.length+(i+1)]?=aw z:=by rw[Zm (by lia),show A.length+(i+1) - A.length=i+1 by lia];exact d
  have k:=kp _ z c;have E:(A++B).take (A.length+i)=A++B.take i:=Xf _;have I:(A++x::B).take (A.length+(i+1))=A++x::B.take i:=Xf _;refine⟨k.lo,k.hi,k.op,λa h=>?_,by have:=k.wt;have:=wt (t:=jn K z.1);lia,?_⟩
  ·rw[E] at h;have q:=k.gap;rw[I] at q;cases i with
   |succ i=>
    cases B with
    |nil=>cases d
    |cons b B=>
     refine q a ?_;rw[List.take_succ_cons] at h ⊢;unfold ay at h ⊢;rw[YL,YU] at h;rw[YL,List.getLast?_cons_cons,YU];exact h
   |zero=>
    rw[XQ,ZN] at h;have J:=q (gi K.G x.1 0,x.2) (by rw[XQ];exact aW);have Q:=kp A.length x nR;have T:=Q.gap a (by rw[gI];exact h);have u:=n x (Zz _ Zj);have f:=n z (Zz _ (Zi _ (Zc d)));have nx:=pQ sk u.1 u.2;have L:=pQ sk f.1 f.2
    have v:0<=a.1/\a.1 < K.M.length:=by
     unfold ay at h;cases p:A.getLast? with
     |none=>rw[p] at h;have:=sk.ah a h;exact⟨this.1,this.2.1⟩
     |some y=>
      rw[p] at h;cases h;have C:=n y (Z3 _ (Xc p));exact(pQ sk C.1 C.2).2.2
    have:=Nb sk v.1 v.2 L.2.2.1 L.2.2.2 nx.2.2.1 nx.2.2.2;have J:x.2+gp K (gi K.G x.1 0) (gi K.G z.1 0)<=z.2:=J
    lia
  ·rw[E];refine zx ?_ (by have:=k.rg;rw[I] at this;exact this);exact(Y3 x _).append_left A
end Sn
namespace Sn
open Ev PySem Lw
variable {K K':Sky} {l:Bool} {os:List Int} {L:List (Int × Int)}
def jv(ho:Ord K os)(h:L.map (·.1)=os):InG K L:=λz b=>ho.bd z.1 (h ▸ Zu.mpr ⟨z,b,rfl⟩)
def cO(sk:SkOk K)(ho:Ord K os)(h:L.map (·.1)=os)(kp:jZ K L):∃z,aQ K l=aw z/\z.1<=W K l L 0:=by
 obtain⟨R,r1,r2⟩:=tY sk ho L [] [] h kp .nil;rw[h] at r1;obtain⟨z,Z,c⟩:=xL (l:=l) sk ho r1;exact⟨z,Z,Yo c (Qv r2 λy b=>(pQ sk (jv ho h y b).1 (jv ho h y b).2).2.1)⟩
abbrev Btr(K K':Sky):Prop:=∀l z,aQ K l=aw z->∃Z,aQ K' l=aw Z/\Z.1<=z.1
def xN:∀ (a b:List Int),a.Nodup->(∀x ∈ a,x ∈ b)->b.length<=a.length->a.Perm b
 |[],b,_,_,h=>by rw[ZT.mp (WB.mp h)]
 |x::a,b,c,hs,h=>by
  have j:=hs x Zj;have p:=XU j;have f:=p.length_eq;rw[Zo] at f h;have c:=Z6.mp c;exact((xN a (b.erase x) c.2 (λy d=>(List.mem_erase_of_ne (λ(e:y=x)=>c.1 (e ▸ d))).mpr (hs y (Zi _ d))) (by lia)).cons x).trans p.symm
def Df(nd:os.Nodup)(bd:∀g ∈ os,0<=g/\g < K.G.length)(ln:os.length=K.G.length)(fx:∃r,os=K.F++r):Ord K os:=
 ⟨nd,bd,ln,fx,xN _ _ nd (λx h=>by
  have:=bd x h;exact Zu.mpr ⟨x.toNat,ZO.mpr (by lia),by show((x.toNat:Nat):Int)=x;lia⟩) (by rw[Za,ZG];lia)⟩
def jw(sk:SkOk K)(b:SkOk K')(c:K'.G.length=K.G.length)(n:∃r,K.F=K'.F++r)(h:∀L,InG K L->Lsr K K' id L):Btr K K':=λl z v=>by
 obtain⟨ho,R,r1,r2⟩:=fA sk v;obtain⟨d,kp⟩:=ly sk ho r1;have f:=h R (jv ho d);have e:rnm id R=R:=by unfold rnm;exact Wm R
 have k:=t9 f kp;have w:=De (l:=l) (x:=0) f;rw[e] at k w;obtain⟨r,p⟩:=n;obtain⟨q,E⟩:=ho.fx;obtain⟨Z,j,u⟩:=cO (l:=l) b (Df ho.nd (by rw[c];exact ho.bd) (by rw[c];exact ho.ln) ⟨r++q,by rw[E,p,Z2]⟩) d k;exact⟨Z,j,by rw[r2,<-w];exact u⟩
abbrev Up(G b:List (List Int)):Prop:=b.length=G.length/\∀ (i:Nat) g,G[i]?=aw g->∃d,0<=d/\d<=19/\b[i]?=aw (g.set 3 (g.getD 3 0+d))
def Up.gi{G b:List (List Int)}(h:Up G b)(gl:∀g ∈ G,g.length=7){x:Int}(X:0<=x)(j:x < G.length):(∀i,i ≠ 3->gi b x i=gi G x i)/\gi G x 3<=gi b x 3:=by
 have hi:x.toNat < G.length:=by lia
 obtain⟨d,c,f,e⟩:=h.2 x.toNat _ (gEG hi);have l7:=gl _ (ZJ hi);unfold Sn.gi;rw[e,gEG hi];refine⟨λi hi=>?_,?_⟩
 ·show(Wv _ _ _).getD i 0=(G[x.toNat]).getD i 0;show((Wv _ _ _)[i]?).getD 0=((G[x.toNat])[i]?).getD 0;rw[Zv (Ne.symm hi)]
 ·show(G[x.toNat]).getD 3 0<=(Wv _ _ _).getD 3 0;show _<=((Wv _ _ _)[3]?).getD 0;rw[ZU (by lia)];show _<=_+d
  lia
def Ix(sk:SkOk K)(gb:∀g ∈ K.G,GB K.M.length K.r K.s g){k:List (List Int)}(h:Up K.G k):SkOk { K with G:=k }:=by
 have b:∀ (i:Nat) f,k[i]?=aw f->∃g d,K.G[i]?=aw g/\0<=d/\d<=19/\f=g.set 3 (g.getD 3 0+d):=λi f e=>by
  have hi:i < K.G.length:=by rw[<-h.1];exact(Zb.mp e).1
  obtain⟨d,p,n,v⟩:=h.2 i _ (gEG hi);rw[e] at v;cases v;exact⟨_,d,gEG hi,p,n,rfl⟩
 refine⟨sk.me,by show k.length<=7;rw[h.1];exact sk.g7,λf c=>?_,sk.nd,λx I=>by show _/\x < (k.length:Int);rw[h.1];exact sk.bd x I,λj f c=>?_,sk.ah⟩
 ·obtain⟨i,hi⟩:=ZZ c;obtain⟨g,d,e,p,n,rfl⟩:=b i f hi;obtain⟨C,J,y,B,q,u,z,E,hb⟩:=gb g (Zc e);subst E;exact⟨C,J,y,B+d,q,u,z,rfl,by dsimp only;omega⟩
 ·obtain⟨g,d,e,p,n,rfl⟩:=b j f c;obtain⟨C,J,y,B,q,u,z,E,hb⟩:=gb g (Zc e);have:=sk.rg j g e;subst E;exact this
def Nc(sk:SkOk K)(gb:∀g ∈ K.G,GB K.M.length K.r K.s g){c:List (List Int)}(h:Up K.G c):Btr K { K with G:=c }:=
 jw sk (Ix sk gb h) h.1 ⟨[],by rw[ZN]⟩ λL d=>
  have u:=λz b=>h.gi (λg f=>(sk.vd.gl g f).1) (d z b).1 (d z b).2
  ⟨λz b=>(u z b).1,λz b=>(u z b).2,ZB _,rfl,rfl,rfl,λ_ e=>e⟩
def xO(sk:SkOk K){r:Int}(h:K.r<=r)(c:r<=8):SkOk { K with r:=r }:=
 ⟨⟨Yo sk.me.r0 h,c,sk.me.s0,sk.me.s60,sk.me.mat,sk.me.m1,sk.me.m4,sk.me.tri,sk.me.ris,sk.me.h4,sk.me.hb⟩,sk.g7,λg f=>by
  obtain⟨p,J,k,b,d,j,n,E,hb⟩:=sk.gb g f;exact⟨p,J,k,b,d,j,n,E,by dsimp only;omega⟩,sk.nd,sk.bd,sk.rg,sk.ah⟩
def Dg(sk:SkOk K){r:Int}(h:K.r<=r)(b:r<=8):Btr K { K with r:=r }:=
 jw sk (xO sk h b) rfl ⟨[],by rw[ZN]⟩ λL _=>⟨λ_ _ _ _=>rfl,λ_ _=>ZB _,h,rfl,rfl,rfl,λ_ e=>e⟩
def xP(sk:SkOk K):SkOk { K with H:=[] }:=
 ⟨⟨sk.me.r0,sk.me.r8,sk.me.s0,sk.me.s60,sk.me.mat,sk.me.m1,sk.me.m4,sk.me.tri,trivial,YK _,λ_ h=>nomatch h⟩,sk.g7,sk.gb,sk.nd,sk.bd,sk.rg,sk.ah⟩
def Dh(sk:SkOk K):Btr K { K with H:=[] }:=
 jw sk (xP sk) rfl ⟨[],by rw[ZN]⟩ λL _=>⟨λ_ _ _ _=>rfl,λ_ _=>ZB _,ZB _,rfl,rfl,rfl,λ_ _=>rfl⟩
def Di(sk:SkOk K){n:Nat}(h:∀ (j:Nat) x,K.F[j]?=aw x->gi K.G x 6 ≠ 0->j < n):SkOk { K with F:=K.F.take n }:=
 ⟨sk.me,sk.g7,sk.gb,sk.nd.sublist (X8 _ _),λx c=>sk.bd x (Z5 c),λj g b=>by
  rcases sk.rg j g b with h1 |h1
  ·exact .inl h1
  ·by_cases z:g.getD 6 0=0
   ·exact .inl z
   ·obtain⟨i,hi⟩:=ZZ h1;have:=h i _ hi (by unfold gi;rw[Zy,b];exact z);exact .inr (Zc (i:=i) (by rw[Xr this];exact hi)),sk.ah⟩
def G5(sk:SkOk K){n:Nat}(h:∀ (j:Nat) x,K.F[j]?=aw x->gi K.G x 6 ≠ 0->j < n):Btr K { K with F:=K.F.take n }:=
 jw sk (Di sk h) rfl ⟨K.F.drop n,(XH n K.F).symm⟩ λL _=>⟨λ_ _ _ _=>rfl,λ_ _=>ZB _,ZB _,rfl,rfl,rfl,λ_ e=>e⟩
end Sn
namespace Sn
open Ev PySem Lw
variable {K:Sky} {n:Nat}
abbrev ren(n:Nat)(x:Int):Int:=x - if x > n then 1 else 0
abbrev ua(K:Sky)(n:Nat):Sky:={ K with G:=K.G.eraseIdx n,F:=K.F.map (ren n) }
def G6{x y:Int}(b:x ≠ n)(c:y ≠ n)(h:ren n x=ren n y):x=y:=by
 unfold ren at h;split at h <;> split at h <;> lia
def Dj{X:List Int}(h:X.Nodup)(b:(n:Int) ∉ X):(X.map (ren n)).Nodup:=by
 induction X with
 |nil=>exact XN
 |cons x X I=>
  have h:=Z6.mp h;rw[Zw];refine Z6.mpr ⟨λz=>?_,I h.2 λz=>b (Zi _ z)⟩;obtain⟨y,c,e⟩:=Zu.mp z;exact h.1 (G6 (λe=>b (by rw[<-e];exact Zi _ c)) (λe=>b (by rw[<-e];exact Zj)) e ▸ c)
def Dk{x m:Int}(c:0<=x)(b:x < m)(d:x ≠ n)(h:(n:Int) < m):0<=ren n x/\ren n x < m - 1:=by
 unfold ren;split <;> lia
def ub(h:n < K.G.length):((ua K n).G.length:Int)=K.G.length - 1:=by
 show((K.G.eraseIdx n).length:Int)=_;rw[Xk h]
 lia
def Dm{x:Int}(h:0<=x)(b:x ≠ n)(i:Nat):gi (ua K n).G (ren n x) i=gi K.G x i:=by
 unfold gi;show(((K.G.eraseIdx n)[(ren n x).toNat]?).getD []).getD i 0=_;rw[Xz];unfold ren;split
 ·rw[if_neg (by lia),show(x - 1).toNat+1=x.toNat by lia]
 ·rw[show(x - 0)=x by lia,if_pos (by lia)]
def G7{L:List (Int × Int)}(c:InG K L)(b:∀z ∈ L,z.1 ≠ n):Lsr K (ua K n) (ren n) L:=
 ⟨λz h i _=>Dm (c z h).1 (b z h) i,λz h=>by rw[Dm (c z h).1 (b z h)];exact ZB _,ZB _,rfl,rfl,rfl,λ_ e=>e⟩
def xQ(sk:SkOk K)(p:n < K.G.length)(d:(n:Int) ∉ K.F):SkOk (ua K n):=by
 have k:=ub p;refine⟨sk.me,by have:=sk.g7;lia,λg b=>sk.gb g (List.mem_of_mem_eraseIdx b),Dj sk.nd d,λy q=>?_,λj g b=>?_,sk.ah⟩
 ·obtain⟨x,f,rfl⟩:=Zu.mp q;have:=sk.bd x f;rw[k];exact Dk this.1 this.2 (λe=>d (e ▸ f)) (by lia)
 ·have b:(K.G.eraseIdx n)[j]?=aw g:=b;rw[Xz] at b;split at b
  ·rename_i c;refine(sk.rg j g b).imp_right λh=>Zu.mpr ⟨j,h,?_⟩;unfold ren;rw[if_neg (by lia)];lia
  ·rename_i c;refine(sk.rg (j+1) g b).imp_right λh=>Zu.mpr ⟨_,h,?_⟩;unfold ren;rw[if_pos (by lia)];lia
def Dn(sk:SkOk K)(J:n < K.G.length)(Q:(n:Int) ∉ K.F):Btr K (ua K n):=λl z X=>by
 obtain⟨ho,R,r1,r2⟩:=fA sk X;obtain⟨E,kp⟩:=ly sk ho r1;have d:=jv ho E
 have hm:(n:Int) ∈ R.map (·.1):=by
  rw[E];exact ho.pm.mem_iff.mpr (Zu.mpr ⟨n,ZO.mpr J,rfl⟩)
 obtain⟨x,p,ex⟩:=Zu.mp hm;obtain⟨A,B,rfl⟩:=List.append_of_mem p;have nd:((A++x::B).map (·.1)).Nodup:=by rw[E];exact ho.nd
 rw[ZF,Zw] at nd E;have f:=(Yx.mp nd);have C:=Z6.mp f.2.1
 have b:∀y ∈ A++B,y.1 ≠ n:=λy hy e=>by
  rw[<-ex] at e;rcases ZS.mp hy with hy |hy
  ·exact f.2.2 y.1 (Zu.mpr ⟨y,hy,rfl⟩) _ Zj e
  ·exact C.1 (by rw[<-e];exact Zu.mpr ⟨y,hy,rfl⟩)
 have sub:∀y ∈ A++B,y ∈ A++x::B:=λy hy=>by
  rcases ZS.mp hy with hy |hy
  ·exact Z3 _ hy
  ·exact Zz _ (Zi _ hy)
 have L:=G7 (λy hy=>d y (sub y hy)) b;have q:=t9 L (zy sk d kp);have Z:=ub J;have U:(rnm (ren n) (A++B)).map (·.1)=((A++B).map (·.1)).map (ren n):=by unfold rnm;rw[ZL,ZL];rfl
 have I:((A++B).map (·.1)).Nodup:=by
  rw[ZF];exact nd.sublist ((Y3 _ _).append_left _)
 have u:Ord (ua K n) ((rnm (ren n) (A++B)).map (·.1)):=by
  rw[U];refine Df (Dj I λh=>?_) (λy hy=>?_) ?_ ?_
  ·obtain⟨y,hy,e⟩:=Zu.mp h;exact b y hy e
  ·obtain⟨v,T,rfl⟩:=Zu.mp hy;obtain⟨y,j,rfl⟩:=Zu.mp T;have:=d y (sub y j);rw[Z];exact Dk this.1 this.2 (b y j) (by lia)
  ·have:=ho.ln;rw[<-E,Zh,Zo,Za,Za] at this;rw[Za,Za,Zh]
   lia
  ·obtain⟨r,O⟩:=ho.fx;rw[<-E] at O
   have:∃r1,A.map (·.1)=K.F++r1:=by
    rcases List.append_eq_append_iff.mp O.symm with ⟨a,k,_⟩ |⟨c,k,j⟩
    ·exact⟨a,k⟩
    ·cases c with
     |nil=>exact⟨[],by rw[k,ZN,ZN]⟩
     |cons y c=>
      rw[Xu] at j;injection j with h3 _;exact absurd (by rw[k,<-ex,h3];exact Zz _ Zj) Q
   obtain⟨r1,e2⟩:=this;exact⟨(r1++B.map (·.1)).map (ren n),by rw[ZF,e2,Z2,ZF];rfl⟩
 obtain⟨z',Y,a2⟩:=cO (l:=l) (xQ sk J Q) u rfl q;refine⟨z',Y,Yo a2 ?_⟩;rw[De L,r2];exact Na (pQ sk (d x p).1 (d x p).2).2.1
end Sn
namespace Lw
open PySem Ev Sn L2
variable {p:Nat} {S S':Sto} {k:Nat} {Q:D->Sto->Prop} {K:Sky} {os:List Int} {R:List (Int × Int)}
def Dp(sk:SkOk K)(ho:Ord K os)(q:∀S',Sm S S'->Q (.bl aN) S'):Ok (evC ag (k+4) 45 [skE K,.tup (os.map D.int)] S) Q:=by
 refine am (d:=iH) (ρ:=[aw (skE K),aw (.tup (os.map D.int)),aD]) rfl rfl ?_;dsimp only[iH,m9];k_is;refine aa sk2 (aa bc ?_);k_is;refine⟨rfl,tR ho.nd ho.bd sk.g7 λb c=>?_⟩;k_is;refine aa bc ?_;k_is;rw[ho.ln,decide_eq_true (rfl:(K.G.length:Int)=K.G.length)];k_is;refine aa sk3 (aa bc ?_);k_is;refine aa sk3 ?_;obtain⟨r,E⟩:=ho.fx
 have h:dY (os.map D.int) aD (aw (K.F.length:Int))=K.F.map D.int:=by
  rw[dZ _ _ (by rw[Za,E,Zh];lia),<-Yp,E,Xj]
 rw[h];exact GL (aa (GK K.F) (by k_is;exact q b c))
def wk(sk:SkOk K)(ho:Ord K os)(b:rn K os K.ah [] = .inr R)(q:∀n S',Sm S S'->S'[n]?=aw (.lst (R.map ac))->Q (.tup [.str "lands", .ref n]) S'):Ok (evC ag (k+9) 44 [skE K,.tup (os.map D.int)] S) Q:=by
 refine am (d:=jT) (ρ:=[aw (skE K),aw (.tup (os.map D.int)),aD]) rfl rfl ?_;dsimp only[jT,pw];have g7:=sk.g7;have ln:=ho.ln;k_is;refine⟨rfl,gH sk λB y=>?_⟩;k_is;refine⟨rfl,Dp (k:=k+4) sk ho λz f=>?_⟩;k_is;refine⟨rfl,kH (k:=k+3) sk.vd ho.bd (by lia) λn L v j h hN u=>?_⟩;k_is;refine aa (ca h) (aa bc ?_);k_is;rw[Za];have E:=u.lands R b;have c:=gW os _ _ R b;rw[Z1,YG] at c;rw[E,decide_eq_false (show ¬ (R.length:Int) < os.length by lia)];k_is;exact q n v ((y.trans f).trans j) (E ▸ h)
end Lw
namespace Lw
open PySem Ev Sn
variable {p:Nat} {S:Sto} {k:Nat} {Q:D->Sto->Prop} {K:Sky}
def Dq{n:Nat}{h:List D}{T:Tg}{b:XS}{f:Rho}{Q:Fl->Rho->Sto->Prop}(O:h.length<=100000)(I:Nat->Rho->Sto->Prop)(C:∀i f c,I i f c->c[n]?=aw (.lst h))
  (step:∀ (i:Nat) d f c,h[i]?=aw d->I i f c->∃u,ax T (.tup [.int i,d]) f=aw u/\OkS (b u c) λL j y=>match L with |.nx=>I (i+1) j y |.ct=>I (i+1) j y |.bk=>Q .nx j y |.rt d=>Q (.rt d) j y)
  (q:∀f c,I h.length f c->Q .nx f c) (J:I 0 f S):OkS (eV (AZ n) T b LF 0 f S) Q:=by
 refine jh h.length I (by unfold LF;lia) (λi f c hi v=>?_) (λf c v=>⟨?_,q f c v⟩) J
 ·obtain⟨u,E,z⟩:=step i h[i] f c (gEG hi) v;refine⟨.tup [.int i,h[i]],u,?_,E,z⟩;show(au c n).bind (λh=>enm h i)=_;rw[aq (C i f c v)];show enm h i=_;unfold enm;rw[if_pos (by lia),gEG hi];rfl
 ·show(au c n).bind (λB=>enm B h.length)=_;rw[aq (C _ f c v)];show enm h h.length=_;unfold enm;rw[if_pos (Ze _),Zs (Ze _)];rfl
def qP{a b:Nat}{xs:List Int}(h:S[a]?=aw (.lst (xs.map D.int)))(hb:S[b]?=aw (.lst (xs.map D.int)))(c:a ≠ b):ak .ne (.ref a) (.ref b) S=aw (.bl aS,S):=by
 have:eqD 60 S (.ref a) (.ref b)=aw aN:=by
  show(match au S a,au S b with
   |some xs,aw ys=>if a=b then aw aN else if xs.length=ys.length then eqL (eqD 59 S) xs ys else aw aS
   | _,_=>aD)=aw aN
  rw[aq h,aq hb];dsimp only;rw[if_neg c,if_pos rfl,jr]
 simp only[ak,neS];rw[this];rfl
def G8(X:List Int):ak .ne (.tup (X.map D.int)) (.tup (X.map D.int)) S=aw (.bl aS,S):=by
 have:eqD 60 S (.tup (X.map D.int)) (.tup (X.map D.int))=eqL (eqD 59 S) (X.map D.int) (X.map D.int):=rfl;simp only[ak,neS];rw[this,jr];rfl
def Ds{X Y:List D}(h:Ok (ak .ne (.tup X) (.tup Y) S) Q):tw .ne X (.tup Y) S Q:=by
 cases Y with
 |nil=>rw[xl,aG] at h;exact h
 |cons y Y=>exact h
def Dt{os:List Int}(ho:Ord K os):fC os=(Zk K.G.length).map λi=>Int.ofNat i:=by
 refine List.Perm.eq_of_pairwise (le:=(·<=·)) (λa b _ _ d c=>XF d c) (bX os) ?_ ((bP os).trans ho.pm);refine YJ.mpr (List.pairwise_lt_range.imp λh=>?_);exact Int.ofNat_le.mpr (YW h)
def G9{i j l:Nat}{a b c:D}{d:Rho}(f:i < d.length)(h:j < d.length)(n:l < d.length):ax (.tup [.name i,.tup [.name j,.name l]]) (.tup [a,.tup [b,c]]) d=aw (((d.set i (aw a)).set j (aw b)).set l (aw c)):=by
 have e:=bn (i:=j) (j:=l) (a:=b) (b:=c) (ρ:=d.set i (aw a)) (by rw[ZY];exact h) (by rw[ZY];exact n);rw[vK,nu,if_pos f,aM,e];dsimp only;rw[qQ]
def pR{L:List (Int × Int)}{i:Nat}{z:Int × Int}(h:L[i]?=aw z):L.take (i+1)=L.take i++[z]:=by
 obtain⟨hi,e⟩:=Zb.mp h;rw[ZX hi,e]
def uc(V:Vd K){L:List (Int × Int)}{n:Nat}(hn:S[n]?=aw (.lst (L.map ac)))(hL:InG K L)(hl:L.length<=7)(q:∀b S',Sm S S'->(b=aN ↔ jZ K L)->Q (.bl b) S') :
  rW (wSs (evC ag (k+2)) (fZ ag) 58 (dw.drop 2)) [aw (skE K),aw (.ref n),aD,aD,aD,aD,aD,aD,aD,aD,aD,aD,aD] S (out Q):=by
 dsimp only[dw,Yu];k_is;refine aa sk1 ?_;k_is;refine⟨by rw[aq hn];rfl,?_⟩;refine Dq (by rw[Za];lia) (λi ρ S'=>Sm S S'/\(∃Y u4 u5 Z X O T v u U,ρ=[aw (skE K),aw (.ref n),aw (ahE (ay K (L.take i))),Y,u4,u5,Z,X,O,T,v,u,U])/\∀ (j:Nat) z,j < i->L[j]?=aw z->KAt K L j z) (λi ρ S' iv=>iv.1 _ _ hn) (λi d ρ B hd ⟨J,⟨Y,u4,u5,Z,X,O,T,v,u,U,er⟩,kp⟩=>?_) (λρ B ⟨J,⟨Y,u4,u5,Z,X,O,T,v,u,U,er⟩,kp⟩=>?_) ⟨Sm.refl S,⟨_,_,_,_,_,_,_,_,_,_,rfl⟩,λj z hj=>absurd hj (Wq j)⟩
 ·subst er;obtain⟨z,hz,rfl⟩:=gD hd;obtain⟨g0,g1⟩:=hL z (Zc hz);obtain⟨a0,b,c,d,e,f,h,eg,e0,e1,e2,e3,e6,k0,k1,c0⟩:=gl7 V g0 g1;have hn1:=J _ _ hn;have no:∀S',Sm S S'->¬ KAt K L i z->Q (.bl aS) S':=λS' s' nk=>q aS S' s' ⟨λx=>(by cases x),λkk=>absurd (kk i z hz) nk⟩;refine⟨_,show ax (.tup [.name 3,.tup [.name 4,.name 5]]) (.tup [.int i,.tup [.int z.1,.int z.2]]) _=_ from G9 (by simp) (by simp) (by simp),?_⟩;k_is;refine aa sk2 (aa (b9 g0 eg) ?_);rw[show az [a0,b,c,d,e,f,h] = .tup [.int a0,.int b,.int c,.int d,.int e,.int f,.int h] from rfl];k_is;cases c1:decide (c<=z.2) with
  |false=>
   k_is;exact no B J λI=>by have:=I.lo;have:=of_decide_eq_false c1;lia
  |true=>
  k_is;cases c2:decide (z.2<=d) with
  |false=>
   k_is;exact no B J λI=>by have:=I.hi;have:=of_decide_eq_false c2;lia
  |true=>
  k_is;refine aa sk0 (aa me3 ?_);refine⟨rfl,tK V.h4 ?_⟩;k_is;cases c3:decide (opm K.H z.2=z.2) with
  |false=>
   k_is;exact no B J λI=>absurd I.op (of_decide_eq_false c3)
  |true=>
  k_is
  have C:(∀a,ay K (L.take i)=aw a->a.2+gp K a.1 a0<=z.2)->rW (wSs (evC ag (k+2)) (fZ ag) 52 [.ifs (.or (.cmp .gt (.len (.call 64 [(.var 0),(.var 1),(.var 7)])) (.ix (.ix (.var 0) (.int 0)) (.int 0))) (.chn .lt .lt (.int 0) (.var 12) (.call 65 [(.var 0),(.sl (.var 1) aD (aw (.var 3))),(.var 4),(.var 5)]))) [.ret (.bl aS)] [],.asg (.name 2) (.tup [(.var 6),(.var 5)])]) [aw (skE K),aw (.ref n),aw (ahE (ay K (L.take i))),aw (.int i),aw (.int z.1),aw (.int z.2),aw (.int a0),aw (.int b),aw (.int c),aw (.int d),aw (.int e),aw (.int f),aw (.int h)] B (λfl ρ2 E=>match fl with
    |.nx=>Sm S E/\(∃Y u4 u5 Z X O T v u U,ρ2=[aw (skE K),aw (.ref n),aw (ahE (ay K (L.take (i+1)))),Y,u4,u5,Z,X,O,T,v,u,U])/\∀ (j:Nat) z,j < i+1->L[j]?=aw z->KAt K L j z
    |.ct=>Sm S E/\(∃Y u4 u5 Z X O T v u U,ρ2=[aw (skE K),aw (.ref n),aw (ahE (ay K (L.take (i+1)))),Y,u4,u5,Z,X,O,T,v,u,U])/\∀ (j:Nat) z,j < i+1->L[j]?=aw z->KAt K L j z
    |.bk=>False
    | .rt d=>Q d E):=λhg=>by
   k_is;refine⟨rfl,pG V hn1 hL (by lia) λN ds E s2 hN hd=>?_⟩;refine aa (ca hN) ?_;refine aa sk0 (aa me0 ?_);k_is;rw[hd];have ej:jn K z.1=b:=e1;cases c4:decide (K.r < (wts K L b:Int)) with
   |true=>
    k_is;exact no E (J.trans s2) λI=>by have:=I.wt;rw[ej] at this;have:=of_decide_eq_true c4;lia
   |false=>
   k_is
   have fin:∀S3,Sm S S3->bK K (L.take i) z.1 z.2=aS->Sm S S3/\(∃Y u4 u5 Z X O T v u U,[aw (skE K),aw (D.ref n),aw (D.tup [D.int a0,D.int z.2]),aw (D.int i),aw (D.int z.1),aw (D.int z.2),aw (D.int a0),aw (D.int b),aw (D.int c),aw (D.int d),aw (D.int e),aw (D.int f),aw (D.int h)]=[aw (skE K),aw (.ref n),aw (ahE (ay K (L.take (i+1)))),Y,u4,u5,Z,X,O,T,v,u,U])/\∀ (j:Nat) z,j < i+1->L[j]?=aw z->KAt K L j z:=λS3 s3 hh=>by
    refine⟨s3,⟨_,_,_,_,_,_,_,_,_,_,by rw[pR hz,aW,e0];rfl⟩,λj y hj hy=>?_⟩;by_cases hji:j=i
    ·subst hji;rw[hz] at hy;cases hy;exact⟨by rw[e2];exact of_decide_eq_true c1,by rw[e3];exact of_decide_eq_true c2,of_decide_eq_true c3,λa ha=>by rw[e0];exact hg a ha,by rw[ej];have:=of_decide_eq_false c4;lia,hh⟩
    ·exact kp j y (by lia) hy
   have eh:bK K (L.take i) z.1 z.2=(decide (0 < h) && decide (h < fu K (L.take i) z.1 z.2)):=by unfold bK;rw[e6]
   cases c5:decide (0 < h) with
   |false=>
    k_is;exact fin E (J.trans s2) (by rw[eh,c5];rfl)
   |true=>
   k_is;refine aa (jp (s2 _ _ hn1)) ?_;have s3:Sm E (E++[Ob.lst ((L.map ac).take i)]):=Sm.app _ _;have a3:(E++[Ob.lst ((L.map ac).take i)])[Zd E]?=aw (Ob.lst ((L.take i).map ac)):=by rw[aC,Yp]
   generalize Zd E=N3 at *;generalize E++[Ob.lst ((L.map ac).take i)]=S3 at *;refine⟨rfl,tL V a3 (λy hy=>hL y (Z5 hy)) (by rw[Yb];lia) g0 g1 λS4 s4=>?_⟩;k_is;have sA:=((J.trans s2).trans s3).trans s4;cases c6:decide (h < fu K (L.take i) z.1 z.2) with
   |true=>
    k_is;exact no S4 sA λI=>by have:=I.rg;rw[eh,c5,c6] at this;cases this
   |false=>
    k_is;exact fin S4 sA (by rw[eh,c5,c6];rfl)
  cases hA:ay K (L.take i) with
  |none=>
   rw[hA] at C;refine aa (show ak .isnot (ahE aD) .non B=aw (.bl aS,B) from rfl) ?_;k_is;exact C λa ha=>by cases ha
  |some y=>
   rw[hA] at C;obtain⟨y0,y1⟩:=gG V (L:=L.take i) (λy hy=>hL y (Z5 hy)) y hA;refine aa (show ak .isnot (ahE (aw y)) .non B=aw (.bl aN,B) from rfl) ?_;k_is;refine aa (show ixS (ahE (aw y)) (.int 1) B=aw (.int y.2,B) from rfl) ?_;refine aa sk0 (aa me2 (aa (show ixS (ahE (aw y)) (.int 0) B=aw (.int y.1,B) from rfl) ?_));obtain⟨r,h1,h2⟩:=jX (S:=B) V y0 y1 k0 k1;refine aa h1 (aa h2 ?_);k_is;cases c7:decide (z.2 < y.2+gp K y.1 a0) with
   |true=>
    k_is;exact no B J λI=>by have:=I.gap y hA;rw[e0] at this;have:=of_decide_eq_true c7;lia
   |false=>
    k_is;exact C λa ha=>by cases ha;have:=of_decide_eq_false c7;lia
 ·subst er;k_is;refine q aN B J ⟨λ_ j z hz=>kp j z ?_ hz,λ_=>rfl⟩;rw[Za];exact(Zb.mp hz).1
def pS(V:Vd K){os:List Int}(ho:Ord K os){L:List (Int × Int)}{n:Nat}(B:S[n]?=aw (.lst (L.map ac)))(v:L.map (·.1)=os)(q:∀b c,Sm S c->(b=aN ↔ jZ K L)->Q (.bl b) c):Ok (evC ag (k+3) 68 [skE K,.ref n] S) Q:=by
 refine am (d:=gy) (ρ:=[aw (skE K),aw (.ref n),aD,aD,aD,aD,aD,aD,aD,aD,aD,aD,aD]) rfl rfl ?_;have g7:=V.g7;have ln:=ho.ln;have lL:L.length=os.length:=by rw[<-v,Za]
 have lF:K.F.length<=os.length:=by obtain⟨r,e⟩:=ho.fx;rw[e,Zh];lia
 have I:InG K L:=λz y=>ho.bd z.1 (by rw[<-v];exact Zu.mpr ⟨z,y,rfl⟩);have f:=λ(u:Sto) (U:u[n]?=aw (.lst (L.map ac))) (q1:∀b c,Sm u c->(b=aN ↔ jZ K L)->Q (.bl b) c)=>uc (k:=k) (Q:=Q) V U I (by lia) q1;dsimp only[dw,Yu] at f;dsimp only[gy,dw];have E:(L.map λz=>D.int z.1)=os.map D.int:=by rw[<-v,ZL];rfl
 k_is;refine⟨by rw[aq B];rfl,?_⟩;refine aX L ac (λz=>[.int z.1]) (by lia) (λ_ _=>Ze _) (bH B) (λi z c y sm=>⟨_,show ax (.tup [.name 13,.name 14]) (.tup [.int z.1,.int z.2]) _=_ from bn (by simp) (by simp),?_⟩) λu J=>?_
 ·k_is;exact⟨rfl,Sm.refl _⟩
 ·rw[aU,E];refine⟨_,nF (by lia),?_⟩;rw[Dt ho];refine aa sk2 ?_;refine aa bc ?_;refine⟨K.G.length,rfl,by lia,?_⟩;have X:((Zk K.G.length).map λj=>D.int (Int.ofNat j))=((Zk K.G.length).map λi=>Int.ofNat i).map D.int:=by rw[ZL];rfl
  rw[X];refine aa (qP (xs:=(Zk K.G.length).map λi=>Int.ofNat i) (by rw[Zq (by simp),aC]) aC (by simp)) ?_;k_is;have T:Sm u (u++[Ob.lst (((Zk K.G.length).map λi=>Int.ofNat i).map D.int)]++[Ob.lst (((Zk K.G.length).map λi=>Int.ofNat i).map D.int)]):=(Sm.app _ _).trans (Sm.app _ _);generalize u++[Ob.lst (((Zk K.G.length).map λi=>Int.ofNat i).map D.int)]++[Ob.lst (((Zk K.G.length).map λi=>Int.ofNat i).map D.int)]=S2 at *;have h:=T _ _ (J _ _ B);refine⟨by rw[aq h];rfl,?_⟩;refine aX L ac (λz=>[.int z.1]) (by lia) (λ_ _=>Ze _) (bH h) (λi z c y sm=>⟨_,show ax (.tup [.name 13,.name 14]) (.tup [.int z.1,.int z.2]) _=_ from bn (by simp) (by simp),?_⟩) λC O=>?_
  ·k_is;exact⟨rfl,Sm.refl _⟩
  ·rw[aU,E];refine aa (show cL aS (os.map D.int) C=aw (.tup (os.map D.int),C) from rfl) ?_;k_is;refine aa sk3 ?_;refine aa bc ?_;k_is;refine aa sk3 ?_;obtain⟨r,Z⟩:=ho.fx
   have Y:dY (os.map D.int) aD (aw (K.F.length:Int))=K.F.map D.int:=by
    rw[dZ _ _ (by rw[Za];lia),<-Yp,Z,Xj]
   rw[Y];refine Ds (aa (G8 K.F) ?_);k_is;exact f C (O _ _ h) λb c s' hb=>q b c (((J.trans T).trans O).trans s') hb
end Lw
namespace Lw
open PySem Ev Sn L2
variable {p:Nat} {S S':Sto} {k:Nat} {Q:D->Sto->Prop} {K:Sky} {os:List Int} {L:List (Int × Int)} {n j:Nat} {z:Int × Int}
def Du(neg:Bool){n:Nat}{is:List Int}(h:S[n]?=aw (.lst (is.map D.int)))(i:Int):inS neg (.int i) (.ref n) S=aw (.bl (neg != decide (i ∈ is)),S):=by
 have:=ji neg is i S;unfold inS at this ⊢;have e:ao (.ref n) S=aw (aS,is.map D.int):=by simp only[ao,aq h,ZD]
 rw[e];exact this
def Iy(h:L[j]?=aw z):(L.map ac)[((j:Nat):Int).toNat]?=aw (ac z):=by rw[Zy,Zp,h];rfl
def xR:(L.map λz=>D.int z.1)=(L.map (·.1)).map D.int:=by rw[ZL];rfl
structure Gd(K:Sky)(os:List Int)(L:List (Int × Int)):Prop where
 sk:SkOk K
 ho:Ord K os
 e:L.map (·.1)=os
 kp:jZ K L
def Gd.g(h:Gd K os L):InG K L:=jv h.ho h.e
def Gd.l(h:Gd K os L):L.length=K.G.length:=by rw[<-h.ho.ln,<-h.e,Za]
def Gd.l7(h:Gd K os L):L.length<=7:=by rw[h.l];exact h.sk.g7
def ud:∀ {l:List (Int × Int)} {m:Int},fns l m=m->(∀z ∈ l,z.1 < z.2)->∀z ∈ l,(decide (z.1<=m) && decide (m < z.2))=aS
 |p::l,m,h,hl,z,hz=>by
  rw[fns] at h;split at h
  ·rename_i c;lia
  ·rename_i c;rcases Zn.mp hz with rfl |hz
   ·rw[Bool.and_eq_false_iff,decide_eq_false_iff_not,decide_eq_false_iff_not];lia
   ·exact ud h (λz hz=>hl z (Zi _ hz)) z hz
def Dv:∀ {l:List (Int × Int)} {lo:Int},Ris lo l->∀z ∈ l,z.1 < z.2
 |p::l,lo,h,z,hz=>by
  rw[Ris] at h;rcases Zn.mp hz with rfl |hz
  ·exact h.2.1
  ·exact Dv h.2.2 z hz
def Ha{b:Type}(l:List b)(g:b->Bool)(S:Sto):n6 aS (l.map λt=>D.bl (g t)) S=aw (.bl (l.any g),S):=by
 unfold n6;rw[if_pos ⟨rfl,by rw[YX,Yk];intro x _;rfl⟩,Wa];rfl
def Nd(sk:SkOk K){m:Int}(h:opm K.H m=m)(q:∀S',Sm S S'->Q (.bl aS) S'):Ok (evC ag (k+1) 13 [meE K,.int m] S) Q:=by
 refine am (d:=jO) (ρ:=[aw (meE K),aw (.int m)]) rfl rfl ?_;dsimp only[jO,o8];have h4:=sk.me.h4;have hs:=ud ((qZ sk.me.ris).symm.trans h) (Dv sk.me.ris);k_is;refine aa me3 ?_;k_is;refine aX K.H ac (λz=>[.bl aS]) (by lia) (λ_ _=>Ze _) cw (λi z S' u sm=>⟨_,show ax (.tup [.name 2,.name 3]) (.tup [.int z.1,.int z.2]) _=_ from bn (by simp) (by simp),?_⟩) λb f=>?_
 ·have:=hs z (Zc u);k_is;cases c:decide (z.1<=m) with
  |true=>rw[c,Yy] at this;rw[this];k_is;exact⟨rfl,Sm.refl _⟩
  |false=>k_is;exact⟨rfl,Sm.refl _⟩
 ·rw[aU];have:=Ha K.H (λ_=>aS) b;rw[show K.H.any (λ_=>aS)=aS from X7.mpr λ_ _=>Zg] at this;refine aa this ?_;k_is;exact q b f
def Dx(h:Gd K os L)(I:S[n]?=aw (.lst (L.map ac)))(v:L[j]?=aw z)(q:∀S',Sm S S'->Q .non S'):Ok (evC ag (k+2) 33 [skE K,.ref n,.int j] S) Q:=by
 refine am (d:=cY) (ρ:=[aw (skE K),aw (.ref n),aw (.int j),aD,aD,aD,aD,aD,aD,aD,aD,aD,aD,aD,aD,aD]) rfl rfl ?_;dsimp only[cY,f7];have V:=h.sk.vd;have k:=h.kp j z v;have B:=h.g z (Zc v);have E:InG K (L.take j):=λy Y=>h.g y (Z5 Y);obtain⟨a0,b,c,d,e,f,g,J,O,e1,e2,e3,e6,U,k1,X⟩:=gl7 V B.1 B.2;have lo:=k.lo;have hi:=k.hi;rw[e2] at lo;rw[e3] at hi;rw[show skE K = .tup [meE K,ahE K.ah,.tup (K.G.map az),.tup (K.F.map D.int)] from rfl];k_is;refine aa (dS I (by lia) (Iy v)) ?_;rw[show ac z = .tup [.int z.1,.int z.2] from rfl];k_is;refine aa (b9 B.1 J) ?_;rw[show az [a0,b,c,d,e,f,g] = .tup [.int a0,.int b,.int c,.int d,.int e,.int f,.int g] from rfl];k_is;rw[decide_eq_false (show ¬ z.2 < c by lia)];k_is;rw[decide_eq_false (show ¬ d < z.2 by lia)];k_is;refine⟨rfl,Nd h.sk k.op λu C=>?_⟩;k_is;rw[show D.tup [meE K,ahE K.ah,.tup (K.G.map az),.tup (K.F.map D.int)]=skE K from rfl];refine aa (jp (C _ _ I)) ?_;have s2:Sm u (u++[Ob.lst ((L.map ac).take j)]):=Sm.app _ _;have a2:(u++[Ob.lst ((L.map ac).take j)])[Zd u]?=aw (Ob.lst ((L.take j).map ac)):=by rw[aC,Yp]
 generalize Zd u=N at *;generalize u++[Ob.lst ((L.map ac).take j)]=S2 at *;refine⟨rfl,nB V a2 E ?_⟩;refine⟨rfl,xv V (gG V E) U k1 ?_⟩;k_is
 have Z:¬ z.2 < tG K (ay K (L.take j)) a0:=by
  unfold tG;cases T:ay K (L.take j) with
  |none=>have:=X;dsimp only;lia
  |some a=>have:=k.gap a T;rw[O] at this;dsimp only;lia
 rw[decide_eq_false Z];k_is;exact q S2 (C.trans s2)
def Hb:ak .isnot .non .non S=aw (.bl aS,S):=rfl
def Re:ak .is .non .non S=aw (.bl aN,S):=rfl
def zz(h:Gd K os L)(B:S[n]?=aw (.lst (L.map ac)))(b:L[j]?=aw z)(q:∀S',Sm S S'->Q .non S'):Ok (evC ag (k+3) 32 [skE K,.ref n,.int j] S) Q:=by
 refine am (d:=cF) (ρ:=[aw (skE K),aw (.ref n),aw (.int j),aD,aD,aD,aD,aD]) rfl rfl ?_;dsimp only[cF,fF];have l7:=h.l7;have C:=h.g z (Zc b);have Y:=(Zb.mp b).1;rw[show skE K = .tup [meE K,ahE K.ah,.tup (K.G.map az),.tup (K.F.map D.int)] from rfl];k_is;refine aa (dS B (by lia) (Iy b)) (aa (show ixS (ac z) (.int 0) S=aw (.int z.1,S) from rfl) ?_);k_is;rw[decide_eq_true C.1];k_is;refine aa bc ?_;k_is;rw[decide_eq_true C.2];k_is;refine aa (jp B) ?_;have O:Sm S (S++[Ob.lst ((L.map ac).take j)]):=Sm.app _ _;have E:(S++[Ob.lst ((L.map ac).take j)])[Zd S]?=aw (Ob.lst ((L.take j).map ac)):=by rw[aC,Yp]
 generalize Zd S=N at *;generalize S++[Ob.lst ((L.map ac).take j)]=S1 at *;k_is;refine⟨by rw[aq E];rfl,?_⟩;refine aX (L.take j) ac (λz=>[.int z.1]) (by rw[Yb];lia) (λ_ _=>Ze _) (bH E) (λi y S' hy sm=>⟨_,show ax (.tup [.name 8,.name 9]) (.tup [.int y.1,.int y.2]) _=_ from bn (by simp) (by simp),?_⟩) λc s2=>?_
 ·k_is;exact⟨rfl,Sm.refl _⟩
 ·rw[aU,xR];k_is;have T:Sm c (c++[Ob.lst (((L.take j).map (·.1)).map D.int)]):=Sm.app _ _;refine aa (show ak .isin (.int z.1) (.ref (Zd c)) (c++[Ob.lst (((L.take j).map (·.1)).map D.int)])=aw (.bl (aS != decide (z.1 ∈ (L.take j).map (·.1))),_) from Du aS aC z.1) ?_;have I:=(O.trans s2).trans T;generalize c++[Ob.lst (((L.take j).map (·.1)).map D.int)]=S3 at *
  have v:z.1 ∉ (L.take j).map (·.1):=λZ=>by
   have nd:=h.ho.nd;rw[<-h.e,<-XH j L,ZF] at nd;refine(Yx.mp nd).2.2 z.1 Z z.1 (Zu.mpr ⟨z,?_,rfl⟩) rfl;rw[YO Y,(Zb.mp b).2];exact Zj
  rw[decide_eq_false v];k_is;refine aa bc ?_;k_is;have f:=Dx (k:=k) h (I _ _ B) b λX s4=>q X (I.trans s4);by_cases u:j < K.F.length
  ·rw[decide_eq_true (show(j:Int) < K.F.length by lia)];k_is;refine aa (pE (ds:=K.F.map D.int) (i:=(j:Int)) (d:=.int K.F[j]) (by lia) (by rw[Zy,Zp,gEG u];rfl)) ?_;k_is
   have J:z.1=K.F[j]:=by
    obtain⟨r,U⟩:=h.ho.fx;have:=congrArg (λl=>l[j]?) (h.e.trans U);rw[Zp,b,Zq u,gEG u] at this;exact Option.some.inj this
   rw[decide_eq_true J];k_is;exact⟨rfl,f⟩
  ·rw[decide_eq_false (show ¬ (j:Int) < K.F.length by lia)];k_is;exact⟨rfl,f⟩
def Ng(h:Gd K os L)(B:S[n]?=aw (.lst (L.map ac)))(q:∀S',Sm S S'->Q .non S'):Ok (evC ag (k+1) 36 [skE K,.ref n] S) Q:=by
 refine am (d:=cH) (ρ:=[aw (skE K),aw (.ref n),aD,aD]) rfl rfl ?_;dsimp only[cH,fH];have g7:=h.sk.g7;have l7:=h.l7;k_is;refine⟨by rw[aq B];rfl,?_⟩;refine aX L ac (λz=>[.int z.1]) (by lia) (λ_ _=>Ze _) (bH B) (λi y S' T sm=>⟨_,show ax (.tup [.name 4,.name 5]) (.tup [.int y.1,.int y.2]) _=_ from bn (by simp) (by simp),?_⟩) λb O=>?_
 ·k_is;exact⟨rfl,Sm.refl _⟩
 ·rw[aU,xR];k_is;have C:Sm b (b++[Ob.lst ((L.map (·.1)).map D.int)]):=Sm.app _ _;have I:(b++[Ob.lst ((L.map (·.1)).map D.int)])[Zd b]?=aw (.lst ((L.map (·.1)).map D.int)):=aC;have J:=O.trans C;generalize b++[Ob.lst ((L.map (·.1)).map D.int)]=S3 at *;generalize Zd b=N at *;refine aa sk2 (aa bc ?_);k_is;refine⟨dg (by lia) (by lia),?_⟩;rw[Zy];refine gB (by lia) (λi f S'=>S'=S3/\∃u,f=[aw (skE K),aw (.ref n),aw (.ref N),u]) (λi f S' hi c=>?_) (λf S' v=>?_) ⟨rfl,_,rfl⟩
  ·obtain⟨e,u,E⟩:=c;subst e E;refine⟨_,rfl,?_⟩;k_is;rw[Y2];refine aa (show ak .notin (.int (i:Int)) (.ref N) S'=aw (.bl (aN != decide ((i:Int) ∈ L.map (·.1))),S') from Du aN I (i:Int)) ?_;rw[decide_eq_true (show(i:Int) ∈ L.map (·.1) by rw[h.e];exact h.ho.pm.mem_iff.mpr (Zu.mpr ⟨i,ZO.mpr hi,rfl⟩))];k_is;exact⟨rfl,_,rfl⟩
  ·obtain⟨e,u,E⟩:=v;subst e E;k_is;exact q S' J
def Hc(h:Gd K os L)(hn:S[n]?=aw (.lst (L.map ac)))(q:∀S',Sm S S'->Q .non S'):Ok (evC ag (k+3) 40 [skE K,.ref n] S) Q:=by
 refine am (d:=cJ) (ρ:=[aw (skE K),aw (.ref n),aD]) rfl rfl ?_;dsimp only[cJ,fJ];have V:=h.sk.vd;have l7:=h.l7;k_is;refine⟨rfl,nG V λJ B C _=>?_⟩;k_is;generalize Zd J - 1=N at *;refine⟨by rw[aq C];rfl,?_⟩;have lj:(js K).length<=7:=by rw[vW];exact V.g7
 refine Iq (by rw[Za];lia) (λi c S'=>Sm J S'/\∃u,c=[aw (skE K),aw (.ref n),u]) (λi c S' O=>O.1 _ _ C) (λi d c I hd f=>?_) (λc I v=>?_) ⟨Sm.refl _,_,rfl⟩
 ·obtain⟨b,u,E⟩:=f;subst E;obtain⟨t,T,rfl⟩:=gD hd;refine⟨_,rfl,?_⟩;k_is;refine⟨rfl,CH V (b _ _ (B _ _ hn)) h.g (by lia) λS3 X=>?_⟩;refine aa sk0 (aa me0 ?_);k_is
  have U:¬ K.r < (wts K L t:Int):=by
   have Z:=(rf h.ho h.e).mem_iff.mp (Zc T);obtain⟨y,Y,rfl⟩:=Zu.mp Z;obtain⟨i,hi⟩:=ZZ Y;have:=(h.kp i y hi).wt
   lia
  rw[decide_eq_false U];k_is;exact⟨b.trans X,_,rfl⟩
 ·obtain⟨b,u,E⟩:=v;subst E;k_is;exact q I (B.trans b)
def Hd(h:Gd K os L)(C:S[n]?=aw (.lst (L.map ac)))(q:∀S',Sm S S'->Q .non S'):Ok (evC ag (k+5) 41 [skE K,.ref n] S) Q:=by
 refine am (d:=cp) (ρ:=[aw (skE K),aw (.ref n),aD,aD]) rfl rfl ?_;dsimp only[cp,eG];have l7:=h.l7;have f:=h.g;k_is;refine⟨by rw[aq C];rfl,?_⟩;refine Dq (by rw[Za];lia) (λi c S'=>Sm S S'/\∃u v,c=[aw (skE K),aw (.ref n),u,v]) (λi c S' U=>U.1 _ _ C) (λi d c O hd B=>?_) (λc O I=>?_) ⟨Sm.refl _,_,_,rfl⟩
 ·obtain⟨b,u,v,E⟩:=B;subst E;obtain⟨z,J,rfl⟩:=gD hd;refine⟨_,bn (by simp) (by simp),?_⟩;k_is;refine⟨rfl,xy (k:=k) h.sk.vd (b _ _ C) J f (by lia) λY X=>?_⟩;rw[xu λy T=>CK (f y (Z5 T)).1 (f y (Z5 T)).2,(h.kp i z J).rg];k_is;exact⟨b.trans X,_,_,rfl⟩
 ·obtain⟨b,u,v,E⟩:=I;subst E;k_is;exact q O b
def He(h:Gd K os L)(c:S[n]?=aw (.lst (L.map ac)))(q:∀S',Sm S S'->Q .non S'):Ok (evC ag (k+6) 31 [skE K,.ref n] S) Q:=by
 refine am (d:=dJ) (ρ:=[aw (skE K),aw (.ref n),aD,aD,aD,aD,aD]) rfl rfl ?_;dsimp only[dJ,ic];have l7:=h.l7;k_is;refine aa (ca c) ?_;k_is;rw[Za];refine⟨dg (by lia) (by lia),?_⟩;rw[Zy];refine gB (by lia) (λi B S'=>Sm S S'/\∃u v,B=[aw (skE K),aw (.ref n),u,v,aD,aD,aD]) (λi B T hi y=>?_) (λB T C=>?_) ⟨Sm.refl _,_,_,rfl⟩
 ·obtain⟨b,u,v,E⟩:=y;subst E;refine⟨_,rfl,?_⟩;k_is;rw[Y2];refine⟨rfl,zz (k:=k+2) h (b _ _ c) (gEG hi) λJ f=>?_⟩;k_is;refine aa Hb ?_;k_is;exact⟨b.trans f,_,_,rfl⟩
 ·obtain⟨b,u,v,E⟩:=C;subst E;k_is;refine⟨rfl,Ng (k:=k+4) h (b _ _ c) λJ f=>?_⟩;k_is;refine aa Hb ?_;k_is;refine⟨rfl,Hc (k:=k+2) h (f _ _ (b _ _ c)) λX I=>?_⟩;k_is;refine aa Hb ?_;k_is;refine⟨rfl,Hd (k:=k) h (I _ _ (f _ _ (b _ _ c))) λO U=>?_⟩;k_is;refine aa Hb ?_;k_is;exact q O (((b.trans f).trans I).trans U)
def Nh{z:Int × Int}(q:Q (.bl aN) S):Ok (evC ag (k+2) 30 [ac z] S) Q:=by
 refine am (d:=jR) (ρ:=[aw (ac z)]) rfl rfl ?_;dsimp only[jR,pd];rw[show ac z = .tup [.int z.1,.int z.2] from rfl];k_is;refine⟨rfl,nK (ts:=[.int z.1,.int z.2]) (aI bz (aI bz b8)) (ZB _) (ZB _) ?_⟩;k_is;refine aa (show ixS (.tup [.int z.1,.int z.2]) (.int 0) S=aw (.int z.1,S) from rfl) ?_;refine⟨rfl,nA (p:=0) bz ?_⟩;k_is;refine aa (show ixS (.tup [.int z.1,.int z.2]) (.int 1) S=aw (.int z.2,S) from rfl) ?_;exact⟨rfl,nA (p:=0) bz q⟩
def Hf(h:Gd K os L)(b:S[n]?=aw (.lst (L.map ac)))(q:∀S',Sm S S'->Q (.bl aN) S'):Ok (evC ag (k+3) 29 [.ref n] S) Q:=by
 refine am (d:=gu) (ρ:=[aw (.ref n)]) rfl rfl ?_;dsimp only[gu,kE];have l7:=h.l7;k_is;refine aa (show hV .list (.ref n) S=aw (.bl aN,S) by simp only[hV,tyN,b];rfl) ?_;k_is;refine aa (ca b) ?_;rw[Za];k_is;rw[decide_eq_false (show ¬ (20:Int) < L.length by lia)];k_is;refine⟨by rw[aq b];rfl,?_⟩;refine tQ L ac (by lia) (bH b) (λi x S' c sm=>⟨_,rfl,?_⟩) q;k_is;exact⟨rfl,Nh ⟨rfl,Sm.refl _⟩⟩
def pT(h:Gd K os L)(b:S[n]?=aw (.lst (L.map ac)))(q:∀S',Sm S S'->Q (.bl aN) S'):Ok (evC ag (k+7) 28 [skE K,.ref n] S) Q:=by
 refine am (d:=gr) (ρ:=[aw (skE K),aw (.ref n)]) rfl rfl ?_;dsimp only[gr,kD];k_is;refine⟨rfl,Hf (k:=k+3) h b λv c=>?_⟩;k_is;refine⟨rfl,He h (c _ _ b) λf u=>?_⟩;k_is;refine aa Re ?_;exact q f (c.trans u)
def Hg(h:Gd K os L)(f:S[n]?=aw (.lst (L.map ac)))(q:∀S',Sm S S'->Q (.bl aN) S'):Ok (evC ag (k+9) 22 [skE K,.ref n] S) Q:=by
 refine am (d:=qM) (ρ:=[aw (skE K),aw (.ref n)]) rfl rfl ?_;dsimp only[qM,xh];k_is;refine⟨rfl,gH h.sk λv b=>?_⟩;k_is;exact⟨rfl,pT (k:=k+1) h (b _ _ f) λc u=>q c (b.trans u)⟩
def ue(h:Gd K os L)(f:S[n]?=aw (.lst (L.map ac)))(q:∀S',Sm S S'->Q .non S'):Ok (evC ag (k+9) 27 [skE K,.ref n] S) Q:=by
 refine am (d:=dI) (ρ:=[aw (skE K),aw (.ref n)]) rfl rfl ?_;dsimp only[dI,ib];k_is;refine⟨rfl,gH h.sk λv b=>?_⟩;k_is;refine⟨rfl,pT (k:=k+1) h (b _ _ f) λc u=>?_⟩;k_is;exact q c (b.trans u)
def uf{xs:List Int}:oe aS (xs.map D.int) S=aw (.int xs.sum,S):=by unfold oe;rw[fw]
def j6{c:Int}{xs:List Int}:eB c aS (xs.map D.int) S=aw (.int (fT c xs),S):=by unfold eB;rw[fw]
def Gd.nn(h:Gd K os L):∀y ∈ L,0<=y.2:=λy b=>by
 obtain⟨j,c⟩:=ZZ b;have:=(h.kp j y c).lo;have:=(pQ h.sk (h.g y b).1 (h.g y b).2).1
 lia
def Ni(h:Gd K os L)(b:S[n]?=aw (.lst (L.map ac)))(q:∀S',Sm S S'->Q (.int (W K aN L 0)) S'):Ok (evC ag (k+10) 23 [skE K,.ref n] S) Q:=by
 refine am (d:=jP) (ρ:=[aw (skE K),aw (.ref n)]) rfl rfl ?_;dsimp only[jP,o9];have l7:=h.l7;k_is;refine⟨rfl,ue h b λy u=>?_⟩;have b:=u _ _ b;k_is;refine⟨by rw[aq b];rfl,?_⟩;refine aX L ac (λz=>[.int z.2]) (by lia) (λ_ _=>Ze _) (bH b) (λi z S' B sm=>⟨_,show ax (.tup [.name 2,.name 3]) (.tup [.int z.1,.int z.2]) _=_ from bn (by simp) (by simp),?_⟩) λf v=>?_
 ·k_is;exact⟨rfl,Sm.refl _⟩
 ·rw[aU];have:=j6 (c:=0) (xs:=L.map (·.2)) (S:=f);rw[ZL,C9 (K:=K) L h.nn] at this;refine aa this ?_;k_is;exact q f (u.trans v)
def Nj(h:Gd K os L)(u:S[n]?=aw (.lst (L.map ac)))(q:∀S',Sm S S'->Q (.int (W K aS L 0)) S'):Ok (evC ag (k+10) 24 [skE K,.ref n] S) Q:=by
 refine am (d:=jQ) (ρ:=[aw (skE K),aw (.ref n)]) rfl rfl ?_;dsimp only[jQ,pc];have l7:=h.l7;k_is;refine⟨rfl,ue h u λZ B=>?_⟩;have u:=B _ _ u;k_is;refine⟨rfl,?_⟩;refine am (d:=cE) (ρ:=[aw (skE K),aw (.ref n)]) rfl rfl ?_;dsimp only[cE,fE];k_is;refine⟨by rw[aq u];rfl,?_⟩;refine aX L ac (λz=>[.int (cst K z.1 z.2)]) (by lia) (λ_ _=>Ze _) (bH u) (λi z S' I sm=>⟨_,show ax (.tup [.name 2,.name 3]) (.tup [.int z.1,.int z.2]) _=_ from bn (by simp) (by simp),?_⟩) λC U=>?_
 ·have v:=h.g z (Zc I);obtain⟨a,b,c,d,e,f,g,E,Y,T,O,J,X,_⟩:=gl9 h.sk v.1 v.2;k_is;refine aa sk2 (aa (b9 v.1 E) ⟨rfl,tV T O J X ?_⟩);exact⟨rfl,Sm.refl _⟩
 ·rw[aU];have:=uf (xs:=L.map λy=>cst K y.1 y.2) (S:=C);rw[ZL,Da] at this;refine aa this ?_;k_is;exact q C (B.trans U)
def Qw{A B:Prop}(h:A):wC2 (.int 0) A B:=h
def Qx{A B:Prop}(h:B):wC2 (.int 1) A B:=h
def xS(sk:SkOk K){l:Bool}(q:∀S',Sm S S'->Q (.bl aN) S'):Ok (evC ag (k+11) 72 [skE K,be (aQ K l),fL l] S) Q:=by
 refine am (d:=cu) (ρ:=[aw (skE K),aw (be (aQ K l)),aw (fL l),aD,aD]) rfl rfl ?_;dsimp only[cu,eK];cases hb:aQ K l with
 |none=>
  k_is;refine aa (show ak .is (be aD) .non S=aw (.bl aN,S) from rfl) ?_;k_is;exact q S (Sm.refl _)
 |some z=>
 obtain⟨ho,R,r1,r2⟩:=fA sk hb;obtain⟨I,kp⟩:=ly sk ho r1;have G:Gd K z.2 R:=⟨sk,ho,I,kp⟩;rw[show be (aw z) = .tup [.str "order", .int z.1,.tup (z.2.map D.int)] from rfl];k_is;refine aa (show ak .is (.tup [.str "order", .int z.1,.tup (z.2.map D.int)]) .non S=aw (.bl aS,S) from rfl) ?_;k_is;refine aa (show hV .tuple (.tup [.str "order", .int z.1,.tup (z.2.map D.int)]) S=aw (.bl aN,S) from rfl) ?_;k_is;refine aa (show aj cb (.tup [.str "order", .int z.1,.tup (z.2.map D.int)]) S=aw (.int 3,S) from rfl) ?_;k_is;refine aa (show ixS (.tup [.str "order", .int z.1,.tup (z.2.map D.int)]) (.int 0) S=aw (.str "order", S) from rfl) ?_;k_is;refine aa (show ak .ne (.str "order") (.str "order") S=aw (.bl aS,S) from rfl) ?_;k_is;refine aa (show ixS (.tup [.str "order", .int z.1,.tup (z.2.map D.int)]) (.int 2) S=aw (.tup (z.2.map D.int),S) from rfl) ?_;refine⟨rfl,wk (k:=k+1) sk ho r1 λn S1 T B=>?_⟩;k_is;refine aa (show ak .ne (.str "lands") (.str "lands") S1=aw (.bl aS,S1) from rfl) ?_;k_is;refine⟨rfl,pS (k:=k+7) sk.vd ho B I λb E C hb=>?_⟩;rw[hb.mpr kp];k_is;refine⟨rfl,Hg (k:=k+1) G (C _ _ B) λc J=>?_⟩;refine aa (show ak .isnot (.bl aN) (.bl aN) c=aw (.bl aS,c) from rfl) ?_;k_is;have h:=J _ _ (C _ _ B);have O:=(T.trans C).trans J
 have v:∀ {x:Int} {f:Sto},x=W K l R 0->Sm c f->Ok (ixS (.tup [.str "order", .int z.1,.tup (z.2.map D.int)]) (.int 1) f) λy E=>wCx .eq (.int x) y E λd S1=>Q d S1:=λ{x f} e u=>by
  refine aa (show ixS (.tup [.str "order", .int z.1,.tup (z.2.map D.int)]) (.int 1) f=aw (.int z.1,f) from rfl) ?_;k_is;rw[decide_eq_true (e.trans r2.symm)];exact q f (O.trans u)
 cases l with
 |true=>
  refine aa (show ak .eq (fL aN) (.str "cost") c=aw (.bl aS,c) from rfl) (aa (show uZ (.bl aS) c=aw (.int 0,c) from rfl) (Qw ⟨rfl,?_⟩));exact Ni (k:=k) G h λf u=>v rfl u
 |false=>
  refine aa (show ak .eq (fL aS) (.str "cost") c=aw (.bl aN,c) from rfl) (aa (show uZ (.bl aN) c=aw (.int 1,c) from rfl) (Qx ⟨rfl,?_⟩));exact Nj (k:=k) G h λf u=>v rfl u
def Hh(h:Gd K os L)(B:S[n]?=aw (.lst (L.map ac)))(q:∀S',Sm S S'->Q (.int (W K aS L 0)) S'):Ok (evC ag (k+1) 73 [skE K,.ref n] S) Q:=by
 refine am (d:=iO) (ρ:=[aw (skE K),aw (.ref n)]) rfl rfl ?_;dsimp only[iO,ni];have l7:=h.l7;k_is;refine⟨by rw[aq B];rfl,?_⟩;refine aX L ac (λz=>[.int (cst K z.1 z.2)]) (by lia) (λ_ _=>Ze _) (bH B) (λi z S' u sm=>⟨_,show ax (.tup [.name 2,.name 3]) (.tup [.int z.1,.int z.2]) _=_ from bn (by simp) (by simp),?_⟩) λv J=>?_
 ·have u:=h.g z (Zc u);obtain⟨a,b,c,d,e,f,g,E,O,I,C,U,Y,X,T⟩:=gl9 h.sk u.1 u.2;k_is;refine aa sk2 (aa (b9 u.1 E) (aa (show ixS (az [a,b,c,d,e,f,g]) (.int 5) S'=aw (.int f,S') from rfl) ?_));refine aa sk2 (aa (b9 u.1 E) (aa (show ixS (az [a,b,c,d,e,f,g]) (.int 4) S'=aw (.int e,S') from rfl) ?_));k_is;refine⟨jj (by lia) (by lia),?_⟩;unfold cst;rw[I,C];exact⟨rfl,Sm.refl _⟩
 ·rw[aU];have:=uf (xs:=L.map λy=>cst K y.1 y.2) (S:=v);rw[ZL,Da] at this;refine aa this ?_;k_is;exact q v J
abbrev Qy:List CS:=match bC with
 |[_,_,_,_,.for_ _ _ b,_]=>b
 |_=>[]
def Dy(sk:SkOk K)(ho:Ord K os){C I O E:Option D}(T:S[n]?=aw (.lst (L.map ac)))(u:L.map (·.1)=os){Q:Fl->Rho->Sto->Prop}(q:∀S',Sm S S'->Q .nx [aw (.ref p),aw (skE K),aw (be (aQ K aN)),aw (be (aQ K aS)),C,I,O,E,aw (.ref n)] S') :
  OkS (g6 (evC ag (k+11)) (fZ ag) 54 Qy [aw (.ref p),aw (skE K),aw (be (aQ K aN)),aw (be (aQ K aS)),C,I,O,E,aw (.ref n)] S) Q:=by
 dsimp only[Qy,bC];k_is;refine⟨rfl,pS (k:=k+8) sk.vd ho T u λb d v hb=>?_⟩;cases b with
 |false=>k_is;exact q d v
 |true=>
 have G:Gd K os L:=⟨sk,ho,u,hb.mp rfl⟩;have l7:=G.l7;have h:=v _ _ T;obtain⟨y,Y,y2⟩:=cO (l:=true) sk ho u (hb.mp rfl);obtain⟨w,X,w2⟩:=cO (l:=false) sk ho u (hb.mp rfl);rw[Y,X] at q ⊢;rw[show be (aw y) = .tup [.str "order", .int y.1,.tup (y.2.map D.int)] from rfl,show be (aw w) = .tup [.str "order", .int w.1,.tup (w.2.map D.int)] from rfl] at q ⊢;k_is;refine aa (show ak .is (.tup [.str "order", .int y.1,.tup (y.2.map D.int)]) .non d=aw (.bl aS,d) from rfl) ?_;k_is;refine aa (show ak .is (.tup [.str "order", .int w.1,.tup (w.2.map D.int)]) .non d=aw (.bl aS,d) from rfl) ?_;k_is;refine aa (show ixS (.tup [.str "order", .int w.1,.tup (w.2.map D.int)]) (.int 1) d=aw (.int w.1,d) from rfl) ?_;k_is;refine⟨rfl,Hh (k:=k+10) G h λB J=>?_⟩;k_is;rw[decide_eq_false (show ¬ W K aS L 0 < w.1 by lia)];k_is;refine aa (show ixS (.tup [.str "order", .int y.1,.tup (y.2.map D.int)]) (.int 1) B=aw (.int y.1,B) from rfl) ?_;k_is;have f:=J _ _ h;refine⟨by rw[aq f];rfl,?_⟩;refine aX L ac (λz=>[.int z.2]) (by lia) (λ_ _=>Ze _) (bH f) (λi z S' hz sm=>⟨_,show ax (.tup [.name 9,.name 10]) (.tup [.int z.1,.int z.2]) _=_ from bn (by simp) (by simp),?_⟩) λU Z=>?_
 ·k_is;exact⟨rfl,Sm.refl _⟩
 ·rw[aU];have:=j6 (c:=0) (xs:=L.map (·.2)) (S:=U);rw[ZL,C9 (K:=K) L G.nn] at this;refine aa this ?_;k_is;rw[decide_eq_false (show ¬ W K aN L 0 < y.1 by lia)];k_is;exact q U ((v.trans J).trans Z)
def zA(h:Pot p S)(sk:SkOk K)(q:∀S',Dr p S S'->Q (.bl aN) S'):Ok (evC ag (k+12) 74 [.ref p,skE K,be (aQ K aN),be (aQ K aS)] S) Q:=by
 refine am (d:=b7) (ρ:=[aw (.ref p),aw (skE K),aw (be (aQ K aN)),aw (be (aQ K aS)),aD,aD,aD,aD,aD]) rfl rfl ?_;dsimp only[b7,bC];have V:=sk.vd;have g7:=sk.g7;have lt0:=h.lt;k_is;refine⟨rfl,zt (k:=k+8) h sk λos S1 Y ho=>?_⟩;k_is;have ln:=ho.ln;have lt1:=Y.pot.lt;refine⟨rfl,tN (k:=k+8) V ho.bd (by lia) λd B s2 I=>?_⟩;unfold Res at I;cases hr:rn K os K.ah [] with
 |inl j=>
  rw[hr] at I;subst I;k_is;refine aa (show ak .eq (.str "stuck") (.str "stuck") B=aw (.bl aN,B) from rfl) ?_;k_is;exact q B (Y.thenSm s2)
 |inr R=>
  rw[hr] at I;obtain⟨n,rfl,hn,hb⟩:=I;obtain⟨eR,kR⟩:=ly sk ho hr;have lR:R.length=os.length:=by rw[<-eR,Za]
  k_is;refine aa (show ak .eq (.str "lands") (.str "stuck") B=aw (.bl aS,B) from rfl) ?_;k_is;have d2:=Y.thenSm s2;have np:n ≠ p:=by lia
  refine⟨by rw[aq hn];rfl,?_⟩;have lm:(R.map ac).length=R.length:=Za _;refine gC R.length (λi=>((R.map ac)[i]?).getD .non) (λi f S'=>Dr p B S'/\∃L:List (Int × Int),f=L.map ac/\L.map (·.1)=(R.take i).map (·.1)) (λi f S' hi ⟨d,_⟩=>by rw[<-lm];exact qR (d.kp _ _ np hn) _ xz) (by lia) (λi f b hi c=>?_) (λes b v=>?_) ⟨Dr.refl d2.pot,[],rfl,rfl⟩
  ·obtain⟨C,L,X,E⟩:=c;have hz:R[i]?=aw R[i]:=gEG hi;have ez:((R.map ac)[i]?).getD .non = .tup [.int R[i].1,.int R[i].2]:=by rw[Zp,hz];rfl
   rw[ez];refine⟨_,bn (by simp) (by simp),?_⟩;k_is;refine⟨rfl,aE C.pot (by decide) (by decide) λx T x1 x2 J=>?_⟩;refine⟨rfl,aE J.pot (by decide) (by decide) λy S6 y1 y2 d6=>?_⟩;k_is;refine⟨jj (by lia) (by lia),(C.trans J).trans d6,L++[(R[i].1,R[i].2+x * y)],by rw[X,ZF];rfl,?_⟩;rw[ZF,E,pR hz,ZF];rfl
  ·obtain⟨C,L,X,E⟩:=v;subst X;rw[YM] at E;have lL:L.length=R.length:=by have:=congrArg Zd E;rw[Za,Za] at this;exact this
   refine⟨by rw[Za];lia,?_⟩;k_is;have s5:Sm b (b++[Ob.lst (L.map ac)]):=Sm.app _ _;have a5:(b++[Ob.lst (L.map ac)])[Zd b]?=aw (.lst (L.map ac)):=aC;have Z:=s5 _ _ (C.kp _ _ np hn);generalize b++[Ob.lst (L.map ac)]=T at *;generalize Zd b=N at *;have J:=(d2.trans C).thenSm s5
   have hd:∀d ∈ [D.ref n,D.ref N],∃m,∃L:List (Int × Int),d = .ref m/\T[m]?=aw (.lst (L.map ac))/\L.map (·.1)=os:=λd hd=>by
    rcases Zn.mp hd with e |hd
    ·exact⟨n,R,e,Z,eR⟩
    ·rcases Zn.mp hd with e |hd
     ·exact⟨N,L,e,a5,E.trans eR⟩
     ·cases hd
   refine CF (by show 2<=100000;decide) (λi ρ S'=>Sm T S'/\∃u,ρ=[aw (.ref p),aw (skE K),aw (be (aQ K aN)),aw (be (aQ K aS)),aw (.tup (os.map D.int)),aw (.str "lands"),aw (.ref n),aw (.ref N),u]) (λi d ρ S' U c=>?_) (λρ S' v=>?_) ⟨Sm.refl _,_,rfl⟩
   ·obtain⟨O,u,er⟩:=c;subst er;obtain⟨m,M,rfl,hm,hM⟩:=hd d (Zc U);exact⟨_,rfl,Dy sk ho (O _ _ hm) hM λS6 s6=>⟨O.trans s6,_,rfl⟩⟩
   ·obtain⟨O,u,er⟩:=v;subst er;k_is;exact q S' (J.thenSm O)
end Lw
namespace Lw
open PySem Ev Sn L2
variable {p:Nat} {S S':Sto} {k:Nat} {Q:D->Sto->Prop} {K:Sky} {n j:Nat}
def Up.nil:Up [] []:=⟨rfl,λi g h=>by cases h⟩
def Up.snoc{G c:List (List Int)}{g:List Int}{d:Int}(h:Up G c)(v:0<=d)(u:d<=19):Up (G++[g]) (c++[g.set 3 (g.getD 3 0+d)]):=by
 refine⟨by rw[Zh,Zh,h.1];rfl,λi x b=>?_⟩;by_cases hi:i < G.length
 ·rw[Zq hi] at b;obtain⟨e,y,q,E⟩:=h.2 i x b;exact⟨e,y,q,by rw[Zq (by rw[h.1];exact hi)];exact E⟩
 ·have f:=(Zb.mp b).1;rw[Zh,Zr] at f;obtain rfl:i=G.length:=by lia
  rw[Zm (Ze _),Z7] at b;cases b;exact⟨d,v,u,by rw[Zm (by rw[h.1];lia),h.1,Z7];rfl⟩
abbrev rgd(K:Sky)(i:Nat):List Int:=((Zk i).filter λ(j:Nat)=>!decide (gi K.G (K.F.getD j 0) 6=0)).map λ(j:Nat)=>(j:Int)
def zB(h:Pot p S)(sk:SkOk K)(gb:∀g ∈ K.G,GB K.M.length K.r K.s g)(q:∀K' S',Dr p S S'->SkOk K'->Btr K K'->Q (skE K') S'):Ok (evC ag (k+3) 71 [.ref p,skE K] S) Q:=by
 refine am (d:=fq) (ρ:=[aw (.ref p),aw (skE K),aD,aD,aD,aD,aD,aD,aD,aD,aD]) rfl rfl ?_;dsimp only[fq,fc];have g7:=sk.g7;have r0:=sk.me.r0;have r8:=sk.me.r8;rw[show skE K = .tup [.tup [.int K.r,.int K.s,.tup (K.M.map az),.tup (K.H.map ac)],ahE K.ah,.tup (K.G.map az),.tup (K.F.map D.int)] from rfl];k_is;refine⟨rfl,aE h (by decide) (by decide) λw X w0 w1 B=>?_⟩;k_is;cases c0:decide (w=0) with
 |true=>
  k_is;refine gC K.G.length (λi=>((K.G.map az)[i]?).getD .non) (λi v S'=>Dr p X S'/\∃O:List (List Int),v=O.map az/\Up (K.G.take i) O) (λi v S' hi _=>?_) (by lia) (λi v u hi C=>?_) (λes u J=>?_) ⟨Dr.refl B.pot,[],rfl,Up.nil⟩
  ·show aw ((K.G.map az)[i]?)=_;by_cases c:i < K.G.length
   ·rw[if_pos c,gEG (by rw[Za];exact c)];rfl
   ·rw[if_neg c,Zs (by rw[Za];lia)]
  ·obtain⟨d2,O,E,L⟩:=C;have hg:K.G[i]?=aw K.G[i]:=gEG hi;obtain⟨kd,jo,fi,la,du,we,ri,Z,_⟩:=gb K.G[i] (ZJ hi);have ez:((K.G.map az)[i]?).getD .non = .tup [.int kd,.int jo,.int fi,.int la,.int du,.int we,.int ri]:=by rw[Zp,hg,Z];rfl
   rw[ez];refine⟨_,rfl,?_⟩;k_is;refine aa (show ixS (.tup [.int kd,.int jo,.int fi,.int la,.int du,.int we,.int ri]) (.int 3) u=aw (.int la,u) from rfl) ⟨rfl,aE d2.pot (by decide) (by decide) λx Y x0 x1 d3=>?_⟩;k_is;refine⟨show 3+1<=1000 by decide,show 4+3<=1000 by decide,d2.trans d3,O++[K.G[i].set 3 (K.G[i].getD 3 0+x)],?_,?_⟩
   ·rw[E,ZF,Z];rfl
   ·rw[ZX hi];exact Up.snoc L x0 (by lia)
  ·obtain⟨d2,O,E,L⟩:=J;rw[YM] at L;subst E;refine⟨by rw[Za,L.1];lia,aa (show cL aS _ u=aw (.tup _,u) from rfl) ?_⟩;exact q { K with G:=O } u (B.trans d2) (Ix sk gb L) (Nc sk gb L)
 |false=>
 k_is;cases c1:decide (w=1) with
 |true=>
  k_is;refine aa (show ixS (.tup [.int K.r,.int K.s,.tup (K.M.map az),.tup (K.H.map ac)]) (.int 0) X=aw (.int K.r,X) from rfl) ?_;k_is;exact⟨show 1+3<=1000 by decide,q { K with r:=if K.r+1 < 8 then K.r+1 else 8 } X B (xO sk (by split <;> lia) (by split <;> lia)) (Dg sk (by split <;> lia) (by split <;> lia))⟩
 |false=>
 k_is;cases c2:decide (w=2) with
 |true=>
  k_is;exact⟨show 3+1<=1000 by decide,q { K with H:=[] } X B (xP sk) (Dh sk)⟩
 |false=>
 k_is;refine aa bc ?_;k_is;refine⟨dg (by lia) (by lia),?_⟩;rw[Zy];refine aX (Zk K.G.length) (λ(j:Nat)=>D.int (0+(j:Int))) (λ(j:Nat)=>if (!decide ((j:Int) ∈ K.F))=aN then [D.int (j:Int)] else []) (by rw[ZG];lia) (λa _=>by split <;> simp) wc (λi j S' U sm=>⟨_,rfl,?_⟩) λu s2=>?_
 ·k_is;rw[Y2];refine aa (show ak .notin (.int (j:Int)) (.tup (K.F.map D.int)) S'=aw (.bl (aN != decide ((j:Int) ∈ K.F)),S') from ji aN K.F j S') ?_;rw[show(aN != decide ((j:Int) ∈ K.F)) = !decide ((j:Int) ∈ K.F) by cases decide ((j:Int) ∈ K.F) <;> rfl];k_is;cases c:!decide ((j:Int) ∈ K.F) with
  |true=>exact⟨rfl,Sm.refl _⟩
  |false=>exact⟨rfl,Sm.refl _⟩
 rw[bv,show((Zk K.G.length).filter λ(j:Nat)=>!decide ((j:Int) ∈ K.F)).map (λ(j:Nat)=>D.int (j:Int))=(a7 K).map D.int by unfold a7;rw[ZL];rfl];k_is
 have T:∀Y,Dr p S Y->rW (wSs (evC ag (k+2)) (fZ ag) 53 (fc.drop 7)) [aw (.ref p),aw (.tup [.tup [.int K.r,.int K.s,.tup (K.M.map az),.tup (K.H.map ac)],ahE K.ah,.tup (K.G.map az),.tup (K.F.map D.int)]),aw (.tup [.int K.r,.int K.s,.tup (K.M.map az),.tup (K.H.map ac)]),aw (ahE K.ah),aw (.tup (K.G.map az)),aw (.tup (K.F.map D.int)),aw (.int w),aw (.ref (Zd u)),aD,aD,aD] Y (out Q):=λY d3=>by
  dsimp only[fc,Yu];have lF:=Dw.bT K.G.length K.F sk.nd sk.bd;k_is;refine gC K.F.length (λi=>D.tup [.int (i:Int),.int (K.F.getD i 0)]) (λi v S'=>Sm Y S'/\v=(rgd K i).map D.int) (λi v S' hi _=>?_) (by lia) (λi v S' hi C=>⟨_,bn (by simp) (by simp),?_⟩) (λes I J=>?_) ⟨Sm.refl _,rfl⟩
  ·show enm (K.F.map D.int) i=_;unfold enm;rw[if_pos (by rw[Za];exact hi),Zp,ZE];by_cases c:i < K.F.length
   ·rw[if_pos c,gEG c];rfl
   ·rw[if_neg c,Zs (by lia)];rfl
  ·obtain⟨s',E⟩:=C;have ej:K.F.getD i 0=K.F[i]:=by rw[ZE,gEG hi];rfl
   have er:rgd K (i+1)=rgd K i++if gi K.G K.F[i] 6=0 then [] else [(i:Int)]:=by
    unfold rgd;rw[Xe,Xm,ZF]
    congr 1
    rw[Yc,List.filter_nil,ej];by_cases c:gi K.G K.F[i] 6=0
    ·rw[if_pos c,decide_eq_true c];rfl
    ·rw[if_neg c,decide_eq_false c];rfl
   rw[ej,E];have bd:=sk.bd _ (ZJ hi);obtain⟨a,b,c,d,e,f,g,Z,e0,ex1,ex2,ex3,e6,_⟩:=gl7 sk.vd bd.1 bd.2;rw[e6] at er;rw[er];k_is;refine aa (b9 bd.1 Z) (aa (show ixS (az [a,b,c,d,e,f,g]) (.int 6) S'=aw (.int g,S') from rfl) ?_);k_is;cases cg:decide (g=0) with
   |true=>rw[if_pos (of_decide_eq_true cg)];exact⟨s',by rw[ZN,ZN]⟩
   |false=>rw[if_neg (of_decide_eq_false cg)];exact⟨s',by rw[ZF];rfl⟩
  obtain⟨s4,E⟩:=J;subst E
  have rb:∀x ∈ rgd K K.F.length,0<=x/\x < K.F.length:=λx z=>by
   obtain⟨j,U,rfl⟩:=Zu.mp z;have:=ZO.mp (ZQ.mp U).1
   lia
  have rl:(rgd K K.F.length).length<=7:=by
   unfold rgd;rw[Za];exact Z0 (Yj _ _) (by rw[ZG];lia)
  refine⟨by rw[Za];lia,?_⟩;k_is;have sb:=Sm.app I [Ob.lst ((rgd K K.F.length).map D.int)];have ab:(I++[Ob.lst ((rgd K K.F.length).map D.int)])[Zd I]?=aw (.lst ((rgd K K.F.length).map D.int)):=aC
  refine aa (show aj (eB (-1)) (.ref (Zd I)) (I++[Ob.lst ((rgd K K.F.length).map D.int)])=aw (.int (fT (-1) (rgd K K.F.length)),I++[Ob.lst ((rgd K K.F.length).map D.int)]) by
   simp only[aj,ao,aq ab,ZD];exact j6) ?_
  have tb:-1<=fT (-1) (rgd K K.F.length)/\fT (-1) (rgd K K.F.length) < K.F.length/\∀x ∈ rgd K K.F.length,x<=fT (-1) (rgd K K.F.length):=by
   by_cases e:rgd K K.F.length=[]
   ·rw[e];exact⟨ZB _,show(-1:Int) < _ by lia,λx z=>by cases z⟩
   ·rw[eM e];have:=rb _ (k9 e);exact⟨by lia,this.2,λx z=>vU z⟩
  obtain⟨m,em⟩:∃m:Nat,1+fT (-1) (rgd K K.F.length)=(m:Int):=⟨(1+fT (-1) (rgd K K.F.length)).toNat,by lia⟩;k_is;rw[em,dZ _ _ (by rw[Za];lia),<-Yp]
  have hf:∀ (j:Nat) x,K.F[j]?=aw x->gi K.G x 6 ≠ 0->j < m:=λj x U z=>by
   have hl:=(Zb.mp U).1;have:=tb.2.2 (j:Int) (Zu.mpr ⟨j,ZQ.mpr ⟨ZO.mpr hl,by rw[ZE,U];exact(by rw[Bool.not_eq_true',decide_eq_false_iff_not];exact z)⟩,rfl⟩)
   lia
  exact q { K with F:=K.F.take m } _ ((d3.thenSm s4).thenSm sb) (Di sk hf) (G5 sk hf)
 have s3:Sm u (u++[Ob.lst ((a7 K).map D.int)]):=Sm.app _ _;cases c3:decide (w=3) with
 |false=>exact T _ ((B.thenSm s2).thenSm s3)
 |true=>
 refine aa Fp ?_;have s4:=s3.trans (Sm.app (u++[Ob.lst ((a7 K).map D.int)]) [Ob.lst []]);have a4:(u++[Ob.lst ((a7 K).map D.int)]++[Ob.lst []])[Zd u]?=aw (.lst ((a7 K).map D.int)):=Sm.app _ _ _ _ aC;generalize u++[Ob.lst ((a7 K).map D.int)]++[Ob.lst []]=I at *;have d4:=(B.thenSm s2).thenSm s4;have np:Zd u ≠ p:=by have:=(B.thenSm s2).pot.lt;lia
 generalize Zd u=N at *;k_is;cases c4:((a7 K).map D.int).isEmpty with
 |true=>exact T _ d4
 |false=>
 k_is;have hl:=nT sk
 have f0:0 < (a7 K).length:=by
  rw[List.isEmpty_eq_false_iff_exists_mem] at c4;obtain⟨x,z⟩:=c4;have:=Xv z
  rwa [Za] at this
 refine aa (ca a4) ?_;rw[Za];refine⟨rfl,aE d4.pot (by lia) (by lia) λx S5 x0 x1 d5=>?_⟩;have a5:=d5.kp _ _ np a4;have z:x.toNat < (a7 K).length:=by lia
 refine aa (dS a5 x0 (d:=.int (a7 K)[x.toNat]) (by rw[Zp,gEG z];rfl)) ?_;obtain⟨g0,g1,gF⟩:=(lx (K:=K) (a7 K)[x.toNat]).mp (ZJ z);obtain⟨n,en⟩:∃n:Nat,(a7 K)[x.toNat]=(n:Int):=⟨(a7 K)[x.toNat].toNat,by lia⟩;rw[en] at g0 g1 gF ⊢;k_is;have lF:=Dw.bT K.G.length K.F sk.nd sk.bd;refine aX K.F D.int (λx=>[.int (ren n x)]) (by lia) (λ_ _=>Ze _) cw (λi y S' hy sm=>⟨_,rfl,?_⟩) λS6 s6=>?_
 ·k_is;refine aa (show uZ (.bl (decide ((n:Int) < y))) S'=aw (.int (if decide ((n:Int) < y)=aN then 1 else 0),S') from rfl) ?_;k_is;refine⟨?_,Sm.refl _⟩;unfold ren;simp only[decide_eq_true_eq]
 ·rw[aU];refine aa (show cL aS _ S6=aw (.tup _,S6) from rfl) ?_;k_is;have hn:n < K.G.length:=by lia
  have e1:dY (K.G.map az) aD (aw (n:Int))=(K.G.take n).map az:=by rw[dZ _ _ (by rw[Za];lia),Yp]
  have e2:dY (K.G.map az) (aw ((n:Int)+1)) aD=(K.G.drop (n+1)).map az:=by rw[tM (by lia),show((n:Int)+1).toNat=n+1 by lia,List.map_drop]
  rw[e1,e2,<-ZF,<-List.eraseIdx_eq_take_drop_succ];refine⟨by rw[Za,Za,Yb,Y6];lia,?_⟩;have:=q (ua K n) S6 ((d4.trans d5).thenSm s6) (xQ sk hn gF) (Dn sk hn gF);rw[show skE (ua K n) = .tup [.tup [.int K.r,.int K.s,.tup (K.M.map az),.tup (K.H.map ac)],ahE K.ah,.tup ((K.G.eraseIdx n).map az),.tup ((K.F.map (ren n)).map D.int)] from rfl,ZL] at this;exact this
end Lw
namespace Lw
open PySem Ev Sn L2
variable {p:Nat} {S S':Sto} {k:Nat} {Q:D->Sto->Prop} {K:Sky}
def j7(sk:SkOk K){l:Bool}{z:Int × List Int}(h:aQ K l=aw z)(L:Bool):∃y,aQ K L=aw y:=by
 obtain⟨ho,R,r1,_⟩:=fA sk h;obtain⟨y,b,_⟩:=xL (l:=L) sk ho r1;exact⟨y,b⟩
def Iz(o:Option (Int × List Int)):ak .is (be o) .non S=aw (.bl o.isNone,S):=by cases o <;> rfl
def Nk(o:Option (Int × List Int)):ak .isnot (be o) .non S=aw (.bl o.isSome,S):=by cases o <;> rfl
def main(ns:List Int)(hl:ns.length<=63):∃S',evC ag 40 75 [.ref 0] [.frz (ns.map D.int)]=aw (.bl aN,S'):=by
 have key:Ok (evC ag 40 75 [.ref 0] [.frz (ns.map D.int)]) λd _=>d = .bl aN:=by
  refine am (d:=xi) (ρ:=[aw (.ref 0),aD,aD,aD,aD,aD,aD,aD,aD]) rfl rfl ?_;dsimp only[xi,HZ];k_is;have ln:aj cb (.ref 0) [Ob.frz (ns.map D.int)]=aw (.int ns.length,[Ob.frz (ns.map D.int)]):=by simp only[aj,ao,au,List.getElem?_cons_zero,ZD,cb,Za]
  refine aa ln ?_;k_is
  obtain⟨n,en,hn⟩:∃n:Nat,(if (if (6:Int) < ns.length then (6:Int) else ns.length) > 1 then (if (6:Int) < ns.length then (6:Int) else ns.length) else 1)=(n:Int)/\n<=6:=by
   refine⟨(if (if (6:Int) < ns.length then (6:Int) else ns.length) > 1 then (if (6:Int) < ns.length then (6:Int) else ns.length) else 1).toNat,?_,?_⟩
   ·split <;> split <;> omega
   ·split <;> split <;> omega
  rw[en];refine⟨dg (by lia) (by lia),?_⟩;rw[Zy];refine gB (by lia) (λi j S'=>S'[0]?=aw (.frz (ns.map D.int))/\∃a b c d e f g h,j=[aw (.ref 0),a,b,c,d,e,f,g,h]) (λi j B hi I=>?_) (λj B I=>?_) ⟨rfl,_,_,_,_,_,_,_,_,rfl⟩
  ·obtain⟨E,a,b,c,d,e,f,g,h,rfl⟩:=I;refine⟨_,rfl,?_⟩;rw[Y2];k_is;refine⟨rfl,GG (k:=38) E λx=>?_⟩;refine⟨rfl,MY (k:=38) λm=>?_⟩;have O:B.length ≠ 0:=λz=>by rw[ZT.mp z] at E;cases E
   have h2:=Sm.app B [Ob.lst [D.int m]] _ _ E;have pt:Pot B.length (B++[Ob.lst [D.int m]]):=⟨m,aC⟩;generalize B++[Ob.lst [D.int m]]=S2 at *;generalize B.length=p at *;k_is;refine⟨rfl,GZ (k:=35) pt λK S3 d3 sk gb=>?_⟩;have h3:=d3.kp _ _ (Ne.symm O) h2;k_is;refine⟨rfl,ju (k:=18) sk aN λS4 s4=>?_⟩;refine⟨rfl,ju (k:=18) sk aS λS5 s5=>?_⟩;k_is;refine⟨rfl,xS (k:=28) (l:=true) sk λS6 s6=>?_⟩;k_is;refine⟨rfl,xS (k:=28) (l:=false) sk λS7 s7=>?_⟩;k_is;refine aa (Iz _) (aa (Iz _) ?_)
   have e0:(aQ K aN).isNone=(aQ K aS).isNone:=by
    cases q:aQ K aN with
    |some z=>obtain⟨y,X⟩:=j7 sk q aS;rw[X];rfl
    |none=>
     cases L:aQ K aS with
     |none=>rfl
     |some z=>obtain⟨y,X⟩:=j7 sk L aN;rw[X] at q;cases q
   rw[e0];refine aa (show ak .ne (.bl (aQ K aS).isNone) (.bl (aQ K aS).isNone) S7=aw (.bl aS,S7) by cases (aQ K aS).isNone <;> rfl) ?_;have d7:Dr p S2 S7:=d3.thenSm ((s4.trans s5).trans (s6.trans s7));have h7:=d7.kp _ _ (Ne.symm O) h2;k_is;refine⟨by decide,?_⟩;refine gB (by decide) (λ_ j S'=>S'[0]?=aw (.frz (ns.map D.int))/\Pot p S'/\∃u,j=[aw (.ref 0),aw (.int (i:Int)),aw (.ref p),aw (skE K),aw (be (aQ K aN)),aw (be (aQ K aS)),u,g,h]) (λt j S8 q I=>?_) (λj S8 I=>?_) ⟨h7,d7.pot,_,rfl⟩
   ·obtain⟨U,T,u,rfl⟩:=I;refine⟨_,rfl,?_⟩;k_is;refine⟨rfl,zA (k:=27) T sk λS9 d9=>?_⟩;k_is;exact⟨d9.kp _ _ (Ne.symm O) U,d9.pot,_,rfl⟩
   ·obtain⟨U,T,u,rfl⟩:=I;k_is;refine⟨by decide,?_⟩;refine gB (by decide) (λ_ j S'=>S'[0]?=aw (.frz (ns.map D.int))/\Pot p S'/\∃u v w,j=[aw (.ref 0),aw (.int (i:Int)),aw (.ref p),aw (skE K),aw (be (aQ K aN)),aw (be (aQ K aS)),u,v,w]) (λt j S9 q I=>?_) (λj S9 I=>?_) ⟨U,T,_,_,_,rfl⟩
    ·obtain⟨h9,p9,u,v,w,rfl⟩:=I;refine⟨_,rfl,?_⟩;k_is;refine⟨rfl,zB (k:=36) p9 sk gb λK' Sa da J bt=>?_⟩;have ha:=da.kp _ _ (Ne.symm O) h9;k_is;refine aa (Nk _) ?_;cases q:aQ K aN with
     |none=>k_is;exact⟨ha,da.pot,_,_,_,rfl⟩
     |some z=>
     obtain⟨y,L⟩:=j7 sk q aS;obtain⟨Z,z1,z2⟩:=bt aN z q;obtain⟨Y,y1,y2⟩:=bt aS y L;rw[show(aw z).isSome=aN from rfl,L];k_is;refine⟨rfl,ju (k:=18) J aN λSb sb=>?_⟩;refine⟨rfl,ju (k:=18) J aS λC sc=>?_⟩;rw[z1,y1];have ix:∀ (o:Int × List Int) (S:Sto),ixS (be (aw o)) (.int 1) S=aw (.int o.1,S):=λ_ _=>rfl;k_is;refine aa (show ak .isin .non (.tup [be (aw Z),be (aw Y)]) C=aw (.bl aS,C) from rfl) ?_;k_is;refine aa (show ixS (.tup [be (aw Z),be (aw Y)]) (.int 0) C=aw (be (aw Z),C) from rfl) (aa (ix _ _) (aa (ix _ _) ?_));k_is;rw[decide_eq_false (show ¬ z.1 < Z.1 by lia)];k_is;refine aa (show ixS (.tup [be (aw Z),be (aw Y)]) (.int 1) C=aw (be (aw Y),C) from rfl) (aa (ix _ _) (aa (ix _ _) ?_));k_is;rw[decide_eq_false (show ¬ y.1 < Y.1 by lia)];k_is;exact⟨sc _ _ (sb _ _ ha),(da.thenSm (sb.trans sc)).pot,_,_,_,rfl⟩
    ·obtain⟨h9,p9,u,v,w,rfl⟩:=I;k_is;exact⟨h9,_,_,_,_,_,_,_,_,rfl⟩
  ·obtain⟨E,a,b,c,d,e,f,g,h,rfl⟩:=I;k_is
 obtain⟨d,S',e,rfl⟩:=key;exact⟨S',e⟩
end Lw
theorem PySem.Challenge.cw_downrings_k38_whole_no_landings_do_bette_holds : PySem.Challenge.rw_downrings_k38_whole_no_landings_do_bette.Holds :=
 Lw.head Lw.main
