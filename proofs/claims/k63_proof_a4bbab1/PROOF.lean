import PyProof.Rows.All
import KE.KIsAll
import KE.KSortTup
import PySem.Challenge.RW_downrings_k63_whole_no_holding_is_lower
set_option Elab.async false
set_option linter.all false
set_option maxRecDepth 100000
set_option maxHeartbeats 4000000
local macro_rules|`(abbrev $n:declId $s:optDeclSig $v:declVal)=>`(noncomputable def $n $s:optDeclSig $v:declVal)
local macro_rules|`(def $n:declId $s:optDeclSig $v:declVal)=>do let d:=⟨Lean.mkNode `Lean.Parser.Command.declSig #[s.raw[0],s.raw[1][0]]⟩;`(theorem $n $d $v:declVal)
open Option renaming some → aa,none → aD
open Bool renaming true → aT,false → aW
namespace Xobt
variable{P:Prop}
def ex1{p:A→Prop}(h:∃a,p a)(k:∀a,p a→P):P:=let⟨a,h⟩:=h;k a h
def ex2{p:A→B→Prop}(h:∃a b,p a b)(k:∀a b,p a b→P):P:=let⟨a,b,h⟩:=h;k a b h
def ex3{p:A→B→C→Prop}(h:∃a b c,p a b c)(k:∀a b c,p a b c→P):P:=let⟨a,b,c,h⟩:=h;k a b c h
def ex4{p:A→B→C→D→Prop}(h:∃a b c d,p a b c d)(k:∀a b c d,p a b c d→P):P:=let⟨a,b,c,d,h⟩:=h;k a b c d h
def ex5{p:A→B→C→D→E→Prop}(h:∃a b c d e,p a b c d e)(k:∀a b c d e,p a b c d e→P):P:=let⟨a,b,c,d,e,h⟩:=h;k a b c d e h
def ex6{p:A→B→C→D→E→F→Prop}(h:∃a b c d e f,p a b c d e f)(k:∀a b c d e f,p a b c d e f→P):P:=let⟨a,b,c,d,e,f,h⟩:=h;k a b c d e f h
def ex7{p:A→B→C→D→E→F→G→Prop}(h:∃a b c d e f g,p a b c d e f g)(k:∀a b c d e f g,p a b c d e f g→P):P:=let⟨a,b,c,d,e,f,g,h⟩:=h;k a b c d e f g h
def ex9{p:A→B→C→D→E→F→G→I→J→Prop}(h:∃a b c d e f g i j,p a b c d e f g i j)(k:∀a b c d e f g i j,p a b c d e f g i j→P):P:=let⟨a,b,c,d,e,f,g,i,j,h⟩:=h;k a b c d e f g i j h
def ex10{p:A→B→C→D→E→F→G→I→J→L→Prop}(h:∃a b c d e f g i j l,p a b c d e f g i j l)(k:∀a b c d e f g i j l,p a b c d e f g i j l→P):P:=let⟨a,b,c,d,e,f,g,i,j,l,h⟩:=h;k a b c d e f g i j l h
def an2(h:a∧b)(k:a→b→P):P:=k h.1 h.2
def an3(h:a∧b∧c)(k:a→b→c→P):P:=k h.1 h.2.1 h.2.2
def an4(h:a∧b∧c∧d)(k:a→b→c→d→P):P:=k h.1 h.2.1 h.2.2.1 h.2.2.2
def an5(h:a∧b∧c∧d∧e)(k:a→b→c→d→e→P):P:=k h.1 h.2.1 h.2.2.1 h.2.2.2.1 h.2.2.2.2
def an6(h:a∧b∧c∧d∧e∧f)(k:a→b→c→d→e→f→P):P:=k h.1 h.2.1 h.2.2.1 h.2.2.2.1 h.2.2.2.2.1 h.2.2.2.2.2
def an7(h:a∧b∧c∧d∧e∧f∧g)(k:a→b→c→d→e→f→g→P):P:=k h.1 h.2.1 h.2.2.1 h.2.2.2.1 h.2.2.2.2.1 h.2.2.2.2.2.1 h.2.2.2.2.2.2
def an8(h:a∧b∧c∧d∧e∧f∧g∧i)(k:a→b→c→d→e→f→g→i→P):P:=k h.1 h.2.1 h.2.2.1 h.2.2.2.1 h.2.2.2.2.1 h.2.2.2.2.2.1 h.2.2.2.2.2.2.1 h.2.2.2.2.2.2.2
def an9(h:a∧b∧c∧d∧e∧f∧g∧i∧j)(k:a→b→c→d→e→f→g→i→j→P):P:=k h.1 h.2.1 h.2.2.1 h.2.2.2.1 h.2.2.2.2.1 h.2.2.2.2.2.1 h.2.2.2.2.2.2.1 h.2.2.2.2.2.2.2.1 h.2.2.2.2.2.2.2.2
def an13(h:a∧b∧c∧d∧e∧f∧g∧i∧j∧l∧m∧n∧o)(k:a→b→c→d→e→f→g→i→j→l→m→n→o→P):P:=k h.1 h.2.1 h.2.2.1 h.2.2.2.1 h.2.2.2.2.1 h.2.2.2.2.2.1 h.2.2.2.2.2.2.1 h.2.2.2.2.2.2.2.1 h.2.2.2.2.2.2.2.2.1 h.2.2.2.2.2.2.2.2.2.1 h.2.2.2.2.2.2.2.2.2.2.1 h.2.2.2.2.2.2.2.2.2.2.2.1 h.2.2.2.2.2.2.2.2.2.2.2.2
def in2{p:A→B→Prop}(a:A)(b:B)(h:p a b):∃a b,p a b:=⟨a,b,h⟩
def in3{p:A→B→C→Prop}(a:A)(b:B)(c:C)(h:p a b c):∃a b c,p a b c:=⟨a,b,c,h⟩
def in4{p:A→B→C→D→Prop}(a:A)(b:B)(c:C)(d:D)(h:p a b c d):∃a b c d,p a b c d:=⟨a,b,c,d,h⟩
def in5{p:A→B→C→D→E→Prop}(a:A)(b:B)(c:C)(d:D)(e:E)(h:p a b c d e):∃a b c d e,p a b c d e:=⟨a,b,c,d,e,h⟩
def in6{p:A→B→C→D→E→F→Prop}(a:A)(b:B)(c:C)(d:D)(e:E)(f:F)(h:p a b c d e f):∃a b c d e f,p a b c d e f:=⟨a,b,c,d,e,f,h⟩
def in7{p:A→B→C→D→E→F→G→Prop}(a:A)(b:B)(c:C)(d:D)(e:E)(f:F)(g:G)(h:p a b c d e f g):∃a b c d e f g,p a b c d e f g:=⟨a,b,c,d,e,f,g,h⟩
def in8{p:A→B→C→D→E→F→G→I→Prop}(a:A)(b:B)(c:C)(d:D)(e:E)(f:F)(g:G)(i:I)(h:p a b c d e f g i):∃a b c d e f g i,p a b c d e f g i:=⟨a,b,c,d,e,f,g,i,h⟩
def in10{p:A→B→C→D→E→F→G→I→J→L→Prop}(a:A)(b:B)(c:C)(d:D)(e:E)(f:F)(g:G)(i:I)(j:J)(l:L)(h:p a b c d e f g i j l):∃a b c d e f g i j l,p a b c d e f g i j l:=⟨a,b,c,d,e,f,g,i,j,l,h⟩
def in12{p:A→B→C→D→E→F→G→I→J→L→M→N→Prop}(a:A)(b:B)(c:C)(d:D)(e:E)(f:F)(g:G)(i:I)(j:J)(l:L)(m:M)(n:N)(h:p a b c d e f g i j l m n):∃a b c d e f g i j l m n,p a b c d e f g i j l m n:=⟨a,b,c,d,e,f,g,i,j,l,m,n,h⟩
end Xobt
local macro_rules
|`(tactic|obtain⟨$ps,*⟩:=$e:term)=>do
 let ps:=ps.getElems
 let n:=ps.size
 if n<2 then Lean.Macro.throwUnsupported
 let I (s:String):Lean.MacroM (Lean.TSyntax `ident):=return Lean.mkIdent (Lean.Name.mkSimple s)
 let mut vs:Array (Lean.TSyntax `ident):=#[]
 let mut sb:Array (Lean.TSyntax `tactic):=#[]
 for p in ps do
  let y ← I s!"ξ{vs.size}"
  match p with
  |`(Lean.Parser.Tactic.rcasesPatLo|$x:ident)=>
   if x.getId==`rfl then
    vs:=vs.push y
    sb:=sb.push (← `(tactic|subst $y))
   else vs:=vs.push x
  |`(Lean.Parser.Tactic.rcasesPatLo|_)=>vs:=vs.push y
  |_=>Lean.Macro.throwUnsupported
 let z ← I "ξ"
 let w ← I "ζ"
 let N (s:String):=Lean.mkIdent (`Xobt++Lean.Name.mkSimple s)
 let mk (e:Lean.TSyntax `term)(c:Array (Lean.TSyntax `tactic)):Lean.MacroM (Lean.TSyntax `tactic):=do
  let mut al:=#[]
  for i in [0:n] do
   let k:=n-1-i
   let m:=n-k
   if k>16||m>18 then continue
   let a:=vs.extract 0 k
   let b:=vs.extract k n
   let E:=N s!"ex{k}"
   let A:=N s!"an{m}"
   al:=al.push (← if k==0 then `(tacticSeq|(refine $A $e λ$b*=>?_;$[$c]*)) else if m==1 then `(tacticSeq|(refine $E $e λ$vs*=>?_;$[$c]*)) else `(tacticSeq|(refine $E $e λ$a* $z=>$A $z λ$b*=>?_;clear $z;$[$c]*)))
  al:=al.push (← `(tacticSeq|fail))
  `(tactic|first $[| $al]*)
 let t ← mk e sb
 if e.raw.isIdent then
  let i:Lean.TSyntax `ident:=⟨e.raw⟩
  let s ← mk w (#[← `(tactic|clear $w)]++sb)
  `(tactic|first|(revert $i;intro $w:ident;$s:tactic)|$t:tactic)
 else return t
|`(tactic|exact⟨$ps,*⟩)=>do
 let ps:=ps.getElems
 let n:=ps.size
 if n<3 then Lean.Macro.throwUnsupported
 let mut al:=#[]
 for i in [1:n-1] do
  let k:=n-i
  if k>12 then continue
  let a:=ps.extract 0 k
  let b:=ps.extract k n
  let E:=Lean.mkIdent (`Xobt++Lean.Name.mkSimple s!"in{k}")
  let r ← if b.size==1 then pure b[0]! else `(⟨$b,*⟩)
  al:=al.push (← `(tacticSeq|exact $E $a* $r))
 `(tactic|first $[| $al]*)
|`(tactic|refine⟨$ps,*⟩)=>do
 let ps:=ps.getElems
 let n:=ps.size
 if n<3 then Lean.Macro.throwUnsupported
 let mut al:=#[]
 for i in [1:n-1] do
  let k:=n-i
  if k>12 then continue
  let a:=ps.extract 0 k
  let b:=ps.extract k n
  let E:=Lean.mkIdent (`Xobt++Lean.Name.mkSimple s!"in{k}")
  let r ← if b.size==1 then pure b[0]! else `(⟨$b,*⟩)
  al:=al.push (← `(tacticSeq|refine $E $a* $r))
 `(tactic|first $[| $al]*)
open List renaming length_map → Za, getElem?_eq_some_iff → Zb, length → Zc, mem_of_getElem? → Ze, range → Zh, length_append → Zi, mem_cons_self → Zj, mem_cons → Zk, getElem?_map → Zl, mem_cons_of_mem → Zm, size_toArray → Zn, getElem?_append_right → Zo, map_append → Zq, replicate → Zr, getElem?_append_left → Zt, mem_singleton → Zu, map_cons → Zx, length_singleton → Zy, mem_map → ZA, getElem?_eq_none → ZB, length_take → ZC, length_cons → ZD, getElem?_set_ne → ZE, mem_append_right → ZG, all_eq_true → ZJ, length_range → ZK, mem_append → ZM, getElem?_set_self → ZN, map_map → ZO, mem_filter → ZP, take_succ_eq_append_getElem → ZQ, filter_eq_nil_iff → ZR, getElem_mem → ZT, length_filter_le → ZV, getElem?_eq_none_iff → ZW, mem_take_iff_getElem → ZX, take_of_length_le → ZZ, eq_nil_or_concat → Z1, concat_eq_append → Z2, getD_eq_getElem?_getD → Z3, append_nil → Z4, mem_range → Z6, pairwise_cons → Z8, mem_append_left → Z9, length_eq_zero_iff → Yc, drop → Yd, filter_cons → Ye, append_assoc → Yg, replicate_succ → Yi, getElem?_range → Yj, all_cons → Yl, map_nil → Ym, getElem?_of_mem → Yo, getElem?_replicate → Yp, filter_cons_of_pos → Yr, range_succ → Ys, map_take → Yu, prefix_refl → Yv, mem_flatMap → Yw, take_length → Yx, flatten_cons → Yy, mem_of_mem_take → Yz, mem_of_getLast? → YA, any_cons → YB, length_drop → YC, lookup_cons → YD, getElem?_cons_succ → YF, filter_cons_of_neg → YG, nodup_cons → YL, find?_cons → YM, getElem?_set → YN, foldl_append → YO, length_eraseIdx_of_lt → YQ, getLast?_append → YR, not_mem_nil → YT, pairwise_iff_getElem → YU, length_set → YV, prefix_append → YW, filter_append → YX, eraseIdx_cons_succ → YY, all_map → YZ, take_succ → Y0, pairwise_map → Y1, countP_cons → Y3, of_mem_zip → Y4, foldl_cons → Y5, nil_append → Y6, filterMap_cons → Y9, map_congr_left → Xa, length_pos_iff → Xb, forIn_nil → Xd, length_zipIdx → Xe, drop_eq_getElem_cons → Xg, getLastD_eq_getLast? → Xh, map_inj_left → Xk, flatMap_cons → Xl, mem_of_head? → Xm, set_comm → Xn, getElem?_take_of_lt → Xo, getElem_inj → Xp, any_eq_true → Xq, getLast?_cons_cons → Xs, toArray → Xu, length_nil → Xv, length_replicate → Xx, mem_iff_getElem → Xz, pairwise_append → XC, getLast?_concat → XF, flatMap_append → XG, replicate_zero → XH, filter_eq_self → XM, mem_filterMap → XQ, zip_cons_cons → XV, getElem_range → XX, take_sublist → XY, nodup_append → XZ, any_map → X0, getElem_take → X4, filter_congr → X5, flatten_nil → X9, drop_length → Wa, perm_middle → Wb, cons_append → Wc, forIn_cons → Wf, filter_nil → Wi, foldl → Wj, take_zero → Wk, map_drop → Wp
open Nat renaming le_refl → Zd, ne_of_lt → Zz, lt_of_lt_of_le → ZF, le_trans → ZH, lt_irrefl → ZS, not_lt_zero → Z7, zero_le → Yb, sub_self → Yh, lt_succ_of_lt → Yq, le_succ → Yt, lt_succ_self → YE, ne_of_gt → YS, min_eq_left → Y8, le_of_lt → Xc, le_of_succ_le → Xi, lt_of_le_of_lt → XR, succ_le_succ → X7, succ_ne_self → X8, min_eq_right → We, mul_le_mul → Wm, succ_mul → Wq, zero_add → Ws
open Bool renaming false_ne_true → Zf, false_eq_true → ZY, or_eq_true → Y7, eq_iff_iff → Xw, and_eq_true_iff → XD, or_false → XN, eq_false_iff → X2, false_or → Wn, and_true → Wo
open PySem.Heap renaming get?_push_of_some → Zg, lt_size → Zp, get?_push_size → Zw, get?_update_self → Z0, size_push → Yn, get?_update_other → YH, get?_push_ne → Xj, size_update → Xr, get?_update_ne → XJ
open Int renaming toNat_natCast → Zs, le_refl → ZI, zero_add → YK, not_lt → Xf, emod_lt_of_pos → XW, emod_nonneg → Wh, le_of_lt → Wr
open Option renaming map_some → Zv, getD_some → ZU, isSome_iff_exists → Yk, map_eq_some_iff → YI, isSome_some → XU, getD_none → X6
open Array renaming length_toList → ZL, getElem?_eq_getElem → Z5, getElem?_eq_none → YJ, getElem?_toList → Y2, mem_toList_iff → Xy, size_map → XB, toList_push → X1, map_extract → X3, size_push → Wg, map_push → Wl
open PyProof.Rows renaming boot_enumerate → Wt, boot_int → Wu, boot_list → Wv, boot_max → Ww, boot_sorted → Wx, boot_tuple → Wy, callWith_type1 → Wz, slot_tuple_getitem → WA
open PySem.Calls renaming Name_function_global → WB, call_function_entry → WC
open PySem renaming Comprehension → WD, FuncData → WO, NameKind → WQ, Operator → WR, Spec → WV, assignEach → Vb, assignInOrder → Vc, behindInMarks → Ve, binaryOp → Vf, bindName → Vg, bootBuiltins → Vh, builtinLookup_eq_fast → Vi, builtinsNs → Vj, call_meets → Vk, cellsFrom → Vl, codeAny_builtin → Vm, codeAny_mono → Vn, codeAny_of_tree → Vo, compareOp → Vp, comprehension → Vq, concat_meets → Vr, entryFor → Vs, firstArgMember → Vt, foldedSetIterable → Vu, intItems → Vv, intItems_at → Vw, isSubtype_type → Vx, letOwnedTupleGo → Vy, mainGlobals → Vz, mem_of_lookup → VA, newFunctionEnv → VB, noFill_tuple_add → VC, numAt_eq → VE, plainId_quiet → VF, pushCells → VG, pushCells_keeps → VH, relayAll → VI, seqIndex_neg → VJ, seqIndex_of → VL, seq_tuple_add → VM, sizeLine_eq → VN, sliceBounds → VO, starEach → VP, swappedStores → VQ, swapsWith → VR, swapsWithSole → VS, sysModules → VT, tupleKind → VU, typeLookup_type → VV, wpAny_Call_Name_kw → VW, wpAny_askSetting → VX, wpAny_bind → VY, wpAny_bindName → VZ, wpAny_call_entry → V0, wpAny_comprehension_free → V1, wpAny_eqBool_int → V2, wpAny_execs_nil → V3, wpAny_field → V4, wpAny_holding → V5, wpAny_letOwnedTupleGo_enum → V6, wpAny_loadPart' → V7, wpAny_mono → V8, wpAny_newList → V9, wpAny_newObj_type → Ua, wpAny_of_eq → Ub, wpAny_passesOwn → Uc, wpAny_pure → Ud, wpAny_pyIter_enum → Ue, wpAny_pyIter_list → Uf, wpAny_pyIter_tuple → Ug, wpAny_pyNext_enum_endD → Uh, wpAny_pyNext_enum_itemD → Ui, wpAny_pyNext_list_end → Uj, wpAny_pyNext_list_item → Uk, wpAny_rule → Ul, wpAny_setEntries_of → Um, wpAny_setField → Uo, wpAny_setState_of → Up, wpAny_standAt → Uq, wpAny_truthy_bool → Ur, wpAny_typeOf → Us
open PySem.F renaming args_tuple_add_2 → WE, args_tuple_iterator_next_1 → WF, entry_tuple_add → WG, entry_tuple_iterator_next → WH, plainAttrs_list → WI, slot_list_append → WJ, slot_list_pop → WK, slot_tuple_add → WL, slot_tuple_count → WM, slot_tuple_iterator_next → WN
open PySem.SeqAt renaming EqAt → WT, RcNeAt → WU
open PySem.W renaming Frag → WW, cellsFrom_some → WX, codeIn → WY, findIn → WZ, fnOf → W0, instObj → W1, kas_sort → W2, keepIn → W3, kia_one → W4, kitOne → W5, kitx_dict → W6, kitx_list → W7, lookIn → W8, methodObj → W9, plainGet → Va
def gEG {b:Type _} {l:List b} {i:Nat} (h:i < l.length):l[i]?=aa l[i]:=List.getElem?_eq_getElem h
def bAE (a b:Bool):((a && b)=aT)=(a=aT/\b=aT):=Bool.and_eq_true a b
namespace L2
open PySem PySem.Spec PyProof.Rows
abbrev cW(s:Stmt):Arguments:=match s with
 |.FunctionDef _ a _ _ _ _ _ _ _ _=>a
 |_=>{ posonlyargs:=[],args:=[],vararg:=aD,kwonlyargs:=[],kw_defaults:=[],kwarg:=aD,defaults:=[] }
abbrev bO(s:Stmt):List Stmt:=match s with
 |.FunctionDef _ _ b _ _ _ _ _ _ _=>b
 |_=>[]
abbrev bf(s:Stmt):Scope:=match s with
 |.FunctionDef _ _ _ _ _ _ sc _ _ _=>sc
 |_=>{ kind:=.function,names:=[],isGenerator:=false,isCoroutine:=false }
end L2
namespace Ev
open PySem PySem.Spec PyProof.Rows L2
abbrev ir:List Str:=["len", "isinstance", "all", "any", "tuple", "list", "max", "min", "repr", "range", "enumerate", "int", "bool", "str", "sorted", "zip", "set"]
@[inline]abbrev qa:=(Str × Str) × (Arguments × List Stmt) × (Scope × Addr) × (List (Str × Addr) × Value) × (Addr × Option Str)
abbrev Fs(h:Heap):Value->Option Str
 | .ref c=>(match h.get? c with
  |some ⟨_,_,.fields vs,_⟩=>(match vs.toList with |_ :: .str n _::_=>aa n |_=>aD)
  | _=>aD)
 |_=>aD
abbrev K2(h:Heap):Option Obj->Option qa
 |some ⟨_,_,.func ⟨nm,qn,ps,.stmts b,sc,gl,cl,dv,_,_,_,_,cd,_,bi⟩,_⟩=>aa ((nm,qn),(ps,b),(sc,gl),(cl,dv),(bi,Fs h cd))
 |_=>aD
abbrev mN(h:Heap)(x:Str):Option qa:=match h.nsMap Vz x with
 |some (.ref f)=>K2 h (h.get? f)
 |_=>aD
abbrev xL(h:Heap)(x:Str):Option Int:=match h.nsMap Vz x with
 |some (.int v _)=>aa v
 |_=>aD
end Ev
namespace Lw
open PySem
abbrev con:List (Str × Int):=[("LAST_MINUTE", 9999),("MOST_RINGS", 8),("MOST_SINK", 60),("MOST_KINDS", 4),("MOST_GAP", 99),("MOST_SHUTS", 4),("MOST_GLIDERS", 7),("MOST_WEIGHT", 99),("MOST_LANDINGS", 20)]
abbrev nxd:List (String × Nat):=[("is_whole", 6),("is_within", 7),("is_minute", 8),("is_tuple", 9),("are_unlike", 10),("is_meadow", 17),("are_gaps", 18),("is_gap_row", 19),("no_glider_between_helps", 20),("are_shuts", 21),("is_stretch", 22),("is_kind", 23),("is_shut", 24),("is_sky", 28),("is_ahead", 29),("are_gliders", 30),("is_glider", 31),("are_fixed", 32),("check_sky", 33),("check_keeps", 36),("keeps_sky", 37),("are_pairs", 38),("is_pair", 39),("first_amiss", 40),("landing_amiss", 41),("minute_amiss", 42),("landing_ahead", 43),("gap_end", 44),("first_lacking", 45),("waits_at", 46),("how_many_wait", 47),("joining_minutes", 48),("first_crowded", 49),("first_too_high", 50),("is_too_high", 51),("ring_needed", 52),("held", 54),("is_holding", 55),("waiting", 56),("rings_at", 57),("steps_down", 58),("minutes_of_steps", 59),("are_steps", 60),("goes_down", 61),("highest_ring", 62),("stays_below", 63),("ring_held", 64),("_law_cell_at", 66),("_law_pot", 67),("_law_take", 68),("_law_whole", 69),("_law_gaps", 70),("_law_shuts", 71),("_law_meadow", 72),("_law_glider", 73),("_law_mixed", 74),("_law_sky", 75),("_law_order", 76),("_law_open", 77),("_law_run", 78),("_law_waits", 79),("_law_need", 80),("_law_one_amiss", 81),("_law_amiss", 82),("_law_landing", 83),("_law_is_list", 84),("_law_ring_at", 85),("_law_is_held", 86),("_law_drawn", 87),("_law_later", 88),("law", 89)]
abbrev top(i:Nat):Stmt:=PySem.Challenge.pw_downrings_k63_whole_no_holding_is_lower.main.body.getD i (.Pass ⟨0,0,0,0⟩)
abbrev vb(l:List (String × Nat)):List (Option Ev.qa):=l.map λx=>let n:=Str.ofString x.1;aa ((n,n),(L2.cW (top x.2),L2.bO (top x.2)),(L2.bf (top x.2),Vz),([],.none),(Vj,aa n))
end Lw
section
open PySem PySem.W PyProof.Rows
noncomputable abbrev Lw.view:Program:={ PySem.Challenge.pw_downrings_k63_whole_no_holding_is_lower with main:={ PySem.Challenge.pw_downrings_k63_whole_no_holding_is_lower.main with body:=[Lw.top 89] } }
noncomputable abbrev Lw.loose:List PySem.Str:=List.map PySem.Str.ofString ["is_whole", "is_within", "is_minute", "is_tuple", "are_unlike", "is_meadow", "are_gaps", "is_gap_row", "no_glider_between_helps", "are_shuts", "is_stretch", "is_kind", "is_shut", "is_sky", "is_ahead", "are_gliders", "is_glider", "are_fixed", "check_sky", "check_keeps", "keeps_sky", "are_pairs", "is_pair", "first_amiss", "landing_amiss", "minute_amiss", "landing_ahead", "gap_end", "first_lacking", "waits_at", "how_many_wait", "joining_minutes", "first_crowded", "first_too_high", "is_too_high", "ring_needed", "held", "is_holding", "waiting", "rings_at", "steps_down", "minutes_of_steps", "are_steps", "goes_down", "highest_ring", "stays_below", "ring_held", "_law_cell_at", "_law_pot", "_law_take", "_law_whole", "_law_gaps", "_law_shuts", "_law_meadow", "_law_glider", "_law_mixed", "_law_sky", "_law_order", "_law_open", "_law_run", "_law_waits", "_law_need", "_law_one_amiss", "_law_amiss", "_law_landing", "_law_is_list", "_law_ring_at", "_law_is_held", "_law_drawn", "_law_later", "LAST_MINUTE", "MOST_RINGS", "MOST_SINK", "MOST_KINDS", "MOST_GAP", "MOST_SHUTS", "MOST_GLIDERS", "MOST_WEIGHT", "MOST_LANDINGS", "RingError", "NoSky", "NoLandings"]
def Lw.three{h A B C D:Type}{o:Option h}{f:h->A}{g v:h->List B}{u:h->C}{x:h->D}{a:A}{b d:List B}{c:C}{e:D}(n:o.map (λs=>(f s,()))=aa (a,()))(p:o.map g=aa b)(j:o.map (λs=>(u s,v s,x s))=aa (c,d,e)):o.map (λs=>(f s,(u s,g s++v s,x s)))=aa (a,(c,b++d,e)):=by
 cases o with
 |none=>cases n
 |some s=>
  simp only[Zv,Option.some.injEq,Prod.mk.injEq,and_true] at n p j ⊢;exact⟨n,j.1,by rw[p,j.2.1],j.2.2⟩
set_option maxHeartbeats 0 in
def Lw.leftA:LeftO PySem.Challenge.rw_downrings_k63_whole_no_holding_is_lower.row.prog Lw.view Lw.loose (λs=>xlAt Lw.view [] s && recOk (RowW.records PySem.Challenge.rw_downrings_k63_whole_no_holding_is_lower.row.toRowW) s) (λ_=>()) (λ_=>()) 20000:=λw=>by kernel_rfl
set_option maxHeartbeats 0 in
def Lw.leftB:∀w,(openEnds treeTable PySem.Challenge.rw_downrings_k63_whole_no_holding_is_lower.row.prog w 20000).map (λs=>(Lw.nxd.take 42).map (λx=>Ev.mN s.heap (.ofString x.1)))=aa (Lw.vb (Lw.nxd.take 42)):=λw=>by kernel_rfl
set_option maxHeartbeats 0 in
def Lw.leftC:∀w,(openEnds treeTable PySem.Challenge.rw_downrings_k63_whole_no_holding_is_lower.row.prog w 20000).map (λs=>(s.heap.isNs Vz,(Lw.nxd.drop 42).map (λx=>Ev.mN s.heap (.ofString x.1)),(Lw.con.map (λc=>Ev.xL s.heap c.1),Ev.ir.map λx=>(s.heap.nsMap Vz x).isNone)))=aa (aT,Lw.vb (Lw.nxd.drop 42),(Lw.con.map (λc=>aa c.2),Ev.ir.map λ_=>aT)):=λw=>by kernel_rfl
def Lw.left0:LeftO PySem.Challenge.rw_downrings_k63_whole_no_holding_is_lower.row.prog Lw.view Lw.loose (λs=>xlAt Lw.view [] s && recOk (RowW.records PySem.Challenge.rw_downrings_k63_whole_no_holding_is_lower.row.toRowW) s) (λs=>(s.heap.isNs Vz,(Lw.nxd.take 42).map (λx=>Ev.mN s.heap (.ofString x.1))++(Lw.nxd.drop 42).map (λx=>Ev.mN s.heap (.ofString x.1)),(Lw.con.map (λc=>Ev.xL s.heap c.1),Ev.ir.map λx=>(s.heap.nsMap Vz x).isNone))) (λ_=>(aT,Lw.vb (Lw.nxd.take 42)++Lw.vb (Lw.nxd.drop 42),(Lw.con.map (λc=>aa c.2),Ev.ir.map λ_=>aT))) 20000:=λw=>Lw.three (Lw.leftA w) (Lw.leftB w) (Lw.leftC w)
set_option maxHeartbeats 0 in
def Lw.said:PySem.Challenge.rw_downrings_k63_whole_no_holding_is_lower.wellSaid=aT:=by kernel_rfl
end
namespace L2
open PySem PySem.Spec PyProof.Rows
@[inline]abbrev Key:=Sum Int Str
abbrev mW:Key->Value->Bool
 |.inl k,v=>Value.isInt k v
 |.inr x,v=>Value.isStrOf x v
abbrev Oa(w:World):Key->Int
 |.inl k=>hashInt k
 |.inr x=>hashStr w x
def bm:∀ {k:Key} {v:Value},mW k v=aT->(∃i t,k=Sum.inl i/\v=Value.int i t)\/(∃x t,k=Sum.inr x/\v=Value.str x t)
 |.inl i,v,h=>by
  obtain⟨t,e⟩:=Value.isInt_shape (k:=i) (v:=v) h;exact .inl ⟨i,t,rfl,e⟩
 |.inr x,v,h=>by
  obtain⟨t,e⟩:=Value.isStrOf_shape (x:=x) (v:=v) h;exact .inr ⟨x,t,rfl,e⟩
def vF(i:Int)(t:Tok):mW (.inl i) (.int i t)=aT:=by simp[mW,Value.isInt]
def vG(x:Str)(t:Tok):mW (.inr x) (.str x t)=aT:=by simp[mW,Value.isStrOf]
def Gn(a b:Int):decide ((Sum.inl a:Key)=Sum.inl b)=(a == b):=by
 by_cases e:a=b
 ·subst e;simp
 ·have h:¬ (Sum.inl a:Key)=Sum.inl b:=λq=>e (Sum.inl.inj q);rw[decide_eq_false h];exact(beq_eq_false_iff_ne.mpr e).symm
def Go(a b:Str):decide ((Sum.inr a:Key)=Sum.inr b)=decide (a=b):=by
 by_cases e:a=b
 ·subst e;simp
 ·have h:¬ (Sum.inr a:Key)=Sum.inr b:=λq=>e (Sum.inr.inj q);rw[decide_eq_false h,decide_eq_false e]
def Gp(a:Int)(b:Str):decide ((Sum.inl a:Key)=Sum.inr b)=aW:=decide_eq_false (λq=>nomatch q)
def Gq(a:Str)(b:Int):decide ((Sum.inr a:Key)=Sum.inl b)=aW:=decide_eq_false (λq=>nomatch q)
abbrev bz(prog:Program)(w:World):PySem.KeyKind prog w Key where
 is:=mW
 hash:=Oa w
 inj:=λv a b f hb=>by
  rcases bm f with ⟨i,t,rfl,rfl⟩ |⟨x,t,rfl,rfl⟩
  ·rcases bm hb with ⟨j,u,rfl,e⟩ |⟨y,u,rfl,e⟩
   ·injection e with e1 _;rw[e1]
   ·exact nomatch e
  ·rcases bm hb with ⟨j,u,rfl,e⟩ |⟨y,u,rfl,e⟩
   ·exact nomatch e
   ·injection e with e1 _;rw[e1]
 byValue:=λk v h=>by
  rcases bm h with ⟨i,t,rfl,rfl⟩ |⟨x,t,rfl,rfl⟩ <;> rfl
 pyHash:=λc h=>by
  rcases bm c with ⟨i,t,rfl,rfl⟩ |⟨x,t,rfl,rfl⟩
  ·exact wpAny_pyHash_int h
  ·exact wpAny_pyHash_str h
 eqBool:=λg c h=>by
  rcases bm g with ⟨i,t,rfl,rfl⟩ |⟨x,t,rfl,rfl⟩
  ·rcases bm c with ⟨j,u,rfl,rfl⟩ |⟨y,u,rfl,rfl⟩
   ·rw[Gn] at h;exact V2 h
   ·rw[Gp] at h;exact SeqAt.EqAt.int_str i t y u _ _ _ _ h
  ·rcases bm c with ⟨j,u,rfl,rfl⟩ |⟨y,u,rfl,rfl⟩
   ·rw[Gq] at h;exact SeqAt.EqAt.str_int x t j u _ _ _ _ h
   ·rw[Go] at h;exact wpAny_eqBool_str h
 «strs»:=λk x t v h=>by
  rcases bm h with ⟨i,u,rfl,e⟩ |⟨y,u,rfl,e⟩
  ·exact nomatch e
  ·injection e with e1 _;subst e1;cases v <;> rfl
def qb(prog:Program)(w:World)(i:Int)(t:Tok):(bz prog w).is (.inl i) (.int i t)=aT:=vF i t
def qc(prog:Program)(w:World)(x:Str)(t:Tok):(bz prog w).is (.inr x) (.str x t)=aT:=vG x t
inductive V where
 |non |bl (b:Bool) |int (i:Int) |str (x:Str) |byt (b:Array UInt8) |flt (b:UInt64) |ref (a:Addr) |ty (n:String)
 deriving DecidableEq
abbrev aI:V->Value->Prop
 |.non,u=>u=Value.none
 |.bl b,u=>u=Value.bool b
 |.int i,u=>∃t,u=Value.int i t
 |.str x,u=>∃t,u=Value.str x t
 |.byt b,u=>∃t,u=Value.bytes b t
 |.flt b,u=>∃t,u=Value.float b t
 |.ref a,u=>u=Value.ref a
 |.ty n,u=>u=Value.type n
@[inline]abbrev aP:List V->List Value->Prop:=Paired aI
def aP.length{X:List V}{u:List Value}(r:aP X u):X.length=u.length:=Paired.length r
def aP.get:∀ {X:List V} {U:List Value} {i:Nat} {x:V},aP X U->X[i]?=aa x->∃u,U[i]?=aa u/\aI x u
 |_,_,_,_,.nil,e=>by simp at e
 |_,_,0,_,.cons r _,e=>by simp at e;subst e;exact⟨_,rfl,r⟩
 |_,_,i+1,x,.cons _ t,e=>by
  obtain⟨u,h,b⟩:=aP.get (i:=i) (x:=x) t (by simpa using e);exact⟨u,by simpa using h,b⟩
def aP.set{x:V}{u:Value}(r:aI x u):∀ {X:List V} {U:List Value} (i:Nat),aP X U->aP (X.set i x) (U.set i u)
 |_,_,_,.nil=>.nil
 |_,_,0,.cons _ t=>.cons r t
 |_,_,i+1,.cons q t=>.cons q (aP.set r i t)
def aP.append:∀ {X y:List V} {u b:List Value},aP X u->aP y b->aP (X++y) (u++b)
 |_,_,_,_,.nil,s=>s
 |_,_,_,_,.cons r t,s=>.cons r (aP.append t s)
def aP.take:∀ {X:List V} {u:List Value} (n:Nat),aP X u->aP (X.take n) (u.take n)
 |_,_,0,_=>.nil
 |_,_,_+1,.nil=>.nil
 |_,_,n+1,.cons r t=>.cons r (aP.take n t)
def aP.drop:∀ {X:List V} {u:List Value} (n:Nat),aP X u->aP (X.drop n) (u.drop n)
 |_,_,0,r=>r
 |_,_,_+1,.nil=>.nil
 |_,_,n+1,.cons _ t=>aP.drop n t
abbrev vH:Option V->Option Value->Prop
 |some v,aa u=>aI v u
 |none,aD=>True
 |_,_=>False
abbrev KV{b:Type}:List (b × V)->List (b × Value)->Prop:=Paired λ(p:b × V) (q:b × Value)=>p.1=q.1/\aI p.2 q.2
abbrev kV:Key->V
 |.inl i=>.int i
 |.inr x=>.str x
abbrev oE(h:Heap)(a:Addr)(I:Array Value):Prop:=∃o,h.get? a=aa o/\o.cls = .type "tuple"/\∃n,o.data = .seq I n/\o.dict=aD
def oE.isTup(x:oE h a items):IsTup h a items:=let ⟨o,e,c,n,d,_⟩:=x;⟨o,e,c,n,d⟩
def oE.lt(x:oE h a I):a < h.objs.size:=x.isTup.lt
def oE.new(h:Heap)(items:Array Value):oE (h.push { cls:=.type "tuple", data:=.seq items }) h.objs.size items:=⟨_,Zw _ rfl,rfl,_,rfl,rfl⟩
inductive HO where
  |lst (xs:List V)
  |tup (xs:List V)
  |dK (kvs:List (Key × V)) |dT (kvs:List (List Key × V))
  |set (S:Int->Bool) (n:Nat)
  |ins (C dx:Addr) (fs:List (Str × V))
  |own (x:Addr)
  |xd (fs:List (Str × V))
  |met (f x:Addr)
  |rng (lo hi:Int)
  |frz (o:Obj) (u:HO)
  |tbl (ps:Array Value)
  |ext (φ:Heap->Prop)
@[inline]abbrev Hp:=Addr->Option HO
abbrev upd(H:Hp)(a:Addr)(o:HO):Hp:=λb=>if b=a then aa o else H b
def ba{H:Hp}{a:Addr}{o:HO}:upd H a o a=aa o:=by unfold upd;rw[if_pos rfl]
def aC{H:Hp}{a b:Addr}{o:HO}(h:b ≠ a):upd H a o b=H b:=by unfold upd;rw[if_neg h]
def aU{H:Hp}{a b:Addr}{o:HO}(h:H a=aa o)(h':H b=aD):a ≠ b:=by
 intro e;subst e;rw[h] at h';cases h'
section
variable (P:Program) (w:World)
abbrev bq(H:Hp)(h:Heap)(a:Addr):HO->Prop
 |.lst X=>X.length<=sizeLine/\∃ (I:List Value) (n:Nat),aP X I/\h.get? a=aa { cls:=.type "list", data:=.seq I.toArray n }
 |.tup X=>X.length<=sizeLine/\∃I:List Value,aP X I/\oE h a I.toArray
 |.dK kvs=>kvs.length<=sizeLine/\(a == VT)=aW/\∃c,KV kvs c/\h.DictOf (bz P w) a c
 |.dT kvs=>kvs.length<=sizeLine/\(a == VT)=aW/\∃X:List (List Key × Addr × Value),
   Paired (λ(p:List Key × V) (q:List Key × Addr × Value)=>p.1=q.1/\H q.2.1=aa (.tup (p.1.map kV))/\aI p.2 q.2.2) kvs X ∧
   ∃o E y,h.get? a=aa o/\o.ExactDict/\o.data = .dict E y/\E.toList=X.map (entryOfKey (VU (bz P w)))/\(X.map (·.1)).Nodup
 |.set S n=>h.SetOf (intKind P w) a S n
 |.ins C dx fs=>H dx=aa (.own a)/\fs.length<=1000/\dx ≠ a/\h.get? a=aa (W1 C dx) ∧
   ∃b,h.Ns1 dx b/\(∀f,vH (fs.lookup f) (b f))/\PySem.Within b (fs.map (·.1))
 |.own _=>∃o,h.get? a=aa o
 |.xd fs=>∃b,h.Ns1 a b/\∀f,vH (fs.lookup f) (b f)
 |.rng lo hi=>∃t u v,h.get? a=aa { cls:=.type "range", data:=.fields #[.int lo t,.int hi u,.int 1 v] }
 |.frz o u=>h.get? a=aa o/\bq H h a u
 |.tbl ps=>h.get? a=aa { cls:=.none,data:=.fields ps }
 |.met f x=>h.get? a=aa (W9 (.ref f) (.ref x))
 |.ext φ=>φ h/\(∃o,h.get? a=aa o)/\∀j g:Heap,φ j->(∀o,j.get? a=aa o->g.get? a=aa o)->φ g
abbrev HOk(H:Hp)(h:Heap):Prop:=∀a o,H a=aa o->bq P w H h a o
end
section
variable {P:Program} {w:World} {H H':Hp} {h h':Heap} {a:Addr} {o:HO}
def bq.lt(x:bq P w H h a o):a < h.objs.size:=by
 cases o with
 |lst X=>obtain⟨_,_,_,_,e⟩:=x;exact Zp e
 |tup X=>obtain⟨_,_,_,p⟩:=x;exact p.lt
 |dK b=>obtain⟨_,_,_,_,o,_,_,e,_⟩:=x;exact Zp e
 |dT b=>obtain⟨_,_,_,_,o,_,_,e,_⟩:=x;exact Zp e
 |set S n=>obtain⟨o,_,_,_,e,_⟩:=x;exact Zp e
 |ins C c fs=>obtain⟨_,_,_,e,_⟩:=x;exact Zp e
 |own y=>obtain⟨_,e⟩:=x;exact Zp e
 |xd fs=>obtain⟨_,⟨_,_,_,e,_⟩,_⟩:=x;exact Zp e
 |rng lo hi=>obtain⟨_,_,_,e⟩:=x;exact Zp e
 |frz ob u=>obtain⟨e,_⟩:=x;exact Zp e
 |tbl ps=>exact Zp (show h.get? a=aa _ from x)
 |met f y=>exact Zp (show h.get? a=aa _ from x)
 |ext g=>obtain⟨_,⟨_,e⟩,_⟩:=x;exact Zp e
def Paired.mapP{c g:Type}{F G:c->g->Prop}:∀ {l₁:List c} {L:List g},Paired F l₁ L->(∀a b,F a b->G a b)->Paired G l₁ L
 |_,_,.nil,_=>.nil
 |_,_,.cons r t,f=>.cons (f _ _ r) (Paired.mapP t f)
def bq.stay(x:bq P w H h a o)(k:∀b u,(b=a\/H b=aa (.own a))->h.get? b=aa u->h'.get? b=aa u)
  (U:∀b,H b=aa (.own a)->H' b=aa (.own a)) (L:∀b X,H b=aa (.tup X)->H' b=aa (.tup X)):bq P w H' h' a o:=by
 induction o with
 |lst X=>obtain⟨z,I,n,r,e⟩:=x;exact⟨z,I,n,r,k _ _ (.inl rfl) e⟩
 |tup X=>obtain⟨z,I,r,ob,e,c⟩:=x;exact⟨z,I,r,ob,k _ _ (.inl rfl) e,c⟩
 |dK j=>obtain⟨z,y,T,r,ob,g,E,e,c⟩:=x;exact⟨z,y,T,r,ob,g,E,k _ _ (.inl rfl) e,c⟩
 |dT j=>
  obtain⟨z,y,X,r,ob,g,E,e,c⟩:=x;exact⟨z,y,X,Paired.mapP r λp q z=>⟨z.1,L _ _ z.2.1,z.2.2⟩,ob,g,E,k _ _ (.inl rfl) e,c⟩
 |set S n=>obtain⟨ob,g,E,t,e,c⟩:=x;exact⟨ob,g,E,t,k _ _ (.inl rfl) e,c⟩
 |ins C Y fs=>
  obtain⟨d,z,ne,e,B,⟨O,g,E,Q,c⟩,r⟩:=x;exact⟨U _ d,z,ne,k _ _ (.inl rfl) e,B,⟨O,g,E,k _ _ (.inr d) Q,c⟩,r⟩
 |own y=>obtain⟨ob,e⟩:=x;exact⟨ob,k _ _ (.inl rfl) e⟩
 |xd fs=>obtain⟨B,⟨O,g,E,e,c⟩,r⟩:=x;exact⟨B,⟨O,g,E,k _ _ (.inl rfl) e,c⟩,r⟩
 |rng lo hi=>obtain⟨t,u,v,e⟩:=x;exact⟨t,u,v,k _ _ (.inl rfl) e⟩
 |frz ob u J=>obtain⟨e,q⟩:=x;exact⟨k _ _ (.inl rfl) e,J q⟩
 |tbl ps=>
  have e:h.get? a=aa { cls:=.none,data:=.fields ps }:=x;show h'.get? a=aa { cls:=.none,data:=.fields ps };exact k a _ (.inl rfl) e
 |met f y=>
  have e:h.get? a=aa (W9 (.ref f) (.ref y)):=x;show h'.get? a=aa (W9 (.ref f) (.ref y));exact k a _ (.inl rfl) e
 |ext Z=>obtain⟨p,⟨o,e⟩,st⟩:=x;exact⟨st _ _ p λo q=>k _ _ (.inl rfl) q,⟨o,k _ _ (.inl rfl) e⟩,st⟩
def HOk.lt(x:HOk P w H h)(e:H a=aa o):a < h.objs.size:=(x a o e).lt
def HOk.fresh(x:HOk P w H h)(e:h.objs.size<=a):H a=aD:=by
 cases q:H a with
 |none=>rfl
 |some u=>exact absurd (ZF (x.lt q) e) (ZS _)
def HOk.kept(x:HOk P w H h)(k:∀b u,h.get? b=aa u->h'.get? b=aa u):HOk P w H h':=λa o e=>
 (x a o e).stay (λb u _ q=>k b u q) (λ_ q=>q) λ_ _ q=>q
def HOk.laid(x:HOk P w H h)(k:∀b u,h.get? b=aa u->h'.get? b=aa u)(g:h.objs.size<=a)(new:bq P w (upd H a o) h' a o):HOk P w (upd H a o) h':=λb u e=>by
 have f:=x.fresh g;by_cases hb:b=a
 ·subst hb;rw[ba] at e;cases e;exact new
 ·rw[aC hb] at e;exact(x b u e).stay (λc v _ q=>k c v q) (λc q=>by rw[aC (aU q f)];exact q) λc X q=>by rw[aC (aU q f)];exact q
end
abbrev Rd(H:Hp)(a:Addr)(u:HO):Prop:=H a=aa u\/∃o,H a=aa (.frz o u)
def Rd.ok{P:Program}{w:World}{H:Hp}{h:Heap}{a:Addr}{u:HO}(r:Rd H a u)(x:HOk P w H h):bq P w H h a u:=by
 rcases r with r |⟨o,r⟩
 ·exact x a u r
 ·obtain⟨_,q⟩:=x a _ r;exact q
abbrev Mut:Option HO->Prop
 |some (.lst _)=>True
 |some (.dK _)=>True
 |some (.dT _)=>True
 |some (.set _ _)=>True
 |some (.ins _ _ _)=>True
 |some (.ext _)=>True
 |_=>False
section
variable {P:Program} {w:World} {H:Hp} {h h':Heap} {x e:Addr} {o':HO}
def HOk.write(ok:HOk P w H h)(j:Mut (H x))(p:e=x\/H e=aa (.own x))(k:∀b u,b ≠ e->h.get? b=aa u->h'.get? b=aa u)(o:∃u,h'.get? e=aa u)
  (new:bq P w (upd H x o') h' x o'):HOk P w (upd H x o') h':=λb u q=>by
 have n:∀c y,H c=aa (.own y)->c ≠ x:=λc y r z=>by subst z;rw[r] at j;exact j
 have g:∀c X,H c=aa (.tup X)->c ≠ x:=λc X r z=>by subst z;rw[r] at j;exact j
 by_cases hb:b=x
 ·subst hb;rw[ba] at q;cases q;exact new
 ·rw[aC hb] at q;by_cases f:b=e
  ·have Q:H b=aa (.own x):=by
    rcases p with z |z
    ·exact absurd (f.trans z) hb
    ·rw[f];exact z
   rw[q] at Q;cases Q;obtain⟨v,B⟩:=o;exact⟨v,by rw[f];exact B⟩
  ·refine(ok b u q).stay (λc v hc r=>k c v ?_ r) (λc r=>by rw[aC (n c b r)];exact r) λc X r=>by rw[aC (g c X r)];exact r
   rcases hc with rfl |hc
   ·exact f
   ·rintro rfl;rcases p with z |z
    ·exact n c b hc z
    ·rw[hc] at z;cases z;exact hb rfl
end
structure Un(fs ex:List Addr)(H H':Hp)(h h':Heap):Prop where
 keep:∀b o,h.get? b=aa o->H b=aD->b ∉ fs->b ∉ ex->h'.get? b=aa o
 slot:∀b o,h.get? b=aa o->H b=aD->b ∈ fs->b ∉ ex->∃sl,h'.get? b=aa { o with slots:=sl }
 free:∀b o,h.get? b=aa o->H b=aD->b ∉ ex->H' b=aD
 there:∀b o,h.get? b=aa o->b ∉ ex->∃o',h'.get? b=aa o'
 tups:∀b xs,H b=aa (.tup xs)->H' b=aa (.tup xs)
 frzs:∀b o u,H b=aa (.frz o u)->H' b=aa (.frz o u)
 tbls:∀b ps,H b=aa (.tbl ps)->∃more,H' b=aa (.tbl (ps++more))
section
variable {fs fs' ex ex':List Addr} {H H1 H2:Hp} {h h1 h2 h':Heap} {a x e:Addr} {o:HO}
def Un.any(u:Un fs ex H H1 h h1){b:Addr}{ob:Obj}(q:h.get? b=aa ob)(n:H b=aD)(c:b ∉ ex):∃sl,h1.get? b=aa { ob with slots:=sl }:=by
 by_cases hb:b ∈ fs
 ·exact u.slot b ob q n hb c
 ·exact⟨ob.slots,u.keep b ob q n hb c⟩
def Un.kept(k:∀b u,h.get? b=aa u->h'.get? b=aa u):Un fs ex H H h h':=
 ⟨λb ob q _ _ _=>k b ob q,λb ob q _ _ _=>⟨ob.slots,k b ob q⟩,λ_ _ _ n _=>n,λb ob q _=>⟨ob,k b ob q⟩,λ_ _ q=>q,λ_ _ _ q=>q,λ_ ps q=>⟨#[],by rw[q];simp⟩⟩
def Un.refl:Un fs ex H H h h:=Un.kept λ_ _ q=>q
def Un.laid(k:∀b u,h.get? b=aa u->h'.get? b=aa u)(f:h.objs.size<=a)(c:H a=aD):Un fs ex H (upd H a o) h h' where
 keep:=λb u q _ _ _=>k b u q
 slot:=λb u q _ _ _=>⟨u.slots,k b u q⟩
 free:=λb u q n _=>by rw[aC (Zz (ZF (Zp q) f))];exact n
 there:=λb u q _=>⟨u,k b u q⟩
 tups:=λb X q=>by rw[aC (aU q c)];exact q
 frzs:=λb u X q=>by rw[aC (aU q c)];exact q
 tbls:=λb ps q=>⟨#[],by rw[aC (aU q c),q];simp⟩
def Un.write(f:Mut (H x))(v:e=x\/H e=aa (.own x))(k:∀b u,b ≠ e->h.get? b=aa u->h'.get? b=aa u)(g:∃u,h'.get? e=aa u):Un fs ex H (upd H x o) h h':=by
 have p:∀b,H b=aD->b ≠ x:=λb n z=>by subst z;rw[n] at f;exact f
 have hb:∀b,H b=aD->b ≠ e:=λb n z=>by
  subst z;rcases v with r |r
  ·exact p b n r
  ·rw[n] at r;cases r
 have j:∀b u,H b=aa u->¬ Mut (aa u)->b ≠ x:=λb u q nm z=>by subst z;rw[q] at f;exact nm f
 refine⟨λb u q n _ _=>k b u (hb b n) q,λb u q n _ _=>⟨u.slots,k b u (hb b n) q⟩,λb u q n _=>by rw[aC (p b n)];exact n,λb u q _=>?_,
  λb X q=>by rw[aC (j b _ q λz=>z)];exact q,λb u X q=>by rw[aC (j b _ q λz=>z)];exact q,λb ps q=>⟨#[],by rw[aC (j b _ q λz=>z),q];simp⟩⟩
 by_cases c:b=e
 ·subst c;exact g
 ·exact⟨u,k b u c q⟩
end
abbrev trk(h:Heap)(H:Hp):List Addr:=(Zh h.objs.size).filter λa=>(H a).isSome
abbrev oG(h:Heap)(H:Hp):Heap:=PySem.W.hideAll h (trk h H)
def vJ(h:Heap)(H:Hp):(oG h H).objs.size=h.objs.size:=PySem.W.hideAll_size _ _
def xM(e:h.get? b=aa o)(n:H b=aD):(oG h H).get? b=aa o:=
 PySem.W.hideAll_get _ e λc=>by
  have q:(H b).isSome=aT:=(ZP.mp c).2;rw[n] at q;simp at q
def BN(e:(oG h H).get? b=aa o):h.get? b=aa o/\H b=aD:=by
 have E:h.get? b=aa o:=PySem.W.of_hideAll (trk h H) e;refine⟨E,?_⟩;cases q:H b with
 |none=>rfl
 |some x=>
  have c:b ∈ trk h H:=ZP.mpr ⟨Z6.mpr (Zp E),by simp[q]⟩;have z:(oG h H).get? b=aD:=PySem.W.hideAll_none (trk h H) c;rw[z] at e;cases e
structure Mod(K:WW)(mg:Str->Option Value)(base:Heap):Prop where
 kin:K.In base
 glob:base.Ns Vz mg
 blt:∃mb,base.Ns Vj mb/\∀x:Str,x ≠ "__name__"->mb x=Vh x
 nolimit:base.NoLimit
structure Cx where
 prog:Program
 w:World
 K:WW
 mg:Str->Option Value
 base:Heap
 A:Around
 N:List Str
 s₀:Shared
 H₀:Hp
 env:Env
 outer:List Env
 stack:List Env
 ex:List Addr
 fn:Str->Bool
 calm:Bool
 pn:List (Addr × Obj)
 xe:Value->Shared->Prop
abbrev frs(l:List Env):List Addr:=l.filterMap (·.frame)
noncomputable abbrev Cx.fs(X:Cx):List Addr:=frs X.outer
abbrev Vis(sc:Scope)(x:Str):Prop:=sc.names.lookup x=aa .local\/sc.names.lookup x=aa .cell\/sc.names.lookup x=aa .free
abbrev Loc(sc:Scope)(x:Str):Prop:=sc.names.lookup x=aa .local\/sc.names.lookup x=aa .cell
abbrev Oc(env:Env)(h:Heap)(m:Str->Option Value)(x:Str)(u:Value):Prop:=
 (env.kindOf x=aa .local/\m x=aa u)\/((env.kindOf x=aa .cell\/env.kindOf x=aa .free)/\∃c,env.cells.lookup x=aa c/\h.IsCell c (aa u))
structure Cx.Ok(X:Cx):Prop where
 mod:Mod X.K X.mg X.base
 kind:X.env.scope.kind = .function
 glob:X.env.globals=Vz
 blt:X.env.builtins=Vj
 above:X.s₀.heap.objs.size<=X.env.locals
 inj:∀x y c,X.env.cells.lookup x=aa c->X.env.cells.lookup y=aa c->x=y
 has:∀x,(X.env.kindOf x=aa .cell\/X.env.kindOf x=aa .free)->∃c,X.env.cells.lookup x=aa c
 cab:∀x c,X.fn x=aT->X.env.cells.lookup x=aa c->X.s₀.heap.objs.size<=c
 hd:X.calm=aT->X.A.handled=aD
 frames:X.A.frames=aa X.stack
 stk:X.stack=X.outer\/(X.stack=X.env::X.outer/\X.env.frame=aa X.env.locals)
 exf:∀b ∈ X.ex,b ≠ X.env.locals/\∀x c,X.env.cells.lookup x=aa c->c ≠ b
 bs:∀b o,X.base.get? b=aa o->X.s₀.heap.get? b=aa o/\X.H₀ b=aD
 bsz:X.base.objs.size<=X.s₀.heap.objs.size
 noex:∀b o,X.base.get? b=aa o->b ∉ X.ex
 exfs:∀b ∈ X.ex,b ∉ X.fs
 funs:X.s₀.heap.FunFrames X.base X.outer
 frf:∀b ∈ X.fs,X.H₀ b=aD
structure Inv(X:Cx)(pins:List (Addr × Obj))(σ:List (Option V))(H:Hp)(s:Shared):Prop where
 ok:X.Ok
 os:s.os=X.s₀.os
 bare:AllBare s.gens
 base:Un X.fs X.ex X.H₀ H X.s₀.heap s.heap
 loc:∃m,s.heap.Ns X.env.locals m/\∀ (i:Nat) (x:Str) (v:V),X.N[i]?=aa x->σ[i]?=aa (aa v)->Vis X.env.scope x->∃u,aI v u/\Oc X.env s.heap m x u
 cell:∀x c,X.env.cells.lookup x=aa c->∃v,s.heap.IsCell c v
 free:H X.env.locals=aD
 freeC:∀x c,X.env.cells.lookup x=aa c->H c=aD
 pin:∀p ∈ X.pn++pins,s.heap.get? p.1=aa p.2/\H p.1=aD/\p.1 ≠ X.env.locals/\p.1 ∉ X.fs/\∀v,p.2.data ≠ .cell v
 hok:HOk X.prog X.w H s.heap
 len:σ.length=X.N.length
section
variable {X:Cx} {pins:List (Addr × Obj)} {σ:List (Option V)} {H H':Hp} {s:Shared} {h':Heap}
def Cx.Ok.nofr(ok:X.Ok)(e:X.base.get? b=aa o):b ∉ X.fs:=λhb=>by
 have:=(ok.funs.mem hb).1;rw[e] at this;cases this
def Inv.bs(I:Inv X pins σ H s):∀b o,X.base.get? b=aa o->s.heap.get? b=aa o/\H b=aD:=λb o e=>
 ⟨I.base.keep b o (I.ok.bs b o e).1 (I.ok.bs b o e).2 (I.ok.nofr e) (I.ok.noex b o e),I.base.free b o (I.ok.bs b o e).1 (I.ok.bs b o e).2 (I.ok.noex b o e)⟩
def Inv.bk(I:Inv X pins σ H s):∀b o,X.base.get? b=aa o->s.heap.get? b=aa o:=λb o e=>(I.bs b o e).1
def Inv.mod(I:Inv X pins σ H s):Mod X.K X.mg X.base:=I.ok.mod
def Inv.kIn(I:Inv X pins σ H s):X.K.In s.heap:=I.ok.mod.kin.keeps I.bk
def Inv.lt(I:Inv X pins σ H s):X.env.locals < s.heap.objs.size:=let ⟨_,hn,_⟩:=I.loc;hn.lt
def Inv.sz(I:Inv X pins σ H s):X.s₀.heap.objs.size<=s.heap.objs.size:=ZH I.ok.above (Xc I.lt)
def Inv.nofs(I:Inv X pins σ H s)(h:s.heap.objs.size<=a):a ∉ X.fs:=λhb=>by
 obtain⟨_,o,b,_⟩:=I.ok.funs.mem hb;exact absurd (ZF (Zp b) (ZH I.sz h)) (ZS _)
def Inv.cne(I:Inv X pins σ H s):∀x c,X.env.cells.lookup x=aa c->c ≠ X.env.locals:=λx c e z=>by
 obtain⟨v,o,f,hd⟩:=I.cell x c e;obtain⟨m,⟨O,g,E,h,b,_⟩,_⟩:=I.loc;rw[z,h] at f;cases f;rw[b] at hd;cases hd
def Inv.funs(I:Inv X pins σ H s):s.heap.FunFrames X.base X.outer:=by
 have all:∀ (l:List Env),(∀b ∈ frs l,b ∈ X.fs)->X.s₀.heap.FunFrames X.base l->s.heap.FunFrames X.base l:=by
  intro l
  induction l with
  |nil=>intro _ _;trivial
  |cons env r q=>
   intro hs p;obtain⟨g,⟨L,o,c,j,n,hd⟩,f⟩:=p;have h:L ∈ X.fs:=hs L (by unfold frs;rw[Y9,c];exact Zj);obtain⟨sl,e⟩:=I.base.slot L o n (I.ok.frf L h) h λz=>I.ok.exfs L z h;exact⟨g,⟨L,_,c,j,e,hd⟩,q (λb hb=>hs b (by unfold frs;rw[Y9,c];exact Zm _ hb)) f⟩
 exact all X.outer (λ_ hb=>hb) I.ok.funs
def Inv.stack(I:Inv X pins σ H s):s.heap.FunFrames X.base X.stack:=by
 rcases I.ok.stk with e |⟨e,hf⟩
 ·rw[e];exact I.funs
 ·rw[e];obtain⟨m,h,_⟩:=I.loc;refine .cons (by rw[I.ok.kind];decide) hf h ?_ I.funs;exact Heap.get?_none_of_le (ZH I.ok.bsz I.ok.above)
def Inv.stkSub(I:Inv X pins σ H s):∀b ∈ frs X.stack,b ∈ X.env.locals::X.fs:=λb hb=>by
 rcases I.ok.stk with e |⟨e,hf⟩
 ·rw[e] at hb;exact Zm _ hb
 ·rw[e] at hb;unfold frs at hb;rw[Y9,hf] at hb;exact hb
def Inv.stkFree(I:Inv X pins σ H s):∀b ∈ frs X.stack,H b=aD:=λb hb=>by
 rcases Zk.mp (I.stkSub b hb) with e |hb
 ·rw[e];exact I.free
 ·obtain⟨_,o,h,_⟩:=I.ok.funs.mem hb;exact I.base.free b o h (I.ok.frf b hb) λz=>I.ok.exfs b z hb
def Inv.step{g':Array GenState}{t':Nat}{d':Drawn}{ch:List Addr}(I:Inv X pins σ H s)
  (f:∀b ∈ ch,(b ∈ X.ex\/X.s₀.heap.objs.size<=b)/\b ≠ X.env.locals/\(∀x c,X.env.cells.lookup x=aa c->c ≠ b)/\∀p ∈ X.pn++pins,p.1 ≠ b)
  (keep:∀b o,b ≠ X.env.locals->b ∉ X.fs->b ∉ ch->s.heap.get? b=aa o->H b=aD->h'.get? b=aa o)
  (slot:∀b o,b ≠ X.env.locals->b ∈ X.fs->b ∉ ch->s.heap.get? b=aa o->H b=aD->∃sl,h'.get? b=aa { o with slots:=sl }) (free:∀b o,b ∉ ch->s.heap.get? b=aa o->H b=aD->H' b=aD)
  (there:∀b o,b ∉ ch->s.heap.get? b=aa o->∃O,h'.get? b=aa O)
  (tups:∀b y,H b=aa (.tup y)->H' b=aa (.tup y)) (frzs:∀b o u,H b=aa (.frz o u)->H' b=aa (.frz o u)) (tbls:∀b ps,H b=aa (.tbl ps)->∃more,H' b=aa (.tbl (ps++more)))
  (ns:∀m,s.heap.Ns X.env.locals m->h'.Ns X.env.locals m) (hok:HOk X.prog X.w H' h') (hg:AllBare g') :
  Inv X pins σ H' { s with heap:=h',gens:=g',drawn:=d',toks:=t' }:=by
 have L:∀b o,X.s₀.heap.get? b=aa o->b ≠ X.env.locals:=λb o e=>Zz (ZF (Zp e) I.ok.above)
 have j:∀b o,X.s₀.heap.get? b=aa o->b ∉ X.ex->b ∉ ch:=λb o e h hb=>by
  rcases (f b hb).1 with z |z
  ·exact h z
  ·exact absurd (ZF (Zp e) z) (ZS _)
 have C:∀x c,X.env.cells.lookup x=aa c->∀v,s.heap.IsCell c v->h'.IsCell c v:=λx c e v ⟨o,B,hd⟩=>by
  have g:c ∉ ch:=λz=>(f c z).2.2.1 x c e rfl;by_cases U:c ∈ X.fs
  ·obtain⟨sl,q⟩:=slot c o (I.cne x c e) U g B (I.freeC x c e);exact⟨_,q,hd⟩
  ·exact⟨o,keep c o (I.cne x c e) U g B (I.freeC x c e),hd⟩
 refine⟨I.ok,I.os,hg,⟨λb o e n hb h=>?_,λb o e n hb h=>?_,λb o e n h=>?_,λb o e h=>?_,λb y e=>tups b y (I.base.tups b y e),λb o y e=>frzs b o y (I.base.frzs b o y e),λb ps e=>?_⟩,?_,λx c e=>?_,?_,λx c e=>?_,λp Y=>?_,hok,I.len⟩
 ·exact keep b o (L b o e) hb (j b o e h) (I.base.keep b o e n hb h) (I.base.free b o e n h)
 ·obtain⟨sl,E⟩:=I.base.slot b o e n hb h;obtain⟨Q,J⟩:=slot b _ (L b o e) hb (j b o e h) E (I.base.free b o e n h);exact⟨Q,J⟩
 ·obtain⟨O,E⟩:=I.base.there b o e h;exact free b O (j b o e h) E (I.base.free b o e n h)
 ·obtain⟨O,E⟩:=I.base.there b o e h;exact there b O (j b o e h) E
 ·obtain⟨m1,E⟩:=I.base.tbls b ps e;obtain⟨Z,J⟩:=tbls b _ E;exact⟨m1++Z,by rw[J,Array.append_assoc]⟩
 ·obtain⟨m,hn,hl⟩:=I.loc;refine⟨m,ns m hn,λi x v E J e3=>?_⟩;obtain⟨u,r,l⟩:=hl i x v E J e3;refine⟨u,r,?_⟩;rcases l with l |⟨k,c,e,z⟩
  ·exact .inl l
  ·exact .inr ⟨k,c,e,C x c e _ z⟩
 ·obtain⟨v,z⟩:=I.cell x c e;exact⟨v,C x c e v z⟩
 ·obtain⟨m,⟨o,_,_,B,_⟩,_⟩:=I.loc;exact free _ o (λz=>(f _ z).2.1 rfl) B I.free
 ·obtain⟨v,o,B,hd⟩:=I.cell x c e;exact free c o (λz=>(f c z).2.2.1 x c e rfl) B (I.freeC x c e)
 ·obtain⟨e,n,ne,T,d⟩:=I.pin p Y;have g:p.1 ∉ ch:=λz=>(f p.1 z).2.2.2 p Y rfl;exact⟨keep p.1 p.2 ne T g e n,free p.1 p.2 g e n,ne,T,d⟩
def Inv.un{t':Nat}(I:Inv X pins σ H s)(u:Un X.fs [] H H' s.heap h')(hok:HOk X.prog X.w H' h'):Inv X pins σ H' { s with heap:=h',toks:=t' }:=by
 obtain⟨m,⟨o,y,q,f,r⟩,_⟩:=id I.loc;obtain⟨sl,p⟩:=u.any f I.free (by simp)
 exact I.step (g':=s.gens) (d':=s.drawn) (ch:=[]) (λ_ z=>nomatch z) (λb o _ hb _ e n=>u.keep b o e n hb (by simp)) (λb o _ hb _ e n=>u.slot b o e n hb (by simp)) (λb o _ e n=>u.free b o e n (by simp)) (λb o _ e=>u.there b o e (by simp)) u.tups u.frzs u.tbls (λv g=>by
  obtain⟨O,c,E,h,j⟩:=g;rw[f] at h;cases h;exact⟨_,c,E,p,j⟩) hok I.bare
def Inv.call{g':Array GenState}{t':Nat}{d':Drawn}{ch:List Addr}(I:Inv X pins σ H s)(u:Un (frs X.stack) ch H H' s.heap h')(hok:HOk X.prog X.w H' h')(C:AllBare g')
  (f:∀b ∈ ch,(b ∈ X.ex\/X.s₀.heap.objs.size<=b)/\b ≠ X.env.locals/\(∀x c,X.env.cells.lookup x=aa c->c ≠ b)/\∀p ∈ X.pn++pins,p.1 ≠ b) :
  Inv X pins σ H' { s with heap:=h',gens:=g',drawn:=d',toks:=t' }:=by
 obtain⟨m,⟨o,Q,L,v,r⟩,_⟩:=id I.loc;obtain⟨sl,j⟩:=u.any v I.free λz=>(f _ z).2.1 rfl
 exact I.step (ch:=ch) f (λb o j hb h e n=>u.keep b o e n (λz=>(Zk.mp (I.stkSub b z)).elim j hb) h) (λb o _ _ h e n=>u.any e n h) (λb o h e n=>u.free b o e n h) (λb o h e=>u.there b o e h) u.tups u.frzs u.tbls (λJ y=>by
  obtain⟨O,E,q,g,B⟩:=y;rw[v] at g;cases g;exact⟨_,E,q,j,B⟩) hok C
def Inv.turned{t':Nat}{it:Addr}(I:Inv X pins σ H s)(k:∀b o,b ≠ it->s.heap.get? b=aa o->h'.get? b=aa o)(y:H it=aD)(g:it ≠ X.env.locals)
  (L:it ∈ X.ex\/X.s₀.heap.objs.size<=it) (C:∀x c,X.env.cells.lookup x=aa c->c ≠ it) (B:∀p ∈ X.pn++pins,p.1 ≠ it):Inv X pins σ H { s with heap:=h',toks:=t' }:=by
 have f:∀b u,H b=aa u->b ≠ it:=λb u e z=>by rw[z,y] at e;cases e
 refine I.step (g':=s.gens) (d':=s.drawn) (ch:=[it]) (λb hb=>?_) (λb o _ _ h e _=>k b o (λz=>h (by simp[z])) e) (λb o _ _ h e _=>⟨o.slots,k b o (λz=>h (by simp[z])) e⟩) (λ_ _ _ _ n=>n)
  (λb o h e=>⟨o,k b o (λz=>h (by simp[z])) e⟩) (λ_ _ e=>e) (λ_ _ _ e=>e) (λb ps e=>⟨#[],by rw[e];simp⟩) (λm j=>?_) (λb u e=>?_) I.bare
 ·have e:b=it:=by simpa using hb
  subst e;exact⟨L,g,C,B⟩
 ·obtain⟨o,O,E,J,r⟩:=j;exact⟨o,O,E,k _ o (Ne.symm g) J,r⟩
 ·refine(I.hok b u e).stay (λc v h q=>k c v ?_ q) (λ_ q=>q) λ_ _ q=>q;rcases h with z |z
  ·rw[z];exact f b u e
  ·exact f c _ z
def Inv.tok(I:Inv X pins σ H s)(t:Nat):Inv X pins σ H { s with toks:=t }:=I.un (h':=s.heap) (t':=t) Un.refl I.hok
def Inv.kept{t':Nat}(I:Inv X pins σ H s)(k:∀b u,s.heap.get? b=aa u->h'.get? b=aa u):Inv X pins σ H { s with heap:=h',toks:=t' }:=I.un (Un.kept k) (I.hok.kept k)
def Inv.laid{a:Addr}{o:HO}{t':Nat}(I:Inv X pins σ H s)(k:∀b u,s.heap.get? b=aa u->h'.get? b=aa u)(h:s.heap.objs.size<=a)(new:bq X.prog X.w (upd H a o) h' a o) :
  Inv X pins σ (upd H a o) { s with heap:=h',toks:=t' }:=I.un (Un.laid k h (I.hok.fresh h)) (I.hok.laid k h new)
def Inv.write{t':Nat}(I:Inv X pins σ H s)(c:Mut (H x))(f:e=x\/H e=aa (.own x))(k:∀b u,b ≠ e->s.heap.get? b=aa u->h'.get? b=aa u)(h:∃u,h'.get? e=aa u)
  (new:bq X.prog X.w (upd H x o) h' x o):Inv X pins σ (upd H x o) { s with heap:=h',toks:=t' }:=I.un (Un.write c f k h) (I.hok.write c f k h new)
def Inv.pins_of(I:Inv X pins σ H s)(h:∀p ∈ b,s.heap.get? p.1=aa p.2/\H p.1=aD/\p.1 ≠ X.env.locals/\p.1 ∉ X.fs/\∀v,p.2.data ≠ .cell v):Inv X b σ H s:=
 ⟨I.ok,I.os,I.bare,I.base,I.loc,I.cell,I.free,I.freeC,λp c=>(ZM.mp c).elim (λz=>I.pin p (Z9 _ z)) (h p),I.hok,I.len⟩
def qd{N:List Str}(hN:N.Nodup){i j:Nat}{x:Str}(a:N[i]?=aa x)(b:N[j]?=aa x):i=j:=by
 obtain⟨f,E⟩:=Zb.mp a;obtain⟨h,c⟩:=Zb.mp b;exact(Xp hN).mp (E.trans c.symm)
def mX{M:Model}{A:Around}{E:Value->Shared->Prop}{i:Nat}{x:Str}{v:V}{u:Value}{Q:Unit->Shared->Prop}(I:Inv X pins σ H s)(hN:X.N.Nodup)(hi:X.N[i]?=aa x)(g:Loc X.env.scope x)(r:aI v u)
  (h:∀s',Inv X pins (σ.set i (aa v)) H s'->(∃a,Heap.SameBut a s.heap s'.heap/\(a=X.env.locals\/X.env.cells.lookup x=aa a))->Q () s') (hf:X.fn x=aT\/X.env.scope.names.lookup x=aa .local:=by first |exact .inl rfl |exact .inr rfl |assumption):wpAny M A (storeName X.env x u) Q E s:=by
 obtain⟨m,hn,hl⟩:=id I.loc;have hcls:(X.env.scope.kind == .class || (X.env.scope.kind == .module && X.env.locals != X.env.globals))=aW:=by rw[I.ok.kind];rfl
 have J:i < σ.length:=by rw[I.len];exact(Zb.mp hi).1
 have cne:=I.cne
 have T:∀ {a:Addr} {h':Heap},(∃o,s.heap.get? a=aa o/\H a=aD)->Heap.SameBut a s.heap h'->HOk X.prog X.w H h':=λ{a h'} ha hs b ob e=>by
  obtain⟨_,_,B⟩:=ha;refine(I.hok b ob e).stay (λc w' hc q=>(hs.2 c ?_).trans q) (λ_ q=>q) λ_ _ q=>q;rintro rfl;rcases hc with rfl |hc
  ·rw[B] at e;cases e
  ·rw[B] at hc;cases hc
 rcases g with hk |hk
 ·refine wpAny_storeName_local hk hn (λh' hn' hs=>?_) hcls;obtain⟨oL,_,_,hoL,_⟩:=id hn;refine h _ ⟨I.ok,I.os,I.bare,⟨λb o e n hb g=>?_,λb o e n hb g=>?_,I.base.free,λb o e g=>?_,I.base.tups,I.base.frzs,I.base.tbls⟩,⟨_,hn',λj y v' f C e3=>?_⟩,λy c e=>?_,I.free,I.freeC,λp hp=>?_,T ⟨oL,hoL,I.free⟩ hs,by simpa using I.len⟩ ⟨_,hs,.inl rfl⟩
  ·exact(hs.2 b (Zz (ZF (Zp e) I.ok.above))).trans (I.base.keep b o e n hb g)
  ·obtain⟨sl,f⟩:=I.base.slot b o e n hb g;exact⟨sl,(hs.2 b (Zz (ZF (Zp e) I.ok.above))).trans f⟩
  ·obtain⟨o',f⟩:=I.base.there b o e g;exact⟨o',(hs.2 b (Zz (ZF (Zp e) I.ok.above))).trans f⟩
  ·by_cases O:j=i
   ·subst O;rw[hi] at f;cases f;rw[ZN J] at C;cases C;exact⟨u,r,.inl ⟨hk,by simp⟩⟩
   ·rw[ZE (Ne.symm O)] at C;obtain⟨u',r',q⟩:=hl j y v' f C e3;refine⟨u',r',?_⟩;rcases q with ⟨k,e⟩ |⟨k,c,e,z⟩
    ·refine .inl ⟨k,?_⟩;have:y ≠ x:=λe=>O (qd hN f (e ▸ hi));simp[this,e]
    ·exact .inr ⟨k,c,e,z.sameBut hs (cne y c e)⟩
  ·obtain⟨w',z⟩:=I.cell y c e;exact⟨w',z.sameBut hs (cne y c e)⟩
  ·obtain⟨e,n,ne,nf,d⟩:=I.pin p hp;exact⟨(hs.2 p.1 ne).trans e,n,ne,nf,d⟩
 ·have L:X.fn x=aT:=by
   rcases hf with z |z
   ·exact z
   ·rw[z] at hk;cases hk
  obtain⟨c,hc⟩:=I.ok.has x (.inl hk);obtain⟨w',z⟩:=I.cell x c hc;refine wpAny_storeName_cell I.ok.kind hk hc z (λh' Z hs=>?_);obtain⟨oc,U,hocd⟩:=id z;refine h { s with heap:=h' } ⟨I.ok,I.os,I.bare,⟨λb o e n hb g=>?_,λb o e n hb g=>?_,I.base.free,λb o e g=>?_,I.base.tups,I.base.frzs,I.base.tbls⟩,⟨m,hn.sameBut hs (Ne.symm (cne x c hc)),λj y v' f C e3=>?_⟩,λy c' e=>?_,I.free,I.freeC,λp hp=>?_,T ⟨oc,U,I.freeC x c hc⟩ hs,by simpa using I.len⟩ ⟨c,hs,.inr hc⟩
  ·exact(hs.2 b (Zz (ZF (Zp e) (I.ok.cab x c L hc)))).trans (I.base.keep b o e n hb g)
  ·obtain⟨sl,f⟩:=I.base.slot b o e n hb g;exact⟨sl,(hs.2 b (Zz (ZF (Zp e) (I.ok.cab x c L hc)))).trans f⟩
  ·obtain⟨o',f⟩:=I.base.there b o e g;exact⟨o',(hs.2 b (Zz (ZF (Zp e) (I.ok.cab x c L hc)))).trans f⟩
  ·by_cases O:j=i
   ·subst O;rw[hi] at f;cases f;rw[ZN J] at C;cases C;exact⟨u,r,.inr ⟨.inl hk,c,hc,Z⟩⟩
   ·rw[ZE (Ne.symm O)] at C;obtain⟨u',r',q⟩:=hl j y v' f C e3;refine⟨u',r',?_⟩;rcases q with q |⟨k,c',e,z'⟩
    ·exact .inl q
    ·refine .inr ⟨k,c',e,z'.sameBut hs ?_⟩;rintro rfl;exact O (qd hN f (I.ok.inj _ _ _ e hc ▸ hi))
  ·by_cases Y:c'=c
   ·subst Y;exact⟨_,Z⟩
   ·obtain⟨w2,z2⟩:=I.cell y c' e;exact⟨w2,z2.sameBut hs Y⟩
  ·obtain⟨e,n,ne,nf,d⟩:=I.pin p hp;refine⟨(hs.2 p.1 ?_).trans e,n,ne,nf,d⟩;intro q;rw[q,U] at e;have q':oc=p.2:=Option.some.inj e;exact d w' (by rw[<-q'];exact hocd)
def cH{i:Nat}(I:Inv X pins σ H s)(hN:X.N.Nodup)(hi:X.N[i]?=aa x)(f:Loc X.env.scope x)(r:aI v u)
  (h:∀b,Inv X pins (σ.set i (aa v)) H b->Q () b) (g:X.fn x=aT\/X.env.scope.names.lookup x=aa .local:=by first |exact .inl rfl |exact .inr rfl |assumption):wpAny M A (storeName X.env x u) Q E s:=
 mX I hN hi f r (λb c _=>h b c) g
def Inv.call'(I:Inv X pins σ H s)(j:s'.os=s.os)(u:Un (frs X.stack) ch H H' s.heap s'.heap)(hok:HOk X.prog X.w H' s'.heap)(g:AllBare s'.gens)
  (h:∀b ∈ ch,(b ∈ X.ex\/X.s₀.heap.objs.size<=b)/\b ≠ X.env.locals/\(∀x c,X.env.cells.lookup x=aa c->c ≠ b)/\∀p ∈ X.pn++pins,p.1 ≠ b):Inv X pins σ H' s':=by
 obtain⟨h',n,f,T,o⟩:=s';have e:o=s.os:=j;subst e;exact I.call (g':=n) (t':=T) (d':=f) u hok g h
end
@[inline]abbrev XK:=Value->Option Addr->Hp->Prop
@[inline]abbrev St:=List (Option V)
@[inline]abbrev VK:=V->Hp->Prop
@[inline]abbrev TE:=St->Hp->VK->Prop
@[inline]abbrev TT:=St->Hp->(Bool->Hp->Prop)->Prop
@[inline]abbrev TA:=St->Hp->(List V->Hp->Prop)->Prop
structure Ends where
 nx:St->Hp->Prop
 rt:VK
 bk:St->Hp->Prop:=λ_ _=>False
 ct:St->Hp->Prop:=λ_ _=>False
@[inline]abbrev TS:=Ends->St->Hp->Prop
abbrev EP(X:Cx)(p:List (Addr × Obj))(c:St)(Q:VK)(u:Value)(b:Shared):Prop:=∃v h,Inv X p c h b/\aI v u/\Q v h
abbrev TP(X:Cx)(p:List (Addr × Obj))(f:St)(Q:Bool->Hp->Prop)(b:Bool)(c:Shared):Prop:=∃h,Inv X p f h c/\Q b h
abbrev AP(X:Cx)(p:List (Addr × Obj))(c:St)(Q:List V->Hp->Prop)(u:List Value)(b:Shared):Prop:=∃v h,Inv X p c h b/\aP v u/\Q v h
abbrev SP(X:Cx)(p:List (Addr × Obj))(D:Ends)(f:Flow)(c:Shared):Prop:=
 match f with
 |.next=>∃b h,Inv X p b h c/\D.nx b h
 |.brk=>∃b h,Inv X p b h c/\D.bk b h
 |.cont=>∃b h,Inv X p b h c/\D.ct b h
 |.ret u=>∃v b h,Inv X p b h c/\aI v u/\D.rt v h
abbrev PE(X:Cx)(e:Expr)(t:TE):Prop:=
 ∀ (p:List (Addr × Obj)) (s:Shared) (b:St) (H:Hp) (Q:VK),Inv X p b H s->t b H Q->wpAny (model X.prog X.w) X.A (eval e X.env) (EP X p b Q) X.xe s
abbrev PT(X:Cx)(e:Expr)(t:TT):Prop:=
 ∀ (p:List (Addr × Obj)) (s:Shared) (b:St) (H:Hp) (Q:Bool->Hp->Prop),Inv X p b H s->t b H Q->wpAny (model X.prog X.w) X.A (isTrue e X.env (eval e X.env)) (TP X p b Q) X.xe s
abbrev PW(X:Cx)(e:Expr)(t:TT):Prop:=
 ∀ (b:Sem Value) (p:List (Addr × Obj)) (s:Shared) (c:St) (H:Hp) (Q:Bool->Hp->Prop),Inv X p c H s->t c H Q->wpAny (model X.prog X.w) X.A (isTrue e X.env b) (TP X p c Q) X.xe s
def PW.pt(h:PW X e t):PT X e t:=h _
abbrev PA(X:Cx)(E:List Expr)(t:TA):Prop:=
 ∀ (pos:Pos) (p:List (Addr × Obj)) (s:Shared) (b:St) (H:Hp) (Q:List V->Hp->Prop),Inv X p b H s->t b H Q->wpAny (model X.prog X.w) X.A (spliced (backTo pos (VP E X.env))) (AP X p b Q) X.xe s
abbrev PS(X:Cx)(st:Stmt)(t:TS):Prop:=
 ∀ (p:List (Addr × Obj)) (s:Shared) (b:St) (H:Hp) (D:Ends),Inv X p b H s->t D b H->wpAny (model X.prog X.w) X.A (exec st X.env) (SP X p D) X.xe s
abbrev PSs(X:Cx)(st:List Stmt)(t:TS):Prop:=
 ∀ (p:List (Addr × Obj)) (s:Shared) (b:St) (H:Hp) (D:Ends),Inv X p b H s->t D b H->wpAny (model X.prog X.w) X.A (execs st X.env) (SP X p D) X.xe s
def thn{b:Type}{t:Sem b}{Q q:b->Shared->Prop}{M:Model}{A:Around}{E:Value->Shared->Prop}{s:Shared}(h:wpAny M A t Q E s)(c:∀a s,Q a s->q a s):wpAny M A t q E s:=V8 h c λ_ _ x=>x
section
variable {X:Cx}
abbrev K3(i:Nat):TE:=λb H Q=>∃v,b[i]?=aa (aa v)/\Q v H
abbrev tC(v:V):TE:=λ_ H Q=>Q v H
def Gr{i:Nat}(hN:X.N[i]?=aa x)(o:Vis X.env.scope x)(hd:(x == ("__debug__" : Str))=aW:=by decide)(g:(x == ("__classdict__" : Str))=aW:=by decide):PE X (.Name x pos) (K3 i):=by
 intro p s n H Q I h;obtain⟨v,e,h⟩:=h;obtain⟨m,y,z⟩:=I.loc;obtain⟨u,r,l⟩:=z i x v hN e o;have f:EP X p n Q u s:=⟨v,H,I,r,h⟩;rcases l with ⟨hk,q⟩ |⟨hk,c,j,b⟩
 ·exact wpAny_Name (wpAny_loadName_local I.ok.kind hk y q f) hd
 ·rcases hk with hk |hk
  ·exact wpAny_Name (wpAny_loadName_cell I.ok.kind hk j b f) hd
  ·exact wpAny_Name (wpAny_loadName_free I.ok.kind hk j b f g) hd
def Gs{i j pos}:PE X (.Constant (.int i) j pos) (tC (.int i)):=λ_ _ _ H _ I h=>wpAny_Constant_int ⟨.int i,H,I.tok _,⟨_,rfl⟩,h⟩
def K4{b j pos}:PE X (.Constant (.bool b) j pos) (tC (.bl b)):=λ_ _ _ H _ I h=>Constant_bool ⟨.bl b,H,I,rfl,h⟩
def Gu{j pos}:PE X (.Constant .none j pos) (tC .non):=λ_ _ _ H _ I h=>Constant_none ⟨.non,H,I,rfl,h⟩
def Gv{x j pos}:PE X (.Constant (.str x) j pos) (tC (.str x)):=λ_ _ _ H _ I h=>Calls.Constant_str ⟨.str x,H,I.tok _,⟨_,rfl⟩,h⟩
abbrev Gl(X:Cx)(x:Str):Prop:=X.env.kindOf x=aa .globalImplicit
def ul(I:Inv X p f H s)(b:Gl X x)(c:X.mg x=aa u)(h:Q u s)
  (hd:(x == ("__debug__" : Str))=aW:=by decide):wpAny (model X.prog X.w) X.A (eval (.Name x pos) X.env) Q E s:=
 WB I.ok.kind b (Calls.loadGlobal_global (by rw[I.ok.glob];exact I.mod.glob.keeps I.bk) c h) hd
def gX(I:Inv X p o H s)(f:Gl X x)(g:X.mg x=aD)(b:Vh x=aa u)(h:Q u s)
  (j:x ≠ "__name__" := by decide) (hd:(x == ("__debug__" : Str))=aW:=by decide):wpAny (model X.prog X.w) X.A (eval (.Name x pos) X.env) Q E s:=by
 obtain⟨q,n,c⟩:=I.mod.blt;exact WB I.ok.kind f (Calls.loadGlobal_builtin (by rw[I.ok.glob];exact I.mod.glob.keeps I.bk) g (by rw[I.ok.blt];exact n.keeps I.bk) ((c x j).trans b) h) hd
def BO(b:Gl X x)(c:X.mg x=aa u)(r:aI v u)(hd:(x == ("__debug__" : Str))=aW:=by decide):PE X (.Name x pos) (tC v):=
 λ_ _ _ H _ I h=>ul I b c ⟨v,H,I,r,h⟩ hd
def iz(c:Gl X x)(f:X.mg x=aD)(b:Vh x=aa u)(r:aI v u)(g:x ≠ "__name__" := by decide)(hd:(x == ("__debug__" : Str))=aW:=by decide):PE X (.Name x pos) (tC v):=
 λ_ _ _ H _ I h=>gX I c f b ⟨v,H,I,r,h⟩ g hd
variable {a b:Expr} {ta tb:TE} {pos:Pos}
variable {tA tB':TT} {rest:List Expr}
abbrev K5(t u:TT):TT:=λf H Q=>t f H λc h=>if c=aT then u f h Q else Q aW h
abbrev tOr(t u:TT):TT:=λf H Q=>t f H λc h=>if c=aT then Q aT h else u f h Q
abbrev K6(t:TT):TT:=λf H Q=>t f H λc h=>Q (!c) h
def BP(f:PT X a tA):PW X (.BoolOp .And [a] pos) tA:=by
 intro j p s g H Q I h;refine isTrue_and (thn (f p s g H Q I h) λc n e=>?_);cases c with
 |true=>exact isTrue_and_nil e
 |false=>exact e
def Gw(f:PT X a tA):PW X (.BoolOp .Or [a] pos) tA:=by
 intro j p s g H Q I h;refine isTrue_or (thn (f p s g H Q I h) λc n e=>?_);cases c with
 |false=>exact isTrue_or_nil e
 |true=>exact e
def xN(n:PT X a tA)(hb:PW X (.BoolOp .And (b::rest) pos) tB'):PW X (.BoolOp .And (a::b::rest) pos) (K5 tA tB'):=by
 intro o p s f H Q I h;refine isTrue_and (thn (n p s f H _ I h) λc u ⟨j,g,q⟩=>?_);cases c with
 |true=>exact hb o p u f j Q g q
 |false=>exact⟨j,g,q⟩
def Ft(n:PT X a tA)(hb:PW X (.BoolOp .Or (b::rest) pos) tB'):PW X (.BoolOp .Or (a::b::rest) pos) (tOr tA tB'):=by
 intro o p s f H Q I h;refine isTrue_or (thn (n p s f H _ I h) λc u ⟨j,g,q⟩=>?_);cases c with
 |true=>exact⟨j,g,q⟩
 |false=>exact hb o p u f j Q g q
def Gx(f:PT X a tA):PT X (.UnaryOp .Not a pos) (K6 tA):=by
 intro p s g H Q I h;exact isTrue_not (f p s g H (λc j=>Q (!c) j) I h)
abbrev Fu(ta tb:TE):TE:=λf H Q=>ta f H λx h=>∃c,x = .bl c/\if c=aT then tb f h Q else Q (.bl aW) h
abbrev K7(ta tb:TE):TE:=λf H Q=>ta f H λx h=>∃c,x = .bl c/\if c=aT then Q (.bl aT) h else tb f h Q
def xO{op}(h:PE X a t):PE X (.BoolOp op [a] pos) t:=λp s c H Q I f=>BoolOp_one (h p s c H Q I f)
def xP(n:PE X a ta)(hb:PE X (.BoolOp .And (b::rest) pos) tb):PE X (.BoolOp .And (a::b::rest) pos) (Fu ta tb):=by
 intro p s f H Q I h;refine BoolOp_and (thn (n p s f H _ I h) λv o ⟨x,j,g,r1,q⟩=>?_);obtain⟨c,rfl,q⟩:=q;cases r1;refine Ur ?_;cases c with
 |true=>exact hb p o f j Q g q
 |false=>exact⟨.bl aW,j,g,rfl,q⟩
def Fv(n:PE X a ta)(hb:PE X (.BoolOp .Or (b::rest) pos) tb):PE X (.BoolOp .Or (a::b::rest) pos) (K7 ta tb):=by
 intro p s f H Q I h;refine BoolOp_or (thn (n p s f H _ I h) λv o ⟨x,j,g,r1,q⟩=>?_);obtain⟨c,rfl,q⟩:=q;cases r1;refine Ur ?_;cases c with
 |false=>exact hb p o f j Q g q
 |true=>exact⟨.bl aT,j,g,rfl,q⟩
abbrev tIf(t:TT)(ta tb:TE):TE:=λf H Q=>t f H λc h=>if c=aT then ta f h Q else tb f h Q
def xQ{c:Expr}(hc:PT X c tA)(o:PE X a ta)(hb:PE X b tb):PE X (.IfExp c a b pos) (tIf tA ta tb):=by
 intro p s f H Q I h;refine wpAny_IfExp (thn (hc p s f H _ I h) λd n ⟨j,g,q⟩=>?_);cases d with
 |true=>exact o p n f j Q g q
 |false=>exact hb p n f j Q g q
end
abbrev SqL(K:WW)(H:Hp)(a:Addr)(X:List V):Prop:=
 Rd H a (.lst X) ∨
  ∃ (o:Obj) (I:Array Value) (n:Nat),K.lookup a=aa o/\o.cls = .type "list"/\o.dict=aD/\o.data = .seq I n/\I.size<=sizeLine/\aP X I.toList
abbrev SqT(K:WW)(H:Hp)(a:Addr)(X:List V):Prop:=
 Rd H a (.tup X) ∨
  ∃ (o:Obj) (I:Array Value) (n:Nat),K.lookup a=aa o/\o.cls = .type "tuple"/\o.data = .seq I n/\I.size<=sizeLine/\aP X I.toList
abbrev Od:Value->Option V
 |.none=>aa .non
 |.bool b=>aa (.bl b)
 |.int i _=>aa (.int i)
 |.str x _=>aa (.str x)
 |.bytes b _=>aa (.byt b)
 |.float b _=>aa (.flt b)
 |.ref a=>aa (.ref a)
 |.type n=>aa (.ty n)
 |_=>aD
def aI.abs(r:aI x u):Od u=aa x:=by
 cases x with
 |non=>cases r;rfl
 |bl _=>cases r;rfl
 |int _=>obtain⟨t,rfl⟩:=r;rfl
 |str _=>obtain⟨t,rfl⟩:=r;rfl
 |byt _=>obtain⟨t,rfl⟩:=r;rfl
 |flt _=>obtain⟨t,rfl⟩:=r;rfl
 |ref _=>cases r;rfl
 |ty _=>cases r;rfl
def aI.inj{x y:V}{u:Value}(r:aI x u)(q:aI y u):x=y:=Option.some.inj (r.abs.symm.trans q.abs)
def aP.inj:∀ {X y:List V} {u:List Value},aP X u->aP y u->X=y
 |_,_,_,.nil,.nil=>rfl
 |_,_,_,.cons r t,.cons r' t'=>by rw[r.inj r',aP.inj t t']
section
variable {X:Cx} {pins:List (Addr × Obj)} {σ:St} {H:Hp} {s:Shared} {a:Addr} {xs ys:List V}
def SqL.of{K:WW}(h:H a=aa (.lst xs)):SqL K H a xs:=.inl (.inl h)
def SqT.of{K:WW}(h:H a=aa (.tup xs)):SqT K H a xs:=.inl (.inl h)
def Inv.list(I:Inv X pins σ H s)(h:SqL X.K H a xs):∃its:List Value,aP xs its/\PlainL s.heap a its.toArray/\xs.length<=sizeLine:=by
 rcases h with h |⟨o,its,n,hk,hc,hd,hs,hz,r⟩
 ·obtain⟨z,its,n,r,e⟩:=h.ok I.hok;exact⟨its,r,⟨_,n,e,rfl,rfl,rfl⟩,z⟩
 ·refine⟨its.toList,r,⟨o,n,I.kIn a o hk,hc,hd,by simpa using hs⟩,?_⟩;have e:=r.length;simp only[ZL] at e
  lia
def Inv.tuple(I:Inv X pins σ H s)(h:SqT X.K H a xs):∃its:List Value,aP xs its/\IsTup s.heap a its.toArray/\xs.length<=sizeLine:=by
 rcases h with h |⟨o,its,n,hk,hc,hs,hz,r⟩
 ·obtain⟨z,its,r,p⟩:=h.ok I.hok;exact⟨its,r,p.isTup,z⟩
 ·refine⟨its.toList,r,⟨o,I.kIn a o hk,hc,n,by simpa using hs⟩,?_⟩;have e:=r.length;simp only[ZL] at e
  lia
def Inv.list_inj(I:Inv X pins σ H s)(h:SqL X.K H a xs)(h':SqL X.K H a ys):xs=ys:=by
 obtain⟨b,r,⟨o,n,e,_,_,d⟩,_⟩:=I.list h;obtain⟨its',f,⟨O,g,E,_,_,c⟩,_⟩:=I.list h';rw[e] at E;cases E;rw[d] at c;injection c with d1 _;have:b=its':=by simpa using congrArg Array.toList d1
 subst this;exact r.inj f
def Inv.tuple_inj(I:Inv X pins σ H s)(h:SqT X.K H a xs)(h':SqT X.K H a ys):xs=ys:=by
 obtain⟨b,r,⟨o,e,_,n,d⟩,_⟩:=I.tuple h;obtain⟨its',f,⟨O,E,_,g,c⟩,_⟩:=I.tuple h';rw[e] at E;cases E;rw[d] at c;injection c with d1 _;have:b=its':=by simpa using congrArg Array.toList d1
 subst this;exact r.inj f
end
noncomputable abbrev Cx.wish(X:Cx)(E:Value->Shared->Prop):Cx:={ X with xe:=E }
noncomputable abbrev Cx.nox(X:Cx):Cx:=X.wish λ_ _=>False
def Cx.Ok.wish{X:Cx}(ok:X.Ok)(E:Value->Shared->Prop):(X.wish E).Ok:=
 ⟨ok.mod,ok.kind,ok.glob,ok.blt,ok.above,ok.inj,ok.has,ok.cab,ok.hd,ok.frames,ok.stk,ok.exf,ok.bs,ok.bsz,ok.noex,ok.exfs,ok.funs,ok.frf⟩
def Cx.Ok.unwish{X:Cx}{E:Value->Shared->Prop}(ok:(X.wish E).Ok):X.Ok:=
 ⟨ok.mod,ok.kind,ok.glob,ok.blt,ok.above,ok.inj,ok.has,ok.cab,ok.hd,ok.frames,ok.stk,ok.exf,ok.bs,ok.bsz,ok.noex,ok.exfs,ok.funs,ok.frf⟩
section
variable {X:Cx} {pins:List (Addr × Obj)} {σ:St} {H:Hp} {s:Shared} {E:Value->Shared->Prop}
def Inv.wish(I:Inv X pins σ H s)(E:Value->Shared->Prop):Inv (X.wish E) pins σ H s:=⟨I.ok.wish E,I.os,I.bare,I.base,I.loc,I.cell,I.free,I.freeC,I.pin,I.hok,I.len⟩
def Inv.unwish(I:Inv (X.wish E) pins σ H s):Inv X pins σ H s:=⟨I.ok.unwish,I.os,I.bare,I.base,I.loc,I.cell,I.free,I.freeC,I.pin,I.hok,I.len⟩
def SP.unwish{D:Ends}{f:Flow}{s':Shared}(h:SP (X.wish E) pins D f s'):SP X pins D f s':=by
 cases f with
 |next=>obtain⟨b,c,I,q⟩:=h;exact⟨b,c,I.unwish,q⟩
 |brk=>obtain⟨b,c,I,q⟩:=h;exact⟨b,c,I.unwish,q⟩
 |cont=>obtain⟨b,c,I,q⟩:=h;exact⟨b,c,I.unwish,q⟩
 |ret u=>obtain⟨v,b,c,I,r,q⟩:=h;exact⟨v,b,c,I.unwish,r,q⟩
def PSs.nox{st:List Stmt}{t:TS}(h:PSs X.nox st t):PSs X st t:=λpins s σ H D I b=>
 V8 (h pins s σ H D (I.wish _) b) (λ_ _ q=>q.unwish) λ_ _ z=>False.elim z
end
section
variable {X:Cx} {st:Stmt} {rest:List Stmt} {t u:TS} {e:Expr} {te:TE} {pos:Pos}
abbrev Fw:TS:=λD b H=>D.nx b H
abbrev K8(t u:TS):TS:=λD b H=>t { D with nx:=u D } b H
def BQ:PSs X [] Fw:=λ_ _ b H _ I h=>V3 ⟨b,H,I,h⟩
def xR(y:PS X st t)(j:PSs X rest u):PSs X (st::rest) (K8 t u):=by
 intro p s c H D I h;refine wpAny_execs_cons (thn (y p s c H { D with nx:=u D } I h) λf n q=>?_);cases f with
 |next=>
  obtain⟨b,o,g,q⟩:=q;exact j p n b o D g q
 |ret v=>exact q
 |brk=>exact q
 |cont=>exact q
abbrev Fx:TS:=λD b H=>D.ct b H
def qe:PS X (.Continue pos) Fx:=λ_ _ b H _ I h=>wpAny_Continue ⟨b,H,I,h⟩
def Inv.quiet{p:List (Addr × Obj)}{b:St}{H:Hp}{s:Shared}(I:Inv X p b H s):interactive X.env=aW:=by simp[interactive,I.ok.kind]
abbrev Fy(te:TE):TS:=λD b H=>te b H λ_ h=>D.nx b h
def BR(g:PE X e te)(hs:VR e aD pos.line X.env=pure aW:=by rfl):PS X (.Expr e pos) (Fy te):=by
 intro p s b H D I h;exact wpAny_Expr_any (thn (g p s b H _ I h) λv j ⟨x,c,f,r1,q⟩=>⟨b,c,f,q⟩) I.quiet hs
abbrev K9(te:TE):TS:=λD b H=>te b H D.rt
def Gy(g:PE X e te):PS X (.Return (aa e) pos) (K9 te):=by
 intro p s b H D I h;exact wpAny_Return_some (thn (g p s b H _ I h) λv j ⟨x,c,f,r1,q⟩=>⟨x,b,c,f,r1,q⟩)
abbrev La(c:TT)(t u:TS):TS:=λD f H=>c f H λb h=>if b=aT then t D f h else u D f h
def Lb{c:Expr}{a b:List Stmt}{T:TT}(hc:PT X c T)(o:PSs X a t)(hb:PSs X b u):PS X (.If c a b pos) (La T t u):=by
 intro p s f H D I h;refine wpAny_If (thn (hc p s f H _ I h) λd n ⟨j,g,q⟩=>?_);cases d with
 |true=>exact o p n f j D g q
 |false=>exact hb p n f j D g q
abbrev Gz:TS:=λ_ _ _=>False
def xS:PS X st Gz:=λ_ _ _ _ _ _ h=>h.elim
end
@[inline]abbrev TG:=V->St->Hp->(St->Hp->Prop)->Prop
@[inline]abbrev TGs:=List V->St->Hp->(St->Hp->Prop)->Prop
abbrev PG(X:Cx)(T:Expr)(t:TG):Prop:=
 ∀ (p:List (Addr × Obj)) (s:Shared) (c:St) (H:Hp) (v:V) (u:Value) (Q:St->Hp->Prop),Inv X p c H s->aI v u->t v c H Q ->
  wpAny (model X.prog X.w) X.A (assign T X.env u) (λ_ f=>∃b h,Inv X p b h f/\Q b h) X.xe s
abbrev PGs(X:Cx)(T:List Expr)(t:TGs):Prop:=
 ∀ (p:List (Addr × Obj)) (s:Shared) (c:St) (H:Hp) (v:List V) (u:List Value) (Q:St->Hp->Prop),Inv X p c H s->aP v u->t v c H Q ->
  wpAny (model X.prog X.w) X.A (Vc ((Vb T X.env).map (·.2)) u) (λ_ f=>∃b h,Inv X p b h f/\Q b h) X.xe s
@[inline]abbrev BS:=V->V->V->Hp->(Hp->Prop)->Prop
abbrev GA(X:Cx)(t:BS):Prop:=
 ∀ (p:List (Addr × Obj)) (s:Shared) (b:St) (H:Hp) (o i v:V) (O I u:Value) (Q:Hp->Prop),Inv X p b H s->aI o O->aI i I->aI v u->t o i v H Q ->
  wpAny (model X.prog X.w) X.A (setItem O I u) (λ_ c=>∃h,Inv X p b h c/\Q h) X.xe s
section
variable {X:Cx} {pos:Pos}
abbrev mY(i:Nat):TG:=λv b H Q=>Q (b.set i (aa v)) H
def BU{i:Nat}(hN:X.N.Nodup)(hi:X.N[i]?=aa x)(c:Loc X.env.scope x)(f:X.fn x=aT\/X.env.scope.names.lookup x=aa .local:=by first |exact .inl rfl |exact .inr rfl |assumption):PG X (.Name x pos) (mY i):=by
 intro p s j H v u Q I r h;exact wpAny_assign_Name (cH I hN hi c r (λg b=>⟨_,H,b,h⟩) f)
abbrev Lc:TGs:=λv b H Q=>v=[]/\Q b H
abbrev Fz(t:TG)(u:TGs):TGs:=λc f H Q=>∃v r,c=v::r/\t v f H λb h=>u r b h Q
def BV:PGs X [] Lc:=by
 intro p s b H v u Q I r h;obtain⟨e,h⟩:=h;subst e;cases r;exact assignInOrder_nil ⟨b,H,I,h⟩
def xT{e:Expr}{E:List Expr}{t:TG}{u:TGs}(y:PG X e t)(g:PGs X E u)
  (hs:(Vb (e::E) X.env).map (·.2)=assign e X.env::(Vb E X.env).map (·.2):=by rfl):PGs X (e::E) (Fz t u):=by
 intro p s f H C U Q I r h;obtain⟨v,B,n,h⟩:=h;subst n;cases r with
 |cons r o=>
  rw[hs];refine assignInOrder_cons (thn (y p s f H _ _ _ I r h) λ_ c ⟨b,z,j,q⟩=>?_);exact g p c b z _ _ Q j o q
abbrev Lf(K:WW)(n:Nat)(t:TGs):TG:=λv c H Q=>∃a b,v = .ref a/\SqT K H a b/\b.length=n/\t b c H Q
def GC{k:Nat}{n:Nat}(hc:X.calm=aT)(h:PGs X E t)
  (C:(Vb E X.env).length=n:=by rfl) (c:(Vb E X.env).findIdx? (·.1)=aD:=by rfl):PG X (.Tuple E k pos) (Lf X.K n t):=by
 intro p s j H v u Q I r f;obtain⟨a,U,T,y,z,f⟩:=f;subst T;cases r;obtain⟨L,g,B,Y⟩:=I.tuple y;refine assign_Tuple_tuple (I.ok.hd hc) B (by simp[C,<-z,g.length]) c λJ q=>?_;have O:Inv X p j H { s with heap:=J }:=I.kept (t':=s.toks) λb o e=>q b o (Zz (Zp e)) e;exact h p _ j H U _ Q O (by simpa using g) f
abbrev Lg(T f:TE)(t:BS):TG:=λv b H Q=>T b H λo g=>f b g λi h=>t o i v h λc=>Q b c
def GD{o i:Expr}{T f:TE}{t:BS}(U:PE X o T)(hi:PE X i f)(hs:GA X t)
  (g:∀v,assign (.Subscript o i pos) X.env v=(do
   let O <-holding [v] (eval o X.env)
   let b <-holding [v,O] (eval i X.env)
   standAt pos
   holding [v,O,b] (setItem O b v)
   release [v,O,b] []):=by intro _;rfl):PG X (.Subscript o i pos) (Lg T f t):=by
 intro p s c H v u Q I r h;rw[g];refine VY (V5 (thn (U p s c H _ I h) λO n ⟨x,Z,E,r1,L⟩=>?_));refine VY (V5 (thn (hi p n c Z _ E L) λb z ⟨y,j,Y,r2,J⟩=>?_));refine VY (Uq (VY (V5 (thn (hs p z c j x y v O b u _ Y r1 r2 r J) λ_ s3 ⟨B,C,q⟩=>?_))));exact wpAny_release ⟨c,B,C,q⟩
abbrev vK(T:TE)(g:TG):TS:=λD b H=>T b H λx h=>g x b h D.nx
def xU{T e:Expr}{c:TE}{g:TG}(u:PE X e c)(n:PG X T g)(hs:VS [T] e pos.line X.env=pure aW:=by rfl)(hw:VQ [T] e X.env=pure aD:=by rfl)
  (o:(Vb [T] X.env).map (·.2)=[assign T X.env]:=by rfl):PS X (.Assign [T] e pos) (vK c g):=by
 intro p s b H D I h;refine wpAny_Assign_stores (thn (u p s b H _ I h) λv y ⟨x,f,j,r1,Q⟩=>?_) hs hw;rw[o];exact thn (n p y b f x v _ j r1 Q) λ_ z q=>q
def xV{i:Nat}{x:Str}{e:Expr}{T:TE}{p:Pos}(hN:X.N.Nodup)(hi:X.N[i]?=aa x)(g:Loc X.env.scope x)(j:PE X e T)(hs:VR e (aa (.Name x p)) pos.line X.env=pure aW:=by rfl)(u:X.fn x=aT\/X.env.scope.names.lookup x=aa .local:=by first |exact .inl rfl |exact .inr rfl |assumption) :
  PS X (.Assign [.Name x p] e pos) (vK T (mY i)):=by
 intro b s c H D I h;refine wpAny_Assign_Name (thn (j b s c H _ I h) λv B ⟨y,o,f,r1,q⟩=>?_) hs;exact cH f hN hi g r1 (λz n=>⟨_,o,n,q⟩) u
abbrev Lh(i j:Nat)(T:TA):TS:=λD b H=>T b H λc h=>∃v w,c=[v,w]/\D.nx ((b.set i (aa v)).set j (aa w)) h
def GF{i j:Nat}{x y:Str}{a b:Expr}{Z:TA}{C J pt:Pos}{B z f}(hc:X.calm=aT)(hN:X.N.Nodup)(hi:X.N[i]?=aa x)(hj:X.N[j]?=aa y)(E:i ≠ j)
  (T:X.env.scope.names.lookup x=aa .local) (Y:X.env.scope.names.lookup y=aa .local) (ha:PA X [a,b] Z)
  (hw:VQ [.Tuple [.Name x C,.Name y J] B pt] (.Tuple [a,b] z f) X.env=pure (aa [x,y]))
  (hs:VS [.Tuple [.Name x C,.Name y J] B pt] (.Tuple [a,b] z f) pos.line X.env=pure aW:=by rfl) :
  PS X (.Assign [.Tuple [.Name x C,.Name y J] B pt] (.Tuple [a,b] z f) pos) (Lh i j Z):=by
 intro c s U H D I h;rw[exec_Assign_arm];refine VY (Uq ?_);rw[hs];refine VY (Ud ?_);rw[if_neg (by decide)];refine VY (Tuple_ (thn (ha _ c s U H _ I h) λus n ⟨vs,H1,I1,r1,Q⟩=>?_));obtain⟨v,w,e1,Q⟩:=Q;subst e1
 obtain⟨u,u2,rfl,rv,O⟩:∃u u2,us=[u,u2]/\aI v u/\aI w u2:=by
  cases r1 with
  |cons p q=>
   cases q with
   |cons p' q'=>
    cases q';exact⟨_,_,rfl,p,p'⟩
 refine Ua ?_ (by show 2<=sizeLine;decide);have I2:Inv X c U H1 { n with heap:=n.heap.push { cls:=.type "tuple", data:=.seq [u,u2].toArray } }:=I1.kept (t':=n.toks) λb o e=>Zg _ e;rw[hw];refine VY (Ud ?_);show wpAny (model X.prog X.w) X.A (do rule "assign.swapped-stores"; let g <-unpackItems (.ref n.heap.objs.size) 2 aD;Vc [λv=>Vg X.env y v,λv=>Vg X.env x v] g.reverse;pure Flow.next) _ _ _;refine VY (Ul (VY (unpackItems_tuple (items:=#[u,u2]) (I.ok.hd hc) (IsTup.new n.heap _) λh' L=>?_)));have I3:=I2.kept (h':=h') (t':=n.toks) λb o e=>L b o (Zz (Zp e)) e;show wpAny _ _ (Vc [λv=>Vg X.env y v,λv=>Vg X.env x v] [u2,u] >>= λ_=>pure Flow.next) _ _ _;refine VY (assignInOrder_cons (VZ (cH I3 hN hj (.inl Y) O (λs2 I4=>?_) (.inr Y))));refine assignInOrder_cons (VZ (cH I4 hN hi (.inl T) rv (λs3 I5=>assignInOrder_nil (Ud ?_)) (.inr T)));rw[Xn _ _ (Ne.symm E)] at I5;exact⟨_,H1,I5,Q⟩
end
section
variable {X:Cx} {pos:Pos}
abbrev xW(c:TT)(T:TS):TS:=λD f H=>∃W:Nat->St->Hp->Prop,(∃m,W m f H)/\∀m f H,W m f H ->
 c f H λb n=>if b=aT then ∃N:St->Hp->Prop,(∀g j,N g j->∃h,h < m/\W h g j)/\T { D with nx:=N,ct:=N,bk:=D.nx } f n else D.nx f n
def xX(O:PassesOwn (model X.prog X.w) X.A X.env X.xe)(hc:PT X c tc)(hb:PSs X body Z):PS X (.While c body [] pos) (xW tc Z):=by
 intro p s σ H D I h;obtain⟨W,⟨m0,w0⟩,T⟩:=h;refine wpAny_While (codeAny_whileLoop (λn s'=>∃o L,Inv X p o L s'/\W n o L) ?_ m0 ⟨σ,H,I,w0⟩);rintro n s1 ⟨j,Y,I1,w1⟩;refine Uc O (thn (hc p s1 j Y _ I1 (T n j Y w1)) λb s2 ⟨J,U,u⟩=>?_);cases b with
 |true=>
  obtain⟨N,hN,u⟩:=u;rw[if_pos rfl];refine Uc O (thn (hb p s2 j J _ U u) λf s3 Q=>?_);cases f with
  |next=>
   obtain⟨g,q,C,E⟩:=Q;obtain⟨z,y,B⟩:=hN g q E;exact⟨z,y,g,q,C,B⟩
  |cont=>
   obtain⟨g,q,C,E⟩:=Q;obtain⟨z,y,B⟩:=hN g q E;exact⟨z,y,g,q,C,B⟩
  |brk=>exact Q
  |ret v=>exact Q
 |false=>
  rw[if_neg Zf];exact V3 ⟨j,J,U,u⟩
end
structure It where
 go:Nat->Hp->Prop
 yld:Nat->Hp->V->Hp->Prop
 stop:Nat->Hp->Prop
abbrev gF(X:Cx)(f:List (Addr × Obj))(H:Hp)(b:Addr):Prop:=
 H b=aD/\b ≠ X.env.locals/\b ∉ X.fs/\(b ∈ X.ex\/X.s₀.heap.objs.size<=b)/\(∀x c,X.env.cells.lookup x=aa c->c ≠ b)/\∀p ∈ X.pn++f,p.1 ≠ b
def Inv.fpOk(I:Inv X f n H s)(hb:s.heap.objs.size<=b)(g:j b=aD):gF X f j b:=by
 refine⟨g,YS (ZF I.lt hb),I.nofs hb,.inr (ZH I.sz hb),λx c e z=>?_,λp h z=>?_⟩
 ·obtain⟨v,q⟩:=I.cell x c e;exact absurd (ZF q.lt (by rw[z];exact hb)) (ZS _)
 ·exact absurd (ZF (Zp (I.pin p h).1) (by rw[z];exact hb)) (ZS _)
structure Turn(P:Program)(w:World)(K:WW)(tg:Expr)(J:It)(fp:List Addr)(it:Addr)(tn:Nat->Heap->Prop):Prop where
 mem:it ∈ fp
 obj:∀i h,tn i h->∀b ∈ fp,∃o,h.get? b=aa o/\∀v,o.data ≠ .cell v
 keep:∀i h h',tn i h->(∀b ∈ fp,∀o,h.get? b=aa o->h'.get? b=aa o)->tn i h'
 item:∀ (X:Cx),X.prog=P->X.w=w->X.K=K->X.calm=aT->∀ (i:Nat) (pins:List (Addr × Obj)) (s:Shared) (σ:St) (H:Hp) (E:Value->Shared->Prop),Inv X pins σ H s->(∀b ∈ fp,gF X pins H b)->tn i s.heap->J.go i H ->
  wpAny (model P w) X.A (pyNext (.ref it)) (λr s1=>∃u,r=aa u ∧
   wpAny (model P w) X.A (Vy tg (.ref it) u) (λ_ s2=>∃x H',Inv X pins σ H' s2/\aI x u/\J.yld i H x H'/\tn (i+1) s2.heap/\∀b ∈ fp,H' b=aD) E s1) E s
 done:∀ (X:Cx),X.prog=P->X.w=w->X.K=K->X.calm=aT->∀ (i:Nat) (pins:List (Addr × Obj)) (s:Shared) (σ:St) (H:Hp) (E:Value->Shared->Prop),Inv X pins σ H s->(∀b ∈ fp,gF X pins H b)->tn i s.heap->J.stop i H ->
  wpAny (model P w) X.A (pyNext (.ref it)) (λr s1=>r=aD/\Inv X pins σ H s1) E s
 self:∀ (A:Around) (i:Nat) (s:Shared) (Q:Value->Shared->Prop) (E:Value->Shared->Prop),tn i s.heap->Q (.ref it) s->wpAny (model P w) A (pyIter (.ref it)) Q E s
@[inline]abbrev TI:=St->Hp->(It->Hp->Prop)->Prop
abbrev PIE(X:Cx)(p:List (Addr × Obj))(j:St)(n:Expr)(R:It->Hp->Prop)(I:Value)(f:Shared):Prop:=
 ∃ (c:Addr) (g:List Addr) (T:Nat->Heap->Prop) (J:It) (h:Hp),I = .ref c/\Inv X p j h f/\Turn X.prog X.w X.K n J g c T/\T 0 f.heap/\(∀b ∈ g,gF X p h b)/\R J h
abbrev PI(X:Cx)(T I:Expr)(c:TI):Prop:=
 ∀ (p:List (Addr × Obj)) (s:Shared) (b:St) (H:Hp) (R:It->Hp->Prop),Inv X p b H s->c b H R ->
  wpAny (model X.prog X.w) X.A (eval I X.env) (λv f=>wpAny (model X.prog X.w) X.A (pyIter v) (PIE X p b T R) X.xe f) X.xe s
def xY(f:s.heap.get? I=aa o)(hc:o.cls = .type n)(hd:o.data = .fields v)
  (c:["enumerate", "zip", "dict_itemiterator", "dict_reverseitemiterator", "odict_iterator", "itertools.zip_longest", "itertools.pairwise"].contains n=aW) (b:Q () s):wpAny M A (Vy T (.ref I) u) Q E s:=by
 unfold Vy
 cases T <;> first
  |exact Ud b
  | (cases u <;> first
    |exact Ud b
    | (refine VY (wpAny_load f ?_)
       rw[hc,hd];show wpAny M A (if (["enumerate", "zip", "dict_itemiterator", "dict_reverseitemiterator", "odict_iterator", "itertools.zip_longest", "itertools.pairwise"].contains n && v[0]? == aa (rawInt _))=aT then _ else _) Q E s;rw[if_neg (by intro h;rw[c,Bool.false_and] at h;cases h)];exact Ud b))
abbrev Itl(K:WW)(a:Addr):It:=
 ⟨λi H=>∃X x,SqL K H a X/\X[i]?=aa x,λi H x h=>h=H/\∀X,SqL K H a X->X[i]?=aa x,λi H=>∃X,SqL K H a X/\X.length<=i⟩
abbrev Itt(K:WW)(a:Addr):It:=
 ⟨λi H=>∃X x,SqT K H a X/\X[i]?=aa x,λi H x h=>h=H/\∀X,SqT K H a X->X[i]?=aa x,λi H=>∃X,SqT K H a X/\X.length<=i⟩
abbrev Itr(lo:Int)(n:Nat):It:=⟨λi _=>i < n,λi H x h=>h=H/\x = .int (lo+i),λi _=>n<=i⟩
def vL{P:Program}{w:World}{K:WW}{tg:Expr}(a it:Addr):Turn P w K tg (Itl K a) [it] it (λi h=>h.IsListIter it a i) where
 mem:=by simp
 obj:=λi h st b hb=>by
  have e:b=it:=by simpa using hb
  subst e;obtain⟨o,e,c,d⟩:=st;exact⟨o,e,λv z=>by rw[d] at z;cases z⟩
 keep:=λi h n st k=>st.at λo e=>k it (by simp) o e
 item:=by
  intro X B U Y hc i f s σ H E I q st Z;subst B U Y;obtain⟨xs,x,j,y⟩:=Z;obtain⟨Q,O,p,hz⟩:=I.list j;obtain⟨u,hu,ru⟩:=O.get y;obtain⟨C,L,f2,f3,T,J⟩:=q it (by simp);refine Uk st p.isList (x:=u) (by simpa using hu) λn g sb=>?_;have I1:Inv X f σ H { s with heap:=n }:=I.turned (t':=s.toks) (λb o hb e=>(sb.2 b hb).trans e) C L f3 T J;obtain⟨o,e,c,d⟩:=id g;exact⟨u,rfl,xY (s:={ s with heap:=n }) e c d (by decide) ⟨x,H,I1,ru,⟨rfl,λys hy=>by rw[I.list_inj hy j];exact y⟩,g,λb hb=>(q b hb).1⟩⟩
 done:=by
  intro X B U Y hc i f s σ H E I q st Z;subst B U Y;obtain⟨xs,j,y⟩:=Z;obtain⟨Q,O,p,hz⟩:=I.list j;obtain⟨C,L,f2,f3,T,J⟩:=q it (by simp);have hl:=O.length;exact Uj (I.ok.hd hc) st p.isList (by simp;lia) λn eb=>⟨rfl,I.turned (t':=s.toks) (λb o hb e=>eb b o hb e) C L f3 T J⟩
 self:=λ_ _ _ _ _ st h=>wpAny_pyIter_listiter st h
def se{P:Program}{w:World}{K:WW}{tg:Expr}(a it:Addr):Turn P w K tg (Itt K a) [it] it (λi h=>h.IsTupleIter it a i) where
 mem:=by simp
 obj:=λi h st b hb=>by
  have e:b=it:=by simpa using hb
  subst e;obtain⟨o,e,c,d⟩:=st;exact⟨o,e,λv z=>by rw[d] at z;cases z⟩
 keep:=λi h q st k=>st.at λo e=>k it (by simp) o e
 item:=by
  intro X C U Y hc i f s σ H E I y st Z;subst C U Y;obtain⟨xs,x,n,B⟩:=Z;obtain⟨g,Q,p,hz⟩:=I.tuple n;obtain⟨u,hu,ru⟩:=Q.get B;obtain⟨J,O,f2,f3,T,L⟩:=y it (by simp);refine wpAny_pyNext_tuple_item st (show s.heap.IsTuple a g.toArray from p) (x:=u) (by simpa using hu) λq j sb=>?_;have I1:Inv X f σ H { s with heap:=q }:=I.turned (t':=s.toks) (λb o hb e=>(sb.2 b hb).trans e) J O f3 T L;obtain⟨o,e,c,d⟩:=id j;exact⟨u,rfl,xY (s:={ s with heap:=q }) e c d (by decide) ⟨x,H,I1,ru,⟨rfl,λys hy=>by rw[I.tuple_inj hy n];exact B⟩,j,λb hb=>(y b hb).1⟩⟩
 done:=by
  intro X C U Y hc i f s σ H E I y st Z;subst C U Y;obtain⟨xs,n,B⟩:=Z;obtain⟨g,Q,p,hz⟩:=I.tuple n;obtain⟨J,O,f2,f3,T,L⟩:=y it (by simp);have hl:=Q.length;exact wpAny_pyNext_tuple_end (I.ok.hd hc) st (show s.heap.IsTuple a g.toArray from p) (by simp;lia) λq eb=>⟨rfl,I.turned (t':=s.toks) (λb o hb e=>eb b o hb e) J O f3 T L⟩
 self:=λ_ _ _ _ _ st h=>wpAny_pyIter_tupleiter st h
def sg{P:Program}{w:World}{K:WW}{tg:Expr}(it:Addr)(lo:Int)(n:Nat):Turn P w K tg (Itr lo n) [it] it (λi h=>IsRangeIter h it (lo+(i:Nat) * 1) ((n:Int) - (i:Nat)) 1) where
 mem:=by simp
 obj:=λi h st b hb=>by
  have e:b=it:=by simpa using hb
  subst e
  exact⟨_,st,λv z=>by
   have z':Data.fields _=Data.cell v:=z;cases z'⟩
 keep:=λi h f st k=>k it (by simp) _ st
 item:=by
  intro X j J L u i p s U H E I g st O;subst j J L;obtain⟨q,y,f2,Q,C,B⟩:=g it (by simp);have W:=Walks.range (prog:=X.prog) (w:=X.w) (I.ok.hd u) it lo 1 n;refine W.item i s _ _ O st λv f T hv c Y=>?_;obtain⟨t,rfl⟩:=hv;have I1:Inv X p U H { s with heap:=f,toks:=T }:=I.turned (λb o hb e=>Y b o (by simpa using hb) e) q y Q C B;refine⟨_,rfl,xY (s:={ s with heap:=f,toks:=T }) (n := "range_iterator") c rfl rfl (by decide) ⟨.int (lo+i),H,I1,⟨t,?_⟩,⟨rfl,rfl⟩,c,λb hb=>(g b hb).1⟩⟩;rw[Int.mul_one]
 done:=by
  intro X j J L u i p s U H E I g st O;subst j J L;obtain⟨q,y,f2,Q,C,B⟩:=g it (by simp);exact wpAny_pyNext_range_end (I.ok.hd u) st (by have:n<=i:=O;lia) λf Z=>⟨rfl,I.turned (t':=s.toks) (λb o hb e=>Z b o hb e) q y Q C B⟩
 self:=λ_ _ _ _ _ st h=>wpAny_pyIter_rangeiter st h
section
variable {X:Cx} {tg:Expr}
abbrev xZ(K:WW)(T:TE):TI:=λb H R=>T b H λx h=>∃a,x = .ref a/\(∃c,SqL K h a c)/\R (Itl K a) h
abbrev Li(K:WW)(T:TE):TI:=λb H R=>T b H λx h=>∃a,x = .ref a/\(∃c,SqT K h a c)/\R (Itt K a) h
def um{l:Expr}{T:TE}(hl:PE X l T):PI X tg l (xZ X.K T):=by
 intro c s n H R I h;refine thn (hl c s n H _ I h) λv f ⟨x,y,g,r1,Q⟩=>?_;obtain⟨a,e,⟨C,j⟩,q⟩:=Q;subst e;cases r1;obtain⟨u,B,p,z⟩:=g.list j;refine Uf p.isList ?_;refine⟨f.heap.objs.size,[f.heap.objs.size],_,_,y,rfl,g.kept (t':=f.toks) λb o e=>Zg _ e,vL a _,⟨_,Zw _ rfl,rfl,rfl⟩,λb hb=>?_,q⟩;have e:b=f.heap.objs.size:=by simpa using hb
 subst e;exact g.fpOk (Zd _) (g.hok.fresh (Zd _))
def GG{l:Expr}{T:TE}(hl:PE X l T):PI X tg l (Li X.K T):=by
 intro f s u H R I h;refine thn (hl f s u H _ I h) λv c ⟨x,y,g,r1,Q⟩=>?_;obtain⟨a,e,⟨C,n⟩,q⟩:=Q;subst e;cases r1;obtain⟨j,B,p,z⟩:=g.tuple n;refine Ug (show c.heap.IsTuple a j.toArray from p) ?_;refine⟨c.heap.objs.size,[c.heap.objs.size],_,_,y,rfl,g.kept (t':=c.toks) λb o e=>Zg _ e,se a _,⟨_,Zw _ rfl,rfl,rfl⟩,λb hb=>?_,q⟩;have e:b=c.heap.objs.size:=by simpa using hb
 subst e;exact g.fpOk (Zd _) (g.hok.fresh (Zd _))
def qf{lo hi:Int}{T:Nat}(I:Inv X p f H s)(n:-(2 ^ 62)<=lo)(g:lo < 2 ^ 62)(h:-(2 ^ 62)<=hi)(h4:hi < 2 ^ 62)
  (q:R (Itr lo (hi - lo).toNat) H):wpAny (model X.prog X.w) X.A (pyIter (.ref s.heap.objs.size)) (PIE X p f tg R) E { s with heap:=s.heap.push { cls:=.type "range", data:=.fields #[.int lo t,.int hi u,.int 1 v] },toks:=T }:=by
 refine wpAny_pyIter_range (IsRange.new ..) (small_one n g h h4) ?_;have c:Inv X p f H { s with heap:=s.heap.push { cls:=.type "range", data:=.fields #[.int lo t,.int hi u,.int 1 v] },toks:=T }:=I.kept λb o e=>Zg _ e
 refine⟨(s.heap.push { cls:=.type "range", data:=.fields #[.int lo t,.int hi u,.int 1 v] }).objs.size,[(s.heap.push { cls:=.type "range", data:=.fields #[.int lo t,.int hi u,.int 1 v] }).objs.size],_,_,H,rfl,
  c.kept (t':=T) λb o e=>Zg _ e,sg _ lo (hi - lo).toNat,?_,λb hb=>?_,q⟩
 ·have j:lo+((0:Nat):Int) * 1=lo:=by simp
  have y:(((hi - lo).toNat:Nat):Int) - ((0:Nat):Int)=Builtin.Range.rangeSize lo hi 1:=by rw[rangeSize_one];split <;> lia
  show IsRangeIter _ _ (lo+((0:Nat):Int) * 1) ((((hi - lo).toNat:Nat):Int) - ((0:Nat):Int)) 1;rw[j,y];exact Zw _ rfl
 ·have e:b=(s.heap.push { cls:=.type "range", data:=.fields #[.int lo t,.int hi u,.int 1 v] }).objs.size:=by simpa using hb
  subst e;exact c.fpOk (Zd _) (c.hok.fresh (Zd _))
abbrev FA(T:TA):TI:=λb H R=>T b H λv h=>∃j:Int,v=[.int j]/\-(2 ^ 62)<=j/\j < 2 ^ 62/\R (Itr 0 j.toNat) h
abbrev FB(T:TA):TI:=λb H R=>T b H λv h=>∃i j:Int,v=[.int i,.int j]/\(-(2 ^ 62)<=i/\i < 2 ^ 62/\-(2 ^ 62)<=j/\j < 2 ^ 62)/\R (Itr i (j - i).toNat) h
def vM(v:Gl X "range")(f:X.mg "range" = aD)(c:PA X [a] T)(hs:VP [a] X.env=[(aW,eval a X.env)]:=by rfl):PI X tg (.Call (.Name "range" p) [a] [] pos) (FA T):=by
 intro b s g H R I h;refine Call_ (gX I v f boot_range (Wz (thn (c pos b s g H _ I h) λU y ⟨z,B,n,r1,Q⟩=>?_) hs rfl));obtain⟨j,e,Q,u,q⟩:=Q;subst e;cases r1 with
 |cons r o=>
  cases o;obtain⟨t,rfl⟩:=r;exact call_range_1 (qf n (by lia) (by lia) Q u (by simpa using q))
def vN(C:Gl X "range")(o:X.mg "range" = aD)(n:PA X [a,b] T)(hs:VP [a,b] X.env=[(aW,eval a X.env),(aW,eval b X.env)]:=by rfl)(f:VP [b] X.env=[(aW,eval b X.env)]:=by rfl) :
  PI X tg (.Call (.Name "range" p) [a,b] [] pos) (FB T):=by
 intro c s y H R I h;refine Call_ (gX I C o boot_range (Wz (thn (n pos c s y H _ I h) λU J ⟨L,Y,z,r1,Q⟩=>?_) (by rw[hs,f]) (by rw[f];rfl)));obtain⟨i,j,e,⟨Q,B,u,E⟩,q⟩:=Q;subst e;cases r1 with
 |cons r g=>
  cases g with
  |cons v g=>
   cases g;obtain⟨t,rfl⟩:=r;obtain⟨O,rfl⟩:=v;exact call_range_2 (qf z Q B u E q)
abbrev Lj(o:TI)(g:TG)(T:TS):TS:=λD b H=>o b H λJ p=>∃W:Nat->Nat->St->Hp->Prop,(∃m,W 0 m b p)/\∀i m b H,W i m b H ->
 (J.stop i H/\D.nx b H)\/(J.go i H/\∃N:St->Hp->Prop,(∀c h,N c h->∃j,j < m/\W (i+1) j c h)/\∀x h,J.yld i H x h->g x b h λf n=>T { D with nx:=N,ct:=N,bk:=D.nx } f n)
abbrev kK(f:List Addr)(h:Heap):List (Addr × Obj):=f.filterMap λb=>(h.get? b).map λo=>(b,o)
def eK(hb:b ∈ f)(e:h.get? b=aa o):(b,o) ∈ kK f h:=XQ.mpr ⟨b,hb,by rw[e];rfl⟩
def vO(c:p ∈ kK f h):p.1 ∈ f/\h.get? p.1=aa p.2:=by
 obtain⟨b,hb,e⟩:=XQ.mp c;cases q:h.get? b with
 |none=>rw[q] at e;cases e
 |some o=>
  rw[q] at e;have E:(b,o)=p:=Option.some.inj e;subst E;exact⟨hb,q⟩
def Inv.pinned(I:Inv X c g H s)(y:∀b ∈ f,gF X c H b)(n:∀b ∈ f,∃o,s.heap.get? b=aa o/\∀v,o.data ≠ .cell v):Inv X (c++kK f s.heap) g H s:=
 I.pins_of λp j=>(ZM.mp j).elim (λz=>I.pin p (ZG _ z)) λz=>by
  obtain⟨hb,e⟩:=vO z;obtain⟨h,q,u,_⟩:=y p.1 hb;obtain⟨o,E,d⟩:=n p.1 hb;rw[e] at E;cases E;exact⟨e,h,q,u,d⟩
def Inv.unpinned(I:Inv X (b++pl) c H s):Inv X b c H s:=I.pins_of λp h=>I.pin p (ZG _ (Z9 _ h))
def GH(Y:PassesOwn (model X.prog X.w) X.A X.env X.xe)(hc:X.calm=aT)(hi:PI X tg C wi)(hg:PG X tg g)(hb:PSs X body tb)
  (hs:∀x,Vu C X.env x=pure x:=by intro _;rfl):PS X (.For tg C body [] pos) (Lj wi g tb):=by
 intro p s σ H D I h;refine wpAny_For (thn (hi p s σ H _ I h) λv s1 h1=>thn h1 λitv s2 h2=>?_) hs;obtain⟨it,L,tn,J,H2,e,I2,T,st2,f2,W,⟨m0,w0⟩,O⟩:=h2;subst e;have q:∀ {H':Hp},(∀b ∈ L,H' b=aD)->∀b ∈ L,gF X p H' b:=λhn b hb=>⟨hn b hb,(f2 b hb).2⟩;refine codeAny_forLoop_any (λn s'=>∃i j H',Inv X p j H' s'/\tn i s'.heap/\(∀b ∈ L,H' b=aD)/\W i n j H') ?_ m0 ⟨0,σ,H2,I2,st2,λb hb=>(f2 b hb).1,w0⟩;rintro n s3 ⟨i,B,H3,I3,U,fr3,w3⟩;rcases O i n B H3 w3 with ⟨stop,qn⟩ |⟨go,N,hN,step⟩
 ·refine Uc Y (thn (T.done X rfl rfl rfl hc i p s3 B H3 X.xe I3 (q fr3) U stop) λr s4 ⟨hr,I4⟩=>?_);subst hr;exact V3 ⟨B,H3,I4,qn⟩
 ·refine Uc Y (thn (T.item X rfl rfl rfl hc i p s3 B H3 X.xe I3 (q fr3) U go) λr s4 ⟨u,hr,h4⟩=>?_);subst hr;refine Uc Y (thn h4 λ_ s5 ⟨x,H5,I5,r5,y5,E,fr5⟩=>?_);have I5':=I5.pinned (q fr5) (T.obj _ _ E);refine Uc Y (thn (hg _ s5 B H5 x u _ I5' r5 (step x H5 y5)) λ_ s6 ⟨σ6,H6,I6,q6⟩=>?_);refine Uc Y (thn (hb _ s6 σ6 H6 _ I6 q6) λf s7 Q=>?_)
  have again:∀ {c:St} {y:Hp},Inv X (p++kK L s5.heap) c y s7->N c y->∃m,m < n/\∃i j H',Inv X p j H' s7/\tn i s7.heap/\(∀b ∈ L,H' b=aD)/\W i m j H':=λ{c y} z Z=>by
   obtain⟨m',hm,w7⟩:=hN c y Z;refine⟨m',hm,i+1,c,y,z.unpinned,T.keep _ _ _ E λb hb o e=>(z.pin (b,o) (ZG _ (ZG _ (eK hb e)))).1,λb hb=>?_,w7⟩;obtain⟨o,e,d⟩:=T.obj _ _ E b hb;exact(z.pin (b,o) (ZG _ (ZG _ (eK hb e)))).2.1
  cases f with
  |next=>obtain⟨c,y,z,Z⟩:=Q;exact again z Z
  |cont=>obtain⟨c,y,z,Z⟩:=Q;exact again z Z
  |brk=>obtain⟨c,y,z,Q⟩:=Q;exact⟨c,y,z.unpinned,Q⟩
  |ret v=>obtain⟨x7,c,y,z,r7,Q⟩:=Q;exact⟨x7,c,y,z.unpinned,r7,Q⟩
end
@[inline]abbrev R2:=V->V->Hp->VK->Prop
abbrev OpR(X:Cx)(f:Value->Value->Sem Value)(r:R2):Prop:=
 ∀ (p:List (Addr × Obj)) (s:Shared) (b:St) (H:Hp) (x y:V) (v u:Value) (Q:VK),Inv X p b H s->aI x v->aI y u->r x y H Q ->
  wpAny (model X.prog X.w) X.A (f v u) (EP X p b Q) X.xe s
abbrev UnR(X:Cx)(f:Value->Sem Value)(r:V->Hp->VK->Prop):Prop:=
 ∀ (p:List (Addr × Obj)) (s:Shared) (b:St) (H:Hp) (x:V) (v:Value) (Q:VK),Inv X p b H s->aI x v->r x H Q ->
  wpAny (model X.prog X.w) X.A (f v) (EP X p b Q) X.xe s
abbrev aS(X:Cx)(f:Value)(r:List V->Hp->VK->Prop):Prop:=
 ∀ (p:List (Addr × Obj)) (s:Shared) (b:St) (H:Hp) (c:List V) (u:List Value) (Q:VK),Inv X p b H s->aP c u->r c H Q ->
  wpAny (model X.prog X.w) X.A (call f u) (EP X p b Q) X.xe s
abbrev Oe(X:Cx)(r:V->Hp->(Bool->Hp->Prop)->Prop):Prop:=
 ∀ (p:List (Addr × Obj)) (s:Shared) (b:St) (H:Hp) (x:V) (v:Value) (Q:Bool->Hp->Prop),Inv X p b H s->aI x v->r x H Q ->
  wpAny (model X.prog X.w) X.A (truthy v) (TP X p b Q) X.xe s
abbrev tOp(r:R2)(T c:TE):TE:=λb H Q=>T b H λx f=>c b f λy h=>r x y h Q
abbrev tUn(r:V->Hp->VK->Prop)(T:TE):TE:=λb H Q=>T b H λx h=>r x h Q
abbrev rI(C:Int->Int->Prop)(g:Int->Int->V):R2:=λx y H Q=>∃i j,x = .int i/\y = .int j/\C i j/\Q (g i j) H
abbrev rI0(g:Int->Int->V):R2:=λx y H Q=>∃i j,x = .int i/\y = .int j/\Q (g i j) H
abbrev rU(g:Int->V):V->Hp->VK->Prop:=λx H Q=>∃i,x = .int i/\Q (g i) H
section
variable {X:Cx} {a b c:Expr} {ta tb tc:TE} {pos:Pos}
def GI(B:PE X a ta)(hb:PE X b tb){p:List (Addr × Obj)}{s:Shared}{j:St}{H:Hp}{R:V->V->Hp->Prop}(I:Inv X p j H s)
  (h:ta j H λx z=>tb j z λy g=>R x y g) {Q:Value->Shared->Prop} {f:Value->Value->Sem Value}
  (T:∀v u q x y g,Inv X p j g q->aI x v->aI y u->R x y g->wpAny (model X.prog X.w) X.A (f v u) Q X.xe q) :
  wpAny (model X.prog X.w) X.A (eval a X.env) (λv n=>wpAny (model X.prog X.w) X.A (eval b X.env) (λu o=>wpAny (model X.prog X.w) X.A (f v u) Q X.xe o) X.xe n) X.xe s:=by
 refine thn (B p s j H _ I h) λv C ⟨x,z,E,r1,L⟩=>?_;refine thn (hb p C j z _ E L) λu q ⟨y,g,O,r2,J⟩=>?_;exact T v u q x y g O r1 r2 J
def Lk{op:WR}{r:R2}(z:OpR X (Vf op) r)(f:PE X a ta)(hb:PE X b tb):PE X (.BinOp a op b pos) (tOp r ta tb):=by
 intro p s g H Q I h;exact wpAny_BinOp (GI f hb I h λv u j x y o B C n q=>z p j g o x y v u Q B C n q)
def Ll(n:UnR X (unaryOp op) r)(g:PE X a ta):PE X (.UnaryOp op a pos) (tUn r ta):=by
 intro p s f H Q I h;exact UnaryOp_ (thn (g p s f H _ I h) λv u ⟨x,o,j,r1,q⟩=>n p u f o x v Q j r1 q)
def opI{f:Value->Value->Sem Value}{C:Int->Int->Prop}{g:Int->Int->Int}
  (rule:∀ (i j:Int) (t u:Tok) (s:Shared) (Q:Value->Shared->Prop) (E:Value->Shared->Prop),C i j->Q (.int (g i j) s.toks) { s with toks:=s.toks+1 }->wpAny (model X.prog X.w) X.A (f (.int i t) (.int j u)) Q E s) :
  OpR X f (rI C λi j=>.int (g i j)):=by
 intro p s B H x y v u Q I z n h;obtain⟨i,j,rfl,rfl,o,q⟩:=h;obtain⟨t,rfl⟩:=z;obtain⟨T,rfl⟩:=n;exact rule i j t T s _ _ o ⟨.int (g i j),H,I.tok _,⟨_,rfl⟩,q⟩
def Lm{f:Value->Value->Sem Value}{g:Int->Int->Int}
  (rule:∀ (i j:Int) (t u:Tok) (s:Shared) (Q:Value->Shared->Prop) (E:Value->Shared->Prop),Q (.int (g i j) s.toks) { s with toks:=s.toks+1 }->wpAny (model X.prog X.w) X.A (f (.int i t) (.int j u)) Q E s) :
  OpR X f (rI0 λi j=>.int (g i j)):=by
 intro p s z H x y v u Q I o n h;obtain⟨i,j,rfl,rfl,q⟩:=h;obtain⟨t,rfl⟩:=o;obtain⟨T,rfl⟩:=n;exact rule i j t T s _ _ ⟨.int (g i j),H,I.tok _,⟨_,rfl⟩,q⟩
def BW{f:Value->Value->Sem Value}{g:Int->Int->Bool}
  (rule:∀ (i j:Int) (t u:Tok) (s:Shared) (Q:Value->Shared->Prop) (E:Value->Shared->Prop),Q (.bool (g i j)) s->wpAny (model X.prog X.w) X.A (f (.int i t) (.int j u)) Q E s) :
  OpR X f (rI0 λi j=>.bl (g i j)):=by
 intro p s z H x y v u Q I o n h;obtain⟨i,j,rfl,rfl,q⟩:=h;obtain⟨t,rfl⟩:=o;obtain⟨T,rfl⟩:=n;exact rule i j t T s _ _ ⟨.bl (g i j),H,I,rfl,q⟩
abbrev Og(i j:Int):Prop:=0<=j/\j<=1000000/\i.natAbs < 2 ^ 64
abbrev Ln(i j:Int):Prop:=(-(2 ^ 64) < i/\i < 2 ^ 64)\/(-(2 ^ 64) < j/\j < 2 ^ 64)
def Ln.ok{i j:Int}(h:Ln i j):IntMulOk i j:=by
 rcases h with ⟨f,g⟩ |⟨f,g⟩
 ·exact .of_left (intBits_le_64 f g)
 ·exact .of_right (intBits_le_64 f g)
def GJ:OpR X (Vf .Add) (rI0 λi j=>.int (i+j)):=Lm λ_ _ _ _ _ _ _ q=>add_int q
def GK:OpR X (Vf .Sub) (rI0 λi j=>.int (i - j)):=Lm λ_ _ _ _ _ _ _ q=>sub_int q
def GL:OpR X (Vf .Mult) (rI Ln λi j=>.int (i * j)):=opI λ_ _ _ _ _ _ _ h q=>mul_int q h.ok
def GM:OpR X (Vf .Mod) (rI (λ_ j=>0 < j) λi j=>.int (i % j)):=opI λi j _ _ _ _ _ h q=>by
 have f:(0:Int) < j:=h;exact mod_int' (by lia) (by rw[Int.fmod_eq_emod_of_nonneg i (by lia)];exact q)
def GN:OpR X (Vf .Pow) (rI Og λi j=>.int (i ^ j.toNat)):=opI λ_ _ _ _ _ _ _ h q=>pow_int_small h.1 h.2.1 h.2.2 q
def unI{f:Value->Sem Value}{g:Int->Int}
  (rule:∀ (i:Int) (t:Tok) (s:Shared) (Q:Value->Shared->Prop) (E:Value->Shared->Prop),Q (.int (g i) s.toks) { s with toks:=s.toks+1 }->wpAny (model X.prog X.w) X.A (f (.int i t)) Q E s) :
  UnR X f (rU λi=>.int (g i)):=by
 intro p s n H x v Q I j h;obtain⟨i,rfl,q⟩:=h;obtain⟨t,rfl⟩:=j;exact rule i t s _ _ ⟨.int (g i),H,I.tok _,⟨_,rfl⟩,q⟩
def GO:UnR X (unaryOp .USub) (rU λi=>.int (-i)):=unI λ_ _ _ _ _ q=>neg_int q
end
section
variable {X:Cx} {a b c:Expr} {ta tb tc:TE} {pos:Pos}
def x8(I:Inv X p g H s)(q:Q (.bl k) H)(e:k=f):EP X p g Q (.bool f) s:=by
 subst e;exact⟨.bl k,H,I,rfl,q⟩
def Lp:OpR X (Vp .Lt) (rI0 λi j=>.bl (decide (i < j))):=BW λ_ _ _ _ _ _ _ q=>lt_int q
def Lq:OpR X (Vp .LtE) (rI0 λi j=>.bl (decide (i<=j))):=BW λ_ _ _ _ _ _ _ q=>le_int q
def Lr:OpR X (Vp .Gt) (rI0 λi j=>.bl (decide (j < i))):=BW λ_ _ _ _ _ _ _ q=>gt_int q
def Ls:OpR X (Vp .GtE) (rI0 λi j=>.bl (decide (j<=i))):=BW λ_ _ _ _ _ _ _ q=>ge_int q
def GP:OpR X (Vp .Is) (λx y H Q=>y = .non/\Q (.bl (decide (x = .non))) H):=by
 intro p s j H x y v u Q I f g h;obtain⟨rfl,q⟩:=h;cases g;refine is_none_gen (x8 I q ?_)
 cases x <;> first
  |(cases f;rfl)
  |(obtain⟨t,rfl⟩:=f;rfl)
def BX:OpR X (Vp .IsNot) (λx y H Q=>y = .non/\Q (.bl (!decide (x = .non))) H):=by
 intro p s j H x y v u Q I f g h;obtain⟨rfl,q⟩:=h;cases g;refine isnot_none_gen (x8 I q ?_)
 cases x <;> first
  |(cases f;rfl)
  |(obtain⟨t,rfl⟩:=f;rfl)
def BZ{op:CmpOp}{r:R2}(B:OpR X (Vp op) r)(f:PE X a ta)(hb:PE X b tb)(z:Ve op b=aW):PE X (.Compare a [op] [b] pos) (tOp r ta tb):=by
 intro p s g H Q I h;exact wpAny_Compare1 (GI f hb I h λv u j x y o C E n q=>B p j g o x y v u Q C E n q) z
abbrev FC(t:TE):TT:=λf H Q=>t f H λx h=>∃k,x = .bl k/\Q k h
def B0(U:OpR X (Vp op) r)(g:PE X a ta)(hb:PE X b tb)(n:Ve op b=aW):PT X (.Compare a [op] [b] pos) (FC (tOp r ta tb)):=by
 intro p s f H Q I h
 refine wpAny_isTrue_Compare1 (thn (g p s f H _ I h) λv B ⟨x,Z,L,r1,T⟩=>thn (hb p B f Z _ L T) λu C ⟨y,j,Y,r2,O⟩=>
  thn (U p C f j x y v u _ Y r1 r2 O) λc s3 ⟨z,E,J,o,k,e,q⟩=>?_) n
 subst e;cases o;exact Ur ⟨E,J,q⟩
abbrev si(r o:R2)(ta tb tc:TE):TE:=λf H Q=>ta f H λx p=>tb f p λy n=>r x y n λz h=>∃k,z = .bl k ∧
 (if k=aT then tc f h λg j=>o y g j Q else Q (.bl aW) h)
def x9(ho:OpR X (Vp op) r)(g:OpR X (Vp o) Z)(B:PE X a ta)(hb:PE X b tb)(hc:PE X c tc)
  (J:lastMarks [op,o] [b,c]=aW:=by with_unfolding_all rfl):PE X (.Compare a [op,o] [b,c] pos) (si r Z ta tb tc):=by
 intro p s f H Q I h
 refine Compare_chain (thn (B p s f H _ I h) λv T ⟨x,H1,I1,r1,q1⟩=>chain_link (thn (hb p T f H1 _ I1 q1) λu Y ⟨y,E,I2,r2,q2⟩=>
  thn (ho p Y f E x y v u _ I2 r1 r2 q2) λd s3 ⟨z,j,n,O,k,e,q⟩=>?_)) J
 subst e;cases O;refine Ur ?_;cases k with
 |false=>exact ite_ff ⟨.bl aW,j,n,rfl,q⟩
 |true=>exact ite_tt (chain_last (thn (hc p s3 f j _ n q) λC s4 ⟨z',U,I4,L,q4⟩=>g p s4 f U y z' u C Q I4 r2 L q4))
def ya(ho:OpR X (Vp op) r)(g:OpR X (Vp o) r')(B:PE X a ta)(hb:PE X b tb)(hc:PE X c tc)
  (L:lastMarks [op,o] [b,c]=aW:=by with_unfolding_all rfl):PT X (.Compare a [op,o] [b,c] pos) (FC (si r r' ta tb tc)):=by
 intro p s f H Q I h
 refine isTrue_chain (thn (B p s f H _ I h) λv U ⟨x,H1,I1,r1,q1⟩=>test_link (thn (hb p U f H1 _ I1 q1) λu Z ⟨y,J,I2,r2,q2⟩=>
  thn (ho p Z f J x y v u _ I2 r1 r2 q2) λd s3 ⟨z,j,n,T,k,e,q⟩=>?_)) L
 subst e;cases T;refine Ur ?_;cases k with
 |false=>
  obtain⟨k',e',q'⟩:=q;cases e';exact ite_ff ⟨j,n,q'⟩
 |true=>
  refine ite_tt (test_last (thn (hc p s3 f j _ n q) λC s4 ⟨z',Y,I4,O,q4⟩=>thn (g p s4 f Y y z' u C _ I4 r2 O q4) λd' s5 ⟨z2,E,I5,r5,k2,e2,q5⟩=>?_));subst e2;cases r5;exact Ur ⟨E,I5,q5⟩
abbrev yc(K:WW)(x:V)(H:Hp)(k:Bool):Prop:=
 match x with
 |.non=>k=aW
 |.bl b=>k=b
 |.int i=>k=(i != 0)
 |.str y=>y.length<=sizeLine/\k=((y.length:Int) != 0)
 |.byt y=>y.size<=sizeLine/\k=((y.size:Int) != 0)
 |.ref p=>(∃g,SqL K H p g/\k = !g.isEmpty)\/(∃g,SqT K H p g/\k = !g.isEmpty)\/∃f,H p=aa (.dK f)/\k = !f.isEmpty
 |_=>False
def sj{g:Type}{f:List (g × V)}{v:List (g × Value)}(r:KV f v):(!v.isEmpty) = !f.isEmpty:=by
 cases r <;> rfl
def kL{f:List V}{its:List Value}(r:aP f its):(!its.toArray.isEmpty) = !f.isEmpty:=by
 cases r <;> simp
def jc:(sizeLine:Nat) < 2 ^ 63:=by rw[VN];decide
def yd:Oe X (λx H Q=>∃k,yc X.K x H k/\Q k H):=by
 intro z s O H x v Q I n h;obtain⟨k,e,q⟩:=h;have L:=jc;have hs:sizeLine=16777216:=VN;cases x with
 |non=>
  cases n;have E:k=aW:=e;subst E;exact truthy_none ⟨H,I,q⟩
 |bl b=>
  cases n;have E:k=b:=e;subst E;exact Ur ⟨H,I,q⟩
 |int i=>
  obtain⟨t,rfl⟩:=n;have E:k=(i != 0):=e;subst E;exact PySem.P.truthy_int ⟨H,I,q⟩
 |str y=>
  obtain⟨t,rfl⟩:=n;obtain⟨J,E⟩:y.length<=sizeLine/\k=((y.length:Int) != 0):=e;subst E;exact PySem.P.truthy_str (by lia) ⟨H,I.tok _,q⟩
 |byt y=>
  obtain⟨t,rfl⟩:=n;obtain⟨J,E⟩:y.size<=sizeLine/\k=((y.size:Int) != 0):=e;subst E;exact PySem.W.truthy_bytes (by lia) ⟨H,I.tok _,q⟩
 |ref p=>
  cases n;have E:(∃j,SqL X.K H p j/\k = !j.isEmpty)\/(∃j,SqT X.K H p j/\k = !j.isEmpty)\/∃f,H p=aa (.dK f)/\k = !f.isEmpty:=e;rcases E with ⟨j,o,E⟩ |⟨j,o,E⟩ |⟨f,o,E⟩
  ·subst E;obtain⟨u,r,pl,B⟩:=I.list o;have g:=r.length;exact wpAny_truthy_list pl.isList (by simp only[Zn];lia) ⟨H,I.tok _,by rw[kL r];exact q⟩
  ·subst E;obtain⟨u,r,pl,B⟩:=I.tuple o;have g:=r.length;exact truthy_tuple pl (by simp only[Zn];lia) ⟨H,I.tok _,by rw[kL r];exact q⟩
  ·subst E;obtain⟨B,C,vs,r,m⟩:f.length<=sizeLine/\(p == VT)=aW/\∃vs,KV f vs/\s.heap.DictOf (bz X.prog X.w) p vs:=I.hok p _ o;have g:f.length=vs.length:=Paired.length r;exact wpAny_truthy_dict C m (by lia) ⟨H,I.tok _,by rw[sj r];exact q⟩
 |_=>exact(show False from e).elim
def ye(n:PE X a ta)(u:∀f,isTrue a X.env f=(do let v <-f;standAt a.pos;holding [v] (truthy v))) :
  PT X a (λg H Q=>ta g H λx j=>∃k,yc X.K x j k/\Q k j):=by
 intro p s g H Q I h;exact isTrue_plain (thn (n p s g H _ I h) λv z ⟨x,y,o,r1,q⟩=>yd p z g y x v Q o r1 q) (u _)
def sn:OpR X (Vf .Add) (λx y H Q=>∃i j,x = .str i/\y = .str j/\i.length+j.length<=sizeLine/\Q (.str (i++j)) H):=by
 intro p s o H x y v u Q I n f h;obtain⟨i,j,rfl,rfl,g,q⟩:=h;obtain⟨t,rfl⟩:=n;obtain⟨T,rfl⟩:=f;exact add_str (λT z=>⟨.str (i++j),H,I.tok _,⟨_,rfl⟩,q⟩) g
def ca(r:aP [x] U):∃u,U=[u]/\aI x u:=by
 cases r with
 |cons r1 r2=>cases r2;exact⟨_,rfl,r1⟩
def uo(r:aP [x,y] U):∃u w',U=[u,w']/\aI x u/\aI y w':=by
 cases r with
 |cons r1 r2=>
  cases r2 with
  |cons f g=>cases g;exact⟨_,_,rfl,r1,f⟩
def vP(hc:X.calm=aT):aS X (.builtin "max") (λg H Q=>∃i j,g=[.int i,.int j]/\Q (.int (if j > i then j else i)) H):=by
 intro p s o H g U Q I r h;obtain⟨i,j,rfl,q⟩:=h;obtain⟨u,n,rfl,⟨t,rfl⟩,⟨v,rfl⟩⟩:=uo r;refine max_two_ints (I.ok.hd hc) λy T k=>⟨_,H,I.kept k,?_,q⟩;by_cases f:j > i
 ·rw[if_pos f,if_pos f];exact⟨_,rfl⟩
 ·rw[if_neg f,if_neg f];exact⟨_,rfl⟩
def vQ(hc:X.calm=aT):aS X (.builtin "min") (λg H Q=>∃i j,g=[.int i,.int j]/\Q (.int (if j < i then j else i)) H):=by
 intro p s o H g U Q I r h;obtain⟨i,j,rfl,q⟩:=h;obtain⟨u,n,rfl,⟨t,rfl⟩,⟨v,rfl⟩⟩:=uo r;refine min_two_ints (I.ok.hd hc) λy T k=>⟨_,H,I.kept k,?_,q⟩;by_cases f:j < i
 ·rw[if_pos f,if_pos f];exact⟨_,rfl⟩
 ·rw[if_neg f,if_neg f];exact⟨_,rfl⟩
def vR:aS X (.type "int") (λf H Q=>(∃i,f=[.int i]/\Q (.int i) H)\/∃k,f=[.bl k]/\Q (.int (if k then 1 else 0)) H):=by
 intro p s g H f U Q I r h;rcases h with ⟨i,rfl,q⟩ |⟨k,rfl,q⟩
 ·obtain⟨u,rfl,t,rfl⟩:=ca r;exact call_int_int ⟨.int i,H,I,⟨_,rfl⟩,q⟩
 ·obtain⟨u,rfl,r1⟩:=ca r;cases r1;exact call_int_bool ⟨.int (if k then 1 else 0),H,I.tok _,⟨_,rfl⟩,q⟩
end
structure ObjM(h:Heap)(x dx C:Addr)(mA:Str->Option Value):Prop where
 obj:h.get? x=aa (W1 C dx)
 ns:h.Ns1 dx mA
 ne:dx ≠ x
def vS{h:Heap}{c:Addr}{f:Str->Option Value}(n:h.Ns1 c f):∃O,h.get? c=aa O/\∀name,W8 name O=aa (f name):=by
 obtain⟨o,E,B,u,hd,g,_,j⟩:=n;refine⟨o,u,λname=>?_⟩;have e:=j name;unfold nsFind findBy at e;rw[<-Array.find?_toList] at e;unfold W8;rw[hd];dsimp only;split
 ·rename_i y q;rw[q] at e;exact congrArg aa e
 ·rename_i q;rw[q] at e
  have a:E.toList.any (·.refKey)=aW:=by
   rw[List.any_eq_false];intro y p;obtain⟨z,t,b⟩:=g y (Xy.mp p);simp[DictEntry.refKey,b]
  have v:¬ E.toList.any (·.refKey)=aT:=by rw[a];exact Zf
  rw[if_neg v];exact congrArg aa e
def ObjM.look(I:ObjM h x b C c):∃o,PySem.W.InstAt h x (W1 C b) C (aa o)/\∀name,W8 name o=aa (c name):=
 let ⟨o,ho,hl⟩:=vS I.ns
 ⟨o,⟨I.obj,rfl,rfl,ho⟩,hl⟩
def vH.some_of(r:vH (aa v) o):∃u,o=aa u/\aI v u:=by
 cases o with
 |none=>exact(show False from r).elim
 |some u=>exact⟨u,rfl,r⟩
section
variable {P:Program} {w:World} {H H':Hp} {h h':Heap} {a C dx:Addr} {fs fs':List (Str × V)}
def B1(hok:HOk P w H h)(e:H a=aa (.ins C dx fs)):∃b,ObjM h a dx C b/\(∀f,vH (fs.lookup f) (b f))/\PySem.Within b (fs.map (·.1))/\fs.length<=1000/\H dx=aa (.own a):=by
 obtain⟨d,z,ne,ob,b,n,r,q⟩:=(show bq P w H h a (.ins C dx fs) from hok a _ e);exact⟨b,⟨ob,n,ne⟩,r,q,z,d⟩
end
structure Cls(K:WW)(C:Addr):Prop where
 pg:Va K C Str.empty=aT
 hd:PySem.W.hasDictIn K C=aT
 po:PySem.W.plainOver K C=aT
 sa:WZ K (.ref C) "__setattr__" = aa (aa (.builtin "object.__setattr__"))
def Cls.get{K:WW}{C:Addr}(c:Cls K C)(f:Str):Va K C f=aT:=c.pg
section
variable {X:Cx} {pins:List (Addr × Obj)} {σ:St} {H:Hp} {s:Shared} {A:Around} {E:Value->Shared->Prop} {Q:Value->Shared->Prop} {c:Value} {b:Bool}
inductive TyOf(K:WW)(H:Hp):V->Value->Prop where
 |non:TyOf K H .non (.type "NoneType")
 |bl (x:Bool):TyOf K H (.bl x) (.type "bool")
 |int (i:Int):TyOf K H (.int i) (.type "int")
 |str (x:Str):TyOf K H (.str x) (.type "str")
 |flt (x:UInt64):TyOf K H (.flt x) (.type "float")
 |lst {a:Addr} {xs:List V} (e:H a=aa (.lst xs)):TyOf K H (.ref a) (.type "list")
 |frz {a:Addr} {o:Obj} {xs:List V} (e:H a=aa (.frz o (.lst xs))):TyOf K H (.ref a) (.type "list")
 |tup {a:Addr} {xs:List V} (e:H a=aa (.tup xs)):TyOf K H (.ref a) (.type "tuple")
 |dK {a:Addr} {kvs:List (Key × V)} (e:H a=aa (.dK kvs)):TyOf K H (.ref a) (.type "dict")
 |dT {a:Addr} {kvs:List (List Key × V)} (e:H a=aa (.dT kvs)):TyOf K H (.ref a) (.type "dict")
 |ins {a C dx:Addr} {fs:List (Str × V)} (e:H a=aa (.ins C dx fs)) (cl:Cls K C) (ha:WZ K (.ref C) "__class__" = aa (aa (.builtin "object.__class__")))
   (hn:PySem.W.specialIn K (.builtin "object.__class__") "__get__" = aa (aa (.builtin "getset_descriptor.__get__"))) (htk:PySem.W.takesIn K (.builtin "object.__class__")=aa aT)
   (hm:PySem.W.mroIn K C (.type "object")=aa aT):TyOf K H (.ref a) (.ref C)
def vT(I:Inv X pins σ H s)(f:aI x u)(ty:TyOf X.K H x t)(e:W5 X.K t c=aa b)(h:∀T,Q (.bool b) { s with toks:=T }) :
  wpAny (model X.prog X.w) A (call (.builtin "isinstance") [u,c]) Q E s:=by
 cases ty with
 |non=>cases (show u=Value.none from f);exact W4 PySem.W.kitx_none I.kIn True.intro e (λz=>nomatch z) h
 |bl y=>cases (show u=Value.bool y from f);exact W4 PySem.W.kitx_bool I.kIn True.intro e (λz=>nomatch z) h
 |int i=>obtain⟨t,q⟩:=(show ∃t,u=Value.int i t from f);cases q;exact W4 PySem.W.kitx_int I.kIn True.intro e (λz=>nomatch z) h
 |str y=>obtain⟨t,q⟩:=(show ∃t,u=Value.str y t from f);cases q;exact W4 PySem.W.kitx_str I.kIn True.intro e (λz=>nomatch z) h
 |flt y=>obtain⟨t,q⟩:=(show ∃t,u=Value.float y t from f);cases q;exact W4 PySem.W.kitx_float I.kIn True.intro e (λz=>nomatch z) h
 |@lst a j ea=>
  cases (show u=Value.ref a from f);obtain⟨_,_,n,_,g⟩:=(show bq X.prog X.w H s.heap a (.lst j) from I.hok a _ ea);exact W4 W7 I.kIn ⟨_,g,rfl⟩ e (λz=>nomatch z) h
 |@frz a ob j ea=>
  cases (show u=Value.ref a from f);obtain⟨_,_,_,n,_,g⟩:=(show bq X.prog X.w H s.heap a (.frz ob (.lst j)) from I.hok a _ ea);exact W4 W7 I.kIn ⟨_,g,rfl⟩ e (λz=>nomatch z) h
 |@tup a j ea=>
  cases (show u=Value.ref a from f);obtain⟨_,_,_,p⟩:=(show bq X.prog X.w H s.heap a (.tup j) from I.hok a _ ea);obtain⟨o,g,v,_⟩:=p;exact W4 PySem.W.kitx_tuple I.kIn ⟨o,g,v⟩ e (λz=>nomatch z) h
 |@dK a kvs ea=>
  cases (show u=Value.ref a from f);obtain⟨_,_,Z,_,p⟩:=(show bq X.prog X.w H s.heap a (.dK kvs) from I.hok a _ ea);obtain⟨o,L,B,g,v,_⟩:=p;exact W4 W6 I.kIn ⟨o,g,v.1⟩ e (λz=>nomatch z) h
 |@dT a kvs ea=>
  cases (show u=Value.ref a from f);obtain⟨_,_,j,_,o,L,B,g,v,_⟩:=(show bq X.prog X.w H s.heap a (.dT kvs) from I.hok a _ ea);exact W4 W6 I.kIn ⟨o,g,v.1⟩ e (λz=>nomatch z) h
 |@ins a C dx fs ea cl ha hn htk hm=>
  cases (show u=Value.ref a from f);obtain⟨U,O,_⟩:=B1 I.hok ea;obtain⟨Y,J,_⟩:=O.look;exact W4 (PySem.W.kitx_own (cl.get _) cl.hd ha hn htk hm) I.kIn J e (λz=>nomatch z) h
end
structure Room(k:Nat)(A:Around):Prop where
 hd:A.handled=aD
 dp:A.depth+3 * k+5 < recursionLimit
 un:A.units+16 * k+200 < cLine
 gd:A.guards=aa []
def Room.deeper{k:Nat}(r:Room (k+1) A)(env:Env):Room k (A.deeper env):=
 ⟨r.hd,by have:=r.dp;show A.depth+1+3 * k+5 < _;lia,by have:=r.un;show A.units+3+16 * k+200 < _;lia,r.gd⟩
def Room.depth{k:Nat}(r:Room k A):A.depth < recursionLimit:=by have:=r.dp;lia
def Room.units{k:Nat}(r:Room k A):A.units+64 < cLine:=by have:=r.un;lia
abbrev oH:TA:=λ_ H Q=>Q [] H
abbrev fk(T:TE)(c:TA):TA:=λb H Q=>T b H λx f=>c b f λX h=>Q (x::X) h
section
variable {X:Cx} {e:Expr} {es:List Expr} {te:TE} {t:TA} {pos:Pos}
def yf:PA X [] oH:=λ_ _ _ _ H Q I h=>Calls.spliced_nil ⟨[],H,I,.nil,h⟩
def B2(c:PE X e te)(f:PA X es t)(hs:VP (e::es) X.env=(aW,eval e X.env)::VP es X.env:=by rfl):PA X (e::es) (fk te t):=by
 intro pos p s b H Q I h;rw[hs];show wpAny _ _ (spliced ((aW,eval e X.env)::backTo pos (VP es X.env))) _ _ s;refine Calls.spliced_cons (thn (c p s b H _ I h) λu y ⟨x,v,g,r1,q⟩=>?_);exact thn (f pos p y b v _ g q) λU B ⟨n,j,o,r2,z⟩=>⟨x::n,j,o,.cons r1 r2,z⟩
abbrev Lu(t:TA):TE:=λc H Q=>t c H λb h=>b.length<=sizeLine/\∀p,h p=aD->Q (.ref p) (upd h p (.tup b))
abbrev Lv(t:TA):TE:=λc H Q=>t c H λb h=>b.length<=sizeLine/\∀p,h p=aD->Q (.ref p) (upd h p (.lst b))
def GQ{n}(h:PA X es t):PE X (.Tuple es n pos) (Lu t):=by
 intro p s j H Q I v;refine wpAny_Tuple_spliced (thn (h pos p s j H _ I v) λU c ⟨o,g,f,r,z,q⟩=>⟨by rw[<-r.length];exact z,?_⟩);have y:g c.heap.objs.size=aD:=f.hok.fresh (Zd _);refine⟨.ref c.heap.objs.size,upd g c.heap.objs.size (.tup o),f.laid (t':=c.toks) (λb u e=>Zg _ e) (Zd _) ?_,rfl,q _ y⟩;exact⟨z,U,r,oE.new _ _⟩
def GR(h:PA X es t):PE X (.List es pos) (Lv t):=by
 intro p s j H Q I o;refine wpAny_List_spliced (thn (h pos p s j H _ I o) λU c ⟨n,g,f,r,z,q⟩=>⟨by rw[<-r.length];exact z,?_⟩);have v:g c.heap.objs.size=aD:=f.hok.fresh (Zd _);refine⟨.ref c.heap.objs.size,upd g c.heap.objs.size (.lst n),f.laid (t':=c.toks) (λb u e=>Zg _ e) (Zd _) ?_,rfl,q _ v⟩;exact⟨z,U,0,r,Zw _ rfl⟩
end
@[inline]abbrev Sp:=List V->Hp->VK->XK->Prop
@[inline]abbrev CXT:=List Env->Hp->Shared->XK->Value->Shared->Prop
structure Env0(P:Program)(w:World)(K:WW)(mg:Str->Option Value)(base:Heap)(A:Around)(outer:List Env)(s:Shared)(H:Hp):Prop where
 frames:A.frames=aa outer
 mod:Mod K mg base
 bs:∀b o,base.get? b=aa o->s.heap.get? b=aa o/\H b=aD
 bsz:base.objs.size<=s.heap.objs.size
 funs:s.heap.FunFrames base outer
 frf:∀b ∈ frs outer,H b=aD
 hok:HOk P w H s.heap
 bare:AllBare s.gens
abbrev CE(outer:List Env)(P:Program)(w:World)(H:Hp)(s:Shared)(Q:VK)(u:Value)(b:Shared):Prop:=
 ∃v h,b.os=s.os/\AllBare b.gens/\Un (frs outer) [] H h s.heap b.heap/\HOk P w h b.heap/\aI v u/\Q v h
abbrev CR(C:CXT)(outer:List Env)(P:Program)(w:World)(H:Hp)(s:Shared)(Q:VK)(E:XK)(r:Result)(b:Shared):Prop:=
 match r with
 |.ok (.ret u)=>CE outer P w H s Q u b
 |.ok _=>False
 |.error e=>C outer H s E e b
structure FnOk(P:Program)(w:World)(K:WW)(mg:Str->Option Value)(base:Heap)(CX:CXT)(k:Nat)(f:Addr)(fd:WO)(ps:List Str)(sp:Sp):Prop where
 len:∀vs H Q E,sp vs H Q E->vs.length=ps.length
 run:∀ (A:Around) (outer:List Env) (s:Shared) (H:Hp) (args:Args) (us:List Value) (vs:List V) (Q:VK) (E:XK),Room k A->Env0 P w K mg base A outer s H->BindsTo s fd args (ps.zip us)->aP vs us->sp vs H Q E ->
  codeAny (model P w) A (.call (.ref f) args) (CR CX outer P w H s Q E) s
section
variable {X:Cx} {pins:List (Addr × Obj)} {σ:St} {H:Hp} {s s':Shared}
def Inv.env0(I:Inv X pins σ H s):Env0 X.prog X.w X.K X.mg X.base X.A X.stack s H:=
 ⟨I.ok.frames,I.ok.mod,I.bs,ZH I.ok.bsz I.sz,I.stack,I.stkFree,I.hok,I.bare⟩
def Inv.after(I:Inv X pins σ H s)(h:CE X.stack X.prog X.w H s Q u s'):EP X pins σ Q u s':=by
 obtain⟨v,f,os,bare,un,hok,r,q⟩:=h;obtain⟨c,g,d,t,o⟩:=s';obtain rfl:o=s.os:=os;exact⟨v,f,I.call (h':=c) (g':=g) (d':=d) (t':=t) (ch:=[]) un hok bare (λb z=>absurd z (by simp)),r,q⟩
end
abbrev FD(f:Sp)(b:List V)(E:XK)(t:TA):TE:=λc H Q=>t c H λv h=>f (v++b) h Q E
abbrev mZ(K:WW)(f:WO)(ps:List Str)(b:List Value):Prop:=
 ∀ (s:Shared) (u:List Value),K.In s.heap->(u++b).length=ps.length->BindsTo s f ⟨u,[]⟩ (ps.zip (u++b))
def mZ.all{K:WW}{f:WO}{ps:List Str}(h:∀u:List Value,u.length=ps.length->bindArgs f ⟨u,[]⟩=pure (ps.zip u)):mZ K f ps []:=λs u _ b=>by
 rw[Z4] at b ⊢;exact .of_eq (h u b)
abbrev sr(C:CXT)(X:Cx)(E:XK):Prop:=∀ (p:List (Addr × Obj)) (c:St) (H:Hp) (s:Shared) (e:Value) (b:Shared),Inv X p c H s->C X.stack H s E e b->X.xe e b
section
variable {X:Cx} {CX:CXT} {k:Nat} {f C:Addr} {fd:WO} {ps:List Str} {sp:Sp} {dvs:List V} {ds:List Value} {E:XK} {x m:Str} {p pos apos:Pos} {e o:Expr} {es:List Expr} {ta:TE} {t:TA}
def GS(F:FnOk X.prog X.w X.K X.mg X.base CX k f fd ps sp)(n:Room k X.A)(hb:mZ X.K fd ps ds)(hd:aP dvs ds)(q:sr CX X E)
  (I:Inv X b g H s) (r:aP v U) (h:sp (v++dvs) H Q E):wpAny (model X.prog X.w) X.A (call (.ref f) U) (EP X b g Q) X.xe s:=by
 have r2:aP (v++dvs) (U++ds):=r.append hd;have y:(U++ds).length=ps.length:=by rw[<-r2.length];exact F.len _ _ _ _ h
 refine wpAny_call (Vn (F.run X.A X.stack s H ⟨U,[]⟩ (U++ds) (v++dvs) Q E n I.env0 (hb s U I.kIn y) r2 h) λr j c=>?_);cases r with
 |error e=>exact q b g H s e j I c
 |ok z=>
  cases z with
  |ret u=>exact I.after c
  |next=>exact False.elim c
  |brk=>exact False.elim c
  |cont=>exact False.elim c
def B3(F:FnOk X.prog X.w X.K X.mg X.base CX k f fd ps sp)(z:Room k X.A)(L:Gl X x)(u:X.mg x=aa (.ref f))(J:W3 X.K (.ref f)=aT)(hb:mZ X.K fd ps ds)(hd:aP dvs ds)(v:sr CX X E)
  (n:PA X (e::es) t) (c:(x == ("__debug__" : Str))=aW:=by decide) (y:VP (e::es) X.env=(aW,eval e X.env)::VP es X.env:=by rfl) (g:(backTo pos (VP es X.env)).any (·.1)=aW:=by rfl) :
  PE X (.Call (.Name x p) (e::es) [] pos) (FD sp dvs E t):=by
 intro b s B H Q I h;refine VW (ul I L u ?_ c);refine PySem.W.callWith_K (h₀:=X.base) I.ok.mod.kin J (thn (n pos b s B H _ I h) λU O ⟨T,Y,j,r,q⟩=>⟨j.kIn,?_⟩) y g;exact GS F z hb hd v j r q
end
structure FnScope(N P:List Str)(sc:Scope):Prop where
 kind:sc.kind = .function
 co:sc.isCoroutine=aW
 gen:sc.isGenerator=aW
 nd:N.Nodup
 pre:N.take P.length=P
 par:∀x ∈ P,sc.names.lookup x=aa .local\/sc.names.lookup x=aa .cell
 nofree:∀y ∈ sc.names,y.2 ≠ .free
def m7{kindOf:Str->Option WQ}{x:Str}:∀ {binds:List (Str × Value)} {m:Str->Option Value},(∀v,(x,v) ∉ binds)->bindL kindOf binds m x=m x
 |[],_,_=>rfl
 |(n,v)::r,m,h=>by
  unfold bindL;rw[m7 λw b=>h w (Zm _ b)];split
  ·have:x ≠ n:=by rintro rfl;exact h v Zj
   simp[this]
  ·rfl
def m8{kindOf:Str->Option WQ}{x:Str}:∀ {binds:List (Str × Value)} {m:Str->Option Value},(∀v,(x,v) ∉ binds)->bindC kindOf binds m x=m x
 |[],_,_=>rfl
 |(n,v)::r,m,h=>by
  unfold bindC;rw[m8 λw b=>h w (Zm _ b)];split
  ·rfl
  ·have:x ≠ n:=by rintro rfl;exact h v Zj
   simp[this]
def m9{kindOf:Str->Option WQ}{x:Str}{v:Value}:∀ {P:List Str} {b:List Value} {i:Nat} {m:Str->Option Value},P.Nodup->P[i]?=aa x->b[i]?=aa v->kindOf x=aa .local ->
  bindL kindOf (P.zip b) m x=aa v
 |[],_,_,_,_,h,_,_=>by simp at h
 |_::_,[],_,_,_,_,h,_=>by simp at h
 |p::P,w::b,0,m,nd,h1,h2,hk=>by
  simp at h1 h2;subst h1;subst h2;show bindL kindOf ((p,w)::P.zip b) m p=_;unfold bindL;rw[m7 λv c=>(YL.mp nd).1 (Y4 c).1,if_pos hk];simp
 |p::P,w::b,i+1,m,nd,h1,h2,hk=>by
  show bindL kindOf ((p,w)::P.zip b) m x=_;unfold bindL;exact m9 (i:=i) (YL.mp nd).2 (by simpa using h1) (by simpa using h2) hk
def nc{kindOf:Str->Option WQ}{x:Str}{v:Value}:∀ {P:List Str} {b:List Value} {i:Nat} {m:Str->Option Value},P.Nodup->P[i]?=aa x->b[i]?=aa v->kindOf x ≠ aa .local ->
  bindC kindOf (P.zip b) m x=aa v
 |[],_,_,_,_,h,_,_=>by simp at h
 |_::_,[],_,_,_,_,h,_=>by simp at h
 |p::P,w::b,0,m,nd,h1,h2,hk=>by
  simp at h1 h2;subst h1;subst h2;show bindC kindOf ((p,w)::P.zip b) m p=_;unfold bindC;rw[m8 λv c=>(YL.mp nd).1 (Y4 c).1,if_neg hk];simp
 |p::P,w::b,i+1,m,nd,h1,h2,hk=>by
  show bindC kindOf ((p,w)::P.zip b) m x=_;unfold bindC;exact nc (i:=i) (YL.mp nd).2 (by simpa using h1) (by simpa using h2) hk
abbrev gK(N:List Str)(v:List V):St:=v.map aa++Zr (N.length - v.length) aD
abbrev su(g:CXT)(P:Program)(w:World)(K:WW)(mg:Str->Option Value)(base:Heap)(N:List Str)(q:Str)(b:Scope)(f:Addr)(C:Value)(A:Around)(outer:List Env)(s:Shared)(H:Hp)(E:XK):Cx where
 prog:=P
 w:=w
 K:=K
 mg:=mg
 base:=base
 A:=A.deeper (envOfC q b s.heap.objs.size f C)
 N:=N
 s₀:=s
 H₀:=H
 env:=envOfC q b s.heap.objs.size f C
 outer:=outer
 stack:=envOfC q b s.heap.objs.size f C::outer
 ex:=[]
 calm:=true
 fn:=λ_=>aT
 pn:=[]
 xe:=λe h=>wpAny (model P w) (A.deeper (envOfC q b s.heap.objs.size f C)) (leaving (envOfC q b s.heap.objs.size f C) e) (λ_ c=>g outer H s E e c) (λj c=>g outer H s E j c) h
def qg{sc:Scope}{n:Nat}{x:Str}(h:sc.names.lookup x=aa .cell):∃c,(Vl n sc.names []).lookup x=aa c:=by
 have q:=WX sc.names n [] (.inl h);exact Yk.mp q
def vU{Y:CXT}{P:Program}{w:World}{K:WW}{mg:Str->Option Value}{base:Heap}{N ps:List Str}{Q:Str}{g:Scope}{f:Addr}{L:Value}{A:Around}{outer:List Env}{s s1:Shared}{H:Hp}{E:XK}{U:List Value}{C:List V}
  (S:FnScope N ps g) (hd:A.handled=aD) (o:Env0 P w K mg base A outer s H) (hl:C.length=ps.length) (r:aP C U)
  (x:InCallC s s.heap.objs.size (bindL (envOfC Q g s.heap.objs.size f L).kindOf (ps.zip U) λ_=>aD) (Vl (s.heap.objs.size+1) g.names []) (bindC (envOfC Q g s.heap.objs.size f L).kindOf (ps.zip U) λ_=>aD) s1) :
  Inv (su Y P w K mg base N Q g f L A outer s H E) [] (gK N C) H s1:=by
 have hpl:ps.length<=N.length:=by have:=congrArg Zc S.pre;rw[ZC] at this;lia
 obtain⟨O,tk,rfl,T⟩:=x.done;have B:∀b:Addr,b ∉ (su Y P w K mg base N Q g f L A outer s H E).ex:=λb z=>absurd (show b ∈ ([]:List Addr) from z) (by simp)
 refine⟨⟨o.mod,S.kind,rfl,rfl,Zd _,λy z c O j=>?_,λy hy=>?_,λy c _ h=>?_,λ_=>hd,Around.frames_deeper o.frames,.inr ⟨rfl,rfl⟩,λb z=>absurd z (B b),o.bs,o.bsz,λb _ _=>B b,λb z=>absurd z (B b),o.funs,o.frf⟩,
  rfl,o.bare,Un.kept T,⟨_,x.toInCall.ns,λi y v O j h3=>?_⟩,λy c h=>⟨_,x.cell y c h⟩,o.hok.fresh (Zd _),λy c h=>?_,λp I=>absurd (show p ∈ ([]:List (Addr × Obj)) from I) (by simp),o.hok.kept T,?_⟩
 ·exact name_of_addr x.apart (VA O) (VA j)
 ·have hy:g.names.lookup y=aa .cell\/g.names.lookup y=aa .free:=hy;rcases hy with hy |hy
  ·exact qg hy
  ·exact absurd rfl (S.nofree _ (VA hy))
 ·exact Xc (x.above y c (VA h))
 ·have hi:i < C.length:=by
   unfold gK at j;by_cases hi:i < C.length
   ·exact hi
   ·rw[Zo (by simpa using hi)] at j;rw[Yp] at j;split at j <;> cases j
  have Z:C[i]?=aa v:=by
   unfold gK at j;rw[Zt (by simpa using hi),Zl] at j;cases e:C[i]? with
   |none=>rw[e] at j;cases j
   |some a=>rw[e] at j;cases j;rfl
  obtain⟨u,X,rv⟩:=r.get Z
  have I:ps[i]?=aa y:=by
   rw[<-S.pre,Xo (by lia)];exact O
  have J:ps.Nodup:=by rw[<-S.pre];exact S.nd.sublist (XY _ _)
  refine⟨u,rv,?_⟩;rcases S.par y (Ze I) with k |k
  ·exact .inl ⟨k,m9 J I X k⟩
  ·obtain⟨c,e⟩:=qg (n:=s.heap.objs.size+1) k;refine .inr ⟨.inl k,c,e,?_⟩;have q:=x.cell y c e;rw[nc J I X (by show g.names.lookup y ≠ _;rw[k];decide)] at q;exact q
 ·exact o.hok.fresh (Xc (x.above y c (VA h)))
 ·unfold gK;show _=N.length;rw[Zi,Za,Xx]
  lia
def Lx{Y:CXT}{P:Program}{w:World}{K:WW}{mg:Str->Option Value}{base:Heap}{k:Nat}{f:Addr}{name g:Str}{p:Arguments}{body:List Stmt}{c:Scope}{dV kV U pm C ct oc:Value}{an od:Option Addr}
  {osl:Array (Option Value)} {N ps:List Str} {sp:Sp} (lk:K.lookup f=aa ⟨oc,od,.func (W0 name g p body c dV kV U pm an C ct),osl⟩) (Z:WY K C g=aT) (S:FnScope N ps c)
  (len:∀j H Q E,sp j H Q E->j.length=ps.length)
  (B:∀ (A:Around) (outer:List Env) (s:Shared) (H:Hp) (j:List V) (Q:VK) (E:XK),Room k (A.deeper (envOfC g c s.heap.objs.size f C))->sp j H Q E ->
   ∃t,PSs (su Y P w K mg base N g c f C A outer s H E) body t/\t { nx:=λ_ z=>Q .non z,rt:=Q } (gK N j) H) :
  FnOk P w K mg base Y (k+1) f (W0 name g p body c dV kV U pm an C ct) ps sp:=by
 refine⟨len,λA outer s H args us j Q E hr O hb r X=>?_⟩;have hl:=len _ _ _ _ X;have KX:K.In s.heap:=O.mod.kin.keeps λb o e=>(O.bs b o e).1;have lim:s.heap.NoLimit:=O.mod.nolimit.keeps λb o e=>(O.bs b o e).1
 have L:∀y ∈ ps.zip us,c.names.lookup y.1=aa .local\/(c.names.lookup y.1=aa .cell/\((Vl (s.heap.objs.size+1) c.names []).lookup y.1).isSome=aT):=λ⟨n,v⟩ hy=>by
  rcases S.par n (Y4 hy).1 with q |q
  ·exact .inl q
  ·exact .inr ⟨q,WX _ _ _ (.inl q)⟩
 refine codeAny_call_function hr.depth (KX _ _ lk) rfl S.co S.gen rfl (PySem.W.codeRec_of KX Z) (hb _ _ _ _ ?_);refine wpAny_newFunctionEnv_cells S.kind L λenv he s1 x=>?_;subst he;refine⟨lim.keeps x.toInCall.keep,codeAny_func ?_⟩;obtain⟨t,ht,hq⟩:=B A outer s H j Q E (hr.deeper _) X;have I:Inv (su Y P w K mg base N g c f C A outer s H E) [] (gK N j) H s1:=vU S hr.hd O hl r x;refine V8 (ht [] s1 (gK N j) H _ I hq) (λfl s' hs=>?_) λe s' hs=>hs
 have T:∀ {h:St} {z:Hp} {v:V} {u:Value},Inv (su Y P w K mg base N g c f C A outer s H E) [] h z s'->aI v u->Q v z->CE outer P w H s Q u s':=
  λ{h z v u} J rv q=>⟨v,z,J.os,J.bare,J.base,J.hok,rv,q⟩
 cases fl with
 |ret u=>
  obtain⟨v,h,z,J,rv,q⟩:=hs;exact T J rv q
 |next=>
  obtain⟨h,z,J,q⟩:=hs;exact T (v:=V.non) (u:=Value.none) J rfl q
 |brk=>
  obtain⟨_,_,_,q⟩:=hs;exact False.elim q
 |cont=>
  obtain⟨_,_,_,q⟩:=hs;exact False.elim q
section
variable {X:Cx} {x:Str} {p pos:Pos} {e:Expr} {es:List Expr} {t:TA} {id T:String} {r:List V->Hp->VK->Prop}
abbrev tCB(r:List V->Hp->VK->Prop)(t:TA):TE:=λb H Q=>t b H λv h=>r v h Q
def fC(hc:aS X (.builtin id) r)(C:Gl X x)(n:X.mg x=aD)(y:Vh x=aa (.builtin id))(j:PA X (e::es) t)(v:x ≠ "__name__" := by decide)(c:(x == ("__debug__" : Str))=aW:=by decide)
  (o:VP (e::es) X.env=(aW,eval e X.env)::VP es X.env:=by rfl) (f:(backTo pos (VP es X.env)).any (·.1)=aW:=by rfl):PE X (.Call (.Name x p) (e::es) [] pos) (tCB r t):=by
 intro b s g H Q I h;refine VW (gX I C n y ?_ v c);exact PyProof.Rows.callWith_builtin1 (thn (j pos b s g H _ I h) λu q ⟨B,J,z,r1,E⟩=>hc b q g J B u Q z r1 E) o f
def gn(hc:aS X (.type T) r)(C:Gl X x)(n:X.mg x=aD)(y:Vh x=aa (.type T))(j:PA X (e::es) t)(v:x ≠ "__name__" := by decide)(c:(x == ("__debug__" : Str))=aW:=by decide)
  (o:VP (e::es) X.env=(aW,eval e X.env)::VP es X.env:=by rfl) (f:(backTo pos (VP es X.env)).any (·.1)=aW:=by rfl):PE X (.Call (.Name x p) (e::es) [] pos) (tCB r t):=by
 intro b s g H Q I h;refine VW (gX I C n y ?_ v c);exact Wz (thn (j pos b s g H _ I h) λu q ⟨B,J,z,r1,E⟩=>hc b q g J B u Q z r1 E) o f
end
end L2
namespace HT
open PySem PyProof.Rows
section
open PySem.SeqAt
open PySem.AutoSeq1 (wpAny_loadPart')
open PySem.MeetsSeq PySem.MeetsSeq2 PySem.MeetsSeq3
end
section
variable {prog:Program} {w:World} {A:Around} {E:Value->Shared->Prop} {s:Shared}
def B4(J:IsTup s.heap t v.toArray)(hb:IsTup s.heap b c.toArray)(z:v ≠ [])
  (O:c=[]->Q (.ref t) s) (L:c ≠ []->Q (.ref s.heap.objs.size) { s with heap:=s.heap.push { cls:=.type "tuple", data:=.seq (v++c).toArray } })
  (u:v.length+c.length<=sizeLine):wpAny (model prog w) A (Vf .Add (.ref t) (.ref b)) Q E s:=by
 obtain⟨⟨cls,B,data,sl⟩,q,y,n,hd⟩:=id J;obtain⟨⟨I,j,data2,o⟩,h,f,C,g⟩:=id hb;simp only at y hd f g;subst y hd f g;have e:v.toArray++c.toArray=(v++c).toArray:=by simp
 by_cases p:c=[]
 ·exact Vr ⟨_,q,rfl⟩ ⟨_,h,rfl⟩ VC VM WL WG (WE _ _)
   (tuple_addW1 t b v.toArray c.toArray n C B j sl o (by simpa using z) (by simp[p])) ⟨q,h,O p⟩
 ·refine Vr ⟨_,q,rfl⟩ ⟨_,h,rfl⟩ VC VM WL WG (WE _ _)
   (tuple_addW2 t b v.toArray c.toArray n C B j sl o (by simpa using z) (by simpa using p) (by rw[Zn,Zn];exact u)) ⟨q,h,?_⟩
  rw[e];exact L p
abbrev sIx(n d:Nat):Option Int->Nat
 |none=>d
 |some v=>if v < 0 then (v+(n:Int)).toNat else min v.toNat n
def yg(n d:Nat):sIx n d aD=d:=rfl
def GU(n d:Nat)(hd:d<=n)(o:Option Int):sIx n d o<=n:=by
 cases o with
 |none=>exact hd
 |some v=>
  show(if v < 0 then (v+(n:Int)).toNat else min v.toNat n)<=n;by_cases h:v < 0
  ·rw[if_pos h];lia
  ·rw[if_neg h];exact Nat.min_le_right _ _
def uq(v:Int)(n d:Nat):(if v < 0 then max (v+(n:Int)) 0 else min v (n:Int))=((sIx n d (aa v):Nat):Int):=by
 show(if v < 0 then max (v+(n:Int)) 0 else min v (n:Int))=(((if v < 0 then (v+(n:Int)).toNat else min v.toNat n):Nat):Int);by_cases h:v < 0
 ·simp only[if_pos h];lia
 ·simp only[if_neg h];lia
def sv(lo hi:Option Int)(n:Nat):Builtin.Slice.sliceAdjust lo hi 1 (n:Int)=(((sIx n 0 lo:Nat):Int),((sIx n n hi:Nat):Int)):=by
 have h:¬ ((1:Int) < 0):=by lia
 unfold Builtin.Slice.sliceAdjust;simp only[h,if_false];refine Prod.ext ?_ ?_
 ·cases lo with
  |none=>rfl
  |some v=>exact uq v n 0
 ·cases hi with
  |none=>rfl
  |some v=>exact uq v n n
def sx(i j:Nat):Builtin.Slice.slicePlaces (i:Int) (j:Int) 1=j - i:=by
 unfold Builtin.Slice.slicePlaces;have h:(1:Int) > 0:=by lia
 simp only[h,if_true,Int.ediv_one];split <;> lia
def kM(p:IsPart v o)(h:Q o s):wpAny (model prog w) A (Builtin.Slice.slicePartIndex v) Q E s:=by
 cases p with
 |none=>exact slicePart_none h
 |int i t=>exact slicePart_int h
def dS{sl:Addr}{v f:Value}{lo hi:Option Int}{n:Nat}{Q:Int × Int × Nat->Shared->Prop}(hs:s.heap.IsSliceOf sl v f .none)(pl:IsPart v lo)(p:IsPart f hi)
  (h:Q (((sIx n 0 lo:Nat):Int),1,sIx n n hi - sIx n 0 lo) s):wpAny (model prog w) A (Builtin.Slice.sliceApplied (.ref sl) (pure (n:Int))) Q E s:=by
 obtain⟨os,c,g,b⟩:=id hs;unfold Builtin.Slice.sliceApplied Builtin.Slice.sliceFields;refine VY (VY (V4 c b (x:=v) rfl (VY (V4 c b (x:=f) rfl (VY (V4 c b (x:=.none) rfl (Ud ?_)))))));refine VY (slicePart_none ?_);show wpAny _ _ (if ((1:Int) == 0)=aT then _ else _) _ _ s;rw[if_neg (by decide)];refine VY (kM pl (VY (kM p (VY (Ud ?_)))));show wpAny _ _ (match Builtin.Slice.sliceAdjust lo hi 1 (n:Int) with |(lo,hi)=>pure (lo,(1:Int),Builtin.Slice.slicePlaces lo hi 1)) _ _ s;rw[sv lo hi n];show wpAny _ _ (pure (((sIx n 0 lo:Nat):Int),(1:Int),Builtin.Slice.slicePlaces ((sIx n 0 lo:Nat):Int) ((sIx n n hi:Nat):Int) 1)) _ _ s;rw[sx];exact Ud h
def yh(X:Array Value)(i k:Nat):((Zh k).filterMap λ(m:Nat)=>X[((i:Int)+(m:Int) * 1).toNat]?).toArray=((X.toList.drop i).take k).toArray:=by
 have e:(λ(m:Nat)=>X[((i:Int)+(m:Int) * 1).toNat]?)=λm=>X[i+m]?:=by
  funext m
  have:((i:Int)+(m:Int) * 1).toNat=i+m:=by lia
  rw[this]
 rw[e];have:=pick_run X i k;rw[List.filterMap_map] at this;have b:((λx=>X[x]?) ∘ λx=>i+x)=λm=>X[i+m]?:=rfl;rw[b] at this;rw[this]
def iA{t sl:Addr}{I:Array Value}{v o:Value}{lo hi:Option Int}{Q:Value->Shared->Prop}(c:IsTup s.heap t I)(hs:s.heap.IsSliceOf sl v o .none)(pl:IsPart v lo)(y:IsPart o hi)
  (hw:¬ (sIx I.size 0 lo=0/\sIx I.size I.size hi=I.size))
  (h:Q (.ref s.heap.objs.size) { s with heap:=s.heap.push { cls:=.type "tuple", data:=.seq ((I.toList.drop (sIx I.size 0 lo)).take (sIx I.size I.size hi - sIx I.size 0 lo)).toArray } })
  (u:I.size<=sizeLine):wpAny (model prog w) A (getItem (.ref t) (.ref sl)) Q E s:=by
 have b:sizeOk (.seq ((I.toList.drop (sIx I.size 0 lo)).take (sIx I.size I.size hi - sIx I.size 0 lo)).toArray):=by
  show((I.toList.drop (sIx I.size 0 lo)).take (sIx I.size I.size hi - sIx I.size 0 lo)).toArray.size<=sizeLine;rw[Zn,ZC,YC,ZL]
  lia
 have z:sIx I.size I.size hi<=I.size:=GU _ _ (Zd _) hi;obtain⟨os,g,f,p⟩:=id hs;have j:s.TypeIs (.ref sl) "slice" := ⟨os,g,f⟩;unfold getItem
 try with_reducible refine V5 ?_
 first |refine VY (Ud ?_) |skip
 refine VY (wpAny_sequenceKey c.typeIs (by decide) ?_)
 refine VY (wpAny_callSpecial?_slot (name:=Str.ofString "__getitem__") c.typeIs WA
  (V0 WA c.typeIs entry_tuple_getitem ?_ (args_tuple_getitem _ _)))
 show wpAny _ _ (Builtin.Tuple.tupleItemsOf (.ref t) >>= _) _ _ s;refine VY (tupleItemsOf_ c ?_);refine VY (Us j ?_);rw[if_pos (by decide)];refine VY (dS hs pl y ?_)
 have n:¬ ((((sIx I.size 0 lo:Nat):Int) == 0 && (1:Int) == 1 && (sIx I.size I.size hi - sIx I.size 0 lo) == I.size)=aT):=by
  intro q;rw[bAE,bAE] at q;have B:((sIx I.size 0 lo:Nat):Int)=0:=eq_of_beq q.1.1;have C:sIx I.size I.size hi - sIx I.size 0 lo=I.size:=eq_of_beq q.2;exact hw ⟨by lia,by lia⟩
 show wpAny _ _ (if (((sIx I.size 0 lo:Nat):Int) == 0 && (1:Int) == 1 && (sIx I.size I.size hi - sIx I.size 0 lo) == I.size)=aT then _ else _) _ _ s;rw[if_neg n,yh]
 first
  |exact VY (m:=Builtin.Tuple.tupleExact _) (Ua (Ud ⟨_,rfl,Ud h⟩) b)
  |exact VY (m:=Builtin.Tuple.tupleExact _) (Ua (VY (Ud (Ud ⟨_,rfl,Ud h⟩))) b)
  |exact VY (VY (m:=Builtin.Tuple.tupleExact _) (Ua (Ud (Ud ⟨_,rfl,Ud h⟩)) b))
  |exact VY (VY (m:=Builtin.Tuple.tupleExact _) (Ua (Ud ⟨_,rfl,Ud h⟩) b))
end
end HT
namespace L2
open PySem PySem.Spec PyProof.Rows
@[inline]abbrev TO:=St->Hp->(Option Int->Hp->Prop)->Prop
abbrev PO(X:Cx)(e:Option Expr)(t:TO):Prop:=
 ∀ (p:List (Addr × Obj)) (s:Shared) (b:St) (H:Hp) (Q:Option Int->Hp->Prop),Inv X p b H s->t b H Q ->
  wpAny (model X.prog X.w) X.A (evalPart e X.env) (λu c=>∃o h,Inv X p b h c/\IsPart u o/\Q o h) X.xe s
abbrev ur:TO:=λ_ H Q=>Q aD H
abbrev FE(t:TE):TO:=λb H Q=>t b H λx h=>∃i,x = .int i/\Q (aa i) h
section
variable {X:Cx} {e:Expr} {te:TE} {lo hi:Option Expr} {tl th:TO} {pos p2:Pos}
def B5:PO X aD ur:=by
 intro p s b H Q I h;rw[evalPart_none];exact Ud ⟨aD,H,I,.none,h⟩
def B6(h:PE X e te):PO X (aa e) (FE te):=by
 intro p s b H Q I f;rw[evalPart_some];refine thn (h p s b H _ I f) λu n ⟨x,j,c,r1,g⟩=>?_;obtain⟨i,rfl,q⟩:=g;obtain⟨t,rfl⟩:=r1;exact⟨aa i,j,c,.int i t,q⟩
abbrev SlR(X:Cx)(r:V->Option Int->Option Int->Hp->VK->Prop):Prop:=
 ∀ (p:List (Addr × Obj)) (s:Shared) (c:St) (H:Hp) (x:V) (v b f:Value) (lo hi:Option Int) (sl:Addr) (Q:VK),Inv X p c H s->aI x v->s.heap.IsSliceOf sl b f .none->IsPart b lo->IsPart f hi->r x lo hi H Q ->
  ∃T id,typeLookup (.type T) "__getitem__" = pure (aa (.builtin id))/\s.TypeIs v T/\wpAny (model X.prog X.w) X.A (getItem v (.ref sl)) (EP X p c Q) X.xe s
def SlR.or{r g:V->Option Int->Option Int->Hp->VK->Prop}(h:SlR X r)(h':SlR X g):SlR X (λx lo hi H Q=>r x lo hi H Q\/g x lo hi H Q):=by
 intro p s c H x v b j lo hi sl Q I n hs pl f q;rcases q with q |q
 ·exact h p s c H x v b j lo hi sl Q I n hs pl f q
 ·exact h' p s c H x v b j lo hi sl Q I n hs pl f q
abbrev tSl(r:V->Option Int->Option Int->Hp->VK->Prop)(te:TE)(tl th:TO):TE:=λb H Q=>te b H λx f=>tl b f λl h=>th b h λu c=>r x l u c Q
def yi(E:SlR X r)(z:PE X e te)(hl:PO X lo tl)(hu:PO X hi th):PE X (.Subscript e (.Slice lo hi aD p2) pos) (tSl r te tl th):=by
 intro p s f H Q I h;refine Subscript_ (thn (z p s f H _ I h) λv C ⟨x,H1,U,r1,q1⟩=>?_);refine wpAny_Slice (thn (hl p C f H1 _ U q1) λg J ⟨l,o,I2,pl,q2⟩=>thn (hu p J f o _ I2 q2) λj c ⟨u,n,O,L,B⟩=>?_);rw[evalPart_none];refine Ud ?_;have Z:Inv X p f n { c with heap:=c.heap.push { cls:=.type "slice", data:=.fields #[g,j,.none] } }:=O.kept (t':=c.toks) λb ob q=>Zg _ q;obtain⟨T,id,Y,y,hg⟩:=E p { c with heap:=c.heap.push { cls:=.type "slice", data:=.fields #[g,j,.none] } } f n x v g j l u c.heap.objs.size Q Z r1 (Heap.IsSliceOf.new ..) pl L B;show wpAny (model X.prog X.w) X.A (subscriptTail e (.Slice lo hi aD p2) v (.ref c.heap.objs.size)) (EP X p f Q) X.xe { c with heap:=c.heap.push { cls:=.type "slice", data:=.fields #[g,j,.none] } };exact tail_any (ops:=[.ref c.heap.objs.size,v]) y Y hg (by with_unfolding_all rfl)
abbrev kN(b:List V)(lo hi:Option Int):List V:=(b.drop (HT.sIx b.length 0 lo)).take (HT.sIx b.length b.length hi - HT.sIx b.length 0 lo)
def jL(b:List V)(lo hi:Option Int):(kN b lo hi).length<=b.length:=by
 unfold kN;rw[ZC,YC]
 lia
abbrev Oh(K:WW):V->Option Int->Option Int->Hp->VK->Prop:=λx lo hi H Q=>∃a b,x = .ref a/\SqT K H a b ∧
 ¬ (HT.sIx b.length 0 lo=0/\HT.sIx b.length b.length hi=b.length)/\∀p,H p=aD->Q (.ref p) (upd H p (.tup (kN b lo hi)))
def GV:SlR X (Oh X.K):=by
 intro p s C H x v E J lo hi sl Q I B hs pl y h;obtain⟨a,f,rfl,u,z,q⟩:=h;cases B;obtain⟨g,r,j,n⟩:=I.tuple u;have c:g.toArray.size=f.length:=by rw[Zn];exact r.length.symm
 refine⟨"tuple", _,PyProof.Rows.slot_tuple_getitem.lookup,j.typeIs,?_⟩;refine HT.iA j hs pl y (by rw[c];exact z) ?_ (by rw[c];exact n);rw[c];refine⟨.ref s.heap.objs.size,_,I.laid (t':=s.toks) (o:=.tup (kN f lo hi)) (λb ob q=>Zg _ q) (Zd _) ?_,rfl,q _ (I.hok.fresh (Zd _))⟩;exact⟨ZH (jL f lo hi) n,_,(r.drop (HT.sIx f.length 0 lo)).take (HT.sIx f.length f.length hi - HT.sIx f.length 0 lo),oE.new _ _⟩
abbrev Ly(K:WW):R2:=λx y H Q=>∃a b c Y,x = .ref a/\y = .ref b/\SqT K H a c/\SqT K H b Y/\c ≠ []/\c.length+Y.length<=sizeLine ∧
 (Y=[]->Q (.ref a) H)/\(Y ≠ []->∀p,H p=aD->Q (.ref p) (upd H p (.tup (c++Y))))
def aP.nil_iff(r:aP b u):u=[] ↔ b=[]:=by
 cases r with
 |nil=>simp
 |cons _ _=>simp
def B7:OpR X (Vf .Add) (Ly X.K):=by
 intro p s T H x y v u Q I O n h;obtain⟨a,b,J,Y,rfl,rfl,g,hb,j,f,L,E⟩:=h;cases O;cases n;obtain⟨C,r1,B,_⟩:=I.tuple g;obtain⟨c,r2,p2,_⟩:=I.tuple hb;refine HT.B4 B p2 (λz=>j (r1.nil_iff.mp z)) (λz=>⟨.ref a,H,I,rfl,L (r2.nil_iff.mp z)⟩) (λz=>?_) (by rw[<-r1.length,<-r2.length];exact f);refine⟨.ref s.heap.objs.size,_,I.laid (t':=s.toks) (o:=.tup (J++Y)) (λb ob q=>Zg _ q) (Zd _) ?_,rfl,E (λw=>z (r2.nil_iff.mpr w)) _ (I.hok.fresh (Zd _))⟩;exact⟨by rw[Zi];exact f,_,r1.append r2,oE.new _ _⟩
end
abbrev ixN(n:Nat)(i:Int):Option Nat:=if 0<=i then (if i < n then aa i.toNat else aD) else if -(n:Int)<=i then aa (i+n).toNat else aD
abbrev atI{α:Type}(X:List α)(i:Int):Option α:=(ixN X.length i).bind λj=>X[j]?
def oI{n:Nat}{i:Int}{j:Nat}(h:ixN n i=aa j):seqIndex? i n=aa j/\j < n/\-(n:Int)<=i/\i < n:=by
 unfold ixN at h;by_cases c:0<=i
 ·rw[if_pos c] at h;by_cases b:i < n
  ·rw[if_pos b] at h;have e:i.toNat=j:=Option.some.inj h;exact⟨by rw[VL c b,e],by lia,by lia,b⟩
  ·rw[if_neg b] at h;cases h
 ·rw[if_neg c] at h;by_cases b:-(n:Int)<=i
  ·rw[if_pos b] at h;have e:(i+n).toNat=j:=Option.some.inj h;exact⟨by rw[VJ (by lia) b,e],by lia,b,by lia⟩
  ·rw[if_neg b] at h;cases h
def oJ{b:Type}{X:List b}{i:Int}{v:b}(h:atI X i=aa v):∃j,seqIndex? i X.length=aa j/\X[j]?=aa v/\j < X.length/\-(X.length:Int)<=i/\i < X.length:=by
 unfold atI at h;cases e:ixN X.length i with
 |none=>rw[e] at h;cases h
 |some j=>
  rw[e] at h;obtain⟨g,f,c,h4⟩:=oI e;exact⟨j,g,h,f,c,h4⟩
def ut{b:Type}{X:List b}{j:Nat}{v:b}(h:X[j]?=aa v):atI X (j:Int)=aa v:=by
 have c:j < X.length:=(Zb.mp h).1
 have e:ixN X.length (j:Int)=aa j:=by
  unfold ixN;rw[if_pos (by lia),if_pos (by lia)];simp
 unfold atI;rw[e];exact h
abbrev uu(b:Expr):Prop:=∀o i,subscripted b aW o i=operate [o,i] (getItem o i)
abbrev IxR(X:Cx)(r:R2):Prop:=
 ∀ (c b:Expr) (p:List (Addr × Obj)) (s:Shared) (f:St) (H:Hp) (x y:V) (v u:Value) (Q:VK),Inv X p f H s->aI x v->aI y u->r x y H Q ->
  subscripted b aW v u=operate [v,u] (getItem v u)->wpAny (model X.prog X.w) X.A (subscriptTail c b v u) (EP X p f Q) X.xe s
abbrev MtR(X:Cx)(id:String)(r:V->List V->Hp->VK->Prop):Prop:=
 ∀ (p:List (Addr × Obj)) (s:Shared) (b:St) (H:Hp) (x:V) (c:List V) (v:Value) (u:List Value) (Q:VK),Inv X p b H s->aI x v->aP c u->r x c H Q ->
  wpAny (model X.prog X.w) X.A (call (.builtin id) (v::u)) (EP X p b Q) X.xe s
section
variable {X:Cx} {a b:Expr} {ta tb:TE} {pos:Pos}
def IxR.or{r n:R2}(h:IxR X r)(h':IxR X n):IxR X (λx y H Q=>r x y H Q\/n x y H Q):=by
 intro f c p s g H x y v u Q I o j q hs;rcases q with q |q
 ·exact h f c p s g H x y v u Q I o j q hs
 ·exact h' f c p s g H x y v u Q I o j q hs
def FF(g:IxR X r)(c:PE X a ta)(hb:PE X b tb)(hs:uu b):PE X (.Subscript a b pos) (tOp r ta tb):=by
 intro p s f H Q I h;exact Subscript_ (GI c hb I h λv u j x y o z B n q=>g a b p j f o x y v u Q z B n q (hs _ _))
abbrev Lz(K:WW):R2:=λx y H Q=>∃p c i v,x = .ref p/\y = .int i/\SqL K H p c/\atI c i=aa v/\Q v H
abbrev LA(K:WW):R2:=λx y H Q=>∃p c i v,x = .ref p/\y = .int i/\SqT K H p c/\atI c i=aa v/\Q v H
abbrev LB:R2:=λx y H Q=>∃z i c,x = .str z/\y = .int i/\z.length<=sizeLine/\atI z.cps.toList i=aa c/\Q (.str ⟨#[c]⟩) H
def N2:IxR X (Lz X.K):=by
 intro n o c s L H x y v u Q I rx Z h hs;obtain⟨p,xs,i,z,rfl,rfl,T,Y,q⟩:=h;cases rx;obtain⟨t,rfl⟩:=Z;obtain⟨C,r,pl,hz⟩:=I.list T;obtain⟨j,g,h2,h3,h4,h5⟩:=oJ Y;obtain⟨w,O,E⟩:=r.get h2;have U:=r.length;have hn:=jc;have f:EP X c L Q w s:=⟨z,H,I,E,q⟩;by_cases J:0<=i
 ·have B:i.toNat=j:=by
   rw[VL J h5] at g;exact Option.some.inj g
  exact item_listR pl.isList J (by lia) (by rw[B];simpa using O) f hs
 ·have B:(i+(C.toArray.size:Int)).toNat=j:=by
   rw[VJ (by lia) h4] at g;rw[Zn,<-U];exact Option.some.inj g
  exact subscriptTail_builtinR (x:=w) pl.isList.typeIs slot_list_getitem.lookup
   (wpAny_getItem_list_neg (Q:=λr s'=>r=w/\EP X c L Q r s') pl.isList (by lia) (by rw[Zn] <;> lia) (by lia) (by rw[B];simpa using O) ⟨rfl,f⟩) hs
def yk:IxR X (LA X.K):=by
 intro f g c s B H x y v u Q I rx L h hs;obtain⟨p,xs,i,z,rfl,rfl,C,J,q⟩:=h;cases rx;obtain⟨t,rfl⟩:=L;obtain⟨O,r,pl,hz⟩:=I.tuple C;obtain⟨j,Z,T,h3,h4,h5⟩:=oJ J;obtain⟨w,Y,o⟩:=r.get T;have E:=r.length;have hn:=jc;have n:EP X c B Q w s:=⟨z,H,I,o,q⟩
 exact subscriptTail_builtinR (x:=w) pl.typeIs slot_tuple_getitem.lookup
  (getItem_tuple (j:=j) (Q:=λr U=>r=w/\EP X c B Q r U) pl (by lia) (by lia) (by rw[Zn,<-E];exact Z) (by simpa using Y) ⟨rfl,n⟩) hs
def GW:IxR X LB:=by
 intro f g p s Z H x y v u Q I T C h hs;obtain⟨z,i,c,rfl,rfl,Y,B,q⟩:=h;obtain⟨t,rfl⟩:=T;obtain⟨t',rfl⟩:=C;obtain⟨j,n,J,h3,h4,E⟩:=oJ B;have o:z.cps.toList.length=z.length:=by simp[Str.length]
 rw[o] at n h4 E;have U:=jc
 exact tail_any (typeIs_str s z t) slot_str_getitem.lookup (getItem_str (c:=c) (by
  have L:decide (i < -(2 ^ 63:Int))=aW:=decide_eq_false (by lia);have O:decide (i ≥ 2 ^ 63)=aW:=decide_eq_false (by lia);rw[L,O,XN]) (by rw[n];simpa using J) ⟨.str ⟨#[c]⟩,H,I.tok _,⟨_,rfl⟩,q⟩) hs
abbrev rIx(K:WW):R2:=λx y H Q=>Lz K x y H Q\/LA K x y H Q\/LB x y H Q
def ym:IxR X (rIx X.K):=N2.or (yk.or GW)
def sJ(its:List Value)(n j:Nat)(u:Value):Obj.mapSeq (·.setIfInBounds j u) { cls:=.type "list", data:=.seq its.toArray n }={ cls:=.type "list", data:=.seq (its.set j u).toArray n }:=by
 simp[Obj.mapSeq]
def Inv.lst{c:List (Addr × Obj)}{g:St}{H:Hp}{s:Shared}{p:Addr}{f:List V}(I:Inv X c g H s)(h:H p=aa (.lst f)) :
  ∃ (its:List Value) (n:Nat),aP f its/\s.heap.get? p=aa { cls:=.type "list", data:=.seq its.toArray n }/\f.length<=sizeLine:=by
 obtain⟨z,its,n,r,e⟩:=I.hok p _ h;exact⟨its,n,r,e,z⟩
def Inv.lstUpd{c:List (Addr × Obj)}{j:St}{H:Hp}{s:Shared}{p:Addr}{v y:List V}{its its':List Value}{n g:Nat}{f:Obj->Obj}(I:Inv X c j H s)(h:H p=aa (.lst v))
  (z:s.heap.get? p=aa { cls:=.type "list", data:=.seq its.toArray n }) (o:f { cls:=.type "list", data:=.seq its.toArray n }={ cls:=.type "list", data:=.seq its'.toArray g }) (r:aP y its') (B:y.length<=sizeLine) (t:Nat) :
  Inv X c j (upd H p (.lst y)) { s with heap:=s.heap.update p f,toks:=t }:=by
 have e:(s.heap.update p f).get? p=aa { cls:=.type "list", data:=.seq its'.toArray g }:=by
  rw[Z0 f z (by rw[o] <;> rfl),o]
 refine I.write (x:=p) (e:=p) (by rw[h];trivial) (.inl rfl) (λb u hb q=>(YH _ _ (Ne.symm hb)).trans q) ⟨_,e⟩ ?_;exact⟨B,its',g,r,e⟩
abbrev LC:V->V->V->Hp->(Hp->Prop)->Prop:=λo i v H Q=>∃p c k j,o = .ref p/\i = .int k/\H p=aa (.lst c)/\ixN c.length k=aa j/\Q (upd H p (.lst (c.set j v)))
def kO:GA X LC:=by
 intro c s σ H o i v ov iv u Q I U T Z h;obtain⟨p,xs,k,j,rfl,rfl,L,O,q⟩:=h;cases U;obtain⟨t,rfl⟩:=T;obtain⟨f,n,r,B,Y⟩:=I.lst L;obtain⟨g,h2,J,h4⟩:=oI O;have y:=r.length;have hn:=jc
 have E:Inv X c σ (upd H p (.lst (xs.set j v))) { s with heap:=s.heap.update p (Obj.mapSeq (·.setIfInBounds j u)) }:=
  I.lstUpd L B (sJ f n j u) (r.set Z j) (by rw[YV];exact Y) s.toks
 by_cases C:0<=k
 ·have z:k.toNat=j:=by
   rw[VL C h4] at g;exact Option.some.inj g
  exact PySem.W.ki_setAt B C (by lia) (by rw[Zn,<-y];exact h4) (by rw[z];exact⟨_,E,q⟩)
 ·have z:(k+(f.toArray.size:Int)).toNat=j:=by
   rw[VJ (by lia) J] at g;rw[Zn,<-y];exact Option.some.inj g
  exact PySem.W.ki_setBack B (by lia) (by rw[Zn,<-y];exact J) (by lia) (by rw[z];exact⟨_,E,q⟩)
def oK(lo hi:Option Int)(n:Nat):(VO lo hi aD n).1=((HT.sIx n 0 lo:Nat):Int)/\(VO lo hi aD n).2.1=((HT.sIx n n hi:Nat):Int)/\(VO lo hi aD n).2.2=1:=by
 refine⟨?_,?_,rfl⟩
 ·cases lo with
  |none=>simp[VO,HT.sIx]
  |some i=>
   simp only[VO,HT.sIx,X6,show(1:Int) > 0 by decide,if_true];by_cases h:i < 0
   ·simp only[h,if_true] <;> lia
   ·simp only[h,if_false] <;> lia
 ·cases hi with
  |none=>simp[VO,HT.sIx]
  |some i=>
   simp only[VO,HT.sIx,X6,show(1:Int) > 0 by decide,if_true];by_cases h:i < 0
   ·simp only[h,if_true] <;> lia
   ·simp only[h,if_false] <;> lia
def mO(its:List Value)(lo hi:Option Int):slicePick its.toArray lo hi aD=((its.drop (HT.sIx its.length 0 lo)).take (HT.sIx its.length its.length hi - HT.sIx its.length 0 lo)).toArray:=by
 obtain⟨c,f,h⟩:=oK lo hi its.toArray.size;unfold slicePick;rw[c,f,h];simp only[sliceRange_one,pick_run,Zn] <;> rfl
abbrev Oi(K:WW):V->Option Int->Option Int->Hp->VK->Prop:=λx lo hi H Q=>∃a c,x = .ref a/\SqL K H a c/\∀p,H p=aD->Q (.ref p) (upd H p (.lst (kN c lo hi)))
def B8:SlR X (Oi X.K):=by
 intro p s C H x v B E lo hi sl Q I z hs pl n h;obtain⟨a,c,rfl,u,q⟩:=h;cases z;obtain⟨j,r,g,y⟩:=I.list u;have f:=r.length;refine⟨"list", _,slot_list_getitem.lookup,g.isList.typeIs,?_⟩;refine wpAny_getItem_list_slice g.isList hs pl n .none (by simp) ?_ (by rw[Zn] <;> lia);rw[mO,<-f];refine⟨.ref s.heap.objs.size,_,I.laid (t':=s.toks) (o:=.lst (kN c lo hi)) (λb ob q=>Zg _ q) (Zd _) ?_,rfl,q _ (I.hok.fresh (Zd _))⟩;exact⟨ZH (jL c lo hi) y,_,0,(r.drop (HT.sIx c.length 0 lo)).take (HT.sIx c.length c.length hi - HT.sIx c.length 0 lo),Zw _ rfl⟩
abbrev dU:V->Bool
 |.non=>aT
 |.bl _=>aT
 |.int _=>aT
 |.str _=>aT
 |_=>aW
abbrev eqV:V->V->Bool
 |.non,.non=>aT
 |.bl a,.bl b=>a == b
 |.bl a,.int b=>(if a then 1 else 0) == b
 |.int a,.bl b=>a == (if b then 1 else 0)
 |.int a,.int b=>a == b
 |.str a,.str b=>a == b
 |_,_=>aW
def GX(f:aI y u)(c:aI x v)(g:dU y=aT)(fx:dU x=aT):WT A s u v (eqV y x):=by
 cases y with
 |non=>
  cases f;cases x with
  |non=>cases c;exact SeqAt.EqAt.same _
  |bl b=>cases c;exact SeqAt.EqAt.none_bool b
  |int b=>obtain⟨t,rfl⟩:=c;exact SeqAt.EqAt.none_int b t
  |str b=>obtain⟨t,rfl⟩:=c;exact SeqAt.EqAt.none_str b t
  |_=>exact absurd (show aW=aT from fx) Zf
 |bl a=>
  cases f;cases x with
  |non=>cases c;exact SeqAt.EqAt.bool_none a
  |bl b=>cases c;exact SeqAt.EqAt.bool_bool a b
  |int b=>obtain⟨t,rfl⟩:=c;exact SeqAt.EqAt.bool_int a b t
  |str b=>obtain⟨t,rfl⟩:=c;exact SeqAt.EqAt.bool_str a b t
  |_=>exact absurd (show aW=aT from fx) Zf
 |int a=>
  obtain⟨T,rfl⟩:=f;cases x with
  |non=>cases c;exact SeqAt.EqAt.int_none a T
  |bl b=>cases c;exact SeqAt.EqAt.int_bool a T b
  |int b=>obtain⟨t,rfl⟩:=c;exact SeqAt.EqAt.int_int a T b t
  |str b=>obtain⟨t,rfl⟩:=c;exact SeqAt.EqAt.int_str a T b t
  |_=>exact absurd (show aW=aT from fx) Zf
 |str a=>
  obtain⟨T,rfl⟩:=f;cases x with
  |non=>cases c;exact SeqAt.EqAt.str_none a T
  |bl b=>cases c;exact SeqAt.EqAt.str_bool a T b
  |int b=>obtain⟨t,rfl⟩:=c;exact SeqAt.EqAt.str_int a T b t
  |str b=>obtain⟨t,rfl⟩:=c;exact SeqAt.EqAt.str_str a T b t
  |_=>exact absurd (show aW=aT from fx) Zf
 |_=>exact absurd (show aW=aT from g) Zf
abbrev eqU(x:V)(u:Value):Bool:=match u with
 |.none=>eqV .non x
 |.bool b=>eqV (.bl b) x
 |.int i _=>eqV (.int i) x
 |.str z _=>eqV (.str z) x
 |_=>aW
def sK(r:aI y u)(f:dU y=aT):eqU x u=eqV y x:=by
 cases y with
 |non=>cases r;rfl
 |bl b=>cases r;rfl
 |int i=>obtain⟨t,rfl⟩:=r;rfl
 |str z=>obtain⟨t,rfl⟩:=r;rfl
 |_=>exact absurd (show aW=aT from f) Zf
def iB:∀ {c:List V} {U:List Value},aP c U->c.all dU=aT->U.any (eqU x)=c.any λy=>eqV y x
 |_,_,.nil,_=>rfl
 |y::c,u::U,.cons r t,f=>by
  rw[Yl,bAE] at f;rw[YB,YB,sK r f.1,iB t f.2]
def dW(g:aI x v)(fx:dU x=aT):∀ {c:List V} {U:List Value},aP c U->c.all dU=aT->∀u ∈ U,WT A s u v (eqU x u)
 |_,_,.nil,_=>λu hu=>by cases hu
 |y::c,u::U,.cons r t,f=>λh hu=>by
  rw[Yl,bAE] at f;rcases Zk.mp hu with rfl |hu
  ·rw[sK r f.1];exact GX r g f.1 fx
  ·exact dW g fx t f.2 h hu
abbrev inV(x:V)(c:List V):Bool:=c.any λy=>eqV y x
abbrev rIn(K:WW)(neg:Bool):R2:=λx y H Q=>∃p c,y = .ref p/\(SqL K H p c\/SqT K H p c)/\dU x=aT/\c.all dU=aT/\Q (.bl (if neg then !inV x c else inV x c)) H
def vV:OpR X (Vp .In) (rIn X.K aW):=by
 intro g s z H x y v u Q I j n h;obtain⟨p,B,rfl,hq,fx,fs,q⟩:=h;cases n;rcases hq with hq |hq
 ·obtain⟨c,r,pl,o⟩:=I.list hq;refine SeqAt.in_listAt (eqU x) pl.isList (λw f=>dW j fx r fs w (by simpa using f)) ⟨.bl _,H,I,rfl,?_⟩;rw[show c.toArray.any (eqU x)=c.any (eqU x) by simp,iB r fs];exact q
 ·obtain⟨c,r,pl,o⟩:=I.tuple hq;refine SeqAt.in_tupleAt (eqU x) pl (λw f=>dW j fx r fs w (by simpa using f)) ⟨.bl _,H,I,rfl,?_⟩;rw[show c.toArray.any (eqU x)=c.any (eqU x) by simp,iB r fs];exact q
def oM:OpR X (Vp .NotIn) (rIn X.K aT):=by
 intro g s z H x y v u Q I j n h;obtain⟨p,B,rfl,hq,fx,fs,q⟩:=h;cases n;rcases hq with hq |hq
 ·obtain⟨c,r,pl,o⟩:=I.list hq;refine SeqAt.notIn_listAt (eqU x) pl.isList (λw f=>dW j fx r fs w (by simpa using f)) ⟨.bl _,H,I,rfl,?_⟩;rw[show c.toArray.any (eqU x)=c.any (eqU x) by simp,iB r fs];exact q
 ·obtain⟨c,r,pl,o⟩:=I.tuple hq;refine SeqAt.notIn_tupleAt (eqU x) pl (λw f=>dW j fx r fs w (by simpa using f)) ⟨.bl _,H,I,rfl,?_⟩;rw[show c.toArray.any (eqU x)=c.any (eqU x) by simp,iB r fs];exact q
def oO:aS X (.builtin "len") (λj H Q=>∃p y,j=[.ref p]/\(SqL X.K H p y\/SqT X.K H p y)/\Q (.int y.length) H):=by
 intro n s z H j U Q I r h;obtain⟨p,y,rfl,hq,q⟩:=h;obtain⟨u,rfl,v⟩:=ca r;cases v;have B:=jc;rcases hq with hq |hq
 ·obtain⟨f,g,pl,o⟩:=I.list hq;have c:=g.length;exact Calls.call_len_list pl.isList (by simp only[Zn] <;> lia) ⟨.int y.length,H,I.tok _,⟨s.toks+1,by rw[Zn,c]⟩,q⟩
 ·obtain⟨f,g,pl,o⟩:=I.tuple hq;have c:=g.length;exact len_tuple pl (by simp only[Zn] <;> lia) ⟨.int y.length,H,I.tok _,⟨s.toks+1,by rw[Zn,c]⟩,q⟩
def oP:aS X (.type "list") (λL H Q=>∃p y,L=[.ref p]/\(SqL X.K H p y\/SqT X.K H p y)/\∀l,H l=aD->Q (.ref l) (upd H l (.lst y))):=by
 intro j s T H L Y Q I r h;obtain⟨p,y,rfl,hq,q⟩:=h;obtain⟨u,rfl,U⟩:=ca r;cases U
 have v:∀ (c:List Value),aP y c->y.length<=sizeLine->∀ (f:Heap) (C:Nat),(∀b O,s.heap.get? b=aa O->f.get? b=aa O) ->
   f.get? s.heap.objs.size=aa { cls:=.type "list", dict:=aD,data:=.seq c.toArray C,slots:=#[] }->EP X j T Q (.ref s.heap.objs.size) { s with heap:=f }:=λc g B f C kp e=>
  ⟨.ref s.heap.objs.size,_,I.laid (t':=s.toks) kp (Zd _) (show bq X.prog X.w _ f _ (.lst y) from ⟨B,c,C,g,e⟩),rfl,q _ (I.hok.fresh (Zd _))⟩
 rcases hq with hq |hq
 ·obtain⟨c,g,pl,B⟩:=I.list hq;have z:=g.length;obtain⟨o,J,E,n,hd⟩:=pl.isList;exact call_list_seq p (.inl rfl) J E hd (λf C kp e=>v c g B f C kp e) (by simp only[Zn] <;> lia)
 ·obtain⟨c,g,pl,B⟩:=I.tuple hq;have z:=g.length;obtain⟨o,J,E,n,hd⟩:=pl;exact call_list_seq p (.inr rfl) J E hd (λf C kp e=>v c g B f C kp e) (by simp only[Zn] <;> lia)
def mP:aS X (.type "tuple") (λE H Q=>∃p y,E=[.ref p]/\((SqL X.K H p y/\∀l,H l=aD->Q (.ref l) (upd H l (.tup y)))\/(SqT X.K H p y/\Q (.ref p) H))):=by
 intro c s B H E U Q I r h;obtain⟨p,y,rfl,h⟩:=h;obtain⟨u,rfl,L⟩:=ca r;cases L;rcases h with ⟨j,q⟩ |⟨j,q⟩
 ·obtain⟨f,n,pl,z⟩:=I.list j;have v:=n.length;refine call_tuple_list pl.isList (λg kp=>?_) (by simp only[Zn] <;> lia);have C:Inv X c B H { s with heap:=g }:=I.kept (t':=s.toks) kp
  have J:Inv X c B (upd H g.objs.size (.tup y)) { s with heap:=g.push { cls:=.type "tuple", data:=.seq f.toArray } }:=
   C.laid (t':=s.toks) (λb o e=>Zg _ e) (Zd _) (show bq X.prog X.w _ _ _ (.tup y) from ⟨z,f,n,oE.new _ _⟩)
  exact⟨.ref g.objs.size,_,J,rfl,q _ (C.hok.fresh (Zd _))⟩
 ·obtain⟨f,n,pl,z⟩:=I.tuple j;exact call_tuple_same pl ⟨.ref p,H,I,rfl,q⟩
abbrev tyV(K:WW)(T:String)(x:V)(H:Hp):Prop:=match x with
 |.str _=>T = "str"
 |.int _=>T = "int"
 |.ref p=>(T = "list"/\∃f,SqL K H p f)\/(T = "tuple"/\((∃o,K.lookup p=aa o/\o.cls = .type "tuple"/\o.dict=aD)\/∃f,H p=aa (.tup f))) ∨
   (T = "dict"/\((∃c,H p=aa (.dK c))\/∃c,H p=aa (.dT c)))\/(T = "set"/\∃S n,H p=aa (.set S n))
 |_=>False
def GY(I:Inv X q B H s)(r:aI x v)(ty:tyV X.K T x H) :
  s.TypeIs v T/\∀a,v = .ref a->∃ob,s.heap.get? a=aa ob/\ob.dict=aD:=by
 cases x with
 |str z=>
  obtain⟨t,rfl⟩:=r;cases (show T = "str" from ty);exact⟨typeIs_str s z t,λ_ e=>nomatch e⟩
 |int i=>
  obtain⟨t,rfl⟩:=r;cases (show T = "int" from ty);exact⟨typeIs_int s i t,λ_ e=>nomatch e⟩
 |ref p=>
  cases r;rcases ty with ⟨rfl,u,y⟩ |⟨rfl,⟨o,h,j,hd⟩ |⟨u,h⟩⟩ |⟨rfl,h⟩ |⟨rfl,S,n,h⟩
  ·obtain⟨f,_,pl,_⟩:=I.list y;refine⟨pl.isList.typeIs,λa e=>?_⟩;cases e;obtain⟨o,n,e,c,hd,_⟩:=pl;exact⟨o,e,hd⟩
  ·refine⟨⟨o,I.kIn p o h,j⟩,λa e=>?_⟩;cases e;exact⟨o,I.kIn _ o h,hd⟩
  ·obtain⟨_,f,_,o,e,j,_,_,hd⟩:=I.hok p _ h;refine⟨⟨o,e,j⟩,λa E=>?_⟩;cases E;exact⟨o,e,hd⟩
  ·have z:∃o,s.heap.get? p=aa o/\o.ExactDict:=by
    rcases h with ⟨g,h⟩ |⟨g,h⟩
    ·obtain⟨_,_,_,_,o,_,_,e,ex,_⟩:=I.hok p _ h;exact⟨o,e,ex⟩
    ·obtain⟨_,_,_,_,o,_,_,e,ex,_⟩:=I.hok p _ h;exact⟨o,e,ex⟩
   obtain⟨o,e,ex⟩:=z;refine⟨⟨o,e,ex.1⟩,λa E=>?_⟩;cases E;exact⟨o,e,ex.2.1⟩
  ·obtain⟨o,_,_,_,e,ex,_⟩:=I.hok p _ h;refine⟨⟨o,e,ex.1⟩,λa E=>?_⟩;cases E;exact⟨o,e,ex.2.1⟩
 |_=>exact False.elim ty
abbrev tBM(K:WW)(T:String)(r:V->List V->Hp->VK->Prop)(j:TE)(t:TA):TE:=λc H Q=>j c H λx h=>tyV K T x h/\t c h λg f=>r x g f Q
variable {o e:Expr} {es:List Expr} {to:TE} {t:TA} {name:Str} {apos cpos:Pos} {T id:String} {r:V->List V->Hp->VK->Prop}
def yn(E:PlainAttrs T)(slot:Slot T name id)(n:typeOf (.builtin id)=pure (.type "method_descriptor"))(C:MtR X id r)(ho:PE X o to)(z:PA X (e::es) t)
  (f:attributeBase o name X.env (eval o X.env)=eval o X.env:=by rfl)
  (j:((backTo cpos (VP (e::es) X.env)).all (λx=>!x.1) && (backToKw cpos (keywordEach [] X.env)).all (λx=>x.1.isSome)
   && decide ((e::es).length+([]:List Keyword).length+(if ([]:List Keyword).isEmpty then 0 else 1) < 30))=aT:=by rfl)
  (g:(apos.endLine == cpos.line)=aT:=by rfl) (hs:VP (e::es) X.env=(aW,eval e X.env)::VP es X.env:=by rfl) (c:(backTo cpos (VP es X.env)).any (·.1)=aW:=by rfl) :
  PE X (.Call (.Attribute o name apos) (e::es) [] cpos) (tBM X.K T r to t):=by
 intro p s q H Q I h;refine wpAny_Call_method_late f j g rfl (thn (ho p s q H _ I h) λv J ⟨x,H1,u,r1,ty,q1⟩=>?_);obtain⟨h1,O⟩:=GY u r1 ty;refine⟨T,id,E,slot,n,h1,O,?_⟩;have y:=z cpos p J q H1 _ u q1;rw[hs] at y ⊢;refine Calls.callWith_builtin (by show(aW || (backTo cpos (VP es X.env)).any (·.1))=aW;rw[c] <;> rfl) (Calls.evalArgs_plain ?_);exact thn y λU L ⟨Z,B,I2,r2,Y⟩=>C p L q B x Z v U Q I2 r1 r2 Y
end
abbrev MtM(X:Cx)(id:String)(r:V->List V->Hp->VK->Prop):Prop:=
 ∀ (p:List (Addr × Obj)) (s:Shared) (b:St) (H:Hp) (x:V) (c:List V) (v:Value) (u:List Value) (Q:VK),Inv X p b H s->aI x v->aP c u->r x c H Q ->
  wpAny (model X.prog X.w) X.A (call (.builtin id) (v::u)) (EP X p b Q) X.xe s
def aP.one:∀ {x:V} {U:List Value},aP [x] U->∃u,U=[u]/\aI x u
 |_,_,.cons r .nil=>⟨_,rfl,r⟩
def aP.eraseIdx:∀ {X:List V} {u:List Value} (i:Nat),aP X u->aP (X.eraseIdx i) (u.eraseIdx i)
 |_,_,_,.nil=>.nil
 |_,_,0,.cons _ t=>t
 |_,_,i+1,.cons r t=>.cons r (aP.eraseIdx i t)
def aP.rep(h:aP X u):∀k:Nat,aP (Zr k X).flatten (Zr k u).flatten
 |0=>.nil
 |k+1=>by
  rw[Yi,Yi,Yy,Yy];exact aP.append h (aP.rep h k)
def ng{b:Type}:∀ (l:List b) (i:Nat),(l.eraseIdx i).length<=l.length
 |[],_=>Zd _
 |_::_,0=>Yt _
 |_::r,i+1=>X7 (ng r i)
def nh(its:List Value):∀ (k:Nat) (b:List Value),
  Wj (λc X=>c++X) b.toArray (Zr k its.toArray)=(b++(Zr k its).flatten).toArray
 |0,b=>by simp
 |k+1,b=>by
  have e:b.toArray++its.toArray=(b++its).toArray:=by simp
  have E:(b++its)++(Zr k its).flatten=b++(Zr (k+1) its).flatten:=by
   rw[Yi,Yy,Yg]
  rw[<-E,<-nh its k (b++its),<-e,Yi,Y5]
section
variable {X:Cx} {pins:List (Addr × Obj)} {σ:St} {H:Hp} {s:Shared} {l b:Addr} {xs ys zs:List V}
def Inv.lset{its its':List Value}{n:Nat}{f:Array Value->Array Value}{t':Nat}(I:Inv X pins σ H s)(o:H l=aa (.lst xs))
  (e:s.heap.get? l=aa { cls:=.type "list", data:=.seq its.toArray n }) (g:f its.toArray=its'.toArray) (h:aP ys its') (j:ys.length<=sizeLine) :
  Inv X pins σ (upd H l (.lst ys)) { s with heap:=s.heap.update l (Obj.mapSeq f),toks:=t' }:=by
 have q:=PySem.IsL.update e f;rw[g] at q;refine I.write (x:=l) (e:=l) (by rw[o];exact trivial) (.inl rfl) (λB u hb c=>(YH s.heap (Obj.mapSeq f) (Ne.symm hb)).trans c) ⟨_,q⟩ ?_;exact⟨j,its',_,h,q⟩
def Inv.lnew{t':Nat}(I:Inv X pins σ H s)(h:aP ys its)(c:ys.length<=sizeLine) :
  Inv X pins σ (upd H s.heap.objs.size (.lst ys)) { s with heap:=s.heap.push { cls:=.type "list", data:=.seq its.toArray },toks:=t' }:=
 I.laid (λ_ _ q=>Zg _ q) (Zd _) ⟨c,its,0,h,Zw _ rfl⟩
def Inv.fresh(I:Inv X pins σ H s):H s.heap.objs.size=aD:=I.hok.fresh (Zd _)
def Inv.lstM(I:Inv X pins σ H s)(h:H l=aa (.lst xs)):xs.length<=sizeLine/\∃ (its:List Value) (n:Nat),aP xs its/\xs.length=its.length/\s.heap.get? l=aa { cls:=.type "list", data:=.seq its.toArray n }:=by
 obtain⟨z,its,n,r,e⟩:=I.hok l _ h;exact⟨z,its,n,r,r.length,e⟩
def yo{n:Nat}(h:n<=sizeLine):Builtin.List.listTooLong n=aW:=by
 unfold Builtin.List.listTooLong;exact decide_eq_false (by lia)
end
section
variable {X:Cx}
abbrev B9:V->List V->Hp->VK->Prop:=λx v H Q=>∃l b y,x = .ref l/\v=[y]/\H l=aa (.lst b)/\b.length < sizeLine/\Q .non (upd H l (.lst (b++[y])))
def ni:MtM X "list.append" B9:=by
 intro p s C H x E v U Q I j f h;obtain⟨l,J,y,rfl,rfl,c,B,q⟩:=h;cases j;obtain⟨u,rfl,g⟩:=f.one;obtain⟨z,b,n,r,o,e⟩:=I.lstM c;refine Vk WJ ⟨_,e,rfl⟩ F.entry_list_append (F.args_list_append_2 _ _) (PySem.list_append l b.toArray n u (by rw[Zn];lia)) ⟨e,?_⟩;refine⟨.non,_,I.lset (its':=b++[u]) c e (by simp) (r.append (.cons g .nil)) ?_,rfl,q⟩;rw[Zi,Zy]
 lia
abbrev GZ:V->List V->Hp->VK->Prop:=λx v H Q=>∃l b i k y,x = .ref l/\v=[.int i]/\H l=aa (.lst b)/\-(2 ^ 63)<=i/\i < 2 ^ 63/\seqIndex? i b.length=aa k/\b[k]?=aa y/\Q y (upd H l (.lst (b.eraseIdx k)))
def yp:MtM X "list.pop" GZ:=by
 intro p s Y H x Z v U Q I T j h;obtain⟨l,L,i,k,y,rfl,rfl,f,O,o,J,B,q⟩:=h;cases T;obtain⟨u,rfl,C⟩:=j.one;obtain⟨t,rfl⟩:=C;obtain⟨z,b,n,r,g,e⟩:=I.lstM f;obtain⟨w,E,c⟩:=r.get B
 refine Vk WK ⟨_,e,rfl⟩ F.entry_list_pop (F.args_list_pop_2 _ _)
  (MeetsSeq.list_pop_at l b.toArray n i t k w (fitsIndex_both O o) (by rw[Zn,<-g];exact J) (by rw[<-Y2];exact E) (by rw[Zn];lia)) ⟨e,?_⟩
 refine⟨y,_,I.lset (its':=b.eraseIdx k) f e ?_ (r.eraseIdx k) ?_,c,q⟩
 ·show b.toArray.eraseIdxIfInBounds k=(b.eraseIdx k).toArray;rw[List.eraseIdxIfInBounds_toArray]
 ·have:=ng L k
  lia
abbrev Oj:R2:=λx y H Q=>∃l b c z,x = .ref l/\y = .ref b/\H l=aa (.lst c)/\H b=aa (.lst z)/\c.length+z.length<=sizeLine/\∀p,H p=aD->Q (.ref p) (upd H p (.lst (c++z)))
def G0:OpR X (Vf .Add) Oj:=by
 intro p s T H x y v u Q I J j h;obtain⟨l,b,xs,Y,rfl,rfl,C,g,O,q⟩:=h;cases J;cases j;obtain⟨z,f,n,r,L,e⟩:=I.lstM C;obtain⟨Z,c,U,r2,B,o⟩:=I.lstM g;refine PySem.P.add_list e o ?_ (by rw[Zn,Zn];lia);have E:f.toArray++c.toArray=(f++c).toArray:=by simp
 rw[E];exact⟨.ref _,_,I.lnew (t':=s.toks) (r.append r2) (by rw[Zi];lia),rfl,q _ I.fresh⟩
abbrev Ol:R2:=λx y H Q=>∃l k b,x = .ref l/\y = .int k/\H l=aa (.lst b)/\-(2 ^ 63)<=k/\k < 2 ^ 63/\b.length * k.toNat<=sizeLine ∧
 ∀p,H p=aD->Q (.ref p) (upd H p (.lst (Zr k.toNat b).flatten))
def Ca{c:Type}(b:List c)(k:Nat):(Zr k b).flatten.length=k * b.length:=by
 induction k with
 |zero=>simp
 |succ k I=>rw[Yi,Yy,Zi,I,Wq,Nat.add_comm]
def G1:OpR X (Vf .Mult) Ol:=by
 intro C s σ H x y v u Q I rx O h;obtain⟨l,k,xs,rfl,rfl,hH,h1,Y,E,q⟩:=h;cases rx;obtain⟨t,rfl⟩:=O;obtain⟨z,b,n,r,J,e⟩:=I.lstM hH;have j:b.toArray.size * k.toNat<=sizeLine:=by rw[Zn,<-J];exact E
 have o:¬ b.toArray.size * k.toNat > (2 ^ 63 - 1) / 8:=by
  have:(sizeLine:Nat)<=(2 ^ 63 - 1) / 8:=by decide
  lia
 have g:¬ (!Builtin.List.listFitsIndex k)=aT:=by
  rw[fitsIndex_both h1 Y];exact Zf
 have c:¬ Builtin.List.listTooLong (b.toArray.size * k.toNat)=aT:=by
  rw[yo j];exact Zf
 have f:Wj (λB p=>B++p) #[] (Zr (if b.toArray.isEmpty=aT then 0 else k.toNat) b.toArray)=(Zr k.toNat b).flatten.toArray:=by
  have L:∀m:Nat,Wj (λB p=>B++p) #[] (Zr m b.toArray)=(Zr m b).flatten.toArray:=λm=>by
   have:=nh b m [];rw[Y6] at this;exact this
  rw[L];cases b with
  |nil=>simp
  |cons a r'=>rw[if_neg (by simp)]
 refine wpAny_binaryOp_repeat_ref (T := "list") (U := "int") (by decide) ⟨_,e,rfl⟩ (λZ=>typeIs_int Z k t) noFill_list_mul F.fills_int_mul F.slot_int_rmul repeat_list F.slot_int_index.lookup
  (Vk F.slot_int_rmul (typeIs_int s k t) F.entry_int_rmul (F.args_int_rmul_2 _ _) (int___rmul___int_list k t l b.toArray n)
   ⟨e,rfl,⟨_,e,rfl⟩,Vk F.slot_list_mul ⟨_,e,rfl⟩ F.entry_list_mul (F.args_list_mul_2 _ _) (AutoListH.list___mul___list_int_3 l b.toArray n k t g o c) ⟨e,?_⟩⟩)
 rw[f];exact⟨.ref _,_,I.lnew (t':=s.toks) (r.rep k.toNat) (by rw[Ca,Nat.mul_comm];exact E),rfl,q _ I.fresh⟩
end
end L2
namespace Att
open PySem PySem.W PySem.Calls PyProof.Rows
def kh:∀ (ns:List Int) (v:List Value),WellAll P h v (ns.map WData.int)->IntsAre v ns:=by
 intro ns
 induction ns with
 |nil=>
  intro v w;rw[Ym] at w;cases w;exact .nil
 |cons n ns I=>
  intro v w;rw[Zx] at w;cases w with
  |cons a b=>
   cases a;exact .cons _ _ (I _ b)
def vW{l:OpenLaw}{n:Nat}(y:l.most=aa n){P:Params}{h:Heap}{args:List WData}{v:List Value}
  (b:l.row.toRowW.claim.pre args=aT) (o:WellAll P h v args) :
  ∃a u ns,v=[Value.ref a]/\args=[WData.list (ns.map WData.int)]/\h.get? a=aa { cls:=.type "list", data:=.seq u.toArray }/\IntsAre u ns/\ns.length<=n:=by
 have j:WShape.hasAll [] args [.list .int]=aT:=(pre_splitW b).1;have p:l.pre.holds [] { args:=args }=aT:=(pre_splitW b).2;obtain⟨d,r,rfl,I,B⟩:=hasAllW_cons j;obtain rfl:=hasAllW_nil B;obtain⟨X,rfl,z⟩:=hasW_list I;obtain⟨ns,rfl⟩:=items_int z
 have c:ns.length<=n:=by
  unfold OpenLaw.pre at p
  have h4:(WTm.not (.lt (.lit (.int (n:Int))) (.len (.arg 0)))).holds [] { args:=[.list (ns.map .int)] }=aT:=by
   have h4:=(holds_andW p).1;rw[y] at h4;exact h4
  have g:=condW_of h4 (w_not (w_lt w_lit (w_len_list (w_arg rfl))));rw[Za] at g;refine Nat.le_of_not_lt λq=>?_;have Q:(n:Int) < ((ns.length:Nat):Int):=by lia
  first
   |(rw[decide_eq_true Q] at g;exact absurd g (by decide))
   |(simp at g;lia)
 cases o with
 |cons C w2=>
  cases w2;cases C with
  |list E f=>exact⟨_,_,ns,rfl,rfl,E,kh ns _ f,c⟩
def vX(l:OpenLaw)(args:List WData):l.row.toRowW.claim.post args (.bool aT) args=aT:=
 postW_of (r:=l.row.toRowW) (X:=(aT == aT))
  (show WShape.has [] (.bool aT) .bool=aT by first |rfl |decide |simp[WShape.has,WShape.arms,WShape.armsAll])
  (show(WTm.eq .res (.lit (.bool aT))).value [] { args:=args,res:=aa (.bool aT),after:=args }=aa (.bool (aT == aT)) from w_eq_bool (w_res rfl) w_lit) rfl
def attach_call{l:OpenLaw}{n:Nat}{q:Program}{loose:List Str}{X:(Str->Option Value)->Heap->Prop}{T:World->Heap->Prop}{d:DefRec}
  (hn:l.most=aa n) (L:d.params.defaults=[])
  (call:∀ (w:World) (s₀ b:Shared) (mg z:Str->Option Value) (g:Addr) (o:Obj) (E C c:Value) (a:Addr) (v:List Value) (ns:List Int),
   Ground q loose [] X w s₀ mg z b.heap->T w b.heap ->
   b.heap.get? g=aa o->o.data = .func (docDef d.name d.params d.body d.scope E C c)->b.heap.CodeRec C d.name->mg d.name=aa (.ref g) ->
   b.heap.get? a=aa { cls:=.type "list", data:=.seq v.toArray }->IntsAre v ns->ns.length<=n->b.gens=#[] ->
   codeAny (model l.prog w) callerA (.call (.ref g) ⟨[.ref a],[]⟩) (λr y=>r = .ok (.ret (.bool aT))/\OldK b.heap y.heap/\y.os=b.os/\AllBare y.gens) b) :
  WalkO q loose X T l.row.toRowW d [] (λf v=>PySem.call f v):=by
 intro w s₀ b mg z G Y g o E C c dV kV ho hd B U J hg O Z as u Q hrd I hlo;obtain rfl:dV = .none:=Dflts.none U L;obtain rfl:kV = .none:=Dflts.noKw U;obtain⟨a,v,ns,rfl,rfl,p,h,j⟩:=vW hn u I;refine enter_call (Vn (call w s₀ b mg z g o E C c a v ns G Y ho (fd_plain hd) B J p h j hg) λr y hq=>?_);obtain⟨rfl,h2,h3,h4⟩:=hq;exact⟨.inl ⟨.bool aT,.bool aT,[],rfl,λ_=>rfl,.bool aT,vX l _,λ_=>⟨List.Pairwise.nil,λ_ hm=>(nomatch hm)⟩⟩,h2,h3,h4⟩
end Att
namespace L2
open PySem PySem.Spec PyProof.Rows
def gq:∀ {v:List Value} {ns:List Int},IntsAre v ns->aP (ns.map V.int) v
 |_,_,.nil=>.nil
 |_,_,.cons n t h=>.cons ⟨t,rfl⟩ (gq h)
abbrev LG(H:Hp):Prop:=∀b,H b=aD\/∃o X,H b=aa (.frz o (.lst X))
def yq{P:Program}{w:World}{K:WW}{mg T:Str->Option Value}{CX:CXT}{k:Nat}{Q a:Addr}{fd:WO}{x:Str}{sp:Sp}{s₁:Shared}{g:List Value}{ns:List Int}
  (KX:K.In s₁.heap) (p:s₁.heap.Ns Vz mg) (hb:s₁.heap.Ns Vj T) (Y:∀x:Str,x ≠ "__name__"->T x=Vh x) (y:s₁.heap.NoLimit) (hg:s₁.gens=#[])
  (O:s₁.heap.get? a=aa { cls:=.type "list", data:=.seq g.toArray }) (hi:IntsAre g ns) (hl:ns.length<=sizeLine) (hr:Room k callerA)
  (F:∀base:Heap,K.In base->base.Ns Vz mg->FnOk P w K mg base CX k Q fd [x] sp) (j:∀ (s:Shared) (u:Value),BindsTo s fd ⟨[u],[]⟩ [(x,u)])
  (hsp:∀H:Hp,LG H->SqL K H a (ns.map V.int)->sp [.ref a] H (λv _=>v = .bl aT) λ_ _ _=>False)
  (X:∀H e c,CX [] H s₁ (λ_ _ _=>False) e c->False) :
  codeAny (model P w) callerA (.call (.ref Q) ⟨[.ref a],[]⟩) (λr c=>r = .ok (.ret (.bool aT))/\OldK s₁.heap c.heap/\c.os=s₁.os/\AllBare c.gens) s₁:=by
 have rv:=gq hi;have L:=hi.length
 have C:∀H:Hp,LG H->SqL K H a (ns.map V.int)->HOk P w H s₁.heap->(∀b,H b ≠ aD->b=a)->(H a ≠ aD->K.lookup a=aD) ->
   codeAny (model P w) callerA (.call (.ref Q) ⟨[.ref a],[]⟩) (λr c=>r = .ok (.ret (.bool aT))/\OldK s₁.heap c.heap/\c.os=s₁.os/\AllBare c.gens) s₁:=by
  intro H hO hS hok hA hK;have B:∀ {b:Addr} {o:Obj},s₁.heap.get? b=aa o->H b=aD->(oG s₁.heap H).get? b=aa o:=λe n=>xM e n
  have U:∀ {b:Addr} {o:Obj} {J:Array DictEntry} {ep:Nat},s₁.heap.get? b=aa o->o.data = .dict J ep->H b=aD:=λ{b o J ep} e d=>by
   cases q:H b with
   |none=>rfl
   |some u=>
    have e':b=a:=hA b (by rw[q];simp);subst e';rw[O] at e;cases e;have d':Data.seq g.toArray _=Data.dict J ep:=d;cases d'
  have f:∀ {b:Addr} {m:Str->Option Value},s₁.heap.Ns b m->(oG s₁.heap H).Ns b m:=λ{b m} ⟨o,J,ep,e,d,r⟩=>⟨o,J,ep,B e (U e d),d,r⟩
  have E:K.In (oG s₁.heap H):=λb o e=>B (KX b o e) (by
   cases q:H b with
   |none=>rfl
   |some u=>
    have e':b=a:=hA b (by rw[q];simp);subst e';rw[hK (by rw[q];simp)] at e;cases e)
  have hM:Mod K mg (oG s₁.heap H):=⟨E,f p,⟨T,f hb,Y⟩,let ⟨mc,h1,h2⟩:=y;⟨mc,f h1,h2⟩⟩;have e0:Env0 P w K mg (oG s₁.heap H) callerA [] s₁ H:=⟨rfl,hM,λb o e=>BN e,Nat.le_of_eq (vJ _ _),trivial,λb hb=>absurd (show b ∈ ([]:List Addr) from hb) (by simp),hok,.of_eq hg⟩;refine Vn ((F _ E (f p)).run callerA [] s₁ H ⟨[.ref a],[]⟩ [.ref a] [.ref a] _ _ hr e0 (j s₁ (.ref a)) (.cons rfl .nil) (hsp H hO hS)) λr c h=>?_;cases r with
  |error e=>exact(X H e c h).elim
  |ok fl=>
   cases fl with
   |next=>exact False.elim h
   |brk=>exact False.elim h
   |cont=>exact False.elim h
   |ret u=>
    obtain⟨v,H',os,bare,un,I,r',q⟩:=h;have q':v = .bl aT:=q;subst q';obtain rfl:u=Value.bool aT:=r';refine⟨rfl,OldK.of_keep λb o e=>?_,os,bare⟩;cases q:H b with
    |none=>exact un.keep b o e q (by intro z;exact absurd (show b ∈ ([]:List Addr) from z) (by simp)) (by simp)
    |some u=>
     rcases hO b with z |⟨ob,xs,z⟩
     ·rw[q] at z;cases z
     ·have z2:=un.frzs b ob _ z;obtain⟨e1,_⟩:=hok b _ z;obtain⟨e2,_⟩:=I b _ z2;rw[e] at e1;cases e1;exact e2
 cases hk:K.lookup a with
 |some o=>
  have e:=KX a o hk;rw[O] at e;cases e;refine C (λ_=>aD) (λ_=>.inl rfl) (.inr ⟨_,g.toArray,_,hk,rfl,rfl,rfl,by rw[Zn,L];exact hl,by simpa using rv⟩) (λb u z=>by have Z:(aD:Option HO)=aa u:=z;cases Z) (λb z=>absurd rfl z) λz=>absurd rfl z
 |none=>
  refine C (λb=>if b=a then aa (.frz { cls:=.type "list", data:=.seq g.toArray } (.lst (ns.map V.int))) else aD) (λb=>?_) (.inl (.inr ⟨{ cls:=.type "list", data:=.seq g.toArray },if_pos rfl⟩)) (λb u z=>?_) (λb z=>?_) λ_=>hk
  ·by_cases hb:b=a
   ·exact .inr ⟨_,_,if_pos hb⟩
   ·exact .inl (if_neg hb)
  ·by_cases hb:b=a
   ·have Z:=(if_pos hb).symm.trans z;cases Z;subst hb;exact⟨O,by rw[Za];exact hl,g,_,rv,O⟩
   ·have Z:=(if_neg hb).symm.trans z;cases Z
  ·by_cases hb:b=a
   ·exact hb
   ·exact absurd (if_neg hb) z
@[inline]abbrev CX0:CXT:=λ_ _ _ _ _ _=>False
@[inline]abbrev E0:XK:=λ_ _ _=>False
def LH:sr CX0 X E0:=λ_ _ _ _ _ _ _ h=>h.elim
structure Fun(K:WW)(x qual:Str)(st:Stmt)(f:Addr)(fd:WO):Prop where
 ex:∃ (oc:Value) (od:Option Addr) (kV doc pm:Value) (an:Option Addr) (cdv ct:Value) (osl:Array (Option Value)),
  fd=W0 x qual (cW st) (bO st) (bf st) .none kV doc pm an cdv ct/\K.lookup f=aa ⟨oc,od,.func fd,osl⟩/\WY K cdv qual=aT
 kp:W3 K (.ref f)=aT
section
variable {P:Program} {w:World} {K:WW} {mg:Str->Option Value} {base:Heap}
def Fun.ok{x b:Str}{st:Stmt}{f:Addr}{o:WO}{N ps:List Str}{k:Nat}{sp:Sp}(F:Fun K x b st f o)(S:FnScope N ps (bf st))(len:∀v H Q E,sp v H Q E->v.length=ps.length)
  (g:∀ (c:Value) (A:Around) (outer:List Env) (s:Shared) (H:Hp) (v:List V) (Q:VK) (E:XK),Room k (A.deeper (envOfC b (bf st) s.heap.objs.size f c))->sp v H Q E ->
   ∃t,PSs (su CX0 P w K mg base N b (bf st) f c A outer s H E).nox (bO st) t/\t { nx:=λ_ p=>Q .non p,rt:=Q } (gK N v) H):FnOk P w K mg base CX0 (k+1) f o ps sp:=by
 obtain⟨B,I,kV,y,z,C,c,ct,O,rfl,L,j⟩:=F.ex;refine Lx L j S len λA outer s H v Q E u n=>?_;obtain⟨t,h,q⟩:=g c A outer s H v Q E u n;exact⟨t,h.nox,q⟩
def Fun.binds{x q:Str}{st:Stmt}{f:Addr}{j:WO}{ps:List Str}(F:Fun K x q st f j)
  (h:∀ (kV b p:Value) (g:Option Addr) (c ct:Value) (u:List Value),u.length=ps.length->bindArgs (W0 x q (cW st) (bO st) (bf st) .none kV b p g c ct) ⟨u,[]⟩=pure (ps.zip u)):mZ K j ps []:=by
 obtain⟨v,O,kV,b,p,g,c,ct,o,rfl,L,n⟩:=F.ex;exact .all (h kV b p g c ct)
def G2{x qual:Str}{st:Stmt}{f:Addr}{h:Value}{O g:Option Addr}{o:Array (Option Value)}{kV b p C ct:Value}(l:K.lookup f=aa ⟨h,O,.func (W0 x qual (cW st) (bO st) (bf st) .none kV b p g C ct),o⟩)
  (c:WY K C qual=aT) (k:W3 K (.ref f)=aT):Fun K x qual st f (W0 x qual (cW st) (bO st) (bf st) .none kV b p g C ct):=⟨⟨h,O,kV,b,p,g,C,ct,o,rfl,l,c⟩,k⟩
end
def vY{n:Nat}(h:n<=1000):n < sizeLine:=XR h (by decide)
abbrev oQ(ifs:List Expr)(env:Env):Sem Bool:=
 forIn ifs aT λc r=>if r=aT then do let ok <-isTrue c env (eval c env);pure (ForInStep.yield ok) else pure (ForInStep.yield r)
inductive CmK where
 |l (elt:Expr) |d (k v:Expr)
abbrev cmE:CmK->List WD->Scope->Pos->Expr
 |.l e=>.ListComp e
 |.d k v=>.DictComp k v
abbrev cmP:CmK->Env->Value->Sem Unit
 |.l e,env,acc=>do let _ <-call (.builtin "list.append") [acc,<-eval e env]
 |.d k v,env,acc=>do
  let a <-eval k env
  let b <-holding [a] (eval v env)
  match acc with
  |.ref d=>do
   standAt { k.pos with endLine:=v.pos.endLine,endCol:=v.pos.endCol }
   holding [a,b] (dictSet d a b)
  |_=>unsupported "internal:dictcomp"
abbrev cmN:CmK->Sem Value
 |.l _=>newList []
 |.d _ _=>newDict
abbrev cmO:CmK->HO
 |.l _=>.lst []
 |.d _ _=>.dK []
def Cb{d:Nat}{c:CmK}
  (hg:g[d]?=aa ⟨T,L,ifs,0⟩)
  (h:wpAny M A (pyNext I) (λr q=>match r with
   |none=>Q (.done .next) q
   | some v=>wpAny M A (Vy T I v) (λ_ B=>wpAny M A (assign T env v) (λ_ J=>wpAny M A (oQ ifs env) (λok o=>if ok=aT then (match g[d+1]? with
     |none=>wpAny M A (cmP c env f) (λ_ n=>Q (.again (.compLoop (cmE c g b pos) d I f env)) n) E o
     | some g'=>g'.is_async=0/\wpAny M A (eval g'.iter env) (λx u=>wpAny M A (Vu g'.iter env x) (λX n=>wpAny M A (pyIter X) (λj y=>
       wpAny M A (runOwn (.compStart (cmE c g b pos) (d+1) j f env) env) (λ_ z=>Q (.again (.compLoop (cmE c g b pos) d I f env)) z) E y) E n) E u) E o)
    else Q (.again (.compLoop (cmE c g b pos) d I f env)) o) E J) E B) E q) E s) :
  wpAny M A (compTurn (cmE c g b pos) d I f env) Q E s:=by
 cases c <;>
 ·unfold compTurn;simp only[cmE,hg];refine VY (Uq ?_);show wpAny M A (pyNext I >>= _) Q E s;refine VY (V8 h (λr q O=>?_) λ_ _ x=>x);cases r with
  |none=>exact Ud O
  |some v=>
   refine VY (V8 O (λ_ B h2=>?_) λ_ _ x=>x);refine VY (V8 h2 (λ_ J h3=>?_) λ_ _ x=>x);refine VY (V8 h3 (λok o h4=>?_) λ_ _ x=>x);cases ok with
   |false=>exact Ud h4
   |true=>
    simp only[if_true] at h4 ⊢;cases C:g[d+1]? with
    |none=>
     rw[C] at h4;exact VY (m:=cmP _ env f) (V8 h4 (λ_ n p=>Ud p) λ_ _ x=>x)
    |some g'=>
     rw[C] at h4;obtain⟨U,h4⟩:=h4;refine VY (V8 h4 (λx u Z=>VY (Uq ?_)) λ_ _ x=>x);rw[U];show wpAny M A (Vu g'.iter env x >>= _) Q E u;refine VY (V8 Z (λX n p=>?_) λ_ _ x=>x);refine VY (V5 (V8 p (λj y Y=>?_) λ_ _ x=>x));exact VY (V8 Y (λ_ z h8=>Ud h8) λ_ _ x=>x)
abbrev bP(c:List (Str × Addr)):List (Str × WQ)->List (Str × Addr)->List (Str × Addr)
 |[],acc=>acc
 |(n,k)::r,acc=>if k == .free then bP c r ((n,(c.lookup n).getD 0)::acc) else bP c r acc
def gY:∀ (b:List (Str × WQ)) (f:List (Str × Addr)),(∀y ∈ b,y.2 = .free->∃c,env.cells.lookup y.1=aa c) ->
  (forIn b f λ(x:Str × WQ) (C:List (Str × Addr))=>(match x with |(name,kind)=>if kind == .free then (do let a <-cellOf env name;pure (ForInStep.yield ((name,a)::C))) else pure (ForInStep.yield C):Sem (ForInStep (List (Str × Addr)))))
   = (pure (bP env.cells b f):Sem (List (Str × Addr)))
 |[],f,_=>by rw[Xd];rfl
 |(n,k)::r,f,h=>by
  rw[Wf];have j:∀y ∈ r,y.2 = .free->∃c,env.cells.lookup y.1=aa c:=λy p=>h y (Zm _ p);cases g:(k == NameKind.free) with
  |true=>
   obtain⟨c,o⟩:=h (n,k) Zj (by simpa using g);have e:cellOf env n=pure c:=by unfold cellOf;rw[show env.cells.lookup n=aa c from o]
   simp only[g,if_true,e,pure_bind];rw[gY r _ j]
   conv=>rhs;rw[bP]
   simp only[g,if_true];rw[show env.cells.lookup n=aa c from o];rfl
  |false=>
   simp only[g,ZY,if_false,pure_bind];rw[gY r _ j]
   conv=>rhs;rw[bP]
   simp only[g,ZY,if_false]
def uv(h:∀y ∈ b.names,y.2 = .free->∃c,env.cells.lookup y.1=aa c):closureFor b env=pure (bP env.cells b.names []):=by
 have e:=gY (env:=env) b.names [] h;unfold closureFor;refine Eq.trans ?_ e
 first
  |rfl
  |(rw[bind_pure])
  |(simp only[bind_pure])
def jd:∀ {b:List (Str × WQ)} {f:List (Str × Addr)} {x:Str} {c:Addr},(x,c) ∈ bP C b f->(x,c) ∈ f\/((x,NameKind.free) ∈ b/\c=(C.lookup x).getD 0)
 |[],_,_,_,h=>.inl h
 |(n,k)::r,f,x,c,h=>by
  unfold bP at h;split at h
  ·rename_i j;have g:k = .free:=by simpa using j
   rcases jd h with e |⟨e,q⟩
   ·rcases Zk.mp e with e |e
    ·cases e;exact .inr ⟨by rw[g];exact Zj,rfl⟩
    ·exact .inl e
   ·exact .inr ⟨Zm _ e,q⟩
  ·rcases jd h with e |⟨e,q⟩
   ·exact .inl e
   ·exact .inr ⟨Zm _ e,q⟩
def fD:∀ {l:List (Str × Addr)},(∃c,(x,c) ∈ l)->∃c,l.lookup x=aa c
 |[],⟨_,h⟩=>nomatch h
 |(n,c)::r,⟨c',h⟩=>by
  rw[YD];cases hb:x == n with
  |true=>exact⟨c,rfl⟩
  |false=>
   rcases Zk.mp h with e |e
   ·cases e;simp at hb
   ·exact fD ⟨c',e⟩
def gr:∀ {b:List (Str × WQ)} {acc:List (Str × Addr)},(x,NameKind.free) ∈ b\/(∃c,(x,c) ∈ acc)->∃c,(x,c) ∈ bP cells b acc
 |[],_,h=>h.elim (λe=>nomatch e) id
 |(n,k)::r,acc,h=>by
  unfold bP;split
  ·rename_i f;refine gr ?_;rcases h with h |⟨c,h⟩
   ·rcases Zk.mp h with e |e
    ·cases e;exact .inr ⟨_,Zj⟩
    ·exact .inl e
   ·exact .inr ⟨c,Zm _ h⟩
  ·rename_i f;refine gr ?_;rcases h with h |⟨c,h⟩
   ·rcases Zk.mp h with e |e
    ·cases e;exact absurd rfl f
    ·exact .inl e
   ·exact .inr ⟨c,h⟩
def b6:∀ (b:List (Str × WQ)) (n:Nat) (c:List (Str × Addr)),Vl n b c=Vl n b []++c
 |[],_,_=>rfl
 |(y,k)::r,n,c=>by
  unfold Vl;split
  ·rw[b6 r (n+1) ((y,n)::c),b6 r (n+1) [(y,n)],Yg];rfl
  ·exact b6 r n c
def dq:∀ (b:List (Str × WQ)) (n:Nat) (f:List (Str × Addr)) (x:Str) (c:Addr),(x,c) ∈ Vl n b f->(x,c) ∈ f\/(x,NameKind.cell) ∈ b
 |[],_,_,_,_,h=>.inl h
 |(y,k)::r,n,f,x,c,h=>by
  unfold Vl at h;split at h
  ·rename_i j;have g:k = .cell:=by simpa using j
   rcases dq r _ _ x c h with e |e
   ·rcases Zk.mp e with e |e
    ·cases e;exact .inr (by rw[g];exact Zj)
    ·exact .inl e
   ·exact .inr (Zm _ e)
  ·rcases dq r _ _ x c h with e |e
   ·exact .inl e
   ·exact .inr (Zm _ e)
abbrev mQ(sc:Scope)(n:Str)(k:WQ):WQ:=if (k == .free && sc.kind == .function && sc.names.lookup n == aa .cell) then .cell else k
abbrev fE(b sc:Scope):Scope:={ b with names:=b.names.map λy=>(y.1,mQ sc y.1 y.2) }
def Cc(b:Scope)(env:Env):relabel b env=fE b env.scope:=by
 unfold relabel fE
 congr 1
 refine Xa λy _=>?_;obtain⟨n,k⟩:=y;unfold mQ;dsimp only;show(if (k == NameKind.free && env.scope.kind == ScopeKind.function && List.lookup n env.scope.names == aa NameKind.cell)=aT then (n,NameKind.cell) else (n,k))=_;split <;> rfl
def fF(sc:Scope)(x:Str):∀b:List (Str × WQ),(b.map λy=>(y.1,mQ sc y.1 y.2)).lookup x=(b.lookup x).map (mQ sc x)
 |[]=>rfl
 |(n,k)::r=>by
  rw[Zx,YD,YD];dsimp only;cases hb:x == n with
  |true=>
   have q:x=n:=by simpa using hb
   subst q;rfl
  |false=>exact fF sc x r
abbrev sL(scope:Scope)(C:Addr)(env:Env):Env:=
 { scope:=fE scope env.scope,locals:=C,globals:=env.globals,cells:=Vl (C+1) scope.names (bP env.cells scope.names []),qual:=env.qual,func:=aD,code:=env.code,frame:=env.frame,builtins:=env.builtins }
def vZ
  (h:Q { scope:=scope,locals:=s.heap.objs.size,globals:=env.globals,cells:=Vl (s.heap.objs.size+1) scope.names cl,qual:=env.qual,func:=aD,code:=env.code,frame:=env.frame,builtins:=env.builtins }
   { s with heap:=VG (s.heap.push { cls:=.type "dict", data:=.dict #[] }) scope.names }) :
  wpAny M A (VB scope env.globals cl [] env.qual aD .none (aa env)) Q E s:=by
 simp only[VB,XU,if_true];refine VY (wpAny_alloc ?_);refine VY (wpAny_layCells _ (λname kind cells=>by cases b:kind == NameKind.cell <;> simp[b]) _ _ _ _ ?_);rw[show({ s with heap:=s.heap.push { cls:=.type "dict", data:=.dict #[] } }:Shared).heap.objs.size=s.heap.objs.size+1 from Yn ..];simp only[Xd]
 first
  |exact VY (Ud (Ud h))
  |exact Ud h
abbrev yr(i:Nat):Str:=⟨#[i]⟩
abbrev cI:List Nat->List Str->List Str
 |[],N=>N
 |i::hs,N=>cI hs (N.set i (yr i))
def je:∀ (hs:List Nat) (N:List Str),(cI hs N).length=N.length
 |[],_=>rfl
 |i::hs,N=>by rw[cI,je hs,YV]
def nj:∀ (hs:List Nat) (N:List Str) {i:Nat} {x:Str},(cI hs N)[i]?=aa x->N[i]?=aa x\/∃j ∈ hs,x=yr j
 |[],_,_,_,h=>.inl h
 |k::hs,N,i,x,h=>by
  rw[cI] at h;rcases nj hs (N.set k (yr k)) h with e |⟨j,hj,e⟩
  ·rw[YN] at e;split at e
   ·split at e
    ·exact .inr ⟨k,Zj,(Option.some.inj e).symm⟩
    ·cases e
   ·exact .inl e
  ·exact .inr ⟨j,Zm _ hj,e⟩
structure CmScope(own:List Str)(hs:List Nat)(N:List Str)(scope sc:Scope):Prop where
 kind:scope.kind = .function
 nd:(cI hs N++own).Nodup
 uniq:(scope.names.map (·.1)).Nodup
 dis:∀x ∈ cI hs N,scope.names.lookup x ≠ aa .local/\scope.names.lookup x ≠ aa .cell
 fr:∀y ∈ scope.names,y.2 = .free->sc.names.lookup y.1=aa .cell\/sc.names.lookup y.1=aa .free
 hd:∀i ∈ hs,scope.names.lookup (yr i)=aD
def cF:∀ {l:List (Str × WQ)} {x:Str} {k:WQ},(l.map (·.1)).Nodup->(x,k) ∈ l->l.lookup x=aa k
 |(n,k')::r,x,k,nd,h=>by
  rw[Zx,YL] at nd;rw[YD];rcases Zk.mp h with e |e
  ·cases e;simp
  ·have ne:(x == n)=aW:=by
    cases hb:x == n with
    |false=>rfl
    |true=>
     have q:x=n:=by simpa using hb
     subst q;exact absurd (ZA.mpr ⟨(x,k),e,rfl⟩) nd.1
   rw[ne];exact cF nd.2 e
abbrev cxC(X:Cx)(own:List Str)(hs:List Nat)(b:Scope)(C:Addr)(ex:List Addr)(s:Shared)(H:Hp):Cx where
 prog:=X.prog
 w:=X.w
 K:=X.K
 mg:=X.mg
 base:=X.base
 A:=X.A
 N:=cI hs X.N++own
 s₀:=s
 H₀:=H
 env:=sL b C X.env
 outer:=X.stack
 stack:=X.stack
 ex:=ex
 fn:=λx=>b.names.lookup x == aa .cell
 calm:=X.calm
 pn:=[]
 xe:=λ_ _=>False
section
variable {X:Cx} {pins:List (Addr × Obj)} {σ:St} {H:Hp} {s:Shared} {own:List Str} {hs:List Nat} {scope:Scope} {fp:List Addr}
def Inv.compStart(I:Inv X pins σ H s)(S:CmScope own hs X.N scope X.env.scope)(hf:∀b ∈ fp,gF X pins H b)(hfo:∀b ∈ fp,b < s.heap.objs.size) :
  Inv (cxC X own hs scope s.heap.objs.size fp s H) [] (σ++Zr own.length aD) H { s with heap:=VG (s.heap.push { cls:=.type "dict", data:=.dict #[] }) scope.names }:=by
 have keep:∀b o,s.heap.get? b=aa o->(VG (s.heap.push { cls:=.type "dict", data:=.dict #[] }) scope.names).get? b=aa o:=λb o e=>VH _ _ b o (Zg _ e);have ok:=cellsFrom_ok scope.names (s.heap.push { cls:=.type "dict", data:=.dict #[] }) (s.heap.objs.size+1) [] ⟨λ_ _ hm=>(nomatch hm),List.Pairwise.nil⟩ (by rw[Yn];exact Zd _);rw[Yn] at ok;have C:(sL scope s.heap.objs.size X.env).cells=Vl (s.heap.objs.size+1) scope.names []++bP X.env.cells scope.names []:=b6 _ _ _;have U:∀x,(x,NameKind.free) ∈ scope.names->∃c,X.env.cells.lookup x=aa c:=λx h=>I.ok.has x (S.fr (x,.free) h rfl)
 have old:∀x c,(x,c) ∈ bP X.env.cells scope.names []->X.env.cells.lookup x=aa c/\(x,NameKind.free) ∈ scope.names:=λx c h=>by
  rcases jd h with e |⟨e,q⟩
  ·exact nomatch e
  ·obtain⟨c',T⟩:=U x e;rw[T] at q;exact⟨by rw[T,q];rfl,e⟩
 have O:∀x c,X.env.cells.lookup x=aa c->c < s.heap.objs.size:=λx c h=>let ⟨_,z⟩:=I.cell x c h;z.lt
 have f:∀x c,(sL scope s.heap.objs.size X.env).cells.lookup x=aa c->((x,c) ∈ Vl (s.heap.objs.size+1) scope.names [])\/(X.env.cells.lookup x=aa c/\(x,NameKind.free) ∈ scope.names):=λx c h=>by
  have m:=VA h;rw[C] at m;rcases ZM.mp m with e |e
  ·exact .inl e
  ·exact .inr (old x c e)
 have n:∀x c,(x,c) ∈ Vl (s.heap.objs.size+1) scope.names []->s.heap.objs.size+1<=c:=λx c h=>(ok.empty x c h).2
 have Z:∀b ∈ fp,b ∉ frs X.stack:=λb hb z=>by
  rcases Zk.mp (I.stkSub b z) with e |e
  ·exact(hf b hb).2.1 e
  ·exact(hf b hb).2.2.1 e
 have xok:(cxC X own hs scope s.heap.objs.size fp s H).Ok:=by
  refine⟨I.ok.mod,S.kind,I.ok.glob,I.ok.blt,Zd _,?_,?_,?_,I.ok.hd,I.ok.frames,.inl rfl,?_,I.bs,ZH I.ok.bsz I.sz,?_,Z,I.stack,I.stkFree⟩
  ·intro x y c Q L;rcases f x c Q with a |⟨a,_⟩ <;> rcases f y c L with b |⟨b,_⟩
   ·exact name_of_addr ok.apart a b
   ·exact absurd (ZF (O y c b) (Xi (n x c a))) (ZS _)
   ·exact absurd (ZF (O x c a) (Xi (n y c b))) (ZS _)
   ·exact I.ok.inj x y c a b
  ·intro x hx;have hx':(fE scope X.env.scope).names.lookup x=aa .cell\/(fE scope X.env.scope).names.lookup x=aa .free:=hx;have e:=fF X.env.scope x scope.names
   have key:(x,NameKind.cell) ∈ scope.names\/(x,NameKind.free) ∈ scope.names:=by
    cases E:scope.names.lookup x with
    |none=>rw[E] at e;rcases hx' with z |z <;> (rw[show(fE scope X.env.scope).names.lookup x=aD from e] at z;cases z)
    |some k=>
     have m:=VA E;rw[E] at e;cases k with
     |cell=>exact .inl m
     |free=>exact .inr m
     |_=>rcases hx' with z |z <;> (rw[show(fE scope X.env.scope).names.lookup x=_ from e] at z;simp[mQ] at z)
   rcases key with h |h
   ·have q:=WX scope.names (s.heap.objs.size+1) (bP X.env.cells scope.names []) (x:=x) (.inl (cF S.uniq h));exact Yk.mp q
   ·obtain⟨c,T⟩:=gr (cells:=X.env.cells) (acc:=[]) (.inl h);have q:∃c,(x,c) ∈ (sL scope s.heap.objs.size X.env).cells:=⟨c,by rw[C];exact ZG _ T⟩;exact fD q
  ·intro x c hfn E
   have J:scope.names.lookup x=aa .cell:=by
    have z:(scope.names.lookup x == aa NameKind.cell)=aT:=hfn
    simpa using z
   rcases f x c E with a |⟨_,b⟩
   ·exact ZH (Yt _) (n x c a)
   ·rw[cF S.uniq b] at J;cases J
  ·intro b hb;refine⟨Zz (hfo b hb),λx c h z=>?_⟩;rcases f x c h with a |⟨a,_⟩
   ·exact absurd (ZF (z ▸ hfo b hb) (Xi (n x c a))) (ZS _)
   ·exact(hf b hb).2.2.2.2.1 x c a z
  ·intro b o e hb;rcases (hf b hb).2.2.2.1 with z |z
   ·exact I.ok.noex b o e z
   ·have Q:=Zp e;exact absurd (ZF Q (ZH I.ok.bsz z)) (ZS _)
 have m0:(VG (s.heap.push { cls:=.type "dict", data:=.dict #[] }) scope.names).Ns s.heap.objs.size (λ_=>aD):=(Heap.Ns.new s.heap (.type "dict")).keeps (VH _ _);refine⟨xok,rfl,I.bare,Un.kept keep,⟨_,m0,?_⟩,?_,I.hok.fresh (Zd _),?_,λp hp=>absurd (show p ∈ ([]:List (Addr × Obj)) from hp) (by simp),I.hok.kept keep,?_⟩
 ·intro i x v Q L h3
  have hi:i < σ.length:=by
   by_cases hi:i < σ.length
   ·exact hi
   ·rw[Zo (by lia),Yp] at L;split at L <;> cases L
  rw[Zt hi] at L;have hN:i < X.N.length:=by rw[<-I.len];exact hi
  have Y:(cI hs X.N)[i]?=aa x:=by
   have Q:(cI hs X.N++own)[i]?=aa x:=Q
   rwa [Zt (by rw[je];exact hN)] at Q
  have dx:=S.dis x (Ze Y);have e:=fF X.env.scope x scope.names;have h3':(fE scope X.env.scope).names.lookup x=aa .local\/(fE scope X.env.scope).names.lookup x=aa .cell\/(fE scope X.env.scope).names.lookup x=aa .free:=h3
  have g:scope.names.lookup x=aa .free:=by
   cases E:scope.names.lookup x with
   |none=>rw[E] at e;rcases h3' with z |z |z <;> (rw[show(fE scope X.env.scope).names.lookup x=aD from e] at z;cases z)
   |some k=>
    rw[E] at e dx;cases k with
    |free=>rfl
    |«local»=>exact absurd rfl dx.1
    |cell=>exact absurd rfl dx.2
    |_=>rcases h3' with z |z |z <;> (rw[show(fE scope X.env.scope).names.lookup x=_ from e] at z;simp[mQ] at z)
  have h1':X.N[i]?=aa x:=by
   rcases nj hs X.N Y with z |⟨j,hj,z⟩
   ·exact z
   ·rw[z,S.hd j hj] at g;cases g
  have B:=VA g;have kX:=S.fr (x,.free) B rfl;obtain⟨m,hn,E⟩:=I.loc;obtain⟨u,r,l⟩:=E i x v h1' L (kX.elim (λz=>.inr (.inl z)) λz=>.inr (.inr z));refine⟨u,r,.inr ⟨?_,?_⟩⟩
  ·have k3:(fE scope X.env.scope).names.lookup x=aa (mQ X.env.scope x .free):=by rw[g] at e;exact e
   have k4:mQ X.env.scope x .free = .cell\/mQ X.env.scope x .free = .free:=by unfold mQ;split <;> simp
   rcases k4 with z |z
   ·exact .inl (by show(fE scope X.env.scope).names.lookup x=_;rw[k3,z])
   ·exact .inr (by show(fE scope X.env.scope).names.lookup x=_;rw[k3,z])
  ·rcases l with ⟨lk,_⟩ |⟨_,c,T,z⟩
   ·have lk':X.env.scope.names.lookup x=aa .local:=lk;rcases kX with q |q <;> (rw[q] at lk';cases lk')
   ·refine⟨c,?_,z.keeps keep⟩;obtain⟨c',hc'⟩:=gr (cells:=X.env.cells) (acc:=[]) (.inl B);obtain⟨c2,hl2⟩:=fD (l:=(sL scope s.heap.objs.size X.env).cells) ⟨c',by rw[C];exact ZG _ hc'⟩;rcases f x c2 hl2 with a |⟨a,_⟩
    ·rcases dq _ _ _ _ _ a with q |q
     ·exact nomatch q
     ·rw[cF S.uniq q] at g;cases g
    ·rw[T] at a;cases a;exact hl2
 ·intro x c h;rcases f x c h with a |⟨a,_⟩
  ·exact⟨_,(ok.empty x c a).1⟩
  ·obtain⟨v,z⟩:=I.cell x c a;exact⟨v,z.keeps keep⟩
 ·intro x c h;rcases f x c h with a |⟨a,_⟩
  ·exact I.hok.fresh (ZH (Yt _) (n x c a))
  ·exact I.freeC x c a
 ·show(σ++Zr own.length aD).length=(cI hs X.N++own).length;rw[Zi,Zi,Xx,je,I.len]
end
section
variable {κ:Type} [DecidableEq κ]
abbrev jf(b:List (κ × V))(k:κ):Option V:=(b.find? λc=>decide (c.1=k)).map (·.2)
abbrev kP(b:List (κ × V))(k:κ)(v:V):List (κ × V):=
 if (b.any λc=>decide (c.1=k))=aT then b.map (λc=>if c.1=k then (c.1,v) else c) else b++[(k,v)]
def iC{p:κ × V}{r:List (κ × V)}{k:κ}(e:p.1=k):jf (p::r) k=aa p.2:=by simp[jf,YM,e]
def iE{p:κ × V}{r:List (κ × V)}{k:κ}(e:¬ p.1=k):jf (p::r) k=jf r k:=by simp[jf,YM,e]
def qh(k:κ):∀b:List (κ × V),(b.any λc=>decide (c.1=k))=(jf b k).isSome
 |[]=>rfl
 |p::r=>by
  rw[YB];by_cases e:p.1=k
  ·simp only[iC e,decide_eq_true e,Bool.true_or,XU]
  ·rw[iE e,decide_eq_false e,Wn];exact qh k r
def qi(b:List (κ × V))(k:κ)(v:V):(kP b k v).length<=b.length+1:=by
 unfold kP;split
 ·rw[Za];omega
 ·rw[Zi,ZD,Xv];omega
def qj{b:List (κ × V)}{k:κ}(v:V)(h:jf b k=aD):kP b k v=b++[(k,v)]:=by
 unfold kP;rw[qh,h];exact if_neg (by decide)
def KV.val{c:List (κ × V)}{v:List (κ × Value)}(r:KV c v)(k:κ):vH (jf c k) (valueAt v k):=by
 unfold KV at r
 induction r with
 |nil=>exact True.intro
 |@cons p q ps qs h t ih=>
  obtain⟨f,g⟩:=h;by_cases e:p.1=k
  ·have E:q.1=k:=f.symm.trans e;have b:valueAt (q::qs) k=aa q.2:=by simp[valueAt,YM,E]
   rw[iC e,b];exact g
  ·have E:¬ q.1=k:=λz=>e (f.trans z);have b:valueAt (q::qs) k=valueAt qs k:=by simp[valueAt,YM,E]
   rw[iE e,b];exact ih
def KV.any{b:List (κ × V)}{v:List (κ × Value)}(r:KV b v)(k:κ):(b.any λc=>decide (c.1=k))=v.any λc=>decide (c.1=k):=by
 unfold KV at r
 induction r with
 |nil=>rfl
 |cons h t I=>rw[YB,YB,I,h.1]
def KV.repl(r:KV f v)(k:κ)(j:aI y u) :
  KV (f.map λb=>if b.1=k then (b.1,y) else b) (v.map λb=>if b.1=k then (b.1,u) else b):=by
 unfold KV at r ⊢
 induction r with
 |nil=>exact .nil
 |@cons p q ps qs h t ih=>
  rw[Zx,Zx];refine .cons ?_ ih;obtain⟨c,g⟩:=h;by_cases e:p.1=k
  ·rw[if_pos e,if_pos (c.symm.trans e)];exact⟨c,j⟩
  ·rw[if_neg e,if_neg (λz=>e (c.trans z))];exact⟨c,g⟩
def KV.put(r:KV b v)(k:κ)(c:aI y u):KV (kP b k y) (stored v k u):=by
 unfold kP stored;rw[r.any k];by_cases e:(v.any λf=>decide (f.1=k))=aT
 ·rw[if_pos e,if_pos e];exact r.repl k c
 ·rw[if_neg e,if_neg e];exact Paired.snoc r ⟨rfl,c⟩
def KV.length(r:KV b v):b.length=v.length:=Paired.length r
end
def yt(r:aI (kV k) u):(bz P w).is k u=aT:=by
 cases k with
 |inl i=>obtain⟨t,e⟩:=(show ∃t,u=Value.int i t from r);subst e;exact qb P w i t
 |inr x=>obtain⟨t,e⟩:=(show ∃t,u=Value.str x t from r);subst e;exact qc P w x t
def nk:∀ {b:List Key} {u:List Value},aP (b.map kV) u->ItemsAre (bz P w) b u
 |[],_,r=>by rw[Ym] at r;cases r;exact .nil
 |k::b,_,r=>by
  rw[Zx] at r;cases r with
  |cons h t=>exact .cons (yt h) (nk t)
@[inline]abbrev KT(H:Hp):List (List Key × V)->List (List Key × Addr × Value)->Prop:=Paired λp q=>p.1=q.1/\H q.2.1=aa (.tup (p.1.map kV))/\aI p.2 q.2.2
def KT.val{H:Hp}{c:List (List Key × V)}{X:List (List Key × Addr × Value)}(r:KT H c X)(k:List Key):vH (jf c k) ((atKey X k).map (·.2)):=by
 induction r with
 |nil=>exact True.intro
 |@cons p q ps qs h t ih=>
  obtain⟨f,_,g⟩:=h;by_cases e:p.1=k
  ·have E:q.1=k:=f.symm.trans e;have b:atKey (q::qs) k=aa q.2:=by simp[atKey,YM,E]
   rw[iC e,b];exact g
  ·have E:¬ q.1=k:=λz=>e (f.trans z);have b:atKey (q::qs) k=atKey qs k:=by simp[atKey,YM,E]
   rw[iE e,b];exact ih
section
variable {P:Program} {w:World} {H:Hp} {h:Heap} {a:Addr}
def FG(ok:HOk P w H h)(e:Rd H a u):bq P w H h a u:=e.ok ok
def yu(ok:HOk P w H h)(e:Rd H a (.dK b)):b.length<=sizeLine/\(a == VT)=aW/\∃vs,KV b vs/\h.DictOf (bz P w) a vs:=
 show bq P w H h a (.dK b) from FG ok e
def LI(ok:HOk P w H h)(e:H a=aa (.dK b)):b.length<=sizeLine/\(a == VT)=aW/\∃vs,KV b vs/\h.DictOf (bz P w) a vs:=yu ok (.inl e)
def yv(ok:HOk P w H h)(e:H a=aa (.tup (b.map kV))):(VU (bz P w)).is h b a:=by
 obtain⟨_,I,r,o,g,f,n,c,_⟩:=(show bq P w H h a (.tup (b.map kV)) from ok a _ e);exact⟨o,I.toArray,n,g,f,c,by simpa using nk r⟩
def FH(ok:HOk P w H h)(e:Rd H a (.dT b)):b.length<=sizeLine/\(a == VT)=aW ∧
  ∃xs,KT H b xs/\h.DictOfH (VU (bz P w)) a xs:=by
 obtain⟨z,y,xs,r,o,g,E,j,f,c,h4,n⟩:=(show bq P w H h a (.dT b) from FG ok e);refine⟨z,y,xs,r,o,g,E,j,f,c,h4,λx hx=>?_,n⟩
 have all:∀ {l:List (List Key × V)} {m:List (List Key × Addr × Value)},KT H l m->∀x ∈ m,(VU (bz P w)).is h x.1 x.2.1:=by
  intro l m q
  induction q with
  |nil=>intro x hx;exact nomatch hx
  |@cons p q ps qs hq t ih=>
   intro x hx;rcases Zk.mp hx with e |hx
   ·subst e;exact yv ok (by rw[<-hq.1];exact hq.2.1)
   ·exact ih x hx
 exact all r x hx
end
abbrev Cd(H:Hp)(a:Addr)(y:V)(r:Option V):Prop:=
 (∃c k,Rd H a (.dK c)/\y=kV k/\r=jf c k)\/∃c k b,Rd H a (.dT c)/\y = .ref b/\H b=aa (.tup (k.map kV))/\r=jf c k
def Cd.k{H:Hp}{a:Addr}{b:List (Key × V)}{k:Key}(e:H a=aa (.dK b)):Cd H a (kV k) (jf b k):=.inl ⟨b,k,.inl e,rfl,rfl⟩
section
variable {X:Cx} {pins:List (Addr × Obj)} {σ:St} {H:Hp} {s:Shared} {a:Addr} {y v:V} {u r:Value} {o:Option V} {A:Around} {E:Value->Shared->Prop}
def Inv.big(I:Inv X pins σ H s):VT < s.heap.objs.size:=by
 have h:Vz < s.heap.objs.size:=(I.mod.glob.keeps I.bk).lt;exact Nat.lt_trans (by decide) h
def v0(Y:A.units+1 < cLine)(I:Inv X pins σ H s)(g:Cd H a y (aa v))(J:aI y u)(h:∀f L,Inv X pins σ H L->aI v f->Q f L) :
  wpAny (model X.prog X.w) A (getItem (.ref a) u) Q E s:=by
 rcases g with ⟨n,k,e,q,l⟩ |⟨n,k,b,e,q,O,l⟩
 ·subst q;obtain⟨z,hd,U,rel,B⟩:=yu I.hok e;obtain⟨f,C,c⟩:=vH.some_of (v:=v) (o:=valueAt U k) (by rw[l];exact rel.val k);exact wpAny_getItem_of (yt J) B.mapOf C (h f _ (I.tok _) c)
 ·subst q;cases (show u=Value.ref b from J);obtain⟨z,hd,Z,rel,B⟩:=FH I.hok e;obtain⟨f,C,c⟩:=vH.some_of (v:=v) (o:=(atKey Z k).map (·.2)) (by rw[l];exact rel.val k);obtain⟨p,T,j⟩:=YI.mp C;refine wpAny_getItem_heap (tupleKind_room_in1 Y) (yv I.hok O) B T ?_;rw[j];exact h f _ (I.tok _) c
def Ce{t':Nat}(I:Inv X pins σ H s)(c:Mut (H a))(hs:Heap.SameBut a s.heap h')(h:∃q,h'.get? a=aa q)(new:bq X.prog X.w (upd H a ob) h' a ob) :
  Inv X pins σ (upd H a ob) { s with heap:=h',toks:=t' }:=
 I.write (x:=a) (e:=a) c (.inl rfl) (λb q hb z=>(hs.2 b hb).trans z) h new
def G3(z:b.length<=sizeLine)(hd:(a == VT)=aW)(rel:KV b c)(f:h'.DictOf (bz P w) a c) :
  bq P w h h' a (.dK b):=⟨z,hd,c,rel,f⟩
def v5{b:List (Key × V)}{k:Key}(I:Inv X pins σ H s)(e:H a=aa (.dK b))(l:b.length < sizeLine)(n:aI (kV k) u)(g:aI v r)(h:∀f,Inv X pins σ (upd H a (.dK (kP b k v))) f->Q () f) :
  wpAny (model X.prog X.w) A (dictSet a u r) Q E s:=by
 obtain⟨z,hd,j,rel,p⟩:=LI I.hok e;have L:j.length<=sizeLine:=by rw[<-rel.length];exact z
 have C:(kP b k v).length<=sizeLine:=by have:=qi b k v;omega
 refine wpAny_dictSet_pairs (hsz:=L) (yt n) p λB c hs=>h _ ?_;have J:∃q,B.get? a=aa q:=let ⟨q,_,_,hq,_⟩:=c;⟨q,hq⟩;exact Ce I (by rw[e];exact True.intro) hs J (G3 C hd (rel.put k g) c)
end
def qk(I:Inv X p h H s)(g:Cd H a y o):s.TypeIs (.ref a) "dict" := by
 rcases g with ⟨c,k,e,_,_⟩ |⟨c,k,b,e,_,_,_⟩
 ·obtain⟨_,_,v,_,f⟩:=yu I.hok e;exact f.typeIs
 ·obtain⟨_,_,j,_,f⟩:=FH I.hok e;exact f.typeIs
def yw(h:Heap)(hb:VT < h.objs.size):bq P w H (h.push { cls:=.type "dict", data:=.dict #[] }) h.objs.size (.dK []):=
 ⟨Yb _,beq_eq_false_iff_ne.mpr (Ne.symm (Zz hb)),[],.nil,Heap.DictOf.new h⟩
abbrev ql(J:It)(g:TG)(T:TS)(D:Ends)(b:St)(H:Hp):Prop:=∃W:Nat->Nat->St->Hp->Prop,(∃m,W 0 m b H)/\∀i m b H,W i m b H ->
 (J.stop i H/\D.nx b H)\/(J.go i H/\∃N:St->Hp->Prop,(∀c h,N c h->∃j,j < m/\W (i+1) j c h)/\∀x h,J.yld i H x h->g x b h λf n=>T { D with nx:=N,ct:=N,bk:=D.nx } f n)
abbrev PTs(Y:Cx)(ifs:List Expr)(t:TT):Prop:=
 ∀ (p:List (Addr × Obj)) (s:Shared) (b:St) (H:Hp) (Q:Bool->Hp->Prop),Inv Y p b H s->t b H Q->wpAny (model Y.prog Y.w) Y.A (oQ ifs Y.env) (TP Y p b Q) Y.xe s
abbrev v7:TT:=λ_ H Q=>Q aT H
def uw:PTs Y [] v7:=λ_ _ _ H _ I h=>by
 unfold oQ;rw[Xd];exact Ud ⟨H,I,h⟩
def Cf(hc:PT Y c t):PTs Y [c] t:=λp s f H Q I h=>by
 unfold oQ;rw[Wf];simp only[if_true,Xd];refine VY (VY (thn (hc p s f H Q I h) λb g q=>Ud ?_));exact Ud q
abbrev PTl(Y:Cx)(c:CmK)(g:List WD)(f:Scope)(pos:Pos)(h:Addr)(d:Nat)(t:TS):Prop:=
 ∀ (p:List (Addr × Obj)) (s:Shared) (q:St) (H:Hp) (D:Ends),Inv Y p q H s->t D q H ->
  match g[d+1]? with
  |none=>wpAny (model Y.prog Y.w) Y.A (cmP c Y.env (.ref h)) (λ_ n=>∃b j,Inv Y p b j n/\D.nx b j) (λ_ _=>False) s
  | some o=>o.is_async=0/\wpAny (model Y.prog Y.w) Y.A (eval o.iter Y.env) (λx y=>wpAny (model Y.prog Y.w) Y.A (Vu o.iter Y.env x) (λX n=>wpAny (model Y.prog Y.w) Y.A (pyIter X) (λI u=>
    wpAny (model Y.prog Y.w) Y.A (runOwn (.compStart (cmE c g f pos) (d+1) I (.ref h) Y.env) Y.env) (λ_ v=>∃b j,Inv Y p b j v/\D.nx b j) (λ_ _=>False) u) (λ_ _=>False) n) (λ_ _=>False) y) (λ_ _=>False) s
abbrev dX(T:TT)(t:TS):TS:=λD b H=>T b H λc h=>if c=aT then t D b h else D.nx b h
abbrev FI(b:Addr)(T:TE):TS:=λD c H=>T c H λx h=>∃X,h b=aa (.lst X)/\X.length < sizeLine/\D.nx c (upd h b (.lst (X++[x])))
def yx{c:CmK}{gens:List WD}{b:Scope}{pos:Pos}:clausesOf (cmE c gens b pos)=gens:=by
 cases c <;> rfl
abbrev Cg(c:Addr)(T g:TE):TS:=λD f H=>T f H λx j=>g f j λy h=>∃b k,h c=aa (.dK b)/\x=kV k/\b.length < sizeLine/\D.nx f (upd h c (.dK (kP b k y)))
section
variable {Y:Cx} {elt:Expr} {c:CmK} {gens:List WD} {scope:Scope} {pos:Pos} {acc:Addr} {d:Nat}
def yy(f:Y.xe=λ_ _=>False)(u:gens[d+1]?=aD)(o:PE Y elt U):PTl Y (.l elt) gens scope pos acc d (FI acc U):=by
 intro p s b H D I h;rw[u];have g:=o p s b H _ I h;rw[f] at g;refine VY (thn g λx L ⟨v,j,O,J,X,T,C,q⟩=>?_);have z:=ni p L b j (.ref acc) [v] (.ref acc) [x] (λy n=>y = .non/\D.nx b n) O rfl (.cons J .nil) ⟨acc,X,v,rfl,rfl,T,C,rfl,q⟩;rw[f] at z;exact VY (thn z λy s6 ⟨v6,E,B,Z,e6,Q⟩=>Ud ⟨b,E,B,Q⟩)
def Ch(f:Y.xe=λ_ _=>False)(u:gens[d+1]?=aD)(X:PE Y k T)(C:PE Y v z):PTl Y (.d k v) gens scope pos acc d (Cg acc T z):=by
 intro p s b H D I h;rw[u];have g:=X p s b H _ I h;rw[f] at g;refine VY (thn g λx U ⟨vk,o,Z,O,Q⟩=>?_);have j:=C p U b o _ Z Q;rw[f] at j;refine VY (V5 (thn j λy s6 ⟨vv,H6,B,n,q,kk,h1,J,E,q6⟩=>?_));subst J;exact VY (Uq (V5 (v5 B h1 E O n λs7 L=>⟨b,_,L,q6⟩)))
def v8{prog:Program}{w:World}{I acc:Value}{env:Env}:(model prog w).den (.compStart (cmE c gens scope pos) d I acc env)=((compStart (cmE c gens scope pos) d I acc env).onRaise λx=>do noteFrame x env;standAt theWindowsPlace):=by
 cases c <;> rfl
def yz{prog:Program}{w:World}{I acc:Value}{env:Env}:(model prog w).den (.compLoop (cmE c gens scope pos) d I acc env)=((compTurn (cmE c gens scope pos) d I acc env).onRaise λx=>do noteFrame x env;theTreesLotGoes x):=by
 cases c <;> rfl
def v9{A:Around}{I acc:Value}{env:Env}:A.under (.compStart (cmE c gens scope pos) d I acc env)=A:=by
 cases c <;> rfl
def yA{A:Around}{I acc:Value}{env:Env}:A.under (.compLoop (cmE c gens scope pos) d I acc env)=A:=by
 cases c <;> rfl
def kQ{A:Around}{R:Result->Shared->Prop}{prog:Program}{w:World}{s:Shared}{T I:Expr}{ifs:List Expr}{g acc:Value}{env:Env}(p:gens[d]?=aa ⟨T,I,ifs,0⟩)
  (o:codeAny (model prog w) A (.compLoop (cmE c gens scope pos) d g acc env) R s)
  (h:wpAny (model prog w) A (pyIter g) (λb f=>codeAny (model prog w) A (.compLoop (cmE c gens scope pos) d b acc env) R f) (notedBy (model prog w) A env λx f=>R (.error x) f) s) :
  codeAny (model prog w) A (.compStart (cmE c gens scope pos) d g acc env) R s:=by
 refine Vo ?_;rw[v8,v9];refine wpAny_notedAt ?_;unfold compStart;have j:(clausesOf (cmE c gens scope pos))[d]?=aa ⟨T,I,ifs,0⟩:=by rw[yx];exact p
 simp only[j,Option.elim];show wpAny _ _ (ask >>= _) _ _ s;refine VY (VX (wpAny_ite ?_));split
 ·first
   |exact VY (Ud (Ud (And.intro rfl o)))
   |exact Ud (And.intro rfl o)
 ·first
   |exact VY (Ul (VY (Uq (VY (V8 h (λb f n=>Ud (And.intro rfl n)) λ_ _ x=>x)))))
   |(refine VY (Ul ?_);show wpAny _ _ (standAt I.pos >>= _) _ _ s;exact VY (Uq (VY (V8 h (λb f n=>Ud (And.intro rfl n)) λ_ _ x=>x))))
def np
  (hx:Y.xe=λ_ _=>False) (hc:Y.calm=aT) (hg:gens[d]?=aa ⟨tg,iter,ifs,0⟩) (T:Turn Y.prog Y.w Y.K tg J C it tn) (I2:Inv Y p σ H s) (st2:tn 0 s.heap) (f2:∀b ∈ C,gF Y p H b)
  (hgt:PG Y tg g) (hts:PTs Y ifs ti) (htl:PTl Y c gens scope pos acc d t) (hW:ql J g (dX ti t) D σ H) :
  codeAny (model Y.prog Y.w) Y.A (.compLoop (cmE c gens scope pos) d (.ref it) (.ref acc) Y.env) (λr s'=>r = .ok .next/\∃f H',Inv Y p f H' s'/\D.nx f H') s:=by
 obtain⟨W,⟨m0,w0⟩,X⟩:=hW;have v:∀ {H':Hp},(∀b ∈ C,H' b=aD)->∀b ∈ C,gF Y p H' b:=λhn b hb=>⟨hn b hb,(f2 b hb).2⟩;refine codeAny_loop rfl (λn s'=>∃i f H',Inv Y p f H' s'/\tn i s'.heap/\(∀b ∈ C,H' b=aD)/\W i n f H') (λn s3 hI=>?_) m0 ⟨0,σ,H,I2,st2,λb hb=>(f2 b hb).1,w0⟩;obtain⟨i,j,H3,I3,Z,Q,w3⟩:=hI;rw[yz,yA];refine wpAny_noted (V8 (E:=λ_ _=>False) ?_ (λ_ _ q=>q) λ_ _ z=>z.elim);refine Cb hg ?_;rcases X i n j H3 w3 with ⟨stop,qn⟩ |⟨go,N,hN,step⟩
 ·refine thn (T.done Y rfl rfl rfl hc i p s3 j H3 _ I3 (v Q) Z stop) λr s4 ⟨hr,I4⟩=>?_;subst hr;exact⟨rfl,j,H3,I4,qn⟩
 ·refine thn (T.item Y rfl rfl rfl hc i p s3 j H3 _ I3 (v Q) Z go) λr s4 ⟨u,hr,h4⟩=>?_;subst hr;refine thn h4 λ_ s5 ⟨x,H5,I5,r5,y5,y,fr5⟩=>?_;have I5':=I5.pinned (v fr5) (T.obj _ _ y)
  have again:∀ {h:St} {B:Hp} {L:Shared},Inv Y (p++kK C s5.heap) h B L->N h B->∃m,m < n/\∃i f H',Inv Y p f H' L/\tn i L.heap/\(∀b ∈ C,H' b=aD)/\W i m f H':=λ{h B L} I n7=>by
   obtain⟨m',hm,w7⟩:=hN h B n7;refine⟨m',hm,i+1,h,B,I.unpinned,T.keep _ _ _ y λb hb o e=>(I.pin (b,o) (ZG _ (ZG _ (eK hb e)))).1,λb hb=>?_,w7⟩;obtain⟨o,e,dd⟩:=T.obj _ _ y b hb;exact(I.pin (b,o) (ZG _ (ZG _ (eK hb e)))).2.1
  have hG:=hgt _ s5 j H5 x u _ I5' r5 (step x H5 y5);rw[hx] at hG;refine thn hG λ_ s6 ⟨U,H6,I6,q6⟩=>?_;have hT:=hts _ s6 U H6 _ I6 q6;rw[hx] at hT;refine thn hT λok L ⟨B,I,q7⟩=>?_;cases ok with
  |false=>
   simp only[ZY,if_false] at q7 ⊢;exact⟨by trivial,again I q7⟩
  |true=>
   simp only[if_true] at q7 ⊢;have O:=htl _ L U B _ I q7;cases hn:gens[d+1]? with
   |none=>
    rw[hn] at O;exact thn O λ_ s9 ⟨σ9,H9,I9,q9⟩=>⟨by trivial,again I9 q9⟩
   |some g'=>
    rw[hn] at O;obtain⟨ha,O⟩:=O;exact⟨ha,thn O λx s8 h8=>thn h8 λx' s9 h9=>thn h9 λit' s10 h10=>thn h10 λ_ s11 ⟨σ9,H9,I9,q9⟩=>⟨by trivial,again I9 q9⟩⟩
abbrev yB(f:TI)(g:TG)(T:TT)(t:TS):TS:=λD b H=>f b H λJ h=>ql J g (dX T t) D b h
def Ci(j:gens[d+1]?=aa ⟨z,b,ifs,0⟩)
  (hi:PI Y z b wi) (o:PG Y z g) (n:PTs Y ifs O) (u:PTl Y c gens scope pos acc (d+1) t) (y:Y.xe=λ_ _=>False:=by rfl) (hc:Y.calm=aT:=by rfl) (hs:∀x,Vu b Y.env x=pure x:=by intro _;rfl) :
  PTl Y c gens scope pos acc d (yB wi g O t):=by
 intro p s Z H D I h;rw[j];refine⟨rfl,?_⟩;have B:=hi p s Z H _ I h;rw[y] at B;refine thn B λv s5 Q=>Ub (hs v) (thn Q λX s6 C=>?_);obtain⟨it,fp,tn,J,H6,e,U,T,f,f6,W⟩:=C;subst e;have L:=np (c:=c) (gens:=gens) (scope:=scope) (pos:=pos) (acc:=acc) y hc j T U f f6 o n u W;refine wpAny_runOwn (Vn (kQ j L (T.self _ 0 s6 _ _ f L)) λr s8 E=>?_);obtain⟨rfl,q⟩:=E;exact q
end
abbrev oT(o:HO)(own:Nat)(f:TI)(g:TG)(T:Addr->TS):TE:=λc H Q=>f c H λJ h=>∀b,h b=aD ->
 ql J g (T b) { nx:=λ_ j=>Q (.ref b) j,rt:=λ_ _=>False } (c++Zr own aD) (upd h b o)
@[inline]abbrev LJ:=oT (.lst [])
section
variable {X:Cx} {c:CmK} {elt tg iter:Expr} {ifs:List Expr} {rest:List WD} {scope:Scope} {pos:Pos} {own:List Str} {hs:List Nat} {wi:TI} {g:TG} {ti:TT} {t:Addr->TS}
def G4{p:List (Addr × Obj)}{b:St}{H:Hp}{s:Shared}{E:Value->Shared->Prop}{Q:Value->Shared->Prop}(I:Inv X p b H s)(h:∀o,Inv X p b (upd H s.heap.objs.size (cmO c)) { s with heap:=s.heap.push o }->Q (.ref s.heap.objs.size) { s with heap:=s.heap.push o }):wpAny (model X.prog X.w) X.A (cmN c) Q E s:=by
 cases c with
 |l e=>exact Ua (h _ (I.lnew (its:=[]) (t':=s.toks) .nil (Yb _)))
 |d k v=>exact Ua (h _ (I.laid (a:=s.heap.objs.size) (o:=.dK []) (t':=s.toks) (λ_ _ q=>Zg _ q) (Zd _) (yw s.heap I.big)))
def kR{j:List (Addr × Obj)}{σ:St}{Q:VK}{Z:Value}{s2:Shared}{E:Value->Shared->Prop}(hc:X.calm=aT)(S:CmScope own hs X.N scope X.env.scope)
  (hgt:∀C ex s H,PG (cxC X own hs scope C ex s H) tg g) (hts:∀C ex s H,PTs (cxC X own hs scope C ex s H) ifs ti)
  (htl:∀C ex s H f,PTl (cxC X own hs scope C ex s H) c (⟨tg,iter,ifs,0⟩::rest) scope pos f 0 (t f))
  (h2:PIE X j σ tg (λJ H1=>∀f,H1 f=aD->ql J g (dX ti (t f)) { nx:=λ_ n=>Q (.ref f) n,rt:=λ_ _=>False } (σ++Zr own.length aD) (upd H1 f (cmO c))) Z s2)
  {RR:Value->Addr->Result->Shared->Prop} (hRR:∀f C n s',Inv X j σ n s'->gF X j n C->(∃m,s'.heap.Ns C m)->Q (.ref f) n->RR (.ref f) C (.ok .next) s') :
  wpAny (model X.prog X.w) X.A (cmN c) (λf h=>wpAny (model X.prog X.w) X.A (VB scope X.env.globals (bP X.env.cells scope.names []) [] X.env.qual aD .none (aa X.env)) (λu z=>
   codeAny (model X.prog X.w) X.A (.compStart (cmE c (⟨tg,iter,ifs,0⟩::rest) scope pos) 0 Z f { u with scope:=relabel scope X.env }) (RR f u.locals) z) E h) E s2:=by
 obtain⟨it,v,tn,J,H2,e,I2,T,st2,f2,R⟩:=h2;subst e;refine G4 I2 λob B=>?_;have W:=R s2.heap.objs.size (I2.hok.fresh (Zd _));generalize hs3:({ s2 with heap:=s2.heap.push ob }:Shared)=h at B ⊢;have e3:h.heap=s2.heap.push ob:=by rw[<-hs3]
 have k3:∀b o,s2.heap.get? b=aa o->h.heap.get? b=aa o:=λb o e=>by rw[e3];exact Zg _ e
 have O:tn 0 h.heap:=T.keep _ _ _ st2 λb _ o e=>k3 b o e;have fne:∀b ∈ v,b < s2.heap.objs.size:=λb hb=>let ⟨o,e,_⟩:=T.obj _ _ st2 b hb;Zp e;have y:∀b ∈ v,gF X j (upd H2 s2.heap.objs.size (cmO c)) b:=λb hb=>⟨by rw[aC (Zz (fne b hb))];exact(f2 b hb).1,(f2 b hb).2⟩;have fo3:∀b ∈ v,b < h.heap.objs.size:=λb hb=>let ⟨o,e,_⟩:=T.obj _ _ O b hb;Zp e;refine vZ ?_;have I4:=B.compStart S y fo3;generalize hH3:upd H2 s2.heap.objs.size (cmO c)=H3 at B I4 y W
 have eE:({ scope:=relabel scope X.env,locals:=h.heap.objs.size,globals:=X.env.globals,cells:=Vl (h.heap.objs.size+1) scope.names (bP X.env.cells scope.names []),qual:=X.env.qual,func:=aD,code:=X.env.code,frame:=X.env.frame,builtins:=X.env.builtins }:Env)=sL scope h.heap.objs.size X.env:=by
  unfold sL;rw[Cc]
 generalize hs4:({ h with heap:=VG (h.heap.push { cls:=.type "dict", data:=.dict #[] }) scope.names }:Shared)=z at I4 ⊢;have k4:∀b o,h.heap.get? b=aa o->z.heap.get? b=aa o:=λb o e=>by rw[<-hs4];exact VH _ _ b o (Zg _ e)
 have U:tn 0 z.heap:=T.keep _ _ _ O λb _ o e=>k4 b o e
 have f4:∀b ∈ v,gF (cxC X own hs scope h.heap.objs.size v h H3) [] H3 b:=λb hb=>by
  refine⟨(y b hb).1,Zz (fo3 b hb),I4.ok.exfs b hb,.inl hb,λx c hl=>(I4.ok.exf b hb).2 x c hl,λp hp=>absurd (show p ∈ ([]:List (Addr × Obj)) from hp) (by simp)⟩
 have L:=np (Y:=cxC X own hs scope h.heap.objs.size v h H3) (c:=c) (gens:=⟨tg,iter,ifs,0⟩::rest) (d:=0) (scope:=scope) (pos:=pos) (acc:=s2.heap.objs.size) rfl hc rfl T I4 U f4 (hgt _ _ _ _) (hts _ _ _ _) (htl _ _ _ _ _) W;have C:=kQ (c:=c) (gens:=⟨tg,iter,ifs,0⟩::rest) (d:=0) (scope:=scope) (pos:=pos) rfl L (T.self _ 0 z _ _ U L);show codeAny (model X.prog X.w) X.A (.compStart (cmE c (⟨tg,iter,ifs,0⟩::rest) scope pos) 0 (.ref it) (.ref s2.heap.objs.size) { scope:=relabel scope X.env,locals:=h.heap.objs.size,globals:=X.env.globals,cells:=Vl (h.heap.objs.size+1) scope.names (bP X.env.cells scope.names []),qual:=X.env.qual,func:=aD,code:=X.env.code,frame:=X.env.frame,builtins:=X.env.builtins }) (RR (.ref s2.heap.objs.size) h.heap.objs.size) z;rw[eE];refine Vn C λr s' hr=>?_;obtain⟨rfl,σ',n,I,q⟩:=hr;obtain⟨mC,nC,_⟩:=id I.loc;have freeC:n h.heap.objs.size=aD:=I.free;refine hRR _ _ n s' ?_ (B.fpOk (Zd _) freeC) ⟨mC,nC⟩ q;exact B.call' (ch:=v) I.os I.base I.hok I.bare λb hb=>⟨(y b hb).2.2.2.1,(y b hb).2.1,(y b hb).2.2.2.2.1,(y b hb).2.2.2.2.2⟩
def Cj{env:Env}:eval (cmE c (⟨tg,iter,ifs,0⟩::rest) scope pos) env=Vq (cmE c (⟨tg,iter,ifs,0⟩::rest) scope pos) scope env (firstIterPos (⟨tg,iter,ifs,0⟩::rest) pos) (cmN c) aW (eval iter env):=by
 cases c with
 |l e=>exact eval_ListComp ..
 |d k v=>unfold cmE;rw[eval];rfl
def ux(hc:X.calm=aT)(S:CmScope own hs X.N scope X.env.scope)(hi:PI X tg iter wi)
  (z:∀C ex s H,PG (cxC X own hs scope C ex s H) tg g) (n:∀C ex s H,PTs (cxC X own hs scope C ex s H) ifs ti)
  (E:∀C ex s H f,PTl (cxC X own hs scope C ex s H) c (⟨tg,iter,ifs,0⟩::rest) scope pos f 0 (t f))
  (hs:∀x,Vu iter X.env x=pure x:=by intro _;rfl) :
  PE X (cmE c (⟨tg,iter,ifs,0⟩::rest) scope pos) (oT (cmO c) own.length wi g λf=>dX ti (t f)):=by
 intro p s J H Q I h;rw[Cj];refine V1 (use:=aD) (cl:=bP X.env.cells scope.names []) yx hs (uv λy u B=>I.ok.has y.1 (S.fr y u B)) S.kind (λy u B=>cF S.uniq (by rw[<-B];exact u)) ?_;refine thn (hi p s J H _ I h) λv s1 h1=>thn h1 λU s2 Y=>?_;refine kR (c:=c) hc S z n E Y (RR:=λf C=>compPost (model X.prog X.w) X.A X.xe aD (EP X p J Q) f C) λf C L Z T j O q=>?_;obtain⟨m,nm⟩:=O;refine⟨m,nm,λh' sb=>⟨.ref f,L,?_,rfl,q⟩⟩;exact T.turned (t':=Z.toks) (λb o hb e=>(sb.2 b hb).trans e) j.1 j.2.1 j.2.2.2.1 j.2.2.2.2.1 j.2.2.2.2.2
def G5{env:Env}{use:Value->Sem Unit}:evalThenUse (cmE c (⟨tg,iter,ifs,0⟩::rest) scope pos) env use=(do let _ <-Vq (cmE c (⟨tg,iter,ifs,0⟩::rest) scope pos) scope env (firstIterPos (⟨tg,iter,ifs,0⟩::rest) pos) (cmN c) aW (eval iter env) (aa use)):=by
 cases c <;> rfl
def Ck{i:Nat}(hc:X.calm=aT)(S:CmScope own hs X.N scope X.env.scope)(hN:X.N.Nodup)(Y:X.N[i]?=aa x)(hx:X.env.scope.names.lookup x=aa .local)(hi:PI X tg iter wi)
  (hgt:∀C ex s H,PG (cxC X own hs scope C ex s H) tg g) (T:∀C ex s H,PTs (cxC X own hs scope C ex s H) ifs ti)
  (htl:∀C ex s H f,PTl (cxC X own hs scope C ex s H) c (⟨tg,iter,ifs,0⟩::rest) scope pos f 0 (t f))
  (O:VR (cmE c (⟨tg,iter,ifs,0⟩::rest) scope pos) (aa (.Name x p)) u.line X.env=pure aT:=by rfl)
  (hs:∀x,Vu iter X.env x=pure x:=by intro _;rfl) :
  PS X (.Assign [.Name x p] (cmE c (⟨tg,iter,ifs,0⟩::rest) scope pos) u) (vK (oT (cmO c) own.length wi g λf=>dX ti (t f)) (mY i)):=by
 intro j s σ H D I h;rw[exec_Assign_Name_used _ _ _ _ O];rw[G5];refine VY (Uq (VY ?_));show wpAny _ X.A (do let _ <-Vq (cmE c (⟨tg,iter,ifs,0⟩::rest) scope pos) scope X.env _ (cmN c) aW (eval iter X.env) (aa (assign (.Name x p) X.env))) _ _ s
 refine VY (V8 (V1 (use:=aa (assign (.Name x p) X.env)) (Q:=λ_ B=>SP X j D .next B) (cl:=bP X.env.cells scope.names []) yx hs (uv λy Z hk=>I.ok.has y.1 (S.fr y Z hk)) S.kind (λy Z hk=>cF S.uniq (by rw[<-hk];exact Z))
  ?_) (λ_ B hq=>Ud (Ud hq)) λ_ _ e=>e)
 refine thn (hi j s σ H _ I h) λv s1 h1=>thn h1 λitv s2 h2=>?_;refine kR (c:=c) (Q:=λy L=>mY i y σ L D.nx) hc S hgt T htl h2 (RR:=λf C=>compPost (model X.prog X.w) X.A X.xe (aa (assign (.Name x p) X.env)) (λ_ B=>SP X j D .next B) f C) λf C L B I' n m' q=>?_;obtain⟨m,nm⟩:=m';show wpAny _ X.A (assign (.Name x p) X.env (.ref f)) _ _ _;refine wpAny_assign_Name (mX (v:=.ref f) I' hN Y (.inl hx) rfl (λE I'' J=>?_) (.inr hx));obtain⟨a,U,ha⟩:=J
 have ne:C ≠ a:=by
  rcases ha with e |e
  ·rw[e];exact n.2.1
  ·exactλz=>n.2.2.2.2.1 x a e z.symm
 refine⟨m,nm.sameBut U ne,λh' sb=>⟨_,L,?_,q⟩⟩;exact I''.turned (t':=E.toks) (λb o hb e=>(sb.2 b hb).trans e) n.1 n.2.1 n.2.2.2.1 n.2.2.2.2.1 n.2.2.2.2.2
end
end L2
namespace HT
open PySem PyProof.Rows
section
variable {prog:Program} {w:World} {A:Around} {E:Value->Shared->Prop} {s:Shared}
def yC{t b:Addr}{q:List Value}{Q:Value->Shared->Prop}(B:IsTup s.heap t ([]:List Value).toArray)(hb:IsTup s.heap b q.toArray)(h:Q (.ref b) s):wpAny (model prog w) A (Vf .Add (.ref t) (.ref b)) Q E s:=by
 obtain⟨⟨z,y,p,sl⟩,u,v,n,hd⟩:=id B;obtain⟨⟨C,o,data2,j⟩,c,f,I,g⟩:=id hb;simp only at v hd f g;subst v hd f g
 exact Vr ⟨_,u,rfl⟩ ⟨_,c,rfl⟩ VC VM WL WG (WE _ _)
   (tuple_addW0 t b _ q.toArray n I y o sl j (by simp)) ⟨u,c,h⟩
def gG{t sl:Addr}{I:Array Value}{v p:Value}{lo hi:Option Int}{Q:Value->Shared->Prop}(b:IsTup s.heap t I)(hs:s.heap.IsSliceOf sl v p .none)(pl:IsPart v lo)(u:IsPart p hi)
  (hw:sIx I.size 0 lo=0/\sIx I.size I.size hi=I.size) (h:Q (.ref t) s):wpAny (model prog w) A (getItem (.ref t) (.ref sl)) Q E s:=by
 obtain⟨os,g,f,q⟩:=id hs;have j:s.TypeIs (.ref sl) "slice" := ⟨os,g,f⟩;obtain⟨o,B,z,n,hd⟩:=id b;unfold getItem
 try with_reducible refine V5 ?_
 first |refine VY (Ud ?_) |skip
 refine VY (wpAny_sequenceKey b.typeIs (by decide) ?_)
 refine VY (wpAny_callSpecial?_slot (name:=Str.ofString "__getitem__") b.typeIs WA
  (V0 WA b.typeIs entry_tuple_getitem ?_ (args_tuple_getitem _ _)))
 show wpAny _ _ (Builtin.Tuple.tupleItemsOf (.ref t) >>= _) _ _ s;refine VY (tupleItemsOf_ b ?_);refine VY (Us j ?_);rw[if_pos (by decide)];refine VY (dS hs pl u ?_)
 have c:((((sIx I.size 0 lo:Nat):Int) == 0 && (1:Int) == 1 && (sIx I.size I.size hi - sIx I.size 0 lo) == I.size)=aT):=by
  rw[hw.1,hw.2];simp
 show wpAny _ _ (if (((sIx I.size 0 lo:Nat):Int) == 0 && (1:Int) == 1 && (sIx I.size I.size hi - sIx I.size 0 lo) == I.size)=aT then _ else _) _ _ s;rw[if_pos c];have y:s.TypeIs (.ref t) "tuple" := b.typeIs
 first
  | (refine VY (m:=Builtin.Tuple.tupleIsExact _) ?_
     unfold Builtin.Tuple.tupleIsExact;refine VY (Us y (Ud ?_));rw[if_pos (by decide)];exact VY (Ul (Ud ⟨_,rfl,Ud h⟩)))
end
end HT
namespace L2
open PySem PySem.Spec PyProof.Rows
def qm{s:Shared}{h':Heap}{o:Obj}(h:∀b x,b ∉ [s.heap.objs.size]->(s.heap.push o).get? b=aa x->h'.get? b=aa x):∀b x,s.heap.get? b=aa x->h'.get? b=aa x:=
 λb x e=>h b x (λc=>by rw[Zu.mp c] at e;exact ZS _ (Zp e)) (Zg _ e)
section
variable {X:Cx}
abbrev LK(K:WW):R2:=λx y H Q=>∃a b c Y,x = .ref a/\y = .ref b/\SqT K H a c/\SqT K H b Y/\c.length+Y.length<=sizeLine ∧
 (c=[]->Q (.ref b) H)/\(c ≠ []->Y=[]->Q (.ref a) H)/\(c ≠ []->Y ≠ []->∀p,H p=aD->Q (.ref p) (upd H p (.tup (c++Y))))
def Cm:OpR X (Vf .Add) (LK X.K):=by
 intro p s C H x y v u Q I o j h;obtain⟨a,b,n,Y,rfl,rfl,f,hb,z,L,O,J⟩:=h;by_cases c:n=[]
 ·subst c;cases o;cases j;obtain⟨E,r1,q,_⟩:=I.tuple f;obtain⟨g,r2,B,_⟩:=I.tuple hb;cases r1;exact HT.yC q B ⟨.ref b,H,I,rfl,L rfl⟩
 ·exact B7 p s C H _ _ v u Q I o j ⟨a,b,n,Y,rfl,rfl,f,hb,c,z,O c,J c⟩
abbrev Om(K:WW):V->Option Int->Option Int->Hp->VK->Prop:=λx lo hi H Q=>∃a b,x = .ref a/\SqT K H a b ∧
 ((HT.sIx b.length 0 lo=0/\HT.sIx b.length b.length hi=b.length)->Q (.ref a) H) ∧
 (¬ (HT.sIx b.length 0 lo=0/\HT.sIx b.length b.length hi=b.length)->∀p,H p=aD->Q (.ref p) (upd H p (.tup (kN b lo hi))))
def Cn:SlR X (Om X.K):=by
 intro p s u H x v z B lo hi sl Q I q hs pl o h;obtain⟨a,b,rfl,j,C,y⟩:=h;by_cases f:(HT.sIx b.length 0 lo=0/\HT.sIx b.length b.length hi=b.length)
 ·cases q;obtain⟨g,r,n,E⟩:=I.tuple j;have c:g.toArray.size=b.length:=by rw[Zn];exact r.length.symm
  refine⟨"tuple", _,PyProof.Rows.slot_tuple_getitem.lookup,n.typeIs,?_⟩;exact HT.gG n hs pl o (by rw[c];exact f) ⟨.ref a,H,I,rfl,C f⟩
 ·exact GV p s u H _ v z B lo hi sl Q I q hs pl o ⟨a,b,rfl,j,f,y f⟩
def qo:aS X (.builtin "isinstance") (λc H Q=>∃x n t b,c=[x,.ty n]/\TyOf X.K H x t/\W5 X.K t (.type n)=aa b/\Q (.bl b) H):=by
 intro p s o H c U Q I r h;obtain⟨x,n,t,b,rfl,ty,e,q⟩:=h;obtain⟨u,j,rfl,g,f⟩:=uo r;cases f;exact vT I g ty e λT=>⟨.bl b,H,I.tok T,rfl,q⟩
def gZ:∀ {bs:List Bool} {u:List Value},aP (bs.map V.bl) u->u=bs.map Value.bool
 |[],_,.nil=>rfl
 |_::_,_,.cons r t=>by rw[Zx,gZ t];cases r;rfl
def wa(hc:X.calm=aT):aS X (.builtin "all") (λo H Q=>∃ (l:Addr) (bs:List Bool),o=[.ref l]/\SqL X.K H l (bs.map V.bl)/\Q (.bl (bs.all id)) H):=by
 intro j s Z H o U Q I r h;obtain⟨l,bs,rfl,y,q⟩:=h;obtain⟨u,rfl,J⟩:=ca r;cases J;obtain⟨C,B,p,Y⟩:=I.list y;have e:=gZ B;subst e;have g:=p.isList;have f:l < s.heap.objs.size:=by obtain⟨_,e,_⟩:=g;exact Zp e
 refine call_all_walk (Uf g ?_)
 refine⟨s.heap.objs.size,[s.heap.objs.size,l],[s.heap.objs.size],_,_,_,λi=>(bs[i]?).getD aT,rfl,Walks.list (A:=X.A.in1) (I.ok.hd hc) _ l (Zz f) _,
  ⟨⟨_,Zw _ rfl,rfl,rfl⟩,g.push _⟩,λi v s' Q' E' z n=>?_,λO T L=>?_⟩
 ·have c:(bs.map Value.bool)[i]?=aa v:=by simpa using z
  rw[Zl] at c;cases hb:bs[i]? with
  |none=>rw[hb] at c;cases c
  |some b=>
   rw[hb] at c;have E:Value.bool b=v:=Option.some.inj c;subst E;simp only[hb,ZU] at n;exact Ur n
 ·have e:((Zh (bs.map Value.bool).toArray.size).all λi=>(bs[i]?).getD aT)=bs.all id:=by
   rw[Zn,Za,Xw];simp only[ZJ,Z6,id];constructor
   ·intro h b hb;obtain⟨i,hi,rfl⟩:=Xz.mp hb;have:=h i hi
    rwa [gEG hi,ZU] at this
   ·intro h i hi;rw[gEG hi,ZU];exact h _ (ZT hi)
  rw[e];exact⟨.bl (bs.all id),H,I.kept (t':=T) (qm L),rfl,q⟩
def wb(hc:X.calm=aT):aS X (.builtin "any") (λo H Q=>∃ (l:Addr) (bs:List Bool),o=[.ref l]/\SqL X.K H l (bs.map V.bl)/\Q (.bl (bs.any id)) H):=by
 intro j s Z H o U Q I r h;obtain⟨l,bs,rfl,y,q⟩:=h;obtain⟨u,rfl,J⟩:=ca r;cases J;obtain⟨C,B,p,Y⟩:=I.list y;have e:=gZ B;subst e;have g:=p.isList;have f:l < s.heap.objs.size:=by obtain⟨_,e,_⟩:=g;exact Zp e
 refine call_any_walk (Uf g ?_)
 refine⟨s.heap.objs.size,[s.heap.objs.size,l],[s.heap.objs.size],_,_,_,λi=>(bs[i]?).getD aW,rfl,Walks.list (A:=X.A.in1) (I.ok.hd hc) _ l (Zz f) _,
  ⟨⟨_,Zw _ rfl,rfl,rfl⟩,g.push _⟩,λi v s' Q' E' z n=>?_,λO T L=>?_⟩
 ·have c:(bs.map Value.bool)[i]?=aa v:=by simpa using z
  rw[Zl] at c;cases hb:bs[i]? with
  |none=>rw[hb] at c;cases c
  |some b=>
   rw[hb] at c;have E:Value.bool b=v:=Option.some.inj c;subst E;simp only[hb,ZU] at n;exact Ur n
 ·have e:((Zh (bs.map Value.bool).toArray.size).any λi=>(bs[i]?).getD aW)=bs.any id:=by
   rw[Zn,Za,Xw];simp only[Xq,Z6,id];constructor
   ·rintro⟨i,hi,h⟩;rw[gEG hi,ZU] at h;exact⟨_,ZT hi,h⟩
   ·rintro⟨b,hb,h⟩;obtain⟨i,hi,rfl⟩:=Xz.mp hb;exact⟨i,hi,by rw[gEG hi,ZU];exact h⟩
  rw[e];exact⟨.bl (bs.any id),H,I.kept (t':=T) (qm L),rfl,q⟩
def G6:OpR X (Vp .Is) (λx y H Q=>∃b c,x = .bl b/\y = .bl c/\Q (.bl (b == c)) H):=by
 intro p s j H x y v u Q I g f h;obtain⟨b,c,rfl,rfl,q⟩:=h;cases g;cases f;exact is_bool ⟨.bl _,H,I,rfl,q⟩
def wc:OpR X (Vp .IsNot) (λx y H Q=>∃b c,x = .bl b/\y = .bl c/\Q (.bl (b != c)) H):=by
 intro p s j H x y v u Q I g f h;obtain⟨b,c,rfl,rfl,q⟩:=h;cases g;cases f;exact isnot_bool ⟨.bl _,H,I,rfl,q⟩
def kS(hc:X.calm=aT):∀ {p:List (Addr × Obj)} {s:Shared} {C:St} {H:Hp} {Q:VK} {r:Addr} {n:Nat} {t u v:Tok},Inv X p C H s->IsRange s.heap r 0 n 1 t u v->n<=1000->(∀l,H l=aD->Q (.ref l) (upd H l (.lst ((Zh n).map λ(i:Nat)=>V.int i)))) ->
  wpAny (model X.prog X.w) X.A (call (.type "list") [.ref r]) (EP X p C Q) X.xe s:=by
 intro p s C H Q r n t u v I L O q;have z:Builtin.Range.small 0 n 1=aT:=small_one (by lia) (by lia) (by lia) (by lia);refine call_list_range (n:=n) (I.ok.hd hc) L z (by rw[rangeSize_one];split <;> lia) (by lia) λh' T b U hk E h=>?_;refine⟨.ref s.heap.objs.size,_,I.laid (t':=T) (o:=.lst ((Zh n).map λ(i:Nat)=>V.int i)) hk (Zd _) ?_,rfl,q _ (I.hok.fresh (Zd _))⟩;have g:b.size=n:=h.1;refine⟨by rw[Za,ZK];exact Xc (vY O),b.toList,U,?_,by simpa using E⟩
 have go:∀ (m:Nat) (k:Nat) (l:List Value),l.length=m->(∀j x,l[j]?=aa x->∃T,x=Value.int (((k+j:Nat):Nat):Int) T)->aP ((List.range' k m).map λ(i:Nat)=>V.int i) l:=by
  intro m
  induction m with
  |zero=>intro k l f _;cases l with |nil=>exact .nil |cons _ _=>cases f
  |succ m J=>
   intro k l f c;cases l with
   |nil=>cases f
   |cons x l=>
    rw[List.range'_succ,Zx];obtain⟨t,e⟩:=c 0 x rfl;refine .cons ⟨t,by simpa using e⟩ (J (k+1) l (by simpa using f) λj y Y=>?_);obtain⟨t',Z⟩:=c (j+1) y (by simpa using Y);exact⟨t',by rw[Z,show((k+(j+1):Nat):Int)=((k+1+j:Nat):Int) from by lia]⟩
 rw[List.range_eq_range'];refine go n 0 b.toList (by simpa using g) λj x c=>?_;obtain⟨B,e⟩:=h.2 j x (by simpa using c);exact⟨B,by rw[e,show(0:Int)+(j:Nat) * 1=((0+j:Nat):Int) from by lia]⟩
end
end L2
namespace HT
open PySem PyProof.Rows
open AutoSeq1 (wpAny_loadPart')
section
variable {prog:Program} {w:World} {A:Around} {E:Value->Shared->Prop} {s:Shared}
def ki{i:Nat}(h:s.heap.IsTupleIter b t i)(g:s.heap.IsTuple t I)(j:I[i]?=aa x)
  (p:∀h',h'.IsTupleIter b t (i+1)->Heap.SameBut b s.heap h'->Q x { s with heap:=h' }):wpAny (model prog w) A (Builtin.SmallTypes.nextOf (.ref b)) Q E s:=by
 obtain⟨o,c,n,hd⟩:=id h;obtain⟨O,hol,_,q,f⟩:=g;unfold Builtin.SmallTypes.nextOf
 refine VY (wpAny_callSpecial?_slot (name:=Str.ofString "__next__") h.typeIs WN
  (V0 WN h.typeIs WH ?_ (WF _)))
 show wpAny _ _ (field (.ref b) 0 >>= _) _ _ s;refine VY (V4 c hd (x:=.ref t) rfl ?_);show wpAny _ _ (if (Value.ref t == Value.none)=aT then _ else _) _ _ s;rw[if_neg (show ¬ ((Value.ref t == Value.none)=aT) from Zf)];show wpAny _ _ (field (.ref b) 1 >>= _) _ _ s;refine VY (V4 c hd (x:=.int i 0) rfl ?_);show wpAny _ _ (seqItems? (.ref t) >>= _) _ _ s;refine VY (wpAny_seqItems hol f ?_);simp only[Zs,j];refine VY (Uo c hd (by simp) (Ud ⟨x,rfl,Ud (p _ ?_ (Heap.SameBut.update ..))⟩))
 exact⟨_,Z0 _ c (Obj.isFreed_of_fields (Obj.data_mapFields hd _)),(Obj.cls_mapFields ..).trans n,by
  rw[Obj.data_mapFields hd];simp[rawInt]⟩
def kT{i:Nat}(g:A.handled=aD)(h:s.heap.IsTupleIter b t i)(j:s.heap.IsTuple t I)(n:I[i]?=aD)
  (p:∀h' e,Heap.ExtBut b s.heap h'->(∃o,h'.get? e=aa o/\o.cls = .type "StopIteration")->E (.ref e) { s with heap:=h' }):wpAny (model prog w) A (Builtin.SmallTypes.nextOf (.ref b)) Q E s:=by
 obtain⟨o,f,u,hd⟩:=id h;obtain⟨O,hol,_,q,c⟩:=j;unfold Builtin.SmallTypes.nextOf
 refine VY (wpAny_callSpecial?_slot (name:=Str.ofString "__next__") h.typeIs WN
  (V0 WN h.typeIs WH ?_ (WF _)))
 show wpAny _ _ (field (.ref b) 0 >>= _) _ _ s;refine VY (V4 f hd (x:=.ref t) rfl ?_);show wpAny _ _ (if (Value.ref t == Value.none)=aT then _ else _) _ _ s;rw[if_neg (show ¬ ((Value.ref t == Value.none)=aT) from Zf)];show wpAny _ _ (field (.ref b) 1 >>= _) _ _ s;refine VY (V4 f hd (x:=.int i 0) rfl ?_);show wpAny _ _ (seqItems? (.ref t) >>= _) _ _ s;refine VY (wpAny_seqItems hol c ?_);simp only[Zs,n];refine VY (Ul (VY (Uo f hd (by simp) ?_)));show wpAny _ _ (newExc (.type "StopIteration") [] >>= _) _ _ _;refine VY ?_;simp only[newExc,newTuple];refine VY (Ua ?_ (by size_fits));refine VY (m:=Vt _ _) (Ub (a:=Value.none) (by first |rfl |(simp only[Vt];rfl)) ?_);refine Ua ?_ (by size_fits);simp only[raiseNew];refine VY (wpAny_handled ?_)
 first |rw[show A.in1.handled=aD from g] |rw[g]
 refine VY (Ud (wpAny_throw ?_));exact p _ _ (((Heap.SameBut.update ..).extBut.push _).push _) ⟨_,Zw _ rfl,rfl⟩
end
def yD(p:A.handled=aD)(b l:Addr)(g:l ≠ b)(I:Array Value) :
  Draws prog w A b [b,l] I.size (λi v=>I[i]?=aa v) (λi h=>h.IsTupleIter b l i/\h.IsTuple l I) where
 live:=λ_ _ st=>let ⟨o,ho,_⟩:=st.1;⟨o,ho⟩
 frame:=λ_ _ _ st j=>⟨st.1.at λo e=>j b (by simp) o e,let ⟨o,e,r⟩:=st.2;⟨o,j l (by simp) o e,r⟩⟩
 item:=λi s Q E hi st n=>by
  refine ki st.1 st.2 (x:=I[i]) (by simp[hi]) λu f c=>?_;exact n _ u s.toks (by simp[hi]) ⟨f,let ⟨o,e,r⟩:=st.2;⟨o,c.extBut l o g e,r⟩⟩ c
 done:=λs Q E st q=>kT p st.1 st.2 (by simp) q
def qp(l:Addr)(items:Array Value)(n:Nat)(f:Option Addr)(sl:Array (Option Value)) :
  Meets (Builtin.«enumerate.__new__» ⟨[.type "enumerate", .ref l],[]⟩) (λ_ R s=>s.heap.get? l=aa { cls:=.type "tuple", dict:=f,data:=.seq items n,slots:=sl } ∧
   R (.ok (.ret (.ref (s.heap.push { cls:=.type "tuple_iterator", data:=.fields #[.ref l,.int 0 0] }).objs.size)))
    { s with heap:=(s.heap.push { cls:=.type "tuple_iterator", data:=.fields #[.ref l,.int 0 0] }).push { cls:=.type "enumerate", data:=.fields #[.none,.bool aW,.ref s.heap.objs.size,rawInt 0,.none,.none] } }):=
 .of_wp λprog w A R s h=>by
  obtain⟨p,g,d,T,os⟩:=s;obtain⟨b,h⟩:=h;have o:=sub_enumerate;have j:Heap.IsTuple (Shared.heap ⟨p,g,d,T,os⟩) l items:=⟨_,b,rfl,n,rfl⟩
  wp_walk using V7 b
  refine wpAny_stack_any λst=>Ud ?_;split
  ·rename_i c _ _ _ _ _;cases (c == Value.type "enumerate")
   ·wp_walk using V7 b,Ug j
    exact⟨_,rfl,h⟩
   ·wp_walk using V7 b,Ug j
    exact⟨_,rfl,h⟩
  ·wp_walk using V7 b,Ug j
   exact⟨_,rfl,h⟩
def sM(v:IsTup s.heap l I)
  (h:∀h',IsEnum h' (s.heap.objs.size+1) s.heap.objs.size 0 .none->h'.IsTupleIter s.heap.objs.size l 0->h'.objs.size=s.heap.objs.size+2 ->
   (∀b o,s.heap.get? b=aa o->h'.get? b=aa o)->Q (.ref (s.heap.objs.size+1)) { s with heap:=h' }) :
  wpAny (model prog w) A (call (.type "enumerate") [.ref l]) Q E s:=by
 obtain⟨⟨c,g,q,sl⟩,u,f,n,hd⟩:=v;replace f:c = .type "tuple" := f;replace hd:q = .seq I n:=hd;subst f hd
 refine callType_new PySem.F.called_enumerate (by decide) (PySem.F.typeCall_enumerate_1 _) (PySem.F.newCall_enumerate_1 _) (λobj=>PySem.F.args_object_init_2 obj _) PySem.F.entry_enumerate_new
  (qp l I n g sl) ⟨u,?_⟩
 have j:(s.heap.push { cls:=.type "tuple_iterator", data:=.fields #[.ref l,.int 0 0] }).objs.size=s.heap.objs.size+1:=Yn ..;show _/\_;rw[j]
 have p:IsEnum ((s.heap.push { cls:=.type "tuple_iterator", data:=.fields #[.ref l,.int 0 0] }).push
   { cls:=.type "enumerate", data:=.fields #[.none,.bool aW,.ref s.heap.objs.size,rawInt 0,.none,.none] }) (s.heap.objs.size+1) s.heap.objs.size 0 .none:=by
  have:=Zw (s.heap.push { cls:=.type "tuple_iterator", data:=.fields #[.ref l,.int 0 0] })
   (o:={ cls:=.type "enumerate", data:=.fields #[.none,.bool aW,.ref s.heap.objs.size,rawInt 0,.none,.none] }) rfl
  rw[j] at this;exact this
 exact⟨⟨_,p,rfl⟩,h _ p ⟨_,Zg _ (Zw _ rfl),rfl,rfl⟩ (by rw[Yn,j]) λb o x=>Zg _ (Zg _ x)⟩
end HT
namespace L2
open PySem PySem.Spec PyProof.Rows
abbrev Ite(K:WW)(a:Addr)(b:WW->Hp->Addr->List V->Prop):It:=
 ⟨λi H=>∃X x,b K H a X/\X[i]?=aa x,λi H x h=>∃T,H T=aD/\x = .ref T/\∀X v,b K H a X->X[i]?=aa v->h=upd H T (.tup [.int i,v]),λi H=>∃X,b K H a X/\X.length=i⟩
def Inv.turnedLaid{X:Cx}{p:List (Addr × Obj)}{j:St}{H:Hp}{s:Shared}{h':Heap}{T:Addr}{o:HO}{t':Nat}{ch:List Addr}(I:Inv X p j H s)(f:∀b ∈ ch,gF X p H b)
  (k:∀b ob,b ∉ ch->s.heap.get? b=aa ob->h'.get? b=aa ob) (y:s.heap.objs.size<=T) (new:bq X.prog X.w (upd H T o) h' T o):Inv X p j (upd H T o) { s with heap:=h',toks:=t' }:=by
 have fr:=I.hok.fresh y;have neT:∀b ob,s.heap.get? b=aa ob->b ≠ T:=λb ob e=>Zz (ZF (Zp e) y)
 refine I.step (g':=s.gens) (d':=s.drawn) (ch:=ch) (λb hb=>⟨(f b hb).2.2.2.1,(f b hb).2.1,(f b hb).2.2.2.2.1,(f b hb).2.2.2.2.2⟩) (λb ob _ _ h e _=>k b ob h e) (λb ob _ _ h e _=>⟨ob.slots,k b ob h e⟩)
  (λb ob _ e n=>by rw[aC (neT b ob e)];exact n) (λb ob h e=>⟨ob,k b ob h e⟩) (λb B q=>by rw[aC (aU q fr)];exact q) (λb u B q=>by rw[aC (aU q fr)];exact q)
  (λb ps q=>⟨#[],by rw[aC (aU q fr),q];simp⟩) (λm C=>?_) (λb u q=>?_) I.bare
 ·obtain⟨ob,L,J,g,E⟩:=C;exact⟨ob,L,J,k _ ob (λz=>(f _ z).2.1 rfl) g,E⟩
 ·by_cases hb:b=T
  ·subst hb;rw[ba] at q;cases q;exact new
  ·rw[aC hb] at q;refine(I.hok b u q).stay (λc v h Q=>k c v (λz=>?_) Q) (λc q=>by rw[aC (aU q fr)];exact q) λc B q=>by rw[aC (aU q fr)];exact q
   have n:=(f c z).1;rcases h with w |w
   ·rw[w,q] at n;cases n
   ·rw[w] at n;cases n
def Inv.turnedAll{X:Cx}{p:List (Addr × Obj)}{j:St}{H:Hp}{s:Shared}{h':Heap}{t':Nat}{ch:List Addr}(I:Inv X p j H s)(f:∀b ∈ ch,gF X p H b)
  (k:∀b ob,b ∉ ch->s.heap.get? b=aa ob->h'.get? b=aa ob):Inv X p j H { s with heap:=h',toks:=t' }:=by
 refine I.step (g':=s.gens) (d':=s.drawn) (ch:=ch) (λb hb=>⟨(f b hb).2.2.2.1,(f b hb).2.1,(f b hb).2.2.2.2.1,(f b hb).2.2.2.2.2⟩) (λb ob _ _ h e _=>k b ob h e) (λb ob _ _ h e _=>⟨ob.slots,k b ob h e⟩)
  (λb ob _ e n=>n) (λb ob h e=>⟨ob,k b ob h e⟩) (λb o q=>q) (λb u o q=>q)
  (λb ps q=>⟨#[],by rw[q];simp⟩) (λm y=>?_) (λb u q=>?_) I.bare
 ·obtain⟨ob,C,E,g,B⟩:=y;exact⟨ob,C,E,k _ ob (λz=>(f _ z).2.1 rfl) g,B⟩
 ·refine(I.hok b u q).stay (λc v h Q=>k c v (λz=>?_) Q) (λc q=>q) λc o q=>q;have n:=(f c z).1;rcases h with w |w
  ·rw[w,q] at n;cases n
  ·rw[w] at n;cases n
def sN{P:Program}{w:World}{K:WW}{elts:List Expr}{x1:Nat}{tp:Pos}(a e it:Addr)(T:e ≠ it) :
  Turn P w K (.Tuple elts x1 tp) (Ite K a SqL) [e,it] e (λi h=>(∃O,IsEnum h e it i O)/\h.IsListIter it a i) where
 mem:=by simp
 obj:=λi h st b hb=>by
  obtain⟨⟨O,B⟩,o,L,c,d⟩:=st;rcases Zk.mp hb with z |z
  ·subst z;exact⟨_,B,λv z=>by have z':Data.fields _=Data.cell v:=z;cases z'⟩
  ·have z':=Zu.mp z;subst z';exact⟨o,L,λv z=>by rw[d] at z;cases z⟩
 keep:=λi h h' st k=>⟨let ⟨O,B⟩:=st.1;⟨O,k e (by simp) _ B⟩,st.2.at λo L=>k it (by simp) o L⟩
 item:=by
  intro X Z hw hK hc i pins s σ H E I hf st hg;subst Z hw hK;obtain⟨xs,x,hq,hx⟩:=hg;obtain⟨f,rv,p,hz⟩:=I.list hq;obtain⟨u,hu,ru⟩:=rv.get hx;obtain⟨⟨O,B⟩,j⟩:=st;have hL:s.heap.IsList a f.toArray:=p.isList
  have hae:e ≠ a:=λz=>by
   subst z;obtain⟨o,C,hc',n,g⟩:=id hL;rw[B] at C;cases C;have z':Data.fields _=Data.seq f.toArray n:=g;cases z'
  have Y:a ≠ it:=λz=>by
   subst z;obtain⟨o,C,hc',n,g⟩:=id hL;obtain⟨o',Q,c',d'⟩:=id j;rw[Q] at C;cases C;rw[d'] at g;cases g
  have hi:i < f.toArray.size:=by
   have:=(Zb.mp hu).1
   simpa using this
  refine Ui (Draws.list (A:=X.A.in1) (I.ok.hd hc) it a Y f.toArray) B ⟨j,hL⟩ hi T (by simp[T,hae]) λy h' tk Z C hs' hT hsz hk=>?_
  have ey:y=u:=by
   have z:f.toArray[i]?=aa u:=by simpa using hu
   rw[z] at Z;exact(Option.some.inj Z).symm
  subst ey;refine⟨_,rfl,?_⟩;refine V6 C λh2 he2 U=>?_;have J:e < s.heap.objs.size:=Zp B;have hilt:it < s.heap.objs.size:=by obtain⟨o,L,_⟩:=j;exact Zp L
  have hT2:h2.get? s.heap.objs.size=aa { cls:=.type "tuple", data:=.seq #[.int i tk,y] }:=(U.2 _ (YS J)).trans hT;have fresh:=I.hok.fresh (Zd s.heap.objs.size);refine⟨.ref s.heap.objs.size,upd H s.heap.objs.size (.tup [.int i,x]),?_,rfl,⟨_,fresh,rfl,λys v hy hv=>?_⟩,⟨⟨y,by simpa using he2⟩,hs'.1.at λo L=>(U.2 it (Ne.symm T)).trans L⟩,λb hb=>?_⟩
  ·exact I.turnedLaid (t':=tk+1) hf (λb ob hb eb=>(U.2 b λz=>hb (by simp[z])).trans (hk b ob (λz=>hb (by simp[z])) (λz=>hb (by simp[z])) eb)) (Zd _)
    ⟨by show 2<=sizeLine;decide,[.int i tk,y],.cons ⟨tk,rfl⟩ (.cons ru .nil),⟨_,hT2,rfl,_,rfl,rfl⟩⟩
  ·rw[I.list_inj hy hq,hx] at hv;cases hv;rfl
  ·rcases Zk.mp hb with z |z
   ·rw[z,aC (Zz J)];exact(hf e (by simp)).1
   ·rw[Zu.mp z,aC (Zz hilt)];exact(hf it (by simp)).1
 done:=by
  intro X Z hw hK hc i pins s σ H E I hf st hg;subst Z hw hK;obtain⟨xs,hq,hx⟩:=hg;obtain⟨f,rv,p,hz⟩:=I.list hq;obtain⟨⟨O,B⟩,j⟩:=st;have hL:s.heap.IsList a f.toArray:=p.isList
  have Y:a ≠ it:=λz=>by
   subst z;obtain⟨o,C,hc',n,g⟩:=id hL;obtain⟨o',Q,c',d'⟩:=id j;rw[Q] at C;cases C;rw[d'] at g;cases g
  have hn:f.toArray.size=i:=by rw[Zn,<-rv.length,hx]
  subst hn;refine Uh (Draws.list (A:=X.A.in1) (I.ok.hd hc) it a Y f.toArray) B ⟨j,hL⟩ λh' eb=>⟨rfl,?_⟩;exact I.turnedAll (t':=s.toks) hf λb ob hb q=>eb b ob (λz=>hb (by simp[z])) q
 self:=λ_ _ _ _ _ st h=>let ⟨⟨O,B⟩,_⟩:=st;Ue B h
def sO{P:Program}{w:World}{K:WW}{elts:List Expr}{x1:Nat}{tp:Pos}(a e it:Addr)(T:e ≠ it) :
  Turn P w K (.Tuple elts x1 tp) (Ite K a SqT) [e,it] e (λi h=>(∃O,IsEnum h e it i O)/\h.IsTupleIter it a i) where
 mem:=by simp
 obj:=λi h st b hb=>by
  obtain⟨⟨O,B⟩,o,L,c,d⟩:=st;rcases Zk.mp hb with z |z
  ·subst z;exact⟨_,B,λv z=>by have z':Data.fields _=Data.cell v:=z;cases z'⟩
  ·have z':=Zu.mp z;subst z';exact⟨o,L,λv z=>by rw[d] at z;cases z⟩
 keep:=λi h h' st k=>⟨let ⟨O,B⟩:=st.1;⟨O,k e (by simp) _ B⟩,st.2.at λo L=>k it (by simp) o L⟩
 item:=by
  intro X Z hw hK hc i pins s σ H E I hf st hg;subst Z hw hK;obtain⟨xs,x,hq,hx⟩:=hg;obtain⟨f,rv,p,hz⟩:=I.tuple hq;obtain⟨u,hu,ru⟩:=rv.get hx;obtain⟨⟨O,B⟩,j⟩:=st;have hL:s.heap.IsTuple a f.toArray:=p
  have hae:e ≠ a:=λz=>by
   subst z;obtain⟨o,C,hc',n,g⟩:=id hL;rw[B] at C;cases C;have z':Data.fields _=Data.seq f.toArray n:=g;cases z'
  have Y:a ≠ it:=λz=>by
   subst z;obtain⟨o,C,hc',n,g⟩:=id hL;obtain⟨o',Q,c',d'⟩:=id j;rw[Q] at C;cases C;rw[d'] at g;cases g
  have hi:i < f.toArray.size:=by
   have:=(Zb.mp hu).1
   simpa using this
  refine Ui (HT.yD (A:=X.A.in1) (I.ok.hd hc) it a Y f.toArray) B ⟨j,hL⟩ hi T (by simp[T,hae]) λy h' tk Z C hs' hT hsz hk=>?_
  have ey:y=u:=by
   have z:f.toArray[i]?=aa u:=by simpa using hu
   rw[z] at Z;exact(Option.some.inj Z).symm
  subst ey;refine⟨_,rfl,?_⟩;refine V6 C λh2 he2 U=>?_;have J:e < s.heap.objs.size:=Zp B;have hilt:it < s.heap.objs.size:=by obtain⟨o,L,_⟩:=j;exact Zp L
  have hT2:h2.get? s.heap.objs.size=aa { cls:=.type "tuple", data:=.seq #[.int i tk,y] }:=(U.2 _ (YS J)).trans hT;have fresh:=I.hok.fresh (Zd s.heap.objs.size);refine⟨.ref s.heap.objs.size,upd H s.heap.objs.size (.tup [.int i,x]),?_,rfl,⟨_,fresh,rfl,λys v hy hv=>?_⟩,⟨⟨y,by simpa using he2⟩,hs'.1.at λo L=>(U.2 it (Ne.symm T)).trans L⟩,λb hb=>?_⟩
  ·exact I.turnedLaid (t':=tk+1) hf (λb ob hb eb=>(U.2 b λz=>hb (by simp[z])).trans (hk b ob (λz=>hb (by simp[z])) (λz=>hb (by simp[z])) eb)) (Zd _)
    ⟨by show 2<=sizeLine;decide,[.int i tk,y],.cons ⟨tk,rfl⟩ (.cons ru .nil),⟨_,hT2,rfl,_,rfl,rfl⟩⟩
  ·rw[I.tuple_inj hy hq,hx] at hv;cases hv;rfl
  ·rcases Zk.mp hb with z |z
   ·rw[z,aC (Zz J)];exact(hf e (by simp)).1
   ·rw[Zu.mp z,aC (Zz hilt)];exact(hf it (by simp)).1
 done:=by
  intro X Z hw hK hc i pins s σ H E I hf st hg;subst Z hw hK;obtain⟨xs,hq,hx⟩:=hg;obtain⟨f,rv,p,hz⟩:=I.tuple hq;obtain⟨⟨O,B⟩,j⟩:=st;have hL:s.heap.IsTuple a f.toArray:=p
  have Y:a ≠ it:=λz=>by
   subst z;obtain⟨o,C,hc',n,g⟩:=id hL;obtain⟨o',Q,c',d'⟩:=id j;rw[Q] at C;cases C;rw[d'] at g;cases g
  have hn:f.toArray.size=i:=by rw[Zn,<-rv.length,hx]
  subst hn;refine Uh (HT.yD (A:=X.A.in1) (I.ok.hd hc) it a Y f.toArray) B ⟨j,hL⟩ λh' eb=>⟨rfl,?_⟩;exact I.turnedAll (t':=s.toks) hf λb ob hb q=>eb b ob (λz=>hb (by simp[z])) q
 self:=λ_ _ _ _ _ st h=>let ⟨⟨O,B⟩,_⟩:=st;Ue B h
abbrev G7(K:WW)(T:TA):TI:=λb H R=>T b H λv h=>∃a X,v=[.ref a]/\SqL K h a X/\R (Ite K a SqL) h
abbrev LL(K:WW)(T:TA):TI:=λb H R=>T b H λv h=>∃a X,v=[.ref a]/\SqT K h a X/\R (Ite K a SqT) h
section
variable {X:Cx} {elts:List Expr} {x1:Nat} {tp:Pos}
def yE{a:Expr}{T:TA}{p pos:Pos}(U:Gl X "enumerate")(C:X.mg "enumerate" = aD)(y:PA X [a] T)(hs:VP [a] X.env=[(aW,eval a X.env)]:=by rfl):PI X (.Tuple elts x1 tp) (.Call (.Name "enumerate" p) [a] [] pos) (G7 X.K T):=by
 intro c s v H R I h;refine Call_ (gX I U C Wt (Wz (thn (y pos c s v H _ I h) λus f ⟨vs,n,g,r1,Y⟩=>?_) hs rfl));obtain⟨l,xs,e,E,q⟩:=Y;subst e;obtain⟨u,rfl,O⟩:=ca r1;cases O;obtain⟨L,rv,pl,hz⟩:=g.list E;refine call_enumerate_list pl.isList λJ o j B Q=>Ue o ?_;have Z:Inv X c v n { f with heap:=J }:=g.kept (t':=f.toks) Q;have fr:∀b,f.heap.objs.size<=b->gF X c n b:=λb hb=>g.fpOk hb (g.hok.fresh hb);refine⟨_,[f.heap.objs.size+1,f.heap.objs.size],_,_,n,rfl,Z,sN l _ _ (X8 _),⟨⟨_,o⟩,j⟩,λb hb=>?_,q⟩;rcases Zk.mp hb with z |z
 ·rw[z];exact fr _ (Yt _)
 ·rw[Zu.mp z];exact fr _ (Zd _)
def G8{a:Expr}{T:TA}{p pos:Pos}(U:Gl X "enumerate")(C:X.mg "enumerate" = aD)(y:PA X [a] T)(hs:VP [a] X.env=[(aW,eval a X.env)]:=by rfl):PI X (.Tuple elts x1 tp) (.Call (.Name "enumerate" p) [a] [] pos) (LL X.K T):=by
 intro c s v H R I h;refine Call_ (gX I U C Wt (Wz (thn (y pos c s v H _ I h) λus f ⟨vs,n,g,r1,Y⟩=>?_) hs rfl));obtain⟨l,xs,e,E,q⟩:=Y;subst e;obtain⟨u,rfl,O⟩:=ca r1;cases O;obtain⟨L,rv,pl,hz⟩:=g.tuple E;refine HT.sM pl λJ o j B Q=>Ue o ?_;have Z:Inv X c v n { f with heap:=J }:=g.kept (t':=f.toks) Q;have fr:∀b,f.heap.objs.size<=b->gF X c n b:=λb hb=>g.fpOk hb (g.hok.fresh hb);refine⟨_,[f.heap.objs.size+1,f.heap.objs.size],_,_,n,rfl,Z,sO l _ _ (X8 _),⟨⟨_,o⟩,j⟩,λb hb=>?_,q⟩;rcases Zk.mp hb with z |z
 ·rw[z];exact fr _ (Yt _)
 ·rw[Zu.mp z];exact fr _ (Zd _)
end
section
variable {X:Cx}
def qq:aS X (.type "range") (λc H Q=>∃j:Int,c=[.int j]/\∀p,H p=aD->Q (.ref p) (upd H p (.rng 0 j))):=by
 intro f s n H c U Q I r h;obtain⟨j,rfl,q⟩:=h;obtain⟨u,rfl,g⟩:=ca r;obtain⟨t,rfl⟩:=g;exact call_range_1 ⟨.ref s.heap.objs.size,_,I.laid (t':=s.toks+1+1) (o:=.rng 0 j) (λb o e=>Zg _ e) (Zd _) ⟨_,_,_,Zw _ rfl⟩,rfl,q _ (I.hok.fresh (Zd _))⟩
def oU(hc:X.calm=aT):aS X (.type "list") (λb H Q=>∃ (p:Addr) (n:Nat),b=[.ref p]/\H p=aa (.rng 0 n)/\n<=1000/\∀l,H l=aD->Q (.ref l) (upd H l (.lst ((Zh n).map λ(i:Nat)=>V.int i)))):=by
 intro c s o H b U Q I r h;obtain⟨p,n,rfl,f,j,q⟩:=h;obtain⟨u,rfl,g⟩:=ca r;cases g;obtain⟨t,u,v,e⟩:=(show bq X.prog X.w H s.heap p (.rng 0 n) from I.hok p _ f);exact kS hc I e j q
end
section
variable {X:Cx}
abbrev FJ(i j k:Nat)(T:TA):TS:=λD b H=>T b H λc h=>∃v w z,c=[v,w,z]/\D.nx (((b.set i (aa v)).set j (aa w)).set k (aa z)) h
def Co{i j k:Nat}{E C g}(hc:X.calm=aT)(hN:X.N.Nodup)(hi:X.N[i]?=aa x)(hj:X.N[j]?=aa y)(hk:X.N[k]?=aa z)(L:i ≠ j)(J:i ≠ k)(Z:j ≠ k)
  (hx:X.env.scope.names.lookup x=aa .local) (hy:X.env.scope.names.lookup y=aa .local) (hz:X.env.scope.names.lookup z=aa .local) (ha:PA X [a,b,c] ta)
  (hw:VQ [.Tuple [.Name x px,.Name y py,.Name z pz] E pt] (.Tuple [a,b,c] C g) X.env=pure (aa [x,y,z]))
  (hs:VS [.Tuple [.Name x px,.Name y py,.Name z pz] E pt] (.Tuple [a,b,c] C g) pos.line X.env=pure aW:=by rfl) :
  PS X (.Assign [.Tuple [.Name x px,.Name y py,.Name z pz] E pt] (.Tuple [a,b,c] C g) pos) (FJ i j k ta):=by
 intro f s σ H D I h;rw[exec_Assign_arm];refine VY (Uq ?_);rw[hs];refine VY (Ud ?_);rw[if_neg (by decide)];refine VY (Tuple_ (thn (ha _ f s σ H _ I h) λus B ⟨vs,H1,I1,r1,q1⟩=>?_));obtain⟨v,w,z',e1,q1⟩:=q1;subst e1
 obtain⟨u,U,u3,rfl,rv,Y,rz⟩:∃u U u3,us=[u,U,u3]/\aI v u/\aI w U/\aI z' u3:=by
  cases r1 with
  |cons p q=>
   cases q with
   |cons p' q'=>
    cases q' with
    |cons O Q=>
     cases Q;exact⟨_,_,_,rfl,p,p',O⟩
 refine Ua ?_ (by show 3<=sizeLine;decide);have I2:Inv X f σ H1 { B with heap:=B.heap.push { cls:=.type "tuple", data:=.seq [u,U,u3].toArray } }:=I1.kept (t':=B.toks) λb o e=>Zg _ e;rw[hw];refine VY (Ud ?_);show wpAny (model X.prog X.w) X.A (do rule "assign.swapped-stores"; let n <-unpackItems (.ref B.heap.objs.size) 3 aD;Vc [λv=>Vg X.env z v,λv=>Vg X.env y v,λv=>Vg X.env x v] n.reverse;pure Flow.next) _ _ _;refine VY (Ul (VY (unpackItems_tuple (items:=#[u,U,u3]) (I.ok.hd hc) (IsTup.new B.heap _) λh' T=>?_)));have I3:=I2.kept (h':=h') (t':=B.toks) λb o e=>T b o (Zz (Zp e)) e;show wpAny _ _ (Vc [λv=>Vg X.env z v,λv=>Vg X.env y v,λv=>Vg X.env x v] [u3,U,u] >>= λ_=>pure Flow.next) _ _ _;refine VY (assignInOrder_cons (VZ (cH I3 hN hk (.inl hz) rz (λs2 I4=>?_) (.inr hz))));refine assignInOrder_cons (VZ (cH I4 hN hj (.inl hy) Y (λs3 I5=>?_) (.inr hy)));refine assignInOrder_cons (VZ (cH I5 hN hi (.inl hx) rv (λs4 I6=>assignInOrder_nil (Ud ?_)) (.inr hx)));refine⟨_,H1,?_,q1⟩;rw[Xn _ _ (Ne.symm Z),Xn _ _ (Ne.symm J),Xn (aa w) (aa v) (Ne.symm L)] at I6;exact I6
end
abbrev jg:List Str->Bool
 |[]=>aT
 |x::r=>!r.contains x && jg r
def iG:∀ {l:List Str},jg l=aT->l.Nodup
 |[],_=>List.nodup_nil
 |x::r,h=>by
  unfold jg at h;rw[bAE] at h;refine YL.mpr ⟨λm=>?_,iG h.2⟩;have:=h.1;simp[m] at this
abbrev cmB(own:List Str)(hs:List Nat)(N:List Str)(b sc:Scope):Bool:=
 (b.kind == .function) && jg (cI hs N++own) && jg (b.names.map (·.1)) && ((cI hs N).all λx=>b.names.lookup x != aa .local && b.names.lookup x != aa .cell) &&
 (b.names.all λy=>y.2 != .free || (sc.names.lookup y.1 == aa .cell || sc.names.lookup y.1 == aa .free)) && hs.all λi=>(b.names.lookup (yr i)).isNone
def sP(hs:List Nat)(h:cmB own hs N b sc=aT):CmScope own hs N b sc:=by
 unfold cmB at h;simp only[bAE,ZJ] at h;obtain⟨⟨⟨⟨⟨p,g⟩,f⟩,h4⟩,q⟩,c⟩:=h;refine⟨by simpa using p,iG g,iG f,λx o=>?_,λy n j=>?_,λi hi=>by simpa using c i hi⟩
 ·have:=h4 x o
  simpa using this
 ·have:=q y n;rw[j] at this
  simpa using this
section
variable {X:Cx} {tg l a:Expr} {tl:TE} {ta:TA} {es:List Expr} {t:TGs} {p pos:Pos} {n k:Nat} {elts:List Expr} {x1:Nat} {tp:Pos} {o e:Expr} {to:TE} {tt:TA} {name:Str} {apos cpos:Pos}
abbrev FK(K:WW):List V->Hp->VK->Prop:=λc H Q=>∃x n t b,c=[x,.ty n]/\TyOf K H x t/\W5 K t (.type n)=aa b/\Q (.bl b) H
def oV(K:WW)(h:X.K=K:=by rfl):aS X (.builtin "isinstance") (FK K):=h ▸ qo
end
def kU:∀ {X:List V} {U:List Value},aP X U->X.all dU=aT->U.countP (eqU x)=X.countP λy=>eqV y x
 |_,_,.nil,_=>rfl
 |y::X,u::U,.cons r t,f=>by
  rw[Yl,bAE] at f;rw[Y3,Y3,sK r f.1,kU t f.2]
section
variable {X:Cx}
abbrev Cp(K:WW):V->List V->Hp->VK->Prop:=λx v H Q=>∃p b y,x = .ref p/\v=[y]/\SqT K H p b/\dU y=aT/\b.all dU=aT/\Q (.int ((b.countP λz=>eqV z y:Nat):Int)) H
def wg(K:WW)(O:X.K=K:=by rfl):MtR X "tuple.count" (Cp K):=by
 subst O;intro f s σ H x vs v Y Q I U o h;obtain⟨p,T,y,rfl,rfl,j,L,fs,q⟩:=h;cases U;obtain⟨u,rfl,E⟩:=o.one;obtain⟨b,r,⟨⟨C,B,c,sl⟩,e,g,n,hd⟩,Z⟩:=I.tuple j;simp only at g hd;subst g hd;refine Vk WM ⟨_,e,rfl⟩ F.entry_tuple_count (F.args_tuple_count_2 _ _) (SeqAt.tuple_countAt p b.toArray n B sl u (eqU y)) ⟨e,λw J=>dW E L r fs w (by simpa using J),?_⟩;refine⟨.int _,H,I.tok _,⟨_,rfl⟩,?_⟩
 have z:(b.toArray.toList.countP (eqU y))=T.countP λz=>eqV z y:=by
  rw[List.toList_toArray];exact kU r fs
 rw[z];exact q
end
end L2
namespace Dw
open PySem PySem.Spec PyProof.Rows L2
def nq{b:Type}(n:Nat)(f:Nat->List b):(Zh (n+1)).flatMap f=(Zh n).flatMap f++f n:=by
 rw[Ys,XG];simp
def uy{b:Type}{n m:Nat}{f:Nat->List b}(h:∀i,i < n->(f i).length<=m):((Zh n).flatMap f).length<=n * m:=by
 induction n with
 |zero=>simp
 |succ n I=>
  rw[nq,Zi];have:=I λi hi=>h i (by omega);have:=h n (by omega);rw[Wq];omega
abbrev gH(b:List D)(lo hi:Option Int):List D:=(b.drop (HT.sIx b.length 0 lo)).take (HT.sIx b.length b.length hi - HT.sIx b.length 0 lo)
def G9(n:Nat)(a:Int)(h:0<=a):HT.sIx n 0 (aa a)=min a.toNat n:=by
 show(if a < 0 then (a+(n:Int)).toNat else min a.toNat n)=_;rw[if_neg (by omega)]
def yF(n:Nat)(a:Int)(h:0<=a):HT.sIx n n (aa a)=min a.toNat n:=by
 show(if a < 0 then (a+(n:Int)).toNat else min a.toNat n)=_;rw[if_neg (by omega)]
abbrev mg2(M:List (List Int))(i j:Nat):Int:=(((M[i]?).getD [])[j]?).getD 0
structure Mat(n:Nat)(M:List (List Int)):Prop where
 len:M.length=n
 row:∀r ∈ M,r.length=n
 ent:∀r ∈ M,∀x ∈ r,1<=x/\x<=99
def Mat.at{n:Nat}(h:Mat n M){i j:Nat}(hi:i < n)(o:j < n):∃r,M[i]?=aa r/\r.length=n/\r[j]?=aa (mg2 M i j)/\1<=mg2 M i j/\mg2 M i j<=99:=by
 have b:i < M.length:=by rw[h.len];exact hi
 have E:M[i]?=aa M[i]:=gEG b;have f:=h.row _ (ZT b);have c:j < M[i].length:=by omega
 have g:mg2 M i j=M[i][j]:=by unfold mg2;rw[E,ZU,gEG c,ZU]
 have:=h.ent _ (ZT b) _ (ZT c);exact⟨M[i],E,f,by rw[g,gEG c],by omega,by omega⟩
abbrev nr(n k:Nat)(M:List (List Int)):Prop:=∀a b q,a < n->b < n->q < k->mg2 M a b<=mg2 M a q+mg2 M q b
def yG{n k:Nat}(h:Mat n M)(f:k < n)(u:nr n k M)(p:∀i j,i < n->j < n->mg2 M' i j=min (mg2 M i j) (mg2 M i k+mg2 M k j)):nr n (k+1) M':=by
 intro a b q g hb y;have c:q < n:=by omega
 obtain⟨_,_,_,_,E,_⟩:=h.at g hb;obtain⟨_,_,_,_,J,_⟩:=h.at g f;obtain⟨_,_,_,_,B,_⟩:=h.at f hb;obtain⟨_,_,_,_,O,_⟩:=h.at f f;obtain⟨_,_,_,_,Q,_⟩:=h.at g c;obtain⟨_,_,_,_,I,_⟩:=h.at c hb;obtain⟨_,_,_,_,L,_⟩:=h.at f c;obtain⟨_,_,_,_,v,_⟩:=h.at c f;rw[p a b g hb,p a q g c,p q b c hb];by_cases e:q=k
 ·subst e;omega
 ·have o:q < k:=by omega
  have z:=u a b q g hb o;have C:=u k b q f hb o;have T:=u a k q g f o;omega
abbrev bv(M:List (List Int))(n c i:Nat):List Int:=(Zh n).map λj=>if mg2 M i c+mg2 M c j < mg2 M i j then mg2 M i c+mg2 M c j else mg2 M i j
def kW(M:List (List Int))(n c i:Nat):(bv M n c i).length=n:=by unfold bv;rw[Za,ZK]
def qr(M:List (List Int)){n c i j:Nat}(h:j < n):(bv M n c i)[j]?=aa (if mg2 M i c+mg2 M c j < mg2 M i j then mg2 M i c+mg2 M c j else mg2 M i j):=by
 unfold bv;rw[Zl,Yj h];rfl
def Cq{n c:Nat}(h:Mat n M)(hc:c < n):∀i j,i < n->j < n->mg2 ((Zh n).map (bv M n c)) i j=min (mg2 M i j) (mg2 M i c+mg2 M c j):=λi j hi b=>by
 have e:mg2 ((Zh n).map (bv M n c)) i j=if mg2 M i c+mg2 M c j < mg2 M i j then mg2 M i c+mg2 M c j else mg2 M i j:=by
  show((((Zh n).map (bv M n c))[i]?.getD [])[j]?).getD 0=_;rw[Zl,Yj hi];show((bv M n c i)[j]?).getD 0=_;rw[qr M b];rfl
 rw[e];split <;> omega
def yH{n c:Nat}(h:Mat n M)(hc:c < n):Mat n ((Zh n).map (bv M n c)):=by
 refine⟨by rw[Za,ZK],λr b=>?_,λr b x o=>?_⟩
 ·obtain⟨u,_,rfl⟩:=ZA.mp b;exact kW M n c u
 ·obtain⟨u,f,rfl⟩:=ZA.mp b;rw[Z6] at f;unfold bv at o;obtain⟨j,g,rfl⟩:=ZA.mp o;rw[Z6] at g;obtain⟨_,_,_,_,v,Q⟩:=h.at f g;obtain⟨_,_,_,_,q,z⟩:=h.at f hc;obtain⟨_,_,_,_,p,y⟩:=h.at hc g;split <;> omega
def cb:∀ (n:Nat) (l:List Int),l.Nodup->(∀x ∈ l,0<=x/\x < (n:Int))->l.length<=n
 |0,l,_,h=>by
  cases l with
  |nil=>exact Zd _
  |cons x l=>have:=h x Zj;lia
 |n+1,l,nd,h=>by
  by_cases c:(n:Int) ∈ l
  ·have I:=cb n (l.erase n) (nd.erase _) λx b=>by
    have g:=h x (List.mem_of_mem_erase b);have f:x ≠ (n:Int):=λe=>(List.Nodup.not_mem_erase nd) (e ▸ b)
    lia
   rw[List.length_erase_of_mem c] at I;have:=List.length_pos_of_mem c
   lia
  ·have I:=cb n l nd λx b=>by
    have g:=h x b;have f:x ≠ (n:Int):=λe=>c (e ▸ b)
    lia
   lia
end Dw
namespace Ev
open PySem PySem.Spec PyProof.Rows L2
inductive D where
 |non |bl (b:Bool) |int (i:Int) |str (x:Str) |tup (ds:List D) |ref (n:Nat)
inductive Ob where
 |lst (ds:List D) |frz (ds:List D) |dic (ks:List Key) (ds:List D)
@[inline]abbrev Sto:=List Ob
@[inline]abbrev Rho:=List (Option D)
mutual
noncomputable def VD(K:WW)(m:List Addr)(H:Hp):D->V->Prop
 |.non,v=>v = .non
 |.bl b,v=>v = .bl b
 |.int i,v=>v = .int i
 |.str x,v=>v = .str x
 |.tup ds,v=>∃a X,v = .ref a/\H a=aa (.tup X)/\VDs K m H ds X
 |.ref n,v=>∃a,m[n]?=aa a/\v = .ref a
noncomputable def VDs(K:WW)(m:List Addr)(H:Hp):List D->List V->Prop
 |[],xs=>xs=[]
 |d::ds,xs=>∃x r,xs=x::r/\VD K m H d x/\VDs K m H ds r
end
structure Ext(m:List Addr)(H:Hp)(m':List Addr)(H':Hp):Prop where
 pre:m <+: m'
 keep:∀a o,H a=aa o->a ∉ m->H' a=aa o
 new:∀a,a ∈ m'->a ∉ m->H a=aD
abbrev ObR(K:WW)(m:List Addr)(H:Hp)(a:Addr):Ob->Prop
 |.lst ds=>∃v,H a=aa (.lst v)/\VDs K m H ds v
 |.frz ds=>∃o v,H a=aa (.frz o (.lst v))/\VDs K m H ds v
 |.dic ks ds=>∃v,H a=aa (.dK (ks.zip v))/\ks.length=ds.length/\VDs K m H ds v
structure Rel(K:WW)(m:List Addr)(S:Sto)(H:Hp):Prop where
 len:m.length=S.length
 nd:m.Nodup
 ob:∀ (i:Nat) (o:Ob),S[i]?=aa o->∃a,m[i]?=aa a/\ObR K m H a o
structure EnvR(K:WW)(m:List Addr)(H:Hp)(ρ:Rho)(σ:L2.St):Prop where
 len:ρ.length=σ.length
 at_:∀ (i:Nat) (d:D),ρ[i]?=aa (aa d)->∃v,σ[i]?=aa (aa v)/\VD K m H d v
def Ext.refl(m:List Addr)(H:Hp):Ext m H m H:=⟨Yv m,λ_ _ h _=>h,λ_ h n=>absurd h n⟩
def Ext.trans(x:Ext m H m1 g)(y:Ext m1 g f H2):Ext m H f H2:=by
 refine⟨x.pre.trans y.pre,λa o h n=>?_,λa h n=>?_⟩
 ·have c:a ∉ m1:=λz=>by have:=x.new a z n;rw[this] at h;cases h
  exact y.keep a o (x.keep a o h n) c
 ·by_cases b:a ∈ m1
  ·exact x.new a b n
  ·cases e:H a with
   |none=>rfl
   |some o=>
    have:=x.keep a o e n;rw[y.new a h b] at this;cases this
section
variable {K:WW} {m m':List Addr} {S S':Sto} {H H':Hp} {a:Addr}
def Rel.ex(R:Rel K m S H)(j:a ∈ m):∃o ob,H a=aa o/\ObR K m H a ob:=by
 obtain⟨i,hi,e⟩:=List.getElem_of_mem j;have f:i < S.length:=by rw[<-R.len];exact hi
 obtain⟨b,hb,r⟩:=R.ob i S[i] (gEG f);have:b=a:=by rw[gEG hi] at hb;rw[<-e];exact(Option.some.inj hb).symm
 subst this;cases g:S[i] with
 |lst c=>rw[g] at r;obtain⟨v,h,q⟩:=r;exact⟨_,.lst c,h,v,h,q⟩
 |frz c=>rw[g] at r;obtain⟨o,v,h,q⟩:=r;exact⟨_,.frz c,h,o,v,h,q⟩
 |dic n c=>rw[g] at r;obtain⟨v,h,q⟩:=r;exact⟨_,.dic n c,h,v,h,q⟩
def Rel.no(R:Rel K m S H)(h:H a=aD):a ∉ m:=λz=>by
 obtain⟨o,_,e,_⟩:=R.ex z;rw[h] at e;cases e
def Rel.notTup(R:Rel K m S H)(h:H a=aa (.tup X)):a ∉ m:=λz=>by
 obtain⟨o,ob,e,r⟩:=R.ex z;cases ob with
 |lst b=>obtain⟨v,q,_⟩:=r;rw[q] at h;cases h
 |frz b=>obtain⟨o,v,q,_⟩:=r;rw[q] at h;cases h
 |dic c b=>obtain⟨v,q,_⟩:=r;rw[q] at h;cases h
def Tup.ext(R:Rel K m S H)(x:Ext m H m' H')(h:H a=aa (.tup X)):H' a=aa (.tup X):=x.keep _ _ h (R.notTup h)
def cX{i:Nat}(h:m <+: m')(e:m[i]?=aa a):m'[i]?=aa a:=by
 obtain⟨t,rfl⟩:=h;have hi:i < m.length:=(Zb.mp e).1;rw[Zt hi];exact e
mutual
theorem VD.mono0(pre:m <+: m')(T:∀a X,H a=aa (.tup X)->H' a=aa (.tup X)):∀ {d:D} {v:V},VD K m H d v->VD K m' H' d v
 |.non,v,h=>by rw[VD] at h ⊢;exact h
 |.bl _,v,h=>by rw[VD] at h ⊢;exact h
 |.int _,v,h=>by rw[VD] at h ⊢;exact h
 |.str _,v,h=>by rw[VD] at h ⊢;exact h
 |.tup ds,v,h=>by
  rw[VD] at h ⊢;obtain⟨a,X,e,q,r⟩:=h;exact⟨a,X,e,T a X q,VDs.mono0 pre T r⟩
 |.ref n,v,h=>by
  rw[VD] at h ⊢;obtain⟨a,q,e⟩:=h;exact⟨a,cX pre q,e⟩
theorem VDs.mono0(pre:m <+: m')(T:∀a X,H a=aa (.tup X)->H' a=aa (.tup X)):∀ {b:List D} {v:List V},VDs K m H b v->VDs K m' H' b v
 |[],v,h=>by rw[VDs] at h ⊢;exact h
 |d::b,v,h=>by
  rw[VDs] at h ⊢;obtain⟨y,r,e,p,q⟩:=h;exact⟨y,r,e,VD.mono0 pre T p,VDs.mono0 pre T q⟩
end
def VD.mono(R:Rel K m S H)(x:Ext m H m' H')(h:VD K m H d v):VD K m' H' d v:=VD.mono0 x.pre (λ_ _=>Tup.ext R x) h
def VDs.mono(R:Rel K m S H)(x:Ext m H m' H')(h:VDs K m H b vs):VDs K m' H' b vs:=VDs.mono0 x.pre (λ_ _=>Tup.ext R x) h
def EnvR.mono(R:Rel K m S H)(x:Ext m H m' H')(h:EnvR K m H b σ):EnvR K m' H' b σ:=
 ⟨h.len,λi d e=>let ⟨v,p,q⟩:=h.at_ i d e;⟨v,p,VD.mono R x q⟩⟩
def VDs.length:∀ {b:List D} {v:List V},VDs K m H b v->b.length=v.length
 |[],v,h=>by rw[VDs] at h;rw[h];rfl
 |d::b,v,h=>by
  rw[VDs] at h;obtain⟨y,r,e,_,q⟩:=h;rw[e,ZD,ZD,VDs.length q]
def VDs.nil:VDs K m H [] []:=by rw[VDs]
def VDs.cons(h:VD K m H d v)(t:VDs K m H c b):VDs K m H (d::c) (v::b):=by rw[VDs];exact⟨v,b,rfl,h,t⟩
def VDs.get:∀ {b:List D} {c:List V} {i:Nat} {d:D},VDs K m H b c->b[i]?=aa d->∃v,c[i]?=aa v/\VD K m H d v
 |[],_,_,_,_,e=>by simp at e
 |d::b,c,0,d',h,e=>by
  rw[VDs] at h;obtain⟨y,r,rfl,p,q⟩:=h;simp at e;subst e;exact⟨y,rfl,p⟩
 |d::b,c,i+1,d',h,e=>by
  rw[VDs] at h;obtain⟨y,r,rfl,p,q⟩:=h;obtain⟨v,g,f⟩:=VDs.get (i:=i) q (by simpa using e);exact⟨v,by simpa using g,f⟩
def VDs.append:∀ {b E:List D} {v c:List V},VDs K m H b v->VDs K m H E c->VDs K m H (b++E) (v++c)
 |[],_,v,_,h,t=>by rw[VDs] at h;subst h;exact t
 |d::b,E,v,c,h,t=>by
  rw[VDs] at h;obtain⟨y,r,rfl,p,q⟩:=h;exact .cons p (VDs.append q t)
def VDs.drop:∀ {b:List D} {v:List V} (n:Nat),VDs K m H b v->VDs K m H (b.drop n) (v.drop n)
 |b,v,0,h=>h
 |[],v,n+1,h=>by rw[VDs] at h;subst h;exact .nil
 |d::b,v,n+1,h=>by
  rw[VDs] at h;obtain⟨y,r,rfl,p,q⟩:=h;exact VDs.drop n q
def VDs.take:∀ {b:List D} {v:List V} (n:Nat),VDs K m H b v->VDs K m H (b.take n) (v.take n)
 |b,v,0,h=>by simp only[Wk];exact .nil
 |[],v,n+1,h=>by rw[VDs] at h;subst h;exact .nil
 |d::b,v,n+1,h=>by
  rw[VDs] at h;obtain⟨y,r,rfl,p,q⟩:=h;exact .cons p (VDs.take n q)
def VDs.set:∀ {c:List D} {b:List V} {i:Nat} {d:D} {v:V},VDs K m H c b->VD K m H d v->VDs K m H (c.set i d) (b.set i v)
 |[],b,_,_,_,h,_=>by rw[VDs] at h;subst h;exact .nil
 |_::c,b,0,d,v,h,p=>by
  rw[VDs] at h;obtain⟨y,r,rfl,_,q⟩:=h;exact .cons p q
 |_::c,b,i+1,d,v,h,p=>by
  rw[VDs] at h;obtain⟨y,r,rfl,f,q⟩:=h;exact .cons f (VDs.set q p)
def Ext.beside(R:Rel K m S H)(h:H a=aD)(o:HO):Ext m H m (upd H a o):=
 ⟨Yv m,λb u e _=>by rw[aC (aU e h)];exact e,λb z n=>absurd z n⟩
def Rel.ext_keep(R:Rel K m S H)(x:Ext m H m H')(k:∀b ∈ m,H' b=H b):Rel K m S H':=by
 refine⟨R.len,R.nd,λi o e=>?_⟩;obtain⟨b,hb,r⟩:=R.ob i o e;have h:b ∈ m:=Ze hb;refine⟨b,hb,?_⟩;cases o with
 |lst c=>obtain⟨v,p,q⟩:=r;exact⟨v,(k b h).trans p,VDs.mono R x q⟩
 |frz c=>obtain⟨o,v,p,q⟩:=r;exact⟨o,v,(k b h).trans p,VDs.mono R x q⟩
 |dic f c=>obtain⟨v,p,l,q⟩:=r;exact⟨v,(k b h).trans p,l,VDs.mono R x q⟩
def Rel.beside(R:Rel K m S H)(h:H a=aD)(o:HO):Rel K m S (upd H a o):=
 R.ext_keep (Ext.beside R h o) λb hb=>aC λz=>R.no h (z ▸ hb)
def Rel.adopt(R:Rel K m S H)(n:a ∉ m)(h:H a=aa (.lst v))(q:VDs K m H c v):Rel K (m++[a]) (S++[.lst c]) H:=by
 have p:=YW m [a];have g:∀ {E:List D} {ws:List V},VDs K m H E ws->VDs K (m++[a]) H E ws:=λz=>VDs.mono0 p (λ_ _ t=>t) z;refine⟨by simp[R.len],XZ.mpr ⟨R.nd,by simp,λx B y f=>by simp at f;subst f;exactλz=>n (z ▸ B)⟩,λi o e=>?_⟩;by_cases hi:i < S.length
 ·rw[Zt hi] at e;obtain⟨b,hb,r⟩:=R.ob i o e;refine⟨b,cX p hb,?_⟩;cases o with
  |lst c=>obtain⟨v,p,q⟩:=r;exact⟨v,p,g q⟩
  |frz c=>obtain⟨o,v,p,q⟩:=r;exact⟨o,v,p,g q⟩
  |dic C c=>obtain⟨v,p,l,q⟩:=r;exact⟨v,p,l,g q⟩
 ·rw[Zo (by lia)] at e
  have j:i - S.length=0:=by
   have:=(Zb.mp e).1;simp at this;lia
  rw[j] at e;have u:Ob.lst c=o:=by simpa using e
  subst u;refine⟨a,?_,v,h,g q⟩;rw[Zo (by rw[R.len];lia),R.len,j];rfl
def Ext.adopt(x:Ext m H m H')(h:H a=aD):Ext m H (m++[a]) H':=
 ⟨YW m [a],x.keep,λb hb nb=>by
  rcases ZM.mp hb with z |z
  ·exact absurd z nb
  ·simp at z;subst z;exact h⟩
def Rel.writeO(R:Rel K m S H){i:Nat}(hi:m[i]?=aa a)(u:HO)(ob:Ob)(q:Ext m H m (upd H a u)->ObR K m (upd H a u) a ob):Ext m H m (upd H a u)/\Rel K m (S.set i ob) (upd H a u):=by
 have v:a ∈ m:=Ze hi;have x:Ext m H m (upd H a u):=⟨Yv m,λb w e n=>by rw[aC (show b ≠ a fromλz=>n (by rw[z];exact v))];exact e,λb z n=>absurd z n⟩;refine⟨x,by simp[R.len],R.nd,λj o e=>?_⟩;rw[YN] at e;by_cases h:i=j
 ·subst h;rw[if_pos rfl] at e;split at e
  ·have f:=Option.some.inj e;subst f;exact⟨a,hi,q x⟩
  ·cases e
 ·rw[if_neg h] at e;obtain⟨b,hb,r⟩:=R.ob j o e
  have ne:b ≠ a:=λz=>by
   subst z;have y:=Zb.mp hi;have g:=Zb.mp hb;exact h ((Xp R.nd).mp (y.2.trans g.2.symm))
  refine⟨b,hb,?_⟩;cases o with
  |lst E=>obtain⟨c,p,q⟩:=r;exact⟨c,by rw[aC ne];exact p,VDs.mono R x q⟩
  |frz E=>obtain⟨o,c,p,q⟩:=r;exact⟨o,c,by rw[aC ne];exact p,VDs.mono R x q⟩
  |dic B E=>obtain⟨c,p,l,q⟩:=r;exact⟨c,by rw[aC ne];exact p,l,VDs.mono R x q⟩
def Rel.write(R:Rel K m S H){i:Nat}(hi:m[i]?=aa a)(q:VDs K m H b v):Ext m H m (upd H a (.lst v))/\Rel K m (S.set i (.lst b)) (upd H a (.lst v)):=
 R.writeO hi (.lst v) (.lst b) λx=>⟨v,ba,VDs.mono R x q⟩
def Rel.lst(R:Rel K m S H){i:Nat}(e:S[i]?=aa (.lst b)):∃a vs,m[i]?=aa a/\H a=aa (.lst vs)/\VDs K m H b vs:=by
 obtain⟨a,h,vs,p,q⟩:=R.ob i _ e;exact⟨a,vs,h,p,q⟩
end
abbrev aH(S:Sto)(n:Nat):Option (List D):=match S[n]? with
 |some (.lst ds)=>aa ds
 |some (.frz ds)=>aa ds
 |_=>aD
def Rel.seq{K:WW}{m:List Addr}{S:Sto}{H:Hp}(R:Rel K m S H){i:Nat}{c:List D}(e:aH S i=aa c):∃a vs,m[i]?=aa a/\SqL K H a vs/\VDs K m H c vs:=by
 unfold aH at e;cases h:S[i]? with
 |none=>rw[h] at e;cases e
 |some o=>
  rw[h] at e;cases o with
  |lst E=>cases e;obtain⟨a,b,vs,p,q⟩:=R.ob i _ h;exact⟨a,vs,b,.inl (.inl p),q⟩
  |frz E=>cases e;obtain⟨a,b,o,vs,p,q⟩:=R.ob i _ h;exact⟨a,vs,b,.inl (.inr ⟨o,p⟩),q⟩
  |dic f E=>cases e
@[inline]abbrev XE:=Rho->Sto->Option (D × Sto)
@[inline]abbrev XT:=Rho->Sto->Option (Bool × Sto)
@[inline]abbrev XA:=Rho->Sto->Option (List D × Sto)
abbrev bnd{b c:Type}(x:Option (b × Sto))(f:b->Sto->Option (c × Sto)):Option (c × Sto):=match x with
 |none=>aD
 |some (a,S)=>f a S
def ag{b c:Type}{x:Option (b × Sto)}{f:b->Sto->Option (c × Sto)}{r:c × Sto}(h:bnd x f=aa r):∃a S,x=aa (a,S)/\f a S=aa r:=by
 unfold bnd at h;cases x with
 |none=>cases h
 |some p=>exact⟨p.1,p.2,rfl,h⟩
structure Aft(K:WW)(m:List Addr)(H:Hp)(S':Sto)(m':List Addr)(H':Hp):Prop where
 ext:Ext m H m' H'
 rel:Rel K m' S' H'
abbrev tE(K:WW)(x:XE):TE:=λg H Q=>∃m c S d f,EnvR K m H c g/\Rel K m S H/\x c S=aa (d,f)/\∀b h v,Aft K m H f b h->VD K b h d v->Q v h
abbrev tT(K:WW)(x:XT):TT:=λj H Q=>∃m c S b f,EnvR K m H c j/\Rel K m S H/\x c S=aa (b,f)/\∀g h,Aft K m H f g h->Q b h
abbrev tAr(K:WW)(x:XA):TA:=λj H Q=>∃m f S b g,EnvR K m H f j/\Rel K m S H/\x f S=aa (b,g)/\∀c h v,Aft K m H g c h->VDs K c h b v->Q v h
abbrev SqB(K:WW)(T:Bool)(H:Hp)(a:Addr)(v:List V):Prop:=if T=aT then H a=aa (.tup v) else SqL K H a v
abbrev dY(K:WW)(x:XA):TE:=λn H Q=>∃m g S f j,EnvR K m H g n/\Rel K m S H/\x g S=aa (f,j)/\∀c h a v,Aft K m H j c h->h a=aa (.lst v)->a ∉ c->(∀b,b ∈ m->b ≠ a)->H a=aD->VDs K c h f v->Q (.ref a) h
section
variable {X:Cx} {e:Expr} {K:WW} {m m1 m2:List Addr} {H H1 H2:Hp} {S S1 S2:Sto}
def PE.imp(h:PE X e t)(f:∀b H Q,t' b H Q->t b H Q):PE X e t':=λp s b H Q I q=>h p s b H Q I (f b H Q q)
def PT.imp(h:PT X e t)(f:∀b H Q,t' b H Q->t b H Q):PT X e t':=λp s b H Q I q=>h p s b H Q I (f b H Q q)
def PA.imp(h:PA X E t)(f:∀b H Q,t' b H Q->t b H Q):PA X E t':=λp c s b H Q I q=>h p c s b H Q I (f b H Q q)
def PS.imp{st:Stmt}{t t':TS}(h:PS X st t)(f:∀D b H,t' D b H->t D b H):PS X st t':=λp s b H D I q=>h p s b H D I (f D b H q)
def PSs.imp{st:List Stmt}{t t':TS}(h:PSs X st t)(f:∀D b H,t' D b H->t D b H):PSs X st t':=λp s b H D I q=>h p s b H D I (f D b H q)
def PI.imp(h:PI X T c t)(f:∀b H Q,t' b H Q->t b H Q):PI X T c t':=λp s b H Q I q=>h p s b H Q I (f b H Q q)
def PI.or(h:PI X T c t)(h':PI X T c t'):PI X T c (λb H Q=>t b H Q\/t' b H Q):=λp s b H Q I q=>q.elim (h p s b H Q I) (h' p s b H Q I)
def OpR.imp(h:OpR X f r)(g:∀x y H Q,r' x y H Q->r x y H Q):OpR X f r':=λp s b H x y v u Q I j c q=>h p s b H x y v u Q I j c (g _ _ _ _ q)
def OpR.or(h:OpR X f r)(h':OpR X f j):OpR X f (λx y H Q=>r x y H Q\/j x y H Q):=λp s b H x y v u Q I g c q=>
 q.elim (h p s b H x y v u Q I g c) (h' p s b H x y v u Q I g c)
def aS.imp(h:aS X f r)(g:∀x H Q,r' x H Q->r x H Q):aS X f r':=λp s b H c u Q I j q=>h p s b H c u Q I j (g _ _ _ q)
def aS.or(h:aS X f r)(h':aS X f j):aS X f (λx H Q=>r x H Q\/j x H Q):=λp s b H c u Q I g q=>
 q.elim (h p s b H c u Q I g) (h' p s b H c u Q I g)
def Aft.refl(R:Rel K m S H):Aft K m H S m H:=⟨Ext.refl m H,R⟩
def Aft.trans(x:Aft K m H S1 m1 H1)(y:Aft K m1 H1 S2 m2 H2):Aft K m H S2 m2 H2:=⟨x.ext.trans y.ext,y.rel⟩
abbrev rS(K:WW)(f:D->D->Sto->Option (D × Sto)):R2:=λv w H Q=>∃m S a b d g,Rel K m S H/\VD K m H a v/\VD K m H b w/\f a b S=aa (d,g)/\∀c h u,Aft K m H g c h->VD K c h d u->Q u h
abbrev rS1(K:WW)(f:D->Sto->Option (D × Sto)):V->Hp->VK->Prop:=λv H Q=>∃m S a d c,Rel K m S H/\VD K m H a v/\f a S=aa (d,c)/\∀b h u,Aft K m H c b h->VD K b h d u->Q u h
abbrev rSA(K:WW)(f:List D->Sto->Option (D × Sto)):List V->Hp->VK->Prop:=λv H Q=>∃m S c d g,Rel K m S H/\VDs K m H c v/\f c S=aa (d,g)/\∀b h u,Aft K m H g b h->VD K b h d u->Q u h
abbrev rSq(K:WW)(f:Bool->List D->Sto->Option (D × Sto)):V->Hp->VK->Prop:=λv H Q=>∃m S T b a c d j,Rel K m S H/\v = .ref a/\SqB K T H a c/\VDs K m H b c/\f T b S=aa (d,j)/\∀g h u,Aft K m H j g h->VD K g h d u->Q u h
abbrev qt(f:D->D->Sto->Option (D × Sto))(x y:XE):XE:=λc S=>bnd (x c S) λa S1=>bnd (y c S1) λb S2=>f a b S2
abbrev xUn(f:D->Sto->Option (D × Sto))(x:XE):XE:=λb S=>bnd (x b S) λa S1=>f a S1
abbrev kj(f:List D->Sto->Option (D × Sto))(x:XA):XE:=λb S=>bnd (x b S) λa S1=>f a S1
abbrev qu(f:Bool->List D->Sto->Option (D × Sto))(x:XA):XE:=λc S=>bnd (x c S) λb S1=>f aW b S1
abbrev ao(d:D)(S:Sto):Option (Bool × List D):=match d with
 |.tup b=>aa (aT,b)
 |.ref n=>(aH S n).map λb=>(aW,b)
 |_=>aD
abbrev ax(f:Bool->List D->Sto->Option (D × Sto))(d:D)(S:Sto):Option (D × Sto):=match ao d S with
 |some r=>f r.1 r.2 S
 |none=>aD
abbrev qv(f:Bool->List D->Sto->Option (D × Sto))(x:XE):XE:=λb S=>bnd (x b S) λd S1=>ax f d S1
def oW{f:D->D->Sto->Option (D × Sto)}{x y:XE}{n:L2.St}{H:Hp}{Q:VK}(h:tE K (qt f x y) n H Q):tOp (rS K f) (tE K x) (tE K y) n H Q:=by
 obtain⟨m,j,S,d,o,E,R,e,q⟩:=h;obtain⟨a,S1,C,e⟩:=ag e;obtain⟨b,S2,I,e⟩:=ag e;refine⟨m,j,S,a,S1,E,R,C,λm1 H1 v c B=>⟨m1,j,S1,b,S2,E.mono R c.ext,c.rel,I,λm2 H2 w g vb=>?_⟩⟩;exact⟨m2,S2,a,b,d,o,g.rel,B.mono c.rel g.ext,vb,e,λp z u J vd=>q p z u ((c.trans g).trans J) vd⟩
def FL{f:D->Sto->Option (D × Sto)}{x:XE}{b:L2.St}{H:Hp}{Q:VK}(h:tE K (xUn f x) b H Q):tUn (rS1 K f) (tE K x) b H Q:=by
 obtain⟨m,o,S,d,y,E,R,e,q⟩:=h;obtain⟨a,S1,j,e⟩:=ag e;exact⟨m,o,S,a,S1,E,R,j,λm1 H1 v c g=>⟨m1,S1,a,d,y,c.rel,g,e,λn p u z vd=>q n p u (c.trans z) vd⟩⟩
def yI{f:List D->Sto->Option (D × Sto)}{x:XA}{b:L2.St}{H:Hp}{Q:VK}(h:tE K (kj f x) b H Q):tCB (rSA K f) (tAr K x) b H Q:=by
 obtain⟨m,o,S,d,y,E,R,e,q⟩:=h;obtain⟨a,S1,j,e⟩:=ag e;exact⟨m,o,S,a,S1,E,R,j,λm1 H1 v c g=>⟨m1,S1,a,d,y,c.rel,g,e,λn p u z vd=>q n p u (c.trans z) vd⟩⟩
def Ha{f:Bool->List D->Sto->Option (D × Sto)}{x:XA}{c:L2.St}{H:Hp}{Q:VK}(h:tE K (qu f x) c H Q):tUn (rSq K f) (dY K x) c H Q:=by
 obtain⟨m,p,S,d,z,E,R,e,q⟩:=h;obtain⟨b,S1,n,e⟩:=ag e;exact⟨m,p,S,b,S1,E,R,n,λm1 H1 a v g j _ _ _ vd=>⟨m1,S1,aW,b,a,v,d,z,g.rel,rfl,show SqL K H1 a v from SqL.of j,vd,e,λo y u B vd=>q o y u (g.trans B) vd⟩⟩
abbrev wj(i:Nat):XE:=λb S=>match b[i]? with
 |some (aa d)=>aa (d,S)
 |_=>aD
abbrev xC(d:D):XE:=λ_ S=>aa (d,S)
def Hb{i:Nat}(h:tE K (wj i) c H Q):K3 i c H Q:=by
 obtain⟨m,g,S,d,n,E,R,e,q⟩:=h;unfold wj at e;cases b:g[i]? with
 |none=>rw[b] at e;cases e
 |some o=>
  rw[b] at e;cases o with
  |none=>cases e
  |some j=>
   cases e;obtain⟨v,f,vd⟩:=E.at_ i d b;exact⟨v,f,q m H v (Aft.refl R) vd⟩
def yJ(c:∀m H,VD K m H d v)(h:tE K (xC d) b H Q):tC v b H Q:=by
 obtain⟨m,g,S,f,j,E,R,e,q⟩:=h;cases e;exact q m H v (Aft.refl R) (c m H)
def sQ:VD K m H .non .non:=by rw[VD]
def ce:VD K m H (.bl b) (.bl b):=by rw[VD]
def bt{i:Int}:VD K m H (.int i) (.int i):=by rw[VD]
def sR:VD K m H (.str x) (.str x):=by rw[VD]
def oX(h:H a=aa (.tup v))(q:VDs K m H b v):VD K m H (.tup b) (.ref a):=by rw[VD];exact⟨a,v,rfl,h,q⟩
def VD.ints{i:Int}(h:VD K m H (.int i) v):v = .int i:=by rw[VD] at h;exact h
def VD.bls(h:VD K m H (.bl i) v):v = .bl i:=by rw[VD] at h;exact h
def VD.strs(h:VD K m H (.str i) v):v = .str i:=by rw[VD] at h;exact h
def VD.nons(h:VD K m H .non v):v = .non:=by rw[VD] at h;exact h
def VD.tups(h:VD K m H (.tup b) v):∃a vs,v = .ref a/\H a=aa (.tup vs)/\VDs K m H b vs:=by rw[VD] at h;exact h
def VD.refs{n:Nat}(h:VD K m H (.ref n) v):∃a,m[n]?=aa a/\v = .ref a:=by rw[VD] at h;exact h
abbrev Cr:XA:=λ_ S=>aa ([],S)
abbrev uz(x:XE)(y:XA):XA:=λb S=>bnd (x b S) λa S1=>bnd (y b S1) λc S2=>aa (a::c,S2)
def Hc(h:tAr K Cr b H Q):oH b H Q:=by
 obtain⟨m,f,S,c,g,E,R,e,q⟩:=h;cases e;exact q m H [] (Aft.refl R) .nil
def Cs{x:XE}{y:XA}{f:L2.St}{H:Hp}{Q:List V->Hp->Prop}(h:tAr K (uz x y) f H Q):fk (tE K x) (tAr K y) f H Q:=by
 obtain⟨m,g,S,u,z,E,R,e,q⟩:=h;obtain⟨a,S1,o,e⟩:=ag e;obtain⟨b,S2,p,e⟩:=ag e;cases e;refine⟨m,g,S,a,S1,E,R,o,λm1 H1 v c n=>⟨m1,g,S1,b,_,E.mono R c.ext,c.rel,p,λm2 H2 w j vb=>?_⟩⟩;exact q m2 H2 _ (c.trans j) (.cons (n.mono c.rel j.ext) vb)
abbrev kl(b:List D)(S:Sto):Option (D × Sto):=if b.length<=1000 then aa (.tup b,S) else aD
def kY{n:Nat}(h:n<=1000):n<=sizeLine:=by rw[VN];lia
def kr{c:List D}{v:List V}{Q:VK}(R:Rel K m S H)(vd:VDs K m H c v)(q:∀f b u,Aft K m H S f b->VD K f b (.tup c) u->Q u b):∀p,H p=aD->Q (.ref p) (upd H p (.tup v)):=λp h=>
 q m _ _ ⟨Ext.beside R h _,R.beside h _⟩ (oX ba (vd.mono R (Ext.beside R h _)))
def oY{c:List D}{v:List V}{Q:VK}(R:Rel K m S H)(vd:VDs K m H c v)(q:∀f b u,Aft K m H (S++[.lst c]) f b->VD K f b (.ref S.length) u->Q u b):∀p,H p=aD->Q (.ref p) (upd H p (.lst v)):=λp h=>by
 have x:=Ext.beside R h (.lst v);refine q (m++[p]) _ _ ⟨x.adopt h,(R.beside h _).adopt (R.no h) ba (vd.mono R x)⟩ ?_;rw[VD];exact⟨p,by rw[Zo (by rw[R.len];exact Zd _),R.len,Yh];rfl,rfl⟩
def ku{g:List D}{v:List V}{Q:VK}(R:Rel K m S H)(vd:VDs K m H g v)(q:∀f c a v,Aft K m H S f c->c a=aa (.lst v)->a ∉ f->(∀b,b ∈ m->b ≠ a)->H a=aD->VDs K f c g v->Q (.ref a) c):∀p,H p=aD->Q (.ref p) (upd H p (.lst v)):=λp h=>
 q m _ _ _ ⟨Ext.beside R h _,R.beside h _⟩ ba (R.no h) (λb hb z=>R.no h (z ▸ hb)) h (vd.mono R (Ext.beside R h _))
def Hd{x:XA}{b:L2.St}{H:Hp}{Q:VK}(h:tE K (kj kl x) b H Q):Lu (tAr K x) b H Q:=by
 obtain⟨m,n,S,B,C,E,R,e,q⟩:=h;obtain⟨a,S1,j,e⟩:=ag e;unfold kl at e;split at e
 ·rename_i p;cases e;exact⟨m,n,S,a,_,E,R,j,λm1 H1 z c v=>⟨kY (by rw[<-v.length];exact p),kr c.rel v λf y u o g=>q f y u (c.trans o) g⟩⟩
 ·cases e
abbrev nu(x:XA):XA:=λc S=>bnd (x c S) λb S1=>if b.length<=1000 then aa (b,S1) else aD
def Ct{x:XA}{g:L2.St}{H:Hp}{Q:VK}(h:dY K (nu x) g H Q):Lv (tAr K x) g H Q:=by
 obtain⟨m,J,S,Y,Z,E,R,e,q⟩:=h;obtain⟨a,S1,L,e⟩:=ag e;split at e
 ·rename_i p;cases e;refine⟨m,J,S,_,_,E,R,L,λm1 H1 vs c v=>⟨kY (by rw[<-v.length];exact p),ku c.rel v λB y u U T z C j n O=>?_⟩⟩
  have I:H u=aD:=by
   cases e:H u with
   |none=>rfl
   |some o=>
    by_cases f:u ∈ m
    ·exact absurd rfl (j u (c.ext.pre.subset f))
    ·have:=c.ext.keep u o e f;rw[this] at n;cases n
  exact q B y u U (c.trans T) z C (λb hb=>j b (c.ext.pre.subset hb)) I O
 ·cases e
def cJ{d:D}{v:V}{tu:Bool}{ds:List D}(R:Rel K m S H)(vd:VD K m H d v)(e:ao d S=aa (tu,ds)):∃a vs,v = .ref a/\SqB K tu H a vs/\VDs K m H ds vs:=by
 unfold ao at e;cases d with
 |tup c=>
  cases e;obtain⟨a,vs,e,q,r⟩:=vd.tups;exact⟨a,vs,e,q,r⟩
 |ref n=>
  obtain⟨a,h,E⟩:=vd.refs;cases hs:aH S n with
  |none=>simp[hs] at e
  |some c=>
   simp[hs] at e;obtain⟨rfl,rfl⟩:=e;obtain⟨b,vs,hb,q,r⟩:=R.seq hs;rw[h] at hb;cases hb;exact⟨a,vs,E,q,r⟩
 |_=>cases e
def He{f:Bool->List D->Sto->Option (D × Sto)}{x:XE}{j:L2.St}{H:Hp}{Q:VK}(h:tE K (qv f x) j H Q):tUn (rSq K f) (tE K x) j H Q:=by
 obtain⟨m,y,S,d,n,E,R,e,q⟩:=h;obtain⟨a,S1,I,e⟩:=ag e;refine⟨m,y,S,a,S1,E,R,I,λm1 H1 v c B=>?_⟩;unfold ax at e;split at e
 ·rename_i r hi;obtain⟨b,L,C,o,g⟩:=cJ (tu:=r.1) (ds:=r.2) c.rel B hi;exact⟨m1,S1,r.1,r.2,b,L,d,n,c.rel,C,o,g,e,λp z u J vd=>q p z u (c.trans J) vd⟩
 ·cases e
abbrev cK(x:XA):XE:=λc S=>bnd (x c S) λb S1=>aa (.ref S1.length,S1++[.lst b])
def qw{x:XA}{f:L2.St}{H:Hp}{Q:VK}(h:tE K (cK x) f H Q):dY K x f H Q:=by
 obtain⟨m,p,S,d,y,E,R,e,q⟩:=h;obtain⟨g,S1,o,e⟩:=ag e;cases e;refine⟨m,p,S,g,S1,E,R,o,λm1 H1 a v c j n B u vd=>?_⟩;refine q (m1++[a]) H1 _ ⟨⟨c.ext.pre.trans (YW _ _),c.ext.keep,λb hb nb=>?_⟩,c.rel.adopt n j vd⟩ ?_
 ·rcases ZM.mp hb with z |z
  ·exact c.ext.new b z nb
  ·simp at z;subst z;exact u
 ·rw[VD];exact⟨a,by rw[Zo (by rw[c.rel.len];exact Zd _),c.rel.len,Yh];rfl,rfl⟩
end
abbrev eqL(f:D->D->Option Bool):List D->List D->Option Bool
 |[],[]=>aa aT
 |x::xs,y::ys=>match f x y,eqL f xs ys with
  |some a,aa b=>aa (a && b)
  |_,_=>aD
 |_,_=>aa aW
abbrev eqB:D->D->Option Bool
 |.non,.non=>aa aT
 |.bl a,.bl b=>aa (a == b)
 |.int a,.int b=>aa (a == b)
 |.str a,.str b=>aa (a == b)
 |.bl a,.int b=>aa ((if a then 1 else 0) == b)
 |.int a,.bl b=>aa (a == (if b then 1 else 0))
 |_,_=>aD
abbrev eqD(_:Nat)(S:Sto)(x y:D):Option Bool:=match x,y with
 |.tup xs,.tup ys=>eqL eqB xs ys
 |.ref a,.ref b=>match aH S a,aH S b with
  |some xs,aa ys=>if a=b then aa aT else if xs.length=ys.length then eqL eqB xs ys else aa aW
  |_,_=>aD
 |x,y=>eqB x y
section
variable {X:Cx} {K:WW} {m:List Addr} {H:Hp} {S:Sto}
def qx{f:D->D->Option Bool}:∀ {n Y:List D} {b:Bool},eqL f n Y=aa b->∃g:Nat->Bool,(∀j x y,n[j]?=aa x->Y[j]?=aa y->f x y=aa (g j))/\b=((Zh (min n.length Y.length)).all g && (n.length == Y.length))
 |[],[],b,h=>by simp[eqL] at h;exact⟨λ_=>aT,λj x y e=>by simp at e,by simp[<-h]⟩
 |[],_::_,b,h=>by simp[eqL] at h;exact⟨λ_=>aT,λj x y e=>by simp at e,by simp[<-h]⟩
 |_::_,[],b,h=>by simp[eqL] at h;exact⟨λ_=>aT,λj x y _ e=>by simp at e,by simp[<-h]⟩
 |x::n,y::Y,b,h=>by
  rw[eqL] at h;split at h
  ·rename_i a c B u;cases h;obtain⟨g,v,z⟩:=qx u;refine⟨λj=>match j with |0=>a |j+1=>g j,λj q p E o=>?_,?_⟩
   ·cases j with
    |zero=>cases E;cases o;exact B
    |succ j=>exact v j q p E o
   ·rw[z];simp only[ZD,Nat.succ_min_succ,List.range_succ_eq_map,Yl,YZ];rw[Bool.and_assoc,show(n.length+1 == Y.length+1)=(n.length == Y.length) by simp];rfl
  ·cases h
def uA{c:List V}{its:List Value}{b:List D}(p:VDs K m H b c)(r:aP c its){j:Nat}(o:j < its.toArray.size):∃x v,b[j]?=aa x/\VD K m H x v/\aI v its.toArray[j]:=by
 have h:j < its.length:=by simpa using o
 have l1:=p.length;have L:=r.length;obtain⟨v,g,vd⟩:=p.get (i:=j) (d:=b[j]'(by lia)) (gEG _);obtain⟨u,f,n⟩:=r.get g;rw[gEG h] at f;cases f;exact⟨_,v,gEG (by lia),vd,n⟩
def yK{A:Around}{s:Shared}{x y:D}{v w:V}{u U:Value}{b:Bool}(f:VD K m H x v)(c:VD K m H y w)(r1:aI v u)(r2:aI w U)(h:eqB x y=aa b):WT A s u U b/\SeqAt.RcAt A s u U b/\WU A s u U (!b):=by
 unfold eqB at h;split at h
 ·cases h;cases f.nons;cases c.nons;cases r1;cases r2;exact⟨.same _,.none_none,.none_none⟩
 ·cases h;cases f.bls;cases c.bls;cases r1;cases r2;exact⟨.bool_bool _ _,.bool_bool _ _,.bool_bool _ _⟩
 ·cases h;cases f.ints;cases c.ints;obtain⟨t,rfl⟩:=r1;obtain⟨T,rfl⟩:=r2;exact⟨.int_int _ _ _ _,.int_int _ _ _ _,.int_int _ _ _ _⟩
 ·cases h;cases f.strs;cases c.strs;obtain⟨t,rfl⟩:=r1;obtain⟨T,rfl⟩:=r2;exact⟨.str_str _ _ _ _,.str_str _ _ _ _,.str_str _ _ _ _⟩
 ·cases h;cases f.bls;cases c.ints;cases r1;obtain⟨T,rfl⟩:=r2;exact⟨.bool_int _ _ _,.bool_int _ _ _,.bool_int _ _ _⟩
 ·cases h;cases f.ints;cases c.bls;obtain⟨t,rfl⟩:=r1;cases r2;exact⟨.int_bool _ _ _,.int_bool _ _ _,.int_bool _ _ _⟩
 ·cases h
def qy{s:Shared}{A:Around}{B Y:List D}{u z:List V}{c I:List Value}{b:Bool}(p:VDs K m H B u)(q:VDs K m H Y z)(r1:aP u c)(r2:aP z I)(h:eqL eqB B Y=aa b):∃g:Nat->Bool,(∀j (C:j < c.toArray.size) (o:j < I.toArray.size),WT A.in1 s c.toArray[j] I.toArray[j] (g j))/\b=((Zh (min c.toArray.size I.toArray.size)).all g && (c.toArray.size == I.toArray.size)):=by
 obtain⟨g,Q,hb⟩:=qx h;refine⟨g,λj C o=>?_,by rw[hb,Zn,Zn,<-r1.length,<-p.length,<-r2.length,<-q.length]⟩;obtain⟨x,v,L,E,n⟩:=uA p r1 C;obtain⟨y,w,O,J,f⟩:=uA q r2 o;exact(yK E J n f (Q j x y L O)).1
def LM{A:Around}{O:List (Addr × Obj)}{σ:L2.St}{s:Shared}{x y:D}{v w:V}{u u':Value}{b:Bool}(I:Inv X O σ H s)(R:Rel X.K m S H)(n:Nat)(Y:VD X.K m H x v)(Q:VD X.K m H y w)(r1:aI v u)(r2:aI w u')(h:eqD n S x y=aa b)(o:A.units < cLine) :
  SeqAt.RcAt A s u u' b/\WU A s u u' (!b):=by
 unfold eqD at h;split at h
 ·obtain⟨a,vs,rfl,sq,p⟩:=Y.tups;obtain⟨a',ws,rfl,C,q⟩:=Q.tups;cases r1;cases r2;obtain⟨L,Z,T,_⟩:=I.tuple (.of sq);obtain⟨i2,k2,B,_⟩:=I.tuple (.of C);obtain⟨g,U,rfl⟩:=qy (s:=s) (A:=A) p q Z k2 h;exact⟨SeqAt.RcAt.tuples T B o U,PySem.SeqAt.RcNeAt.tuples T B o U⟩
 ·rename_i k k';obtain⟨c,hc,rfl⟩:=Y.refs;obtain⟨c',J,rfl⟩:=Q.refs;cases r1;cases r2;split at h
  ·rename_i es es' hs hs';obtain⟨b1,vs,hb,sq,p⟩:=R.seq hs;rw[hb] at hc;cases hc;obtain⟨b2,ws,E,C,q⟩:=R.seq hs';rw[E] at J;cases J;obtain⟨L,Z,T,_⟩:=I.list sq;obtain⟨i2,k2,B,_⟩:=I.list C;split at h
   ·rename_i hk;subst hk;rw[hb] at E;cases E;cases h;have z:=SeqAt.RcAt.lists (A:=A) (e:=λ_=>aT) T.isList T.isList rfl o λj Y Q=>SeqAt.EqAt.same _;have z':=PySem.SeqAt.RcNeAt.lists (A:=A) (e:=λ_=>aT) T.isList T.isList rfl o λj Y Q=>SeqAt.EqAt.same _;rw[show(Zh L.toArray.size).all (λ_=>aT)=aT by simp] at z z';exact⟨z,z'⟩
   ·have l1:L.toArray.size=es.length:=by rw[Zn,<-Z.length,<-p.length]
    have l2:i2.toArray.size=es'.length:=by rw[Zn,<-k2.length,<-q.length]
    split at h
    ·rename_i hl;obtain⟨g,U,rfl⟩:=qy (s:=s) (A:=A) p q Z k2 h;have f:L.toArray.size=i2.toArray.size:=by rw[l1,l2,hl]
     rw[<-f,Nat.min_self,beq_self_eq_true,Wo];exact⟨SeqAt.RcAt.lists T.isList B.isList f o U,PySem.SeqAt.RcNeAt.lists T.isList B.isList f o U⟩
    ·rename_i hl;cases h;have f:(L.toArray.size != i2.toArray.size)=aT:=by rw[l1,l2];simpa using hl
     exact⟨SeqAt.RcAt.lists_lengths T.isList B.isList f o,PySem.SeqAt.RcNeAt.lists_lengths T.isList B.isList f o⟩
  ·cases h
 ·exact(yK Y Q r1 r2 h).2
abbrev eqS(x y:D)(S:Sto):Option (D × Sto):=(eqD 60 S x y).map λb=>(.bl b,S)
abbrev neS(x y:D)(S:Sto):Option (D × Sto):=(eqD 60 S x y).map λb=>(.bl (!b),S)
def uB{x y:D}{b:Bool}(h:eqD 60 S x y=aa b):neS x y S=aa (.bl (!b),S):=by unfold neS;rw[h];rfl
def Hf(z:X.A.units+64 < cLine):OpR X (Vp .Eq) (rS X.K eqS):=by
 intro p s o H x y v u Q I n g h;obtain⟨m,S,a,b,d,B,R,f,vb,e,q⟩:=h;obtain⟨c,j,e⟩:=YI.mp e;cases e;exact(LM I R 60 f vb n g j (by lia)).1 _ _ _ _ ⟨.bl c,H,I,rfl,q m H _ (Aft.refl R) ce⟩
def Hg(z:X.A.units+64 < cLine):OpR X (Vp .NotEq) (rS X.K neS):=by
 intro p s o H x y v u Q I n g h;obtain⟨m,S,a,b,d,B,R,f,vb,e,q⟩:=h;obtain⟨c,j,e⟩:=YI.mp e;cases e;exact(LM I R 60 f vb n g j (by lia)).2 _ _ _ _ ⟨.bl (!c),H,I,rfl,q m H _ (Aft.refl R) ce⟩
end
abbrev Hh(a b:Nat)(S:Sto):Option (D × Sto):=match S[a]? with
 | some (.lst xs)=>(match S[b]? with
  |some (.lst ys)=>if xs.length+ys.length<=100000 then aa (.ref S.length,S++[.lst (xs++ys)]) else aD
  | _=>aD)
 |_=>aD
abbrev km:D->D->Sto->Option (D × Sto)
 |.int i,.int j,S=>aa (.int (i+j),S)
 |.tup xs,.tup ys,S=>if xs.length+ys.length<=1000 then aa (.tup (xs++ys),S) else aD
 |.ref a,.ref b,S=>Hh a b S
 |.str x,.str y,S=>if x.length+y.length<=100000 then aa (.str (x++y),S) else aD
 |_,_,_=>aD
abbrev LN:D->D->Sto->Option (D × Sto)
 |.int i,.int j,S=>aa (.int (i - j),S)
 |_,_,_=>aD
abbrev iH(i j:Int):Bool:=(decide (-(2 ^ 64) < i) && decide (i < 2 ^ 64)) || (decide (-(2 ^ 64) < j) && decide (j < 2 ^ 64))
abbrev qz:D->D->Sto->Option (D × Sto)
 |.int i,.int j,S=>if iH i j=aT then aa (.int (i * j),S) else aD
 | .ref n,.int k,S=>(match S[n]? with
  |some (.lst xs)=>if 0<=k/\xs.length * k.toNat<=1000/\k<=1000 then aa (.ref S.length,S++[.lst (Zr k.toNat xs).flatten]) else aD
  | _=>aD)
 |_,_,_=>aD
abbrev Hi:D->D->Sto->Option (D × Sto)
 |.int i,.int j,S=>if 0 < j then aa (.int (i % j),S) else aD
 |_,_,_=>aD
abbrev yL:D->D->Sto->Option (D × Sto)
 |.int i,.int j,S=>if 0 < j/\j < 1298074214633706907132624082305024 then aa (.int (i / j),S) else aD
 |_,_,_=>aD
abbrev Hj:D->D->Sto->Option (D × Sto)
 |.int i,.int j,S=>if 0<=j/\j<=1000000/\i.natAbs < 2 ^ 64 then aa (.int (i ^ j.toNat),S) else aD
 |_,_,_=>aD
inductive BOp where |add |sub |mul |mod |fdiv |pow
abbrev bF:BOp->D->D->Sto->Option (D × Sto)
 |.add=>km |.sub=>LN |.mul=>qz |.mod=>Hi |.fdiv=>yL |.pow=>Hj
abbrev BOp.op:BOp->WR
 |.add=>.Add |.sub=>.Sub |.mul=>.Mult |.mod=>.Mod |.fdiv=>.FloorDiv |.pow=>.Pow
section
variable {X:Cx} {K:WW} {m:List Addr} {H:Hp} {S:Sto}
def gu{op:WR}{f:D->D->Sto->Option (D × Sto)}{C:Int->Int->Prop}{g:Int->Int->Int}(o:OpR X (Vf op) (rI C λi j=>.int (g i j)))
  (p:∀a b S d n,f a b S=aa (d,n)->∃i j,a = .int i/\b = .int j/\C i j/\d = .int (g i j)/\n=S):OpR X (Vf op) (rS X.K f):=by
 refine OpR.imp o λx y H Q h=>?_;obtain⟨m,S,a,b,d,n,R,v,vb,e,q⟩:=h;obtain⟨i,j,rfl,rfl,c,rfl,rfl⟩:=p _ _ _ _ _ e;exact⟨i,j,v.ints,vb.ints,c,q m H _ (Aft.refl R) bt⟩
def sS:OpR X (Vf .Add) (λx y H Q=>∃m S c Y,Rel X.K m S H/\VD X.K m H (.tup c) x/\VD X.K m H (.tup Y) y/\c.length+Y.length<=1000/\∀g f u,Aft X.K m H S g f->VD X.K g f (.tup (c++Y)) u->Q u f):=by
 refine OpR.imp Cm λx y H Q h=>?_;obtain⟨m,S,c,Y,R,v,vb,B,q⟩:=h;obtain⟨a,o,rfl,sa,j⟩:=v.tups;obtain⟨b,z,rfl,p,n⟩:=vb.tups;have l1:=j.length;have L:=n.length;refine⟨a,b,o,z,rfl,rfl,.of sa,.of p,kY (by lia),λe=>?_,λ_ e=>?_,λ_ _=>kr R (j.append n) q⟩
 ·subst e;have e:c=[]:=Yc.mp (by simpa using l1);subst e;exact q m H _ (Aft.refl R) vb
 ·subst e;have e:Y=[]:=Yc.mp (by simpa using L);subst e;rw[Z4] at q;exact q m H _ (Aft.refl R) v
def Cu:OpR X (Vf .Add) (rS X.K km):=by
 refine OpR.imp (OpR.or GJ (OpR.or sS (OpR.or sn G0))) λx y H Q h=>?_;obtain⟨m,S,a,b,d,Z,R,v,vb,e,q⟩:=h;cases a with
 |int i=>
  cases b with
  |int j=>cases e;exact .inl ⟨i,j,v.ints,vb.ints,q m H _ (Aft.refl R) bt⟩
  |_=>simp[km] at e
 |tup p=>
  cases b with
  |tup Y=>
   simp only[km] at e;split at e
   ·rename_i n;cases e;exact .inr (.inl ⟨m,S,p,Y,R,v,vb,n,q⟩)
   ·cases e
  |_=>simp[km] at e
 |str i=>
  cases b with
  |str j=>
   simp only[km] at e;split at e
   ·rename_i n;cases e;exact .inr (.inr (.inl ⟨i,j,v.strs,vb.strs,by rw[VN];lia,q m H _ (Aft.refl R) sR⟩))
   ·cases e
  |_=>simp[km] at e
 |ref i=>
  cases b with
  |ref j=>
   simp only[km,Hh] at e;split at e
   ·rename_i p B;split at e
    ·rename_i Y I;split at e
     ·rename_i n;cases e;obtain⟨a,O,z,U,u⟩:=R.lst B;obtain⟨c,T,C,E,o⟩:=R.lst I;obtain⟨a',g,J⟩:=v.refs;obtain⟨c',f,L⟩:=vb.refs;rw[z] at g;cases g;rw[C] at f;cases f;exact .inr (.inr (.inr ⟨a,c,O,T,J,L,U,E,by rw[VN,<-u.length,<-o.length];lia,oY R (u.append o) q⟩))
     ·cases e
    ·cases e
   ·cases e
  |_=>simp[km] at e
 |_=>cases b <;> simp[km] at e
def uC(h:VDs K m H b v):∀n:Nat,VDs K m H (Zr n b).flatten (Zr n v).flatten
 |0=>by rw[XH,XH,X9,X9,VDs]
 |n+1=>by rw[Yi,Yi,Yy,Yy];exact h.append (uC h n)
def Cv:OpR X (Vf .Mult) (rS X.K qz):=by
 refine OpR.imp (OpR.or G1 GL) λx y H Q h=>?_;obtain⟨m,S,a,b,d,B,R,v,vb,e,q⟩:=h;cases a with
 |int i=>
  cases b with
  |int j=>
   simp only[qz] at e;split at e
   ·rename_i f;cases e;simp only[iH,Y7,bAE,decide_eq_true_eq] at f;exact .inr ⟨i,j,v.ints,vb.ints,f,q m H _ (Aft.refl R) bt⟩
   ·cases e
  |_=>simp[qz] at e
 |ref n=>
  cases b with
  |int k=>
   simp only[qz] at e;split at e
   ·rename_i z o;split at e
    ·rename_i f;cases e;obtain⟨l,g,p,u,vd⟩:=R.lst o;obtain⟨L,c,E⟩:=v.refs;rw[p] at c;cases c;exact .inl ⟨l,k,g,E,vb.ints,u,by lia,by lia,by rw[VN,<-vd.length];lia,oY R (uC vd k.toNat) q⟩
    ·cases e
   ·cases e
  |_=>simp[qz] at e
 |_=>cases b <;> simp[qz] at e
def yM:OpR X (Vf .FloorDiv) (rI (λ_ j=>0 < j/\j < 1298074214633706907132624082305024) λi j=>.int (i / j)):=opI λi j _ _ _ _ _ h q=>by
 have f:(0:Int) < j:=h.1;have c:j < 1298074214633706907132624082305024:=h.2
 exact floordiv_int (by lia) (by rw[Int.fdiv_eq_ediv_of_nonneg i (by lia)];exact q) (.inl (PyProof.noPylong_of_log2 (by
  have b:j.natAbs ≠ 0:=by lia
  have:j.natAbs.log2 < 110:=(Nat.log2_lt b).mpr (by lia)
  lia)))
def Cw(o:BOp):OpR X (Vf o.op) (rS X.K (bF o)):=by
 cases o with
 |add=>exact Cu
 |sub=>
  refine gu (C:=λ_ _=>True) (g:=λi j=>i - j) (OpR.imp GK λx y H Q ⟨i,j,a,b,_,q⟩=>⟨i,j,a,b,q⟩) λa b S d c e=>?_;cases a <;> cases b <;> simp[bF,LN] at e;exact⟨_,_,rfl,rfl,trivial,e.1.symm,e.2.symm⟩
 |mul=>exact Cv
 |mod=>
  refine gu GM λa b S d c e=>?_;cases a <;> cases b <;> simp[bF,Hi] at e;rename_i i j;exact⟨i,j,rfl,rfl,e.1,e.2.1.symm,e.2.2.symm⟩
 |fdiv=>
  refine gu yM λa b S d c e=>?_;cases a <;> cases b <;> simp[bF,yL] at e;rename_i i j;exact⟨i,j,rfl,rfl,e.1,e.2.1.symm,e.2.2.symm⟩
 |pow=>
  refine gu GN λa b S d c e=>?_;cases a <;> cases b <;> simp[bF,Hj] at e;rename_i i j;exact⟨i,j,rfl,rfl,e.1,e.2.1.symm,e.2.2.symm⟩
abbrev wk(p:Int->Int->Bool):D->D->Sto->Option (D × Sto)
 |.int i,.int j,S=>aa (.bl (p i j),S)
 |_,_,_=>aD
abbrev bG:D->Bool
 |.non=>aT
 |_=>aW
abbrev isB(neg:Bool):D->D->Sto->Option (D × Sto)
 |d,.non,S=>aa (.bl (neg != bG d),S)
 |.bl a,.bl b,S=>aa (.bl (neg != (a == b)),S)
 |_,_,_=>aD
abbrev cf:D->Bool
 |.non=>aT |.bl _=>aT |.int _=>aT |.str _=>aT |_=>aW
abbrev eqF:D->D->Bool
 |.non,.non=>aT
 |.bl a,.bl b=>a == b
 |.bl a,.int b=>(if a then 1 else 0) == b
 |.int a,.bl b=>a == (if b then 1 else 0)
 |.int a,.int b=>a == b
 |.str a,.str b=>a == b
 |_,_=>aW
abbrev inF(x:D)(b:List D):Bool:=b.any λy=>eqF y x
abbrev inS(neg:Bool)(x y:D)(S:Sto):Option (D × Sto):=match ao y S with
 |some (_,ds)=>if cf x=aT/\ds.all cf=aT then aa (.bl (neg != inF x ds),S) else aD
 |none=>aD
inductive COp where |eq |ne |lt |le |gt |ge |is |isnot |isin |notin
abbrev az:COp->D->D->Sto->Option (D × Sto)
 |.eq=>eqS |.ne=>neS
 |.lt=>wk λi j=>decide (i < j) |.le=>wk λi j=>decide (i<=j) |.gt=>wk λi j=>decide (j < i) |.ge=>wk λi j=>decide (j<=i)
 |.is=>isB aW |.isnot=>isB aT |.isin=>inS aW |.notin=>inS aT
abbrev COp.op:COp->CmpOp
 |.eq=>.Eq |.ne=>.NotEq |.lt=>.Lt |.le=>.LtE |.gt=>.Gt |.ge=>.GtE |.is=>.Is |.isnot=>.IsNot |.isin=>.In |.notin=>.NotIn
def eM(c:OpR X (Vp op) (rI0 λi j=>.bl (p i j))):OpR X (Vp op) (rS X.K (wk p)):=by
 refine OpR.imp c λx y H Q h=>?_;obtain⟨m,S,a,b,d,f,R,v,vb,e,q⟩:=h;cases a <;> cases b <;> simp[wk] at e;obtain⟨rfl,rfl⟩:=e;exact⟨_,_,v.ints,vb.ints,q m H _ (Aft.refl R) ce⟩
def kw(h:VD K m H x v)(f:cf x=aT):dU v=aT:=by
 cases x <;> simp[cf] at f
 ·cases h.nons;rfl
 ·cases h.bls;rfl
 ·cases h.ints;rfl
 ·cases h.strs;rfl
def yN(h:VD K m H x v)(f:cf x=aT)(h':VD K m H y w)(b:cf y=aT):eqV v w=eqF x y:=by
 cases x <;> simp[cf] at f <;> cases y <;> simp[cf] at b <;> simp[VD] at h h' <;> subst h <;> subst h' <;> rfl
def iI:∀ {b:List D} {v:List V},VDs K m H b v->b.all cf=aT->v.all dU=aT
 |[],v,h,_=>by rw[VDs] at h;rw[h];rfl
 |d::b,v,h,f=>by
  rw[VDs] at h;obtain⟨x,r,rfl,p,q⟩:=h;rw[Yl,bAE] at f;rw[Yl,kw p f.1,iI q f.2];rfl
def sU(h:VD K m H x v)(f:cf x=aT):∀ {b:List D} {c:List V},VDs K m H b c->b.all cf=aT->inV v c=inF x b
 |[],c,h,_=>by rw[VDs] at h;rw[h];rfl
 |d::b,c,h',f'=>by
  rw[VDs] at h';obtain⟨y,r,rfl,p,q⟩:=h';rw[Yl,bAE] at f';have I:=sU h f q f'.2;unfold inV inF at I ⊢;rw[YB,YB,yN p f'.1 h f,I]
def nv(h:VD K m H x v)(f:cf x=aT):∀ {b:List D} {c:List V},VDs K m H b c->b.all cf=aT->(c.countP λz=>eqV z v)=b.countP λz=>eqF z x
 |[],c,h,_=>by rw[VDs] at h;rw[h];rfl
 |d::b,c,h',f'=>by
  rw[VDs] at h';obtain⟨y,r,rfl,p,q⟩:=h';rw[Yl,bAE] at f';rw[Y3,Y3,yN p f'.1 h f,nv h f q f'.2]
def kZ(h:SqB K T H a vs):SqL K H a vs\/SqT K H a vs:=by
 cases T with
 |false=>exact .inl h
 |true=>exact .inr (.of h)
def Hk(L:X.A.units+64 < cLine):OpR X (Vp .In) (rS X.K (inS aW)):=by
 intro c s z H x y v u Q I C o h;obtain⟨m,S,a,b,d,J,R,j,vb,e,q⟩:=h;unfold inS at e;split at e
 ·rename_i T E hi;obtain⟨p,B,rfl,n,f⟩:=cJ R vb hi;split at e
  ·rename_i g;cases e;refine vV c s z H x _ v u Q I C o ⟨p,B,rfl,kZ n,kw j g.1,iI f g.2,q m H _ (Aft.refl R) ?_⟩;rw[if_neg (by decide),sU j g.1 f g.2]
   simpa using ce
  ·cases e
 ·cases e
def wm(L:X.A.units+64 < cLine):OpR X (Vp .NotIn) (rS X.K (inS aT)):=by
 intro c s z H x y v u Q I C o h;obtain⟨m,S,a,b,d,J,R,j,vb,e,q⟩:=h;unfold inS at e;split at e
 ·rename_i T E hi;obtain⟨p,B,rfl,n,f⟩:=cJ R vb hi;split at e
  ·rename_i g;cases e;refine oM c s z H x _ v u Q I C o ⟨p,B,rfl,kZ n,kw j g.1,iI f g.2,q m H _ (Aft.refl R) ?_⟩;rw[if_pos rfl,sU j g.1 f g.2]
   simpa using ce
  ·cases e
 ·cases e
def yO(h:VD K m H d v):decide (v=V.non)=bG d:=by
 cases d with
 |non=>cases h.nons;rfl
 |bl _=>cases h.bls;rfl
 |int _=>cases h.ints;rfl
 |str _=>cases h.strs;rfl
 |tup _=>obtain⟨_,_,e,_⟩:=h.tups;subst e;rfl
 |ref _=>obtain⟨_,_,e⟩:=h.refs;subst e;rfl
def Hl:OpR X (Vp .Is) (rS X.K (isB aW)):=by
 refine OpR.imp (OpR.or GP G6) λx y H Q h=>?_;obtain⟨m,S,a,b,d,c,R,v,vb,e,q⟩:=h;cases b with
 |non=>
  simp[isB] at e;obtain⟨rfl,rfl⟩:=e;exact .inl ⟨vb.nons,q m H _ (Aft.refl R) (by rw[yO v];exact ce)⟩
 |bl j=>
  cases a with
  |bl i=>
   simp[isB] at e;obtain⟨rfl,rfl⟩:=e;exact .inr ⟨i,j,v.bls,vb.bls,q m H _ (Aft.refl R) ce⟩
  |_=>simp[isB] at e
 |_=>cases a <;> simp[isB] at e
def wn:OpR X (Vp .IsNot) (rS X.K (isB aT)):=by
 refine OpR.imp (OpR.or BX wc) λx y H Q h=>?_;obtain⟨m,S,a,b,d,c,R,v,vb,e,q⟩:=h;cases b with
 |non=>
  simp[isB] at e;obtain⟨rfl,rfl⟩:=e;exact .inl ⟨vb.nons,q m H _ (Aft.refl R) (by rw[yO v];exact ce)⟩
 |bl j=>
  cases a with
  |bl i=>
   simp[isB] at e;obtain⟨rfl,rfl⟩:=e;exact .inr ⟨i,j,v.bls,vb.bls,q m H _ (Aft.refl R) (by simpa[bne] using ce)⟩
  |_=>simp[isB] at e
 |_=>cases a <;> simp[isB] at e
def gw(h:X.A.units+64 < cLine)(o:COp):OpR X (Vp o.op) (rS X.K (az o)):=by
 cases o with
 |eq=>exact Hf h
 |ne=>exact Hg h
 |lt=>exact eM Lp
 |le=>exact eM Lq
 |gt=>exact eM Lr
 |ge=>exact eM Ls
 |is=>exact Hl
 |isnot=>exact wn
 |isin=>exact Hk h
 |notin=>exact wm h
end
section
variable {X:Cx} {K:WW} {m:List Addr} {H:Hp} {S:Sto}
abbrev jh:List Key->List D->Key->Option D
 |a::ks,d::ds,k=>if a=k then aa d else jh ks ds k
 |_,_,_=>aD
def uD{k:Key}:∀ {f:List Key} {b:List D} {c:List V},VDs K m H b c->jh f b k=aa d->∃v,jf (f.zip c) k=aa v/\VD K m H d v
 |[],_,_,_,e=>by simp[jh] at e
 |_::_,[],_,_,e=>by simp[jh] at e
 |a::f,d'::b,c,h,e=>by
  rw[VDs] at h;obtain⟨y,r,rfl,p,q⟩:=h;rw[jh] at e;rw[XV];split at e
  ·rename_i z;cases e;exact⟨y,iC (p:=(a,y)) z,p⟩
  ·rename_i z;rw[iE (p:=(a,y)) z];exact uD q e
abbrev ixD(d:D)(k:Int)(S:Sto):Option (D × Sto):=match d with
 | .ref n=>(match S[n]? with
  |some (.dic ks ds)=>(jh ks ds (.inl k)).map λx=>(x,S)
  | _=>aD)
 |_=>aD
def yP{k:Int}(e:ixD a k S=aa (d,g)):∃n c b,a = .ref n/\S[n]?=aa (.dic c b)/\jh c b (.inl k)=aa d/\g=S:=by
 unfold ixD at e;split at e
 ·rename_i n;split at e
  ·rename_i c b f;cases h:jh c b (.inl k) with
   |none=>rw[h] at e;cases e
   |some x=>rw[h] at e;cases e;exact⟨n,c,b,rfl,f,h,rfl⟩
  ·cases e
 ·cases e
abbrev ixS(d i:D)(S:Sto):Option (D × Sto):=match i with
 | .int k=>(match d with
  |.str z=>if z.length<=100000 then (atI z.cps.toList k).map λc=>(.str ⟨#[c]⟩,S) else aD
  | d=>(match ao d S with
   |some (_,ds)=>(atI ds k).map λx=>(x,S)
   | none=>ixD d k S))
 |_=>aD
def Hm{k:Int}(h:VDs K m H b c)(e:atI b k=aa d):∃v,atI c k=aa v/\VD K m H d v:=by
 unfold atI at e ⊢;rw[<-h.length];cases hi:ixN b.length k with
 |none=>rw[hi] at e;cases e
 |some j=>
  rw[hi] at e;exact h.get e
def yQ{k:Int}(c:SqB K tu H a b)(vd:VDs K m H g b)(e:atI g k=aa d)(q:∀v,VD K m H d v->Q v H):rIx K (.ref a) (.int k) H Q:=by
 obtain⟨v,E,f⟩:=Hm vd e;cases tu with
 |false=>exact .inl ⟨a,b,k,v,rfl,rfl,c,E,q v f⟩
 |true=>exact .inr (.inl ⟨a,b,k,v,rfl,rfl,.of c,E,q v f⟩)
def Oo(hu:X.A.units+64 < cLine):IxR X (rS X.K ixS):=by
 intro f j o s U H x y v u Q I rx ry h hs;obtain⟨m,S,a,b,d,S',R,T,vb,e,q⟩:=h;cases b with
 |int k=>
  have J:ixD a k S=aa (d,S')->wpAny (model X.prog X.w) X.A (subscriptTail f j v u) (EP X o U Q) X.xe s:=λe=>by
   obtain⟨n,ks,Z,rfl,hn,hv,rfl⟩:=yP e;obtain⟨p,hp,vs,hH,hl,C⟩:=R.ob n _ hn;obtain⟨p',E,rfl⟩:=T.refs;rw[hp] at E;cases E;obtain⟨w,hw,vw⟩:=uD C hv;cases rx;have g:Cd H p y (aa w):=by rw[<-hw,show y=kV (.inl k) from vb.ints];exact Cd.k hH
   exact tail_any (qk I g) PySem.F.slot_dict_getitem.lookup (v0 (show X.A.units+1 < cLine by lia) I g ry λw' s' I' Y=>⟨w,H,I',Y,q m H _ (Aft.refl R) vw⟩) hs
  have B:rIx X.K x (.int k) H Q->wpAny (model X.prog X.w) X.A (subscriptTail f j v u) (EP X o U Q) X.xe s:=λh=>by
   refine ym f j o s U H x y v u Q I rx ry ?_ hs;rw[vb.ints];exact h
  have main:∀r,ao a S=aa r->(atI r.2 k).map (λx=>(x,S))=aa (d,S')->rIx X.K x (.int k) H Q:=by
   intro r hi e;cases L:atI r.2 k with
   |none=>rw[L] at e;cases e
   |some z=>
    rw[L] at e;cases e;obtain⟨p,vs,rfl,sq,C⟩:=cJ (tu:=r.1) (ds:=r.2) R T hi;exact yQ sq C L λv vv=>q m H v (Aft.refl R) vv
  cases a with
  |str z=>
   simp only[ixS] at e;split at e
   ·rename_i hl;cases O:atI z.cps.toList k with
    |none=>rw[O] at e;cases e
    |some c=>
     rw[O] at e;cases e;exact B (.inr (.inr ⟨z,k,c,T.strs,rfl,by rw[VN];lia,O,q m H _ (Aft.refl R) sR⟩))
   ·cases e
  |tup Z=>exact B (main (aT,Z) rfl e)
  |ref n=>
   simp only[ixS] at e;cases hi:ao (.ref n) S with
   |none=>rw[hi] at e;exact J e
   |some r=>rw[hi] at e;exact B (main r hi e)
  |_=>simp[ixS,ao,ixD] at e
 |_=>simp[ixS] at e
abbrev sW(x:XA)(y:XE):XE:=λb S=>bnd (x b S) λc g=>bnd (y b g) λi f=>match i with
 |.int k=>(atI c k).map λd=>(d,f)
 |_=>aD
def Hn(h:tE K (sW x y) I H Q):tOp (rIx K) (dY K x) (tE K y) I H Q:=by
 obtain⟨m,n,S,d,U,E,R,e,q⟩:=h;obtain⟨g,o,J,e⟩:=ag e;obtain⟨i,T,L,e⟩:=ag e;refine⟨m,n,S,g,o,E,R,J,λm1 H1 a O b B C Z Y vd=>⟨m1,n,o,i,T,E.mono R b.ext,b.rel,L,λu j w f vb=>?_⟩⟩;cases i with
 |int k=>
  cases vb.ints;dsimp only at e;cases c:atI g k with
  |none=>rw[c] at e;cases e
  |some z=>
   rw[c] at e;cases e;exact yQ (tu:=false) (show SqL K j a O from SqL.of (f.ext.keep _ _ B C)) (vd.mono b.rel f.ext) c λv p=>q u j v (b.trans f) p
 |_=>cases e
abbrev gH(b:List D)(lo hi:Option Int):List D:=(b.drop (HT.sIx b.length 0 lo)).take (HT.sIx b.length b.length hi - HT.sIx b.length 0 lo)
def sX(h:VDs K m H b v)(lo hi:Option Int):VDs K m H (gH b lo hi) (kN v lo hi):=by
 unfold gH kN;rw[<-h.length];exact(h.drop _).take _
abbrev slS(lo hi:Option Int)(d:D)(S:Sto):Option (D × Sto):=match d with
 |.tup b=>aa (.tup (gH b lo hi),S)
 | .ref n=>(match aH S n with
  |some b=>aa (.ref S.length,S++[.lst (gH b lo hi)])
  | none=>aD)
 |_=>aD
abbrev rSl(K:WW):V->Option Int->Option Int->Hp->VK->Prop:=λv lo hi H Q=>∃m S a d c,Rel K m S H/\VD K m H a v/\slS lo hi a S=aa (d,c)/\∀b h u,Aft K m H c b h->VD K b h d u->Q u h
def sY{vs:List V}{lo hi:Option Int}(h:HT.sIx vs.length 0 lo=0/\HT.sIx vs.length vs.length hi=vs.length):kN vs lo hi=vs:=by
 unfold kN;rw[h.1,h.2];simp
def Op:SlR X (rSl X.K):=by
 intro f s B H x v J L lo hi sl Q I O hs pl z h;refine(SlR.or Cn B8) f s B H x v J L lo hi sl Q I O hs pl z ?_;obtain⟨m,S,a,d,U,R,u,e,q⟩:=h;cases a with
 |tup y=>
  cases e;obtain⟨p,o,rfl,g,b⟩:=u.tups;refine .inl ⟨p,o,rfl,.of g,λE=>?_,λ_=>kr R (sX b lo hi) q⟩;have:=sX b lo hi;rw[sY E] at this;exact q m H _ (Aft.refl R) (oX g this)
 |ref n=>
  simp only[slS] at e;cases j:aH S n with
  |none=>rw[j] at e;cases e
  |some y=>
   rw[j] at e;cases e;obtain⟨p,o,C,g,b⟩:=R.seq j;obtain⟨T,c,rfl⟩:=u.refs;rw[C] at c;cases c;exact .inr ⟨p,o,rfl,g,oY R (sX b lo hi) q⟩
 |_=>cases e
@[inline]abbrev XO:=Rho->Sto->Option (Option Int × Sto)
abbrev tOI(K:WW)(x:XO):TO:=λg H Q=>∃m b S o c,EnvR K m H b g/\Rel K m S H/\x b S=aa (o,c)/\∀f h,Aft K m H c f h->Q o h
abbrev sZ:XO:=λ_ S=>aa (aD,S)
abbrev td(x:XE):XO:=λb S=>bnd (x b S) λd c=>match d with
 |.int i=>aa (aa i,c)
 |_=>aD
def Cy(h:tOI K sZ b H Q):ur b H Q:=by
 obtain⟨m,c,S,o,f,E,R,e,q⟩:=h;cases e;exact q m H (Aft.refl R)
def Cz(h:tOI K (td x) b H Q):FE (tE K x) b H Q:=by
 obtain⟨m,g,S,o,p,E,R,e,q⟩:=h;obtain⟨d,j,f,e⟩:=ag e;refine⟨m,g,S,d,j,E,R,f,λm1 n v c vd=>?_⟩;cases d with
 |int i=>cases e;exact⟨i,vd.ints,q m1 n c⟩
 |_=>cases e
def PO.imp(h:PO X e t)(f:∀b H Q,t' b H Q->t b H Q):PO X e t':=λp s b H Q I q=>h p s b H Q I (f b H Q q)
abbrev xSl(x:XE)(lo hi:XO):XE:=λb S=>bnd (x b S) λd f=>bnd (lo b f) λl c=>bnd (hi b c) λh g=>slS l h d g
def LP{x:XE}{lo hi:XO}{j:L2.St}{H:Hp}{Q:VK}(h:tE K (xSl x lo hi) j H Q):tSl (rSl K) (tE K x) (tOI K lo) (tOI K hi) j H Q:=by
 obtain⟨m,f,S,d,z,E,R,e,q⟩:=h;obtain⟨a,o,J,e⟩:=ag e;obtain⟨l,n,L,e⟩:=ag e;obtain⟨u,p,T,e⟩:=ag e;refine⟨m,f,S,a,o,E,R,J,λm1 Z v b vd=>⟨m1,f,o,l,n,E.mono R b.ext,b.rel,L,λy U c=>⟨y,f,n,u,p,E.mono R (b.trans c).ext,c.rel,T,λC Y g=>?_⟩⟩⟩;exact⟨C,p,a,d,z,g.rel,vd.mono b.rel (c.trans g).ext,e,λm4 B w I O=>q m4 B w (((b.trans c).trans g).trans I) O⟩
abbrev fG(d:D)(S:Sto):Option (Bool × Sto):=match d with
 |.non=>aa (aW,S)
 |.bl b=>aa (b,S)
 |.int i=>aa (i != 0,S)
 |.str y=>if y.length<=100000 then aa ((y.length:Int) != 0,S) else aD
 |.tup c=>aa (!c.isEmpty,S)
 | .ref n=>(match aH S n with
  |some c=>aa (!c.isEmpty,S)
  | none=>aD)
def k8(h:VDs K m H b v):b.isEmpty=v.isEmpty:=by
 have:=h.length;cases b <;> cases v <;> simp at this ⊢
def yR(R:Rel K m S H)(vd:VD K m H d v)(e:fG d S=aa (b,u)):u=S/\yc K v H b:=by
 cases d with
 |non=>cases e;cases vd.nons;exact⟨rfl,rfl⟩
 |bl _=>cases e;cases vd.bls;exact⟨rfl,rfl⟩
 |int _=>cases e;cases vd.ints;exact⟨rfl,rfl⟩
 |str y=>
  simp only[fG] at e;split at e
  ·rename_i B;cases e;cases vd.strs;exact⟨rfl,by rw[VN];lia,rfl⟩
  ·cases e
 |tup o=>
  cases e;obtain⟨a,g,rfl,f,c⟩:=vd.tups;exact⟨rfl,.inr (.inl ⟨g,.of f,by rw[k8 c]⟩)⟩
 |ref n=>
  simp only[fG] at e;cases j:aH S n with
  |none=>rw[j] at e;cases e
  |some o=>
   rw[j] at e;cases e;obtain⟨p,g,q,f,c⟩:=R.seq j;obtain⟨z,h,rfl⟩:=vd.refs;rw[q] at h;cases h;exact⟨rfl,.inl ⟨g,f,by rw[k8 c]⟩⟩
abbrev CA(x:XE):XT:=λb S=>bnd (x b S) λd c=>fG d c
def Ho(h:tT K (CA x) f H Q):(tE K x) f H λv H'=>∃k,yc K v H' k/\Q k H':=by
 obtain⟨m,j,S,b,p,E,R,e,q⟩:=h;obtain⟨d,n,g,e⟩:=ag e;refine⟨m,j,S,d,n,E,R,g,λm1 o v c vd=>?_⟩;obtain⟨rfl,t⟩:=yR c.rel vd e;exact⟨b,t,q m1 o c⟩
abbrev xB(x:XE):XT:=λc S=>bnd (x c S) λd f=>match d with
 |.bl b=>aa (b,f)
 |_=>aD
def LQ(h:tT K (xB x) c H Q):(tE K x) c H λv H'=>∃k,v = .bl k/\Q k H':=by
 obtain⟨m,j,S,b,p,E,R,e,q⟩:=h;obtain⟨d,n,g,e⟩:=ag e;refine⟨m,j,S,d,n,E,R,g,λm1 o v f vd=>?_⟩;cases d with
 |bl k=>cases e;exact⟨b,vd.bls,q m1 o f⟩
 |_=>cases e
abbrev cg(_:Bool)(b:List D)(S:Sto):Option (D × Sto):=aa (.int b.length,S)
abbrev ji(_:Bool)(b:List D)(S:Sto):Option (D × Sto):=aa (.tup b,S)
abbrev wo:D->Bool
 |.bl _=>aT
 |_=>aW
abbrev mR:D->Bool
 |.bl b=>b
 |_=>aW
abbrev jj(T:Bool)(b:List D)(S:Sto):Option (D × Sto):=if T=aW/\b.all wo=aT then aa (.bl (b.all mR),S) else aD
abbrev mS(T:Bool)(b:List D)(S:Sto):Option (D × Sto):=if T=aW/\b.all wo=aT then aa (.bl (b.any mR),S) else aD
abbrev r1(r:V->Hp->VK->Prop):List V->Hp->VK->Prop
 |[x],H,Q=>r x H Q
 |_,_,_=>False
def cY(h:r1 r b H Q):∃x,b=[x]/\r x H Q:=by
 match b,h with
 |[x],h=>exact⟨x,rfl,h⟩
def wp:aS X (.builtin "len") (r1 (rSq X.K cg)):=by
 refine aS.imp oO λf H Q h=>?_;obtain⟨_,rfl,m,S,T,c,a,v,d,g,R,rfl,b,vd,e,q⟩:=cY h;cases e;exact⟨a,v,rfl,kZ b,q m H _ (Aft.refl R) (by rw[vd.length];exact bt)⟩
def wq:aS X (.type "tuple") (r1 (rSq X.K ji)):=by
 refine aS.imp mP λf H Q h=>?_;obtain⟨_,rfl,m,S,T,c,a,v,d,g,R,rfl,b,vd,e,q⟩:=cY h;cases e;cases T with
 |false=>exact⟨a,v,rfl,.inl ⟨b,kr R vd q⟩⟩
 |true=>exact⟨a,v,rfl,.inr ⟨.of b,q m H _ (Aft.refl R) (oX b vd)⟩⟩
def tf:∀ {c:List D} {v:List V},VDs K m H c v->c.all wo=aT->v=(c.map mR).map V.bl
 |[],v,h,_=>by rw[VDs] at h;rw[h];rfl
 |d::c,v,h,f=>by
  rw[VDs] at h;obtain⟨x,r,rfl,p,q⟩:=h;rw[Yl,bAE] at f;cases d with
  |bl b=>rw[p.bls,tf q f.2];rfl
  |_=>simp[wo] at f
def Hq(b:List D):(b.map mR).all id=b.all mR:=by rw[YZ];rfl
def Hr(b:List D):(b.map mR).any id=b.any mR:=by rw[X0];rfl
def wr(hc:X.calm=aT):aS X (.builtin "all") (r1 (rSq X.K jj)):=by
 refine aS.imp (wa hc) λg H Q h=>?_;obtain⟨_,rfl,m,S,T,c,a,v,d,j,R,rfl,f,vd,e,q⟩:=cY h;unfold jj at e;split at e
 ·rename_i b;cases e;obtain⟨rfl,b⟩:=b;refine⟨a,c.map mR,rfl,?_,q m H _ (Aft.refl R) (by rw[Hq];exact ce)⟩;rw[<-tf vd b];exact f
 ·cases e
def wt(hc:X.calm=aT):aS X (.builtin "any") (r1 (rSq X.K mS)):=by
 refine aS.imp (wb hc) λg H Q h=>?_;obtain⟨_,rfl,m,S,T,c,a,v,d,j,R,rfl,f,vd,e,q⟩:=cY h;unfold mS at e;split at e
 ·rename_i b;cases e;obtain⟨rfl,b⟩:=b;refine⟨a,c.map mR,rfl,?_,q m H _ (Aft.refl R) (by rw[Hr];exact ce)⟩;rw[<-tf vd b];exact f
 ·cases e
abbrev rTm(K:WW)(f:Bool->List D->Option (List D)):V->Hp->VK->Prop:=λv H Q=>∃m S T g a j E,Rel K m S H/\v = .ref a/\SqB K T H a j/\VDs K m H g j/\f T g=aa E ∧
 ∀c h p n,Aft K m H S c h->h p=aa (.lst n)->p ∉ c->(∀b,b ∈ m->b ≠ p)->H p=aD->VDs K c h E n->Q (.ref p) h
def k9:aS X (.type "list") (r1 (rTm X.K λ_ b=>aa b)):=by
 refine aS.imp oP λf H Q h=>?_;obtain⟨_,rfl,m,S,T,b,a,v,E,R,rfl,c,vd,e,q⟩:=cY h;cases e;exact⟨a,v,rfl,kZ c,ku R vd q⟩
abbrev yS:D->D->Sto->Option (D × Sto)
 |.int i,.int j,S=>aa (.int (if j > i then j else i),S)
 |_,_,_=>aD
abbrev yT:D->D->Sto->Option (D × Sto)
 |.int i,.int j,S=>aa (.int (if j < i then j else i),S)
 |_,_,_=>aD
abbrev two(f:D->D->Sto->Option (D × Sto)):List D->Sto->Option (D × Sto)
 |[a,b],S=>f a b S
 |_,_=>aD
def yU(h:VDs K m H [a,b] c):∃v w,c=[v,w]/\VD K m H a v/\VD K m H b w:=by
 rw[VDs] at h;obtain⟨v,r,rfl,p,q⟩:=h;rw[VDs] at q;obtain⟨w,g,rfl,f,Q⟩:=q;rw[VDs] at Q;subst Q;exact⟨v,w,rfl,p,f⟩
def Ht(h:VDs K m H [a] b):∃v,b=[v]/\VD K m H a v:=by
 rw[VDs] at h;obtain⟨v,r,rfl,p,q⟩:=h;rw[VDs] at q;subst q;exact⟨v,rfl,p⟩
def qA(h:two f c S=aa r):∃a b,c=[a,b]/\f a b S=aa r:=by
 match c,h with
 |[a,b],h=>exact⟨a,b,rfl,h⟩
def tj(hc:X.calm=aT):aS X (.builtin "max") (rSA X.K (two yS)):=by
 refine aS.imp (vP hc) λg H Q h=>?_;obtain⟨m,S,f,d,j,R,vd,e,q⟩:=h;obtain⟨a,b,rfl,E⟩:=qA e;obtain⟨v,w,rfl,p,c⟩:=yU vd;cases a <;> cases b <;> simp[yS] at E;obtain⟨rfl,rfl⟩:=E;exact⟨_,_,by rw[p.ints,c.ints],q m H _ (Aft.refl R) bt⟩
def tw(hc:X.calm=aT):aS X (.builtin "min") (rSA X.K (two yT)):=by
 refine aS.imp (vQ hc) λg H Q h=>?_;obtain⟨m,S,f,d,j,R,vd,e,q⟩:=h;obtain⟨a,b,rfl,E⟩:=qA e;obtain⟨v,w,rfl,p,c⟩:=yU vd;cases a <;> cases b <;> simp[yT] at E;obtain⟨rfl,rfl⟩:=E;exact⟨_,_,by rw[p.ints,c.ints],q m H _ (Aft.refl R) bt⟩
inductive Ty where |int |bool |tuple |list |str
abbrev Ty.nm:Ty->String
 |.int => "int" |.bool => "bool" |.tuple => "tuple" |.list => "list" |.str => "str"
abbrev tyN(d:D)(S:Sto):Option String:=match d with
 |.non=>aa "NoneType" |.bl _=>aa "bool" |.int _=>aa "int" |.str _=>aa "str" |.tup _=>aa "tuple"
 | .ref n=>(match S[n]? with
  |some (.lst _)=>aa "list"
  |some (.frz _)=>aa "list"
  |some (.dic _ _)=>aa "dict"
  | none=>aD)
abbrev bU(t:Ty)(n:String):Bool:=n == t.nm || (match t with |.int=>n == "bool" |_=>aW)
abbrev iJ(t:Ty)(d:D)(S:Sto):Option (D × Sto):=(tyN d S).map λn=>(.bl (bU t n),S)
def CB(K:WW)(t:Ty):(W5 K (.type "NoneType") (.type t.nm)=aa (bU t "NoneType"))/\(W5 K (.type "bool") (.type t.nm)=aa (bU t "bool"))/\(W5 K (.type "int") (.type t.nm)=aa (bU t "int")) ∧
  (W5 K (.type "str") (.type t.nm)=aa (bU t "str"))/\(W5 K (.type "tuple") (.type t.nm)=aa (bU t "tuple"))/\(W5 K (.type "list") (.type t.nm)=aa (bU t "list"))/\(W5 K (.type "dict") (.type t.nm)=aa (bU t "dict")):=by
 cases t <;> exact⟨by kernel_rfl,by kernel_rfl,by kernel_rfl,by kernel_rfl,by kernel_rfl,by kernel_rfl,by kernel_rfl⟩
def LR(R:Rel K m S H)(vd:VD K m H d v)(e:tyN d S=aa n):TyOf K H v (.type n):=by
 cases d with
 |non=>cases e;cases vd.nons;exact .non
 |bl _=>cases e;cases vd.bls;exact .bl _
 |int _=>cases e;cases vd.ints;exact .int _
 |str _=>cases e;cases vd.strs;exact .str _
 |tup c=>cases e;obtain⟨a,f,rfl,p,_⟩:=vd.tups;exact .tup p
 |ref k=>
  simp only[tyN] at e;obtain⟨a,j,rfl⟩:=vd.refs;cases g:S[k]? with
  |none=>rw[g] at e;cases e
  |some o=>
   rw[g] at e;obtain⟨u,b,r⟩:=R.ob k o g;rw[j] at b;cases b;cases o with
   |lst c=>cases e;obtain⟨f,h,_⟩:=r;exact .lst h
   |frz c=>cases e;obtain⟨o,f,h,_⟩:=r;exact .frz h
   |dic q c=>cases e;obtain⟨f,h,_⟩:=r;exact .dK h
def yV(e:tyN d S=aa n):n = "NoneType"\/n = "bool"\/n = "int"\/n = "str"\/n = "tuple"\/n = "list"\/n = "dict" := by
 cases d with
 |ref k=>
  simp only[tyN] at e;cases h:S[k]? with
  |none=>rw[h] at e;cases e
  |some o=>rw[h] at e;cases o <;> cases e <;> simp
 |_=>cases e <;> simp
def Hu(K:WW)(t:Ty)(h:n = "NoneType"\/n = "bool"\/n = "int"\/n = "str"\/n = "tuple"\/n = "list"\/n = "dict"):W5 K (.type n) (.type t.nm)=aa (bU t n):=by
 obtain⟨a,b,c,d,e,f,g⟩:=CB K t;rcases h with rfl |rfl |rfl |rfl |rfl |rfl |rfl <;> assumption
abbrev LS(K:WW)(t:Ty)(T:TE):TE:=tCB (FK K) (fk T (fk (tC (.ty t.nm)) oH))
def CC(h:tE K (xUn (iJ t) x) j H Q):LS K t (tE K x) j H Q:=by
 obtain⟨m,p,S,d,y,E,R,e,q⟩:=h;obtain⟨a,f,o,e⟩:=ag e;refine⟨m,p,S,a,f,E,R,o,λm1 u v c g=>?_⟩;unfold iJ at e;cases b:tyN a f with
 |none=>rw[b] at e;cases e
 |some n=>
  rw[b] at e;cases e;exact⟨v,t.nm,_,_,rfl,LR c.rel g b,Hu K t (yV b),q m1 u _ c ce⟩
end
end Ev
namespace Ev
open PySem PySem.Spec PyProof.Rows L2
open PySem.W (KasT kas_sort kas_asc kas_desc kas_tail3 kas_descPart kas_count kas_place kas_bin kas_rev kas_ask KatTups)
abbrev eN{b:Type}(lt:Nat->Nat->Bool):KasT b->b
 |.ret a=>a
 |.ask i j k=>eN lt (k (lt i j))
abbrev KT{c:Type}(n:Nat)(P:c->Prop):KasT c->Prop
 |.ret a=>P a
 |.ask i j k=>i < n/\j < n/\∀b,KT n P (k b)
def KT.bind{c g:Type}{n:Nat}{P:c->Prop}{R:g->Prop}{f:c->KasT g}(o:∀a,P a->KT n R (f a)):∀ {t:KasT c},KT n P t->KT n R (t.bind f)
 |.ret a,h=>o a h
 |.ask i j k,h=>⟨h.1,h.2.1,λb=>KT.bind o (h.2.2 b)⟩
def KT.run{b:Type}{n:Nat}{P:b->Prop}{lt:Nat->Nat->Bool}:∀ {t:KasT b},KT n P t->P (eN lt t)
 |.ret a,h=>h
 |.ask i j k,h=>KT.run (t:=k (lt i j)) (h.2.2 (lt i j))
def qB{b:Type}{n:Nat}{P:b->Prop}{lt:Nat->Nat->Bool}{cmp:Nat->Nat->(Bool->Shared->Prop)->Shared->Prop}{s:Shared}(hc:∀i j,i < n->j < n->∀C:Bool->Shared->Prop,C (lt i j) s->cmp i j C s){Q:b->Shared->Prop} :
  ∀ {t:KasT b},KT n P t->Q (eN lt t) s->t.kasWp cmp Q s
 |.ret a,_,q=>q
 |.ask i j k,h,q=>hc i j h.1 h.2.1 _ (qB hc (h.2.2 (lt i j)) q)
abbrev Pm(n:Nat)(p:Array Nat):Prop:=p.Perm (Xu (Zh n))
def Pm.at{n i:Nat}(h:Pm n p)(c:0 < n):p.getD i 0 < n:=by
 by_cases hi:i < p.size
 ·have e:p.getD i 0=p[i]:=by simp[Array.getD,hi]
  rw[e];have b:p[i] ∈ p:=Array.getElem_mem hi;have:=h.mem_iff.mp b
  simpa using this
 ·have e:p.getD i 0=0:=by simp[Array.getD,hi]
  omega
def Pm.rev{n i j:Nat}(h:Pm n p):Pm n (kas_rev p i j):=(mirror_perm p i j _).trans h
def tx{n:Nat}(h:Pm n p)(c:0 < n):∀f m,KT n (λ_=>True) (kas_asc p f m)
 |0,_=>trivial
 | f+1,m=>⟨h.at c,h.at c,λb=>by
  cases b with
  |true=>exact trivial
  | false=>exact tx h c f (m+1)⟩
def ky{n:Nat}(c:0 < n):∀f (p:Array Nat) m q,Pm n p->KT n (λr:Array Nat × Nat × Nat=>Pm n r.1) (kas_desc f p m q)
 |0,p,m,q,h=>h
 | f+1,p,m,q,h=>⟨h.at c,h.at c,λb=>by
  cases b with
  |true=>
   show KT n _ (if q > 0 then kas_desc f (kas_rev p (m - (q+1)) m) (m+1) 0 else kas_desc f p (m+1) 0);split
   ·exact ky c f _ _ _ h.rev
   ·exact ky c f _ _ _ h
  | false=>exact⟨h.at c,h.at c,λd=>by
   cases d with
   |true=>exact h
   | false=>exact ky c f _ _ _ h⟩⟩
def qC{n:Nat}{p:Array Nat}(b:0 < n)(h:Pm n p)(m r:Nat):KT n (λr:Nat × Array Nat=>Pm n r.2) (kas_tail3 m r p):=KT.bind (P:=λ_=>True) (f:=λm=>KasT.ret (m,kas_rev p 0 _)) (λ_ _=>(show KT n (λr:Nat × Array Nat=>Pm n r.2) (KasT.ret (_,kas_rev p 0 _)) from h.rev)) (tx h.rev b _ _)
def jM{n:Nat}{p:Array Nat}(b:0 < n)(h:Pm n p)(m r:Nat):KT n (λr:Nat × Array Nat=>Pm n r.2) (kas_descPart m r p):=KT.bind (λa c=>by
 show KT n _ (if a.2.2 > 0 then _ else _);split
 ·exact qC b (Pm.rev c) _ _
 ·exact qC b c _ _) (ky b _ _ _ _ h)
def yW{n:Nat}{p:Array Nat}(c:0 < n)(h:Pm n p)(r:Nat):KT n (λr:Nat × Array Nat=>Pm n r.2) (kas_count r p):=KT.bind (λa _=>by
 show KT n _ (if (a == r)=aT then _ else if a > 1 then _ else _);split
 ·exact h
 ·split
  ·exact⟨h.at c,h.at c,λb=>by
    cases b with
    |true=>exact h
    | false=>exact jM c h.rev _ _⟩
  ·exact jM c h _ _) (tx h c _ _)
def lc{n:Nat}{p:Array Nat}(c:0 < n)(h:Pm n p)(m:Nat):∀f l r,KT n (λ_=>True) (kas_place p m f l r)
 |0,_,_=>trivial
 |f+1,l,r=>by
  show KT n _ (if l ≥ r then _ else _);split
  ·exact trivial
  ·exact⟨h.at c,h.at c,λb=>by
    cases b with
    |true=>exact lc c h m f _ _
    | false=>exact lc c h m f _ _⟩
def yX{n:Nat}(b:0 < n):∀f (p:Array Nat) m,Pm n p->KT n (Pm n) (kas_bin f p m)
 |0,p,_,h=>h
 |f+1,p,m,h=>KT.bind (λl _=>yX b f _ _ ((bubble_perm p m _).trans h)) (lc b h m _ _ _)
def oZ{n:Nat}(b:0 < n):KT n (Pm n) (kas_sort n):=KT.bind (λr h=>by
 show KT n _ (if r.1 < n then _ else _);split
 ·exact yX b _ _ _ h
 ·exact h) (yW b (Array.Perm.refl _) n)
section
variable {prog:Program} {w:World} {A:Around} {E:Value->Shared->Prop} {s:Shared}
def o0{a:Addr}{v:List Value}{n:Nat}{P:PySem.Fin->Shared->Prop}(z:s.heap.get? a=aa (seqObj "list" v.toArray n))(J:v.length < 64)(I:SortKind)(lt:Nat->Nat->Bool)
  (hk:2<=v.length->∀ (Q:SortKind->Shared->Prop),Q I { s with heap:=((s.heap.update a (Obj.mapSeq λ_=>#[])).push (seqObj "tuple" v.toArray 0)).push (seqObj "list" #[] 0) }->wpAny (model prog w) A (keyKind' v.toArray) Q E { s with heap:=((s.heap.update a (Obj.mapSeq λ_=>#[])).push (seqObj "tuple" v.toArray 0)).push (seqObj "list" #[] 0) })
  (O:∀i j,i < v.length->j < v.length->∀C:Bool->Shared->Prop,C (lt i j) { s with heap:=((s.heap.update a (Obj.mapSeq λ_=>#[])).push (seqObj "tuple" v.toArray 0)).push (seqObj "list" #[] 0) } ->
   kas_ask prog w A I v i j C { s with heap:=((s.heap.update a (Obj.mapSeq λ_=>#[])).push (seqObj "tuple" v.toArray 0)).push (seqObj "list" #[] 0) })
  (h:P (.done (.ret .none)) { s with heap:=sortedHeap s.heap a v (if v.length < 2 then v.toArray else Xu ((eN lt (kas_sort v.length)).toList.map λi=>v.getD i Value.none)) }) :
  wpAny (model prog w) A (Builtin.«list.sort» ⟨[.ref a],[]⟩) P E s:=by
 rw[list_sort_plain];have X:a < s.heap.objs.size:=Zp z;refine VY (listItems_at z rfl ?_);refine VY (listUpdate_at z rfl ?_);obtain⟨L,y⟩:∃L,(s.heap.update a (Obj.mapSeq λ_=>#[])).get? a=aa (seqObj "list" #[] L):=⟨_,get?_update_seq z (λ_=>#[])⟩;refine VY (seqEpoch_at y rfl ?_);refine VY (wpAny_newTuple ?_);refine VY (V9 ?_);refine V5 ?_
 have c:(((s.heap.update a (Obj.mapSeq λ_=>#[])).push (seqObj "tuple" v.toArray 0)).push (seqObj "list" #[] 0)).get? a=aa (seqObj "list" #[] L):=by
  rw[Xj _ _ _ (by rw[size_push',Xr];exact Zz (Yq X)),Xj _ _ _ (by rw[Xr];exact Zz X)];exact y
 show wpAny (model prog w) A _ P E { s with heap:=((s.heap.update a (Obj.mapSeq λ_=>#[])).push (seqObj "tuple" v.toArray 0)).push (seqObj "list" #[] 0) };dsimp only;have B:v.toArray.size=v.length:=by simp
 by_cases q:v.toArray.size < 2
 ·rw[if_pos q,if_pos q];refine VY (Ud ?_);rw[StateT.run_pure];refine VY (Ud ?_);dsimp only;refine VY (seqEpoch_at c rfl ?_);refine VY (listUpdate_at c rfl ?_ (hsz2:=by rw[XB];show(pairsOf v).size<=_;rw[pairsOf_size,VN];omega));simp only[bne_self_eq_false,ZY,if_false];rw[if_pos (by rw[<-B];exact q)] at h
  have e:Array.map (λx:Keyed=>x.2) (v.toArray.zip v.toArray)=v.toArray:=by
   apply Array.toList_inj.mp;rw[Array.toList_map,Array.toList_zip,List.map_snd_zip (by simp)]
  refine Ud ?_;show P _ { s with heap:=sortedHeap s.heap a v (Array.map (λx:Keyed=>x.2) (v.toArray.zip v.toArray)) };rw[e];exact h
 ·have f:2<=v.length:=by omega
  rw[if_neg q,if_neg q];rw[if_neg (by omega)] at h;refine VY (hk f _ ?_)
  refine VY (V8 (PySem.W.kat_run (κ:=I) (ks:=v) (Q:=λb u=>u={ s with heap:=((s.heap.update a (Obj.mapSeq λ_=>#[])).push (seqObj "tuple" v.toArray 0)).push (seqObj "list" #[] 0) }/\arrOf b=(eN lt (kas_sort v.length)).map (PySem.W.kas_item (v.toArray.zip v.toArray))/\(eN lt (kas_sort v.length)).size=v.length/\failedOf b=aD)
   (G:=λp u=>u={ s with heap:=((s.heap.update a (Obj.mapSeq λ_=>#[])).push (seqObj "tuple" v.toArray 0)).push (seqObj "list" #[] 0) }/\p=eN lt (kas_sort v.length)) rfl f J (λp b u Y a2 Z U=>⟨U.1,U.2 ▸ a2,U.2 ▸ Y,Z⟩) (qB O (oZ (by omega)) ⟨rfl,rfl⟩)) ?_ λ_ _ e=>e)
  rintro⟨⟨⟩,b⟩ u ⟨rfl,T,o,hf⟩;dsimp only;have g:=PySem.W.kat_snds rfl T;refine VY (seqEpoch_at c rfl ?_);rw[g];refine VY (listUpdate_at c rfl ?_ (hsz2:=by rw[Zn,Za,ZL,o,VN];omega));rw[hf];simp only[bne_self_eq_false,ZY,if_false];exact Ud h
end
section
variable {prog:Program} {w:World} {A:Around} {E:Value->Shared->Prop} {s:Shared}
def ww(hl:s.heap.IsList l v.toArray)(y:v.length < 64)(u:SortKind)(lt:Nat->Nat->Bool)
  (I:2<=v.length->∀ (A:Around) (g:Shared),(∀b o,s.heap.get? b=aa o->g.heap.get? b=aa o)->∀ (E:Value->Shared->Prop) (Q:SortKind->Shared->Prop),Q u g->wpAny (model prog w) A (keyKind' v.toArray) Q E g)
  (f:∀ (A:Around) (g:Shared),(∀b o,s.heap.get? b=aa o->g.heap.get? b=aa o)->∀i j,i < v.length->j < v.length->∀C:Bool->Shared->Prop,C (lt i j) g->kas_ask prog w A u v i j C g)
  (h:Q (.ref (s.heap.objs.size+1)) { s with heap:=sortedAll s.heap v (if v.length < 2 then v.toArray else Xu ((eN lt (kas_sort v.length)).toList.map λi=>v.getD i Value.none)) }) :
  wpAny (model prog w) A (call (.builtin "sorted") [.ref l]) Q E s:=by
 refine WC kind_sorted plain_sorted entry_sorted (args_sorted1 _) ?_;unfold Builtin.«sorted»;refine VY (m:=checkCount "sorted" 1 1 _) (Ud ?_);refine VY (collect_list hl ?_);refine VY (V9 ?_)
 have n:((s.heap.push (seqObj "list" #[] 0)).update s.heap.objs.size (Obj.mapSeq (·++v.toArray))).objs.size=s.heap.objs.size+1:=by
  rw[Xr,size_push']
 have p:(((s.heap.push (seqObj "list" #[] 0)).update s.heap.objs.size (Obj.mapSeq (·++v.toArray))).push (seqObj "list" v.toArray 0)).get? (s.heap.objs.size+1)=aa (seqObj "list" v.toArray 0):=by
  rw[<-n];exact Zw _ rfl
 have keep:∀b o,s.heap.get? b=aa o->(((((s.heap.push (seqObj "list" #[] 0)).update s.heap.objs.size (Obj.mapSeq (·++v.toArray))).push (seqObj "list" v.toArray 0)).update (s.heap.objs.size+1) (Obj.mapSeq λ_=>#[])).push (seqObj "tuple" v.toArray 0)).get? b=aa o:=λb o q=>by
  have f:b < s.heap.objs.size:=Zp q;refine Zg _ ?_;rw[XJ _ _ _ _ (Zz (Yq f))];refine Zg _ ?_;rw[XJ _ _ _ _ (Zz f)];exact Zg _ q
 show wpAny _ _ _ _ _ { s with heap:=((s.heap.push (seqObj "list" #[] 0)).update s.heap.objs.size (Obj.mapSeq (·++v.toArray))).push (seqObj "list" v.toArray 0) };rw[n];refine VY (V5 (V0 slot_list_sort ⟨_,p,rfl⟩ entry_list_sort (o0 p y u lt (λB Q q=>I B _ _ (λb o z=>Zg _ (keep b o z)) _ Q q) (λi j hi J C c=>f _ _ (λb o z=>Zg _ (keep b o z)) i j hi J C c) ⟨_,rfl,?_⟩) (args_list_sort _)));exact Ud ⟨_,rfl,h⟩
abbrev tz(x y:Int × Int):Bool:=if x.1 == y.1 then (if x.2 == y.2 then aW else decide (x.2 < y.2)) else decide (x.1 < y.1)
def yY{a b c d:Int}{n k:Nat}(q:s.heap.get? x=aa O)(j:O.data = .seq #[.int a z,.int b T] n)(p:s.heap.get? y=aa v)(B:v.data = .seq #[.int c o,.int d u] k)
  (h:C (tz (a,b) (c,d)) s):wpAny (model prog w) A (keyLt' (tuples' aT) (.ref x) (.ref y)) C E s:=by
 refine PySem.W.kat_lt q j p B ?_;show PySem.W.KatLex prog w A aT _ C [(.int a z,.int c o),(.int b T,.int d u)] 0 s;unfold tz at h;refine V2 ?_;cases g:a == c with
 |true=>
  rw[if_pos rfl];simp only[g,if_true] at h;refine V2 ?_;cases f:b == d with
  |true=>rw[if_pos rfl];simp only[f,if_true] at h;exact h
  |false=>
   rw[if_neg Zf];simp only[f,ZY,if_false] at h;exact PySem.W.kat_one _ _ (lt_int h)
 |false=>
  rw[if_neg Zf];simp only[g,ZY,if_false] at h;exact oneLt_int h
end
end Ev
namespace Ev
open PySem PySem.Spec PyProof.Rows L2
open PySem.W (kas_sort KatTups)
section
variable {X:Cx} {K:WW} {m:List Addr} {H:Hp} {S:Sto}
inductive PairsV(H:Hp):List V->List (Int × Int)->Prop where
 |nil:PairsV H [] []
 |cons {r:Addr} {x y:Int} {vs:List V} {ps:List (Int × Int)}:H r=aa (.tup [.int x,.int y])->PairsV H vs ps->PairsV H (.ref r::vs) ((x,y)::ps)
abbrev mU(ps:List (Int × Int))(i j:Nat):Bool:=tz (ps.getD i (0,0)) (ps.getD j (0,0))
abbrev cL{α:Type}(ps:List (Int × Int))(d:α)(v:List α):List α:=if v.length < 2 then v else (eN (mU ps) (kas_sort v.length)).toList.map λi=>v.getD i d
def PairsV.len{v:List V}{ps:List (Int × Int)}(h:PairsV H v ps):v.length=ps.length:=by
 induction h with
 |nil=>rfl
 |cons _ _ I=>simp[I]
abbrev FM(h:Heap)(v:Value)(q:Int × Int):Prop:=∃r o b T n,v = .ref r/\h.get? r=aa o/\o.cls = .type "tuple"/\o.data = .seq #[.int q.1 b,.int q.2 T] n
def PairsV.heap{p:List (Addr × Obj)}{s:Shared}{f:L2.St}(I:Inv X p f H s){v:List V}{ps:List (Int × Int)}(h:PairsV H v ps):∀ {its:List Value},aP v its->∀ (i:Nat),i < its.length->FM s.heap (its.getD i Value.none) (ps.getD i (0,0)):=by
 induction h with
 |nil=>intro its r i hi;cases r;simp at hi
 |@cons r x y v ps hr _ ih=>
  intro its c i hi;cases c with
  |@cons _ u _ us r1 r2=>
   cases i with
   |zero=>
    cases r1;obtain⟨g,q,⟨o,e,j,n,hd⟩,_⟩:=I.tuple (SqT.of (K:=X.K) hr);obtain⟨a,b,rfl,⟨z,rfl⟩,⟨T,rfl⟩⟩:=uo q;exact⟨r,o,z,T,n,rfl,e,j,hd⟩
   |succ i=>
    have:=ih r2 i (by simpa using hi)
    simpa using this
def uE{h:Heap}:∀ {its:List Value} {ps:List (Int × Int)},(∀i,i < its.length->FM h (its.getD i Value.none) (ps.getD i (0,0)))->∃fs:List Value,KatTups h its fs/\fs.length=its.length/\∀v ∈ fs,∃i t,v = .int i t
 |[],_,_=>⟨[],KatTups.nil,rfl,λv b=>by simp at b⟩
 |v::its,ps,hp=>by
  obtain⟨r,o,T,j,n,c,e,f,hd⟩:=hp 0 (by simp)
  obtain⟨fs,k,g,hi⟩:=uE (its:=its) (ps:=ps.tail) λi hi=>by
   have:=hp (i+1) (by simpa using hi);cases ps with
   |nil=>simpa using this
   |cons _ _=>simpa using this
  have E:v = .ref r:=by simpa using c
  subst E
  exact⟨.int (ps.getD 0 (0,0)).1 T::fs,KatTups.cons e f hd rfl k,by simp[g],λw hw=>by
   rcases Zk.mp hw with rfl |hw
   ·exact⟨_,_,rfl⟩
   ·exact hi w hw⟩
def CD(r:aP v its){i:Nat}(hi:i < v.length):aI (v.getD i .non) (its.getD i Value.none):=by
 obtain⟨u,e,b⟩:=r.get (gEG hi);rw[Z3,Z3,gEG hi,e];exact b
def ny{v:List V}{its:List Value}(r:aP v its):∀ (l:List Nat),(∀i ∈ l,i < v.length)->aP (l.map λi=>v.getD i .non) (l.map λi=>its.getD i Value.none)
 |[],_=>.nil
 |i::l,h=>.cons (CD r (h i Zj)) (ny r l λj b=>h j (Zm _ b))
def o4{n:Nat}{lt:Nat->Nat->Bool}(b:0 < n):(∀i ∈ (eN lt (kas_sort n)).toList,i < n)/\(eN lt (kas_sort n)).toList.length=n:=by
 have h:Pm n (eN lt (kas_sort n)):=(oZ b).run;refine⟨λi hi=>?_,?_⟩
 ·have:=h.mem_iff.mp (Xy.mp hi)
  simpa using this
 ·have:=h.size_eq;rw[ZL,this];simp
def tB{b:Type}{ps:List (Int × Int)}{d:b}{v:List b}:(cL ps d v).length=v.length:=by
 unfold cL;split
 ·rfl
 ·rw[Za,(o4 (by lia)).2]
def tD:aS X (.builtin "sorted") (λxs H Q=>∃a g ps,xs=[.ref a]/\SqL X.K H a g/\PairsV H g ps/\g.length < 64/\∀p,H p=aD->Q (.ref p) (upd H p (.lst (cL ps .non g)))):=by
 intro Y s σ H xs us Q I r h;obtain⟨a,g,ps,rfl,sq,Z,h64,q⟩:=h;obtain⟨u,rfl,ru⟩:=ca r;cases ru;obtain⟨c,y,pl,hz⟩:=I.list sq;have f:=y.length;have B:=Z.heap I y;have hl2:=Z.len;refine ww pl.isList (by lia) (tuples' aT) (mU ps) (λh2 A L kp E Q' hq=>?_) (λA L kp i j hi hj C hC=>?_) ?_
 ·obtain⟨fs,kt,hf,hi⟩:=uE (h:=L.heap) λi hi=>by
   obtain⟨r,o,O,U,n,e1,e2,e3,e4⟩:=B i hi;exact⟨r,o,O,U,n,e1,kp _ _ e2,e3,e4⟩
  refine PySem.W.kat_kind (T:=.type "int") kt (by lia) (λv J=>?_) (by decide) hq;obtain⟨i,t,rfl⟩:=hi v J;exact PySem.W.Looks.of_pure rfl
 ·obtain⟨r1,o1,O,U,n1,a1,a2,a3,a4⟩:=B i hi;obtain⟨r2,o2,t3,t4,n2,b1,b2,b3,b4⟩:=B j hj;show wpAny _ A (keyLt' (tuples' aT) (c.getD i Value.none) (c.getD j Value.none)) C _ L;rw[a1,b1];exact yY (kp _ _ a2) a4 (kp _ _ b2) b4 hC
 ·have J:aP (cL ps .non g) (if c.length < 2 then c else (eN (mU ps) (kas_sort c.length)).toList.map λi=>c.getD i Value.none):=by
   unfold cL;rw[f];split
   ·exact y
   ·exact ny y _ λi hi=>by rw[f];exact(o4 (by lia)).1 i hi
  have eo:(if c.length < 2 then c.toArray else Xu ((eN (mU ps) (kas_sort c.length)).toList.map λi=>c.getD i Value.none))=(if c.length < 2 then c else (eN (mU ps) (kas_sort c.length)).toList.map λi=>c.getD i Value.none).toArray:=by split <;> rfl
  rw[eo];obtain⟨e,he⟩:=sortedAll_at s.heap c (if c.length < 2 then c else (eN (mU ps) (kas_sort c.length)).toList.map λi=>c.getD i Value.none).toArray;exact⟨.ref (s.heap.objs.size+1),_,I.laid (t':=s.toks) (a:=s.heap.objs.size+1) (o:=.lst (cL ps .non g)) (λb o z=>sortedAll_old z) (Yt _) ⟨by rw[tB];exact hz,_,e,J,he⟩,rfl,q _ (I.hok.fresh (Yt _))⟩
abbrev tF(x:Int):List Int->List Int
 |[]=>[x]
 |y::l=>if x<=y then x::y::l else y::tF x l
abbrev gL:List Int->List Int
 |[]=>[]
 |x::l=>tF x (gL l)
def jk(x:Int):∀l,(tF x l).Perm (x::l)
 |[]=>List.Perm.refl _
 |y::l=>by
  unfold tF;split
  ·exact List.Perm.refl _
  ·exact((jk x l).cons y).trans (List.Perm.swap x y l)
def bW:∀l,(gL l).Perm l
 |[]=>List.Perm.refl _
 |x::l=>(jk x (gL l)).trans ((bW l).cons x)
def jN(x:Int):∀l:List Int,l.Pairwise (·<=·)->(tF x l).Pairwise (·<=·)
 |[],_=>by unfold tF;simp
 |y::l,h=>by
  unfold tF;rw[Z8] at h;split
  ·rename_i c;refine Z8.mpr ⟨λz hz=>?_,Z8.mpr h⟩;rcases Zk.mp hz with rfl |hz
   ·exact c
   ·have:=h.1 z hz;lia
  ·rename_i c;refine Z8.mpr ⟨λz hz=>?_,jN x l h.2⟩;rcases Zk.mp ((jk x l).mem_iff.mp hz) with rfl |hz
   ·lia
   ·exact h.1 z hz
def iK:∀l,(gL l).Pairwise (·<=·)
 |[]=>List.Pairwise.nil
 |x::l=>jN x _ (iK l)
def lg:∀ {a b:List Int},a.Perm b->a.Pairwise (·<=·)->b.Pairwise (·<=·)->a=b
 |[],b,p,_,_=>(List.Perm.nil_eq p)
 |x::a,[],p,_,_=>(List.Perm.nil_eq p.symm).symm
 |x::a,y::b,p,ha,hb=>by
  rw[Z8] at ha hb
  have e:x=y:=by
   have h1:=p.mem_iff.mp (Zj (a:=x) (l:=a));have h2:=p.mem_iff.mpr (Zj (a:=y) (l:=b));rcases Zk.mp h1 with rfl |h1
   ·rfl
   ·rcases Zk.mp h2 with h2 |h2
    ·exact h2.symm
    ·have:=ha.1 y h2;have:=hb.1 x h1
     lia
  subst e;rw[lg (List.Perm.cons_inv p) ha.2 hb.2]
def cC:∀ {ns:List Int} {u:List Value},aP (ns.map V.int) u->IntsAre u ns
 |[],_,h=>by cases h;exact .nil
 |n::ns,_,h=>by
  cases h with
  |cons r1 r2=>obtain⟨t,rfl⟩:=r1;exact .cons n t (cC r2)
def tG:aS X (.builtin "sorted") (λy H Q=>∃a ns,y=[.ref a]/\SqL X.K H a (ns.map V.int)/\ns.length < 64/\∀p,H p=aD->Q (.ref p) (upd H p (.lst ((gL ns).map V.int)))):=by
 intro g s Y H y U Q I r h;obtain⟨a,ns,rfl,C,E,q⟩:=h;obtain⟨u,rfl,O⟩:=ca r;cases O;obtain⟨f,v,pl,j⟩:=I.list C;have c:=v.length;rw[Za] at c j;refine sorted_ints pl.isList (cC v) (by lia) λout n T L J=>?_;have e:n=gL ns:=lg (L.trans (bW ns).symm) J (iK ns);subst e;obtain⟨e,B⟩:=sortedAll_at s.heap f out;refine⟨.ref (s.heap.objs.size+1),_,I.laid (t':=s.toks) (a:=s.heap.objs.size+1) (o:=.lst ((gL ns).map V.int)) (λb o z=>sortedAll_old z) (Yt _) ⟨by rw[Za,(bW ns).length_eq];exact j,out.toList,e,gq T,by simpa using B⟩,rfl,q _ (I.hok.fresh (Yt _))⟩
abbrev lh:D->Option (Int × Int)
 |.tup [.int a,.int b]=>aa (a,b)
 |_=>aD
abbrev dr:List D->Option (List (Int × Int))
 |[]=>aa []
 |d::ds=>match lh d,dr ds with
  |some p,aa ps=>aa (p::ps)
  |_,_=>aD
abbrev fm:List D->Option (List Int)
 |[]=>aa []
 |d::ds=>match d,fm ds with
  |.int i,aa ms=>aa (i::ms)
  |_,_=>aD
abbrev tH(_:Bool)(b:List D):Option (List D):=match dr b with
 |some ps=>if b.length < 64 then aa (cL ps .non b) else aD
 | none=>(match fm b with
  |some ns=>if ns.length < 64 then aa ((gL ns).map D.int) else aD
  | none=>aD)
def iM:∀ {b:List D} {ns:List Int},fm b=aa ns->b=ns.map D.int
 |[],_,e=>by cases e;rfl
 |d::b,ns,e=>by
  simp only[fm] at e;split at e
  ·rename_i i c h;cases e;rw[iM h];rfl
  ·cases e
def gx:∀ {ns:List Int} {b:List V},VDs K m H (ns.map D.int) b->b=ns.map V.int
 |[],_,h=>by rw[Ym,VDs] at h;exact h
 |n::ns,_,h=>by
  rw[Zx,VDs] at h;obtain⟨v,r,rfl,c,f⟩:=h;rw[c.ints,gx f];rfl
def jl:∀ (ns:List Int),VDs K m H (ns.map D.int) (ns.map V.int)
 |[]=>by rw[Ym,Ym,VDs]
 |n::ns=>by rw[Zx,Zx,VDs];exact⟨_,_,rfl,bt,jl ns⟩
def qD:∀ {b:List D} {c:List V} {ps:List (Int × Int)},dr b=aa ps->VDs K m H b c->PairsV H c ps
 |[],c,ps,e,h=>by rw[VDs] at h;subst h;cases e;exact .nil
 |d::b,c,ps,e,h=>by
  rw[VDs] at h;obtain⟨v,r,rfl,o,j⟩:=h;simp only[dr] at e;cases hd:lh d with
  |none=>rw[hd] at e;cases e
  |some p=>
   cases f:dr b with
   |none=>rw[hd,f] at e;cases e
   |some Q=>
    rw[hd,f] at e;cases e;unfold lh at hd;split at hd
    ·cases hd;obtain⟨a,z,rfl,u,q⟩:=o.tups;obtain⟨x,y,rfl,g,n⟩:=yU q;cases g.ints;cases n.ints;exact .cons u (qD f j)
    ·cases hd
def uF(h:VDs K m H b c):∀ (l:List Nat),(∀i ∈ l,i < b.length)->VDs K m H (l.map λi=>b.getD i .non) (l.map λi=>c.getD i .non)
 |[],_=>by rw[Ym,Ym,VDs]
 |i::l,hl=>by
  rw[Zx,Zx,VDs];obtain⟨v,e,f⟩:=h.get (gEG (hl i Zj));refine⟨_,_,rfl,?_,uF h l λj g=>hl j (Zm _ g)⟩;rw[Z3,Z3,gEG (hl i Zj),e];exact f
def nz:aS X (.builtin "sorted") (r1 (rTm X.K λT b=>if T=aW then tH T b else aD)):=by
 refine aS.imp (aS.or tD tG) λo H Q h=>?_;obtain⟨_,rfl,m,S,T,b,a,v,es,R,rfl,g,vd,e,q⟩:=cY h;cases T with
 |true=>cases e
 |false=>
  have e:tH aW b=aa es:=by simpa using e
  unfold tH at e;cases f:dr b with
  |none=>
   rw[f] at e;dsimp only at e;cases hi:fm b with
   |none=>rw[hi] at e;cases e
   |some ns=>
    rw[hi] at e;dsimp only at e;split at e
    ·rename_i j;cases e;have E:=iM hi;subst E;have n:=gx vd;subst n;exact .inr ⟨a,ns,rfl,g,j,ku R (jl _) q⟩
    ·cases e
  |some ps=>
   rw[f] at e;dsimp only at e;split at e
   ·rename_i j;cases e;have c:=vd.length;refine .inl ⟨a,v,ps,rfl,g,qD f vd,by lia,ku R ?_ q⟩;unfold cL;rw[<-c];split
    ·exact vd
    ·exact uF vd _ λi hi=>(o4 (by lia)).1 i hi
   ·cases e
end
end Ev
namespace Ev
open PySem PySem.Spec PyProof.Rows L2
abbrev eO:List Int->Int
 |[]=>0
 |n::ns=>ns.foldl (λa b=>if a < b then b else a) n
def iO:∀ (ns:List Int) (n:Int),(ns.foldl (λa b=>if a < b then b else a) n) ∈ n::ns/\∀x ∈ n::ns,x<=ns.foldl (λa b=>if a < b then b else a) n
 |[],n=>⟨Zj,λx hx=>by simp at hx;subst hx;exact ZI _⟩
 |m::ns,n=>by
  obtain⟨g,f⟩:=iO ns (if n < m then m else n);rw[Y5];refine⟨?_,λx hx=>?_⟩
  ·rcases Zk.mp g with h |h
   ·rw[h];split <;> simp
   ·exact Zm _ (Zm _ h)
  ·have c:=f _ Zj;rcases Zk.mp hx with rfl |hx
   ·split at c <;> split <;> omega
   ·rcases Zk.mp hx with rfl |hx
    ·split at c <;> split <;> omega
    ·exact f x (Zm _ hx)
def yZ{M:Int}(h:M ∈ ns)(c:∀a,a ∈ ns->a<=M):M=eO ns:=by
 cases ns with
 |nil=>simp at h
 |cons n ns=>
  obtain⟨a,b⟩:=iO ns n;have:=c _ a;have:=b _ h;show M=ns.foldl _ n;omega
section
variable {X:Cx} {K:WW} {m:List Addr} {H:Hp} {S:Sto}
def wD(hc:X.calm=aT):aS X (.builtin "max") (λC H Q=>∃a ns,C=[.ref a]/\SqL X.K H a (ns.map V.int)/\ns ≠ []/\Q (.int (eO ns)) H):=by
 intro p s Y H C us Q I r h;obtain⟨a,ns,rfl,J,f,q⟩:=h;obtain⟨u,rfl,ru⟩:=ca r;cases ru;obtain⟨Z,U,pl,hz⟩:=I.list J;have hi:=cC U;have z:=pl.isList;obtain⟨y,e⟩:=hi.allInts.items
 have b:ns=y.toList.map (·.1):=by
  have g:=hi.numsOf;rw[<-nums_intItems,<-e];exact g.symm
 have c:0 < y.size:=by
  have B:0 < ns.length:=Xb.mpr f;rw[b,Za,ZL] at B;exact B
 rw[e] at z;refine max_intList (I.ok.hd hc) z c λv O T hv hk=>?_;obtain⟨t,rfl⟩:=Vw hv;obtain⟨b1,E⟩:=argBest_gt (numAt y) (y.size - 1);have n:∀M:Int,M ∈ ns->(∀a,a ∈ ns->a<=M)->∃x H',Inv X p Y H' { s with heap:=O,toks:=T }/\aI x (.int M t)/\Q x H':=λM g h2=>⟨.int (eO ns),H,I.kept hk,⟨t,by rw[yZ g h2]⟩,q⟩;refine n _ ?_ λa o=>?_
 ·rw[b,VE];exact getD_mem (by rw[Za,ZL];omega)
 ·rw[b] at o;obtain⟨j,L,rfl⟩:=mem_getD o;rw[Za,ZL] at L;rw[<-VE];exact E j (by omega)
def o5(q:A.handled=aD)(hl:s.heap.IsTuple l (Vv f))(n:0 < f.size)
  (h:∀v h' T,(Vv f)[argBest (λi j=>decide (numAt f i > numAt f j)) (f.size - 1)]?=aa v->(∀b o,s.heap.get? b=aa o->h'.get? b=aa o)->Q v { s with heap:=h',toks:=T }) :
  wpAny (model prog w) A (call (.builtin "max") [.ref l]) Q E s:=by
 have g:l < s.heap.objs.size:=by obtain⟨_,e,_⟩:=hl;exact Zp e
 refine call_max_walk (Ug hl ?_);refine⟨_,[_,l],[_],_,_,_,_,rfl,Walks.tuple (A:=A.in1) q _ l (Zz g) (Vv f),⟨⟨_,Zw _ rfl,rfl,rfl⟩,hl.push _⟩,λc hc=>?_,by simpa[Vv] using n,CmpOf.ints_gt (numAt f) (λ_ _=>Vw),λv h' T u p=>?_⟩
 ·show c < (s.heap.push _).objs.size;rw[Yn];rcases Zk.mp hc with rfl |hc
  ·exact YE _
  ·rcases Zk.mp hc with rfl |hc
   ·exact Yq g
   ·cases hc
 ·refine h v h' T (by simpa[Vv] using u) λb o e=>p b o (λhm=>?_) (Zg _ e);rcases Zk.mp hm with e1 |hm
  ·exact absurd (e1 ▸ Zp e) (ZS _)
  ·cases hm
def wG(hc:X.calm=aT):aS X (.builtin "max") (λE H Q=>∃a ns,E=[.ref a]/\SqT X.K H a (ns.map V.int)/\ns ≠ []/\Q (.int (eO ns)) H):=by
 intro p s Z H E us Q I r h;obtain⟨a,ns,rfl,L,f,q⟩:=h;obtain⟨u,rfl,ru⟩:=ca r;cases ru;obtain⟨g,Y,pl,hz⟩:=I.tuple L;have hi:=cC Y;have B:s.heap.IsTuple a g.toArray:=pl;obtain⟨y,e⟩:=hi.allInts.items
 have b:ns=y.toList.map (·.1):=by
  have n:=hi.numsOf;rw[<-nums_intItems,<-e];exact n.symm
 have c:0 < y.size:=by
  have C:0 < ns.length:=Xb.mpr f;rw[b,Za,ZL] at C;exact C
 rw[e] at B;refine o5 (I.ok.hd hc) B c λv U T hv hk=>?_;obtain⟨t,rfl⟩:=Vw hv;obtain⟨b1,J⟩:=argBest_gt (numAt y) (y.size - 1);have o:∀M:Int,M ∈ ns->(∀a,a ∈ ns->a<=M)->∃x H',Inv X p Z H' { s with heap:=U,toks:=T }/\aI x (.int M t)/\Q x H':=λM n h2=>⟨.int (eO ns),H,I.kept hk,⟨t,by rw[yZ n h2]⟩,q⟩;refine o _ ?_ λa z=>?_
 ·rw[b,VE];exact getD_mem (by rw[Za,ZL];omega)
 ·rw[b] at z;obtain⟨j,O,rfl⟩:=mem_getD z;rw[Za,ZL] at O;rw[<-VE];exact J j (by omega)
abbrev kn(T:Bool)(b:List D)(S:Sto):Option (D × Sto):=match fm b with
 |some (n::ns)=>aa (.int (eO (n::ns)),S)
 |_=>aD
def wH(hc:X.calm=aT):aS X (.builtin "max") (r1 (rSq X.K kn)):=by
 refine aS.imp (aS.or (wD hc) (wG hc)) λf H Q h=>?_;obtain⟨_,rfl,m,S,T,c,a,v,d,g,R,rfl,sq,vd,e,q⟩:=cY h;unfold kn at e;split at e
 ·rename_i n ns hi;cases e;have E:=iM hi;subst E;have b:=gx vd;subst b;rcases kZ sq with sq |sq
  ·exact .inl ⟨a,n::ns,rfl,sq,by simp,q m H _ (Aft.refl R) bt⟩
  ·exact .inr ⟨a,n::ns,rfl,sq,by simp,q m H _ (Aft.refl R) bt⟩
 ·cases e
abbrev y7(d:D)(S:Sto):Option (D × Sto):=match d with
 |.int i=>aa (.int i,S)
 |.bl b=>aa (.int (if b then 1 else 0),S)
 |_=>aD
def wJ:aS X (.type "int") (r1 (rS1 X.K y7)):=by
 refine aS.imp vR λc H Q h=>?_;obtain⟨x,rfl,m,S,a,d,f,R,v,e,q⟩:=cY h;cases a with
 |int i=>cases e;exact .inl ⟨i,by rw[v.ints],q m H _ (Aft.refl R) bt⟩
 |bl b=>cases e;exact .inr ⟨b,by rw[v.bls],q m H _ (Aft.refl R) bt⟩
 |_=>cases e
end
section
variable {X:Cx} {K:WW} {m:List Addr} {H:Hp} {S:Sto}
abbrev gM(d:D)(S:Sto):Bool:=match d with
 |.ref n=>(aH S n).isSome
 |_=>aW
abbrev isTup:D->Bool
 |.tup _=>aT
 |_=>aW
abbrev y8(c:D->Sto->Bool)(f:D->List D->Sto->Option (D × Sto))(x:XE)(y:XA):XE:=λb S=>bnd (x b S) λd g=>if c d g=aT then bnd (y b g) λh j=>f d h j else aD
abbrev rM(K:WW)(f:D->List D->Sto->Option (D × Sto)):V->List V->Hp->VK->Prop:=λv j H Q=>∃m S a c d g,Rel K m S H/\VD K m H a v/\VDs K m H c j/\f a c S=aa (d,g)/\∀b h u,Aft K m H g b h->VD K b h d u->Q u h
def tI(Y:∀ {m H S d v},Rel K m S H->VD K m H d v->c d S=aT->tyV K T v H)(h:tE K (y8 c f x y) O H Q):tBM K T (rM K f) (tE K x) (tAr K y) O H Q:=by
 obtain⟨m,j,S,d,C,E,R,e,q⟩:=h;obtain⟨a,z,U,e⟩:=ag e;split at e
 ·rename_i J;obtain⟨o,p,Z,e⟩:=ag e;refine⟨m,j,S,a,z,E,R,U,λm1 H1 v b n=>⟨Y b.rel n J,m1,j,z,o,p,E.mono R b.ext,b.rel,Z,λB H2 vs g vb=>?_⟩⟩;exact⟨B,p,a,o,d,C,g.rel,n.mono b.rel g.ext,vb,e,λI L u A3 vd=>q I L u ((b.trans g).trans A3) vd⟩
 ·cases e
def y9(R:Rel K m S H)(vd:VD K m H d v)(h:gM d S=aT):tyV K "list" v H:=by
 cases d with
 |ref n=>
  simp only[gM] at h;obtain⟨o,hs⟩:=Yk.mp h;obtain⟨p,f,g,c,j⟩:=R.seq hs;obtain⟨q,b,rfl⟩:=vd.refs;rw[g] at b;cases b;exact .inl ⟨rfl,f,c⟩
 |_=>cases h
def Hv(R:Rel K m S H)(vd:VD K m H d v)(h:(λd (_:Sto)=>isTup d) d S=aT):tyV K "tuple" v H:=by
 cases d with
 |tup f=>
  obtain⟨a,c,rfl,b,_⟩:=vd.tups;exact .inr (.inl ⟨rfl,.inr ⟨c,b⟩⟩)
 |_=>cases h
abbrev chg(n:Nat)(S:Sto)(f:List D->Option (D × List D)):Option (D × Sto):=match S[n]? with
 |some (.lst ds)=>(f ds).map λr=>(r.1,S.set n (.lst r.2))
 |_=>aD
def qE{n:Nat}(h:chg n S f=aa (d,j)):∃b E,S[n]?=aa (.lst b)/\f b=aa (d,E)/\j=S.set n (.lst E):=by
 unfold chg at h;cases g:S[n]? with
 |none=>rw[g] at h;cases h
 |some o=>
  rw[g] at h;cases o with
  |lst b=>
   dsimp only at h;cases c:f b with
   |none=>rw[c] at h;cases h
   |some r=>rw[c] at h;cases h;exact⟨b,r.2,rfl,c,rfl⟩
  |_=>cases h
abbrev tJ(d:D)(c:List D)(S:Sto):Option (D × Sto):=match d,c with
 |.ref n,[e]=>chg n S λb=>if b.length < 100000 then aa (.non,b++[e]) else aD
 |_,_=>aD
abbrev g8(d:D)(c:List D)(S:Sto):Option (D × Sto):=match d,c with
 |.ref n,[.int i]=>chg n S λb=>match ixN b.length i with
  |some k=>(b[k]?).map λx=>(x,b.eraseIdx k)
  |none=>aD
 |_,_=>aD
def tK{n:Nat}(R:Rel K m S H)(vd:VD K m H (.ref n) v)(f:S[n]?=aa (.lst c)):∃a vs,v = .ref a/\m[n]?=aa a/\H a=aa (.lst vs)/\VDs K m H c vs:=by
 obtain⟨a,vs,b,g,q⟩:=R.lst f;obtain⟨j,h,e⟩:=vd.refs;rw[b] at h;cases h;exact⟨a,vs,e,b,g,q⟩
def jm{n:Nat}(R:Rel K m S H)(h:m[n]?=aa a)(vd:VDs K m H E b):Aft K m H (S.set n (.lst E)) m (upd H a (.lst b)):=let ⟨x,y⟩:=R.write h vd;⟨x,y⟩
def Hw:MtR X "list.append" (rM X.K tJ):=by
 intro b s C H x O v u Q I U J h;refine ni b s C H x O v u Q I U J ?_;obtain⟨m,S,a,as,d,S',R,B,L,e,q⟩:=h;unfold tJ at e;split at e
 ·rename_i n z;obtain⟨Y,es,g,f,rfl⟩:=qE e;split at f
  ·rename_i Z;cases f;obtain⟨p,T,rfl,E,o,c⟩:=tK R B g;obtain⟨y,rfl,j⟩:=Ht L;refine⟨p,T,y,rfl,rfl,o,by rw[VN,<-c.length];lia,q m _ _ (jm R E (c.append (.cons j .nil))) sQ⟩
  ·cases f
 ·cases e
def qF:∀ {b:List D} {v:List V} (k:Nat),VDs K m H b v->VDs K m H (b.eraseIdx k) (v.eraseIdx k)
 |[],v,k,h=>by rw[VDs] at h;subst h;exact .nil
 |d::b,v,0,h=>by
  rw[VDs] at h;obtain⟨y,r,rfl,p,q⟩:=h;exact q
 |d::b,v,k+1,h=>by
  rw[VDs] at h;obtain⟨y,r,rfl,p,q⟩:=h;exact .cons p (qF k q)
def wK:MtR X "list.pop" (rM X.K g8):=by
 intro f s T H x xs v U Q I rx rs h;refine yp f s T H x xs v U Q I rx rs ?_;obtain⟨m,S,a,as,d,S',R,O,vs,e,q⟩:=h;unfold g8 at e;split at e
 ·rename_i n i;obtain⟨o,es,E,c,rfl⟩:=qE e;cases j:ixN o.length i with
  |none=>rw[j] at c;cases c
  |some k=>
   rw[j] at c;dsimp only at c;cases g:o[k]? with
   |none=>rw[g] at c;cases c
   |some z=>
    rw[g] at c;cases c;obtain⟨p,ws,rfl,Y,u,b⟩:=tK R O E;obtain⟨y,rfl,C⟩:=Ht vs;cases C.ints;obtain⟨y,Z,J⟩:=b.get g;have A:=jm R Y (qF k b);obtain⟨h1,h2,h3,h4⟩:=oI j;have L:=(I.lst u).choose_spec.choose_spec.2.2;have B:=b.length;rw[VN] at L;exact⟨p,ws,i,k,y,rfl,rfl,u,by lia,by lia,by rw[<-b.length];exact h1,Z,q m _ _ A (J.mono R A.ext)⟩
 ·cases e
abbrev tL(d:D)(b:List D)(S:Sto):Option (D × Sto):=match d,b with
 |.tup ds,[x]=>if cf x=aT/\ds.all cf=aT then aa (.int (ds.countP λz=>eqF z x:Nat),S) else aD
 |_,_=>aD
def CF:MtR X "tuple.count" (rM X.K tL):=by
 intro b s o H x E v u Q I L B h;refine wg X.K rfl b s o H x E v u Q I L B ?_;obtain⟨m,S,a,U,d,T,R,n,C,e,q⟩:=h;unfold tL at e;split at e
 ·rename_i O z;split at e
  ·rename_i f;cases e;obtain⟨p,J,rfl,j,c⟩:=n.tups;obtain⟨y,rfl,g⟩:=Ht C;exact⟨p,J,y,rfl,rfl,.of j,kw g f.1,iI c f.2,q m H _ (Aft.refl R) (by rw[nv g f.1 c f.2];exact bt)⟩
  ·cases e
 ·cases e
abbrev g9(o i v:D)(S:Sto):Option Sto:=match o,i with
 | .ref n,.int k=>(match S[n]? with
  |some (.lst ds)=>(ixN ds.length k).map λj=>S.set n (.lst (ds.set j v))
  | _=>aD)
 |_,_=>aD
abbrev LU(K:WW):BS:=λo i v H Q=>∃m S a b c f,Rel K m S H/\VD K m H a o/\VD K m H b i/\VD K m H c v/\g9 a b c S=aa f/\∀g h,Aft K m H f g h->Q h
def LV:GA X (LU X.K):=by
 intro f s T H o i v O iv u Q I J E L h;refine kO f s T H o i v O iv u Q I J E L ?_;obtain⟨m,S,a,b,c,S',R,U,vb,C,e,q⟩:=h;unfold g9 at e;split at e
 ·rename_i n k;cases y:S[n]? with
  |none=>rw[y] at e;cases e
  |some ob=>
   rw[y] at e;cases ob with
   |lst B=>
    dsimp only at e;cases z:ixN B.length k with
    |none=>rw[z] at e;cases e
    |some j=>
     rw[z] at e;cases e;obtain⟨p,Z,rfl,Y,hH,g⟩:=tK R U y;cases vb.ints;exact⟨p,Z,k,j,rfl,rfl,hH,by rw[<-g.length];exact z,q m _ (jm R Y (g.set C))⟩
   |_=>cases e
 ·cases e
end
@[inline]abbrev Nxt:=Nat->Sto->Option (Option D)
@[inline]abbrev XI:=Rho->Sto->Option (Nxt × Sto)
structure ExtB(B:List Addr)(m:List Addr)(H:Hp)(m':List Addr)(H':Hp):Prop where
 pre:m <+: m'
 keep:∀a o,H a=aa o->a ∉ m->a ∉ B->H' a=aa o
 new:∀a,a ∈ m'->a ∉ m->H a=aD
 nb:∀b,b ∈ B->b ∉ m'
abbrev AtB(B:List Addr)(m:List Addr)(H:Hp):Prop:=∀b,b ∈ B->(∃v,H b=aa (.lst v))/\b ∉ m
def Ext.toB(f:AtB B m H)(x:Ext m H c H'):ExtB B m H c H':=⟨x.pre,λa o h n _=>x.keep a o h n,x.new,λb hb z=>by
 obtain⟨⟨v,e⟩,n⟩:=f b hb;have:=x.new b z n;rw[e] at this;cases this⟩
def ExtB.trans(x:ExtB B m H m1 g)(y:ExtB B m1 g f H2):ExtB B m H f H2:=by
 refine⟨x.pre.trans y.pre,λa o h n nb=>?_,λa h n=>?_,y.nb⟩
 ·have c:a ∉ m1:=λz=>by have:=x.new a z n;rw[this] at h;cases h
  exact y.keep a o (x.keep a o h n nb) c nb
 ·by_cases b:a ∈ m1
  ·exact x.new a b n
  ·cases e:H a with
   |none=>rfl
   |some o=>
    by_cases hb:a ∈ B
    ·exact absurd h (y.nb a hb)
    ·have:=x.keep a o e n hb;rw[y.new a h b] at this;cases this
def AtB.ext(h:AtB B m H)(x:Ext m H c H'):AtB B c H':=λb hb=>by
 obtain⟨⟨v,e⟩,n⟩:=h b hb;exact⟨⟨v,x.keep _ _ e n⟩,(x.toB h).nb b hb⟩
abbrev IOk(K:WW)(B:List Addr)(J:It)(nx:Nxt)(m0:List Addr)(b:Hp):Prop:=∀ (m:List Addr) (S:Sto) (H:Hp) (i:Nat),ExtB B m0 b m H->Rel K m S H ->
 (nx i S=aa aD->J.stop i H)/\(∀d,nx i S=aa (aa d)->J.go i H/\∀x h,J.yld i H x h->Aft K m H S m h/\VD K m h d x)
abbrev tIt(K:WW)(B:List Addr)(x:XI):TI:=λg H R=>∃m c S nx f,EnvR K m H c g/\Rel K m S H/\AtB B m H/\x c S=aa (nx,f)/\∀b h J,Aft K m H f b h->IOk K B J nx b h->R J h
abbrev nxL(b:List D):Nxt:=λi _=>aa b[i]?
abbrev nxS(n:Nat):Nxt:=λi S=>(aH S n).map λb=>b[i]?
abbrev nxR(lo:Int)(n:Nat):Nxt:=λi _=>aa (if i < n then aa (.int (lo+i)) else aD)
abbrev LW(i:Nat)(d:D):D:=.tup [.int i,d]
abbrev enm(b:List D)(i:Nat):Option (Option D):=if i<=b.length then aa (b[i]?.map (LW i)) else aD
abbrev wL(b:List D):Nxt:=λi _=>enm b i
abbrev wM(n:Nat):Nxt:=λi S=>(aH S n).bind λb=>enm b i
section
variable {X:Cx} {K:WW} {m B:List Addr} {H:Hp} {S:Sto}
def CG(R:Rel K m0 g b)(c:AtB B m0 b)(x:ExtB B m0 b m H)(h:b a=aa (.tup f)):H a=aa (.tup f):=x.keep _ _ h (R.notTup h) λz=>by
 obtain⟨⟨v,e⟩,_⟩:=c a z;rw[e] at h;cases h
def VDs.monoB(R:Rel K m0 g b)(f:AtB B m0 b)(x:ExtB B m0 b m H)(h:VDs K m0 b c vs):VDs K m H c vs:=VDs.mono0 x.pre (λ_ _=>CG R f x) h
def VD.monoB(R:Rel K m0 f b)(c:AtB B m0 b)(x:ExtB B m0 b m H)(h:VD K m0 b d v):VD K m H d v:=VD.mono0 x.pre (λ_ _=>CG R c x) h
def EnvR.monoB(R:Rel K m0 g b)(c:AtB B m0 b)(x:ExtB B m0 b m H)(h:EnvR K m0 b f σ):EnvR K m H f σ:=
 ⟨h.len,λi d e=>let ⟨v,p,q⟩:=h.at_ i d e;⟨v,p,VD.monoB R c x q⟩⟩
def qG(h:∀m S H i o,ExtB B m0 H0 m H->Rel K m S H->nx i S=aa o->∃c b,o=c[i]?/\SqL K H a b/\VDs K m H c b):IOk K B (Itl K a) nx m0 H0:=by
 intro m S H i x R;refine⟨λe=>?_,λd e=>?_⟩
 ·obtain⟨c,b,E,f,vd⟩:=h m S H i _ x R e;exact⟨b,f,by rw[<-vd.length];exact ZW.mp E.symm⟩
 ·obtain⟨c,b,E,f,vd⟩:=h m S H i _ x R e;obtain⟨v,g,n⟩:=vd.get E.symm;refine⟨⟨b,v,f,g⟩,λy q ⟨j,p⟩=>?_⟩;subst j;have:=p b f;rw[g] at this;cases this;exact⟨Aft.refl R,n⟩
def CH(f:Rel K m0 q H0)(g:AtB B m0 H0)(n:H0 a=aa (.tup vs))(vd:VDs K m0 H0 j vs):IOk K B (Itt K a) (nxL j) m0 H0:=by
 intro m S H i x R;have b:SqT K H a vs:=.of (CG f g x n);have c:=vd.monoB f g x;refine⟨λe=>⟨vs,b,?_⟩,λd e=>?_⟩
 ·rw[<-c.length];exact ZW.mp (Option.some.inj e)
 ·obtain⟨v,h,o⟩:=c.get (Option.some.inj e);refine⟨⟨vs,v,b,h⟩,λy u ⟨E,p⟩=>?_⟩;subst E;have:=p vs b;rw[h] at this;cases this;exact⟨Aft.refl R,o⟩
def uG{lo:Int}{n:Nat}:IOk K B (Itr lo n) (nxR lo n) m0 H0:=by
 intro m S H i x R;unfold nxR;refine⟨λe=>?_,λd e=>?_⟩
 ·split at e
  ·cases e
  ·show n<=i;lia
 ·split at e
  ·rename_i hi;cases e;exact⟨hi,λy b ⟨E,h⟩=>by subst E;subst h;exact⟨Aft.refl R,bt⟩⟩
  ·cases e
def o6(h:∀m S H i o,ExtB B m0 H0 m H->Rel K m S H->nx i S=aa o->∃c b,enm c i=aa o/\g K H a b/\VDs K m H c b):IOk K B (Ite K a g) nx m0 H0:=by
 intro m S H i x R;refine⟨λe=>?_,λd e=>?_⟩
 ·obtain⟨c,b,E,f,vd⟩:=h m S H i _ x R e;unfold enm at E;split at E
  ·rename_i J;refine⟨b,f,?_⟩;rw[<-vd.length];cases hd:c[i]? with
   |none=>have:=ZW.mp hd;lia
   |some z=>rw[hd] at E;cases E
  ·cases E
 ·obtain⟨c,b,E,f,vd⟩:=h m S H i _ x R e;unfold enm at E;split at E
  ·cases hd:c[i]? with
   |none=>rw[hd] at E;cases E
   |some z=>
    rw[hd] at E;cases E;obtain⟨v,j,q⟩:=vd.get hd;refine⟨⟨b,v,f,j⟩,λy L ⟨T,n,u,I⟩=>?_⟩;subst u;have C:=I b v f j;subst C;have p:=Ext.beside R n (.tup [.int i,v]);exact⟨⟨p,R.beside n _⟩,oX ba (.cons bt (.cons (q.mono R p) .nil))⟩
  ·cases E
abbrev OX(d:D):Option Nxt:=match d with
 |.tup ds=>aa (nxL ds)
 |.ref n=>aa (nxS n)
 |_=>aD
abbrev xIV(x:XE):XI:=λc S=>bnd (x c S) λd b=>match d with
 |.tup ds=>aa (nxL ds,b)
 |.ref n=>if (aH b n).isSome=aT then aa (nxS n,b) else aD
 |_=>aD
abbrev xIT(x:XA):XI:=λc S=>bnd (x c S) λb f=>aa (nxL b,f)
abbrev xEV(x:XE):XI:=λc S=>bnd (x c S) λd b=>match d with
 |.tup ds=>aa (wL ds,b)
 |.ref n=>if (aH b n).isSome=aT then aa (wM n,b) else aD
 |_=>aD
abbrev xET(x:XA):XI:=λc S=>bnd (x c S) λb f=>aa (wL b,f)
abbrev lim(i:Int):Bool:=decide (-(2 ^ 62)<=i) && decide (i < 2 ^ 62)
abbrev xR1(x:XE):XI:=λb S=>bnd (x b S) λd c=>match d with
 |.int j=>if lim j=aT then aa (nxR 0 j.toNat,c) else aD
 |_=>aD
abbrev xR2(x y:XE):XI:=λb S=>bnd (x b S) λd c=>bnd (y b c) λe f=>match d,e with
 |.int i,.int j=>if lim i=aT/\lim j=aT then aa (nxR i (j - i).toNat,f) else aD
 |_,_=>aD
def jp{i:Int}(h:lim i=aT):-(2 ^ 62)<=i/\i < 2 ^ 62:=by simpa[lim] using h
def kz{n:Nat}(c:m0[n]?=aa a)(x:m0 <+: m)(R:Rel K m S H)(hs:aH S n=aa b):∃vs,SqL K H a vs/\VDs K m H b vs:=by
 obtain⟨p,vs,h,f,vd⟩:=R.seq hs;have:=cX x c;rw[this] at h;cases h;exact⟨vs,f,vd⟩
def LX(b:AtB B m H)(h:H a=aD):a ∉ B:=λz=>by
 obtain⟨⟨v,e⟩,_⟩:=b a z;rw[h] at e;cases e
def Oq(h:tIt K B (xIV x) L H R):xZ K (tE K x) L H R\/Li K (tE K x) L H R:=by
 obtain⟨m,J,S,nx,S',E,Q,U,e,q⟩:=h;obtain⟨d,S1,O,e⟩:=ag e;cases d with
 |tup T=>
  cases e;refine .inr ⟨m,J,S,_,_,E,Q,O,λm1 C v b vd=>?_⟩;obtain⟨a,z,rfl,g,c⟩:=vd.tups;exact⟨a,rfl,⟨z,.of g⟩,q m1 C _ b (CH b.rel (U.ext b.ext) g c)⟩
 |ref n=>
  dsimp only at e;split at e
  ·rename_i hs;cases e;refine .inl ⟨m,J,S,_,_,E,Q,O,λm1 C v b vd=>?_⟩;obtain⟨a,I,rfl⟩:=vd.refs;obtain⟨T,p⟩:=Yk.mp hs;obtain⟨z,g,c⟩:=kz I (Yv _) b.rel p;refine⟨a,rfl,⟨z,g⟩,q m1 C _ b (qG λm2 Z H2 i o Y R2 f=>?_)⟩;unfold nxS at f;cases u:aH Z n with
   |none=>rw[u] at f;cases f
   |some es=>
    rw[u] at f;cases f;obtain⟨ws,j,y⟩:=kz I Y.pre R2 u;exact⟨es,ws,rfl,j,y⟩
  ·cases e
 |_=>cases e
def Ot(h:tIt K B (xIT x) u H R):xZ K (dY K x) u H R:=by
 obtain⟨m,p,S,nx,Q,E,I,c,e,q⟩:=h;obtain⟨j,Y,y,e⟩:=ag e;cases e;refine⟨m,p,S,_,_,E,I,y,λm1 J a v b f n T z vd=>⟨a,rfl,⟨v,.of f⟩,q m1 J _ b (qG λO U L i o g R2 C=>?_)⟩⟩;cases C;exact⟨j,v,rfl,.of (g.keep _ _ f n (LX c z)),vd.monoB b.rel (c.ext b.ext) g⟩
def LY(h:tIt K B (xEV x) T H R):G7 K (fk (tE K x) oH) T H R\/LL K (fk (tE K x) oH) T H R:=by
 obtain⟨m,Q,S,nx,S',E,Z,O,e,q⟩:=h;obtain⟨d,S1,U,e⟩:=ag e;cases d with
 |tup J=>
  cases e;refine .inr ⟨m,Q,S,_,_,E,Z,U,λm1 I v b vd=>?_⟩;obtain⟨a,p,rfl,g,f⟩:=vd.tups;refine⟨a,p,rfl,.of g,q m1 I _ b (o6 λm2 Y H2 i o j R2 c=>⟨J,p,c,.of (CG b.rel (O.ext b.ext) j g),f.monoB b.rel (O.ext b.ext) j⟩)⟩
 |ref n=>
  dsimp only at e;split at e
  ·rename_i hs;cases e;refine .inl ⟨m,Q,S,_,_,E,Z,U,λm1 I v b vd=>?_⟩;obtain⟨a,L,rfl⟩:=vd.refs;obtain⟨J,y⟩:=Yk.mp hs;obtain⟨p,g,f⟩:=kz L (Yv _) b.rel y;refine⟨a,p,rfl,g,q m1 I _ b (o6 λm2 Y H2 i o j R2 c=>?_)⟩;unfold wM at c;cases z:aH Y n with
   |none=>rw[z] at c;cases c
   |some es=>
    rw[z] at c;obtain⟨ws,u,C⟩:=kz L j.pre R2 z;exact⟨es,ws,c,u,C⟩
  ·cases e
 |_=>cases e
def LZ(h:tIt K B (xET x) u H R):G7 K (fk (dY K x) oH) u H R:=by
 obtain⟨m,p,S,nx,Q,E,I,c,e,q⟩:=h;obtain⟨j,Y,y,e⟩:=ag e;cases e;exact⟨m,p,S,_,_,E,I,y,λm1 J a v b f n T z vd=>⟨a,v,rfl,.of f,q m1 J _ b (o6 λO U L i o g R2 C=>⟨j,v,C,.of (g.keep _ _ f n (LX c z)),vd.monoB b.rel (c.ext b.ext) g⟩)⟩⟩
def L1(h:tIt K B (xR1 x) c H R):FA (fk (tE K x) oH) c H R:=by
 obtain⟨m,o,S,nx,z,E,g,y,e,q⟩:=h;obtain⟨d,p,n,e⟩:=ag e;refine⟨m,o,S,d,p,E,g,n,λm1 u v f vd=>?_⟩;cases d with
 |int j=>
  dsimp only at e;split at e
  ·rename_i b;cases e;exact⟨j,by rw[vd.ints],(jp b).1,(jp b).2,q m1 u _ f uG⟩
  ·cases e
 |_=>cases e
def L3(h:tIt K B (xR2 x y) C H R):FB (fk (tE K x) (fk (tE K y) oH)) C H R:=by
 obtain⟨m,g,S,nx,T,E,n,Q,e,q⟩:=h;obtain⟨d,o,I,e⟩:=ag e;obtain⟨c,L,J,e⟩:=ag e;refine⟨m,g,S,d,o,E,n,I,λm1 U v f vd=>⟨m1,g,o,c,L,E.mono n f.ext,f.rel,J,λu p w O z=>?_⟩⟩;cases d with
 |int i=>
  cases c with
  |int j=>
   dsimp only at e;split at e
   ·rename_i b;cases e;exact⟨i,j,by rw[vd.ints,z.ints],⟨(jp b.1).1,(jp b.1).2,(jp b.2).1,(jp b.2).2⟩,q u p _ (f.trans O) uG⟩
   ·cases e
  |_=>cases e
 |_=>cases e
inductive Tg where
 |name (i:Nat) |tup (ts:List Tg)
mutual
noncomputable def av:Tg->D->Rho->Option Rho
 |.name i,d,ρ=>if i < ρ.length then aa (ρ.set i (aa d)) else aD
 |.tup ts,.tup ds,ρ=>aG ts ds ρ
 |_,_,_=>aD
noncomputable def aG:List Tg->List D->Rho->Option Rho
 |[],[],ρ=>aa ρ
 |t::ts,d::ds,ρ=>match av t d ρ with
  |some b=>aG ts ds b
  |none=>aD
 |_,_,_=>aD
end
abbrev tTg(K:WW)(t:Tg):TG:=λx g H Q=>∃m S f d b,Rel K m S H/\EnvR K m H f g/\VD K m H d x/\av t d f=aa b/\∀c,EnvR K m H b c->Q c H
abbrev zc(K:WW)(T:List Tg):TGs:=λj h H Q=>∃m S g f b,Rel K m S H/\EnvR K m H g h/\VDs K m H f j/\aG T f g=aa b/\∀c,EnvR K m H b c->Q c H
def EnvR.set{i:Nat}(E:EnvR K m H g c)(h:VD K m H d v):EnvR K m H (g.set i (aa d)) (c.set i (aa v)):=by
 refine⟨by simp[E.len],λj f e=>?_⟩;rw[YN] at e;rw[YN,<-E.len];by_cases b:i=j
 ·rw[if_pos b] at e ⊢;split at e
  ·rename_i n;rw[if_pos n];cases e;exact⟨v,rfl,h⟩
  ·cases e
 ·rw[if_neg b] at e ⊢;exact E.at_ j f e
def o7{i:Nat}(h:tTg K (.name i) x b H Q):mY i x b H Q:=by
 obtain⟨m,S,f,d,c,R,E,vd,e,q⟩:=h;simp only[av] at e;split at e
 ·cases e;exact q _ (E.set vd)
 ·cases e
def Hx{n:Nat}(p:n=T.length)(h:tTg K (.tup T) x o H Q):Lf K n (zc K T) x o H Q:=by
 obtain⟨m,S,f,d,b,R,E,vd,e,q⟩:=h;cases d with
 |tup c=>
  simp only[av] at e;obtain⟨a,j,rfl,g,v⟩:=vd.tups;refine⟨a,j,rfl,.of g,?_,m,S,f,c,b,R,E,v,e,q⟩
  have len:∀ (T:List Tg) (c:List D) (f b:Rho),aG T c f=aa b->T.length=c.length:=by
   intro T
   induction T with
   |nil=>intro c f b e;cases c with |nil=>rfl |cons _ _=>simp[aG] at e
   |cons t T I=>
    intro c f b e;cases c with
    |nil=>simp[aG] at e
    |cons d c=>
     simp only[aG] at e;split at e
     ·simp[I _ _ _ e]
     ·cases e
  rw[p,<-v.length];exact(len _ _ _ _ e).symm
 |_=>simp[av] at e
def CJ(h:zc K [] f c H Q):Lc f c H Q:=by
 obtain⟨m,S,j,b,g,R,E,vd,e,q⟩:=h;cases b with
 |nil=>simp[aG] at e;subst e;rw[VDs] at vd;exact⟨vd,q _ E⟩
 |cons _ _=>simp[aG] at e
def zd(h:zc K (t::T) o n H Q):Fz (tTg K t) (zc K T) o n H Q:=by
 obtain⟨m,S,g,c,f,R,E,vd,e,q⟩:=h;cases c with
 |nil=>simp[aG] at e
 |cons d c=>
  simp only[aG] at e;rw[VDs] at vd;obtain⟨y,r,rfl,p,u⟩:=vd;cases hb:av t d g with
  |none=>rw[hb] at e;cases e
  |some b=>
   rw[hb] at e;exact⟨y,r,rfl,m,S,g,d,b,R,E,p,hb,λv j=>⟨m,S,b,c,f,R,j,u,e,q⟩⟩
def PG.imp(h:PG X e t)(f:∀x b H Q,t' x b H Q->t x b H Q):PG X e t':=λp s b H v u Q I r q=>h p s b H v u Q I r (f v b H Q q)
def PGs.imp(h:PGs X E t)(f:∀x b H Q,t' x b H Q->t x b H Q):PGs X E t':=λp s b H v u Q I r q=>h p s b H v u Q I r (f v b H Q q)
end
inductive Fl where
 |nx |bk |ct |rt (d:D)
@[inline]abbrev XS:=Rho->Sto->Option (Fl × Rho × Sto)
abbrev qH(K:WW)(m:List Addr)(H:Hp)(f:Fl)(c:Rho)(D:Ends):Prop:=match f with
 |.nx=>∀b,EnvR K m H c b->D.nx b H
 |.bk=>∀b,EnvR K m H c b->D.bk b H
 |.ct=>∀b,EnvR K m H c b->D.ct b H
 |.rt d=>∀v,VD K m H d v->D.rt v H
abbrev tSt(K:WW)(x:XS):TS:=λD n H=>∃m f S j b g,EnvR K m H f n/\Rel K m S H/\x f S=aa (j,b,g)/\∀c h,Aft K m H g c h->qH K c h j b D
section
variable {X:Cx} {K:WW} {m:List Addr} {H:Hp} {S:Sto}
abbrev ze(x y:XS):XS:=λb S=>match x b S with
 |none=>aD
 |some (.nx,ρ1,S1)=>y ρ1 S1
 |some r=>aa r
abbrev FN:XS:=λb S=>aa (.nx,b,S)
def CK{D:Ends}{b:L2.St}{H:Hp}(h:tSt K FN D b H):Fw D b H:=by
 obtain⟨m,f,S,j,c,g,E,R,e,q⟩:=h;cases e;exact q m H (Aft.refl R) b E
def Hy{x y:XS}{D:Ends}{p:L2.St}{H:Hp}(h:tSt K (ze x y) D p H):K8 (tSt K x) (tSt K y) D p H:=by
 obtain⟨m,n,S,I,g,C,E,R,e,q⟩:=h;unfold ze at e;cases f:x n S with
 |none=>rw[f] at e;cases e
 |some r=>
  obtain⟨o,b,u⟩:=r;rw[f] at e;refine⟨m,n,S,o,b,u,E,R,f,λm1 j c=>?_⟩;cases o with
  |nx=>exactλv L=>⟨m1,b,u,I,g,C,L,c.rel,e,λB z J=>q B z (c.trans J)⟩
  |bk=>cases e;exact q m1 j c
  |ct=>cases e;exact q m1 j c
  |rt d=>cases e;exact q m1 j c
abbrev qI(x:XE):XS:=λb S=>match x b S with
 |none=>aD
 |some (_,S1)=>aa (.nx,b,S1)
abbrev zf(x:XE):XS:=λb S=>match x b S with
 |none=>aD
 |some (d,S1)=>aa (.rt d,b,S1)
abbrev L4:XS:=λb S=>aa (.ct,b,S)
def CL{x:XE}{D:Ends}{b:L2.St}{H:Hp}(h:tSt K (qI x) D b H):Fy (tE K x) D b H:=by
 obtain⟨m,g,S,u,j,p,E,R,e,q⟩:=h;unfold qI at e;cases c:x g S with
 |none=>rw[c] at e;cases e
 |some r=>
  obtain⟨d,o⟩:=r;rw[c] at e;cases e;exact⟨m,g,S,d,_,E,R,c,λm1 n v f _=>q m1 n f b (E.mono R f.ext)⟩
def Hz{x:XE}{D:Ends}{c:L2.St}{H:Hp}(h:tSt K (zf x) D c H):K9 (tE K x) D c H:=by
 obtain⟨m,f,S,u,j,p,E,R,e,q⟩:=h;unfold zf at e;cases b:x f S with
 |none=>rw[b] at e;cases e
 |some r=>
  obtain⟨d,o⟩:=r;rw[b] at e;cases e;exact⟨m,f,S,d,_,E,R,b,λm1 n v g vd=>q m1 n g v vd⟩
def HA{D:Ends}{b:L2.St}{H:Hp}(h:tSt K L4 D b H):Fx D b H:=by
 obtain⟨m,f,S,j,c,g,E,R,e,q⟩:=h;cases e;exact q m H (Aft.refl R) b E
abbrev xIf(c:XT)(x y:XS):XS:=λf S=>match c f S with
 |none=>aD
 |some (b,S1)=>if b=aT then x f S1 else y f S1
def L5{c:XT}{x y:XS}{D:Ends}{z:L2.St}{H:Hp}(h:tSt K (xIf c x y) D z H):La (tT K c) (tSt K x) (tSt K y) D z H:=by
 obtain⟨m,j,S,C,g,B,E,R,e,q⟩:=h;unfold xIf at e;cases p:c j S with
 |none=>rw[p] at e;cases e
 |some r=>
  obtain⟨b,u⟩:=r;rw[p] at e;dsimp only at e;refine⟨m,j,S,b,u,E,R,p,λm1 I f=>?_⟩;dsimp only;split
  ·rename_i hb;rw[if_pos hb] at e;exact⟨m1,j,u,C,g,B,E.mono R f.ext,f.rel,e,λo n v=>q o n (f.trans v)⟩
  ·rename_i hb;rw[if_neg hb] at e;exact⟨m1,j,u,C,g,B,E.mono R f.ext,f.rel,e,λo n v=>q o n (f.trans v)⟩
abbrev ls(x:XE)(t:Tg):XS:=λc S=>match x c S with
 |none=>aD
 |some (d,S1)=>(av t d c).map λb=>(.nx,b,S1)
def tM{x:XE}{t:Tg}{D:Ends}{j:L2.St}{H:Hp}(h:tSt K (ls x t) D j H):vK (tE K x) (tTg K t) D j H:=by
 obtain⟨m,b,S,B,p,z,E,R,e,q⟩:=h;unfold ls at e;cases f:x b S with
 |none=>rw[f] at e;cases e
 |some r=>
  obtain⟨d,y⟩:=r;rw[f] at e;dsimp only at e;cases hb:av t d b with
  |none=>rw[hb] at e;cases e
  |some o=>
   rw[hb] at e;cases e;exact⟨m,b,S,d,_,E,R,f,λm1 u v c vd=>⟨m1,_,b,d,_,c.rel,E.mono R c.ext,vd,hb,λg n=>q m1 u c g n⟩⟩
abbrev qJ(v o i:XE):XS:=λb S=>match v b S with
 |none=>aD
 |some (dv,S1)=>match o b S1 with
  |none=>aD
  |some (d_o,S2)=>match i b S2 with
   |none=>aD
   |some (di,S3)=>(g9 d_o di dv S3).map λc=>(.nx,b,c)
def CM{v o i:XE}{D:Ends}{u:L2.St}{H:Hp}(h:tSt K (qJ v o i) D u H):vK (tE K v) (Lg (tE K o) (tE K i) (LU K)) D u H:=by
 obtain⟨m,b,S,fl,ρ',S',E,R,e,q⟩:=h;unfold qJ at e;cases L:v b S with
 |none=>rw[L] at e;cases e
 |some r1=>
  obtain⟨j,J⟩:=r1;rw[L] at e;dsimp only at e;cases z:o b J with
  |none=>rw[z] at e;cases e
  |some r2=>
   obtain⟨p,C⟩:=r2;rw[z] at e;dsimp only at e;cases y:i b C with
   |none=>rw[y] at e;cases e
   |some Y=>
    obtain⟨n,O⟩:=Y;rw[y] at e;dsimp only at e;cases h4:g9 p n j O with
    |none=>rw[h4] at e;cases e
    |some S4=>
     rw[h4] at e;cases e;refine⟨m,b,S,j,J,E,R,L,λm1 H1 v1 c I=>⟨m1,b,J,p,C,E.mono R c.ext,c.rel,z,λU H2 v2 f B=>⟨U,b,C,n,O,E.mono R (c.trans f).ext,f.rel,y,λm3 H3 v3 g Q=>?_⟩⟩⟩;exact⟨m3,O,p,n,j,_,g.rel,B.mono f.rel g.ext,Q,I.mono c.rel (f.trans g).ext,h4,λm4 Z T=>q m4 Z (((c.trans f).trans g).trans T) u (E.mono R (((c.trans f).trans g).trans T).ext)⟩
abbrev cU(nx:Nxt)(T:Tg)(b:XS):Nat->Nat->XS
 |0,_=>λ_ _=>aD
 |k+1,i=>λf S=>match nx i S with
  |none=>aD
  |some aD=>aa (.nx,f,S)
  |some (aa d)=>match av T d f with
   |none=>aD
   |some c=>match b c S with
    |none=>aD
    |some (.nx,ρ2,S2)=>cU nx T b k (i+1) ρ2 S2
    |some (.ct,ρ2,S2)=>cU nx T b k (i+1) ρ2 S2
    |some (.bk,ρ2,S2)=>aa (.nx,ρ2,S2)
    |some (.rt d,ρ2,S2)=>aa (.rt d,ρ2,S2)
abbrev zg(I:XI)(T:Tg)(b:XS)(k:Nat):XS:=λc S=>match I c S with
 |none=>aD
 |some (nx,S1)=>cU nx T b k 0 c S1
abbrev lpW(K:WW)(nx:Nxt)(T:Tg)(b:XS)(m1:List Addr)(p:Hp)(D:Ends)(i k:Nat)(o:L2.St)(H:Hp):Prop:=∃m g S n c j,EnvR K m H g o/\Rel K m S H/\Ext m1 p m H/\cU nx T b k i g S=aa (n,c,j)/\∀f h,Aft K m H j f h->qH K f h n c D
def uH{nx:Nxt}{T:Tg}{b:XS}{tb:TS}{J:It}{m1:List Addr}{U:Hp}{D:Ends}(hI:IOk K [] J nx m1 U)(hbd:∀ {m:List Addr} {n:Rho} {S:Sto} {j:Fl} {c:Rho} {g:Sto} {D:Ends} {f:L2.St} {H:Hp},Ext m1 U m H->EnvR K m H n f->Rel K m S H->b n S=aa (j,c,g)->(∀p h,Aft K m H g p h->qH K p h j c D)->tb D f H)(k:Nat){m:List Addr}{n:Rho}{S:Sto}{f:L2.St}{H:Hp}{j:Fl}{c:Rho}{g:Sto}(E:EnvR K m H n f)(R:Rel K m S H)(x:Ext m1 U m H)(e:cU nx T b k 0 n S=aa (j,c,g))(q:∀p h,Aft K m H g p h->qH K p h j c D) :
  ∃W:Nat->Nat->L2.St->Hp->Prop,(∃m,W 0 m f H)/\∀i m f H,W i m f H ->
   (J.stop i H/\D.nx f H)\/(J.go i H/\∃N:L2.St->Hp->Prop,(∀B h,N B h->∃p,p < m/\W (i+1) p B h)/\∀x h,J.yld i H x h->tTg K T x f h λI H2=>tb { D with nx:=N,ct:=N,bk:=D.nx } I H2):=by
 refine⟨lpW K nx T b m1 U D,⟨k,m,n,S,j,c,g,E,R,x,e,q⟩,?_⟩;intro i k f H z;obtain⟨m,n,S,j,c,g,E,R,x,e,q⟩:=z;cases k with
 |zero=>simp[cU] at e
 |succ k=>
  simp only[cU] at e;cases Y:nx i S with
  |none=>rw[Y] at e;cases e
  |some o=>
   rw[Y] at e;obtain⟨h1,h2⟩:=hI m S H i (x.toB λb hb=>absurd hb (by simp)) R;cases o with
   |none=>cases e;exact .inl ⟨h1 Y,q m H (Aft.refl R) f E⟩
   |some d=>
    obtain⟨go,hy⟩:=h2 d Y;dsimp only at e;cases hb:av T d n with
    |none=>rw[hb] at e;cases e
    |some Q=>
     rw[hb] at e;dsimp only at e;cases hx:b Q S with
     |none=>rw[hx] at e;cases e
     |some r=>
      obtain⟨f2,O,S2⟩:=r;rw[hx] at e;refine .inr ⟨go,lpW K nx T b m1 U D (i+1) k,λB h z=>⟨k,YE k,z⟩,λy h yl=>?_⟩;obtain⟨A,vd⟩:=hy y h yl;refine⟨m,S,n,d,Q,A.rel,E.mono R A.ext,vd,hb,λI E2=>hbd (x.trans A.ext) E2 A.rel hx λZ H3 u=>?_⟩;cases f2 with
      |nx=>exactλC L=>⟨Z,O,S2,j,c,g,L,u.rel,(x.trans A.ext).trans u.ext,e,λm4 H4 A4=>q m4 H4 ((A.trans u).trans A4)⟩
      |ct=>exactλC L=>⟨Z,O,S2,j,c,g,L,u.rel,(x.trans A.ext).trans u.ext,e,λm4 H4 A4=>q m4 H4 ((A.trans u).trans A4)⟩
      |bk=>cases e;exactλC L=>q Z H3 (A.trans u) C L
      |rt d=>cases e;exactλv vd=>q Z H3 (A.trans u) v vd
def HB{I:XI}{T:Tg}{b:XS}{k:Nat}{D:Ends}{g:L2.St}{H:Hp}(h:tSt K (zg I T b k) D g H):Lj (tIt K [] I) (tTg K T) (tSt K b) D g H:=by
 obtain⟨m,f,S,z,u,y,E,R,e,q⟩:=h;unfold zg at e;cases hi:I f S with
 |none=>rw[hi] at e;cases e
 |some r=>
  obtain⟨nx,v⟩:=r;rw[hi] at e;exact⟨m,f,S,nx,v,E,R,λb hb=>absurd hb (by simp),hi,λm1 B J c o=>uH o (λ_ E R e q=>⟨_,_,_,_,_,_,E,R,e,q⟩) k (E.mono R c.ext) c.rel (Ext.refl _ _) e λn j p=>q n j (c.trans p)⟩
noncomputable abbrev kI(i:Int):Key:=Sum.inl i
abbrev wN(p:Nat)(c b:D)(S:Sto):Option Sto:=match c with
 | .int i=>(match S[p]? with
  |some (.dic ks ds)=>if (ks.all λa=>decide (a ≠ kI i))=aT/\ks.length < 1000 then aa (S.set p (.dic (ks++[kI i]) (ds++[b]))) else aD
  | _=>aD)
 |_=>aD
abbrev tN(p:Nat)(k v:XE):XS:=λb S=>match k b S with
 |none=>aD
 |some (dk,S1)=>match v b S1 with
  |none=>aD
  |some (dv,S2)=>(wN p dk dv S2).map λc=>(.nx,b,c)
abbrev wP(i own:Nat)(I:XI)(T:Tg)(k v:XE)(n:Nat):XS:=λb S=>match I b S with
 |none=>aD
 |some (nx,S1)=>match cU nx T (tN S1.length k v) n 0 (b++Zr own aD) (S1++[.dic [] []]) with
  |some (.nx,_,S2)=>aa (.nx,b.set i (aa (.ref S1.length)),S2)
  |_=>aD
abbrev bw(c:XT)(b:XS):Nat->XS
 |0=>λ_ _=>aD
 |k+1=>λf S=>match c f S with
  |none=>aD
  |some (aW,S1)=>aa (.nx,f,S1)
  |some (aT,S1)=>match b f S1 with
   |none=>aD
   |some (.nx,ρ2,S2)=>bw c b k ρ2 S2
   |some (.ct,ρ2,S2)=>bw c b k ρ2 S2
   |some (.bk,ρ2,S2)=>aa (.nx,ρ2,S2)
   |some (.rt d,ρ2,S2)=>aa (.rt d,ρ2,S2)
def zh{c:XT}{b:XS}{k:Nat}{D:Ends}{n:L2.St}{H:Hp}(h:tSt K (bw c b k) D n H):xW (tT K c) (tSt K b) D n H:=by
 refine⟨λk n H=>tSt K (bw c b k) D n H,⟨k,h⟩,λk n H h=>?_⟩;obtain⟨m,C,S,fl,y,Y,E,R,e,q⟩:=h;cases k with
 |zero=>simp[bw] at e
 |succ k=>
  simp only[bw] at e;cases L:c C S with
  |none=>rw[L] at e;cases e
  |some r=>
   obtain⟨Z,T⟩:=r;rw[L] at e;refine⟨m,C,S,Z,T,E,R,L,λm1 H1 f=>?_⟩;cases Z with
   |false=>cases e;exact q m1 H1 f n (E.mono R f.ext)
   |true=>
    dsimp only at e;cases I:b C T with
    |none=>rw[I] at e;cases e
    |some r=>
     obtain⟨f2,g,Q⟩:=r;rw[I] at e;refine⟨λu U=>tSt K (bw c b k) D u U,λu U z=>⟨k,YE k,z⟩,m1,C,T,f2,g,Q,E.mono R f.ext,f.rel,I,λB H3 o=>?_⟩;cases f2 with
     |nx=>exactλj p=>⟨B,g,Q,fl,y,Y,p,o.rel,e,λm4 J O=>q m4 J ((f.trans o).trans O)⟩
     |ct=>exactλj p=>⟨B,g,Q,fl,y,Y,p,o.rel,e,λm4 J O=>q m4 J ((f.trans o).trans O)⟩
     |bk=>cases e;exactλj p=>q B H3 (f.trans o) j p
     |rt d=>cases e;exactλv vd=>q B H3 (f.trans o) v vd
end
mutual
noncomputable def cZ:Tg->Rho->Bool
 |.name i,ρ=>match ρ[i]? with
  |some aD=>aT
  |_=>aW
 |.tup ts,ρ=>fH ts ρ
noncomputable def fH:List Tg->Rho->Bool
 |[],_=>aT
 |t::ts,ρ=>cZ t ρ && fH ts ρ
end
structure LeR(ρ ρ':Rho):Prop where
 len:ρ.length=ρ'.length
 at_:∀ (i:Nat) (d:D),ρ[i]?=aa (aa d)->ρ'[i]?=aa (aa d)
def LeR.refl(ρ:Rho):LeR ρ ρ:=⟨rfl,λ_ _ h=>h⟩
mutual
theorem qK:∀ {t:Tg} {d:D} {g b:Rho},LeR c g->cZ t c=aT->av t d g=aa b->LeR c b
 |.name i,d,g,b,l,f,e=>by
  simp only[av] at e;split at e
  ·cases e;refine⟨by simp[l.len],λj o h=>?_⟩;rw[YN];by_cases n:i=j
   ·subst n;simp only[cZ] at f;rw[h] at f;cases f
   ·rw[if_neg n];exact l.at_ j o h
  ·cases e
 |.tup ts,.tup ds,g,b,l,f,e=>by
  simp only[av] at e;simp only[cZ] at f;exact nB l f e
 |.tup ts,.non,_,_,_,_,e=>by simp[av] at e
 |.tup ts,.bl _,_,_,_,_,e=>by simp[av] at e
 |.tup ts,.int _,_,_,_,_,e=>by simp[av] at e
 |.tup ts,.str _,_,_,_,_,e=>by simp[av] at e
 |.tup ts,.ref _,_,_,_,_,e=>by simp[av] at e
theorem nB:∀ {T:List Tg} {h:List D} {c b:Rho},LeR g c->fH T g=aT->aG T h c=aa b->LeR g b
 |[],[],c,b,l,_,e=>by simp only[aG] at e;cases e;exact l
 |[],_::_,_,_,_,_,e=>by simp[aG] at e
 |_::_,[],_,_,_,_,e=>by simp[aG] at e
 |t::T,d::h,c,b,l,f,e=>by
  simp only[aG] at e;simp only[fH,bAE] at f;cases hb:av t d c with
  |none=>rw[hb] at e;cases e
  |some j=>rw[hb] at e;exact nB (qK l f.1 hb) f.2 e
end
section
variable {X:Cx} {K:WW} {m:List Addr} {H:Hp} {S:Sto}
def EnvR.weaken(E:EnvR K m H b σ)(l:LeR c b):EnvR K m H c σ:=⟨l.len.trans E.len,λi d h=>E.at_ i d (l.at_ i d h)⟩
abbrev bn(nx:Nxt)(T:Tg)(c:XA)(f:Rho):Nat->Nat->Sto->Option (List D × Sto)
 |0,_,_=>aD
 |k+1,i,S=>match nx i S with
  |none=>aD
  |some aD=>aa ([],S)
  |some (aa d)=>match av T d f with
   |none=>aD
   |some b=>bnd (c b S) λE h=>bnd (bn nx T c f k (i+1) h) λj g=>aa (E++j,g)
abbrev zi(t:XT)(c:XA):XA:=λf S=>bnd (t f S) λb g=>if b=aT then c f g else aa ([],g)
abbrev FO(x:XE):XA:=λb S=>bnd (x b S) λd c=>aa ([d],c)
abbrev jq(I:XI)(T:Tg)(c:XA)(k:Nat):XA:=λb S=>if cZ T b=aT then bnd (I b S) λnx f=>bn nx T c b k 0 f else aD
abbrev lu(own:Nat)(I:XI)(T:Tg)(c:XA)(k:Nat):XA:=λb S=>bnd (I b S) λnx g=>if cZ T (b++Zr own aD)=aT then
 (bnd (bn nx T c (b++Zr own aD) k 0 g) λE f=>if E.length<=100000 then aa (E,f) else aD) else aD
abbrev tCl(K:WW)(b:Addr)(c:XA):TS:=λD p H=>∃m j S E o z n,EnvR K m H j p/\Rel K m S H/\b ∉ m/\H b=aa (.lst n)/\VDs K m H z n/\z.length+E.length<=100000/\c j S=aa (E,o) ∧
 ∀g h f v,ExtB [b] m H g h->Rel K g o h->h b=aa (.lst v)->VDs K g h (z++E) v->EnvR K g h j f->D.nx f h
def zj(h:H c=aa (.lst v))(n:c ∉ m):AtB [c] m H:=λb hb=>by simp at hb;subst hb;exact⟨⟨v,h⟩,n⟩
def ExtB.refl(n:c ∉ m):ExtB [c] m H m H:=⟨Yv m,λ_ _ h _ _=>h,λ_ h n=>absurd h n,λb hb=>by simp at hb;subst hb;exact n⟩
def ExtB.put(n:c ∉ m)(o:HO):ExtB [c] m H m (upd H c o):=⟨Yv m,λa u h _ nb=>by
 rw[aC (λz=>nb (by simp[z]))];exact h,λ_ h n=>absurd h n,λb hb=>by simp at hb;subst hb;exact n⟩
def Rel.extB(R:Rel K m S H)(f:AtB [c] m H)(x:ExtB [c] m H m H')(k:∀b ∈ m,H' b=H b):Rel K m S H':=by
 refine⟨R.len,R.nd,λi o e=>?_⟩;obtain⟨b,hb,r⟩:=R.ob i o e;have h:b ∈ m:=Ze hb;refine⟨b,hb,?_⟩;cases o with
 |lst g=>obtain⟨v,p,q⟩:=r;exact⟨v,(k b h).trans p,VDs.monoB R f x q⟩
 |frz g=>obtain⟨o,v,p,q⟩:=r;exact⟨o,v,(k b h).trans p,VDs.monoB R f x q⟩
 |dic j g=>obtain⟨v,p,l,q⟩:=r;exact⟨v,(k b h).trans p,l,VDs.monoB R f x q⟩
def CN{c:Addr}{x:XE}{D:Ends}{u:L2.St}{H:Hp}(h:tCl K c (FO x) D u H):FI c (tE K x) D u H:=by
 obtain⟨m,O,S,es,T,Z,p,E,R,B,y,C,J,e,q⟩:=h;obtain⟨d,Y,Q,e⟩:=ag e;cases e;refine⟨m,O,S,d,_,E,R,Q,λm1 I v g vd=>?_⟩;have L:=zj y B;have j:I c=aa (.lst p):=g.ext.keep _ _ y B;have xB:=g.ext.toB L;have n:c ∉ m1:=xB.nb c (by simp);have o:=ExtB.put (H:=I) n (.lst (p++[v]));have f:=zj j n;have U:=C.length;simp only[Zy] at J;refine⟨p,j,by rw[VN];lia,q m1 _ u (p++[v]) (xB.trans o) (g.rel.extB f o λb hb=>aC λz=>n (z ▸ hb)) ba ?_ ((E.mono R g.ext).monoB g.rel f o)⟩;exact VDs.append ((C.mono R g.ext).monoB g.rel f o) (.cons (vd.monoB g.rel f o) .nil)
def CO{f:Addr}{t:XT}{c:XA}{D:Ends}{o:L2.St}{H:Hp}(h:tCl K f (zi t c) D o H):dX (tT K t) (tCl K f c) D o H:=by
 obtain⟨m,z,S,es,Y,zs,v,E,R,B,y,C,T,e,q⟩:=h;obtain⟨b,I,e1,e⟩:=ag e;refine⟨m,z,S,b,I,E,R,e1,λm1 J g=>?_⟩;have U:=zj y B;have j:J f=aa (.lst v):=g.ext.keep _ _ y B;have xB:=g.ext.toB U;have u:f ∉ m1:=xB.nb f (by simp);dsimp only;split
 ·rename_i hb;rw[if_pos hb] at e;exact⟨m1,z,I,es,Y,zs,v,E.mono R g.ext,g.rel,u,j,C.mono R g.ext,T,e,λO L n p x2 R2 h2 Q Z=>q O L n p (xB.trans x2) R2 h2 Q Z⟩
 ·rename_i hb;rw[if_neg hb] at e;cases e;refine q m1 J o v xB g.rel j ?_ (E.mono R g.ext);rw[Z4];exact C.mono R g.ext
def qL{t:TS}{D:Ends}{b:L2.St}{H:Hp}(h:t D b H):dX v7 t D b H:=by
 show if aT=aT then t D b H else D.nx b H
 rw[if_pos rfl];exact h
def HC{b:Addr}{c:XA}{D:Ends}{f:L2.St}{H:Hp}(h:tCl K b c D f H):dX v7 (tCl K b c) D f H:=by
 exact qL h
abbrev clW(K:WW)(b:Addr)(nx:Nxt)(T:Tg)(c:XA)(j:Rho)(m1:List Addr)(u:Hp)(p:Ends)(i k:Nat)(q:L2.St)(H:Hp):Prop:=∃m S o E z n,EnvR K m H j q/\Rel K m S H/\ExtB [b] m1 u m H/\H b=aa (.lst n)/\VDs K m H z n/\z.length+E.length<=100000/\bn nx T c j k i S=aa (E,o)/\∀g h f v,ExtB [b] m H g h->Rel K g o h->h b=aa (.lst v)->VDs K g h (z++E) v->EnvR K g h j f->p.nx f h
def uI(hI:IOk K [b] J nx m1 H1)(Z:∀D j H,tCl K b c D j H->ts D j H)(k:Nat)
  (fr:cZ T f=aT) (E:EnvR K m H f j) (R:Rel K m S H) (x:ExtB [b] m1 H1 m H) (n:H b=aa (.lst vs)) (I:VDs K m H zs vs) (hl:zs.length+L.length<=100000) (e:bn nx T c f k 0 S=aa (L,O))
  (q:∀u h g v,ExtB [b] m H u h->Rel K u O h->h b=aa (.lst v)->VDs K u h (zs++L) v->EnvR K u h f g->EE.nx g h):ql J (tTg K T) ts EE j H:=by
 refine⟨clW K b nx T c f m1 H1 EE,⟨k,m,S,O,L,zs,vs,E,R,x,n,I,hl,e,q⟩,?_⟩;intro i k j H z;obtain⟨m,S,O,L,zs,vs,E,R,x,n,I,hl,e,q⟩:=z;have C:b ∉ m:=x.nb b (by simp);have hB:=zj n C;cases k with
 |zero=>simp[bn] at e
 |succ k=>
  simp only[bn] at e;cases B:nx i S with
  |none=>rw[B] at e;cases e
  |some o=>
   rw[B] at e;obtain⟨h1,h2⟩:=hI m S H i x R;cases o with
   |none=>
    cases e;exact .inl ⟨h1 B,q m H j vs (ExtB.refl C) R n (by rw[Z4];exact I) E⟩
   |some d=>
    obtain⟨go,hy⟩:=h2 d B;dsimp only at e;cases hb:av T d f with
    |none=>rw[hb] at e;cases e
    |some p=>
     rw[hb] at e;dsimp only at e;obtain⟨e1,S1,c1,e⟩:=ag e;obtain⟨rs,S2,c2,e⟩:=ag e;cases e;rw[Zi] at hl;refine .inr ⟨go,clW K b nx T c f m1 H1 EE (i+1) k,λg h z=>⟨k,YE k,z⟩,λy h yl=>?_⟩;obtain⟨A,vd⟩:=hy y h yl;have xA:=A.ext.toB hB;have ha':h b=aa (.lst vs):=A.ext.keep _ _ n C;refine⟨m,S,f,d,p,A.rel,E.mono R A.ext,vd,hb,λσ2 E2=>Z _ _ _ ⟨m,p,S,e1,S1,zs,vs,E2,A.rel,C,ha',I.mono R A.ext,by lia,c1,λm3 H3 σ3 Y x3 R3 h3 v3 E3=>?_⟩⟩;refine⟨m3,S1,_,rs,zs++e1,Y,E3.weaken (qK (LeR.refl f) fr hb),R3,(x.trans xA).trans x3,h3,v3,by rw[Zi];lia,c2,λm4 H4 Q U x4 R4 h4 v4 E4=>?_⟩;refine q m4 H4 Q U ((xA.trans x3).trans x4) R4 h4 ?_ E4;rw[<-Yg];exact v4
def zk{b:Addr}{I:XI}{T:Tg}{t:TT}{c C:XA}{k:Nat}{D:Ends}{f:L2.St}{H:Hp}(n:∀D f H,tCl K b c D f H->dX t (tCl K b C) D f H)(h:tCl K b (jq I T c k) D f H):yB (tIt K [b] I) (tTg K T) t (tCl K b C) D f H:=by
 obtain⟨m,U,S,es,S',zs,vs,E,R,y,p,vz,O,e,q⟩:=h;unfold jq at e;split at e
 ·rename_i fr;obtain⟨nx,S1,e1,e⟩:=ag e;have u:=zj p y;refine⟨m,U,S,nx,S1,E,R,u,e1,λm1 H1 J g Z=>?_⟩;have xB:=g.ext.toB u;have o:b ∉ m1:=xB.nb b (by simp);exact uI Z n k fr (E.mono R g.ext) g.rel (ExtB.refl o) (g.ext.keep _ _ p y) (vz.mono R g.ext) O e λB z j v Y R2 h2 L Q=>q B z j v (xB.trans Y) R2 h2 L Q
 ·cases e
def EnvR.more(E:EnvR K m H b c)(n:Nat):EnvR K m H (b++Zr n aD) (c++Zr n aD):=by
 refine⟨by simp[E.len],λi d e=>?_⟩;by_cases hi:i < b.length
 ·rw[Zt hi] at e;rw[Zt (by rw[<-E.len];exact hi)];exact E.at_ i d e
 ·rw[Zo (by lia),Yp] at e;split at e <;> cases e
def uJ{own:Nat}{k:Nat}(y:∀acc D v H,tCl K acc c D v H->dX t (tCl K acc c') D v H)(h:dY K (lu own it tg c k) v H Q):LJ own (tIt K [] it) (tTg K tg) (λacc=>dX t (tCl K acc c')) v H Q:=by
 obtain⟨m,ρ,S,es,S',E,R,e,q⟩:=h;obtain⟨nx,S1,e1,e⟩:=ag e;split at e
 ·rename_i fr;obtain⟨es',O,e2,e⟩:=ag e;split at e
  ·rename_i Z;cases e;refine⟨m,ρ,S,nx,S1,E,R,λb hb=>absurd hb (by simp),e1,λm1 T J g hI acc f=>?_⟩;have x0:=Ext.beside g.rel f (.lst []);have R0:=g.rel.beside f (.lst []);have C:=g.rel.no f
   have B:IOk K [acc] J nx m1 (upd T acc (.lst [])):=by
    intro u O H2 i j R2;refine hI u O H2 i ⟨j.pre,λa o h n _=>?_,λa h n=>?_,λb hb=>absurd hb (by simp)⟩ R2
    ·have ne:a ≠ acc:=aU h f;exact j.keep a o (by rw[aC ne];exact h) n (by simp[ne])
    ·have:=j.new a h n;by_cases p:a=acc
     ·subst p;exact f
     ·rw[aC p] at this;exact this
   refine uI (zs:=[]) (vs:=[]) B (y acc) k fr ((E.mono R g.ext |>.mono g.rel x0).more own) R0 (ExtB.refl C) ba .nil (by simpa using Z) e2 λu H2 U I j R2 h2 Y E2=>?_
   have xx:Ext m1 T u H2:=⟨j.pre,λa o h n=>by
    have ne:a ≠ acc:=aU h f;exact j.keep a o (by rw[aC ne];exact h) n (by simp[ne]),λa h n=>by
    have:=j.new a h n;by_cases p:a=acc
    ·subst p;exact f
    ·rw[aC p] at this;exact this⟩
   have hn:H acc=aD:=by
    cases eh:H acc with
    |none=>rfl
    |some o=>
     by_cases L:acc ∈ m
     ·exact absurd (g.ext.pre.subset L) C
     ·have:=g.ext.keep acc o eh L;rw[f] at this;cases this
   exact q u H2 acc I (g.trans ⟨xx,R2⟩) h2 (j.nb acc (by simp)) (λb hb z=>C (g.ext.pre.subset (z ▸ hb))) hn (by simpa using Y)
  ·cases e
 ·cases e
end
section
variable {X:Cx} {K:WW} {m:List Addr} {H:Hp} {S:Sto}
abbrev zl(x y:XE):XE:=λb S=>bnd (x b S) λd c=>match d with
 |.bl aT=>y b c
 |.bl aW=>aa (.bl aW,c)
 |_=>aD
abbrev xOr(x y:XE):XE:=λb S=>bnd (x b S) λd c=>match d with
 |.bl aT=>aa (.bl aT,c)
 |.bl aW=>y b c
 |_=>aD
abbrev zm(d:D)(S:Sto):Option (D × Sto):=(fG d S).map λr=>(.bl (!r.1),r.2)
abbrev HD:D->Sto->Option (D × Sto)
 |.int i,S=>aa (.int (-i),S)
 |_,_=>aD
abbrev HE(c:XT)(x y:XE):XE:=λf S=>bnd (c f S) λb g=>if b=aT then x f g else y f g
def zn(h:tE K (zl x y) n H Q):Fu (tE K x) (tE K y) n H Q:=by
 obtain⟨m,f,S,d,B,E,R,e,q⟩:=h;obtain⟨a,g,u,e⟩:=ag e;refine⟨m,f,S,a,g,E,R,u,λm1 C v c j=>?_⟩;cases a with
 |bl b=>
  refine⟨b,j.bls,?_⟩;cases b with
  |true=>exact⟨m1,f,g,d,B,E.mono R c.ext,c.rel,e,λp o w z vd=>q p o w (c.trans z) vd⟩
  |false=>cases e;exact q m1 C _ c ce
 |_=>cases e
def FP(h:tE K (xOr x y) n H Q):K7 (tE K x) (tE K y) n H Q:=by
 obtain⟨m,f,S,d,B,E,R,e,q⟩:=h;obtain⟨a,g,u,e⟩:=ag e;refine⟨m,f,S,a,g,E,R,u,λm1 C v c j=>?_⟩;cases a with
 |bl b=>
  refine⟨b,j.bls,?_⟩;cases b with
  |false=>exact⟨m1,f,g,d,B,E.mono R c.ext,c.rel,e,λp o w z vd=>q p o w (c.trans z) vd⟩
  |true=>cases e;exact q m1 C _ c ce
 |_=>cases e
abbrev FQ(K:WW)(T:TE):TE:=λb H Q=>T b H λx h=>∃c,yc K x h c/\Q (.bl (!c)) h
def CP{a:Expr}{T:TE}{pos:Pos}(f:PE X a T):PE X (.UnaryOp .Not a pos) (FQ X.K T):=by
 intro p s b H Q I h;refine UnaryOp_ (thn (f p s b H _ I h) λv y ⟨x,u,g,r1,q⟩=>?_);obtain⟨c,n,q⟩:=q;exact not_of (thn (yd p y b u x v (λk H=>Q (.bl (!k)) H) g r1 ⟨c,n,q⟩) λk B ⟨j,o,z⟩=>⟨.bl (!k),j,o,rfl,z⟩)
def HF(h:tE K (xUn zm x) g H Q):FQ K (tE K x) g H Q:=by
 obtain⟨m,n,S,d,B,E,R,e,q⟩:=h;obtain⟨a,o,j,e⟩:=ag e;refine⟨m,n,S,a,o,E,R,j,λm1 p v c f=>?_⟩;obtain⟨⟨b,z⟩,u,y⟩:=YI.mp e;cases y;obtain⟨rfl,t⟩:=yR c.rel f u;exact⟨b,t,q m1 p _ c ce⟩
def CQ:UnR X (unaryOp .USub) (rS1 X.K HD):=by
 intro p s c H x v Q I f h;refine GO p s c H x v Q I f ?_;obtain⟨m,S,a,d,g,R,b,e,q⟩:=h;cases a with
 |int i=>cases e;exact⟨i,b.ints,q m H _ (Aft.refl R) bt⟩
 |_=>cases e
def HG(h:tE K (HE c x y) v H Q):tIf (tT K c) (tE K x) (tE K y) v H Q:=by
 obtain⟨m,n,S,d,u,E,R,e,q⟩:=h;obtain⟨b,o,z,e⟩:=ag e;refine⟨m,n,S,b,o,E,R,z,λm1 B f=>?_⟩;dsimp only;split
 ·rename_i hb;rw[if_pos hb] at e;exact⟨m1,n,o,d,u,E.mono R f.ext,f.rel,e,λj g w p vd=>q j g w (f.trans p) vd⟩
 ·rename_i hb;rw[if_neg hb] at e;exact⟨m1,n,o,d,u,E.mono R f.ext,f.rel,e,λj g w p vd=>q j g w (f.trans p) vd⟩
abbrev wQ(f g:D->D->Sto->Option (D × Sto))(x y z:XE):XE:=λh S=>bnd (x h S) λa p=>bnd (y h p) λb n=>bnd (f a b n) λr j=>match r with
 |.bl aT=>bnd (z h j) λc o=>g b c o
 |.bl aW=>aa (.bl aW,j)
 |_=>aD
def zo(h:tE K (wQ f g x y z) σ H Q):si (rS K f) (rS K g) (tE K x) (tE K y) (tE K z) σ H Q:=by
 obtain⟨m,p,S,d,Y,E,R,e,q⟩:=h;obtain⟨a,L,e1,e⟩:=ag e;obtain⟨b,J,e2,e⟩:=ag e;obtain⟨r,O,e3,e⟩:=ag e;refine⟨m,p,S,a,L,E,R,e1,λm1 H1 v j va=>⟨m1,p,L,b,J,E.mono R j.ext,j.rel,e2,λU H2 w n vb=>?_⟩⟩;refine⟨U,J,a,b,r,O,n.rel,va.mono j.rel n.ext,vb,e3,λC H3 u o Z=>?_⟩;cases r with
 |bl k=>
  refine⟨k,Z.bls,?_⟩;cases k with
  |true=>
   dsimp only at e;obtain⟨c,I,e4,e⟩:=ag e;exact⟨C,p,O,c,I,E.mono R ((j.trans n).trans o).ext,o.rel,e4,λm4 H4 y B vc=>⟨m4,I,b,c,d,Y,B.rel,vb.mono n.rel (o.trans B).ext,vc,e,λm5 T t A5 vd=>q m5 T t ((((j.trans n).trans o).trans B).trans A5) vd⟩⟩
  |false=>cases e;exact q C H3 _ ((j.trans n).trans o) ce
 |_=>cases e
abbrev zp(x y:XT):XT:=λc S=>bnd (x c S) λb f=>if b=aT then y c f else aa (aW,f)
abbrev HH(x y:XT):XT:=λc S=>bnd (x c S) λb f=>if b=aT then aa (aT,f) else y c f
abbrev zq(x:XT):XT:=λc S=>bnd (x c S) λb f=>aa (!b,f)
def zr(h:tT K (zp x y) j H Q):K5 (tT K x) (tT K y) j H Q:=by
 obtain⟨m,f,S,d,v,E,R,e,q⟩:=h;obtain⟨b,g,p,e⟩:=ag e;refine⟨m,f,S,b,g,E,R,p,λm1 z c=>?_⟩;dsimp only;split
 ·rename_i hb;rw[if_pos hb] at e;exact⟨m1,f,g,d,v,E.mono R c.ext,c.rel,e,λo n u=>q o n (c.trans u)⟩
 ·rename_i hb;rw[if_neg hb] at e;cases e;exact q m1 z c
def FR(h:tT K (HH x y) j H Q):tOr (tT K x) (tT K y) j H Q:=by
 obtain⟨m,f,S,d,v,E,R,e,q⟩:=h;obtain⟨b,g,p,e⟩:=ag e;refine⟨m,f,S,b,g,E,R,p,λm1 z c=>?_⟩;dsimp only;split
 ·rename_i hb;rw[if_pos hb] at e;cases e;exact q m1 z c
 ·rename_i hb;rw[if_neg hb] at e;exact⟨m1,f,g,d,v,E.mono R c.ext,c.rel,e,λo n u=>q o n (c.trans u)⟩
def HI(h:tT K (zq x) c H Q):K6 (tT K x) c H Q:=by
 obtain⟨m,j,S,d,p,E,R,e,q⟩:=h;obtain⟨b,o,g,e⟩:=ag e;cases e;exact⟨m,j,S,b,_,E,R,g,λm1 n f=>q m1 n f⟩
@[inline]abbrev Calls:=Nat->List D->Sto->Option (D × Sto)
abbrev spC(K:WW)(g:List D->Sto->Option (D × Sto))(n:Nat):Sp:=λj H Q _=>∃m b S d f,VDs K m H b j/\Rel K m S H/\b.length=n/\g b S=aa (d,f)/\∀c h v,Aft K m H f c h->VD K c h d v->Q v h
abbrev qM(g:List D->Sto->Option (D × Sto))(n:Nat)(x:XA):XE:=λc S=>bnd (x c S) λb f=>if b.length=n then g b f else aD
def CT{n:Nat}(h:tE K (qM g n x) B H Q):FD (spC K g n) [] E0 (tAr K x) B H Q:=by
 obtain⟨m,z,S,d,y,E,R,e,q⟩:=h;obtain⟨b,f,C,e⟩:=ag e;split at e
 ·rename_i u;refine⟨m,z,S,b,f,E,R,C,λm1 L J c vd=>⟨m1,b,f,d,y,by rw[Z4];exact vd,c.rel,u,e,λp j v I o=>q p j v (c.trans I) o⟩⟩
 ·cases e
end
mutual
inductive CE where |non |bl (b:Bool) |int (i:Int) |str (x:Str) |var (i:Nat) |con (k:Nat)(v:Int) |tup (es:List CE) |lst (es:List CE) |bin (o:BOp)(a b:CE) |neg (a:CE) |cmp (o:COp)(a b:CE) |chn (o p:COp)(a b c:CE) |and (a b:CE) |or (a b:CE) |not (a:CE) |ite (c a b:CE) |ix (a b:CE) |sl (a:CE)(lo hi:Option CE) |call (f:Nat)(es:List CE) |inst (t:Ty)(a:CE) |len (a:CE) |all (a:CE) |any (a:CE) |tupOf (a:CE) |listOf (a:CE) |listR (a:CE) |sset (a:CE) |srt (a:CE) |mxL (a:CE) |intOf (a:CE) |mx (a b:CE) |mn (a b:CE) |comp (own:List Str)(elt:CE)(cls:List Cl) |app (o e:CE) |popAt (o e:CE) |cnt (o e:CE)
inductive CI where
 |val (a:CE) |r1 (a:CE) |r2 (a b:CE) |en (a:CE)
inductive Cl where
 |mk (tg:Tg) (it:CI) (cond:Option CE)
end
abbrev ak:CE->Bool
 |.lst _=>aT |.comp _ _ _=>aT |.listOf _=>aT |.listR _=>aT |.sset _=>aT |.srt _=>aT
 |_=>aW
abbrev LF:Nat:=1000000
abbrev xNo{b:Type}:Rho->Sto->Option (b × Sto):=λ_ _=>aD
abbrev lv(x:XE):XA:=λc S=>bnd (x c S) λd b=>(ao d b).map λr=>(r.2,b)
abbrev cD(T:Bool)(b:List D):Option (List D):=if T=aW then tH T b else aD
abbrev wR(f:Bool->List D->Option (List D))(x:XA):XA:=λc S=>bnd (x c S) λb g=>(f aW b).map λE=>(E,g)
abbrev wU(f:Bool->List D->Option (List D))(x:XE):XA:=λc S=>bnd (x c S) λd b=>match ao d b with
 |some r=>(f r.1 r.2).map λE=>(E,b)
 |none=>aD
abbrev o8(ns:List Int):Bool:=decide (ns.Pairwise (· < ·)) && ns.all (λx=>decide (1<=x) && decide (x<=8)) && decide (ns.length < 8)
def wV{ns:List Int}(h:o8 ns=aT):ns.Pairwise (· < ·)/\(∀x ∈ ns,1<=x/\x<=8)/\ns.length < 8:=by
 unfold o8 at h;simp only[bAE,decide_eq_true_eq,ZJ] at h;exact⟨h.1.1,h.1.2,h.2⟩
abbrev nD(x:XE):XA:=λc S=>bnd (x c S) λd b=>match ao d b with
 | some (aW,ds)=>(match fm ds with
  |some ns=>if o8 ns=aT then aa (ds,b) else aD
  | none=>aD)
 |_=>aD
abbrev wW(x:XE):XA:=λb S=>bnd (x b S) λd c=>match d with
 |.int i=>if 0<=i/\i<=1000 then aa ((Zh i.toNat).map λj=>.int (Int.ofNat j),c) else aD
 |_=>aD
abbrev cnd(t:CE->XT):Option CE->XA->XA
 |some c,x=>zi (t c) x
 |none,x=>x
abbrev opt(t:CE->XE):Option CE->XO
 |some l=>td (t l)
 |none=>sZ
mutual
noncomputable def evE(C:Calls)(g:Nat->Nat):Nat->CE->XE
 |0,_=>xNo
 |n+1,e=>match e with
  |.non=>xC .non
  |.bl b=>xC (.bl b)
  |.int i=>xC (.int i)
  |.str x=>xC (.str x)
  |.var i=>wj i
  |.con _ v=>xC (.int v)
  |.tup es=>kj kl (evA C g n es)
  |.lst es=>cK (nu (evA C g n es))
  |.bin o a b=>qt (bF o) (evE C g n a) (evE C g n b)
  |.neg a=>xUn HD (evE C g n a)
  |.cmp o a b=>qt (az o) (evE C g n a) (evE C g n b)
  |.chn o p a b c=>wQ (az o) (az p) (evE C g n a) (evE C g n b) (evE C g n c)
  |.and a b=>zl (evE C g n a) (evE C g n b)
  |.or a b=>xOr (evE C g n a) (evE C g n b)
  |.not a=>xUn zm (evE C g n a)
  |.ite c a b=>HE (evT C g n c) (evE C g n a) (evE C g n b)
  |.ix a b=>if ak a=aT then sW (ci C g n a) (evE C g n b) else qt ixS (evE C g n a) (evE C g n b)
  |.sl a lo hi=>xSl (evE C g n a) (opt (evE C g n) lo) (opt (evE C g n) hi)
  |.call f es=>qM (C f) (g f) (evA C g n es)
  |.inst t a=>xUn (iJ t) (evE C g n a)
  |.len a=>if ak a=aT then qu cg (ci C g n a) else qv cg (evE C g n a)
  |.all a=>if ak a=aT then qu jj (ci C g n a) else qv jj (evE C g n a)
  |.any a=>if ak a=aT then qu mS (ci C g n a) else qv mS (evE C g n a)
  |.tupOf a=>if ak a=aT then qu ji (ci C g n a) else qv ji (evE C g n a)
  |.listOf a=>cK (if ak a=aT then ci C g n a else lv (evE C g n a))
  |.listR a=>cK (wW (evE C g n a))
  |.sset a=>cK (nD (evE C g n a))
  |.srt a=>cK (if ak a=aT then wR cD (ci C g n a) else wU cD (evE C g n a))
  |.mxL a=>if ak a=aT then qu kn (ci C g n a) else qv kn (evE C g n a)
  |.intOf a=>xUn y7 (evE C g n a)
  |.mx a b=>kj (two yS) (evA C g n [a,b])
  |.mn a b=>kj (two yT) (evA C g n [a,b])
  | .comp own elt cls=>cK (match cls with
   |[]=>xNo
   | ⟨tg,it,cond⟩::rest=>lu own.length (evI C g n it) tg (cnd (evT C g n) cond (gI C g n elt rest)) LF)
  |.app o a=>y8 gM tJ (evE C g n o) (evA C g n [a])
  |.popAt o a=>y8 gM g8 (evE C g n o) (evA C g n [a])
  |.cnt o a=>y8 (λd _=>isTup d) tL (evE C g n o) (evA C g n [a])
noncomputable def evA(C:Calls)(b:Nat->Nat):Nat->List CE->XA
 |0,_=>xNo
 |n+1,es=>match es with
  |[]=>Cr
  |e::es=>uz (evE C b n e) (evA C b n es)
noncomputable def ci(C:Calls)(b:Nat->Nat):Nat->CE->XA
 |0,_=>xNo
 |n+1,e=>match e with
  |.lst es=>nu (evA C b n es)
  |.listOf a=>if ak a=aT then ci C b n a else lv (evE C b n a)
  |.listR a=>wW (evE C b n a)
  |.sset a=>nD (evE C b n a)
  |.srt a=>if ak a=aT then wR cD (ci C b n a) else wU cD (evE C b n a)
  |.comp own elt cls=>match cls with
   |[]=>xNo
   |⟨tg,it,cond⟩::rest=>lu own.length (evI C b n it) tg (cnd (evT C b n) cond (gI C b n elt rest)) LF
  |_=>xNo
noncomputable def gI(C:Calls)(b:Nat->Nat):Nat->CE->List Cl->XA
 |0,_,_=>xNo
 |n+1,elt,cls=>match cls with
  |[]=>FO (evE C b n elt)
  |⟨tg,it,cond⟩::rest=>jq (evI C b n it) tg (cnd (evT C b n) cond (gI C b n elt rest)) LF
noncomputable def evI(C:Calls)(c:Nat->Nat):Nat->CI->XI
 |0,_=>xNo
 |n+1,it=>match it with
  |.val a=>if ak a=aT then xIT (ci C c n a) else xIV (evE C c n a)
  |.r1 a=>xR1 (evE C c n a)
  |.r2 a b=>xR2 (evE C c n a) (evE C c n b)
  |.en a=>if ak a=aT then xET (ci C c n a) else xEV (evE C c n a)
noncomputable def evT(C:Calls)(f:Nat->Nat):Nat->CE->XT
 |0,_=>xNo
 |n+1,e=>match e with
  |.cmp o a b=>xB (qt (az o) (evE C f n a) (evE C f n b))
  |.chn o p a b c=>xB (wQ (az o) (az p) (evE C f n a) (evE C f n b) (evE C f n c))
  |.and a b=>zp (evT C f n a) (evT C f n b)
  |.or a b=>HH (evT C f n a) (evT C f n b)
  |.not a=>zq (evT C f n a)
  |.ite _ _ _=>xNo
  |e=>CA (evE C f n e)
end
structure Tab where
 con:List (Str × Int)
 fns:List (Str × Nat)
structure Blk where
 sc:Scope
 fs:Option Scope
 N:List Str
abbrev Blk.glo(b:Blk)(x:Str):Bool:=b.sc.names.lookup x == aa .globalImplicit && !(x == ("__debug__" : Str))
abbrev Blk.vis(b:Blk)(x:Str):Bool:=(match b.sc.names.lookup x with
 |some .local=>aT
 |some .cell=>aT
 |some .free=>aT
 | _=>aW) && !(x == ("__debug__" : Str)) && !(x == ("__classdict__" : Str))
abbrev Blk.own(b:Blk)(x:Str):Bool:=match b.sc.names.lookup x with
 |some .local=>aT
 | some .cell=>(match b.fs with
  |none=>aT
  | some sc=>sc.names.lookup x == aa .cell)
 |_=>aW
def bA{P:Prop}[Decidable P]{f:P->Bool}(h:(if p:P then f p else aW)=aT):∃p,f p=aT:=by
 by_cases p:P
 ·rw[dif_pos p] at h;exact⟨p,h⟩
 ·rw[dif_neg p] at h;cases h
def an2{a b:Bool}(h:(a && b)=aT):a=aT/\b=aT:=by cases a;cases h;exact⟨rfl,h⟩
def an3{a b c:Bool}(h:(a && b && c)=aT):a=aT/\b=aT/\c=aT:=⟨(an2 (an2 h).1).1,(an2 (an2 h).1).2,(an2 h).2⟩
def an4{a b c d:Bool}(h:(a && b && c && d)=aT):a=aT/\b=aT/\c=aT/\d=aT:=⟨(an3 (an2 h).1).1,(an3 (an2 h).1).2.1,(an3 (an2 h).1).2.2,(an2 h).2⟩
def an5{a b c d e:Bool}(h:(a && b && c && d && e)=aT):a=aT/\b=aT/\c=aT/\d=aT/\e=aT:=⟨(an4 (an2 h).1).1,(an4 (an2 h).1).2.1,(an4 (an2 h).1).2.2.1,(an4 (an2 h).1).2.2.2,(an2 h).2⟩
def an6{a b c d e f:Bool}(h:(a && b && c && d && e && f)=aT):a=aT/\b=aT/\c=aT/\d=aT/\e=aT/\f=aT:=⟨(an5 (an2 h).1).1,(an5 (an2 h).1).2.1,(an5 (an2 h).1).2.2.1,(an5 (an2 h).1).2.2.2.1,(an5 (an2 h).1).2.2.2.2,(an2 h).2⟩
abbrev l1{b:Type}(l:List b)(k:b->Bool):Bool:=match l with
 |[]=>aW
 |x::t=>t.isEmpty && k x
abbrev lC{b:Type}(l:List b)(k:b->List b->Bool):Bool:=match l with
 |[]=>aW
 |x::t=>k x t
def fI{b:Type}{l:List b}{k:b->List b->Bool}(h:lC l k=aT):∃x t,l=x::t/\k x t=aT:=by
 cases l with
 |nil=>cases h
 |cons x t=>exact⟨x,t,rfl,h⟩
def fJ{b:Type}{l:List b}(h:l.isEmpty=aT):l=[]:=by cases l;rfl;cases h
def lw{b:Type}{l:List b}{k:b->Bool}(h:l1 l k=aT):∃x,l=[x]/\k x=aT:=by
 cases l with
 |nil=>cases h
 |cons x t=>obtain⟨c,f⟩:=an2 h;cases fJ c;exact⟨x,rfl,f⟩
abbrev aO(e:Expr):Bool:=!(e.ctorIdx == 22 || e.ctorIdx == 26 || e.ctorIdx == 7)
abbrev o9(e:Expr)(k:BoolOp->List Expr->Pos->Bool):Bool:=if h:e.ctorIdx=0 then @Expr.BoolOp.elim (λ_=>Bool) e h k else aW
def nI{e:Expr}{k:BoolOp->List Expr->Pos->Bool}(h:o9 e k=aT):∃b X c,e = .BoolOp b X c/\k b X c=aT:=by
 obtain⟨f,h⟩:=bA h;exact Expr.BoolOp.elim (motive_1:=λe=>∀j,@Expr.BoolOp.elim (λ_=>Bool) e j k=aT->∃b X c,e = .BoolOp b X c/\k b X c=aT) e f (λb X c _ g=>⟨b,X,c,rfl,g⟩) f h
abbrev zt(e:Expr)(k:Expr->WR->Expr->Pos->Bool):Bool:=if h:e.ctorIdx=2 then @Expr.BinOp.elim (λ_=>Bool) e h k else aW
def zu{e:Expr}{k:Expr->WR->Expr->Pos->Bool}(h:zt e k=aT):∃c b f X,e = .BinOp c b f X/\k c b f X=aT:=by
 obtain⟨g,h⟩:=bA h;exact Expr.BinOp.elim (motive_1:=λe=>∀n,@Expr.BinOp.elim (λ_=>Bool) e n k=aT->∃c b f X,e = .BinOp c b f X/\k c b f X=aT) e g (λc b f X _ j=>⟨c,b,f,X,rfl,j⟩) g h
abbrev iP(e:Expr)(k:UnaryOp->Expr->Pos->Bool):Bool:=if h:e.ctorIdx=3 then @Expr.UnaryOp.elim (λ_=>Bool) e h k else aW
def lx{e:Expr}{k:UnaryOp->Expr->Pos->Bool}(h:iP e k=aT):∃b X c,e = .UnaryOp b X c/\k b X c=aT:=by
 obtain⟨f,h⟩:=bA h;exact Expr.UnaryOp.elim (motive_1:=λe=>∀j,@Expr.UnaryOp.elim (λ_=>Bool) e j k=aT->∃b X c,e = .UnaryOp b X c/\k b X c=aT) e f (λb X c _ g=>⟨b,X,c,rfl,g⟩) f h
abbrev zv(e:Expr)(k:Expr->Expr->Expr->Pos->Bool):Bool:=if h:e.ctorIdx=5 then @Expr.IfExp.elim (λ_=>Bool) e h k else aW
def zw{e:Expr}{k:Expr->Expr->Expr->Pos->Bool}(h:zv e k=aT):∃c b f X,e = .IfExp c b f X/\k c b f X=aT:=by
 obtain⟨g,h⟩:=bA h;exact Expr.IfExp.elim (motive_1:=λe=>∀n,@Expr.IfExp.elim (λ_=>Bool) e n k=aT->∃c b f X,e = .IfExp c b f X/\k c b f X=aT) e g (λc b f X _ j=>⟨c,b,f,X,rfl,j⟩) g h
abbrev jr(e:Expr)(k:Expr->List WD->Scope->Pos->Bool):Bool:=if h:e.ctorIdx=8 then @Expr.ListComp.elim (λ_=>Bool) e h k else aW
def jO{e:Expr}{k:Expr->List WD->Scope->Pos->Bool}(h:jr e k=aT):∃c b f X,e = .ListComp c b f X/\k c b f X=aT:=by
 obtain⟨g,h⟩:=bA h;exact Expr.ListComp.elim (motive_1:=λe=>∀n,@Expr.ListComp.elim (λ_=>Bool) e n k=aT->∃c b f X,e = .ListComp c b f X/\k c b f X=aT) e g (λc b f X _ j=>⟨c,b,f,X,rfl,j⟩) g h
abbrev nJ(e:Expr)(k:Expr->Expr->List WD->Scope->Pos->Bool):Bool:=if h:e.ctorIdx=10 then @Expr.DictComp.elim (λ_=>Bool) e h k else aW
def qN{e:Expr}{k:Expr->Expr->List WD->Scope->Pos->Bool}(h:nJ e k=aT):∃c b g X f,e = .DictComp c b g X f/\k c b g X f=aT:=by
 obtain⟨j,h⟩:=bA h;exact Expr.DictComp.elim (motive_1:=λe=>∀o,@Expr.DictComp.elim (λ_=>Bool) e o k=aT->∃c b g X f,e = .DictComp c b g X f/\k c b g X f=aT) e j (λc b g X f _ n=>⟨c,b,g,X,f,rfl,n⟩) j h
abbrev ly(e:Expr)(k:Expr->List CmpOp->List Expr->Pos->Bool):Bool:=if h:e.ctorIdx=15 then @Expr.Compare.elim (λ_=>Bool) e h k else aW
def lA{e:Expr}{k:Expr->List CmpOp->List Expr->Pos->Bool}(h:ly e k=aT):∃c b f X,e = .Compare c b f X/\k c b f X=aT:=by
 obtain⟨g,h⟩:=bA h;exact Expr.Compare.elim (motive_1:=λe=>∀n,@Expr.Compare.elim (λ_=>Bool) e n k=aT->∃c b f X,e = .Compare c b f X/\k c b f X=aT) e g (λc b f X _ j=>⟨c,b,f,X,rfl,j⟩) g h
abbrev uK(e:Expr)(k:Expr->List Expr->List Keyword->Pos->Bool):Bool:=if h:e.ctorIdx=16 then @Expr.Call.elim (λ_=>Bool) e h k else aW
def uL{e:Expr}{k:Expr->List Expr->List Keyword->Pos->Bool}(h:uK e k=aT):∃c b f X,e = .Call c b f X/\k c b f X=aT:=by
 obtain⟨g,h⟩:=bA h;exact Expr.Call.elim (motive_1:=λe=>∀n,@Expr.Call.elim (λ_=>Bool) e n k=aT->∃c b f X,e = .Call c b f X/\k c b f X=aT) e g (λc b f X _ j=>⟨c,b,f,X,rfl,j⟩) g h
abbrev dZ(e:Expr)(k:Const->Nat->Pos->Bool):Bool:=if h:e.ctorIdx=19 then @Expr.Constant.elim (λ_=>Bool) e h k else aW
def c9{e:Expr}{k:Const->Nat->Pos->Bool}(h:dZ e k=aT):∃b X c,e = .Constant b X c/\k b X c=aT:=by
 obtain⟨f,h⟩:=bA h;exact Expr.Constant.elim (motive_1:=λe=>∀j,@Expr.Constant.elim (λ_=>Bool) e j k=aT->∃b X c,e = .Constant b X c/\k b X c=aT) e f (λb X c _ g=>⟨b,X,c,rfl,g⟩) f h
abbrev lB(e:Expr)(k:Expr->Str->Pos->Bool):Bool:=if h:e.ctorIdx=20 then @Expr.Attribute.elim (λ_=>Bool) e h k else aW
def pb{e:Expr}{k:Expr->Str->Pos->Bool}(h:lB e k=aT):∃b X c,e = .Attribute b X c/\k b X c=aT:=by
 obtain⟨f,h⟩:=bA h;exact Expr.Attribute.elim (motive_1:=λe=>∀j,@Expr.Attribute.elim (λ_=>Bool) e j k=aT->∃b X c,e = .Attribute b X c/\k b X c=aT) e f (λb X c _ g=>⟨b,X,c,rfl,g⟩) f h
abbrev eP(e:Expr)(k:Expr->Expr->Pos->Bool):Bool:=if h:e.ctorIdx=21 then @Expr.Subscript.elim (λ_=>Bool) e h k else aW
def eR{e:Expr}{k:Expr->Expr->Pos->Bool}(h:eP e k=aT):∃b X c,e = .Subscript b X c/\k b X c=aT:=by
 obtain⟨f,h⟩:=bA h;exact Expr.Subscript.elim (motive_1:=λe=>∀j,@Expr.Subscript.elim (λ_=>Bool) e j k=aT->∃b X c,e = .Subscript b X c/\k b X c=aT) e f (λb X c _ g=>⟨b,X,c,rfl,g⟩) f h
abbrev zx(e:Expr)(k:Str->Pos->Bool):Bool:=if h:e.ctorIdx=23 then @Expr.Name.elim (λ_=>Bool) e h k else aW
def uM{e:Expr}{k:Str->Pos->Bool}(h:zx e k=aT):∃b X,e = .Name b X/\k b X=aT:=by
 obtain⟨c,h⟩:=bA h;exact Expr.Name.elim (motive_1:=λe=>∀g,@Expr.Name.elim (λ_=>Bool) e g k=aT->∃b X,e = .Name b X/\k b X=aT) e c (λb X _ f=>⟨b,X,rfl,f⟩) c h
abbrev FS(e:Expr)(k:List Expr->Pos->Bool):Bool:=if h:e.ctorIdx=24 then @Expr.List.elim (λ_=>Bool) e h k else aW
def CU{e:Expr}{k:List Expr->Pos->Bool}(h:FS e k=aT):∃b X,e = .List b X/\k b X=aT:=by
 obtain⟨c,h⟩:=bA h;exact Expr.List.elim (motive_1:=λe=>∀g,@Expr.List.elim (λ_=>Bool) e g k=aT->∃b X,e = .List b X/\k b X=aT) e c (λb X _ f=>⟨b,X,rfl,f⟩) c h
abbrev zy(e:Expr)(k:List Expr->Nat->Pos->Bool):Bool:=if h:e.ctorIdx=25 then @Expr.Tuple.elim (λ_=>Bool) e h k else aW
def zz{e:Expr}{k:List Expr->Nat->Pos->Bool}(h:zy e k=aT):∃b X c,e = .Tuple b X c/\k b X c=aT:=by
 obtain⟨f,h⟩:=bA h;exact Expr.Tuple.elim (motive_1:=λe=>∀j,@Expr.Tuple.elim (λ_=>Bool) e j k=aT->∃b X c,e = .Tuple b X c/\k b X c=aT) e f (λb X c _ g=>⟨b,X,c,rfl,g⟩) f h
abbrev zA(e:Expr)(k:Option Expr->Option Expr->Option Expr->Pos->Bool):Bool:=if h:e.ctorIdx=26 then @Expr.Slice.elim (λ_=>Bool) e h k else aW
def zB{e:Expr}{k:Option Expr->Option Expr->Option Expr->Pos->Bool}(h:zA e k=aT):∃c b f X,e = .Slice c b f X/\k c b f X=aT:=by
 obtain⟨g,h⟩:=bA h;exact Expr.Slice.elim (motive_1:=λe=>∀n,@Expr.Slice.elim (λ_=>Bool) e n k=aT->∃c b f X,e = .Slice c b f X/\k c b f X=aT) e g (λc b f X _ j=>⟨c,b,f,X,rfl,j⟩) g h
abbrev tO(e:Expr):Bool:=!(e.ctorIdx == 22 || uK e λf E b _=>f.ctorIdx == 23 && E.isEmpty && b.isEmpty)
abbrev HJ(e:Expr):Bool:=!(e.ctorIdx == 0 || e.ctorIdx == 5 || e.ctorIdx == 15 || iP e λo _ _=>decide (o = .Not))
abbrev iQ(own N:List Str):List Nat:=(Zh N.length).filter λi=>match N[i]? with
 |some x=>own.contains x
 |none=>aW
abbrev Blk.inner(b:Blk)(own:List Str)(c:Scope):Blk:=⟨fE c b.sc,aa c,cI (iQ own b.N) b.N++own⟩
abbrev wX(e:Expr):Option (Str × Pos):=if h:e.ctorIdx=23 then aa (@Expr.Name.elim (λ_=>Str × Pos) e h λx p=>(x,p)) else aD
abbrev wY(e:Expr):Option (List Expr × Nat × Pos):=if h:e.ctorIdx=25 then aa (@Expr.Tuple.elim (λ_=>List Expr × Nat × Pos) e h λE k p=>(E,k,p)) else aD
def FT{b:Type}{P:Prop}[Decidable P]{f:P->b}{r:b}(h:(if p:P then aa (f p) else aD)=aa r):∃p,f p=r:=by
 by_cases p:P
 ·rw[dif_pos p] at h;cases h;exact⟨p,rfl⟩
 ·rw[dif_neg p] at h;cases h
def kA{e:Expr}{x:Str}{p:Pos}(h:wX e=aa (x,p)):e = .Name x p:=by
 obtain⟨b,h⟩:=FT h;exact Expr.Name.elim (motive_1:=λe=>∀f,Expr.Name.elim (motive_1:=λ_=>Str × Pos) e f (λx p=>(x,p))=(x,p)->e = .Name x p) e b (λ_ _ _ c=>by cases c;rfl) b h
def pc{e:Expr}{E:List Expr}{k:Nat}{p:Pos}(h:wY e=aa (E,k,p)):e = .Tuple E k p:=by
 obtain⟨b,h⟩:=FT h;exact Expr.Tuple.elim (motive_1:=λe=>∀f,Expr.Tuple.elim (motive_1:=λ_=>List Expr × Nat × Pos) e f (λE k p=>(E,k,p))=(E,k,p)->e = .Tuple E k p) e b (λ_ _ _ _ c=>by cases c;rfl) b h
abbrev oA{b:Type}(o:Option b)(k:b->Bool):Bool:=match o with
 |some r=>k r
 |none=>aW
def wZ{b:Type}{o:Option b}{k:b->Bool}(h:oA o k=aT):∃r,o=aa r/\k r=aT:=by
 cases o with
 |none=>cases h
 |some r=>exact⟨r,rfl,h⟩
def CV{a b:Bool}(h:(a || b)=aT):a=aT\/b=aT:=by cases a;exact .inr h;exact .inl rfl
mutual
noncomputable def qO(b:Blk)(e:Expr):Tg->Bool
 |.name i=>oA (wX e) λr=>b.N[i]? == aa r.1 && b.own r.1
 |.tup ts=>oA (wY e) λr=>lH b r.1 ts
noncomputable def lH(b:Blk)(E:List Expr):List Tg->Bool
 |[]=>E.isEmpty
 |t::ts=>lC E λe E=>qO b e t && aO e && lH b E ts
end
abbrev L6(e:Expr):Bool:=dZ e λc _ _=>decide (c = .none)
abbrev sBl(v:Bool)(e:Expr):Bool:=dZ e λc _ _=>decide (c = .bool v)
abbrev L7(v:Int)(e:Expr):Bool:=dZ e λc _ _=>decide (c = .int v)
abbrev L8(v:Str)(e:Expr):Bool:=dZ e λc _ _=>decide (c = .str v)
abbrev uN(k:Str->Bool)(e:Expr):Bool:=zx e λx _=>k x
abbrev HK(k:List Expr->Bool)(e:Expr):Bool:=zy e λE _ _=>k E
abbrev L9(k:List Expr->Bool)(e:Expr):Bool:=FS e λE _=>k E
abbrev Ma(o:WR)(k l:Expr->Bool)(e:Expr):Bool:=zt e λx op y _=>decide (op=o) && k x && l y
abbrev Mb(k:Expr->Bool)(e:Expr):Bool:=iP e λo x _=>decide (o = .USub) && k x
abbrev HL(k:Expr->Bool)(e:Expr):Bool:=iP e λo x _=>decide (o = .Not) && k x
abbrev HM(o:CmpOp)(k l:Expr->Bool)(e:Expr):Bool:=ly e λx os Y _=>l1 os λop=>l1 Y λy=>decide (op=o) && k x && l y && aO y
abbrev HN(o p:CmpOp)(k l m:Expr->Bool)(e:Expr):Bool:=ly e λx os Y _=>lC os λop os=>l1 os λO=>lC Y λy Y=>l1 Y λz=>decide (op=o) && decide (O=p) && k x && l y && m z && aO z
abbrev zC(o:BoolOp)(k l:Expr->Bool)(e:Expr):Bool:=o9 e λop v _=>lC v λx v=>l1 v λy=>decide (op=o) && k x && l y
abbrev zD(o:BoolOp)(k l:Expr->Bool)(e:Expr):Bool:=o9 e λop v p=>lC v λx v=>lC v λy v=>lC v λz Y=>decide (op=o) && k x && l (.BoolOp o (y::z::Y) p)
abbrev Mc(k l m:Expr->Bool)(e:Expr):Bool:=zv e λx y z _=>k x && l y && m z
abbrev sIx(k l:Expr->Bool)(e:Expr):Bool:=eP e λx y _=>k x && l y && aO y
abbrev sSl(k:Expr->Bool)(l m:Option Expr->Bool)(e:Expr):Bool:=eP e λx s _=>zA s λy z w _=>w.isNone && k x && l y && m z
abbrev sCN(e:Expr)(k:Str->List Expr->List Keyword->Bool):Bool:=uK e λf E b _=>zx f λx _=>k x E b
abbrev FV(k:Str->Bool)(l:List Expr->Bool)(e:Expr):Bool:=sCN e λx E b=>lC E λe E=>b.isEmpty && k x && l (e::E)
abbrev tP(b:Blk)(f:Str)(k:List Expr->Bool)(e:Expr):Bool:=sCN e λx E c=>lC E λe E=>c.isEmpty && x == f && b.glo x && k (e::E)
abbrev bI(b:Blk)(f:Str)(k:Expr->Bool)(e:Expr):Bool:=sCN e λx E c=>l1 E λe=>c.isEmpty && x == f && b.glo x && k e && aO e
abbrev tQ(b:Blk)(f:Str)(k l:Expr->Bool)(e:Expr):Bool:=sCN e λx E g=>lC E λe E=>l1 E λc=>g.isEmpty && (x == f && b.glo x && k e && aO e && l c && aO c)
abbrev CW(m:Str)(k:Expr->Bool)(l:List Expr->Bool)(e:Expr):Bool:=uK e λf E c p=>lB f λx b g=>c.isEmpty && b == m && tO x && (g.endLine == p.line) && k x && l E
abbrev FW(k:Expr->Expr->Expr->List Expr->List WD->Scope->Bool)(e:Expr):Bool:=jr e λe c b _=>lC c λg c=>decide (g.is_async=0) && k e g.target g.iter g.ifs c b
def dc{x y:Str}(h:(x == y)=aT):x=y:=eq_of_beq h
section
variable {e:Expr} {k l m:Expr->Bool}
def HP(h:L6 e=aT):∃a p,e = .Constant .none a p:=by
 obtain⟨c,a,p,rfl,h⟩:=c9 h;cases of_decide_eq_true h;exact⟨a,p,rfl⟩
def Md{v:Bool}(h:sBl v e=aT):∃a p,e = .Constant (.bool v) a p:=by
 obtain⟨c,a,p,rfl,h⟩:=c9 h;cases of_decide_eq_true h;exact⟨a,p,rfl⟩
def HQ{v:Int}(h:L7 v e=aT):∃a p,e = .Constant (.int v) a p:=by
 obtain⟨c,a,p,rfl,h⟩:=c9 h;cases of_decide_eq_true h;exact⟨a,p,rfl⟩
def HR{v:Str}(h:L8 v e=aT):∃a p,e = .Constant (.str v) a p:=by
 obtain⟨c,a,p,rfl,h⟩:=c9 h;cases of_decide_eq_true h;exact⟨a,p,rfl⟩
def pd{k:Str->Bool}(h:uN k e=aT):∃x p,e = .Name x p/\k x=aT:=uM h
def zE{k:List Expr->Bool}(h:HK k e=aT):∃x a p,e = .Tuple x a p/\k x=aT:=zz h
def HS{k:List Expr->Bool}(h:L9 k e=aT):∃x p,e = .List x p/\k x=aT:=CU h
def HU{o:WR}(h:Ma o k l e=aT):∃x y p,e = .BinOp x o y p/\k x=aT/\l y=aT:=by
 obtain⟨x,op,y,p,rfl,h⟩:=zu h;obtain⟨b,z⟩:=an3 h;cases of_decide_eq_true b;exact⟨x,y,p,rfl,z⟩
def HV(h:Mb k e=aT):∃x p,e = .UnaryOp .USub x p/\k x=aT:=by
 obtain⟨op,x,p,rfl,h⟩:=lx h;obtain⟨b,z⟩:=an2 h;cases of_decide_eq_true b;exact⟨x,p,rfl,z⟩
def zF(h:HL k e=aT):∃x p,e = .UnaryOp .Not x p/\k x=aT:=by
 obtain⟨op,x,p,rfl,h⟩:=lx h;obtain⟨b,z⟩:=an2 h;cases of_decide_eq_true b;exact⟨x,p,rfl,z⟩
def zG{o:CmpOp}(h:HM o k l e=aT):∃x y p,e = .Compare x [o] [y] p/\k x=aT/\l y=aT/\aO y=aT:=by
 obtain⟨x,os,Y,p,rfl,h⟩:=lA h;obtain⟨op,rfl,h⟩:=lw h;obtain⟨y,rfl,h⟩:=lw h;obtain⟨b,z⟩:=an4 h;cases of_decide_eq_true b;exact⟨x,y,p,rfl,z⟩
def zH{o p:CmpOp}(h:HN o p k l m e=aT):∃x y z q,e = .Compare x [o,p] [y,z] q/\k x=aT/\l y=aT/\m z=aT/\aO z=aT:=by
 obtain⟨x,os,Y,q,rfl,h⟩:=lA h;obtain⟨op,os,rfl,h⟩:=fI h;obtain⟨O,rfl,h⟩:=lw h;obtain⟨y,Y,rfl,h⟩:=fI h;obtain⟨z,rfl,h⟩:=lw h;obtain⟨c,b,Z⟩:=an6 h;cases of_decide_eq_true c;cases of_decide_eq_true b;exact⟨x,y,z,q,rfl,Z⟩
def pj{o:BoolOp}(h:zC o k l e=aT):∃x y p,e = .BoolOp o [x,y] p/\k x=aT/\l y=aT:=by
 obtain⟨op,v,p,rfl,h⟩:=nI h;obtain⟨x,v,rfl,h⟩:=fI h;obtain⟨y,rfl,h⟩:=lw h;obtain⟨b,z⟩:=an3 h;cases of_decide_eq_true b;exact⟨x,y,p,rfl,z⟩
def pk{o:BoolOp}(h:zD o k l e=aT):∃x y z Y p,e = .BoolOp o (x::y::z::Y) p/\k x=aT/\l (.BoolOp o (y::z::Y) p)=aT:=by
 obtain⟨op,v,p,rfl,h⟩:=nI h;obtain⟨x,v,rfl,h⟩:=fI h;obtain⟨y,v,rfl,h⟩:=fI h;obtain⟨z,v,rfl,h⟩:=fI h;obtain⟨b,Z⟩:=an3 h;cases of_decide_eq_true b;exact⟨x,y,z,v,p,rfl,Z⟩
def HW(h:Mc k l m e=aT):∃x y z p,e = .IfExp x y z p/\k x=aT/\l y=aT/\m z=aT:=by
 obtain⟨x,y,z,p,rfl,h⟩:=zw h;exact⟨x,y,z,p,rfl,an3 h⟩
def Me(h:sIx k l e=aT):∃x y p,e = .Subscript x y p/\k x=aT/\l y=aT/\aO y=aT:=by
 obtain⟨x,y,p,rfl,h⟩:=eR h;exact⟨x,y,p,rfl,an3 h⟩
def Mf{l m:Option Expr->Bool}(h:sSl k l m e=aT):∃x y z p q,e = .Subscript x (.Slice y z aD p) q/\k x=aT/\l y=aT/\m z=aT:=by
 obtain⟨x,s,q,rfl,h⟩:=eR h;obtain⟨y,z,w,p,rfl,h⟩:=zB h;obtain⟨b,Z⟩:=an4 h;cases w;exact⟨x,y,z,p,q,rfl,Z⟩;cases b
def uO{k:Str->List Expr->List Keyword->Bool}(h:sCN e k=aT):∃x p E b q,e = .Call (.Name x p) E b q/\k x E b=aT:=by
 obtain⟨f,E,b,q,rfl,h⟩:=uL h;obtain⟨x,p,rfl,h⟩:=uM h;exact⟨x,p,E,b,q,rfl,h⟩
def CY{k:Str->Bool}{l:List Expr->Bool}(h:FV k l e=aT):∃x X E p q,e = .Call (.Name x p) (X::E) [] q/\k x=aT/\l (X::E)=aT:=by
 obtain⟨x,p,E,c,q,rfl,h⟩:=uO h;obtain⟨X,E,rfl,h⟩:=fI h;obtain⟨b,z⟩:=an3 h;cases fJ b;exact⟨x,X,E,p,q,rfl,z⟩
def qP{b:Blk}{f:Str}{k:List Expr->Bool}(h:tP b f k e=aT):∃x E p q,e = .Call (.Name f p) (x::E) [] q/\b.glo f=aT/\k (x::E)=aT:=by
 obtain⟨x,p,E,j,q,rfl,h⟩:=uO h;obtain⟨X,E,rfl,h⟩:=fI h;obtain⟨g,c,z⟩:=an4 h;cases fJ g;cases dc c;exact⟨X,E,p,q,rfl,z⟩
def bc{b:Blk}{f:Str}(h:bI b f k e=aT):∃x p q,e = .Call (.Name f p) [x] [] q/\b.glo f=aT/\k x=aT/\aO x=aT:=by
 obtain⟨x,p,E,j,q,rfl,h⟩:=uO h;obtain⟨X,rfl,h⟩:=lw h;obtain⟨g,c,z⟩:=an5 h;cases fJ g;cases dc c;exact⟨X,p,q,rfl,z⟩
def lI{b:Blk}{f:Str}(h:tQ b f k l e=aT):∃x y p q,e = .Call (.Name f p) [x,y] [] q/\b.glo f=aT/\k x=aT/\aO x=aT/\l y=aT/\aO y=aT:=by
 obtain⟨x,p,E,j,q,rfl,h⟩:=uO h;obtain⟨X,E,rfl,h⟩:=fI h;obtain⟨y,rfl,h⟩:=lw h;obtain⟨g,Y⟩:=an2 h;obtain⟨c,z⟩:=an6 Y;cases fJ g;cases dc c;exact⟨X,y,p,q,rfl,z⟩
def tR{m:Str}{l:List Expr->Bool}(h:CW m k l e=aT):∃x b E p,e = .Call (.Attribute x m b) E [] p/\tO x=aT/\(b.endLine == p.line)=aT/\k x=aT/\l E=aT:=by
 obtain⟨f,E,n,p,rfl,h⟩:=uL h;obtain⟨x,j,b,rfl,h⟩:=pb h;obtain⟨g,c,z⟩:=an6 h;cases fJ g;cases dc c;exact⟨x,b,E,p,rfl,z⟩
def uQ{k:Expr->Expr->Expr->List Expr->List WD->Scope->Bool}(h:FW k e=aT):∃E t i ifs g b p,e = .ListComp E (⟨t,i,ifs,0⟩::g) b p/\k E t i ifs g b=aT:=by
 obtain⟨E,g,b,p,rfl,h⟩:=jO h;obtain⟨⟨t,i,ifs,f⟩,g,rfl,h⟩:=fI h;obtain⟨c,z⟩:=an2 h;cases of_decide_eq_true c;exact⟨E,t,i,ifs,g,b,p,rfl,z⟩
end
abbrev zI(f:Expr->CE->Bool)(l:Option Expr):Option CE->Bool
 |none=>l.isNone
 |some c=>oA l λe=>f e c
abbrev zJ(f:Expr->CE->Bool)(l:List Expr):Option CE->Bool
 |none=>l.isEmpty
 |some c=>l1 l λe=>f e c
abbrev clC(c:List Cl)(k:Tg->CI->Option CE->List Cl->Bool):Bool:=match c with
 |[]=>aW
 |⟨tg,it,cond⟩::rest=>k tg it cond rest
def FX{c:List Cl}{k:Tg->CI->Option CE->List Cl->Bool}(h:clC c k=aT):∃T I cond b,c=⟨T,I,cond⟩::b/\k T I cond b=aT:=by
 cases c with
 |nil=>cases h
 |cons g b=>obtain⟨T,I,cond⟩:=g;exact⟨T,I,cond,b,rfl,h⟩
mutual
noncomputable def aE(T:Tab):Nat->Blk->Expr->CE->Bool
 |0,_,_,_=>aW
 |n+1,b,e,c=>match c with
  |.non=>L6 e
  |.bl v=>sBl v e
  |.int i=>L7 i e
  |.str x=>L8 x e
  |.var i=>uN (λx=>b.N[i]? == aa x && b.vis x) e
  |.con k v=>uN (λx=>T.con[k]? == aa (x,v) && b.glo x) e
  |.tup cs=>HK (λE=>fK T n b E cs) e
  |.lst cs=>L9 (λE=>fK T n b E cs) e
  |.bin o a c=>Ma o.op (λx=>aE T n b x a) (λx=>aE T n b x c) e
  |.neg a=>Mb (λx=>aE T n b x a) e
  |.cmp o a c=>HM o.op (λx=>aE T n b x a) (λx=>aE T n b x c) e
  |.chn o p a c d=>HN o.op p.op (λx=>aE T n b x a) (λx=>aE T n b x c) (λx=>aE T n b x d) e
  |.and a c=>zC .And (λx=>aE T n b x a) (λx=>aE T n b x c) e || zD .And (λx=>aE T n b x a) (λx=>aE T n b x c) e
  |.or a c=>zC .Or (λx=>aE T n b x a) (λx=>aE T n b x c) e || zD .Or (λx=>aE T n b x a) (λx=>aE T n b x c) e
  |.not a=>HL (λx=>aE T n b x a) e
  |.ite t a c=>Mc (λx=>eS T n b x t) (λx=>aE T n b x a) (λx=>aE T n b x c) e
  |.ix a c=>sIx (λx=>aE T n b x a) (λx=>aE T n b x c) e
  |.sl a lo hi=>sSl (λx=>aE T n b x a) (λl=>zI (aE T n b) l lo) (λl=>zI (aE T n b) l hi) e
  |.call f cs=>FV (λx=>oA T.fns[f]? (λy=>y.1 == x) && b.glo x) (λE=>fK T n b E cs) e
  |.inst t a=>tQ b "isinstance" (λx=>aE T n b x a) (uN λy=>y == Str.ofString t.nm && b.glo y) e
  |.len a=>bI b "len" (λx=>aE T n b x a) e
  |.all a=>bI b "all" (λx=>aE T n b x a) e
  |.any a=>bI b "any" (λx=>aE T n b x a) e
  |.tupOf a=>bI b "tuple" (λx=>aE T n b x a) e
  |.listOf a=>bI b "list" (λx=>aE T n b x a) e
  |.listR a=>bI b "list" (bI b "range" λx=>aE T n b x a) e
  |.sset a=>bI b "sorted" (bI b "set" λx=>aE T n b x a) e
  |.srt a=>bI b "sorted" (λx=>aE T n b x a) e
  |.mxL a=>bI b "max" (λx=>aE T n b x a) e
  |.intOf a=>bI b "int" (λx=>aE T n b x a) e
  |.mx a c=>tP b "max" (λE=>fK T n b E [a,c]) e
  |.mn a c=>tP b "min" (λE=>fK T n b E [a,c]) e
  |.comp own elt cls=>clC cls λj I cond h=>FW (λq t i ifs u g=>cmB own (iQ own b.N) b.N g b.sc && pw T n b t i I && qO (b.inner own g) t j && zJ (eS T n (b.inner own g)) ifs cond && nK T n (b.inner own g) q u elt h) e
  |.app o a=>CW "append" (λx=>aE T n b x o) (λE=>fK T n b E [a]) e
  |.popAt o a=>CW "pop" (λx=>aE T n b x o) (λE=>fK T n b E [a]) e
  |.cnt o a=>CW "count" (λx=>aE T n b x o) (λE=>fK T n b E [a]) e
noncomputable def fK(T:Tab):Nat->Blk->List Expr->List CE->Bool
 |0,_,_,_=>aW
 |n+1,b,E,cs=>match cs with
  |[]=>E.isEmpty
  |c::cs=>lC E λe E=>aE T n b e c && aO e && fK T n b E cs
noncomputable def nK(T:Tab):Nat->Blk->Expr->List WD->CE->List Cl->Bool
 |0,_,_,_,_,_=>aW
 |n+1,b,e,c,elt,cls=>match cls with
  |[]=>c.isEmpty && aE T n b e elt
  |⟨tg,it,cond⟩::rest=>lC c λg c=>decide (g.is_async=0) && pw T n b g.target g.iter it && qO b g.target tg && zJ (eS T n b) g.ifs cond && nK T n b e c elt rest
noncomputable def pw(T:Tab):Nat->Blk->Expr->Expr->CI->Bool
 |0,_,_,_,_=>aW
 |n+1,b,t,e,c=>match c with
  |.val a=>aE T n b e a && aO e
  |.r1 a=>bI b "range" (λx=>aE T n b x a) e
  |.r2 a c=>tQ b "range" (λx=>aE T n b x a) (λx=>aE T n b x c) e
  |.en a=>bI b "enumerate" (λx=>aE T n b x a) e && HK (λ_=>aT) t
noncomputable def eS(T:Tab):Nat->Blk->Expr->CE->Bool
 |0,_,_,_=>aW
 |n+1,b,e,c=>match c with
  |.cmp o a c=>HM o.op (λx=>aE T n b x a) (λx=>aE T n b x c) e
  |.chn o p a c d=>HN o.op p.op (λx=>aE T n b x a) (λx=>aE T n b x c) (λx=>aE T n b x d) e
  |.and a c=>zC .And (λx=>eS T n b x a) (λx=>eS T n b x c) e || zD .And (λx=>eS T n b x a) (λx=>eS T n b x c) e
  |.or a c=>zC .Or (λx=>eS T n b x a) (λx=>eS T n b x c) e || zD .Or (λx=>eS T n b x a) (λx=>eS T n b x c) e
  |.not a=>HL (λx=>eS T n b x a) e
  |.ite _ _ _=>aW
  |c=>aE T n b e c && HJ e
end
def ec{T:Tab}{n:Nat}{b:Blk}{t e:Expr}{c:CI}(h:pw T n b t e c=aT)(f:∀e,aO e=aT->∀env x,Vu e env x=pure x):∀env x,Vu e env x=pure x:=by
 cases n with
 |zero=>cases h
 |succ n=>
  cases c with
  |val a=>exact f e (an2 h).2
  |r1 a=>obtain⟨x,p,q,rfl,_⟩:=bc h;intro _ _;rfl
  |r2 a c=>obtain⟨x,y,p,q,rfl,_⟩:=lI h;intro _ _;rfl
  |en a=>obtain⟨x,p,q,rfl,_⟩:=bc (an2 h).1;intro _ _;rfl
structure CtxOk(T:Tab)(C:Calls)(ar:Nat->Nat)(k:Nat)(b:Blk)(X:Cx):Prop where
 calm:X.calm=aT
 xe:X.xe=λ_ _=>False
 hN:X.N=b.N
 hs:X.env.scope=b.sc
 nd:b.N.Nodup
 fn:∀x,(match b.fs with |none=>aT |some sc=>sc.names.lookup x == aa .cell)=aT->X.fn x=aT
 room:Room k X.A
 con:∀ (i:Nat) (x:Str) (v:Int),T.con[i]?=aa (x,v)->∃tk,X.mg x=aa (.int v tk)
 bl:∀x,x ∈ ir->X.mg x=aD
 fns:∀ (i:Nat) (y:Str × Nat),T.fns[i]?=aa y->ar i=y.2/\∃f fd ps,X.mg y.1=aa (.ref f)/\W3 X.K (.ref f)=aT/\mZ X.K fd ps []/\FnOk X.prog X.w X.K X.mg X.base CX0 k f fd ps (spC X.K (C i) (ar i))
section
variable {T:Tab} {C:Calls} {ar:Nat->Nat} {k:Nat} {b:Blk} {X:Cx}
def aw{e:Expr}{E:List Expr}{env:Env}(h:aO e=aT):VP (e::E) env=(aW,eval e env)::VP E env:=by
 cases e <;> first |rfl |(exact absurd h Zf)
def qQ{e:Expr}(h:aO e=aT):uu e:=by
 intro o i;cases e <;> first |rfl |(exact absurd h Zf)
def hU{e:Expr}{op:CmpOp}(h:aO e=aT):Ve op e=aW:=by
 cases e <;> first |rfl |(exact absurd h Zf)
def lJ{e f:Expr}{op o:CmpOp}(h:aO e=aT):lastMarks [op,o] [f,e]=aW:=by
 show Ve o e=aW;exact hU h
def cM{e:Expr}{env:Env}(h:aO e=aT):∀x,Vu e env x=pure x:=by
 intro x;cases e <;> first |rfl |(exact absurd h Zf)
def hV{e:Expr}{m:Str}{env:Env}{w:Sem Value}(h:tO e=aT):attributeBase e m env w=w:=by
 cases e with
 |Call f c g p=>
  cases f with
  |Name x q=>
   cases c with
   |nil=>cases g with |nil=>exact absurd h Zf |cons _ _=>rfl
   |cons _ _=>rfl
  |_=>rfl
 |_=>first |rfl |(exact absurd h Zf)
def tS{e:Expr}{env:Env}(h:HJ e=aT):∀c,isTrue e env c=(do let v <-c;standAt e.pos;holding [v] (truthy v)):=by
 intro c;cases e with
 |UnaryOp op x p=>cases op <;> first |rfl |(exact absurd h Zf)
 |_=>first |rfl |(exact absurd h Zf)
def jt{E:List Expr}{env:Env}{pos:Pos}(h:∀e ∈ E,aO e=aT):(backTo pos (VP E env)).any (·.1)=aW:=by
 induction E with
 |nil=>rfl
 |cons e E I=>
  rw[aw (h e Zj)];show(aW || (backTo pos (VP E env)).any (·.1))=aW;rw[I λe c=>h e (Zm _ c)];rfl
def bJ:∀ {n:Nat} {E:List Expr} {f:List CE},fK T n b E f=aT->∀e ∈ E,aO e=aT
 |0,_,_,h=>absurd h Zf
 |n+1,E,[],h=>λx hx=>by rw[fJ h] at hx;cases hx
 |n+1,E,c::f,h=>by
  obtain⟨e,E,rfl,h⟩:=fI h;obtain⟨_,g,h⟩:=an3 h;intro x hx;rcases Zk.mp hx with rfl |hx
  ·exact g
  ·exact bJ h x hx
def CtxOk.gl(G:CtxOk T C ar k b X){x:Str}(h:b.glo x=aT):Gl X x/\(x == ("__debug__" : Str))=aW:=by
 unfold Blk.glo at h;rw[bAE] at h;refine⟨?_,by simpa using h.2⟩;show X.env.scope.names.lookup x=_;rw[G.hs]
 simpa using h.1
def CtxOk.vis(G:CtxOk T C ar k b X){x:Str}(h:b.vis x=aT):Vis X.env.scope x/\(x == ("__debug__" : Str))=aW/\(x == ("__classdict__" : Str))=aW:=by
 unfold Blk.vis at h;rw[bAE,bAE] at h;refine⟨?_,by simpa using h.1.2,by simpa using h.2⟩;unfold Vis;rw[G.hs];have c:=h.1.1;split at c
 ·rename_i e;exact .inl e
 ·rename_i e;exact .inr (.inl e)
 ·rename_i e;exact .inr (.inr e)
 ·cases c
def CtxOk.own(G:CtxOk T C ar k b X){x:Str}(h:b.own x=aT):L2.Loc X.env.scope x/\(X.fn x=aT\/X.env.scope.names.lookup x=aa .local):=by
 unfold Blk.own at h;unfold L2.Loc;rw[G.hs];split at h
 ·rename_i e;exact⟨.inl e,.inr e⟩
 ·rename_i e;refine⟨.inr e,.inl (G.fn x ?_)⟩;cases c:b.fs with
  |none=>rfl
  |some sc=>rw[c] at h;exact h
 ·cases h
def CtxOk.inner(G:CtxOk T C ar k b X){own:List Str}{c:Scope}(S:CmScope own (iQ own b.N) b.N c b.sc){C':Addr}{ex:List Addr}{s:Shared}{H:Hp}:CtxOk T C ar k (b.inner own c) (cxC X own (iQ own b.N) c C' ex s H):=
 ⟨G.calm,rfl,by show cI (iQ own b.N) X.N++own=_;rw[G.hN];rfl,by show fE c X.env.scope=_;rw[G.hs];rfl,S.nd,λx h=>h,G.room,G.con,G.bl,G.fns⟩
def nP{e:Expr}{E:List Expr}{env:Env}(h:aO e=aT):Vb (e::E) env=(aW,assign e env)::Vb E env:=by
 cases e <;> first |rfl |(exact absurd h Zf)
mutual
theorem eT(G:CtxOk T C ar k b X):∀ {e:Expr} {t:Tg},qO b e t=aT->PG X e (tTg X.K t)
 |e,.name i,h=>by
  obtain⟨r,c,h⟩:=wZ h;obtain⟨n,j⟩:=an2 h;rw[kA c];have o:=G.own j;exact PG.imp (BU (i:=i) (x:=r.1) (by rw[G.hN];exact G.nd) (by rw[G.hN];exact eq_of_beq n) o.1 o.2) λx g H Q q=>o7 q
 |e,.tup ts,h=>by
  obtain⟨r,c,h⟩:=wZ h;rw[pc c];have f:=nQ h;exact PG.imp (GC G.calm (qR G h) rfl f.2) λx g H Q q=>Hx f.1 q
theorem qR(G:CtxOk T C ar k b X):∀ {E:List Expr} {c:List Tg},lH b E c=aT->PGs X E (zc X.K c)
 |E,[],h=>by
  rw[fJ h];exact PGs.imp BV λx f H Q q=>CJ q
 |E,t::c,h=>by
  obtain⟨e,E,rfl,h⟩:=fI h;obtain⟨j,g,h⟩:=an3 h;exact PGs.imp (xT (eT G j) (qR G h) (by rw[nP g];rfl)) λx f H Q q=>zd q
theorem nQ:∀ {E:List Expr} {c:List Tg},lH b E c=aT->(Vb E X.env).length=c.length/\(Vb E X.env).findIdx? (·.1)=aD
 |E,[],h=>by
  rw[fJ h];exact⟨rfl,rfl⟩
 |E,t::c,h=>by
  obtain⟨e,E,rfl,h⟩:=fI h;obtain⟨g,f,h⟩:=an3 h;have I:=nQ h;rw[nP f];refine⟨congrArg (·+1) I.1,?_⟩;rw[List.findIdx?_cons];simp[I.2]
end
end
structure Snd(T:Tab)(C:Calls)(ar:Nat->Nat)(k n:Nat):Prop where
 e:∀ (b:Blk) (X:Cx) (e:Expr) (c:CE),CtxOk T C ar k b X->aE T n b e c=aT->PE X e (tE X.K (evE C ar n c))
 tm:∀ (b:Blk) (X:Cx) (e:Expr) (c:CE),CtxOk T C ar k b X->ak c=aT->aE T n b e c=aT->PE X e (dY X.K (ci C ar n c))
 a:∀ (b:Blk) (X:Cx) (es:List Expr) (cs:List CE),CtxOk T C ar k b X->fK T n b es cs=aT->PA X es (tAr X.K (evA C ar n cs))
 t:∀ (b:Blk) (X:Cx) (e:Expr) (c:CE),CtxOk T C ar k b X->eS T n b e c=aT->PT X e (tT X.K (evT C ar n c))
 i:∀ (B:List Addr) (b:Blk) (X:Cx) (t e:Expr) (c:CI),CtxOk T C ar k b X->pw T n b t e c=aT->PI X t e (tIt X.K B (evI C ar n c))
 cl:∀ (b:Blk) (X:Cx) (e:Expr) (gs:List WD) (elt:CE) (cls:List Cl),CtxOk T C ar k b X->nK T n b e gs elt cls=aT ->
  ∀ (gens:List WD) (scope:Scope) (pos:Pos) (acc:Addr) (d:Nat),gens.drop (d+1)=gs->PTl X (.l e) gens scope pos acc d (tCl X.K acc (gI C ar n elt cls))
section
variable {T:Tab} {C:Calls} {ar:Nat->Nat} {k n:Nat} {b:Blk} {X:Cx}
def iR{e:Expr}{E:List Expr}{c:TE}{t:TA}(h:PE X e c)(f:PA X E t)(g:aO e=aT):PA X (e::E) (fk c t):=B2 h f (aw g)
def Mg(I:Snd T C ar k n)(E:List Expr)(f:List CE)(G:CtxOk T C ar k b X)(h:fK T (n+1) b E f=aT):PA X E (tAr X.K (evA C ar (n+1) f)):=by
 cases f with
 |nil=>rw[fJ h];exact PA.imp yf λg H Q q=>Hc q
 |cons c f=>
  obtain⟨e,E,rfl,h⟩:=fI h;obtain⟨o,j,h⟩:=an3 h;exact PA.imp (iR (I.e b X e c G o) (I.a b X E f G h) j) λg H Q q=>Cs q
def cj{e:Expr}{c:TE}(h:PE X e c)(f:aO e=aT):PA X [e] (fk c oH):=iR h yf f
def gz{x:Str}{id:String}{e:Expr}{g:TE}{r:V->Hp->VK->Prop}{p pos:Pos}(hc:aS X (.builtin id) (r1 r))(G:CtxOk T C ar k b X)(f:b.glo x=aT)(hb:x ∈ ir)(j:Vh x=aa (.builtin id))(o:x ≠ "__name__")(h:PE X e g)(c:aO e=aT) :
  PE X (.Call (.Name x p) [e] [] pos) (tUn r g):=
 PE.imp (fC hc (G.gl f).1 (G.bl x hb) j (cj h c) o (G.gl f).2 (aw c) rfl) λu H Q q=>q
def kB{x:Str}{id:String}{e:Expr}{g:TE}{r:V->Hp->VK->Prop}{p pos:Pos}(hc:aS X (.type id) (r1 r))(G:CtxOk T C ar k b X)(f:b.glo x=aT)(hb:x ∈ ir)(j:Vh x=aa (.type id))(o:x ≠ "__name__")(h:PE X e g)(c:aO e=aT) :
  PE X (.Call (.Name x p) [e] [] pos) (tUn r g):=
 PE.imp (gn hc (G.gl f).1 (G.bl x hb) j (cj h c) o (G.gl f).2 (aw c) rfl) λu H Q q=>q
def lK{x:Str}{e:Expr}{a:CE}{f:Bool->List D->Sto->Option (D × Sto)}{c:List Keyword}{p pos:Pos}(I:Snd T C ar k n)(G:CtxOk T C ar k b X)(g:∀j:TE,PE X e j->PE X (.Call (.Name x p) [e] c pos) (tUn (rSq X.K f) j))(h:aE T n b e a=aT) :
  PE X (.Call (.Name x p) [e] c pos) (tE X.K (if ak a=aT then qu f (ci C ar n a) else qv f (evE C ar n a))):=by
 split
 ·rename_i u;exact PE.imp (g _ (I.tm b X e a G u h)) λo H Q q=>Ha q
 ·exact PE.imp (g _ (I.e b X e a G h)) λo H Q q=>He q
def uR{x y:Str}(h:(x == y)=aT):x=y:=eq_of_beq h
def kD{K:WW}{x:XE}{g:L2.St}{H:Hp}{Q Q':VK}(h:tE K x g H Q)(f:∀v c,Q v c->Q' v c):tE K x g H Q':=by
 obtain⟨m,o,S,d,p,E,R,e,q⟩:=h;exact⟨m,o,S,d,p,E,R,e,λj c v A vd=>f _ _ (q j c v A vd)⟩
def zK{x:XE}{u:L2.St}{H:Hp}{Q:VK}{K:WW}(h:dY K (lv x) u H Q):tUn (rTm K λ_ g=>aa g) (tE K x) u H Q:=by
 obtain⟨m,U,S,g,S',E,R,e,q⟩:=h;obtain⟨d,S1,e1,e⟩:=ag e;cases hi:ao d S1 with
 |none=>rw[hi] at e;cases e
 |some r=>
  rw[hi] at e;cases e;refine⟨m,U,S,d,_,E,R,e1,λm1 H1 v c vd=>?_⟩;obtain⟨a,vs,Z,J,f⟩:=cJ (tu:=r.1) (ds:=r.2) c.rel vd hi;refine⟨m1,_,r.1,r.2,a,vs,r.2,c.rel,Z,J,f,rfl,λB z p ws A2 Y L y n3 vw=>?_⟩
  have O:H p=aD:=by
   cases I:H p with
   |none=>rfl
   |some o=>
    by_cases j:p ∈ m
    ·exact absurd rfl (y p (c.ext.pre.subset j))
    ·have:=c.ext.keep p o I j;rw[n3] at this;cases this
  exact q B z p ws (c.trans A2) Y L (λb hb=>y b (c.ext.pre.subset hb)) O vw
def zL{x:XA}{j:L2.St}{H:Hp}{Q:VK}{K:WW}(h:dY K x j H Q):tUn (rTm K λ_ c=>aa c) (dY K x) j H Q:=by
 obtain⟨m,U,S,c,I,E,R,e,q⟩:=h;refine⟨m,U,S,c,I,E,R,e,λm1 H1 a v f y na _ _ vd=>?_⟩;refine⟨m1,_,aW,c,a,v,c,f.rel,rfl,show SqL K H1 a v from SqL.of y,vd,rfl,λB z p ws A2 Y L u Z vw=>?_⟩
 have O:H p=aD:=by
  cases J:H p with
  |none=>rfl
  |some o=>
   by_cases g:p ∈ m
   ·exact absurd rfl (u p (f.ext.pre.subset g))
   ·have:=f.ext.keep p o J g;rw[Z] at this;cases this
 exact q B z p ws (f.trans A2) Y L (λb hb=>u b (f.ext.pre.subset hb)) O vw
abbrev ifT(C:Calls)(ar:Nat->Nat)(n:Nat)(K:WW):Option CE->TT
 |none=>v7
 |some c=>tT K (evT C ar n c)
def lQ(I:Snd T C ar k n)(G:CtxOk T C ar k b X){ifs:List Expr}{cond:Option CE}(h:zJ (eS T n b) ifs cond=aT):PTs X ifs (ifT C ar n X.K cond):=by
 cases cond with
 |none=>rw[fJ h];exact uw
 |some c=>obtain⟨e,rfl,h⟩:=lw h;exact Cf (I.t b X e c G h)
def tU{K:WW}{cond:Option CE}{f:Addr}{c:XA}{D:Ends}{g:L2.St}{H:Hp}(q:tCl K f (cnd (evT C ar n) cond c) D g H):dX (ifT C ar n K cond) (tCl K f c) D g H:=by
 cases cond with
 |none=>exact HC q
 |some c=>exact CO q
def qS(I:Snd T C ar k n)(G:CtxOk T C ar k b X){l:Option Expr}{lo:Option CE}(h:zI (aE T n b) l lo=aT):PO X l (tOI X.K (opt (evE C ar n) lo)):=by
 cases lo with
 |none=>
  cases l with
  |none=>exact PO.imp B5 λf H Q q=>Cy q
  |some _=>cases h
 |some c=>obtain⟨e,rfl,h⟩:=wZ h;exact PO.imp (B6 (I.e b X e c G h)) λf H Q q=>Cz q
def HX(B:Snd T C ar k n)(e:Expr)(Y:List WD)(E:CE)(u:List Cl)(G:CtxOk T C ar k b X)(h:nK T (n+1) b e Y E u=aT)(c:List WD)(j:Scope)(pos:Pos)(o:Addr)(d:Nat)(hd:c.drop (d+1)=Y) :
  PTl X (.l e) c j pos o d (tCl X.K o (gI C ar (n+1) E u)):=by
 have imp:∀ {t t':TS},PTl X (.l e) c j pos o d t->(∀D p H,t' D p H->t D p H)->PTl X (.l e) c j pos o d t':=λh f v s p H D I q=>h v s p H D I (f D p H q);cases u with
 |nil=>
  obtain⟨J,h⟩:=an2 h;cases fJ J
  have L:c[d+1]?=aD:=by
   have:=congrArg Zc hd;simp at this;exact ZW.mpr (by omega)
  exact imp (yy G.xe L (B.e b X e E G h)) λD p H q=>CN q
 |cons g y=>
  obtain⟨tg,it,cond⟩:=g;obtain⟨⟨t,i,ifs,as⟩,gs',rfl,h⟩:=fI h;obtain⟨J,U,h2,h3,h4⟩:=an5 h;cases of_decide_eq_true J
  have L:c[d+1]?=aa ⟨t,i,ifs,0⟩:=by
   have:=congrArg (·[0]?) hd
   simpa using this
  have O:c.drop (d+1+1)=gs':=by
   have:=congrArg (Yd 1) hd
   simpa[List.drop_drop] using this
  have Q:=ec U (λe Z env=>cM Z) X.env;exact imp (Ci L (B.i [o] b X t i it G U) (eT G h2) (lQ B G h3) (B.cl b X e gs' E y G h4 c j pos o (d+1) O) G.xe G.calm Q) λD p H q=>zk (λD p H z=>tU z) q
def Mh(I:Snd T C ar k n)(B:List Addr)(t e:Expr)(c:CI)(G:CtxOk T C ar k b X)(h:pw T (n+1) b t e c=aT):PI X t e (tIt X.K B (evI C ar (n+1) c)):=by
 cases c with
 |val a=>
  have h:=an2 h;show PI X t _ (tIt X.K B (if ak a=aT then xIT (ci C ar n a) else xIV (evE C ar n a)));split
  ·rename_i u;exact PI.imp (um (I.tm b X _ a G u h.1)) λj H R q=>Ot q
  ·exact PI.imp (PI.or (um (I.e b X _ a G h.1)) (GG (I.e b X _ a G h.1))) λj H R q=>Oq q
 |r1 a=>
  obtain⟨x,p,q,rfl,g,f,h4⟩:=bc h;exact PI.imp (vM (G.gl g).1 (G.bl _ (by decide)) (cj (I.e b X x a G f) h4) (aw h4)) λj H R q=>L1 q
 |r2 a c=>
  obtain⟨x,y,p,q,rfl,g,f,h4,v,o⟩:=lI h;exact PI.imp (vN (G.gl g).1 (G.bl _ (by decide)) (iR (I.e b X x a G f) (cj (I.e b X y c G v) o) h4) (by rw[aw h4,aw o];rfl) (aw o)) λj H R q=>L3 q
 |en a=>
  have h:=an2 h;obtain⟨x,p,q,rfl,g,f,h4⟩:=bc h.1;obtain⟨E,z,J,rfl,_⟩:=zE h.2;show PI X _ _ (tIt X.K B (if ak a=aT then xET (ci C ar n a) else xEV (evE C ar n a)));split
  ·rename_i u;exact PI.imp (yE (G.gl g).1 (G.bl _ (by decide)) (cj (I.tm b X x a G u f) h4) (aw h4)) λj H R q=>LZ q
  ·exact PI.imp (PI.or (yE (G.gl g).1 (G.bl _ (by decide)) (cj (I.e b X x a G f) h4) (aw h4)) (G8 (G.gl g).1 (G.bl _ (by decide)) (cj (I.e b X x a G f) h4) (aw h4))) λj H R q=>LY q
end
end Ev
namespace Ev
open PySem
section
variable {prog:Program} {w:World} {A:Around} {E:Value->Shared->Prop} {s:Shared}
abbrev ef(c:Array (Int × Value))(b:Nat)(t:SetTable):Obj:={ cls:=.type "set", dict:=aD,data:=.set c b t }
abbrev zM(L:Array (Int × Value) × SetTable × Bool × Bool):Array (Int × Value) × SetTable:=
 if (!L.2.2.1 && L.2.1.tooFull)=aT then ((VI L.2.1 L.1 (SetTable.grown L.1.size)).1,(VI L.2.1 L.1 (SetTable.grown L.1.size)).2.1) else (L.1,L.2.1)
abbrev eu(p:Array (Int × Value) × SetTable)(h:Int)(x:Value):Array (Int × Value) × SetTable:=zM (layNew p.2 p.1 h x)
def ju(p:Array (Int × Value) × SetTable)(h:Int)(x:Value):(eu p h x).1.toList.Perm (p.1.toList++[(h,x)]):=by
 have a:=layNew_perm p.2 p.1 h x;rw[X1] at a;unfold eu zM;split
 ·exact(relayAll_perm _ _ _).trans a
 ·exact a
def nR(p:Array (Int × Value) × SetTable)(h:Int)(x:Value):(eu p h x).2.fits (eu p h x).1.size=aT:=by
 unfold eu zM;split
 ·exact relayAll_fits _ _ _
 ·exact layNew_fits _ _ _ _
def HY{a:Addr}{n:Array (Int × Value)}{O:Nat}{t:SetTable}{i:Int}{o:Tok}{Q:Bool->Shared->Prop}(J:s.heap.get? a=aa (ef n O t))(hf:t.fits n.size=aT)
  (v:ElemsOf (intKind prog w) n.toList) (hn:∀e ∈ n.toList,(intKind prog w).is i e.2=aW) (hb:n.size+1 < scanBound)
  (h:∀h' U,Heap.SameBut a s.heap h'->h'.get? a=aa (ef (eu (n,t) ((intKind prog w).hash i) (.int i o)).1 U (eu (n,t) ((intKind prog w).hash i) (.int i o)).2)->Q aT { s with heap:=h',toks:=s.toks+1 }) :
  wpAny (model prog w) A (setAdd a (.int i o)) Q E s:=by
 have p:(intKind prog w).is i (.int i o)=aT:=by show decide _=aT;simp
 have C:(Value.int i o).scannable=aT:=rfl;unfold setAdd;refine V5 (VY ((intKind prog w).pyHash p ?_));unfold setAddHashed setAddHashedIn;refine V5 (VY (Up J rfl hf ?_));dsimp only;rw[byScan_of C (by omega) v];simp only[↓reduceIte];unfold setAddByScan;refine VY ?_;refine VY (Ul ?_);refine VY (wpAny_setScan_of p J rfl hf v ?_);rw[List.findIdx?_eq_none_iff.mpr λe he=>hn e he];dsimp only
 have B:∀ (b:Bool) {s₁:Shared} {u:Unit->Shared->Prop},u () s₁->wpAny (model prog w) A (match b with |true=>rule "set.scan.the-table-gave-way" |false=>pure ()) u E s₁:=
  λb s₁ u X=>by cases b <;> first |exact Ud X |exact Ul X
 have y:=ju (n,t) ((intKind prog w).hash i) (.int i o);unfold eu zM at h y;have g:=layNew_perm t n ((intKind prog w).hash i) (.int i o);generalize hL:layNew t n ((intKind prog w).hash i) (.int i o)=L at h y g ⊢;obtain⟨f,T,j,Z⟩:=L;dsimp only at h y g ⊢;have hsz:f.size=n.size+1:=by rw[<-ZL,g.length_eq,ZL,Wg]
 refine VY (B _ ?_)
 have tail:∀ (u:Option Bool->Shared->Prop),(∀I,Q aT I->u (aa aT) I)->wpAny (model prog w) A (do
    storeSet a f T
    if (!j && T.tooFull)=aT then do
      (match (VI T f (SetTable.grown f.size)).2.2 with |true=>rule "set.scan.the-table-gave-way" |false=>pure ())
      storeSet a (VI T f (SetTable.grown f.size)).1 (VI T f (SetTable.grown f.size)).2.1
      pure (aa aT)
     else pure (aa aT)) u E { s with toks:=s.toks+1 }:=by
  intro u Y;refine VY (wpAny_storeSet_of J rfl ?_ (fits_of_scanBound (by omega)))
  have g1:(s.heap.update a (Obj.putSet f T)).get? a=aa (ef f (O+1) T):=by
   have:=Z0 (Obj.putSet f T) J rfl;exact this
  split
  ·rename_i c;rw[if_pos c] at h y;refine VY (B _ ?_);have z:=y.length_eq;rw[Zi,ZL,ZL] at z;refine VY (wpAny_storeSet_of g1 rfl ?_ (fits_of_scanBound (by simp at z;omega)));refine Ud (Y _ (h _ (O+2) ((Heap.SameBut.update s.heap a _).trans (Heap.SameBut.update _ a _)) ?_));exact Z0 (Obj.putSet _ _) g1 rfl
  ·rename_i c;rw[if_neg c] at h;exact Ud (Y _ (h _ _ (Heap.SameBut.update s.heap a _) g1))
 split
 ·refine VY ?_;rw[hashByValue_scannable 8 C];refine Ud ?_;refine tail _ λI q=>?_;dsimp only;exact Ud q
 ·refine VY (Ud ?_);simp only[↓reduceIte];refine tail _ λI q=>?_;dsimp only;exact Ud q
end
def jv:plainId "set.update.loop" = aT:=by decide +kernel
def nS:Vs table "set.update.loop" = aa Builtin.«set.update.loop»:=entryFor_of_fast (by kernel_rfl)
noncomputable abbrev CZ(x:Int × Tok):Int × Value:=(hashInt x.1,.int x.1 x.2)
noncomputable abbrev vI(x:Int × Tok):Value:=.int x.1 x.2
abbrev gJ(p:Array (Int × Value) × SetTable)(l:List (Int × Tok)):Array (Int × Value) × SetTable:=l.foldl (λp x=>eu p (hashInt x.1) (vI x)) p
section
variable {prog:Program} {w:World} {A:Around} {E:Value->Shared->Prop} {s:Shared}
def w9{es:List (Int × Value)}{l:List (Int × Tok)}(h:es.Perm (l.map CZ)):ElemsOf (intKind prog w) es:=λe b=>by
 obtain⟨x,_,rfl⟩:=ZA.mp (h.mem_iff.mp b);exact⟨⟨x.1,by show decide _=aT;simp,rfl⟩,rfl⟩
def zN(hh:A.handled=aD){S I l:Addr}(g:S ≠ I)(hSl:S ≠ l)(hIl:I ≠ l){X:List (Int × Tok)}(hn:(X.map (·.1)).Nodup)(hb:X.length < 4000){R:Result->Shared->Prop} :
  ∀ (k i:Nat) (s:Shared) (f:Array (Int × Value)) (q:Nat) (t:SetTable),X.length - i=k->i<=X.length->s.heap.IsListIter I l i->s.heap.IsList l (X.map vI).toArray->s.heap.get? S=aa (ef f q t)->t.fits f.size=aT->f.toList.Perm ((X.take i).map CZ) ->
  (∀h' ep' T,(∀b o,b ≠ S->b ≠ I->s.heap.get? b=aa o->h'.get? b=aa o)->h'.get? S=aa (ef (gJ (f,t) (X.drop i)).1 ep' (gJ (f,t) (X.drop i)).2)->s.toks<=T->R (.ok (.ret .none)) { s with heap:=h',toks:=T }) ->
  codeAny (model prog w) A (.builtin "set.update.loop" ⟨[.ref S,.ref I],[]⟩) R s:=by
 intro k
 induction k with
 |zero=>
  intro i s f q t hk hi p B hS hf v L;have hin:i=X.length:=by omega
  subst hin;refine Vm nS ?_;rw[Around.under_plainId jv _];show wpAny _ A.in1 (pyNext (.ref I) >>= _) _ _ s;refine VY (Uj (show A.in1.handled=aD from hh) p B (by simp) λh' C=>?_);rw[Wa] at L;exact Ud (L h' q s.toks (λb o _ hbI e=>C b o hbI e) (C _ _ g hS) (Zd _))
 |succ k ih=>
  intro i s f q t hk hi p B hS hf v L;have h:i < X.length:=by omega
  have U:(X.map vI).toArray[i]?=aa (vI X[i]):=by simp[h]
  refine Vm nS ?_;rw[Around.under_plainId jv _];show wpAny _ A.in1 (pyNext (.ref I) >>= _) _ _ s;refine VY (Uk p B U λh' y n=>?_);show wpAny _ A.in1 (holding [vI X[i]] (setAdd S (vI X[i])) >>= _) _ _ _
  have len:f.size=i:=by
   have:=v.length_eq;rw[Za,ZC,ZL] at this;omega
  have hS1:h'.get? S=aa (ef f q t):=n.extBut S _ g hS
  have Q:h'.IsList l (X.map vI).toArray:=by
   obtain⟨o,z,r⟩:=B;exact⟨o,n.extBut l o (Ne.symm hIl) z,r⟩
  refine VY (V5 (HY (s:={ s with heap:=h' }) hS1 hf (w9 v) (λe C=>?_) (by have:scanBound=4096:=rfl;omega) λJ u sb g2=>?_))
  ·obtain⟨x,U,rfl⟩:=ZA.mp (v.mem_iff.mp C);obtain⟨j,hj,rfl⟩:=ZX.mp U;refine X2.mpr λc=>?_;have c:X[j].1=X[i].1:=by simpa[intKind,Value.isInt] using c
   have:=(Xp (i:=j) (j:=i) (h₀:=by simp;omega) (h₁:=by simp;omega) hn).mp (by simpa using c);omega
  ·have O:J.get? S=aa (ef (eu (f,t) (hashInt X[i].1) (vI X[i])).1 u (eu (f,t) (hashInt X[i].1) (vI X[i])).2):=g2;have T:X.take (i+1)=X.take i++[X[i]]:=by rw[Y0,gEG h];rfl
   refine Ud ⟨VF jv _,ih (i+1) _ _ u _ (by omega) h ?_ ?_ O (nR _ _ _) ?_ λh3 Y Z o3 g3 t3=>?_⟩
   ·obtain⟨o,z,r⟩:=y;exact⟨o,sb.extBut I o (Ne.symm g) z,r⟩
   ·obtain⟨o,z,r⟩:=Q;exact⟨o,sb.extBut l o (Ne.symm hSl) z,r⟩
   ·refine(ju _ _ _).trans ?_;rw[T,Zq];exact v.append_right _
   ·refine L h3 Y Z (λb o h1 J e=>o3 b o h1 J (sb.extBut b o h1 (n.extBut b o J e))) ?_ (ZH (Yt _) t3);rw[Xg h];exact g3
end
section
variable {prog:Program} {w:World} {A:Around} {E:Value->Shared->Prop} {s:Shared}
noncomputable abbrev pB(w:World):Obj:=ef #[] 0 (.fresh 0 0 (!w.params.followText "set-order"))
def C0(a:Value){Q₁:Value->Shared->Prop}(h:Q₁ (.ref s.heap.objs.size) { s with heap:=s.heap.push (pB w) }) :
  codeAny (model prog w) A (.call (.builtin "set.__new__") ⟨[.type "set", a],[]⟩) (wants Q₁ E) s:=by
 refine Vo ?_;show wpAny _ A.in1 (checkBuiltinCall "set.__new__" ⟨[.type "set", a],[]⟩ >>= λ_=>again (.builtin "set.__new__" ⟨[.type "set", a],[]⟩)) _ _ s;refine VY (Ub (F.newCall_set_1 a) (Ud ⟨VF F.plain_set_new _,Vm F.entry_set_new ?_⟩));rw[Around.under_plainId F.plain_set_new _];unfold Builtin.«set.__new__» Builtin.Frozenset.newClass;have b:=sub_set_self;obtain⟨c,g,d,T,os⟩:=s;dsimp only
 wp_walk
 refine VX (Ud ?_);dsimp only;simp only[newObj];exact VY (wpAny_alloc (Ud (Ud h)))
def zO{l:Addr}{X:List (Int × Tok)}(Y:A.handled=aD)(hl:s.heap.IsList l (X.map vI).toArray)(Q:(X.map (·.1)).Nodup)(hb:X.length < 4000){P:PySem.Fin->Shared->Prop}
  (h:∀h' q T,(∀b o,s.heap.get? b=aa o->h'.get? b=aa o)->h'.get? s.heap.objs.size=aa (ef (gJ (#[],.fresh 0 0 (!w.params.followText "set-order")) X).1 q (gJ (#[],.fresh 0 0 (!w.params.followText "set-order")) X).2)->s.toks<=T->P (.done (.ret .none)) { s with heap:=h',toks:=T }) :
  wpAny (model prog w) A (Builtin.«set.__init__» ⟨[.ref s.heap.objs.size,.ref l],[]⟩) P E { s with heap:=s.heap.push (pB w) }:=by
 have U:(s.heap.push (pB w)).get? s.heap.objs.size=aa (pB w):=Zw _ rfl;obtain⟨ol,hol,f,L,c⟩:=id hl;have j:(s.heap.push (pB w)).get? l=aa ol:=Zg _ hol;have g:(s.heap.push (pB w)).IsList l (X.map vI).toArray:=⟨_,j,f,L,c⟩;have n:l < s.heap.objs.size:=Zp hol;obtain⟨C,v,u,O⟩:=ol;simp only at f c;subst f;subst c;have B:=F.sub_list_set;have z:=F.sub_list_frozenset;have I:(Value.type "list" == Value.type "dict")=aW:=by decide
 unfold Builtin.«set.__init__» noKeywords Builtin.Frozenset.updateFrom;generalize y:pyIter=PI
 wp_walk
 subst y;refine Uf g (VY (wpAny_runValue ?_));have p:(s.heap.push (pB w)).objs.size=s.heap.objs.size+1:=Yn _ _;refine zN (l:=l) (by simp[Y]) (Zz (by rw[p];exact YE _)) (YS n) (YS (by rw[p];exact Yq n)) Q hb X.length 0 _ #[] 0 _ rfl (Yb _) ⟨_,Zw _ rfl,rfl,rfl⟩ (g.push _) (Zg _ U) rfl (by simp) λh' q T ho Z J=>?_;refine Ud (Ud ?_);refine h h' q T (λb o e=>ho b o ?_ ?_ (Zg _ (Zg _ e))) Z J
 ·exact Zz (Zp e)
 ·exact Zz (by rw[p];exact Yq (Zp e))
def xa{l:Addr}{X:List (Int × Tok)}(O:A.handled=aD)(hl:s.heap.IsList l (X.map vI).toArray)(I:(X.map (·.1)).Nodup)(hb:X.length < 4000){Q:Value->Shared->Prop}
  (h:∀h' v T,(∀b o,s.heap.get? b=aa o->h'.get? b=aa o)->h'.get? s.heap.objs.size=aa (ef (gJ (#[],.fresh 0 0 (!w.params.followText "set-order")) X).1 v (gJ (#[],.fresh 0 0 (!w.params.followText "set-order")) X).2)->s.toks<=T->Q (.ref s.heap.objs.size) { s with heap:=h',toks:=T }) :
  wpAny (model prog w) A (call (.type "set") [.ref l]) Q E s:=by
 obtain⟨c,Z,z⟩:=F.called_set.mro;have q:=F.called_set.made;have y:=F.called_set.sub;refine wpAny_call (Vo ?_);show wpAny _ _ (callAny (.type "set") _) _ _ _;refine Ud ⟨Code.quiet_builtin _ (by decide +kernel),Vm F.entry_type_call ?_⟩;rw[Around.under_plain (weight_type_call_type "set" [.ref l] []) rfl];have h1:=F.called_set.notType;have h2:=F.called_set.canCreate;have U:=F.typeCall_set_1 (.ref l)
 repeat (any_goals (first |assumption |wp_step))
 refine Vn (C0 (.ref l) (E:=E) (Q₁:=λobj g=>obj = .ref s.heap.objs.size/\g={ s with heap:=s.heap.push (pB w) }) ⟨rfl,rfl⟩) λr g u=>?_;cases r with
 |error e=>exact u
 |ok B=>
  cases B with
  |ret obj=>
   obtain⟨rfl,rfl⟩:=u;have J:Shared.TypeIs { s with heap:=s.heap.push (pB w) } (.ref s.heap.objs.size) "set" := ⟨_,Zw _ rfl,rfl⟩;have C:=F.called_set.init.lookup;have L:=F.called_set.init.bind (.ref s.heap.objs.size)
   repeat (any_goals (first |assumption |wp_step))
   refine Vn (codeAny_call_builtin (R:=wants (λr j=>r = .none/\Q (.ref s.heap.objs.size) j) E) F.called_set.init.plain F.entry_set_init (check_set_init_1 J (zO (by simp[O]) hl I hb λh' v T a b c=>⟨rfl,h h' v T a b c⟩))) λp j f=>?_;cases p with
   |error e=>exact f
   |ok n=>
    cases n with
    |ret r=>
     obtain⟨rfl,Y⟩:=f
     repeat (any_goals (first |assumption |wp_step))
    |_=>exact f.elim
  |_=>exact u.elim
end
def bH:Slot "set_iterator" "__next__" "set_iterator.__next__" :=
 .of (owner := "set_iterator") (n := "__next__") (by rw[VV,Vi];kernel_rfl) (by decide +kernel) (by decide +kernel) (by decide +kernel)
  (by first |exact .inl (by decide +kernel) |exact .inr (by decide +kernel)) (by rw[Vx];kernel_rfl)
def eA:Vs table "set_iterator.__next__" = aa Builtin.«set_iterator.__next__»:=entryFor_of_tree (by kernel_rfl)
def jP:Manifest.owners.lookup (String.ofList ['r','o','t','a','r','e','t','i','_','t','e','s'].reverse)=aa Manifest.sig_set_iterator:=by kernel_rfl
def fo(a:Value):argsOk "set_iterator.__next__" ⟨[a],[]⟩:=by
 unfold argsOk;rw[signature?_of (id := "set_iterator.__next__") (n:=['_','_','t','x','e','n','_','_']) (o:=['r','o','t','a','r','e','t','i','_','t','e','s']) (by kernel_rfl) jP];kernel_rfl
def lU:Vs table "set.__iter__" = aa Builtin.«frozenset.__iter__»:=
 entryFor_alias (id' := "frozenset.__iter__") (by kernel_rfl) rfl (by decide +kernel) (by kernel_rfl)
abbrev sl0(t:SetTable):Nat->Nat
 |0=>0
 |i+1=>t.place.getD i 0+1
structure TabOk(t:SetTable)(n:Nat):Prop where
 pl:t.plain=aT
 sz:t.place.size=n
 at':∀i,i<=n->SetTable.below t.place (sl0 t i)=i
section
variable {prog:Program} {w:World} {A:Around} {E:Value->Shared->Prop} {s:Shared}
noncomputable abbrev txt(w:World):Bool:=w.params.followText "set-order"
abbrev hX(w:World)(a:Addr)(c:Nat)(b:Array (Int × Value)):Array (Int × Value):=if txt w=aT then pickOrder (w.params.setOrder a c) b else b
abbrev bB(w:World)(t:SetTable)(i:Nat):Nat:=if txt w=aT then 0 else sl0 t i
abbrev ko(a:Addr)(sl i n b:Nat):Obj:={ cls:=.type "set_iterator", data:=.fields #[.int sl 0,.int i 0,.ref a,.int n 0,.int b 0] }
def jw{Q:Bool->Shared->Prop}(h:Q (txt w) s):wpAny (model prog w) A setsByText Q E s:=VY (VX (Ud h))
def zP{a:Addr}{b:Array (Int × Value)}{c:Nat}{t:SetTable}{Q:Bool->Shared->Prop}(g:s.heap.get? a=aa (ef b c t))(j:t.fits b.size=aT)(f:t.plain=aT)(h:Q aW s):wpAny (model prog w) A (setDrawn a) Q E s:=by
 unfold setDrawn;refine VY (Up g rfl j ?_);dsimp only;refine VY (jw (Ud ?_));have e:(!txt w && (!t.plain && decide (b.size > 1)))=aW:=by rw[f];simp
 exact e ▸ h
def uS{a:Addr}{b:Array (Int × Value)}{f:Nat}{t:SetTable}{i:Nat}{Q:Option (Value × Nat)->Shared->Prop}(g:s.heap.get? a=aa (ef b f t))(j:t.fits b.size=aT)(T:TabOk t b.size)(hl:t.led = !txt w)(hi:i<=b.size)
  (h:Q (((hX w a f b)[i]?).map λe=>(e.2,bB w t (i+1))) s):wpAny (model prog w) A (setNext a (bB w t i) i f) Q E s:=by
 unfold setNext;refine VY (Up g rfl j ?_);dsimp only;refine VY (jw ?_);unfold hX bB at h;unfold bB;cases c:txt w with
 |true=>
  rw[c] at h;rw[if_pos rfl] at h ⊢;simp only[↓reduceIte,bne_self_eq_false,ZY];unfold setWalk;refine VY (VY (Up g rfl j ?_));dsimp only;refine VY (jw ?_);rw[c];simp only[↓reduceIte];refine VY (VX (Ud (Ud ?_)));rw[if_pos rfl] at h;exact h
 |false=>
  rw[c] at h hl;simp only[ZY,↓reduceIte] at h ⊢;have n:(!t.plain && decide (b.size > 1))=aW:=by rw[T.pl];rfl
  have o:(!t.led && !b.isEmpty)=aW:=by rw[hl];rfl
  show wpAny _ _ (if (!t.plain && decide (b.size > 1))=aT then _ else _) _ _ _;rw[if_neg (by rw[n];exact Zf)];show wpAny _ _ ((if (!t.led && !b.isEmpty)=aT then _ else pure ()) >>= _) _ _ _;rw[if_neg (by rw[o];exact Zf)];refine VY (Ud (Ud ?_));rw[T.at' i hi];by_cases z:i < b.size
  ·have Z:i < t.place.size:=by rw[T.sz];exact z
   rw[Z5 z] at h ⊢;rw[Z5 Z];have:sl0 t (i+1)=t.place[i]+1:=by show t.place.getD i 0+1=_;simp[Array.getD,Z]
   rw[this] at h;exact h
  ·rw[YJ (by omega)] at h ⊢;exact h
end
def fq:Slot "set_iterator" "__iter__" "set_iterator.__iter__" :=
 .of (owner := "set_iterator") (n := "__iter__") (by rw[VV,Vi];kernel_rfl) (by decide +kernel) (by decide +kernel) (by decide +kernel)
  (by first |exact .inl (by decide +kernel) |exact .inr (by decide +kernel)) (by rw[Vx];kernel_rfl)
def jx:Vs table "set_iterator.__iter__" = aa Builtin.«dict_keyiterator.__iter__»:=
 entryFor_alias (id' := "dict_keyiterator.__iter__") (by kernel_rfl) rfl (by decide +kernel) (by kernel_rfl)
def kq(a:Value):argsOk "set_iterator.__iter__" ⟨[a],[]⟩:=by
 unfold argsOk;rw[signature?_of (id := "set_iterator.__iter__") (n:=['_','_','r','e','t','i','_','_']) (o:=['r','o','t','a','r','e','t','i','_','t','e','s']) (by kernel_rfl) jP];kernel_rfl
def lV:typeLookup (.type "set") "__len__" = pure (aa (.builtin "set.__len__")):=by rw[VV,Vi];kernel_rfl
section
variable {prog:Program} {w:World} {A:Around} {E:Value->Shared->Prop} {s:Shared} {a I:Addr} {es:Array (Int × Value)} {ep:Nat} {t:SetTable} {i:Nat}
def zQ:(hX w a ep es).size<=es.size:=by
 unfold hX;split
 ·show(pickOrder.go _ _ 0 _ #[]).size<=_
  have:∀ (f k:Nat) (l:List (Int × Value)) (o:Array (Int × Value)),(pickOrder.go (w.params.setOrder a ep) f k l o).size<=o.size+l.length:=by
   intro f
   induction f with
   |zero=>intro k l o;unfold pickOrder.go;omega
   |succ f b=>
    intro k l o;unfold pickOrder.go;split
    ·have:=b (k+1) (l.eraseIdx (w.params.setOrder a ep k % l.length)) (o.push ‹_›);have h:=(Zb.mp ‹_›).1;rw[YQ h,Wg] at this;omega
    ·omega
  have:=this es.size 0 es.toList #[]
  simpa using this
 ·exact Zd _
def C1{v:Int × Value}{Q:Option Value->Shared->Prop}(hi:s.heap.get? I=aa (ko a (bB w t i) i es.size ep))(f:s.heap.get? a=aa (ef es ep t))(j:t.fits es.size=aT)(T:TabOk t es.size)(hl:t.led = !txt w)(c:(hX w a ep es)[i]?=aa v)
  (h:∀h',Heap.SameBut I s.heap h'->h'.get? I=aa (ko a (bB w t (i+1)) (i+1) es.size ep)->Q (aa v.2) { s with heap:=h' }):wpAny (model prog w) A (pyNext (.ref I)) Q E s:=by
 have b:i<=es.size:=by
  have:=(Array.getElem?_eq_some_iff.mp c).1;have:=zQ (w:=w) (a:=a) (ep:=ep) (es:=es);omega
 have g:s.TypeIs (.ref I) "set_iterator" := ⟨_,hi,rfl⟩;unfold pyNext
 refine VY (wpAny_attempt (wpAny_callSpecial?_slot (name:=Str.ofString "__next__") g bH
  (V0 bH g eA ?_ (fo _))))
 show wpAny _ _ (fieldsOf (.ref I) >>= _) _ _ s;refine VY (wpAny_fieldsOf hi rfl ?_);show wpAny _ _ (setEntries a >>= _) _ _ s;refine VY (Um f rfl j ?_);rw[if_neg (by simp)];show wpAny _ _ (setNext a (bB w t i) i ep >>= _) _ _ s;refine VY (uS f j T hl b ?_);rw[c];show wpAny _ _ (setField (.ref I) 0 (rawInt (bB w t (i+1))) >>= _) _ _ s;refine VY (Uo hi rfl (by simp) ?_);have g1:(s.heap.update I (Obj.mapFields (·.setIfInBounds 0 (rawInt (bB w t (i+1)))))).get? I=aa (ko a (bB w t (i+1)) i es.size ep):=Z0 _ hi rfl;show wpAny _ _ (setField (.ref I) 1 (rawInt ((i:Int)+1)) >>= _) _ _ _;refine VY (Uo g1 rfl (by simp) (Ud ⟨v.2,rfl,Ud (h _ ((Heap.SameBut.update ..).trans (Heap.SameBut.update ..)) ?_)⟩));exact Z0 _ g1 rfl
def HZ{Q:Option Value->Shared->Prop}(o:A.handled=aD)(hi:s.heap.get? I=aa (ko a (bB w t i) i es.size ep))(f:s.heap.get? a=aa (ef es ep t))(j:t.fits es.size=aT)(T:TabOk t es.size)(hl:t.led = !txt w)(c:i<=es.size)(n:(hX w a ep es)[i]?=aD)
  (h:∀h',Heap.ExtBut I s.heap h'->Q aD { s with heap:=h' }):wpAny (model prog w) A (pyNext (.ref I)) Q E s:=by
 have g:s.TypeIs (.ref I) "set_iterator" := ⟨_,hi,rfl⟩;unfold pyNext
 refine VY (wpAny_attempt (wpAny_callSpecial?_slot (name:=Str.ofString "__next__") g bH
  (V0 bH g eA ?_ (fo _))))
 show wpAny _ _ (fieldsOf (.ref I) >>= _) _ _ s;refine VY (wpAny_fieldsOf hi rfl ?_);show wpAny _ _ (setEntries a >>= _) _ _ s;refine VY (Um f rfl j ?_);rw[if_neg (by simp)];show wpAny _ _ (setNext a (bB w t i) i ep >>= _) _ _ s;refine VY (uS f j T hl c ?_);rw[n];show wpAny _ _ (setField (.ref I) 2 .none >>= _) _ _ s;refine VY (Uo hi rfl (by simp) ?_);show wpAny _ _ (newExc (.type "StopIteration") [] >>= _) _ _ _;refine VY ?_;simp only[newExc,newTuple];refine VY (Ua ?_ (by size_fits));refine VY (m:=Vt _ _) (Ub (a:=Value.none) (by first |rfl |(simp only[Vt];rfl)) ?_);refine Ua ?_ (by size_fits);simp only[raiseNew];refine VY (wpAny_handled ?_);rw[show A.in1.handled=aD from o];refine VY (Ud (wpAny_throw ?_));refine VY (wpAny_isInstance (T := "StopIteration") (b:=true) ⟨_,Zw _ rfl,rfl⟩ isSubtype_stop ?_);exact Ud (h _ (((Heap.SameBut.update ..).extBut.push _).push _))
end
def lW{b:Type}{x:b}:∀ {l:List b} {i:Nat},l[i]?=aa x->(x::l.eraseIdx i).Perm l
 |[],_,h=>by simp at h
 |y::l,0,h=>by cases h;exact List.Perm.refl _
 |y::l,i+1,h=>(List.Perm.swap y x _).trans ((lW (l:=l) (i:=i) (by simpa using h)).cons y)
def nT{g:Type}(next:Nat->Nat):∀ (f k:Nat) (l:List g) (o:Array g),l.length<=f->(pickOrder.go next f k l o).toList.Perm (o.toList++l)
 |0,k,l,o,h=>by
  have:l=[]:=Yc.mp (by omega);subst this;unfold pickOrder.go;simp
 |f+1,k,l,o,h=>by
  unfold pickOrder.go;split
  ·rename_i x b;have c:=(Zb.mp b);refine(nT next f (k+1) _ _ (by rw[YQ c.1];omega)).trans ?_;rw[X1,Yg];refine List.Perm.append_left _ ?_;exact lW b
  ·rename_i b;by_cases z:l=[]
   ·subst z;simp
   ·have:0 < l.length:=Xb.mpr z;have:=ZW.mp b;have:=Nat.mod_lt (next k) ‹0 < l.length›;omega
def zR{w:World}{a:Addr}{ep:Nat}{es:Array (Int × Value)}:(hX w a ep es).toList.Perm es.toList:=by
 unfold hX;split
 ·unfold pickOrder
  simpa using nT (w.params.setOrder a ep) es.size 0 es.toList #[] (by simp)
 ·exact List.Perm.refl _
section
variable {prog:Program} {w:World} {A:Around} {E:Value->Shared->Prop} {s:Shared} {a I:Addr} {es:Array (Int × Value)} {ep:Nat} {t:SetTable} {i:Nat}
def pC:(hX w a ep es).size=es.size:=by
 have:=(zR (w:=w) (a:=a) (ep:=ep) (es:=es)).length_eq
 simpa using this
def C2{Q:Value->Shared->Prop}(b:s.heap.get? a=aa (ef es ep t))(c:t.fits es.size=aT)(T:TabOk t es.size)
  (h:Q (.ref s.heap.objs.size) { s with heap:=s.heap.push (ko a (bB w t 0) 0 es.size ep) }):wpAny (model prog w) A (pyIter (.ref a)) Q E s:=by
 have f:s.TypeIs (.ref a) "set" := ⟨_,b,rfl⟩;refine wpAny_pyIter_slot f F.slot_set_iter (V0 F.slot_set_iter f lU ?_ (F.args_set_iter_1 _));show wpAny _ _ (Builtin.Frozenset.sizeOf a >>= _) _ _ s;unfold Builtin.Frozenset.sizeOf;refine VY (VY (Um b rfl c (Ud ?_)));refine VY (zP b c T.pl ?_);rw[if_neg Zf];refine VY (Ud ?_);refine VY (wpAny_setEpoch_of b rfl c ?_);have e:bB w t 0=0:=by unfold bB sl0;split <;> rfl
 rw[e] at h;exact VY (Ua (Ud ⟨_,rfl, "set_iterator", _,⟨_,Zw _ rfl,rfl⟩,bH.lookup,h⟩))
def zS(z:A.handled=aD)(j:a ≠ I)(y:t.fits es.size=aT)(T:TabOk t es.size)(hl:t.led = !txt w) :
  Walks prog w A I [I,a] [I] es.size (λi v=>((hX w a ep es)[i]?).map (·.2)=aa v) (λi h=>h.get? I=aa (ko a (bB w t i) i es.size ep)/\h.get? a=aa (ef es ep t)) where
 sub:=λb hb=>by simp at hb;simp[hb]
 frame:=λ_ _ _ st q=>⟨q I (by simp) _ st.1,q a (by simp) _ st.2⟩
 item:=λi s Q E hi st f=>by
  have c:i < (hX w a ep es).size:=by rw[pC];exact hi
  refine C1 st.1 st.2 y T hl (Z5 c) λn u g=>?_;exact f _ n s.toks (by rw[Z5 c];rfl) ⟨g,u.extBut a _ j st.2⟩ λb o hb e=>u.extBut b o (λh=>hb (by simp[h])) e
 done:=λs Q E st f=>HZ z st.1 st.2 y T hl (Zd _) (YJ (by rw[pC];exact Zd _)) λn B=>f n s.toks λb o hb e=>B b o (λh=>hb (by simp[h])) e
 self:=λi s Q E st f=>by
  have p:s.TypeIs (.ref I) "set_iterator" := ⟨_,st.1,rfl⟩;refine wpAny_pyIter_slot p fq (V0 fq p jx ?_ (kq _));show wpAny _ _ (ret (.ref I)) _ _ s;exact Ud ⟨_,rfl, "set_iterator", _,p,bH.lookup,f⟩
end
section
variable {prog:Program} {w:World} {A:Around} {E:Value->Shared->Prop} {s:Shared} {a I:Addr} {es:Array (Int × Value)} {ep:Nat} {t:SetTable} {i:Nat}
def qT{Q:List Value->Shared->Prop}(hh:A.handled=aD)(ho:s.heap.get? a=aa (ef es ep t))(hf:t.fits es.size=aT)(T:TabOk t es.size)(hl:t.led = !txt w)(hn:es.size<=sizeLine)
  (h:∀h' tk,(∀b o,s.heap.get? b=aa o->h'.get? b=aa o)->s.heap.objs.size<=h'.objs.size->s.toks<=tk->Q ((hX w a ep es).toList.map (·.2)) { s with heap:=h',toks:=tk }):wpAny (model prog w) A (collect (.ref a)) Q E s:=by
 have g:=Zp ho;unfold collect;refine VY (wpAny_runValue (Vm F.entry_proto_collect ?_));rw[Around.under_plainId F.plain_proto_collect _];show wpAny _ A.in1 (newList [] >>= λl=>again (.builtin "list.__iadd__" ⟨[l,.ref a],[]⟩)) _ _ s;refine VY (Ua ?_);refine Ud ⟨VF F.plain_list_iadd _,Vm F.entry_list_iadd ?_⟩;rw[Around.under_plainId F.plain_list_iadd _];have v:(s.heap.push { cls:=.type "list", data:=.seq ([]:List Value).toArray }).get? s.heap.objs.size=aa { cls:=.type "list", data:=.seq ([]:List Value).toArray }:=Zw _ rfl;have f:(s.heap.push { cls:=.type "list", data:=.seq ([]:List Value).toArray }).get? a=aa (ef es ep t):=Zg _ ho;have k0:∀b o,s.heap.get? b=aa o->(s.heap.push { cls:=.type "list", data:=.seq ([]:List Value).toArray }).get? b=aa o:=λb o e=>Zg _ e;have Z:(s.heap.push { cls:=.type "list", data:=.seq ([]:List Value).toArray }).objs.size=s.heap.objs.size+1:=Yn _ _;show wpAny _ A.in1 (Builtin.List.listExtendWith (.ref s.heap.objs.size) (.ref a) (.ref s.heap.objs.size)) _ _ _;dsimp only at v f k0 Z ⊢;generalize s.heap.push { cls:=.type "list", data:=.seq ([]:List Value).toArray }=H at v f k0 Z ⊢;unfold Builtin.List.listExtendWith;have hT:Shared.TypeIs { s with heap:=H } (.ref a) "set" := ⟨_,f,rfl⟩;refine VY (Us hT ?_);have h1:Builtin.List.listSameRef (.ref s.heap.objs.size) (.ref a)=aW:=by simp[Builtin.List.listSameRef,YS g]
 have h2:(Value.type "set" == Value.type "list")=aW:=by decide
 have h3:(Value.type "set" == Value.type "tuple")=aW:=by decide
 simp only[h1,h2,h3,XN,ZY,if_false];refine VY (C2 f hf T ?_);have y:(H.push (ko a (bB w t 0) 0 es.size ep)).get? s.heap.objs.size=aa { cls:=.type "list", data:=.seq ([]:List Value).toArray }:=Zg _ v;have z:(H.push (ko a (bB w t 0) 0 es.size ep)).get? a=aa (ef es ep t):=Zg _ f;have U:(H.push (ko a (bB w t 0) 0 es.size ep)).get? H.objs.size=aa (ko a (bB w t 0) 0 es.size ep):=Zw _ rfl;have k1:∀b o,s.heap.get? b=aa o->(H.push (ko a (bB w t 0) 0 es.size ep)).get? b=aa o:=λb o e=>Zg _ (k0 b o e);dsimp only;generalize H.push (ko a (bB w t 0) 0 es.size ep)=H2 at y z U k1 ⊢;have u:Shared.TypeIs { s with heap:=H2 } (.ref a) "set" := ⟨_,z,rfl⟩;refine VY (V5 ?_);unfold Builtin.List.listLengthHint;refine VY (wpAny_specialOf u lV ?_);generalize J:("set.__len__" : String)=id0
 wp_delta
 rw[show splitId id0=aa ("set", "__len__") from by subst J;decide +kernel];subst J;refine VY (wpAny_isInstance (b:=true) u (by rw[Vx];kernel_rfl) ?_);show wpAny _ A.in1 (typeOf (Value.ref a) >>= _) _ _ _;refine VY (Us u ?_);refine Ud ?_;rw[if_pos (by decide)];refine VY (Ul ?_);refine VY ?_;show wpAny _ A.in1 (updateSeq s.heap.objs.size (·.push .none) >>= λ_=>updateSeq s.heap.objs.size (·.pop)) _ _ _;refine VY (wpAny_updateSeq y rfl ?_);have L:=Z0 (Obj.mapSeq (·.push Value.none)) y rfl;refine wpAny_updateSeq (hz:=by seq_fits) L rfl ?_;have Y:=Z0 (Obj.mapSeq (·.pop)) L rfl
 have O:∀b o,b ≠ s.heap.objs.size->H2.get? b=aa o->((H2.update s.heap.objs.size (Obj.mapSeq (·.push Value.none))).update s.heap.objs.size (Obj.mapSeq (·.pop))).get? b=aa o:=
  λb o hb e=>(YH _ _ (Ne.symm hb)).trans ((YH _ _ (Ne.symm hb)).trans e)
 have B:H.objs.size ≠ s.heap.objs.size:=YS (by rw[Z];exact YE _)
 have hSf:s.heap.objs.size ∉ [H.objs.size,a]:=λq=>by
  rcases Zk.mp q with h |h
  ·exact B h.symm
  ·exact absurd g (by rw[<-Zu.mp h];exact ZS _)
 have X:a ≠ H.objs.size:=Zz (by rw[Z];exact Yq g);refine Ud ⟨VF F.plain_extend_loop _,codeAny_extend_loopS ((zS (prog:=prog) (A:=A.in1) (ep:=ep) (by simpa using hh) X hf T hl).toS) hn _ hSf _ es.size 0 _ _ _ rfl (Yb _) ⟨O _ _ B U,O _ _ (Zz g) z⟩ Y (ItemsOf.nil _) λs' p c' q C n=>?_⟩;show wpAny _ A (load s.heap.objs.size >>= _) _ _ s';refine VY (wpAny_load C ?_);obtain⟨h',g',d',tk',os'⟩:=s';have eg:g'=s.gens:=q.gens;have ed:d'=s.drawn:=q.drawn;have eo:os'=s.os:=q.os;have et:s.toks<=tk':=q.toks;subst eg;subst ed;subst eo
 have el:p.toList=(hX w a ep es).toList.map (·.2):=by
  refine List.ext_getElem? λj=>?_;rw[Y2,Zl,Y2];by_cases c:j < p.size
  ·rw[Z5 c];exact(n.2 j _ (Z5 c)).symm
  ·rw[YJ (by omega),YJ (by rw[pC];have:=n.1;omega)];rfl
 refine Ud ?_;rw[el];refine h h' tk' (λb o e=>q.heap b o (λhb=>?_) (O b o (Zz (Zp e)) (k1 b o e))) (Xc (Zp C)) et;rcases Zk.mp hb with hb |hb
 ·exact absurd (Zp e) (by rw[hb];exact ZS _)
 ·exact absurd (Zp e) (by rw[Zu.mp hb,Z];exact Nat.not_lt.mpr (Yt _))
end
end Ev
namespace Ev
open PySem PyProof.Rows
def qU:∀ {a b:List Int},a.Perm b->a.Pairwise (·<=·)->b.Pairwise (·<=·)->a=b
 |[],b,p,_,_=>List.Perm.nil_eq p
 |x::a,[],p,_,_=>(List.Perm.nil_eq p.symm).symm
 |x::a,y::b,p,ha,hb=>by
  rw[Z8] at ha hb
  have e:x=y:=by
   have h1:=p.mem_iff.mp (Zj (a:=x) (l:=a));have h2:=p.mem_iff.mpr (Zj (a:=y) (l:=b));rcases Zk.mp h1 with rfl |h1
   ·rfl
   ·rcases Zk.mp h2 with h2 |h2
    ·exact h2.symm
    ·have:=ha.1 y h2;have:=hb.1 x h1;omega
  subst e;rw[qU (List.Perm.cons_inv p) ha.2 hb.2]
def qV:∀ (X:List (Int × Tok)),IntsAre (X.map vI) (X.map (·.1))
 |[]=>.nil
 |x::X=>.cons x.1 x.2 (qV X)
abbrev df(w:World)(a:Addr)(ns:List Int)(h:Heap):Prop:=∃E b t,∃X:List (Int × Tok),h.get? a=aa (ef E b t)/\t.fits E.size=aT/\TabOk t E.size/\t.led = !txt w/\E.toList.Perm (X.map CZ)/\X.map (·.1)=ns
section
variable {prog:Program} {w:World} {A:Around} {E:Value->Shared->Prop} {s:Shared} {a:Addr}
def xc{l:List Value}{xs:List (Int × Tok)}(h:l.Perm (xs.map vI)):∃y:List (Int × Tok),l=y.map vI/\y.Perm xs:=by
 induction xs generalizing l with
 |nil=>exact⟨[],by simpa using h,List.Perm.refl _⟩
 |cons x xs I=>
  obtain⟨l1,L,rfl⟩:=List.append_of_mem (h.mem_iff.mpr (Zj (a:=vI x) (l:=xs.map vI)));have g:(l1++L).Perm (xs.map vI):=List.Perm.cons_inv (Wb.symm.trans h);obtain⟨y,e,p⟩:=I g;obtain⟨Y,c,rfl,b,f⟩:=List.map_eq_append_iff.mp e.symm;exact⟨Y++x::c,by rw[Zq,Zx,b,f],Wb.trans (p.cons x)⟩
def tV{ns:List Int}{Q:Value->Shared->Prop}(hh:A.handled=aD)(hs:df w a ns s.heap)(hr:ns.Pairwise (·<=·))(u:ns.length < 64)
  (h:∀h' f p J e,(∀b o,s.heap.get? b=aa o->h'.get? b=aa o)->s.heap.objs.size<=p->s.toks<=f->IntsAre J ns->h'.get? p=aa (seqObj "list" J.toArray e)->Q (.ref p) { s with heap:=h',toks:=f }) :
  wpAny (model prog w) A (call (.builtin "sorted") [.ref a]) Q E s:=by
 obtain⟨v,C,t,X,ho,hf,T,O,I,rfl⟩:=hs;have n:v.size=X.length:=by simpa using I.length_eq
 rw[Za] at u;refine WC kind_sorted plain_sorted entry_sorted (args_sorted1 _) ?_;unfold Builtin.«sorted»;refine VY (m:=checkCount "sorted" 1 1 _) (Ud ?_);refine VY (qT (by simpa using hh) ho hf T O (by rw[n,VN];omega) λj f z z1 Z=>?_)
 have pv:((hX w a C v).toList.map (·.2)).Perm (X.map vI):=by
  have:=(zR.trans I).map (·.2) (l₁:=(hX w a C v).toList);rw[ZO] at this;exact this
 obtain⟨y,L,B⟩:=xc pv;rw[L];have hI:=qV y;have hy:y.length=X.length:=B.length_eq;refine VY (V9 ?_);have c:(j.push (seqObj "list" (y.map vI).toArray 0)).get? j.objs.size=aa (seqObj "list" (y.map vI).toArray 0):=Zw _ rfl;show wpAny _ _ _ _ _ { s with heap:=j.push (seqObj "list" (y.map vI).toArray 0),toks:=f };refine VY (V5 (V0 slot_list_sort ⟨_,c,rfl⟩ entry_list_sort (list_sort_tree c hI (by rw[Za];omega) λout q U a2 a3=>⟨_,rfl,?_⟩) (args_list_sort _)));have e:q=X.map (·.1):=qU (a2.trans (B.map _)) a3 hr;subst e;refine Ud ⟨_,rfl,?_⟩;obtain⟨e,Y⟩:=sortedHeap_at (vs:=y.map vI) (out:=out) c;refine h _ f j.objs.size out.toList e (λb o g=>?_) z1 Z U (by simpa using Y);have hb:=Zp (z b o g);have g2:=sortedHeap_old (h:=j.push (seqObj "list" (y.map vI).toArray 0)) (vs:=y.map vI) (out:=out) (Zz hb) (by rw[Yn];exact Yq hb);exact g2.trans ((Xj _ _ _ (Zz hb)).trans (z b o g))
end
end Ev
namespace Ev
open PySem
abbrev hs(E:Array (Int × Value)):Array (Int × Value):=E.map λe=>(e.1,Value.none)
abbrev H8(L:Bool)(ns:List Int):Array (Int × Value) × SetTable:=ns.foldl (λp i=>eu p (hashInt i) .none) (#[],.fresh 0 0 L)
abbrev Mi(t:SetTable)(n:Nat):Bool:=t.plain && t.place.size == n && (Zh (n+1)).all λi=>SetTable.below t.place (sl0 t i) == i
abbrev C3:Nat->List (List Int)
 |0=>[[]]
 |n+1=>C3 n++(C3 n).map λl=>l++[(n:Int)+1]
def C4:((C3 8).all λns=>[aT,aW].all λL=>ns.length == 8 || (Mi (H8 L ns).2 ns.length && (H8 L ns).2.led == L))=aT:=by decide +kernel
def Ia(E:Array (Int × Value))(p:Nat)(h:Int)(x:Value):hs (SetTable.insertAt E p (h,x))=SetTable.insertAt (hs E) p (h,.none):=by
 unfold hs SetTable.insertAt;rw[Array.map_append,Wl,X3,X3,XB]
def gA(E:Array (Int × Value)):(hs E).size=E.size:=XB
def qW{b:Type}(X:Array b)(p:Nat)(x:b):(SetTable.insertAt X p x).size=X.size+1:=by
 have:=(SetTable.insertAt_perm X p x).length_eq
 simpa using this
def Ib(t:SetTable)(E:Array (Int × Value))(h:Int)(x:Value):layNew t (hs E) h .none=(hs (layNew t E h x).1,(layNew t E h x).2):=by
 unfold layNew;split
 ·rename_i slot b _;dsimp only;rw[Ia,qW,qW,gA]
 ·dsimp only;rw[gA];show(_,_)=(hs _,_);unfold hs;rw[Wl]
def zT(t:SetTable)(E:Array (Int × Value))(n:Nat):VI t (hs E) n=(hs (VI t E n).1,(VI t E n).2):=by
 have b:(hs E).map (·.1)=E.map (·.1):=by unfold hs;rw[Array.map_map];rfl
 have c:∀o:Array Nat,o.filterMap ((hs E)[·]?)=hs (o.filterMap (E[·]?)):=λo=>by
  unfold hs;rw[Array.map_filterMap]
  congr 1
  funext i
  rw[Array.getElem?_map]
 unfold VI;rw[b];split
 ·dsimp only;rw[c,gA,gA];split <;> rfl
 ·dsimp only;rw[gA]
def C5(E:Array (Int × Value))(t:SetTable)(h:Int)(x:Value):eu (hs E,t) h .none=(hs (eu (E,t) h x).1,(eu (E,t) h x).2):=by
 unfold eu;rw[Ib t E h x];generalize layNew t E h x=L;obtain⟨b,T,c,B⟩:=L;unfold zM;dsimp only;rw[gA,zT];split <;> rfl
def uT:∀ (X:List (Int × Tok)) (E:Array (Int × Value)) (t:SetTable),(X.map (·.1)).foldl (λp i=>eu p (hashInt i) .none) (hs E,t)=(hs (gJ (E,t) X).1,(gJ (E,t) X).2)
 |[],E,t=>rfl
 |x::X,E,t=>by
  show(X.map (·.1)).foldl (λp i=>eu p (hashInt i) .none) (eu (hs E,t) (hashInt x.1) .none)=_;rw[C5 E t _ (vI x)];exact uT X _ _
def C6(L:Bool)(X:List (Int × Tok)):(H8 L (X.map (·.1))).2=(gJ (#[],.fresh 0 0 L) X).2:=by
 have:=uT X #[] (.fresh 0 0 L);have e:=congrArg Prod.snd this;rw[show hs #[]=#[] from by unfold hs;simp] at e;exact e
def jy:∀ (X:List (Int × Tok)) (p:Array (Int × Value) × SetTable),(gJ p X).1.toList.Perm (p.1.toList++X.map CZ)
 |[],p=>by show p.1.toList.Perm _;simp
 |x::X,p=>by
  refine(jy X (eu p (hashInt x.1) (vI x))).trans ?_;rw[Zx,<-List.singleton_append,<-Yg];exact(ju p _ _).append_right _
def nU:∀ (X:List (Int × Tok)) (p:Array (Int × Value) × SetTable),p.2.fits p.1.size=aT->(gJ p X).2.fits (gJ p X).1.size=aT
 |[],p,h=>h
 |x::X,p,_=>nU X _ (nR p _ _)
def kE:∀ (n:Nat) (ns:List Int),ns.Pairwise (· < ·)->(∀x ∈ ns,1<=x/\x<=n)->ns ∈ C3 n
 |0,ns,_,h=>by
  cases ns with
  |nil=>exact Zu.mpr rfl
  |cons x ns=>have:=h x Zj;omega
 |n+1,ns,hr,h=>by
  rcases Z1 ns with rfl |⟨l,x,rfl⟩
  ·exact Z9 _ (kE n [] List.Pairwise.nil (by simp))
  ·have b:=h x (by simp);rw[Z2] at hr h ⊢;rw[XC] at hr;by_cases c:x=(n:Int)+1
   ·subst c;exact ZG _ (ZA.mpr ⟨l,kE n l hr.1 λy hy=>⟨(h y (by simp[hy])).1,by have:=hr.2.2 y hy _ (Zu.mpr rfl);omega⟩,rfl⟩)
   ·refine Z9 _ (kE n _ (by rw[XC];exact hr) λy hy=>⟨(h y hy).1,?_⟩);rcases ZM.mp hy with hy |hy
    ·have:=hr.2.2 y hy _ (Zu.mpr rfl);omega
    ·rw[Zu.mp hy];omega
def Ic(led:Bool){X:List (Int × Tok)}(h:(X.map (·.1)).Pairwise (· < ·))(c:∀x ∈ X.map (·.1),1<=x/\x<=8)(f:X.length < 8) :
  TabOk (gJ (#[],.fresh 0 0 led) X).2 (gJ (#[],.fresh 0 0 led) X).1.size/\(gJ (#[],.fresh 0 0 led) X).2.led=led:=by
 have m:=kE 8 _ h c;have a:=ZJ.mp (ZJ.mp C4 _ m) led (by cases led <;> simp);rw[C6,Za] at a
 have sz:(gJ (#[],.fresh 0 0 led) X).1.size=X.length:=by
  have:=(jy X (#[],.fresh 0 0 led)).length_eq
  simpa using this
 rw[sz];rw[Y7] at a;rcases a with a |a
 ·have:=beq_iff_eq.mp a;omega
 ·rw[bAE] at a;obtain⟨a,b⟩:=a;unfold Mi at a;rw[bAE,bAE] at a;exact⟨⟨a.1.1,beq_iff_eq.mp a.1.2,λi hi=>beq_iff_eq.mp (ZJ.mp a.2 i (Z6.mpr (by omega)))⟩,beq_iff_eq.mp b⟩
section
variable {prog:Program} {w:World} {A:Around} {E:Value->Shared->Prop} {s:Shared}
def kO{l:Addr}{X:List (Int × Tok)}(q:A.handled=aD)(hl:s.heap.IsList l (X.map vI).toArray)(f:(X.map (·.1)).Pairwise (· < ·))(u:∀x ∈ X.map (·.1),1<=x/\x<=8)(p:X.length < 8){Q:Value->Shared->Prop}
  (h:∀h' c,(∀b o,s.heap.get? b=aa o->h'.get? b=aa o)->df w s.heap.objs.size (X.map (·.1)) h'->s.toks<=c->Q (.ref s.heap.objs.size) { s with heap:=h',toks:=c }) :
  wpAny (model prog w) A (call (.type "set") [.ref l]) Q E s:=by
 obtain⟨T,n⟩:=Ic (!txt w) f u p;refine xa q hl (f.imp λh=>Int.ne_of_lt h) (by omega) λh' j c k g t=>h h' c k ⟨_,j,_,X,g,nU X _ rfl,T,n,?_,rfl⟩ t
 simpa using jy X (#[],.fresh 0 0 (!txt w))
end
end Ev
namespace Ev
open PySem PySem.Spec PyProof.Rows L2
def nV:∀ {ns:List Int} {u:List Value},aP (ns.map V.int) u->∃y:List (Int × Tok),u=y.map vI/\y.map (·.1)=ns
 |[],_,h=>by cases h;exact⟨[],rfl,rfl⟩
 |n::ns,_,h=>by
  cases h with
  |cons r1 r2=>
   obtain⟨t,rfl⟩:=r1;obtain⟨y,rfl,e⟩:=nV r2;exact⟨(n,t)::y,rfl,by rw[Zx,e]⟩
def df.obj{w:World}{a:Addr}{ns:List Int}{h h2:Heap}(x:df w a ns h):(∃o,h.get? a=aa o)/\((∀o,h.get? a=aa o->h2.get? a=aa o)->df w a ns h2):=by
 obtain⟨b,E,t,X,g,r⟩:=x;exact⟨⟨_,g⟩,λk=>⟨b,E,t,X,k _ g,r⟩⟩
variable {X:Cx}
def xf(hc:X.calm=aT):aS X (.type "set") (λc H Q=>∃a ns,c=[.ref a]/\SqL X.K H a (ns.map V.int)/\ns.Pairwise (· < ·)/\(∀x ∈ ns,1<=x/\x<=8)/\ns.length < 8/\∀p,H p=aD->Q (.ref p) (upd H p (.ext (df X.w p ns)))):=by
 intro b s L H c U Q I r h;obtain⟨a,ns,rfl,j,n,E,f,q⟩:=h;obtain⟨u,rfl,C⟩:=ca r;cases C;obtain⟨B,z,pl,J⟩:=I.list j;obtain⟨Y,rfl,e⟩:=nV z;subst e;refine kO (I.ok.hd hc) pl.isList n E (by simpa using f) λv T k g t=>?_;exact⟨.ref s.heap.objs.size,_,I.laid (t':=T) (a:=s.heap.objs.size) (o:=.ext (df X.w s.heap.objs.size (Y.map (·.1)))) k (Zd _) ⟨g,(df.obj (h2:=v) g).1,λZ O x y=>(df.obj x).2 y⟩,rfl,q _ (I.hok.fresh (Zd _))⟩
def tW(hc:X.calm=aT):aS X (.builtin "sorted") (λj H Q=>∃a ns,j=[.ref a]/\H a=aa (.ext (df X.w a ns))/\ns.Pairwise (· < ·)/\ns.length < 64/\∀p,H p=aD->Q (.ref p) (upd H p (.lst (ns.map V.int)))):=by
 intro c s J H j U Q I r h;obtain⟨a,ns,rfl,n,v,b,q⟩:=h;obtain⟨u,rfl,z⟩:=ca r;cases z;have g:df X.w a ns s.heap:=(I.hok a _ n).1;refine tV (I.ok.hd hc) g (v.imp Wr) b λE T p B e k f t C y=>?_;exact⟨.ref p,_,I.laid (t':=T) (a:=p) (o:=.lst (ns.map V.int)) k f ⟨by rw[Za,VN];omega,B,e,gq C,y⟩,rfl,q _ (I.hok.fresh f)⟩
end Ev
namespace Ev
open PySem PySem.Spec PyProof.Rows L2
section
variable {T:Tab} {C:Calls} {ar:Nat->Nat} {k n:Nat} {b:Blk} {X:Cx}
def qX{k:Nat}{A:Around}(r:Room k A):A.units+64 < cLine:=r.units
def iS(K:WW)(m:List Addr)(H:Hp):∀l:List Nat,VDs K m H (l.map λj=>D.int (Int.ofNat j)) (l.map λ(j:Nat)=>V.int j)
 |[]=>by rw[Ym,Ym,VDs]
 |a::l=>by rw[Zx,Zx,VDs];exact⟨_,_,rfl,bt,iS K m H l⟩
def Rel.adoptO{K:WW}{m:List Addr}{S:Sto}{H:Hp}{a:Addr}(R:Rel K m S H)(n:a ∉ m){ob:Ob}(h:ObR K (m++[a]) H a ob):Rel K (m++[a]) (S++[ob]) H:=by
 have p:=YW m [a];have g:∀ {E:List D} {ws:List V},VDs K m H E ws->VDs K (m++[a]) H E ws:=λz=>VDs.mono0 p (λ_ _ t=>t) z;refine⟨by simp[R.len],XZ.mpr ⟨R.nd,by simp,λx B y f=>by simp at f;subst f;exactλz=>n (z ▸ B)⟩,λi o e=>?_⟩;by_cases hi:i < S.length
 ·rw[Zt hi] at e;obtain⟨b,hb,r⟩:=R.ob i o e;refine⟨b,cX p hb,?_⟩;cases o with
  |lst c=>obtain⟨v,p,q⟩:=r;exact⟨v,p,g q⟩
  |frz c=>obtain⟨o,v,p,q⟩:=r;exact⟨o,v,p,g q⟩
  |dic I c=>obtain⟨v,p,l,q⟩:=r;exact⟨v,p,l,g q⟩
 ·rw[Zo (by lia)] at e
  have j:i - S.length=0:=by
   have:=(Zb.mp e).1;simp at this;lia
  rw[j] at e;have u:ob=o:=by simpa using e
  subst u;refine⟨a,?_,h⟩;rw[Zo (by rw[R.len];lia),R.len,j];rfl
def tX{E:List Expr}{a:CE}(h:fK T n b E [a]=aT):∃y,E=[y]:=by
 cases n with
 |zero=>exact absurd h Zf
 |succ n=>
  obtain⟨e,E,rfl,h⟩:=fI h;have h:=(an2 h).2;cases n with
  |zero=>exact absurd h Zf
  |succ n=>cases fJ h;exact⟨e,rfl⟩
def C7(I:Snd T C ar k n){own:List Str}{E:CE}{p:Tg}{u:CI}{cond:Option CE}{h:List Cl}{e t i:Expr}{ifs:List Expr}{v:List WD}{f:Scope}{pos:Pos}(G:CtxOk T C ar k b X)
  (J:cmB own (iQ own b.N) b.N f b.sc=aT) (B:pw T n b t i u=aT) (Z:qO (b.inner own f) t p=aT) (U:zJ (eS T n (b.inner own f)) ifs cond=aT) (h4:nK T n (b.inner own f) e v E h=aT) :
  PE X (.ListComp e (⟨t,i,ifs,0⟩::v) f pos) (dY X.K (lu own.length (evI C ar n u) p (cnd (evT C ar n) cond (gI C ar n E h)) LF)):=by
 have S:CmScope own (iQ own b.N) b.N f b.sc:=sP _ J;have L:CmScope own (iQ own b.N) X.N f X.env.scope:=by rw[G.hN,G.hs];exact S
 have y:=ec B (λe O env=>cM O) X.env
 refine PE.imp (ux (c:=.l e) (g:=tTg X.K p) (ti:=ifT C ar n X.K cond) (t:=λj=>tCl X.K j (gI C ar n E h)) G.calm L (I.i [] b X t i u G B) (λo ex s H=>eT (G.inner S (C':=o) (ex:=ex) (s:=s) (H:=H)) Z) (λo ex s H=>lQ I (G.inner S (C':=o) (ex:=ex) (s:=s) (H:=H)) U)
  (λo ex s H j=>I.cl _ _ e v E h (G.inner S (C':=o) (ex:=ex) (s:=s) (H:=H)) h4 _ f pos j 0 rfl) y) λY H Q q=>?_
 exact uJ (λj D Y H z=>tU z) q
def C8(w:World){x:XE}{Z:L2.St}{H:Hp}{Q:VK}{K:WW}(h:dY K (nD x) Z H Q):tE K x Z H λv c=>∃a ns,v = .ref a/\SqL K c a (ns.map V.int)/\ns.Pairwise (· < ·)/\(∀x ∈ ns,1<=x/\x<=8)/\ns.length < 8 ∧
  ∀p,c p=aD->∀l,upd c p (.ext (df w p ns)) l=aD->Q (.ref l) (upd (upd c p (.ext (df w p ns))) l (.lst (ns.map V.int))):=by
 obtain⟨m,ρ,S,ds,U,E,R,e,q⟩:=h;obtain⟨d,S1,e1,e⟩:=ag e;cases hi:ao d S1 with
 |none=>rw[hi] at e;cases e
 |some r=>
  obtain⟨tu,B⟩:=r;rw[hi] at e;cases tu with
  |true=>cases e
  |false=>
   dsimp only at e;cases y:fm B with
   |none=>rw[y] at e;cases e
   |some ns=>
    rw[y] at e;dsimp only at e;split at e
    ·rename_i hr;cases e;obtain⟨r1,r2,r3⟩:=wV hr;refine⟨m,ρ,S,d,_,E,R,e1,λm1 c v f vd=>?_⟩;obtain⟨a,vs,ev,sq,J⟩:=cJ (tu:=false) (ds:=ds) f.rel vd hi;have ed:=iM y;subst ed;have es:=gx J;subst es;refine⟨a,ns,ev,sq,r1,r2,r3,λp I l g=>?_⟩;have u:Aft K m1 c U m1 (upd c p (.ext (df w p ns))):=⟨Ext.beside f.rel I _,f.rel.beside I _⟩;have A3:Aft K m1 (upd c p (.ext (df w p ns))) U m1 (upd (upd c p (.ext (df w p ns))) l (.lst (ns.map V.int))):=⟨Ext.beside u.rel g _,u.rel.beside g _⟩;have j:l ∉ m1:=u.rel.no g
     have Y:c l=aD:=by
      cases L:c l with
      |none=>rfl
      |some o=>rw[(Ext.beside f.rel I (.ext (df w p ns))).keep l o L j] at g;cases g
     have nH:H l=aD:=by
      cases L:H l with
      |none=>rfl
      |some o=>
       by_cases O:l ∈ m
       ·exact absurd (f.ext.pre.subset O) j
       ·rw[f.ext.keep l o L O] at Y;cases Y
     exact q m1 _ l _ (f.trans (u.trans A3)) ba j (λb hb z=>j (z ▸ f.ext.pre.subset hb)) nH (jl ns)
    ·cases e
def Ie{x:XE}{U:L2.St}{H:Hp}{Q:VK}{K:WW}(h:dY K (wW x) U H Q):tE K x U H λv c=>∃i:Nat,v = .int i/\i<=1000/\∀p,c p=aD->∀l,upd c p (.rng 0 i) l=aD->Q (.ref l) (upd (upd c p (.rng 0 i)) l (.lst ((Zh i).map λ(j:Nat)=>V.int j))):=by
 obtain⟨m,Y,S,ds,L,E,R,e,q⟩:=h;obtain⟨d,S1,e1,e⟩:=ag e;cases d with
 |int i=>
  dsimp only at e;split at e
  ·rename_i hi;cases e;refine⟨m,Y,S,.int i,_,E,R,e1,λm1 c v f vd=>⟨i.toNat,by rw[vd.ints];congr 1;lia,by lia,λp B l g=>?_⟩⟩;have y:Aft K m1 c L m1 (upd c p (.rng 0 i.toNat)):=⟨Ext.beside f.rel B _,f.rel.beside B _⟩;have A3:Aft K m1 (upd c p (.rng 0 i.toNat)) L m1 (upd (upd c p (.rng 0 i.toNat)) l (.lst ((Zh i.toNat).map λ(j:Nat)=>V.int j))):=⟨Ext.beside y.rel g _,y.rel.beside g _⟩;have u:l ∉ m1:=y.rel.no g
   have O:c l=aD:=by
    cases I:c l with
    |none=>rfl
    |some o=>rw[(Ext.beside f.rel B (.rng 0 i.toNat)).keep l o I u] at g;cases g
   have Z:H l=aD:=by
    cases I:H l with
    |none=>rfl
    |some o=>
     by_cases J:l ∈ m
     ·exact absurd (f.ext.pre.subset J) u
     ·rw[f.ext.keep l o I J] at O;cases O
   refine q m1 _ l _ (f.trans (y.trans A3)) ba u (λb hb z=>u (z ▸ f.ext.pre.subset hb)) Z ?_;exact iS _ _ _ _
  ·cases e
 |_=>cases e
def Ig{f:Bool->List D->Option (List D)}{x:XE}{y:L2.St}{H:Hp}{Q:VK}{K:WW}(h:dY K (wU f x) y H Q):tUn (rTm K f) (tE K x) y H Q:=by
 obtain⟨m,Z,S,B,S',E,R,e,q⟩:=h;obtain⟨d,S1,e1,e⟩:=ag e;cases hi:ao d S1 with
 |none=>rw[hi] at e;cases e
 |some r=>
  rw[hi] at e;dsimp only at e;cases j:f r.1 r.2 with
  |none=>rw[j] at e;cases e
  |some es=>
  rw[j] at e;cases e;refine⟨m,Z,S,d,_,E,R,e1,λm1 H1 v c vd=>?_⟩;obtain⟨a,vs,ev,O,g⟩:=cJ (tu:=r.1) (ds:=r.2) c.rel vd hi;refine⟨m1,_,r.1,r.2,a,vs,B,c.rel,ev,O,g,j,λJ I p ws A2 hp U z n3 vw=>?_⟩
  have Y:H p=aD:=by
   cases L:H p with
   |none=>rfl
   |some o=>
    by_cases u:p ∈ m
    ·exact absurd rfl (z p (c.ext.pre.subset u))
    ·have:=c.ext.keep p o L u;rw[n3] at this;cases this
  exact q J I p ws (c.trans A2) hp U (λb hb=>z b (c.ext.pre.subset hb)) Y vw
def Ih{f:Bool->List D->Option (List D)}{x:XA}{v:L2.St}{H:Hp}{Q:VK}{K:WW}(h:dY K (wR f x) v H Q):tUn (rTm K f) (dY K x) v H Q:=by
 obtain⟨m,Y,S,es,S',E,R,e,q⟩:=h;obtain⟨g,S1,e1,e⟩:=ag e;cases j:f aW g with
 |none=>rw[j] at e;cases e
 |some es'=>
 rw[j] at e;cases e;refine⟨m,Y,S,g,_,E,R,e1,λm1 H1 a z c B na _ _ vd=>?_⟩;refine⟨m1,_,aW,g,a,z,es,c.rel,rfl,show SqL K H1 a z from SqL.of B,vd,j,λJ I p ws A2 Z O y n3 vw=>?_⟩
 have U:H p=aD:=by
  cases L:H p with
  |none=>rfl
  |some o=>
   by_cases u:p ∈ m
   ·exact absurd rfl (y p (c.ext.pre.subset u))
   ·have:=c.ext.keep p o L u;rw[n3] at this;cases this
 exact q J I p ws (c.trans A2) Z O (λb hb=>y b (c.ext.pre.subset hb)) U vw
def zU(I:Snd T C ar k n)(e:Expr)(c:CE)(G:CtxOk T C ar k b X)(B:ak c=aT)(h:aE T (n+1) b e c=aT):PE X e (dY X.K (ci C ar (n+1) c)):=by
 cases c with
 |lst cs=>
  obtain⟨es,p,rfl,Y⟩:=HS h;exact PE.imp (GR (I.a b X es cs G Y)) λo H Q q=>Ct q
 |listOf a=>
  obtain⟨x,p,q,rfl,g,j,h4⟩:=bc h;show PE X _ (dY X.K (if ak a=aT then ci C ar n a else lv (evE C ar n a)));split
  ·rename_i B;exact PE.imp (kB k9 G g (by decide) Wv (by decide) (I.tm b X x a G B j) h4) λo H Q q=>zL q
  ·exact PE.imp (kB k9 G g (by decide) Wv (by decide) (I.e b X x a G j) h4) λo H Q q=>zK q
 |listR a=>
  obtain⟨x,p,q,rfl,g,j,h4⟩:=bc h;obtain⟨y,p',q',rfl,E,J,u⟩:=bc j
  exact PE.imp (gn (oU G.calm) (G.gl g).1 (G.bl _ (by decide)) Wv (cj (gn qq (G.gl E).1 (G.bl _ (by decide)) PyProof.Rows.boot_range (cj (I.e b X y a G J) u) (by decide) (G.gl E).2 (aw u) rfl) h4) (by decide) (G.gl g).2 (aw h4) rfl) λo H Q q=>kD (Ie q) λv H1 ⟨i,U,hi,z⟩=>by
    subst U;exact⟨i,rfl,λp O=>⟨p,i,rfl,ba,hi,λl L=>z p O l L⟩⟩
 |sset a=>
  obtain⟨x,p,q,rfl,g,j,h4⟩:=bc h;obtain⟨y,p',q',rfl,E,J,u⟩:=bc j
  exact PE.imp (fC (tW G.calm) (G.gl g).1 (G.bl _ (by decide)) Wx (cj (gn (xf G.calm) (G.gl E).1 (G.bl _ (by decide)) PyProof.Rows.boot_set (cj (I.e b X y a G J) u) (by decide) (G.gl E).2 (aw u) rfl) h4) (by decide) (G.gl g).2 (aw h4) rfl) λo H Q q=>kD (C8 X.w q) λv H1 ⟨c,ns,U,sq,r1,r2,r3,z⟩=>by
    subst U;exact⟨c,ns,rfl,sq,r1,r2,r3,λp O=>⟨p,ns,rfl,ba,r1,by lia,λl L=>z p O l L⟩⟩
 |srt a=>
  obtain⟨x,p,q,rfl,g,j,h4⟩:=bc h;show PE X _ (dY X.K (if ak a=aT then wR cD (ci C ar n a) else wU cD (evE C ar n a)));split
  ·rename_i B;exact PE.imp (gz nz G g (by decide) Wx (by decide) (I.tm b X x a G B j) h4) λo H Q q=>Ih (f:=cD) q
  ·exact PE.imp (gz nz G g (by decide) Wx (by decide) (I.e b X x a G j) h4) λo H Q q=>Ig (f:=cD) q
 |comp own elt cls=>
  obtain⟨tg,it,cond,rest,rfl,hc⟩:=FX h;obtain⟨el,t,i,ifs,gs,Z,p,rfl,Y⟩:=uQ hc;obtain⟨h0,h1,g,j,h4⟩:=an5 Y;exact C7 I G h0 h1 g j h4
 |_=>cases B
def pD{y:Expr}{pos:Pos}(h:aO y=aT):((backTo pos (VP [y] X.env)).all (λx=>!x.1) && (backToKw pos (keywordEach [] X.env)).all (λx=>x.1.isSome) && decide (([y]:List Expr).length+([]:List Keyword).length+(if ([]:List Keyword).isEmpty then 0 else 1) < 30))=aT:=by
 rw[aw h];rfl
def Mj(I:Snd T C ar k n)(e:Expr)(c:CE)(G:CtxOk T C ar k b X)(h:aE T (n+1) b e c=aT):PE X e (tE X.K (evE C ar (n+1) c)):=by
 have hu:=qX G.room
 have Z:ak c=aT->evE C ar (n+1) c=cK (ci C ar (n+1) c)->PE X e (tE X.K (evE C ar (n+1) c)):=λht he=>by
  rw[he];exact PE.imp (zU I e c G ht h) λE H Q q=>qw q
 cases c with
 |non=>obtain⟨_,_,rfl⟩:=HP h;exact PE.imp Gu λE H Q q=>yJ (λ_ _=>sQ) q
 |bl v=>obtain⟨_,_,rfl⟩:=Md h;exact PE.imp K4 λE H Q q=>yJ (λ_ _=>ce) q
 |int v=>obtain⟨_,_,rfl⟩:=HQ h;exact PE.imp Gs λE H Q q=>yJ (λ_ _=>bt) q
 |str v=>obtain⟨_,_,rfl⟩:=HR h;exact PE.imp Gv λE H Q q=>yJ (λ_ _=>sR) q
 |var i=>
  obtain⟨x,p,rfl,Y⟩:=pd h;have Y:=an2 Y;have v:=G.vis Y.2;exact PE.imp (Gr (i:=i) (by rw[G.hN];exact eq_of_beq Y.1) v.1 v.2.1 v.2.2) λE H Q q=>Hb q
 |con k' v=>
  obtain⟨x,p,rfl,Y⟩:=pd h;have Y:=an2 Y;have g:=G.gl Y.2;obtain⟨tk,hm⟩:=G.con k' x v (eq_of_beq Y.1);exact PE.imp (BO (v:=.int v) g.1 hm ⟨tk,rfl⟩ g.2) λE H Q q=>yJ (λ_ _=>bt) q
 |tup cs=>obtain⟨O,_,_,rfl,Y⟩:=zE h;exact PE.imp (GQ (I.a b X O cs G Y)) λE H Q q=>Hd q
 |lst cs=>exact Z rfl rfl
 |bin o a J=>obtain⟨l,r,p,rfl,j,u⟩:=HU h;exact PE.imp (Lk (Cw o) (I.e b X l a G j) (I.e b X r J G u)) λE H Q q=>oW q
 |neg a=>obtain⟨x,p,rfl,Y⟩:=HV h;exact PE.imp (Ll CQ (I.e b X x a G Y)) λE H Q q=>FL q
 |cmp o a J=>obtain⟨l,r,p,rfl,j,u,h4⟩:=zG h;exact PE.imp (BZ (gw hu o) (I.e b X l a G j) (I.e b X r J G u) (hU h4)) λE H Q q=>oW q
 |chn o p' a J d=>obtain⟨l,r,s,p,rfl,j,u,h4,U⟩:=zH h;exact PE.imp (x9 (gw hu o) (gw hu p') (I.e b X l a G j) (I.e b X r J G u) (I.e b X s d G h4) (lJ U)) λE H Q q=>zo q
 |and a J=>
  rcases CV h with h |h
  ·obtain⟨x,y,p,rfl,L,j⟩:=pj h;exact PE.imp (xP (I.e b X x a G L) (xO (I.e b X y J G j))) λE H Q q=>zn q
  ·obtain⟨x,y,z,ys,p,rfl,L,j⟩:=pk h;exact PE.imp (xP (I.e b X x a G L) (I.e b X _ J G j)) λE H Q q=>zn q
 |or a J=>
  rcases CV h with h |h
  ·obtain⟨x,y,p,rfl,L,j⟩:=pj h;exact PE.imp (Fv (I.e b X x a G L) (xO (I.e b X y J G j))) λE H Q q=>FP q
  ·obtain⟨x,y,z,ys,p,rfl,L,j⟩:=pk h;exact PE.imp (Fv (I.e b X x a G L) (I.e b X _ J G j)) λE H Q q=>FP q
 |not a=>obtain⟨x,p,rfl,Y⟩:=zF h;exact PE.imp (CP (I.e b X x a G Y)) λE H Q q=>HF q
 |ite t a J=>obtain⟨x,y,z,p,rfl,L,j,u⟩:=HW h;exact PE.imp (xQ (I.t b X x t G L) (I.e b X y a G j) (I.e b X z J G u)) λE H Q q=>HG q
 |ix a J=>
  obtain⟨x,y,p,rfl,L,j,u⟩:=Me h;show PE X _ (tE X.K (if ak a=aT then sW (ci C ar n a) (evE C ar n J) else qt ixS (evE C ar n a) (evE C ar n J)));split
  ·rename_i ht;exact PE.imp (FF ym (I.tm b X x a G ht L) (I.e b X y J G j) (qQ u)) λE H Q q=>Hn q
  ·exact PE.imp (FF (Oo hu) (I.e b X x a G L) (I.e b X y J G j) (qQ u)) λE H Q q=>oW q
 |sl a lo hi=>obtain⟨x,y,z,p,p',rfl,L,j,u⟩:=Mf h;exact PE.imp (yi Op (I.e b X x a G L) (qS I G j) (qS I G u)) λE H Q q=>LP q
 |call f cs=>
  obtain⟨x,e,O,p,p',rfl,h12,u⟩:=CY (k:=λx=>oA T.fns[f]? (λy=>y.1 == x) && b.glo x) (l:=λO=>fK T n b O cs) (e:=e) h;obtain⟨L,j⟩:=an2 h12
  ·obtain⟨y,hy,L⟩:=wZ L;have hx:=uR L;subst hx;obtain⟨ha,fa,fd,ps,hm,hk,hb,F⟩:=G.fns f y hy;have B:=bJ u;have g:=G.gl j;exact PE.imp (B3 F G.room g.1 hm hk hb .nil LH (I.a b X (e::O) cs G u) g.2 (aw (B e Zj)) (jt λe he=>B e (Zm _ he))) λE H Q q=>CT q
 |inst t a=>
  obtain⟨x,y,p,p',rfl,j,U,h6,h7,_⟩:=lI h;obtain⟨y,p'',rfl,h8⟩:=pd h7;obtain⟨u,h4⟩:=an2 h8;have hy:=uR u;subst hy
  have ty:PE X (.Name (Str.ofString t.nm) p'') (tC (.ty t.nm)):=by
   have g:=G.gl h4;cases t with
   |int=>exact iz g.1 (G.bl _ (by decide)) Wu rfl (by decide) g.2
   |bool=>exact iz g.1 (G.bl _ (by decide)) PyProof.Rows.boot_bool rfl (by decide) g.2
   |tuple=>exact iz g.1 (G.bl _ (by decide)) Wy rfl (by decide) g.2
   |list=>exact iz g.1 (G.bl _ (by decide)) Wv rfl (by decide) g.2
   |str=>exact iz g.1 (G.bl _ (by decide)) PyProof.Rows.boot_str rfl (by decide) g.2
  exact PE.imp (fC (oV X.K) (G.gl j).1 (G.bl _ (by decide)) PyProof.Rows.boot_isinstance (iR (I.e b X x a G U) (cj ty rfl) h6) (by decide) (G.gl j).2 (aw h6) rfl) λE H Q q=>CC q
 |len a=>obtain⟨x,p,p',rfl,j,u,h4⟩:=bc h;exact lK I G (λte z=>gz wp G j (by decide) PySem.boot_len (by decide) z h4) u
 |all a=>obtain⟨x,p,p',rfl,j,u,h4⟩:=bc h;exact lK I G (λte z=>gz (wr G.calm) G j (by decide) PyProof.Rows.boot_all (by decide) z h4) u
 |any a=>obtain⟨x,p,p',rfl,j,u,h4⟩:=bc h;exact lK I G (λte z=>gz (wt G.calm) G j (by decide) PyProof.Rows.boot_any (by decide) z h4) u
 |mxL a=>obtain⟨x,p,p',rfl,j,u,h4⟩:=bc h;exact lK I G (λte z=>gz (wH G.calm) G j (by decide) Ww (by decide) z h4) u
 |intOf a=>obtain⟨x,p,p',rfl,j,u,h4⟩:=bc h;exact PE.imp (kB wJ G j (by decide) Wu (by decide) (I.e b X x a G u) h4) λE H Q q=>FL q
 |tupOf a=>obtain⟨x,p,p',rfl,j,u,h4⟩:=bc h;exact lK I G (λte z=>kB wq G j (by decide) Wy (by decide) z h4) u
 |listOf a=>exact Z rfl rfl
 |listR a=>exact Z rfl rfl
 |sset a=>exact Z rfl rfl
 |srt a=>exact Z rfl rfl
 |mx a J=>
  obtain⟨x,O,p,p',rfl,j,u⟩:=qP (b:=b) (f := "max") (k:=λO=>fK T n b O [a,J]) (e:=e) h;have B:=bJ u;exact PE.imp (fC (tj G.calm) (G.gl j).1 (G.bl _ (by decide)) Ww (I.a b X (x::O) [a,J] G u) (by decide) (G.gl j).2 (aw (B x Zj)) (jt λe he=>B e (Zm _ he))) λE H Q q=>yI q
 |mn a J=>
  obtain⟨x,O,p,p',rfl,j,u⟩:=qP (b:=b) (f := "min") (k:=λO=>fK T n b O [a,J]) (e:=e) h;have B:=bJ u;exact PE.imp (fC (tw G.calm) (G.gl j).1 (G.bl _ (by decide)) PyProof.Rows.boot_min (I.a b X (x::O) [a,J] G u) (by decide) (G.gl j).2 (aw (B x Zj)) (jt λe he=>B e (Zm _ he))) λE H Q q=>yI q
 |comp own elt cls=>exact Z rfl rfl
 |app o a=>
  obtain⟨x,ap,O,p,rfl,j,u,h4,U⟩:=tR h;obtain⟨y,rfl⟩:=tX U;have B:=bJ U y (by simp);exact PE.imp (yn WI WJ PySem.F.type_list_append Hw (I.e b X x o G h4) (I.a b X [y] [a] G U) (hV j) (pD B) u (aw B) rfl) λE H Q q=>tI (λR vd c=>y9 R vd c) q
 |popAt o a=>
  obtain⟨x,ap,O,p,rfl,j,u,h4,U⟩:=tR h;obtain⟨y,rfl⟩:=tX U;have B:=bJ U y (by simp);exact PE.imp (yn WI WK PySem.F.type_list_pop wK (I.e b X x o G h4) (I.a b X [y] [a] G U) (hV j) (pD B) u (aw B) rfl) λE H Q q=>tI (λR vd c=>y9 R vd c) q
 |cnt o a=>
  obtain⟨x,ap,O,p,rfl,j,u,h4,U⟩:=tR h;obtain⟨y,rfl⟩:=tX U;have B:=bJ U y (by simp);exact PE.imp (yn PySem.F.plainAttrs_tuple WM PySem.F.type_tuple_count CF (I.e b X x o G h4) (I.a b X [y] [a] G U) (hV j) (pD B) u (aw B) rfl) λE H Q q=>tI (λR vd c=>Hv R vd c) q
end
section
variable {T:Tab} {C:Calls} {ar:Nat->Nat} {k n:Nat} {b:Blk} {X:Cx}
def uU{op:BoolOp}{v:List Expr}{p:Pos}{t:TT}(h:PT X (.BoolOp op v p) t):PW X (.BoolOp op v p) t:=λf c s g H Q I q=>h c s g H Q I q
def Ml(I:Snd T C ar k n)(e:Expr)(c:CE)(G:CtxOk T C ar k b X)(h:eS T (n+1) b e c=aT):PT X e (tT X.K (evT C ar (n+1) c)):=by
 have E:=qX G.room
 have dflt:evT C ar (n+1) c=CA (evE C ar n c)->(aE T n b e c && HJ e)=aT->PT X e (tT X.K (evT C ar (n+1) c)):=λO v=>by
  rw[O];have v:=an2 v;exact PT.imp (ye (I.e b X e c G v.1) (tS v.2)) λu H Q q=>Ho q
 cases c with
 |cmp o a g=>obtain⟨l,r,p,rfl,f,B,h4⟩:=zG h;exact PT.imp (B0 (gw E o) (I.e b X l a G f) (I.e b X r g G B) (hU h4)) λu H Q q=>oW (LQ q)
 |chn o J a g d=>obtain⟨l,r,s,p,rfl,f,B,h4,L⟩:=zH h;exact PT.imp (ya (gw E o) (gw E J) (I.e b X l a G f) (I.e b X r g G B) (I.e b X s d G h4) (lJ L)) λu H Q q=>zo (LQ q)
 |and a g=>
  rcases CV h with h |h
  ·obtain⟨x,y,p,rfl,j,f⟩:=pj h;exact PT.imp (xN (I.t b X x a G j) (BP (I.t b X y g G f))).pt λu H Q q=>zr q
  ·obtain⟨x,y,z,Y,p,rfl,j,f⟩:=pk h;exact PT.imp (xN (I.t b X x a G j) (uU (I.t b X _ g G f))).pt λu H Q q=>zr q
 |or a g=>
  rcases CV h with h |h
  ·obtain⟨x,y,p,rfl,j,f⟩:=pj h;exact PT.imp (Ft (I.t b X x a G j) (Gw (I.t b X y g G f))).pt λu H Q q=>FR q
  ·obtain⟨x,y,z,Y,p,rfl,j,f⟩:=pk h;exact PT.imp (Ft (I.t b X x a G j) (uU (I.t b X _ g G f))).pt λu H Q q=>FR q
 |not a=>obtain⟨x,p,rfl,j⟩:=zF h;exact PT.imp (Gx (I.t b X x a G j)) λu H Q q=>HI q
 |ite _ _ _=>cases h
 |_=>exact dflt rfl h
def snd:∀n,Snd T C ar k n
 |0=>⟨λb X e c _ h=>absurd h Zf,λb X e c _ _ h=>absurd h Zf,λb X e c _ h=>absurd h Zf,λb X e c _ h=>absurd h Zf,λB b X t e c _ h=>absurd h Zf,λb X e g E f _ h=>absurd h Zf⟩
 |n+1=>⟨λb X e c G h=>Mj (snd n) e c G h,λb X e c G o h=>zU (snd n) e c G o h,λb X p j G h=>Mg (snd n) p j G h,λb X e c G h=>Ml (snd n) e c G h,λB b X t e c G h=>Mh (snd n) B t e c G h,λb X e g E f G h=>HX (snd n) e g E f G h⟩
end
inductive CS where |asg (t:Tg)(e:CE) |setI (v o i:CE) |dcs (i:Nat)(own:List Str)(k v:CE)(t:Tg)(it:CI) |ex (e:CE) |ret (e:CE) |ifs (c:CE)(a b:List CS) |for_ (t:Tg)(it:CI)(b:List CS) |while_ (c:CE)(b:List CS) |cnt |never
abbrev C9:XS:=λ_ _=>aD
mutual
noncomputable def evS(C:Calls)(f:Nat->Nat):Nat->CS->XS
 |0,_=>C9
 |n+1,s=>match s with
  |.asg t e=>ls (evE C f n e) t
  |.setI v o i=>qJ (evE C f n v) (evE C f n o) (evE C f n i)
  |.dcs i own k v t it=>wP i own.length (evI C f n it) t (evE C f n k) (evE C f n v) LF
  |.ex e=>qI (evE C f n e)
  |.ret e=>zf (evE C f n e)
  |.ifs c a b=>xIf (evT C f n c) (eU C f n a) (eU C f n b)
  |.for_ t it b=>zg (evI C f n it) t (eU C f n b) LF
  |.while_ c b=>bw (evT C f n c) (eU C f n b) LF
  |.cnt=>L4
  |.never=>C9
noncomputable def eU(C:Calls)(b:Nat->Nat):Nat->List CS->XS
 |0,_=>C9
 |n+1,ss=>match ss with
  |[]=>FN
  |s::ss=>ze (evS C b n s) (eU C b n ss)
end
abbrev zV:Expr->Bool
 |.Starred _ _=>aT
 |_=>aW
abbrev gB(sc:Scope)(L:Nat)(T:List Expr):List Str:=T.filterMap λ
 |.Name id pos=>if sc.names.lookup id == aa .local && pos.line == L then aa id else aD
 |_=>aD
abbrev uV(sc:Scope)(ts vs:List Expr):Option (Option (List Str)):=
 if (!(ts.length == 2 || ts.length == 3) || vs.length != ts.length)=aT then aa aD
 else if (vs.any zV)=aT then aa aD
 else if ((gB sc ((ts.head?.map (·.pos.line)).getD 0) ts).length != ts.length || (gB sc ((ts.head?.map (·.pos.line)).getD 0) ts).eraseDups.length != (gB sc ((ts.head?.map (·.pos.line)).getD 0) ts).length)=aT then aa aD
 else if (vs.all (foldedForSure 8))=aT then aa aD
 else if (vs.all (constantsAlone 8))=aT then aD
 else aa (aa (gB sc ((ts.head?.map (·.pos.line)).getD 0) ts))
def Mm{k k2:Nat}(n:env.blockKind = .function)(hs:env.scope=sc)(h:uV sc ts v=aa r):VQ [.Tuple ts k p] (.Tuple v k2 p2) env=pure r:=by
 unfold uV at h;unfold VQ
 have E:(v.any λ|.Starred ..=>aT |_=>aW)=v.any zV:=by
  congr 1
 have g:(ts.filterMap λ
   |.Name id pos=>if env.kindOf id == aa .local && pos.line == ((ts.head?.map (·.pos.line)).getD 0) then aa id else aD
   | _=>aD)=gB sc ((ts.head?.map (·.pos.line)).getD 0) ts:=by
  unfold gB Env.kindOf;rw[hs]
 have o:(env.blockKind != .function)=aW:=by rw[n];rfl
 simp only[o,XN];split at h
 ·rename_i C;rw[if_pos C];cases h;rfl
 rename_i C;rw[if_neg C];split at h
 ·rename_i b;cases h;exact if_pos (E.trans b)
 rename_i b;refine Eq.trans (if_neg λz=>b (E.symm.trans z)) ?_;split at h
 ·rename_i c;cases h;rw[<-g] at c;exact if_pos c
 rename_i c;rw[<-g] at c h;refine Eq.trans (if_neg c) ?_;split at h
 ·rename_i f;cases h;exact if_pos f
 rename_i f;refine Eq.trans (if_neg f) ?_;split at h
 ·cases h
 rename_i j;cases h;exact if_neg j
abbrev zW:Expr->Option (Scope × Pos)
 |.ListComp _ _ s p=>aa (s,p)
 |.SetComp _ _ s p=>aa (s,p)
 |.DictComp _ _ _ s p=>aa (s,p)
 |_=>aD
abbrev swW(sc:Scope)(v:Expr)(t:Str)(pos:Pos):Bool:=match zW v with
 |none=>aW
 |some (s,p)=>sc.names.lookup t == aa .local && pos.line == p.line && !(s.names.any λy=>y.1 == t && (y.2 == .local || y.2 == .cell))
def zX{line:Nat}(h:env.blockKind = .function)(hs:env.scope=sc):VR v (aa (.Name t pos)) line env=pure (swW sc v t pos):=by
 unfold VR swW zW;have E:(env.blockKind == .function)=aT:=by rw[h];rfl
 cases v <;> first |rfl |(simp only[E,Bool.true_and,Env.kindOf,hs];rfl)
def qY{L:Nat}(h:∀x p,T ≠ .Name x p):VS [T] v L env=pure aW:=by
 show VR v (aa T) L env=pure aW;unfold VR;cases v <;> first |rfl |(cases T <;> first |rfl |(exact absurd rfl (h _ _)))
def uW(h:(∀E k p,v ≠ .Tuple E k p)\/(∃x p,T = .Name x p)\/(∃o i p,T = .Subscript o i p)):VQ [T] v env=pure aD:=by
 unfold VQ;rcases h with h |⟨x,p,rfl⟩ |⟨o,i,p,rfl⟩
 ·split
  ·rename_i e;split at e
   ·exact absurd rfl (h _ _ _)
   ·exact absurd rfl (h _ _ _)
   ·cases e
  ·rfl
 ·rfl
 ·rfl
abbrev nmL:List Expr->Option (List Str)
 |[]=>aa []
 |e::es=>match wX e,nmL es with
  |some r,aa xs=>aa (r.1::xs)
  |_,_=>aD
def fL(h:nmL b=aa (x::xs)):∃p E,b = .Name x p::E/\nmL E=aa xs:=by
 cases b with
 |nil=>cases h
 |cons e b=>
  rw[nmL] at h;split at h
  ·rename_i r y f c;cases h;exact⟨_,b,by rw[kA f],c⟩
  ·cases h
def uX(h:nmL E=aa []):E=[]:=by
 cases E with
 |nil=>rfl
 |cons e E=>
  rw[nmL] at h;split at h <;> cases h
abbrev tgL:List Tg->Option (List Nat)
 |[]=>aa []
 |.name i::ts=>match tgL ts with
  |some is=>aa (i::is)
  |none=>aD
 |.tup _::_=>aD
def zY:∀ {T:List Tg} {is:List Nat},tgL T=aa is->T=is.map Tg.name
 |[],_,h=>by cases h;rfl
 |.name i::T,is,h=>by
  rw[tgL] at h;cases e:tgL T with
  |none=>rw[e] at h;cases h
  |some js=>rw[e] at h;cases h;rw[zY e];rfl
 |.tup _::_,_,h=>by cases h
abbrev Mn(b:Blk)(ns:List Str)(is:List Nat):Bool:=match ns with
 | [x,y]=>(match is with
  |[i,j]=>b.N[i]? == aa x && b.N[j]? == aa y && i != j && b.sc.names.lookup x == aa .local && b.sc.names.lookup y == aa .local
  | _=>aW)
 | [x,y,z]=>(match is with
  |[i,j,l]=>b.N[i]? == aa x && b.N[j]? == aa y && b.N[l]? == aa z && i != j && i != l && j != l && b.sc.names.lookup x == aa .local && b.sc.names.lookup y == aa .local && b.sc.names.lookup z == aa .local
  | _=>aW)
 |_=>aW
abbrev Ou(e:Expr):Bool:=jr e λ_ _ _ _=>aT
abbrev Ov(e:Expr):Bool:=e.ctorIdx == 24
abbrev tY(T:Tab)(n:Nat)(b:Blk)(f e:Expr)(t:Tg)(c:CE):Bool:=match t with
 | .name i=>(match wX f with
  |some r=>aE T n b e c && b.N[i]? == aa r.1 && b.own r.1 && (!(swW b.sc e r.1 r.2) || (Ou e && b.sc.names.lookup r.1 == aa .local))
  | none=>aW)
 | .tup gs=>(match wY f with
  | some r=>aE T n b e c && (match wY e with
   | some q=>(match uV b.sc r.1 q.1 with
    |some aD=>lH b r.1 gs
    | some (aa ns)=>(match tgL gs with
     |some is=>nmL r.1 == aa ns && q.1.length == ns.length && Mn b ns is
     | none=>aW)
    | none=>aW)
   | none=>!(Ov e) && lH b r.1 gs)
  | none=>aW)
abbrev uY(e:Stmt)(k:Option Expr->Pos->Bool):Bool:=if h:e.ctorIdx=3 then @Stmt.Return.elim (λ_=>Bool) e h k else aW
def xg(h:uY e k=aT):∃b X,e = .Return b X/\k b X=aT:=by
 obtain⟨c,h⟩:=bA h;exact Stmt.Return.elim (motive_2:=λe=>∀g,@Stmt.Return.elim (λ_=>Bool) e g k=aT->∃b X,e = .Return b X/\k b X=aT) e c (λb X _ f=>⟨b,X,rfl,f⟩) c h
abbrev pE(e:Stmt)(k:List Expr->Expr->Pos->Bool):Bool:=if h:e.ctorIdx=5 then @Stmt.Assign.elim (λ_=>Bool) e h k else aW
def nW(h:pE e k=aT):∃b X c,e = .Assign b X c/\k b X c=aT:=by
 obtain⟨f,h⟩:=bA h;exact Stmt.Assign.elim (motive_2:=λe=>∀j,@Stmt.Assign.elim (λ_=>Bool) e j k=aT->∃b X c,e = .Assign b X c/\k b X c=aT) e f (λb X c _ g=>⟨b,X,c,rfl,g⟩) f h
abbrev Mo(e:Stmt)(k:Expr->Expr->List Stmt->List Stmt->Pos->Bool):Bool:=if h:e.ctorIdx=9 then @Stmt.For.elim (λ_=>Bool) e h k else aW
def Ii(h:Mo e k=aT):∃c b g X f,e = .For c b g X f/\k c b g X f=aT:=by
 obtain⟨j,h⟩:=bA h;exact Stmt.For.elim (motive_2:=λe=>∀o,@Stmt.For.elim (λ_=>Bool) e o k=aT->∃c b g X f,e = .For c b g X f/\k c b g X f=aT) e j (λc b g X f _ n=>⟨c,b,g,X,f,rfl,n⟩) j h
abbrev zZ(e:Stmt)(k:Expr->List Stmt->List Stmt->Pos->Bool):Bool:=if h:e.ctorIdx=11 then @Stmt.While.elim (λ_=>Bool) e h k else aW
def z5(h:zZ e k=aT):∃c b f X,e = .While c b f X/\k c b f X=aT:=by
 obtain⟨g,h⟩:=bA h;exact Stmt.While.elim (motive_2:=λe=>∀n,@Stmt.While.elim (λ_=>Bool) e n k=aT->∃c b f X,e = .While c b f X/\k c b f X=aT) e g (λc b f X _ j=>⟨c,b,f,X,rfl,j⟩) g h
abbrev jIf(e:Stmt)(k:Expr->List Stmt->List Stmt->Pos->Bool):Bool:=if h:e.ctorIdx=12 then @Stmt.If.elim (λ_=>Bool) e h k else aW
def Mp(h:jIf e k=aT):∃c b f X,e = .If c b f X/\k c b f X=aT:=by
 obtain⟨g,h⟩:=bA h;exact Stmt.If.elim (motive_2:=λe=>∀n,@Stmt.If.elim (λ_=>Bool) e n k=aT->∃c b f X,e = .If c b f X/\k c b f X=aT) e g (λc b f X _ j=>⟨c,b,f,X,rfl,j⟩) g h
abbrev FY(e:Stmt)(k:Expr->Pos->Bool):Bool:=if h:e.ctorIdx=24 then @Stmt.Expr.elim (λ_=>Bool) e h k else aW
def Da(h:FY e k=aT):∃b X,e = .Expr b X/\k b X=aT:=by
 obtain⟨c,h⟩:=bA h;exact Stmt.Expr.elim (motive_2:=λe=>∀g,@Stmt.Expr.elim (λ_=>Bool) e g k=aT->∃b X,e = .Expr b X/\k b X=aT) e c (λb X _ f=>⟨b,X,rfl,f⟩) c h
abbrev nX(e:Stmt)(k:Pos->Bool):Bool:=if h:e.ctorIdx=27 then @Stmt.Continue.elim (λ_=>Bool) e h k else aW
def qZ(h:nX e k=aT):∃X,e = .Continue X/\k X=aT:=by
 obtain⟨b,h⟩:=bA h;exact Stmt.Continue.elim (motive_2:=λe=>∀f,@Stmt.Continue.elim (λ_=>Bool) e f k=aT->∃X,e = .Continue X/\k X=aT) e b (λX _ c=>⟨X,rfl,c⟩) b h
abbrev pF(e:Expr):Bool:=e.ctorIdx == 8 || e.ctorIdx == 9 || e.ctorIdx == 10
abbrev z6(T:Tab)(n:Nat)(b:Blk)(j e:Expr)(i:Nat)(own:List Str)(k v:CE)(t:Tg)(I:CI):Bool:=oA (wX j) λr=>nJ e λh f o c _=>l1 o λg=>
 decide (g.is_async=0) && g.ifs.isEmpty && cmB own (iQ own b.N) b.N c b.sc && pw T n b g.target g.iter I && qO (b.inner own c) g.target t && aE T n (b.inner own c) h k && aE T n (b.inner own c) f v &&
 b.N[i]? == aa r.1 && b.own r.1 && !(swW b.sc e r.1 r.2)
abbrev Ij(k:Expr->Expr->Bool)(s:Stmt):Bool:=pE s λT v _=>l1 T λb=>k b v
abbrev FZ(k l m:Expr->Bool)(s:Stmt):Bool:=pE s λb z _=>l1 b λT=>eP T λx y _=>k z && l x && m y && aO y
abbrev zEx(k:Expr->Bool)(s:Stmt):Bool:=FY s λv _=>k v && !(pF v)
abbrev Mq(k:Expr->Bool)(s:Stmt):Bool:=uY s λv _=>oA v k
abbrev zIf(k:Expr->Bool)(l m:List Stmt->Bool)(s:Stmt):Bool:=jIf s λt p q _=>k t && l p && m q
abbrev Mr(k:Expr->Expr->Bool)(l:List Stmt->Bool)(s:Stmt):Bool:=Mo s λT i p q _=>q.isEmpty && k T i && l p
abbrev z7(k:Expr->Bool)(l:List Stmt->Bool)(s:Stmt):Bool:=zZ s λt p q _=>q.isEmpty && k t && l p
abbrev Ms(s:Stmt):Bool:=nX s λ_=>aT
section
variable {s:Stmt} {k l m:Expr->Bool}
def z8{k:Expr->Expr->Bool}(h:Ij k s=aT):∃T v p,s = .Assign [T] v p/\k T v=aT:=by
 obtain⟨b,v,p,rfl,h⟩:=nW h;obtain⟨T,rfl,h⟩:=lw h;exact⟨T,v,p,rfl,h⟩
def Db(h:FZ k l m s=aT):∃x y q z p,s = .Assign [.Subscript x y q] z p/\k z=aT/\l x=aT/\m y=aT/\aO y=aT:=by
 obtain⟨b,v,p,rfl,h⟩:=nW h;obtain⟨T,rfl,h⟩:=lw h;obtain⟨x,y,q,rfl,h⟩:=eR h;exact⟨x,y,q,v,p,rfl,an4 h⟩
def Mu(h:zEx k s=aT):∃v p,s = .Expr v p/\k v=aT/\pF v=aW:=by
 obtain⟨v,p,rfl,h⟩:=Da h;obtain⟨c,b⟩:=an2 h;exact⟨v,p,rfl,c,by cases e:pF v;rfl;rw[e] at b;cases b⟩
def Ik(h:Mq k s=aT):∃v p,s = .Return (aa v) p/\k v=aT:=by
 obtain⟨v,p,rfl,h⟩:=xg h;obtain⟨v,rfl,h⟩:=wZ h;exact⟨v,p,rfl,h⟩
def Mv{l m:List Stmt->Bool}(h:zIf k l m s=aT):∃t p q r,s = .If t p q r/\k t=aT/\l p=aT/\m q=aT:=by
 obtain⟨t,p,q,r,rfl,h⟩:=Mp h;exact⟨t,p,q,r,rfl,an3 h⟩
def Il{k:Expr->Expr->Bool}{l:List Stmt->Bool}(h:Mr k l s=aT):∃T i p q,s = .For T i p [] q/\k T i=aT/\l p=aT:=by
 obtain⟨T,i,p,q,r,rfl,h⟩:=Ii h;obtain⟨b,z⟩:=an3 h;cases fJ b;exact⟨T,i,p,r,rfl,z⟩
def z9{l:List Stmt->Bool}(h:z7 k l s=aT):∃t p q,s = .While t p [] q/\k t=aT/\l p=aT:=by
 obtain⟨t,p,q,r,rfl,h⟩:=z5 h;obtain⟨b,z⟩:=an3 h;cases fJ b;exact⟨t,p,r,rfl,z⟩
def Im(h:Ms s=aT):∃p,s = .Continue p:=by obtain⟨p,rfl,_⟩:=qZ h;exact⟨p,rfl⟩
end
mutual
noncomputable def Mw(T:Tab):Nat->Blk->Stmt->CS->Bool
 |0,_,_,_=>aW
 |n+1,b,s,c=>match c with
  |.asg t e=>Ij (λf v=>tY T n b f v t e) s
  |.setI v o i=>FZ (λx=>aE T n b x v) (λx=>aE T n b x o) (λx=>aE T n b x i) s
  |.dcs i own k v t it=>Ij (λf e=>z6 T n b f e i own k v t it) s
  |.ex e=>zEx (λx=>aE T n b x e) s
  |.ret e=>Mq (λx=>aE T n b x e) s
  |.ifs c x y=>zIf (λe=>eS T n b e c) (λp=>lX T n b p x) (λp=>lX T n b p y) s
  |.for_ t it x=>Mr (λf i=>pw T n b f i it && qO b f t) (λp=>lX T n b p x) s
  |.while_ c x=>z7 (λe=>eS T n b e c) (λp=>lX T n b p x) s
  |.cnt=>Ms s
  |.never=>aT
noncomputable def lX(T:Tab):Nat->Blk->List Stmt->List CS->Bool
 |0,_,_,_=>aW
 |n+1,b,ss,cs=>match cs with
  |[]=>ss.isEmpty
  |c::cs=>lC ss λs ss=>Mw T n b s c && lX T n b ss cs
end
section
variable {T:Tab} {C:Calls} {ar:Nat->Nat} {k n:Nat} {b:Blk} {X:Cx}
def Dc{c:Nat}(h:aE T (n+1) b (.Tuple E c p) (.tup f)=aT):fK T n b E f=aT:=h
def Aa{o:Nat}(h:aE T (n+1) b (.Tuple u o p) c=aT):∃cs,c = .tup cs:=by
 cases c with
 |tup cs=>exact⟨cs,rfl⟩
 |comp own E f=>
  cases f with
  |nil=>exact absurd h Zf
  |cons g j=>obtain⟨q,I,cond⟩:=g;exact absurd h Zf
 |_=>exact absurd h Zf
def hY:∀ (g:List Tg) (f:List D) (h c:Rho),aG g f h=aa c->g.length=f.length
 |[],[],_,_,_=>rfl
 |[],_::_,_,_,e=>by simp[aG] at e
 |_::_,[],_,_,e=>by simp[aG] at e
 |t::g,d::f,h,c,e=>by
  simp only[aG] at e;split at e
  ·simp[hY _ _ _ _ e]
  ·cases e
def q8{K:WW}{x:XA}{u:List Tg}{D:Ends}{v:L2.St}{H:Hp}(h:tSt K (ls (kj kl x) (.tup u)) D v H):tAr K x v H λz H1=>∃m1 f g j,EnvR K m1 H1 f v/\VDs K m1 H1 j z/\aG u j f=aa g/\∀c,EnvR K m1 H1 g c->D.nx c H1:=by
 obtain⟨m,f,S,O,g,L,E,R,e,q⟩:=h;unfold ls at e;cases p:kj kl x f S with
 |none=>rw[p] at e;cases e
 |some r=>
  rw[p] at e;obtain⟨j,Q,I,o⟩:=ag p;unfold kl at o;split at o
  ·cases o;dsimp only at e;simp only[av] at e;cases hb:aG u j f with
   |none=>rw[hb] at e;cases e
   |some B=>
    rw[hb] at e;cases e;exact⟨m,f,S,j,_,E,R,I,λm1 H1 z y vd=>⟨m1,f,_,j,E.mono R y.ext,vd,hb,λc J=>q m1 H1 y c J⟩⟩
  ·cases o
def rb{K:WW}{x:XA}{g:L2.St}{H:Hp}{Q Q':List V->Hp->Prop}(h:tAr K x g H Q)(f:∀v c,Q v c->Q' v c):tAr K x g H Q':=by
 obtain⟨m,o,S,d,p,E,R,e,q⟩:=h;exact⟨m,o,S,d,p,E,R,e,λj c v A vd=>f _ _ (q j c v A vd)⟩
def lY{f c:Rho}{i:Nat}{d:D}(h:(if i < f.length then aa (f.set i (aa d)) else aD)=aa c):c=f.set i (aa d):=by
 split at h
 ·cases h;rfl
 ·cases h
def Dd{K:WW}{x:XA}{i j:Nat}{D:Ends}{f:L2.St}{H:Hp}(h:tSt K (ls (kj kl x) (.tup [.name i,.name j])) D f H):Lh i j (tAr K x) D f H:=by
 refine rb (q8 h) λI L ⟨m1,J,y,g,E,vd,e,q⟩=>?_;have z:=hY _ _ _ _ e
 match g,z with
 |[a,c],_=>
  obtain⟨v,w,rfl,o,u⟩:=yU vd;refine⟨v,w,rfl,q _ ?_⟩;simp only[aG,av] at e;split at e
  ·rename_i r1 B;have:=lY B;subst this;split at e
   ·rename_i r2 p;have:=lY p;subst this;cases e;exact(E.set o).set u
   ·cases e
  ·cases e
def Ow{K:WW}{m:List Addr}{H:Hp}{a b c:D}{f:List V}(h:VDs K m H [a,b,c] f):∃v w z,f=[v,w,z]/\VD K m H a v/\VD K m H b w/\VD K m H c z:=by
 rw[VDs] at h;obtain⟨v,r,rfl,p,q⟩:=h;obtain⟨w,z,rfl,g,Q⟩:=yU q;exact⟨v,w,z,rfl,p,g,Q⟩
def De{K:WW}{x:XA}{i j l:Nat}{D:Ends}{g:L2.St}{H:Hp}(h:tSt K (ls (kj kl x) (.tup [.name i,.name j,.name l])) D g H):FJ i j l (tAr K x) D g H:=by
 refine rb (q8 h) λU Y ⟨m1,Q,J,o,E,vd,e,q⟩=>?_;have p:=hY _ _ _ _ e
 match o,p with
 |[a,c,d],_=>
  obtain⟨v,w,z,rfl,y,u,f⟩:=Ow vd;refine⟨v,w,z,rfl,q _ ?_⟩;simp only[aG,av] at e;split at e
  ·rename_i r1 L;have:=lY L;subst this;split at e
   ·rename_i r2 I;have:=lY I;subst this;split at e
    ·rename_i O B;have:=lY B;subst this;cases e;exact((E.set y).set u).set f
    ·cases e
   ·cases e
  ·cases e
def Ab(h:aE T (n+1) b (.ListComp e Q f p) c=aT):∃own E q I cond g t i ifs j,c = .comp own E (⟨q,I,cond⟩::g)/\Q=⟨t,i,ifs,0⟩::j ∧
  cmB own (iQ own b.N) b.N f b.sc=aT/\pw T n b t i I=aT/\qO (b.inner own f) t q=aT/\zJ (eS T n (b.inner own f)) ifs cond=aT/\nK T n (b.inner own f) e j E g=aT:=by
 cases c with
 |comp own E y=>
  ·obtain⟨q,I,cond,g,rfl,z⟩:=FX h;obtain⟨Y,t,i,ifs,j,o,U,v,L⟩:=uQ z;cases v;obtain⟨u,O,J,B,h4⟩:=an5 L;exact⟨own,E,q,I,cond,g,t,i,ifs,j,rfl,rfl,u,O,J,B,h4⟩
 |_=>exact absurd h Zf
end
section
variable {K:WW} {m:List Addr} {H:Hp} {S:Sto}
def rd{c f:Type}(x:c)(y:f):∀ {b:List c} {v:List f},b.length=v.length->(b++[x]).zip (v++[y])=b.zip v++[(x,y)]
 |[],[],_=>rfl
 |_::b,_::v,h=>by
  rw[Wc,Wc,XV,rd x y (by simpa using h)];rfl
def xh{p:Nat}(e:wN p n j S=aa g):∃i b c,n = .int i/\S[p]?=aa (.dic b c)/\kI i ∉ b/\b.length < 1000/\g=S.set p (.dic (b++[kI i]) (c++[j])):=by
 unfold wN at e;split at e
 ·rename_i i;split at e
  ·rename_i b c f;split at e
   ·rename_i h;cases e;exact⟨i,b,c,rfl,f,λz=>of_decide_eq_true (ZJ.mp h.1 _ z) rfl,h.2,rfl⟩
   ·cases e
  ·cases e
 ·cases e
def qj{b:List Key}{c:List V}{k:Key}(v:V)(h:k ∉ b)(hl:b.length=c.length):kP (b.zip c) k v=(b++[k]).zip (c++[v]):=by
 unfold kP;rw[if_neg,rd _ _ hl];intro z;obtain⟨q,g,e⟩:=Xq.mp z;have e:q.1=k:=of_decide_eq_true e;have f:=(Y4 (show(q.1,q.2) ∈ b.zip c from g)).1;exact h (e ▸ f)
def Io{p:Nat}{f:Addr}{k v:XE}{D:Ends}{u:L2.St}{T:Fl}(O:m[p]?=aa f)(E:EnvR K m H g u)(R:Rel K m S H)(e:tN p k v g S=aa (T,C,S'))(q:∀U Q,Aft K m H S' U Q->qH K U Q T C D):Cg f (tE K k) (tE K v) D u H:=by
 unfold tN at e;cases J:k g S with
 |none=>rw[J] at e;cases e
 |some r1=>
  obtain⟨dk,I⟩:=r1;rw[J] at e;dsimp only at e;cases B:v g I with
  |none=>rw[B] at e;cases e
  |some r2=>
   obtain⟨o,X⟩:=r2;rw[B] at e;dsimp only at e;cases z:wN p dk o X with
   |none=>rw[z] at e;cases e
   |some S3=>
    rw[z] at e;cases e;obtain⟨i,j,Z,rfl,hn,hc,hl,rfl⟩:=xh z;refine⟨m,g,S,_,I,E,R,J,λm1 H1 x c vk=>⟨m1,g,I,o,X,E.mono R c.ext,c.rel,B,λm2 H2 y b vv=>?_⟩⟩;obtain⟨a,L,n,hH,Y,h⟩:=b.rel.ob p _ hn;rw[cX (c.trans b).ext.pre O] at L;cases L;have hz:j.length=n.length:=Y.trans h.length;refine⟨j.zip n,kI i,hH,vk.ints,by rw[VN,List.length_zip];lia,?_⟩;rw[qj y hc hz];have w:=b.rel.writeO (cX (c.trans b).ext.pre O) (.dK ((j++[kI i]).zip (n++[y]))) (.dic (j++[kI i]) (Z++[o])) λx=>⟨n++[y],ba,by simp[Y],VDs.mono b.rel x (h.append (.cons vv .nil))⟩;exact q _ _ ((c.trans b).trans ⟨w.1,w.2⟩) u (E.mono R ((c.trans b).trans ⟨w.1,w.2⟩).ext)
def EnvR.wide{n:Nat}(E:EnvR K m H b c):EnvR K m H (b++Zr n aD) (c++Zr n aD):=by
 refine⟨by simp[E.len],λi d e=>?_⟩;by_cases hi:i < b.length
 ·rw[Zt hi] at e;rw[Zt (by rw[<-E.len];exact hi)];exact E.at_ i d e
 ·rw[Zo (by lia),Yp] at e;split at e <;> cases e
def Ip{i own n:Nat}{I:XI}{T:Tg}{k v:XE}{D:Ends}{Q:L2.St}(h:tSt K (wP i own I T k v n) D Q H):vK (oT (.dK []) own (tIt K [] I) (tTg K T) λacc=>dX v7 (Cg acc (tE K k) (tE K v))) (mY i) D Q H:=by
 obtain⟨m,O,S,fl,ρ',S',E,R,e,q⟩:=h;unfold wP at e;cases hi:I O S with
 |none=>rw[hi] at e;cases e
 |some r=>
  obtain⟨nx,C⟩:=r;rw[hi] at e;dsimp only at e;refine⟨m,O,S,nx,C,E,R,λb hb=>absurd hb (by simp),hi,λm1 p J f hI acc c=>?_⟩;split at e
  ·rename_i Z U hf;cases e;have x0:=Ext.beside f.rel c (.dK []);have X:Ext m1 p (m1++[acc]) (upd p acc (.dK [])):=x0.adopt c;have L:Rel K (m1++[acc]) (C++[.dic [] []]) (upd p acc (.dK [])):=(f.rel.beside c (.dK [])).adoptO (f.rel.no c) (ob:=.dic [] []) ⟨[],ba,rfl,.nil⟩;have E1:=E.mono R (f.ext.trans X);have g:(m1++[acc])[C.length]?=aa acc:=by rw[Zo (by rw[f.rel.len];exact Zd _),f.rel.len,Yh];rfl
   have z:IOk K [] J nx (m1++[acc]) (upd p acc (.dK [])):=λy U u j x R2=>hI y U u j ((X.trans ⟨x.pre,λa o h n=>x.keep a o h n (by simp),x.new⟩).toB λb hb=>absurd hb (by simp)) R2;exact uH z (λx E R e q=>Io (cX x.pre g) E R e q) n E1.wide L (Ext.refl _ _) hf λy u B Y _=>q y u (f.trans (Aft.trans ⟨X,L⟩ B)) _ ((E.mono R (f.ext.trans (X.trans B.ext))).set (by rw[VD];exact⟨acc,cX B.ext.pre g,rfl⟩))
  ·cases e
end
section
variable {T:Tab} {C:Calls} {ar:Nat->Nat} {k n:Nat} {b:Blk} {X:Cx}
def Iq(G:CtxOk T C ar k b X)(hb:X.env.blockKind = .function){U e:Expr}{i:Nat}{own:List Str}{B y:CE}{t:Tg}{L:CI}{p:Pos}(h:z6 T n b U e i own B y t L=aT):PS X (.Assign [U] e p) (tSt X.K (wP i own.length (evI C ar n L) t (evE C ar n B) (evE C ar n y) LF)):=by
 obtain⟨r,hx,h⟩:=wZ h;obtain⟨z,E,gs,f,Y,rfl,h⟩:=qN h;obtain⟨⟨I,O,ifs,as⟩,rfl,h⟩:=lw h;simp only[bAE] at h;obtain⟨⟨⟨⟨⟨⟨⟨⟨⟨h1,h2⟩,h3⟩,h4⟩,h5⟩,Z⟩,h7⟩,h8⟩,h9⟩,J⟩:=h;cases of_decide_eq_true h1;cases fJ h2;rw[kA hx];have S:CmScope own (iQ own b.N) b.N f b.sc:=sP _ h3;have S':CmScope own (iQ own b.N) X.N f X.env.scope:=by rw[G.hN,G.hs];exact S
 have Q:=zX (sc:=b.sc) (v:=.DictComp z E [⟨I,O,[],0⟩] f Y) (t:=r.1) (pos:=r.2) (line:=p.line) hb G.hs;rw[show swW b.sc (.DictComp z E [⟨I,O,[],0⟩] f Y) r.1 r.2=aW by simpa using J] at Q;have o:=G.own h9
 refine PS.imp (xV (by rw[G.hN];exact G.nd) (by rw[G.hN];simpa using h8) o.1 (ux (c:=.d z E) (g:=tTg X.K t) (ti:=v7) (t:=λj=>Cg j (tE X.K (evE C ar n B)) (tE X.K (evE C ar n y))) G.calm S' ((snd n).i [] b X I O L G h4)
  (λu ex s H=>eT (G.inner S (C':=u) (ex:=ex) (s:=s) (H:=H)) h5) (λu ex s H=>uw) (λu ex s H j=>Ch rfl rfl ((snd n).e _ _ z B (G.inner S (C':=u) (ex:=ex) (s:=s) (H:=H)) Z) ((snd n).e _ _ E y (G.inner S (C':=u) (ex:=ex) (s:=s) (H:=H)) h7)) (ec h4 (λe he env=>cM he) X.env)) Q o.2) λD σ H q=>Ip q
end
section
variable {T:Tab} {C:Calls} {ar:Nat->Nat} {k n:Nat} {b:Blk} {X:Cx}
def uZ(h:X.env.scope.kind = .function):X.env.blockKind = .function:=by
 unfold Env.blockKind;rw[h];rfl
def Df{c:Type}{l:List c}(h:l.length=2):∃a b,l=[a,b]:=by
 match l,h with
 |[a,b],_=>exact⟨a,b,rfl⟩
def xi{f:Type}{l:List f}(h:l.length=3):∃a b c,l=[a,b,c]:=by
 match l,h with
 |[a,b,c],_=>exact⟨a,b,c,rfl⟩
def Ir(G:CtxOk T C ar k b X)(hk:X.env.scope.kind = .function){tg e:Expr}{t:Tg}{c:CE}{p:Pos}(h:tY T n b tg e t c=aT):PS X (.Assign [tg] e p) (tSt X.K (ls (evE C ar n c) t)):=by
 have hb:=uZ hk;unfold tY at h;cases t with
 |name i=>
  dsimp only at h;cases E:wX tg with
  |none=>rw[E] at h;cases h
  |some r=>
  obtain⟨x,px⟩:=r;rw[E] at h;rw[kA E];simp only[bAE] at h;obtain⟨⟨⟨L,h2⟩,f⟩,h4⟩:=h;have hi:X.N[i]?=aa x:=by rw[G.hN];simpa using h2
  have nd:X.N.Nodup:=by rw[G.hN];exact G.nd
  have o:=G.own f;have sw:=zX (sc:=b.sc) (v:=e) (t:=x) (pos:=px) (line:=p.line) hb G.hs;cases I:swW b.sc e x px with
  |false=>
   rw[I] at sw;exact PS.imp (xV nd hi o.1 ((snd n).e b X e c G L) sw o.2) λD Y H q=>kD (tM q) λv H' z=>o7 z
  |true=>
   rw[I] at h4 sw;simp only[Bool.not_true,Wn,bAE] at h4;obtain⟨h5,h4⟩:=h4;obtain⟨el,gs,u,pp,rfl,_⟩:=jO h5
   ·cases n with
    |zero=>exact absurd L Zf
    |succ n=>
     obtain⟨own,elt,tg',it,cond,J,tt,ii,ifs,gs',rfl,rfl,c0,c1,c2,c3,c4⟩:=Ab L;have S:CmScope own (iQ own b.N) b.N u b.sc:=sP _ c0;have S':CmScope own (iQ own b.N) X.N u X.env.scope:=by rw[G.hN,G.hs];exact S
     have hpl:=ec c1 (λe he env=>cM he) X.env;have E:X.env.scope.names.lookup x=aa .local:=by rw[G.hs];simpa using h4
     refine PS.imp (Ck (c:=.l el) (g:=tTg X.K tg') (ti:=ifT C ar n X.K cond) (t:=λB=>tCl X.K B (gI C ar n elt J)) G.calm S' nd hi E ((snd n).i [] b X tt ii it G c1) (λZ ex s H=>eT (G.inner S (C':=Z) (ex:=ex) (s:=s) (H:=H)) c2) (λZ ex s H=>lQ (snd n) (G.inner S (C':=Z) (ex:=ex) (s:=s) (H:=H)) c3)
      (λZ ex s H B=>(snd n).cl _ _ el gs' elt J (G.inner S (C':=Z) (ex:=ex) (s:=s) (H:=H)) c4 _ u pp B 0 rfl) sw hpl) λD Y H q=>?_
     exact uJ (λB D Y H z=>tU z) (qw (kD (tM q) λv H' z=>o7 z))
 |tup gs=>
  dsimp only at h;cases E:wY tg with
  |none=>rw[E] at h;cases h
  |some r=>
  obtain⟨U,kt,pt⟩:=r;rw[E] at h;rw[pc E];simp only[bAE] at h;obtain⟨L,f⟩:=h;have so:VS [.Tuple U kt pt] e p.line X.env=pure aW:=qY λx p z=>nomatch z
  have plain:∀ (I:VQ [.Tuple U kt pt] e X.env=pure aD) (hg:lH b U gs=aT),PS X (.Assign [.Tuple U kt pt] e p) (tSt X.K (ls (evE C ar n c) (.tup gs))):=λI hg=>
   PS.imp (xU ((snd n).e b X e c G L) (eT G (e:=.Tuple U kt pt) (t:=.tup gs) hg) so I rfl) λD Y H q=>tM q
  cases hy:wY e with
  |none=>
   rw[hy] at f;simp only[bAE] at f;exact plain (uW (.inl λes k p z=>by rw[z] at hy;cases hy)) f.2
  |some q=>
   obtain⟨es,ke,pe⟩:=q;rw[hy] at f;obtain rfl:=pc hy;cases n with
   |zero=>exact absurd L Zf
   |succ n=>
    obtain⟨cs,rfl⟩:=Aa L;have ha:=Dc L;dsimp only at f;cases hr:uV b.sc U es with
    |none=>rw[hr] at f;cases f
    |some w=>
     have I:=Mm (k:=kt) (p:=pt) (k2:=ke) (p2:=pe) hb G.hs hr;rw[hr] at f;cases w with
     |none=>exact plain I f
     |some ns=>
      dsimp only at f;cases ht:tgL gs with
      |none=>rw[ht] at f;cases f
      |some is=>
       rw[ht] at f;simp only[bAE] at f;obtain⟨⟨hn0,hl0⟩,f⟩:=f;have hn:nmL U=aa ns:=by simpa using hn0
       have hl:es.length=ns.length:=by simpa using hl0
       clear hn0 hl0;obtain rfl:=zY ht;unfold Mn at f;split at f
       ·rename_i x y;split at f
        ·rename_i i j;obtain⟨p1,t1,rfl,O⟩:=fL hn;obtain⟨p2,t2,rfl,Q⟩:=fL O;obtain rfl:=uX Q;obtain⟨a1,a2,rfl⟩:=Df hl;simp only[bAE] at f;obtain⟨⟨⟨⟨q2,q3⟩,q4⟩,q5⟩,q6⟩:=f;exact PS.imp (GF (i:=i) (j:=j) G.calm (by rw[G.hN];exact G.nd) (by rw[G.hN];simpa using q2) (by rw[G.hN];simpa using q3) (by simpa using q4) (by rw[G.hs];simpa using q5) (by rw[G.hs];simpa using q6) ((snd n).a b X _ cs G ha) I so) λD Y H q=>Dd q
        ·cases f
       ·rename_i x y z;split at f
        ·rename_i i j l;obtain⟨p1,t1,rfl,O⟩:=fL hn;obtain⟨p2,t2,rfl,Q⟩:=fL O;obtain⟨p3,t3,rfl,hn3⟩:=fL Q;obtain rfl:=uX hn3;obtain⟨a1,a2,a3,rfl⟩:=xi hl;simp only[bAE] at f;obtain⟨⟨⟨⟨⟨⟨⟨⟨q2,q3⟩,q3'⟩,q4⟩,q4'⟩,q4''⟩,q5⟩,q6⟩,q7⟩:=f;exact PS.imp (Co (i:=i) (j:=j) (k:=l) G.calm (by rw[G.hN];exact G.nd) (by rw[G.hN];simpa using q2) (by rw[G.hN];simpa using q3) (by rw[G.hN];simpa using q3') (by simpa using q4) (by simpa using q4') (by simpa using q4'') (by rw[G.hs];simpa using q5) (by rw[G.hs];simpa using q6) (by rw[G.hs];simpa using q7) ((snd n).a b X _ cs G ha) I so) λD Y H q=>De q
        ·cases f
       ·cases f
def Ac{L:Nat}(h:pF v=aW):VR v aD L X.env=pure aW:=by
 unfold VR;cases v <;> first |rfl |(exact absurd h (λz=>Zf z.symm))
structure SndS(T:Tab)(C:Calls)(ar:Nat->Nat)(k n:Nat):Prop where
 s:∀ (b:Blk) (X:Cx) (s:Stmt) (c:CS),CtxOk T C ar k b X->X.env.scope.kind = .function->Mw T n b s c=aT->PS X s (tSt X.K (evS C ar n c))
 ss:∀ (b:Blk) (X:Cx) (s:List Stmt) (c:List CS),CtxOk T C ar k b X->X.env.scope.kind = .function->lX T n b s c=aT->PSs X s (tSt X.K (eU C ar n c))
def Mx{K:WW}{D:Ends}{c:L2.St}{H:Hp}(h:tSt K C9 D c H):False:=by
 obtain⟨m,g,S,o,f,j,E,R,e,q⟩:=h;cases e
def My:∀n,SndS T C ar k n
 |0=>⟨λb X s c _ _ h=>absurd h Zf,λb X s c _ _ h=>absurd h Zf⟩
 |n+1=>by
  have I:=My n;refine⟨λb X s c G u h=>?_,λb X ss E G u h=>?_⟩
  ·have L:PassesOwn (model X.prog X.w) X.A X.env X.xe:=by rw[G.xe];exact PassesOwn.never
   cases c with
   |asg t e=>obtain⟨J,v,p,rfl,f⟩:=z8 h;exact Ir G u f
   |setI v o i=>
    obtain⟨x,y,U,z,p,rfl,f,g,B,pl⟩:=Db h
    exact PS.imp (xU ((snd n).e b X z v G f) (GD ((snd n).e b X x o G g) ((snd n).e b X y i G B) LV (λv=>by
     cases y <;> first | rfl | (exact absurd pl Zf))) (qY λx p z=>nomatch z) (uW (.inr (.inr ⟨_,_,_,rfl⟩))) rfl) λD j H q=>CM q
   |dcs i own k v t Q=>obtain⟨J,e,p,rfl,h⟩:=z8 h;exact Iq G (uZ u) h
   |ex e=>obtain⟨v,p,rfl,f,g⟩:=Mu h;exact PS.imp (BR ((snd n).e b X v e G f) (Ac g)) λD j H q=>CL q
   |ret e=>obtain⟨v,p,rfl,f⟩:=Ik h;exact PS.imp (Gy ((snd n).e b X _ _ G f)) λD j H q=>Hz q
   |ifs c x y=>obtain⟨t,p,q,r,rfl,f,g,B⟩:=Mv h;exact PS.imp (Lb ((snd n).t b X _ _ G f) (I.ss b X _ _ G u g) (I.ss b X _ _ G u B)) λD j H q=>L5 q
   |for_ t Q x=>
    obtain⟨J,i,p,pos,rfl,f,g⟩:=Il h;have f:=an2 f;exact PS.imp (GH L G.calm ((snd n).i [] b X _ _ _ G f.1) (eT G f.2) (I.ss b X _ _ G u g) (ec f.1 (λe O env=>cM O) X.env)) λD j H q=>HB q
   |while_ c x=>obtain⟨t,p,q,rfl,f,g⟩:=z9 h;exact PS.imp (xX L ((snd n).t b X _ _ G f) (I.ss b X _ _ G u g)) λD j H q=>zh q
   |cnt=>obtain⟨p,rfl⟩:=Im h;exact PS.imp qe λD j H q=>HA q
   |never=>exact PS.imp xS λD j H q=>(Mx q).elim
  ·cases E with
   |nil=>rw[fJ h];exact PSs.imp BQ λD j H q=>CK q
   |cons c E=>
    obtain⟨s,ss,rfl,h⟩:=fI h;have h:=an2 h;exact PSs.imp (xR (I.s b X s c G u h.1) (I.ss b X ss E G u h.2)) λD j H q=>Hy q
end
structure DefE where
 x:Str
 st:Stmt
 N:List Str
 ps:List Str
 body:List CS
abbrev FU:Nat:=60
abbrev eV(aj:List DefE)(f:Nat):Nat:=match aj[f]? with
 |some d=>d.ps.length
 |none=>0
abbrev Iu(C:Calls)(c:Nat->Nat)(d:DefE)(b:List D)(S:Sto):Option (D × Sto):=
 match eU C c FU d.body (b.map aa++Zr (d.N.length - b.length) aD) S with
 |some (.rt v,_,S')=>aa (v,S')
 |some (.nx,_,S')=>aa (.non,S')
 |_=>aD
abbrev evC(aj:List DefE):Nat->Calls
 |0=>λ_ _ _=>aD
 |k+1=>λf b S=>match aj[f]? with
  |some d=>Iu (evC aj k) (eV aj) d b S
  |none=>aD
abbrev Ae(N ps:List Str)(sc:Scope):Bool:=sc.kind == .function && sc.isCoroutine == aW && sc.isGenerator == aW && jg N && N.take ps.length == ps && (ps.all λx=>sc.names.lookup x == aa .local || sc.names.lookup x == aa .cell) && sc.names.all λy=>y.2 != .free
def Dg{N ps:List Str}{sc:Scope}(h:Ae N ps sc=aT):FnScope N ps sc:=by
 unfold Ae at h;simp only[bAE,ZJ] at h;obtain⟨⟨⟨⟨⟨⟨o,f⟩,c⟩,h4⟩,p⟩,b⟩,g⟩:=h;refine⟨by simpa using o,by simpa using f,by simpa using c,iG h4,by simpa using p,λx n=>?_,λy j=>by simpa using g y j⟩;have:=b x n
 simpa using this
abbrev Dh(T:Tab)(d:DefE):Bool:=Ae d.N d.ps (bf d.st) && lX T FU ⟨bf d.st,aD,d.N⟩ (bO d.st) d.body
abbrev u0(con:List (Str × Int))(aj:List DefE):Tab:=⟨con,aj.map λd=>(d.x,d.ps.length)⟩
structure TextOk(K:WW)(mg:Str->Option Value)(con:List (Str × Int))(aj:List DefE):Prop where
 con:∀ (i:Nat) (x:Str) (v:Int),con[i]?=aa (x,v)->∃tk,mg x=aa (.int v tk)
 bl:∀x,x ∈ ir->mg x=aD
 fn:∀ (i:Nat) (d:DefE),aj[i]?=aa d->∃f fd,mg d.x=aa (.ref f)/\W3 K (.ref f)=aT/\mZ K fd d.ps []/\Fun K d.x d.x d.st f fd
section
variable {P:Program} {w:World} {K:WW} {mg:Str->Option Value} {base:Heap} {con:List (Str × Int)} {aj:List DefE}
def Di{f:Addr}{j:WO}{ps:List Str}{i n:Nat}:FnOk P w K mg base CX0 0 f j ps (spC K (evC aj 0 i) n):=
 ⟨λv H Q E h=>(by obtain⟨m,c,S,d,g,_,_,_,e,_⟩:=h;cases e),λA outer s H b u v Q E _ _ _ _ h=>(by obtain⟨m,c,S,d,g,_,_,_,e,_⟩:=h;cases e)⟩
def xj{m:List Addr}{H:Hp}{N:List Str}{b:List D}{c:List V}(vd:VDs K m H b c):EnvR K m H (b.map aa++Zr (N.length - b.length) aD) (L2.gK N c):=by
 have j:=vd.length;unfold L2.gK;refine⟨by simp[j],λi d e=>?_⟩;by_cases hi:i < b.length
 ·rw[Zt (by simpa using hi),Zl] at e;cases h:b[i]? with
  |none=>rw[h] at e;cases e
  |some n=>
   rw[h] at e;cases e;obtain⟨v,f,g⟩:=vd.get h;exact⟨v,by rw[Zt (by simp;omega),Zl,f];rfl,g⟩
 ·rw[Zo (by simpa using hi),Yp] at e;split at e <;> cases e
def vf(T:TextOk K mg con aj)(hc:aj.all (Dh (u0 con aj))=aT):∀ (k i:Nat) (d:DefE),aj[i]?=aa d->∀f o,mg d.x=aa (.ref f)->Fun K d.x d.x d.st f o->FnOk P w K mg base CX0 k f o d.ps (spC K (evC aj k i) d.ps.length)
 |0,i,d,_,f,o,_,_=>Di
 |k+1,i,d,hd,f,o,hm,F=>by
  have ih:=vf T hc k;have C:=ZJ.mp hc d (Ze hd);unfold Dh at C;rw[bAE] at C;have S:=Dg C.1;refine F.ok S (λvs H Q E h=>?_) λI A outer s H vs Q E hr h=>?_
  ·obtain⟨m,p,S,d',S',vd,_,U,_⟩:=h;rw[<-vd.length,U]
  ·have G:CtxOk (u0 con aj) (evC aj k) (eV aj) k ⟨bf d.st,aD,d.N⟩ (su CX0 P w K mg base d.N d.x (bf d.st) f I A outer s H E).nox:=by
    refine⟨rfl,rfl,rfl,rfl,S.nd,λ_ _=>rfl,hr,T.con,T.bl,λj y hy=>?_⟩;have b:(aj.map λd=>(d.x,d.ps.length))[j]?=aa y:=hy;rw[Zl] at b;cases g:aj[j]? with
    |none=>rw[g] at b;cases b
    |some e=>
     rw[g] at b;cases b;have L:eV aj j=e.ps.length:=by unfold eV;rw[g]
     obtain⟨Z,n,c,k',b',F'⟩:=T.fn j e g;refine⟨L,Z,n,e.ps,c,k',b',?_⟩;rw[L];exact ih j e g Z n c F'
   refine⟨_,(My FU).ss _ _ (bO d.st) d.body G S.kind C.2,?_⟩;obtain⟨m,p,O,r,S',vd,R,U,e,q⟩:=h;simp only[evC,hd,Iu] at e;cases B:eU (evC aj k) (eV aj) FU d.body (p.map aa++Zr (d.N.length - p.length) aD) O with
   |none=>rw[B] at e;cases e
   |some z=>
    obtain⟨Y,J,S1⟩:=z;rw[B] at e;refine⟨m,_,O,Y,J,S1,xj vd,R,B,λc X A'=>?_⟩;cases Y with
    |nx=>cases e;exactλσ _=>q c X .non A' sQ
    |rt v=>cases e;exactλu vu=>q c X u A' vu
    |bk=>cases e
    |ct=>cases e
end
abbrev vg(d:DefE):Option qa:=aa ((d.x,d.x),(cW d.st,bO d.st),(bf d.st,Vz),([],.none),(Vj,aa d.x))
@[inline]abbrev Af:=Bool × List (Option qa) × List (Option Int) × List Bool
abbrev xk(con:List (Str × Int))(aj:List DefE)(h:Heap):Af:=(h.isNs Vz,aj.map (λd=>mN h d.x),con.map (λc=>xL h c.1),ir.map λx=>(h.nsMap Vz x).isNone)
abbrev re(con:List (Str × Int))(aj:List DefE):Af:=(aT,aj.map vg,con.map (λc=>aa c.2),ir.map λ_=>aT)
abbrev F0(d:DefE):Prop:=∀ (kV b p:Value) (f:Option Addr) (c ct:Value) (u:List Value),u.length=d.ps.length->bindArgs (W0 d.x d.x (cW d.st) (bO d.st) (bf d.st) .none kV b p f c ct) ⟨u,[]⟩=pure (d.ps.zip u)
abbrev xl:List DefE->Prop
 |[]=>True
 |d::ds=>F0 d/\xl ds
def xl.at:∀ {b:List DefE} {d:DefE},xl b->d ∈ b->F0 d
 |e::b,d,h,hd=>by
  rcases Zk.mp hd with rfl |hd
  ·exact h.1
  ·exact xl.at h.2 hd
abbrev nY(h:Heap)(f:Addr):WW:=match h.get? f with
 | some o=>(f,o)::(match o.data with
  | .func fd=>(match fd.code with
   |.ref c=>(match h.get? c with |some O=>[(c,O)] |none=>[])
   | _=>[])
  | _=>[])
 |none=>[]
abbrev dg(h:Heap)(d:DefE):WW:=match h.nsMap Vz d.x with
 |some (.ref f)=>nY h f
 |_=>[]
abbrev Mz(K:WW):Prop:=∀a o,K.lookup a=aa o->∀I n,o.data ≠ .seq I n
structure Says(con:List (Str × Int))(aj:List DefE)(h:Heap):Prop where
 ns:∃m,h.Ns Vz m
 frag:∃K:WW,K.In h/\Mz K/\∀mg,h.Ns Vz mg->TextOk K mg con aj
def lZ{K:WW}{a:Addr}{o:Obj}(h:K.lookup a=aa o):(a,o) ∈ K:=by
 induction K with
 |nil=>cases h
 |cons p K I=>
  obtain⟨b,q⟩:=p;rw[YD] at h;cases hb:a == b with
  |true=>
   rw[hb] at h;cases h;have:a=b:=by simpa using hb
   subst this;exact Zj
  |false=>rw[hb] at h;exact Zm _ (I h)
def Ag{K:WW}{a:Addr}{o:Obj}(h:(a,o) ∈ K):∃o',K.lookup a=aa o':=by
 induction K with
 |nil=>cases h
 |cons p K I=>
  obtain⟨b,q⟩:=p;rw[YD];cases hb:a == b with
  |true=>exact⟨_,rfl⟩
  |false=>
   rcases Zk.mp h with e |h
   ·cases e;simp at hb
   ·exact I h
def Ah{h:Heap}{f a:Addr}{o:Obj}(e:(a,o) ∈ nY h f):h.get? a=aa o:=by
 unfold nY at e;cases g:h.get? f with
 |none=>rw[g] at e;cases e
 |some of=>
  rw[g] at e;dsimp only at e;rcases Zk.mp e with q |e
  ·cases q;exact g
  ·split at e
   ·split at e
    ·rename_i c j;cases b:h.get? c with
     |none=>rw[b] at e;cases e
     |some O=>
      rw[b] at e;dsimp only at e;rcases Zk.mp e with q |e
      ·cases q;exact b
      ·cases e
    ·cases e
   ·cases e
def Iv{h:Heap}{a:Addr}{mg:Str->Option Value}(N:h.Ns a mg):h.nsMap a=mg:=by
 obtain⟨o,f,E,c,hd,_,b⟩:=N
 funext x
 unfold Heap.nsMap;rw[c];dsimp only;rw[hd];exact b x
def Ai{h:Heap}{d:DefE}(e:mN h d.x=vg d):∃f O u kV g p j c ct o y C v a t r q,h.nsMap Vz d.x=aa (.ref f)/\h.get? f=aa ⟨O,u,.func (W0 d.x d.x (cW d.st) (bO d.st) (bf d.st) .none kV g p j (.ref c) ct),o⟩ ∧
  h.get? c=aa ⟨y,C,.fields v,q⟩/\v.toList=a :: .str d.x t::r:=by
 unfold mN vg at e;split at e
 ·rename_i f E;unfold K2 at e;split at e
  ·rename_i O u nm Q ps b sc gl cl L kV g p j I ct T o J;simp only[Option.some.injEq,Prod.mk.injEq] at e;obtain⟨⟨rfl,rfl⟩,⟨rfl,rfl⟩,⟨rfl,rfl⟩,⟨rfl,rfl⟩,rfl,e⟩:=e;unfold Fs at e;split at e
   ·rename_i c;split at e
    ·rename_i y C v q z;split at e
     ·rename_i a n t r B;cases e;exact⟨f,O,u,kV,g,p,j,c,ct,o,y,C,v,a,t,r,q,E,J,z,B⟩
     ·cases e
    ·cases e
   ·cases e
  ·cases e
 ·cases e
def Dj{con:List (Str × Int)}{aj:List DefE}(hb:xl aj){h:Heap}(e:xk con aj h=re con aj):Says con aj h:=by
 unfold xk re at e;simp only[Prod.mk.injEq] at e;obtain⟨e0,e1,e2,e3⟩:=e;have N:=Heap.Ns.of_isNs e0;have D:∀d ∈ aj,mN h d.x=vg d:=λd hd=>Xk.mp e1 d hd
 have I:∀a o,(a,o) ∈ aj.flatMap (dg h)->h.get? a=aa o:=λa o he=>by
  obtain⟨d,hd,he⟩:=Yw.mp he;obtain⟨f,E,U,kV,b,B,L,c,ct,O,Y,y,X,J,t,r,Q,g1,g,j,u⟩:=Ai (D d hd);unfold dg at he;rw[g1] at he;exact Ah he
 have T:∀a o,(a,o) ∈ aj.flatMap (dg h)->(aj.flatMap (dg h)).lookup a=aa o:=λa o he=>by
  obtain⟨o',q⟩:=Ag he;have z:=I a o' (lZ q);rw[I a o he] at z;cases z;exact q
 refine⟨⟨_,N⟩,aj.flatMap (dg h),λa o q=>I a o (lZ q),λa o q its n hs=>?_,λmg G=>?_⟩
 ·obtain⟨d,hd,he⟩:=Yw.mp (lZ q);obtain⟨f,E,U,kV,b,B,L,c,ct,O,Y,y,X,J,t,r,Q,g1,g,j,u⟩:=Ai (D d hd);unfold dg at he;rw[g1] at he;dsimp only at he;unfold nY at he;rw[g] at he;dsimp only at he;rw[j] at he;dsimp only at he;rcases Zk.mp he with z |he
  ·cases z;cases hs
  ·rcases Zk.mp he with z |he
   ·cases z;cases hs
   ·cases he
 ·have p:=Iv G;refine⟨λi x v hi=>?_,λx Z=>?_,λi d hi=>?_⟩
  ·have z:=Xk.mp e2 (x,v) (Ze hi);unfold xL at z;rw[p] at z;dsimp only at z;split at z
   ·rename_i v' t hv;cases z;exact⟨t,hv⟩
   ·cases z
  ·have z:=Xk.mp e3 x Z;rw[p] at z
   simpa using z
  ·have hd:=Ze hi;obtain⟨f,E,U,kV,b,B,L,c,ct,O,Y,y,X,J,t,r,Q,g1,g,j,u⟩:=Ai (D d hd)
   have m1:(f,_) ∈ aj.flatMap (dg h):=Yw.mpr ⟨d,hd,by
    show _ ∈ dg h d;unfold dg;rw[g1];dsimp only;unfold nY;rw[g];exact Zj⟩
   have m2:(c,_) ∈ aj.flatMap (dg h):=Yw.mpr ⟨d,hd,by
    show _ ∈ dg h d;unfold dg;rw[g1];dsimp only;unfold nY;rw[g];dsimp only;rw[j];exact Zm _ Zj⟩
   have l1:=T _ _ m1;have l2:=T _ _ m2;have kp:W3 (aj.flatMap (dg h)) (.ref f)=aT:=by unfold W3;dsimp only;rw[l1]
   have C:WY (aj.flatMap (dg h)) (.ref c) d.x=aT:=by
    unfold WY;dsimp only;rw[l2];dsimp only;rw[u];simp
   have F:=G2 (st:=d.st) (x:=d.x) (qual:=d.x) l1 C kp;refine⟨f,_,by rw[<-p];exact g1,kp,F.binds (hb.at hd),F⟩
def tZ{con:List (Str × Int)}{aj:List DefE}{h h':Heap}(x:Says con aj h)(k:∀b o,h.get? b=aa o->h'.get? b=aa o):Says con aj h':=by
 obtain⟨⟨m,N⟩,K,p,ns,T⟩:=x
 have B:∀mg,h'.Ns Vz mg->h.Ns Vz mg:=λmg ⟨o,g,E,f,r⟩=>by
  obtain⟨O,n,j,c,u⟩:=N;have z:=k _ _ c;rw[f] at z;cases z;exact⟨o,g,E,c,r⟩
 refine⟨⟨m,let ⟨o,g,E,f,r⟩:=N;⟨o,g,E,k _ _ f,r⟩⟩,K,λa o q=>k _ _ (p a o q),ns,λmg G=>T mg (B mg G)⟩
abbrev pG(con:List (Str × Int))(aj:List DefE)(hb:xl aj):PySem.W.Hook:=
 ⟨Af,λs=>xk con aj s.heap,λ_=>re con aj,λ_ h=>Says con aj h,λ_ _ e=>Dj hb e,λ_ _ _ x k=>tZ x k⟩
def l4{K:WW}{m:List Addr}{H:Hp}:∀ns:List Int,VDs K m H (ns.map D.int) (ns.map V.int)
 |[]=>by rw[Ym,Ym,VDs]
 |a::l=>by rw[Zx,Zx,VDs];exact⟨_,_,rfl,bt,l4 l⟩
def Dk{l:PySem.W.OpenLaw}{n k i:Nat}{q:Program}{loose:List Str}{XP:(Str->Option Value)->Heap->Prop}{d:DefRec}{con:List (Str × Int)}{aj:List DefE}{hb:xl aj}{dl:DefE}{x:Str}
  (hn:l.most=aa n) (Q:n<=sizeLine) (U:d.params.defaults=[]) (hr:Room k callerA) (hx:d.name=dl.x) (hi:aj[i]?=aa dl) (h:dl.ps=[x]) (hc:aj.all (Dh (u0 con aj))=aT)
  (main:∀ns:List Int,ns.length<=n->∃I,evC aj k i [.ref 0] [.frz (ns.map D.int)]=aa (.bl aT,I)) :
  PySem.W.WalkO q loose XP (pG con aj hb).says l.row.toRowW d [] (λf vs=>PySem.call f vs):=by
 refine Att.attach_call hn U λw s₀ p mg mb fa o pm cd C a vs ns G Y ho hd E g B c b hg=>?_;obtain⟨_,K,KX,L,T⟩:=(show Says con aj p.heap from Y);have T:=T mg G.T.g;obtain⟨f,fd,Z,kp,_,F⟩:=T.fn i dl hi;rw[hx] at g;rw[g] at Z;cases Z
 have bd:∀ (s:Shared) (u:Value),BindsTo s fd ⟨[u],[]⟩ [(x,u)]:=λs u=>by
  obtain⟨oc,od,kV,C,pm,an,O,ct,osl,rfl,lk,E⟩:=F.ex;have z:=(hb.at (Ze hi)) kV C pm an O ct [u] (by rw[h];rfl);rw[h] at z;exact .of_eq z
 refine yq (CX:=CX0) (sp:=spC K (evC aj k i) dl.ps.length) KX G.T.g G.T.b G.T.builtins G.T.nolimit hg B c (ZH b Q) hr (λbase _ _=>by
  have:=vf (P:=l.row.toRowW.prog) (w:=w) (base:=base) T hc k i dl hi fa fd g F;rw[h] at this ⊢;exact this) bd (λH hO hS=>?_) λH e s' z=>z
 have J:∃o,H a=aa (.frz o (.lst (ns.map V.int))):=by
  rcases hS with (z |⟨o,z⟩) |⟨o,its,n',hk,hc,hdd,hdt,_⟩
  ·rcases hO a with y |⟨o',xs,y⟩
   ·rw[y] at z;cases z
   ·rw[y] at z;cases z
  ·exact⟨o,z⟩
  ·exact absurd hdt (L a o hk its n')
 obtain⟨o,J⟩:=J;obtain⟨I,e⟩:=main ns b;refine⟨[a],[.ref 0],[.frz (ns.map D.int)],.bl aT,I,?_,⟨rfl,by simp,λj ob X=>?_⟩,by rw[h];rfl,e,λm' H' v A vv=>vv.bls⟩
 ·rw[VDs];exact⟨_,_,rfl,by rw[VD];exact⟨a,rfl,rfl⟩,by rw[VDs]⟩
 ·cases j with
  |zero=>cases X;exact⟨a,rfl,o,_,J,l4 ns⟩
  |succ j=>simp at X
end Ev
namespace Lw
open PySem Ev
abbrev l5:List CS:=[.ret (.and (.inst .int (.var 0)) (.not (.inst .bool (.var 0))))]
abbrev jQ:List CS:=[.ret (.and (.call 0 [.var 0]) (.chn .le .le (.var 1) (.var 0) (.var 2)))]
abbrev jR:List CS:=[.ret (.call 1 [.var 0,.int 0,.con 0 9999])]
abbrev l9:List CS:=[.ret (.and (.inst .tuple (.var 0)) (.chn .le .le (.var 1) (.len (.var 0)) (.var 2)))]
abbrev iT:List CS:=[.ifs (.or (.not (.call 3 [.var 0,.int 0,.var 1])) (.not (.all (.comp ["number"] (.call 1 [.var 2,.int 0,.bin .sub (.var 1) (.int 1)]) [⟨.name 2,.val (.var 0),aD⟩])))) [.ret (.bl aW)] [],.ret (.all (.comp ["number"] (.cmp .eq (.cnt (.var 0) (.var 2)) (.int 1)) [⟨.name 2,.val (.var 0),aD⟩]))]
abbrev jS:List CS:=[.ifs (.not (.call 3 [.var 0,.int 4,.int 4])) [.ret (.bl aW)] [],.asg (.tup [.name 1,.name 2,.name 3,.name 4]) (.var 0),.ret (.and (.call 1 [.var 1,.int 0,.con 1 8]) (.and (.call 1 [.var 2,.int 0,.con 2 60]) (.and (.call 6 [.var 3]) (.call 9 [.var 4]))))]
abbrev ma:List CS:=[.ifs (.not (.call 3 [.var 0,.int 1,.con 3 4])) [.ret (.bl aW)] [],.ret (.and (.all (.comp ["row"] (.call 7 [.var 1,.len (.var 0)]) [⟨.name 1,.val (.var 0),aD⟩])) (.call 8 [.var 0]))]
abbrev iU:List CS:=[.ret (.and (.call 3 [.var 0,.var 1,.var 1]) (.all (.comp ["gap"] (.call 1 [.var 2,.int 1,.con 4 99]) [⟨.name 2,.val (.var 0),aD⟩])))]
abbrev bC:List CS:=[.asg (.name 1) (.listR (.len (.var 0))),.ret (.all (.comp ["a", "b", "c"] (.cmp .le (.ix (.ix (.var 0) (.var 2)) (.var 3)) (.bin .add (.ix (.ix (.var 0) (.var 2)) (.var 4)) (.ix (.ix (.var 0) (.var 4)) (.var 3)))) [⟨.name 2,.val (.var 1),aD⟩,⟨.name 3,.val (.var 1),aD⟩,⟨.name 4,.val (.var 1),aD⟩]))]
abbrev jT:List CS:=[.ifs (.or (.not (.call 3 [.var 0,.int 0,.con 5 4])) (.not (.all (.comp ["part"] (.call 10 [.var 1]) [⟨.name 1,.val (.var 0),aD⟩])))) [.ret (.bl aW)] [],.ret (.all (.comp ["at"] (.cmp .gt (.ix (.ix (.var 0) (.var 1)) (.int 0)) (.ix (.ix (.var 0) (.bin .sub (.var 1) (.int 1))) (.int 1))) [⟨.name 1,.r2 (.int 1) (.len (.var 0)),aD⟩]))]
abbrev iV:List CS:=[.ret (.and (.call 3 [.var 0,.int 2,.int 2]) (.and (.call 2 [.ix (.var 0) (.int 0)]) (.and (.call 2 [.ix (.var 0) (.int 1)]) (.cmp .lt (.ix (.var 0) (.int 0)) (.ix (.var 0) (.int 1))))))]
abbrev nZ:List CS:=[.ret (.call 1 [.var 1,.int 0,.bin .sub (.len (.ix (.var 0) (.int 2))) (.int 1)])]
abbrev n4:List CS:=[.ret (.any (.comp ["begin", "end"] (.chn .le .lt (.var 2) (.var 1) (.var 3)) [⟨.tup [.name 2,.name 3],.val (.ix (.var 0) (.int 3)),aD⟩]))]
abbrev rf:List CS:=[.ifs (.not (.call 3 [.var 0,.int 4,.int 4])) [.ret (.bl aW)] [],.asg (.tup [.name 1,.name 2,.name 3,.name 4]) (.var 0),.ret (.and (.call 5 [.var 1]) (.and (.call 14 [.var 1,.var 2]) (.and (.call 15 [.var 1,.var 3]) (.call 17 [.var 3,.var 4]))))]
abbrev md:List CS:=[.ifs (.cmp .is (.var 1) .non) [.ret (.bl aT)] [],.ret (.and (.call 3 [.var 1,.int 2,.int 2]) (.and (.call 11 [.var 0,.ix (.var 1) (.int 0)]) (.call 2 [.ix (.var 1) (.int 1)])))]
abbrev gN:List CS:=[.ret (.and (.call 3 [.var 1,.int 0,.con 6 7]) (.all (.comp ["part"] (.call 16 [.var 0,.var 2]) [⟨.name 2,.val (.var 1),aD⟩])))]
abbrev jU:List CS:=[.ifs (.not (.call 3 [.var 1,.int 7,.int 7])) [.ret (.bl aW)] [],.asg (.tup [.name 2,.name 3,.name 4,.name 5,.name 6,.name 7,.name 8]) (.var 1),.ifs (.not (.all (.comp ["minute"] (.call 2 [.var 9]) [⟨.name 9,.val (.tup [.var 3,.var 4,.var 5,.var 6]),aD⟩]))) [.ret (.bl aW)] [],.ifs (.not (.chn .le .le (.bin .add (.var 3) (.ix (.var 0) (.int 1))) (.var 4) (.var 5))) [.ret (.bl aW)] [],.ret (.and (.call 11 [.var 0,.var 2]) (.and (.call 1 [.var 7,.int 0,.con 7 99]) (.call 1 [.var 8,.int 0,.ix (.var 0) (.int 0)])))]
abbrev jV:List CS:=[.ifs (.not (.call 4 [.var 1,.len (.var 0)])) [.ret (.bl aW)] [],.ret (.all (.comp ["number", "glider"] (.or (.cmp .eq (.ix (.var 3) (.int 6)) (.int 0)) (.cmp .isin (.var 2) (.var 1))) [⟨.tup [.name 2,.name 3],.en (.var 0),aD⟩]))]
abbrev jW:List CS:=[.ifs (.not (.call 13 [.var 0])) [.never] []]
abbrev gO:List CS:=[.ex (.call 18 [.var 0]),.ifs (.not (.call 20 [.var 0,.var 1])) [.never] []]
abbrev jX:List CS:=[.ret (.and (.call 21 [.var 1]) (.cmp .is (.call 23 [.var 0,.var 1]) .non))]
abbrev jY:List CS:=[.ifs (.or (.not (.inst .list (.var 0))) (.cmp .gt (.len (.var 0)) (.con 8 20))) [.ret (.bl aW)] [],.ret (.all (.comp ["part"] (.call 22 [.var 1]) [⟨.name 1,.val (.var 0),aD⟩]))]
abbrev n8:List CS:=[.ret (.and (.call 3 [.var 0,.int 2,.int 2]) (.and (.call 0 [.ix (.var 0) (.int 0)]) (.call 0 [.ix (.var 0) (.int 1)])))]
abbrev gP:List CS:=[.for_ (.name 2) (.r1 (.len (.var 1))) [.asg (.name 3) (.call 24 [.var 0,.var 1,.var 2]),.ifs (.cmp .isnot (.var 3) .non) [.ret (.tup [.var 3,.ix (.ix (.var 1) (.var 2)) (.int 0)])] []],.asg (.name 4) (.call 28 [.var 0,.var 1]),.ifs (.cmp .isnot (.var 4) .non) [.ret (.tup [.str "lacks", .var 4])] [],.asg (.name 5) (.call 32 [.var 0,.var 1]),.ifs (.cmp .isnot (.var 5) .non) [.ret (.tup [.str "rings", .var 5])] [],.asg (.name 6) (.call 33 [.var 0,.var 1]),.ifs (.cmp .isnot (.var 6) .non) [.ret (.tup [.str "ring", .var 6])] [],.ret .non]
abbrev ft:List CS:=[.asg (.tup [.name 3,.name 4,.name 5,.name 6]) (.var 0),.asg (.name 7) (.ix (.ix (.var 1) (.var 2)) (.int 0)),.ifs (.not (.chn .le .lt (.int 0) (.var 7) (.len (.var 5)))) [.ret (.str "none")] [],.ifs (.cmp .isin (.var 7) (.comp ["other", "minute"] (.var 8) [⟨.tup [.name 8,.name 9],.val (.sl (.var 1) aD (aa (.var 2))),aD⟩])) [.ret (.str "twice")] [],.ifs (.and (.cmp .lt (.var 2) (.len (.var 6))) (.cmp .ne (.var 7) (.ix (.var 6) (.var 2)))) [.ret (.str "order")] [],.ret (.call 25 [.var 0,.var 1,.var 2])]
abbrev fM:List CS:=[.asg (.tup [.name 3,.name 4,.name 5,.name 6]) (.var 0),.asg (.tup [.name 7,.name 8]) (.ix (.var 1) (.var 2)),.asg (.tup [.name 9,.name 10,.name 11,.name 12,.name 13,.name 14,.name 15]) (.ix (.var 5) (.var 7)),.ifs (.cmp .lt (.var 8) (.var 11)) [.ret (.str "soon")] [],.ifs (.cmp .gt (.var 8) (.var 12)) [.ret (.str "late")] [],.ifs (.call 12 [.var 3,.var 8]) [.ret (.str "shut")] [],.ifs (.cmp .lt (.var 8) (.call 27 [.var 0,.call 26 [.var 0,.sl (.var 1) aD (aa (.var 2))],.var 9])) [.ret (.str "gap")] [],.ret .non]
abbrev fu:List CS:=[.ifs (.not (.var 1)) [.ret (.ix (.var 0) (.int 1))] [],.asg (.tup [.name 2,.name 3]) (.ix (.var 1) (.neg (.int 1))),.ret (.tup [.ix (.ix (.ix (.var 0) (.int 2)) (.var 2)) (.int 0),.var 3])]
abbrev oe:List CS:=[.ifs (.cmp .is (.var 1) .non) [.ret (.int 0)] [],.ret (.bin .add (.ix (.var 1) (.int 1)) (.ix (.ix (.ix (.ix (.var 0) (.int 0)) (.int 2)) (.ix (.var 1) (.int 0))) (.var 2)))]
abbrev fv:List CS:=[.asg (.name 2) (.comp ["glider", "minute"] (.var 4) [⟨.tup [.name 4,.name 5],.val (.var 1),aD⟩]),.for_ (.name 3) (.r1 (.len (.ix (.var 0) (.int 2)))) [.ifs (.cmp .notin (.var 3) (.var 2)) [.ret (.var 3)] []],.ret .non]
abbrev mf:List CS:=[.asg (.tup [.name 3,.name 4]) (.var 1),.ret (.chn .le .lt (.ix (.ix (.ix (.var 0) (.int 2)) (.var 3)) (.int 1)) (.var 2) (.bin .sub (.var 4) (.ix (.ix (.var 0) (.int 0)) (.int 1))))]
abbrev fw:List CS:=[.ret (.len (.comp ["landing"] (.var 3) [⟨.name 3,.val (.var 1),aa (.call 29 [.var 0,.var 3,.var 2])⟩]))]
abbrev dh:List CS:=[.ret (.srt (.comp ["glider"] (.ix (.var 1) (.int 1)) [⟨.name 1,.val (.ix (.var 0) (.int 2)),aD⟩]))]
abbrev fA:List CS:=[.for_ (.name 2) (.val (.call 31 [.var 0])) [.ifs (.cmp .gt (.call 30 [.var 0,.var 1,.var 2]) (.ix (.ix (.var 0) (.int 0)) (.int 0))) [.ret (.var 2)] []],.ret .non]
abbrev eB:List CS:=[.for_ (.tup [.name 2,.name 3]) (.en (.var 1)) [.ifs (.call 34 [.var 0,.var 1,.var 2]) [.ret (.ix (.var 3) (.int 0))] []],.ret .non]
abbrev gQ:List CS:=[.asg (.tup [.name 3,.name 4,.name 5,.name 6,.name 7,.name 8,.name 9]) (.ix (.ix (.var 0) (.int 2)) (.ix (.ix (.var 1) (.var 2)) (.int 0))),.ret (.and (.cmp .gt (.var 9) (.int 0)) (.and (.call 29 [.var 0,.ix (.var 1) (.var 2),.var 4]) (.cmp .gt (.call 35 [.var 0,.var 1,.var 2,.var 4]) (.var 9))))]
abbrev gR:List CS:=[.asg (.name 4) (.sl (.var 1) aD (aa (.var 2))),.asg (.name 5) (.comp ["when"] (.var 6) [⟨.name 6,.val (.call 31 [.var 0]),aa (.and (.cmp .gt (.var 6) (.var 3)) (.call 29 [.var 0,.ix (.var 1) (.var 2),.var 6]))⟩]),.ret (.mxL (.comp ["when"] (.bin .add (.int 1) (.call 30 [.var 0,.var 4,.var 6])) [⟨.name 6,.val (.bin .add (.lst [.var 3]) (.var 5)),aD⟩]))]
abbrev Aj:List CS:=[.ex (.call 19 [.var 0,.var 1]),.dcs 2 ["place", "landing"] (.ix (.var 4) (.int 0)) (.var 3) (.tup [.name 3,.name 4]) (.en (.var 1)),.ret (.comp ["number"] (.call 40 [.var 0,.var 1,.ix (.var 2) (.var 3)]) [⟨.name 3,.r1 (.len (.ix (.var 0) (.int 2))),aD⟩])]
abbrev iW:List CS:=[.ex (.call 19 [.var 0,.var 1]),.ifs (.or (.not (.inst .list (.var 2))) (.cmp .ne (.len (.var 2)) (.len (.ix (.var 0) (.int 2))))) [.ret (.bl aW)] [],.ifs (.not (.all (.comp ["landing"] (.call 42 [.var 0,.var 4,.ix (.var 2) (.ix (.var 4) (.int 0))]) [⟨.name 4,.val (.var 1),aD⟩]))) [.ret (.bl aW)] [],.asg (.name 3) (.comp ["at", "later", "sooner"] (.tup [.var 6,.var 5]) [⟨.tup [.name 4,.name 5],.en (.var 1),aD⟩,⟨.name 6,.val (.sl (.var 1) aD (aa (.var 4))),aD⟩]),.ret (.all (.comp ["sooner", "later"] (.call 45 [.var 0,.var 2,.var 4,.var 5]) [⟨.tup [.name 4,.name 5],.val (.var 3),aD⟩]))]
abbrev og:List CS:=[.ex (.call 19 [.var 0,.var 1]),.ret (.comp ["number", "ring"] (.var 3) [⟨.tup [.name 3,.name 4],.val (.call 39 [.var 0,.var 1,.var 2]),aD⟩])]
abbrev mh:List CS:=[.asg (.name 3) (.comp ["place", "landing"] (.var 4) [⟨.tup [.name 4,.name 5],.en (.var 1),aa (.call 29 [.var 0,.var 5,.var 2])⟩]),.ret (.comp ["place"] (.tup [.ix (.ix (.var 1) (.var 4)) (.int 0),.call 35 [.var 0,.var 1,.var 4,.var 2]]) [⟨.name 4,.val (.var 3),aD⟩])]
abbrev iX:List CS:=[.asg (.name 3) (.lst []),.for_ (.name 4) (.val (.call 41 [.var 0,.var 1,.var 2])) [.asg (.name 5) (.call 35 [.var 0,.var 1,.var 2,.var 4]),.ifs (.or (.not (.var 3)) (.cmp .lt (.var 5) (.ix (.ix (.var 3) (.neg (.int 1))) (.int 1)))) [.ex (.app (.var 3) (.tup [.var 4,.var 5]))] []],.ret (.var 3)]
abbrev cN:List CS:=[.asg (.name 3) (.ix (.ix (.ix (.var 0) (.int 2)) (.ix (.ix (.var 1) (.var 2)) (.int 0))) (.int 1)),.asg (.name 4) (.comp ["number", "minute"] (.bin .sub (.var 6) (.ix (.ix (.var 0) (.int 0)) (.int 1))) [⟨.tup [.name 5,.name 6],.val (.sl (.var 1) aD (aa (.var 2))),aD⟩]),.ret (.comp ["minute"] (.var 5) [⟨.name 5,.val (.bin .add (.lst [.var 3]) (.var 4)),aa (.call 29 [.var 0,.ix (.var 1) (.var 2),.var 5])⟩])]
abbrev jZ:List CS:=[.ifs (.or (.not (.inst .list (.var 2))) (.not (.all (.comp ["step"] (.call 22 [.var 4]) [⟨.name 4,.val (.var 2),aD⟩])))) [.ret (.bl aW)] [],.asg (.name 3) (.ix (.ix (.ix (.var 0) (.int 2)) (.ix (.var 1) (.int 0))) (.int 1)),.ifs (.not (.call 29 [.var 0,.var 1,.var 3])) [.ret (.not (.var 2))] [],.ifs (.or (.not (.var 2)) (.or (.cmp .ne (.ix (.ix (.var 2) (.int 0)) (.int 0)) (.var 3)) (.not (.call 29 [.var 0,.var 1,.ix (.ix (.var 2) (.neg (.int 1))) (.int 0)])))) [.ret (.bl aW)] [],.ifs (.or (.cmp .gt (.ix (.ix (.var 2) (.int 0)) (.int 1)) (.call 44 [.var 0,.ix (.var 1) (.int 0)])) (.cmp .ne (.ix (.ix (.var 2) (.neg (.int 1))) (.int 1)) (.int 1))) [.ret (.bl aW)] [],.ret (.all (.comp ["at"] (.call 43 [.ix (.var 2) (.bin .sub (.var 4) (.int 1)),.ix (.var 2) (.var 4)]) [⟨.name 4,.r2 (.int 1) (.len (.var 2)),aD⟩]))]
abbrev j3:List CS:=[.ret (.and (.cmp .lt (.ix (.var 0) (.int 0)) (.ix (.var 1) (.int 0))) (.cmp .gt (.ix (.var 0) (.int 1)) (.ix (.var 1) (.int 1))))]
abbrev fN:List CS:=[.asg (.name 2) (.ix (.ix (.ix (.var 0) (.int 2)) (.var 1)) (.int 6)),.ret (.ite (.cmp .gt (.var 2) (.int 0)) (.var 2) (.ix (.ix (.var 0) (.int 0)) (.int 0)))]
abbrev gS:List CS:=[.asg (.tup [.name 4,.name 5]) (.tup [.ix (.var 1) (.ix (.var 2) (.int 0)),.ix (.var 1) (.ix (.var 3) (.int 0))]),.asg (.name 6) (.comp ["minute", "ring"] (.var 8) [⟨.tup [.name 8,.name 9],.val (.bin .add (.var 4) (.var 5)),aD⟩]),.asg (.name 7) (.comp ["minute"] (.var 8) [⟨.name 8,.val (.var 6),aa (.and (.call 29 [.var 0,.var 2,.var 8]) (.call 29 [.var 0,.var 3,.var 8]))⟩]),.ret (.all (.comp ["minute"] (.cmp .lt (.call 46 [.var 4,.var 8]) (.call 46 [.var 5,.var 8])) [⟨.name 8,.val (.var 7),aD⟩]))]
abbrev j4:List CS:=[.ret (.ix (.comp ["when", "ring"] (.var 3) [⟨.tup [.name 2,.name 3],.val (.var 0),aa (.cmp .le (.var 2) (.var 1))⟩]) (.neg (.int 1)))]
abbrev gU:List CS:=[.ifs (.cmp .lt (.var 1) (.len (.var 0))) [.ret (.ix (.var 0) (.var 1))] [],.ret (.int 0)]
abbrev oh:List CS:=[.ifs (.cmp .ge (.var 0) (.bin .pow (.int 10) (.int 18))) [.ret (.lst [.bin .sub (.var 0) (.bin .pow (.int 10) (.int 18))])] [],.asg (.name 1) (.int 0),.for_ (.name 2) (.r1 (.int 64)) [.asg (.name 3) (.bin .mod (.bin .mul (.bin .add (.bin .add (.bin .mod (.var 0) (.int 2147483629)) (.bin .mul (.int 7919) (.var 2))) (.int 1)) (.int 48271)) (.int 2147483647)),.asg (.name 3) (.bin .mod (.bin .add (.bin .add (.bin .mul (.var 3) (.var 3)) (.bin .mul (.int 69621) (.var 2))) (.int 7)) (.int 2147483587)),.asg (.name 1) (.bin .add (.bin .mul (.var 1) (.int 2147483587)) (.var 3))],.ret (.lst [.var 1])]
abbrev mi:List CS:=[.asg (.name 2) (.bin .mod (.ix (.var 0) (.int 0)) (.var 1)),.setI (.bin .fdiv (.ix (.var 0) (.int 0)) (.var 1)) (.var 0) (.int 0),.ret (.var 2)]
abbrev j5:List CS:=[.ret (.and (.inst .int (.var 0)) (.not (.inst .bool (.var 0))))]
abbrev cO:List CS:=[.asg (.name 1) (.bin .add (.int 1) (.call 49 [.var 0,.int 4])),.asg (.name 2) (.comp ["_law_a"] (.comp ["_law_b"] (.bin .add (.int 1) (.call 49 [.var 0,.int 9])) [⟨.name 5,.r1 (.var 1),aD⟩]) [⟨.name 4,.r1 (.var 1),aD⟩]),.ifs (.cmp .eq (.call 49 [.var 0,.int 8]) (.int 0)) [.asg (.name 2) (.comp ["_law_row"] (.comp ["_law_gap"] (.bin .sub (.int 99) (.call 49 [.var 0,.int 3])) [⟨.name 5,.val (.var 4),aD⟩]) [⟨.name 4,.val (.var 2),aD⟩])] [],.for_ (.name 3) (.r1 (.var 1)) [.asg (.name 2) (.comp ["_law_row"] (.comp ["_law_b", "_law_gap"] (.mn (.var 6) (.bin .add (.ix (.var 4) (.var 3)) (.ix (.ix (.var 2) (.var 3)) (.var 5)))) [⟨.tup [.name 5,.name 6],.en (.var 4),aD⟩]) [⟨.name 4,.val (.var 2),aD⟩])],.ret (.tupOf (.comp ["_law_row"] (.tupOf (.var 4)) [⟨.name 4,.val (.var 2),aD⟩]))]
abbrev j6:List CS:=[.asg (.tup [.name 2,.name 3]) (.tup [.lst [],.var 1]),.for_ (.name 4) (.r1 (.ix (.lst [.int 0,.int 1,.int 2,.int 3,.int 4]) (.call 49 [.var 0,.int 5]))) [.asg (.name 3) (.bin .add (.bin .add (.var 3) (.int 1)) (.call 49 [.var 0,.int 14])),.ex (.app (.var 2) (.tup [.var 3,.bin .add (.bin .add (.var 3) (.int 1)) (.call 49 [.var 0,.int 6])])),.asg (.name 3) (.ix (.ix (.var 2) (.neg (.int 1))) (.int 1))],.ret (.tupOf (.var 2))]
abbrev iY:List CS:=[.asg (.name 1) (.ix (.lst [.int 2,.int 1,.int 3,.int 8,.int 0]) (.call 49 [.var 0,.int 5])),.ret (.tup [.var 1,.ix (.lst [.int 2,.int 0,.int 1,.int 5,.int 60]) (.call 49 [.var 0,.int 5]),.call 51 [.var 0],.call 52 [.var 0,.int 0]])]
abbrev iZ:List CS:=[.asg (.name 2) (.call 49 [.var 0,.int 40]),.asg (.name 3) (.bin .add (.bin .add (.var 2) (.ix (.var 1) (.int 1))) (.ix (.lst [.int 0,.int 0,.call 49 [.var 0,.int 9]]) (.call 49 [.var 0,.int 3]))),.asg (.name 4) (.bin .add (.var 3) (.ix (.lst [.call 49 [.var 0,.int 5],.bin .add (.int 5) (.call 49 [.var 0,.int 20]),.int 60,.int 200]) (.call 49 [.var 0,.int 4]))),.asg (.name 5) (.ix (.lst [.var 3,.bin .add (.var 2) (.call 49 [.var 0,.int 30]),.call 49 [.var 0,.int 90]]) (.call 49 [.var 0,.int 3])),.ret (.tup [.call 49 [.var 0,.len (.ix (.var 1) (.int 2))],.var 2,.var 3,.var 4,.var 5,.call 49 [.var 0,.int 10],.int 0])]
abbrev j7:List CS:=[.asg (.name 2) (.listOf (.var 1)),.ret (.comp ["_law_one"] (.popAt (.var 2) (.call 49 [.var 0,.len (.var 2)])) [⟨.name 3,.val (.var 1),aD⟩])]
abbrev jz:List CS:=[.asg (.name 2) (.call 53 [.var 0]),.asg (.name 3) (.comp ["_law_g"] (.call 54 [.var 0,.var 2]) [⟨.name 8,.r1 (.call 49 [.var 0,.bin .add (.var 1) (.int 1)]),aD⟩]),.asg (.name 4) (.listR (.len (.var 3))),.ifs (.cmp .eq (.call 49 [.var 0,.int 2]) (.int 0)) [.asg (.name 4) (.comp ["_law_pair"] (.ix (.var 8) (.int 1)) [⟨.name 8,.val (.srt (.comp ["_law_g", "_law_glider_here"] (.tup [.ix (.var 9) (.int 2),.var 8]) [⟨.tup [.name 8,.name 9],.en (.var 3),aD⟩])),aD⟩])] [.asg (.name 4) (.call 55 [.var 0,.var 4])],.asg (.name 5) (.sl (.var 4) aD (aa (.ix (.lst [.int 0,.int 1,.int 2,.int 3]) (.call 49 [.var 0,.int 4])))),.for_ (.name 6) (.val (.var 5)) [.ifs (.and (.cmp .eq (.call 49 [.var 0,.int 2]) (.int 0)) (.cmp .gt (.ix (.var 2) (.int 0)) (.int 0))) [.setI (.bin .add (.sl (.ix (.var 3) (.var 6)) aD (aa (.int 6))) (.tup [.bin .add (.int 1) (.call 49 [.var 0,.ix (.var 2) (.int 0)])])) (.var 3) (.var 6)] []],.asg (.name 7) .non,.ifs (.cmp .eq (.call 49 [.var 0,.int 2]) (.int 0)) [.asg (.name 7) (.tup [.call 49 [.var 0,.len (.ix (.var 2) (.int 2))],.call 49 [.var 0,.int 20]])] [],.ret (.tup [.var 2,.var 7,.tupOf (.var 3),.tupOf (.var 5)])]
abbrev j8:List CS:=[.ret (.bin .add (.ix (.var 1) (.int 3)) (.tupOf (.call 55 [.var 0,.comp ["_law_g"] (.var 2) [⟨.name 2,.r1 (.len (.ix (.var 1) (.int 2))),aa (.cmp .notin (.var 2) (.ix (.var 1) (.int 3)))⟩]])))]
abbrev mj:List CS:=[.asg (.name 2) (.var 1),.for_ (.name 3) (.r1 (.bin .add (.len (.var 0)) (.int 1))) [.for_ (.tup [.name 4,.name 5]) (.val (.var 0)) [.ifs (.chn .le .lt (.var 4) (.var 2) (.var 5)) [.asg (.name 2) (.var 5)] []]],.ret (.var 2)]
abbrev oi:List CS:=[.asg (.tup [.name 2,.name 3]) (.tup [.lst [],.ix (.var 0) (.int 1)]),.for_ (.name 4) (.val (.var 1)) [.asg (.name 5) (.ix (.ix (.ix (.var 0) (.int 2)) (.var 4)) (.int 2)),.ifs (.cmp .isnot (.var 3) .non) [.asg (.name 5) (.mx (.var 5) (.bin .add (.ix (.var 3) (.int 1)) (.ix (.ix (.ix (.ix (.var 0) (.int 0)) (.int 2)) (.ix (.var 3) (.int 0))) (.ix (.ix (.ix (.var 0) (.int 2)) (.var 4)) (.int 0)))))] [],.asg (.name 5) (.call 58 [.ix (.ix (.var 0) (.int 0)) (.int 3),.var 5]),.ex (.app (.var 2) (.tup [.var 4,.var 5])),.asg (.name 3) (.tup [.ix (.ix (.ix (.var 0) (.int 2)) (.var 4)) (.int 0),.var 5])],.ret (.var 2)]
abbrev j9:List CS:=[.ret (.chn .le .lt (.ix (.ix (.ix (.var 0) (.int 2)) (.ix (.var 1) (.int 0))) (.int 1)) (.var 2) (.bin .sub (.ix (.var 1) (.int 1)) (.ix (.ix (.var 0) (.int 0)) (.int 1))))]
abbrev ml:List CS:=[.asg (.name 4) (.int 0),.for_ (.name 5) (.r2 (.var 3) (.bin .sub (.ix (.ix (.var 1) (.var 2)) (.int 1)) (.ix (.ix (.var 0) (.int 0)) (.int 1)))) [.asg (.name 4) (.mx (.var 4) (.bin .add (.int 1) (.len (.comp ["_law_one"] (.var 6) [⟨.name 6,.val (.sl (.var 1) aD (aa (.var 2))),aa (.call 60 [.var 0,.var 6,.var 5])⟩]))))],.ret (.var 4)]
abbrev bj:List CS:=[.asg (.tup [.name 3,.name 4]) (.ix (.var 1) (.var 2)),.ifs (.not (.chn .le .lt (.int 0) (.var 3) (.len (.ix (.var 0) (.int 2))))) [.ret (.tup [.str "none", .var 3])] [],.ifs (.cmp .isin (.var 3) (.comp ["_law_one"] (.ix (.var 6) (.int 0)) [⟨.name 6,.val (.sl (.var 1) aD (aa (.var 2))),aD⟩])) [.ret (.tup [.str "twice", .var 3])] [],.ifs (.and (.cmp .lt (.var 2) (.len (.ix (.var 0) (.int 3)))) (.cmp .ne (.ix (.ix (.var 0) (.int 3)) (.var 2)) (.var 3))) [.ret (.tup [.str "order", .var 3])] [],.ifs (.cmp .lt (.var 4) (.ix (.ix (.ix (.var 0) (.int 2)) (.var 3)) (.int 2))) [.ret (.tup [.str "soon", .var 3])] [],.ifs (.cmp .gt (.var 4) (.ix (.ix (.ix (.var 0) (.int 2)) (.var 3)) (.int 3))) [.ret (.tup [.str "late", .var 3])] [],.ifs (.cmp .ne (.comp ["_law_begin", "_law_end"] (.var 6) [⟨.tup [.name 6,.name 7],.val (.ix (.ix (.var 0) (.int 0)) (.int 3)),aa (.chn .le .lt (.var 6) (.var 4) (.var 7))⟩]) (.lst [])) [.ret (.tup [.str "shut", .var 3])] [],.asg (.name 5) (.ix (.var 0) (.int 1)),.ifs (.cmp .gt (.var 2) (.int 0)) [.asg (.name 5) (.tup [.ix (.ix (.ix (.var 0) (.int 2)) (.ix (.ix (.var 1) (.bin .sub (.var 2) (.int 1))) (.int 0))) (.int 0),.ix (.ix (.var 1) (.bin .sub (.var 2) (.int 1))) (.int 1)])] [],.ifs (.and (.cmp .isnot (.var 5) .non) (.cmp .lt (.var 4) (.bin .add (.ix (.var 5) (.int 1)) (.ix (.ix (.ix (.ix (.var 0) (.int 0)) (.int 2)) (.ix (.var 5) (.int 0))) (.ix (.ix (.ix (.var 0) (.int 2)) (.var 3)) (.int 0)))))) [.ret (.tup [.str "gap", .var 3])] [],.ret .non]
abbrev kc:List CS:=[.for_ (.name 2) (.r1 (.len (.var 1))) [.asg (.name 3) (.call 62 [.var 0,.var 1,.var 2]),.ifs (.cmp .isnot (.var 3) .non) [.ret (.var 3)] []],.asg (.name 4) (.comp ["_law_one"] (.ix (.var 9) (.int 0)) [⟨.name 9,.val (.var 1),aD⟩]),.asg (.name 5) (.comp ["_law_g"] (.var 9) [⟨.name 9,.r1 (.len (.ix (.var 0) (.int 2))),aa (.cmp .notin (.var 9) (.var 4))⟩]),.ifs (.cmp .ne (.var 5) (.lst [])) [.ret (.tup [.str "lacks", .ix (.var 5) (.int 0)])] [],.for_ (.name 6) (.r1 (.mxL (.bin .add (.lst [.int 0]) (.comp ["_law_glider_here"] (.bin .add (.ix (.var 9) (.int 1)) (.int 1)) [⟨.name 9,.val (.ix (.var 0) (.int 2)),aD⟩])))) [.ifs (.cmp .gt (.len (.comp ["_law_one"] (.var 9) [⟨.name 9,.val (.var 1),aa (.call 60 [.var 0,.var 9,.var 6])⟩])) (.ix (.ix (.var 0) (.int 0)) (.int 0))) [.ret (.tup [.str "rings", .var 6])] []],.for_ (.tup [.name 2,.name 7]) (.en (.var 1)) [.asg (.name 8) (.ix (.ix (.var 0) (.int 2)) (.ix (.var 7) (.int 0))),.ifs (.and (.cmp .gt (.ix (.var 8) (.int 6)) (.int 0)) (.cmp .gt (.call 61 [.var 0,.var 1,.var 2,.ix (.var 8) (.int 1)]) (.ix (.var 8) (.int 6)))) [.ret (.tup [.str "ring", .ix (.var 7) (.int 0)])] []],.ret .non]
abbrev dz:List CS:=[.asg (.name 2) .non,.for_ (.name 3) (.r1 (.int 8)) [.asg (.name 4) (.call 59 [.var 1,.call 57 [.var 0,.var 1]]),.ifs (.and (.cmp .is (.var 2) .non) (.cmp .is (.call 63 [.var 1,.var 4]) .non)) [.asg (.name 2) (.var 4)] []],.ifs (.cmp .is (.var 2) .non) [.ret .non] [],.asg (.name 5) (.comp ["_law_one"] (.ix (.var 10) (.int 0)) [⟨.name 10,.val (.var 2),aD⟩]),.asg (.tup [.name 6,.name 7]) (.tup [.call 49 [.var 0,.bin .add (.len (.var 5)) (.int 1)],.call 49 [.var 0,.int 7]]),.asg (.name 8) (.comp ["_law_g", "_law_glider_here"] (.bin .add (.bin .add (.sl (.var 11) aD (aa (.int 2))) (.tup [.bin .add (.ix (.var 11) (.int 2)) (.bin .mul (.var 7) (.intOf (.cmp .isin (.var 10) (.sl (.var 5) (aa (.var 6)) aD))))])) (.sl (.var 11) (aa (.int 3)) aD)) [⟨.tup [.name 10,.name 11],.en (.ix (.var 1) (.int 2)),aD⟩]),.asg (.name 9) (.call 59 [.tup [.ix (.var 1) (.int 0),.ix (.var 1) (.int 1),.var 8,.ix (.var 1) (.int 3)],.var 5]),.ifs (.cmp .is (.call 63 [.var 1,.var 9]) .non) [.ret (.var 9)] [],.ret (.var 2)]
abbrev gV:List CS:=[.ifs (.not (.inst .list (.var 0))) [.ret (.bl aW)] [],.for_ (.name 1) (.val (.var 0)) [.ifs (.or (.not (.inst .tuple (.var 1))) (.or (.cmp .ne (.len (.var 1)) (.int 2)) (.or (.not (.call 50 [.ix (.var 1) (.int 0)])) (.not (.call 50 [.ix (.var 1) (.int 1)]))))) [.ret (.bl aW)] []],.ret (.bl aT)]
abbrev gW:List CS:=[.asg (.name 2) (.comp ["_law_begin", "_law_ring"] (.var 4) [⟨.tup [.name 3,.name 4],.val (.var 0),aa (.cmp .le (.var 3) (.var 1))⟩]),.ret (.ite (.cmp .ne (.var 2) (.lst [])) (.ix (.var 2) (.neg (.int 1))) (.int 0))]
abbrev b7:List CS:=[.ifs (.or (.not (.inst .list (.var 2))) (.or (.cmp .ne (.len (.var 2)) (.len (.ix (.var 0) (.int 2)))) (.not (.all (.comp ["_law_row"] (.call 65 [.var 9]) [⟨.name 9,.val (.var 2),aD⟩]))))) [.ret (.bl aW)] [],.for_ (.tup [.name 3,.name 4]) (.val (.var 1)) [.asg (.name 5) (.ix (.var 2) (.var 3)),.asg (.tup [.name 6,.name 7]) (.tup [.ix (.ix (.ix (.var 0) (.int 2)) (.var 3)) (.int 1),.bin .sub (.var 4) (.ix (.ix (.var 0) (.int 0)) (.int 1))]),.ifs (.cmp .ge (.var 6) (.var 7)) [.ifs (.cmp .ne (.var 5) (.lst [])) [.ret (.bl aW)] []] [.ifs (.or (.cmp .eq (.var 5) (.lst [])) (.or (.cmp .ne (.ix (.ix (.var 5) (.int 0)) (.int 0)) (.var 6)) (.or (.cmp .ge (.ix (.ix (.var 5) (.neg (.int 1))) (.int 0)) (.var 7)) (.or (.cmp .ne (.ix (.ix (.var 5) (.neg (.int 1))) (.int 1)) (.int 1)) (.cmp .gt (.ix (.ix (.var 5) (.int 0)) (.int 1)) (.ix (.ix (.var 0) (.int 0)) (.int 0))))))) [.ret (.bl aW)] [.ifs (.and (.cmp .gt (.ix (.ix (.ix (.var 0) (.int 2)) (.var 3)) (.int 6)) (.int 0)) (.cmp .gt (.ix (.ix (.var 5) (.int 0)) (.int 1)) (.ix (.ix (.ix (.var 0) (.int 2)) (.var 3)) (.int 6)))) [.ret (.bl aW)] []]],.ifs (.cmp .ne (.comp ["_law_k"] (.var 9) [⟨.name 9,.r2 (.int 1) (.len (.var 5)),aa (.or (.cmp .le (.ix (.ix (.var 5) (.var 9)) (.int 0)) (.ix (.ix (.var 5) (.bin .sub (.var 9) (.int 1))) (.int 0))) (.cmp .ge (.ix (.ix (.var 5) (.var 9)) (.int 1)) (.ix (.ix (.var 5) (.bin .sub (.var 9) (.int 1))) (.int 1))))⟩]) (.lst [])) [.ret (.bl aW)] []],.for_ (.name 4) (.r1 (.mxL (.bin .add (.lst [.int 0]) (.comp ["_law_g", "_law_minute"] (.var 10) [⟨.tup [.name 9,.name 10],.val (.var 1),aD⟩])))) [.asg (.name 8) (.comp ["_law_one"] (.call 66 [.ix (.var 2) (.ix (.var 9) (.int 0)),.var 4]) [⟨.name 9,.val (.var 1),aa (.call 60 [.var 0,.var 9,.var 4])⟩]),.ifs (.cmp .ne (.var 8) (.sset (.var 8))) [.ret (.bl aW)] []],.ret (.bl aT)]
abbrev bN:List CS:=[.asg (.name 3) (.comp ["_law_glider_here"] (.lst []) [⟨.name 11,.val (.ix (.var 1) (.int 2)),aD⟩]),.for_ (.tup [.name 4,.name 5]) (.en (.var 2)) [.asg (.tup [.name 6,.name 7]) (.tup [.ix (.ix (.ix (.var 1) (.int 2)) (.ix (.var 5) (.int 0))) (.int 1),.bin .sub (.ix (.var 5) (.int 1)) (.ix (.ix (.var 1) (.int 0)) (.int 1))]),.asg (.tup [.name 8,.name 9]) (.tup [.lst [],.mn (.ix (.ix (.var 1) (.int 0)) (.int 0)) (.bin .add (.bin .add (.var 4) (.int 1)) (.call 49 [.var 0,.int 2]))]),.asg (.name 10) (.var 6),.while_ (.and (.cmp .lt (.var 10) (.var 7)) (.cmp .gt (.var 9) (.int 0))) [.ex (.app (.var 8) (.tup [.var 10,.var 9])),.asg (.name 9) (.bin .sub (.bin .sub (.var 9) (.int 1)) (.call 49 [.var 0,.int 2])),.asg (.name 10) (.bin .add (.bin .add (.var 10) (.int 1)) (.call 49 [.var 0,.int 12]))],.ifs (.and (.cmp .ne (.var 8) (.lst [])) (.cmp .gt (.ix (.ix (.var 8) (.neg (.int 1))) (.int 1)) (.int 1))) [.setI (.tup [.ix (.ix (.var 8) (.neg (.int 1))) (.int 0),.int 1]) (.var 8) (.neg (.int 1))] [],.setI (.var 8) (.var 3) (.ix (.var 5) (.int 0))],.ret (.var 3)]
abbrev kf:List CS:=[.asg (.tup [.name 4,.name 5]) (.tup [.comp ["_law_row"] (.listOf (.var 10)) [⟨.name 10,.val (.var 1),aD⟩],.call 49 [.var 0,.int 4]]),.for_ (.tup [.name 6,.name 7]) (.val (.var 3)) [.asg (.name 8) (.bin .sub (.var 7) (.ix (.ix (.var 2) (.int 0)) (.int 1))),.asg (.name 9) (.bin .add (.sl (.ix (.var 1) (.var 6)) aD (aa (.int 1))) (.comp ["_law_begin", "_law_ring"] (.tup [.mn (.bin .add (.var 10) (.var 5)) (.bin .sub (.var 8) (.int 1)),.var 11]) [⟨.tup [.name 10,.name 11],.val (.sl (.ix (.var 1) (.var 6)) (aa (.int 1)) aD),aD⟩])),.setI (.comp ["_law_k", "_law_one"] (.var 11) [⟨.tup [.name 10,.name 11],.en (.var 9),aa (.or (.cmp .eq (.var 10) (.bin .sub (.len (.var 9)) (.int 1))) (.cmp .gt (.ix (.ix (.var 9) (.bin .add (.var 10) (.int 1))) (.int 0)) (.ix (.var 11) (.int 0))))⟩]) (.var 4) (.var 6),.ifs (.and (.cmp .ne (.var 9) (.lst [])) (.cmp .ne (.ix (.ix (.ix (.var 4) (.var 6)) (.int 0)) (.int 0)) (.ix (.ix (.var 9) (.int 0)) (.int 0)))) [.setI (.ix (.var 1) (.var 6)) (.var 4) (.var 6)] []],.ret (.var 4)]
abbrev oj:List CS:=[.for_ (.name 1) (.r1 (.mx (.int 1) (.mn (.len (.var 0)) (.int 5)))) [.asg (.name 2) (.call 48 [.call 47 [.var 0,.var 1]]),.asg (.name 3) (.call 56 [.var 2,.int 7]),.asg (.name 4) (.call 64 [.var 2,.var 3]),.ifs (.cmp .isnot (.var 4) .non) [.asg (.name 5) (.call 36 [.var 3,.var 4]),.ifs (.or (.cmp .isnot (.call 37 [.var 3,.var 4,.var 5]) (.bl aT)) (.not (.call 67 [.var 3,.var 4,.var 5]))) [.ret (.bl aW)] [],.asg (.name 6) (.comp ["_law_turn"] (.call 68 [.var 2,.var 3,.var 4]) [⟨.name 11,.r1 (.int 4),aD⟩]),.asg (.name 6) (.bin .add (.var 6) (.comp ["_law_turn"] (.call 69 [.var 2,.var 5,.var 3,.var 4]) [⟨.name 11,.r1 (.int 3),aD⟩])),.asg (.name 6) (.comp ["_law_rows"] (.var 11) [⟨.name 11,.val (.var 6),aa (.call 37 [.var 3,.var 4,.var 11])⟩]),.for_ (.name 7) (.r1 (.mxL (.bin .add (.lst [.int 0]) (.comp ["_law_one"] (.ix (.var 11) (.int 1)) [⟨.name 11,.val (.var 4),aD⟩])))) [.asg (.name 8) (.call 38 [.var 3,.var 4,.var 7]),.asg (.name 9) (.comp ["_law_g"] (.call 66 [.ix (.var 5) (.var 11),.var 7]) [⟨.name 11,.val (.var 8),aD⟩]),.ifs (.or (.cmp .ne (.var 9) (.sset (.var 9))) (.cmp .ne (.comp ["_law_ring"] (.var 11) [⟨.name 11,.val (.var 9),aa (.not (.chn .le .le (.int 1) (.var 11) (.ix (.ix (.var 3) (.int 0)) (.int 0))))⟩]) (.lst []))) [.ret (.bl aW)] [],.for_ (.name 10) (.val (.var 6)) [.ifs (.cmp .ne (.comp ["_law_g"] (.var 11) [⟨.name 11,.val (.var 8),aa (.cmp .lt (.call 66 [.ix (.var 10) (.var 11),.var 7]) (.call 66 [.ix (.var 5) (.var 11),.var 7]))⟩]) (.lst [])) [.ret (.bl aW)] []]]] []],.ret (.bl aT)]
abbrev hZ:DefE:=⟨"is_whole", top 6,["thing"],["thing"],l5⟩
abbrev fO:DefE:=⟨"is_within", top 7,["thing", "least", "most"],["thing", "least", "most"],jQ⟩
abbrev fP:DefE:=⟨"is_minute", top 8,["thing"],["thing"],jR⟩
abbrev ia:DefE:=⟨"is_tuple", top 9,["thing", "least", "most"],["thing", "least", "most"],l9⟩
abbrev eW:DefE:=⟨"are_unlike", top 10,["thing", "many"],["thing", "many"],iT⟩
abbrev fQ:DefE:=⟨"is_meadow", top 17,["thing", "rings", "sink", "gaps", "shuts"],["thing"],jS⟩
abbrev ib:DefE:=⟨"are_gaps", top 18,["thing"],["thing"],ma⟩
abbrev eX:DefE:=⟨"is_gap_row", top 19,["thing", "many"],["thing", "many"],iU⟩
abbrev bh:DefE:=⟨"no_glider_between_helps", top 20,["gaps", "kinds"],["gaps"],bC⟩
abbrev fR:DefE:=⟨"are_shuts", top 21,["thing"],["thing"],jT⟩
abbrev eY:DefE:=⟨"is_stretch", top 22,["thing"],["thing"],iV⟩
abbrev jA:DefE:=⟨"is_kind", top 23,["meadow", "thing"],["meadow", "thing"],nZ⟩
abbrev jB:DefE:=⟨"is_shut", top 24,["meadow", "minute"],["meadow", "minute"],n4⟩
abbrev mm:DefE:=⟨"is_sky", top 28,["thing", "meadow", "ahead", "gliders", "fixed"],["thing"],rf⟩
abbrev ic:DefE:=⟨"is_ahead", top 29,["meadow", "thing"],["meadow", "thing"],md⟩
abbrev dE:DefE:=⟨"are_gliders", top 30,["meadow", "thing"],["meadow", "thing"],gN⟩
abbrev fS:DefE:=⟨"is_glider", top 31,["meadow", "thing", "kind", "joins", "first", "last", "due", "weight", "ring"],["meadow", "thing"],jU⟩
abbrev fT:DefE:=⟨"are_fixed", top 32,["gliders", "thing"],["gliders", "thing"],jV⟩
abbrev fU:DefE:=⟨"check_sky", top 33,["thing"],["thing"],jW⟩
abbrev dF:DefE:=⟨"check_keeps", top 36,["sky", "thing"],["sky", "thing"],gO⟩
abbrev fV:DefE:=⟨"keeps_sky", top 37,["sky", "thing"],["sky", "thing"],jX⟩
abbrev fW:DefE:=⟨"are_pairs", top 38,["thing"],["thing"],jY⟩
abbrev jC:DefE:=⟨"is_pair", top 39,["thing"],["thing"],n8⟩
abbrev dG:DefE:=⟨"first_amiss", top 40,["sky", "landings", "place", "word", "lacking", "crowded", "high"],["sky", "landings"],gP⟩
abbrev cm:DefE:=⟨"landing_amiss", top 41,["sky", "landings", "place", "meadow", "ahead", "gliders", "fixed", "glider"],["sky", "landings", "place"],ft⟩
abbrev cP:DefE:=⟨"minute_amiss", top 42,["sky", "landings", "place", "meadow", "ahead", "gliders", "fixed", "number", "minute", "kind", "joins", "first", "last", "due", "weight", "ring"],["sky", "landings", "place"],fM⟩
abbrev cp:DefE:=⟨"landing_ahead", top 43,["sky", "sooner", "number", "minute"],["sky", "sooner"],fu⟩
abbrev jD:DefE:=⟨"gap_end", top 44,["sky", "ahead", "kind"],["sky", "ahead", "kind"],oe⟩
abbrev cq:DefE:=⟨"first_lacking", top 45,["sky", "landings", "landed", "number"],["sky", "landings"],fv⟩
abbrev ie:DefE:=⟨"waits_at", top 46,["sky", "landing", "minute", "number", "lands"],["sky", "landing", "minute"],mf⟩
abbrev cu:DefE:=⟨"how_many_wait", top 47,["sky", "landings", "minute"],["sky", "landings", "minute"],fw⟩
abbrev bQ:DefE:=⟨"joining_minutes", top 48,["sky"],["sky"],dh⟩
abbrev cx:DefE:=⟨"first_crowded", top 49,["sky", "landings", "minute"],["sky", "landings"],fA⟩
abbrev bX:DefE:=⟨"first_too_high", top 50,["sky", "landings", "place", "landing"],["sky", "landings"],eB⟩
abbrev dH:DefE:=⟨"is_too_high", top 51,["sky", "landings", "place", "kind", "joins", "first", "last", "due", "weight", "ring"],["sky", "landings", "place"],gQ⟩
abbrev dI:DefE:=⟨"ring_needed", top 52,["sky", "landings", "place", "minute", "sooner", "later"],["sky", "landings", "place", "minute"],gR⟩
abbrev t5:DefE:=⟨"held", top 54,["sky", "landings", "places"],["sky", "landings"],Aj⟩
abbrev eZ:DefE:=⟨"is_holding", top 55,["sky", "landings", "thing", "pairs"],["sky", "landings", "thing"],iW⟩
abbrev jE:DefE:=⟨"waiting", top 56,["sky", "landings", "minute"],["sky", "landings", "minute"],og⟩
abbrev ig:DefE:=⟨"rings_at", top 57,["sky", "landings", "minute", "there"],["sky", "landings", "minute"],mh⟩
abbrev e8:DefE:=⟨"steps_down", top 58,["sky", "landings", "place", "steps", "minute", "ring"],["sky", "landings", "place"],iX⟩
abbrev bK:DefE:=⟨"minutes_of_steps", top 59,["sky", "landings", "place", "joins", "leavings"],["sky", "landings", "place"],cN⟩
abbrev fX:DefE:=⟨"are_steps", top 60,["sky", "landing", "thing", "joins"],["sky", "landing", "thing"],jZ⟩
abbrev fY:DefE:=⟨"goes_down", top 61,["step", "behind"],["step", "behind"],j3⟩
abbrev cQ:DefE:=⟨"highest_ring", top 62,["sky", "number", "ring"],["sky", "number"],fN⟩
abbrev dJ:DefE:=⟨"stays_below", top 63,["sky", "holding", "sooner", "later", "below", "above", "minutes", "both"],["sky", "holding", "sooner", "later"],gS⟩
abbrev fZ:DefE:=⟨"ring_held", top 64,["steps", "minute"],["steps", "minute"],j4⟩
abbrev dM:DefE:=⟨"_law_cell_at", top 66,["_law_script", "_law_k"],["_law_script", "_law_k"],gU⟩
abbrev jF:DefE:=⟨"_law_pot", top 67,["_law_cell", "_law_number", "_law_j", "_law_more"],["_law_cell"],oh⟩
abbrev ij:DefE:=⟨"_law_take", top 68,["_law_pot_here", "_law_far", "_law_found"],["_law_pot_here", "_law_far"],mi⟩
abbrev f7:DefE:=⟨"_law_whole", top 69,["_law_thing"],["_law_thing"],j5⟩
abbrev il:DefE:=⟨"_law_gaps", top 70,["_law_pot_here", "_law_many", "_law_rows", "_law_c"],["_law_pot_here"],cO⟩
abbrev f8:DefE:=⟨"_law_shuts", top 71,["_law_pot_here", "_law_now", "_law_found", "_law_begin", "_law_turn"],["_law_pot_here", "_law_now"],j6⟩
abbrev fb:DefE:=⟨"_law_meadow", top 72,["_law_pot_here", "_law_rings"],["_law_pot_here"],iY⟩
abbrev fc:DefE:=⟨"_law_glider", top 73,["_law_pot_here", "_law_meadow_here", "_law_joins", "_law_first", "_law_last", "_law_due"],["_law_pot_here", "_law_meadow_here"],iZ⟩
abbrev f9:DefE:=⟨"_law_mixed", top 74,["_law_pot_here", "_law_some", "_law_left"],["_law_pot_here", "_law_some"],j7⟩
abbrev jG:DefE:=⟨"_law_sky", top 75,["_law_pot_here", "_law_most", "_law_meadow_here", "_law_gliders", "_law_numbers", "_law_fixed", "_law_g", "_law_ahead"],["_law_pot_here", "_law_most"],jz⟩
abbrev ga:DefE:=⟨"_law_order", top 76,["_law_pot_here", "_law_sky_here"],["_law_pot_here", "_law_sky_here"],j8⟩
abbrev im:DefE:=⟨"_law_open", top 77,["_law_shuts_here", "_law_minute", "_law_found", "_law_turn", "_law_begin", "_law_end"],["_law_shuts_here", "_law_minute"],mj⟩
abbrev jH:DefE:=⟨"_law_run", top 78,["_law_sky_here", "_law_order_here", "_law_found", "_law_ahead", "_law_g", "_law_minute"],["_law_sky_here", "_law_order_here"],oi⟩
abbrev gc:DefE:=⟨"_law_waits", top 79,["_law_sky_here", "_law_one", "_law_minute"],["_law_sky_here", "_law_one", "_law_minute"],j9⟩
abbrev io:DefE:=⟨"_law_need", top 80,["_law_sky_here", "_law_landings", "_law_k", "_law_minute", "_law_found", "_law_when"],["_law_sky_here", "_law_landings", "_law_k", "_law_minute"],ml⟩
abbrev cz:DefE:=⟨"_law_one_amiss", top 81,["_law_sky_here", "_law_landings", "_law_k", "_law_g", "_law_minute", "_law_ahead"],["_law_sky_here", "_law_landings", "_law_k"],bj⟩
abbrev gf:DefE:=⟨"_law_amiss", top 82,["_law_sky_here", "_law_landings", "_law_k", "_law_found", "_law_landed", "_law_lacking", "_law_minute", "_law_one", "_law_glider_here"],["_law_sky_here", "_law_landings"],kc⟩
abbrev dN:DefE:=⟨"_law_landing", top 83,["_law_pot_here", "_law_sky_here", "_law_found", "_law_turn", "_law_landings", "_law_later_here", "_law_at", "_law_more", "_law_gliders", "_law_slow"],["_law_pot_here", "_law_sky_here"],dz⟩
abbrev dP:DefE:=⟨"_law_is_list", top 84,["_law_thing", "_law_one"],["_law_thing"],gV⟩
abbrev dQ:DefE:=⟨"_law_ring_at", top 85,["_law_row", "_law_minute", "_law_rings"],["_law_row", "_law_minute"],gW⟩
abbrev dR:DefE:=⟨"_law_is_held", top 86,["_law_sky_here", "_law_landings", "_law_thing", "_law_g", "_law_minute", "_law_row", "_law_begin", "_law_end", "_law_rings"],["_law_sky_here", "_law_landings", "_law_thing"],b7⟩
abbrev gg:DefE:=⟨"_law_drawn", top 87,["_law_pot_here", "_law_sky_here", "_law_landings", "_law_found", "_law_k", "_law_one", "_law_begin", "_law_end", "_law_row", "_law_ring", "_law_minute"],["_law_pot_here", "_law_sky_here", "_law_landings"],bN⟩
abbrev gh:DefE:=⟨"_law_later", top 88,["_law_pot_here", "_law_lowest", "_law_sky_here", "_law_landings", "_law_found", "_law_more", "_law_g", "_law_minute", "_law_end", "_law_row"],["_law_pot_here", "_law_lowest", "_law_sky_here", "_law_landings"],kf⟩
abbrev vh:DefE:=⟨"law", top 89,["_law_script", "_law_k", "_law_pot_here", "_law_sky_here", "_law_landings", "_law_lowest", "_law_others", "_law_minute", "_law_there", "_law_rings", "_law_rows"],["_law_script"],oj⟩
abbrev aj:List DefE:=[hZ,fO,fP,ia,eW,fQ,ib,eX,bh,fR,eY,jA,jB,mm,ic,dE,fS,fT,fU,dF,fV,fW,jC,dG,cm,cP,cp,jD,cq,ie,cu,bQ,cx,bX,dH,dI,t5,eZ,jE,ig,e8,bK,fX,fY,cQ,dJ,fZ,dM,jF,ij,f7,il,f8,fb,fc,f9,jG,ga,im,jH,gc,io,cz,gf,dN,dP,dQ,dR,gg,gh,vh]
def chk:aj.all (Dh (u0 con aj))=aT:=by kernel_rfl
def us1:∀ {u:List Value},u.length=1->∃b,u=[b]
 |[b],_=>⟨b,rfl⟩
def us2:∀ {u:List Value},u.length=2->∃c b,u=[c,b]
 |[c,b],_=>⟨c,b,rfl⟩
def us3:∀ {u:List Value},u.length=3->∃c b f,u=[c,b,f]
 |[c,b,f],_=>⟨c,b,f,rfl⟩
def us4:∀ {u:List Value},u.length=4->∃b c f g,u=[b,c,f,g]
 |[b,c,f,g],_=>⟨b,c,f,g,rfl⟩
def bind:xl aj:=by
 repeat' apply And.intro
 all_goals first |trivial |(intro _ _ _ _ _ _ u h;first |(obtain⟨_,rfl⟩:=us1 h;rfl) |(obtain⟨_,_,rfl⟩:=us2 h;rfl) |(obtain⟨_,_,_,rfl⟩:=us3 h;rfl) |(obtain⟨_,_,_,_,rfl⟩:=us4 h;rfl))
end Lw
section
open PySem PySem.W PyProof.Rows
def Lw.eqs(h:Heap):Ev.xk Lw.con Lw.aj h=(h.isNs Vz,(Lw.nxd.take 42).map (λx=>Ev.mN h (.ofString x.1))++(Lw.nxd.drop 42).map (λx=>Ev.mN h (.ofString x.1)),(Lw.con.map (λc=>Ev.xL h c.1),Ev.ir.map λx=>(h.nsMap Vz x).isNone)):=by kernel_rfl
def Lw.eqv:Ev.re Lw.con Lw.aj=(aT,Lw.vb (Lw.nxd.take 42)++Lw.vb (Lw.nxd.drop 42),(Lw.con.map (λc=>aa c.2),Ev.ir.map λ_=>aT)):=by kernel_rfl
set_option maxHeartbeats 0 in
def Lw.head(h:∀ns:List Int,ns.length<=63->∃b,Ev.evC Lw.aj 40 70 [.ref 0] [.frz (ns.map Ev.D.int)]=aa (.bl aT,b)):PySem.Challenge.rw_downrings_k63_whole_no_holding_is_lower.Holds:=by
 w_on;refine holds_law Lw.said λsaid=>?_
 refine holds_open (q:=Lw.view) (loose:=Lw.loose) (Xt:=(λs=>xlAt Lw.view [] s && recOk (RowW.records PySem.Challenge.rw_downrings_k63_whole_no_holding_is_lower.row.toRowW) s)) (XP:=XL Lw.view []) (Yf:=(Hook.obs (Ev.pG Lw.con Lw.aj Lw.bind))) (Ya:=(Hook.val (Ev.pG Lw.con Lw.aj Lw.bind))) (YP:=Hook.says (Ev.pG Lw.con Lw.aj Lw.bind)) (N:=20000) ?hl (Hook.of _) (Hook.keeps _) (λs e=>xl_of s (XD.mp e).1) XL.keeps (by rfl) (by rfl) (by rfl) (λs e=>recFacts_of (XD.mp e).2) (by rfl) (by first |assumption |decide +kernel) (by decide +kernel) ⟨rfl,rfl,rfl,rfl,rfl,by decide +kernel⟩ ?hw ?hc
 case hw=>w_witness2
 case hl=>show LeftO _ _ _ _ (λs=>Ev.xk Lw.con Lw.aj s.heap) (λ_=>Ev.re Lw.con Lw.aj) 20000;rw[Lw.eqv,show(λs:Shared=>Ev.xk Lw.con Lw.aj s.heap)=_ from funext λs=>Lw.eqs s.heap];exact Lw.left0
 case hc=>exact Ev.Dk (l:=PySem.Challenge.rw_downrings_k63_whole_no_holding_is_lower) (n:=63) (k:=40) (i:=70) (dl:=Lw.vh) rfl (by decide) rfl ⟨rfl,by decide,by decide,rfl⟩ rfl rfl rfl Lw.chk h
end
namespace Ev
open PySem PySem.Spec PyProof.Rows L2
abbrev Ok{b:Type}(x:Option (b × Sto))(Q:b->Sto->Prop):Prop:=∃a S,x=aa (a,S)/\Q a S
abbrev OkS(x:Option (Fl × Rho × Sto))(Q:Fl->Rho->Sto->Prop):Prop:=∃f b S,x=aa (f,b,S)/\Q f b S
section
variable {α β:Type} {S S':Sto} {ρ ρ':Rho}
def aA{a:α}{Q:α->Sto->Prop}:Ok (aa (a,S)) Q=Q a S:=by
 apply propext;exact⟨λ⟨_,_,e,q⟩=>by cases e;exact q,λq=>⟨a,S,rfl,q⟩⟩
def bg{Q:α->Sto->Prop}:Ok aD Q=False:=propext ⟨λ⟨_,_,e,_⟩=>(nomatch e),λh=>h.elim⟩
def bu{x:Option (α × Sto)}{f:α->Sto->Option (β × Sto)}{Q:β->Sto->Prop}:Ok (bnd x f) Q=Ok x λa S=>Ok (f a S) Q:=by
 apply propext;constructor
 ·rintro⟨b,S',e,q⟩;obtain⟨a,S,E,c⟩:=ag e;exact⟨a,S,E,b,S',c,q⟩
 ·rintro⟨a,S,E,b,S',c,q⟩;exact⟨b,S',by rw[E];exact c,q⟩
def cR{c:Prop}[Decidable c]{x y:Option (α × Sto)}{Q:α->Sto->Prop}:Ok (if c then x else y) Q=if c then Ok x Q else Ok y Q:=by split <;> rfl
def Ak{x:Option β}{f:β->α × Sto}{Q:α->Sto->Prop}:Ok (x.map f) Q=∃b,x=aa b/\Q (f b).1 (f b).2:=by
 apply propext;cases x with
 |none=>exact⟨λ⟨_,_,e,_⟩=>(nomatch e),λ⟨_,e,_⟩=>(nomatch e)⟩
 |some b=>exact⟨λ⟨a,S,e,q⟩=>⟨b,rfl,by have E:=Option.some.inj e;rw[E];exact q⟩,λ⟨B,e,q⟩=>by cases e;exact⟨_,_,rfl,q⟩⟩
def Ok.mono{x:Option (α × Sto)}{Q Q':α->Sto->Prop}(h:Ok x Q)(f:∀a S,Q a S->Q' a S):Ok x Q':=let ⟨a,S,e,q⟩:=h;⟨a,S,e,f a S q⟩
def OkS.mono{x:Option (Fl × Rho × Sto)}{Q Q':Fl->Rho->Sto->Prop}(h:OkS x Q)(f:∀a ρ S,Q a ρ S->Q' a ρ S):OkS x Q':=let ⟨a,ρ,S,e,q⟩:=h;⟨a,ρ,S,e,f a ρ S q⟩
abbrev nxt(y:XS)(Q:Fl->Rho->Sto->Prop)(f:Fl)(ρ:Rho)(S:Sto):Prop:=match f with
 |.nx=>OkS (y ρ S) Q
 |f=>Q f ρ S
def Dm{x y:XS}{Q:Fl->Rho->Sto->Prop}:OkS (ze x y ρ S) Q=OkS (x ρ S) (nxt y Q):=by
 apply propext;unfold ze;constructor
 ·rintro⟨f,b,c,e,q⟩;split at e
  ·cases e
  ·rename_i g j h;exact⟨_,_,_,h,f,b,c,e,q⟩
  ·rename_i r n h;cases e;cases f with
   |nx=>exact absurd rfl (n b c)
   |_=>exact⟨_,_,_,h,q⟩
 ·rintro⟨f,b,c,e,q⟩;rw[e];cases f with
  |nx=>exact q
  |_=>exact⟨_,_,_,rfl,q⟩
def Iw{c:XT}{x y:XS}{Q:Fl->Rho->Sto->Prop}:OkS (xIf c x y ρ S) Q=Ok (c ρ S) λb j=>if b=aT then OkS (x ρ j) Q else OkS (y ρ j) Q:=by
 apply propext;unfold xIf;constructor
 ·rintro⟨f,g,j,e,q⟩;cases h:c ρ S with
  |none=>rw[h] at e;cases e
  |some r=>
   obtain⟨b,n⟩:=r;rw[h] at e;refine⟨b,n,rfl,?_⟩;dsimp only at e ⊢;split
   ·rename_i hb;rw[if_pos hb] at e;exact⟨f,g,j,e,q⟩
   ·rename_i hb;rw[if_neg hb] at e;exact⟨f,g,j,e,q⟩
 ·rintro⟨b,n,e,q⟩;rw[e];dsimp only;split
  ·rename_i hb;rw[if_pos hb] at q;exact q
  ·rename_i hb;rw[if_neg hb] at q;exact q
def Dn{x:XE}{t:Tg}{Q:Fl->Rho->Sto->Prop}:OkS (ls x t ρ S) Q=Ok (x ρ S) λd S1=>∃b,av t d ρ=aa b/\Q .nx b S1:=by
 apply propext;unfold ls;constructor
 ·rintro⟨f,b,S1,e,q⟩;cases h:x ρ S with
  |none=>rw[h] at e;cases e
  |some r=>
   obtain⟨d,g⟩:=r;rw[h] at e;dsimp only at e;cases c:av t d ρ with
   |none=>rw[c] at e;cases e
   |some j=>rw[c] at e;cases e;exact⟨d,_,rfl,b,c,q⟩
 ·rintro⟨d,g,e,b,E,q⟩;rw[e];dsimp only;rw[E];exact⟨_,_,_,rfl,q⟩
def Al{x:XE}{Q:Fl->Rho->Sto->Prop}:OkS (qI x ρ S) Q=Ok (x ρ S) λ_ S1=>Q .nx ρ S1:=by
 apply propext;unfold qI;constructor
 ·rintro⟨f,b,S1,e,q⟩;cases h:x ρ S with
  |none=>rw[h] at e;cases e
  |some r=>rw[h] at e;cases e;exact⟨_,_,rfl,q⟩
 ·rintro⟨d,c,e,q⟩;rw[e];exact⟨_,_,_,rfl,q⟩
def Dp{x:XE}{Q:Fl->Rho->Sto->Prop}:OkS (zf x ρ S) Q=Ok (x ρ S) λd S1=>Q (.rt d) ρ S1:=by
 apply propext;unfold zf;constructor
 ·rintro⟨f,b,S1,e,q⟩;cases h:x ρ S with
  |none=>rw[h] at e;cases e
  |some r=>rw[h] at e;cases e;exact⟨_,_,rfl,q⟩
 ·rintro⟨d,c,e,q⟩;rw[e];exact⟨_,_,_,rfl,q⟩
def Am{v o i:XE}{Q:Fl->Rho->Sto->Prop}:OkS (qJ v o i ρ S) Q=Ok (v ρ S) λa n=>Ok (o ρ n) λb p=>Ok (i ρ p) λc u=>∃S4,g9 b c a u=aa S4/\Q .nx ρ S4:=by
 apply propext;unfold qJ;constructor
 ·rintro⟨f,z,n,e,q⟩;cases h:v ρ S with
  |none=>rw[h] at e;cases e
  |some r=>
   rw[h] at e;dsimp only at e;cases j:o ρ r.2 with
   |none=>rw[j] at e;cases e
   |some r2=>
    rw[j] at e;dsimp only at e;cases g:i ρ r2.2 with
    |none=>rw[g] at e;cases e
    |some y=>
     rw[g] at e;dsimp only at e;cases h4:g9 r2.1 y.1 r.1 y.2 with
     |none=>rw[h4] at e;cases e
     |some S4=>rw[h4] at e;cases e;exact⟨_,_,rfl,_,_,j,_,_,g,_,h4,q⟩
 ·rintro⟨a,n,B,b,p,E,c,u,C,S4,I,q⟩;rw[B];dsimp only;rw[E];dsimp only;rw[C];dsimp only;rw[I];exact⟨_,_,_,rfl,q⟩
def Dq{I:XI}{T:Tg}{b:XS}{k:Nat}{Q:Fl->Rho->Sto->Prop}:OkS (zg I T b k ρ S) Q=Ok (I ρ S) λnx c=>OkS (cU nx T b k 0 ρ c) Q:=by
 apply propext;unfold zg;constructor
 ·rintro⟨f,g,c,e,q⟩;cases h:I ρ S with
  |none=>rw[h] at e;cases e
  |some r=>rw[h] at e;exact⟨_,_,rfl,_,_,_,e,q⟩
 ·rintro⟨d,j,e,q⟩;rw[e];exact q
abbrev out(Q:D->Sto->Prop)(f:Fl)(_:Rho)(S:Sto):Prop:=match f with
 |.rt v=>Q v S
 |.nx=>Q .non S
 |_=>False
def Ix{Q:D->Sto->Prop}{d:D}:out Q (.rt d) ρ S=Q d S:=rfl
def Iy{Q:D->Sto->Prop}:out Q .nx ρ S=Q .non S:=rfl
def aq{aj:List DefE}{k f:Nat}{d:DefE}{b:List D}{Q:D->Sto->Prop}(hd:aj[f]?=aa d)(c:b.map aa++Zr (d.N.length - b.length) aD=ρ)(h:OkS (eU (evC aj k) (eV aj) 60 d.body ρ S) (out Q)):Ok (evC aj (k+1) f b S) Q:=by
 subst c;simp only[evC,hd,Iu];obtain⟨j,g,n,e,q⟩:=h;show Ok (match eU (evC aj k) (eV aj) FU d.body _ S with |some (.rt v,_,S')=>aa (v,S') |some (.nx,_,S')=>aa (.non,S') |_=>aD) Q;unfold FU;rw[e];cases j with
 |rt v=>exact⟨_,_,rfl,q⟩
 |nx=>exact⟨_,_,rfl,q⟩
 |bk=>exact q.elim
 |ct=>exact q.elim
def om{nx:Nxt}{T:Tg}{c:XA}{N:Nat}(I:Nat->List D->Sto->Prop)
  (step:∀i b S,i < N->I i b S->∃d f,nx i S=aa (aa d)/\av T d ρ=aa f/\Ok (c f S) λE g=>I (i+1) (b++E) g) (stop:∀b S,I N b S->nx N S=aa aD) :
  ∀ (n i k:Nat) (b:List D) (S:Sto),N=i+n->n < k->I i b S->Ok (bn nx T c ρ k i S) λE S'=>I N (b++E) S'
 |0,i,k+1,b,S,hN,hk,h=>by
  obtain rfl:N=i:=by omega
  simp only[bn,stop b S h];exact⟨_,_,rfl,by show I _ (b++[]) S;rw[Z4];exact h⟩
 |n+1,i,k+1,b,S,hN,hk,h=>by
  obtain⟨d,f,q,u,E,g,y,v⟩:=step i b S (by omega) h;simp only[bn,q,u,y,bnd];obtain⟨j,p,z,o⟩:=om I step stop n (i+1) k (b++E) g (by omega) (by omega) v;simp only[z];exact⟨_,_,rfl,by show I _ (b++(E++j)) p;rw[<-Yg];exact o⟩
def eC{nx:Nxt}{T:Tg}{c:XA}{k:Nat}(N:Nat)(I:Nat->List D->Sto->Prop)(g:N < k)
  (step:∀i b S,i < N->I i b S->∃d f,nx i S=aa (aa d)/\av T d ρ=aa f/\Ok (c f S) λE j=>I (i+1) (b++E) j) (stop:∀b S,I N b S->nx N S=aa aD) (h:I 0 [] S) :
  Ok (bn nx T c ρ k 0 S) (I N):=(om I step stop N 0 k [] S (by omega) g h).mono λE S' z=>by rw[Y6] at z;exact z
def mo{nx:Nxt}{T:Tg}{b:XS}{N:Nat}{Q:Fl->Rho->Sto->Prop}(I:Nat->Rho->Sto->Prop)
  (step:∀i ρ S,i < N->I i ρ S->∃d f,nx i S=aa (aa d)/\av T d ρ=aa f/\OkS (b f S) λo c g=>match o with |.nx=>I (i+1) c g |.ct=>I (i+1) c g |.bk=>Q .nx c g |.rt d=>Q (.rt d) c g)
  (stop:∀ρ S,I N ρ S->nx N S=aa aD/\Q .nx ρ S) :
  ∀ (n i k:Nat) (ρ:Rho) (S:Sto),N=i+n->n < k->I i ρ S->OkS (cU nx T b k i ρ S) Q
 |0,i,k+1,ρ,S,hN,hk,h=>by
  obtain rfl:N=i:=by omega
  simp only[cU,(stop ρ S h).1];exact⟨_,_,_,rfl,(stop ρ S h).2⟩
 |n+1,i,k+1,ρ,S,hN,hk,h=>by
  obtain⟨d,f,E,p,o,c,g,q,j⟩:=step i ρ S (by omega) h;simp only[cU,E,p,q];cases o with
  |nx=>exact mo I step stop n (i+1) k c g (by omega) (by omega) j
  |ct=>exact mo I step stop n (i+1) k c g (by omega) (by omega) j
  |bk=>exact⟨_,_,_,rfl,j⟩
  |rt d=>exact⟨_,_,_,rfl,j⟩
def i4{nx:Nxt}{T:Tg}{b:XS}{k:Nat}{Q:Fl->Rho->Sto->Prop}(N:Nat)(I:Nat->Rho->Sto->Prop)(j:N < k)
  (step:∀i ρ S,i < N->I i ρ S->∃d f,nx i S=aa (aa d)/\av T d ρ=aa f/\OkS (b f S) λn c g=>match n with |.nx=>I (i+1) c g |.ct=>I (i+1) c g |.bk=>Q .nx c g |.rt d=>Q (.rt d) c g)
  (stop:∀ρ S,I N ρ S->nx N S=aa aD/\Q .nx ρ S) (h:I 0 ρ S):OkS (cU nx T b k 0 ρ S) Q:=mo I step stop N 0 k ρ S (by omega) j h
end
abbrev Kp(p:Nat)(S b:Sto):Prop:=∀i o,i ≠ p->S[i]?=aa o->b[i]?=aa o
abbrev Sm(S b:Sto):Prop:=∀ (i:Nat) (o:Ob),S[i]?=aa o->b[i]?=aa o
def Sm.kp{p:Nat}{S S':Sto}(h:Sm S S'):Kp p S S':=λi o _ e=>h i o e
def Sm.refl(S:Sto):Sm S S:=λ_ _ e=>e
def Sm.trans{S c S2:Sto}(a:Sm S c)(b:Sm c S2):Sm S S2:=λi o e=>b i o (a i o e)
def Sm.app(S X:Sto):Sm S (S++X):=λi o e=>by
 have hi:=(Zb.mp e).1;rw[Zt hi];exact e
def Kp.refl(p:Nat)(S:Sto):Kp p S S:=λ_ _ _ e=>e
def Kp.trans{p:Nat}{S c S2:Sto}(a:Kp p S c)(b:Kp p c S2):Kp p S S2:=λi o n e=>b i o n (a i o n e)
def Ds{n:Nat}:Ok (qM g n x f S) Q=Ok (x f S) λb c=>b.length=n/\Ok (g b c) Q:=by
 unfold qM;rw[bu]
 congr 1
 funext b c
 rw[cR,bg];apply propext;split
 ·rename_i h;exact⟨λz=>⟨h,z⟩,λz=>z.2⟩
 ·rename_i h;exact⟨λz=>z.elim,λz=>(h z.1).elim⟩
def Iz:Ok (zl x y c S) Q=Ok (x c S) λd S1=>∃b,d = .bl b/\if b=aT then Ok (y c S1) Q else Q (.bl aW) S1:=by
 unfold zl;rw[bu]
 congr 1
 funext d S1
 apply propext;cases d with
 |bl b=>cases b <;> simp[aA]
 |_=>simp[bg]
def MA:Ok (xOr x y f S) Q=Ok (x f S) λd c=>∃b,d = .bl b/\if b=aT then Q (.bl aT) c else Ok (y f c) Q:=by
 unfold xOr;rw[bu]
 congr 1
 funext d c
 apply propext;cases d with
 |bl b=>cases b <;> simp[aA]
 |_=>simp[bg]
def IA:Ok (zm d S) Q=Ok (fG d S) λb S1=>Q (.bl (!b)) S1:=by
 unfold zm;rw[Ak];exact propext ⟨λ⟨⟨b,S1⟩,e,q⟩=>⟨b,S1,e,q⟩,λ⟨b,S1,e,q⟩=>⟨(b,S1),e,q⟩⟩
def IB:Ok (wQ f g x y z h S) Q=Ok (x h S) λa n=>Ok (y h n) λb j=>Ok (f a b j) λr S3=>∃c,r = .bl c/\if c=aT then Ok (z h S3) λe o=>Ok (g b e o) Q else Q (.bl aW) S3:=by
 unfold wQ;rw[bu]
 congr 1
 funext a n
 rw[bu]
 congr 1
 funext b j
 rw[bu]
 congr 1
 funext r S3
 apply propext;cases r with
 |bl c=>cases c <;> simp[aA,bu]
 |_=>simp[bg]
def IC{i:Nat}:Ok (wj i b S) Q=∃d,b[i]?=aa (aa d)/\Q d S:=by
 apply propext;unfold wj;cases h:b[i]? with
 |none=>simp[bg]
 |some o=>cases o with
  |none=>simp[bg]
  |some d=>simp[aA]
def MB{i j:Int}:Ok (az .le (.int i) (.int j) S) Q=Q (.bl (decide (i<=j))) S:=aA
def MC{i j:Int}:Ok (az .lt (.int i) (.int j) S) Q=Q (.bl (decide (i < j))) S:=aA
def MD{i j:Int}:Ok (az .gt (.int i) (.int j) S) Q=Q (.bl (decide (j < i))) S:=aA
def ME{i j:Int}:Ok (az .ge (.int i) (.int j) S) Q=Q (.bl (decide (j<=i))) S:=aA
def IE{i j:Int}:Ok (bF .add (.int i) (.int j) S) Q=Q (.int (i+j)) S:=aA
def IG{i j:Int}:Ok (bF .sub (.int i) (.int j) S) Q=Q (.int (i - j)) S:=aA
def MF:Ok (xB x c S) Q=Ok (x c S) λd S1=>∃b,d = .bl b/\Q b S1:=by
 unfold xB;rw[bu]
 congr 1
 funext d S1
 apply propext;cases d with
 |bl b=>simp[aA]
 |_=>simp[bg]
def Dt{own k:Nat}:Ok (lu own I T c k b S) Q=Ok (I b S) λnx f=>cZ T (b++Zr own aD)=aT/\Ok (bn nx T c (b++Zr own aD) k 0 f) λE S2=>E.length<=100000/\Q E S2:=by
 unfold lu;rw[bu]
 congr 1
 funext nx f
 rw[cR,bg];apply propext
 have e:Ok (bnd (bn nx T c (b++Zr own aD) k 0 f) λE S2=>if E.length<=100000 then aa (E,S2) else aD) Q=Ok (bn nx T c (b++Zr own aD) k 0 f) λE S2=>E.length<=100000/\Q E S2:=by
  rw[bu]
  congr 1
  funext E S2
  rw[cR,bg,aA];apply propext;split
  ·rename_i h;exact⟨λz=>⟨h,z⟩,λz=>z.2⟩
  ·rename_i h;exact⟨λz=>z.elim,λz=>(h z.1).elim⟩
 rw[e];split
 ·rename_i h;exact⟨λz=>⟨h,z⟩,λz=>z.2⟩
 ·rename_i h;exact⟨λz=>z.elim,λz=>(h z.1).elim⟩
def An{k:Nat}:Ok (jq I T c k b S) Q=(cZ T b=aT/\Ok (I b S) λnx f=>Ok (bn nx T c b k 0 f) Q):=by
 unfold jq;rw[cR,bg,bu];apply propext;split
 ·rename_i h;exact⟨λz=>⟨h,z⟩,λz=>z.2⟩
 ·rename_i h;exact⟨λz=>z.elim,λz=>(h z.1).elim⟩
def Du:Ok (nu x c S) Q=Ok (x c S) λb S1=>b.length<=1000/\Q b S1:=by
 unfold nu;rw[bu]
 congr 1
 funext b S1
 rw[cR,bg,aA];apply propext;split
 ·rename_i h;exact⟨λz=>⟨h,z⟩,λz=>z.2⟩
 ·rename_i h;exact⟨λz=>z.elim,λz=>(h z.1).elim⟩
def Dv:Ok (kl b S) Q=(b.length<=1000/\Q (.tup b) S):=by
 unfold kl;rw[cR,bg,aA];apply propext;split
 ·rename_i h;exact⟨λz=>⟨h,z⟩,λz=>z.2⟩
 ·rename_i h;exact⟨λz=>z.elim,λz=>(h z.1).elim⟩
def kF{b:Type}(l:List b)(g:b->Bool)(S:Sto):jj aW (l.map λt=>D.bl (g t)) S=aa (.bl (l.all g),S):=by
 unfold jj;have h:(l.map λt=>D.bl (g t)).all wo=aT:=by rw[YZ];simp[Function.comp_def,wo]
 have c:(l.map λt=>D.bl (g t)).all mR=l.all g:=by rw[YZ];rfl
 rw[if_pos ⟨rfl,h⟩,c]
def Dx{S:Sto}{n:Nat}{lo:Int}{T:Tg}{c:XA}{u:Rho}{Q:List D->Sto->Prop}(hl:n<=100000)(g:Nat->Bool)
  (step:∀ (i:Nat) b,i < n->Sm S b->∃f,av T (.int (lo+i)) u=aa f/\Ok (c f b) λE o=>E=[.bl (g i)]/\Sm b o) (q:∀b,Sm S b->Q ((Zh n).map λi=>.bl (g i)) b) :
  Ok (bn (nxR lo n) T c u LF 0 S) λE S2=>E.length<=100000/\Q E S2:=by
 refine(eC n (λi h b=>Sm S b/\h=(Zh i).map λt=>.bl (g t)) (by unfold LF;lia) (λi h b hi ⟨sm,j⟩=>?_) (λh b ⟨sm,j⟩=>?_) ⟨Sm.refl S,by simp⟩).mono λE b ⟨sm,j⟩=>?_
 ·obtain⟨f,v,E,o,y,rfl,p⟩:=step i b hi sm;refine⟨_,f,by show aa (if i < n then aa (D.int (lo+i)) else aD)=_;rw[if_pos hi],v,_,o,y,sm.trans p,?_⟩;rw[j,Ys,Zq];rfl
 ·show aa (if n < n then aa (D.int (lo+n)) else aD)=_;rw[if_neg (ZS n)]
 ·subst j;exact⟨by rw[Za,ZK];exact hl,q b sm⟩
def t6{m n:Nat}(v:S[m]?=aa (.lst ((Zh n).map λj=>.int (Int.ofNat j))))(C:n<=1000)(f:Nat->List D)
  (step:∀ (i:Nat) b,i < n->Sm S b->∃g,av T (.int i) z=aa g/\Ok (c g b) λE q=>E=f i/\Sm b q):Ok (bn (nxS m) T c z LF 0 S) λE S2=>E=(Zh n).flatMap f/\Sm S S2:=by
 refine(eC n (λi h b=>Sm S b/\h=(Zh i).flatMap f) (by unfold LF;lia) (λi h b hi ⟨sm,o⟩=>?_) (λh b ⟨sm,o⟩=>?_) ⟨Sm.refl S,by simp⟩).mono λE b ⟨sm,o⟩=>⟨o,sm⟩
 ·obtain⟨g,B,E,q,y,rfl,u⟩:=step i b hi sm;refine⟨.int i,g,?_,B,_,q,y,sm.trans u,?_⟩
  ·show(aH b m).map (λp=>p[i]?)=_;simp only[aH,sm _ _ v,Zv,Zl,Yj hi];rfl
  ·rw[o,Dw.nq]
 ·show(aH b m).map (λp=>p[n]?)=_;simp only[aH,sm _ _ v,Zv];rw[ZB (by simp)]
def Ao:Ok (cK x f S) Q=Ok (x f S) λc b=>Q (.ref b.length) (b++[.lst c]):=by
 unfold cK;rw[bu]
 congr 1
 funext c b
 rw[aA]
def Dy(h:Ok (x g S) λd b=>∃n ns,d = .ref n/\b[n]?=aa (.lst (ns.map D.int))/\o8 ns=aT/\Q (ns.map D.int) b):Ok (nD x g S) Q:=by
 unfold nD;rw[bu];refine h.mono λd b ⟨n,ns,e,f,c,q⟩=>?_;subst e;have E:ao (.ref n) b=aa (aW,ns.map D.int):=by simp only[ao,aH,f,Zv]
 have en:fm (ns.map D.int)=aa ns:=by
  clear f c q E
  induction ns with
  |nil=>rfl
  |cons k ns I=>simp only[Zx,fm,I]
 rw[E];dsimp only;rw[en];dsimp only;rw[if_pos c,aA];exact q
def IH(h:Ok (x c S) λd b=>∃i:Nat,d = .int i/\i<=1000/\Q ((Zh i).map λj=>.int (Int.ofNat j)) b):Ok (wW x c S) Q:=by
 unfold wW;rw[bu];refine h.mono λd b ⟨i,e,hi,q⟩=>?_;subst e;dsimp only;rw[if_pos (by lia),aA,Zs];exact q
def rh(is:List Int):(is.map D.int).all cf=aT:=by rw[YZ];simp[Function.comp_def,cf]
def Ap(is:List Int)(i:Int)(S:Sto):tL (.tup (is.map D.int)) [.int i] S=aa (.int (is.count i:Nat),S):=by
 have e:((is.map D.int).countP λz=>eqF z (.int i))=is.count i:=by
  rw[List.countP_map];unfold List.count
  congr 1
 simp only[tL];rw[if_pos ⟨rfl,rh is⟩,e]
def pH(neg:Bool)(is:List Int)(i:Int)(S:Sto):inS neg (.int i) (.tup (is.map D.int)) S=aa (.bl (neg != decide (i ∈ is)),S):=by
 have e:inF (.int i) (is.map D.int)=decide (i ∈ is):=by
  unfold inF;rw[X0,Xw,Xq];simp only[Function.comp_def,eqF,beq_iff_eq,decide_eq_true_eq];exact⟨λ⟨x,b,e⟩=>e ▸ b,λh=>⟨i,h,rfl⟩⟩
 simp only[inS,ao];rw[if_pos ⟨rfl,rh is⟩,e]
def Dz(i j:Int)(S:Sto):az .eq (.int i) (.int j) S=aa (.bl (decide (i=j)),S):=by
 simp only[az,eqS];have:eqD 60 S (.int i) (.int j)=aa (i == j):=rfl;rw[this];rfl
def DA(i j:Int)(S:Sto):az .ne (.int i) (.int j) S=aa (.bl (!decide (i=j)),S):=uB (x:=.int i) (y:=.int j) (b:=decide (i=j)) rfl
def II{i j:Int}:Ok (az .eq (.int i) (.int j) S) Q=Q (.bl (decide (i=j))) S:=by rw[Dz,aA]
def IJ{i j:Int}:Ok (az .ne (.int i) (.int j) S) Q=Q (.bl (!decide (i=j))) S:=by rw[DA,aA]
def DB{i:Nat}:av (.name i) d b=if i < b.length then aa (b.set i (aa d)) else aD:=by simp only[av]
def Aq:av (.tup T) (.tup b) ρ=aG T b ρ:=by simp only[av]
def vj:aG [] [] ρ=aa ρ:=by simp only[aG]
def rj{i:Nat}:aG (.name i::T) (d::f) c=if i < c.length then aG T f (c.set i (aa d)) else aD:=by
 simp only[aG,av];split
 ·rename_i g h;split at h
  ·rename_i b;cases h;rw[if_pos b]
  ·cases h
 ·rename_i h;split at h
  ·cases h
  ·rename_i b;rw[if_neg b]
def aV{i j:Nat}(h:i < c.length)(f:j < c.length):av (.tup [.name i,.name j]) (.tup [a,b]) c=aa ((c.set i (aa a)).set j (aa b)):=by
 rw[Aq,rj,if_pos h,rj,if_pos (by rw[YV];exact f),vj]
def af{a:Nat}(h:S[a]?=aa (.lst es)):aH S a=aa es:=by simp only[aH,h]
def vm{a b n:Nat}(f:S[a]?=aa (.lst E))(h:S[b]?=aa (.lst []))(c:a ≠ b):eqD (n+1) S (.ref a) (.ref b)=aa E.isEmpty:=by
 show(match aH S a,aH S b with |some X,aa ys=>if a=b then aa aT else if X.length=ys.length then eqL eqB X ys else aa aW |_,_=>aD)=_;rw[af f,af h];show(if a=b then aa aT else if E.length=([]:List D).length then eqL eqB E [] else aa aW)=_;rw[if_neg c];cases E with
 |nil=>simp[eqL]
 |cons x X=>simp
def ne_nil{a b:Nat}(f:S[a]?=aa (.lst E))(h:S[b]?=aa (.lst []))(c:a ≠ b):az .ne (.ref a) (.ref b) S=aa (.bl (!E.isEmpty),S):=uB (vm f h c)
def IK{a b:Nat}(f:S[a]?=aa (.lst E))(h:S[b]?=aa (.lst []))(c:a ≠ b):az .eq (.ref a) (.ref b) S=aa (.bl E.isEmpty,S):=by
 simp only[az,eqS,vm f h c,Zv]
def gC:az .ne (.ref (Zc S)) (.ref (Zc (S++[Ob.lst E]))) (S++[Ob.lst E]++[Ob.lst []])=aa (.bl (!E.isEmpty),S++[Ob.lst E]++[Ob.lst []]):=
 ne_nil (by rw[Yg,Zo (Zd _),Yh];rfl) (by rw[Zo (Zd _),Yh];rfl) (by simp)
def Ar(b:List D)(k:Nat)(h:k<=b.length):gH b aD (aa (k:Int))=b.take k:=by
 unfold gH;rw[Dw.yF _ _ (by lia),Zs,Y8 h];rfl
section
variable {S S' S1 S2:Sto} {p:Nat} {Q:D->Sto->Prop} {ρ:Rho}
def IL{i j:Int}:Ok (bF .mod (.int i) (.int j) S) Q=(0 < j/\Q (.int (i % j)) S):=by
 simp only[bF,Hi,cR,aA,bg];apply propext;split
 ·rename_i h;exact⟨λz=>⟨h,z⟩,λz=>z.2⟩
 ·rename_i h;exact⟨λz=>z.elim,λz=>(h z.1).elim⟩
def DC{i j:Int}:Ok (bF .fdiv (.int i) (.int j) S) Q=((0 < j/\j < 1298074214633706907132624082305024)/\Q (.int (i / j)) S):=by
 simp only[bF,yL,cR,aA,bg];apply propext;split
 ·rename_i h;exact⟨λz=>⟨h,z⟩,λz=>z.2⟩
 ·rename_i h;exact⟨λz=>z.elim,λz=>(h z.1).elim⟩
def IM{i j:Int}:Ok (bF .mul (.int i) (.int j) S) Q=(iH i j=aT/\Q (.int (i * j)) S):=by
 simp only[bF,qz,cR,aA,bg];apply propext;split
 ·rename_i h;exact⟨λz=>⟨h,z⟩,λz=>z.2⟩
 ·rename_i h;exact⟨λz=>z.elim,λz=>(h z.1).elim⟩
def IP{i j:Int}:Ok (bF .pow (.int i) (.int j) S) Q=((0<=j/\j<=1000000/\i.natAbs < 2 ^ 64)/\Q (.int (i ^ j.toNat)) S):=by
 simp only[bF,Hj,cR,aA,bg];apply propext;split
 ·rename_i h;exact⟨λz=>⟨h,z⟩,λz=>z.2⟩
 ·rename_i h;exact⟨λz=>z.elim,λz=>(h z.1).elim⟩
def vn{i j:Int}(h:-(2 ^ 64) < j)(b:j < 2 ^ 64):iH i j=aT:=by simp only[iH,Y7,bAE,decide_eq_true_eq];exact .inr ⟨h,b⟩
def kG{i j:Int}(h:-(2 ^ 64) < i)(b:i < 2 ^ 64):iH i j=aT:=by simp only[iH,Y7,bAE,decide_eq_true_eq];exact .inl ⟨h,b⟩
abbrev Pot(p:Nat)(S:Sto):Prop:=∃n:Int,S[p]?=aa (.lst [.int n])
structure Dr(p:Nat)(S S':Sto):Prop where
 kp:Kp p S S'
 pot:Pot p S'
def Dr.refl(h:Pot p S):Dr p S S:=⟨Kp.refl p S,h⟩
def Dr.trans(a:Dr p S S1)(b:Dr p S1 S2):Dr p S S2:=⟨a.kp.trans b.kp,b.pot⟩
def Dr.sm(h:Pot p S)(s:Sm S S'):Dr p S S':=⟨s.kp,let ⟨n,e⟩:=h;⟨n,s _ _ e⟩⟩
def Dr.thenSm(a:Dr p S S1)(s:Sm S1 S2):Dr p S S2:=a.trans (Dr.sm a.pot s)
def Pot.lt(h:Pot p S):p < S.length:=let ⟨_,e⟩:=h;(Zb.mp e).1
def IQ:Kp p S (S.set p o):=λi u n e=>by rw[ZE (Ne.symm n)];exact e
def mq(h:p < S.length):(S.set p o)[p]?=aa o:=by rw[ZN h]
def eD{n:Nat}{lo:Int}{T:Tg}{b:XS}{Q:Fl->Rho->Sto->Prop}(hl:n<=100000)(I:Nat->Rho->Sto->Prop)
  (step:∀ (i:Nat) ρ S,i < n->I i ρ S->∃f,av T (.int (lo+i)) ρ=aa f/\OkS (b f S) λj c S2=>match j with |.nx=>I (i+1) c S2 |.ct=>I (i+1) c S2 |.bk=>Q .nx c S2 |.rt d=>Q (.rt d) c S2)
  (q:∀ρ S',I n ρ S'->Q .nx ρ S') (h:I 0 ρ S):OkS (cU (nxR lo n) T b LF 0 ρ S) Q:=by
 refine i4 n I (by unfold LF;lia) (λi ρ S' hi g=>?_) (λρ S' g=>⟨?_,q ρ S' g⟩) h
 ·obtain⟨f,E,z⟩:=step i ρ S' hi g;exact⟨_,f,by show aa (if i < n then aa (D.int (lo+i)) else aD)=_;rw[if_pos hi],E,z⟩
 ·show aa (if n < n then aa (D.int (lo+n)) else aD)=_;rw[if_neg (ZS n)]
def jI{n:Nat}{lo:Int}{T:Tg}{c:XA}{Q:List D->Sto->Prop}(hl:n<=100000)(I:Nat->List D->Sto->Prop)
  (step:∀ (i:Nat) b S',i < n->I i b S'->∃f,av T (.int (lo+i)) ρ=aa f/\Ok (c f S') λE S1=>I (i+1) (b++E) S1) (q:∀E S',I n E S'->E.length<=100000/\Q E S') (h:I 0 [] S) :
  Ok (bn (nxR lo n) T c ρ LF 0 S) λE S2=>E.length<=100000/\Q E S2:=by
 refine(eC n I (by unfold LF;lia) (λi b S' hi g=>?_) (λb S' g=>?_) h).mono q
 ·obtain⟨f,j,z⟩:=step i b S' hi g;exact⟨_,f,by show aa (if i < n then aa (D.int (lo+i)) else aD)=_;rw[if_pos hi],j,z⟩
 ·show aa (if n < n then aa (D.int (lo+n)) else aD)=_;rw[if_neg (ZS n)]
def IR:Ok (sW x y ρ S) Q=Ok (x ρ S) λb S1=>Ok (y ρ S1) λi S2=>∃k,i = .int k/\∃d,atI b k=aa d/\Q d S2:=by
 unfold sW;rw[bu]
 congr 1
 funext b S1
 rw[bu]
 congr 1
 funext i S2
 apply propext;cases i with
 |int k=>simp[Ak]
 |_=>simp[bg]
def IS{i:Int}(h:0<=i)(b:i < ds.length):∃d,atI ds i=aa d/\ds[i.toNat]?=aa d:=by
 have hi:i.toNat < ds.length:=by lia
 refine⟨ds[i.toNat],?_,gEG hi⟩;unfold atI ixN;rw[if_pos h,if_pos (by lia)];exact gEG hi
def bL{nx:Nxt}{T:Tg}{c:XA}{Q:List D->Sto->Prop}(n:Nat)(j:Nat->D)(I:Nat->List D->Sto->Prop)(h:∀i b S',i<=n->I i b S'->nx i S'=aa (if i < n then aa (j i) else aD))(hl:n<=100000)
  (step:∀ (i:Nat) b S',i < n->I i b S'->∃f,av T (j i) ρ=aa f/\Ok (c f S') λE S1=>I (i+1) (b++E) S1) (q:∀E S',I n E S'->E.length<=100000/\Q E S') (o:I 0 [] S) :
  Ok (bn nx T c ρ LF 0 S) λE S2=>E.length<=100000/\Q E S2:=by
 refine(eC n I (by unfold LF;lia) (λi b S' hi g=>?_) (λb S' g=>?_) o).mono q
 ·obtain⟨f,u,z⟩:=step i b S' hi g;exact⟨_,f,by rw[h i b S' (by lia) g,if_pos hi],u,z⟩
 ·rw[h n b S' (Zd _) g,if_neg (ZS n)]
def ip{m i:Nat}(h:S[m]?=aa (.lst b))(E:Nat->D)(c:∀i d,b[i]?=aa d->E i=d):nxS m i S=aa (if i < b.length then aa (E i) else aD):=by
 show(aH S m).map (λb=>b[i]?)=_;rw[af h,Zv];split
 ·rename_i hi;rw[gEG hi,c i _ (gEG hi)]
 ·rename_i hi;rw[ZB (by lia)]
def i5{m i:Nat}(h:S[m]?=aa (.lst b))(c:i<=b.length)(E:Nat->D)(f:∀i d,b[i]?=aa d->E i = .tup [.int i,d]):wM m i S=aa (if i < b.length then aa (E i) else aD):=by
 show(aH S m).bind (λb=>enm b i)=_;rw[af h];show enm b i=_;unfold enm;rw[if_pos c];split
 ·rename_i hi;rw[gEG hi,f i _ (gEG hi)];rfl
 ·rename_i hi;rw[ZB (by lia)];rfl
structure RowsS(p:Nat)(S:Sto)(rs:List D)(M:List (List Int)):Prop where
 len:rs.length=M.length
 row:∀ (i:Nat) r,M[i]?=aa r->∃a,rs[i]?=aa (.ref a)/\a ≠ p/\S[a]?=aa (.lst (r.map D.int))
def RowsS.keep(h:RowsS p S c M)(k:Kp p S S'):RowsS p S' c M:=⟨h.len,λi r b=>let ⟨a,e,n,z⟩:=h.row i r b;⟨a,e,n,k _ _ n z⟩⟩
def RowsS.nil:RowsS p S [] []:=⟨rfl,λi r h=>by simp at h⟩
def RowsS.snoc{a:Nat}(h:RowsS p S j M)(n:a ≠ p)(z:S[a]?=aa (.lst (r.map D.int))):RowsS p S (j++[.ref a]) (M++[r]):=by
 refine⟨by simp[h.len],λi g c=>?_⟩;by_cases hi:i < M.length
 ·rw[Zt hi] at c;obtain⟨b,e,nb,Z⟩:=h.row i g c;exact⟨b,by rw[Zt (by rw[h.len];exact hi)];exact e,nb,Z⟩
 ·rw[Zo (by lia)] at c
  have f:i - M.length=0:=by
   have:=(Zb.mp c).1;simp at this;lia
  rw[f] at c;cases c;exact⟨a,by rw[Zo (by rw[h.len];lia),h.len,f];rfl,n,z⟩
def ai:(S++[o])[S.length]?=aa o:=by rw[Zo (Zd _),Yh];rfl
def Kp.setNew{f:Nat}(h:Kp p S S')(b:S.length<=f):Kp p S (S'.set f o):=λi u n e=>by
 have hi:=(Zb.mp e).1;rw[ZE (by lia)];exact h i u n e
def Pot.setNe{f:Nat}(h:Pot p S)(b:f ≠ p):Pot p (S.set f o):=by
 obtain⟨n,e⟩:=h;exact⟨n,by rw[ZE b];exact e⟩
abbrev ac(q:Int × Int):D:=.tup [.int q.1,.int q.2]
def mr{f:Nat}(h:S[f]?=aa (.lst b))(hl:b.length < 100000):Ok (tJ (.ref f) [e] S) Q=Q .non (S.set f (.lst (b++[e]))):=by
 simp only[tJ,chg,h];rw[if_pos hl];exact aA
def eF{f:Nat}(h:S[f]?=aa (.lst b)):gM (.ref f) S=aT:=by simp only[gM,af h];rfl
def dj{f:Nat}(h:S[f]?=aa (.lst (ds++[e]))):ixS (.ref f) (.int (-1)) S=aa (e,S):=by
 have:atI (ds++[e]) (-1:Int)=aa e:=by
  unfold atI ixN;rw[if_neg (by decide),if_pos (by rw[Zi,Zy];lia)];show(ds++[e])[((-1:Int)+((ds++[e]).length:Int)).toNat]?=aa e;have:((-1:Int)+((ds++[e]).length:Int)).toNat=ds.length:=by rw[Zi,Zy];lia
  rw[this,Zo (Zd _),Yh];rfl
 simp only[ixS,ao,af h,Zv,this]
def yk{i:Nat}(h:b[i]?=aa d):ixS (.tup b) (.int i) S=aa (d,S):=by
 have hi:=(Zb.mp h).1
 have E:atI b (i:Int)=aa d:=by
  unfold atI ixN;rw[if_pos (by lia),if_pos (by lia),Zs];exact h
 simp only[ixS,ao,E,Zv]
def ut{i:Nat}(h:b[i]?=aa d):atI b (i:Int)=aa d:=by
 have hi:=(Zb.mp h).1;unfold atI ixN;rw[if_pos (by lia),if_pos (by lia),Zs];exact h
def DD:az .eq (.tup b) (.tup []) S=aa (.bl b.isEmpty,S):=by
 simp only[az,eqS]
 have:eqD 60 S (.tup b) (.tup [])=aa b.isEmpty:=by
  cases b <;> rfl
 rw[this];rfl
def DE:az .ne (.tup c) (.tup []) S=aa (.bl (!c.isEmpty),S):=uB (x:=.tup c) (y:=.tup []) (b:=c.isEmpty) (by cases c <;> rfl)
def IT:Ok (bF .add (.tup X) (.tup y) S) Q=(X.length+y.length<=1000/\Q (.tup (X++y)) S):=by
 simp only[bF,km,cR,aA,bg];apply propext;split
 ·rename_i h;exact⟨λz=>⟨h,z⟩,λz=>z.2⟩
 ·rename_i h;exact⟨λz=>z.elim,λz=>(h z.1).elim⟩
end
@[inline]abbrev WP(b:Type):=Rho->Sto->(b->Sto->Prop)->Prop
abbrev Sd{b:Type}(w:WP b)(x:Rho->Sto->Option (b × Sto)):Prop:=∀c S Q,w c S Q->Ok (x c S) Q
def be{b c:Type}{x:Option (b × Sto)}{f:b->Sto->Option (c × Sto)}{Q:c->Sto->Prop}(h:Ok x λa S=>Ok (f a S) Q):Ok (bnd x f) Q:=bu ▸ h
def bx{b:Type}{a:b}{S:Sto}{Q:b->Sto->Prop}(h:Q a S):Ok (aa (a,S)) Q:=⟨_,_,rfl,h⟩
abbrev wIf(b:Bool)(A B:Prop):Prop:=match b with
 |true=>A
 |false=>B
abbrev wBl(d:D)(Q:Bool->Prop):Prop:=match d with
 |.bl b=>Q b
 |.non=>False |.int _=>False |.str _=>False |.tup _=>False |.ref _=>False
abbrev cV(d:D)(Q:Int->Prop):Prop:=match d with
 |.int i=>Q i
 |.non=>False |.bl _=>False |.str _=>False |.tup _=>False |.ref _=>False
def pJ{d:D}{Q:Bool->Prop}(h:wBl d Q):∃b,d = .bl b/\Q b:=by cases d <;> first |exact h.elim |exact⟨_,rfl,h⟩
def b8{d:D}{Q:Int->Prop}(h:cV d Q):∃b,d = .int b/\Q b:=by cases d <;> first |exact h.elim |exact⟨_,rfl,h⟩
abbrev Ox(o:Option D)(Q:D->Prop):Prop:=match o with
 |some d=>Q d
 |none=>False
abbrev t7:Rho->Nat->(D->Prop)->Prop
 |[],_,_=>False
 |o::_,0,Q=>Ox o Q
 |_::ρ,i+1,Q=>t7 ρ i Q
def vo:∀ {ρ:Rho} {i:Nat} {Q:D->Prop},t7 ρ i Q->∃d,ρ[i]?=aa (aa d)/\Q d
 |[],_,_,h=>h.elim
 |some d::_,0,_,h=>⟨d,rfl,h⟩
 |none::_,0,_,h=>h.elim
 |o::ρ,i+1,_,h=>by rw[YF];exact vo (ρ:=ρ) h
abbrev MG(i:Nat):WP D:=λb S Q=>t7 b i λd=>Q d S
def MH{i:Nat}:Sd (MG i) (wj i):=λb S Q h=>by
 rw[IC];exact vo h
abbrev wC(d:D):WP D:=λ_ S Q=>Q d S
def s_c{d:D}:Sd (wC d) (xC d):=λ_ _ _ h=>bx h
abbrev DF(g:D->D->Sto->(D->Sto->Prop)->Prop)(x y:WP D):WP D:=λc S Q=>x c S λa h=>y c h λb f=>g a b f Q
def As{g:D->D->Sto->(D->Sto->Prop)->Prop}{f:D->D->Sto->Option (D × Sto)}{w v:WP D}{x y:XE}(hw:Sd w x)(c:Sd v y)(j:∀ {a b S Q},g a b S Q->Ok (f a b S) Q):Sd (DF g w v) (qt f x y):=
 λ_ _ _ h=>be ((hw _ _ _ h).mono λ_ _ h=>be ((c _ _ _ h).mono λ_ _ h=>j h))
abbrev wUn{b β:Type}(g:b->Sto->(β->Sto->Prop)->Prop)(x:WP b):WP β:=λf S Q=>x f S λa c=>g a c Q
def DG{b c:Type}{g:b->Sto->(c->Sto->Prop)->Prop}{f:b->Sto->Option (c × Sto)}{w:WP b}{x:Rho->Sto->Option (b × Sto)}(hw:Sd w x)(j:∀ {a S Q},g a S Q->Ok (f a S) Q):Sd (wUn g w) (λn S=>bnd (x n S) f):=
 λ_ _ _ h=>be ((hw _ _ _ h).mono λ_ _ h=>j h)
abbrev wOk{b c:Type}(f:b->Sto->Option (c × Sto))(a:b)(S:Sto)(Q:c->Sto->Prop):Prop:=Ok (f a S) Q
abbrev wII:BOp->Int->Int->Sto->(D->Sto->Prop)->Prop
 |.add,i,j,S,Q=>Q (.int (i+j)) S
 |.sub,i,j,S,Q=>Q (.int (i - j)) S
 |.mul,i,j,S,Q=>iH i j=aT/\Q (.int (i * j)) S
 |.mod,i,j,S,Q=>0 < j/\Q (.int (i % j)) S
 |.fdiv,i,j,S,Q=>(0 < j/\j < 1298074214633706907132624082305024)/\Q (.int (i / j)) S
 |.pow,i,j,S,Q=>(0<=j/\j<=1000000/\i.natAbs < 2 ^ 64)/\Q (.int (i ^ j.toNat)) S
def IU{o:BOp}{i j:Int}{S:Sto}{Q:D->Sto->Prop}(h:wII o i j S Q):Ok (bF o (.int i) (.int j) S) Q:=by
 cases o with
 |add=>rw[IE];exact h
 |sub=>rw[IG];exact h
 |mul=>rw[IM];exact h
 |mod=>rw[IL];exact h
 |fdiv=>rw[DC];exact h
 |pow=>rw[IP];exact h
abbrev wTT:BOp->List D->List D->Sto->(D->Sto->Prop)->Prop
 |.add,xs,ys,S,Q=>xs.length+ys.length<=1000/\Q (.tup (xs++ys)) S
 |.sub,_,_,_,_=>False
 |.mul,_,_,_,_=>False
 |.mod,_,_,_,_=>False
 |.fdiv,_,_,_,_=>False
 |.pow,_,_,_,_=>False
def IV{o:BOp}{i j:List D}{S:Sto}{Q:D->Sto->Prop}(h:wTT o i j S Q):Ok (bF o (.tup i) (.tup j) S) Q:=by
 cases o with
 |add=>rw[IT];exact h
 |_=>exact h.elim
abbrev Au(o:BOp)(i:Int)(y:D)(S:Sto)(Q:D->Sto->Prop):Prop:=match y with
 |.int j=>wII o i j S Q
 |.non=>False |.bl _=>False |.str _=>False |.ref _=>False
 |.tup ys=>Ok (bF o (.int i) (.tup ys) S) Q
abbrev vp(o:BOp)(X:List D)(y:D)(S:Sto)(Q:D->Sto->Prop):Prop:=match y with
 |.tup ys=>wTT o X ys S Q
 |.non=>False |.bl _=>False |.str _=>False |.ref _=>False
 |.int j=>Ok (bF o (.tup X) (.int j) S) Q
abbrev t8(o:BOp)(x y:D)(S:Sto)(Q:D->Sto->Prop):Prop:=match x with
 |.int i=>Au o i y S Q
 |.tup xs=>vp o xs y S Q
 |.non=>Ok (bF o .non y S) Q
 |.bl b=>Ok (bF o (.bl b) y S) Q
 |.str b=>Ok (bF o (.str b) y S) Q
 |.ref b=>Ok (bF o (.ref b) y S) Q
def DH{o:BOp}{x y:D}{S:Sto}{Q:D->Sto->Prop}(h:t8 o x y S Q):Ok (bF o x y S) Q:=by
 cases x with
 |int i=>cases y with
  |int j=>exact IU h
  |tup Y=>exact h
  |_=>exact h.elim
 |tup X=>cases y with
  |int j=>exact h
  |tup Y=>exact IV h
  |_=>exact h.elim
 |_=>exact h
abbrev wCI:COp->Int->Int->Sto->(D->Sto->Prop)->Prop
 |.eq,i,j,S,Q=>Q (.bl (decide (i=j))) S
 |.ne,i,j,S,Q=>Q (.bl (!decide (i=j))) S
 |.lt,i,j,S,Q=>Q (.bl (decide (i < j))) S
 |.le,i,j,S,Q=>Q (.bl (decide (i<=j))) S
 |.gt,i,j,S,Q=>Q (.bl (decide (j < i))) S
 |.ge,i,j,S,Q=>Q (.bl (decide (j<=i))) S
 |.is,_,_,_,_=>False
 |.isnot,_,_,_,_=>False
 |.isin,_,_,_,_=>False
 |.notin,_,_,_,_=>False
def IW{o:COp}{i j:Int}{S:Sto}{Q:D->Sto->Prop}(h:wCI o i j S Q):Ok (az o (.int i) (.int j) S) Q:=by
 cases o with
 |eq=>rw[II];exact h
 |ne=>rw[IJ];exact h
 |lt=>rw[MC];exact h
 |le=>rw[MB];exact h
 |gt=>rw[MD];exact h
 |ge=>rw[ME];exact h
 |_=>exact h.elim
abbrev IX(o:COp)(i:Int)(y:D)(S:Sto)(Q:D->Sto->Prop):Prop:=match y with
 |.int j=>wCI o i j S Q
 |.non=>Ok (az o (.int i) .non S) Q
 |.bl b=>Ok (az o (.int i) (.bl b) S) Q
 |.str b=>Ok (az o (.int i) (.str b) S) Q
 |.ref b=>Ok (az o (.int i) (.ref b) S) Q
 |.tup b=>Ok (az o (.int i) (.tup b) S) Q
abbrev xm(o:COp)(X:List D)(y:D)(S:Sto)(Q:D->Sto->Prop):Prop:=match o with
 |.eq=>match y with
  |.tup ys=>match ys with
   |[]=>Q (.bl X.isEmpty) S
   |y::ys=>Ok (az .eq (.tup X) (.tup (y::ys)) S) Q
  |.non=>Ok (az .eq (.tup X) .non S) Q
  |.bl b=>Ok (az .eq (.tup X) (.bl b) S) Q
  |.str b=>Ok (az .eq (.tup X) (.str b) S) Q
  |.ref b=>Ok (az .eq (.tup X) (.ref b) S) Q
  |.int b=>Ok (az .eq (.tup X) (.int b) S) Q
 |.ne=>match y with
  |.tup ys=>match ys with
   |[]=>Q (.bl (!X.isEmpty)) S
   |y::ys=>Ok (az .ne (.tup X) (.tup (y::ys)) S) Q
  |.non=>Ok (az .ne (.tup X) .non S) Q
  |.bl b=>Ok (az .ne (.tup X) (.bl b) S) Q
  |.str b=>Ok (az .ne (.tup X) (.str b) S) Q
  |.ref b=>Ok (az .ne (.tup X) (.ref b) S) Q
  |.int b=>Ok (az .ne (.tup X) (.int b) S) Q
 |.is=>Ok (az .is (.tup X) y S) Q
 |.isnot=>Ok (az .isnot (.tup X) y S) Q
 |.isin=>Ok (az .isin (.tup X) y S) Q
 |.notin=>Ok (az .notin (.tup X) y S) Q
 |.lt=>False |.le=>False |.gt=>False |.ge=>False
abbrev wCx(o:COp)(x y:D)(S:Sto)(Q:D->Sto->Prop):Prop:=match x with
 |.int i=>IX o i y S Q
 |.tup xs=>xm o xs y S Q
 |.non=>Ok (az o .non y S) Q
 |.bl b=>Ok (az o (.bl b) y S) Q
 |.str b=>Ok (az o (.str b) y S) Q
 |.ref b=>Ok (az o (.ref b) y S) Q
def IY{o:COp}{x y:D}{S:Sto}{Q:D->Sto->Prop}(h:wCx o x y S Q):Ok (az o x y S) Q:=by
 cases x with
 |int i=>cases y with
  |int j=>exact IW h
  |_=>exact h
 |tup X=>cases o with
  |eq=>cases y with
   |tup Y=>cases Y with
    |nil=>rw[DD,aA];exact h
    |cons y Y=>exact h
   |_=>exact h
  |ne=>cases y with
   |tup Y=>cases Y with
    |nil=>rw[DE,aA];exact h
    |cons y Y=>exact h
   |_=>exact h
  |lt=>exact h.elim
  |le=>exact h.elim
  |gt=>exact h.elim
  |ge=>exact h.elim
  |_=>exact h
 |_=>exact h
abbrev wCm(o:COp)(x y:D)(S:Sto)(Q:D->Sto->Prop):Prop:=match o with
 |.is=>Ok (az .is x y S) Q
 |.isnot=>Ok (az .isnot x y S) Q
 |.isin=>Ok (az .isin x y S) Q
 |.notin=>Ok (az .notin x y S) Q
 |.eq=>wCx .eq x y S Q
 |.ne=>wCx .ne x y S Q
 |.lt=>wCx .lt x y S Q
 |.le=>wCx .le x y S Q
 |.gt=>wCx .gt x y S Q
 |.ge=>wCx .ge x y S Q
def pK{o:COp}{x y:D}{S:Sto}{Q:D->Sto->Prop}(h:wCm o x y S Q):Ok (az o x y S) Q:=by
 cases o <;> first |exact IY h |exact h
abbrev IZ(o p:COp)(x y z:WP D):WP D:=λf S Q=>x f S λa n=>y f n λb h=>wCm o a b h λr g=>wBl r λc=>wIf c (z f g λe j=>wCm p b e j Q) (Q (.bl aW) g)
def F1{o p:COp}{w v u:WP D}{x y z:XE}(hw:Sd w x)(f:Sd v y)(g:Sd u z):Sd (IZ o p w v u) (wQ (az o) (az p) x y z):=λ_ _ _ h=>by
 rw[IB];refine(hw _ _ _ h).mono λa q h=>(f _ _ _ h).mono λb j h=>(pK h).mono λr B h=>?_;obtain⟨c,e,h⟩:=pJ h;refine⟨c,e,?_⟩;cases c with
 |true=>exact(g _ _ _ h).mono λe n h=>pK h
 |false=>exact h
abbrev MI(x y:WP D):WP D:=λc S Q=>x c S λd f=>wBl d λb=>wIf b (y c f Q) (Q (.bl aW) f)
def MJ{w v:WP D}{x y:XE}(hw:Sd w x)(b:Sd v y):Sd (MI w v) (zl x y):=λ_ _ _ h=>by
 rw[Iz];refine(hw _ _ _ h).mono λa f h=>?_;obtain⟨c,e,h⟩:=pJ h;refine⟨c,e,?_⟩;cases c with
 |true=>exact b _ _ _ h
 |false=>exact h
abbrev wOr(x y:WP D):WP D:=λc S Q=>x c S λd f=>wBl d λb=>wIf b (Q (.bl aT) f) (y c f Q)
def Oy{w v:WP D}{x y:XE}(hw:Sd w x)(b:Sd v y):Sd (wOr w v) (xOr x y):=λ_ _ _ h=>by
 rw[MA];refine(hw _ _ _ h).mono λa f h=>?_;obtain⟨c,e,h⟩:=pJ h;refine⟨c,e,?_⟩;cases c with
 |false=>exact b _ _ _ h
 |true=>exact h
abbrev ML(x:WP D):WP D:=λb S Q=>x b S λd c=>cV d λi=>Q (.int (-i)) c
def MM{w:WP D}{x:XE}(hw:Sd w x):Sd (ML w) (xUn HD x):=λ_ _ _ h=>be ((hw _ _ _ h).mono λa b h=>by
 obtain⟨i,rfl,h⟩:=b8 h;exact bx h)
abbrev MO{α:Type}(c:WP Bool)(x y:WP α):WP α:=λf S Q=>c f S λb g=>wIf b (x f g Q) (y f g Q)
def MP{c:WP Bool}{w v:WP D}{t:XT}{x y:XE}(hc:Sd c t)(hw:Sd w x)(f:Sd v y):Sd (MO c w v) (HE t x y):=λ_ _ _ h=>be ((hc _ _ _ h).mono λb g h=>by
 cases b with
 |true=>exact hw _ _ _ h
 | false=>exact f _ _ _ h)
abbrev wO:Option (WP D)->WP (Option Int)
 |none=>λ_ S Q=>Q aD S
 |some w=>λc S Q=>w c S λd b=>cV d λi=>Q (aa i) b
abbrev t9(lo hi:Option Int)(d:D)(S:Sto)(Q:D->Sto->Prop):Prop:=match d with
 |.tup ds=>Q (.tup (gH ds lo hi)) S
 |.ref n=>Ok (slS lo hi (.ref n) S) Q
 |.non=>False |.bl _=>False |.str _=>False |.int _=>False
abbrev wSl(x:WP D)(lo hi:WP (Option Int)):WP D:=λb S Q=>x b S λd f=>lo b f λl c=>hi b c λh g=>t9 l h d g Q
def Oz:Sd (wO aD) sZ:=λ_ _ _ h=>bx h
def OA{w:WP D}{x:XE}(hw:Sd w x):Sd (wO (aa w)) (td x):=λ_ _ _ h=>be ((hw _ _ _ h).mono λd b h=>by
 obtain⟨i,rfl,h⟩:=b8 h;exact bx h)
def OB{w:WP D}{l u:WP (Option Int)}{x:XE}{lo hi:XO}(hw:Sd w x)(hl:Sd l lo)(c:Sd u hi):Sd (wSl w l u) (xSl x lo hi):=λ_ _ _ h=>be ((hw _ _ _ h).mono λd j h=>be ((hl _ _ _ h).mono λa g h=>be ((c _ _ _ h).mono λb o h=>by
 cases d with
 |tup f=>exact bx h
 |ref n=>exact h
 | _=>exact h.elim)))
abbrev F2(g:List D->Sto->Option (D × Sto))(n:Nat)(x:WP (List D)):WP D:=λc S Q=>x c S λb f=>b.length=n/\Ok (g b f) Q
def I0{g:List D->Sto->Option (D × Sto)}{n:Nat}{w:WP (List D)}{x:XA}(hw:Sd w x):Sd (F2 g n w) (qM g n x):=λ_ _ _ h=>by
 rw[Ds];exact hw _ _ _ h
abbrev iq(x:WP (List D)):WP D:=λf S Q=>x f S λc b=>Q (.ref b.length) (b++[.lst c])
def fe{w:WP (List D)}{x:XA}(hw:Sd w x):Sd (iq w) (cK x):=λ_ _ _ h=>by rw[Ao];exact hw _ _ _ h
abbrev ff:Nat->List CE->Prop->Prop
 |_,[],A=>A
 |0,_::_,_=>False
 |n+1,_::es,A=>ff n es A
def i6:∀ {n:Nat} {es:List CE} {A:Prop},ff n es A->es.length<=n/\A
 |n,[],_,h=>⟨Yb _,by cases n <;> exact h⟩
 |0,_::_,_,h=>h.elim
 |n+1,_::es,_,h=>by rw[ZD];exact⟨X7 (i6 (es:=es) h).1,(i6 (es:=es) h).2⟩
abbrev wSh{α:Type}(E:List CE)(x:WP α):WP α:=λb S Q=>ff 60 E (x b S Q)
abbrev DI(c:D->Sto->Bool)(f:D->List D->Sto->Option (D × Sto))(x:WP D)(y:WP (List D)):WP D:=λb S Q=>x b S λd g=>c d g=aT/\y b g λh j=>Ok (f d h j) Q
def Av{c:D->Sto->Bool}{f:D->List D->Sto->Option (D × Sto)}{w:WP D}{v:WP (List D)}{x:XE}{y:XA}(hw:Sd w x)(b:Sd v y):Sd (DI c f w v) (y8 c f x y):=λ_ _ _ h=>be ((hw _ _ _ h).mono λd g h=>by
 rw[if_pos h.1];exact be (b _ _ _ h.2))
abbrev Aw(x:WP D):WP (List D):=λc S Q=>x c S λd b=>∃n ns,d = .ref n/\b[n]?=aa (.lst (ns.map D.int))/\o8 ns=aT/\Q (ns.map D.int) b
def Ax{w:WP D}{x:XE}(hw:Sd w x):Sd (Aw w) (nD x):=λ_ _ _ h=>Dy (hw _ _ _ h)
abbrev I8(x:WP D):WP (List D):=λb S Q=>x b S λd c=>∃i:Nat,d = .int i/\i<=1000/\Q ((Zh i).map λj=>.int (Int.ofNat j)) c
def F3{w:WP D}{x:XE}(hw:Sd w x):Sd (I8 w) (wW x):=λ_ _ _ h=>IH (hw _ _ _ h)
abbrev MQ:WP (List D):=λ_ S Q=>Q [] S
def MR:Sd MQ Cr:=λ_ _ _ h=>bx h
abbrev F4(x:WP D)(y:WP (List D)):WP (List D):=λb S Q=>x b S λa g=>y b g λc f=>Q (a::c) f
def Ja{w:WP D}{v:WP (List D)}{x:XE}{y:XA}(hw:Sd w x)(b:Sd v y):Sd (F4 w v) (uz x y):=λ_ _ _ h=>be ((hw _ _ _ h).mono λd g h=>be ((b _ _ _ h).mono λc f h=>bx h))
abbrev OC(o:Option D)(A:Prop):Prop:=match o with
 |none=>A
 |some _=>False
abbrev wFr:Rho->Nat->Prop->Prop
 |[],_,_=>False
 |o::_,0,A=>OC o A
 |_::ρ,i+1,A=>wFr ρ i A
def pL:∀ {ρ:Rho} {i:Nat} {A:Prop},wFr ρ i A->ρ[i]?=aa aD/\A
 |[],_,_,h=>h.elim
 |none::_,0,_,h=>⟨rfl,h⟩
 |some _::_,0,_,h=>h.elim
 |o::ρ,i+1,_,h=>by rw[YF];exact pL (ρ:=ρ) h
abbrev rk:List Tg->Rho->Prop->Prop
 |[],_,A=>A
 |.name i::ts,ρ,A=>wFr ρ i (rk ts ρ A)
 |.tup us::ts,ρ,A=>cZ (.tup us) ρ=aT/\rk ts ρ A
abbrev wFt:Tg->Rho->Prop->Prop
 |.name i,ρ,A=>wFr ρ i A
 |.tup ts,ρ,A=>rk ts ρ A
def oq{i:Nat}{b:Rho}(h:b[i]?=aa aD):cZ (.name i) b=aT:=by rw[cZ,h]
def pM:∀ {T:List Tg} {b:Rho} {A:Prop},rk T b A->fH T b=aT/\A
 |[],_,_,h=>⟨by rw[fH],h⟩
 |.name i::T,b,_,h=>by
  obtain⟨e,h⟩:=pL h;obtain⟨E,h⟩:=pM h;exact⟨by rw[fH,oq e,E];rfl,h⟩
 |.tup us::T,b,_,h=>by
  obtain⟨e,h⟩:=h;obtain⟨E,h⟩:=pM h;exact⟨by rw[fH,e,E];rfl,h⟩
def ua{t:Tg}{b:Rho}{A:Prop}(h:wFt t b A):cZ t b=aT/\A:=by
 cases t with
 |name i=>exact⟨oq (pL h).1,(pL h).2⟩
 |tup T=>rw[cZ];exact pM h
abbrev rl:List Str->Rho->(Rho->Prop)->Prop
 |[],r,Q=>Q r
 |_::own,r,Q=>rl own (aD::r) Q
abbrev rm:Rho->Rho->(Rho->Prop)->Prop
 |[],r,Q=>Q r
 |o::ρ,r,Q=>rm ρ r λb=>Q (o::b)
def vq:∀ {ρ r:Rho} {Q:Rho->Prop},rm ρ r Q->Q (ρ++r)
 |[],_,_,h=>h
 |o::ρ,r,Q,h=>vq (ρ:=ρ) (Q:=λb=>Q (o::b)) h
def vt:∀ {own:List Str} {k:Nat} {Q:Rho->Prop},rl own (Zr k aD) Q->Q (Zr (own.length+k) aD)
 |[],k,_,h=>by rw[Xv,Ws];exact h
 |_::own,k,Q,h=>by
  have:=vt (own:=own) (k:=k+1) h;rw[ZD,show own.length+1+k=own.length+(k+1) by lia];exact this
abbrev F5(own:List Str)(I:WP Nxt)(T:Tg)(c:XA)(k:Nat):WP (List D):=λf S Q=>I f S λnx h=>rl own [] λr=>rm f r λb=>wFt T b (Ok (bn nx T c b k 0 h) λE g=>E.length<=100000/\Q E g)
def Ay{own:List Str}{k:Nat}{w:WP Nxt}{I:XI}{T:Tg}{c:XA}(hw:Sd w I):Sd (F5 own w T c k) (lu own.length I T c k):=λ_ _ _ h=>by
 rw[Dt]
 exact(hw _ _ _ h).mono λnx b h=>by
  have h:=vq (vt (own:=own) (k:=0) h);exact ua h
abbrev Az(I:WP Nxt)(T:Tg)(c:XA)(k:Nat):WP (List D):=λb S Q=>wFt T b (I b S λnx f=>Ok (bn nx T c b k 0 f) Q)
def DJ{k:Nat}{w:WP Nxt}{I:XI}{T:Tg}{c:XA}(hw:Sd w I):Sd (Az w T c k) (jq I T c k):=λ_ _ _ h=>by
 rw[An];exact⟨(ua h).1,hw _ _ _ (ua h).2⟩
abbrev AA(d:D)(b:Sto)(Q:Nxt->Sto->Prop):Prop:=match d with
 |.tup ds=>Q (nxL ds) b
 |.ref n=>(aH b n).isSome=aT/\Q (nxS n) b
 |.non=>False |.bl _=>False |.str _=>False |.int _=>False
def OD{w:WP D}{x:XE}(hw:Sd w x):Sd (λc S Q=>w c S λd b=>AA d b Q) (xIV x):=λ_ _ _ h=>be ((hw _ _ _ h).mono λd b h=>by
 cases d with
 |tup f=>exact bx h
 |ref n=>dsimp only;rw[if_pos h.1];exact bx h.2
 | _=>exact h.elim)
abbrev AB(d:D)(b:Sto)(Q:Nxt->Sto->Prop):Prop:=match d with
 |.tup ds=>Q (wL ds) b
 |.ref n=>(aH b n).isSome=aT/\Q (wM n) b
 |.non=>False |.bl _=>False |.str _=>False |.int _=>False
def OE{w:WP D}{x:XE}(hw:Sd w x):Sd (λc S Q=>w c S λd b=>AB d b Q) (xEV x):=λ_ _ _ h=>be ((hw _ _ _ h).mono λd b h=>by
 cases d with
 |tup f=>exact bx h
 |ref n=>dsimp only;rw[if_pos h.1];exact bx h.2
 | _=>exact h.elim)
abbrev wOn{b β:Type}(f:b->β)(x:WP b):WP β:=λc S Q=>x c S λa g=>Q (f a) g
def AC{b j:Type}{f:b->j}{w:WP b}{x:Rho->Sto->Option (b × Sto)}(hw:Sd w x):Sd (wOn f w) (λg S=>bnd (x g S) λa c=>aa (f a,c)):=λ_ _ _ h=>be ((hw _ _ _ h).mono λd c h=>bx h)
abbrev wR1(x:WP D):WP Nxt:=λb S Q=>x b S λd c=>cV d λj=>lim j=aT/\Q (nxR 0 j.toNat) c
def OG{w:WP D}{x:XE}(hw:Sd w x):Sd (wR1 w) (xR1 x):=λ_ _ _ h=>be ((hw _ _ _ h).mono λd b h=>by
 obtain⟨i,rfl,h⟩:=b8 h;dsimp only;rw[if_pos h.1];exact bx h.2)
abbrev wR2(x y:WP D):WP Nxt:=λb S Q=>x b S λd f=>y b f λe c=>cV d λi=>cV e λj=>(lim i=aT/\lim j=aT)/\Q (nxR i (j - i).toNat) c
def OH{w v:WP D}{x y:XE}(hw:Sd w x)(c:Sd v y):Sd (wR2 w v) (xR2 x y):=λ_ _ _ h=>be ((hw _ _ _ h).mono λd n h=>be ((c _ _ _ h).mono λe g h=>by
 obtain⟨i,rfl,f⟩:=b8 h;obtain⟨j,rfl,b⟩:=b8 f;dsimp only;rw[if_pos b.1];exact bx b.2))
abbrev bS(d:D)(S:Sto)(Q:Bool->Sto->Prop):Prop:=match d with
 |.bl b=>Q b S
 |.tup ds=>Q (!ds.isEmpty) S
 |.int i=>Q (i != 0) S
 |.non=>Q aW S
 |.str y=>Ok (fG (.str y) S) Q
 |.ref y=>Ok (fG (.ref y) S) Q
def rn{d:D}{S:Sto}{Q:Bool->Sto->Prop}(h:bS d S Q):Ok (fG d S) Q:=by cases d <;> first |exact bx h |exact h
abbrev MS(x:WP D):WP D:=λf S Q=>x f S λd g=>bS d g λb c=>Q (.bl (!b)) c
def MU{w:WP D}{x:XE}(hw:Sd w x):Sd (MS w) (xUn zm x):=λ_ _ _ h=>be ((hw _ _ _ h).mono λa b h=>by
 rw[IA];exact rn h)
abbrev wB(x:WP D):WP Bool:=λf S Q=>x f S λd c=>wBl d λb=>Q b c
def s_b{w:WP D}{x:XE}(hw:Sd w x):Sd (wB w) (xB x):=λ_ _ _ h=>by
 rw[MF];exact(hw _ _ _ h).mono λd b h=>pJ h
abbrev F6(x y:WP Bool):WP Bool:=λc S Q=>x c S λb f=>wIf b (y c f Q) (Q aW f)
abbrev MV(x y:WP Bool):WP Bool:=λc S Q=>x c S λb f=>wIf b (Q aT f) (y c f Q)
abbrev F7(x:WP Bool):WP Bool:=λf S Q=>x f S λb c=>Q (!b) c
def Jb{w v:WP Bool}{x y:XT}(hw:Sd w x)(c:Sd v y):Sd (F6 w v) (zp x y):=λ_ _ _ h=>be ((hw _ _ _ h).mono λb f h=>by
 cases b with
 |true=>exact c _ _ _ h
 | false=>exact bx h)
def MW{w v:WP Bool}{x y:XT}(hw:Sd w x)(c:Sd v y):Sd (MV w v) (HH x y):=λ_ _ _ h=>be ((hw _ _ _ h).mono λb f h=>by
 cases b with
 |false=>exact c _ _ _ h
 | true=>exact bx h)
def Jc{w:WP Bool}{x:XT}(hw:Sd w x):Sd (F7 w) (zq x):=λ_ _ _ h=>be ((hw _ _ _ h).mono λb c h=>bx h)
abbrev F8(t:WP Bool)(c:WP (List D)):WP (List D):=λf S Q=>t f S λb g=>wIf b (c f g Q) (Q [] g)
def Jd{t:WP Bool}{c:WP (List D)}{x:XT}{y:XA}(f:Sd t x)(hc:Sd c y):Sd (F8 t c) (zi x y):=λ_ _ _ h=>be ((f _ _ _ h).mono λb g h=>by
 cases b with
 |true=>exact hc _ _ _ h
 | false=>exact bx h)
abbrev DK(f:Bool->List D->Option (List D))(b:List D)(S:Sto)(Q:List D->Sto->Prop):Prop:=∃E,f aW b=aa E/\Q E S
abbrev DM(f:Bool->List D->Option (List D))(d:D)(S:Sto)(Q:List D->Sto->Prop):Prop:=∃r E,ao d S=aa r/\f r.1 r.2=aa E/\Q E S
abbrev ub(d:D)(S:Sto)(Q:List D->Sto->Prop):Prop:=Ok ((ao d S).map λr=>(r.2,S)) Q
def MX{f:Bool->List D->Option (List D)}{w:WP (List D)}{x:XA}(hw:Sd w x):Sd (λg S Q=>w g S λb c=>DK f b c Q) (wR f x):=λ_ _ _ h=>be ((hw _ _ _ h).mono λb c ⟨E,e,h⟩=>by rw[e];exact bx h)
def MY{f:Bool->List D->Option (List D)}{w:WP D}{x:XE}(hw:Sd w x):Sd (λg S Q=>w g S λb c=>DM f b c Q) (wU f x):=λ_ _ _ h=>be ((hw _ _ _ h).mono λb c ⟨r,j,E,e,h⟩=>by
 rw[E];dsimp only;rw[e];exact bx h)
abbrev wNo{α:Type}:WP α:=λ_ _ _=>False
def pN{b:Type}{x:Rho->Sto->Option (b × Sto)}:Sd wNo x:=λ_ _ _ h=>h.elim
abbrev aZ(b:Bool)(x:WP (List D))(y:WP D)(c:Rho)(S:Sto)(KT:List D->Sto->Prop)(KV:D->Sto->Prop):Prop:=match b with
 |true=>x c S KT
 |false=>y c S KV
abbrev wOf{α:Type}(b:Bool)(x:WP (List D))(y:WP D)(gt:List D->Sto->(α->Sto->Prop)->Prop)(h:D->Sto->(α->Sto->Prop)->Prop):WP α:=λg S Q=>aZ b x y g S (λf c=>gt f c Q) (λd c=>h d c Q)
def s_of{c:Type}{b:Bool}{w:WP (List D)}{v:WP D}{gt:List D->Sto->(c->Sto->Prop)->Prop}{h:D->Sto->(c->Sto->Prop)->Prop}{x y:Rho->Sto->Option (c × Sto)}(hw:Sd (λf S Q=>w f S λj g=>gt j g Q) x)(n:Sd (λf S Q=>v f S λd g=>h d g Q) y):Sd (wOf b w v gt h) (if b=aT then x else y):=by
 cases b with
 |true=>exact hw
 |false=>exact n
def OI{b:Bool}{w:WP (List D)}{v u:WP D}{x:XA}{y z:XE}(hw:Sd w x)(o:Sd u z)(n:Sd v y):Sd (λc S Q=>aZ b w u c S (λj f=>v c f λi g=>cV i λk=>∃d,atI j k=aa d/\Q d g) (λd f=>v c f λi g=>Ok (ixS d i g) Q)) (if b=aT then sW x y else qt ixS z y):=λc S Q h=>by
 cases b with
 |true=>
  show Ok (sW x y c S) Q;rw[IR];exact(hw _ _ _ h).mono λj f h=>(n _ _ _ h).mono λi g h=>b8 h
 |false=>exact be ((o _ _ _ h).mono λj f h=>be (n _ _ _ h))
abbrev wO2(t:CE->WP D):Option CE->Option (WP D)
 |none=>aD
 |some e=>aa (t e)
abbrev DN(t:CE->WP Bool):Option CE->WP (List D)->WP (List D)
 |some c,x=>F8 (t c) x
 |none,x=>x
abbrev AE(x y:D)(S:Sto)(Q:D->Sto->Prop):Prop:=cV x λi=>cV y λj=>Q (.int (if j > i then j else i)) S
abbrev AF(x y:D)(S:Sto)(Q:D->Sto->Prop):Prop:=cV x λi=>cV y λj=>Q (.int (if j < i then j else i)) S
abbrev w2(g:D->D->Sto->(D->Sto->Prop)->Prop):List D->Sto->(D->Sto->Prop)->Prop
 |[],_,_=>False
 |[_],_,_=>False
 |[x,y],S,Q=>g x y S Q
 |_::_::_::_,_,_=>False
def F9{g:D->D->Sto->(D->Sto->Prop)->Prop}{f:D->D->Sto->Option (D × Sto)}(j:∀ {a b S Q},g a b S Q->Ok (f a b S) Q):∀ {c:List D} {S:Sto} {Q:D->Sto->Prop},w2 g c S Q->Ok (two f c S) Q
 |[],_,_,h=>h.elim
 |[_],_,_,h=>h.elim
 |[x,y],_,_,h=>j h
 |_::_::_::_,_,_,h=>h.elim
abbrev wCf(i:CI->WP Nxt)(own:List Str)(t:CE->XT)(e:List Cl->XA):List Cl->WP (List D)
 |[]=>wNo
 |⟨tg,it,cond⟩::rest=>F5 own (i it) tg (cnd t cond (e rest)) LF
mutual
noncomputable def wE(C:Calls)(g:Nat->Nat):Nat->CE->WP D
 |0,_=>wNo
 |n+1,e=>match e with
  |.non=>wC .non
  |.bl b=>wC (.bl b)
  |.int i=>wC (.int i)
  |.str x=>wC (.str x)
  |.var i=>MG i
  |.con _ v=>wC (.int v)
  |.tup es=>wSh es (wOn D.tup (wA C g n es))
  |.lst es=>iq (wSh es (wA C g n es))
  |.bin o a b=>DF (t8 o) (wE C g n a) (wE C g n b)
  |.neg a=>ML (wE C g n a)
  |.cmp o a b=>DF (wCm o) (wE C g n a) (wE C g n b)
  |.chn o p a b c=>IZ o p (wE C g n a) (wE C g n b) (wE C g n c)
  |.and a b=>MI (wE C g n a) (wE C g n b)
  |.or a b=>wOr (wE C g n a) (wE C g n b)
  |.not a=>MS (wE C g n a)
  |.ite c a b=>MO (wT C g n c) (wE C g n a) (wE C g n b)
  |.ix a b=>λq S Q=>aZ (ak a) (wTm C g n a) (wE C g n a) q S (λh u=>wE C g n b q u λi j=>cV i λk=>∃d,atI h k=aa d/\Q d j) (λd u=>wE C g n b q u λi j=>Ok (ixS d i j) Q)
  |.sl a lo hi=>wSl (wE C g n a) (wO (wO2 (wE C g n) lo)) (wO (wO2 (wE C g n) hi))
  |.call f es=>F2 (C f) (g f) (wA C g n es)
  |.inst t a=>wUn (wOk (iJ t)) (wE C g n a)
  |.len a=>wOf (ak a) (wTm C g n a) (wE C g n a) (wOk (cg aW)) (wOk (ax cg))
  |.all a=>wOf (ak a) (wTm C g n a) (wE C g n a) (wOk (jj aW)) (wOk (ax jj))
  |.any a=>wOf (ak a) (wTm C g n a) (wE C g n a) (wOk (mS aW)) (wOk (ax mS))
  |.tupOf a=>wOf (ak a) (wTm C g n a) (wE C g n a) (wOk (ji aW)) (wOk (ax ji))
  |.listOf a=>iq (wOf (ak a) (wTm C g n a) (wE C g n a) (λh S Q=>Q h S) ub)
  |.listR a=>iq (I8 (wE C g n a))
  |.sset a=>iq (Aw (wE C g n a))
  |.srt a=>iq (wOf (ak a) (wTm C g n a) (wE C g n a) (DK cD) (DM cD))
  |.mxL a=>wOf (ak a) (wTm C g n a) (wE C g n a) (wOk (kn aW)) (wOk (ax kn))
  |.intOf a=>wUn (wOk y7) (wE C g n a)
  |.mx a b=>wUn (w2 AE) (wA C g n [a,b])
  |.mn a b=>wUn (w2 AF) (wA C g n [a,b])
  |.comp own elt cls=>iq (wCf (wI C g n) own (evT C g n) (gI C g n elt) cls)
  |.app o a=>DI gM tJ (wE C g n o) (wA C g n [a])
  |.popAt o a=>DI gM g8 (wE C g n o) (wA C g n [a])
  |.cnt o a=>DI (λd _=>isTup d) tL (wE C g n o) (wA C g n [a])
noncomputable def wA(C:Calls)(b:Nat->Nat):Nat->List CE->WP (List D)
 |0,_=>wNo
 |n+1,es=>match es with
  |[]=>MQ
  |e::es=>F4 (wE C b n e) (wA C b n es)
noncomputable def wTm(C:Calls)(b:Nat->Nat):Nat->CE->WP (List D)
 |0,_=>wNo
 |n+1,e=>match e with
  |.lst es=>wSh es (wA C b n es)
  |.listOf a=>wOf (ak a) (wTm C b n a) (wE C b n a) (λc S Q=>Q c S) ub
  |.listR a=>I8 (wE C b n a)
  |.sset a=>Aw (wE C b n a)
  |.srt a=>wOf (ak a) (wTm C b n a) (wE C b n a) (DK cD) (DM cD)
  |.comp own elt cls=>wCf (wI C b n) own (evT C b n) (gI C b n elt) cls
  |_=>wNo
noncomputable def wI(C:Calls)(c:Nat->Nat):Nat->CI->WP Nxt
 |0,_=>wNo
 |n+1,it=>match it with
  |.val a=>wOf (ak a) (wTm C c n a) (wE C c n a) (λf S Q=>Q (nxL f) S) AA
  |.r1 a=>wR1 (wE C c n a)
  |.r2 a b=>wR2 (wE C c n a) (wE C c n b)
  |.en a=>wOf (ak a) (wTm C c n a) (wE C c n a) (λf S Q=>Q (wL f) S) AB
noncomputable def wT(C:Calls)(f:Nat->Nat):Nat->CE->WP Bool
 |0,_=>wNo
 |n+1,e=>match e with
  |.cmp o a b=>wB (DF (wCm o) (wE C f n a) (wE C f n b))
  |.chn o p a b c=>wB (IZ o p (wE C f n a) (wE C f n b) (wE C f n c))
  |.and a b=>F6 (wT C f n a) (wT C f n b)
  |.or a b=>MV (wT C f n a) (wT C f n b)
  |.not a=>F7 (wT C f n a)
  |.ite _ _ _=>wNo
  |e=>wUn bS (wE C f n e)
end
abbrev wCl(C:Calls)(b:Nat->Nat)(n:Nat)(E:CE):List Cl->WP (List D)
 |[]=>wOn (λd=>[d]) (wE C b n E)
 |⟨tg,it,cond⟩::rest=>Az (wI C b n it) tg (cnd (evT C b n) cond (gI C b n E rest)) LF
def pO{C:Calls}{c:Nat->Nat}:∀ {n:Nat} {E:List CE} {f:Rho} {S g:Sto} {b:List D},evA C c n E f S=aa (b,g)->b.length=E.length
 |0,_,_,_,_,_,h=>by simp only[evA,xNo] at h;cases h
 |n+1,[],_,_,_,_,h=>by simp only[evA,Cr] at h;cases h;rfl
 |n+1,e::E,_,_,_,_,h=>by
  simp only[evA,uz] at h;obtain⟨a,u,q,h⟩:=ag h;obtain⟨o,p,j,h⟩:=ag h;cases h;rw[ZD,ZD,pO j]
structure SndW(C:Calls)(ar:Nat->Nat)(n:Nat):Prop where
 e:∀ {e:CE},Sd (wE C ar n e) (evE C ar n e)
 a:∀ {es:List CE},Sd (wA C ar n es) (evA C ar n es)
 m:∀ {e:CE},Sd (wTm C ar n e) (ci C ar n e)
 i:∀ {i:CI},Sd (wI C ar n i) (evI C ar n i)
 t:∀ {e:CE},Sd (wT C ar n e) (evT C ar n e)
section
variable {C:Calls} {ar:Nat->Nat} {n:Nat}
def MZ(h:SndW C ar n){E:List CE}:Sd (wSh E (wOn D.tup (wA C ar n E))) (kj kl (evA C ar n E)):=λg S Q w=>by
 obtain⟨le,w⟩:=i6 w;obtain⟨b,f,c,q⟩:=h.a _ _ _ w;refine be ⟨b,f,c,?_⟩;have l:=pO c;show Ok (kl b f) Q;rw[Dv];exact⟨by lia,q⟩
def AG(h:SndW C ar n){E:List CE}:Sd (wSh E (wA C ar n E)) (nu (evA C ar n E)):=λg S Q w=>by
 obtain⟨le,w⟩:=i6 w;obtain⟨c,f,b,q⟩:=h.a _ _ _ w;rw[Du];have l:=pO b;exact⟨c,f,b,by lia,q⟩
def Ga(h:SndW C ar n){o:Option CE}:Sd (wO (wO2 (wE C ar n) o)) (opt (evE C ar n) o):=by
 cases o with
 |none=>exact Oz
 |some e=>exact OA h.e
def DP{a b:D}{S:Sto}{Q:D->Sto->Prop}(h:AE a b S Q):Ok (yS a b S) Q:=by
 obtain⟨i,rfl,f⟩:=b8 h;obtain⟨j,rfl,c⟩:=b8 f;exact bx c
def DQ{a b:D}{S:Sto}{Q:D->Sto->Prop}(h:AF a b S Q):Ok (yT a b S) Q:=by
 obtain⟨i,rfl,f⟩:=b8 h;obtain⟨j,rfl,c⟩:=b8 f;exact bx c
end
section
variable {C:Calls} {ar:Nat->Nat} {n:Nat}
def M0(h:SndW C ar n){o:Option CE}{w:WP (List D)}{x:XA}(hw:Sd w x):Sd (DN (wT C ar n) o w) (cnd (evT C ar n) o x):=by
 cases o with
 |none=>exact hw
 |some c=>exact Jd h.t hw
def AH{b c:Type}{f:b->Sto->Option (c × Sto)}{a:b}{S:Sto}{Q:c->Sto->Prop}(h:wOk f a S Q):Ok (f a S) Q:=h
def s_q(h:SndW C ar n){f:Bool->List D->Sto->Option (D × Sto)}{a:CE}:Sd (wOf (ak a) (wTm C ar n a) (wE C ar n a) (wOk (f aW)) (wOk (ax f))) (if ak a=aT then qu f (ci C ar n a) else qv f (evE C ar n a)):=
 s_of (DG (f:=f aW) h.m AH) (DG (f:=ax f) h.e AH)
def Gb(h:SndW C ar n){a:CE}:Sd (wOf (ak a) (wTm C ar n a) (wE C ar n a) (λb S Q=>Q b S) ub) (if ak a=aT then ci C ar n a else lv (evE C ar n a)):=s_of h.m (λ_ _ _ w=>be (h.e _ _ _ w))
def Gc(h:SndW C ar n){a:CE}:Sd (wOf (ak a) (wTm C ar n a) (wE C ar n a) (DK cD) (DM cD)) (if ak a=aT then wR cD (ci C ar n a) else wU cD (evE C ar n a)):=s_of (MX h.m) (MY h.e)
def s_u{g:D->Sto->Option (D × Sto)}{w:WP D}{x:XE}(hw:Sd w x):Sd (wUn (wOk g) w) (xUn g x):=DG (f:=g) hw AH
def OJ{w:WP (List D)}{x:XA}(hw:Sd w x):Sd (wUn (w2 AE) w) (kj (two yS) x):=λ_ _ _ h=>be ((hw _ _ _ h).mono λ_ _ h=>F9 (λz=>DP z) h)
def OK{w:WP (List D)}{x:XA}(hw:Sd w x):Sd (wUn (w2 AF) w) (kj (two yT) x):=λ_ _ _ h=>be ((hw _ _ _ h).mono λ_ _ h=>F9 (λz=>DQ z) h)
def M2{w:WP D}{x:XE}(hw:Sd w x):Sd (wUn bS w) (CA x):=DG (f:=fG) hw rn
def ou:∀n,SndW C ar n
 |0=>⟨pN,pN,pN,pN,pN⟩
 |n+1=>by
  have h:=ou n;refine⟨λ{e}=>?_,λ{E}=>?_,λ{e}=>?_,λ{i}=>?_,λ{e}=>?_⟩
  ·cases e with
   |non=>exact s_c
   |bl b=>exact s_c
   |int b=>exact s_c
   |str b=>exact s_c
   |var b=>exact MH
   |con b v=>exact s_c
   |tup E=>exact MZ h
   |lst E=>exact fe (AG h)
   |bin o a b=>exact As h.e h.e DH
   |neg a=>exact MM h.e
   |cmp o a b=>exact As h.e h.e pK
   |chn o p a b c=>exact F1 h.e h.e h.e
   |and a b=>exact MJ h.e h.e
   |or a b=>exact Oy h.e h.e
   |not a=>exact MU h.e
   |ite c a b=>exact MP h.t h.e h.e
   |ix a b=>exact OI h.m h.e h.e
   |sl a lo hi=>exact OB h.e (Ga h) (Ga h)
   |call f E=>exact I0 h.a
   |inst t a=>exact s_u h.e
   |len a=>exact s_q h
   |all a=>exact s_q h
   |any a=>exact s_q h
   |tupOf a=>exact s_q h
   |listOf a=>exact fe (Gb h)
   |listR a=>exact fe (F3 h.e)
   |sset a=>exact fe (Ax h.e)
   |srt a=>exact fe (Gc h)
   |mxL a=>exact s_q h
   |intOf a=>exact s_u h.e
   |mx a b=>exact OJ h.a
   |mn a b=>exact OK h.a
   |comp own q g=>cases g with
    |nil=>exact fe pN
    |cons c j=>cases c with |mk T I cond=>exact fe (Ay h.i)
   |app o a=>exact Av h.e h.a
   |popAt o a=>exact Av h.e h.a
   |cnt o a=>exact Av h.e h.a
  ·cases E with
   |nil=>exact MR
   |cons e E=>exact Ja h.e h.a
  ·cases e with
   |lst E=>exact AG h
   |listOf a=>exact Gb h
   |listR a=>exact F3 h.e
   |sset a=>exact Ax h.e
   |srt a=>exact Gc h
   |comp own q g=>cases g with
    |nil=>exact pN
    |cons c j=>cases c with |mk T I cond=>exact Ay h.i
   |_=>exact pN
  ·cases i with
   |val a=>exact s_of (AC h.m) (OD h.e)
   |r1 a=>exact OG h.e
   |r2 a b=>exact OH h.e h.e
   |en a=>exact s_of (AC h.m) (OE h.e)
  ·cases e with
   |cmp o a b=>exact s_b (As h.e h.e pK)
   |chn o p a b c=>exact s_b (F1 h.e h.e h.e)
   |and a b=>exact Jb h.t h.t
   |or a b=>exact MW h.t h.t
   |not a=>exact Jc h.t
   |ite a b c=>exact pN
   |_=>exact M2 h.e
def OL{E:CE}{b:List Cl}:Sd (wCl C ar n E b) (gI C ar (n+1) E b):=by
 cases b with
 |nil=>exact AC (ou n).e
 |cons c f=>cases c with |mk T I cond=>exact DJ (ou n).i
def Je{E:CE}{c:List Cl}{o:Option CE}{b:Rho}{S:Sto}{Q:List D->Sto->Prop}(h:DN (wT C ar (n+1)) o (wCl C ar n E c) b S Q):Ok (cnd (evT C ar (n+1)) o (gI C ar (n+1) E c) b S) Q:=M0 (ou (n+1)) OL _ _ _ h
abbrev wNm:Nat->D->Rho->(Rho->Prop)->Prop
 |_,_,[],_=>False
 |0,d,_::ρ,Q=>Q (aa d::ρ)
 |i+1,d,o::ρ,Q=>wNm i d ρ λb=>Q (o::b)
def pP:∀ {i:Nat} {d:D} {ρ:Rho} {Q:Rho->Prop},wNm i d ρ Q->i < ρ.length/\Q (ρ.set i (aa d))
 |i,_,[],_,h=>by cases i <;> exact h.elim
 |0,d,_::ρ,Q,h=>⟨by simp,h⟩
 |i+1,d,o::ρ,Q,h=>by
  have:=pP (ρ:=ρ) (Q:=λb=>Q (o::b)) h;exact⟨by rw[ZD];lia,this.2⟩
abbrev wBs:List Tg->List D->Rho->(Rho->Prop)->Prop
 |[],[],ρ,Q=>Q ρ
 |[],_::_,_,_=>False
 |.name _::_,[],_,_=>False
 |.tup _::_,[],_,_=>False
 |.name i::ts,d::ds,ρ,Q=>wNm i d ρ λb=>wBs ts ds b Q
 |.tup us::ts,d::ds,ρ,Q=>∃b,av (.tup us) d ρ=aa b/\wBs ts ds b Q
abbrev wTp(T:List Tg)(d:D)(b:Rho)(Q:Rho->Prop):Prop:=match d with
 |.tup ds=>wBs T ds b Q
 |.non=>False |.bl _=>False |.str _=>False |.int _=>False |.ref _=>False
abbrev wBd:Tg->D->Rho->(Rho->Prop)->Prop
 |.name i,d,ρ,Q=>wNm i d ρ Q
 |.tup ts,d,ρ,Q=>wTp ts d ρ Q
def AI{i:Nat}{d:D}{b:Rho}{Q:Rho->Prop}(h:wNm i d b Q):∃ρ1,av (.name i) d b=aa ρ1/\Q ρ1:=⟨_,by rw[DB,if_pos (pP h).1],(pP h).2⟩
def uc:∀ {T:List Tg} {g:List D} {f:Rho} {Q:Rho->Prop},wBs T g f Q->∃b,aG T g f=aa b/\Q b
 |[],[],f,Q,h=>⟨f,vj,h⟩
 |[],_::_,_,_,h=>h.elim
 |.name _::_,[],_,_,h=>h.elim
 |.tup _::_,[],_,_,h=>h.elim
 |.name i::T,d::g,f,Q,h=>by
  obtain⟨b,e,q⟩:=AI h;obtain⟨c,E,q⟩:=uc q;exact⟨c,by rw[aG,e];exact E,q⟩
 |.tup us::T,d::g,f,Q,h=>by
  obtain⟨b,e,q⟩:=h;obtain⟨c,E,q⟩:=uc q;exact⟨c,by rw[aG,e];exact E,q⟩
def Jf{t:Tg}{d:D}{b:Rho}{Q:Rho->Prop}(h:wBd t d b Q):∃ρ1,av t d b=aa ρ1/\Q ρ1:=by
 cases t with
 |name i=>exact AI h
 |tup T=>cases d with
  |tup c=>rw[Aq];exact uc h
  |_=>exact h.elim
@[inline]abbrev WS:=Rho->Sto->(Fl->Rho->Sto->Prop)->Prop
abbrev rW(y:WS)(b:Rho)(S:Sto)(Q:Fl->Rho->Sto->Prop):Prop:=y b S Q
abbrev wNx(y:WS)(Q:Fl->Rho->Sto->Prop)(f:Fl)(b:Rho)(S:Sto):Prop:=match f with
 |.nx=>rW y b S Q
 |.rt d=>Q (.rt d) b S
 |.bk=>Q .bk b S
 |.ct=>Q .ct b S
mutual
noncomputable def wS(C:Calls)(ar:Nat->Nat):Nat->CS->WS
 |0,_=>λ_ _ _=>False
 |n+1,s=>match s with
  |.asg t e=>λg S Q=>wE C ar n e g S λd h=>wBd t d g λj=>Q .nx j h
  |.setI v o i=>λg S Q=>wE C ar n v g S λa h=>wE C ar n o g h λb p=>wE C ar n i g p λc u=>∃q,g9 b c a u=aa q/\Q .nx g q
  |.dcs i own k v t it=>λg S Q=>wI C ar n it g S λnx h=>OkS (cU nx t (tN h.length (evE C ar n k) (evE C ar n v)) LF 0 (g++Zr own.length aD) (h++[.dic [] []])) λf _ p=>f = .nx/\Q .nx (g.set i (aa (.ref h.length))) p
  |.ex e=>λg S Q=>wE C ar n e g S λ_ h=>Q .nx g h
  |.ret e=>λg S Q=>wE C ar n e g S λd h=>Q (.rt d) g h
  |.ifs c a b=>λg S Q=>wT C ar n c g S λt h=>wIf t (rW (wSs C ar n a) g h Q) (rW (wSs C ar n b) g h Q)
  |.for_ t it b=>λg S Q=>wI C ar n it g S λnx h=>OkS (cU nx t (eU C ar n b) LF 0 g h) Q
  |.while_ c b=>λg S Q=>OkS (bw (evT C ar n c) (eU C ar n b) LF g S) Q
  |.cnt=>λg S Q=>Q .ct g S
  |.never=>λ_ _ _=>False
noncomputable def wSs(C:Calls)(ar:Nat->Nat):Nat->List CS->WS
 |0,_=>λ_ _ _=>False
 |n+1,ss=>match ss with
  |[]=>λb S Q=>Q .nx b S
  |s::ss=>λb S Q=>wS C ar n s b S (wNx (wSs C ar n ss) Q)
end
structure SdS(C:Calls)(ar:Nat->Nat)(n:Nat):Prop where
 s:∀ {s:CS} {ρ S Q},wS C ar n s ρ S Q->OkS (evS C ar n s ρ S) Q
 ss:∀ {ss:List CS} {ρ S Q},wSs C ar n ss ρ S Q->OkS (eU C ar n ss ρ S) Q
def AJ:∀n,SdS C ar n
 |0=>⟨λh=>by simp only[wS] at h,λh=>by simp only[wSs] at h⟩
 |n+1=>by
  have h:=AJ n;have g:SndW C ar n:=ou n;refine⟨λ{s ρ S Q} w=>?_,λ{ss ρ S Q} w=>?_⟩
  ·cases s with
   |asg t e=>simp only[evS,Dn];simp only[wS] at w;exact(g.e _ _ _ w).mono λd j w=>Jf w
   |setI v o i=>simp only[evS,Am];simp only[wS] at w;exact(g.e _ _ _ w).mono λa j w=>(g.e _ _ _ w).mono λb u w=>g.e _ _ _ w
   |dcs i own k v t I=>
    simp only[wS] at w;obtain⟨nx,j,E,f,p,u,y,rfl,w⟩:=g.i _ _ _ w;refine⟨_,_,_,?_,w⟩;show wP i own.length (evI C ar n I) t (evE C ar n k) (evE C ar n v) LF ρ S=_;unfold wP;rw[E];dsimp only;rw[y]
   |ex e=>simp only[evS,Al];simp only[wS] at w;exact g.e _ _ _ w
   |ret e=>simp only[evS,Dp];simp only[wS] at w;exact g.e _ _ _ w
   |ifs c a b=>
    simp only[evS,Iw];simp only[wS] at w;refine(g.t _ _ _ w).mono λt j w=>?_;cases t with
    |true=>exact h.ss w
    |false=>exact h.ss w
   |for_ t I b=>simp only[evS,Dq];simp only[wS] at w;exact g.i _ _ _ w
   |while_ c b=>simp only[wS] at w;simp only[evS];exact w
   |cnt=>simp only[wS] at w;simp only[evS];exact⟨_,_,_,rfl,w⟩
   |never=>simp only[wS] at w
  ·cases ss with
   |nil=>simp only[wSs] at w;simp only[eU];exact⟨_,_,_,rfl,w⟩
   |cons s ss=>
    simp only[wSs] at w;simp only[eU,Dm];refine(h.s w).mono λf q j w=>?_;cases f with
    |nx=>exact h.ss w
    |_=>exact w
def AK{ss:List CS}{b:Rho}{S:Sto}{Q:Fl->Rho->Sto->Prop}(h:rW (wSs C ar n ss) b S Q):OkS (eU C ar n ss b S) Q:=(AJ n).ss h
def AL{s:CS}{ss:List CS}{b:Rho}{S:Sto}{Q:Fl->Rho->Sto->Prop}(h:wS C ar n s b S (wNx (wSs C ar n ss) Q)):rW (wSs C ar (n+1) (s::ss)) b S Q:=h
def DR{b:Rho}{S:Sto}{Q:Fl->Rho->Sto->Prop}(h:Q .nx b S):rW (wSs C ar (n+1) []) b S Q:=h
end
section
variable {C:Calls} {ar:Nat->Nat} {A B:Prop} {S S1:Sto} {Q:D->Sto->Prop} {Ql:List D->Sto->Prop} {Qn:Nxt->Sto->Prop} {Qb:Bool->Prop} {Qi:Int->Prop} {Qd:D->Prop} {Qr:Rho->Prop} {Qt:Bool->Sto->Prop} {Qs:Fl->Rho->Sto->Prop} {t:Bool} {d x y:D} {i j:Int} {n m f:Nat} {s:Str} {o:BOp} {c p:COp} {ds xs ys:List D} {l h:Option Int} {tg:Tg} {ts:List Tg} {ρ ρ2:Rho} {es:List CE} {a b e:CE} {oa ob cd:Option CE} {own:List Str} {it:CI} {rest:List Cl} {ty:Ty} {w wl:WP (List D)} {wv:WP D} {sa sb:List CS} {ws:WS} {od:Option D} {g:D->D->Sto->(D->Sto->Prop)->Prop}
def Jg:wE C ar (n+1) (.non) ρ S Q=(Q .non S):=rfl
def M3:wE C ar (n+1) (.bl t) ρ S Q=(Q (.bl t) S):=rfl
def Jh:wE C ar (n+1) (.int i) ρ S Q=(Q (.int i) S):=rfl
def Ji:wE C ar (n+1) (.str s) ρ S Q=(Q (.str s) S):=rfl
def Jj:wE C ar (n+1) (.con m i) ρ S Q=(Q (.int i) S):=rfl
def Jk:wE C ar (n+1) (.var m) ρ S Q=(t7 ρ m λd=>Q d S):=rfl
def Jl:wE C ar (n+1) (.tup es) ρ S Q=(ff 60 es (wA C ar n es ρ S λds S1=>Q (.tup ds) S1)):=rfl
def Jm:wE C ar (n+1) (.lst es) ρ S Q=(ff 60 es (wA C ar n es ρ S λds S1=>Q (.ref S1.length) (S1++[.lst ds]))):=rfl
def Jn:wE C ar (n+1) (.bin o a b) ρ S Q=(wE C ar n a ρ S λx S1=>wE C ar n b ρ S1 λy q=>t8 o x y q Q):=rfl
def Jo:wE C ar (n+1) (.neg a) ρ S Q=(wE C ar n a ρ S λd S1=>cV d λi=>Q (.int (-i)) S1):=rfl
def Jp:wE C ar (n+1) (.cmp c a b) ρ S Q=(wE C ar n a ρ S λx S1=>wE C ar n b ρ S1 λy q=>wCm c x y q Q):=rfl
def Jq:wE C ar (n+1) (.chn c p a b e) ρ S Q=(wE C ar n a ρ S λx S1=>wE C ar n b ρ S1 λy u=>wCm c x y u λr q=>wBl r λt=>wIf t (wE C ar n e ρ q λz v=>wCm p y z v Q) (Q (.bl aW) q)):=rfl
def Jr:wE C ar (n+1) (.and a b) ρ S Q=(wE C ar n a ρ S λd S1=>wBl d λt=>wIf t (wE C ar n b ρ S1 Q) (Q (.bl aW) S1)):=rfl
def M4:wE C ar (n+1) (.or a b) ρ S Q=(wE C ar n a ρ S λd S1=>wBl d λt=>wIf t (Q (.bl aT) S1) (wE C ar n b ρ S1 Q)):=rfl
def Js:wE C ar (n+1) (.not a) ρ S Q=(wE C ar n a ρ S λd S1=>bS d S1 λt q=>Q (.bl (!t)) q):=rfl
def Jt:wE C ar (n+1) (.ite e a b) ρ S Q=(wT C ar n e ρ S λt S1=>wIf t (wE C ar n a ρ S1 Q) (wE C ar n b ρ S1 Q)):=rfl
def M5:wE C ar (n+1) (.ix a b) ρ S Q=(aZ (ak a) (wTm C ar n a) (wE C ar n a) ρ S (λds S1=>wE C ar n b ρ S1 λi q=>cV i λk=>∃d,atI ds k=aa d/\Q d q) (λd S1=>wE C ar n b ρ S1 λi q=>Ok (ixS d i q) Q)):=rfl
def DS:wE C ar (n+1) (.sl a aD aD) ρ S Q=(wE C ar n a ρ S λd S1=>t9 aD aD d S1 Q):=rfl
def DT:wE C ar (n+1) (.sl a aD (aa b)) ρ S Q=(wE C ar n a ρ S λd S1=>wE C ar n b ρ S1 λy q=>cV y λj=>t9 aD (aa j) d q Q):=rfl
def DU:wE C ar (n+1) (.sl a (aa b) aD) ρ S Q=(wE C ar n a ρ S λd S1=>wE C ar n b ρ S1 λy q=>cV y λj=>t9 (aa j) aD d q Q):=rfl
def DV:wE C ar (n+1) (.sl a (aa b) (aa e)) ρ S Q=(wE C ar n a ρ S λd S1=>wE C ar n b ρ S1 λy q=>cV y λj=>wE C ar n e ρ q λz u=>cV z λk=>t9 (aa j) (aa k) d u Q):=rfl
def DW:wE C ar (n+1) (.call f es) ρ S Q=(wA C ar n es ρ S λds S1=>ds.length=ar f/\Ok (C f ds S1) Q):=rfl
def DX:wE C ar (n+1) (.inst ty a) ρ S Q=(wE C ar n a ρ S λd S1=>Ok (iJ ty d S1) Q):=rfl
def Ju:wE C ar (n+1) (.len a) ρ S Q=(aZ (ak a) (wTm C ar n a) (wE C ar n a) ρ S (λds S1=>Ok (cg aW ds S1) Q) (λd S1=>Ok (ax cg d S1) Q)):=rfl
def Jv:wE C ar (n+1) (.all a) ρ S Q=(aZ (ak a) (wTm C ar n a) (wE C ar n a) ρ S (λds S1=>Ok (jj aW ds S1) Q) (λd S1=>Ok (ax jj d S1) Q)):=rfl
def Jw:wE C ar (n+1) (.any a) ρ S Q=(aZ (ak a) (wTm C ar n a) (wE C ar n a) ρ S (λds S1=>Ok (mS aW ds S1) Q) (λd S1=>Ok (ax mS d S1) Q)):=rfl
def AM:wE C ar (n+1) (.tupOf a) ρ S Q=(aZ (ak a) (wTm C ar n a) (wE C ar n a) ρ S (λds S1=>Ok (ji aW ds S1) Q) (λd S1=>Ok (ax ji d S1) Q)):=rfl
def Jx:wE C ar (n+1) (.mxL a) ρ S Q=(aZ (ak a) (wTm C ar n a) (wE C ar n a) ρ S (λds S1=>Ok (kn aW ds S1) Q) (λd S1=>Ok (ax kn d S1) Q)):=rfl
def xn:wE C ar (n+1) (.listOf a) ρ S Q=(aZ (ak a) (wTm C ar n a) (wE C ar n a) ρ S (λds S1=>Q (.ref S1.length) (S1++[.lst ds])) (λd S1=>Ok ((ao d S1).map λr=>(r.2,S1)) λds S1=>Q (.ref S1.length) (S1++[.lst ds]))):=rfl
def DY:wE C ar (n+1) (.sset a) ρ S Q=(wE C ar n a ρ S λd S1=>∃m ns,d = .ref m/\S1[m]?=aa (.lst (ns.map D.int))/\o8 ns=aT/\Q (.ref S1.length) (S1++[.lst (ns.map D.int)])):=rfl
def AN:wE C ar (n+1) (.listR a) ρ S Q=(wE C ar n a ρ S λd S1=>∃i:Nat,d = .int i/\i<=1000/\Q (.ref S1.length) (S1++[.lst ((Zh i).map λj=>.int (Int.ofNat j))])):=rfl
def Jy:wE C ar (n+1) (.srt a) ρ S Q=(aZ (ak a) (wTm C ar n a) (wE C ar n a) ρ S (λds S1=>∃es,cD aW ds=aa es/\Q (.ref S1.length) (S1++[.lst es])) (λd S1=>∃r es,ao d S1=aa r/\cD r.1 r.2=aa es/\Q (.ref S1.length) (S1++[.lst es]))):=rfl
def AO:wE C ar (n+1) (.intOf a) ρ S Q=(wE C ar n a ρ S λd S1=>Ok (y7 d S1) Q):=rfl
def M6:wE C ar (n+1) (.mx a b) ρ S Q=(wA C ar n [a,b] ρ S λds S1=>w2 AE ds S1 Q):=rfl
def M7:wE C ar (n+1) (.mn a b) ρ S Q=(wA C ar n [a,b] ρ S λds S1=>w2 AF ds S1 Q):=rfl
def DZ:wE C ar (n+1) (.comp own a (⟨tg,it,cd⟩::rest)) ρ S Q=(wI C ar n it ρ S λnx S1=>rl own [] λr=>rm ρ r λq=>wFt tg q (Ok (bn nx tg (cnd (evT C ar n) cd (gI C ar n a rest)) q LF 0 S1) λes u=>es.length<=100000/\Q (.ref u.length) (u++[.lst es]))):=rfl
def Jz:wE C ar (n+1) (.app a b) ρ S Q=(wE C ar n a ρ S λd S1=>gM d S1=aT/\wA C ar n [b] ρ S1 λu q=>Ok (tJ d u q) Q):=rfl
def AQ:wE C ar (n+1) (.popAt a b) ρ S Q=(wE C ar n a ρ S λd S1=>gM d S1=aT/\wA C ar n [b] ρ S1 λu q=>Ok (g8 d u q) Q):=rfl
def JA:wE C ar (n+1) (.cnt a b) ρ S Q=(wE C ar n a ρ S λd S1=>isTup d=aT/\wA C ar n [b] ρ S1 λu q=>Ok (tL d u q) Q):=rfl
def OM:wA C ar (n+1) [] ρ S Ql=Ql [] S:=rfl
def OO:wA C ar (n+1) (a::es) ρ S Ql=(wE C ar n a ρ S λd S1=>wA C ar n es ρ S1 λds q=>Ql (d::ds) q):=rfl
def JB:wTm C ar (n+1) (.lst es) ρ S Ql=ff 60 es (wA C ar n es ρ S Ql):=rfl
def xo:wTm C ar (n+1) (.listOf a) ρ S Ql=(aZ (ak a) (wTm C ar n a) (wE C ar n a) ρ S (λds S1=>Ql ds S1) (λd S1=>Ok ((ao d S1).map λr=>(r.2,S1)) Ql)):=rfl
def D0:wTm C ar (n+1) (.sset a) ρ S Ql=(wE C ar n a ρ S λd S1=>∃m ns,d = .ref m/\S1[m]?=aa (.lst (ns.map D.int))/\o8 ns=aT/\Ql (ns.map D.int) S1):=rfl
def AR:wTm C ar (n+1) (.listR a) ρ S Ql=(wE C ar n a ρ S λd S1=>∃i:Nat,d = .int i/\i<=1000/\Ql ((Zh i).map λj=>.int (Int.ofNat j)) S1):=rfl
def JC:wTm C ar (n+1) (.srt a) ρ S Ql=(aZ (ak a) (wTm C ar n a) (wE C ar n a) ρ S (λds S1=>∃es,cD aW ds=aa es/\Ql es S1) (λd S1=>∃r es,ao d S1=aa r/\cD r.1 r.2=aa es/\Ql es S1)):=rfl
def D1:wTm C ar (n+1) (.comp own a (⟨tg,it,cd⟩::rest)) ρ S Ql=(wI C ar n it ρ S λnx S1=>rl own [] λr=>rm ρ r λq=>wFt tg q (Ok (bn nx tg (cnd (evT C ar n) cd (gI C ar n a rest)) q LF 0 S1) λes u=>es.length<=100000/\Ql es u)):=rfl
def JD:wI C ar (n+1) (.val a) ρ S Qn=(aZ (ak a) (wTm C ar n a) (wE C ar n a) ρ S (λds S1=>Qn (nxL ds) S1) (λd S1=>AA d S1 Qn)):=rfl
def M9:wI C ar (n+1) (.en a) ρ S Qn=(aZ (ak a) (wTm C ar n a) (wE C ar n a) ρ S (λds S1=>Qn (wL ds) S1) (λd S1=>AB d S1 Qn)):=rfl
def Na:wI C ar (n+1) (.r1 a) ρ S Qn=(wE C ar n a ρ S λd S1=>cV d λj=>lim j=aT/\Qn (nxR 0 j.toNat) S1):=rfl
def Nb:wI C ar (n+1) (.r2 a b) ρ S Qn=(wE C ar n a ρ S λd S1=>wE C ar n b ρ S1 λe q=>cV d λi=>cV e λj=>(lim i=aT/\lim j=aT)/\Qn (nxR i (j - i).toNat) q):=rfl
def JE:wT C ar (n+1) (.cmp c a b) ρ S Qt=(wE C ar n a ρ S λx S1=>wE C ar n b ρ S1 λy q=>wCm c x y q λd u=>wBl d λt=>Qt t u):=rfl
def JF:wT C ar (n+1) (.chn c p a b e) ρ S Qt=(wE C ar n a ρ S λx S1=>wE C ar n b ρ S1 λy v=>wCm c x y v λr q=>wBl r λt=>wIf t (wE C ar n e ρ q λz E=>wCm p y z E λd u=>wBl d λt=>Qt t u) (wBl (.bl aW) λt=>Qt t q)):=rfl
def JG:wT C ar (n+1) (.and a b) ρ S Qt=(wT C ar n a ρ S λt S1=>wIf t (wT C ar n b ρ S1 Qt) (Qt aW S1)):=rfl
def Nc:wT C ar (n+1) (.or a b) ρ S Qt=(wT C ar n a ρ S λt S1=>wIf t (Qt aT S1) (wT C ar n b ρ S1 Qt)):=rfl
def JH:wT C ar (n+1) (.not a) ρ S Qt=(wT C ar n a ρ S λt S1=>Qt (!t) S1):=rfl
def Nd:wT C ar (n+1) (.bl t) ρ S Qt=(wE C ar n (.bl t) ρ S λd S1=>bS d S1 Qt):=rfl
def JI:wT C ar (n+1) (.var m) ρ S Qt=(wE C ar n (.var m) ρ S λd S1=>bS d S1 Qt):=rfl
def D2:wT C ar (n+1) (.call f es) ρ S Qt=(wE C ar n (.call f es) ρ S λd S1=>bS d S1 Qt):=rfl
def D3:wT C ar (n+1) (.inst ty a) ρ S Qt=(wE C ar n (.inst ty a) ρ S λd S1=>bS d S1 Qt):=rfl
def JJ:wT C ar (n+1) (.all a) ρ S Qt=(wE C ar n (.all a) ρ S λd S1=>bS d S1 Qt):=rfl
def JK:wT C ar (n+1) (.any a) ρ S Qt=(wE C ar n (.any a) ρ S λd S1=>bS d S1 Qt):=rfl
def JL:wT C ar (n+1) (.len a) ρ S Qt=(wE C ar n (.len a) ρ S λd S1=>bS d S1 Qt):=rfl
def Nf:wT C ar (n+1) (.ix a b) ρ S Qt=(wE C ar n (.ix a b) ρ S λd S1=>bS d S1 Qt):=rfl
def JM:wT C ar (n+1) (.lst es) ρ S Qt=(wE C ar n (.lst es) ρ S λd S1=>bS d S1 Qt):=rfl
def JN:wT C ar (n+1) (.tup es) ρ S Qt=(wE C ar n (.tup es) ρ S λd S1=>bS d S1 Qt):=rfl
def OP:wCl C ar n a [] ρ S Ql=(wE C ar n a ρ S λd S1=>Ql [d] S1):=rfl
def OQ:wCl C ar n a (⟨tg,it,cd⟩::rest) ρ S Ql=(wFt tg ρ (wI C ar n it ρ S λnx S1=>Ok (bn nx tg (cnd (evT C ar n) cd (gI C ar n a rest)) ρ LF 0 S1) Ql)):=rfl
def OT:DN (wT C ar n) aD w ρ S Ql=w ρ S Ql:=rfl
def OU:DN (wT C ar n) (aa a) w ρ S Ql=(wT C ar n a ρ S λt S1=>wIf t (w ρ S1 Ql) (Ql [] S1)):=rfl
def JO:wS C ar (n+1) (.asg tg a) ρ S Qs=(wE C ar n a ρ S λd S1=>wBd tg d ρ λq=>Qs .nx q S1):=rfl
def D4:wS C ar (n+1) (.setI a b e) ρ S Qs=(wE C ar n a ρ S λx S1=>wE C ar n b ρ S1 λy u=>wE C ar n e ρ u λz v=>∃q,g9 y z x v=aa q/\Qs .nx ρ q):=rfl
def Nh:wS C ar (n+1) (.ex a) ρ S Qs=(wE C ar n a ρ S λ_ S1=>Qs .nx ρ S1):=rfl
def JP:wS C ar (n+1) (.ret a) ρ S Qs=(wE C ar n a ρ S λd S1=>Qs (.rt d) ρ S1):=rfl
def JQ:wS C ar (n+1) (.ifs a sa sb) ρ S Qs=(wT C ar n a ρ S λt S1=>wIf t (rW (wSs C ar n sa) ρ S1 Qs) (rW (wSs C ar n sb) ρ S1 Qs)):=rfl
def JR:wS C ar (n+1) (.for_ tg it sa) ρ S Qs=(wI C ar n it ρ S λnx S1=>OkS (cU nx tg (eU C ar n sa) LF 0 ρ S1) Qs):=rfl
def JS{i:Nat}{own:List Str}:wS C ar (n+1) (.dcs i own a b tg it) ρ S Qs=(wI C ar n it ρ S λnx S1=>OkS (cU nx tg (tN S1.length (evE C ar n a) (evE C ar n b)) LF 0 (ρ++Zr own.length aD) (S1++[.dic [] []])) λf _ q=>f = .nx/\Qs .nx (ρ.set i (aa (.ref S1.length))) q):=rfl
def AS:wS C ar (n+1) (.while_ a sa) ρ S Qs=OkS (bw (evT C ar n a) (eU C ar n sa) LF ρ S) Qs:=rfl
def JT:wS C ar (n+1) .cnt ρ S Qs=Qs .ct ρ S:=rfl
def Ni:wNx ws Qs .nx ρ S=rW ws ρ S Qs:=rfl
def Nj:wNx ws Qs (.rt d) ρ S=Qs (.rt d) ρ S:=rfl
def Nk:wNx ws Qs .bk ρ S=Qs .bk ρ S:=rfl
def Nl:wNx ws Qs .ct ρ S=Qs .ct ρ S:=rfl
def JU:wIf (aT && t) A B=wIf t A B:=rfl
def JV:wIf (aW && t) A B=B:=rfl
def JW:wIf (aT || t) A B=A:=rfl
def D5:wIf (aW || t) A B=wIf t A B:=rfl
def D6:wIf (!(aT && t)) A B=wIf (!t) A B:=rfl
def D7:wIf (!(aW && t)) A B=A:=rfl
def D8:wIf (!(aT || t)) A B=B:=rfl
def D9:wIf (!(aW || t)) A B=wIf (!t) A B:=rfl
def Nm:wIf aT A B=A:=rfl
def Nn:wIf aW A B=B:=rfl
def JX:wIf (!aT) A B=B:=rfl
def JY:wIf (!aW) A B=A:=rfl
def Nq:wBl (.bl t) Qb=Qb t:=rfl
def JZ:cV (.int i) Qi=Qi i:=rfl
def J0:t7 (aa d::ρ) 0 Qd=Qd d:=rfl
def J1:t7 (od::ρ) (n+1) Qd=t7 ρ n Qd:=rfl
def Nr:wFr (aD::ρ) 0 A=A:=rfl
def Nt:wFr (od::ρ) (n+1) A=wFr ρ n A:=rfl
def J2:rk [] ρ A=A:=rfl
def J3:rk (.name m::ts) ρ A=wFr ρ m (rk ts ρ A):=rfl
def Nu:wFt (.name m) ρ A=wFr ρ m A:=rfl
def Nv:wFt (.tup ts) ρ A=rk ts ρ A:=rfl
def J4:rl [] ρ Qr=Qr ρ:=rfl
def J5:rl (s::own) ρ Qr=rl own (aD::ρ) Qr:=rfl
def J6:rm [] ρ Qr=Qr ρ:=rfl
def J7:rm (od::ρ) ρ2 Qr=rm ρ ρ2 λr=>Qr (od::r):=rfl
def Nw:ff (n+1) [] A=A:=rfl
def Nx:ff (n+1) (a::es) A=ff n es A:=rfl
def Ny:wNm 0 d (od::ρ) Qr=Qr (aa d::ρ):=rfl
def Nz:wNm (n+1) d (od::ρ) Qr=wNm n d ρ λr=>Qr (od::r):=rfl
def NA:wBs [] [] ρ Qr=Qr ρ:=rfl
def ND:wBs (.name m::ts) (d::ds) ρ Qr=wNm m d ρ λr=>wBs ts ds r Qr:=rfl
def NF:wBd (.name m) d ρ Qr=wNm m d ρ Qr:=rfl
def NG:wBd (.tup ts) d ρ Qr=wTp ts d ρ Qr:=rfl
def NH:wTp ts (.tup ds) ρ Qr=wBs ts ds ρ Qr:=rfl
def Ea:wII .add i j S Q=Q (.int (i+j)) S:=rfl
def Eb:wII .sub i j S Q=Q (.int (i - j)) S:=rfl
def Ec:wII .mul i j S Q=(iH i j=aT/\Q (.int (i * j)) S):=rfl
def Ed:wII .mod i j S Q=(0 < j/\Q (.int (i % j)) S):=rfl
def AU:wII .fdiv i j S Q=((0 < j/\j < 1298074214633706907132624082305024)/\Q (.int (i / j)) S):=rfl
def Ee:wII .pow i j S Q=((0<=j/\j<=1000000/\i.natAbs < 2 ^ 64)/\Q (.int (i ^ j.toNat)) S):=rfl
def Ef:wTT .add xs ys S Q=(xs.length+ys.length<=1000/\Q (.tup (xs++ys)) S):=rfl
def Eg:Au o i (.int j) S Q=wII o i j S Q:=rfl
def Eh:vp o xs (.tup ys) S Q=wTT o xs ys S Q:=rfl
def Ei:vp o xs (.int j) S Q=Ok (bF o (.tup xs) (.int j) S) Q:=rfl
def J8:t8 o (.int i) y S Q=Au o i y S Q:=rfl
def J9:t8 o (.tup xs) y S Q=vp o xs y S Q:=rfl
def Ka:t8 o (.ref n) y S Q=Ok (bF o (.ref n) y S) Q:=rfl
def Kb:t8 o (.str s) y S Q=Ok (bF o (.str s) y S) Q:=rfl
def Kc:wCI .eq i j S Q=Q (.bl (decide (i=j))) S:=rfl
def Kd:wCm .eq x y S Q=wCx .eq x y S Q:=rfl
def Ke:wCI .ne i j S Q=Q (.bl (!decide (i=j))) S:=rfl
def Kf:wCm .ne x y S Q=wCx .ne x y S Q:=rfl
def Kg:wCI .lt i j S Q=Q (.bl (decide (i < j))) S:=rfl
def Kh:wCm .lt x y S Q=wCx .lt x y S Q:=rfl
def Ki:wCI .le i j S Q=Q (.bl (decide (i<=j))) S:=rfl
def Kj:wCm .le x y S Q=wCx .le x y S Q:=rfl
def Kk:wCI .gt i j S Q=Q (.bl (decide (j < i))) S:=rfl
def Kl:wCm .gt x y S Q=wCx .gt x y S Q:=rfl
def Km:wCI .ge i j S Q=Q (.bl (decide (j<=i))) S:=rfl
def Kn:wCm .ge x y S Q=wCx .ge x y S Q:=rfl
def Ko:wCm .is x y S Q=Ok (az .is x y S) Q:=rfl
def xq:wCm .isnot x y S Q=Ok (az .isnot x y S) Q:=rfl
def AV:wCm .isin x y S Q=Ok (az .isin x y S) Q:=rfl
def xr:wCm .notin x y S Q=Ok (az .notin x y S) Q:=rfl
def NI:wCx c (.int i) y S Q=IX c i y S Q:=rfl
def NJ:wCx c (.tup xs) y S Q=xm c xs y S Q:=rfl
def NK:wCx c .non y S Q=Ok (az c .non y S) Q:=rfl
def NL:wCx c (.bl t) y S Q=Ok (az c (.bl t) y S) Q:=rfl
def NM:wCx c (.str s) y S Q=Ok (az c (.str s) y S) Q:=rfl
def NN:wCx c (.ref n) y S Q=Ok (az c (.ref n) y S) Q:=rfl
def Kq:IX c i (.int j) S Q=wCI c i j S Q:=rfl
def Kr:xm .eq xs (.tup []) S Q=Q (.bl xs.isEmpty) S:=rfl
def Ks:xm .ne xs (.tup []) S Q=Q (.bl (!xs.isEmpty)) S:=rfl
def Ej:xm .eq xs (.tup (y::ys)) S Q=Ok (az .eq (.tup xs) (.tup (y::ys)) S) Q:=rfl
def Ek:xm .ne xs (.tup (y::ys)) S Q=Ok (az .ne (.tup xs) (.tup (y::ys)) S) Q:=rfl
def Kt:t9 l h (.tup ds) S Q=Q (.tup (gH ds l h)) S:=rfl
def Ku:t9 l h (.ref n) S Q=Ok (slS l h (.ref n) S) Q:=rfl
def Kv:AA (.tup ds) S Qn=Qn (nxL ds) S:=rfl
def Kw:AA (.ref n) S Qn=((aH S n).isSome=aT/\Qn (nxS n) S):=rfl
def Kx:AB (.tup ds) S Qn=Qn (wL ds) S:=rfl
def Ky:AB (.ref n) S Qn=((aH S n).isSome=aT/\Qn (wM n) S):=rfl
def El:bS (.bl t) S Qt=Qt t S:=rfl
def Em:bS (.tup ds) S Qt=Qt (!ds.isEmpty) S:=rfl
def En:bS (.int i) S Qt=Qt (i != 0) S:=rfl
def Eo:bS (.ref n) S Qt=Ok (fG (.ref n) S) Qt:=rfl
def OV:w2 g [x,y] S Q=g x y S Q:=rfl
def Kz:AE (.int i) (.int j) S Q=Q (.int (if j > i then j else i)) S:=rfl
def KA:AF (.int i) (.int j) S Q=Q (.int (if j < i then j else i)) S:=rfl
def Ep:aZ (ak (.lst es)) wl wv ρ S Ql Q=wl ρ S Ql:=rfl
def ud:aZ (ak (.listOf a)) wl wv ρ S Ql Q=wl ρ S Ql:=rfl
def AW:aZ (ak (.sset a)) wl wv ρ S Ql Q=wl ρ S Ql:=rfl
def xt:aZ (ak (.listR a)) wl wv ρ S Ql Q=wl ρ S Ql:=rfl
def Er:aZ (ak (.srt a)) wl wv ρ S Ql Q=wl ρ S Ql:=rfl
def AX:aZ (ak (.comp own a rest)) wl wv ρ S Ql Q=wl ρ S Ql:=rfl
def Es:aZ (ak (.non)) wl wv ρ S Ql Q=wv ρ S Q:=rfl
def KB:aZ (ak (.bl t)) wl wv ρ S Ql Q=wv ρ S Q:=rfl
def Et:aZ (ak (.int i)) wl wv ρ S Ql Q=wv ρ S Q:=rfl
def Eu:aZ (ak (.str s)) wl wv ρ S Ql Q=wv ρ S Q:=rfl
def Ew:aZ (ak (.var m)) wl wv ρ S Ql Q=wv ρ S Q:=rfl
def Ex:aZ (ak (.con m i)) wl wv ρ S Ql Q=wv ρ S Q:=rfl
def Ey:aZ (ak (.tup es)) wl wv ρ S Ql Q=wv ρ S Q:=rfl
def Ez:aZ (ak (.bin o a b)) wl wv ρ S Ql Q=wv ρ S Q:=rfl
def EA:aZ (ak (.neg a)) wl wv ρ S Ql Q=wv ρ S Q:=rfl
def EB:aZ (ak (.cmp c a b)) wl wv ρ S Ql Q=wv ρ S Q:=rfl
def EC:aZ (ak (.chn c p a b e)) wl wv ρ S Ql Q=wv ρ S Q:=rfl
def ED:aZ (ak (.and a b)) wl wv ρ S Ql Q=wv ρ S Q:=rfl
def KC:aZ (ak (.or a b)) wl wv ρ S Ql Q=wv ρ S Q:=rfl
def EF:aZ (ak (.not a)) wl wv ρ S Ql Q=wv ρ S Q:=rfl
def EG:aZ (ak (.ite e a b)) wl wv ρ S Ql Q=wv ρ S Q:=rfl
def KD:aZ (ak (.ix a b)) wl wv ρ S Ql Q=wv ρ S Q:=rfl
def KF:aZ (ak (.sl a oa ob)) wl wv ρ S Ql Q=wv ρ S Q:=rfl
def AY:aZ (ak (.call f es)) wl wv ρ S Ql Q=wv ρ S Q:=rfl
def AZ:aZ (ak (.inst ty a)) wl wv ρ S Ql Q=wv ρ S Q:=rfl
def EH:aZ (ak (.len a)) wl wv ρ S Ql Q=wv ρ S Q:=rfl
def EI:aZ (ak (.all a)) wl wv ρ S Ql Q=wv ρ S Q:=rfl
def EJ:aZ (ak (.any a)) wl wv ρ S Ql Q=wv ρ S Q:=rfl
def xu:aZ (ak (.tupOf a)) wl wv ρ S Ql Q=wv ρ S Q:=rfl
def EK:aZ (ak (.mxL a)) wl wv ρ S Ql Q=wv ρ S Q:=rfl
def xv:aZ (ak (.intOf a)) wl wv ρ S Ql Q=wv ρ S Q:=rfl
def KG:aZ (ak (.mx a b)) wl wv ρ S Ql Q=wv ρ S Q:=rfl
def KH:aZ (ak (.mn a b)) wl wv ρ S Ql Q=wv ρ S Q:=rfl
def EL:aZ (ak (.app a b)) wl wv ρ S Ql Q=wv ρ S Q:=rfl
def xw:aZ (ak (.popAt a b)) wl wv ρ S Ql Q=wv ρ S Q:=rfl
def EM:aZ (ak (.cnt a b)) wl wv ρ S Ql Q=wv ρ S Q:=rfl
def ab{u:Type}{z:Option (u × Sto)}{r:u}{v:Sto}{K:u->Sto->Prop}(e:z=aa (r,v))(q:K r v):Ok z K:=⟨r,v,e,q⟩
def eG(q:t=aT->A)(u:t=aW->B):wIf t A B:=by
 cases t with
 |true=>exact q rfl
 |false=>exact u rfl
end
end Ev
local macro_rules|`(tactic|k_go)=>do
 let f s:Lean.MacroM (Lean.TSyntax ``Lean.Parser.Tactic.simpLemma):=`(Lean.Parser.Tactic.simpLemma|↓$(Lean.mkIdent (`Ev++s.toName)):ident)
 let a ← ("Jg M3 Jh Ji Jj Jk Jl Jm Jn Jo Jp Jq Jr M4 Js Jt M5 DS DT DU DV DW DX Ju Jv Jw AM Jx xn AN DY Jy AO M6 M7 DZ Jz AQ JA OM OO JB xo AR D0 JC D1 JD M9 Na Nb JE JF JG Nc JH Nd JI D2 D3 JJ JK JL Nf JM JN OP OQ OT OU JO D4 Nh JP JQ JR AS JS JT Ni Nj Nk Nl JU JV JW D5 D6 D7 D8 D9 Nm Nn JX JY Nq JZ J0 J1 Nr Nt J2 J3 Nu Nv J4 J5 J6 J7 Nw Nx Ny Nz NA ND NF NG NH Ea Eb Ec Ed AU Ee Ef Eg Eh Ei J8 J9 Ka Kb Kc Kd Ke Kf Kg Kh Ki Kj Kk Kl Km Kn Ko xq AV xr NI NJ NK NL NM NN Kq Kr Ks Ej Ek Kt Ku Kv Kw Kx Ky El Em En Eo OV Kz KA Ep ud xt AW Er AX Es KB Et Eu Ew Ex Ey Ez EA EB EC ED KC EF EG KD KF AY AZ EH EI EJ xu EK xv KG KH EL xw EM Ix Iy".splitOn).toArray.mapM f
 `(tactic|dsimp only[$a,*])
local macro_rules |`(tactic|k_is)=>`(tactic|((with_reducible first |refine Ev.AK ?_ |refine Ev.Je ?_ |refine Ev.wcl_ok ?_ |skip);(try dsimp only[List.set_cons_zero,List.set_cons_succ]);(try k_go);(repeat ((with_reducible first |refine Ev.AL ?_ |refine Ev.DR ?_);(try k_go)))))
namespace Lw
open PySem Ev
variable {p:Nat} {S:Sto} {k:Nat} {Q:D->Sto->Prop}
def pQ{i:Int}:iJ ty (.int i) S=aa (.bl (bU ty "int"),S):=rfl
def A0:iJ ty (.tup b) S=aa (.bl (bU ty "tuple"),S):=rfl
def mv{n:Nat}(h:S[n]?=aa (.lst b)):iJ ty (.ref n) S=aa (.bl (bU ty "list"),S):=by simp only[iJ,tyN,h];rfl
def Gd:ax cg (.tup b) S=aa (.int b.length,S):=rfl
def KI{i:Int}(q:Q (.bl aT) S):Ok (evC aj (k+1) 0 [.int i] S) Q:=by
 refine aq (d:=hZ) (ρ:=[aa (.int i)]) rfl rfl ?_;dsimp only[hZ,l5];k_is;refine ab pQ ?_;k_is;refine ab pQ ?_;exact q
def rq{i a b:Int}(h:a<=i)(c:i<=b)(q:Q (.bl aT) S):Ok (evC aj (k+2) 1 [.int i,.int a,.int b] S) Q:=by
 refine aq (d:=fO) (ρ:=[aa (.int i),aa (.int a),aa (.int b)]) rfl rfl ?_;dsimp only[fO,jQ];k_is;refine⟨rfl,KI ?_⟩;k_is;rw[decide_eq_true h];k_is;rw[decide_eq_true c];exact q
def EN{i:Int}(h:0<=i)(b:i<=9999)(q:Q (.bl aT) S):Ok (evC aj (k+3) 2 [.int i] S) Q:=by
 refine aq (d:=fP) (ρ:=[aa (.int i)]) rfl rfl ?_;dsimp only[fP,jR];k_is;exact⟨rfl,rq h b q⟩
def mw{a b:Int}(h:a<=c.length)(f:(c.length:Int)<=b)(q:Q (.bl aT) S):Ok (evC aj (k+1) 3 [.tup c,.int a,.int b] S) Q:=by
 refine aq (d:=ia) (ρ:=[aa (.tup c),aa (.int a),aa (.int b)]) rfl rfl ?_;dsimp only[ia,l9];k_is;refine ab A0 ?_;k_is;refine ab Gd ?_;k_is;rw[decide_eq_true h];k_is;rw[decide_eq_true f];exact q
def ay{f:Int}(h:Pot p S)(b:0 < f)(g:f < 1298074214633706907132624082305024)(q:∀ (r:Int) c,0<=r->r < f->Dr p S c->Q (.int r) c):Ok (evC aj (k+1) 49 [.ref p,.int f] S) Q:=by
 obtain⟨n,e⟩:=h;have lt:p < S.length:=(Zb.mp e).1;refine aq (d:=ij) (ρ:=[aa (.ref p),aa (.int f),aD]) rfl rfl ?_;dsimp only[ij,mi];k_is;have ix:ixS (.ref p) (.int 0) S=aa (.int n,S):=by simp only[ixS,ao,aH,e];rfl
 refine ab ix ?_;k_is;refine⟨b,?_⟩;k_is;refine ab ix ?_;k_is;refine⟨⟨b,g⟩,?_⟩;k_is;refine⟨S.set p (.lst [.int (n / f)]),by simp only[g9,e];rfl,?_⟩;exact q _ _ (Wh _ (by omega)) (XW _ b) ⟨IQ,_,mq lt⟩
def EO{c:Nat}{ns:List Int}(h:S[0]?=aa (.frz (ns.map D.int)))(q:∀i:Int,Q (.int i) S):Ok (evC aj (k+1) 47 [.ref 0,.int c] S) Q:=by
 refine aq (d:=dM) (ρ:=[aa (.ref 0),aa (.int c)]) rfl rfl ?_;dsimp only[dM,gU];k_is;have L:ax cg (.ref 0) S=aa (.int ns.length,S):=by simp only[ax,ao,aH,h,Zv,cg,Za]
 refine ab L ?_;k_is;refine eG (λf=>?_) λf=>?_
 ·k_is;have j:=of_decide_eq_true f;obtain⟨d,g,E⟩:=IS (ds:=ns.map D.int) (i:=c) (by omega) (by rw[Za];omega);have ix:ixS (.ref 0) (.int c) S=aa (d,S):=by simp only[ixS,ao,aH,h,Zv,g]
  refine ab ix ?_;rw[Zl] at E;cases b:ns[(c:Int).toNat]? with
  |none=>rw[b] at E;cases E
  |some i=>rw[b] at E;cases E;exact q i
 ·k_is;exact q 0
def KJ{c:Int}(q:∀n:Int,Q (.ref S.length) (S++[.lst [.int n]])):Ok (evC aj (k+1) 48 [.int c] S) Q:=by
 refine aq (d:=jF) (ρ:=[aa (.int c),aD,aD,aD]) rfl rfl ?_;dsimp only[jF,oh];k_is;refine⟨⟨by decide,by decide,by decide⟩,?_⟩;k_is;refine eG (λ_=>?_) λ_=>?_
 ·k_is;refine⟨⟨by decide,by decide,by decide⟩,?_⟩;k_is;exact q _
 ·k_is;refine⟨by decide,?_⟩;refine eD (by decide) (λi b f=>f=S/\∃n:Int,∃u v,b=[aa (.int c),aa (.int n),u,v]) (λi b f hi ⟨E,n,u,v,g⟩=>?_) (λb f ⟨E,n,u,v,g⟩=>?_) ⟨rfl,0,aD,aD,rfl⟩
  ·subst E g;refine⟨_,rfl,?_⟩;k_is;refine⟨by decide,?_⟩;k_is;refine⟨kG (by decide) (by decide),?_⟩;k_is;refine⟨vn (by decide) (by decide),by decide,?_⟩;k_is;have h:=Wh ((c % 2147483629+7919 * (0+(i:Int))+1) * 48271) (show(2147483647:Int) ≠ 0 by decide);have j:=XW ((c % 2147483629+7919 * (0+(i:Int))+1) * 48271) (show(0:Int) < 2147483647 by decide);refine⟨kG (by omega) (by omega),?_⟩;k_is;refine⟨kG (by decide) (by decide),?_⟩;k_is;refine⟨by decide,?_⟩;k_is;refine⟨vn (by decide) (by decide),?_⟩;k_is;exact⟨rfl,_,_,_,rfl⟩
  ·subst E g;k_is;exact q n
end Lw
namespace Sn
open Ev
structure Sky where
 r:Int
 s:Int
 M:List (List Int)
 H:List (Int × Int)
 ah:Option (Int × Int)
 G:List (List Int)
 F:List Int
abbrev gi(G:List (List Int))(i:Int)(k:Nat):Int:=((G[i.toNat]?).getD []).getD k 0
abbrev Ris:Int->List (Int × Int)->Prop
 |_,[]=>True
 |lo,p::l=>lo < p.1/\p.1 < p.2/\Ris p.2 l
section
variable (K:Sky)
abbrev jn(g:Int):Int:=gi K.G g 1
abbrev gp(a b:Int):Int:=Dw.mg2 K.M a.toNat b.toNat
abbrev ER(ah:Option (Int × Int))(k:Int):Int:=match ah with
 |none=>0
 |some p=>p.2+gp K p.1 k
abbrev js:List Int:=gL (K.G.map λg=>g.getD 1 0)
abbrev ae(t:Int)(p:Int × Int):Bool:=decide (jn K p.1<=t) && decide (t < p.2 - K.s)
abbrev wts(L:List (Int × Int))(t:Int):Nat:=(L.filter (ae K t)).length
abbrev cS(z:Int × Int)(u:Int):List Int:=u::(js K).filter λt=>decide (u < t) && ae K t z
abbrev aQ(L:List (Int × Int))(z:Int × Int)(u:Int):Int:=eO ((cS K z u).map λt=>1+(wts K L t:Int))
noncomputable abbrev A6(L:List (Int × Int))(g m:Int):Int:=aQ K L (g,m) (jn K g)
abbrev rB(L:List (Int × Int))(g m:Int):Bool:=decide (0 < gi K.G g 6) && (ae K (jn K g) (g,m) && decide (gi K.G g 6 < A6 K L g m))
end
variable {K:Sky}
def pR(h:ns ≠ []):eO ns ∈ ns:=by
 cases ns with
 |nil=>exact absurd rfl h
 |cons n ns=>exact(iO ns n).1
def pS{x:Int}(h:x ∈ ns):x<=eO ns:=by
 cases ns with
 |nil=>simp at h
 |cons n ns=>exact(iO ns n).2 x h
def kH{b:Type}{p q:b->Bool}:∀ {l:List b},(∀x ∈ l,p x=aT->q x=aT)->(l.filter p).length<=(l.filter q).length
 |[],_=>Zd _
 |a::l,h=>by
  have I:=kH (l:=l) λx g=>h x (Zm _ g);have f:=h a Zj;rw[Ye,Ye];split
  ·rename_i c;rw[if_pos (f c),ZD,ZD]
   lia
  ·split
   ·rw[ZD];lia
   ·exact I
def ue{j t:Int}(g:j<=t):∀ (L:List (Int × Int)),∃u,(u=j\/∃p ∈ L,u=jn K p.1)/\j<=u/\u<=t/\∀p ∈ L,ae K t p=aT->jn K p.1<=u
 |[]=>⟨j,.inl rfl,ZI _,g,λp v=>by simp at v⟩
 |p::L=>by
  obtain⟨u,b,o,n,h4⟩:=ue g L;by_cases f:ae K t p=aT/\u < jn K p.1
  ·refine⟨jn K p.1,.inr ⟨p,Zj,rfl⟩,by lia,?_,λq hq h=>?_⟩
   ·have:=f.1;simp only[ae,bAE,decide_eq_true_eq] at this;exact this.1
   ·rcases Zk.mp hq with rfl |hq
    ·exact ZI _
    ·have:=h4 q hq h;lia
  ·refine⟨u,?_,o,n,λq hq h=>?_⟩
   ·rcases b with b |⟨q,hq,b⟩
    ·exact .inl b
    ·exact .inr ⟨q,Zm _ hq,b⟩
   ·rcases Zk.mp hq with rfl |hq
    ·by_cases c:u < jn K q.1
     ·exact absurd ⟨h,c⟩ f
     ·lia
    ·exact h4 q hq h
end Sn
namespace Lw
open PySem Ev Sn
variable {p:Nat} {S:Sto} {k:Nat} {Q:D->Sto->Prop}
def NP{f:List D}{T:Tg}{b:XS}{c:Rho}{Q:Fl->Rho->Sto->Prop}(hl:f.length<=100000)(I:Nat->Rho->Sto->Prop)
  (step:∀ (i:Nat) d c j,f[i]?=aa d->I i c j->∃h,av T d c=aa h/\OkS (b h j) λv g n=>match v with |.nx=>I (i+1) g n |.ct=>I (i+1) g n |.bk=>Q .nx g n |.rt d=>Q (.rt d) g n)
  (q:∀c j,I f.length c j->Q .nx c j) (u:I 0 c S):OkS (cU (nxL f) T b LF 0 c S) Q:=by
 refine i4 f.length I (by unfold LF;lia) (λi c j hi o=>?_) (λc j o=>⟨?_,q c j o⟩) u
 ·obtain⟨h,E,z⟩:=step i f[i] c j (gEG hi) o;exact⟨f[i],h,by show aa f[i]?=_;rw[gEG hi],E,z⟩
 ·show aa f[f.length]?=_;rw[ZB (Zd _)]
def aF{y:Type}{nx:Nxt}{T:Tg}{c:XA}{C:Rho}{Q:List D->Sto->Prop}(l:List y)(E:y->D)(f:y->List D)(hl:l.length<=1000)(O:∀a ∈ l,(f a).length<=1)
  (v:∀i g,Sm S g->nx i g=aa ((l[i]?).map E))
  (step:∀ (i:Nat) a g,l[i]?=aa a->Sm S g->∃j,av T (E a) C=aa j/\Ok (c j g) λo B=>o=f a/\Sm g B) (q:∀g,Sm S g->Q (l.flatMap f) g) :
  Ok (bn nx T c C LF 0 S) λo S2=>o.length<=100000/\Q o S2:=by
 refine(eC l.length (λi n g=>Sm S g/\n=(l.take i).flatMap f) (by unfold LF;lia) (λi n g hi ⟨sm,u⟩=>?_) (λn g ⟨sm,u⟩=>?_) ⟨Sm.refl S,by simp⟩).mono λo g ⟨sm,u⟩=>?_
 ·obtain⟨j,L,o,B,J,U,z⟩:=step i l[i] g (gEG hi) sm;refine⟨E l[i],j,by rw[v i g sm,gEG hi];rfl,L,o,B,J,sm.trans z,?_⟩;rw[u,U,ZQ hi,XG];simp
 ·rw[v _ g sm,ZB (Zd _)];rfl
 ·rw[Yx] at u;subst u;refine⟨?_,q g sm⟩
  have:∀m:List y,(∀a ∈ m,(f a).length<=1)->(m.flatMap f).length<=m.length:=λm=>by
   induction m with
   |nil=>intro _;simp
   |cons a m I=>
    intro h;rw[Xl,Zi,ZD];have:=h a Zj;have:=I λb hb=>h b (Zm _ hb)
    lia
  have:=this l O
  lia
def bZ{c:Type}{l:List c}{E:c->D}:∀i b,Sm S b->nxL (l.map E) i b=aa ((l[i]?).map E):=λi b _=>by
 show aa (l.map E)[i]?=_;rw[Zl]
def aJ{c:Type}{n:Nat}{l:List c}{E:c->D}(h:S[n]?=aa (.lst (l.map E))):∀i b,Sm S b->nxS n i b=aa ((l[i]?).map E):=λi b sm=>by
 show(aH b n).map (λf=>f[i]?)=_;rw[af (sm _ _ h),Zv,Zl]
def aK{b:Type}(l:List b)(f:b->D):(l.flatMap λa=>[f a])=l.map f:=by
 induction l with
 |nil=>rfl
 |cons a l I=>rw[Xl,I];rfl
def aX{b:Type}(l:List b)(c:b->Bool)(f:b->D):(l.flatMap λa=>if c a=aT then [f a] else [])=(l.filter c).map f:=by
 induction l with
 |nil=>rfl
 |cons a l I=>
  rw[Xl,I,Ye];split <;> rfl
abbrev au(r:List Int):D:=.tup (r.map D.int)
abbrev ahE:Option (Int × Int)->D
 |none=>.non
 |some q=>.tup [.int q.1,.int q.2]
abbrev meE(K:Sky):D:=.tup [.int K.r,.int K.s,.tup (K.M.map au),.tup (K.H.map ac)]
abbrev skE(K:Sky):D:=.tup [meE K,ahE K.ah,.tup (K.G.map au),.tup (K.F.map D.int)]
structure Vd(K:Sky):Prop where
 r0:0<=K.r
 r8:K.r<=8
 s0:0<=K.s
 s60:K.s<=60
 m0:1<=K.M.length
 m4:K.M.length<=4
 row:∀r ∈ K.M,r.length=K.M.length
 ris:Ris (-1) K.H
 h4:K.H.length<=4
 ah0:∀q,K.ah=aa q->0<=q.1/\q.1 < K.M.length
 g7:K.G.length<=7
 gl:∀g ∈ K.G,g.length=7/\0<=g.getD 0 0/\g.getD 0 0 < K.M.length/\0<=g.getD 2 0
variable {K:Sky}
def sk0:ixS (skE K) (.int 0) S=aa (meE K,S):=rfl
def sk1:ixS (skE K) (.int 1) S=aa (ahE K.ah,S):=rfl
def sk2:ixS (skE K) (.int 2) S=aa (.tup (K.G.map au),S):=rfl
def sk3:ixS (skE K) (.int 3) S=aa (.tup (K.F.map D.int),S):=rfl
def me0:ixS (meE K) (.int 0) S=aa (.int K.r,S):=rfl
def me1:ixS (meE K) (.int 1) S=aa (.int K.s,S):=rfl
def me2:ixS (meE K) (.int 2) S=aa (.tup (K.M.map au),S):=rfl
def me3:ixS (meE K) (.int 3) S=aa (.tup (K.H.map ac),S):=rfl
def gl7(V:Vd K){g:Int}(q:0<=g)(u:g < K.G.length):∃a b c d e f h,K.G[g.toNat]?=aa [a,b,c,d,e,f,h]/\gi K.G g 0=a/\gi K.G g 1=b/\gi K.G g 2=c/\gi K.G g 3=d/\gi K.G g 6=h/\0<=a/\a < K.M.length/\0<=c:=by
 have hi:g.toNat < K.G.length:=by lia
 obtain⟨L,j,o,C⟩:=V.gl K.G[g.toNat] (ZT hi)
 match n:K.G[g.toNat],L with
 |[a,b,c,d,e,f,h],_=>
  have eq:K.G[g.toNat]?=aa [a,b,c,d,e,f,h]:=by rw[gEG hi,n]
  rw[n] at j o C;refine⟨a,b,c,d,e,f,h,eq,?_,?_,?_,?_,?_,j,o,C⟩ <;> (unfold gi;rw[eq];rfl)
def mB{i:Int}(b:0<=i)(h:ds[i.toNat]?=aa d):ixS (.tup ds) (.int i) S=aa (d,S):=by
 obtain⟨n,rfl⟩:∃n:Nat,i=(n:Int):=⟨i.toNat,by lia⟩;exact yk h
def bV{g:Int}(b:0<=g)(h:K.G[g.toNat]?=aa r):ixS (.tup (K.G.map au)) (.int g) S=aa (au r,S):=mB b (by rw[Zl,h];rfl)
def jJ(V:Vd K){a b:Int}(c:0<=a)(j:a < K.M.length)(B:0<=b)(f:b < K.M.length):∃r,ixS (.tup (K.M.map au)) (.int a) S=aa (au r,S)/\ixS (au r) (.int b) S=aa (.int (gp K a b),S):=by
 have hi:a.toNat < K.M.length:=by lia
 have g:=V.row K.M[a.toNat] (ZT hi);have h:b.toNat < K.M[a.toNat].length:=by lia
 refine⟨K.M[a.toNat],mB c (by rw[Zl,gEG hi];rfl),mB B ?_⟩;rw[Zl,gEG h];have:gp K a b=K.M[a.toNat][b.toNat]:=by unfold gp Dw.mg2;rw[gEG hi,ZU,gEG h];rfl
 rw[this];rfl
end Lw
namespace Lw
open PySem Ev Sn L2
variable {p:Nat} {S S':Sto} {k:Nat} {Q:D->Sto->Prop} {K:Sky}
def A7{A B:Prop}(h:t=aT->u=aT->A)(hb:(t && u)=aW->B):wIf t (wIf u A B) B:=by
 cases t with
 |false=>exact hb rfl
 |true=>cases u with
  |true=>exact h rfl rfl
  |false=>exact hb rfl
def cT{b:Type}{l:List b}{E:b->D}{i:Nat}{d:D}(h:(l.map E)[i]?=aa d):∃a,l[i]?=aa a/\d=E a:=by
 rw[Zl] at h;cases e:l[i]? with
 |none=>rw[e] at h;cases h
 |some a=>rw[e] at h;cases h;exact⟨a,rfl,rfl⟩
abbrev eI(K:Sky)(L:List (Int × Int)):Option (Int × Int):=match L.getLast? with
 |none=>K.ah
 |some p=>aa (gi K.G p.1 0,p.2)
abbrev InG(K:Sky)(L:List (Int × Int)):Prop:=∀p ∈ L,0<=p.1/\p.1 < K.G.length
def A8(V:Vd K){n:Nat}(g:S[n]?=aa (.lst (L.map ac)))(o:InG K L)(q:Q (ahE (eI K L)) S):Ok (evC aj (k+1) 26 [skE K,.ref n] S) Q:=by
 refine aq (d:=cp) (ρ:=[aa (skE K),aa (.ref n),aD,aD]) rfl rfl ?_;dsimp only[cp,fu];k_is;have T:fG (.ref n) S=aa (!(L.map ac).isEmpty,S):=by simp only[fG,af g]
 refine ab T ?_;k_is;rcases Z1 L with rfl |⟨L',z,rfl⟩
 ·k_is;exact ab sk1 q
 ·rw[Z2] at g o q ⊢;rw[show(!!((L'++[z]).map ac).isEmpty)=aW by simp];k_is;have j:=o z (by simp);refine ab (dj (ds:=L'.map ac) (e:=ac z) (by rw[g,Zq];rfl)) ?_;rw[show ac z = .tup [.int z.1,.int z.2] from rfl];k_is;refine ab sk2 ?_;obtain⟨a,b,c,d,e,f,h,u,E,_⟩:=gl7 V j.1 j.2;refine ab (bV j.1 u) (ab (show ixS (au [a,b,c,d,e,f,h]) (.int 0) S=aa (.int a,S) from rfl) ?_);k_is
  have:eI K (L'++[z])=aa (a,z.2):=by
   unfold eI;rw[YR];simp[E]
  rw[this] at q;exact q
def ES(V:Vd K){a:Option (Int × Int)}{b:Int}(h:∀q,a=aa q->0<=q.1/\q.1 < K.M.length)(j:0<=b)(c:b < K.M.length)(q:Q (.int (ER K a b)) S):Ok (evC aj (k+1) 27 [skE K,ahE a,.int b] S) Q:=by
 refine aq (d:=jD) (ρ:=[aa (skE K),aa (ahE a),aa (.int b)]) rfl rfl ?_;dsimp only[jD,oe];k_is;cases a with
 |none=>exact ab (show az .is (ahE aD) .non S=aa (.bl aT,S) from rfl) (by k_is;exact q)
 |some z=>
  refine ab (show az .is (ahE (aa z)) .non S=aa (.bl aW,S) from rfl) ?_;k_is;obtain⟨f,n⟩:=h z rfl;refine ab (show ixS (ahE (aa z)) (.int 1) S=aa (.int z.2,S) from rfl) ?_;refine ab sk0 (ab me2 (ab (show ixS (ahE (aa z)) (.int 0) S=aa (.int z.1,S) from rfl) ?_));obtain⟨r,g1,g⟩:=jJ (S:=S) V f n j c;refine ab g1 (ab g ?_);k_is;exact q
def bT(V:Vd K){z:Int × Int}{t:Int}(g:0<=z.1)(n:z.1 < K.G.length)(q:Q (.bl (ae K t z)) S):Ok (evC aj (k+1) 29 [skE K,ac z,.int t] S) Q:=by
 refine aq (d:=ie) (ρ:=[aa (skE K),aa (ac z),aa (.int t),aD,aD]) rfl rfl ?_;dsimp only[ie,mf];rw[show ac z = .tup [.int z.1,.int z.2] from rfl];k_is;refine ab sk2 ?_;obtain⟨a,b,c,d,e,f,h,o,_,E,_⟩:=gl7 V g n;refine ab (bV g o) (ab (show ixS (au [a,b,c,d,e,f,h]) (.int 1) S=aa (.int b,S) from rfl) ?_);k_is;have j:ae K t z=(decide (b<=t) && decide (t < z.2 - K.s)):=by unfold ae jn;rw[E]
 rw[j] at q;cases C:decide (b<=t) with
 |false=>rw[C] at q;k_is;exact q
 |true=>
  rw[C] at q;k_is;refine ab sk0 (ab me1 ?_);k_is;exact q
def A9(V:Vd K){L:List (Int × Int)}{n:Nat}{t:Int}(h:S[n]?=aa (.lst (L.map ac)))(c:InG K L)(hl:L.length<=1000)(q:∀S',Sm S S'->Q (.int (wts K L t)) S'):Ok (evC aj (k+2) 30 [skE K,.ref n,.int t] S) Q:=by
 refine aq (d:=cu) (ρ:=[aa (skE K),aa (.ref n),aa (.int t)]) rfl rfl ?_;dsimp only[cu,fw];k_is;refine⟨by rw[af h];rfl,?_⟩;refine aF L ac (λz=>if ae K t z=aT then [ac z] else []) hl (λz _=>by split <;> simp) (aJ h) (λi z S' b sm=>⟨_,rfl,?_⟩) λS' sm=>?_
 ·have:=c z (Ze b);k_is;refine⟨rfl,bT V this.1 this.2 ?_⟩;k_is;cases ae K t z with
  |true=>k_is;exact⟨rfl,Sm.refl _⟩
  |false=>k_is;exact⟨rfl,Sm.refl _⟩
 ·rw[aX];refine ab (show cg aW ((L.filter (ae K t)).map ac) S'=aa (.int (wts K L t),S') by unfold cg wts;rw[Za]) ?_;k_is;exact q S' sm
def xy{x:Int}:dr ((x::X).map D.int)=aD:=by simp only[Zx,dr,lh]
def kJ:∀ (X:List Int),fm (X.map D.int)=aa X
 |[]=>rfl
 |x::X=>by simp only[Zx,fm,kJ X]
def Ba(h:xs.length < 64):cD aW (xs.map D.int)=aa ((gL xs).map D.int):=by
 unfold cD;rw[if_pos rfl];cases xs with
 |nil=>rfl
 |cons x xs=>
  simp only[tH,xy,kJ];rw[if_pos h]
def Bb:(js K).length=K.G.length:=by unfold js;rw[(bW _).length_eq,Za]
def rC(V:Vd K)(q:∀S',Sm S S'->S'[Zc S' - 1]?=aa (.lst ((js K).map D.int))->Zc S<=Zc S' - 1->Q (.ref (Zc S' - 1)) S'):Ok (evC aj (k+1) 31 [skE K] S) Q:=by
 refine aq (d:=bQ) (ρ:=[aa (skE K)]) rfl rfl ?_;dsimp only[bQ,dh];k_is;refine ab sk2 ?_;k_is;refine aF K.G au (λg=>[.int (g.getD 1 0)]) (by have:=V.g7;lia) (λ_ _=>Zd _) bZ (λi g S' o sm=>⟨_,rfl,?_⟩) λS' sm=>?_
 ·obtain⟨L,_⟩:=V.gl g (Ze o)
  match g,L with
  |[a,b,c,d,e,f,h],_=>
   k_is;exact ab (show ixS (au [a,b,c,d,e,f,h]) (.int 1) S'=aa (.int b,S') from rfl) ⟨rfl,Sm.refl _⟩
 ·rw[aK];refine⟨_,show cD aW (K.G.map λg=>D.int (g.getD 1 0))=aa ((js K).map D.int) from ?_,?_⟩
  ·have:=Ba (xs:=K.G.map λg=>g.getD 1 0) (by rw[Za];have:=V.g7;lia);rw[ZO] at this;exact this
  ·have e:Zc (S'++[Ob.lst ((js K).map D.int)]) - 1=Zc S':=by simp
   have sl:Zc S<=Zc S':=by
    cases n:decide (Zc S<=Zc S') with
    |true=>exact of_decide_eq_true n
    |false=>
     exfalso;have j:Zc S' < Zc S:=by have:=of_decide_eq_false n;lia
     have:=sm (Zc S') S[Zc S'] (gEG j);rw[ZB (Zd _)] at this;cases this
   have:=q (S'++[Ob.lst ((js K).map D.int)]) (sm.trans (Sm.app _ _)) (by rw[e];exact ai) (by rw[e];exact sl);rw[e] at this;exact this
def aY{n:Nat}{i:Int}(c:S[n]?=aa (.lst b))(f:0<=i)(h:b[i.toNat]?=aa d):ixS (.ref n) (.int i) S=aa (d,S):=by
 obtain⟨j,rfl⟩:∃j:Nat,i=(j:Int):=⟨i.toNat,by lia⟩;rw[Zs] at h;simp only[ixS,ao,af c,Zv,Ev.ut h]
def cE{n:Nat}{j:Nat}(c:S[n]?=aa (.lst b)):slS aD (aa (j:Int)) (.ref n) S=aa (.ref (Zc S),S++[.lst (b.take j)]):=by
 have:gH b aD (aa (j:Int))=b.take j:=by
  by_cases h:j<=b.length
  ·exact Ar b j h
  ·unfold gH;rw[Dw.yF _ _ (by lia),Zs,We (by lia)];show(b.drop 0).take (b.length - 0)=b.take j;rw[List.drop_zero,ZZ (by lia),ZZ (by lia)]
 simp only[slS,af c,this]
def dm{a b:Nat}(h:S[a]?=aa (.lst xs))(hb:S[b]?=aa (.lst y))(hl:xs.length+y.length<=100000):bF .add (.ref a) (.ref b) S=aa (.ref (Zc S),S++[.lst (xs++y)]):=by
 simp only[bF,km,Hh,h,hb];rw[if_pos hl]
def b9{n:Nat}(h:S[n]?=aa (.lst b)):ax cg (.ref n) S=aa (.int b.length,S):=by simp only[ax,ao,af h,Zv,cg]
def Bc(h:xs ≠ []):kn aW (xs.map D.int) S=aa (.int (eO xs),S):=by
 cases xs with
 |nil=>exact absurd rfl h
 |cons x xs=>unfold kn;rw[kJ]
def pT(V:Vd K){L:List (Int × Int)}{n j:Nat}{z:Int × Int}(u:Int)(C:S[n]?=aa (.lst (L.map ac)))(J:L[j]?=aa z)(X:InG K L)(hl:L.length<=100)(q:∀S',Sm S S'->Q (.int (aQ K (L.take j) z u)) S'):Ok (evC aj (k+3) 35 [skE K,.ref n,.int j,.int (u)] S) Q:=by
 refine aq (d:=dI) (ρ:=[aa (skE K),aa (.ref n),aa (.int j),aa (.int (u)),aD,aD]) rfl rfl ?_;dsimp only[dI,gR];have h:=X z (Ze J);k_is;refine ab (cE C) ?_;k_is;have B:Sm S (S++[Ob.lst ((L.map ac).take j)]):=Sm.app _ _;have Z:(S++[Ob.lst ((L.map ac).take j)])[Zc S]?=aa (Ob.lst ((L.take j).map ac)):=by rw[ai,Yu]
 generalize Zc S=N1 at *;generalize S++[Ob.lst ((L.map ac).take j)]=S1 at *;refine⟨rfl,rC V λS2 f U _=>?_⟩;k_is;refine⟨by rw[af U];rfl,?_⟩;have o:(js K).length<=7:=by rw[Bb];exact V.g7
 refine aF (js K) D.int (λt=>if (decide (u < t) && ae K t z)=aT then [D.int t] else []) (by lia) (λ_ _=>by split <;> simp) (aJ U) (λi t S' ht sm=>⟨_,rfl,?_⟩) λb I=>?_
 ·k_is;cases c:decide (u < t) with
  |false=>k_is;exact⟨rfl,Sm.refl _⟩
  |true=>
   k_is;have g:=sm _ _ (f _ _ (B _ _ C));refine ab (aY g (by lia) (show(L.map ac)[((j:Nat):Int).toNat]?=aa (ac z) by rw[Zs,Zl,J];rfl)) ?_;refine⟨rfl,bT V h.1 h.2 ?_⟩;k_is;cases ae K t z with
   |true=>k_is;exact⟨rfl,Sm.refl _⟩
   |false=>k_is;exact⟨rfl,Sm.refl _⟩
 ·rw[aX];k_is;have lt3:Zc b < Zc (b++[Ob.lst (((js K).filter λt=>decide (u < t) && ae K t z).map D.int)]):=by simp
  have a3:(b++[Ob.lst (((js K).filter λt=>decide (u < t) && ae K t z).map D.int)])[Zc b]?=aa (Ob.lst (((js K).filter λt=>decide (u < t) && ae K t z).map D.int)):=ai;have O:Sm b (b++[Ob.lst (((js K).filter λt=>decide (u < t) && ae K t z).map D.int)]):=Sm.app _ _;have lf:((js K).filter λt=>decide (u < t) && ae K t z).length<=7:=ZH (ZV _ _) o;generalize Zc b=N3 at *;generalize b++[Ob.lst (((js K).filter λt=>decide (u < t) && ae K t z).map D.int)]=S4 at *;have v:Sm S4 (S4++[Ob.lst [D.int (u)]]):=Sm.app _ _;refine ab (dm (xs:=[D.int (u)]) ai (v _ _ a3) (by rw[Za,Zy];lia)) ?_;k_is;have Y:Sm (S4++[Ob.lst [D.int (u)]]) (S4++[Ob.lst [D.int (u)]]++[Ob.lst ([D.int (u)]++((js K).filter λt=>decide (u < t) && ae K t z).map D.int)]):=Sm.app _ _;have T:(S4++[Ob.lst [D.int (u)]]++[Ob.lst ([D.int (u)]++((js K).filter λt=>decide (u < t) && ae K t z).map D.int)])[Zc (S4++[Ob.lst [D.int (u)]])]?=aa (Ob.lst ((cS K z u).map D.int)):=ai;refine⟨by rw[af T];rfl,?_⟩;have sA:=((((B.trans f).trans I).trans O).trans v).trans Y;have aL:=(((((f.trans I).trans O).trans v).trans Y)) _ _ Z;refine aF (cS K z u) D.int (λt=>[D.int (1+(wts K (L.take j) t:Int))]) (by show((js K).filter λt=>decide (u < t) && ae K t z).length+1<=1000;lia) (λ_ _=>Zd _) (aJ T) (λi t S' ht sm=>⟨_,rfl,?_⟩) λy s7=>?_
  ·k_is;refine⟨rfl,A9 V (sm _ _ aL) (λw hw=>X w (Yz hw)) (by rw[ZC];lia) λS8 s8=>?_⟩;k_is;exact⟨rfl,s8⟩
  ·rw[aK];have E:=Bc (S:=y) (xs:=(cS K z u).map λt=>1+(wts K (L.take j) t:Int)) (by unfold cS;simp);rw[ZO] at E;exact ab E (by k_is;exact q y (sA.trans s7))
def ET(V:Vd K){L:List (Int × Int)}{n j:Nat}{z:Int × Int}(u:S[n]?=aa (.lst (L.map ac)))(o:L[j]?=aa z)(B:InG K L)(hl:L.length<=100)(q:∀S',Sm S S'->Q (.bl (rB K (L.take j) z.1 z.2)) S'):Ok (evC aj (k+4) 34 [skE K,.ref n,.int j] S) Q:=by
 refine aq (d:=dH) (ρ:=[aa (skE K),aa (.ref n),aa (.int j),aD,aD,aD,aD,aD,aD,aD]) rfl rfl ?_;dsimp only[dH,gQ];have g:=B z (Ze o);obtain⟨a,b,c,d,e,f,h,J,Z,O,e2,Y,X,_⟩:=gl7 V g.1 g.2;have hi:=aY u (show(0:Int)<=(j:Int) by lia) (show(L.map ac)[((j:Nat):Int).toNat]?=aa (ac z) by rw[Zs,Zl,o];rfl);k_is;refine ab sk2 (ab hi (ab (show ixS (ac z) (.int 0) S=aa (.int z.1,S) from rfl) (ab (bV g.1 J) ?_)));rw[show au [a,b,c,d,e,f,h] = .tup [.int a,.int b,.int c,.int d,.int e,.int f,.int h] from rfl];k_is;have E:jn K z.1=b:=O;have I:rB K (L.take j) z.1 z.2=(decide (0 < h) && (ae K b z && decide (h < A6 K (L.take j) z.1 z.2))):=by unfold rB;rw[X,E]
 rw[I] at q;cases v:decide (0 < h) with
 |false=>rw[v] at q;k_is;exact q S (Sm.refl S)
 |true=>
  rw[v] at q;k_is;refine ab hi ?_;refine⟨rfl,bT V g.1 g.2 ?_⟩;k_is;cases C:ae K b z with
  |false=>rw[C] at q;k_is;exact q S (Sm.refl S)
  |true=>
   rw[C] at q;k_is
   have rg:=pT (k:=k) (Q:=λy T=>wCx .gt y (.int h) T λd U=>Q d U) V (jn K z.1) u o B hl λS' sm=>by
    k_is;exact q S' sm
   rw[E] at rg;exact⟨rfl,rg⟩
def Sm.setNew{f:Nat}(h:Sm S S')(b:S.length<=f):Sm S (S'.set f o):=λi u e=>by
 have hi:=(Zb.mp e).1;rw[ZE (by lia)];exact h i u e
def uf{g:Int}(g0:0<=g)(g1:g < K.G.length):jn K g ∈ js K:=by
 have hi:g.toNat < K.G.length:=by lia
 refine(bW _).mem_iff.mpr (ZA.mpr ⟨K.G[g.toNat],ZT hi,?_⟩);unfold jn gi;rw[gEG hi];rfl
def i7(V:Vd K)(n:InG K L):∀q,eI K L=aa q->0<=q.1/\q.1 < K.M.length:=λq e=>by
 unfold eI at e;cases h:L.getLast? with
 |none=>rw[h] at e;exact V.ah0 q e
 |some z=>
  rw[h] at e;cases e;have g:=n z (YA h);obtain⟨a,b,c,d,e,f,h,y,E,v,u,I,B,o,j,C⟩:=gl7 V g.1 g.2;show 0<=gi K.G z.1 0/\gi K.G z.1 0 < K.M.length;rw[E];exact⟨o,j⟩
def fg:eI K (L++[z])=aa (gi K.G z.1 0,z.2):=by
 unfold eI;rw[YR];rfl
def rD:∀ (X:List Int),eqL eqB (X.map D.int) (X.map D.int)=aa aT
 |[]=>rfl
 |x::X=>by
  have e:eqB (D.int x) (D.int x)=aa (x == x):=rfl;rw[Zx,eqL,e,rD X,beq_self_eq_true];rfl
def mD{b:List D}(i:Nat)(d:D)(h:b[i]?=aa d):(λi=>(b[i]?).getD .non) i=d:=by
 show(b[i]?).getD .non=d;rw[h];rfl
def cA{i:Int}(h:0<=i)(b:i < 1000):lim i=aT:=by simp only[lim,bAE,decide_eq_true_eq];lia
def Kp.len{p:Nat}(h:Ev.Kp p S S')(f:p < S'.length):S.length<=S'.length:=by
 by_cases c:S.length<=S'.length
 ·exact c
 ·exfalso;have b:S'.length < S.length:=by lia
  have:=h S'.length S[S'.length] (by lia) (gEG b);rw[ZB (Zd _)] at this;cases this
def rE:∀ {H:List (Int × Int)} {lo x y:Int},Ris lo H->lo < x->(∀q ∈ H,q.2 < x)->x < y->Ris lo (H++[(x,y)])
 |[],lo,x,y,_,h1,_,h3=>⟨h1,h3,trivial⟩
 |q::H,lo,x,y,h,h1,h2,h3=>by
  rw[Ris] at h;exact⟨h.1,h.2.1,rE h.2.2 (h2 q Zj) (λr b=>h2 r (Zm _ b)) h3⟩
def pU:∀ {H:List (Int × Int)} {lo:Int} {q:Int × Int},Ris lo H->q ∈ H->lo < q.1/\q.1 < q.2
 |q'::H,lo,q,h,hq=>by
  rw[Ris] at h;rcases Zk.mp hq with rfl |hq
  ·exact⟨h.1,h.2.1⟩
  ·have:=pU h.2.2 hq
   lia
def rF:∀ {H:List (Int × Int)} {lo:Int},Ris lo H->∀ (i:Nat) q b,H[i]?=aa q->H[i+1]?=aa b->q.2 < b.1
 |q0::H,lo,h,0,q,b,e1,e2=>by
  rw[Ris] at h;cases e1;rw[YF] at e2;exact(pU h.2.2 (Ze e2)).1
 |q0::H,lo,h,i+1,q,b,e1,e2=>by
  rw[Ris] at h;rw[YF] at e1 e2;exact rF h.2.2 i q b e1 e2
structure MeOk(r s:Int)(M:List (List Int))(H:List (Int × Int)):Prop where
 r0:0<=r
 r8:r<=8
 s0:0<=s
 s60:s<=60
 mat:Dw.Mat M.length M
 m1:1<=M.length
 m4:M.length<=4
 tri:Dw.nr M.length M.length M
 ris:Ris (-1) H
 h4:H.length<=4
 hb:∀q ∈ H,q.2<=9999
abbrev GB(n:Nat)(r s:Int)(g:List Int):Prop:=∃o j f la b h c:Int,g=[o,j,f,la,b,h,c]/\0<=o/\o < n/\0<=j/\j+s<=f/\f<=la/\la<=9999/\0<=b/\b<=9999/\0<=h/\h<=99/\0<=c/\c<=r
structure SkOk(K:Sky):Prop where
 me:MeOk K.r K.s K.M K.H
 g7:K.G.length<=7
 gb:∀g ∈ K.G,GB K.M.length K.r K.s g
 nd:K.F.Nodup
 bd:∀x ∈ K.F,0<=x/\x < K.G.length
 rg:∀ (j:Nat) g,K.G[j]?=aa g->g.getD 6 0=0\/(j:Int) ∈ K.F
 ah:∀q,K.ah=aa q->0<=q.1/\q.1 < K.M.length/\0<=q.2/\q.2<=9999
def SkOk.vd(h:SkOk K):Vd K:=by
 refine⟨h.me.r0,h.me.r8,h.me.s0,h.me.s60,h.me.m1,h.me.m4,h.me.mat.row,h.me.ris,h.me.h4,λq e=>⟨(h.ah q e).1,(h.ah q e).2.1⟩,h.g7,λg c=>?_⟩;obtain⟨u,J,f,la,n,y,v,rfl,j,b,o,h4,_⟩:=h.gb g c;have:=h.me.s0;refine⟨rfl,j,b,?_⟩;show 0<=f
 lia
abbrev meL(r s:Int)(M:List (List Int))(H:List (Int × Int)):D:=.tup [.int r,.int s,.tup (M.map au),.tup (H.map ac)]
def ug{n:Nat}{l:List Int}(h:l.Perm ((Zh n).map λi=>Int.ofNat i)):l.Nodup/\(∀x ∈ l,0<=x/\x < n)/\l.length=n:=by
 refine⟨h.nodup_iff.mpr (Y1.mpr (List.nodup_range.imp λh z=>h (Int.ofNat.inj z))),λx b=>?_,by rw[h.length_eq,Za,ZK]⟩;obtain⟨i,hi,rfl⟩:=ZA.mp (h.mem_iff.mp b);have:=Z6.mp hi;show 0<=(i:Int)/\(i:Int) < n
 lia
def Bd{n:Nat}:∀i S',Sm S S'->nxR 0 n i S'=aa (((Zh n)[i]?).map λ(j:Nat)=>D.int (0+(j:Int))):=λi S' _=>by
 show aa (if i < n then aa (D.int (0+(i:Int))) else aD)=_;split
 ·rename_i h;rw[Yj h];rfl
 ·rename_i h;rw[ZB (by rw[ZK];lia)];rfl
def vA{b c:Type}(f:b->c):∀ (l:List b) (j:Nat),(l.map f).eraseIdx j=(l.eraseIdx j).map f
 |[],_=>rfl
 |_::_,0=>rfl
 |a::l,j+1=>by rw[Zx,YY,YY,Zx,vA f l j]
def rG{b:Type}:∀ (l:List b) (j:Nat) (h:j < l.length),(l[j]::l.eraseIdx j).Perm l
 |a::l,0,_=>List.Perm.refl _
 |a::l,j+1,h=>by
  rw[YY,List.getElem_cons_succ];exact(List.Perm.swap _ _ _).trans ((rG l j (by simpa using h)).cons a)
def ow{L:Nat}{I:List Int}(h:Pot p S)(f:S[L]?=aa (.lst (I.map D.int)))(O:L ≠ p)(Y:I.length<=1000)
  (q:∀ (is:List Int) S',Dr p S S'->is.Perm I->Q (.ref (Zc S')) (S'++[.lst (is.map D.int)])):Ok (evC aj (k+2) 55 [.ref p,.ref L] S) Q:=by
 refine aq (d:=f9) (ρ:=[aa (.ref p),aa (.ref L),aD]) rfl rfl ?_;dsimp only[f9,j7];k_is;have U:ao (.ref L) S=aa (aW,I.map D.int):=by simp only[ao,af f,Zv]
 rw[U];show Ok (aa (I.map D.int,S)) _;rw[aA];k_is;have lt:=h.lt;have C:Dr p S (S++[Ob.lst (I.map D.int)]):=Dr.sm h (Sm.app _ _);have v:=Sm.app S [Ob.lst (I.map D.int)] _ _ f;have T:L < Zc S:=(Zb.mp f).1;k_is;refine⟨(by rw[af v];rfl),?_⟩;have E:(I.map D.int).length=I.length:=Za _;refine bL I.length (λi=>((I.map D.int)[i]?).getD .non) (λi b S'=>Ev.Kp p S S'/\Pot p S'/\∃left as:List Int,S'[Zc S]?=aa (.lst (left.map D.int))/\b=as.map D.int/\(as++left).Perm I/\left.length+i=I.length) (λi b S' hi ⟨kp,_⟩=>by rw[<-E];exact ip (kp _ _ O f) _ mD) (by lia) (λi b g hi ⟨kp,pt,left,as,hf,ea,pm,ll⟩=>⟨_,rfl,?_⟩) (λZ g ⟨kp,pt,left,as,hf,ea,pm,ll⟩=>⟨by rw[ea,Za];have:=pm.length_eq;rw[Zi] at this;lia,?_⟩) ⟨C.kp,C.pot,I,[],ai,rfl,by simp,by lia⟩
 ·k_is;refine⟨eF hf,?_⟩;k_is;have X:ax cg (D.ref (Zc S)) g=aa (.int left.length,g):=by simp only[ax,ao,af hf,Zv,cg,Za]
  refine ab X ?_;k_is;refine⟨rfl,ay pt (by lia) (by lia) λr B r1 r2 z=>?_⟩;k_is;obtain⟨j,rfl⟩:∃n:Nat,r=(n:Int):=⟨r.toNat,by lia⟩;have u:j < left.length:=by lia
  have c:=z.kp _ _ (show Zc S ≠ p by lia) hf;have o:Zc S < B.length:=(Zb.mp c).1
  have J:g8 (.ref (Zc S)) [.int (j:Int)] B=aa (.int left[j],B.set (Zc S) (.lst ((left.map D.int).eraseIdx j))):=by
   have y:ixN (left.map D.int).length (j:Int)=aa j:=by
    unfold ixN;rw[if_pos (by lia),if_pos (by rw[Za];lia),Zs]
   simp only[g8,chg,c,y,Zl,gEG u,Zv]
  refine ab J ?_;k_is;refine⟨(kp.trans z.kp).setNew (Zd _),z.pot.setNe (by lia),left.eraseIdx j,as++[left[j]],by rw[mq o,vA],by rw[ea,Zq];rfl,?_,by rw[YQ u];lia⟩;refine List.Perm.trans ?_ pm;rw[Yg];exact List.Perm.append_left as (rG left j u)
 ·subst ea;k_is;have:left=[]:=Yc.mp (by lia);subst this;rw[Z4] at pm;exact q as g ⟨kp,pt⟩ pm
def oz:∀ (ps:List (Int × Int)),dr (ps.map ac)=aa ps
 |[]=>rfl
 |q::ps=>by
  rw[Zx];simp only[dr,oz ps,ac,lh]
def mE{b:Type}(d:b)(l:List b):(Zh l.length).map (λi=>l.getD i d)=l:=by
 apply List.ext_getElem
 ·simp
 ·intro i h c;simp at h;simp[h]
def xz(ps:List (Int × Int)):∃q:List (Int × Int),cL ps .non (ps.map ac)=q.map ac/\q.Perm ps:=by
 by_cases h:ps.length < 2
 ·exact⟨ps,by unfold cL;rw[if_pos (by rw[Za];exact h)],List.Perm.refl _⟩
 ·have c:0 < ps.length:=by lia
  have f:Pm ps.length (eN (mU ps) (W2 ps.length)):=(oZ c).run;refine⟨(eN (mU ps) (W2 ps.length)).toList.map λi=>ps.getD i (0,0),?_,?_⟩
  ·unfold cL;rw[if_neg (by rw[Za];exact h),Za,ZO];refine Xa λi hi=>?_;have b:=(o4 (lt:=mU ps) c).1 i hi;simp[b]
  ·have e:(eN (mU ps) (W2 ps.length)).toList.Perm (Zh ps.length):=by
    have:=Array.perm_iff_toList_perm.mp f
    simpa using this
   have:=e.map λi=>ps.getD i (0,0)
   rwa [mE] at this
def xD(h:ps.length < 64):∃q:List (Int × Int),cD aW (ps.map ac)=aa (q.map ac)/\q.Perm ps:=by
 obtain⟨q,e,b⟩:=xz ps;refine⟨q,?_,b⟩;show(if aW=aW then tH aW (ps.map ac) else aD)=_;rw[if_pos rfl];simp only[tH,oz];rw[if_pos (by rw[Za];exact h),e]
def bp{b:Type}{l:List b}{E:b->D}{S:Sto}:ax cg (.tup (l.map E)) S=aa (.int l.length,S):=by simp only[ax,ao,cg,Za]
def uh{b:Type}{l:List b}:l.all (λ_=>aT)=aT:=ZJ.mpr λ_ _=>rfl
def mV{g:Type}(l:List g)(E:g->D)(hl:l.length<=1000)(h:∀i S',Sm S S'->nx i S'=aa ((l[i]?).map E))
  (step:∀ (i:Nat) a S',l[i]?=aa a->Sm S S'->∃b,av T (E a) o=aa b/\Ok (c b S') λf u=>f=[.bl aT]/\Sm S' u) (q:∀S',Sm S S'->Q (.bl aT) S') :
  Ok (bn nx T c o LF 0 S) λf n=>f.length<=100000/\Ok (jj aW f n) Q:=by
 refine aF l E (λ_=>[.bl aT]) hl (λ_ _=>Zd _) h step λS' j=>?_;rw[aK];refine ab (kF l (λ_=>aT) S') ?_;rw[uh];exact q S' j
def NQ{n:Nat}(hl:r.length=n)(c:n<=4)(h:∀x ∈ r,1<=x/\x<=99)(q:∀S',Sm S S'->Q (.bl aT) S'):Ok (evC aj (k+3) 7 [au r,.int n] S) Q:=by
 refine aq (d:=eX) (ρ:=[aa (au r),aa (.int n)]) rfl rfl ?_;dsimp only[eX,iU];rw[show au r = .tup (r.map D.int) from rfl];k_is;refine⟨rfl,mw (by rw[Za];lia) (by rw[Za];lia) ?_⟩;k_is;refine mV r D.int (by lia) bZ (λi x S' b sm=>⟨_,rfl,?_⟩) q;k_is;have:=h x (Ze b);exact⟨rfl,rq this.1 this.2 ⟨rfl,Sm.refl _⟩⟩
def Be{es:List D}(h:∀e ∈ es,e = .bl aT)(S:Sto):jj aW es S=aa (.bl aT,S):=by
 have e:es.map (λ_=>D.bl aT)=es:=by
  conv=>rhs;rw[<-List.map_id es]
  exact Xa λx b=>(h x b).symm
 rw[<-e];exact(kF es (λ_=>aT) S).trans (by rw[uh])
def NR(y:SkOk K)(q:∀S',Sm S S'->Q (.bl aT) S'):Ok (evC aj (k+1) 8 [.tup (K.M.map au)] S) Q:=by
 refine aq (d:=bh) (ρ:=[aa (.tup (K.M.map au)),aD]) rfl rfl ?_;dsimp only[bh,bC];have V:=y.vd;have m4:=y.me.m4;k_is;refine ab bp ?_;refine⟨_,rfl,by lia,?_⟩;k_is;have u:(S++[Ob.lst ((Zh K.M.length).map λj=>D.int (Int.ofNat j))])[S.length]?=aa (.lst ((Zh K.M.length).map λj=>D.int (Int.ofNat j))):=ai;have v:∀S',Sm (S++[Ob.lst ((Zh K.M.length).map λj=>D.int (Int.ofNat j))]) S'->(aH S' S.length).isSome=aT:=λS' sm=>by rw[af (sm _ _ u)];rfl
 refine⟨v _ (Sm.refl _),?_⟩;refine(t6 u (by lia) (λa=>(Zh K.M.length).flatMap λb=>(Zh K.M.length).flatMap λc=>[.bl aT]) λa S1 B g=>⟨_,rfl,?_⟩).mono λes U ⟨J,sm⟩=>?_
 ·k_is;refine⟨v _ g,?_⟩;refine t6 (g _ _ u) (by lia) _ λb U hb o=>⟨_,rfl,?_⟩;k_is;refine⟨v _ (g.trans o),?_⟩;refine t6 (o _ _ (g _ _ u)) (by lia) _ λc z I T=>⟨_,rfl,?_⟩;k_is;obtain⟨r1,L,O⟩:=jJ (S:=z) V (a:=a) (b:=b) (by lia) (by lia) (by lia) (by lia);obtain⟨r2,Z,e4⟩:=jJ (S:=z) V (a:=a) (b:=c) (by lia) (by lia) (by lia) (by lia);obtain⟨r3,E,Y⟩:=jJ (S:=z) V (a:=c) (b:=b) (by lia) (by lia) (by lia) (by lia);refine ab L (ab O (ab Z (ab e4 (ab E (ab Y ?_)))));k_is;refine⟨?_,Sm.refl _⟩;have t:=y.me.tri a b c B hb I;rw[decide_eq_true (show gp K a b<=gp K a c+gp K c b from t)]
 ·subst J
  have all:∀e ∈ (Zh K.M.length).flatMap λa=>(Zh K.M.length).flatMap λb=>(Zh K.M.length).flatMap λc=>[D.bl aT],e = .bl aT:=λe h=>by
   obtain⟨a,_,h⟩:=Yw.mp h;obtain⟨b,_,h⟩:=Yw.mp h;obtain⟨c,_,h⟩:=Yw.mp h;exact Zu.mp h
  refine⟨?_,ab (Be all _) (q _ ((Sm.app S _).trans sm))⟩;have C:∀a b:Nat,((Zh K.M.length).flatMap λc=>[D.bl aT]).length<=4:=λ_ _=>by rw[aK (Zh K.M.length) (λ_=>D.bl aT),Za,ZK];exact m4
  have X:∀a:Nat,((Zh K.M.length).flatMap λb=>(Zh K.M.length).flatMap λc=>[D.bl aT]).length<=K.M.length * 4:=λa=>Dw.uy λb _=>C a b;have f1:=Dw.uy (n:=K.M.length) (m:=K.M.length * 4) (f:=λa=>(Zh K.M.length).flatMap λb=>(Zh K.M.length).flatMap λc=>[D.bl aT]) λa _=>X a;have:K.M.length * (K.M.length * 4)<=4 * (4 * 4):=Wm m4 (Wm m4 (Zd _))
  lia
def KL(b:SkOk K)(q:∀S',Sm S S'->Q (.bl aT) S'):Ok (evC aj (k+4) 6 [.tup (K.M.map au)] S) Q:=by
 refine aq (d:=ib) (ρ:=[aa (.tup (K.M.map au))]) rfl rfl ?_;dsimp only[ib,ma];have m1:=b.me.m1;have m4:=b.me.m4;k_is;refine⟨rfl,mw (by rw[Za];lia) (by rw[Za];lia) ?_⟩;k_is;refine mV K.M au (by lia) bZ (λi r S' g sm=>⟨_,rfl,?_⟩) λS' sm=>?_
 ·k_is;refine ab bp ?_;have h:=Ze g;exact⟨rfl,NQ (b.me.mat.row r h) m4 (b.me.mat.ent r h) λf c=>⟨rfl,c⟩⟩
 ·k_is;exact⟨rfl,NR b λf c=>q f (sm.trans c)⟩
def xE(h:0<=z.1)(f:z.1 < z.2)(c:z.2<=9999)(q:Q (.bl aT) S):Ok (evC aj (k+4) 10 [ac z] S) Q:=by
 refine aq (d:=eY) (ρ:=[aa (ac z)]) rfl rfl ?_;dsimp only[eY,iV];rw[show ac z = .tup [.int z.1,.int z.2] from rfl];have b:ixS (.tup [D.int z.1,.int z.2]) (.int 0) S=aa (.int z.1,S):=rfl;have X:ixS (.tup [D.int z.1,.int z.2]) (.int 1) S=aa (.int z.2,S):=rfl;k_is;refine⟨rfl,mw (ZI _) (ZI _) ?_⟩;k_is;refine ab b ⟨rfl,EN h (by lia) ?_⟩;k_is;refine ab X ⟨rfl,EN (by lia) c ?_⟩;k_is;refine ab b (ab X ?_);k_is;rw[decide_eq_true f];exact q
def EU(f:SkOk K)(q:∀S',Sm S S'->Q (.bl aT) S'):Ok (evC aj (k+5) 9 [.tup (K.H.map ac)] S) Q:=by
 refine aq (d:=fR) (ρ:=[aa (.tup (K.H.map ac))]) rfl rfl ?_;dsimp only[fR,jT];have h4:=f.me.h4;k_is;refine⟨rfl,mw (by rw[Za];lia) (by rw[Za];lia) ?_⟩;k_is;refine mV K.H ac (by lia) bZ (λi z S' g sm=>⟨_,rfl,?_⟩) λS' sm=>?_
 ·k_is;have a:=pU f.me.ris (Ze g);exact⟨rfl,xE (by lia) a.2 (f.me.hb z (Ze g)) ⟨rfl,Sm.refl _⟩⟩
 ·k_is;refine ab bp ?_;k_is;refine⟨⟨by decide,cA (by lia) (by lia)⟩,?_⟩;refine Dx (by lia) (λ_=>aT) (λi b hi c=>⟨_,rfl,?_⟩) λb c=>?_
  ·k_is;have h:i+1 < K.H.length:=by lia
   have j:(1:Int)+i=((i+1:Nat):Int):=by lia
   have Z:((i+1:Nat):Int) - 1=((i:Nat):Int):=by lia
   rw[j,Z];refine ab (mB (d:=ac K.H[i+1]) (by lia) (by rw[Zs,Zl,gEG h];rfl)) (ab (show ixS (ac K.H[i+1]) (.int 0) b=aa (.int K.H[i+1].1,b) from rfl) ?_);refine ab (mB (d:=ac K.H[i]) (by lia) (by rw[Zs,Zl,gEG (by lia)];rfl)) (ab (show ixS (ac K.H[i]) (.int 1) b=aa (.int K.H[i].2,b) from rfl) ?_);k_is;rw[decide_eq_true (rF f.me.ris i _ _ (gEG (by lia)) (gEG h))];exact⟨rfl,Sm.refl _⟩
  ·refine ab (kF _ (λ_=>aT) _) ?_;rw[uh];exact q b (sm.trans c)
def Bf(b:SkOk K)(q:∀S',Sm S S'->Q (.bl aT) S'):Ok (evC aj (k+6) 5 [meE K] S) Q:=by
 refine aq (d:=fQ) (ρ:=[aa (meE K),aD,aD,aD,aD]) rfl rfl ?_;dsimp only[fQ,jS];rw[show meE K = .tup [.int K.r,.int K.s,.tup (K.M.map au),.tup (K.H.map ac)] from rfl];k_is;refine⟨rfl,mw (ZI _) (ZI _) ?_⟩;k_is;refine⟨rfl,rq b.me.r0 b.me.r8 ?_⟩;k_is;refine⟨rfl,rq b.me.s0 b.me.s60 ?_⟩;k_is;refine⟨rfl,KL b λh g=>?_⟩;k_is;exact⟨rfl,EU b λf c=>q f (g.trans c)⟩
def Bg{i:Int}(h:0<=i)(b:i < K.M.length)(q:Q (.bl aT) S):Ok (evC aj (k+3) 11 [meE K,.int i] S) Q:=by
 refine aq (d:=jA) (ρ:=[aa (meE K),aa (.int i)]) rfl rfl ?_;dsimp only[jA,nZ];k_is;refine ab me2 (ab bp ?_);k_is;exact⟨rfl,rq h (by lia) q⟩
def EV(c:SkOk K)(q:Q (.bl aT) S):Ok (evC aj (k+4) 14 [meE K,ahE K.ah] S) Q:=by
 refine aq (d:=ic) (ρ:=[aa (meE K),aa (ahE K.ah)]) rfl rfl ?_;dsimp only[ic,md];cases h:K.ah with
 |none=>k_is;exact ab (show az .is (ahE aD) .non S=aa (.bl aT,S) from rfl) q
 |some z=>
  obtain⟨b,j,g,B⟩:=c.ah z h;have f:ixS (.tup [D.int z.1,.int z.2]) (.int 0) S=aa (.int z.1,S):=rfl;have X:ixS (.tup [D.int z.1,.int z.2]) (.int 1) S=aa (.int z.2,S):=rfl;rw[show ahE (aa z) = .tup [.int z.1,.int z.2] from rfl];k_is;refine ab (show az .is (.tup [D.int z.1,.int z.2]) .non S=aa (.bl aW,S) from rfl) ?_;k_is;refine⟨rfl,mw (ZI _) (ZI _) ?_⟩;k_is;refine ab f ⟨rfl,Bg b j ?_⟩;k_is;exact ab X ⟨rfl,EN g B q⟩
def Bh(u:SkOk K)(T:g ∈ K.G)(q:∀S',Sm S S'->Q (.bl aT) S'):Ok (evC aj (k+4) 16 [meE K,au g] S) Q:=by
 obtain⟨c,j,f,la,b,o,n,rfl,L,z,U,v,B,Y,Z,X,C,J,I,O⟩:=u.gb g T;have s0:=u.me.s0;refine aq (d:=fS) (ρ:=[aa (meE K),aa (au [c,j,f,la,b,o,n]),aD,aD,aD,aD,aD,aD,aD]) rfl rfl ?_;dsimp only[fS,jU];rw[show au [c,j,f,la,b,o,n] = .tup [.int c,.int j,.int f,.int la,.int b,.int o,.int n] from rfl];k_is;refine⟨rfl,mw (ZI _) (ZI _) ?_⟩;k_is;refine mV [j,f,la,b] D.int (by show 4<=1000;decide) (bZ (l:=[j,f,la,b]) (E:=D.int)) (λi x S' y sm=>⟨_,rfl,?_⟩) λS' sm=>?_
 ·k_is;have h:=Ze y;simp only[Zk,YT,or_false] at h;refine⟨rfl,EN ?_ ?_ ⟨rfl,Sm.refl _⟩⟩
  ·rcases h with rfl |rfl |rfl |rfl <;> lia
  ·rcases h with rfl |rfl |rfl |rfl <;> lia
 ·k_is;refine ab me1 ?_;k_is;rw[decide_eq_true v];k_is;rw[decide_eq_true B];k_is;refine⟨rfl,Bg L z ?_⟩;k_is;refine⟨rfl,rq C J ?_⟩;k_is;refine ab me0 ⟨rfl,rq I O (q S' sm)⟩
def xF(b:SkOk K)(q:∀S',Sm S S'->Q (.bl aT) S'):Ok (evC aj (k+5) 15 [meE K,.tup (K.G.map au)] S) Q:=by
 refine aq (d:=dE) (ρ:=[aa (meE K),aa (.tup (K.G.map au))]) rfl rfl ?_;dsimp only[dE,gN];have g7:=b.g7;k_is;refine⟨rfl,mw (by rw[Za];lia) (by rw[Za];lia) ?_⟩;k_is;refine mV K.G au (by lia) bZ (λi g S' h sm=>⟨_,rfl,?_⟩) q;k_is;exact⟨rfl,Bh b (Ze h) λf c=>⟨rfl,c⟩⟩
def Bi(b:SkOk K)(q:∀S',Sm S S'->Q (.bl aT) S'):Ok (evC aj (k+3) 4 [.tup (K.F.map D.int),.int K.G.length] S) Q:=by
 refine aq (d:=eW) (ρ:=[aa (.tup (K.F.map D.int)),aa (.int K.G.length)]) rfl rfl ?_;dsimp only[eW,iT];have g7:=b.g7;have L:=Dw.cb K.G.length K.F b.nd b.bd;k_is;refine⟨rfl,mw (by rw[Za];lia) (by rw[Za];lia) ?_⟩;k_is;refine mV K.F D.int (by lia) bZ (λi x S' h sm=>⟨_,rfl,?_⟩) λS' sm=>?_
 ·k_is;have:=b.bd x (Ze h);exact⟨rfl,rq this.1 (by lia) ⟨rfl,Sm.refl _⟩⟩
 ·k_is;refine mV K.F D.int (by lia) bZ (λi x f h c=>⟨_,rfl,?_⟩) λf c=>q f (sm.trans c);k_is;refine⟨rfl,ab (Ap K.F x f) ?_⟩;k_is;rw[show((K.F.count x:Nat):Int)=1 by rw[List.Nodup.count b.nd,if_pos (Ze h)];rfl];exact⟨rfl,Sm.refl _⟩
def EW(j:SkOk K)(q:∀S',Sm S S'->Q (.bl aT) S'):Ok (evC aj (k+4) 17 [.tup (K.G.map au),.tup (K.F.map D.int)] S) Q:=by
 refine aq (d:=fT) (ρ:=[aa (.tup (K.G.map au)),aa (.tup (K.F.map D.int))]) rfl rfl ?_;dsimp only[fT,jV];have g7:=j.g7;k_is;refine ab bp ?_;refine⟨rfl,Bi j λy U=>?_⟩;k_is;refine bL K.G.length (λi=>.tup [.int i,((K.G.map au)[i]?).getD .non]) (λi b S'=>Sm y S'/\b.length=i/\∀e ∈ b,e = .bl aT) (λi b S' hi _=>?_) (by lia) (λi b S' hi B=>?_) (λY S' u=>by obtain⟨f,la,n⟩:=u;exact⟨by lia,ab (Be n _) (q S' (U.trans f))⟩) ⟨Sm.refl _,rfl,λe o=>by cases o⟩
 ·show enm (K.G.map au) i=_;unfold enm;rw[if_pos (by rw[Za];exact hi)];split
  ·rename_i v;rw[gEG (by rw[Za];exact v)];rfl
  ·rw[ZB (by rw[Za];lia)];rfl
 ·obtain⟨f,la,n⟩:=B;obtain⟨E,O,C,L,J,T,h,I,_⟩:=j.gb K.G[i] (ZT hi);have rg:=j.rg i _ (gEG hi);have X:((K.G.map au)[i]?).getD .non = .tup [.int E,.int O,.int C,.int L,.int J,.int T,.int h]:=by rw[Zl,gEG hi,I];rfl
  rw[I] at rg;have rg:h=0\/(i:Int) ∈ K.F:=rg;rw[X];have g:∀S',Sm y S'->Sm y S'/\(b++[D.bl aT]).length=i+1/\∀e ∈ b++[D.bl aT],e = .bl aT:=λS' f=>⟨f,by rw[Zi,Zy];lia,λe o=>(ZM.mp o).elim (n e) λz=>Zu.mp z⟩;refine⟨_,aV (by simp) (by simp),?_⟩;k_is;refine ab (show ixS (.tup [D.int E,.int O,.int C,.int L,.int J,.int T,.int h]) (.int 6) S'=aa (.int h,S') from rfl) ?_;k_is;cases c:decide (h=0) with
  |true=>k_is;exact g S' f
  |false=>
   k_is;refine ab (show az .isin (.int (i:Int)) (.tup (K.F.map D.int)) S'=aa (.bl (aW != decide ((i:Int) ∈ K.F)),S') from pH aW K.F i S') ?_;rw[decide_eq_true (rg.resolve_left (of_decide_eq_false c))];exact g S' f
def NS(b:SkOk K)(q:∀S',Sm S S'->Q (.bl aT) S'):Ok (evC aj (k+7) 13 [skE K] S) Q:=by
 refine aq (d:=mm) (ρ:=[aa (skE K),aD,aD,aD,aD]) rfl rfl ?_;dsimp only[mm,rf];rw[show skE K = .tup [meE K,ahE K.ah,.tup (K.G.map au),.tup (K.F.map D.int)] from rfl];k_is;refine⟨rfl,mw (ZI _) (ZI _) ?_⟩;k_is;refine⟨rfl,Bf b λn h=>?_⟩;k_is;refine⟨rfl,EV b ?_⟩;k_is;refine⟨rfl,xF b λj c=>?_⟩;k_is;exact⟨rfl,EW b λf g=>q f ((h.trans c).trans g)⟩
def Bj(b:SkOk K)(q:∀S',Sm S S'->Q .non S'):Ok (evC aj (k+8) 18 [skE K] S) Q:=by
 refine aq (d:=fU) (ρ:=[aa (skE K)]) rfl rfl ?_;dsimp only[fU,jW];k_is;refine⟨rfl,NS b λS' sm=>?_⟩;k_is;exact q S' sm
def mF{L n:Nat}(h:Pot p S)(z:S[L]?=aa (.lst es))(nL:L ≠ p)(o:RowsS p S es M)(g:Dw.Mat (n+1) M)(hn:n < 4)
  (q:∀n M S',Dr p S S'->Dw.Mat n M->1<=n->n<=4->Dw.nr n n M->Q (.tup (M.map au)) S') :
  rW (wSs (evC aj (k+1)) (eV aj) 57 (cO.drop 3)) [aa (.ref p),aa (.int (1+(n:Int))),aa (.ref L),aD] S (out Q):=by
 dsimp only[cO,Yd];k_is;have e1:((1:Int)+n).toNat=n+1:=by lia
 refine⟨(by simp only[lim,bAE,decide_eq_true_eq];lia),?_⟩;rw[e1];refine eD (by lia) (λc ρ S'=>Dr p S S'/\∃L es M u,ρ=[aa (.ref p),aa (.int (1+(n:Int))),aa (.ref L),u]/\L ≠ p/\S'[L]?=aa (.lst es)/\RowsS p S' es M/\Dw.Mat (n+1) M/\Dw.nr (n+1) c M) (λc ρ S1 y ⟨J,L,es,M,u,er,nL,z,o,g,tr⟩=>?_) (λρ S1 ⟨J,L,es,M,u,er,nL,z,o,g,tr⟩=>?_) ⟨Dr.refl h,L,es,M,aD,rfl,nL,z,o,g,λa b q _ _ hq=>absurd hq (Z7 q)⟩
 ·subst er;refine⟨_,rfl,?_⟩;k_is;refine⟨(by rw[af z];rfl),?_⟩;have le:es.length=n+1:=by rw[o.len,g.len]
  refine bL (n+1) (λi=>(es[i]?).getD .non) (λi f S'=>Sm S1 S'/\RowsS p S' f ((Zh i).map (Dw.bv M (n+1) c))) (λi f S' hi ⟨sm,_⟩=>by rw[<-le];exact ip (sm _ _ z) _ mD) (by lia) (λi f B hi ⟨sm,U⟩=>?_) (λes' B ⟨sm,U⟩=>⟨by rw[U.len,Za,ZK];lia,?_⟩) ⟨Sm.refl _,RowsS.nil⟩
  ·obtain⟨r,m1,lr,_⟩:=g.at hi y;obtain⟨a,C,na,Y⟩:=o.row i r m1;obtain⟨rc,m2,lrc,_⟩:=g.at y y;obtain⟨b,eb,nb,zb⟩:=o.row c rc m2;have Z:=sm _ _ Y;have X:=sm _ _ zb;simp only[C,ZU];refine⟨_,rfl,?_⟩;k_is;refine⟨(by rw[af Z];rfl),?_⟩;have lm:(r.map D.int).length=n+1:=by rw[Za];exact lr
   refine bL (n+1) (λj=>.tup [.int j,((r.map D.int)[j]?).getD .non]) (λj f S'=>S'=B/\f=((Dw.bv M (n+1) c i).take j).map D.int) (λj f S' O ⟨e,_⟩=>by subst e;rw[<-lm];exact i5 (i:=j) Z (by lia) (λj=>.tup [.int j,((r.map D.int)[j]?).getD .non]) λj d hd=>by show D.tup [.int j,((r.map D.int)[j]?).getD .non]=_;rw[hd];rfl) (by lia) (λj f I O ⟨e3,E⟩=>?_) (λes3 I ⟨e3,E⟩=>⟨by rw[E,Za,ZC];lia,?_⟩) ⟨rfl,rfl⟩
   ·subst e3;obtain⟨r',v,_,e4,_⟩:=g.at hi O;rw[m1] at v;cases v;have g1:((r.map D.int)[j]?).getD .non = .int (Dw.mg2 M i j):=by rw[Zl,e4];rfl
    rw[g1];refine⟨_,aV (by simp) (by simp),?_⟩;k_is;obtain⟨r',v,_,e5,_⟩:=g.at hi y;rw[m1] at v;cases v;obtain⟨rc',v,_,e6,_⟩:=g.at y O;rw[m2] at v;cases v;have z0:(0:Int)+(c:Int)=(c:Int):=by lia
    have T:∀ (l:List Int) (m:Nat) (x:Int),l[m]?=aa x->atI (l.map D.int) (m:Int)=aa (.int x):=λl m x hx=>by
     have hlt:=(Zb.mp hx).1;unfold atI ixN;rw[if_pos (by lia),if_pos (by rw[Za];lia),Zs];show(l.map D.int)[m]?=_;rw[Zl,hx];rfl
    have i1:ixS (.ref a) (.int (0+(c:Int))) I=aa (.int (Dw.mg2 M i c),I):=by
     simp only[ixS,ao,af Z,Zv,z0,T r c _ e5]
    have i2:ixS (.ref L) (.int (0+(c:Int))) I=aa (.ref b,I):=by
     have:atI es (c:Int)=aa (.ref b):=by
      unfold atI ixN;rw[if_pos (by lia),if_pos (by lia),Zs];exact eb
     simp only[ixS,ao,af (sm _ _ z),Zv,z0,this]
    have i3:ixS (.ref b) (.int (j:Int)) I=aa (.int (Dw.mg2 M c j),I):=by
     simp only[ixS,ao,af X,Zv,T rc j _ e6]
    refine ab i1 (ab i2 (ab i3 ?_));k_is;have lj:j < (Dw.bv M (n+1) c i).length:=by rw[Dw.kW];exact O
    have gj:=Dw.qr M (c:=c) (i:=i) O;rw[gEG lj] at gj;rw[E,ZQ lj,Zq,Option.some.inj gj];exact⟨rfl,rfl⟩
   ·subst e3;rw[ZZ (by rw[Dw.kW];exact Zd _)] at E;subst E;k_is;have lt:=(Dr.sm J.pot sm).pot.lt;refine⟨sm.trans (Sm.app _ _),?_⟩;rw[Ys,Zq];exact(U.keep (Sm.app _ _).kp).snoc (by lia) ai
  ·k_is;have lt:=(Dr.sm J.pot sm).pot.lt;have st:Dw.Mat (n+1) ((Zh (n+1)).map (Dw.bv M (n+1) c)):=Dw.yH g y;exact⟨(J.thenSm sm).thenSm (Sm.app _ _),_,_,_,_,rfl,by lia,ai,U.keep (Sm.app _ _).kp,st,Dw.yG g y tr (Dw.Cq g y)⟩
 ·subst er;k_is;refine⟨(by rw[af z];rfl),?_⟩;have le:es.length=n+1:=by rw[o.len,g.len]
  refine bL (n+1) (λi=>(es[i]?).getD .non) (λi f S'=>S'=S1/\f=(M.take i).map au) (λi f S' hi ⟨e,_⟩=>by subst e;rw[<-le];exact ip z _ mD) (by lia) (λi f B hi ⟨e2,C⟩=>?_) (λes' B ⟨e2,C⟩=>⟨by rw[C,Za,ZC];lia,?_⟩) ⟨rfl,rfl⟩
  ·subst e2;have li:i < M.length:=by rw[g.len];exact hi
   obtain⟨a,eb,na,Y⟩:=o.row i M[i] (gEG li);simp only[eb,ZU];refine⟨_,rfl,?_⟩;k_is;have tq:ax ji (.ref a) B=aa (.tup (M[i].map D.int),B):=by simp only[ax,ao,af Y,Zv,ji]
   refine ab tq ?_;refine⟨rfl,?_⟩;rw[C,ZQ li,Zq];rfl
  ·subst e2;rw[ZZ (by rw[g.len];exact Zd _)] at C;subst C;show Ok (aa (D.tup _,B)) _;rw[aA];exact q (n+1) M B J g (by lia) (by lia) tr
def Bk(h:Pot p S)(q:∀n M S',Dr p S S'->Dw.Mat n M->1<=n->n<=4->Dw.nr n n M->Q (.tup (M.map au)) S'):Ok (evC aj (k+2) 51 [.ref p] S) Q:=by
 refine aq (d:=il) (ρ:=[aa (.ref p),aD,aD,aD]) rfl rfl ?_;dsimp only[il,cO];k_is;refine⟨rfl,ay h (by decide) (by decide) λr0 S1 r1 r2 d1=>?_⟩;k_is;obtain⟨n,rfl⟩:∃n:Nat,r0=(n:Int):=⟨r0.toNat,by lia⟩;have e1:((1:Int)+n).toNat=n+1:=by lia
 refine⟨(by simp only[lim,bAE,decide_eq_true_eq];lia),?_⟩;rw[e1];refine jI (by lia) (λi b S'=>Dr p S1 S'/\∃M:List (List Int),M.length=i/\RowsS p S' b M/\∀r ∈ M,r.length=n+1/\∀x ∈ r,1<=x/\x<=99) (λi b C hi ⟨d2,M,lM,rM,bM⟩=>⟨_,rfl,?_⟩) (λo C ⟨d2,M,lM,rM,bM⟩=>⟨by rw[rM.len];lia,?_⟩) ⟨Dr.refl d1.pot,[],rfl,RowsS.nil,λr f=>by simp at f⟩
 ·k_is;refine⟨(by simp only[lim,bAE,decide_eq_true_eq];lia),?_⟩;rw[e1];refine jI (by lia) (λj b S'=>Dr p C S'/\∃r:List Int,b=r.map D.int/\r.length=j/\∀x ∈ r,1<=x/\x<=99) (λj b S3 hj ⟨c,r,Z,lr,J⟩=>⟨_,rfl,?_⟩) (λo S3 ⟨c,r,Z,lr,J⟩=>⟨by rw[Z,Za];lia,?_⟩) ⟨Dr.refl d2.pot,[],rfl,rfl,λx hx=>by simp at hx⟩
  ·k_is;refine⟨rfl,ay c.pot (by decide) (by decide) λx S4 x1 x2 X=>?_⟩;k_is;refine⟨c.trans X,r++[1+x],by rw[Z,Zq];rfl,by simp[lr],λy hy=>?_⟩;rcases ZM.mp hy with hy |hy
   ·exact J y hy
   ·simp at hy;lia
  ·subst Z;k_is;have lt:=c.pot.lt;refine⟨(d2.trans c).thenSm (Sm.app _ _),M++[r],by simp[lM],((rM.keep c.kp).keep (Sm.app _ _).kp).snoc (by lia) ai,λr' hr'=>?_⟩;rcases ZM.mp hr' with hr' |hr'
   ·exact bM r' hr'
   ·simp at hr';subst hr';exact⟨lr,J⟩
 ·have lt2:=d2.pot.lt;have c:Dr p S1 (C++[Ob.lst o]):=d2.thenSm (Sm.app _ _);have r3:RowsS p (C++[Ob.lst o]) o M:=rM.keep (Sm.app _ _).kp;have a3:(C++[Ob.lst o])[C.length]?=aa (Ob.lst o):=ai;have m3:Dw.Mat (n+1) M:=⟨lM,λr f=>(bM r f).1,λr f=>(bM r f).2⟩;have Y:C.length ≠ p:=by lia
  revert a3 r3 c;generalize C++[Ob.lst o]=S3;intro c r3 a3;k_is;refine⟨rfl,ay c.pot (by decide) (by decide) λx S4 x1 x2 X=>?_⟩;k_is;have a4:=X.kp _ _ Y a3;have r4:=r3.keep X.kp;have d5:Dr p S S4:=(d1.trans c).trans X;have hlim:lim (1+(n:Int))=aT:=by simp only[lim,bAE,decide_eq_true_eq];lia
  refine eG (λ_=>?_) λ_=>?_
  ·k_is;refine⟨(by rw[af a4];rfl),?_⟩;have le:o.length=n+1:=by rw[r4.len,lM]
   refine bL (n+1) (λi=>(o[i]?).getD .non) (λi b S'=>Dr p S4 S'/\∃I:List (List Int),I.length=i/\RowsS p S' b I/\∀r ∈ I,r.length=n+1/\∀x ∈ r,1<=x/\x<=99) (λi b S' hi ⟨u,_⟩=>by rw[<-le];exact ip (u.kp _ _ Y a4) _ mD) (by lia) (λi b S5 hi ⟨u,I,T,g,B⟩=>?_) (λes' S5 ⟨u,I,T,g,B⟩=>⟨by rw[g.len];lia,?_⟩) ⟨Dr.refl X.pot,[],rfl,RowsS.nil,λr f=>by simp at f⟩
   ·obtain⟨r,m1,lr,_⟩:=m3.at hi hi;obtain⟨a,Z,na,za⟩:=r4.row i r m1;simp only[Z,ZU];refine⟨_,rfl,?_⟩;k_is;have za5:=u.kp _ _ na za;refine⟨(by rw[af za5];rfl),?_⟩;have lm:(r.map D.int).length=n+1:=by rw[Za];exact lr
    refine bL (n+1) (λi=>((r.map D.int)[i]?).getD .non) (λj b S'=>Dr p S5 S'/\∃r:List Int,b=r.map D.int/\r.length=j/\∀x ∈ r,1<=x/\x<=99) (λj b S' hj ⟨v,_⟩=>by rw[<-lm];exact ip (v.kp _ _ na za5) _ mD) (by lia) (λj b S6 hj ⟨v,r',E,U,J⟩=>⟨_,rfl,?_⟩) (λes6 S6 ⟨v,r',E,U,J⟩=>⟨by rw[E,Za];lia,?_⟩) ⟨Dr.refl u.pot,[],rfl,rfl,λx hx=>by simp at hx⟩
    ·k_is;refine⟨rfl,ay v.pot (by decide) (by decide) λy S7 y1 y2 d7=>?_⟩;k_is;refine⟨v.trans d7,r'++[99 - y],by rw[E,Zq];rfl,by simp[U],λz hz=>?_⟩;rcases ZM.mp hz with hz |hz
     ·exact J z hz
     ·simp at hz;lia
    ·subst E;k_is;have lt:=v.pot.lt;refine⟨(u.trans v).thenSm (Sm.app _ _),I++[r'],by simp[T],((g.keep v.kp).keep (Sm.app _ _).kp).snoc (by lia) ai,λr'' hr''=>?_⟩;rcases ZM.mp hr'' with hr'' |hr''
     ·exact B r'' hr''
     ·simp at hr'';subst hr'';exact⟨U,J⟩
   ·have lt:=u.pot.lt;have d6:Dr p S4 (S5++[Ob.lst es']):=u.thenSm (Sm.app _ _);have tail:=mF (k:=k) (Q:=Q) (n:=n) (L:=S5.length) (es:=es') (M:=I) d6.pot ai (by lia) (g.keep (Sm.app _ _).kp) ⟨T,λr f=>(B r f).1,λr f=>(B r f).2⟩ (by lia) λn' M S' O h1 h2 h3 h4=>q n' M S' ((d5.trans d6).trans O) h1 h2 h3 h4;dsimp only[cO,Yd] at tail;k_is;exact tail
  ·have tail:=mF (k:=k) (Q:=Q) (n:=n) X.pot a4 Y r4 m3 (by lia) λn' M S' O h1 h2 h3 h4=>q n' M S' (d5.trans O) h1 h2 h3 h4;dsimp only[cO,Yd] at tail;k_is;exact tail
def xG(h:Pot p S)(q:∀H S',Dr p S S'->Ris (-1) H->H.length<=4->(∀z ∈ H,z.2<=9999)->Q (.tup (H.map ac)) S'):Ok (evC aj (k+2) 52 [.ref p,.int 0] S) Q:=by
 refine aq (d:=f8) (ρ:=[aa (.ref p),aa (.int 0),aD,aD,aD]) rfl rfl ?_;dsimp only[f8,j6];k_is;have X:Dr p S (S++[Ob.lst []]):=Dr.sm h (Sm.app _ _);refine⟨rfl,ay X.pot (by decide) (by decide) λr0 S1 r1 r2 v=>?_⟩;obtain⟨n,rfl⟩:∃n:Nat,r0=(n:Int):=⟨r0.toNat,by lia⟩;have lt:=h.lt;have a1:S1[S.length]?=aa (Ob.lst []):=v.kp _ _ (by lia) ai
 have g:atI [D.int 0,D.int 1,D.int 2,D.int 3,D.int 4] (n:Int)=aa (D.int n):=by
  have:n=0\/n=1\/n=2\/n=3\/n=4:=by lia
  rcases this with rfl |rfl |rfl |rfl |rfl <;> rfl
 refine⟨_,g,?_⟩;k_is;refine⟨(by simp only[lim,bAE,decide_eq_true_eq];lia),?_⟩;rw[Zs];refine eD (by lia) (λi B S'=>Kp p S S'/\Pot p S'/\∃ (E:List (Int × Int)) (b:Int) (u:Option D),B=[aa (.ref p),aa (.int 0),aa (.ref S.length),aa (.int b),u]/\S'[S.length]?=aa (.lst (E.map ac))/\(Ris (-1) E/\∀z ∈ E,z.2<=b)/\E.length=i/\0<=b/\b<=20 * i) (λi B f hi T=>?_) (λB f C=>?_) ⟨X.kp.trans v.kp,v.pot,[],0,aD,rfl,a1,⟨trivial,λz hz=>by cases hz⟩,rfl,by lia,by lia⟩
 ·obtain⟨j,I,E,b,u,J,U,c,le,b0,b1⟩:=T;subst J;refine⟨_,rfl,?_⟩;k_is;refine⟨rfl,ay I (by decide) (by decide) λx S3 x1 x2 o=>?_⟩;k_is;have f3:=o.kp _ _ (show S.length ≠ p by lia) U;refine⟨eF f3,?_⟩;k_is;refine⟨rfl,ay o.pot (by decide) (by decide) λy Y y1 y2 L=>?_⟩;k_is;have f4:=L.kp _ _ (show S.length ≠ p by lia) f3;rw[mr f4 (by rw[Za];lia)];k_is;have O:S.length < Y.length:=(Zb.mp f4).1;have Z:(Y.set S.length (Ob.lst (E.map ac++[D.tup [D.int (b+1+x),D.int (b+1+x+1+y)]])))[S.length]?=aa (Ob.lst (E.map ac++[D.tup [D.int (b+1+x),D.int (b+1+x+1+y)]])):=mq O;refine ab (dj Z) ?_;k_is;show Ok (aa (D.int (b+1+x+1+y),_)) _;rw[aA];k_is;refine⟨((j.trans o.kp).trans L.kp).setNew (Zd _),L.pot.setNe (by lia),E++[(b+1+x,b+1+x+1+y)],_,_,rfl,by rw[Zq];exact Z,⟨rE c.1 (by lia) (λz hz=>by have:=c.2 z hz;lia) (by lia),λz hz=>?_⟩,by simp[le],by lia,by lia⟩;rcases ZM.mp hz with hz |hz
  ·have:=c.2 z hz;lia
  ·rw[Zu.mp hz];exact ZI _
 ·obtain⟨j,I,E,b,u,J,U,c,le,b0,b1⟩:=C;subst J;k_is;have tq:ax ji (.ref S.length) f=aa (.tup (E.map ac),f):=by simp only[ax,ao,af U,Zv,ji]
  refine ab tq ?_;k_is;exact q E f ⟨j,I⟩ c.1 (by lia) λz hz=>by have:=c.2 z hz;lia
def Bl(h:Pot p S)(q:∀r s M H S',Dr p S S'->MeOk r s M H->Q (meL r s M H) S'):Ok (evC aj (k+3) 53 [.ref p] S) Q:=by
 refine aq (d:=fb) (ρ:=[aa (.ref p),aD]) rfl rfl ?_;dsimp only[fb,iY];k_is;refine⟨rfl,ay h (by decide) (by decide) λr0 J r1 r2 j=>?_⟩;obtain⟨n,rfl⟩:∃n:Nat,r0=(n:Int):=⟨r0.toNat,by lia⟩
 obtain⟨r,c,g⟩:∃r:Int,atI [D.int 2,D.int 1,D.int 3,D.int 8,D.int 0] (n:Int)=aa (D.int r)/\0<=r/\r<=8:=by
  have:n=0\/n=1\/n=2\/n=3\/n=4:=by lia
  rcases this with rfl |rfl |rfl |rfl |rfl
  ·exact⟨2,rfl,by decide,by decide⟩
  ·exact⟨1,rfl,by decide,by decide⟩
  ·exact⟨3,rfl,by decide,by decide⟩
  ·exact⟨8,rfl,by decide,by decide⟩
  ·exact⟨0,rfl,by decide,by decide⟩
 refine⟨_,c,?_⟩;k_is;refine⟨rfl,ay j.pot (by decide) (by decide) λs0 I C E o=>?_⟩;obtain⟨m,rfl⟩:∃n:Nat,s0=(n:Int):=⟨s0.toNat,by lia⟩
 obtain⟨s,b,hs⟩:∃r:Int,atI [D.int 2,D.int 0,D.int 1,D.int 5,D.int 60] (m:Int)=aa (D.int r)/\0<=r/\r<=60:=by
  have:m=0\/m=1\/m=2\/m=3\/m=4:=by lia
  rcases this with rfl |rfl |rfl |rfl |rfl
  ·exact⟨2,rfl,by decide,by decide⟩
  ·exact⟨0,rfl,by decide,by decide⟩
  ·exact⟨1,rfl,by decide,by decide⟩
  ·exact⟨5,rfl,by decide,by decide⟩
  ·exact⟨60,rfl,by decide,by decide⟩
 refine⟨_,b,?_⟩;k_is;refine⟨rfl,Bk o.pot λB M L f u m1 m4 T=>?_⟩;k_is;refine⟨rfl,xG f.pot λH y z v h4 hb=>?_⟩;k_is;obtain rfl:=u.len;exact q r s M H y (((j.trans o).trans f).trans z) ⟨g.1,g.2,hs.1,hs.2,u,m1,m4,T,v,h4,hb⟩
def Bm{r s:Int}(h:Pot p S)(me:MeOk r s M o)
  (q:∀ (a j f l u w:Int) S',Dr p S S'->GB M.length r s [a,j,f,l,u,w,0]->Q (au [a,j,f,l,u,w,0]) S'):Ok (evC aj (k+2) 54 [.ref p,meL r s M o] S) Q:=by
 have m1:=me.m1;have m4:=me.m4;have s0:=me.s0;have s60:=me.s60;have r0:=me.r0;refine aq (d:=fc) (ρ:=[aa (.ref p),aa (meL r s M o),aD,aD,aD,aD]) rfl rfl ?_;dsimp only[fc,iZ];k_is;refine⟨rfl,ay h (by decide) (by decide) λj S1 j1 j2 U=>?_⟩;k_is;refine ab (show ixS (meL r s M o) (.int 1) S1=aa (.int s,S1) from rfl) ?_;k_is;refine⟨rfl,ay U.pot (by decide) (by decide) λx S2 x1 x2 d2=>?_⟩;k_is;refine⟨rfl,ay d2.pot (by decide) (by decide) λy S3 y1 y2 O=>?_⟩;obtain⟨n,rfl⟩:∃n:Nat,y=(n:Int):=⟨y.toNat,by lia⟩
 obtain⟨e,I,he⟩:∃e:Int,atI [D.int 0,D.int 0,D.int x] (n:Int)=aa (D.int e)/\0<=e/\e<=9:=by
  have:n=0\/n=1\/n=2:=by lia
  rcases this with rfl |rfl |rfl
  ·exact⟨0,rfl,by decide,by decide⟩
  ·exact⟨0,rfl,by decide,by decide⟩
  ·exact⟨x,rfl,by lia,by lia⟩
 refine⟨_,I,?_⟩;k_is;refine⟨rfl,ay O.pot (by decide) (by decide) λx' S4 a1 a2 d4=>?_⟩;k_is;refine⟨rfl,ay d4.pot (by decide) (by decide) λX S5 b1 b2 Z=>?_⟩;k_is;refine⟨rfl,ay Z.pot (by decide) (by decide) λL S6 c1 c2 d6=>?_⟩;obtain⟨c,rfl⟩:∃n:Nat,L=(n:Int):=⟨L.toNat,by lia⟩
 obtain⟨g,C,hg⟩:∃e:Int,atI [D.int x',D.int (5+X),D.int 60,D.int 200] (c:Int)=aa (D.int e)/\0<=e/\e<=200:=by
  have:c=0\/c=1\/c=2\/c=3:=by lia
  rcases this with rfl |rfl |rfl |rfl
  ·exact⟨x',rfl,by lia,by lia⟩
  ·exact⟨5+X,rfl,by lia,by lia⟩
  ·exact⟨60,rfl,by decide,by decide⟩
  ·exact⟨200,rfl,by decide,by decide⟩
 refine⟨_,C,?_⟩;k_is;refine⟨rfl,ay d6.pot (by decide) (by decide) λz S7 z1 z2 d7=>?_⟩;k_is;refine⟨rfl,ay d7.pot (by decide) (by decide) λz' S8 z3 z4 J=>?_⟩;k_is;refine⟨rfl,ay J.pot (by decide) (by decide) λY T y3 y4 d9=>?_⟩;obtain⟨b,rfl⟩:∃n:Nat,Y=(n:Int):=⟨Y.toNat,by lia⟩
 obtain⟨u,B,hu⟩:∃v:Int,atI [D.int (j+s+e),D.int (j+z),D.int z'] (b:Int)=aa (D.int v)/\0<=v/\v<=300:=by
  have:b=0\/b=1\/b=2:=by lia
  rcases this with rfl |rfl |rfl
  ·exact⟨j+s+e,rfl,by lia,by lia⟩
  ·exact⟨j+z,rfl,by lia,by lia⟩
  ·exact⟨z',rfl,by lia,by lia⟩
 refine⟨_,B,?_⟩;k_is;have E:=(((((((U.trans d2).trans O).trans d4).trans Z).trans d6).trans d7).trans J).trans d9;refine ab (show ixS (meL r s M o) (.int 2) _=aa (.tup (M.map au),_) from rfl) ?_;refine ab (show ax cg (.tup (M.map au)) T=aa (.int M.length,T) by simp only[ax,ao,cg,Za]) ?_;k_is;refine⟨rfl,ay d9.pot (by lia) (by lia) λkd Sa ka kb da=>?_⟩;k_is;refine⟨rfl,ay da.pot (by decide) (by decide) λw Sb w1 w2 db=>?_⟩;k_is;exact q kd j (j+s+e) (j+s+e+g) u w Sb ((E.trans da).trans db) ⟨_,_,_,_,_,_,_,rfl,by omega⟩
def mG{n:Nat}{ds:List D}{T:Tg}{b:XS}{c:Rho}{Q:Fl->Rho->Sto->Prop}(hl:ds.length<=100000)(I:Nat->Rho->Sto->Prop)(u:∀i c S',I i c S'->S'[n]?=aa (.lst ds))
  (step:∀ (i:Nat) d c S',ds[i]?=aa d->I i c S'->∃g,av T d c=aa g/\OkS (b g S') λy f j=>match y with |.nx=>I (i+1) f j |.ct=>I (i+1) f j |.bk=>Q .nx f j |.rt d=>Q (.rt d) f j)
  (q:∀c S',I ds.length c S'->Q .nx c S') (v:I 0 c S):OkS (cU (nxS n) T b LF 0 c S) Q:=by
 refine i4 ds.length I (by unfold LF;lia) (λi c S' hi h=>?_) (λc S' h=>⟨?_,q c S' h⟩) v
 ·obtain⟨g,E,z⟩:=step i ds[i] c S' (gEG hi) h;refine⟨ds[i],g,?_,E,z⟩;show(aH S' n).map (λds=>ds[i]?)=_;rw[af (u i c S' h),Zv,gEG hi]
 ·show(aH S' n).map (λo=>o[ds.length]?)=_;rw[af (u _ c S' h),Zv,ZB (Zd _)]
def i8{n:Nat}(h:S[n]?=aa (.lst b)):ax ji (.ref n) S=aa (.tup b,S):=by simp only[ax,ao,af h,Zv,ji]
def EX{n j:Nat}{G:List (List Int)}{g:List Int}(h:S[n]?=aa (.lst (G.map au)))(c:j < G.length):g9 (.ref n) (.int (j:Int)) (au g) S=aa (S.set n (.lst ((G.set j g).map au))):=by
 have b:ixN (G.map au).length (j:Int)=aa j:=by
  unfold ixN;rw[if_pos (by lia),if_pos (by rw[Za];lia),Zs]
 simp only[g9,h,b,Zv,List.map_set]
def Bn{r s:Int}{M G:List (List Int)}{T:List (Int × Int)}{N Ng:Nat}{is:List Int}{S0:Sto}(h:Pot p S)(k0:Ev.Kp p S0 S)(l0:S0.length<=Ng)(me:MeOk r s M T)(hG:S[Ng]?=aa (.lst (G.map au)))(O:Ng ≠ p)(hN:S[N]?=aa (.lst (is.map D.int)))(nN:N ≠ p)(gb:∀g ∈ G,GB M.length r s g)(h0:∀g ∈ G,g.getD 6 0=0)(l6:G.length<=7)(pm:is.Perm ((Zh G.length).map λi=>Int.ofNat i))
  (q:∀K S',Ev.Kp p S0 S'->Pot p S'->SkOk K->K.G.length<=7->Q (skE K) S') :
  rW (wSs (evC aj (k+1)) (eV aj) 56 (jz.drop 4)) [aa (.ref p),aa (.int 7),aa (meL r s M T),aa (.ref Ng),aa (.ref N),aD,aD,aD] S (out Q):=by
 dsimp only[jz,Yd];have m1:=me.m1;have m4:=me.m4;have r8:=me.r8;k_is;refine⟨rfl,ay h (by decide) (by decide) λx J x1 x2 d1=>?_⟩;obtain⟨c,rfl⟩:∃n:Nat,x=(n:Int):=⟨x.toNat,by lia⟩
 have at4:atI [D.int 0,D.int 1,D.int 2,D.int 3] (c:Int)=aa (D.int c):=by
  have:c=0\/c=1\/c=2\/c=3:=by lia
  rcases this with rfl |rfl |rfl |rfl <;> rfl
 refine⟨_,at4,?_⟩;k_is;have hN1:=d1.kp _ _ nN hN;have hG1:=d1.kp _ _ O hG;refine ab (cE hN1) ?_;k_is;rw[<-Yu];have d2:Dr p J (J++[Ob.lst ((is.take c).map D.int)]):=Dr.sm d1.pot (Sm.app _ _);have hF2:(J++[Ob.lst ((is.take c).map D.int)])[Zc J]?=aa (Ob.lst ((is.take c).map D.int)):=ai;have hG2:=d2.kp _ _ O hG1;have k2:=(k0.trans d1.kp).trans d2.kp;have lt1:=d1.pot.lt;have nF:Zc J ≠ p:=by lia
 have nFG:Zc J ≠ Ng:=by have:=(Zb.mp hG1).1;lia
 refine⟨(by rw[af hF2];rfl),?_⟩;generalize J++[Ob.lst ((is.take c).map D.int)]=S2 at *;generalize Zc J=F at *;have pr:=ug pm;have pf:∀x ∈ is.take c,0<=x/\x < (G.length:Int):=λx hx=>pr.2.1 x (Yz hx);have ndf:(is.take c).Nodup:=pr.1.sublist (XY c is);have lf:(is.take c).length<=7:=by rw[ZC];have:=pr.2.2;lia
 generalize is.take c=fx at *
 have fin:∀ (f:List (List Int)) (a:Option (Int × Int)) S3,Ev.Kp p S0 S3->Pot p S3->f.length=G.length->(∀g ∈ f,GB M.length r s g)->(∀ (j:Nat) g,f[j]?=aa g->g.getD 6 0=0\/(j:Int) ∈ fx)->(∀z:Int × Int,a=aa z->0<=z.1/\z.1 < M.length/\0<=z.2/\z.2<=9999)->Q (skE ⟨r,s,M,T,a,f,fx⟩) S3:=λf a S3 k3 p3 L g3 r3 ha=>
  q ⟨r,s,M,T,a,f,fx⟩ S3 k3 p3 ⟨me,by show f.length<=7;lia,g3,ndf,λx hx=>by show 0<=x/\x < (f.length:Int);rw[L];exact pf x hx,r3,ha⟩ (by show f.length<=7;lia)
 refine mG (by rw[Za];lia) (λi ρ S'=>Ev.Kp p S0 S'/\Pot p S'/\S'[F]?=aa (Ob.lst (fx.map D.int))/\∃ (f:List (List Int)) (u:Option D),ρ=[aa (.ref p),aa (.int 7),aa (meL r s M T),aa (.ref Ng),aa (.ref N),aa (.ref F),u,aD]/\S'[Ng]?=aa (Ob.lst (f.map au))/\f.length=G.length/\(∀g ∈ f,GB M.length r s g)/\∀ (j:Nat) g,f[j]?=aa g->g.getD 6 0=0\/(j:Int) ∈ fx) (λi ρ S' iv=>iv.2.2.1) (λi d ρ S3 hd hq1=>?_) (λρ S3 hq2=>?_) ⟨k2,d2.pot,hF2,G,aD,rfl,hG2,rfl,gb,λj g e=>.inl (h0 g (Ze e))⟩
 ·obtain⟨k3,p3,f3,f,u,er,g3,L,o,B⟩:=hq1;subst er;obtain⟨x,hx,rfl⟩:=cT hd;have hxf:=Ze hx;have hxb:=pf x hxf;obtain⟨j,rfl⟩:∃n:Nat,x=(n:Int):=⟨x.toNat,by lia⟩;have hj:j < f.length:=by lia
  refine⟨_,rfl,?_⟩;k_is;refine⟨rfl,ay p3 (by decide) (by decide) λy S4 y1 y2 v=>?_⟩;k_is;have U:=v.kp _ _ O g3;have Y:=v.kp _ _ nF f3;have k4:=k3.trans v.kp;have mt:∀S,ixS (meL r s M T) (.int 0) S=aa (.int r,S):=λS=>rfl;cases ey:decide (y=0) with
  |false=>k_is;exact⟨k4,v.pot,Y,f,_,rfl,U,L,o,B⟩
  |true=>
   k_is;refine ab (mt S4) ?_;k_is;cases er0:decide (0 < r) with
   |false=>k_is;exact⟨k4,v.pot,Y,f,_,rfl,U,L,o,B⟩
   |true=>
    have hr0:=of_decide_eq_true er0;k_is;obtain⟨I,E,Z,X,a5,a6,a7,eg,hb⟩:=o f[j] (ZT hj);refine ab (aY U (by lia) (show(f.map au)[((j:Nat):Int).toNat]?=aa (au f[j]) by rw[Zs,Zl,gEG hj];rfl)) ?_;rw[eg,show au [I,E,Z,X,a5,a6,a7]=D.tup [.int I,.int E,.int Z,.int X,.int a5,.int a6,.int a7] from rfl];k_is;rw[show gH [D.int I,.int E,.int Z,.int X,.int a5,.int a6,.int a7] aD (aa 6)=[.int I,.int E,.int Z,.int X,.int a5,.int a6] from rfl];refine ab (mt S4) ?_;refine⟨rfl,ay v.pot hr0 (by lia) λz S5 z1 z2 C=>?_⟩;k_is;have g5:=C.kp _ _ O U;have f5:=C.kp _ _ nF Y;have lt5:Ng < S5.length:=(Zb.mp g5).1;refine⟨by show 7<=1000;decide,?_⟩;refine⟨_,EX (g:=[I,E,Z,X,a5,a6,1+z]) g5 hj,?_⟩;k_is;refine⟨(k4.trans C.kp).setNew l0,C.pot.setNe O,by rw[ZE (Ne.symm nFG)];exact f5,f.set j [I,E,Z,X,a5,a6,1+z],_,rfl,mq lt5,by rw[YV];exact L,λg hg=>?_,λj' g e=>?_⟩
    ·rcases List.mem_or_eq_of_mem_set hg with hg |rfl
     ·exact o g hg
     ·exact⟨_,_,_,_,_,_,_,rfl,by omega⟩
    ·by_cases hjj:j'=j
     ·subst hjj;exact .inr hxf
     ·rw[ZE (Ne.symm hjj)] at e;exact B j' g e
 ·obtain⟨k3,p3,f3,f,u,er,g3,L,o,B⟩:=hq2;subst er;k_is;refine⟨rfl,ay p3 (by decide) (by decide) λy S4 y1 y2 v=>?_⟩;k_is;have U:=v.kp _ _ O g3;have Y:=v.kp _ _ nF f3;refine eG (λ_=>?_) λ_=>?_
  ·k_is;refine ab (show ixS (meL r s M T) (.int 2) S4=aa (.tup (M.map au),S4) from rfl) (ab bp ?_);k_is;refine⟨rfl,ay v.pot (by lia) (by lia) λa S5 I E C=>?_⟩;k_is;refine⟨rfl,ay C.pot (by decide) (by decide) λb S6 b1 b2 d6=>?_⟩;k_is;have g6:=(C.trans d6).kp _ _ O U;have f6:=(C.trans d6).kp _ _ nF Y;refine ab (i8 g6) (ab (i8 f6) ?_);k_is;exact fin f (aa (a,b)) S6 ((k3.trans v.kp).trans (C.trans d6).kp) d6.pot L o B λz e=>by cases e;exact⟨I,E,b1,by lia⟩
  ·k_is;refine ab (i8 U) (ab (i8 Y) ?_);k_is;exact fin f aD S4 (k3.trans v.kp) v.pot L o B λz e=>by cases e
def EY(h:Pot p S)(q:∀K S',Dr p S S'->SkOk K->K.G.length<=7->Q (skE K) S'):Ok (evC aj (k+4) 56 [.ref p,.int 7] S) Q:=by
 refine aq (d:=jG) (ρ:=[aa (.ref p),aa (.int 7),aD,aD,aD,aD,aD,aD]) rfl rfl ?_;have tail:=@Bn p;dsimp only[jG];dsimp only[jz,Yd] at tail ⊢;k_is;refine⟨rfl,Bl h λr s M Hs S1 d1 me=>?_⟩;k_is;refine⟨rfl,ay d1.pot (by decide) (by decide) λx S2 x1 x2 d2=>?_⟩;obtain⟨n,rfl⟩:∃n:Nat,x=(n:Int):=⟨x.toNat,by lia⟩;k_is;refine⟨cA (by lia) (by lia),?_⟩;rw[Zs];refine jI (by lia) (λi b S'=>Dr p S2 S'/\∃G:List (List Int),b=G.map au/\G.length=i/\∀g ∈ G,GB M.length r s g/\g.getD 6 0=0) (λi b S3 hi ⟨I,G,E,lG,C⟩=>⟨_,rfl,?_⟩) (λes S3 ⟨I,G,E,lG,C⟩=>⟨by rw[E,Za];lia,?_⟩) ⟨Dr.refl d2.pot,[],rfl,rfl,λg c=>by cases c⟩
 ·k_is;refine⟨rfl,Bm (k:=k+1) I.pot me λa j f l u w o X c=>?_⟩;refine⟨I.trans X,G++[[a,j,f,l,u,w,0]],by rw[E,Zq];rfl,by simp[lG],λg hg'=>?_⟩;rcases ZM.mp hg' with hg' |hg'
  ·exact C g hg'
  ·rw[Zu.mp hg'];exact⟨c,rfl⟩
 ·subst E;have lt3:=I.pot.lt;have k3:=(d1.trans d2).trans I;have lS:S.length<=Zc S3:=Kp.len k3.kp lt3;k_is;have X:Dr p S3 (S3++[Ob.lst (G.map au)]):=Dr.sm I.pot (Sm.app _ _);have g4:(S3++[Ob.lst (G.map au)])[Zc S3]?=aa (Ob.lst (G.map au)):=ai;refine ab (b9 g4) ?_;k_is;rw[Za];refine⟨_,rfl,by lia,?_⟩;k_is;have J:Zc S3 ≠ p:=by lia
  have lG4:Zc S3 < Zc (S3++[Ob.lst (G.map au)]):=by simp
  generalize S3++[Ob.lst (G.map au)]=o at *;have d5:Dr p o (o++[Ob.lst ((Zh G.length).map λj=>D.int (Int.ofNat j))]):=Dr.sm X.pot (Sm.app _ _);have n5:(o++[Ob.lst ((Zh G.length).map λj=>D.int (Int.ofNat j))])[Zc o]?=aa (Ob.lst (((Zh G.length).map λj=>Int.ofNat j).map D.int)):=by rw[ZO];exact ai
  have g5:=d5.kp _ _ J g4;have nN:Zc o ≠ p:=by lia
  generalize o++[Ob.lst ((Zh G.length).map λj=>D.int (Int.ofNat j))]=S5 at *;generalize Zc S3=Ng at *;generalize Zc o=N at *;have k5:=(k3.trans X).trans d5;refine⟨rfl,ay d5.pot (by decide) (by decide) λy S6 y1 y2 B=>?_⟩;k_is;have n6:=B.kp _ _ nN n5;have U:=B.kp _ _ J g5;have k6:=k5.trans B;refine eG (λ_=>?_) λ_=>?_
  ·k_is;refine⟨by rw[af U];rfl,?_⟩;refine bL G.length (λi=>.tup [.int i,((G.map au)[i]?).getD .non]) (λi b S'=>S'=S6/\b=((G.take i).zipIdx.map λz=>ac (z.1.getD 2 0,(z.2:Int)))) (λi b S' hi ⟨e,_⟩=>by subst e;rw[<-Za (f:=au)];exact i5 (i:=i) U (by rw[Za];lia) (λj=>.tup [.int j,((G.map au)[j]?).getD .non]) λj d hd=>by show D.tup [.int j,((G.map au)[j]?).getD .non]=_;rw[hd];rfl) (by lia) (λi b S7 hi ⟨O,E⟩=>?_) (λes S7 ⟨O,E⟩=>⟨by rw[E,Za,Xe,ZC];lia,?_⟩) ⟨rfl,rfl⟩
   ·subst O;obtain⟨a1,a2,T,a4,a5,a6,a7,eg,_⟩:=(C G[i] (ZT hi)).1;have ez:((G.map au)[i]?).getD .non=au [a1,a2,T,a4,a5,a6,a7]:=by rw[Zl,gEG hi,eg];rfl
    rw[ez];refine⟨_,aV (by simp) (by simp),?_⟩;k_is;refine ab (show ixS (au [a1,a2,T,a4,a5,a6,a7]) (.int 2) S7=aa (.int T,S7) from rfl) ?_;k_is;refine⟨rfl,?_⟩;rw[E,ZQ hi,List.zipIdx_append,Zq,ZC,Y8 (by lia),eg];show _=_++[ac (T,((0+i:Nat):Int))];rw[Ws];rfl
   ·subst O;rw[ZZ (Zd _)] at E;have ep:(G.zipIdx.map λz=>ac (z.1.getD 2 0,(z.2:Int)))=(G.zipIdx.map λz=>(z.1.getD 2 0,(z.2:Int))).map ac:=by rw[ZO];rfl
    rw[ep] at E;subst E;obtain⟨L,es,pq⟩:=xD (ps:=G.zipIdx.map λz=>(z.1.getD 2 0,(z.2:Int))) (by rw[Za,Xe];lia);refine⟨_,es,?_⟩;have lq:L.length<=7:=by rw[pq.length_eq,Za,Xe];lia
    refine aF L ac (λz=>[D.int z.2]) (by lia) (λ_ _=>Zd _) bZ (λi z S' hz sm=>⟨_,rfl,?_⟩) λS8 s8=>?_
    ·k_is;refine ab (show ixS (ac z) (.int 1) S'=aa (.int z.2,S') from rfl) ?_;exact⟨rfl,Sm.refl _⟩
    ·rw[aK];k_is;have O:(L.map λz=>D.int z.2)=(L.map (·.2)).map D.int:=by rw[ZO];rfl
     have pm7:(L.map (·.2)).Perm ((Zh G.length).map λi=>Int.ofNat i):=by
      refine(pq.map (·.2)).trans ?_;rw[ZO];have:((·.2) ∘ λz:List Int × Nat=>(z.1.getD 2 0,(z.2:Int)))=(λi:Nat=>Int.ofNat i) ∘ Prod.snd:=rfl;rw[this,<-ZO,List.zipIdx_map_snd,List.range_eq_range']
     have v:Dr p S7 (S8++[Ob.lst (L.map λz=>D.int z.2)]):=Dr.sm B.pot (s8.trans (Sm.app _ _));have lt8:Zc S7<=Zc S8:=Kp.len s8.kp (Dr.sm B.pot s8).pot.lt;have l7:p < Zc S7:=B.pot.lt;exact tail (k:=k+2) v.pot (k6.trans v).kp lS me (v.kp _ _ J U) J (by rw[<-O];exact ai) (by lia) (λg c=>(C g c).1) (λg c=>(C g c).2) (by lia) pm7 λK S' Y Z sk l'=>q K S' ⟨Y,Z⟩ sk l'
  ·k_is;refine⟨rfl,ow (k:=k+1) B.pot n6 nN (by rw[Za,ZK];lia) λis S7 d7 pm=>?_⟩;k_is;have v:Dr p S6 (S7++[Ob.lst (is.map D.int)]):=d7.thenSm (Sm.app _ _);have l7:=d7.pot.lt;exact tail (k:=k+2) v.pot (k6.trans v).kp lS me (v.kp _ _ J U) J ai (by lia) (λg c=>(C g c).1) (λg c=>(C g c).2) (by lia) pm λK S' Y Z sk l'=>q K S' ⟨Y,Z⟩ sk l'
end Lw
namespace Lw
open PySem Ev Sn L2
variable {p:Nat} {S S':Sto} {k:Nat} {Q:D->Sto->Prop} {K:Sky} {A L:List (Int × Int)} {z:Int × Int}
abbrev rH(H:List (Int × Int))(m:Int):Bool:=H.any λz=>decide (z.1<=m) && decide (m < z.2)
structure Wd(K:Sky)(A:List (Int × Int))(j:Nat)(z:Int × Int):Prop where
 g0:0<=z.1
 g1:z.1 < K.G.length
 nw:z.1 ∉ A.map (·.1)
 fx:∀f,K.F[j]?=aa f->f=z.1
 m0:gi K.G z.1 2<=z.2
 m1:z.2<=gi K.G z.1 3
 sh:rH K.H z.2=aW
 gp:ER K (eI K A) (gi K.G z.1 0)<=z.2
structure Kps(K:Sky)(L:List (Int × Int)):Prop where
 w:∀ (j:Nat) z,L[j]?=aa z->Wd K (L.take j) j z
 al:∀g:Nat,g < K.G.length->(g:Int) ∈ L.map (·.1)
 cr:∀u ∈ js K,(wts K L u:Int)<=K.r
 hi:∀ (j:Nat) z (t:Int),L[j]?=aa z->0 < gi K.G z.1 6->jn K z.1<=t->t < z.2 - K.s->1+(wts K (L.take j) t:Int)<=gi K.G z.1 6
def Gf{i:Nat}(h:∀ (j:Nat) z,j < i->L[j]?=aa z->Wd K (L.take j) j z):InG K (L.take i):=λz c=>by
 obtain⟨j,b⟩:=Yo c;have f:=(Zb.mp b).1;rw[ZC] at f;rw[Xo (by lia)] at b;have w:=h j z (by lia) b;exact⟨w.g0,w.g1⟩
def Kps.at(h:Kps K L)(b:z ∈ L):∃j:Nat,L[j]?=aa z/\Wd K (L.take j) j z:=let ⟨j,hj⟩:=Yo b;⟨j,hj,h.w j z hj⟩
def Kps.inG(h:Kps K L):InG K L:=λz b=>let ⟨_,_,w⟩:=h.at b;⟨w.g0,w.g1⟩
def Kps.len(h:Kps K L):L.length<=K.G.length:=by
 have nd:(L.map (·.1)).Nodup:=by
  rw[List.nodup_iff_pairwise_ne,Y1,YU];intro a b o f n c;exact(h.w b _ (gEG f)).nw (c ▸ ZA.mpr ⟨L[a],ZX.mpr ⟨a,by lia,rfl⟩,rfl⟩)
 have:=Dw.cb K.G.length _ nd λx g=>by
  obtain⟨z,j,rfl⟩:=ZA.mp g;exact h.inG z j
 rwa [Za] at this
def Bo(g:InG K L)(r0:0<=K.r){t:Int}(h:K.r < (wts K L t:Int)):∃u ∈ js K,u<=t/\K.r < (wts K L u:Int):=by
 cases b:L.filter (ae K t) with
 |nil=>unfold wts at h;rw[b] at h;exact absurd h (by show ¬ K.r < ((0:Nat):Int);lia)
 |cons q r=>
  have f:=ZP.mp (by rw[b];exact Zj:q ∈ L.filter (ae K t));have c:=f.2;simp only[ae,bAE,decide_eq_true_eq] at c;obtain⟨u,v,B,n,y⟩:=ue (K:=K) c.1 L
  have j:u ∈ js K:=by
   rcases v with rfl |⟨q',hq',rfl⟩
   ·exact uf (g q f.1).1 (g q f.1).2
   ·exact uf (g q' hq').1 (g q' hq').2
  have o:wts K L t<=wts K L u:=kH λq f b=>by
   have a:=y q f b;simp only[ae,bAE,decide_eq_true_eq] at b ⊢
   lia
  exact⟨u,j,n,by lia⟩
def EZ{b:Type}(l:List b)(g:b->Bool)(S:Sto):mS aW (l.map λt=>D.bl (g t)) S=aa (.bl (l.any g),S):=by
 unfold mS;rw[if_pos ⟨rfl,by rw[YZ,ZJ];intro x _;rfl⟩,X0];rfl
def E5(hl:K.H.length<=4){m:Int}(q:∀S',Sm S S'->Q (.bl (rH K.H m)) S'):Ok (evC aj (k+1) 12 [meE K,.int m] S) Q:=by
 refine aq (d:=jB) (ρ:=[aa (meE K),aa (.int m)]) rfl rfl ?_;dsimp only[jB,n4];k_is;refine ab me3 ?_;k_is;refine aF K.H ac (λz=>[.bl (decide (z.1<=m) && decide (m < z.2))]) (by lia) (λ_ _=>Zd _) bZ (λi z S' h sm=>⟨_,show av (.tup [.name 2,.name 3]) (.tup [.int z.1,.int z.2]) _=_ from aV (by simp) (by simp),?_⟩) λb c=>?_
 ·k_is;cases decide (z.1<=m) with
  |true=>k_is;exact⟨rfl,Sm.refl _⟩
  |false=>k_is;exact⟨rfl,Sm.refl _⟩
 ·rw[aK];refine ab (EZ _ _ _) ?_;k_is;exact q b c
def E6(V:Vd K){n j:Nat}(v:S[n]?=aa (.lst (L.map ac)))(T:L[j]?=aa z)(y:InG K (L.take j))(W:Wd K (L.take j) j z)(q:∀S',Sm S S'->Q .non S'):Ok (evC aj (k+2) 25 [skE K,.ref n,.int j] S) Q:=by
 refine aq (d:=cP) (ρ:=[aa (skE K),aa (.ref n),aa (.int j),aD,aD,aD,aD,aD,aD,aD,aD,aD,aD,aD,aD,aD]) rfl rfl ?_;dsimp only[cP,fM];obtain⟨Z,C,_,_,m0,m1,sh,gp⟩:=W;obtain⟨o,b,c,d,e,f,h,O,J,e1,X,I,e6,U,B,c0⟩:=gl7 V Z C;rw[show skE K = .tup [meE K,ahE K.ah,.tup (K.G.map au),.tup (K.F.map D.int)] from rfl];rw[X] at m0;rw[I] at m1;rw[J] at gp;k_is;refine ab (aY v (by lia) (show(L.map ac)[((j:Nat):Int).toNat]?=aa (ac z) by rw[Zs,Zl,T];rfl)) ?_;rw[show ac z = .tup [.int z.1,.int z.2] from rfl];k_is;refine ab (bV Z O) ?_;rw[show au [o,b,c,d,e,f,h] = .tup [.int o,.int b,.int c,.int d,.int e,.int f,.int h] from rfl];k_is;rw[decide_eq_false (show ¬ z.2 < c by lia)];k_is;rw[decide_eq_false (show ¬ d < z.2 by lia)];k_is;refine⟨rfl,E5 V.h4 λg u=>?_⟩;rw[sh];k_is;rw[show D.tup [meE K,ahE K.ah,.tup (K.G.map au),.tup (K.F.map D.int)]=skE K from rfl];refine ab (cE (u _ _ v)) ?_;have E:Sm g (g++[Ob.lst ((L.map ac).take j)]):=Sm.app _ _;have Y:(g++[Ob.lst ((L.map ac).take j)])[Zc g]?=aa (Ob.lst ((L.take j).map ac)):=by rw[ai,Yu]
 generalize Zc g=N at *;generalize g++[Ob.lst ((L.map ac).take j)]=S2 at *;refine⟨rfl,A8 V Y y ?_⟩;refine⟨rfl,ES V (i7 V y) U B ?_⟩;k_is;rw[decide_eq_false (show ¬ z.2 < ER K (eI K (L.take j)) o by lia)];k_is;exact q S2 (u.trans E)
def mH(neg:Bool){n:Nat}{is:List Int}(h:S[n]?=aa (.lst (is.map D.int)))(i:Int):inS neg (.int i) (.ref n) S=aa (.bl (neg != decide (i ∈ is)),S):=by
 have:=pH neg is i S;unfold inS at this ⊢;have e:ao (.ref n) S=aa (aW,is.map D.int):=by simp only[ao,af h,Zv]
 rw[e];exact this
end Lw
namespace Lw
open PySem Ev Sn L2
variable {K:Sky} {A:List (Int × Int)} {z:Int × Int}
def rJ(f:∀q ∈ A,jn K q.1 ∈ js K)(B:jn K z.1<=t){u:Int}(c:t<=u)(p:u < z.2 - K.s):1+(wts K A u:Int)<=aQ K A z t:=by
 obtain⟨v,j,y,o,n⟩:=ue (K:=K) c A
 have h:wts K A u<=wts K A v:=kH λq b h=>by
  have a:=n q b h;simp only[ae,bAE,decide_eq_true_eq] at h ⊢
  lia
 have g:v ∈ cS K z t:=by
  unfold cS;by_cases e:v=t
  ·rw[e];exact Zj
  ·refine Zm _ (ZP.mpr ⟨?_,by simp only[ae,bAE,decide_eq_true_eq];lia⟩);rcases j with rfl |⟨q,b,rfl⟩
   ·exact absurd rfl e
   ·exact f q b
 have:=pS (ZA.mpr ⟨v,g,rfl⟩:1+(wts K A v:Int) ∈ (cS K z t).map λt=>1+(wts K A t:Int));unfold aQ
 lia
def kg(t:Int)(b:t < z.2 - K.s):∃u,t<=u/\u < z.2 - K.s/\aQ K A z t=1+(wts K A u:Int):=by
 obtain⟨u,hu,e⟩:=ZA.mp (pR (ns:=(cS K z t).map λt=>1+(wts K A t:Int)) (by unfold cS;simp));refine⟨u,?_⟩;unfold cS at hu;rcases Zk.mp hu with rfl |hu
 ·exact⟨ZI _,b,e.symm⟩
 ·have h:=(ZP.mp hu).2;simp only[ae,bAE,decide_eq_true_eq] at h;exact⟨by lia,h.2.2,e.symm⟩
def E7(b:∀q ∈ A,jn K q.1 ∈ js K)(g:jn K z.1<=t)(e:t+1=z.2 - K.s):aQ K A z t=1+(wts K A t:Int):=by
 obtain⟨u,f,c,h⟩:=kg (K:=K) (A:=A) (z:=z) t (by lia);rw[h,show u=t by lia]
def vB(b:∀q ∈ A,jn K q.1 ∈ js K)(c:jn K z.1<=t)(h:t+1 < z.2 - K.s):aQ K A z t=if 1+(wts K A t:Int) > aQ K A z (t+1) then 1+(wts K A t:Int) else aQ K A z (t+1):=by
 obtain⟨u,p,f,j⟩:=kg (K:=K) (A:=A) (z:=z) t (by lia);obtain⟨v,g1,g,o⟩:=kg (K:=K) (A:=A) (z:=z) (t+1) h;have y:=rJ b c (ZI t) (by lia);have B:=rJ b c (show t<=v by lia) g;by_cases e:u=t
 ·subst e;split <;> lia
 ·have n:=rJ b (show jn K z.1<=t+1 by lia) (show t+1<=u by lia) f;split <;> lia
def E8(b:∀q ∈ A,jn K q.1 ∈ js K)(g:jn K z.1<=t)(h:t+1 < z.2 - K.s)(hl:∀q ∈ A,q.2 - K.s ≠ t+1):aQ K A z (t+1)=aQ K A z t:=by
 rw[vB b g h,if_neg]
 have:wts K A t<=wts K A (t+1):=kH λq f c=>by
  have:=hl q f;simp only[ae,bAE,decide_eq_true_eq] at c ⊢
  lia
 have a:=rJ b (show jn K z.1<=t+1 by lia) (ZI (t+1)) h
 lia
def vC(b:∀q ∈ A,jn K q.1 ∈ js K)(c:jn K z.1<=t)(h:t+1 < z.2 - K.s):aQ K A z (t+1)<=aQ K A z t:=by
 rw[vB b c h];split <;> lia
abbrev gk(b:List (Int × Int))(x:Int × Int):List (Int × Int):=match b.getLast? with
 |none=>b++[x]
 |some y=>if y.2=x.2 then b else b++[x]
abbrev bE(b:List (Int × Int))(x:Int × Int):List (Int × Int):=match b.getLast? with
 |none=>b++[x]
 |some y=>if x.2 < y.2 then b++[x] else b
def Bp(acc:List (Int × Int))(x:Int × Int):bE (bE acc x) x=bE acc x:=by
 cases h:acc.getLast? with
 |none=>
  have e:bE acc x=acc++[x]:=by unfold bE;rw[h]
  rw[e];unfold bE;rw[YR];simp
 |some y=>
  by_cases c:x.2 < y.2
  ·have e:bE acc x=acc++[x]:=by unfold bE;rw[h];exact if_pos c
   rw[e];unfold bE;rw[YR];simp
  ·have e:bE acc x=acc:=by unfold bE;rw[h];exact if_neg c
   rw[e,e]
def rK{f:Int->Int}{t:Int}(b:List (Int × Int)):∀ (l:List Int),(∀x ∈ l,x=t)->(l.map λx=>(x,f x)).foldl bE b=if l=[] then b else bE b (t,f t)
 |[],_=>rfl
 |x::l,h=>by
  have I:=rK (f:=f) (bE b (t,f t)) l λy c=>h y (Zm _ c);rw[h x Zj,Zx,Y5,I];show _=bE b (t,f t);split
  ·rfl
  ·exact Bp ..
def oB(t:Int):∀ {l:List Int},l.Pairwise (·<=·)->(l.filter λx=>decide (x < t+1))=(l.filter λx=>decide (x < t))++l.filter λx=>decide (x=t)
 |[],_=>rfl
 |a::l,h=>by
  rw[Z8] at h;have I:=oB t h.2;by_cases c:a < t
  ·rw[Yr (by simp;lia),Yr (by simpa using c),YG (by simp;lia),I];rfl
  ·have e:(l.filter λx=>decide (x < t))=[]:=by
    rw[ZR];intro x b;have:=h.1 x b;simp;lia
   rw[e] at I;rw[YG (l:=l) (p:=λx=>decide (x < t)) (by simpa using c),e];by_cases d:a=t
   ·rw[Yr (by simp;lia),Yr (by simpa using d),I];rfl
   ·rw[YG (by simp;lia),YG (by simpa using d),I]
def xH(b:List (Int × Int))(x:Int × Int):∃y,(gk b x).getLast?=aa y/\y.2=x.2:=by
 unfold gk;cases h:b.getLast? with
 |none=>exact⟨x,by simp,rfl⟩
 |some y=>
  dsimp only;split
  ·exact⟨y,h,by assumption⟩
  ·exact⟨x,by simp,rfl⟩
def Gg(f:Int->Int){J:Int}{ms:List Int}(hs:ms.Pairwise (·<=·))(j:∀x ∈ ms,J<=x)(o:J ∈ ms):∀ (n:Nat),(∀i:Nat,i+1 < n->f (J+i+1)<=f (J+i)/\(J+i+1 ∉ ms->f (J+i+1)=f (J+i))) ->
  ((Zh n).map λ(i:Nat)=>(J+i,f (J+i))).foldl gk []=((ms.filter λx=>decide (x < J+n)).map λx=>(x,f x)).foldl bE []
 |0,_=>by
  have e:(ms.filter λx=>decide (x < J+((0:Nat):Int)))=[]:=by
   rw[ZR];intro x g;have:=j x g;simp;lia
  rw[e];rfl
 |n+1,h=>by
  have I:=Gg f hs j o n λi hi=>h i (by lia);rw[Ys,Zq,YO,show J+((n+1:Nat):Int)=(J+n)+1 by lia,oB _ hs,Zq,YO,<-I,rK (t:=J+n) _ _ λx g=>by simpa using(ZP.mp g).2];show gk _ (J+n,f (J+n))=_;cases n with
  |zero=>
   rw[if_neg]
   ·rfl
   ·intro z;have:=ZR.mp z J o;simp at this
  |succ m=>
   obtain⟨g1,q⟩:=h m (by lia);rw[show J+((m+1:Nat):Int)=J+m+1 by lia];rw[Ys,Zq,YO];obtain⟨y,b,u⟩:=xH (((Zh m).map λ(i:Nat)=>(J+i,f (J+i))).foldl gk []) (J+m,f (J+m));show gk (gk _ (J+m,f (J+m))) _=if _ then gk _ (J+m,f (J+m)) else bE (gk _ (J+m,f (J+m))) _
   generalize gk (((Zh m).map λ(i:Nat)=>(J+i,f (J+i))).foldl gk []) (J+m,f (J+m))=acc at b ⊢;have E:gk acc (J+m+1,f (J+m+1))=if y.2=f (J+m+1) then acc else acc++[(J+m+1,f (J+m+1))]:=by unfold gk;rw[b]
   have v:bE acc (J+m+1,f (J+m+1))=if f (J+m+1) < y.2 then acc++[(J+m+1,f (J+m+1))] else acc:=by unfold bE;rw[b]
   rw[E,v,u];split
   ·rename_i c;split
    ·rfl
    ·rw[if_neg (by show ¬ _ < (J+m,f (J+m)).2;rw[c];lia)]
   ·rename_i c;rw[if_neg,if_pos]
    ·show _ < f (J+m);have:¬ f (J+m)=f (J+m+1):=c
     lia
    ·intro z
     have p:J+m+1 ∉ ms:=λw=>by
      have:=ZR.mp z _ w;simp at this
     exact c (q p).symm
end Lw
namespace Lw
open PySem Ev Sn L2
variable {p:Nat} {S S':Sto} {k:Nat} {Q:D->Sto->Prop} {K:Sky} {A L:List (Int × Int)} {z:Int × Int}
def pV{n:Nat}{ds:List D}{T:Tg}{b:XS}{c:Rho}{Q:Fl->Rho->Sto->Prop}(hl:ds.length<=100000)(I:Nat->Rho->Sto->Prop)(u:∀i c S',I i c S'->S'[n]?=aa (.lst ds))
  (step:∀ (i:Nat) d c S',ds[i]?=aa d->I i c S'->∃g,av T (.tup [.int i,d]) c=aa g/\OkS (b g S') λy f j=>match y with |.nx=>I (i+1) f j |.ct=>I (i+1) f j |.bk=>Q .nx f j |.rt d=>Q (.rt d) f j)
  (q:∀c S',I ds.length c S'->Q .nx c S') (v:I 0 c S):OkS (cU (wM n) T b LF 0 c S) Q:=by
 refine i4 ds.length I (by unfold LF;lia) (λi c S' hi h=>?_) (λc S' h=>⟨?_,q c S' h⟩) v
 ·obtain⟨g,E,z⟩:=step i ds[i] c S' (gEG hi) h;refine⟨.tup [.int i,ds[i]],g,?_,E,z⟩;show(aH S' n).bind (λds=>enm ds i)=_;rw[af (u i c S' h)];show enm ds i=_;unfold enm;rw[if_pos (by lia),gEG hi];rfl
 ·show(aH S' n).bind (λo=>enm o ds.length)=_;rw[af (u _ c S' h)];show enm ds ds.length=_;unfold enm;rw[if_pos (Zd _),ZB (Zd _)];rfl
def fB{j:Nat}(h:L[j]?=aa z):(L.map ac)[((j:Nat):Int).toNat]?=aa (ac z):=by rw[Zs,Zl,h];rfl
def cG:az .isnot d .non S=aa (.bl (!bG d),S):=by
 show isB aT d .non S=_;unfold isB;cases d <;> rfl
def mI:az .is d .non S=aa (.bl (bG d),S):=by
 show isB aW d .non S=_;unfold isB;cases d <;> rfl
def fh:(L.map λz=>D.int z.1)=(L.map (·.1)).map D.int:=by rw[ZO];rfl
def KM(V:Vd K){n j:Nat}(h:S[n]?=aa (.lst (L.map ac)))(hl:L.length<=20)(u:L[j]?=aa z)(v:InG K (L.take j))(W:Wd K (L.take j) j z)(q:∀S',Sm S S'->Q .non S'):Ok (evC aj (k+3) 24 [skE K,.ref n,.int j] S) Q:=by
 refine aq (d:=cm) (ρ:=[aa (skE K),aa (.ref n),aa (.int j),aD,aD,aD,aD,aD]) rfl rfl ?_;dsimp only[cm,ft];rw[show skE K = .tup [meE K,ahE K.ah,.tup (K.G.map au),.tup (K.F.map D.int)] from rfl];k_is;refine ab (aY h (by lia) (fB u)) (ab (show ixS (ac z) (.int 0) S=aa (.int z.1,S) from rfl) ?_);k_is;rw[decide_eq_true W.g0];k_is;refine ab bp ?_;k_is;rw[decide_eq_true W.g1];k_is;refine ab (cE h) ?_;have I:Sm S (S++[Ob.lst ((L.map ac).take j)]):=Sm.app _ _;have o:(S++[Ob.lst ((L.map ac).take j)])[Zc S]?=aa (Ob.lst ((L.take j).map ac)):=by rw[ai,Yu]
 generalize Zc S=N at *;generalize S++[Ob.lst ((L.map ac).take j)]=S1 at *;k_is;refine⟨by rw[af o];rfl,?_⟩;have lt:(L.take j).length<=20:=by rw[ZC];lia
 refine aF (L.take j) ac (λz=>[.int z.1]) (by lia) (λ_ _=>Zd _) (aJ o) (λi y S' O sm=>⟨_,show av (.tup [.name 8,.name 9]) (.tup [.int y.1,.int y.2]) _=_ from aV (by simp) (by simp),?_⟩) λc B=>?_
 ·k_is;exact⟨rfl,Sm.refl _⟩
 ·rw[aK,fh];k_is;have E:Sm c (c++[Ob.lst (((L.take j).map (·.1)).map D.int)]):=Sm.app _ _;refine ab (show az .isin (.int z.1) (.ref (Zc c)) (c++[Ob.lst (((L.take j).map (·.1)).map D.int)])=aa (.bl (aW != decide (z.1 ∈ (L.take j).map (·.1))),_) from mH aW ai z.1) ?_;have f:=(I.trans B).trans E;generalize c++[Ob.lst (((L.take j).map (·.1)).map D.int)]=S3 at *;rw[decide_eq_false W.nw];k_is;have b:Ok (evC aj (k+2) 25 [skE K,.ref n,.int j] S3) Q:=E6 V (f _ _ h) u v W λC J=>q C (f.trans J);refine ab bp ?_;k_is;by_cases g:j < K.F.length
  ·rw[decide_eq_true (show(j:Int) < K.F.length by lia)];k_is;refine ab (mB (ds:=K.F.map D.int) (i:=(j:Int)) (d:=.int z.1) (by lia) (by rw[Zs,Zl,gEG g,W.fx _ (gEG g)];rfl)) ?_;k_is;rw[decide_eq_true rfl];k_is;exact⟨rfl,b⟩
  ·rw[decide_eq_false (show ¬ (j:Int) < K.F.length by lia)];k_is;exact⟨rfl,b⟩
def KN(V:Vd K){n:Nat}(g:S[n]?=aa (.lst (L.map ac)))(hl:L.length<=20)(v:Kps K L)(q:∀S',Sm S S'->Q .non S'):Ok (evC aj (k+1) 28 [skE K,.ref n] S) Q:=by
 refine aq (d:=cq) (ρ:=[aa (skE K),aa (.ref n),aD,aD]) rfl rfl ?_;dsimp only[cq,fv];have g7:=V.g7;k_is;refine⟨by rw[af g];rfl,?_⟩;refine aF L ac (λz=>[.int z.1]) (by lia) (λ_ _=>Zd _) (aJ g) (λi y S' C sm=>⟨_,show av (.tup [.name 4,.name 5]) (.tup [.int y.1,.int y.2]) _=_ from aV (by simp) (by simp),?_⟩) λb o=>?_
 ·k_is;exact⟨rfl,Sm.refl _⟩
 ·rw[aK,fh];k_is;have B:(b++[Ob.lst ((L.map (·.1)).map D.int)])[Zc b]?=aa (.lst ((L.map (·.1)).map D.int)):=ai;have j:=o.trans (Sm.app b [Ob.lst ((L.map (·.1)).map D.int)]);generalize b++[Ob.lst ((L.map (·.1)).map D.int)]=S3 at *;generalize Zc b=N at *;refine ab sk2 (ab bp ?_);k_is;refine⟨cA (by lia) (by lia),?_⟩;rw[Zs];refine eD (by lia) (λi c S'=>S'=S3/\∃u,c=[aa (skE K),aa (.ref n),aa (.ref N),u]) (λi c S' hi f=>?_) (λc S' h=>?_) ⟨rfl,_,rfl⟩
  ·obtain⟨rfl,u,rfl⟩:=f;refine⟨_,rfl,?_⟩;k_is;rw[YK];refine ab (show az .notin (.int (i:Int)) (.ref N) S'=aa (.bl (aT != decide ((i:Int) ∈ L.map (·.1))),S') from mH aT B (i:Int)) ?_;rw[decide_eq_true (v.al i hi)];k_is;exact⟨rfl,_,rfl⟩
  ·obtain⟨rfl,u,rfl⟩:=h;k_is;exact q S' j
def E9(V:Vd K){n:Nat}(C:S[n]?=aa (.lst (L.map ac)))(hl:L.length<=20)(o:Kps K L)(q:∀S',Sm S S'->Q .non S'):Ok (evC aj (k+3) 32 [skE K,.ref n] S) Q:=by
 refine aq (d:=cx) (ρ:=[aa (skE K),aa (.ref n),aD]) rfl rfl ?_;dsimp only[cx,fA];k_is;refine⟨rfl,rC V λy j g _=>?_⟩;k_is;generalize Zc y - 1=N at *;refine⟨by rw[af g];rfl,?_⟩;have O:(js K).length<=7:=by rw[Bb];exact V.g7
 refine mG (by rw[Za];lia) (λi c S'=>Sm y S'/\∃u,c=[aa (skE K),aa (.ref n),u]) (λi c S' I=>I.1 _ _ g) (λi d c v hd f=>?_) (λc v h=>?_) ⟨Sm.refl _,_,rfl⟩
 ·obtain⟨b,u,rfl⟩:=f;obtain⟨t,B,rfl⟩:=cT hd;refine⟨_,rfl,?_⟩;k_is;refine⟨rfl,A9 V (b _ _ (j _ _ C)) o.inG (by lia) λJ E=>?_⟩;refine ab sk0 (ab me0 ?_);k_is;have:=o.cr t (Ze B);rw[decide_eq_false (show ¬ K.r < (wts K L t:Int) by lia)];k_is;exact⟨b.trans E,_,rfl⟩
 ·obtain⟨b,u,rfl⟩:=h;k_is;exact q v (j.trans b)
def Kps.high(c:Kps K L){j:Nat}(g:L[j]?=aa z):rB K (L.take j) z.1 z.2=aW:=by
 refine X2.mpr λh=>?_;unfold rB A6 at h;simp only[ae,bAE,decide_eq_true_eq] at h;obtain⟨u,f,b,n⟩:=kg (K:=K) (A:=L.take j) (z:=(z.1,z.2)) (jn K z.1) h.2.1.2;have:=c.hi j z u g h.1 f b
 lia
def Fa(V:Vd K){n:Nat}(h:S[n]?=aa (.lst (L.map ac)))(hl:L.length<=20)(j:Kps K L)(q:∀S',Sm S S'->Q .non S'):Ok (evC aj (k+5) 33 [skE K,.ref n] S) Q:=by
 refine aq (d:=bX) (ρ:=[aa (skE K),aa (.ref n),aD,aD]) rfl rfl ?_;dsimp only[bX,eB];k_is;refine⟨by rw[af h];rfl,?_⟩;refine pV (by rw[Za];lia) (λi c S'=>Sm S S'/\∃u v,c=[aa (skE K),aa (.ref n),u,v]) (λi c S' I=>I.1 _ _ h) (λi d c o hd g=>?_) (λc o f=>?_) ⟨Sm.refl _,_,_,rfl⟩
 ·obtain⟨b,u,v,rfl⟩:=g;obtain⟨z,y,rfl⟩:=cT hd;refine⟨_,aV (by simp) (by simp),?_⟩;k_is;refine⟨rfl,ET (k:=k) V (b _ _ h) y j.inG (by lia) λC B=>?_⟩;rw[j.high y];k_is;exact⟨b.trans B,_,_,rfl⟩
 ·obtain⟨b,u,v,rfl⟩:=f;k_is;exact q o b
def Fb(V:Vd K){n:Nat}(h:S[n]?=aa (.lst (L.map ac)))(hl:L.length<=20)(f:Kps K L)(q:∀S',Sm S S'->Q .non S'):Ok (evC aj (k+6) 23 [skE K,.ref n] S) Q:=by
 refine aq (d:=dG) (ρ:=[aa (skE K),aa (.ref n),aD,aD,aD,aD,aD]) rfl rfl ?_;dsimp only[dG,gP];k_is;refine ab (b9 h) ?_;k_is;rw[Za];refine⟨cA (by lia) (by lia),?_⟩;rw[Zs];refine eD (by lia) (λi g S'=>Sm S S'/\∃u v,g=[aa (skE K),aa (.ref n),u,v,aD,aD,aD]) (λi g O hi o=>?_) (λg O j=>?_) ⟨Sm.refl _,_,_,rfl⟩
 ·obtain⟨b,u,v,rfl⟩:=o;refine⟨_,rfl,?_⟩;k_is;rw[YK];refine⟨rfl,KM (k:=k+2) V (b _ _ h) hl (gEG hi) (λy I=>f.inG y (Yz I)) (f.w i _ (gEG hi)) λJ c=>?_⟩;k_is;refine ab cG ?_;rw[show bG .non=aT from rfl];k_is;exact⟨b.trans c,_,_,rfl⟩
 ·obtain⟨b,u,v,rfl⟩:=j;k_is;refine⟨rfl,KN (k:=k+4) V (b _ _ h) hl f λJ c=>?_⟩;refine ab cG ?_;rw[show bG .non=aT from rfl];k_is;refine⟨rfl,E9 (k:=k+2) V (c _ _ (b _ _ h)) hl f λT B=>?_⟩;refine ab cG ?_;rw[show bG .non=aT from rfl];k_is;refine⟨rfl,Fa (k:=k) V (B _ _ (c _ _ (b _ _ h))) hl f λC E=>?_⟩;refine ab cG ?_;rw[show bG .non=aT from rfl];k_is;exact q C (((b.trans c).trans B).trans E)
def Bq(q:Q (.bl aT) S):Ok (evC aj (k+2) 22 [ac z] S) Q:=by
 refine aq (d:=jC) (ρ:=[aa (ac z)]) rfl rfl ?_;dsimp only[jC,n8];rw[show ac z = .tup [.int z.1,.int z.2] from rfl];k_is;refine⟨rfl,mw (ZI _) (ZI _) ?_⟩;k_is;refine ab (show ixS (.tup [D.int z.1,.int z.2]) (.int 0) S=aa (.int z.1,S) from rfl) ⟨rfl,KI ?_⟩;k_is;exact ab (show ixS (.tup [D.int z.1,.int z.2]) (.int 1) S=aa (.int z.2,S) from rfl) ⟨rfl,KI q⟩
def Fc{n:Nat}(h:S[n]?=aa (.lst (L.map ac)))(hl:L.length<=20)(q:∀S',Sm S S'->Q (.bl aT) S'):Ok (evC aj (k+3) 21 [.ref n] S) Q:=by
 refine aq (d:=fW) (ρ:=[aa (.ref n)]) rfl rfl ?_;dsimp only[fW,jY];k_is;refine ab (mv h) ?_;rw[show(bU .list "list")=aT from rfl];k_is;refine ab (b9 h) ?_;k_is;rw[Za,decide_eq_false (show ¬ (20:Int) < L.length by lia)];k_is;refine⟨by rw[af h];rfl,?_⟩;refine mV L ac (by lia) (aJ h) (λi z S' b sm=>⟨_,rfl,?_⟩) λS' sm=>q S' sm;k_is;exact⟨rfl,Bq ⟨rfl,Sm.refl _⟩⟩
def mJ(b:SkOk K){n:Nat}(g:S[n]?=aa (.lst (L.map ac)))(h:Kps K L)(q:∀S',Sm S S'->Q .non S'):Ok (evC aj (k+10) 19 [skE K,.ref n] S) Q:=by
 have u:L.length<=7:=ZH h.len b.g7;refine aq (d:=dF) (ρ:=[aa (skE K),aa (.ref n)]) rfl rfl ?_;dsimp only[dF,gO];k_is;refine⟨rfl,Bj (k:=k+1) b λy c=>?_⟩;k_is;refine⟨rfl,aq (k:=k+8) (d:=fV) (ρ:=[aa (skE K),aa (.ref n)]) rfl rfl ?_⟩;dsimp only[fV,jX];k_is;refine⟨rfl,Fc (k:=k+5) (c _ _ g) (by lia) λv f=>?_⟩;k_is;refine⟨rfl,Fb (k:=k+2) b.vd (f _ _ (c _ _ g)) (by lia) h λj o=>?_⟩;refine ab mI ?_;rw[show bG .non=aT from rfl];k_is;exact q j ((c.trans f).trans o)
def Br{i:Int}(h:-1000<=i)(b:i < 100000):lim i=aT:=by simp only[lim,bAE,decide_eq_true_eq];lia
def jK(V:Vd K){t:Int}(g:0<=z.1)(n:z.1 < K.G.length)(q:Q (.bl (ae K t z)) S):Ok (evC aj (k+1) 60 [skE K,ac z,.int t] S) Q:=by
 refine aq (d:=gc) (ρ:=[aa (skE K),aa (ac z),aa (.int t)]) rfl rfl ?_;dsimp only[gc,j9];k_is;obtain⟨a,b,c,d,e,f,h,o,_,E,_⟩:=gl7 V g n;refine ab sk2 (ab (show ixS (ac z) (.int 0) S=aa (.int z.1,S) from rfl) (ab (bV g o) (ab (show ixS (au [a,b,c,d,e,f,h]) (.int 1) S=aa (.int b,S) from rfl) ?_)));k_is;have j:ae K t z=(decide (b<=t) && decide (t < z.2 - K.s)):=by unfold ae jn;rw[E]
 rw[j] at q;cases C:decide (b<=t) with
 |false=>rw[C] at q;k_is;exact q
 |true=>
  rw[C] at q;k_is;refine ab (show ixS (ac z) (.int 1) S=aa (.int z.2,S) from rfl) (ab sk0 (ab me1 ?_));k_is;exact q
def Gh{A:List (Int × Int)}{n:Nat}{t:Int}{f:Rho}{C:XA}{i:Nat}{Q:List D->Sto->Prop}(h:S[n]?=aa (.lst (A.map ac)))(hl:A.length<=20)
  (step:∀z S',z ∈ A->Sm S S'->∃b,av (.name i) (ac z) f=aa b/\Ok (C b S') λE g=>E=(if ae K t z=aT then [ac z] else [])/\Sm S' g)
  (q:∀c S',Sm S S'->c.length=wts K A t->Q c S'):Ok (bn (nxS n) (.name i) C f LF 0 S) λE S2=>E.length<=100000/\Q E S2:=by
 refine aF A ac (λz=>if ae K t z=aT then [ac z] else []) (by lia) (λz _=>by split <;> simp) (aJ h) (λi z S' j sm=>step z S' (Ze j) sm) λS' sm=>?_;rw[aX];exact q _ S' sm (by rw[Za];rfl)
def Bs(V:Vd K){L:List (Int × Int)}{n j:Nat}{z:Int × Int}(U:S[n]?=aa (.lst (L.map ac)))(hl:L.length<=20)(hz:L[j]?=aa z)(Z:InG K (L.take j))(j0:0<=jn K z.1)(j1:jn K z.1<=9999)(m1:z.2<=9999)(m0:0<=z.2)
  (q:∀v S',Sm S S'->(∀r:Int,0<=r->(r < v ↔ ∃t,jn K z.1<=t/\t < z.2 - K.s/\r < 1+(wts K (L.take j) t:Int)))->Q (.int v) S'):Ok (evC aj (k+2) 61 [skE K,.ref n,.int j,.int (jn K z.1)] S) Q:=by
 refine aq (d:=io) (ρ:=[aa (skE K),aa (.ref n),aa (.int j),aa (.int (jn K z.1)),aD,aD]) rfl rfl ?_;dsimp only[io,ml];have s0:=V.s0;have s60:=V.s60;k_is;refine ab (aY U (by lia) (fB hz)) (ab (show ixS (ac z) (.int 1) S=aa (.int z.2,S) from rfl) (ab sk0 (ab me1 ?_)));k_is;refine⟨⟨Br (by lia) (by lia),Br (by lia) (by lia)⟩,?_⟩;generalize hJ:jn K z.1=J at *;refine eD (by lia) (λi B S'=>Sm S S'/\∃ (v:Int) (u:Option D),B=[aa (skE K),aa (.ref n),aa (.int j),aa (.int J),aa (.int v),u]/\∀r:Int,0<=r->(r < v ↔ ∃t,J<=t/\t < J+(i:Int)/\r < 1+(wts K (L.take j) t:Int))) (λi B c hi O=>?_) (λB c C=>?_) ⟨Sm.refl _,0,aD,rfl,λr r0=>⟨λh=>by lia,λ⟨t,f,o,_⟩=>by lia⟩⟩
 ·obtain⟨g,v,u,E,I⟩:=O;subst E;refine⟨_,rfl,?_⟩;k_is;refine ab (cE (g _ _ U)) ?_;have s2:Sm c (c++[Ob.lst ((L.map ac).take j)]):=Sm.app _ _;have Y:(c++[Ob.lst ((L.map ac).take j)])[Zc c]?=aa (Ob.lst ((L.take j).map ac)):=by rw[ai,Yu]
  generalize Zc c=N at *;generalize c++[Ob.lst ((L.map ac).take j)]=S2 at *;k_is;refine⟨by rw[af Y];rfl,?_⟩;refine Gh (K:=K) (t:=J+(i:Int)) Y (by rw[ZC];lia) (λy S' X sm=>⟨_,rfl,?_⟩) λT S3 s3 ld=>?_
  ·k_is;refine⟨rfl,jK V (Z y X).1 (Z y X).2 ?_⟩;k_is;cases ae K (J+(i:Int)) y with
   |true=>k_is;exact⟨rfl,Sm.refl _⟩
   |false=>k_is;exact⟨rfl,Sm.refl _⟩
  ·refine ab (show cg aW T S3=aa (.int T.length,S3) from rfl) ?_;k_is;rw[ld];refine⟨(g.trans s2).trans s3,_,_,rfl,λr r0=>?_⟩;have I:=I r r0;have e:(r < if (1+(wts K (L.take j) (J+(i:Int)):Int)) > v then (1+(wts K (L.take j) (J+(i:Int)):Int)) else v) ↔ (r < v\/r < 1+(wts K (L.take j) (J+(i:Int)):Int)):=by split <;> lia
   rw[e,I];constructor
   ·rintro(⟨t,f,o,b⟩ |h)
    ·exact⟨t,f,by lia,b⟩
    ·exact⟨J+(i:Int),by lia,by lia,h⟩
   ·rintro⟨t,f,o,b⟩;by_cases ht:t=J+(i:Int)
    ·exact .inr (by rw[<-ht];exact b)
    ·exact .inl ⟨t,f,by lia,b⟩
 ·obtain⟨g,v,u,E,I⟩:=C;subst E;k_is;refine q v c g λr r0=>(I r r0).trans ⟨λ⟨t,f,o,b⟩=>⟨t,f,?_,b⟩,λ⟨t,f,o,b⟩=>⟨t,f,?_,b⟩⟩
  ·by_cases hh:0<=z.2 - K.s - J
   ·lia
   ·lia
  ·lia
def Bt{m:Int}:((K.H.filter λz=>decide (z.1<=m) && decide (m < z.2)).map λz=>D.int z.1).isEmpty = !rH K.H m:=by
 unfold rH;generalize K.H=H
 induction H with
 |nil=>rfl
 |cons a H I=>
  rw[Ye,YB];cases decide (a.1<=m) && decide (m < a.2) with
  |true=>rfl
  |false=>exact I
def nt{P:Prop}(h:bG (.tup b)=aT):P:=absurd (show aW=aT from h) Zf
def Fd(V:Vd K){n j:Nat}(Y:S[n]?=aa (.lst (L.map ac)))(hl:L.length<=20)(hz:L[j]?=aa z)(hL:InG K (L.take j))(q:∀d S',Sm S S'->(bG d=aT->Wd K (L.take j) j z)->Q d S'):Ok (evC aj (k+1) 62 [skE K,.ref n,.int j] S) Q:=by
 refine aq (d:=cz) (ρ:=[aa (skE K),aa (.ref n),aa (.int j),aD,aD,aD]) rfl rfl ?_;dsimp only[cz,bj];have no:∀ (ds:List D) S',Sm S S'->Q (.tup ds) S':=λds S' s'=>q _ S' s' nt;k_is;refine ab (aY Y (by lia) (fB hz)) ?_;rw[show ac z = .tup [.int z.1,.int z.2] from rfl];k_is;cases c1:decide (0<=z.1) with
 |false=>k_is;exact no _ S (Sm.refl _)
 |true=>
 k_is;refine ab sk2 (ab bp ?_);k_is;cases c2:decide (z.1 < (K.G.length:Int)) with
 |false=>k_is;exact no _ S (Sm.refl _)
 |true=>
 have Z:=of_decide_eq_true c1;have z1:=of_decide_eq_true c2;obtain⟨B,b,c,d,e,f,h,eg,e0,e1,e2,e3,e6,k0,k1,c0⟩:=gl7 V Z z1;k_is;refine ab (cE Y) ?_;have s1:Sm S (S++[Ob.lst ((L.map ac).take j)]):=Sm.app _ _;have a1:(S++[Ob.lst ((L.map ac).take j)])[Zc S]?=aa (Ob.lst ((L.take j).map ac)):=by rw[ai,Yu]
 generalize Zc S=N at *;generalize S++[Ob.lst ((L.map ac).take j)]=S1 at *;k_is;refine⟨by rw[af a1];rfl,?_⟩;have lt:(L.take j).length<=20:=by rw[ZC];lia
 refine aF (L.take j) ac (λz=>[.int z.1]) (by lia) (λ_ _=>Zd _) (aJ a1) (λi y S' hy sm=>⟨_,rfl,?_⟩) λT s2=>?_
 ·k_is;exact ab (show ixS (ac y) (.int 0) S'=aa (.int y.1,S') from rfl) ⟨rfl,Sm.refl _⟩
 rw[aK,fh];k_is;have s3:Sm T (T++[Ob.lst (((L.take j).map (·.1)).map D.int)]):=Sm.app _ _;refine ab (show az .isin (.int z.1) (.ref (Zc T)) (T++[Ob.lst (((L.take j).map (·.1)).map D.int)])=aa (.bl (aW != decide (z.1 ∈ (L.take j).map (·.1))),_) from mH aW ai z.1) ?_;have O:=(s1.trans s2).trans s3;generalize T++[Ob.lst (((L.take j).map (·.1)).map D.int)]=S3 at *;k_is;cases c3:decide (z.1 ∈ (L.take j).map (·.1)) with
 |true=>k_is;exact no _ S3 O
 |false=>
 k_is;refine ab sk3 (ab bp ?_);k_is
 have u:(∀f,K.F[j]?=aa f->f=z.1)->rW (wSs (evC aj k) (eV aj) 56 (bj.drop 4)) [aa (skE K),aa (.ref n),aa (.int j),aa (.int z.1),aa (.int z.2),aD] S3 (out Q):=λE=>by
  dsimp only[bj,Yd];k_is;have g2:∀S,ixS (au [B,b,c,d,e,f,h]) (.int 2) S=aa (.int c,S):=λ_=>rfl;have g3:∀S,ixS (au [B,b,c,d,e,f,h]) (.int 3) S=aa (.int d,S):=λ_=>rfl;have g0:∀S,ixS (au [B,b,c,d,e,f,h]) (.int 0) S=aa (.int B,S):=λ_=>rfl;refine ab sk2 (ab (bV Z eg) (ab (g2 _) ?_));k_is;cases U:decide (z.2 < c) with
  |true=>k_is;exact no _ S3 O
  |false=>
  k_is;refine ab sk2 (ab (bV Z eg) (ab (g3 _) ?_));k_is;cases c5:decide (d < z.2) with
  |true=>k_is;exact no _ S3 O
  |false=>
  k_is;refine ab sk0 (ab me3 ?_);k_is;refine aF K.H ac (λy=>if (decide (y.1<=z.2) && decide (z.2 < y.2))=aT then [.int y.1] else []) (by have:=V.h4;lia) (λy _=>by split <;> simp) bZ (λi y S' hy sm=>⟨_,show av (.tup [.name 6,.name 7]) (.tup [.int y.1,.int y.2]) _=_ from aV (by simp) (by simp),?_⟩) λS4 s4=>?_
  ·k_is;cases decide (y.1<=z.2) with
   |false=>k_is;exact⟨rfl,Sm.refl _⟩
   |true=>
    k_is;cases decide (z.2 < y.2) with
    |true=>k_is;exact⟨rfl,Sm.refl _⟩
    |false=>k_is;exact⟨rfl,Sm.refl _⟩
  rw[aX];k_is;refine ab gC ?_;rw[Bt,Bool.not_not];have s5:Sm S4 (S4++[Ob.lst ((K.H.filter λy=>decide (y.1<=z.2) && decide (z.2 < y.2)).map λy=>D.int y.1)]++[Ob.lst []]):=(Sm.app _ _).trans (Sm.app _ _);generalize S4++[Ob.lst ((K.H.filter λy=>decide (y.1<=z.2) && decide (z.2 < y.2)).map λy=>D.int y.1)]++[Ob.lst []]=S5 at *;have I:=(O.trans s4).trans s5;k_is;cases c6:rH K.H z.2 with
  |true=>k_is;exact no _ S5 I
  |false=>
  k_is;refine ab sk1 ?_;k_is
  have o:rW (wSs (evC aj k) (eV aj) 51 (bj.drop 9)) [aa (skE K),aa (.ref n),aa (.int j),aa (.int z.1),aa (.int z.2),aa (ahE (eI K (L.take j)))] S5 (out Q):=by
   dsimp only[bj,Yd];k_is;have J:ER K (eI K (L.take j)) B<=z.2->Wd K (L.take j) j z:=λg=>⟨Z,z1,of_decide_eq_false c3,E,by rw[e2];have:=of_decide_eq_false U;lia,by rw[e3];have:=of_decide_eq_false c5;lia,c6,by rw[e0];exact g⟩;cases hA:eI K (L.take j) with
   |none=>
    refine ab (show az .isnot (ahE aD) .non S5=aa (.bl aW,S5) from rfl) ?_;k_is;exact q _ S5 I λ_=>J (by rw[hA];show 0<=z.2;have:=of_decide_eq_false U;lia)
   |some y=>
    obtain⟨y0,y1⟩:=i7 V hL y hA;refine ab (show az .isnot (ahE (aa y)) .non S5=aa (.bl aT,S5) from rfl) ?_;k_is;refine ab (show ixS (ahE (aa y)) (.int 1) S5=aa (.int y.2,S5) from rfl) ?_;refine ab sk0 (ab me2 (ab (show ixS (ahE (aa y)) (.int 0) S5=aa (.int y.1,S5) from rfl) ?_));obtain⟨r,h1,h2⟩:=jJ (S:=S5) V y0 y1 k0 k1;refine ab h1 (ab sk2 (ab (bV Z eg) (ab (g0 _) (ab h2 ?_))));k_is;cases c7:decide (z.2 < y.2+gp K y.1 B) with
    |true=>k_is;exact no _ S5 I
    |false=>k_is;exact q _ S5 I λ_=>J (by rw[hA];show y.2+gp K y.1 B<=z.2;have:=of_decide_eq_false c7;lia)
  dsimp only[bj,Yd] at o;cases j with
  |zero=>
   rw[decide_eq_false (show ¬ (0:Int) < ((0:Nat):Int) by decide)];k_is;exact o
  |succ i=>
   rw[decide_eq_true (show(0:Int) < ((i+1:Nat):Int) by lia)];k_is;have hi:i < L.length:=by have:=(Zb.mp hz).1;lia
   have hy:L[i]?=aa L[i]:=gEG hi;have ht:L.take (i+1)=L.take i++[L[i]]:=ZQ hi;have v:=hL L[i] (by rw[ht];exact ZG _ (Zu.mpr rfl));obtain⟨C,b',c',d',e',f',h',X,e0',_⟩:=gl7 V v.1 v.2
   have ix:∀S',Sm S S'->ixS (.ref n) (.int (((i+1:Nat):Int) - 1)) S'=aa (ac L[i],S'):=λS' sm=>by
    rw[show((i+1:Nat):Int) - 1=(i:Int) by lia];exact aY (sm _ _ Y) (by lia) (fB hy)
   refine ab sk2 (ab (ix S5 I) (ab (show ixS (ac L[i]) (.int 0) S5=aa (.int L[i].1,S5) from rfl) (ab (bV v.1 X) (ab (show ixS (au [C,b',c',d',e',f',h']) (.int 0) S5=aa (.int C,S5) from rfl) ?_))));refine ab (ix S5 I) (ab (show ixS (ac L[i]) (.int 1) S5=aa (.int L[i].2,S5) from rfl) ?_);k_is;have el:eI K (L.take (i+1))=aa (C,L[i].2):=by rw[ht,fg,e0']
   rw[el] at o;exact o
 dsimp only[bj,Yd] at u;by_cases hj:j < K.F.length
 ·rw[decide_eq_true (show(j:Int) < K.F.length by lia)];k_is;refine ab sk3 (ab (mB (ds:=K.F.map D.int) (i:=(j:Int)) (d:=.int K.F[j]) (by lia) (by rw[Zs,Zl,gEG hj];rfl)) ?_);k_is;cases U:decide (K.F[j]=z.1) with
  |false=>k_is;exact no _ S3 O
  |true=>
   k_is;exact u λf E=>by rw[gEG hj] at E;cases E;exact of_decide_eq_true U
 ·rw[decide_eq_false (show ¬ (j:Int) < K.F.length by lia)];k_is;exact u λf E=>by rw[ZB (by lia)] at E;cases E
def Gi(b:SkOk K){g:Int}(g0:0<=g)(g1:g < K.G.length):0<=jn K g/\jn K g<=9999/\gi K.G g 3<=9999/\0<=gi K.G g 2:=by
 have hi:g.toNat < K.G.length:=by lia
 have s0:=b.me.s0;obtain⟨q,jo,fi,la,j,o,n,E,hb⟩:=b.gb K.G[g.toNat] (ZT hi);have c:jn K g=jo:=by unfold jn gi;rw[gEG hi,E];rfl
 have f:gi K.G g 2=fi:=by unfold gi;rw[gEG hi,E];rfl
 have h:gi K.G g 3=la:=by unfold gi;rw[gEG hi,E];rfl
 rw[c,f,h];lia
def pW{n:Nat}(h:S[n]?=aa (.lst (X.map D.int)))(b:X ≠ []):ax kn (.ref n) S=aa (.int (eO X),S):=by
 cases X with
 |nil=>exact absurd rfl b
 |cons x X=>simp only[ax,ao,af h,Zv,kn,kJ]
def oC(sk:SkOk K){n:Nat}(U:S[n]?=aa (.lst (L.map ac)))(hl:L.length<=20)(q:∀d S',Sm S S'->(bG d=aT->Kps K L)->Q d S'):Ok (evC aj (k+3) 63 [skE K,.ref n] S) Q:=by
 refine aq (d:=gf) (ρ:=[aa (skE K),aa (.ref n),aD,aD,aD,aD,aD,aD,aD]) rfl rfl ?_;dsimp only[gf,kc];have V:=sk.vd;have g7:=sk.g7;have no:∀ (ds:List D) S',Sm S S'->Q (.tup ds) S':=λds S' s'=>q _ S' s' nt;k_is;refine ab (b9 U) ?_;k_is;rw[Za];refine⟨cA (by lia) (by lia),?_⟩;rw[Zs];refine eD (by lia) (λi C S'=>Sm S S'/\(∃u v,C=[aa (skE K),aa (.ref n),u,v,aD,aD,aD,aD,aD])/\∀ (j:Nat) z,j < i->L[j]?=aa z->Wd K (L.take j) j z) (λi C S1 hi hq1=>?_) (λC S1 hq2=>?_) ⟨Sm.refl _,⟨_,_,rfl⟩,λj z hj=>absurd hj (Z7 j)⟩
 ·obtain⟨s1,⟨u,v,E⟩,ih⟩:=hq1;subst E;have B:L[i]?=aa L[i]:=gEG hi;refine⟨_,rfl,?_⟩;k_is;rw[YK];refine⟨rfl,Fd (k:=k+1) V (s1 _ _ U) hl B (Gf ih) λd S2 s2 hw=>?_⟩;refine ab cG ?_;k_is;cases c:bG d with
  |false=>
   k_is;exact q d S2 (s1.trans s2) λh=>absurd (c.symm.trans h) Zf
  |true=>
   k_is;refine⟨s1.trans s2,⟨_,_,rfl⟩,λj z hj hzj=>?_⟩;by_cases e:j=i
   ·subst e;rw[B] at hzj;cases hzj;exact hw c
   ·exact ih j z (by lia) hzj
 ·obtain⟨s1,⟨u,v,E⟩,ih⟩:=hq2;subst E;have hL:InG K L:=by have:=Gf ih;rw[Yx] at this;exact this
  have hn1:=s1 _ _ U;k_is;refine⟨by rw[af hn1];rfl,?_⟩;refine aF L ac (λz=>[.int z.1]) (by lia) (λ_ _=>Zd _) (aJ hn1) (λi y S' O sm=>⟨_,rfl,?_⟩) λS2 s2=>?_
  ·k_is;exact ab (show ixS (ac y) (.int 0) S'=aa (.int y.1,S') from rfl) ⟨rfl,Sm.refl _⟩
  rw[aK,fh];k_is;have s3:Sm S2 (S2++[Ob.lst ((L.map (·.1)).map D.int)]):=Sm.app _ _;have a3:(S2++[Ob.lst ((L.map (·.1)).map D.int)])[Zc S2]?=aa (.lst ((L.map (·.1)).map D.int)):=ai;have sA:=(s1.trans s2).trans s3;generalize S2++[Ob.lst ((L.map (·.1)).map D.int)]=S3 at *;generalize Zc S2=N at *;refine ab sk2 (ab bp ?_);k_is;refine⟨cA (by lia) (by lia),?_⟩;rw[Zs];refine aF (Zh K.G.length) (λ(j:Nat)=>D.int (0+(j:Int))) (λ(j:Nat)=>if (!decide ((j:Int) ∈ L.map (·.1)))=aT then [D.int (j:Int)] else []) (by rw[ZK];lia) (λ_ _=>by split <;> simp) Bd (λi j S' hj sm=>⟨_,rfl,?_⟩) λS4 s4=>?_
  ·k_is;rw[YK];refine ab (show az .notin (.int (j:Int)) (.ref N) S'=aa (.bl (aT != decide ((j:Int) ∈ L.map (·.1))),S') from mH aT (sm _ _ a3) (j:Int)) ?_;k_is;cases c:decide ((j:Int) ∈ L.map (·.1)) with
   |true=>k_is;exact⟨rfl,Sm.refl _⟩
   |false=>k_is;exact⟨rfl,Sm.refl _⟩
  rw[aX];k_is
  have hlac:(Zh K.G.length).filter (λ(j:Nat)=>!decide ((j:Int) ∈ L.map (·.1)))=[]->∀g:Nat,g < K.G.length->(g:Int) ∈ L.map (·.1):=λe g Z=>by
   have:=ZR.mp e g (Z6.mpr Z)
   simpa using this
  generalize (Zh K.G.length).filter (λ(j:Nat)=>!decide ((j:Int) ∈ L.map (·.1)))=o at *;refine ab gC ?_;have s5:Sm S4 (S4++[Ob.lst (o.map λ(j:Nat)=>D.int (j:Int))]++[Ob.lst []]):=(Sm.app _ _).trans (Sm.app _ _);have a5:(S4++[Ob.lst (o.map λ(j:Nat)=>D.int (j:Int))]++[Ob.lst []])[Zc S4]?=aa (.lst (o.map λ(j:Nat)=>D.int (j:Int))):=Sm.app _ _ _ _ ai;generalize S4++[Ob.lst (o.map λ(j:Nat)=>D.int (j:Int))]++[Ob.lst []]=S5 at *;have sB:=(sA.trans s4).trans s5;k_is;cases o with
  |cons j o=>
   rw[show(!((j::o).map λ(j:Nat)=>D.int (j:Int)).isEmpty)=aT from rfl];k_is;refine ab (aY (i:=0) a5 (by lia) rfl) ?_;k_is;exact no _ S5 sB
  |nil=>
  rw[show(!(([]:List Nat).map λ(j:Nat)=>D.int (j:Int)).isEmpty)=aW from rfl];k_is;have s6:Sm S5 (S5++[Ob.lst [D.int 0]]):=Sm.app _ _;have a6:(S5++[Ob.lst [D.int 0]])[Zc S5]?=aa (.lst [D.int 0]):=ai;generalize S5++[Ob.lst [D.int 0]]=S6 at *;generalize Zc S5=N6 at *;refine ab sk2 ?_;k_is;refine aF K.G au (λg=>[.int (g.getD 1 0+1)]) (by lia) (λ_ _=>Zd _) bZ (λi g S' Z sm=>⟨_,rfl,?_⟩) λS7 s7=>?_
  ·obtain⟨l7,_⟩:=V.gl g (Ze Z)
   match g,l7 with
   |[a,b,c,d,e,f,h],_=>
    k_is;refine ab (show ixS (au [a,b,c,d,e,f,h]) (.int 1) S'=aa (.int b,S') from rfl) ?_;k_is;exact⟨rfl,Sm.refl _⟩
  rw[aK];have s8:Sm S7 (S7++[Ob.lst (K.G.map λg=>D.int (g.getD 1 0+1))]):=Sm.app _ _;refine ab (dm (s8 _ _ (s7 _ _ a6)) ai (by rw[Za,Zy];lia)) ?_;k_is;have e9:([D.int 0]++K.G.map λg=>D.int (g.getD 1 0+1))=(0::K.G.map λg=>g.getD 1 0+1).map D.int:=by rw[Zx,ZO];rfl
  rw[e9];have s9:Sm (S7++[Ob.lst (K.G.map λg=>D.int (g.getD 1 0+1))]) (S7++[Ob.lst (K.G.map λg=>D.int (g.getD 1 0+1))]++[Ob.lst ((0::K.G.map λg=>g.getD 1 0+1).map D.int)]):=Sm.app _ _;refine ab (pW ai (by simp)) ?_;have sC:=(((sB.trans s6).trans s7).trans s8).trans s9;generalize S7++[Ob.lst (K.G.map λg=>D.int (g.getD 1 0+1))]++[Ob.lst ((0::K.G.map λg=>g.getD 1 0+1).map D.int)]=S9 at *
  have jb:∀x ∈ js K,0<=x/\x < eO (0::K.G.map λg=>g.getD 1 0+1):=λx hx=>by
   have hx':x ∈ K.G.map λg=>g.getD 1 0:=(bW _).mem_iff.mp hx;obtain⟨g,Z,rfl⟩:=ZA.mp hx';obtain⟨kd,jo,fi,la,du,we,ri,rfl,hb⟩:=sk.gb g Z;have:=pS (Zm 0 (ZA.mpr ⟨_,Z,rfl⟩):jo+1 ∈ 0::K.G.map λg=>g.getD 1 0+1);show 0<=jo/\jo < _
   lia
  have tb:0<=eO (0::K.G.map λg=>g.getD 1 0+1)/\eO (0::K.G.map λg=>g.getD 1 0+1)<=10000:=by
   refine⟨pS Zj,?_⟩;rcases Zk.mp (pR (ns:=0::K.G.map λg=>g.getD 1 0+1) (by simp)) with h |h
   ·lia
   ·obtain⟨g,Z,e⟩:=ZA.mp h;obtain⟨kd,jo,fi,la,du,we,ri,rfl,hb⟩:=sk.gb g Z;have e:jo+1=_:=e;have s0:=sk.me.s0
    lia
  generalize eO (0::K.G.map λg=>g.getD 1 0+1)=T at *;k_is;refine⟨Br (by lia) (by lia),?_⟩;refine eD (by lia) (λi C S'=>Sm S S'/\(∃u2 u3 X Y u6,C=[aa (skE K),aa (.ref n),u2,u3,X,Y,u6,aD,aD])/\∀t:Nat,t < i->(wts K L t:Int)<=K.r) (λi C Sa hi hq3=>?_) (λC Sa hq4=>?_) ⟨sC,⟨_,_,_,_,_,rfl⟩,λt ht=>absurd ht (Z7 t)⟩
  ·obtain⟨sa,⟨u2,u3,X,Y,u6,E⟩,iw⟩:=hq3;subst E;refine⟨_,rfl,?_⟩;k_is;refine⟨by rw[af (sa _ _ U)];rfl,?_⟩;refine Gh (K:=K) (t:=0+(i:Int)) (sa _ _ U) hl (λy S' O sm=>⟨_,rfl,?_⟩) λds I J ld=>?_
   ·k_is;refine⟨rfl,jK V (hL y O).1 (hL y O).2 ?_⟩;k_is;cases ae K (0+(i:Int)) y with
    |true=>k_is;exact⟨rfl,Sm.refl _⟩
    |false=>k_is;exact⟨rfl,Sm.refl _⟩
   ·refine ab (show cg aW ds I=aa (.int ds.length,I) from rfl) (ab sk0 (ab me0 ?_));k_is;rw[ld,YK];cases c:decide (K.r < (wts K L (i:Int):Int)) with
    |true=>
     k_is;exact no _ I (sa.trans J)
    |false=>
     k_is;refine⟨sa.trans J,⟨_,_,_,_,_,rfl⟩,λt ht=>?_⟩;by_cases e:t=i
     ·rw[e];have:=of_decide_eq_false c;lia
     ·exact iw t (by lia)
  ·obtain⟨sa,⟨u2,u3,X,Y,u6,E⟩,iw⟩:=hq4;subst E
   have cr:∀u ∈ js K,(wts K L u:Int)<=K.r:=λt ht=>by
    have:=jb t ht;have:=iw t.toNat (by lia)
    rwa [show((t.toNat:Nat):Int)=t by lia] at this
   k_is;refine⟨by rw[af (sa _ _ U)];rfl,?_⟩;refine pV (by rw[Za];lia) (λi C S'=>Sm S S'/\(∃u2 u3 X Y u6 u7 u8,C=[aa (skE K),aa (.ref n),u2,u3,X,Y,u6,u7,u8])/\∀ (j:Nat) z (t:Int),j < i->L[j]?=aa z->0 < gi K.G z.1 6->jn K z.1<=t->t < z.2 - K.s->1+(wts K (L.take j) t:Int)<=gi K.G z.1 6) (λi C S' iv=>iv.1 _ _ U) (λi d C I hd hq5=>?_) (λC I hq6=>?_) ⟨sa,⟨_,_,_,_,_,_,_,rfl⟩,λj z t hj=>absurd hj (Z7 j)⟩
   ·obtain⟨J,⟨u2,u3,X,Y,u6,u7,u8,E⟩,ihh⟩:=hq5;subst E;obtain⟨z,B,rfl⟩:=cT hd;have wz:=ih i z (Zb.mp B).1 B;have z0:=wz.g0;have z1:=wz.g1;obtain⟨a,b,c,d,e,f,h,eg,e0,e1,e2,e3,e6,k0,k1,c0⟩:=gl7 V z0 z1;obtain⟨b0,b1,b2,b3⟩:=Gi sk z0 z1;have lo:=wz.m0;have hi:=wz.m1;refine⟨_,aV (by simp) (by simp),?_⟩;k_is;refine ab sk2 (ab (show ixS (ac z) (.int 0) I=aa (.int z.1,I) from rfl) (ab (bV z0 eg) ?_));k_is;have r6:∀S,ixS (au [a,b,c,d,e,f,h]) (.int 6) S=aa (.int h,S):=λ_=>rfl;have r1:∀S,ixS (au [a,b,c,d,e,f,h]) (.int 1) S=aa (.int b,S):=λ_=>rfl;refine ab (r6 _) ?_;k_is
    have next:∀ (w:Option D) Sd,Sm S Sd->(∀t:Int,0 < gi K.G z.1 6->jn K z.1<=t->t < z.2 - K.s->1+(wts K (L.take i) t:Int)<=gi K.G z.1 6)->Sm S Sd/\(∃w2 w3 w4 w5 w6 w7 w8,[aa (skE K),aa (D.ref n),aa (D.int i),u3,X,Y,u6,aa (ac z),w]=[aa (skE K),aa (.ref n),w2,w3,w4,w5,w6,w7,w8])/\∀ (j:Nat) z (t:Int),j < i+1->L[j]?=aa z->0 < gi K.G z.1 6->jn K z.1<=t->t < z.2 - K.s->1+(wts K (L.take j) t:Int)<=gi K.G z.1 6:=λw Sd sd hh=>⟨sd,⟨_,_,_,_,_,_,_,rfl⟩,λj y t hj O=>by
     by_cases e:j=i
     ·subst e;rw[B] at O;cases O;exact hh t
     ·exact ihh j y t (by lia) O⟩
    cases c1:decide (0 < h) with
    |false=>
     k_is;exact next _ I J λt h0=>by rw[e6] at h0;exact absurd h0 (of_decide_eq_false c1)
    |true=>
     k_is;refine ab (r1 _) ?_;rw[<-(show jn K z.1=b from e1)];refine⟨rfl,Bs (k:=k) V (J _ _ U) hl B (λy O=>hL y (Yz O)) b0 b1 (by lia) (by lia) λv Sd sd hv=>?_⟩;refine ab (r6 _) ?_;k_is;cases c2:decide (h < v) with
     |true=>
      k_is;refine ab (show ixS (ac z) (.int 0) Sd=aa (.int z.1,Sd) from rfl) ?_;k_is;exact no _ Sd (J.trans sd)
     |false=>
      k_is;exact next _ Sd (J.trans sd) λt h0 h1 h2=>Xf.mp λh3=>absurd ((hv h (by have:=of_decide_eq_true c1;lia)).mpr ⟨t,h1,h2,by rw[e6] at h3;exact h3⟩) (of_decide_eq_false c2)
   ·obtain⟨J,⟨u2,u3,X,Y,u6,u7,u8,E⟩,ihh⟩:=hq6;subst E;k_is;exact q _ I J λ_=>⟨λj z B=>ih j z (Zb.mp B).1 B,hlac rfl,cr,λj z t B=>ihh j z t (by rw[Za];exact(Zb.mp B).1) B⟩
end Lw
namespace Lw
open PySem Ev Sn L2
variable {p:Nat} {S S':Sto} {k:Nat} {Q:D->Sto->Prop} {K:Sky}
abbrev InR(K:Sky)(os:List Int):Prop:=∀g ∈ os,0<=g/\g < K.G.length
def xI(h:Pot p S)(b:SkOk K)(z:K.G.length<=7)(q:∀os S',Dr p S S'->InR K os->os.length<=14->Q (.tup (os.map D.int)) S'):Ok (evC aj (k+3) 57 [.ref p,skE K] S) Q:=by
 refine aq (d:=ga) (ρ:=[aa (.ref p),aa (skE K)]) rfl rfl ?_;dsimp only[ga,j8];k_is;refine ab sk3 (ab sk2 (ab bp ?_));k_is;refine⟨cA (by lia) (by lia),?_⟩;rw[Zs];refine aF (Zh K.G.length) (λ(j:Nat)=>D.int (0+(j:Int))) (λ(j:Nat)=>if (!decide ((j:Int) ∈ K.F))=aT then [D.int (j:Int)] else []) (by rw[ZK];lia) (λ_ _=>by split <;> simp) Bd (λi j S' o sm=>⟨_,rfl,?_⟩) λC n=>?_
 ·k_is;refine ab sk3 ?_;rw[YK];refine ab (show az .notin (.int (j:Int)) (.tup (K.F.map D.int)) S'=aa (.bl (aT != decide ((j:Int) ∈ K.F)),S') from pH aT K.F j S') ?_;k_is;cases c:decide ((j:Int) ∈ K.F) with
  |true=>k_is;exact⟨rfl,Sm.refl _⟩
  |false=>k_is;exact⟨rfl,Sm.refl _⟩
 ·rw[aX];have E:(((Zh K.G.length).filter λ(j:Nat)=>!decide ((j:Int) ∈ K.F)).map λ(j:Nat)=>D.int (j:Int))=(((Zh K.G.length).filter λ(j:Nat)=>!decide ((j:Int) ∈ K.F)).map λ(j:Nat)=>(j:Int)).map D.int:=by rw[ZO];rfl
  have B:∀x ∈ ((Zh K.G.length).filter λ(j:Nat)=>!decide ((j:Int) ∈ K.F)).map λ(j:Nat)=>(j:Int),0<=x/\x < K.G.length:=λx v=>by
   obtain⟨j,o,rfl⟩:=ZA.mp v;have:=Z6.mp (ZP.mp o).1
   lia
  have lo:(((Zh K.G.length).filter λ(j:Nat)=>!decide ((j:Int) ∈ K.F)).map λ(j:Nat)=>(j:Int)).length<=7:=by rw[Za];exact ZH (ZV _ _) (by rw[ZK];exact z)
  rw[E];generalize (((Zh K.G.length).filter λ(j:Nat)=>!decide ((j:Int) ∈ K.F)).map λ(j:Nat)=>(j:Int))=ot at *;k_is;have L:=(Dr.sm h n).pot.lt;have u:Dr p S (C++[Ob.lst (ot.map D.int)]):=Dr.sm h (n.trans (Sm.app _ _));refine⟨rfl,ow (k:=k) u.pot ai (by lia) (by lia) λl O y f=>?_⟩;k_is;refine ab (i8 ai) ?_;k_is;have J:=Dw.cb K.G.length K.F b.nd b.bd;have I:l.length<=7:=by rw[f.length_eq];exact lo
  refine⟨by rw[Za,Za];lia,?_⟩;rw[<-Zq];refine q _ _ ((u.trans y).thenSm (Sm.app _ _)) (λg hg=>?_) (by rw[Zi];lia);rcases ZM.mp hg with hg |hg
  ·exact b.bd g hg
  ·exact B g (f.mem_iff.mp hg)
def Bu{H:List (Int × Int)}{m:Int}(hl:H.length<=4)(q:∀b,Q (.int b) S):Ok (evC aj (k+1) 58 [.tup (H.map ac),.int m] S) Q:=by
 refine aq (d:=im) (ρ:=[aa (.tup (H.map ac)),aa (.int m),aD,aD,aD,aD]) rfl rfl ?_;dsimp only[im,mj];k_is;refine ab bp ?_;k_is;refine⟨cA (by lia) (by lia),?_⟩;refine eD (by lia) (λi c S'=>S'=S/\∃ (b:Int) (u v w:Option D),c=[aa (.tup (H.map ac)),aa (.int m),aa (.int b),u,v,w]) (λi c y hi n=>?_) (λc y g=>?_) ⟨rfl,m,aD,aD,aD,rfl⟩
 ·obtain⟨e,b,u,v,w,E⟩:=n;subst e E;refine⟨_,rfl,?_⟩;k_is;refine NP (by rw[Za];lia) (λI c S'=>S'=y/\∃ (b:Int) (u v w:Option D),c=[aa (.tup (H.map ac)),aa (.int m),aa (.int b),u,v,w]) (λI d c S' hd f=>?_) (λc S' j=>by obtain⟨e,b,u,v,w,E⟩:=j;exact⟨e,b,u,v,w,E⟩) ⟨rfl,_,_,_,_,rfl⟩;obtain⟨e,b,u,v,w,E⟩:=f;subst e E;obtain⟨o,B,rfl⟩:=cT hd;refine⟨_,show av (.tup [.name 4,.name 5]) (.tup [.int o.1,.int o.2]) _=_ from aV (by simp) (by simp),?_⟩;k_is;refine A7 (λC z=>?_) λh=>?_
  ·k_is;exact⟨rfl,_,_,_,_,rfl⟩
  ·k_is;exact⟨rfl,_,_,_,_,rfl⟩
 ·obtain⟨e,b,u,v,w,E⟩:=g;subst e E;k_is;exact q b
def run_ok(V:Vd K){gv fx o:D}{os:List Int}(hv:o = .tup (os.map D.int)\/∃m,o = .ref m/\S[m]?=aa (.lst (os.map D.int)))(ho:InR K os)(lo:os.length<=20)
  (hg:∀S',Sm S S'->∀g:Int,0<=g->g < K.G.length->∃a b c d e f h:Int,0<=a/\a < K.M.length/\ixS gv (.int g) S'=aa (au [a,b,c,d,e,f,h],S'))
  (q:∀ (L:List (Int × Int)) N S',Sm S S'->S'[N]?=aa (.lst (L.map ac))->S.length<=N->L.map (·.1)=os->Q (.ref N) S'):Ok (evC aj (k+2) 59 [.tup [meE K,ahE K.ah,gv,fx],o] S) Q:=by
 refine aq (d:=jH) (ρ:=[aa (.tup [meE K,ahE K.ah,gv,fx]),aa o,aD,aD,aD,aD]) rfl rfl ?_;dsimp only[jH,oi];k_is;have t0:∀S,ixS (.tup [meE K,ahE K.ah,gv,fx]) (.int 0) S=aa (meE K,S):=λ_=>rfl;have t1:∀S,ixS (.tup [meE K,ahE K.ah,gv,fx]) (.int 1) S=aa (ahE K.ah,S):=λ_=>rfl;have t2:∀S,ixS (.tup [meE K,ahE K.ah,gv,fx]) (.int 2) S=aa (gv,S):=λ_=>rfl;refine ab (t1 _) ?_;k_is
 have B:∀ (nx:Nxt) (T:Sto),Sm S T->T[Zc S]?=aa (.lst (([]:List (Int × Int)).map ac))->(∀i S',Sm S S'->nx i S'=aa ((os[i]?).map D.int))->OkS (cU nx (.name 4) (eU (evC aj (k+1)) (eV aj) 58 [.asg (.name 5) (.ix (.ix (.ix (.var 0) (.int 2)) (.var 4)) (.int 2)),.ifs (.cmp .isnot (.var 3) .non) [.asg (.name 5) (.mx (.var 5) (.bin .add (.ix (.var 3) (.int 1)) (.ix (.ix (.ix (.ix (.var 0) (.int 0)) (.int 2)) (.ix (.var 3) (.int 0))) (.ix (.ix (.ix (.var 0) (.int 2)) (.var 4)) (.int 0)))))] [],.asg (.name 5) (.call 58 [(.ix (.ix (.var 0) (.int 0)) (.int 3)),(.var 5)]),.ex (.app (.var 2) (.tup [(.var 4),(.var 5)])),.asg (.name 3) (.tup [(.ix (.ix (.ix (.var 0) (.int 2)) (.var 4)) (.int 0)),(.var 5)])]) LF 0 [aa (.tup [meE K,ahE K.ah,gv,fx]),aa o,aa (.ref (Zc S)),aa (ahE K.ah),aD,aD] T)
   λI O S'=>match I with
    |.nx=>∃ (L:List (Int × Int)) (a:Option (Int × Int)) (u v:Option D),O=[aa (.tup [meE K,ahE K.ah,gv,fx]),aa o,aa (.ref (Zc S)),aa (ahE a),u,v]/\Sm S S'/\S'[Zc S]?=aa (.lst (L.map ac))/\L.map (·.1)=os
    |_=>False:=λnx T X Z Y=>by
  refine i4 os.length (λi O S'=>∃ (L:List (Int × Int)) (a:Option (Int × Int)) (u v:Option D),O=[aa (.tup [meE K,ahE K.ah,gv,fx]),aa o,aa (.ref (Zc S)),aa (ahE a),u,v]/\Sm S S'/\S'[Zc S]?=aa (.lst (L.map ac))/\L.map (·.1)=os.take i/\∀z,a=aa z->0<=z.1/\z.1 < K.M.length) (by unfold LF;lia) (λi O j hi hq1=>?_) (λO j hq2=>by obtain⟨L,a,u,v,er,n,y,E,ha⟩:=hq2;exact⟨by rw[Y _ j n,ZB (Zd _)];rfl,L,a,u,v,er,n,y,by rw[E,Yx]⟩) ⟨[],K.ah,aD,aD,rfl,X,Z,rfl,V.ah0⟩;obtain⟨L,a,u,v,er,n,y,E,ha⟩:=hq1;subst er;have hgi:os[i]?=aa os[i]:=gEG hi;obtain⟨g0,g1⟩:=ho os[i] (ZT hi);have hlen:L.length<=20:=by have:=congrArg Zc E;rw[Za,ZC] at this;lia
  refine⟨.int os[i],_,by rw[Y i j n,hgi];rfl,rfl,?_⟩;obtain⟨x0,x1,x2,x3,x4,x5,x6,k0,k1,ix⟩:=hg j n os[i] g0 g1;have lt2:Zc S < j.length:=(Zb.mp y).1
  have C:∀m:Int,rW (wSs (evC aj (k+1)) (eV aj) 56 [.asg (.name 5) (.call 58 [(.ix (.ix (.var 0) (.int 0)) (.int 3)),(.var 5)]),.ex (.app (.var 2) (.tup [(.var 4),(.var 5)])),.asg (.name 3) (.tup [(.ix (.ix (.ix (.var 0) (.int 2)) (.var 4)) (.int 0)),(.var 5)])]) [aa (.tup [meE K,ahE K.ah,gv,fx]),aa o,aa (.ref (Zc S)),aa (ahE a),aa (.int os[i]),aa (.int m)] j (λI J j=>match I with
    |.nx=>∃ (L:List (Int × Int)) (a:Option (Int × Int)) (u v:Option D),J=[aa (.tup [meE K,ahE K.ah,gv,fx]),aa o,aa (.ref (Zc S)),aa (ahE a),u,v]/\Sm S j/\j[Zc S]?=aa (.lst (L.map ac))/\L.map (·.1)=os.take (i+1)/\∀z,a=aa z->0<=z.1/\z.1 < K.M.length
    |.ct=>∃ (L:List (Int × Int)) (a:Option (Int × Int)) (u v:Option D),J=[aa (.tup [meE K,ahE K.ah,gv,fx]),aa o,aa (.ref (Zc S)),aa (ahE a),u,v]/\Sm S j/\j[Zc S]?=aa (.lst (L.map ac))/\L.map (·.1)=os.take (i+1)/\∀z,a=aa z->0<=z.1/\z.1 < K.M.length
    |.bk=>∃ (L:List (Int × Int)) (a:Option (Int × Int)) (u v:Option D),J=[aa (.tup [meE K,ahE K.ah,gv,fx]),aa o,aa (.ref (Zc S)),aa (ahE a),u,v]/\Sm S j/\j[Zc S]?=aa (.lst (L.map ac))/\L.map (·.1)=os
    | .rt d=>False):=λm=>by
   k_is;refine ab (t0 _) (ab me3 ?_);refine⟨rfl,Bu V.h4 λU=>?_⟩;k_is;refine⟨eF y,?_⟩;rw[mr y (by rw[Za];lia)];k_is;have s3:Sm S (j.set (Zc S) (.lst (L.map ac++[.tup [.int os[i],.int U]]))):=Sm.setNew n (Zd _);have a3:(j.set (Zc S) (.lst (L.map ac++[.tup [.int os[i],.int U]])))[Zc S]?=aa (.lst ((L++[(os[i],U)]).map ac)):=by rw[mq lt2,Zq];rfl
   generalize j.set (Zc S) (.lst (L.map ac++[.tup [.int os[i],.int U]]))=S3 at *;obtain⟨y0,y1,y2,y3,y4,y5,y6,l0,l1,iy⟩:=hg S3 s3 os[i] g0 g1;refine ab (t2 _) (ab iy (ab (show ixS (au [y0,y1,y2,y3,y4,y5,y6]) (.int 0) S3=aa (.int y0,S3) from rfl) ?_));k_is;exact⟨L++[(os[i],U)],aa (y0,U),_,_,rfl,s3,a3,by rw[Zq,E,ZQ hi];rfl,λz e=>by cases e;exact⟨l0,l1⟩⟩
  k_is;refine ab (t2 _) (ab ix (ab (show ixS (au [x0,x1,x2,x3,x4,x5,x6]) (.int 2) j=aa (.int x2,j) from rfl) ?_));k_is;cases a with
  |none=>
   refine ab (show az .isnot (ahE aD) .non j=aa (.bl aW,j) from rfl) ?_;k_is;exact C x2
  |some z=>
   obtain⟨z0,z1⟩:=ha z rfl;refine ab (show az .isnot (ahE (aa z)) .non j=aa (.bl aT,j) from rfl) ?_;k_is;refine ab (show ixS (ahE (aa z)) (.int 1) j=aa (.int z.2,j) from rfl) ?_;refine ab (t0 _) (ab me2 (ab (show ixS (ahE (aa z)) (.int 0) j=aa (.int z.1,j) from rfl) ?_));obtain⟨r,h1,h2⟩:=jJ (S:=j) V z0 z1 k0 k1;refine ab h1 (ab (t2 _) (ab ix (ab (show ixS (au [x0,x1,x2,x3,x4,x5,x6]) (.int 0) j=aa (.int x0,j) from rfl) (ab h2 ?_))));k_is;exact C _
 have fin:∀ (nx:Nxt) (T:Sto),Sm S T->T[Zc S]?=aa (.lst (([]:List (Int × Int)).map ac))->(∀i S',Sm S S'->nx i S'=aa ((os[i]?).map D.int))->True:=λ_ _ _ _ _=>trivial;have X:Sm S (S++[Ob.lst []]):=Sm.app _ _;have Z:(S++[Ob.lst []])[Zc S]?=aa (.lst (([]:List (Int × Int)).map ac)):=ai;rcases hv with rfl |⟨m,rfl,hm⟩
 ·k_is;refine(B _ _ X Z bZ).mono λI O S' z=>?_;cases I with
  |nx=>
   obtain⟨L,a,u,v,rfl,n,y,E⟩:=z;k_is;exact q L _ S' n y (Zd _) E
  |_=>cases z
 ·k_is;refine⟨by rw[af (X _ _ hm)];rfl,?_⟩;refine(B _ _ X Z (aJ hm)).mono λI O S' z=>?_;cases I with
  |nx=>
   obtain⟨L,a,u,v,rfl,n,y,E⟩:=z;k_is;exact q L _ S' n y (Zd _) E
  |_=>cases z
end Lw
namespace Lw
open PySem Ev Sn L2
variable {p:Nat} {S S':Sto} {k:Nat} {Q:D->Sto->Prop} {K:Sky} {A L:List (Int × Int)} {z:Int × Int}
def Bv{i:Int}(c:0<=i):gH b (aa i) aD=b.drop i.toNat:=by
 unfold gH;rw[Dw.G9 _ _ c,HT.yg];by_cases h:i.toNat<=b.length
 ·rw[Y8 h,ZZ (by rw[YC];lia)]
 ·rw[We (by lia),Wa,List.take_nil,List.drop_eq_nil_of_le (by lia)]
def rL{n:Nat}{i:Int}(c:S[n]?=aa (.lst b))(h:0<=i):slS (aa i) aD (.ref n) S=aa (.ref (Zc S),S++[.lst (b.drop i.toNat)]):=by
 simp only[slS,af c,Bv h]
abbrev NT(p:Nat)(S:Sto)(K:Sky)(d:D):Prop:=∃ (N:Nat) (L:List (Int × Int)),d = .ref N/\N ≠ p/\S[N]?=aa (.lst (L.map ac))/\Kps K L
def OW(V:Vd K):∀S',Sm S S'->∀g:Int,0<=g->g < K.G.length->∃a b c d e f h:Int,0<=a/\a < K.M.length/\ixS (.tup (K.G.map au)) (.int g) S'=aa (au [a,b,c,d,e,f,h],S'):=λS' _ g g0 g1=>by
 obtain⟨a,b,c,d,e,f,h,E,u,v,q,o,y,n,j,C⟩:=gl7 V g0 g1;exact⟨a,b,c,d,e,f,h,n,j,bV g0 E⟩
def Fe(V:Vd K){os:List Int}(h:InR K os)(lo:os.length<=20)
  (q:∀ (L:List (Int × Int)) N S',Sm S S'->S'[N]?=aa (.lst (L.map ac))->S.length<=N->L.map (·.1)=os->Q (.ref N) S'):Ok (evC aj (k+2) 59 [skE K,.tup (os.map D.int)] S) Q:=
 run_ok (fx:=.tup (K.F.map D.int)) V (.inl rfl) h lo (OW V) q
def rO(h:Pot p S)(sk:SkOk K)(g6:K.G.length<=7){N:Nat}{L:List (Int × Int)}{u3 u4:Option D}(nN:N ≠ p)(hN:S[N]?=aa (.lst (L.map ac)))(aL:Kps K L)
  (q:∀d S',Dr p S S'->NT p S' K d->Q d S') :
  rW (wSs (evC aj (k+4)) (eV aj) 57 (dz.drop 3)) [aa (.ref p),aa (skE K),aa (.ref N),u3,u4,aD,aD,aD,aD,aD] S (out Q):=by
 dsimp only[dz,Yd];have V:=sk.vd;have lL:L.length<=14:=by have:=aL.len;lia
 have iL:InR K (L.map (·.1)):=λg O=>by obtain⟨z,hz,rfl⟩:=ZA.mp O;exact aL.inG z hz
 k_is;refine⟨by rw[af hN];rfl,?_⟩;refine aF L ac (λz=>[.int z.1]) (by lia) (λ_ _=>Zd _) (aJ hN) (λi y S' hy sm=>⟨_,rfl,?_⟩) λv s2=>?_
 ·k_is;exact ab (show ixS (ac y) (.int 0) S'=aa (.int y.1,S') from rfl) ⟨rfl,Sm.refl _⟩
 rw[aK,fh];k_is;have lt2:=(Dr.sm h s2).pot.lt;have d3:Dr p S (v++[Ob.lst ((L.map (·.1)).map D.int)]):=Dr.sm h (s2.trans (Sm.app _ _));have a3:(v++[Ob.lst ((L.map (·.1)).map D.int)])[Zc v]?=aa (.lst ((L.map (·.1)).map D.int)):=ai;have n3:Zc v ≠ p:=by lia
 generalize v++[Ob.lst ((L.map (·.1)).map D.int)]=S3 at *;generalize Zc v=N3 at *;refine ab (b9 a3) ?_;k_is;rw[Za,Za];refine⟨rfl,ay d3.pot (by lia) (by lia) λx S4 x1 x2 d4=>?_⟩;refine⟨rfl,ay d4.pot (by decide) (by decide) λy S5 y1 y2 d5=>?_⟩;k_is;have I:=d4.trans d5;have a5:=I.kp _ _ n3 a3;have d5':=d3.trans I;refine ab sk2 ?_;k_is;refine bL K.G.length (λi=>.tup [.int i,((K.G.map au)[i]?).getD .non]) (λi u S'=>Sm S5 S'/\∃R:List (List Int),u=R.map au/\R.length=i/\∀ (j:Nat) r,R[j]?=aa r->∃a b c d e f h:Int,r=[a,b,c,d,e,f,h]/\0<=a/\a < K.M.length) (λi u S' hi _=>?_) (by lia) (λi u n hi ⟨T,R,J,lR,bR⟩=>?_) (λes n ⟨T,R,J,lR,bR⟩=>⟨by rw[J,Za];lia,?_⟩) ⟨Sm.refl _,[],rfl,rfl,λj r e=>by cases e⟩
 ·show enm (K.G.map au) i=_;unfold enm;rw[if_pos (by rw[Za];exact hi)];split
  ·rename_i Z;rw[gEG (by rw[Za];exact Z)];rfl
  ·rw[ZB (by rw[Za];lia)];rfl
 ·obtain⟨a,b,c,d,e,f,o,eg,e0,e1,e2,e3,e6,Y,U,c0⟩:=gl7 V (g:=(i:Int)) (by lia) (by lia);rw[Zs] at eg;have ez:((K.G.map au)[i]?).getD .non = .tup [.int a,.int b,.int c,.int d,.int e,.int f,.int o]:=by rw[Zl,eg];rfl
  rw[ez];refine⟨_,aV (by simp) (by simp),?_⟩;k_is;rw[show gH [D.int a,.int b,.int c,.int d,.int e,.int f,.int o] aD (aa 2)=[.int a,.int b] from rfl];k_is;refine ab (show ixS (.tup [D.int a,.int b,.int c,.int d,.int e,.int f,.int o]) (.int 2) n=aa (.int c,n) from rfl) ?_;k_is;refine ab (rL (T _ _ a5) x1) ?_;have s7:Sm n (n++[Ob.lst (((L.map (·.1)).map D.int).drop x.toNat)]):=Sm.app _ _;have a7:(n++[Ob.lst (((L.map (·.1)).map D.int).drop x.toNat)])[Zc n]?=aa (.lst (((L.map (·.1)).drop x.toNat).map D.int)):=by rw[ai,Wp]
  generalize n++[Ob.lst (((L.map (·.1)).map D.int).drop x.toNat)]=S7 at *;k_is;refine ab (show az .isin (.int (i:Int)) (.ref (Zc n)) S7=aa (.bl (aW != decide ((i:Int) ∈ (L.map (·.1)).drop x.toNat)),S7) from mH aW a7 (i:Int)) ?_;k_is;refine ab (show y7 (.bl (aW != decide ((i:Int) ∈ (L.map (·.1)).drop x.toNat))) S7=aa (.int (if (aW != decide ((i:Int) ∈ (L.map (·.1)).drop x.toNat)) then 1 else 0),S7) from rfl) ?_;k_is;refine⟨kG (by lia) (by lia),?_⟩;refine⟨by show 3<=1000;decide,?_⟩;rw[show gH [D.int a,.int b,.int c,.int d,.int e,.int f,.int o] (aa 3) aD=[.int d,.int e,.int f,.int o] from rfl];k_is;refine⟨by show 7<=1000;decide,?_⟩;refine⟨T.trans s7,R++[[a,b,c+y * (if (aW != decide ((i:Int) ∈ (L.map (·.1)).drop x.toNat)) then 1 else 0),d,e,f,o]],by rw[J,Zq];rfl,by rw[Zi,Zy];lia,λj r B=>?_⟩;by_cases X:j < R.length
  ·rw[Zt X] at B;exact bR j r B
  ·have hll:=(Zb.mp B).1;rw[Zi,Zy] at hll;obtain rfl:j=R.length:=by lia
   rw[Zo (Zd _),Yh] at B;cases B;exact⟨_,_,_,_,_,_,_,rfl,Y,U⟩
 ·subst J;k_is;have s7:Sm n (n++[Ob.lst (R.map au)]):=Sm.app _ _;have a7:(n++[Ob.lst (R.map au)])[Zc n]?=aa (.lst (R.map au)):=ai;have E:=T.trans s7;generalize n++[Ob.lst (R.map au)]=S7 at *;generalize Zc n=N7 at *;have d7:=d5'.thenSm E;refine ab sk0 (ab sk1 (ab sk3 ?_));k_is;refine⟨rfl,run_ok (k:=k+2) (gv:=.ref N7) (fx:=.tup (K.F.map D.int)) V (.inr ⟨N3,rfl,E _ _ a5⟩) iL (by rw[Za];lia) (λS' sm g g0 g1=>?_) λL' N8 S8 s8 C l8 eL'=>?_⟩
  ·have O:g.toNat < R.length:=by lia
   obtain⟨a,b,c,d,e,f,o,er,Y,U⟩:=bR g.toNat R[g.toNat] (gEG O);exact⟨a,b,c,d,e,f,o,Y,U,aY (sm _ _ a7) g0 (by rw[Zl,gEG O,er];rfl)⟩
  ·have lL':L'.length<=14:=by have:=congrArg Zc eL';rw[Za,Za] at this;lia
   k_is;refine⟨rfl,oC (k:=k+1) sk C (by lia) λdw S9 s9 hw=>?_⟩;refine ab mI ?_;k_is;have lt7:=d7.pot.lt;have d9:=(d7.thenSm s8).thenSm s9;cases cn:bG dw with
   |true=>k_is;exact q _ S9 d9 ⟨N8,L',rfl,by lia,s9 _ _ C,hw cn⟩
   |false=>k_is;exact q _ S9 d9 ⟨N,L,rfl,nN,d9.kp _ _ nN hN,aL⟩
def ui(h:Pot p S)(c:SkOk K)(C:K.G.length<=7)(q:∀d S',Dr p S S'->(d = .non\/NT p S' K d)->Q d S'):Ok (evC aj (k+5) 64 [.ref p,skE K] S) Q:=by
 refine aq (d:=dN) (ρ:=[aa (.ref p),aa (skE K),aD,aD,aD,aD,aD,aD,aD,aD]) rfl rfl ?_;have tail:=@rO p;dsimp only[dN];dsimp only[dz,Yd] at tail ⊢;have V:=c.vd;k_is;refine⟨by decide,?_⟩;refine eD (by decide) (λi g S'=>Dr p S S'/\∃ (d:D) (u v:Option D),g=[aa (.ref p),aa (skE K),aa d,u,v,aD,aD,aD,aD,aD]/\(d = .non\/∃ (N:Nat) (L:List (Int × Int)),d = .ref N/\N ≠ p/\S'[N]?=aa (.lst (L.map ac))/\Kps K L)) (λi g I hi y=>?_) (λg I j=>?_) ⟨Dr.refl h,.non,aD,aD,rfl,.inl rfl⟩
 ·obtain⟨b,d,u,v,E,hd⟩:=y;subst E;refine⟨_,rfl,?_⟩;k_is;refine⟨rfl,xI (k:=k+1) b.pot c C λos S2 o Z lo=>?_⟩;refine⟨rfl,Fe (k:=k+2) V Z (by lia) λL N S3 B hN lN U=>?_⟩;k_is;have lL:L.length<=14:=by have:=congrArg Zc U;rw[Za] at this;lia
  have f:=(b.trans o).thenSm B;have O:=o.pot.lt;have X:N ≠ p:=by lia
  refine ab mI ?_;k_is;rcases hd with rfl |⟨N0,L0,rfl,n0,h0,c0⟩
  ·rw[show bG .non=aT from rfl];k_is;refine⟨rfl,oC (k:=k+1) c hN (by lia) λdw S4 n Y=>?_⟩;refine ab mI ?_;k_is;cases T:bG dw with
   |true=>k_is;exact⟨f.thenSm n,_,_,_,rfl,.inr ⟨N,L,rfl,X,n _ _ hN,Y T⟩⟩
   |false=>k_is;exact⟨f.thenSm n,_,_,_,rfl,.inl rfl⟩
  ·rw[show bG (.ref N0)=aW from rfl];k_is;exact⟨f,_,_,_,rfl,.inr ⟨N0,L0,rfl,n0,(o.thenSm B).kp _ _ n0 h0,c0⟩⟩
 ·obtain⟨b,d,u,v,E,hd⟩:=j;subst E;k_is;refine ab mI ?_;k_is;rcases hd with rfl |⟨N0,L0,rfl,n0,h0,c0⟩
  ·rw[show bG .non=aT from rfl];k_is;exact q _ I b (.inl rfl)
  ·rw[show bG (.ref N0)=aW from rfl];k_is;exact tail (k:=k) b.pot c C n0 h0 c0 λd S' J hd=>q d S' (b.trans J) (.inr hd)
end Lw
namespace Lw
open PySem Ev Sn L2
variable {p:Nat} {S S':Sto} {k:Nat} {Q:D->Sto->Prop} {K:Sky}
def Sm.len(h:Sm S S'):S.length<=S'.length:=by
 cases c:S.length with
 |zero=>exact Yb _
 |succ n=>
  have:=h n _ (gEG (by lia));exact(Zb.mp this).1
abbrev dn(K:Sky)(A:List (Int × Int))(z:Int × Int):List Int:=(jn K z.1::A.map λq=>q.2 - K.s).filter λt=>ae K t z
def Ff(V:Vd K){n j:Nat}(u:S[n]?=aa (.lst (L.map ac)))(v:L[j]?=aa z)(hL:InG K L)(hl:L.length<=20)(q:∀S' m,Sm S S'->S.length<=m->S'[m]?=aa (.lst ((dn K (L.take j) z).map D.int))->Q (.ref m) S'):Ok (evC aj (k+2) 41 [skE K,.ref n,.int j] S) Q:=by
 refine aq (d:=bK) (ρ:=[aa (skE K),aa (.ref n),aa (.int j),aD,aD]) rfl rfl ?_;dsimp only[bK,cN];have g:=hL z (Ze v);obtain⟨a,b,c,d,e,f,h,Y,_,e1,_⟩:=gl7 V g.1 g.2;k_is;refine ab sk2 (ab (aY u (by lia) (fB v)) ?_);refine ab (show ixS (ac z) (.int 0) S=aa (.int z.1,S) from rfl) ?_;refine ab (bV g.1 Y) (ab (show ixS (au [a,b,c,d,e,f,h]) (.int 1) S=aa (.int b,S) from rfl) ?_);k_is;refine ab (cE u) ?_;have U:Sm S (S++[Ob.lst ((L.map ac).take j)]):=Sm.app _ _;have E:(S++[Ob.lst ((L.map ac).take j)])[Zc S]?=aa (Ob.lst ((L.take j).map ac)):=by rw[ai,Yu]
 have B:∀S6,Sm S S6->Zc S<=Zc S6:=λ_ h=>Sm.len h;generalize Zc S=N1 at *;generalize S++[Ob.lst ((L.map ac).take j)]=S1 at *;have lt:(L.take j).length<=20:=by rw[ZC];lia
 refine⟨by rw[af E];rfl,?_⟩;refine aF (L.take j) ac (λq=>[D.int (q.2 - K.s)]) (by lia) (λ_ _=>Zd _) (aJ E) (λi y S' hy sm=>⟨_,show av (.tup [.name 5,.name 6]) (.tup [.int y.1,.int y.2]) _=_ from aV (by simp) (by simp),?_⟩) λo X=>?_
 ·k_is;refine ab sk0 (ab me1 ?_);k_is;exact⟨rfl,Sm.refl _⟩
 ·rw[aK];have Z:Sm o (o++[Ob.lst ((L.take j).map λq=>D.int (q.2 - K.s))]):=Sm.app _ _;have T:(o++[Ob.lst ((L.take j).map λq=>D.int (q.2 - K.s))])[Zc o]?=aa (Ob.lst ((L.take j).map λq=>D.int (q.2 - K.s))):=ai;generalize Zc o=N3 at *;generalize o++[Ob.lst ((L.take j).map λq=>D.int (q.2 - K.s))]=S3 at *;k_is;have J:Sm S3 (S3++[Ob.lst [D.int b]]):=Sm.app _ _;refine ab (dm (xs:=[D.int b]) ai (J _ _ T) (by rw[Za,Zy];lia)) ?_
  have ek:[D.int b]++((L.take j).map λq=>D.int (q.2 - K.s))=(jn K z.1::(L.take j).map λq=>q.2 - K.s).map D.int:=by
   rw[Zx,ZO,show jn K z.1=b from e1];rfl
  rw[ek];have s5:Sm (S3++[Ob.lst [D.int b]]) (S3++[Ob.lst [D.int b]]++[Ob.lst ((jn K z.1::(L.take j).map λq=>q.2 - K.s).map D.int)]):=Sm.app _ _;have I:(S3++[Ob.lst [D.int b]]++[Ob.lst ((jn K z.1::(L.take j).map λq=>q.2 - K.s).map D.int)])[Zc (S3++[Ob.lst [D.int b]])]?=aa (Ob.lst ((jn K z.1::(L.take j).map λq=>q.2 - K.s).map D.int)):=ai;have C:=(((U.trans X).trans Z).trans J).trans s5;generalize Zc (S3++[Ob.lst [D.int b]])=N5 at *;generalize S3++[Ob.lst [D.int b]]++[Ob.lst ((jn K z.1::(L.take j).map λq=>q.2 - K.s).map D.int)]=S5 at *;refine⟨by rw[af I];rfl,?_⟩;refine aF (jn K z.1::(L.take j).map λq=>q.2 - K.s) D.int (λt=>if ae K t z=aT then [D.int t] else []) (by rw[ZD,Za];lia) (λ_ _=>by split <;> simp) (aJ I) (λi t S' ht sm=>⟨_,rfl,?_⟩) λS6 O=>?_
  ·k_is;refine ab (aY (sm _ _ (C _ _ u)) (by lia) (fB v)) ⟨rfl,bT V g.1 g.2 ?_⟩;k_is;cases ae K t z with
   |true=>k_is;exact⟨rfl,Sm.refl _⟩
   |false=>k_is;exact⟨rfl,Sm.refl _⟩
  ·rw[aX];k_is;exact q _ _ ((C.trans O).trans (Sm.app _ _)) (B _ (C.trans O)) ai
abbrev stp(K:Sky)(L:List (Int × Int))(j:Nat):List (Int × Int):=match L[j]? with
 |none=>[]
 |some z=>((dn K (L.take j) z).map λt=>(t,aQ K (L.take j) z t)).foldl bE []
def rP(b:List (Int × Int))(x:Int × Int):(bE b x).length<=b.length+1:=by
 unfold bE;split
 ·simp
 ·split <;> simp
def KO(V:Vd K){n j:Nat}(hn:S[n]?=aa (.lst (L.map ac)))(J:L[j]?=aa z)(hL:InG K L)(hl:L.length<=20)(q:∀S' m,Sm S S'->S.length<=m->S'[m]?=aa (.lst ((stp K L j).map ac))->Q (.ref m) S'):Ok (evC aj (k+4) 40 [skE K,.ref n,.int j] S) Q:=by
 refine aq (d:=e8) (ρ:=[aa (skE K),aa (.ref n),aa (.int j),aD,aD,aD]) rfl rfl ?_;dsimp only[e8,iX];k_is;have s1:Sm S (S++[Ob.lst []]):=Sm.app _ _;have a1:(S++[Ob.lst []])[Zc S]?=aa (Ob.lst []):=ai;refine⟨rfl,Ff (k:=k+1) V (s1 _ _ hn) J hL hl λS2 m s2 lm am=>?_⟩;have lS:(S++[Ob.lst []]).length=S.length+1:=by simp
 refine⟨by rw[af am];rfl,?_⟩;have e0:stp K L j=((dn K (L.take j) z).map λt=>(t,aQ K (L.take j) z t)).foldl bE []:=by unfold stp;rw[J]
 have l0:(dn K (L.take j) z).length<=21:=by
  unfold dn;refine ZH (ZV _ _) ?_;rw[ZD,Za,ZC];lia
 generalize dn K (L.take j) z=ms at *;refine mG (ds:=ms.map D.int) (by rw[Za];lia) (λi E S'=>Sm S S'/\S'[m]?=aa (.lst (ms.map D.int))/\(∃b:List (Int × Int),b=((ms.take i).map λt=>(t,aQ K (L.take j) z t)).foldl bE []/\b.length<=i/\S'[S.length]?=aa (.lst (b.map ac)))/\∃u v,E=[aa (skE K),aa (.ref n),aa (.int j),aa (.ref S.length),u,v]) (λi E S' h=>h.2.1) (λi d E S' hd O=>?_) (λE S' O=>?_) ⟨s1.trans s2,am,⟨[],rfl,Zd _,s2 _ _ a1⟩,_,_,rfl⟩
 ·obtain⟨sm,o,⟨b,I,la,Y⟩,u,v,rfl⟩:=O;obtain⟨t,ht,rfl⟩:=cT hd;refine⟨_,rfl,?_⟩
  have e1:((ms.take (i+1)).map λt=>(t,aQ K (L.take j) z t)).foldl bE []=bE b (t,aQ K (L.take j) z t):=by
   rw[Y0,ht,Zq,YO,<-I];rfl
  have l1:=rP b (t,aQ K (L.take j) z t);rw[e1];k_is;refine⟨rfl,pT (k:=k) V t (sm _ _ hn) J hL (by lia) λB C=>?_⟩;k_is;have g:=C _ _ Y;have tr:fG (.ref S.length) B=aa (!(b.map ac).isEmpty,B):=by simp only[fG,af g]
  have nm:m ≠ S.length:=by lia
  have hi:=(Zb.mp ht).1;refine ab tr ?_
  have add:bE b (t,aQ K (L.take j) z t)=b++[(t,aQ K (L.take j) z t)]->Sm S (B.set S.length (.lst ((b.map ac)++[.tup [.int t,.int (aQ K (L.take j) z t)]])))/\(B.set S.length (.lst ((b.map ac)++[.tup [.int t,.int (aQ K (L.take j) z t)]])))[m]?=aa (.lst (ms.map D.int))/\(∃f:List (Int × Int),f=bE b (t,aQ K (L.take j) z t)/\f.length<=i+1/\(B.set S.length (.lst ((b.map ac)++[.tup [.int t,.int (aQ K (L.take j) z t)]])))[S.length]?=aa (.lst (f.map ac))):=λe=>
   ⟨Sm.setNew (sm.trans C) (Zd _),by rw[ZE (Ne.symm nm)];exact C _ _ o,_,rfl,by lia,by rw[ZN (Zb.mp g).1,e,Zq];rfl⟩
  rcases Z1 b with c |⟨f,y,c⟩
  ·rw[show(!!(b.map ac).isEmpty)=aT by rw[c];rfl];k_is;refine⟨eF g,?_⟩;rw[mr g (by rw[Za];lia)];k_is;obtain⟨U,X,T⟩:=add (by rw[c];rfl);exact⟨U,X,T,_,_,rfl⟩
  ·rw[Z2] at c;rw[show(!!(b.map ac).isEmpty)=aW by rw[c];simp];k_is;refine ab (dj (ds:=f.map ac) (e:=ac y) (by rw[g,c,Zq];rfl)) ?_;refine ab (show ixS (ac y) (.int 1) B=aa (.int y.2,B) from rfl) ?_;k_is;have Z:b.getLast?=aa y:=by rw[c];simp
   cases cc:decide (aQ K (L.take j) z t < y.2) with
   |true=>
    k_is;refine⟨eF g,?_⟩;rw[mr g (by rw[Za];lia)];k_is;obtain⟨U,X,T⟩:=add (by unfold bE;rw[Z];exact if_pos (of_decide_eq_true cc));exact⟨U,X,T,_,_,rfl⟩
   |false=>
    k_is;exact⟨sm.trans C,C _ _ o,⟨_,rfl,by lia,by rw[show bE b (t,aQ K (L.take j) z t)=b by unfold bE;rw[Z];exact if_neg (of_decide_eq_false cc)];exact g⟩,_,_,rfl⟩
 ·obtain⟨sm,o,⟨b,I,la,Y⟩,u,v,rfl⟩:=O;rw[Za,Yx,<-e0] at I;subst I;k_is;exact q S' _ sm (Zd _) Y
end Lw
namespace Lw
open PySem Ev Sn L2
variable {p:Nat} {S S':Sto} {k:Nat} {Q:D->Sto->Prop} {K:Sky} {L:List (Int × Int)}
def oD(h:Kps K L):∀z ∈ L,0<=z.1/\z.1 < K.G.length/\gi K.G z.1 2<=z.2/\z.2<=gi K.G z.1 3:=λz b=>let ⟨_,_,w⟩:=h.at b;⟨w.g0,w.g1,w.m0,w.m1⟩
def pX(b:SkOk K)(h:Kps K L):∀ (j:Nat) z,L[j]?=aa z->∀ (i:Nat) q,i < j->L[i]?=aa q->q.2 < z.2
 |0,_,_,_,_,hi,_=>absurd hi (Z7 _)
 |j+1,z,hz,i,q,hi,hq=>by
  have n:j < L.length:=by have:=(Zb.mp hz).1;lia
  have c:L[j]?=aa L[j]:=gEG n;have g:=(h.w _ z hz).gp;rw[Y0,c] at g;rw[show(aa L[j]).toList=[L[j]] from rfl,fg] at g;have y:=oD h _ (Ze c);have Z:=oD h _ (Ze hz);have o:=i7 (L:=[L[j]]) b.vd (λw f=>by rw[Zu.mp f];exact⟨y.1,y.2.1⟩) _ (by rw[<-Y6 [L[j]]];exact fg);have u:=i7 (L:=[z]) b.vd (λw f=>by rw[Zu.mp f];exact⟨Z.1,Z.2.1⟩) _ (by rw[<-Y6 [z]];exact fg);obtain⟨_,_,_,_,m1,_⟩:=b.me.mat.at (i:=(gi K.G L[j].1 0).toNat) (j:=(gi K.G z.1 0).toNat) (by lia) (by lia);have g:L[j].2+Dw.mg2 K.M (gi K.G L[j].1 0).toNat (gi K.G z.1 0).toNat<=z.2:=g;by_cases e:i=j
  ·subst e;rw[c] at hq;cases hq
   lia
  ·have:=pX b h j _ c i q (by lia) hq
   lia
def Bw(b:Kps K L){j:Nat}:∀q ∈ L.take j,jn K q.1 ∈ js K:=λq c=>by
 have h:=oD b q (Yz c);exact uf h.1 h.2.1
def Fg(o:SkOk K)(f:Kps K L){j:Nat}(C:L[j]?=aa z):stp K L j=((Zh (z.2 - K.s - jn K z.1).toNat).map λ(i:Nat)=>(jn K z.1+i,aQ K (L.take j) z (jn K z.1+i))).foldl gk []:=by
 have g:=Bw (j:=j) f;unfold stp;rw[C];dsimp only;by_cases c:jn K z.1 < z.2 - K.s
 ·have w:ae K (jn K z.1) z=aT:=by simp only[ae,bAE,decide_eq_true_eq];lia
  have E:dn K (L.take j) z=jn K z.1::(((L.take j).map λq=>q.2 - K.s).filter λt=>ae K t z):=by unfold dn;rw[Yr (p:=λt=>ae K t z) w]
  have ge:∀x ∈ dn K (L.take j) z,jn K z.1<=x/\x < z.2 - K.s:=λx h=>by
   have:=(ZP.mp h).2
   simpa only[ae,bAE,decide_eq_true_eq] using this
  have hs:(dn K (L.take j) z).Pairwise (·<=·):=by
   rw[E,Z8];refine⟨λx h=>(ge x (by rw[E];exact Zm _ h)).1,List.Pairwise.filter _ ?_⟩;rw[Y1,YU];intro a b J I n;have v:L[a]?=aa (L.take j)[a]:=by rw[X4];exact gEG _
   have B:L[b]?=aa (L.take j)[b]:=by rw[X4];exact gEG _
   have:=pX o f b _ B a _ n v
   lia
  rw[Gg (aQ K (L.take j) z) hs (λx h=>(ge x h).1) (by rw[E];exact Zj) _ λi hi=>⟨vC g (by lia) (by lia),λu=>E8 g (by lia) (by lia) λq y e=>u ?_⟩]
  ·rw[XM.mpr λx h=>by have:=ge x h;simp;lia]
  ·unfold dn;refine ZP.mpr ⟨Zm _ (ZA.mpr ⟨q,y,e⟩),by simp only[ae,bAE,decide_eq_true_eq];lia⟩
 ·have E:dn K (L.take j) z=[]:=by
   unfold dn;rw[ZR];intro x _;simp only[ae,bAE,decide_eq_true_eq]
   lia
  rw[E,show(z.2 - K.s - jn K z.1).toNat=0 by lia];rfl
abbrev stG(K:Sky)(L:List (Int × Int))(g:Int):List (Int × Int):=stp K L (L.findIdx λz=>decide (z.1=g))
def Bx(b:Kps K L){j:Nat}(h:L[j]?=aa z):(L.findIdx λy=>decide (y.1=z.1))=j:=by
 obtain⟨f,e⟩:=Zb.mp h;refine(List.findIdx_eq f).mpr ⟨by rw[e];simp,λi hi=>?_⟩;refine decide_eq_false λc=>(b.w _ z h).nw ?_;rw[<-c];exact ZA.mpr ⟨_,ZX.mpr ⟨i,by lia,rfl⟩,rfl⟩
def KP(h:Kps K L){g:Nat}(b:g < K.G.length):∃ (j:Nat) (z:Int × Int),L[j]?=aa z/\z.1=g:=by
 obtain⟨z,f,e⟩:=ZA.mp (h.al g b);obtain⟨j,c⟩:=Yo f;exact⟨j,z,c,e⟩
abbrev Rws(S S':Sto)(n:Nat)(f:Nat->List (Int × Int))(b:List D):Prop:=b.length=n/\∀g,g < n->∃r,b[g]?=aa (.ref r)/\S.length<=r/\S'[r]?=aa (.lst ((f g).map ac))
def Bz{n r:Nat}(h:Rws b S n f o)(s:Sm S S')(u:b.length<=r)(a:S'[r]?=aa (.lst ((f n).map ac))):Rws b S' (n+1) f (o++[.ref r]):=by
 obtain⟨j,h⟩:=h;refine⟨by simp[j],λg B=>?_⟩;by_cases c:g < n
 ·obtain⟨y,z,v,q⟩:=h g c;exact⟨y,by rw[Zt (by lia)];exact z,v,s _ _ q⟩
 ·cases (show g=n by lia);exact⟨r,by rw[Zo (by lia),j,Yh];rfl,u,a⟩
def KQ{n:Nat}{i:Int}(h:S[n]?=aa (.dic f b))(c:jh f b (kI i)=aa d):ixS (.ref n) (.int i) S=aa (d,S):=by
 have e:ao (.ref n) S=aD:=by simp only[ao,aH,h,Option.map_none]
 simp only[ixS,e,ixD,h];rw[c];rfl
def Fh{c:Nat}{h v:XE}{f:Rho}{Q:Fl->Rho->Sto->Prop}{i:Int}{b:List Key}{g:List D}{dv:D}(u:h f S=aa (.int i,S))(n:v f S=aa (dv,S))(j:S[c]?=aa (.dic b g))(h4:∀x ∈ b,x ≠ kI i)(y:b.length < 1000)(q:Q .nx f (S.set c (.dic (b++[kI i]) (g++[dv])))):OkS (tN c h v f S) Q:=by
 refine⟨.nx,f,_,?_,q⟩
 have e:wN c (.int i) dv S=aa (S.set c (.dic (b++[kI i]) (g++[dv]))):=by
  unfold wN;simp only[j];rw[if_pos ⟨ZJ.mpr λx o=>decide_eq_true (h4 x o),y⟩]
 unfold tN;rw[u];dsimp only;rw[n];dsimp only;rw[e];rfl
def vD:∀ {c:List Key} {f:List D} {j:Nat} {k:Key} {d:D},c[j]?=aa k->f[j]?=aa d->(∀i x,i < j->c[i]?=aa x->x ≠ k)->jh c f k=aa d
 |[],_,_,_,_,h,_,_=>by simp at h
 |_::_,[],_,_,_,_,h,_=>by simp at h
 |a::c,b::f,0,k,d,h1,h2,_=>by
  simp at h1 h2;rw[jh,if_pos h1,h2]
 |a::c,b::f,j+1,k,d,h1,h2,h3=>by
  rw[jh,if_neg (h3 0 a (by lia) rfl)];exact vD (by simpa using h1) (by simpa using h2) λi x hi g=>h3 (i+1) x (by lia) (by simpa using g)
def Fi(Y:SkOk K)(o:Kps K L){n:Nat}(hn:S[n]?=aa (.lst (L.map ac)))
  (q:∀S' N ds,Sm S S'->S.length<=N->S'[N]?=aa (.lst ds)->Rws S S' K.G.length (λg=>stG K L g) ds->Q (.ref N) S'):Ok (evC aj (k+11) 36 [skE K,.ref n] S) Q:=by
 have l20:L.length<=20:=by have:=o.len;have:=Y.g7;lia
 refine aq (d:=t5) (ρ:=[aa (skE K),aa (.ref n),aD]) rfl rfl ?_;dsimp only[t5,Aj];k_is;refine⟨rfl,mJ (k:=k) Y hn o λE Z=>?_⟩;have C:=Z _ _ hn;k_is;refine⟨by rw[af C];rfl,?_⟩;have a1:(E++[Ob.dic [] []])[Zc E]?=aa (.dic [] []):=ai;have s2:Sm E (E++[Ob.dic [] []]):=Sm.app _ _;have lS:=Sm.len Z;refine pV (ds:=L.map ac) (by rw[Za];lia) (λi U S'=>Sm E S'/\S'[E.length]?=aa (.dic ((L.take i).map λz=>kI z.1) ((Zh i).map λ(j:Nat)=>.int j))/\∃u v,U=[aa (skE K),aa (.ref n),aD,u,v]) (λi U S' h=>h.1 _ _ C) (λi d U S' hd f=>?_) (λU S2 f=>?_) ⟨s2,a1,_,_,rfl⟩
 ·obtain⟨sm,T,u,v,rfl⟩:=f;obtain⟨z,b,rfl⟩:=cT hd;refine⟨_,aV (by simp) (by simp),?_⟩;have hi:=(Zb.mp b).1;refine Fh (i:=z.1) (dv:=.int i) rfl rfl T (λx B=>?_) (by rw[Za,ZC];lia) ⟨?_,?_,_,_,rfl⟩
  ·obtain⟨y,O,rfl⟩:=ZA.mp B;intro c;have c:y.1=z.1:=by injection c
   exact(o.w _ z b).nw (c ▸ ZA.mpr ⟨y,O,rfl⟩)
  ·exact Sm.setNew sm (Zd _)
  ·rw[ZN (Zb.mp T).1,Y0,b,Ys,Zq,Zq];rfl
 ·obtain⟨sm,T,u,v,rfl⟩:=f;rw[Za,Yx] at T;refine⟨rfl,?_⟩;k_is;k_is;refine ab sk2 ?_;refine ab (show ax cg (.tup (K.G.map au)) S2=aa (.int (K.G.length:Int),S2) by simp only[ax,ao,cg,Za]) ?_;have hG:=Y.g7;refine⟨cA (by lia) (by lia),?_⟩;rw[Zs];refine jI (by lia) (λi I S'=>Sm S2 S'/\Rws S S' i (λg=>stG K L g) I) (λi I S' hi f=>?_) (λes S' f=>?_) ⟨Sm.refl _,rfl,λg hg=>absurd hg (Z7 _)⟩
  ·obtain⟨X,J,hr⟩:=f;refine⟨_,rfl,?_⟩;obtain⟨j,z,b,ez⟩:=KP o hi;have hj:=(Zb.mp b).1
   have hv:jh (L.map λz=>kI z.1) ((Zh L.length).map λ(j:Nat)=>D.int j) (kI (0+(i:Int)))=aa (.int j):=by
    refine vD (j:=j) (by rw[Zl,b,YK,<-ez];rfl) (by rw[Zl,Yj hj];rfl) λm x hm B=>?_;rw[Zl] at B;cases O:L[m]? with
    |none=>rw[O] at B;cases B
    |some y=>
     rw[O] at B;cases B;intro c;have c:y.1=0+(i:Int):=by injection c
     refine(o.w _ z b).nw (ZA.mpr ⟨y,?_,by lia⟩);obtain⟨h1,h2⟩:=Zb.mp O;exact ZX.mpr ⟨m,by lia,h2⟩
   k_is;refine ab (KQ (X _ _ T) hv) ⟨rfl,KO (k:=k+6) Y.vd (X _ _ (sm _ _ C)) b (λz b=>let x:=oD o z b;⟨x.1,x.2.1⟩) l20 λS4 m s4 lm am=>?_⟩;k_is;refine⟨X.trans s4,Bz ⟨J,hr⟩ s4 (by have:=Sm.len sm;have:=Sm.len X;lia) ?_⟩;show _=aa (Ob.lst ((stG K L (i:Int)).map ac));rw[<-ez,stG,Bx o b];exact am
  ·refine⟨by rw[f.2.1];lia,q _ _ es ((Z.trans (sm.trans f.1)).trans (Sm.app _ _)) (by have:=Sm.len sm;have:=Sm.len f.1;lia) ai ⟨f.2.1,λg hg=>?_⟩⟩;obtain⟨r,h1,h2,h3⟩:=f.2.2 g hg;exact⟨r,h1,h2,Sm.app _ _ _ _ h3⟩
abbrev plc(K:Sky)(L:List (Int × Int))(t:Int)(n:Nat):List Nat:=(Zh n).filter λj=>(L[j]?).any (ae K t)
def KR{t:Int}{n j:Nat}(h:j ∈ plc K L t n):∃z,L[j]?=aa z:=by
 have h:=(ZP.mp h).2;cases b:L[j]? with
 |none=>rw[b] at h;cases h
 |some z=>exact⟨z,rfl⟩
def Fj{t:Int}:((plc K L t L.length).map λj=>(L.getD j (0,0)).1)=(L.filter (ae K t)).map (·.1):=by
 have e:=mE (0,0) L
 have E:L.filter (ae K t)=(plc K L t L.length).map λj=>L.getD j (0,0):=by
  conv=>lhs;rw[<-e,List.filter_map]
  congr 1
  unfold plc;refine X5 λj h=>?_;have h:=Z6.mp h;rw[gEG h];show ae K t (L.getD j (0,0))=_;rw[Z3,gEG h];rfl
 rw[E,ZO];rfl
def BA(B:Vd K){n:Nat}{t:Int}(o:S[n]?=aa (.lst (L.map ac)))(I:InG K L)(hl:L.length<=20)(q:∀S' m (l:List (Int × Int)),Sm S S'->S'[m]?=aa (.lst (l.map ac))->l.map (·.1)=(L.filter (ae K t)).map (·.1)->Q (.ref m) S'):Ok (evC aj (k+4) 39 [skE K,.ref n,.int t] S) Q:=by
 refine aq (d:=ig) (ρ:=[aa (skE K),aa (.ref n),aa (.int t),aD]) rfl rfl ?_;dsimp only[ig,mh];k_is;refine⟨by rw[af o];rfl,?_⟩;refine bL L.length (λi=>.tup [.int i,((L.map ac)[i]?).getD .non]) (λi b S'=>S'=S/\b=(plc K L t i).map λ(j:Nat)=>D.int j) (λi b S' hi ⟨e,_⟩=>by subst e;rw[<-Za (f:=ac)];exact i5 o (by rw[Za];exact hi) (λi=>.tup [.int i,((L.map ac)[i]?).getD .non]) λi d h=>by rw[h];rfl) (by lia) (λi b S' hi ⟨e,E⟩=>?_) (λY S' ⟨e,E⟩=>?_) ⟨rfl,rfl⟩
 ·subst e;have c:L[i]?=aa L[i]:=gEG hi;have C:=I _ (Ze c);rw[show((L.map ac)[i]?).getD .non=ac L[i] by rw[Zl,c];rfl];refine⟨_,aV (by simp) (by simp),?_⟩
  have U:plc K L t (i+1)=plc K L t i++if ae K t L[i]=aT then [i] else []:=by
   unfold plc;rw[Ys,YX]
   congr 1
   rw[Ye,c];rfl
  rw[U,E];k_is;refine⟨rfl,bT B C.1 C.2 ?_⟩;k_is;cases ae K t L[i] with
  |true=>k_is;exact⟨rfl,by simp⟩
  |false=>k_is;exact⟨rfl,by simp⟩
 ·subst e E;have X:(plc K L t L.length).length<=20:=by unfold plc;exact ZH (ZV _ _) (by rw[ZK];exact hl)
  refine⟨by rw[Za];lia,?_⟩;k_is;have v:(S'++[Ob.lst ((plc K L t L.length).map λ(j:Nat)=>D.int j)])[Zc S']?=aa (.lst ((plc K L t L.length).map λ(j:Nat)=>D.int j)):=ai;have y:Sm S' (S'++[Ob.lst ((plc K L t L.length).map λ(j:Nat)=>D.int j)]):=Sm.app _ _;generalize Zc S'=N1 at *;generalize S'++[Ob.lst ((plc K L t L.length).map λ(j:Nat)=>D.int j)]=S1 at *;refine⟨by rw[af v];rfl,?_⟩;refine aF (plc K L t L.length) (λ(j:Nat)=>D.int j) (λj=>[ac ((L.getD j (0,0)).1,aQ K (L.take j) (L.getD j (0,0)) t)]) (by lia) (λ_ _=>Zd _) (aJ v) (λi j u O sm=>⟨_,rfl,?_⟩) λu J=>?_
  ·obtain⟨z,c⟩:=KR (Ze O);rw[show L.getD j (0,0)=z by rw[Z3,c];rfl];have g:=sm _ _ (y _ _ o);k_is;refine ab (aY g (by lia) (fB c)) (ab (show ixS (ac z) (.int 0) u=aa (.int z.1,u) from rfl) ⟨rfl,pT (k:=k) B t g c I (by lia) λZ T=>?_⟩);k_is;exact⟨rfl,T⟩
  ·rw[aK];k_is;refine q _ _ ((plc K L t L.length).map λj=>((L.getD j (0,0)).1,aQ K (L.take j) (L.getD j (0,0)) t)) ((y.trans J).trans (Sm.app _ _)) (by rw[ai,ZO];rfl) ?_;rw[ZO];exact Fj
def uj{m:Int}(f:SkOk K)(h:Kps K L){n:Nat}(j:S[n]?=aa (.lst (L.map ac)))
  (q:∀S' N,Sm S S'->S.length<=N->S'[N]?=aa (.lst (((L.filter (ae K m)).map (·.1)).map D.int))->Q (.ref N) S'):Ok (evC aj (k+11) 38 [skE K,.ref n,.int m] S) Q:=by
 have b:L.length<=20:=by have:=h.len;have:=f.g7;lia
 refine aq (d:=jE) (ρ:=[aa (skE K),aa (.ref n),aa (.int m)]) rfl rfl ?_;dsimp only[jE,og];k_is;refine⟨rfl,mJ (k:=k) f j h λJ c=>?_⟩;k_is;refine⟨rfl,BA (k:=k+6) f.vd (c _ _ j) (λz v=>let x:=oD h z v;⟨x.1,x.2.1⟩) b λI N l g u E=>?_⟩;k_is;refine⟨by rw[af u];rfl,?_⟩
 have B:l.length<=20:=by
  have:=congrArg Zc E;rw[Za,Za] at this;rw[this];exact ZH (ZV _ _) b
 refine aF l ac (λz=>[.int z.1]) (by lia) (λ_ _=>Zd _) (aJ u) (λi y S' C sm=>⟨_,show av (.tup [.name 3,.name 4]) (.tup [.int y.1,.int y.2]) _=_ from aV (by simp) (by simp),?_⟩) λO o=>?_
 ·k_is;exact⟨rfl,Sm.refl _⟩
 ·rw[aK];k_is;refine q _ _ ((c.trans (g.trans o)).trans (Sm.app _ _)) (Sm.len (c.trans (g.trans o))) ?_;rw[ai,<-E,ZO];rfl
end Lw
namespace Lw
open PySem Ev Sn L2
variable {K:Sky} {A L:List (Int × Int)} {z:Int × Int} {st:List (Int × Int)} {t u:Int}
abbrev hld(st:List (Int × Int))(t:Int):Int:=((st.filter λx=>decide (x.1<=t)).map (·.2)).getLastD 0
abbrev Dwn:List (Int × Int)->Prop
 |x::y::st=>x.1 < y.1/\y.2 < x.2/\Dwn (y::st)
 |_=>True
def fj:∀ {st:List (Int × Int)} {x y:Int × Int},Dwn (x::st)->y ∈ st->x.1 < y.1/\y.2 < x.2
 |[],_,_,_,h=>by cases h
 |w::st,x,y,d,h=>by
  obtain⟨a,b,d⟩:=d;rcases Zk.mp h with rfl |h
  ·exact⟨a,b⟩
  ·have:=fj d h;exact⟨by lia,by lia⟩
def Dwn.tail(d:Dwn (x::st)):Dwn st:=by
 cases st with
 |nil=>exact True.intro
 |cons y st=>exact d.2.2
def KS(h:∀x ∈ st,x.1<=t ↔ x.1<=u):hld st t=hld st u:=by
 have e:(st.filter λx=>decide (x.1<=t))=st.filter λx=>decide (x.1<=u):=X5 λx b=>decide_eq_decide.mpr (h x b);unfold hld;rw[e]
def gm(d:Dwn (x::st))(h:x.1<=t):hld (x::st) t=if st.all (λy=>decide (t < y.1))=aT then x.2 else hld st t:=by
 unfold hld;rw[Ye,if_pos (decide_eq_true h),Zx];by_cases a:st.all (λy=>decide (t < y.1))=aT
 ·rw[if_pos a]
  have:(st.filter λx=>decide (x.1<=t))=[]:=ZR.mpr λy b=>by
   have:=of_decide_eq_true (ZJ.mp a y b);rw[decide_eq_true_eq];lia
  rw[this];rfl
 ·rw[if_neg a]
  have:(st.filter λx=>decide (x.1<=t)) ≠ []:=λe=>a (ZJ.mpr λy b=>by
   have:=ZR.mp e y b;rw[decide_eq_true_eq] at this ⊢;lia)
  cases e:(st.filter λx=>decide (x.1<=t)) with
  |nil=>exact absurd e this
  |cons y l=>rw[Zx];rfl
def mL:∀ {st:List (Int × Int)} {t u:Int},Dwn st->∀ {x:Int × Int},st.head?=aa x->x.1<=t->t<=u->hld st u<=hld st t
 |[],_,_,_,_,h,_,_=>by cases h
 |y::st,t,u,d,x,h,h1,h2=>by
  cases h;rw[gm d h1,gm d (by lia)];by_cases a:st.all (λy=>decide (t < y.1))=aT
  ·rw[if_pos a];split
   ·exact ZI _
   ·rename_i b;cases st with
    |nil=>exact absurd rfl b
    |cons w st=>
     have c:w.1<=u:=by
      refine Xf.mp λz=>b (ZJ.mpr λy hy=>decide_eq_true ?_);rcases Zk.mp hy with rfl |hy
      ·exact z
      ·have:=(fj d.2.2 hy).1;lia
     have:hld (w::st) u<=hld (w::st) w.1:=mL d.2.2 rfl (ZI _) c
     have e:hld (w::st) w.1=w.2:=by
      rw[gm d.2.2 (ZI _),if_pos];exact ZJ.mpr λy hy=>decide_eq_true (fj d.2.2 hy).1
     have:=d.2.1
     lia
  ·rw[if_neg a];have b:¬ st.all (λy=>decide (u < y.1))=aT:=λb=>a (ZJ.mpr λy hy=>decide_eq_true (by have:=of_decide_eq_true (ZJ.mp b y hy);lia));rw[if_neg b];cases st with
   |nil=>exact absurd rfl a
   |cons w st=>
    have c:w.1<=t:=by
     refine Xf.mp λz=>a (ZJ.mpr λy hy=>decide_eq_true ?_);rcases Zk.mp hy with rfl |hy
     ·exact z
     ·have:=(fj d.2.2 hy).1;lia
    exact mL d.tail rfl c h2
def BB:∀ {st:List (Int × Int)},Dwn st->∀ {x y:Int × Int},st.head?=aa x->st.getLast?=aa y->x.1<=t->y.2<=hld st t
 |[],_,_,_,h,_,_=>by cases h
 |[w],d,x,y,h,g,h1=>by
  cases h;cases g;rw[gm d h1];exact ZI _
 |w::v::st,d,x,y,h,g,h1=>by
  cases h;rw[Xs] at g;rw[gm d h1];by_cases a:(v::st).all (λy=>decide (t < y.1))=aT
  ·rw[if_pos a];have b:=YA g;have:=(fj d b).2
   lia
  ·rw[if_neg a]
   have c:v.1<=t:=by
    refine Xf.mp λz=>a (ZJ.mpr λy hy=>decide_eq_true ?_);rcases Zk.mp hy with rfl |hy
    ·exact z
    ·have:=(fj d.2.2 hy).1;lia
   exact BB d.2.2 rfl g c
abbrev hiR(K:Sky)(g:Int):Int:=if 0 < gi K.G g 6 then gi K.G g 6 else K.r
structure Stp(K:Sky)(z:Int × Int)(st:List (Int × Int)):Prop where
 hd:∃r,st.head?=aa (jn K z.1,r)/\r<=hiR K z.1
 la:∃m,st.getLast?=aa (m,1)/\ae K m z=aT
 dw:Dwn st
structure Rgt(K:Sky)(L:List (Int × Int))(f:Int->List (Int × Int)):Prop where
 each:∀z ∈ L,if ae K (jn K z.1) z=aT then Stp K z (f z.1) else f z.1=[]
 pair:∀ (i j:Nat) (y z:Int × Int),i < j->L[i]?=aa y->L[j]?=aa z->∀x ∈ f y.1++f z.1,ae K x.1 y=aT->ae K x.1 z=aT->hld (f y.1) x.1 < hld (f z.1) x.1
variable {f:Int->List (Int × Int)}
def eJ(h:ae K t z=aT):ae K (jn K z.1) z=aT:=by
 simp only[ae,bAE,decide_eq_true_eq] at h ⊢
 lia
def Rgt.stp(R:Rgt K L f)(b:z ∈ L)(h:ae K t z=aT):Stp K z (f z.1):=by
 have:=R.each z b
 rwa [if_pos (eJ h)] at this
def Rgt.pos(R:Rgt K L f)(g:z ∈ L)(h:ae K t z=aT):1<=hld (f z.1) t:=by
 have s:=R.stp g h;obtain⟨r,c,_⟩:=s.hd;obtain⟨m,b,_⟩:=s.la;simp only[ae,bAE,decide_eq_true_eq] at h;exact BB s.dw c b h.1
def Rgt.down(R:Rgt K L f)(g:z ∈ L)(h:ae K t z=aT)(b:t<=u):hld (f z.1) u<=hld (f z.1) t:=by
 have s:=R.stp g h;obtain⟨r,c,_⟩:=s.hd;simp only[ae,bAE,decide_eq_true_eq] at h;exact mL s.dw c h.1 b
def BC:∀ (l:List Int),(∃x ∈ l,x<=t)->∃m ∈ l,m<=t/\∀x ∈ l,x<=t->x<=m
 |[],⟨x,h,_⟩=>by cases h
 |a::l,⟨x,h,hx⟩=>by
  by_cases e:∃x ∈ l,x<=t
  ·obtain⟨m,o,n,g⟩:=BC l e;by_cases b:a<=t/\m < a
   ·exact⟨a,Zj,b.1,λy hy c=>by
     rcases Zk.mp hy with rfl |hy
     ·exact ZI _
     ·have:=g y hy c;lia⟩
   ·exact⟨m,Zm _ o,n,λy hy c=>by
     rcases Zk.mp hy with rfl |hy
     ·lia
     ·exact g y hy c⟩
  ·have j:a<=t:=by
    rcases Zk.mp h with rfl |h
    ·exact hx
    ·exact absurd ⟨x,h,hx⟩ e
   exact⟨a,Zj,j,λy hy c=>by
    rcases Zk.mp hy with rfl |hy
    ·exact ZI _
    ·exact absurd ⟨y,hy,c⟩ e⟩
def Rgt.all(R:Rgt K L f){i j:Nat}(o:i < j)(C:L[i]?=aa y)(B:L[j]?=aa z)(E:ae K t y=aT)(q:ae K t z=aT):hld (f y.1) t < hld (f z.1) t:=by
 have U:=R.stp (Ze C) E;have sz:=R.stp (Ze B) q;obtain⟨r,Q,_⟩:=U.hd;obtain⟨T,p,_⟩:=sz.hd;have m1:(jn K y.1,r) ∈ f y.1:=Xm Q;have J:(jn K z.1,T) ∈ f z.1:=Xm p;have b:=E;have n:=q;simp only[ae,bAE,decide_eq_true_eq] at b n;obtain⟨m,I,mt,mx⟩:=BC (t:=t) ((f y.1++f z.1).map (·.1)) ⟨jn K y.1,ZA.mpr ⟨_,Z9 _ m1,rfl⟩,b.1⟩;obtain⟨x,O,rfl⟩:=ZA.mp I;have Y:jn K y.1<=x.1:=mx _ (ZA.mpr ⟨_,Z9 _ m1,rfl⟩) b.1;have Z:jn K z.1<=x.1:=mx _ (ZA.mpr ⟨_,ZG _ J,rfl⟩) n.1;have e:∀g,(∀v ∈ g,v ∈ f y.1++f z.1)->hld g t=hld g x.1:=λg X=>KS λv c=>⟨λh=>mx _ (ZA.mpr ⟨v,X v c,rfl⟩) h,λh=>by lia⟩;rw[e _ λv c=>Z9 _ c,e _ λv c=>ZG _ c];exact R.pair i j y z o C B x O (by simp only[ae,bAE,decide_eq_true_eq];lia) (by simp only[ae,bAE,decide_eq_true_eq];lia)
def Rgt.many(R:Rgt K L f)(u:Int):∀ (k:Nat) (B:Int),1<=B->(∀ (i:Nat) (y:Int × Int),i < k->L[i]?=aa y->ae K u y=aT->hld (f y.1) u < B)->1+(wts K (L.take k) u:Int)<=B
 |0,B,hB,_=>by rw[Wk];show 1+(0:Int)<=B;lia
 |k+1,B,hB,h=>by
  cases e:L[k]? with
  |none=>
   have:L.take (k+1)=L.take k:=by
    rw[ZZ (by have:=ZW.mp e;lia),ZZ (ZW.mp e)]
   rw[this];exact R.many u k B hB λi y hi=>h i y (by lia)
  |some y=>
   have E:L.take (k+1)=L.take k++[y]:=by rw[Y0,e];rfl
   have j:wts K (L.take (k+1)) u=wts K (L.take k) u+if ae K u y=aT then 1 else 0:=by
    unfold wts;rw[E,YX,Zi,Ye];split <;> simp
   rw[j];by_cases w:ae K u y=aT
   ·rw[if_pos w];have a:=h k y (by lia) e w;have b:=R.many u k (hld (f y.1) u) (R.pos (Ze e) w) λi x hi c g=>R.all hi c e g w
    lia
   ·rw[if_neg w];have:=R.many u k B hB λi y hi=>h i y (by lia)
    lia
def Rgt.least(R:Rgt K L f){j:Nat}(h:L[j]?=aa z)(w:ae K t z=aT):aQ K (L.take j) z t<=hld (f z.1) t:=by
 have b:=w;simp only[ae,bAE,decide_eq_true_eq] at b;obtain⟨u,o,q,p⟩:=kg (K:=K) (A:=L.take j) (z:=z) t b.2;have c:ae K u z=aT:=by simp only[ae,bAE,decide_eq_true_eq];lia
 have:=R.many u j (hld (f z.1) u) (R.pos (Ze h) c) λi y hi n g=>R.all hi n h g c;have:=R.down (Ze h) w o
 lia
end Lw
namespace Lw
open PySem Ev Sn L2
variable {K:Sky} {A L:List (Int × Int)} {z:Int × Int} {st:List (Int × Int)} {t u:Int}
def rQ:∀ {st:List (Int × Int)} {x y:Int × Int},Dwn st->st.getLast?=aa y->y.1 < x.1->x.2 < y.2->Dwn (st++[x])
 |[],_,_,_,h,_,_=>by cases h
 |[w],x,y,_,h,a,b=>by cases h;exact⟨a,b,True.intro⟩
 |w::v::st,x,y,d,h,a,b=>by
  rw[Xs] at h;exact⟨d.1,d.2.1,rQ d.2.2 h a b⟩
def BD(st:List (Int × Int))(x:Int × Int):hld (st++[x]) t=if x.1<=t then x.2 else hld st t:=by
 unfold hld;rw[YX,Ye];by_cases c:x.1<=t
 ·rw[if_pos (decide_eq_true c),if_pos c,Wi,Zq,List.map_singleton,Xh,XF];rfl
 ·rw[if_neg (by rw[decide_eq_true_eq];exact c),if_neg c,Wi,Z4]
def rR(h:∀x ∈ st,x.1<=t)(b:st.getLast?=aa y):hld st t=y.2:=by
 unfold hld;rw[XM.mpr λx c=>decide_eq_true (h x c),Xh,List.getLast?_map,b];rfl
noncomputable abbrev fls(g:Int->Int)(J:Int)(n:Nat):List (Int × Int):=((Zh n).map λ(i:Nat)=>(J+i,g (J+i))).foldl gk []
def NU(g:Int->Int)(J:Int)(n:Nat):fls g J (n+1)=gk (fls g J n) (J+n,g (J+n)):=by
 unfold fls;rw[Ys,Zq,YO];rfl
def BE(g:Int->Int)(J:Int):∀ (m:Nat),(∀i:Nat,i < m->g (J+i+1)<=g (J+i)) ->
  (fls g J (m+1)).head?=aa (J,g J)/\(∀x ∈ fls g J (m+1),x.1<=J+m)/\(∃y,(fls g J (m+1)).getLast?=aa y/\y.2=g (J+m))/\Dwn (fls g J (m+1))/\∀i:Nat,i<=m->hld (fls g J (m+1)) (J+i)=g (J+i)
 |0,_=>by
  have e:fls g J 1=[(J,g J)]:=by
   show[(J+((0:Nat):Int),g (J+((0:Nat):Int)))]=_;rw[show J+((0:Nat):Int)=J by lia]
  rw[e];refine⟨rfl,λx hx=>by rw[Zu.mp hx];show J<=_;lia,⟨_,rfl,by show g J=_;rw[show J+((0:Nat):Int)=J by lia]⟩,True.intro,λi hi=>?_⟩;rw[show J+(i:Int)=J by lia];exact rR (y:=(J,g J)) (λx hx=>by rw[Zu.mp hx];exact ZI _) rfl
 |m+1,h=>by
  obtain⟨a,b,⟨y,c,C⟩,d,e⟩:=BE g J m λi hi=>h i (by lia);rw[NU];have E:J+((m+1:Nat):Int)=J+m+1:=by lia
  rw[E];have j:=h m (by lia);have B:=b y (YA c);unfold gk;rw[c];dsimp only;split
  ·rename_i q;refine⟨a,λx hx=>by have:=b x hx;lia,⟨y,c,q⟩,d,λi hi=>?_⟩;by_cases z:i<=m
   ·exact e i z
   ·rw[show J+(i:Int)=J+m+1 by lia,rR (λx hx=>by have:=b x hx;lia) c,q]
  ·rename_i q;refine⟨?_,λx hx=>?_,⟨_,XF,rfl⟩,rQ d c (by show _ < J+m+1;lia) (by show g _ < _;lia),λi hi=>?_⟩
   ·cases f:fls g J (m+1) with
    |nil=>rw[f] at c;cases c
    |cons w l=>rw[f] at a;exact a
   ·rcases ZM.mp hx with hx |hx
    ·have:=b x hx;lia
    ·rw[Zu.mp hx];exact ZI _
   ·rw[BD];split
    ·rename_i z;have:J+(m:Int)+1<=J+i:=z;rw[show J+(i:Int)=J+m+1 by lia]
    ·rename_i z;have:¬ J+(m:Int)+1<=J+i:=z;exact e i (by lia)
variable (ha:Kps K L)
def KU(c:SkOk K)(ha:Kps K L)(r0:0<=K.r)(t:Int):(wts K L t:Int)<=K.r:=Xf.mp λh=>by
 obtain⟨u,b,_,h⟩:=Bo (ha.inG) r0 h;have:=ha.cr u b
 lia
def BF{j:Nat}(g:L[j]?=aa z)(w:ae K t z=aT){i:Nat}(hi:j < i):wts K (L.take j) t+1<=wts K (L.take i) t:=by
 have e:L.take i=L.take j++(z::(L.take i).drop (j+1)):=by
  have h:=(List.take_append_drop j (L.take i)).symm;rw[List.take_take,Y8 (by lia)] at h;refine h.trans (congrArg _ ?_);have c:(L.take i)[j]?=aa z:=by rw[List.getElem?_take,if_pos hi];exact g
  obtain⟨f,b⟩:=Zb.mp c;rw[Xg f,b]
 unfold wts;rw[e,YX,Zi,Ye,if_pos w,ZD]
 lia
def NV(c:SkOk K)(ha:Kps K L)(r0:0<=K.r){j:Nat}(h:L[j]?=aa z)(w:ae K t z=aT):aQ K (L.take j) z t<=K.r:=by
 simp only[ae,bAE,decide_eq_true_eq] at w;obtain⟨u,n,g,f⟩:=kg (K:=K) (A:=L.take j) (z:=z) t w.2;have a:=KU c ha r0 u;have b:=BF (K:=K) (t:=u) h (by simp only[ae,bAE,decide_eq_true_eq];lia) (i:=L.length) (Zb.mp h).1;rw[Yx] at b
 lia
def NW(n:SkOk K)(ha:Kps K L)(r0:0<=K.r){j:Nat}(h:L[j]?=aa z)(w:ae K t z=aT):aQ K (L.take j) z t<=hiR K z.1:=by
 unfold hiR;split
 ·rename_i g;have b:=w;simp only[ae,bAE,decide_eq_true_eq] at b;obtain⟨u,o,f,c⟩:=kg (K:=K) (A:=L.take j) (z:=z) t b.2;rw[c];exact ha.hi j z u h g (by lia) f
 ·exact NV n ha r0 h w
def NX(o:SkOk K)(ha:Kps K L){i j:Nat}(h:i < j)(g:L[i]?=aa y)(q:L[j]?=aa z)(f:ae K t y=aT)(n:ae K t z=aT):aQ K (L.take i) y t < aQ K (L.take j) z t:=by
 simp only[ae,bAE,decide_eq_true_eq] at f n;obtain⟨u,p,B,v⟩:=kg (K:=K) (A:=L.take i) (z:=y) t f.2;have a:=pX o ha j z q i y h g;have b:=BF (K:=K) (t:=u) g (by simp only[ae,bAE,decide_eq_true_eq];lia) h;have c:=rJ (Bw (j:=j) ha) n.1 p (by lia)
 lia
def BG(b:SkOk K)(ha:Kps K L){j:Nat}(h:L[j]?=aa z):stG K L z.1=fls (aQ K (L.take j) z) (jn K z.1) (z.2 - K.s - jn K z.1).toNat:=by
 unfold stG;rw[Bx ha h,Fg b ha h]
def i9(f:SkOk K)(ha:Kps K L)(r0:0<=K.r){j:Nat}(g:L[j]?=aa z)(w:ae K (jn K z.1) z=aT):Stp K z (stG K L z.1)/\∀t,ae K t z=aT->hld (stG K L z.1) t=aQ K (L.take j) z t:=by
 have v:=w;simp only[ae,bAE,decide_eq_true_eq] at v;have n:=Bw (j:=j) ha;rw[BG f ha g];obtain⟨m,E⟩:∃m,(z.2 - K.s - jn K z.1).toNat=m+1:=⟨(z.2 - K.s - jn K z.1).toNat - 1,by lia⟩;rw[E];obtain⟨a,b,⟨y,c,J⟩,d,e⟩:=BE (aQ K (L.take j) z) (jn K z.1) m λi hi=>vC n (by lia) (by lia);refine⟨⟨⟨_,a,NW f ha r0 g w⟩,?_,d⟩,λt O=>?_⟩
 ·obtain⟨y1,Y⟩:=y
  have B:jn K z.1<=y1:=by
   cases p:fls (aQ K (L.take j) z) (jn K z.1) (m+1) with
   |nil=>rw[p] at a;cases a
   |cons x l=>
    have o:=YA c;rw[p] at a o d;cases a;rcases Zk.mp o with h |h
    ·cases h;exact ZI _
    ·have:=(fj d h).1;show jn K z.1<=_;exact Wr this
  have C:=b _ (YA c);refine⟨y1,?_,by simp only[ae,bAE,decide_eq_true_eq];exact⟨B,by show y1 < _;have:y1<=_:=C;lia⟩⟩;rw[c]
  have:Y=1:=by
   have:Y=_:=J;rw[this,E7 n (by lia) (by lia)]
   have:wts K (L.take j) (jn K z.1+m)=0:=by
    unfold wts;rw[Yc,ZR];intro q I;obtain⟨i,hi,rfl⟩:=ZX.mp I;have:=pX f ha j z g i _ (by lia) (gEG (by lia));simp only[ae,bAE,decide_eq_true_eq]
    lia
   rw[this];rfl
  rw[this]
 ·simp only[ae,bAE,decide_eq_true_eq] at O;have:=e (t - jn K z.1).toNat (by lia)
  rwa [show jn K z.1+((t - jn K z.1).toNat:Int)=t by lia] at this
def pY(b:SkOk K)(ha:Kps K L)(r0:0<=K.r):Rgt K L (stG K L):=by
 refine⟨λz h=>?_,λi j y z g n h x _ c f=>?_⟩
 ·obtain⟨j,o⟩:=Yo h;split
  ·rename_i w;exact(i9 b ha r0 o w).1
  ·rename_i w;simp only[ae,bAE,decide_eq_true_eq] at w;rw[BG b ha o,show(z.2 - K.s - jn K z.1).toNat=0 by lia];rfl
 ·rw[(i9 b ha r0 n (eJ c)).2 _ c,(i9 b ha r0 h (eJ f)).2 _ f];exact NX b ha g n h c f
end Lw
namespace Lw
open PySem Ev Sn L2
variable {p:Nat} {S S':Sto} {k:Nat} {Q:D->Sto->Prop} {K:Sky} {L st:List (Int × Int)} {z:Int × Int} {t:Int}
def Fk{B:Type}(l:List B)(E:B->D)(P:B->Prop)(hl:l.length<=1000)(n:∀i S',Sm S S'->nx i S'=aa ((l[i]?).map E))
  (step:∀ (i:Nat) a S',l[i]?=aa a->Sm S S'->∃f,av T (E a) J=aa f/\Ok (c f S') λj C=>∃b:Bool,j=[.bl b]/\(b=aT ↔ P a)/\Sm S' C) (q:∀b S',Sm S S'->(b=aT ↔ ∀a ∈ l,P a)->Q (.bl b) S') :
  Ok (bn nx T c J LF 0 S) λj X=>j.length<=100000/\Ok (jj aW j X) Q:=by
 refine(eC l.length (λi g S'=>Sm S S'/\∃bs:List Bool,g=bs.map D.bl/\bs.length=i/\(bs.all id=aT ↔ ∀a ∈ l.take i,P a)) (by unfold LF;lia) (λi g S' hi ⟨sm,bs,u,v,hb⟩=>?_) (λg S' ⟨sm,_⟩=>?_) ⟨Sm.refl S,[],rfl,rfl,by simp⟩).mono λj S' ⟨sm,bs,u,v,hb⟩=>?_
 ·obtain⟨f,U,j,C,Z,b,e4,I,y⟩:=step i l[i] S' (gEG hi) sm;refine⟨E l[i],f,by rw[n i S' sm,gEG hi];rfl,U,j,C,Z,sm.trans y,bs++[b],by rw[u,e4,Zq];rfl,by rw[Zi,v];rfl,?_⟩;rw[ZQ hi,List.all_append,bAE,hb];simp only[Yl,List.all_nil,Wo,id_eq,I,ZM,Zu];exact⟨λ⟨Y,O⟩ a o=>o.elim (Y a) λe=>e ▸ O,λh=>⟨λa o=>h a (.inl o),h _ (.inr rfl)⟩⟩
 ·rw[n _ S' sm,ZB (Zd _)];rfl
 ·rw[Yx] at hb;subst u;exact⟨by rw[Za,v];lia,ab (kF bs id S') (q _ S' sm hb)⟩
def p_0:ixS (ac z) (.int 0) S=aa (.int z.1,S):=rfl
def p_1:ixS (ac z) (.int 1) S=aa (.int z.2,S):=rfl
def KW(h:ns ≠ []):atI (ns.map D.int) (-1)=aa (.int (ns.getLastD 0)):=by
 rcases Z1 ns with e |⟨ms,y,e⟩
 ·exact absurd e h
 ·rw[Z2] at e;subst e;unfold atI ixN;rw[if_neg (by decide),if_pos (by rw[Za,Zi,Zy];lia)];show((ms++[y]).map D.int)[((-1:Int)+(((ms++[y]).map D.int).length:Int)).toNat]?=_;rw[show((-1:Int)+(((ms++[y]).map D.int).length:Int)).toNat=ms.length by rw[Za,Zi,Zy];lia];simp
def BH{n:Nat}(h:S[n]?=aa (.lst (ns.map D.int)))(b:ns ≠ []):ixS (.ref n) (.int (-1)) S=aa (.int (ns.getLastD 0),S):=by
 rcases Z1 ns with e |⟨ms,y,e⟩
 ·exact absurd e b
 ·rw[Z2] at e;subst e;rw[Zq] at h;rw[dj h];simp
def Gj:((st.filter λx=>decide (x.1<=t)).map λx=>D.int x.2)=((st.filter λx=>decide (x.1<=t)).map (·.2)).map D.int:=by rw[ZO];rfl
def rT{n:Nat}(b:S[n]?=aa (.lst (st.map ac)))(hl:st.length<=1000)(h:∃x ∈ st,x.1<=t)(q:∀S',Sm S S'->Q (.int (hld st t)) S'):Ok (evC aj (k+1) 46 [.ref n,.int t] S) Q:=by
 refine aq (d:=fZ) (ρ:=[aa (.ref n),aa (.int t)]) rfl rfl ?_;dsimp only[fZ,j4];k_is;refine⟨by rw[af b];rfl,?_⟩;refine aF st ac (λx=>if decide (x.1<=t)=aT then [.int x.2] else []) hl (λ_ _=>by split <;> simp) (aJ b) (λi x S' h sm=>⟨_,show av (.tup [.name 2,.name 3]) (.tup [.int x.1,.int x.2]) _=_ from aV (by simp) (by simp),?_⟩) λj g=>?_
 ·k_is;cases decide (x.1<=t) with
  |true=>k_is;exact⟨rfl,Sm.refl _⟩
  |false=>k_is;exact⟨rfl,Sm.refl _⟩
 ·rw[aX,Gj];k_is;refine⟨_,KW λe=>?_,?_⟩
  ·obtain⟨x,f,c⟩:=h;exact ZR.mp (List.map_eq_nil_iff.mp e) x f (decide_eq_true c)
  ·exact q _ g
def ja{n:Nat}(b:S[n]?=aa (.lst (st.map ac)))(hl:st.length<=1000)(q:∀S',Sm S S'->Q (.int (hld st t)) S'):Ok (evC aj (k+1) 66 [.ref n,.int t] S) Q:=by
 refine aq (d:=dQ) (ρ:=[aa (.ref n),aa (.int t),aD]) rfl rfl ?_;dsimp only[dQ,gW];k_is;refine⟨by rw[af b];rfl,?_⟩;refine aF st ac (λx=>if decide (x.1<=t)=aT then [.int x.2] else []) hl (λ_ _=>by split <;> simp) (aJ b) (λi x S' g sm=>⟨_,show av (.tup [.name 3,.name 4]) (.tup [.int x.1,.int x.2]) _=_ from aV (by simp) (by simp),?_⟩) λc f=>?_
 ·k_is;cases decide (x.1<=t) with
  |true=>k_is;exact⟨rfl,Sm.refl _⟩
  |false=>k_is;exact⟨rfl,Sm.refl _⟩
 ·rw[aX,Gj];k_is;refine ab gC ?_;have q:=q _ (f.trans ((Sm.app c [Ob.lst (((st.filter λx=>decide (x.1<=t)).map (·.2)).map D.int)]).trans (Sm.app _ [Ob.lst []])));unfold hld at q;cases h:(st.filter λx=>decide (x.1<=t)).map (·.2) with
  |nil=>
   rw[h] at q;rw[show(!(([]:List Int).map D.int).isEmpty)=aW from rfl];k_is;exact q
  |cons a l=>
   rw[h] at q;rw[show(!((a::l).map D.int).isEmpty)=aT from rfl];k_is;refine ab (BH (Sm.app _ _ _ _ ai) (by simp)) ?_;exact q
def KY(V:Vd K){g:Int}(g0:0<=g)(g1:g < K.G.length)(q:Q (.int (hiR K g)) S):Ok (evC aj (k+1) 44 [skE K,.int g] S) Q:=by
 refine aq (d:=cQ) (ρ:=[aa (skE K),aa (.int g),aD]) rfl rfl ?_;dsimp only[cQ,fN];obtain⟨a,b,c,d,e,f,h,E,o,u,n,v,j,_⟩:=gl7 V g0 g1;unfold hiR at q;rw[j] at q;k_is;refine ab sk2 (ab (bV g0 E) (ab (show ixS (au [a,b,c,d,e,f,h]) (.int 6) S=aa (.int h,S) from rfl) ?_));k_is;cases C:decide (0 < h) with
 |true=>rw[if_pos (of_decide_eq_true C)] at q;k_is;exact q
 |false=>rw[if_neg (of_decide_eq_false C)] at q;k_is;exact ab sk0 (ab me0 q)
def Fm(q:Q (.bl (decide (x.1 < y.1) && decide (y.2 < x.2))) S):Ok (evC aj (k+1) 43 [ac x,ac y] S) Q:=by
 refine aq (d:=fY) (ρ:=[aa (ac x),aa (ac y)]) rfl rfl ?_;dsimp only[fY,j3];k_is;refine ab p_0 (ab p_0 ?_);k_is;cases c:decide (x.1 < y.1) with
 |false=>rw[c] at q;k_is;exact q
 |true=>rw[c] at q;k_is;refine ab p_1 (ab p_1 ?_);k_is;exact q
def Fn:∀ {st:List (Int × Int)},Dwn st ↔ ∀ (i:Nat) x y,st[i]?=aa x->st[i+1]?=aa y->x.1 < y.1/\y.2 < x.2
 |[]=>⟨λ_ i x y h=>by simp at h,λ_=>True.intro⟩
 |[w]=>⟨λ_ i x y h f=>by simp at f,λ_=>True.intro⟩
 |w::v::st=>by
  have I:=Fn (st:=v::st);refine⟨λd i x y c b=>?_,λh=>?_⟩
  ·cases i with
   |zero=>cases c;cases b;exact⟨d.1,d.2.1⟩
   |succ i=>exact I.mp d.2.2 i x y c b
  ·have:=h 0 w v rfl rfl;exact⟨this.1,this.2,I.mpr λi x y c b=>h (i+1) x y c b⟩
def BI(V:Vd K){n:Nat}(T:S[n]?=aa (.lst (st.map ac)))(hl:st.length<=100)(g0:0<=z.1)(g1:z.1 < K.G.length)(q:∀b S',Sm S S'->(b=aT ↔ if ae K (jn K z.1) z=aT then Stp K z st else st=[])->Q (.bl b) S'):Ok (evC aj (k+4) 42 [skE K,ac z,.ref n] S) Q:=by
 refine aq (d:=fX) (ρ:=[aa (skE K),aa (ac z),aa (.ref n),aD]) rfl rfl ?_;dsimp only[fX,jZ];obtain⟨a,b,c,d,e,f,h,eg,_,e1,_⟩:=gl7 V g0 g1;k_is;refine ab (mv T) ?_;rw[show(bU .list "list")=aT from rfl];k_is;refine⟨by rw[af T];rfl,?_⟩;refine mV st ac (by lia) (aJ T) (λi x S' hx sm=>⟨_,rfl,?_⟩) λo C=>?_
 ·k_is;exact⟨rfl,Bq (k:=k+1) ⟨rfl,Sm.refl _⟩⟩
 k_is;have B:=C _ _ T;refine ab sk2 (ab p_0 (ab (bV g0 eg) (ab (show ixS (au [a,b,c,d,e,f,h]) (.int 1) o=aa (.int b,o) from rfl) ?_)));rw[<-(show jn K z.1=b from e1)];k_is;refine⟨rfl,bT V g0 g1 ?_⟩;k_is;have tr:fG (.ref n) o=aa (!(st.map ac).isEmpty,o):=by simp only[fG,af B]
 cases cw:ae K (jn K z.1) z with
 |false=>
  k_is;refine ab tr ?_;k_is;refine q _ o C ?_;rw[cw,if_neg (by decide)];cases st <;> simp
 |true=>
  rw[cw,if_pos rfl] at q;have no:∀S',Sm S S'->¬ Stp K z st->Q (.bl aW) S':=λS' s' h=>q aW S' s' ⟨λe=>absurd e Zf,λe=>absurd e h⟩;k_is;refine ab tr ?_;cases st with
  |nil=>
   rw[show(!!(([]:List (Int × Int)).map ac).isEmpty)=aT from rfl];k_is;exact no o C λh=>by obtain⟨r,h,_⟩:=h.hd;cases h
  |cons x g=>
  rw[show(!!((x::g).map ac).isEmpty)=aW from rfl];k_is;have Y:ixS (.ref n) (.int 0) o=aa (ac x,o):=aY B (ZI _) rfl
  obtain⟨l,y,el⟩:∃l y,x::g=l++[y]:=by
   rcases Z1 (x::g) with e |⟨l,y,e⟩
   ·cases e
   ·exact⟨l,y,by rw[e,Z2]⟩
  have hy:ixS (.ref n) (.int (-1)) o=aa (ac y,o):=dj (ds:=l.map ac) (e:=ac y) (by rw[B,el,Zq];rfl);have X:(x::g).getLast?=aa y:=by rw[el];simp
  refine ab Y (ab p_0 ?_);k_is;cases c1:decide (x.1=jn K z.1) with
  |false=>
   k_is;exact no o C λh=>by obtain⟨r,h,_⟩:=h.hd;cases h;exact of_decide_eq_false c1 rfl
  |true=>
  k_is;refine ab hy (ab p_0 ⟨rfl,bT V g0 g1 ?_⟩);k_is;cases Z:ae K y.1 z with
  |false=>
   k_is;exact no o C λh=>by obtain⟨m,h,w⟩:=h.la;rw[X] at h;cases h;rw[Z] at w;cases w
  |true=>
  k_is;refine ab Y (ab p_1 (ab p_0 ⟨rfl,KY V g0 g1 ?_⟩));k_is;cases c3:decide (hiR K z.1 < x.2) with
  |true=>
   k_is;exact no o C λh=>by obtain⟨r,h,w⟩:=h.hd;cases h;have:=of_decide_eq_true c3;lia
  |false=>
  k_is;refine ab hy (ab p_1 ?_);k_is;cases c4:decide (y.2=1) with
  |false=>
   k_is;exact no o C λh=>by obtain⟨m,h,w⟩:=h.la;rw[X] at h;cases h;exact of_decide_eq_false c4 rfl
  |true=>
  k_is;refine ab (b9 B) ?_;k_is;rw[Za];refine⟨⟨by decide,cA (by lia) (by lia)⟩,?_⟩;refine Fk (Zh g.length) (λ(j:Nat)=>D.int (1+(j:Int))) (λj=>∀u v,(x::g)[j]?=aa u->(x::g)[j+1]?=aa v->u.1 < v.1/\v.2 < u.2) (by rw[ZK];rw[ZD] at hl;lia) (λi S' _=>?_) (λi j S2 hj sm=>⟨_,rfl,?_⟩) λb S2 s2 hb=>?_
  ·have e:((((x::g).length:Nat):Int) - 1).toNat=g.length:=by rw[ZD];lia
   rw[e];show aa (if i < g.length then aa (D.int (1+(i:Int))) else aD)=_;split
   ·rename_i h;rw[Yj h];rfl
   ·rename_i h;rw[ZB (by rw[ZK];lia)];rfl
  ·obtain⟨U,I⟩:=Zb.mp hj;rw[XX] at I;rw[ZK] at U;subst I;have J:=sm _ _ B;obtain⟨u,hu⟩:∃u,(x::g)[i]?=aa u:=⟨_,gEG (by rw[ZD];lia)⟩;obtain⟨v,hv⟩:∃v,(x::g)[i+1]?=aa v:=⟨_,gEG (by rw[ZD];lia)⟩;rw[hu,hv];k_is;rw[show(1:Int)+(i:Int) - 1=((i:Nat):Int) by lia,show(1:Int)+(i:Int)=((i+1:Nat):Int) by lia];refine ab (aY J (by lia) (fB hu)) (ab (aY J (by lia) (fB hv)) ⟨rfl,Fm ?_⟩);refine⟨_,rfl,?_,Sm.refl _⟩;rw[bAE,decide_eq_true_eq,decide_eq_true_eq];exact⟨λh u v O E=>by cases O;cases E;exact h,λh=>h u v rfl rfl⟩
  ·k_is;refine q b S2 (C.trans s2) (hb.trans ⟨λh=>⟨⟨x.2,by rw[<-of_decide_eq_true c1];rfl,by have:=of_decide_eq_false c3;lia⟩,⟨y.1,by rw[X,<-of_decide_eq_true c4],Z⟩,Fn.mpr λi u v O E=>h i (Z6.mpr (by have:=(Zb.mp E).1;rw[ZD] at this;lia)) u v O E⟩,λh j hj u v O E=>Fn.mp h.dw j u v O E⟩)
end Lw
namespace Lw
open PySem Ev Sn L2
variable {p N:Nat} {S S':Sto} {k:Nat} {Q:D->Sto->Prop} {K:Sky} {L:List (Int × Int)} {y z:Int × Int} {f:Int->List (Int × Int)} {ds:List D}
structure Hol(p:Nat)(S:Sto)(K:Sky)(N:Nat)(f:Int->List (Int × Int))(ds:List D):Prop where
 ne:N ≠ p
 at_:S[N]?=aa (.lst ds)
 len:ds.length=K.G.length
 row:∀g:Nat,g < K.G.length->∃r,ds[g]?=aa (.ref r)/\r ≠ p/\S[r]?=aa (.lst ((f g).map ac))/\(f g).length<=100
def Hol.keep(h:Hol p S K N f ds)(c:Ev.Kp p S S'):Hol p S' K N f ds:=⟨h.ne,c _ _ h.ne h.at_,h.len,λg j=>let ⟨r,a,b,d,e⟩:=h.row g j;⟨r,a,b,c _ _ b d,e⟩⟩
def Hol.ix(h:Hol p S K N f ds){g:Int}(g0:0<=g)(g1:g < K.G.length):∃r,ixS (.ref N) (.int g) S=aa (.ref r,S)/\r ≠ p/\S[r]?=aa (.lst ((f g).map ac))/\(f g).length<=100:=by
 obtain⟨r,a,b,c,d⟩:=h.row g.toNat (by lia);rw[show((g.toNat:Nat):Int)=g by lia] at c d;exact⟨r,aY h.at_ g0 a,b,c,d⟩
def BJ(V:Vd K)(h:Hol p S K N f ds)(Y:0<=y.1)(T:y.1 < K.G.length)(Z:0<=z.1)(I:z.1 < K.G.length)(hy:ae K (jn K y.1) y=aT->Stp K y (f y.1))(hz:ae K (jn K z.1) z=aT->Stp K z (f z.1))
  (q:∀b S',Sm S S'->(b=aT ↔ ∀x ∈ f y.1++f z.1,ae K x.1 y=aT->ae K x.1 z=aT->hld (f y.1) x.1 < hld (f z.1) x.1)->Q (.bl b) S'):Ok (evC aj (k+2) 45 [skE K,.ref N,ac y,ac z] S) Q:=by
 refine aq (d:=dJ) (ρ:=[aa (skE K),aa (.ref N),aa (ac y),aa (ac z),aD,aD,aD,aD]) rfl rfl ?_;dsimp only[dJ,gS];obtain⟨r1,i1,_,E,l1⟩:=h.ix Y T;obtain⟨r2,i2,_,a2,l2⟩:=h.ix Z I;k_is;refine ab p_0 (ab i1 (ab p_0 (ab i2 ?_)));k_is;refine ab (dm E a2 (by rw[Za,Za];lia)) ?_;rw[<-Zq];have s1:Sm S (S++[Ob.lst ((f y.1++f z.1).map ac)]):=Sm.app _ _;have C:(S++[Ob.lst ((f y.1++f z.1).map ac)])[Zc S]?=aa (Ob.lst ((f y.1++f z.1).map ac)):=ai;generalize Zc S=N1 at *;generalize S++[Ob.lst ((f y.1++f z.1).map ac)]=S1 at *;have la:(f y.1++f z.1).length<=200:=by rw[Zi];lia
 refine⟨by rw[af C];rfl,?_⟩;refine aF (f y.1++f z.1) ac (λx=>[.int x.1]) (by lia) (λ_ _=>Zd _) (aJ C) (λi x S' u sm=>⟨_,show av (.tup [.name 8,.name 9]) (.tup [.int x.1,.int x.2]) _=_ from aV (by simp) (by simp),?_⟩) λn s2=>?_
 ·k_is;exact⟨rfl,Sm.refl _⟩
 rw[aK,fh];k_is;have s3:Sm n (n++[Ob.lst (((f y.1++f z.1).map (·.1)).map D.int)]):=Sm.app _ _;have X:(n++[Ob.lst (((f y.1++f z.1).map (·.1)).map D.int)])[Zc n]?=aa (Ob.lst (((f y.1++f z.1).map (·.1)).map D.int)):=ai;have sA:=(s1.trans s2).trans s3;generalize Zc n=N3 at *;generalize n++[Ob.lst (((f y.1++f z.1).map (·.1)).map D.int)]=S3 at *;refine⟨by rw[af X];rfl,?_⟩;refine aF ((f y.1++f z.1).map (·.1)) D.int (λt=>if (ae K t y && ae K t z)=aT then [D.int t] else []) (by rw[Za];lia) (λ_ _=>by split <;> simp) (aJ X) (λi t S' c sm=>⟨_,rfl,?_⟩) λj s4=>?_
 ·k_is;refine⟨rfl,bT V Y T ?_⟩;k_is;cases ae K t y with
  |false=>k_is;exact⟨rfl,Sm.refl _⟩
  |true=>
   k_is;refine⟨rfl,bT V Z I ?_⟩;k_is;cases ae K t z with
   |false=>k_is;exact⟨rfl,Sm.refl _⟩
   |true=>k_is;exact⟨rfl,Sm.refl _⟩
 rw[aX];k_is;have s5:Sm j (j++[Ob.lst ((((f y.1++f z.1).map (·.1)).filter λt=>ae K t y && ae K t z).map D.int)]):=Sm.app _ _;have O:(j++[Ob.lst ((((f y.1++f z.1).map (·.1)).filter λt=>ae K t y && ae K t z).map D.int)])[Zc j]?=aa (Ob.lst ((((f y.1++f z.1).map (·.1)).filter λt=>ae K t y && ae K t z).map D.int)):=ai;have B:=(sA.trans s4).trans s5;generalize Zc j=N5 at *;generalize j++[Ob.lst ((((f y.1++f z.1).map (·.1)).filter λt=>ae K t y && ae K t z).map D.int)]=S5 at *;refine⟨by rw[af O];rfl,?_⟩
 have first:∀w:Int × Int,(ae K (jn K w.1) w=aT->Stp K w (f w.1))->∀t,ae K t w=aT->∃x ∈ f w.1,x.1<=t:=λw o t c=>by
  obtain⟨r,hr,_⟩:=(o (eJ c)).hd;simp only[ae,bAE,decide_eq_true_eq] at c;exact⟨_,Xm hr,c.1⟩
 refine Fk (((f y.1++f z.1).map (·.1)).filter λt=>ae K t y && ae K t z) D.int (λt=>hld (f y.1) t < hld (f z.1) t) (ZH (ZV _ _) (by rw[Za];lia)) (aJ O) (λi t U c sm=>⟨_,rfl,?_⟩) λb U s6 hb=>?_
 ·have o:=(ZP.mp (Ze c)).2;rw[bAE] at o;k_is;refine⟨rfl,rT (sm _ _ (B _ _ E)) (by lia) (first y hy t o.1) λS7 J=>?_⟩;k_is;refine⟨rfl,rT (J _ _ (sm _ _ (B _ _ a2))) (by lia) (first z hz t o.2) λS8 s8=>?_⟩;k_is;exact⟨_,rfl,decide_eq_true_iff,J.trans s8⟩
 ·k_is;refine q b U (B.trans s6) (hb.trans ⟨λg x u w1 w2=>g x.1 (ZP.mpr ⟨ZA.mpr ⟨x,u,rfl⟩,by rw[w1,w2];rfl⟩),λg t c=>?_⟩);obtain⟨h1,v⟩:=ZP.mp c;obtain⟨x,u,rfl⟩:=ZA.mp h1;rw[bAE] at v;exact g x u v.1 v.2
def mM(sk:SkOk K)(J:Kps K L){n:Nat}(hn:S[n]?=aa (.lst (L.map ac)))(h:Hol p S K N f ds)(q:∀b S',Sm S S'->(b=aT ↔ Rgt K L f)->Q (.bl b) S'):Ok (evC aj (k+11) 37 [skE K,.ref n,.ref N] S) Q:=by
 have V:=sk.vd;have l7:L.length<=7:=ZH J.len sk.g7;refine aq (d:=eZ) (ρ:=[aa (skE K),aa (.ref n),aa (.ref N),aD]) rfl rfl ?_;dsimp only[eZ,iW];k_is;refine⟨rfl,mJ (k:=k) sk hn J λS1 s1=>?_⟩;have o:=h.keep s1.kp;have C:=s1 _ _ hn;k_is;refine ab (mv o.at_) ?_;rw[show(bU .list "list")=aT from rfl];k_is;refine ab (b9 o.at_) (ab sk2 (ab bp ?_));k_is;rw[o.len,decide_eq_true rfl];k_is;k_is;refine⟨by rw[af C];rfl,?_⟩;refine Fk L ac (λz=>if ae K (jn K z.1) z=aT then Stp K z (f z.1) else f z.1=[]) (by lia) (aJ C) (λi z S' u sm=>⟨_,rfl,?_⟩) λb S2 s2 hb=>?_
 ·have Z:=J.inG z (Ze u);obtain⟨r,i1,_,a1,l1⟩:=(o.keep sm.kp).ix Z.1 Z.2;k_is;refine ab p_0 (ab i1 ⟨rfl,BI (k:=k+6) V a1 l1 Z.1 Z.2 λb c B hb=>?_⟩);exact⟨b,rfl,hb,B⟩
 have X:=s1.trans s2;cases b with
 |false=>
  k_is;exact q aW S2 X ⟨λe=>absurd e Zf,λR=>hb.mpr R.each⟩
 |true=>
 have each:=hb.mp rfl;have h2:=o.keep s2.kp;have I:=s2 _ _ C;k_is;k_is;refine⟨by rw[af I];rfl,?_⟩;refine bL L.length (λi=>.tup [.int i,((L.map ac)[i]?).getD .non]) (λi v S'=>Sm S2 S'/\∃P:List ((Int × Int) × (Int × Int)),v=P.map (λw=>.tup [ac w.1,ac w.2])/\P.length<=7 * i/\∀w,w ∈ P ↔ ∃a b:Nat,a < b/\b < i/\L[a]?=aa w.1/\L[b]?=aa w.2) (λi v S' hi ⟨sm,_⟩=>by rw[<-Za (f:=ac)];exact i5 (sm _ _ I) (by rw[Za];exact hi) (λi=>.tup [.int i,((L.map ac)[i]?).getD .non]) λi d h=>by rw[h];rfl) (by lia) (λi v c hi ⟨B,P,ea,lP,U⟩=>?_) (λes c ⟨B,P,ea,lP,U⟩=>⟨by rw[ea,Za];lia,?_⟩) ⟨Sm.refl _,[],rfl,Yb _,λw=>⟨λh=>absurd h YT,λ⟨a,b,_,h,_⟩=>absurd h (Z7 b)⟩⟩
 ·have u:L[i]?=aa L[i]:=gEG hi;rw[show((L.map ac)[i]?).getD .non=ac L[i] by rw[Zl,u];rfl];refine⟨_,aV (by simp) (by simp),?_⟩;k_is;refine ab (cE (B _ _ I)) ?_;have s4:Sm c (c++[Ob.lst ((L.map ac).take i)]):=Sm.app _ _;have Y:(c++[Ob.lst ((L.map ac).take i)])[Zc c]?=aa (Ob.lst ((L.take i).map ac)):=by rw[ai,Yu]
  generalize Zc c=N4 at *;generalize c++[Ob.lst ((L.map ac).take i)]=S4 at *;refine⟨by rw[af Y];rfl,?_⟩;refine(aF (Q:=λes O=>es=(L.take i).map (λy=>.tup [ac y,ac L[i]])/\Sm S4 O) (L.take i) ac (λy=>[.tup [ac y,ac L[i]]]) (by rw[ZC];lia) (λ_ _=>Zd _) (aJ Y) (λi y S' hy sm=>⟨_,rfl,?_⟩) λO E=>?_).mono λes O ⟨_,ee,E⟩=>?_
  ·k_is;exact⟨rfl,Sm.refl _⟩
  ·exact⟨aK _ _,E⟩
  ·refine⟨(B.trans s4).trans E,P++(L.take i).map (λy=>(y,L[i])),by rw[ea,ee,Zq,ZO];rfl,by rw[Zi,Za,ZC];lia,λw=>?_⟩;rw[ZM,U];constructor
   ·rintro(⟨a,b,o,h2,T⟩ |h)
    ·exact⟨a,b,o,by lia,T⟩
    ·obtain⟨y,hy,rfl⟩:=ZA.mp h;obtain⟨a,J,rfl⟩:=ZX.mp hy;exact⟨a,i,by lia,by lia,gEG _,u⟩
   ·rintro⟨a,b,o,h2,T,h4⟩;by_cases e:b=i
    ·subst e;rw[u] at h4;obtain⟨a1,a2⟩:=Zb.mp T;exact .inr (ZA.mpr ⟨w.1,ZX.mpr ⟨a,by lia,a2⟩,by rw[Option.some.inj h4]⟩)
    ·exact .inl ⟨a,b,o,by lia,T,h4⟩
 ·subst ea;k_is;have s4:Sm c (c++[Ob.lst (P.map λw=>D.tup [ac w.1,ac w.2])]):=Sm.app _ _;have Y:(c++[Ob.lst (P.map λw=>D.tup [ac w.1,ac w.2])])[Zc c]?=aa (Ob.lst (P.map λw=>D.tup [ac w.1,ac w.2])):=ai;generalize Zc c=N4 at *;generalize c++[Ob.lst (P.map λw=>D.tup [ac w.1,ac w.2])]=S4 at *;k_is;refine⟨by rw[af Y];rfl,?_⟩;refine Fk P (λw=>D.tup [ac w.1,ac w.2]) (λw=>∀x ∈ f w.1.1++f w.2.1,ae K x.1 w.1=aT->ae K x.1 w.2=aT->hld (f w.1.1) x.1 < hld (f w.2.1) x.1) (by lia) (aJ Y) (λi w O hw E=>⟨_,aV (by simp) (by simp),?_⟩) λb O E hb=>?_
  ·obtain⟨a,b,_,_,e1,e2⟩:=(U w).mp (Ze hw);have m1:=Ze e1;have m2:=Ze e2;have g1:=J.inG _ m1;have g2:=J.inG _ m2;k_is;refine⟨rfl,BJ (k:=k+8) V (h2.keep ((B.trans s4).trans E).kp) g1.1 g1.2 g2.1 g2.2 (λe=>by have:=each _ m1;rwa [if_pos e] at this) (λe=>by have:=each _ m2;rwa [if_pos e] at this) λb S6 s6 hb=>?_⟩;exact⟨b,rfl,hb,s6⟩
  ·k_is;refine q b O (X.trans ((B.trans s4).trans E)) (hb.trans ⟨λg=>⟨each,λi j y z hij hy u=>g (y,z) ((U (y,z)).mpr ⟨i,j,hij,(Zb.mp u).1,hy,u⟩)⟩,λR w hw=>?_⟩);obtain⟨a,b,o,_,T,h4⟩:=(U w).mp hw;exact R.pair a b w.1 w.2 o T h4
end Lw
namespace Lw
open PySem Ev Sn L2
variable {p N:Nat} {S S':Sto} {k:Nat} {Q:D->Sto->Prop} {K:Sky} {L st:List (Int × Int)} {y z:Int × Int} {f:Int->List (Int × Int)} {ds:List D} {t:Int}
def Gk{i:Int}(q:Q (.bl aT) S):Ok (evC aj (k+1) 50 [.int i] S) Q:=by
 refine aq (d:=f7) (ρ:=[aa (.int i)]) rfl rfl ?_;dsimp only[f7,j5];k_is;refine ab pQ ?_;k_is;refine ab pQ ?_;exact q
def KZ{n:Nat}(g:S[n]?=aa (.lst (st.map ac)))(hl:st.length<=1000)(q:Q (.bl aT) S):Ok (evC aj (k+2) 65 [.ref n] S) Q:=by
 refine aq (d:=dP) (ρ:=[aa (.ref n),aD]) rfl rfl ?_;dsimp only[dP,gV];k_is;refine ab (mv g) ?_;rw[show(bU .list "list")=aT from rfl];k_is;refine⟨by rw[af g];rfl,?_⟩;refine mG (ds:=st.map ac) (by rw[Za];lia) (λi b S'=>S'=S/\∃u,b=[aa (.ref n),u]) (λi b S' h=>by rw[h.1];exact g) (λi d b S' hd c=>?_) (λb S' c=>?_) ⟨rfl,_,rfl⟩
 ·obtain⟨rfl,u,rfl⟩:=c;obtain⟨z,j,rfl⟩:=cT hd;refine⟨_,rfl,?_⟩;rw[show ac z = .tup [.int z.1,.int z.2] from rfl];k_is;refine ab A0 ?_;rw[show(bU .tuple "tuple")=aT from rfl];k_is;refine ab Gd ?_;k_is;refine ab (p_0 (z:=z)) ⟨rfl,Gk ?_⟩;k_is;refine ab (p_1 (z:=z)) ⟨rfl,Gk ?_⟩;k_is;exact⟨rfl,_,rfl⟩
 ·obtain⟨rfl,u,rfl⟩:=c;k_is;exact q
def NY(j:SkOk K){g:Int}(g0:0<=g)(g1:g < K.G.length):hiR K g<=K.r:=by
 unfold hiR;split
 ·obtain⟨a,b,c,d,e,f,h,E,_,_,_,_,o,_⟩:=gl7 j.vd g0 g1;obtain⟨_,_,_,_,_,_,q,n,_,_,_,_,_,_,_,_,_,_,_,h⟩:=j.gb _ (Ze E);cases n;rw[o];exact h
 ·exact ZI _
def K0{n:Nat}:∀i S',Sm S S'->nxR 1 ((n:Int) - 1).toNat i S'=aa (((Zh (n - 1))[i]?).map λ(j:Nat)=>D.int (1+(j:Int))):=λi S' _=>by
 rw[show((n:Int) - 1).toNat=n - 1 by lia];show aa (if i < n - 1 then aa (D.int (1+(i:Int))) else aD)=_;split
 ·rename_i h;rw[Yj h];rfl
 ·rename_i h;rw[ZB (by rw[ZK];lia)];rfl
abbrev rV:List CS:=match b7 with
 |[_,.for_ _ _ b,_,_]=>b
 |_=>[]
def xJ{r n:Nat}(g:S[r]?=aa (.lst (st.map ac)))(hl:st.length<=100)(hd:Dwn st)(q:∀S',Sm S S'->Qf .nx [aa (skE K),aa (.ref n),aa (.ref N),T,Z,aa (.ref r),U,J,E] S') :
  rW (wSs (evC aj (k+2)) (eV aj) 54 (rV.drop 3)) [aa (skE K),aa (.ref n),aa (.ref N),T,Z,aa (.ref r),U,J,E] S Qf:=by
 dsimp only[rV,b7,Yd];k_is;refine ab (b9 g) ?_;k_is;rw[Za];refine⟨⟨by decide,cA (by lia) (by lia)⟩,?_⟩;refine aF (Zh (st.length - 1)) (λ(j:Nat)=>D.int (1+(j:Int))) (λ_=>[]) (by rw[ZK];lia) (λ_ _=>Yb _) K0 (λi j Y X sm=>⟨_,rfl,?_⟩) λY O=>?_
 ·obtain⟨c,h⟩:=Zb.mp X;rw[XX] at h;rw[ZK] at c;subst h;have b:=sm _ _ g;obtain⟨u,B⟩:∃u,st[i]?=aa u:=⟨_,gEG (by lia)⟩;obtain⟨v,o⟩:∃v,st[i+1]?=aa v:=⟨_,gEG (by lia)⟩;have hw:=Fn.mp hd i _ _ B o;k_is;rw[show(1:Int)+(i:Int) - 1=((i:Nat):Int) by lia,show(1:Int)+(i:Int)=((i+1:Nat):Int) by lia];have I:=aY b (show(0:Int)<=((i:Nat):Int) by lia) (fB B);have C:=aY b (show(0:Int)<=((i+1:Nat):Int) by lia) (fB o);refine ab C (ab p_0 (ab I (ab p_0 ?_)));k_is;rw[decide_eq_false (show ¬ v.1<=u.1 by lia)];k_is;refine ab C (ab p_1 (ab I (ab p_1 ?_)));k_is;rw[decide_eq_false (show ¬ u.2<=v.2 by lia)];k_is;exact⟨rfl,Sm.refl _⟩
 ·rw[show((Zh (st.length - 1)).flatMap λ_=>([]:List D))=[] by simp];refine ab gC ?_;k_is;exact q _ (O.trans ((Sm.app _ _).trans (Sm.app _ _)))
def vE{a b:Nat}{ns:List Int}(h:S[a]?=aa (.lst (ns.map D.int)))(c:S[b]?=aa (.lst (ns.map D.int))):az .ne (.ref a) (.ref b) S=aa (.bl aW,S):=uB (b:=true) (by
 simp only[eqD,af h,af c];split
 ·rfl
 ·rw[if_pos True.intro];exact rD ns)
noncomputable abbrev rgs(K:Sky)(L:List (Int × Int))(t:Int):List Int:=(L.filter (ae K t)).map λz=>hld (stG K L z.1) t
def rX(c:SkOk K)(h:Kps K L)(t:Int):o8 (rgs K L t)=aT/\∀x ∈ rgs K L t,1<=x/\x<=K.r:=by
 have R:=pY c h c.me.r0
 have hb:∀x ∈ rgs K L t,1<=x/\x<=K.r:=λx q=>by
  obtain⟨z,E,rfl⟩:=ZA.mp q;obtain⟨o,w⟩:=ZP.mp E;obtain⟨j,n⟩:=Yo o;refine⟨R.pos o w,?_⟩;rw[(i9 c h c.me.r0 n (eJ w)).2 t w];exact NV c h c.me.r0 n w
 refine⟨?_,hb⟩;unfold o8;have r8:=c.me.r8;have I:L.length<=7:=ZH h.len c.g7;have C:L.Pairwise λy z=>ae K t y=aT->ae K t z=aT->hld (stG K L y.1) t < hld (stG K L z.1) t:=YU.mpr λi j hi n u=>R.all u (gEG hi) (gEG n);have o:(rgs K L t).Pairwise (· < ·):=Y1.mpr ((C.filter _).imp_of_mem λa b g=>g (ZP.mp a).2 (ZP.mp b).2);have B:(rgs K L t).length < 8:=by rw[Za];exact XR (ZV _ _) (by lia)
 have v:(rgs K L t).all (λx=>decide (1<=x) && decide (x<=8))=aT:=ZJ.mpr λx q=>by
  have:=hb x q;rw[bAE,decide_eq_true_eq,decide_eq_true_eq];lia
 rw[decide_eq_true o,decide_eq_true B,v];rfl
def Gm(b:SkOk K)(c:Kps K L):0<=eO (0::L.map (·.2))/\eO (0::L.map (·.2))<=9999:=by
 refine⟨pS Zj,?_⟩;rcases Zk.mp (pR (ns:=0::L.map (·.2)) (by simp)) with h |h
 ·lia
 ·obtain⟨z,g,e⟩:=ZA.mp h;have a:=oD c z g;have:=Gi b a.1 a.2.1
  lia
def xK(O:SkOk K)(ha:Kps K L){n:Nat}(hn:S[n]?=aa (.lst (L.map ac)))(h:Hol p S K N (stG K L) ds)(q:∀S',Sm S S'->Q (.bl aT) S'):Ok (evC aj (k+3) 67 [skE K,.ref n,.ref N] S) Q:=by
 have V:=O.vd;have l7:L.length<=7:=ZH ha.len O.g7;have R:=pY O ha O.me.r0;refine aq (d:=dR) (ρ:=[aa (skE K),aa (.ref n),aa (.ref N),aD,aD,aD,aD,aD,aD]) rfl rfl ?_;have tail:=@xJ N;dsimp only[rV,dR,b7,Yd] at tail ⊢;k_is;refine ab (mv h.at_) ?_;rw[show(bU .list "list")=aT from rfl];k_is;refine ab (b9 h.at_) (ab sk2 (ab bp ?_));k_is;rw[h.len,decide_eq_true rfl];k_is;refine⟨by rw[af h.at_];rfl,?_⟩;have g7:=O.g7;refine mV ds (λd=>d) (by rw[h.len];lia) (aJ (E:=λd=>d) (by rw[List.map_id'];exact h.at_)) (λi d S' hd sm=>⟨_,rfl,?_⟩) λS1 s1=>?_
 ·have hi:=(Zb.mp hd).1;obtain⟨r,e1,_,u,l1⟩:=(h.keep sm.kp).row i (by rw[<-h.len];exact hi);rw[hd] at e1;cases e1;k_is;exact⟨rfl,KZ (k:=k) u (by lia) ⟨rfl,Sm.refl _⟩⟩
 k_is;have hn1:=s1 _ _ hn;refine⟨by rw[af hn1];rfl,?_⟩;refine mG (ds:=L.map ac) (by rw[Za];lia) (λi I S'=>Sm S1 S'/\∃Z u4 u5 U X,I=[aa (skE K),aa (.ref n),aa (.ref N),Z,u4,u5,U,X,aD]) (λi I S' C=>C.1 _ _ hn1) (λi d I B hd C=>?_) (λI B C=>?_) ⟨Sm.refl _,_,_,_,_,_,rfl⟩
 ·obtain⟨Y,Z,u4,u5,U,X,rfl⟩:=C;obtain⟨z,hz,rfl⟩:=cT hd;have mz:=Ze hz;have v:=ha.inG z mz;obtain⟨a,b,c,d,e,f,h',eg,_,e1,_,_,e6,_⟩:=gl7 V v.1 v.2;obtain⟨r,i1,_,u,l1⟩:=(h.keep (s1.trans Y).kp).ix v.1 v.2;have each:=R.each z mz;refine⟨_,show av (.tup [.name 3,.name 4]) (.tup [.int z.1,.int z.2]) _=_ from aV (by simp) (by simp),?_⟩;k_is;have r1:∀S,ixS (au [a,b,c,d,e,f,h']) (.int 1) S=aa (.int b,S):=λ_=>rfl;have r6:∀S,ixS (au [a,b,c,d,e,f,h']) (.int 6) S=aa (.int h',S):=λ_=>rfl;refine ab i1 ?_;k_is;refine ab sk2 (ab (bV v.1 eg) (ab (r1 _) (ab sk0 (ab me1 ?_))));rw[<-(show jn K z.1=b from e1)];k_is;cases c1:decide (z.2 - K.s<=jn K z.1) with
  |true=>
   have w:¬ ae K (jn K z.1) z=aT:=by have:=of_decide_eq_true c1;simp only[ae,bAE,decide_eq_true_eq];lia
   rw[if_neg w] at each;rw[each] at u;k_is;refine ab (ne_nil (Sm.app _ _ _ _ u) ai (by have:=(Zb.mp u).1;lia)) ?_;rw[show(!(([]:List (Int × Int)).map ac).isEmpty)=aW from rfl];k_is;exact tail (st:=[]) (Sm.app _ _ _ _ u) (Yb _) True.intro λS3 o=>⟨Y.trans ((Sm.app _ _).trans o),_,_,_,_,_,rfl⟩
  |false=>
   have w:ae K (jn K z.1) z=aT:=by have:=of_decide_eq_false c1;simp only[ae,bAE,decide_eq_true_eq];lia
   rw[if_pos w] at each;have hle:=NY O v.1 v.2;have hh:0 < h'->hiR K z.1=h':=λg=>by unfold hiR;rw[e6,if_pos g]
   have bd:(stG K L z.1).length<=100:=l1;generalize stG K L z.1=st at *;obtain⟨⟨r0,hd1,hd2⟩,⟨m,la1,la2⟩,dw⟩:=each;cases st with
   |nil=>cases hd1
   |cons x st'=>
   cases hd1
   obtain⟨l,y,el⟩:∃l y,(jn K z.1,r0)::st'=l++[y]:=by
    rcases Z1 ((jn K z.1,r0)::st') with e |⟨l,y,e⟩
    ·cases e
    ·exact⟨l,y,by rw[e,Z2]⟩
   have gy:y=(m,1):=by rw[el] at la1;simpa using la1
   subst gy;have o:=Sm.app B [Ob.lst []];have i0:∀S',Sm B S'->ixS (.ref r) (.int 0) S'=aa (ac (jn K z.1,r0),S'):=λS' s'=>aY (s' _ _ u) (ZI _) rfl;have iy:∀S',Sm B S'->ixS (.ref r) (.int (-1)) S'=aa (ac (m,1),S'):=λS' s'=>dj (ds:=l.map ac) (e:=ac (m,1)) (by rw[s' _ _ u,el,Zq];rfl);k_is;refine ab (IK (o _ _ u) ai (by have:=(Zb.mp u).1;lia)) ?_;rw[show(((jn K z.1,r0)::st').map ac).isEmpty=aW from rfl];k_is;refine ab (i0 _ o) (ab p_0 ?_);k_is;rw[decide_eq_true rfl];k_is;refine ab (iy _ o) (ab p_0 ?_);simp only[ae,bAE,decide_eq_true_eq] at la2;k_is;rw[decide_eq_false (show ¬ z.2 - K.s<=(m,(1:Int)).1 by show ¬ _<=m;lia)];k_is;refine ab (iy _ o) (ab p_1 ?_);k_is;rw[decide_eq_true (show(m,(1:Int)).2=1 from rfl)];k_is;refine ab (i0 _ o) (ab p_1 (ab sk0 (ab me0 ?_)));k_is;rw[decide_eq_false (show ¬ K.r < (jn K z.1,r0).2 by show ¬ _ < r0;lia)];k_is;refine ab sk2 (ab (bV v.1 eg) (ab (r6 _) ?_));k_is;have next:∀S4,Sm (B++[Ob.lst []]) S4->Sm S1 S4:=λS4 J=>Y.trans (o.trans J);cases c2:decide (0 < h') with
   |false=>
    k_is;exact tail (o _ _ u) bd dw λS4 J=>⟨next S4 J,_,_,_,_,_,rfl⟩
   |true=>
    k_is;refine ab (i0 _ o) (ab p_1 (ab sk2 (ab (bV v.1 eg) (ab (r6 _) ?_))));k_is;have:=hh (of_decide_eq_true c2);rw[decide_eq_false (show ¬ h' < (jn K z.1,r0).2 by show ¬ _ < r0;lia)];k_is;exact tail (o _ _ u) bd dw λS4 J=>⟨next S4 J,_,_,_,_,_,rfl⟩
 ·obtain⟨Y,Z,u4,u5,U,X,rfl⟩:=C;have h2:=h.keep (s1.trans Y).kp;have hn2:=Y _ _ hn1;k_is;have o:Sm B (B++[Ob.lst [D.int 0]]):=Sm.app _ _;have a3:(B++[Ob.lst [D.int 0]])[Zc B]?=aa (.lst [D.int 0]):=ai;generalize B++[Ob.lst [D.int 0]]=S3 at *;generalize Zc B=N3 at *;refine⟨by rw[af (o _ _ hn2)];rfl,?_⟩;refine aF L ac (λz=>[.int z.2]) (by lia) (λ_ _=>Zd _) (aJ (o _ _ hn2)) (λi z S' hz sm=>⟨_,show av (.tup [.name 9,.name 10]) (.tup [.int z.1,.int z.2]) _=_ from aV (by simp) (by simp),?_⟩) λS4 J=>?_
  ·k_is;exact⟨rfl,Sm.refl _⟩
  rw[aK];have s5:Sm S4 (S4++[Ob.lst (L.map λz=>D.int z.2)]):=Sm.app _ _;refine ab (dm (s5 _ _ (J _ _ a3)) ai (by rw[Za,Zy];lia)) ?_;have e6:([D.int 0]++L.map λz=>D.int z.2)=(0::L.map (·.2)).map D.int:=by rw[Zx,ZO];rfl
  rw[e6];have s6:Sm (S4++[Ob.lst (L.map λz=>D.int z.2)]) (S4++[Ob.lst (L.map λz=>D.int z.2)]++[Ob.lst ((0::L.map (·.2)).map D.int)]):=Sm.app _ _;refine ab (pW ai (by simp)) ?_;have sC:=((o.trans J).trans s5).trans s6;generalize S4++[Ob.lst (L.map λz=>D.int z.2)]++[Ob.lst ((0::L.map (·.2)).map D.int)]=S6 at *;have tb:=Gm O ha;generalize eO (0::L.map (·.2))=T at *;k_is;refine⟨Br (by lia) (by lia),?_⟩;have hn6:=sC _ _ hn2;have h6:=h2.keep sC.kp;refine eD (by lia) (λi I S'=>Sm S6 S'/\∃Z u4 u5 U X u8,I=[aa (skE K),aa (.ref n),aa (.ref N),Z,u4,u5,U,X,u8]) (λi I S7 hi C=>?_) (λI S7 C=>?_) ⟨Sm.refl _,_,_,_,_,_,_,rfl⟩
  ·obtain⟨s7,Z,u4,u5,U,X,u8,rfl⟩:=C;refine⟨_,rfl,?_⟩;k_is;have hn7:=s7 _ _ hn6;refine⟨by rw[af hn7];rfl,?_⟩;refine aF L ac (λz=>if ae K (0+(i:Int)) z=aT then [.int (hld (stG K L z.1) (0+(i:Int)))] else []) (by lia) (λ_ _=>by split <;> simp) (aJ hn7) (λj z S8 hz sm=>⟨_,rfl,?_⟩) λS8 s8=>?_
   ·have v:=ha.inG z (Ze hz);k_is;refine⟨rfl,jK V v.1 v.2 ?_⟩;k_is;cases ae K (0+(i:Int)) z with
    |false=>k_is;exact⟨rfl,Sm.refl _⟩
    |true=>
     k_is;obtain⟨r,i1,_,u,l1⟩:=(h6.keep (s7.trans sm).kp).ix v.1 v.2;exact ab p_0 (ab i1 ⟨rfl,ja u (by lia) λS9 s9=>⟨rfl,s9⟩⟩)
   ·rw[aX,show((L.filter (ae K (0+(i:Int)))).map λz=>D.int (hld (stG K L z.1) (0+(i:Int))))=(rgs K L (0+(i:Int))).map D.int by rw[ZO];rfl];k_is;refine⟨_,_,rfl,ai,(rX O ha _).1,?_⟩;refine ab (vE (Sm.app _ _ _ _ ai) ai) ?_;k_is;exact⟨s7.trans (s8.trans ((Sm.app _ _).trans (Sm.app _ _))),_,_,_,_,_,_,rfl⟩
  ·obtain⟨s7,Z,u4,u5,U,X,u8,rfl⟩:=C;k_is;exact q S7 (s1.trans (Y.trans (sC.trans s7)))
end Lw
namespace Ev
def rY(I:Nat->Rho->Sto->Prop)(step:∀n g S,I n g S->Ok (c g S) λt u=>if t=aT then OkS (b g u) λo f j=>(match o with |.nx=>∃m,m < n/\I m f j |.ct=>∃m,m < n/\I m f j |.bk=>Q .nx f j |.rt d=>Q (.rt d) f j) else Q .nx g u) :
  ∀ (k n:Nat) (g:Rho) (S:Sto),n < k->I n g S->OkS (bw c b k g S) Q
 |0,n,g,S,h,_=>absurd h (Z7 _)
 |k+1,n,g,S,h,i=>by
  obtain⟨t,u,e,q⟩:=step n g S i;cases t with
  |false=>rw[if_neg Zf] at q;exact⟨.nx,g,u,by simp only[bw,e],q⟩
  |true=>
   rw[if_pos rfl] at q;obtain⟨o,f,j,E,q⟩:=q;have go:(∃m,m < n/\I m f j)->OkS (bw c b k f j) Q:=λ⟨m,C,B⟩=>rY I step k m f j (by lia) B;cases o with
   |nx=>
    obtain⟨o,p,v,z,y⟩:=go q;exact⟨o,p,v,by simp only[bw,e,E];exact z,y⟩
   |ct=>
    obtain⟨o,p,v,z,y⟩:=go q;exact⟨o,p,v,by simp only[bw,e,E];exact z,y⟩
   |bk=>exact⟨.nx,f,j,by simp only[bw,e,E],q⟩
   |rt d=>exact⟨.rt d,f,j,by simp only[bw,e,E],q⟩
end Ev
namespace Lw
open PySem Ev Sn L2
variable {p N n:Nat} {S S':Sto} {k:Nat} {Q:D->Sto->Prop} {K:Sky} {L st:List (Int × Int)} {y z:Int × Int} {f:Int->List (Int × Int)} {ds:List D} {t:Int}
abbrev cB(p:Nat)(S:Sto)(n N:Nat):Prop:=N ≠ p/\∃ds,S[N]?=aa (.lst ds)/\ds.length=n/\∀g:Nat,g < n->∃ (r:Nat) (st:List (Int × Int)),ds[g]?=aa (.ref r)/\r ≠ p/\r ≠ N/\S[r]?=aa (.lst (st.map ac))/\st.length<=100
def cB.keep(h:cB p S n N)(c:Ev.Kp p S S'):cB p S' n N:=
 let ⟨hN,ds,a,l,r⟩:=h
 ⟨hN,ds,c _ _ hN a,l,λg b=>let ⟨r,st,h1,h2,h3,h4,h5⟩:=r g b;⟨r,st,h1,h2,h3,c _ _ h2 h4,h5⟩⟩
def cB.hol(h:cB p S K.G.length N):∃f ds,Hol p S K N f ds:=by
 obtain⟨hN,ds,a,l,h⟩:=h
 have u:∀g:Int,∃st:List (Int × Int),g.toNat < K.G.length->∃r,ds[g.toNat]?=aa (.ref r)/\r ≠ p/\S[r]?=aa (.lst (st.map ac))/\st.length<=100:=λg=>by
  by_cases c:g.toNat < K.G.length
  ·obtain⟨r,st,o,q,_,E,b⟩:=h _ c;exact⟨st,λ_=>⟨r,o,q,E,b⟩⟩
  ·exact⟨[],λz=>absurd z c⟩
 obtain⟨f,v⟩:=Classical.axiomOfChoice u;exact⟨f,ds,hN,a,l,λg j=>v (g:Int) j⟩
def cB.upd{r:Nat}(h:cB p S n N)(u:r ≠ N)(hl:st.length<=100):cB p (S.set r (.lst (st.map ac))) n N:=by
 obtain⟨hN,ds,a,l,h⟩:=h;refine⟨hN,ds,by rw[ZE u];exact a,l,λg v=>?_⟩;obtain⟨o,b,q,j,c,h4,B⟩:=h g v;by_cases e:r=o
 ·subst e;exact⟨r,st,q,j,c,ZN (Zb.mp h4).1,hl⟩
 ·exact⟨o,b,q,j,c,by rw[ZE e];exact h4,B⟩
def cB.put{g r:Nat}(h:cB p S n N)(r1:r ≠ p)(r2:r ≠ N)(o:S[r]?=aa (.lst (st.map ac)))(hl:st.length<=100):∃ds,S[N]?=aa (.lst ds)/\ds.length=n/\cB p (S.set N (.lst (ds.set g (.ref r)))) n N:=by
 obtain⟨hN,ds,a,l,h⟩:=h;refine⟨ds,a,l,hN,ds.set g (.ref r),ZN (Zb.mp a).1,by rw[YV];exact l,λj u=>?_⟩;by_cases e:g=j
 ·subst e;exact⟨r,st,by rw[ZN (by lia)],r1,r2,by rw[ZE (Ne.symm r2)];exact o,hl⟩
 ·obtain⟨v,b,B,q,c,h4,C⟩:=h j u;exact⟨v,b,by rw[ZE e];exact B,q,c,by rw[ZE (Ne.symm c)];exact h4,C⟩
def pZ{n:Nat}{i:Int}(b:S[n]?=aa (.lst ds))(c:0<=i)(g:i.toNat < ds.length):g9 (.ref n) (.int i) v S=aa (S.set n (.lst (ds.set i.toNat v))):=by
 have h:ixN ds.length i=aa i.toNat:=by
  unfold ixN;rw[if_pos (by lia),if_pos (by lia)]
 simp only[g9,b,h,Zv]
def BK{n:Nat}(b:S[n]?=aa (.lst (ds++[e]))):g9 (.ref n) (.int (-1)) v S=aa (S.set n (.lst (ds++[v]))):=by
 have h:ixN (ds++[e]).length (-1)=aa ds.length:=by
  unfold ixN;rw[if_neg (by decide),if_pos (by rw[Zi,Zy];lia)]
  congr 1
  rw[Zi,Zy];lia
 simp only[g9,b,h,Zv]
 congr 3
 rw[List.set_append_right _ _ (Zd _),Yh];rfl
abbrev gD:List CS:=match bN with
 |[_,.for_ _ _ b,_]=>b
 |_=>[]
def uk{r:Nat}(h:cB p S K.G.length N)(g0:0<=z.1)(g1:z.1 < K.G.length)(r1:r ≠ p)(r2:r ≠ N)(v:S[r]?=aa (.lst (st.map ac)))(hl:st.length<=100)
  (q:∀S',(∀i o,i ≠ r->i ≠ N->S[i]?=aa o->S'[i]?=aa o)->cB p S' K.G.length N->Qf .nx [aa (.ref p),aa (skE K),aa (.ref n),aa (.ref N),Z,aa (ac z),O,T,aa (.ref r),Y,U] S') :
  rW (wSs (evC aj (k+1)) (eV aj) 53 (gD.drop 4)) [aa (.ref p),aa (skE K),aa (.ref n),aa (.ref N),Z,aa (ac z),O,T,aa (.ref r),Y,U] S Qf:=by
 dsimp only[gD,bN,Yd]
 have j:∀ (S':Sto) (u:List (Int × Int)),cB p S' K.G.length N->S'[r]?=aa (.lst (u.map ac))->u.length<=100->(∀i o,i ≠ r->i ≠ N->S[i]?=aa o->S'[i]?=aa o)->rW (wSs (evC aj (k+1)) (eV aj) 52 (gD.drop 5)) [aa (.ref p),aa (skE K),aa (.ref n),aa (.ref N),Z,aa (ac z),O,T,aa (.ref r),Y,U] S' Qf:=λS' u h' C J kp=>by
  dsimp only[gD,bN,Yd];k_is;refine ab p_0 ?_;obtain⟨ds,a,l,h2⟩:=h'.put (g:=z.1.toNat) r1 r2 C J;refine⟨_,pZ a g0 (by lia),?_⟩;k_is;exact q _ (λi o B I hi=>by rw[ZE (Ne.symm I)];exact kp i o B I hi) h2
 dsimp only[gD,bN,Yd] at j;k_is;have b:=Sm.app S [Ob.lst []];refine ab (ne_nil (b _ _ v) ai (by have:=(Zb.mp v).1;lia)) ?_;rcases Z1 st with e |⟨l,y,e⟩
 ·rw[show(!(st.map ac).isEmpty)=aW by rw[e];rfl];k_is;exact j _ st (h.keep b.kp) (b _ _ v) hl λi o _ _ hi=>b _ _ hi
 ·rw[Z2] at e;have E:(S++[Ob.lst []])[r]?=aa (.lst (l.map ac++[ac y])):=by rw[b _ _ v,e,Zq];rfl
  rw[show(!(st.map ac).isEmpty)=aT by rw[e];simp];k_is;refine ab (dj E) (ab p_1 ?_);k_is;cases c:decide (1 < y.2) with
  |false=>
   k_is;exact j _ st (h.keep b.kp) (b _ _ v) hl λi o _ _ hi=>b _ _ hi
  |true=>
   k_is;refine ab (dj E) (ab p_0 ?_);k_is;refine⟨_,BK E,?_⟩;k_is;rw[show(l.map ac++[D.tup [.int y.1,.int 1]])=(l++[(y.1,1)]).map ac by rw[Zq];rfl];have X:(l++[(y.1,(1:Int))]).length<=100:=by rw[e,Zi] at hl;rw[Zi];exact hl
   exact j _ _ ((h.keep b.kp).upd r2 X) (ZN (Zb.mp E).1) X λi o B I hi=>by rw[ZE (Ne.symm B)];exact b _ _ hi
def NZ:∀i S',Sm S S'->nxL (K.G.map au) i S'=aa (if i < K.G.length then aa (((K.G.map au)[i]?).getD .non) else aD):=λi S' _=>by
 show aa (K.G.map au)[i]?=_;split
 ·rename_i c;rw[Zl,gEG c];rfl
 ·rw[ZB (by rw[Za];lia)]
def BL(h:Pot p S)(sk:SkOk K)(ha:Kps K L)(nn:n ≠ p)(hn:S[n]?=aa (.lst (L.map ac)))(q:∀N S',Dr p S S'->cB p S' K.G.length N->Q (.ref N) S'):Ok (evC aj (k+2) 68 [.ref p,skE K,.ref n] S) Q:=by
 have V:=sk.vd;have l7:L.length<=7:=ZH ha.len sk.g7;refine aq (d:=gg) (ρ:=[aa (.ref p),aa (skE K),aa (.ref n),aD,aD,aD,aD,aD,aD,aD,aD]) rfl rfl ?_;have tail:=@uk p;dsimp only[gD,gg,bN,Yd] at tail ⊢;have g7:=sk.g7;have lt:=h.lt;k_is;refine ab sk2 ?_;refine bL K.G.length (λi=>((K.G.map au)[i]?).getD .non) (λi v S'=>Sm S S'/\v.length=i/\∀g:Nat,g < i->∃r,v[g]?=aa (.ref r)/\S.length<=r/\S'[r]?=aa (.lst [])) (λi v S' hi hq=>NZ i S' hq.1) (by lia) (λi v S' hi ⟨sm,la,hr⟩=>⟨_,rfl,?_⟩) (λes O ⟨s1,la,hr⟩=>⟨by lia,?_⟩) ⟨Sm.refl _,rfl,λg hg=>absurd hg (Z7 g)⟩
 ·k_is;refine⟨sm.trans (Sm.app _ _),by rw[Zi,la];rfl,λg hg=>?_⟩;by_cases c:g < i
  ·obtain⟨r,h1,h2,h3⟩:=hr g c;exact⟨r,by rw[Zt (by lia)];exact h1,h2,Sm.app _ _ _ _ h3⟩
  ·exact⟨S'.length,by rw[show g=v.length by lia,Zo (Zd _),Yh];rfl,Sm.len sm,ai⟩
 k_is;have lN:=Sm.len s1
 have u:cB p (O++[Ob.lst es]) K.G.length (Zc O):=⟨by lia,es,ai,la,λg hg=>by
  obtain⟨r,h1,h2,h3⟩:=hr g hg;exact⟨r,[],h1,by lia,by have:=(Zb.mp h3).1;lia,Sm.app _ _ _ _ h3,Yb _⟩⟩
 have d1:Dr p S (O++[Ob.lst es]):=Dr.sm h (s1.trans (Sm.app _ _));have lN2:Zc O < (O++[Ob.lst es]).length:=by simp
 generalize O++[Ob.lst es]=S2 at *;generalize Zc O=N at *;refine⟨by rw[af (d1.kp _ _ nn hn)];rfl,?_⟩;refine pV (ds:=L.map ac) (by rw[Za];lia) (λi J S'=>Dr p S S'/\cB p S' K.G.length N/\∃u4 u5 u6 u7 u8 u9 U,J=[aa (.ref p),aa (skE K),aa (.ref n),aa (.ref N),u4,u5,u6,u7,u8,u9,U]) (λi J S' Z=>Z.1.kp _ _ nn hn) (λi d J C hd Z=>?_) (λJ C Z=>?_) ⟨d1,u,_,_,_,_,_,_,_,rfl⟩
 ·obtain⟨X,u,u4,u5,u6,u7,u8,u9,U,rfl⟩:=Z;obtain⟨z,hz,rfl⟩:=cT hd;have I:=ha.inG z (Ze hz);obtain⟨a,b,c,d,e,f,h',eg,_⟩:=gl7 V I.1 I.2;refine⟨_,aV (by simp) (by simp),?_⟩;k_is;refine ab sk2 (ab p_0 (ab (bV I.1 eg) (ab (show ixS (au [a,b,c,d,e,f,h']) (.int 1) _=aa (.int b,_) from rfl) (ab p_1 (ab sk0 (ab me1 ?_))))));k_is;have d4:Dr p C (C++[Ob.lst []]):=Dr.sm X.pot (Sm.app _ _);have a4:(C++[Ob.lst []])[Zc C]?=aa (.lst (([]:List (Int × Int)).map ac)):=ai;have lp:=X.pot.lt;refine ab sk0 (ab me0 ⟨rfl,ay d4.pot (by decide) (by decide) λx S5 x0 x1 d5=>?_⟩);k_is;have d5':=d4.trans d5;have a5:=d5.kp _ _ (show Zc C ≠ p by lia) a4;have r8:=sk.me.r8;obtain⟨r0,er0,hr0⟩:∃r0:Int,(if (i:Int)+1+x < K.r then (i:Int)+1+x else K.r)=r0/\r0<=8:=⟨_,rfl,by split <;> lia⟩;rw[er0];generalize hR:Zc C=R at *;refine rY (λm J S'=>∃ (st:List (Int × Int)) (r t:Int),J=[aa (.ref p),aa (skE K),aa (.ref n),aa (.ref N),aa (.int i),aa (ac z),aa (.int b),aa (.int (z.2 - K.s)),aa (.ref R),aa (.int r),aa (.int t)]/\Dr p C S'/\S'[R]?=aa (.lst (st.map ac))/\m=r.toNat/\st.length+m<=20) (λm J S6 iv=>?_) LF r0.toNat _ S5 (by unfold LF;lia) ⟨[],r0,b,rfl,d5',a5,rfl,by show 0+_<=20;lia⟩;obtain⟨st,r,t,rfl,Y,a6,rfl,hl⟩:=iv;have B:R ≠ p:=by lia
  have lS:S.length<=C.length:=Kp.len X.kp (by lia);have hRN:R ≠ N:=by obtain⟨_,ds,a,_⟩:=u;have:=(Zb.mp a).1;lia
  have E:∀S7,(∀j o,j ≠ R->j ≠ N->S6[j]?=aa o->S7[j]?=aa o)->Dr p S S7:=λS7 T=>by
   refine⟨λj o hj ho=>?_,?_⟩
   ·have:=(Zb.mp ho).1;exact T j o (by lia) (by lia) (Y.kp j o hj (X.kp j o hj ho))
   ·obtain⟨m,e⟩:=Y.pot;exact⟨m,T p _ B.symm (by lia) e⟩
  refine(ou _).t _ _ _ ?_;k_is;cases c1:decide (t < z.2 - K.s) with
  |false=>
   k_is;rw[if_neg Zf];exact tail (u.keep Y.kp) I.1 I.2 B hRN a6 (by lia) λS7 T r7=>⟨E S7 T,r7,_,_,_,_,_,_,_,rfl⟩
  |true=>
  k_is;cases c2:decide (0 < r) with
  |false=>
   k_is;rw[if_neg Zf];exact tail (u.keep Y.kp) I.1 I.2 B hRN a6 (by lia) λS7 T r7=>⟨E S7 T,r7,_,_,_,_,_,_,_,rfl⟩
  |true=>
  k_is;rw[if_pos rfl];k_is;have r1:=of_decide_eq_true c2;refine⟨eF a6,?_⟩;rw[mr a6 (by rw[Za];lia)];k_is;have d7:Dr p C (S6.set R (.lst (st.map ac++[D.tup [.int t,.int r]]))):=⟨Y.kp.setNew (by lia),Y.pot.setNe B⟩;have a7:(S6.set R (.lst (st.map ac++[D.tup [.int t,.int r]])))[R]?=aa (.lst ((st++[(t,r)]).map ac)):=by rw[ZN (Zb.mp a6).1,Zq];rfl
  generalize S6.set R (.lst (st.map ac++[D.tup [.int t,.int r]]))=S7 at *;refine⟨rfl,ay d7.pot (by decide) (by decide) λx S8 x0 x1 d8=>?_⟩;k_is;refine⟨rfl,ay d8.pot (by decide) (by decide) λy S9 y0 y1 d9=>?_⟩;k_is;have dd:=d8.trans d9;exact⟨(r - 1 - x).toNat,by lia,st++[(t,r)],_,_,rfl,d7.trans dd,dd.kp _ _ B a7,rfl,by rw[Zi,Zy];lia⟩
 ·obtain⟨X,u,u4,u5,u6,u7,u8,u9,U,rfl⟩:=Z;k_is;exact q N C X u
def BM(h:Pot p S)(sk:SkOk K)(ha:Kps K L)(nn:n ≠ p)(hn:S[n]?=aa (.lst (L.map ac))){M:Nat}(B:Hol p S K M f ds)(q:∀N S',Dr p S S'->cB p S' K.G.length N->Q (.ref N) S'):Ok (evC aj (k+2) 69 [.ref p,.ref M,skE K,.ref n] S) Q:=by
 have V:=sk.vd;have l7:L.length<=7:=ZH ha.len sk.g7;refine aq (d:=gh) (ρ:=[aa (.ref p),aa (.ref M),aa (skE K),aa (.ref n),aD,aD,aD,aD,aD,aD]) rfl rfl ?_;dsimp only[gh,kf];have g7:=sk.g7;have lt:=h.lt;k_is;refine⟨by rw[af B.at_];rfl,?_⟩;refine bL K.G.length (λi=>(ds[i]?).getD .non) (λi u S'=>Sm S S'/\u.length=i/\∀g:Nat,g < i->∃r,u[g]?=aa (.ref r)/\S.length<=r/\S'[r]?=aa (.lst ((f g).map ac))) (λi u S' hi hq=>by rw[<-B.len];exact ip (hq.1 _ _ B.at_) _ mD) (by lia) (λi u S' hi ⟨sm,la,hr⟩=>⟨_,rfl,?_⟩) (λZ U ⟨s1,la,hr⟩=>⟨by lia,?_⟩) ⟨Sm.refl _,rfl,λg hg=>absurd hg (Z7 g)⟩
 ·obtain⟨r,e1,_,a1,l1⟩:=(B.keep sm.kp).row i hi;simp only[e1,ZU];k_is;have it:ao (.ref r) S'=aa (aW,(f i).map ac):=by simp only[ao,af a1,Zv]
  rw[it];show Ok (aa ((f i).map ac,S')) _;rw[aA];k_is;refine⟨sm.trans (Sm.app _ _),by rw[Zi,la];rfl,λg hg=>?_⟩;by_cases c:g < i
  ·obtain⟨r,h1,h2,h3⟩:=hr g c;exact⟨r,by rw[Zt (by lia)];exact h1,h2,Sm.app _ _ _ _ h3⟩
  ·have:g=i:=by lia
   subst this;exact⟨S'.length,by rw[<-la,Zo (Zd _),Yh];rfl,Sm.len sm,ai⟩
 k_is;have lN:=Sm.len s1
 have b:cB p (U++[Ob.lst Z]) K.G.length (Zc U):=⟨by lia,Z,ai,la,λg hg=>by
  obtain⟨r,h1,h2,h3⟩:=hr g hg;obtain⟨_,_,_,_,l1⟩:=B.row g hg;exact⟨r,f g,h1,by lia,by have:=(Zb.mp h3).1;lia,Sm.app _ _ _ _ h3,l1⟩⟩
 have d1:Dr p S (U++[Ob.lst Z]):=Dr.sm h (s1.trans (Sm.app _ _));have lN2:Zc U < (U++[Ob.lst Z]).length:=by simp
 generalize U++[Ob.lst Z]=S2 at *;generalize Zc U=N at *;refine⟨rfl,ay d1.pot (by decide) (by decide) λm S3 m0 m1 Y=>?_⟩;k_is;have b:=b.keep Y.kp;have Y:=d1.trans Y;refine⟨by rw[af (Y.kp _ _ nn hn)];rfl,?_⟩;refine mG (ds:=L.map ac) (by rw[Za];lia) (λi ρ S'=>Dr p S S'/\cB p S' K.G.length N/\∃u6 u7 u8 u9,ρ=[aa (.ref p),aa (.ref M),aa (skE K),aa (.ref n),aa (.ref N),aa (.int m),u6,u7,u8,u9]) (λi ρ S' hI=>hI.1.kp _ _ nn hn) (λi d ρ C hd hI=>?_) (λρ C hI=>?_) ⟨Y,b,_,_,_,_,rfl⟩
 ·clear b Y;obtain⟨T,b,u6,u7,u8,u9,rfl⟩:=hI;obtain⟨z,hz,rfl⟩:=cT hd;have hG:=ha.inG z (Ze hz);obtain⟨r,e1,rp,a0,l1⟩:=B.row z.1.toNat (by lia);rw[show((z.1.toNat:Nat):Int)=z.1 by lia] at a0 l1;have a1:=T.kp _ _ rp a0;have rN:r ≠ N:=by have:=(Zb.mp a0).1;lia
  have i1:∀S',Sm C S'->ixS (.ref M) (.int z.1) S'=aa (.ref r,S'):=λS' s'=>aY (s' _ _ (T.kp _ _ B.ne B.at_)) hG.1 e1;refine⟨_,show av (.tup [.name 6,.name 7]) (.tup [.int z.1,.int z.2]) _=_ from aV (by simp) (by simp),?_⟩;k_is;refine ab sk0 (ab me1 ?_);k_is;refine ab (i1 _ (Sm.refl _)) ?_;k_is;refine ab (cE (j:=1) a1) ?_;have s5:Sm C (C++[Ob.lst (((f z.1).map ac).take 1)]):=Sm.app _ _;have a5:(C++[Ob.lst (((f z.1).map ac).take 1)])[Zc C]?=aa (.lst (((f z.1).take 1).map ac)):=by rw[ai,Yu]
  generalize C++[Ob.lst (((f z.1).map ac).take 1)]=S5 at *;generalize Zc C=N5 at *;refine ab (i1 _ s5) ?_;k_is;refine ab (rL (s5 _ _ a1) (by decide)) ?_;have s6:Sm S5 (S5++[Ob.lst (((f z.1).map ac).drop (1:Int).toNat)]):=Sm.app _ _;have a6:(S5++[Ob.lst (((f z.1).map ac).drop (1:Int).toNat)])[Zc S5]?=aa (.lst (((f z.1).drop 1).map ac)):=by rw[ai,Wp];rfl
  generalize S5++[Ob.lst (((f z.1).map ac).drop (1:Int).toNat)]=S6 at *;generalize Zc S5=N6 at *;k_is;refine⟨by rw[af a6];rfl,?_⟩;refine aF ((f z.1).drop 1) ac (λx=>[ac (if z.2 - K.s - 1 < x.1+m then z.2 - K.s - 1 else x.1+m,x.2)]) (by rw[YC];lia) (λ_ _=>Zd _) (aJ a6) (λi x S' hx sm=>⟨_,show av (.tup [.name 10,.name 11]) (.tup [.int x.1,.int x.2]) _=_ from aV (by simp) (by simp),?_⟩) λJ s7=>?_
  ·k_is;exact⟨rfl,Sm.refl _⟩
  rw[aK];k_is;have s8:Sm J (J++[Ob.lst (((f z.1).drop 1).map λx=>ac (if z.2 - K.s - 1 < x.1+m then z.2 - K.s - 1 else x.1+m,x.2))]):=Sm.app _ _;refine ab (dm (s8 _ _ (s7 _ _ (s6 _ _ a5))) ai (by rw[Za,Za,ZC,YC];lia)) ?_;obtain⟨st,est,lst⟩:∃st:List (Int × Int),(((f z.1).take 1).map ac++((f z.1).drop 1).map λx=>ac (if z.2 - K.s - 1 < x.1+m then z.2 - K.s - 1 else x.1+m,x.2))=st.map ac/\st.length<=100:=⟨(f z.1).take 1++((f z.1).drop 1).map λx=>(if z.2 - K.s - 1 < x.1+m then z.2 - K.s - 1 else x.1+m,x.2),by rw[Zq,ZO];rfl,by rw[Zi,Za,ZC,YC];lia⟩;rw[est];have s9:=((s5.trans s6).trans (s7.trans s8)).trans (Sm.app (J++[Ob.lst (((f z.1).drop 1).map λx=>ac (if z.2 - K.s - 1 < x.1+m then z.2 - K.s - 1 else x.1+m,x.2))]) [Ob.lst (st.map ac)]);have a9:(J++[Ob.lst (((f z.1).drop 1).map λx=>ac (if z.2 - K.s - 1 < x.1+m then z.2 - K.s - 1 else x.1+m,x.2))]++[Ob.lst (st.map ac)])[Zc (J++[Ob.lst (((f z.1).drop 1).map λx=>ac (if z.2 - K.s - 1 < x.1+m then z.2 - K.s - 1 else x.1+m,x.2))])]?=aa (.lst (st.map ac)):=ai;have n9:N < Zc (J++[Ob.lst (((f z.1).drop 1).map λx=>ac (if z.2 - K.s - 1 < x.1+m then z.2 - K.s - 1 else x.1+m,x.2))]):=by obtain⟨_,ds',a,_⟩:=b;exact(Zb.mp (((s5.trans s6).trans (s7.trans s8)) _ _ a)).1
  generalize Zc (J++[Ob.lst (((f z.1).drop 1).map λx=>ac (if z.2 - K.s - 1 < x.1+m then z.2 - K.s - 1 else x.1+m,x.2))])=N9 at *;generalize J++[Ob.lst (((f z.1).drop 1).map λx=>ac (if z.2 - K.s - 1 < x.1+m then z.2 - K.s - 1 else x.1+m,x.2))]++[Ob.lst (st.map ac)]=S9 at *;clear est;k_is;refine⟨by rw[af a9];rfl,?_⟩;refine bL st.length (λi=>.tup [.int i,((st.map ac)[i]?).getD .non]) (λi u S'=>Sm S9 S'/\∃v:List (Int × Int),u=v.map ac/\v.length<=i/\(i=st.length->0 < i->v ≠ [])) (λi u S' hi ⟨sm,_⟩=>by rw[<-Za (f:=ac)];exact i5 (sm _ _ a9) (by rw[Za];exact hi) (λi=>.tup [.int i,((st.map ac)[i]?).getD .non]) λi d h=>by rw[h];rfl) (by lia) (λi u S' hi ⟨sm,v,ea,lf,nf⟩=>?_) (λZ SA ⟨sA,v,ea,lf,nf⟩=>⟨by rw[ea,Za];lia,?_⟩) ⟨Sm.refl _,[],rfl,Yb _,λ_ h=>absurd h (ZS 0)⟩
  ·obtain⟨x,hx⟩:∃x,st[i]?=aa x:=⟨_,gEG hi⟩;rw[show((st.map ac)[i]?).getD .non=ac x by rw[Zl,hx];rfl];refine⟨_,aV (by simp) (by simp),?_⟩;k_is;refine ab (b9 (sm _ _ a9)) ?_;k_is;rw[Za];have yes:Sm S9 S'/\∃sf':List (Int × Int),u++[ac x]=sf'.map ac/\sf'.length<=i+1/\(i+1=st.length->0 < i+1->sf' ≠ []):=⟨sm,v++[x],by rw[ea,Zq];rfl,by rw[Zi,Zy];lia,λ_ _=>by simp⟩;cases c1:decide ((i:Int)=(st.length:Int) - 1) with
   |true=>k_is;exact yes
   |false=>
    have:=of_decide_eq_false c1;obtain⟨w,hw⟩:∃w,st[i+1]?=aa w:=⟨_,gEG (by lia)⟩;k_is;rw[show(i:Int)+1=((i+1:Nat):Int) by lia];refine ab (aY (sm _ _ a9) (by lia) (fB hw)) (ab p_0 (ab p_0 ?_));k_is;cases decide (x.1 < w.1) with
    |true=>k_is;exact yes
    |false=>k_is;exact⟨sm,v,by rw[ea,Z4],by lia,λe=>absurd e (by lia)⟩
  subst ea;have hM1:=(Zb.mp B.at_).1;have MN:M ≠ N:=by lia
  have Np:N ≠ p:=by lia
  have dA:Dr p C SA:=Dr.sm T.pot (s9.trans sA);have rA:=b.keep dA.kp;have pA:=dA.pot.lt;have nA:N < SA.length:=by obtain⟨_,ds',a,_⟩:=rA;exact(Zb.mp a).1
  have sB:=Sm.app SA [Ob.lst (v.map ac)];have aB:(SA++[Ob.lst (v.map ac)])[SA.length]?=aa (.lst (v.map ac)):=ai;have dB:=T.trans (dA.thenSm sB);have O:Sm C (SA++[Ob.lst (v.map ac)]):=(s9.trans sA).trans sB;have a9B:=sB _ _ (sA _ _ a9);generalize SA++[Ob.lst (v.map ac)]=SB at *;generalize Zc SA=R at *;have RN:R ≠ N:=by lia
  obtain⟨E,b1,b2,b3⟩:=(rA.keep sB.kp).put (g:=z.1.toNat) (show R ≠ p by lia) RN aB (show v.length<=100 by lia);refine⟨_,pZ b1 hG.1 (by lia),?_⟩;have kC:∀i o,i ≠ N->SB[i]?=aa o->(SB.set N (.lst (E.set z.1.toNat (.ref R))))[i]?=aa o:=λi o hi ho=>by rw[ZE (Ne.symm hi)];exact ho
  have dC:Dr p S (SB.set N (.lst (E.set z.1.toNat (.ref R)))):=⟨dB.kp.setNew lN,dB.pot.setNe Np⟩;have aN:(SB.set N (.lst (E.set z.1.toNat (.ref R))))[N]?=aa (.lst (E.set z.1.toNat (.ref R))):=ZN (Zb.mp b1).1;generalize SB.set N (.lst (E.set z.1.toNat (.ref R)))=SC at *;k_is;have I:=Sm.app SC [Ob.lst []];have X:=kC _ _ (show N9 ≠ N by lia) a9B;refine ab (ne_nil (I _ _ X) ai (by have:=(Zb.mp X).1;lia)) ?_;have dD:=dC.thenSm I;have bD:=b3.keep I.kp;cases st with
  |nil=>
   rw[show(!(([]:List (Int × Int)).map ac).isEmpty)=aW from rfl];k_is;exact⟨dD,bD,_,_,_,_,rfl⟩
  |cons x st'=>
   rw[show(!((x::st').map ac).isEmpty)=aT from rfl];k_is
   obtain⟨w,sf',esf⟩:∃w sf',v=w::sf':=by
    cases v with
    |nil=>exact absurd rfl (nf rfl (by simp))
    |cons w sf'=>exact⟨w,sf',rfl⟩
   refine ab (aY (d:=.ref R) (I _ _ aN) hG.1 (by rw[ZN (by lia)])) (ab (aY (d:=ac w) (I _ _ (kC _ _ RN aB)) (ZI _) (by rw[esf];rfl)) (ab p_0 (ab (aY (d:=ac x) (I _ _ X) (ZI _) rfl) (ab p_0 ?_))));k_is;cases decide (w.1=x.1) with
   |true=>
    k_is;exact⟨dD,bD,_,_,_,_,rfl⟩
   |false=>
    k_is;refine ab (aY (I _ _ (kC _ _ MN (O _ _ (T.kp _ _ B.ne B.at_)))) hG.1 e1) ?_;obtain⟨dsD,c1,c2,c3⟩:=bD.put (g:=z.1.toNat) rp rN (I _ _ (kC _ _ rN (O _ _ a1))) l1;refine⟨_,pZ c1 hG.1 (by lia),?_⟩;k_is;exact⟨⟨dD.kp.setNew lN,dD.pot.setNe Np⟩,c3,_,_,_,_,rfl⟩
 ·obtain⟨T,b,u6,u7,u8,u9,rfl⟩:=hI;k_is;exact q N C T b
end Lw
namespace Lw
open PySem Ev Sn L2
variable {p N n:Nat} {S S':Sto} {k:Nat} {Q:D->Sto->Prop} {K:Sky} {L st:List (Int × Int)} {y z:Int × Int} {f:Int->List (Int × Int)} {ds es:List D} {t:Int}
def rZ:∀ {l acc:List (Int × Int)},(l.foldl bE acc).length<=acc.length+l.length
 |[],_=>Zd _
 |y::l,acc=>by
  have a:=rZ (l:=l) (acc:=bE acc y);have b:=rP acc y;rw[Y5,ZD]
  lia
def Fo(hl:L.length<=7)(g:Int):(stG K L g).length<=100:=by
 rw[stG,stp];split
 ·simp
 ·refine ZH rZ ?_;rw[Za,dn];refine ZH (Nat.add_le_add_left (ZV _ _) _) ?_;rw[ZD,Za,ZC,Xv]
  lia
def Fp(hl:L.length<=7)(lt:p < S.length)(j:S.length<=N)(c:S'[N]?=aa (.lst ds))(h:Rws S S' K.G.length (λg=>stG K L g) ds):Hol p S' K N (stG K L) ds:=⟨by lia,c,h.1,λg b=>let ⟨r,h1,h2,h3⟩:=h.2 g b;⟨r,h1,by lia,h3,Fo hl _⟩⟩
abbrev p0:List CS:=match oj with
 |[.for_ _ _ [_,_,_,.ifs _ [_,_,_,_,_,.for_ _ _ b] _],_]=>b
 |_=>[]
def Fq(C:SkOk K)(b:Kps K L){M O:Nat}{os:List D}(hn:S[n]?=aa (.lst (L.map ac)))(hM:Hol p S K M (stG K L) es)(hO:S[O]?=aa (.lst os))(lO:os.length<=7)(ho:∀d ∈ os,∃N f es,d = .ref N/\Hol p S K N f es/\Rgt K L f){ik:D}{T u9 U:Option D}{Qf:Fl->Rho->Sto->Prop}
  (q:∀S' T u9 U,Sm S S'->Qf .nx [aa (.ref 0),aa ik,aa (.ref p),aa (skE K),aa (.ref n),aa (.ref M),aa (.ref O),aa (.int t),T,u9,U] S') :
  rW (wSs (evC aj 39) (eV aj) 46 p0) [aa (.ref 0),aa ik,aa (.ref p),aa (skE K),aa (.ref n),aa (.ref M),aa (.ref O),aa (.int t),T,u9,U] S Qf:=by
 have l7:L.length<=7:=ZH b.len C.g7;have lf:(L.filter (ae K t)).length<=7:=ZH (ZV _ _) l7;dsimp only[p0,oj];k_is;refine⟨rfl,uj (k:=28) (m:=t) C b hn λS1 W s1 _ I=>?_⟩;rw[<-fh] at I;k_is;refine⟨by rw[af I];rfl,?_⟩;refine aF (L.filter (ae K t)) (λz=>D.int z.1) (λz=>[.int (hld (stG K L z.1) t)]) (by lia) (λ_ _=>Zd _) (aJ I) (λi z c hz sm=>⟨_,rfl,?_⟩) λc s2=>?_
 ·have h:=b.inG z (ZP.mp (Ze hz)).1;obtain⟨r,Z,_,Y,l1⟩:=(hM.keep (s1.trans sm).kp).ix h.1 h.2;k_is;exact ab Z ⟨rfl,ja Y (by lia) λS9 X=>⟨rfl,X⟩⟩
 rw[aK,show((L.filter (ae K t)).map λz=>D.int (hld (stG K L z.1) t))=(rgs K L t).map D.int by rw[ZO];rfl];obtain⟨t1,t2⟩:=rX C b t;have lr:(rgs K L t).length<=7:=by rw[Za];exact lf
 k_is;refine⟨_,_,rfl,ai,t1,?_⟩;refine ab (vE (Sm.app _ _ _ _ ai) ai) ?_;k_is;have a3:=Sm.app (c++[Ob.lst ((rgs K L t).map D.int)]) [Ob.lst ((rgs K L t).map D.int)] _ _ ai;have s3:=(s1.trans s2).trans ((Sm.app c [Ob.lst ((rgs K L t).map D.int)]).trans (Sm.app _ [Ob.lst ((rgs K L t).map D.int)]));have aW3:=(s2.trans ((Sm.app c [Ob.lst ((rgs K L t).map D.int)]).trans (Sm.app _ [Ob.lst ((rgs K L t).map D.int)]))) _ _ I;generalize c++[Ob.lst ((rgs K L t).map D.int)]++[Ob.lst ((rgs K L t).map D.int)]=S3 at *;generalize Zc c=R at *;refine⟨by rw[af a3];rfl,?_⟩;refine aF (rgs K L t) D.int (λ_=>[]) (by lia) (λ_ _=>Yb _) (aJ a3) (λi x S4 hx sm=>⟨_,rfl,?_⟩) λS4 s4=>?_
 ·have:=t2 x (Ze hx);k_is;rw[decide_eq_true this.1];k_is;refine ab sk0 (ab me0 ?_);k_is;rw[decide_eq_true this.2];k_is;exact⟨rfl,Sm.refl _⟩
 rw[show((rgs K L t).flatMap λ_=>([]:List D))=[] by simp];refine ab gC ?_;k_is;have s5:=s4.trans ((Sm.app S4 [Ob.lst []]).trans (Sm.app _ [Ob.lst []]));generalize S4++[Ob.lst []]++[Ob.lst []]=S5 at *;have J:=s3.trans s5;have o:=J _ _ hO;refine⟨by rw[af o];rfl,?_⟩;refine mG (ds:=os) (by lia) (λi E S'=>Sm S5 S'/\∃u,E=[aa (.ref 0),aa ik,aa (.ref p),aa (skE K),aa (.ref n),aa (.ref M),aa (.ref O),aa (.int t),aa (.ref W),aa (.ref R),u]) (λi E S' B=>B.1 _ _ o) (λi d E S6 hd B=>?_) (λE S6 B=>?_) ⟨Sm.refl _,_,rfl⟩
 ·obtain⟨g,u,rfl⟩:=B;obtain⟨N,f,es',rfl,hN,hR⟩:=ho d (Ze hd);have h6:=hN.keep (J.trans g).kp;have m6:=hM.keep (J.trans g).kp;have v:=g _ _ (s5 _ _ aW3);refine⟨_,rfl,?_⟩;k_is;refine⟨by rw[af v];rfl,?_⟩;refine aF (L.filter (ae K t)) (λz=>D.int z.1) (λ_=>[]) (by lia) (λ_ _=>Yb _) (aJ v) (λi z S7 hz sm=>⟨_,rfl,?_⟩) λS7 s7=>?_
  ·obtain⟨h1,w⟩:=ZP.mp (Ze hz);have h:=b.inG z h1;obtain⟨j,hj⟩:=Yo h1;have le:=hR.least hj w;rw[<-(i9 C b C.me.r0 hj (eJ w)).2 t w] at le;obtain⟨r,Z,_,Y,l1⟩:=(h6.keep sm.kp).ix h.1 h.2;k_is;refine ab Z ⟨rfl,ja Y (by lia) λS8 s8=>?_⟩;obtain⟨r,i2,_,a2,l2⟩:=(m6.keep (sm.trans s8).kp).ix h.1 h.2;k_is;refine ab i2 ⟨rfl,ja a2 (by lia) λS9 X=>?_⟩;k_is;rw[decide_eq_false (Xf.mpr le)];k_is;exact⟨rfl,s8.trans X⟩
  ·rw[show((L.filter (ae K t)).flatMap λ_=>([]:List D))=[] by simp];refine ab gC ?_;k_is;exact⟨g.trans (s7.trans ((Sm.app _ _).trans (Sm.app _ _))),_,rfl⟩
 ·obtain⟨g,u,rfl⟩:=B;k_is;exact q _ _ _ _ (J.trans g)
abbrev Oth(p:Nat)(S:Sto)(K:Sky)(d:D):Prop:=∃N f es,d = .ref N/\Hol p S K N f es
def Oth.keep(h:Oth p S K d)(c:Ev.Kp p S S'):Oth p S' K d:=let ⟨N,f,es,e,h⟩:=h;⟨N,f,es,e,h.keep c⟩
def r9(h:∀d ∈ ds,Oth p S K d)(c:Ev.Kp p S S')(hd:Oth p S' K d):∀e ∈ ds++[d],Oth p S' K e:=λe b=>(ZM.mp b).elim (λb=>(h e b).keep c) λb=>by rw[Zu.mp b];exact hd
abbrev p9:List CS:=match oj with
 |[.for_ _ _ [_,_,_,.ifs _ b _],_]=>b
 |_=>[]
def K1(h:Pot p S)(v:SkOk K)(B:Kps K L)(nn:n ≠ p)(hn:S[n]?=aa (.lst (L.map ac)))
  (q:∀S' u5 u6 u7 U Y u,Dr p S S'->Qf .nx [aa (.ref 0),aa ik,aa (.ref p),aa (skE K),aa (.ref n),u5,u6,u7,U,Y,u] S') :
  rW (wSs (evC aj 39) (eV aj) 53 p9) [aa (.ref 0),aa ik,aa (.ref p),aa (skE K),aa (.ref n),u5,u6,u7,U,Y,u] S Qf:=by
 have l7:L.length<=7:=ZH B.len v.g7;have lt:=h.lt;have j:=@Fq p;dsimp only[p0,p9,oj] at j ⊢;k_is;refine⟨rfl,Fi (k:=28) v B hn λS1 M es s1 lM aM hr=>?_⟩;have hM:=Fp l7 lt lM aM hr;have hn1:=s1 _ _ hn;k_is;refine⟨rfl,mM (k:=28) v B hn1 hM λb S2 s2 hb=>?_⟩;obtain rfl:b=aT:=hb.mpr (pY v B v.me.r0);refine ab (show az .isnot (.bl aT) (.bl aT) S2=aa (.bl aW,S2) from rfl) ?_;k_is;have hn2:=s2 _ _ hn1;have hM2:=hM.keep s2.kp;refine⟨rfl,xK (k:=36) v B hn2 hM2 λS3 s3=>?_⟩;k_is;have d3:Dr p S S3:=Dr.sm h ((s1.trans s2).trans s3);have hM3:=hM2.keep s3.kp;refine⟨by decide,?_⟩;refine jI (by decide) (λi g S'=>Dr p S3 S'/\g.length=i/\∀d ∈ g,Oth p S' K d) (λi g I hi ⟨X,la,hO⟩=>⟨_,rfl,?_⟩) (λos I ⟨X,la,hO⟩=>⟨by rw[la];decide,?_⟩) ⟨Dr.refl d3.pot,rfl,λd hd=>absurd hd YT⟩
 ·k_is;refine⟨rfl,BL (k:=37) X.pot v B nn ((d3.trans X).kp _ _ nn hn) λN S5 d5 rw5=>?_⟩;obtain⟨f,es,h5⟩:=rw5.hol;exact⟨X.trans d5,by rw[Zi,la];rfl,r9 hO d5.kp ⟨N,f,es,rfl,h5⟩⟩
 have lo4:os.length=4:=la;k_is;have s5:=Sm.app I [Ob.lst os];have a5:(I++[Ob.lst os])[Zc I]?=aa (.lst os):=ai;have d5:=d3.trans (X.thenSm s5);have n5:Zc I ≠ p:=by have:=X.pot.lt;lia
 have hO5:∀d ∈ os,Oth p (I++[Ob.lst os]) K d:=λd hd=>(hO d hd).keep s5.kp;have hM5:=hM3.keep (X.thenSm s5).kp;generalize I++[Ob.lst os]=S5 at *;generalize Zc I=N5 at *;refine⟨by decide,?_⟩;refine jI (by decide) (λi g S'=>Dr p S5 S'/\g.length=i/\∀d ∈ g,Oth p S' K d) (λi g E hi ⟨C,la,hO⟩=>⟨_,rfl,?_⟩) (λo E ⟨C,la',hO'⟩=>⟨by rw[la'];decide,?_⟩) ⟨Dr.refl d5.pot,rfl,λd hd=>absurd hd YT⟩
 ·k_is;refine⟨rfl,BM (k:=37) C.pot v B nn ((d5.trans C).kp _ _ nn hn) (hM5.keep C.kp) λN S7 d7 rw7=>?_⟩;obtain⟨f,es,h7⟩:=rw7.hol;exact⟨C.trans d7,by rw[Zi,la];rfl,r9 hO d7.kp ⟨N,f,es,rfl,h7⟩⟩
 have lo3:o.length=3:=la';have s7:=Sm.app E [Ob.lst o];refine ab (dm (s7 _ _ (C.kp _ _ n5 a5)) ai (by rw[lo4,lo3];decide)) ?_;k_is;have s8:=s7.trans (Sm.app (E++[Ob.lst o]) [Ob.lst (os++o)]);have a8:(E++[Ob.lst o]++[Ob.lst (os++o)])[Zc (E++[Ob.lst o])]?=aa (.lst (os++o)):=ai;have d8:=d5.trans (C.thenSm s8);have hM8:=hM5.keep (C.thenSm s8).kp;have hO8:∀d ∈ os++o,Oth p (E++[Ob.lst o]++[Ob.lst (os++o)]) K d:=λd hd=>(ZM.mp hd).elim (λhd=>(hO5 d hd).keep (C.thenSm s8).kp) λhd=>(hO' d hd).keep s8.kp;have lo:(os++o).length=7:=by rw[Zi,lo4,lo3]
 generalize E++[Ob.lst o]++[Ob.lst (os++o)]=S8 at *;generalize Zc (E++[Ob.lst o])=N8 at *;generalize os++o=oo at *;have hn8:=d8.kp _ _ nn hn;refine⟨by rw[af a8];rfl,?_⟩;refine bL oo.length (λi=>(oo[i]?).getD .non) (λi g S'=>Sm S8 S'/\g.length<=i/\∀d ∈ g,∃N f es,d = .ref N/\Hol p S8 K N f es/\Rgt K L f) (λi g S' hi hq=>ip (hq.1 _ _ a8) _ mD) (by lia) (λi g Z hi ⟨s9,la,hr⟩=>⟨_,rfl,?_⟩) (λrs Z ⟨s9,la,hr⟩=>⟨by lia,?_⟩) ⟨Sm.refl _,Yb _,λd hd=>absurd hd YT⟩
 ·obtain⟨N,f,es,e1,h1⟩:=hO8 _ (ZT hi);rw[show(oo[i]?).getD .non = .ref N by rw[gEG hi,e1];rfl];k_is;refine⟨rfl,mM (k:=28) v B (s9 _ _ hn8) (h1.keep s9.kp) λb SA sA hb=>?_⟩;k_is;cases b with
  |false=>k_is;exact⟨s9.trans sA,by rw[Z4];lia,by rw[Z4];exact hr⟩
  |true=>
   k_is;refine⟨s9.trans sA,by rw[Zi,Zy];lia,λd hd=>?_⟩;rcases ZM.mp hd with hd |hd
   ·exact hr d hd
   ·rw[Zu.mp hd];exact⟨N,f,es,rfl,h1,hb.mp rfl⟩
 k_is;have sB:=s9.trans (Sm.app Z [Ob.lst rs]);have aB:(Z++[Ob.lst rs])[Zc Z]?=aa (.lst rs):=ai;generalize Z++[Ob.lst rs]=SB at *;generalize Zc Z=NB at *;have dB:=d8.thenSm sB;have hMB:=hM8.keep sB.kp;have O:=sB _ _ hn8;have hrB:∀d ∈ rs,∃N f es,d = .ref N/\Hol p SB K N f es/\Rgt K L f:=λd hd=>let ⟨N,f,es,a,b,c⟩:=hr d hd;⟨N,f,es,a,b.keep sB.kp,c⟩;have J:Sm SB (SB++[Ob.lst [D.int 0]]):=Sm.app _ _;have a3:(SB++[Ob.lst [D.int 0]])[Zc SB]?=aa (.lst [D.int 0]):=ai;generalize SB++[Ob.lst [D.int 0]]=SC at *;generalize Zc SB=NC at *;refine⟨by rw[af (J _ _ O)];rfl,?_⟩;refine aF L ac (λz=>[.int z.2]) (by lia) (λ_ _=>Zd _) (aJ (J _ _ O)) (λi z S' hz sm=>⟨_,rfl,?_⟩) λSD sD=>?_
 ·k_is;exact ab p_1 ⟨rfl,Sm.refl _⟩
 rw[aK];have sE:Sm SD (SD++[Ob.lst (L.map λz=>D.int z.2)]):=Sm.app _ _;refine ab (dm (sE _ _ (sD _ _ a3)) ai (by rw[Za,Zy];lia)) ?_;have e6:([D.int 0]++L.map λz=>D.int z.2)=(0::L.map (·.2)).map D.int:=by rw[Zx,ZO];rfl
 rw[e6];have sF:Sm (SD++[Ob.lst (L.map λz=>D.int z.2)]) (SD++[Ob.lst (L.map λz=>D.int z.2)]++[Ob.lst ((0::L.map (·.2)).map D.int)]):=Sm.app _ _;refine ab (pW ai (by simp)) ?_;have sG:=((J.trans sD).trans sE).trans sF;generalize SD++[Ob.lst (L.map λz=>D.int z.2)]++[Ob.lst ((0::L.map (·.2)).map D.int)]=SG at *;have tb:=Gm v B;generalize eO (0::L.map (·.2))=T at *;k_is;refine⟨Br (by lia) (by lia),?_⟩;refine eD (by lia) (λi ρ S'=>Sm SG S'/\∃u7 U Y u,ρ=[aa (.ref 0),aa ik,aa (.ref p),aa (skE K),aa (.ref n),aa (.ref M),aa (.ref NB),u7,U,Y,u]) (λi ρ SH hi hI=>?_) (λρ SH hI=>?_) ⟨Sm.refl _,_,_,_,_,rfl⟩
 ·obtain⟨sH,u7,U,Y,u,rfl⟩:=hI;have sI:=sG.trans sH;refine⟨_,rfl,?_⟩;exact AK (j v B (sI _ _ O) (hMB.keep sI.kp) (sI _ _ aB) (by lia) (λd hd=>let ⟨N,f,es,a,b,c⟩:=hrB d hd;⟨N,f,es,a,b.keep sI.kp,c⟩) λS' U Y u s'=>⟨sH.trans s',_,_,_,_,rfl⟩)
 ·obtain⟨sH,u7,U,Y,u,rfl⟩:=hI;k_is;exact q SH _ _ _ _ _ _ (dB.thenSm (sG.trans sH))
def main(ns:List Int)(hn:ns.length<=63):∃S',evC aj 40 70 [.ref 0] [.frz (ns.map D.int)]=aa (.bl aT,S'):=by
 have O:Ok (evC aj (39+1) 70 [.ref 0] [.frz (ns.map D.int)]) λd _=>d = .bl aT:=by
  refine aq (d:=vh) (ρ:=[aa (.ref 0),aD,aD,aD,aD,aD,aD,aD,aD,aD,aD]) rfl rfl ?_;have I:=@K1;dsimp only[p9,vh,oj] at I ⊢;k_is;have lq:ax cg (.ref 0) [Ob.frz (ns.map D.int)]=aa (.int ns.length,[Ob.frz (ns.map D.int)]):=by simp only[ax,ao,aH,List.getElem?_cons_zero,Zv,cg,Za]
  refine ab lq ?_;k_is
  obtain⟨c,Z,c8⟩:∃c:Nat,(if (if (5:Int) < ns.length then (5:Int) else ns.length) > 1 then (if (5:Int) < ns.length then (5:Int) else ns.length) else 1)=(c:Int)/\c<=10:=by
   refine⟨(if (if (5:Int) < ns.length then (5:Int) else ns.length) > 1 then (if (5:Int) < ns.length then (5:Int) else ns.length) else 1).toNat,?_,?_⟩
   ·split <;> split <;> lia
   ·split <;> split <;> lia
  rw[Z];refine⟨cA (by lia) (by lia),?_⟩;rw[Zs];refine eD (by lia) (λi C S'=>S'[0]?=aa (Ob.frz (ns.map D.int))/\∃a b c d e f g h j l,C=[aa (.ref 0),a,b,c,d,e,f,g,h,j,l]) (λi C S1 hi u=>?_) (λC S1 u=>?_) ⟨rfl,aD,aD,aD,aD,aD,aD,aD,aD,aD,aD,rfl⟩
  ·obtain⟨o,a,b,c',d,e,f,g,h,j,l,E⟩:=u;subst E;refine⟨_,rfl,?_⟩;k_is;rw[YK];refine⟨rfl,EO (k:=38) o λx=>?_⟩;refine⟨rfl,KJ (k:=38) λq=>?_⟩;k_is;have pt:Pot (Zc S1) (S1++[Ob.lst [D.int q]]):=⟨q,ai⟩;have T:0 ≠ Zc S1:=λz=>by rw[Yc.mp z.symm] at o;simp at o
   have X:(S1++[Ob.lst [D.int q]])[0]?=aa (Ob.frz (ns.map D.int)):=Sm.app _ _ _ _ o;generalize S1++[Ob.lst [D.int q]]=S2 at *;generalize Zc S1=p at *;refine⟨rfl,EY (k:=35) pt λK S3 v U g6=>?_⟩;k_is;refine⟨rfl,ui (k:=34) v.pot U g6 λrt S4 J B=>?_⟩;refine ab cG ?_;k_is;rcases B with rfl |⟨M,R,rfl,nM,hM,aR⟩
   ·rw[show bG .non=aT from rfl];k_is;exact⟨(v.trans J).kp _ _ T X,_,_,_,_,_,_,_,_,_,_,rfl⟩
   ·rw[show bG (.ref M)=aW from rfl];exact I J.pot U aR nM hM λS' u5 u6 u7 u8 u9 u10 Y=>⟨((v.trans J).trans Y).kp _ _ T X,_,_,_,_,_,_,_,_,_,_,rfl⟩
  ·obtain⟨o,a,b,c',d,e,f,g,h,j,l,E⟩:=u;subst E;k_is
 obtain⟨d,S',e,rfl⟩:=O;exact⟨S',e⟩
end Lw
theorem PySem.Challenge.cw_downrings_k63_whole_no_holding_is_lower_holds : PySem.Challenge.rw_downrings_k63_whole_no_holding_is_lower.Holds :=
 Lw.head Lw.main
