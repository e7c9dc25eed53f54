import PyProof.Rows.All
import KE.KIntText
import KE.KIsAll
import KE.KRevSl
import KE.KSortTup
import KE.KUnpackStar
import PySem.Challenge.RW_downrings_k71_skies_written_and_read
set_option Elab.async false
set_option linter.all false
set_option maxRecDepth 100000
set_option maxHeartbeats 4000000
local macro_rules|`(abbrev $n:declId $s:optDeclSig $v:declVal)=>`(noncomputable def $n $s:optDeclSig $v:declVal)
local macro_rules|`(def $n:declId $s:optDeclSig $v:declVal)=>do let d:=⟨Lean.mkNode `Lean.Parser.Command.declSig #[s.raw[0],s.raw[1][0]]⟩;`(theorem $n $d $v:declVal)
open Option renaming some → aD,none → aT
open Bool renaming true → br,false → bx
namespace Xobt
variable{P:Prop}
def ex1{p:A→Prop}(h:∃a,p a)(k:∀a,p a→P):P:=let⟨a,h⟩:=h;k a h
def ex2{p:A→B→Prop}(h:∃a b,p a b)(k:∀a b,p a b→P):P:=let⟨a,b,h⟩:=h;k a b h
def ex3{p:A→B→C→Prop}(h:∃a b c,p a b c)(k:∀a b c,p a b c→P):P:=let⟨a,b,c,h⟩:=h;k a b c h
def ex4{p:A→B→C→D→Prop}(h:∃a b c d,p a b c d)(k:∀a b c d,p a b c d→P):P:=let⟨a,b,c,d,h⟩:=h;k a b c d h
def ex5{p:A→B→C→D→E→Prop}(h:∃a b c d e,p a b c d e)(k:∀a b c d e,p a b c d e→P):P:=let⟨a,b,c,d,e,h⟩:=h;k a b c d e h
def ex6{p:A→B→C→D→E→F→Prop}(h:∃a b c d e f,p a b c d e f)(k:∀a b c d e f,p a b c d e f→P):P:=let⟨a,b,c,d,e,f,h⟩:=h;k a b c d e f h
def ex7{p:A→B→C→D→E→F→G→Prop}(h:∃a b c d e f g,p a b c d e f g)(k:∀a b c d e f g,p a b c d e f g→P):P:=let⟨a,b,c,d,e,f,g,h⟩:=h;k a b c d e f g h
def ex9{p:A→B→C→D→E→F→G→I→J→Prop}(h:∃a b c d e f g i j,p a b c d e f g i j)(k:∀a b c d e f g i j,p a b c d e f g i j→P):P:=let⟨a,b,c,d,e,f,g,i,j,h⟩:=h;k a b c d e f g i j h
def ex10{p:A→B→C→D→E→F→G→I→J→L→Prop}(h:∃a b c d e f g i j l,p a b c d e f g i j l)(k:∀a b c d e f g i j l,p a b c d e f g i j l→P):P:=let⟨a,b,c,d,e,f,g,i,j,l,h⟩:=h;k a b c d e f g i j l h
def ex16{p:A→B→C→D→E→F→G→I→J→L→M→N→O→Q→R→T→Prop}(h:∃a b c d e f g i j l m n o q r s,p a b c d e f g i j l m n o q r s)(k:∀a b c d e f g i j l m n o q r s,p a b c d e f g i j l m n o q r s→P):P:=let⟨a,b,c,d,e,f,g,i,j,l,m,n,o,q,r,s,h⟩:=h;k a b c d e f g i j l m n o q r s h
def an2(h:a∧b)(k:a→b→P):P:=k h.1 h.2
def an3(h:a∧b∧c)(k:a→b→c→P):P:=k h.1 h.2.1 h.2.2
def an4(h:a∧b∧c∧d)(k:a→b→c→d→P):P:=k h.1 h.2.1 h.2.2.1 h.2.2.2
def an5(h:a∧b∧c∧d∧e)(k:a→b→c→d→e→P):P:=k h.1 h.2.1 h.2.2.1 h.2.2.2.1 h.2.2.2.2
def an6(h:a∧b∧c∧d∧e∧f)(k:a→b→c→d→e→f→P):P:=k h.1 h.2.1 h.2.2.1 h.2.2.2.1 h.2.2.2.2.1 h.2.2.2.2.2
def an7(h:a∧b∧c∧d∧e∧f∧g)(k:a→b→c→d→e→f→g→P):P:=k h.1 h.2.1 h.2.2.1 h.2.2.2.1 h.2.2.2.2.1 h.2.2.2.2.2.1 h.2.2.2.2.2.2
def an8(h:a∧b∧c∧d∧e∧f∧g∧i)(k:a→b→c→d→e→f→g→i→P):P:=k h.1 h.2.1 h.2.2.1 h.2.2.2.1 h.2.2.2.2.1 h.2.2.2.2.2.1 h.2.2.2.2.2.2.1 h.2.2.2.2.2.2.2
def an10(h:a∧b∧c∧d∧e∧f∧g∧i∧j∧l)(k:a→b→c→d→e→f→g→i→j→l→P):P:=k h.1 h.2.1 h.2.2.1 h.2.2.2.1 h.2.2.2.2.1 h.2.2.2.2.2.1 h.2.2.2.2.2.2.1 h.2.2.2.2.2.2.2.1 h.2.2.2.2.2.2.2.2.1 h.2.2.2.2.2.2.2.2.2
def an12(h:a∧b∧c∧d∧e∧f∧g∧i∧j∧l∧m∧n)(k:a→b→c→d→e→f→g→i→j→l→m→n→P):P:=k h.1 h.2.1 h.2.2.1 h.2.2.2.1 h.2.2.2.2.1 h.2.2.2.2.2.1 h.2.2.2.2.2.2.1 h.2.2.2.2.2.2.2.1 h.2.2.2.2.2.2.2.2.1 h.2.2.2.2.2.2.2.2.2.1 h.2.2.2.2.2.2.2.2.2.2.1 h.2.2.2.2.2.2.2.2.2.2.2
def in2{p:A→B→Prop}(a:A)(b:B)(h:p a b):∃a b,p a b:=⟨a,b,h⟩
def in3{p:A→B→C→Prop}(a:A)(b:B)(c:C)(h:p a b c):∃a b c,p a b c:=⟨a,b,c,h⟩
def in4{p:A→B→C→D→Prop}(a:A)(b:B)(c:C)(d:D)(h:p a b c d):∃a b c d,p a b c d:=⟨a,b,c,d,h⟩
def in5{p:A→B→C→D→E→Prop}(a:A)(b:B)(c:C)(d:D)(e:E)(h:p a b c d e):∃a b c d e,p a b c d e:=⟨a,b,c,d,e,h⟩
def in6{p:A→B→C→D→E→F→Prop}(a:A)(b:B)(c:C)(d:D)(e:E)(f:F)(h:p a b c d e f):∃a b c d e f,p a b c d e f:=⟨a,b,c,d,e,f,h⟩
def in7{p:A→B→C→D→E→F→G→Prop}(a:A)(b:B)(c:C)(d:D)(e:E)(f:F)(g:G)(h:p a b c d e f g):∃a b c d e f g,p a b c d e f g:=⟨a,b,c,d,e,f,g,h⟩
def in8{p:A→B→C→D→E→F→G→I→Prop}(a:A)(b:B)(c:C)(d:D)(e:E)(f:F)(g:G)(i:I)(h:p a b c d e f g i):∃a b c d e f g i,p a b c d e f g i:=⟨a,b,c,d,e,f,g,i,h⟩
def in10{p:A→B→C→D→E→F→G→I→J→L→Prop}(a:A)(b:B)(c:C)(d:D)(e:E)(f:F)(g:G)(i:I)(j:J)(l:L)(h:p a b c d e f g i j l):∃a b c d e f g i j l,p a b c d e f g i j l:=⟨a,b,c,d,e,f,g,i,j,l,h⟩
def in12{p:A→B→C→D→E→F→G→I→J→L→M→N→Prop}(a:A)(b:B)(c:C)(d:D)(e:E)(f:F)(g:G)(i:I)(j:J)(l:L)(m:M)(n:N)(h:p a b c d e f g i j l m n):∃a b c d e f g i j l m n,p a b c d e f g i j l m n:=⟨a,b,c,d,e,f,g,i,j,l,m,n,h⟩
end Xobt
local macro_rules
|`(tactic|obtain⟨$ps,*⟩:=$e:term)=>do
 let ps:=ps.getElems
 let n:=ps.size
 if n<2 then Lean.Macro.throwUnsupported
 let I (s:String):Lean.MacroM (Lean.TSyntax `ident):=return Lean.mkIdent (Lean.Name.mkSimple s)
 let mut vs:Array (Lean.TSyntax `ident):=#[]
 let mut sb:Array (Lean.TSyntax `tactic):=#[]
 for p in ps do
  let y ← I s!"ξ{vs.size}"
  match p with
  |`(Lean.Parser.Tactic.rcasesPatLo|$x:ident)=>
   if x.getId==`rfl then
    vs:=vs.push y
    sb:=sb.push (← `(tactic|subst $y))
   else vs:=vs.push x
  |`(Lean.Parser.Tactic.rcasesPatLo|_)=>vs:=vs.push y
  |_=>Lean.Macro.throwUnsupported
 let z ← I "ξ"
 let w ← I "ζ"
 let N (s:String):=Lean.mkIdent (`Xobt++Lean.Name.mkSimple s)
 let mk (e:Lean.TSyntax `term)(c:Array (Lean.TSyntax `tactic)):Lean.MacroM (Lean.TSyntax `tactic):=do
  let mut al:=#[]
  for i in [0:n] do
   let k:=n-1-i
   let m:=n-k
   if k>16||m>18 then continue
   let a:=vs.extract 0 k
   let b:=vs.extract k n
   let E:=N s!"ex{k}"
   let A:=N s!"an{m}"
   al:=al.push (← if k==0 then `(tacticSeq|(refine $A $e λ$b*=>?_;$[$c]*)) else if m==1 then `(tacticSeq|(refine $E $e λ$vs*=>?_;$[$c]*)) else `(tacticSeq|(refine $E $e λ$a* $z=>$A $z λ$b*=>?_;clear $z;$[$c]*)))
  al:=al.push (← `(tacticSeq|fail))
  `(tactic|first $[| $al]*)
 let t ← mk e sb
 if e.raw.isIdent then
  let i:Lean.TSyntax `ident:=⟨e.raw⟩
  let s ← mk w (#[← `(tactic|clear $w)]++sb)
  `(tactic|first|(revert $i;intro $w:ident;$s:tactic)|$t:tactic)
 else return t
|`(tactic|exact⟨$ps,*⟩)=>do
 let ps:=ps.getElems
 let n:=ps.size
 if n<3 then Lean.Macro.throwUnsupported
 let mut al:=#[]
 for i in [1:n-1] do
  let k:=n-i
  if k>12 then continue
  let a:=ps.extract 0 k
  let b:=ps.extract k n
  let E:=Lean.mkIdent (`Xobt++Lean.Name.mkSimple s!"in{k}")
  let r ← if b.size==1 then pure b[0]! else `(⟨$b,*⟩)
  al:=al.push (← `(tacticSeq|exact $E $a* $r))
 `(tactic|first $[| $al]*)
|`(tactic|refine⟨$ps,*⟩)=>do
 let ps:=ps.getElems
 let n:=ps.size
 if n<3 then Lean.Macro.throwUnsupported
 let mut al:=#[]
 for i in [1:n-1] do
  let k:=n-i
  if k>12 then continue
  let a:=ps.extract 0 k
  let b:=ps.extract k n
  let E:=Lean.mkIdent (`Xobt++Lean.Name.mkSimple s!"in{k}")
  let r ← if b.size==1 then pure b[0]! else `(⟨$b,*⟩)
  al:=al.push (← `(tacticSeq|refine $E $a* $r))
 `(tactic|first $[| $al]*)
open List renaming length_map → Za, getElem?_eq_some_iff → Zb, mem_cons_self → Zd, all_eq_true → Ze, mem_cons_of_mem → Zf, length → Zh, length_append → Zi, size_toArray → Zk, range → Zl, mem_cons → Zm, getElem?_append_right → Zn, getElem?_map → Zo, replicate → Zp, map_cons → Zs, mem_singleton → Zt, mem_append → Zu, map_append → Zv, getElem?_append_left → Zw, mem_of_getElem? → Zy, length_take → ZA, length_cons → ZB, mem_append_right → ZC, getElem?_set_self → ZD, getElem?_set_ne → ZE, getElem?_eq_none → ZG, mem_map → ZH, length_singleton → ZJ, getElem_mem → ZK, take_succ_eq_append_getElem → ZM, append_nil → ZO, lookup_cons → ZS, mem_range → ZT, mem_append_left → ZU, map_nil → ZV, all_map → ZW, append_assoc → ZX, all_cons → ZZ, mem_flatMap → Z0, length_range → Z2, contains_cons → Z4, take_length → Z8, range_succ → Yc, map_map → Yd, length_drop → Yg, not_mem_nil → Yh, take_of_length_le → Yj, replicate_succ → Yk, getElem?_eq_none_iff → Yl, prefix_refl → Yn, getElem?_replicate → Yo, length_eq_zero_iff → Yp, nodup_cons → Yq, getElem_of_mem → Yr, getD_eq_getElem?_getD → Ys, flatten_cons → Yt, any_cons → Yu, cons_append → Yv, mem_filterMap → Yx, prefix_append → Yy, pairwise_cons → Yz, length_set → YA, find?_cons → YB, drop → YD, take_append_drop → YF, getElem?_set → YG, reverse_cons → YH, mem_of_mem_take → YI, drop_zero → YJ, map_congr_left → YL, drop_succ_cons → YM, of_mem_zip → YN, foldl_cons → YO, zip_cons_cons → YQ, filter_append → YR, eraseIdx_cons_succ → YS, nodup_append → YU, length_replicate → YV, getElem_inj → YW, countP_cons → YX, filter_cons → YY, any_eq_true → YZ, nil_append → Y0, length_nil → Y1, filterMap_cons → Y2, toList_toArray → Y3, getElem?_range → Y4, length_reverse → Y5, forIn_nil → Y6, take_sublist → Y7, foldl_append → Y9, map_inj_left → Xa, flatMap_cons → Xb, set_comm → Xd, getElem?_take_of_lt → Xe, cons_ne_nil → Xh, getElem?_cons_succ → Xi, set → Xj, all_nil → Xm, range_succ_eq_map → Xn, toArray → Xo, forIn_cons → Xq, singleton_append → Xu, contains_iff_mem → Xv, lookup → Xx, mem_iff_getElem → Xz, getElem?_of_mem → XB, flatMap_append → XD, replicate_zero → XF, filterMap_map → XM, getElem_take → XZ, cons → X3, flatten_nil → X5, mem_filter → Wa, countP_map → Wd, foldl → Wf, nodup_nil → Wg, count → Wi, map_take → Wk, take_add → Wl, take_nil → Wm, drop_nil → Wn
open Nat renaming le_refl → Zc, lt_of_lt_of_le → Zx, le_trans → Zz, ne_of_lt → ZF, lt_irrefl → ZQ, not_lt_zero → Z5, sub_self → Z7, le_succ → Yw, le_of_succ_le → Y8, le_of_lt → Xk, add_sub_add_right → Xs, zero_le → Xy, ne_of_gt → XR, succ_mul → XU, lt_trans → XV, lt_succ_of_lt → XY, succ_le_succ → X1, succ_ne_self → X2, le_max_right → X4, lt_succ_self → X7, succ_ne_zero → X8, log2_lt → X9, min_eq_left → Wb, le_max_left → Wc, sub_zero → Wp, zero_add → Wq
open Bool renaming false_ne_true → Zg, false_and → ZL, and_false → ZP, true_and → ZR, eq_iff_iff → ZY, eq_false_iff → Z3, false_eq_true → Ye, and_true → Yi, or_eq_true → YC, and_comm → Xc, and_self → Xf, and_eq_true_iff → XC, or_false → XH, and_assoc → Wh, false_or → Wj
open PySem.Heap renaming get?_push_of_some → Zj, lt_size → Zq, get?_push_size → ZI, size_push → YT, size_update → Xg, get?_update_other → Xl, get?_update_self → Xr, get?_update_ne → XG, get?_push_ne → XX
open Option renaming map_some → Zr, map_eq_some_iff → Z6, isSome_iff_exists → Yb, getD_some → Ym, isSome_some → XN, isSome_map → XW, getD_none → X0, bind → Ws, map → Wt
open Int renaming toNat_natCast → ZN, emod_lt_of_pos → XQ, emod_nonneg → We, ediv_one → Wo, add_zero → Wr
open Array renaming length_toList → Z1, toList_append → Z9, getElem?_toList → YE, getElem?_eq_some_iff → YK, getElem?_eq_none → Xp, mem_toList_iff → Xw, append_assoc → XJ, toList_inj → X6
open PyProof.Rows renaming boot_enumerate → Wu, boot_int → Wv, boot_isinstance → Ww, boot_list → Wx, boot_sorted → Wy, boot_str → Wz, boot_tuple → WA, callWith_type1 → WB, slot_tuple_getitem → WC
open PySem.Calls renaming Name_function_global → WD, call_len_list → WE, evalArgs_plain → WF
open PySem renaming Comprehension → WG, DictEntry → WH, FuncData → WZ, GenState → W0, NameKind → W1, Operator → W2, Spec → Vg, assignEach → VF, assignInOrder → VG, behindInMarks → VH, binaryOp → VI, bindName → VJ, bootBuiltins → VL, boot_len → VM, builtinsNs → VN, call_meets → VO, call_repr_slot → VP, cellsFrom → VQ, codeAny_call_builtin → VR, codeAny_call_function → VS, codeAny_mono → VT, compareOp → VU, comprehension → VW, concat_meets → VX, dictText_mem_le → VY, evalPart_none → VZ, excClassObj → V0, foldedSetIterable → V1, importedModules → V2, inplaceOp → V3, letOwnedTupleGo → V4, lookupAlong → V5, mainGlobals → V6, mem_of_lookup → V7, newFunctionEnv → V8, noFill_tuple_add → V9, not_mem_of_deeper → Ua, pushCells → Ub, pushCells_keeps → Uc, seqIndex_neg → Ud, seqIndex_of → Ue, seq_tuple_add → Uf, sizeLine_eq → Ug, sliceBounds → Uh, starEach → Ui, strLen_append → Uj, swappedStores → Uk, swapsWith → Ul, swapsWithSole → Um, sysModules → Uo, textFrom → Up, treeTable → Uq, tupleKind → Ur, tupleKind_room_in1 → Us, typeLookup → Ut, unpackItems → Uu, wpAny_Call_Name_kw → Uv, wpAny_Return_some → Uw, wpAny_bind → Ux, wpAny_bindName → Uy, wpAny_call_entry → Uz, wpAny_comprehension_free → UA, wpAny_eqBool_int → UB, wpAny_execs_cons → UC, wpAny_execs_nil → UD, wpAny_field → UE, wpAny_getItem_list_slice → UF, wpAny_holding → UG, wpAny_isSubtype_exc → UH, wpAny_letOwnedTupleGo_enum → UI, wpAny_loadName_local → UJ, wpAny_loadPart' → UK, wpAny_loadPart_at → UL, wpAny_mono → UM, wpAny_newFunctionEnv_cells → UN, wpAny_newList → UO, wpAny_newObj_type → UP, wpAny_passesOwn → UQ, wpAny_pure → UR, wpAny_pyIter_enum → US, wpAny_pyIter_list → UT, wpAny_pyIter_tuple → UU, wpAny_pyNext_enum_endD → UV, wpAny_pyNext_enum_itemD → UW, wpAny_rule → UX, wpAny_sequenceKey → UY, wpAny_standAt → UZ, wpAny_truthy_bool → U0, wpAny_typeOf → U1
open PySem.F renaming args_tuple_add_2 → WI, args_tuple_iterator_next_1 → WJ, entry_tuple_add → WK, entry_tuple_iterator_next → WL, plainAttrs_list → WM, plainAttrs_str → WN, slot_list_append → WO, slot_list_count → WQ, slot_list_index → WR, slot_list_pop → WT, slot_str_split → WU, slot_tuple_add → WV, slot_tuple_count → WW, slot_tuple_iterator_next → WX, typeOf_object_class → WY
open PySem.PyData renaming depth → W3, depthAll → W4, depthAll_keys_le → W5, depthAll_vals_le → W6, depthKv → W7, shown → W8, shownAll → W9, shownKv → Va, shownKv_eq → Vb, shownKv_key_le → Vc, shownKv_val_le → Vd
open PySem.SeqAt renaming EqAt → Ve, RcNeAt → Vf
open PySem.W renaming Frag → Vh, callWith_K → Vi, cellsFrom_some → Vj, clsIn → Vk, codeIn → Vl, codeRec_of → Vm, findIn → Vn, fnOf → Vo, hideAll_get → Vp, instObj → Vq, kas_sort → Vr, keepIn → Vs, kia_one → Vt, kitCls → Vu, kitOne → Vv, kitx_dict → Vw, kitx_list → Vx, lookIn → Vy, methodObj → Vz, mroIn → VA, of_hideAll → VB, plainGet → VC, subIn → VE
namespace Cut
open PySem PySem.W
abbrev rP(T:String->Option Builtin)(p:Program)(w:World)(b:Nat)(c:Option Value):Nat->Shared->Thread->Option (Shared × Thread)
 |0,s,t=>aD (s,t)
 |n+1,s,t=>match through t with
  |true=>aT
  |false=>match stepOk b c t with
   |false=>aT
   |true=>match step (denote T) p w s t with
    |.go s' t'=>rP T p w b c n s' t'
    |.halt _ _=>aT
def A9{T:String->Option Builtin}{p:Program}{w:World}{b:Nat}{c:Option Value}{m:Nat}:∀ {n:Nat} {s f:Shared} {t t':Thread},rP T p w b c n s t=aD (f,t')->topRun T p w b c (m+n) s t=topRun T p w b c m f t'
 |0,s,f,t,t',h=>by cases h;rfl
 |n+1,s,f,t,t',h=>by
  rw[<-Nat.add_assoc];unfold rP at h
  conv=>lhs;unfold topRun
  cases j:through t with
  |true=>rw[j] at h;cases h
  |false=>
   rw[j] at h;dsimp only at h ⊢;cases E:stepOk b c t with
   |false=>rw[E] at h;cases h
   |true=>
    rw[E] at h;dsimp only at h ⊢;cases g:step (denote T) p w s t with
    |halt o q=>rw[g] at h;cases h
    |go q u=>
     rw[g] at h;exact A9 h
section
variable (p:Program) (w:World)
abbrev s0:Shared:=(fencedOpening Uq p w 20000).getD {}
abbrev n0:Nat:=(s0 p w).heap.objs.size
abbrev an:Option Value:=(s0 p w).heap.nsMap V6 "__annotations__"
abbrev st(n:Nat):Shared × Thread:=(rP Uq p w (n0 p w) (an p w) n (s0 p w) (topStub p)).getD (s0 p w,topStub p)
abbrev ent(n:String)(t:Nat)(v:Value):WH:=⟨reduceHash (w.params.strHash (Str.ofString n).cps),.str (Str.ofString n) t,v⟩
abbrev nm:List String:=["NoMeadow", "NoSky", "NoLandings", "NoOrder", "NoLot", "NoText", "NoName", "NoGlider", "NoMinute", "NoAim", "TooMany", "Bound", "NoDeed", "NoRow"]
abbrev cls(x:String × Nat):List Obj:=
 let n:=Str.ofString x.1;let b:=28+12 * x.2;let t:=207+16 * x.2;let l:Int:=4+2 * x.2
 let m:=Value.str (Str.ofString "downrings.errors") 187
 let f:=λt=>Value.str p.main.file t
 [⟨.type "tuple", aT,.seq #[.ref 24] 0,#[]⟩,
   ⟨.type "builtin_function_or_method", aT,.fields #[.builtin "type.__prepare__", .type "type"],#[]⟩,
   ⟨.type "dict", aT,.dict #[ent w "__module__" (t+7) m,ent w "__qualname__" (t+9) (.str n (t+8)),ent w "__firstlineno__" (t+11) (.int l (t+10)),ent w "__static_attributes__" (t+12) (.ref (b+7))] 4,#[]⟩,
   ⟨.type "tuple", aT,.seq #[] 0,#[]⟩,
   ⟨.none,aT,.fields #[],#[]⟩,
   ⟨.type "code", aT,.fields #[.str n (t+2),.str n (t+3),f (t+4),.int l 0,.int 0 0,.int 0 0,.int 0 0,.int 0 0,.ref (b+3),.bool bx,.int 181 0,.ref (b+4),.none,.none,.none,.none,.int (t+5:Nat) 0,.int l 0,f (t+6)],#[]⟩,
   ⟨.type "frame", aT,.plain,#[aD (.ref (b+5)),aD (.ref 3),aD (.ref (b+2)),aT,aD m,aT,aD (.ref 0)]⟩,
   ⟨.type "tuple", aT,.seq #[] 0,#[]⟩,
   ⟨.type "dict", aT,.dict #[ent w "__module__" (t+7) m,ent w "__firstlineno__" (t+11) (.int l (t+10)),ent w "__static_attributes__" (t+12) (.ref (b+7)),ent w "__doc__" (t+13) .none] 2,#[]⟩,
   ⟨.type "type", aT,.cls { name:=n,bases:=[.ref 24],mro:=[.ref (b+9),.ref 24,.type "ValueError", .type "Exception", .type "BaseException", .type "object"],ns:=b+8,qualname:=n },#[aD (.ref b),aT,aD (.str n t),aD (.str n (t+8)),aD (.builtin "ValueError.__new__"),aD (.bool br)]⟩,
   ⟨.type "super", aT,.fields #[.ref (b+9),.ref (b+9),.ref (b+9)],#[]⟩,
   ⟨.type "builtin_function_or_method", aT,.fields #[.builtin "object.__init_subclass__", .ref (b+9)],#[]⟩]
abbrev Sx(o:Obj):Obj:=match o with
 |⟨c,d,.dict es n,s⟩=>⟨c,d,.dict (es++(nm.zipIdx.map λx=>ent w x.1 (222+16 * x.2) (.ref (37+12 * x.2))).toArray) (n+14),s⟩
 |o=>o
abbrev Pc(o:Obj):Obj:=match o with
 |⟨c,d,.fields vs,s⟩=>⟨c,d,.fields (vs++(nm.zipIdx.flatMap λx=>[Value.int (4+2 * x.2:Nat) 0,.int 0 0,.ref (33+12 * x.2)]).toArray),s⟩
 |o=>o
abbrev Pd(o:Obj):Obj:=match o with
 |⟨c,d,.cls k,s⟩=>⟨c,d,.cls { k with subclasses:=nm.zipIdx.map λx=>.ref (37+12 * x.2) },s⟩
 |o=>o
abbrev mid:Shared:=match (st p w 208).1 with
 |⟨⟨os,l⟩,g,d,_,o⟩=>⟨⟨((((os.toList.modify 3 (Sx w)).modify 12 Pc).modify 24 Pd)++(nm.zipIdx.flatMap (cls p w))).toArray,l⟩,g,d,431,o⟩
abbrev Pe:Thread:=match (st p w 208).2 with
 |⟨_,.body ss env,_,k⟩=>⟨do return .done (<-(execs (ss.drop 16) env).onRaise (leaving env)),.body ss env,⟨30,0,31,8⟩,k⟩
 |t=>t
abbrev Kb(s:Shared)(o:Option Shared):Option Shared:=bif s.gens.size == 0 && s.heap.isNs V6 then (o.bind λu=>bif laidKept s.heap u.heap && (gensDone u && (namesBound p u.heap && staticsOk (V2 p.main.body) s.heap u.heap)) then aD u else aT) else aT
end
def Pf{T:String->Option Builtin}{p:Program}{w:World}{N:Nat}{s:Shared}:topFrom T p w N s=Kb p s (topRun T p w s.heap.objs.size (s.heap.nsMap V6 "__annotations__") N s (topStub p)):=by
 unfold topFrom Kb;rw[Xc];cases s.gens.size == 0 && s.heap.isNs V6 with
 |false=>rfl
 |true=>
  show Ws _ _=Ws _ _
  congr 1
  funext u
  rw[Xc,Xc (_ && _) (gensDone u),Xc _ (namesBound p u.heap)];cases laidKept s.heap u.heap && (gensDone u && (namesBound p u.heap && staticsOk (V2 p.main.body) s.heap u.heap)) <;> rfl
@[inline]abbrev PartA(p:Program):Prop:=∀w,rP Uq p w (n0 p w) (an p w) 3189 (s0 p w) (topStub p)=aD (mid p w,Pe p w)
abbrev fin(p:Program)(w:World):Option Shared:=Kb p (s0 p w) (topRun Uq p w (n0 p w) (an p w) 16811 (mid p w) (Pe p w))
@[inline]abbrev PartB(p q:Program)(loose:List Str)(X:Shared->Bool):Prop:=∀w,(fin p w).map (openSeen q loose (V2 p.main.body) X br)=aD (openGood q loose)
@[inline]abbrev PartC(p:Program){b:Type}(y:Shared->b)(Y:World->b):Prop:=∀w,(fin p w).map y=aD (Y w)
def two{p:Program}{j c o:Type}{f:Shared->j}{g:Shared->c}{a:World->j}{b:World->c}(k:j->c->o)(h:PartC p f a)(i:PartC p g b):PartC p (λs=>k (f s) (g s)) (λw=>k (a w) (b w)):=λw=>by
 obtain⟨u,H,q⟩:=Z6.mp (h w);have E:=i w;rw[H] at E ⊢;have E:=Option.some.inj E;show aD (k (f u) (g u))=_;rw[q,E]
def left_cut{p q:Program}{loose:List Str}{X:Shared->Bool}{b:Type}{Y:Shared->b}{y:World->b}(c:∀w,(fencedOpening Uq p w 20000).isSome=br)(j:PartA p)(H:PartB p q loose X)(hC:PartC p Y y):LeftO p q loose X Y y 20000:=λw=>by
 obtain⟨s,hs⟩:=Yb.mp (c w);have f:s0 p w=s:=by unfold s0;rw[hs];rfl
 obtain⟨u,h,g⟩:=Z6.mp (H w);have E:=hC w;rw[h] at E;have E:Y u=y w:=Option.some.inj E;have a:=A9 (m:=16811) (j w);unfold fin at h;unfold n0 an at a h;rw[<-a,f] at h;unfold openEnds;rw[hs];show Wt _ (topFrom Uq p w 20000 s)=_;rw[Pf];refine(congrArg _ h).trans ?_;show aD (openSeen q loose (V2 p.main.body) X br u,Y u)=_;rw[g,E]
end Cut
namespace Ev
open PySem
inductive CV where
 |i (i:Int) |s (x:Str) |w (ws:List Str)
deriving DecidableEq
abbrev oo:List Value->Option (List Str)
 |[]=>aD []
 |.str x _::l=>(oo l).map (x::·)
 |_=>aT
end Ev
def gEG{b:Type _}{l:List b}{i:Nat}(h:i < l.length):l[i]?=aD l[i]:=List.getElem?_eq_getElem h
def bAE(a b:Bool):((a && b)=br)=(a=br/\b=br):=Bool.and_eq_true a b
namespace L2
open PySem PySem.Spec PyProof.Rows
abbrev dQ(s:Stmt):Arguments:=match s with
 |.FunctionDef _ a _ _ _ _ _ _ _ _=>a
 |_=>{ posonlyargs:=[],args:=[],vararg:=aT,kwonlyargs:=[],kw_defaults:=[],kwarg:=aT,defaults:=[] }
abbrev bw(s:Stmt):List Stmt:=match s with
 |.FunctionDef _ _ b _ _ _ _ _ _ _=>b
 |_=>[]
abbrev ao(s:Stmt):Scope:=match s with
 |.FunctionDef _ _ _ _ _ _ sc _ _ _=>sc
 |_=>{ kind:=.function,names:=[],isGenerator:=false,isCoroutine:=false }
end L2
namespace Ev
open PySem PySem.Spec PyProof.Rows L2
abbrev fW:List Str:=["len", "isinstance", "all", "any", "tuple", "list", "max", "min", "repr", "range", "enumerate", "int", "bool", "str", "sorted", "zip"]
abbrev bmV:List Value:=[.type "ValueError", .type "Exception", .type "BaseException", .type "object"]
abbrev quN:List Str:=["__init__", "__getattribute__", "__getattr__", "__class__"]
abbrev kP:List Str:=["NoMeadow", "NoSky", "NoLandings", "NoOrder", "NoLot", "NoText", "NoName", "NoGlider", "NoMinute", "NoAim", "TooMany", "Bound", "NoDeed", "NoRow", "NoWay"]
@[inline]abbrev rQ:=(Str × Str) × (Arguments × List Stmt) × (Scope × Addr) × (List (Str × Addr) × Value) × (Addr × Option Str)
abbrev Jc(h:Heap):Value->Option Str
 | .ref c=>(match h.get? c with
  |some ⟨_,_,.fields vs,_⟩=>(match vs.toList with |_ :: .str n _::_=>aD n |_=>aT)
  | _=>aT)
 |_=>aT
abbrev Pg(h:Heap):Option Obj->Option rQ
 |some ⟨_,_,.func ⟨nm,qn,ps,.stmts b,sc,gl,cl,dv,_,_,_,_,cd,_,bi⟩,_⟩=>aD ((nm,qn),(ps,b),(sc,gl),(cl,dv),(bi,Jc h cd))
 |_=>aT
abbrev uI(h:Heap)(x:Str):Option rQ:=match h.nsMap V6 x with
 |some (.ref f)=>Pg h (h.get? f)
 |_=>aT
abbrev Fb(h:Heap)(x:Str):Option CV:=match h.nsMap V6 x with
 |some (.int v _)=>aD (.i v)
 |some (.str v _)=>aD (.s v)
 | some (.ref a)=>(match h.get? a with
  |some ⟨.type "tuple", _,.seq its _,_⟩=>if its.size<=1000 then (oo its.toList).map .w else aT
  | _=>aT)
 |_=>aT
abbrev adX(h:Heap)(x:Str):Addr:=match h.nsMap V6 x with
 |some (.ref C)=>C
 |_=>0
abbrev Fc(h:Heap)(b:List Value)(x:Str):Bool:=match h.nsMap V6 x with
 | some (.ref C)=>(match h.get? C with
  | some ⟨.type "type", _,.cls cd,sl⟩=>(match cd.mro,sl.toList with
   |.ref C'::bm',[_,_,_,_,aD (.builtin n),_]=>C' == C && bm' == b && n == "ValueError.__new__" && !cd.hasDel && h.isNs cd.ns && quN.all λq=>(h.nsMap cd.ns q).isNone
   | _,_=>bx)
  | _=>bx)
 |_=>bx
abbrev Kc(h:Heap)(x:Str):Bool:=match h.nsMap V6 x with
 | some (.ref C)=>(match h.get? C with
  |some ⟨.type "type", _,.cls _,_⟩=>br
  | _=>bx)
 |_=>bx
abbrev Kd:List Nat->Bool
 |[]=>br
 |a::l=>!(l.contains a) && Kd l
abbrev Ba(h:Heap):Bool:=Fc h bmV "RingError" && (kP.take 14).all (Fc h (.ref (adX h "RingError")::bmV)) && kP.all (Kc h) && Kd (adX h "RingError" :: kP.map (adX h)) && (h.nsMap V6 "ValueError").isNone
end Ev
namespace Lw
open PySem
abbrev con:List (Str × Ev.CV):=[("LAST_MINUTE", .i 9999),("FIGURES", .s "0123456789"),("MOST_FIGURES", .i 40),("MOST_RINGS", .i 8),("MOST_SINK", .i 60),("MOST_KINDS", .i 4),("MOST_GAP", .i 99),("MOST_SHUTS", .i 4),("MOST_GLIDERS", .i 7),("MOST_WEIGHT", .i 99),("WORDS", .w ["meadow", "gaps", "shut", "ahead", "glider", "fixed"])]
abbrev nx:List (String × Nat):=[("is_whole", 21),("is_within", 22),("is_minute", 23),("is_tuple", 24),("are_unlike", 25),("number_in", 26),("is_meadow", 33),("are_gaps", 34),("is_gap_row", 35),("no_glider_between_helps", 36),("are_shuts", 37),("is_stretch", 38),("is_kind", 39),("is_sky", 43),("is_ahead", 44),("are_gliders", 45),("is_glider", 46),("are_fixed", 47),("check_sky", 48),("written", 51),("read", 52),("text_of", 53),("row_of", 54),("sky_in", 55),("first_row", 56),("_law_cell_at", 58),("_law_pot", 59),("_law_take", 60),("_law_whole", 61),("_law_within", 62),("_law_gaps", 63),("_law_shuts", 64),("_law_meadow", 65),("_law_glider", 66),("_law_mixed", 67),("_law_sky", 68),("_law_odd", 69),("_law_bent", 70),("_law_word", 71),("_law_is_meadow", 72),("_law_is_glider", 73),("_law_is_sky", 74),("_law_text", 75),("_law_told", 76),("law", 77)]
abbrev top(i:Nat):Stmt:=PySem.Challenge.pw_downrings_k71_skies_written_and_read.main.body.getD i (.Pass ⟨0,0,0,0⟩)
end Lw
section
open PySem PySem.W PyProof.Rows
noncomputable abbrev Lw.view:Program:={ PySem.Challenge.pw_downrings_k71_skies_written_and_read with main:={ PySem.Challenge.pw_downrings_k71_skies_written_and_read.main with body:=[Lw.top 77] } }
noncomputable abbrev Lw.loose:List PySem.Str:=(Lw.nx.take 44).map (λx=>.ofString x.1)++Lw.con.map (·.1)++("RingError" : PySem.Str)::Ev.kP
set_option maxHeartbeats 0 in
def Lw.said:PySem.Challenge.rw_downrings_k71_skies_written_and_read.wellSaid=br:=by kernel_rfl
set_option maxHeartbeats 0 in
def Lw.opn:∀w,(fencedOpening Uq PySem.Challenge.rw_downrings_k71_skies_written_and_read.row.toRowW.prog w 20000).isSome=br:=λw=>by kernel_rfl
set_option maxHeartbeats 0 in
def Lw.partA:Cut.PartA PySem.Challenge.rw_downrings_k71_skies_written_and_read.row.toRowW.prog:=λw=>by kernel_rfl
set_option maxHeartbeats 0 in
def Lw.partB:Cut.PartB PySem.Challenge.rw_downrings_k71_skies_written_and_read.row.toRowW.prog Lw.view Lw.loose (λs=>xlAt Lw.view [] s && recOk (RowW.records PySem.Challenge.rw_downrings_k71_skies_written_and_read.row.toRowW) s):=λw=>by kernel_rfl
end
namespace Lw
open PySem
abbrev ob(l:List (String × Nat))(s:Shared):=l.map λx=>Ev.uI s.heap (.ofString x.1)
abbrev vb(l:List (String × Nat)):List (Option Ev.rQ):=l.map λx=>let n:=Str.ofString x.1;aD ((n,n),(L2.dQ (top x.2),L2.bw (top x.2)),(L2.ao (top x.2),V6),([],.none),(VN,aD n))
set_option maxHeartbeats 0 in
def Ke:Cut.PartC PySem.Challenge.rw_downrings_k71_skies_written_and_read.row.toRowW.prog (ob (nx.take 30)) (λ_=>vb (nx.take 30)):=λw=>by kernel_rfl
set_option maxHeartbeats 0 in
def Kf:Cut.PartC PySem.Challenge.rw_downrings_k71_skies_written_and_read.row.toRowW.prog (λs=>(s.heap.isNs V6,ob (nx.drop 30) s,con.map (λc=>Ev.Fb s.heap c.1),(Ev.fW.map λx=>(s.heap.nsMap V6 x).isNone),Ev.Ba s.heap)) (λ_=>(br,vb (nx.drop 30),con.map (λc=>aD c.2),(Ev.fW.map λ_=>br),br)):=λw=>by kernel_rfl
end Lw
namespace L2
open PySem PySem.Spec PyProof.Rows
@[inline]abbrev Key:=Sum Int Str
abbrev kq:Key->Value->Bool
 |.inl k,v=>Value.isInt k v
 |.inr x,v=>Value.isStrOf x v
abbrev Sy(w:World):Key->Int
 |.inl k=>hashInt k
 |.inr x=>hashStr w x
def a9:∀ {k:Key} {v:Value},kq k v=br->(∃i t,k=Sum.inl i/\v=Value.int i t)\/(∃x t,k=Sum.inr x/\v=Value.str x t)
 |.inl i,v,h=>by
  obtain⟨t,e⟩:=Value.isInt_shape (k:=i) (v:=v) h;exact .inl ⟨i,t,rfl,e⟩
 |.inr x,v,h=>by
  obtain⟨t,e⟩:=Value.isStrOf_shape (x:=x) (v:=v) h;exact .inr ⟨x,t,rfl,e⟩
def zj(i:Int)(t:Tok):kq (.inl i) (.int i t)=br:=by simp[kq,Value.isInt]
def zk(x:Str)(t:Tok):kq (.inr x) (.str x t)=br:=by simp[kq,Value.isStrOf]
def Kg(a b:Int):decide ((Sum.inl a:Key)=Sum.inl b)=(a == b):=by
 by_cases e:a=b
 ·subst e;simp
 ·have h:¬ (Sum.inl a:Key)=Sum.inl b:=λq=>e (Sum.inl.inj q);rw[decide_eq_false h];exact(beq_eq_false_iff_ne.mpr e).symm
def Kh(a b:Str):decide ((Sum.inr a:Key)=Sum.inr b)=decide (a=b):=by
 by_cases e:a=b
 ·subst e;simp
 ·have h:¬ (Sum.inr a:Key)=Sum.inr b:=λq=>e (Sum.inr.inj q);rw[decide_eq_false h,decide_eq_false e]
def Ki(a:Int)(b:Str):decide ((Sum.inl a:Key)=Sum.inr b)=bx:=decide_eq_false (λq=>nomatch q)
def Kj(a:Str)(b:Int):decide ((Sum.inr a:Key)=Sum.inl b)=bx:=decide_eq_false (λq=>nomatch q)
abbrev bq(prog:Program)(w:World):PySem.KeyKind prog w Key where
 is:=kq
 hash:=Sy w
 inj:=λv a b f c=>by
  rcases a9 f with ⟨i,t,rfl,rfl⟩ |⟨x,t,rfl,rfl⟩
  ·rcases a9 c with ⟨j,u,rfl,e⟩ |⟨y,u,rfl,e⟩
   ·injection e with e1 _;rw[e1]
   ·exact nomatch e
  ·rcases a9 c with ⟨j,u,rfl,e⟩ |⟨y,u,rfl,e⟩
   ·exact nomatch e
   ·injection e with e1 _;rw[e1]
 byValue:=λk v h=>by
  rcases a9 h with ⟨i,t,rfl,rfl⟩ |⟨x,t,rfl,rfl⟩ <;> rfl
 pyHash:=λH h=>by
  rcases a9 H with ⟨i,t,rfl,rfl⟩ |⟨x,t,rfl,rfl⟩
  ·exact wpAny_pyHash_int h
  ·exact wpAny_pyHash_str h
 eqBool:=λg H h=>by
  rcases a9 g with ⟨i,t,rfl,rfl⟩ |⟨x,t,rfl,rfl⟩
  ·rcases a9 H with ⟨j,u,rfl,rfl⟩ |⟨y,u,rfl,rfl⟩
   ·rw[Kg] at h;exact UB h
   ·rw[Ki] at h;exact SeqAt.EqAt.int_str i t y u _ _ _ _ h
  ·rcases a9 H with ⟨j,u,rfl,rfl⟩ |⟨y,u,rfl,rfl⟩
   ·rw[Kj] at h;exact SeqAt.EqAt.str_int x t j u _ _ _ _ h
   ·rw[Kh] at h;exact wpAny_eqBool_str h
 «strs»:=λk x t v h=>by
  rcases a9 h with ⟨i,u,rfl,e⟩ |⟨y,u,rfl,e⟩
  ·exact nomatch e
  ·injection e with e1 _;subst e1;cases v <;> rfl
def rR(prog:Program)(w:World)(i:Int)(t:Tok):(bq prog w).is (.inl i) (.int i t)=br:=zj i t
def rT(prog:Program)(w:World)(x:Str)(t:Tok):(bq prog w).is (.inr x) (.str x t)=br:=zk x t
inductive V where
 |non |bl (b:Bool) |int (i:Int) |str (x:Str) |byt (b:Array UInt8) |flt (b:UInt64) |ref (a:Addr) |ty (n:String)
 deriving DecidableEq
abbrev aG:V->Value->Prop
 |.non,u=>u=Value.none
 |.bl b,u=>u=Value.bool b
 |.int i,u=>∃t,u=Value.int i t
 |.str x,u=>∃t,u=Value.str x t
 |.byt b,u=>∃t,u=Value.bytes b t
 |.flt b,u=>∃t,u=Value.float b t
 |.ref a,u=>u=Value.ref a
 |.ty n,u=>u=Value.type n
@[inline]abbrev aK:List V->List Value->Prop:=Paired aG
def aK.length{xs:List V}{u:List Value}(r:aK xs u):xs.length=u.length:=Paired.length r
def aK.get:∀ {xs:List V} {U:List Value} {i:Nat} {x:V},aK xs U->xs[i]?=aD x->∃u,U[i]?=aD u/\aG x u
 |_,_,_,_,.nil,e=>by simp at e
 |_,_,0,_,.cons r _,e=>by simp at e;subst e;exact⟨_,rfl,r⟩
 |_,_,i+1,x,.cons _ t,e=>by
  obtain⟨u,h,H⟩:=aK.get (i:=i) (x:=x) t (by simpa using e);exact⟨u,by simpa using h,H⟩
def aK.set{x:V}{u:Value}(r:aG x u):∀ {xs:List V} {U:List Value} (i:Nat),aK xs U->aK (xs.set i x) (U.set i u)
 |_,_,_,.nil=>.nil
 |_,_,0,.cons _ t=>.cons r t
 |_,_,i+1,.cons q t=>.cons q (aK.set r i t)
def aK.append:∀ {xs ys:List V} {u b:List Value},aK xs u->aK ys b->aK (xs++ys) (u++b)
 |_,_,_,_,.nil,s=>s
 |_,_,_,_,.cons r t,s=>.cons r (aK.append t s)
def aK.take:∀ {xs:List V} {u:List Value} (n:Nat),aK xs u->aK (xs.take n) (u.take n)
 |_,_,0,_=>.nil
 |_,_,_+1,.nil=>.nil
 |_,_,n+1,.cons r t=>.cons r (aK.take n t)
def aK.drop:∀ {xs:List V} {u:List Value} (n:Nat),aK xs u->aK (xs.drop n) (u.drop n)
 |_,_,0,r=>r
 |_,_,_+1,.nil=>.nil
 |_,_,n+1,.cons _ t=>aK.drop n t
abbrev uJ:Option V->Option Value->Prop
 |some v,aD u=>aG v u
 |none,aT=>True
 |_,_=>False
abbrev KV{b:Type}:List (b × V)->List (b × Value)->Prop:=Paired λ(p:b × V) (q:b × Value)=>p.1=q.1/\aG p.2 q.2
abbrev kV:Key->V
 |.inl i=>.int i
 |.inr x=>.str x
abbrev pV(h:Heap)(a:Addr)(I:Array Value):Prop:=∃o,h.get? a=aD o/\o.cls = .type "tuple"/\∃n,o.data = .seq I n/\o.dict=aT
def pV.isTup(x:pV h a items):IsTup h a items:=let ⟨o,e,c,n,d,_⟩:=x;⟨o,e,c,n,d⟩
def pV.lt(x:pV h a I):a < h.objs.size:=x.isTup.lt
def pV.new(h:Heap)(items:Array Value):pV (h.push { cls:=.type "tuple", data:=.seq items }) h.objs.size items:=⟨_,ZI _ rfl,rfl,_,rfl,rfl⟩
inductive HO where
  |lst (xs:List V)
  |tup (xs:List V)
  |dK (kvs:List (Key × V)) |dT (kvs:List (List Key × V))
  |set (S:Int->Bool) (n:Nat)
  |ins (C dx:Addr) (fs:List (Str × V))
  |own (x:Addr)
  |xd (fs:List (Str × V))
  |met (f x:Addr)
  |rng (lo hi:Int)
  |frz (o:Obj) (u:HO)
  |tbl (ps:Array Value)
  |ext (φ:Heap->Prop)
@[inline]abbrev Hp:=Addr->Option HO
abbrev upd(H:Hp)(a:Addr)(o:HO):Hp:=λb=>if b=a then aD o else H b
def aC{H:Hp}{a:Addr}{o:HO}:upd H a o a=aD o:=by unfold upd;rw[if_pos rfl]
def aw{H:Hp}{a b:Addr}{o:HO}(h:b ≠ a):upd H a o b=H b:=by unfold upd;rw[if_neg h]
def xo:upd (upd H a o) a u=upd H a u:=by
 funext b;unfold upd;split <;> rfl
def aV{H:Hp}{a b:Addr}{o:HO}(h:H a=aD o)(h':H b=aT):a ≠ b:=by
 intro e;subst e;rw[h] at h';cases h'
section
variable (P:Program) (w:World)
abbrev bz(H:Hp)(h:Heap)(a:Addr):HO->Prop
 |.lst xs=>xs.length<=sizeLine/\∃ (I:List Value) (n:Nat),aK xs I/\h.get? a=aD { cls:=.type "list", data:=.seq I.toArray n }
 |.tup xs=>xs.length<=sizeLine/\∃I:List Value,aK xs I/\pV h a I.toArray
 |.dK kvs=>kvs.length<=sizeLine/\(a == Uo)=bx/\∃b,KV kvs b/\h.DictOf (bq P w) a b
 |.dT kvs=>kvs.length<=sizeLine/\(a == Uo)=bx/\∃xs:List (List Key × Addr × Value),
   Paired (λ(p:List Key × V) (q:List Key × Addr × Value)=>p.1=q.1/\H q.2.1=aD (.tup (p.1.map kV))/\aG p.2 q.2.2) kvs xs ∧
   ∃o E j,h.get? a=aD o/\o.ExactDict/\o.data = .dict E j/\E.toList=xs.map (entryOfKey (Ur (bq P w)))/\(xs.map (·.1)).Nodup
 |.set S n=>h.SetOf (intKind P w) a S n
 |.ins C dx fs=>H dx=aD (.own a)/\fs.length<=1000/\dx ≠ a/\h.get? a=aD (Vq C dx) ∧
   ∃M,h.Ns1 dx M/\(∀f,uJ (fs.lookup f) (M f))/\PySem.Within M (fs.map (·.1))
 |.own _=>∃o,h.get? a=aD o
 |.xd fs=>∃M,h.Ns1 a M/\∀f,uJ (fs.lookup f) (M f)
 |.rng lo hi=>∃t u v,h.get? a=aD { cls:=.type "range", data:=.fields #[.int lo t,.int hi u,.int 1 v] }
 |.frz o u=>h.get? a=aD o/\bz H h a u
 |.tbl ps=>h.get? a=aD { cls:=.none,data:=.fields ps }
 |.met f x=>h.get? a=aD (Vz (.ref f) (.ref x))
 |.ext φ=>φ h/\(∃o,h.get? a=aD o)/\∀c g:Heap,φ c->(∀o,c.get? a=aD o->g.get? a=aD o)->φ g
abbrev HOk(H:Hp)(h:Heap):Prop:=∀a o,H a=aD o->bz P w H h a o
end
section
variable {P:Program} {w:World} {H H':Hp} {h h':Heap} {a:Addr} {o:HO}
def bz.lt(x:bz P w H h a o):a < h.objs.size:=by
 cases o with
 |lst xs=>obtain⟨_,_,_,_,e⟩:=x;exact Zq e
 |tup xs=>obtain⟨_,_,_,p⟩:=x;exact p.lt
 |dK b=>obtain⟨_,_,_,_,o,_,_,e,_⟩:=x;exact Zq e
 |dT b=>obtain⟨_,_,_,_,o,_,_,e,_⟩:=x;exact Zq e
 |set S n=>obtain⟨o,_,_,_,e,_⟩:=x;exact Zq e
 |ins C g fs=>obtain⟨_,_,_,e,_⟩:=x;exact Zq e
 |own y=>obtain⟨_,e⟩:=x;exact Zq e
 |xd fs=>obtain⟨_,⟨_,_,_,e,_⟩,_⟩:=x;exact Zq e
 |rng lo j=>obtain⟨_,_,_,e⟩:=x;exact Zq e
 |frz ob u=>obtain⟨e,_⟩:=x;exact Zq e
 |tbl ps=>exact Zq (show h.get? a=aD _ from x)
 |met f y=>exact Zq (show h.get? a=aD _ from x)
 |ext c=>obtain⟨_,⟨_,e⟩,_⟩:=x;exact Zq e
def Paired.mapP{j g:Type}{F G:j->g->Prop}:∀ {L:List j} {c:List g},Paired F L c->(∀a b,F a b->G a b)->Paired G L c
 |_,_,.nil,_=>.nil
 |_,_,.cons r t,f=>.cons (f _ _ r) (Paired.mapP t f)
def bz.stay(x:bz P w H h a o)(k:∀b u,(b=a\/H b=aD (.own a))->h.get? b=aD u->h'.get? b=aD u)
  (J:∀b,H b=aD (.own a)->H' b=aD (.own a)) (Q:∀b xs,H b=aD (.tup xs)->H' b=aD (.tup xs)):bz P w H' h' a o:=by
 induction o with
 |lst xs=>obtain⟨z,I,n,r,e⟩:=x;exact⟨z,I,n,r,k _ _ (.inl rfl) e⟩
 |tup xs=>obtain⟨z,I,r,ob,e,c⟩:=x;exact⟨z,I,r,ob,k _ _ (.inl rfl) e,c⟩
 |dK j=>obtain⟨z,y,T,r,ob,g,E,e,c⟩:=x;exact⟨z,y,T,r,ob,g,E,k _ _ (.inl rfl) e,c⟩
 |dT j=>
  obtain⟨z,y,xs,r,ob,g,E,e,c⟩:=x;exact⟨z,y,xs,Paired.mapP r λp q z=>⟨z.1,Q _ _ z.2.1,z.2.2⟩,ob,g,E,k _ _ (.inl rfl) e,c⟩
 |set S n=>obtain⟨ob,g,E,t,e,c⟩:=x;exact⟨ob,g,E,t,k _ _ (.inl rfl) e,c⟩
 |ins C Y fs=>
  obtain⟨d,z,ne,e,M,⟨O,g,E,L,c⟩,r⟩:=x;exact⟨J _ d,z,ne,k _ _ (.inl rfl) e,M,⟨O,g,E,k _ _ (.inr d) L,c⟩,r⟩
 |own y=>obtain⟨ob,e⟩:=x;exact⟨ob,k _ _ (.inl rfl) e⟩
 |xd fs=>obtain⟨M,⟨O,g,E,e,c⟩,r⟩:=x;exact⟨M,⟨O,g,E,k _ _ (.inl rfl) e,c⟩,r⟩
 |rng lo X=>obtain⟨t,u,v,e⟩:=x;exact⟨t,u,v,k _ _ (.inl rfl) e⟩
 |frz ob u B=>obtain⟨e,q⟩:=x;exact⟨k _ _ (.inl rfl) e,B q⟩
 |tbl ps=>
  have e:h.get? a=aD { cls:=.none,data:=.fields ps }:=x;show h'.get? a=aD { cls:=.none,data:=.fields ps };exact k a _ (.inl rfl) e
 |met f y=>
  have e:h.get? a=aD (Vz (.ref f) (.ref y)):=x;show h'.get? a=aD (Vz (.ref f) (.ref y));exact k a _ (.inl rfl) e
 |ext U=>obtain⟨p,⟨o,e⟩,st⟩:=x;exact⟨st _ _ p λo q=>k _ _ (.inl rfl) q,⟨o,k _ _ (.inl rfl) e⟩,st⟩
def HOk.lt(x:HOk P w H h)(e:H a=aD o):a < h.objs.size:=(x a o e).lt
def HOk.fresh(x:HOk P w H h)(e:h.objs.size<=a):H a=aT:=by
 cases q:H a with
 |none=>rfl
 |some u=>exact absurd (Zx (x.lt q) e) (ZQ _)
def HOk.kept(x:HOk P w H h)(k:∀b u,h.get? b=aD u->h'.get? b=aD u):HOk P w H h':=λa o e=>
 (x a o e).stay (λb u _ q=>k b u q) (λ_ q=>q) λ_ _ q=>q
def HOk.laid(x:HOk P w H h)(k:∀b u,h.get? b=aD u->h'.get? b=aD u)(j:h.objs.size<=a)(new:bz P w (upd H a o) h' a o):HOk P w (upd H a o) h':=λb u e=>by
 have g:=x.fresh j;by_cases f:b=a
 ·subst f;rw[aC] at e;cases e;exact new
 ·rw[aw f] at e;exact(x b u e).stay (λc v _ q=>k c v q) (λc q=>by rw[aw (aV q g)];exact q) λc xs q=>by rw[aw (aV q g)];exact q
end
abbrev Rd(H:Hp)(a:Addr)(u:HO):Prop:=H a=aD u\/∃o,H a=aD (.frz o u)
def Rd.ok{P:Program}{w:World}{H:Hp}{h:Heap}{a:Addr}{u:HO}(r:Rd H a u)(x:HOk P w H h):bz P w H h a u:=by
 rcases r with r |⟨o,r⟩
 ·exact x a u r
 ·obtain⟨_,q⟩:=x a _ r;exact q
abbrev Mut:Option HO->Prop
 |some (.lst _)=>True
 |some (.dK _)=>True
 |some (.dT _)=>True
 |some (.set _ _)=>True
 |some (.ins _ _ _)=>True
 |some (.ext _)=>True
 |_=>False
section
variable {P:Program} {w:World} {H:Hp} {h h':Heap} {x e:Addr} {o':HO}
def HOk.write(ok:HOk P w H h)(M:Mut (H x))(B:e=x\/H e=aD (.own x))(k:∀b u,b ≠ e->h.get? b=aD u->h'.get? b=aD u)(p:∃u,h'.get? e=aD u)
  (new:bz P w (upd H x o') h' x o'):HOk P w (upd H x o') h':=λb u q=>by
 have g:∀c y,H c=aD (.own y)->c ≠ x:=λc y r z=>by subst z;rw[r] at M;exact M
 have j:∀c xs,H c=aD (.tup xs)->c ≠ x:=λc xs r z=>by subst z;rw[r] at M;exact M
 by_cases o:b=x
 ·subst o;rw[aC] at q;cases q;exact new
 ·rw[aw o] at q;by_cases f:b=e
  ·have Q:H b=aD (.own x):=by
    rcases B with z |z
    ·exact absurd (f.trans z) o
    ·rw[f];exact z
   rw[q] at Q;cases Q;obtain⟨v,C⟩:=p;exact⟨v,by rw[f];exact C⟩
  ·refine(ok b u q).stay (λc v hc r=>k c v ?_ r) (λc r=>by rw[aw (g c b r)];exact r) λc xs r=>by rw[aw (j c xs r)];exact r
   rcases hc with rfl |hc
   ·exact f
   ·rintro rfl;rcases B with z |z
    ·exact g c b hc z
    ·rw[hc] at z;cases z;exact o rfl
end
structure Un(fs ex:List Addr)(H H':Hp)(h h':Heap):Prop where
 keep:∀b o,h.get? b=aD o->H b=aT->b ∉ fs->b ∉ ex->h'.get? b=aD o
 slot:∀b o,h.get? b=aD o->H b=aT->b ∈ fs->b ∉ ex->∃sl,h'.get? b=aD { o with slots:=sl }
 free:∀b o,h.get? b=aD o->H b=aT->b ∉ ex->H' b=aT
 there:∀b o,h.get? b=aD o->b ∉ ex->∃o',h'.get? b=aD o'
 tups:∀b xs,H b=aD (.tup xs)->H' b=aD (.tup xs)
 frzs:∀b o u,H b=aD (.frz o u)->H' b=aD (.frz o u)
 tbls:∀b ps,H b=aD (.tbl ps)->∃more,H' b=aD (.tbl (ps++more))
section
variable {fs fs' ex ex':List Addr} {H H1 H2:Hp} {h h1 h2 h':Heap} {a x e:Addr} {o:HO}
def Un.any(u:Un fs ex H H1 h h1){b:Addr}{ob:Obj}(q:h.get? b=aD ob)(n:H b=aT)(f:b ∉ ex):∃sl,h1.get? b=aD { ob with slots:=sl }:=by
 by_cases c:b ∈ fs
 ·exact u.slot b ob q n c f
 ·exact⟨ob.slots,u.keep b ob q n c f⟩
def Un.kept(k:∀b u,h.get? b=aD u->h'.get? b=aD u):Un fs ex H H h h':=
 ⟨λb ob q _ _ _=>k b ob q,λb ob q _ _ _=>⟨ob.slots,k b ob q⟩,λ_ _ _ n _=>n,λb ob q _=>⟨ob,k b ob q⟩,λ_ _ q=>q,λ_ _ _ q=>q,λ_ ps q=>⟨#[],by rw[q];simp⟩⟩
def Un.refl:Un fs ex H H h h:=Un.kept λ_ _ q=>q
def Un.laid(k:∀b u,h.get? b=aD u->h'.get? b=aD u)(f:h.objs.size<=a)(c:H a=aT):Un fs ex H (upd H a o) h h' where
 keep:=λb u q _ _ _=>k b u q
 slot:=λb u q _ _ _=>⟨u.slots,k b u q⟩
 free:=λb u q n _=>by rw[aw (ZF (Zx (Zq q) f))];exact n
 there:=λb u q _=>⟨u,k b u q⟩
 tups:=λb xs q=>by rw[aw (aV q c)];exact q
 frzs:=λb u xs q=>by rw[aw (aV q c)];exact q
 tbls:=λb ps q=>⟨#[],by rw[aw (aV q c),q];simp⟩
def Un.write(M:Mut (H x))(v:e=x\/H e=aD (.own x))(k:∀b u,b ≠ e->h.get? b=aD u->h'.get? b=aD u)(g:∃u,h'.get? e=aD u):Un fs ex H (upd H x o) h h':=by
 have p:∀b,H b=aT->b ≠ x:=λb n z=>by subst z;rw[n] at M;exact M
 have j:∀b,H b=aT->b ≠ e:=λb n z=>by
  subst z;rcases v with r |r
  ·exact p b n r
  ·rw[n] at r;cases r
 have f:∀b u,H b=aD u->¬ Mut (aD u)->b ≠ x:=λb u q nm z=>by subst z;rw[q] at M;exact nm M
 refine⟨λb u q n _ _=>k b u (j b n) q,λb u q n _ _=>⟨u.slots,k b u (j b n) q⟩,λb u q n _=>by rw[aw (p b n)];exact n,λb u q _=>?_,
  λb xs q=>by rw[aw (f b _ q λz=>z)];exact q,λb u xs q=>by rw[aw (f b _ q λz=>z)];exact q,λb ps q=>⟨#[],by rw[aw (f b _ q λz=>z),q];simp⟩⟩
 by_cases c:b=e
 ·subst c;exact g
 ·exact⟨u,k b u c q⟩
end
abbrev trk(h:Heap)(H:Hp):List Addr:=(Zl h.objs.size).filter λa=>(H a).isSome
abbrev pW(h:Heap)(H:Hp):Heap:=PySem.W.hideAll h (trk h H)
def zl(h:Heap)(H:Hp):(pW h H).objs.size=h.objs.size:=PySem.W.hideAll_size _ _
def Bb(e:h.get? b=aD o)(n:H b=aT):(pW h H).get? b=aD o:=
 Vp _ e λc=>by
  have q:(H b).isSome=br:=(Wa.mp c).2;rw[n] at q;simp at q
def Fe(e:(pW h H).get? b=aD o):h.get? b=aD o/\H b=aT:=by
 have E:h.get? b=aD o:=VB (trk h H) e;refine⟨E,?_⟩;cases q:H b with
 |none=>rfl
 |some x=>
  have c:b ∈ trk h H:=Wa.mpr ⟨ZT.mpr (Zq E),by simp[q]⟩;have z:(pW h H).get? b=aT:=PySem.W.hideAll_none (trk h H) c;rw[z] at e;cases e
structure Mod(K:Vh)(mg:Str->Option Value)(base:Heap):Prop where
 kin:K.In base
 glob:base.Ns V6 mg
 blt:∃mb,base.Ns VN mb/\∀x:Str,x ≠ "__name__"->mb x=VL x
 nolimit:base.NoLimit
structure Cx where
 prog:Program
 w:World
 K:Vh
 mg:Str->Option Value
 base:Heap
 A:Around
 N:List Str
 s₀:Shared
 H₀:Hp
 env:Env
 outer:List Env
 stack:List Env
 ex:List Addr
 fn:Str->Bool
 calm:Bool
 pn:List (Addr × Obj)
 xe:Value->Shared->Prop
abbrev frs(l:List Env):List Addr:=l.filterMap (·.frame)
noncomputable abbrev Cx.fs(X:Cx):List Addr:=frs X.outer
abbrev Vis(sc:Scope)(x:Str):Prop:=sc.names.lookup x=aD .local\/sc.names.lookup x=aD .cell\/sc.names.lookup x=aD .free
abbrev Loc(sc:Scope)(x:Str):Prop:=sc.names.lookup x=aD .local\/sc.names.lookup x=aD .cell
abbrev Sz(env:Env)(h:Heap)(m:Str->Option Value)(x:Str)(u:Value):Prop:=
 (env.kindOf x=aD .local/\m x=aD u)\/((env.kindOf x=aD .cell\/env.kindOf x=aD .free)/\∃c,env.cells.lookup x=aD c/\h.IsCell c (aD u))
structure Cx.Ok(X:Cx):Prop where
 mod:Mod X.K X.mg X.base
 kind:X.env.scope.kind = .function
 glob:X.env.globals=V6
 blt:X.env.builtins=VN
 above:X.s₀.heap.objs.size<=X.env.locals
 inj:∀x y c,X.env.cells.lookup x=aD c->X.env.cells.lookup y=aD c->x=y
 has:∀x,(X.env.kindOf x=aD .cell\/X.env.kindOf x=aD .free)->∃c,X.env.cells.lookup x=aD c
 cab:∀x c,X.fn x=br->X.env.cells.lookup x=aD c->X.s₀.heap.objs.size<=c
 hd:X.calm=br->X.A.handled=aT
 frames:X.A.frames=aD X.stack
 stk:X.stack=X.outer\/(X.stack=X.env::X.outer/\X.env.frame=aD X.env.locals)
 exf:∀b ∈ X.ex,b ≠ X.env.locals/\∀x c,X.env.cells.lookup x=aD c->c ≠ b
 bs:∀b o,X.base.get? b=aD o->X.s₀.heap.get? b=aD o/\X.H₀ b=aT
 bsz:X.base.objs.size<=X.s₀.heap.objs.size
 noex:∀b o,X.base.get? b=aD o->b ∉ X.ex
 exfs:∀b ∈ X.ex,b ∉ X.fs
 funs:X.s₀.heap.FunFrames X.base X.outer
 frf:∀b ∈ X.fs,X.H₀ b=aT
structure Inv(X:Cx)(pins:List (Addr × Obj))(σ:List (Option V))(H:Hp)(s:Shared):Prop where
 ok:X.Ok
 os:s.os=X.s₀.os
 bare:AllBare s.gens
 base:Un X.fs X.ex X.H₀ H X.s₀.heap s.heap
 loc:∃m,s.heap.Ns X.env.locals m/\∀ (i:Nat) (x:Str) (v:V),X.N[i]?=aD x->σ[i]?=aD (aD v)->Vis X.env.scope x->∃u,aG v u/\Sz X.env s.heap m x u
 cell:∀x c,X.env.cells.lookup x=aD c->∃v,s.heap.IsCell c v
 free:H X.env.locals=aT
 freeC:∀x c,X.env.cells.lookup x=aD c->H c=aT
 pin:∀p ∈ X.pn++pins,s.heap.get? p.1=aD p.2/\H p.1=aT/\p.1 ≠ X.env.locals/\p.1 ∉ X.fs/\∀v,p.2.data ≠ .cell v
 hok:HOk X.prog X.w H s.heap
 len:σ.length=X.N.length
section
variable {X:Cx} {pins:List (Addr × Obj)} {σ:List (Option V)} {H H':Hp} {s:Shared} {h':Heap}
def Cx.Ok.nofr(ok:X.Ok)(e:X.base.get? b=aD o):b ∉ X.fs:=λh=>by
 have:=(ok.funs.mem h).1;rw[e] at this;cases this
def Inv.bs(I:Inv X pins σ H s):∀b o,X.base.get? b=aD o->s.heap.get? b=aD o/\H b=aT:=λb o e=>
 ⟨I.base.keep b o (I.ok.bs b o e).1 (I.ok.bs b o e).2 (I.ok.nofr e) (I.ok.noex b o e),I.base.free b o (I.ok.bs b o e).1 (I.ok.bs b o e).2 (I.ok.noex b o e)⟩
def Inv.bk(I:Inv X pins σ H s):∀b o,X.base.get? b=aD o->s.heap.get? b=aD o:=λb o e=>(I.bs b o e).1
def Inv.mod(I:Inv X pins σ H s):Mod X.K X.mg X.base:=I.ok.mod
def Inv.kIn(I:Inv X pins σ H s):X.K.In s.heap:=I.ok.mod.kin.keeps I.bk
def Inv.lt(I:Inv X pins σ H s):X.env.locals < s.heap.objs.size:=let ⟨_,hn,_⟩:=I.loc;hn.lt
def Inv.sz(I:Inv X pins σ H s):X.s₀.heap.objs.size<=s.heap.objs.size:=Zz I.ok.above (Xk I.lt)
def Inv.nofs(I:Inv X pins σ H s)(h:s.heap.objs.size<=a):a ∉ X.fs:=λb=>by
 obtain⟨_,o,c,_⟩:=I.ok.funs.mem b;exact absurd (Zx (Zq c) (Zz I.sz h)) (ZQ _)
def Inv.cne(I:Inv X pins σ H s):∀x c,X.env.cells.lookup x=aD c->c ≠ X.env.locals:=λx c e z=>by
 obtain⟨v,o,f,hd⟩:=I.cell x c e;obtain⟨m,⟨O,g,E,b,h,_⟩,_⟩:=I.loc;rw[z,b] at f;cases f;rw[h] at hd;cases hd
def Inv.funs(I:Inv X pins σ H s):s.heap.FunFrames X.base X.outer:=by
 have all:∀ (l:List Env),(∀b ∈ frs l,b ∈ X.fs)->X.s₀.heap.FunFrames X.base l->s.heap.FunFrames X.base l:=by
  intro l
  induction l with
  |nil=>intro _ _;trivial
  |cons env r g=>
   intro hs v;obtain⟨u,⟨L,o,f,j,p,hd⟩,q⟩:=v;have c:L ∈ X.fs:=hs L (by unfold frs;rw[Y2,f];exact Zd);obtain⟨sl,e⟩:=I.base.slot L o p (I.ok.frf L c) c λz=>I.ok.exfs L z c;exact⟨u,⟨L,_,f,j,e,hd⟩,g (λb h=>hs b (by unfold frs;rw[Y2,f];exact Zf _ h)) q⟩
 exact all X.outer (λ_ h=>h) I.ok.funs
def Inv.stack(I:Inv X pins σ H s):s.heap.FunFrames X.base X.stack:=by
 rcases I.ok.stk with e |⟨e,hf⟩
 ·rw[e];exact I.funs
 ·rw[e];obtain⟨m,h,_⟩:=I.loc;refine .cons (by rw[I.ok.kind];decide) hf h ?_ I.funs;exact Heap.get?_none_of_le (Zz I.ok.bsz I.ok.above)
def Inv.stkSub(I:Inv X pins σ H s):∀b ∈ frs X.stack,b ∈ X.env.locals::X.fs:=λb h=>by
 rcases I.ok.stk with e |⟨e,hf⟩
 ·rw[e] at h;exact Zf _ h
 ·rw[e] at h;unfold frs at h;rw[Y2,hf] at h;exact h
def Inv.stkFree(I:Inv X pins σ H s):∀b ∈ frs X.stack,H b=aT:=λb hb=>by
 rcases Zm.mp (I.stkSub b hb) with e |hb
 ·rw[e];exact I.free
 ·obtain⟨_,o,h,_⟩:=I.ok.funs.mem hb;exact I.base.free b o h (I.ok.frf b hb) λz=>I.ok.exfs b z hb
def Inv.step{g':Array W0}{t':Nat}{d':Drawn}{ch:List Addr}(I:Inv X pins σ H s)
  (f:∀b ∈ ch,(b ∈ X.ex\/X.s₀.heap.objs.size<=b)/\b ≠ X.env.locals/\(∀x c,X.env.cells.lookup x=aD c->c ≠ b)/\∀p ∈ X.pn++pins,p.1 ≠ b)
  (keep:∀b o,b ≠ X.env.locals->b ∉ X.fs->b ∉ ch->s.heap.get? b=aD o->H b=aT->h'.get? b=aD o)
  (slot:∀b o,b ≠ X.env.locals->b ∈ X.fs->b ∉ ch->s.heap.get? b=aD o->H b=aT->∃sl,h'.get? b=aD { o with slots:=sl }) (free:∀b o,b ∉ ch->s.heap.get? b=aD o->H b=aT->H' b=aT)
  (there:∀b o,b ∉ ch->s.heap.get? b=aD o->∃O,h'.get? b=aD O)
  (tups:∀b xs,H b=aD (.tup xs)->H' b=aD (.tup xs)) (frzs:∀b o u,H b=aD (.frz o u)->H' b=aD (.frz o u)) (tbls:∀b ps,H b=aD (.tbl ps)->∃more,H' b=aD (.tbl (ps++more)))
  (ns:∀m,s.heap.Ns X.env.locals m->h'.Ns X.env.locals m) (hok:HOk X.prog X.w H' h') (hg:AllBare g') :
  Inv X pins σ H' { s with heap:=h',gens:=g',drawn:=d',toks:=t' }:=by
 have L:∀b o,X.s₀.heap.get? b=aD o->b ≠ X.env.locals:=λb o e=>ZF (Zx (Zq e) I.ok.above)
 have j:∀b o,X.s₀.heap.get? b=aD o->b ∉ X.ex->b ∉ ch:=λb o e h y=>by
  rcases (f b y).1 with z |z
  ·exact h z
  ·exact absurd (Zx (Zq e) z) (ZQ _)
 have C:∀x c,X.env.cells.lookup x=aD c->∀v,s.heap.IsCell c v->h'.IsCell c v:=λx c e v ⟨o,B,hd⟩=>by
  have g:c ∉ ch:=λz=>(f c z).2.2.1 x c e rfl;by_cases T:c ∈ X.fs
  ·obtain⟨sl,q⟩:=slot c o (I.cne x c e) T g B (I.freeC x c e);exact⟨_,q,hd⟩
  ·exact⟨o,keep c o (I.cne x c e) T g B (I.freeC x c e),hd⟩
 refine⟨I.ok,I.os,hg,⟨λb o e n y h=>?_,λb o e n y h=>?_,λb o e n h=>?_,λb o e h=>?_,λb xs e=>tups b xs (I.base.tups b xs e),λb o xs e=>frzs b o xs (I.base.frzs b o xs e),λb ps e=>?_⟩,?_,λx c e=>?_,?_,λx c e=>?_,λp Q=>?_,hok,I.len⟩
 ·exact keep b o (L b o e) y (j b o e h) (I.base.keep b o e n y h) (I.base.free b o e n h)
 ·obtain⟨sl,E⟩:=I.base.slot b o e n y h;obtain⟨M,J⟩:=slot b _ (L b o e) y (j b o e h) E (I.base.free b o e n h);exact⟨M,J⟩
 ·obtain⟨O,E⟩:=I.base.there b o e h;exact free b O (j b o e h) E (I.base.free b o e n h)
 ·obtain⟨O,E⟩:=I.base.there b o e h;exact there b O (j b o e h) E
 ·obtain⟨Y,E⟩:=I.base.tbls b ps e;obtain⟨m2,J⟩:=tbls b _ E;exact⟨Y++m2,by rw[J,XJ]⟩
 ·obtain⟨m,Z,hl⟩:=I.loc;refine⟨m,ns m Z,λi x v E J e3=>?_⟩;obtain⟨u,r,l⟩:=hl i x v E J e3;refine⟨u,r,?_⟩;rcases l with l |⟨k,c,e,z⟩
  ·exact .inl l
  ·exact .inr ⟨k,c,e,C x c e _ z⟩
 ·obtain⟨v,z⟩:=I.cell x c e;exact⟨v,C x c e v z⟩
 ·obtain⟨m,⟨o,_,_,B,_⟩,_⟩:=I.loc;exact free _ o (λz=>(f _ z).2.1 rfl) B I.free
 ·obtain⟨v,o,B,hd⟩:=I.cell x c e;exact free c o (λz=>(f c z).2.2.1 x c e rfl) B (I.freeC x c e)
 ·obtain⟨e,n,ne,U,d⟩:=I.pin p Q;have g:p.1 ∉ ch:=λz=>(f p.1 z).2.2.2 p Q rfl;exact⟨keep p.1 p.2 ne U g e n,free p.1 p.2 g e n,ne,U,d⟩
def Inv.un{t':Nat}(I:Inv X pins σ H s)(u:Un X.fs [] H H' s.heap h')(hok:HOk X.prog X.w H' h'):Inv X pins σ H' { s with heap:=h',toks:=t' }:=by
 obtain⟨m,⟨o,y,v,g,r⟩,_⟩:=id I.loc;obtain⟨sl,j⟩:=u.any g I.free (by simp)
 exact I.step (g':=s.gens) (d':=s.drawn) (ch:=[]) (λ_ z=>nomatch z) (λb o _ c _ e n=>u.keep b o e n c (by simp)) (λb o _ c _ e n=>u.slot b o e n c (by simp)) (λb o _ e n=>u.free b o e n (by simp)) (λb o _ e=>u.there b o e (by simp)) u.tups u.frzs u.tbls (λM q=>by
  obtain⟨O,f,E,h,p⟩:=q;rw[g] at h;cases h;exact⟨_,f,E,j,p⟩) hok I.bare
def Inv.call{g':Array W0}{t':Nat}{d':Drawn}{ch:List Addr}(I:Inv X pins σ H s)(u:Un (frs X.stack) ch H H' s.heap h')(hok:HOk X.prog X.w H' h')(C:AllBare g')
  (f:∀b ∈ ch,(b ∈ X.ex\/X.s₀.heap.objs.size<=b)/\b ≠ X.env.locals/\(∀x c,X.env.cells.lookup x=aD c->c ≠ b)/\∀p ∈ X.pn++pins,p.1 ≠ b) :
  Inv X pins σ H' { s with heap:=h',gens:=g',drawn:=d',toks:=t' }:=by
 obtain⟨m,⟨o,Q,L,v,r⟩,_⟩:=id I.loc;obtain⟨sl,j⟩:=u.any v I.free λz=>(f _ z).2.1 rfl
 exact I.step (ch:=ch) f (λb o j B h e n=>u.keep b o e n (λz=>(Zm.mp (I.stkSub b z)).elim j B) h) (λb o _ _ h e n=>u.any e n h) (λb o h e n=>u.free b o e n h) (λb o h e=>u.there b o e h) u.tups u.frzs u.tbls (λM y=>by
  obtain⟨O,E,q,g,J⟩:=y;rw[v] at g;cases g;exact⟨_,E,q,j,J⟩) hok C
def Inv.turned{t':Nat}{it:Addr}(I:Inv X pins σ H s)(k:∀b o,b ≠ it->s.heap.get? b=aD o->h'.get? b=aD o)(C:H it=aT)(g:it ≠ X.env.locals)
  (J:it ∈ X.ex\/X.s₀.heap.objs.size<=it) (M:∀x c,X.env.cells.lookup x=aD c->c ≠ it) (B:∀p ∈ X.pn++pins,p.1 ≠ it):Inv X pins σ H { s with heap:=h',toks:=t' }:=by
 have f:∀b u,H b=aD u->b ≠ it:=λb u e z=>by rw[z,C] at e;cases e
 refine I.step (g':=s.gens) (d':=s.drawn) (ch:=[it]) (λb E=>?_) (λb o _ _ h e _=>k b o (λz=>h (by simp[z])) e) (λb o _ _ h e _=>⟨o.slots,k b o (λz=>h (by simp[z])) e⟩) (λ_ _ _ _ n=>n)
  (λb o h e=>⟨o,k b o (λz=>h (by simp[z])) e⟩) (λ_ _ e=>e) (λ_ _ _ e=>e) (λb ps e=>⟨#[],by rw[e];simp⟩) (λm y=>?_) (λb u e=>?_) I.bare
 ·have e:b=it:=by simpa using E
  subst e;exact⟨J,g,M,B⟩
 ·obtain⟨o,O,L,j,r⟩:=y;exact⟨o,O,L,k _ o (Ne.symm g) j,r⟩
 ·refine(I.hok b u e).stay (λc v h q=>k c v ?_ q) (λ_ q=>q) λ_ _ q=>q;rcases h with z |z
  ·rw[z];exact f b u e
  ·exact f c _ z
def Inv.tok(I:Inv X pins σ H s)(t:Nat):Inv X pins σ H { s with toks:=t }:=I.un (h':=s.heap) (t':=t) Un.refl I.hok
def Inv.kept{t':Nat}(I:Inv X pins σ H s)(k:∀b u,s.heap.get? b=aD u->h'.get? b=aD u):Inv X pins σ H { s with heap:=h',toks:=t' }:=I.un (Un.kept k) (I.hok.kept k)
def Inv.laid{a:Addr}{o:HO}{t':Nat}(I:Inv X pins σ H s)(k:∀b u,s.heap.get? b=aD u->h'.get? b=aD u)(h:s.heap.objs.size<=a)(new:bz X.prog X.w (upd H a o) h' a o) :
  Inv X pins σ (upd H a o) { s with heap:=h',toks:=t' }:=I.un (Un.laid k h (I.hok.fresh h)) (I.hok.laid k h new)
def Inv.write{t':Nat}(I:Inv X pins σ H s)(M:Mut (H x))(c:e=x\/H e=aD (.own x))(k:∀b u,b ≠ e->s.heap.get? b=aD u->h'.get? b=aD u)(h:∃u,h'.get? e=aD u)
  (new:bz X.prog X.w (upd H x o) h' x o):Inv X pins σ (upd H x o) { s with heap:=h',toks:=t' }:=I.un (Un.write M c k h) (I.hok.write M c k h new)
def Inv.pins_of(I:Inv X pins σ H s)(h:∀p ∈ b,s.heap.get? p.1=aD p.2/\H p.1=aT/\p.1 ≠ X.env.locals/\p.1 ∉ X.fs/\∀v,p.2.data ≠ .cell v):Inv X b σ H s:=
 ⟨I.ok,I.os,I.bare,I.base,I.loc,I.cell,I.free,I.freeC,λp c=>(Zu.mp c).elim (λz=>I.pin p (ZU _ z)) (h p),I.hok,I.len⟩
def lH{N:List Str}(hN:N.Nodup){i j:Nat}{x:Str}(a:N[i]?=aD x)(b:N[j]?=aD x):i=j:=by
 obtain⟨h,c⟩:=Zb.mp a;obtain⟨f,E⟩:=Zb.mp b;exact(YW hN).mp (c.trans E.symm)
def oq{M:Model}{A:Around}{E:Value->Shared->Prop}{i:Nat}{x:Str}{v:V}{u:Value}{Q:Unit->Shared->Prop}(I:Inv X pins σ H s)(hN:X.N.Nodup)(Y:X.N[i]?=aD x)(g:Loc X.env.scope x)(r:aG v u)
  (h:∀s',Inv X pins (σ.set i (aD v)) H s'->(∃a,Heap.SameBut a s.heap s'.heap/\(a=X.env.locals\/X.env.cells.lookup x=aD a))->Q () s') (hf:X.fn x=br\/X.env.scope.names.lookup x=aD .local:=by first |exact .inl rfl |exact .inr rfl |assumption):wpAny M A (storeName X.env x u) Q E s:=by
 obtain⟨m,hn,hl⟩:=id I.loc;have hcls:(X.env.scope.kind == .class || (X.env.scope.kind == .module && X.env.locals != X.env.globals))=bx:=by rw[I.ok.kind];rfl
 have J:i < σ.length:=by rw[I.len];exact(Zb.mp Y).1
 have cne:=I.cne
 have T:∀ {a:Addr} {h':Heap},(∃o,s.heap.get? a=aD o/\H a=aT)->Heap.SameBut a s.heap h'->HOk X.prog X.w H h':=λ{a h'} ha hs b ob e=>by
  obtain⟨_,_,B⟩:=ha;refine(I.hok b ob e).stay (λc w' hc q=>(hs.2 c ?_).trans q) (λ_ q=>q) λ_ _ q=>q;rintro rfl;rcases hc with rfl |hc
  ·rw[B] at e;cases e
  ·rw[B] at hc;cases hc
 rcases g with hk |hk
 ·refine wpAny_storeName_local hk hn (λh' hn' hs=>?_) hcls;obtain⟨oL,_,_,hoL,_⟩:=id hn;refine h _ ⟨I.ok,I.os,I.bare,⟨λb o e n O g=>?_,λb o e n O g=>?_,I.base.free,λb o e g=>?_,I.base.tups,I.base.frzs,I.base.tbls⟩,⟨_,hn',λj y v' f C e3=>?_⟩,λy c e=>?_,I.free,I.freeC,λp hp=>?_,T ⟨oL,hoL,I.free⟩ hs,by simpa using I.len⟩ ⟨_,hs,.inl rfl⟩
  ·exact(hs.2 b (ZF (Zx (Zq e) I.ok.above))).trans (I.base.keep b o e n O g)
  ·obtain⟨sl,f⟩:=I.base.slot b o e n O g;exact⟨sl,(hs.2 b (ZF (Zx (Zq e) I.ok.above))).trans f⟩
  ·obtain⟨o',f⟩:=I.base.there b o e g;exact⟨o',(hs.2 b (ZF (Zx (Zq e) I.ok.above))).trans f⟩
  ·by_cases L:j=i
   ·subst L;rw[Y] at f;cases f;rw[ZD J] at C;cases C;exact⟨u,r,.inl ⟨hk,by simp⟩⟩
   ·rw[ZE (Ne.symm L)] at C;obtain⟨u',r',q⟩:=hl j y v' f C e3;refine⟨u',r',?_⟩;rcases q with ⟨k,e⟩ |⟨k,c,e,z⟩
    ·refine .inl ⟨k,?_⟩;have:y ≠ x:=λe=>L (lH hN f (e ▸ Y));simp[this,e]
    ·exact .inr ⟨k,c,e,z.sameBut hs (cne y c e)⟩
  ·obtain⟨w',z⟩:=I.cell y c e;exact⟨w',z.sameBut hs (cne y c e)⟩
  ·obtain⟨e,n,ne,nf,d⟩:=I.pin p hp;exact⟨(hs.2 p.1 ne).trans e,n,ne,nf,d⟩
 ·have U:X.fn x=br:=by
   rcases hf with z |z
   ·exact z
   ·rw[z] at hk;cases hk
  obtain⟨c,hc⟩:=I.ok.has x (.inl hk);obtain⟨w',z⟩:=I.cell x c hc;refine wpAny_storeName_cell I.ok.kind hk hc z (λh' hc' hs=>?_);obtain⟨oc,hoc,hocd⟩:=id z;refine h { s with heap:=h' } ⟨I.ok,I.os,I.bare,⟨λb o e n O g=>?_,λb o e n O g=>?_,I.base.free,λb o e g=>?_,I.base.tups,I.base.frzs,I.base.tbls⟩,⟨m,hn.sameBut hs (Ne.symm (cne x c hc)),λj y v' f C e3=>?_⟩,λy c' e=>?_,I.free,I.freeC,λp hp=>?_,T ⟨oc,hoc,I.freeC x c hc⟩ hs,by simpa using I.len⟩ ⟨c,hs,.inr hc⟩
  ·exact(hs.2 b (ZF (Zx (Zq e) (I.ok.cab x c U hc)))).trans (I.base.keep b o e n O g)
  ·obtain⟨sl,f⟩:=I.base.slot b o e n O g;exact⟨sl,(hs.2 b (ZF (Zx (Zq e) (I.ok.cab x c U hc)))).trans f⟩
  ·obtain⟨o',f⟩:=I.base.there b o e g;exact⟨o',(hs.2 b (ZF (Zx (Zq e) (I.ok.cab x c U hc)))).trans f⟩
  ·by_cases L:j=i
   ·subst L;rw[Y] at f;cases f;rw[ZD J] at C;cases C;exact⟨u,r,.inr ⟨.inl hk,c,hc,hc'⟩⟩
   ·rw[ZE (Ne.symm L)] at C;obtain⟨u',r',q⟩:=hl j y v' f C e3;refine⟨u',r',?_⟩;rcases q with q |⟨k,c',e,z'⟩
    ·exact .inl q
    ·refine .inr ⟨k,c',e,z'.sameBut hs ?_⟩;rintro rfl;exact L (lH hN f (I.ok.inj _ _ _ e hc ▸ Y))
  ·by_cases Z:c'=c
   ·subst Z;exact⟨_,hc'⟩
   ·obtain⟨w2,z2⟩:=I.cell y c' e;exact⟨w2,z2.sameBut hs Z⟩
  ·obtain⟨e,n,ne,nf,d⟩:=I.pin p hp;refine⟨(hs.2 p.1 ?_).trans e,n,ne,nf,d⟩;intro q;rw[q,hoc] at e;have q':oc=p.2:=Option.some.inj e;exact d w' (by rw[<-q'];exact hocd)
def ce{i:Nat}(I:Inv X pins σ H s)(hN:X.N.Nodup)(j:X.N[i]?=aD x)(g:Loc X.env.scope x)(r:aG v u)
  (h:∀b,Inv X pins (σ.set i (aD v)) H b->Q () b) (f:X.fn x=br\/X.env.scope.names.lookup x=aD .local:=by first |exact .inl rfl |exact .inr rfl |assumption):wpAny M A (storeName X.env x u) Q E s:=
 oq I hN j g r (λb c _=>h b c) f
def Inv.call'(I:Inv X pins σ H s)(o:s'.os=s.os)(u:Un (frs X.stack) ch H H' s.heap s'.heap)(hok:HOk X.prog X.w H' s'.heap)(j:AllBare s'.gens)
  (h:∀b ∈ ch,(b ∈ X.ex\/X.s₀.heap.objs.size<=b)/\b ≠ X.env.locals/\(∀x c,X.env.cells.lookup x=aD c->c ≠ b)/\∀p ∈ X.pn++pins,p.1 ≠ b):Inv X pins σ H' s':=by
 obtain⟨h',g,f,T,O⟩:=s';have e:O=s.os:=o;subst e;exact I.call (g':=g) (t':=T) (d':=f) u hok j h
end
@[inline]abbrev XK:=Value->Option Addr->Hp->Prop
@[inline]abbrev St:=List (Option V)
@[inline]abbrev VK:=V->Hp->Prop
@[inline]abbrev TE:=St->Hp->VK->Prop
@[inline]abbrev TT:=St->Hp->(Bool->Hp->Prop)->Prop
@[inline]abbrev TA:=St->Hp->(List V->Hp->Prop)->Prop
structure Ends where
 nx:St->Hp->Prop
 rt:VK
 bk:St->Hp->Prop:=λ_ _=>False
 ct:St->Hp->Prop:=λ_ _=>False
@[inline]abbrev TS:=Ends->St->Hp->Prop
abbrev EP(X:Cx)(p:List (Addr × Obj))(c:St)(Q:VK)(u:Value)(b:Shared):Prop:=∃v H,Inv X p c H b/\aG v u/\Q v H
abbrev TP(X:Cx)(p:List (Addr × Obj))(f:St)(Q:Bool->Hp->Prop)(b:Bool)(c:Shared):Prop:=∃H,Inv X p f H c/\Q b H
abbrev AP(X:Cx)(p:List (Addr × Obj))(c:St)(Q:List V->Hp->Prop)(u:List Value)(b:Shared):Prop:=∃v H,Inv X p c H b/\aK v u/\Q v H
abbrev SP(X:Cx)(p:List (Addr × Obj))(D:Ends)(f:Flow)(c:Shared):Prop:=
 match f with
 |.next=>∃b H,Inv X p b H c/\D.nx b H
 |.brk=>∃b H,Inv X p b H c/\D.bk b H
 |.cont=>∃b H,Inv X p b H c/\D.ct b H
 |.ret u=>∃v b H,Inv X p b H c/\aG v u/\D.rt v H
abbrev PE(X:Cx)(e:Expr)(t:TE):Prop:=
 ∀ (p:List (Addr × Obj)) (s:Shared) (b:St) (H:Hp) (Q:VK),Inv X p b H s->t b H Q->wpAny (model X.prog X.w) X.A (eval e X.env) (EP X p b Q) X.xe s
abbrev PT(X:Cx)(e:Expr)(t:TT):Prop:=
 ∀ (p:List (Addr × Obj)) (s:Shared) (b:St) (H:Hp) (Q:Bool->Hp->Prop),Inv X p b H s->t b H Q->wpAny (model X.prog X.w) X.A (isTrue e X.env (eval e X.env)) (TP X p b Q) X.xe s
abbrev PW(X:Cx)(e:Expr)(t:TT):Prop:=
 ∀ (b:Sem Value) (p:List (Addr × Obj)) (s:Shared) (c:St) (H:Hp) (Q:Bool->Hp->Prop),Inv X p c H s->t c H Q->wpAny (model X.prog X.w) X.A (isTrue e X.env b) (TP X p c Q) X.xe s
def PW.pt(h:PW X e t):PT X e t:=h _
abbrev PA(X:Cx)(E:List Expr)(t:TA):Prop:=
 ∀ (pos:Pos) (p:List (Addr × Obj)) (s:Shared) (b:St) (H:Hp) (Q:List V->Hp->Prop),Inv X p b H s->t b H Q->wpAny (model X.prog X.w) X.A (spliced (backTo pos (Ui E X.env))) (AP X p b Q) X.xe s
abbrev PS(X:Cx)(st:Stmt)(t:TS):Prop:=
 ∀ (p:List (Addr × Obj)) (s:Shared) (b:St) (H:Hp) (D:Ends),Inv X p b H s->t D b H->wpAny (model X.prog X.w) X.A (exec st X.env) (SP X p D) X.xe s
abbrev PSs(X:Cx)(st:List Stmt)(t:TS):Prop:=
 ∀ (p:List (Addr × Obj)) (s:Shared) (b:St) (H:Hp) (D:Ends),Inv X p b H s->t D b H->wpAny (model X.prog X.w) X.A (execs st X.env) (SP X p D) X.xe s
def thn{b:Type}{t:Sem b}{Q q:b->Shared->Prop}{M:Model}{A:Around}{E:Value->Shared->Prop}{s:Shared}(h:wpAny M A t Q E s)(H:∀a s,Q a s->q a s):wpAny M A t q E s:=UM h H λ_ _ x=>x
section
variable {X:Cx}
abbrev Kk(i:Nat):TE:=λb H Q=>∃v,b[i]?=aD (aD v)/\Q v H
abbrev tC(v:V):TE:=λ_ H Q=>Q v H
def uK{i:Nat}(hN:X.N[i]?=aD x)(j:Vis X.env.scope x)(hd:(x == ("__debug__" : Str))=bx:=by decide)(f:(x == ("__classdict__" : Str))=bx:=by decide):PE X (.Name x pos) (Kk i):=by
 intro p s z H Q I h;obtain⟨v,e,h⟩:=h;obtain⟨m,q,y⟩:=I.loc;obtain⟨u,r,l⟩:=y i x v hN e j;have fin:EP X p z Q u s:=⟨v,H,I,r,h⟩;rcases l with ⟨hk,o⟩ |⟨hk,c,g,b⟩
 ·exact wpAny_Name (UJ I.ok.kind hk q o fin) hd
 ·rcases hk with hk |hk
  ·exact wpAny_Name (wpAny_loadName_cell I.ok.kind hk g b fin) hd
  ·exact wpAny_Name (wpAny_loadName_free I.ok.kind hk g b fin f) hd
def lI{i j pos}:PE X (.Constant (.int i) j pos) (tC (.int i)):=λ_ _ _ H _ I h=>wpAny_Constant_int ⟨.int i,H,I.tok _,⟨_,rfl⟩,h⟩
def Bc{b j pos}:PE X (.Constant (.bool b) j pos) (tC (.bl b)):=λ_ _ _ H _ I h=>Constant_bool ⟨.bl b,H,I,rfl,h⟩
def Kl{j pos}:PE X (.Constant .none j pos) (tC .non):=λ_ _ _ H _ I h=>Constant_none ⟨.non,H,I,rfl,h⟩
def pX{x j pos}:PE X (.Constant (.str x) j pos) (tC (.str x)):=λ_ _ _ H _ I h=>Calls.Constant_str ⟨.str x,H,I.tok _,⟨_,rfl⟩,h⟩
abbrev Gl(X:Cx)(x:Str):Prop:=X.env.kindOf x=aD .globalImplicit
def gI(I:Inv X p f H s)(c:Gl X x)(b:X.mg x=aD u)(h:Q u s)
  (hd:(x == ("__debug__" : Str))=bx:=by decide):wpAny (model X.prog X.w) X.A (eval (.Name x pos) X.env) Q E s:=
 WD I.ok.kind c (Calls.loadGlobal_global (by rw[I.ok.glob];exact I.mod.glob.keeps I.bk) b h) hd
def ir(I:Inv X p q H s)(f:Gl X x)(o:X.mg x=aT)(b:VL x=aD u)(h:Q u s)
  (g:x ≠ "__name__" := by decide) (hd:(x == ("__debug__" : Str))=bx:=by decide):wpAny (model X.prog X.w) X.A (eval (.Name x pos) X.env) Q E s:=by
 obtain⟨M,c,j⟩:=I.mod.blt;exact WD I.ok.kind f (Calls.loadGlobal_builtin (by rw[I.ok.glob];exact I.mod.glob.keeps I.bk) o (by rw[I.ok.blt];exact c.keeps I.bk) ((j x g).trans b) h) hd
def kU(b:Gl X x)(c:X.mg x=aD u)(r:aG v u)(hd:(x == ("__debug__" : Str))=bx:=by decide):PE X (.Name x pos) (tC v):=
 λ_ _ _ H _ I h=>gI I b c ⟨v,H,I,r,h⟩ hd
def gJ(c:Gl X x)(g:X.mg x=aT)(b:VL x=aD u)(r:aG v u)(f:x ≠ "__name__" := by decide)(hd:(x == ("__debug__" : Str))=bx:=by decide):PE X (.Name x pos) (tC v):=
 λ_ _ _ H _ I h=>ir I c g b ⟨v,H,I,r,h⟩ f hd
variable {a b:Expr} {ta tb:TE} {pos:Pos}
abbrev tB(t:TE):TT:=λf H Q=>t f H λx h=>∃c,x = .bl c/\Q c h
def Km{e:Expr}{t:TE}(h:PE X e t)(u:∀c,isTrue e X.env c=(do let v <-c;standAt e.pos;holding [v] (truthy v)):=by intro _;rfl):PT X e (tB t):=by
 intro p s y H Q I g;refine isTrue_plain (thn (h p s y H _ I g) λv z ⟨x,f,o,r1,j⟩=>?_) (u _);obtain⟨d,rfl,q⟩:=j;cases r1;exact U0 ⟨f,o,q⟩
variable {tA tB':TT} {rest:List Expr}
abbrev Ph(t u:TT):TT:=λf H Q=>t f H λc h=>if c=br then u f h Q else Q bx h
abbrev tOr(t u:TT):TT:=λf H Q=>t f H λc h=>if c=br then Q br h else u f h Q
abbrev Pj(t:TT):TT:=λf H Q=>t f H λc h=>Q (!c) h
def Ff(f:PT X a tA):PW X (.BoolOp .And [a] pos) tA:=by
 intro o p s g H Q I h;refine isTrue_and (thn (f p s g H Q I h) λc j e=>?_);cases c with
 |true=>exact isTrue_and_nil e
 |false=>exact e
def Be(f:PT X a tA):PW X (.BoolOp .Or [a] pos) tA:=by
 intro o p s g H Q I h;refine isTrue_or (thn (f p s g H Q I h) λc j e=>?_);cases c with
 |false=>exact isTrue_or_nil e
 |true=>exact e
def Bf(v:PT X a tA)(o:PW X (.BoolOp .And (b::rest) pos) tB'):PW X (.BoolOp .And (a::b::rest) pos) (Ph tA tB'):=by
 intro y p s j H Q I h;refine isTrue_and (thn (v p s j H _ I h) λc u ⟨f,g,q⟩=>?_);cases c with
 |true=>exact o y p u j f Q g q
 |false=>exact⟨f,g,q⟩
def Bg(v:PT X a tA)(o:PW X (.BoolOp .Or (b::rest) pos) tB'):PW X (.BoolOp .Or (a::b::rest) pos) (tOr tA tB'):=by
 intro y p s j H Q I h;refine isTrue_or (thn (v p s j H _ I h) λc u ⟨f,g,q⟩=>?_);cases c with
 |true=>exact⟨f,g,q⟩
 |false=>exact o y p u j f Q g q
def Bh(g:PT X a tA):PT X (.UnaryOp .Not a pos) (Pj tA):=by
 intro p s j H Q I h;exact isTrue_not (g p s j H (λc f=>Q (!c) f) I h)
abbrev Jd(ta tb:TE):TE:=λf H Q=>ta f H λx h=>∃c,x = .bl c/\if c=br then tb f h Q else Q (.bl bx) h
abbrev Pk(ta tb:TE):TE:=λf H Q=>ta f H λx h=>∃c,x = .bl c/\if c=br then Q (.bl br) h else tb f h Q
abbrev Je(ta:TE):TE:=λf H Q=>ta f H λx h=>∃c,x = .bl c/\Q (.bl (!c)) h
def Bi{op}(h:PE X a t):PE X (.BoolOp op [a] pos) t:=λp s f H Q I c=>BoolOp_one (h p s f H Q I c)
def Bj(y:PE X a ta)(o:PE X (.BoolOp .And (b::rest) pos) tb):PE X (.BoolOp .And (a::b::rest) pos) (Jd ta tb):=by
 intro p s j H Q I h;refine BoolOp_and (thn (y p s j H _ I h) λv u ⟨x,f,g,r1,q⟩=>?_);obtain⟨c,rfl,q⟩:=q;cases r1;refine U0 ?_;cases c with
 |true=>exact o p u j f Q g q
 |false=>exact⟨.bl bx,f,g,rfl,q⟩
def Jf(y:PE X a ta)(o:PE X (.BoolOp .Or (b::rest) pos) tb):PE X (.BoolOp .Or (a::b::rest) pos) (Pk ta tb):=by
 intro p s j H Q I h;refine BoolOp_or (thn (y p s j H _ I h) λv u ⟨x,f,g,r1,q⟩=>?_);obtain⟨c,rfl,q⟩:=q;cases r1;refine U0 ?_;cases c with
 |false=>exact o p u j f Q g q
 |true=>exact⟨.bl br,f,g,rfl,q⟩
def Kn(g:PE X a ta):PE X (.UnaryOp .Not a pos) (Je ta):=by
 intro p s o H Q I h;refine UnaryOp_ (thn (g p s o H _ I h) λv u ⟨x,f,j,r1,q⟩=>?_);obtain⟨c,rfl,q⟩:=q;cases r1;exact not_of (U0 ⟨.bl (!c),f,j,rfl,q⟩)
abbrev tIf(t:TT)(ta tb:TE):TE:=λf H Q=>t f H λc h=>if c=br then ta f h Q else tb f h Q
def Bk{c:Expr}(hc:PT X c tA)(v:PE X a ta)(u:PE X b tb):PE X (.IfExp c a b pos) (tIf tA ta tb):=by
 intro p s f H Q I h;refine wpAny_IfExp (thn (hc p s f H _ I h) λd j ⟨g,o,q⟩=>?_);cases d with
 |true=>exact v p j f g Q o q
 |false=>exact u p j f g Q o q
end
abbrev SqL(K:Vh)(H:Hp)(a:Addr)(xs:List V):Prop:=
 Rd H a (.lst xs) ∨
  ∃ (o:Obj) (I:Array Value) (n:Nat),K.lookup a=aD o/\o.cls = .type "list"/\o.dict=aT/\o.data = .seq I n/\I.size<=sizeLine/\aK xs I.toList
abbrev SqT(K:Vh)(H:Hp)(a:Addr)(xs:List V):Prop:=
 Rd H a (.tup xs) ∨
  ∃ (o:Obj) (I:Array Value) (n:Nat),K.lookup a=aD o/\o.cls = .type "tuple"/\o.data = .seq I n/\I.size<=sizeLine/\aK xs I.toList
abbrev SA:Value->Option V
 |.none=>aD .non
 |.bool b=>aD (.bl b)
 |.int i _=>aD (.int i)
 |.str x _=>aD (.str x)
 |.bytes b _=>aD (.byt b)
 |.float b _=>aD (.flt b)
 |.ref a=>aD (.ref a)
 |.type n=>aD (.ty n)
 |_=>aT
def aG.abs(r:aG x u):SA u=aD x:=by
 cases x with
 |non=>cases r;rfl
 |bl _=>cases r;rfl
 |int _=>obtain⟨t,rfl⟩:=r;rfl
 |str _=>obtain⟨t,rfl⟩:=r;rfl
 |byt _=>obtain⟨t,rfl⟩:=r;rfl
 |flt _=>obtain⟨t,rfl⟩:=r;rfl
 |ref _=>cases r;rfl
 |ty _=>cases r;rfl
def aG.inj{x y:V}{u:Value}(r:aG x u)(q:aG y u):x=y:=Option.some.inj (r.abs.symm.trans q.abs)
def aK.inj:∀ {xs ys:List V} {u:List Value},aK xs u->aK ys u->xs=ys
 |_,_,_,.nil,.nil=>rfl
 |_,_,_,.cons r t,.cons r' t'=>by rw[r.inj r',aK.inj t t']
section
variable {X:Cx} {pins:List (Addr × Obj)} {σ:St} {H:Hp} {s:Shared} {a:Addr} {xs ys:List V}
def SqL.of{K:Vh}(h:H a=aD (.lst xs)):SqL K H a xs:=.inl (.inl h)
def SqT.of{K:Vh}(h:H a=aD (.tup xs)):SqT K H a xs:=.inl (.inl h)
def Inv.list(I:Inv X pins σ H s)(h:SqL X.K H a xs):∃its:List Value,aK xs its/\PlainL s.heap a its.toArray/\xs.length<=sizeLine:=by
 rcases h with h |⟨o,its,n,hk,hc,hd,hs,hz,r⟩
 ·obtain⟨z,its,n,r,e⟩:=h.ok I.hok;exact⟨its,r,⟨_,n,e,rfl,rfl,rfl⟩,z⟩
 ·refine⟨its.toList,r,⟨o,n,I.kIn a o hk,hc,hd,by simpa using hs⟩,?_⟩;have e:=r.length;simp only[Z1] at e
  lia
def Inv.tuple(I:Inv X pins σ H s)(h:SqT X.K H a xs):∃its:List Value,aK xs its/\IsTup s.heap a its.toArray/\xs.length<=sizeLine:=by
 rcases h with h |⟨o,its,n,hk,hc,hs,hz,r⟩
 ·obtain⟨z,its,r,p⟩:=h.ok I.hok;exact⟨its,r,p.isTup,z⟩
 ·refine⟨its.toList,r,⟨o,I.kIn a o hk,hc,n,by simpa using hs⟩,?_⟩;have e:=r.length;simp only[Z1] at e
  lia
def Inv.list_inj(I:Inv X pins σ H s)(h:SqL X.K H a xs)(h':SqL X.K H a ys):xs=ys:=by
 obtain⟨b,r,⟨o,n,e,_,_,d⟩,_⟩:=I.list h;obtain⟨its',f,⟨O,g,E,_,_,c⟩,_⟩:=I.list h';rw[e] at E;cases E;rw[d] at c;injection c with d1 _;have:b=its':=by simpa using congrArg Array.toList d1
 subst this;exact r.inj f
def Inv.tuple_inj(I:Inv X pins σ H s)(h:SqT X.K H a xs)(h':SqT X.K H a ys):xs=ys:=by
 obtain⟨b,r,⟨o,e,_,n,d⟩,_⟩:=I.tuple h;obtain⟨its',f,⟨O,E,_,g,c⟩,_⟩:=I.tuple h';rw[e] at E;cases E;rw[d] at c;injection c with d1 _;have:b=its':=by simpa using congrArg Array.toList d1
 subst this;exact r.inj f
end
noncomputable abbrev Cx.wish(X:Cx)(E:Value->Shared->Prop):Cx:={ X with xe:=E }
noncomputable abbrev Cx.nox(X:Cx):Cx:=X.wish λ_ _=>False
def Cx.Ok.wish{X:Cx}(ok:X.Ok)(E:Value->Shared->Prop):(X.wish E).Ok:=
 ⟨ok.mod,ok.kind,ok.glob,ok.blt,ok.above,ok.inj,ok.has,ok.cab,ok.hd,ok.frames,ok.stk,ok.exf,ok.bs,ok.bsz,ok.noex,ok.exfs,ok.funs,ok.frf⟩
def Cx.Ok.unwish{X:Cx}{E:Value->Shared->Prop}(ok:(X.wish E).Ok):X.Ok:=
 ⟨ok.mod,ok.kind,ok.glob,ok.blt,ok.above,ok.inj,ok.has,ok.cab,ok.hd,ok.frames,ok.stk,ok.exf,ok.bs,ok.bsz,ok.noex,ok.exfs,ok.funs,ok.frf⟩
section
variable {X:Cx} {pins:List (Addr × Obj)} {σ:St} {H:Hp} {s:Shared} {E:Value->Shared->Prop}
def Inv.wish(I:Inv X pins σ H s)(E:Value->Shared->Prop):Inv (X.wish E) pins σ H s:=⟨I.ok.wish E,I.os,I.bare,I.base,I.loc,I.cell,I.free,I.freeC,I.pin,I.hok,I.len⟩
def Inv.unwish(I:Inv (X.wish E) pins σ H s):Inv X pins σ H s:=⟨I.ok.unwish,I.os,I.bare,I.base,I.loc,I.cell,I.free,I.freeC,I.pin,I.hok,I.len⟩
def SP.unwish{D:Ends}{f:Flow}{s':Shared}(h:SP (X.wish E) pins D f s'):SP X pins D f s':=by
 cases f with
 |next=>obtain⟨b,c,I,q⟩:=h;exact⟨b,c,I.unwish,q⟩
 |brk=>obtain⟨b,c,I,q⟩:=h;exact⟨b,c,I.unwish,q⟩
 |cont=>obtain⟨b,c,I,q⟩:=h;exact⟨b,c,I.unwish,q⟩
 |ret u=>obtain⟨v,b,c,I,r,q⟩:=h;exact⟨v,b,c,I.unwish,r,q⟩
def PT.nox(h:PT X.nox e t):PT X e t:=λpins s σ H Q I b=>
 UM (h pins s σ H Q (I.wish _) b) (λ_ _ ⟨f,c,q⟩=>⟨f,c.unwish,q⟩) λ_ _ z=>False.elim z
def PSs.nox{st:List Stmt}{t:TS}(h:PSs X.nox st t):PSs X st t:=λpins s σ H D I b=>
 UM (h pins s σ H D (I.wish _) b) (λ_ _ q=>q.unwish) λ_ _ z=>False.elim z
end
section
variable {X:Cx} {st:Stmt} {rest:List Stmt} {t u:TS} {e:Expr} {te:TE} {pos:Pos}
abbrev Jg:TS:=λD b H=>D.nx b H
abbrev Pl(t u:TS):TS:=λD b H=>t { D with nx:=u D } b H
def iY:PSs X [] Jg:=λ_ _ b H _ I h=>UD ⟨b,H,I,h⟩
def bK(j:PS X st t)(y:PSs X rest u):PSs X (st::rest) (Pl t u):=by
 intro p s z H D I h;refine UC (thn (j p s z H { D with nx:=u D } I h) λf c q=>?_);cases f with
 |next=>
  obtain⟨b,o,g,q⟩:=q;exact y p c b o D g q
 |ret v=>exact q
 |brk=>exact q
 |cont=>exact q
def iZ(b:PS X st t):PSs X [st] t:=by
 intro p s c H D I h;refine UC (thn (b p s c H D I h) λf g q=>?_);cases f with
 |next=>exact UD q
 |ret v=>exact q
 |brk=>exact q
 |cont=>exact q
abbrev Jh:TS:=λD b H=>D.ct b H
def rV:PS X (.Continue pos) Jh:=λ_ _ b H _ I h=>wpAny_Continue ⟨b,H,I,h⟩
def Inv.quiet{p:List (Addr × Obj)}{b:St}{H:Hp}{s:Shared}(I:Inv X p b H s):interactive X.env=bx:=by simp[interactive,I.ok.kind]
abbrev Ji(te:TE):TS:=λD b H=>te b H λ_ h=>D.nx b h
def xq(g:PE X e te)(hs:Ul e aT pos.line X.env=pure bx:=by rfl):PS X (.Expr e pos) (Ji te):=by
 intro p s b H D I h;exact wpAny_Expr_any (thn (g p s b H _ I h) λv j ⟨x,c,f,r1,q⟩=>⟨b,c,f,q⟩) I.quiet hs
abbrev Pn(te:TE):TS:=λD b H=>te b H D.rt
def uL(g:PE X e te):PS X (.Return (aD e) pos) (Pn te):=by
 intro p s b H D I h;exact Uw (thn (g p s b H _ I h) λv j ⟨x,c,f,r1,q⟩=>⟨x,b,c,f,r1,q⟩)
abbrev Po(c:TT)(t u:TS):TS:=λD f H=>c f H λb h=>if b=br then t D f h else u D f h
def xr{c:Expr}{a b:List Stmt}{T:TT}(hc:PT X c T)(y:PSs X a t)(v:PSs X b u):PS X (.If c a b pos) (Po T t u):=by
 intro p s f H D I h;refine wpAny_If (thn (hc p s f H _ I h) λd j ⟨g,o,q⟩=>?_);cases d with
 |true=>exact y p j f g D o q
 |false=>exact v p j f g D o q
abbrev Ko:TS:=λ_ _ _=>False
def rX:PS X st Ko:=λ_ _ _ _ _ _ h=>h.elim
end
@[inline]abbrev TG:=V->St->Hp->(St->Hp->Prop)->Prop
@[inline]abbrev TGs:=List V->St->Hp->(St->Hp->Prop)->Prop
abbrev PG(X:Cx)(T:Expr)(t:TG):Prop:=
 ∀ (p:List (Addr × Obj)) (s:Shared) (c:St) (H:Hp) (v:V) (u:Value) (Q:St->Hp->Prop),Inv X p c H s->aG v u->t v c H Q ->
  wpAny (model X.prog X.w) X.A (assign T X.env u) (λ_ f=>∃b h,Inv X p b h f/\Q b h) X.xe s
abbrev PGs(X:Cx)(T:List Expr)(t:TGs):Prop:=
 ∀ (p:List (Addr × Obj)) (s:Shared) (c:St) (H:Hp) (v:List V) (u:List Value) (Q:St->Hp->Prop),Inv X p c H s->aK v u->t v c H Q ->
  wpAny (model X.prog X.w) X.A (VG ((VF T X.env).map (·.2)) u) (λ_ f=>∃b h,Inv X p b h f/\Q b h) X.xe s
@[inline]abbrev Fg:=V->V->V->Hp->(Hp->Prop)->Prop
abbrev Kq(X:Cx)(t:Fg):Prop:=
 ∀ (p:List (Addr × Obj)) (s:Shared) (b:St) (H:Hp) (o i v:V) (O I u:Value) (Q:Hp->Prop),Inv X p b H s->aG o O->aG i I->aG v u->t o i v H Q ->
  wpAny (model X.prog X.w) X.A (setItem O I u) (λ_ c=>∃h,Inv X p b h c/\Q h) X.xe s
@[inline]abbrev TIp:=V->V->Hp->VK->Prop
abbrev PIp(X:Cx)(op:W2)(t:TIp):Prop:=
 ∀ (p:List (Addr × Obj)) (s:Shared) (b:St) (H:Hp) (x y:V) (v u:Value) (Q:VK),Inv X p b H s->aG x v->aG y u->t x y H Q ->
  wpAny (model X.prog X.w) X.A (V3 op v u) (EP X p b Q) X.xe s
section
variable {X:Cx} {pos:Pos}
abbrev i5(i:Nat):TG:=λv b H Q=>Q (b.set i (aD v)) H
def kW{i:Nat}(hN:X.N.Nodup)(g:X.N[i]?=aD x)(f:Loc X.env.scope x)(c:X.fn x=br\/X.env.scope.names.lookup x=aD .local:=by first |exact .inl rfl |exact .inr rfl |assumption):PG X (.Name x pos) (i5 i):=by
 intro p s o H v u Q I r h;exact wpAny_assign_Name (ce I hN g f r (λj b=>⟨_,H,b,h⟩) c)
abbrev Pp:TGs:=λv b H Q=>v=[]/\Q b H
abbrev Jj(t:TG)(u:TGs):TGs:=λc f H Q=>∃v r,c=v::r/\t v f H λb h=>u r b h Q
def Fh:PGs X [] Pp:=by
 intro p s b H v u Q I r h;obtain⟨e,h⟩:=h;subst e;cases r;exact assignInOrder_nil ⟨b,H,I,h⟩
def Bm{e:Expr}{E:List Expr}{t:TG}{u:TGs}(j:PG X e t)(z:PGs X E u)
  (hs:(VF (e::E) X.env).map (·.2)=assign e X.env::(VF E X.env).map (·.2):=by rfl):PGs X (e::E) (Jj t u):=by
 intro p s B H J U Q I r h;obtain⟨v,C,o,h⟩:=h;subst o;cases r with
 |cons r y=>
  rw[hs];refine assignInOrder_cons (thn (j p s B H _ _ _ I r h) λ_ c ⟨b,g,f,q⟩=>?_);exact z p c b g _ _ Q f y q
abbrev Pq(K:Vh)(n:Nat)(t:TGs):TG:=λv b H Q=>∃a xs,v = .ref a/\SqT K H a xs/\xs.length=n/\t xs b H Q
def Kr{k:Nat}{n:Nat}(hc:X.calm=br)(h:PGs X E t)
  (z:(VF E X.env).length=n:=by rfl) (c:(VF E X.env).findIdx? (·.1)=aT:=by rfl):PG X (.Tuple E k pos) (Pq X.K n t):=by
 intro p s j H v u Q I r f;obtain⟨a,xs,J,y,L,f⟩:=f;subst J;cases r;obtain⟨M,g,C,T⟩:=I.tuple y;refine assign_Tuple_tuple (I.ok.hd hc) C (by simp[z,<-L,g.length]) c λq O=>?_;have B:Inv X p j H { s with heap:=q }:=I.kept (t':=s.toks) λb o e=>O b o (ZF (Zq e)) e;exact h p _ j H xs _ Q B (by simpa using g) f
abbrev Pr(T f:TE)(t:Fg):TG:=λv b H Q=>T b H λo c=>f b c λi h=>t o i v h λg=>Q b g
def Ks{o i:Expr}{f T:TE}{t:Fg}(q:PE X o f)(j:PE X i T)(hs:Kq X t)
  (Y:∀v,assign (.Subscript o i pos) X.env v=(do
   let O <-holding [v] (eval o X.env)
   let b <-holding [v,O] (eval i X.env)
   standAt pos
   holding [v,O,b] (setItem O b v)
   release [v,O,b] []):=by intro _;rfl):PG X (.Subscript o i pos) (Pr f T t):=by
 intro p s c H v u Q I r h;rw[Y];refine Ux (UG (thn (q p s c H _ I h) λO C ⟨x,L,E,r1,M⟩=>?_));refine Ux (UG (thn (j p C c L _ E M) λb s2 ⟨y,B,J,r2,U⟩=>?_));refine Ux (UZ (Ux (UG (thn (hs p s2 c B x y v O b u _ J r1 r2 r U) λ_ s3 ⟨g,Z,z⟩=>?_))));exact wpAny_release ⟨c,g,Z,z⟩
abbrev uM(T:TE)(g:TG):TS:=λD b H=>T b H λx h=>g x b h D.nx
def jJ{T e:Expr}{b:TE}{g:TG}(z:PE X e b)(u:PG X T g)(hs:Um [T] e pos.line X.env=pure bx:=by rfl)(hw:Uk [T] e X.env=pure aT:=by rfl)
  (o:(VF [T] X.env).map (·.2)=[assign T X.env]:=by rfl):PS X (.Assign [T] e pos) (uM b g):=by
 intro p s c H D I h;refine wpAny_Assign_stores (thn (z p s c H _ I h) λv j ⟨x,f,y,r1,Q⟩=>?_) hs hw;rw[o];exact thn (u p j c f x v _ y r1 Q) λ_ B q=>q
def Bn{i:Nat}{x:Str}{e:Expr}{T:TE}{p:Pos}(hN:X.N.Nodup)(c:X.N[i]?=aD x)(z:Loc X.env.scope x)(u:PE X e T)(hs:Ul e (aD (.Name x p)) pos.line X.env=pure bx:=by rfl)(o:X.fn x=br\/X.env.scope.names.lookup x=aD .local:=by first |exact .inl rfl |exact .inr rfl |assumption) :
  PS X (.Assign [.Name x p] e pos) (uM T (i5 i)):=by
 intro b s B H D I h;refine wpAny_Assign_Name (thn (u b s B H _ I h) λv C ⟨y,j,f,r1,q⟩=>?_) hs;exact ce f hN c z r1 (λE g=>⟨_,j,g,q⟩) o
abbrev Ps(i j:Nat)(T:TA):TS:=λD b H=>T b H λc h=>∃v w,c=[v,w]/\D.nx ((b.set i (aD v)).set j (aD w)) h
def Kt{i j:Nat}{x y:Str}{a b:Expr}{Z:TA}{C z pt:Pos}{E L f}(hc:X.calm=br)(hN:X.N.Nodup)(hi:X.N[i]?=aD x)(hj:X.N[j]?=aD y)(B:i ≠ j)
  (hx:X.env.scope.names.lookup x=aD .local) (O:X.env.scope.names.lookup y=aD .local) (ha:PA X [a,b] Z)
  (hw:Uk [.Tuple [.Name x C,.Name y z] E pt] (.Tuple [a,b] L f) X.env=pure (aD [x,y]))
  (hs:Um [.Tuple [.Name x C,.Name y z] E pt] (.Tuple [a,b] L f) pos.line X.env=pure bx:=by rfl) :
  PS X (.Assign [.Tuple [.Name x C,.Name y z] E pt] (.Tuple [a,b] L f) pos) (Ps i j Z):=by
 intro c s σ H D I h;rw[exec_Assign_arm];refine Ux (UZ ?_);rw[hs];refine Ux (UR ?_);rw[if_neg (by decide)];refine Ux (Tuple_ (thn (ha _ c s σ H _ I h) λus u ⟨vs,Y,I1,r1,Q⟩=>?_));obtain⟨v,w,e1,Q⟩:=Q;subst e1
 obtain⟨U,u2,rfl,rv,J⟩:∃U u2,us=[U,u2]/\aG v U/\aG w u2:=by
  cases r1 with
  |cons p q=>
   cases q with
   |cons p' q'=>
    cases q';exact⟨_,_,rfl,p,p'⟩
 refine UP ?_ (by show 2<=sizeLine;decide);have I2:Inv X c σ Y { u with heap:=u.heap.push { cls:=.type "tuple", data:=.seq [U,u2].toArray } }:=I1.kept (t':=u.toks) λb o e=>Zj _ e;rw[hw];refine Ux (UR ?_);show wpAny (model X.prog X.w) X.A (do rule "assign.swapped-stores"; let g <-Uu (.ref u.heap.objs.size) 2 aT;VG [λv=>VJ X.env y v,λv=>VJ X.env x v] g.reverse;pure Flow.next) _ _ _;refine Ux (UX (Ux (unpackItems_tuple (items:=#[U,u2]) (I.ok.hd hc) (IsTup.new u.heap _) λh' M=>?_)));have I3:=I2.kept (h':=h') (t':=u.toks) λb o e=>M b o (ZF (Zq e)) e;show wpAny _ _ (VG [λv=>VJ X.env y v,λv=>VJ X.env x v] [u2,U] >>= λ_=>pure Flow.next) _ _ _;refine Ux (assignInOrder_cons (Uy (ce I3 hN hj (.inl O) J (λs2 I4=>?_) (.inr O))));refine assignInOrder_cons (Uy (ce I4 hN hi (.inl hx) rv (λs3 T=>assignInOrder_nil (UR ?_)) (.inr hx)));rw[Xd _ _ (Ne.symm B)] at T;exact⟨_,Y,T,Q⟩
abbrev Pt(i:Nat)(f:TE)(T:TIp):TS:=λD b H=>∃x,b[i]?=aD (aD x)/\f b H λy c=>T x y c λz h=>D.nx (b.set i (aD z)) h
def Ku{i:Nat}{x:Str}{e:Expr}{T:TE}{op:W2}{B:TIp}{j:Pos}(hN:X.N.Nodup)(q:X.N[i]?=aD x)(o:Loc X.env.scope x)(he:PE X e T)(E:PIp X op B)(hf:X.fn x=br\/X.env.scope.names.lookup x=aD .local:=by first |exact .inl rfl |exact .inr rfl |assumption) :
  PS X (.AugAssign (.Name x j) op e pos) (Pt i T B):=by
 intro p s C H D I h;obtain⟨v,e1,h⟩:=h;obtain⟨m,O,hl⟩:=I.loc;have vis:Vis X.env.scope x:=by rcases o with k |k;exact .inl k;exact .inr (.inl k)
 obtain⟨u,r,l⟩:=hl i x v q e1 vis;refine wpAny_AugAssign_Name ?_
 have go:wpAny (model X.prog X.w) X.A (eval e X.env) (λw f=>wpAny (model X.prog X.w) X.A (V3 op u w) (λr g=>wpAny (model X.prog X.w) X.A (storeName X.env x r) (λ_=>SP X p D .next) X.xe g) X.xe f) X.xe s:=by
  refine thn (he p s C H _ I h) λw M ⟨y,Z,Q,r1,q1⟩=>?_;refine thn (E p M C Z v y u w _ Q r r1 q1) λz s2 ⟨zv,L,U,r2,q2⟩=>?_;exact ce U hN q o r2 (λs3 I3=>⟨_,L,I3,q2⟩) hf
 rcases l with ⟨hk,J⟩ |⟨hk,c,Y,b⟩
 ·exact UJ I.ok.kind hk O J go
 ·rcases hk with hk |hk
  ·exact wpAny_loadName_cell I.ok.kind hk Y b go
  ·rcases o with k |k
   ·have:X.env.scope.names.lookup x=aD .free:=hk;rw[k] at this;cases this
   ·have:X.env.scope.names.lookup x=aD .free:=hk;rw[k] at this;cases this
end
structure It where
 go:Nat->Hp->Prop
 yld:Nat->Hp->V->Hp->Prop
 stop:Nat->Hp->Prop
abbrev hY(X:Cx)(f:List (Addr × Obj))(H:Hp)(b:Addr):Prop:=
 H b=aT/\b ≠ X.env.locals/\b ∉ X.fs/\(b ∈ X.ex\/X.s₀.heap.objs.size<=b)/\(∀x c,X.env.cells.lookup x=aD c->c ≠ b)/\∀p ∈ X.pn++f,p.1 ≠ b
def Inv.fpOk(I:Inv X f u H s)(h:s.heap.objs.size<=b)(j:g b=aT):hY X f g b:=by
 refine⟨j,XR (Zx I.lt h),I.nofs h,.inr (Zz I.sz h),λx c e z=>?_,λp o z=>?_⟩
 ·obtain⟨v,q⟩:=I.cell x c e;exact absurd (Zx q.lt (by rw[z];exact h)) (ZQ _)
 ·exact absurd (Zx (Zq (I.pin p o).1) (by rw[z];exact h)) (ZQ _)
structure Turn(P:Program)(w:World)(K:Vh)(tg:Expr)(J:It)(fp:List Addr)(it:Addr)(tn:Nat->Heap->Prop):Prop where
 mem:it ∈ fp
 obj:∀i h,tn i h->∀b ∈ fp,∃o,h.get? b=aD o/\∀v,o.data ≠ .cell v
 keep:∀i h h',tn i h->(∀b ∈ fp,∀o,h.get? b=aD o->h'.get? b=aD o)->tn i h'
 item:∀ (X:Cx),X.prog=P->X.w=w->X.K=K->X.calm=br->∀ (i:Nat) (pins:List (Addr × Obj)) (s:Shared) (σ:St) (H:Hp) (E:Value->Shared->Prop),Inv X pins σ H s->(∀b ∈ fp,hY X pins H b)->tn i s.heap->J.go i H ->
  wpAny (model P w) X.A (pyNext (.ref it)) (λr s1=>∃u,r=aD u ∧
   wpAny (model P w) X.A (V4 tg (.ref it) u) (λ_ s2=>∃x H',Inv X pins σ H' s2/\aG x u/\J.yld i H x H'/\tn (i+1) s2.heap/\∀b ∈ fp,H' b=aT) E s1) E s
 done:∀ (X:Cx),X.prog=P->X.w=w->X.K=K->X.calm=br->∀ (i:Nat) (pins:List (Addr × Obj)) (s:Shared) (σ:St) (H:Hp) (E:Value->Shared->Prop),Inv X pins σ H s->(∀b ∈ fp,hY X pins H b)->tn i s.heap->J.stop i H ->
  wpAny (model P w) X.A (pyNext (.ref it)) (λr s1=>r=aT/\Inv X pins σ H s1) E s
 self:∀ (A:Around) (i:Nat) (s:Shared) (Q:Value->Shared->Prop) (E:Value->Shared->Prop),tn i s.heap->Q (.ref it) s->wpAny (model P w) A (pyIter (.ref it)) Q E s
@[inline]abbrev TI:=St->Hp->(It->Hp->Prop)->Prop
abbrev PIE(X:Cx)(p:List (Addr × Obj))(j:St)(h:Expr)(R:It->Hp->Prop)(I:Value)(g:Shared):Prop:=
 ∃ (c:Addr) (f:List Addr) (T:Nat->Heap->Prop) (J:It) (H:Hp),I = .ref c/\Inv X p j H g/\Turn X.prog X.w X.K h J f c T/\T 0 g.heap/\(∀b ∈ f,hY X p H b)/\R J H
abbrev PI(X:Cx)(T I:Expr)(wi:TI):Prop:=
 ∀ (p:List (Addr × Obj)) (s:Shared) (b:St) (H:Hp) (R:It->Hp->Prop),Inv X p b H s->wi b H R ->
  wpAny (model X.prog X.w) X.A (eval I X.env) (λv c=>wpAny (model X.prog X.w) X.A (pyIter v) (PIE X p b T R) X.xe c) X.xe s
def xt(c:s.heap.get? I=aD o)(hc:o.cls = .type n)(hd:o.data = .fields v)
  (b:["enumerate", "zip", "dict_itemiterator", "dict_reverseitemiterator", "odict_iterator", "itertools.zip_longest", "itertools.pairwise"].contains n=bx) (H:Q () s):wpAny M A (V4 T (.ref I) u) Q E s:=by
 unfold V4
 cases T <;> first
  |exact UR H
  | (cases u <;> first
    |exact UR H
    | (refine Ux (wpAny_load c ?_)
       rw[hc,hd];show wpAny M A (if (["enumerate", "zip", "dict_itemiterator", "dict_reverseitemiterator", "odict_iterator", "itertools.zip_longest", "itertools.pairwise"].contains n && v[0]? == aD (rawInt _))=br then _ else _) Q E s;rw[if_neg (by intro h;rw[b,ZL] at h;cases h)];exact UR H))
abbrev Itl(K:Vh)(a:Addr):It:=
 ⟨λi H=>∃xs x,SqL K H a xs/\xs[i]?=aD x,λi H x h=>h=H/\∀xs,SqL K H a xs->xs[i]?=aD x,λi H=>∃xs,SqL K H a xs/\xs.length<=i⟩
abbrev Itt(K:Vh)(a:Addr):It:=
 ⟨λi H=>∃xs x,SqT K H a xs/\xs[i]?=aD x,λi H x h=>h=H/\∀xs,SqT K H a xs->xs[i]?=aD x,λi H=>∃xs,SqT K H a xs/\xs.length<=i⟩
abbrev Itr(lo:Int)(n:Nat):It:=⟨λi _=>i < n,λi H x h=>h=H/\x = .int (lo+i),λi _=>n<=i⟩
def zm{P:Program}{w:World}{K:Vh}{tg:Expr}(a it:Addr):Turn P w K tg (Itl K a) [it] it (λi h=>h.IsListIter it a i) where
 mem:=by simp
 obj:=λi h st b g=>by
  have e:b=it:=by simpa using g
  subst e;obtain⟨o,e,c,d⟩:=st;exact⟨o,e,λv z=>by rw[d] at z;cases z⟩
 keep:=λi h q st k=>st.at λo e=>k it (by simp) o e
 item:=by
  intro X hP O U hc i f s σ H E I B st Z;subst hP O U;obtain⟨xs,x,y,hx⟩:=Z;obtain⟨Y,C,p,hz⟩:=I.list y;obtain⟨u,hu,ru⟩:=C.get hx;obtain⟨T,J,f2,M,Q,L⟩:=B it (by simp);refine wpAny_pyNext_list_item st p.isList (x:=u) (by simpa using hu) λq j sb=>?_;have I1:Inv X f σ H { s with heap:=q }:=I.turned (t':=s.toks) (λb o g e=>(sb.2 b g).trans e) T J M Q L;obtain⟨o,e,c,d⟩:=id j;exact⟨u,rfl,xt (s:={ s with heap:=q }) e c d (by decide) ⟨x,H,I1,ru,⟨rfl,λys hy=>by rw[I.list_inj hy y];exact hx⟩,j,λb g=>(B b g).1⟩⟩
 done:=by
  intro X hP O U hc i f s σ H E I B st Z;subst hP O U;obtain⟨xs,y,hx⟩:=Z;obtain⟨Y,C,p,hz⟩:=I.list y;obtain⟨T,J,f2,M,Q,L⟩:=B it (by simp);have hl:=C.length;exact wpAny_pyNext_list_end (I.ok.hd hc) st p.isList (by simp;lia) λq eb=>⟨rfl,I.turned (t':=s.toks) (λb o g e=>eb b o g e) T J M Q L⟩
 self:=λ_ _ _ _ _ st h=>wpAny_pyIter_listiter st h
def uN{P:Program}{w:World}{K:Vh}{tg:Expr}(a it:Addr):Turn P w K tg (Itt K a) [it] it (λi h=>h.IsTupleIter it a i) where
 mem:=by simp
 obj:=λi h st b g=>by
  have e:b=it:=by simpa using g
  subst e;obtain⟨o,e,c,d⟩:=st;exact⟨o,e,λv z=>by rw[d] at z;cases z⟩
 keep:=λi h y st k=>st.at λo e=>k it (by simp) o e
 item:=by
  intro X hP Q Y hc i f s σ H E I C st Z;subst hP Q Y;obtain⟨xs,x,B,hx⟩:=Z;obtain⟨j,J,p,hz⟩:=I.tuple B;obtain⟨u,hu,ru⟩:=J.get hx;obtain⟨U,L,f2,O,T,M⟩:=C it (by simp);refine wpAny_pyNext_tuple_item st (show s.heap.IsTuple a j.toArray from p) (x:=u) (by simpa using hu) λy q sb=>?_;have I1:Inv X f σ H { s with heap:=y }:=I.turned (t':=s.toks) (λb o g e=>(sb.2 b g).trans e) U L O T M;obtain⟨o,e,c,d⟩:=id q;exact⟨u,rfl,xt (s:={ s with heap:=y }) e c d (by decide) ⟨x,H,I1,ru,⟨rfl,λys hy=>by rw[I.tuple_inj hy B];exact hx⟩,q,λb g=>(C b g).1⟩⟩
 done:=by
  intro X hP Q Y hc i f s σ H E I C st Z;subst hP Q Y;obtain⟨xs,B,hx⟩:=Z;obtain⟨j,J,p,hz⟩:=I.tuple B;obtain⟨U,L,f2,O,T,M⟩:=C it (by simp);have hl:=J.length;exact wpAny_pyNext_tuple_end (I.ok.hd hc) st (show s.heap.IsTuple a j.toArray from p) (by simp;lia) λy eb=>⟨rfl,I.turned (t':=s.toks) (λb o g e=>eb b o g e) U L O T M⟩
 self:=λ_ _ _ _ _ st h=>wpAny_pyIter_tupleiter st h
def uO{P:Program}{w:World}{K:Vh}{tg:Expr}(it:Addr)(lo:Int)(n:Nat):Turn P w K tg (Itr lo n) [it] it (λi h=>IsRangeIter h it (lo+(i:Nat) * 1) ((n:Int) - (i:Nat)) 1) where
 mem:=by simp
 obj:=λi h st b c=>by
  have e:b=it:=by simpa using c
  subst e
  exact⟨_,st,λv z=>by
   have z':Data.fields _=Data.cell v:=z;cases z'⟩
 keep:=λi h g st k=>k it (by simp) _ st
 item:=by
  intro X Q J M B i p s U H E I j st O;subst Q J M;obtain⟨L,q,f2,y,C,u⟩:=j it (by simp);have W:=Walks.range (prog:=X.prog) (w:=X.w) (I.ok.hd B) it lo 1 n;refine W.item i s _ _ O st λv g T Z f kk=>?_;obtain⟨t,rfl⟩:=Z;have I1:Inv X p U H { s with heap:=g,toks:=T }:=I.turned (λb o c e=>kk b o (by simpa using c) e) L q y C u;refine⟨_,rfl,xt (s:={ s with heap:=g,toks:=T }) (n := "range_iterator") f rfl rfl (by decide) ⟨.int (lo+i),H,I1,⟨t,?_⟩,⟨rfl,rfl⟩,f,λb c=>(j b c).1⟩⟩;rw[Int.mul_one]
 done:=by
  intro X Q J M B i p s U H E I j st O;subst Q J M;obtain⟨L,q,f2,y,C,u⟩:=j it (by simp);exact wpAny_pyNext_range_end (I.ok.hd B) st (by have:n<=i:=O;lia) λg Y=>⟨rfl,I.turned (t':=s.toks) (λb o c e=>Y b o c e) L q y C u⟩
 self:=λ_ _ _ _ _ st h=>wpAny_pyIter_rangeiter st h
section
variable {X:Cx} {tg:Expr}
abbrev Bo(K:Vh)(T:TE):TI:=λb H R=>T b H λx h=>∃a,x = .ref a/\(∃xs,SqL K h a xs)/\R (Itl K a) h
abbrev Kv(K:Vh)(T:TE):TI:=λb H R=>T b H λx h=>∃a,x = .ref a/\(∃xs,SqT K h a xs)/\R (Itt K a) h
def xu{l:Expr}{T:TE}(hl:PE X l T):PI X tg l (Bo X.K T):=by
 intro c s B H R I h;refine thn (hl c s B H _ I h) λv f ⟨x,y,g,r1,Q⟩=>?_;obtain⟨a,e,⟨xs,j⟩,q⟩:=Q;subst e;cases r1;obtain⟨z,C,p,E⟩:=g.list j;refine UT p.isList ?_;refine⟨f.heap.objs.size,[f.heap.objs.size],_,_,y,rfl,g.kept (t':=f.toks) λb o e=>Zj _ e,zm a _,⟨_,ZI _ rfl,rfl,rfl⟩,λb u=>?_,q⟩;have e:b=f.heap.objs.size:=by simpa using u
 subst e;exact g.fpOk (Zc _) (g.hok.fresh (Zc _))
def Bp{l:Expr}{T:TE}(hl:PE X l T):PI X tg l (Kv X.K T):=by
 intro f s B H R I h;refine thn (hl f s B H _ I h) λv c ⟨x,z,g,r1,Q⟩=>?_;obtain⟨a,e,⟨xs,u⟩,q⟩:=Q;subst e;cases r1;obtain⟨j,C,p,E⟩:=g.tuple u;refine UU (show c.heap.IsTuple a j.toArray from p) ?_;refine⟨c.heap.objs.size,[c.heap.objs.size],_,_,z,rfl,g.kept (t':=c.toks) λb o e=>Zj _ e,uN a _,⟨_,ZI _ rfl,rfl,rfl⟩,λb y=>?_,q⟩;have e:b=c.heap.objs.size:=by simpa using y
 subst e;exact g.fpOk (Zc _) (g.hok.fresh (Zc _))
def rY{lo h:Int}{T:Nat}(I:Inv X p f H s)(B:-(2 ^ 62)<=lo)(J:lo < 2 ^ 62)(j:-(2 ^ 62)<=h)(g:h < 2 ^ 62)
  (q:R (Itr lo (h - lo).toNat) H):wpAny (model X.prog X.w) X.A (pyIter (.ref s.heap.objs.size)) (PIE X p f tg R) E { s with heap:=s.heap.push { cls:=.type "range", data:=.fields #[.int lo t,.int h u,.int 1 v] },toks:=T }:=by
 refine wpAny_pyIter_range (IsRange.new ..) (small_one B J j g) ?_;have c:Inv X p f H { s with heap:=s.heap.push { cls:=.type "range", data:=.fields #[.int lo t,.int h u,.int 1 v] },toks:=T }:=I.kept λb o e=>Zj _ e
 refine⟨(s.heap.push { cls:=.type "range", data:=.fields #[.int lo t,.int h u,.int 1 v] }).objs.size,[(s.heap.push { cls:=.type "range", data:=.fields #[.int lo t,.int h u,.int 1 v] }).objs.size],_,_,H,rfl,
  c.kept (t':=T) λb o e=>Zj _ e,uO _ lo (h - lo).toNat,?_,λb z=>?_,q⟩
 ·have C:lo+((0:Nat):Int) * 1=lo:=by simp
  have y:(((h - lo).toNat:Nat):Int) - ((0:Nat):Int)=Builtin.Range.rangeSize lo h 1:=by rw[rangeSize_one];split <;> lia
  show IsRangeIter _ _ (lo+((0:Nat):Int) * 1) ((((h - lo).toNat:Nat):Int) - ((0:Nat):Int)) 1;rw[C,y];exact ZI _ rfl
 ·have e:b=(s.heap.push { cls:=.type "range", data:=.fields #[.int lo t,.int h u,.int 1 v] }).objs.size:=by simpa using z
  subst e;exact c.fpOk (Zc _) (c.hok.fresh (Zc _))
abbrev Jk(T:TA):TI:=λb H R=>T b H λv h=>∃j:Int,v=[.int j]/\-(2 ^ 62)<=j/\j < 2 ^ 62/\R (Itr 0 j.toNat) h
abbrev Jl(T:TA):TI:=λb H R=>T b H λv h=>∃i j:Int,v=[.int i,.int j]/\(-(2 ^ 62)<=i/\i < 2 ^ 62/\-(2 ^ 62)<=j/\j < 2 ^ 62)/\R (Itr i (j - i).toNat) h
def zn(v:Gl X "range")(c:X.mg "range" = aT)(o:PA X [a] T)(hs:Ui [a] X.env=[(bx,eval a X.env)]:=by rfl):PI X tg (.Call (.Name "range" p) [a] [] pos) (Jk T):=by
 intro b s y H R I h;refine Call_ (ir I v c boot_range (WB (thn (o pos b s y H _ I h) λU z ⟨C,B,f,r1,Q⟩=>?_) hs rfl));obtain⟨j,e,Q,g,q⟩:=Q;subst e;cases r1 with
 |cons r u=>
  cases u;obtain⟨t,rfl⟩:=r;exact call_range_1 (rY f (by lia) (by lia) Q g (by simpa using q))
def zo(C:Gl X "range")(v:X.mg "range" = aT)(B:PA X [a,b] T)(hs:Ui [a,b] X.env=[(bx,eval a X.env),(bx,eval b X.env)]:=by rfl)(f:Ui [b] X.env=[(bx,eval b X.env)]:=by rfl) :
  PI X tg (.Call (.Name "range" p) [a,b] [] pos) (Jl T):=by
 intro c s o H R I h;refine Call_ (ir I C v boot_range (WB (thn (B pos c s o H _ I h) λU L ⟨Y,O,y,r1,Q⟩=>?_) (by rw[hs,f]) (by rw[f];rfl)));obtain⟨i,j,e,⟨Q,z,u,J⟩,q⟩:=Q;subst e;cases r1 with
 |cons r g=>
  cases g with
  |cons E g=>
   cases g;obtain⟨t,rfl⟩:=r;obtain⟨M,rfl⟩:=E;exact call_range_2 (rY y Q z u J q)
abbrev Pu(wi:TI)(g:TG)(T:TS):TS:=λD b H=>wi b H λJ o=>∃W:Nat->Nat->St->Hp->Prop,(∃m,W 0 m b o)/\∀i m b H,W i m b H ->
 (J.stop i H/\D.nx b H)\/(J.go i H/\∃N:St->Hp->Prop,(∀c h,N c h->∃M,M < m/\W (i+1) M c h)/\∀x h,J.yld i H x h->g x b h λf j=>T { D with nx:=N,ct:=N,bk:=D.nx } f j)
abbrev lJ(f:List Addr)(h:Heap):List (Addr × Obj):=f.filterMap λb=>(h.get? b).map λo=>(b,o)
def fh(H:b ∈ f)(e:h.get? b=aD o):(b,o) ∈ lJ f h:=Yx.mpr ⟨b,H,by rw[e];rfl⟩
def zp(c:p ∈ lJ f h):p.1 ∈ f/\h.get? p.1=aD p.2:=by
 obtain⟨b,H,e⟩:=Yx.mp c;cases q:h.get? b with
 |none=>rw[q] at e;cases e
 |some o=>
  rw[q] at e;have E:(b,o)=p:=Option.some.inj e;subst E;exact⟨H,q⟩
def Inv.pinned(I:Inv X c C H s)(j:∀b ∈ f,hY X c H b)(B:∀b ∈ f,∃o,s.heap.get? b=aD o/\∀v,o.data ≠ .cell v):Inv X (c++lJ f s.heap) C H s:=
 I.pins_of λp u=>(Zu.mp u).elim (λz=>I.pin p (ZC _ z)) λz=>by
  obtain⟨h,e⟩:=zp z;obtain⟨y,g,q,_⟩:=j p.1 h;obtain⟨o,E,d⟩:=B p.1 h;rw[e] at E;cases E;exact⟨e,y,g,q,d⟩
def Inv.unpinned(I:Inv X (b++pl) c H s):Inv X b c H s:=I.pins_of λp h=>I.pin p (ZC _ (ZU _ h))
def Kw(U:PassesOwn (model X.prog X.w) X.A X.env X.xe)(hc:X.calm=br)(hi:PI X tg E wi)(hg:PG X tg g)(z:PSs X body tb)
  (hs:∀x,V1 E X.env x=pure x:=by intro _;rfl):PS X (.For tg E body [] pos) (Pu wi g tb):=by
 intro p s σ H D I h;refine wpAny_For (thn (hi p s σ H _ I h) λv s1 h1=>thn h1 λitv s2 h2=>?_) hs;obtain⟨it,O,tn,J,H2,e,I2,T,st2,f2,W,⟨m0,w0⟩,turn⟩:=h2;subst e;have q:∀ {H':Hp},(∀b ∈ O,H' b=aT)->∀b ∈ O,hY X p H' b:=λhn b z=>⟨hn b z,(f2 b z).2⟩;refine codeAny_forLoop_any (λn s'=>∃i C H',Inv X p C H' s'/\tn i s'.heap/\(∀b ∈ O,H' b=aT)/\W i n C H') ?_ m0 ⟨0,σ,H2,I2,st2,λb z=>(f2 b z).1,w0⟩;rintro n s3 ⟨i,j,H3,I3,Z,M,w3⟩;rcases turn i n j H3 w3 with ⟨stop,qn⟩ |⟨go,N,hN,step⟩
 ·refine UQ U (thn (T.done X rfl rfl rfl hc i p s3 j H3 X.xe I3 (q M) Z stop) λr s4 ⟨hr,I4⟩=>?_);subst hr;exact UD ⟨j,H3,I4,qn⟩
 ·refine UQ U (thn (T.item X rfl rfl rfl hc i p s3 j H3 X.xe I3 (q M) Z go) λr s4 ⟨u,hr,h4⟩=>?_);subst hr;refine UQ U (thn h4 λ_ s5 ⟨x,H5,I5,r5,y5,L,fr5⟩=>?_);have I5':=I5.pinned (q fr5) (T.obj _ _ L);refine UQ U (thn (hg _ s5 j H5 x u _ I5' r5 (step x H5 y5)) λ_ s6 ⟨σ6,H6,I6,q6⟩=>?_);refine UQ U (thn (z _ s6 σ6 H6 _ I6 q6) λf s7 Q=>?_)
  have again:∀ {c:St} {y:Hp},Inv X (p++lJ O s5.heap) c y s7->N c y->∃m,m < n/\∃i C H',Inv X p C H' s7/\tn i s7.heap/\(∀b ∈ O,H' b=aT)/\W i m C H':=λ{c y} B Y=>by
   obtain⟨m',hm,w7⟩:=hN c y Y;refine⟨m',hm,i+1,c,y,B.unpinned,T.keep _ _ _ L λb z o e=>(B.pin (b,o) (ZC _ (ZC _ (fh z e)))).1,λb z=>?_,w7⟩;obtain⟨o,e,d⟩:=T.obj _ _ L b z;exact(B.pin (b,o) (ZC _ (ZC _ (fh z e)))).2.1
  cases f with
  |next=>obtain⟨c,y,B,Y⟩:=Q;exact again B Y
  |cont=>obtain⟨c,y,B,Y⟩:=Q;exact again B Y
  |brk=>obtain⟨c,y,B,Q⟩:=Q;exact⟨c,y,B.unpinned,Q⟩
  |ret v=>obtain⟨x7,c,y,B,r7,Q⟩:=Q;exact⟨x7,c,y,B.unpinned,r7,Q⟩
end
@[inline]abbrev R2:=V->V->Hp->VK->Prop
abbrev OpR(X:Cx)(f:Value->Value->Sem Value)(r:R2):Prop:=
 ∀ (p:List (Addr × Obj)) (s:Shared) (b:St) (H:Hp) (x y:V) (v u:Value) (Q:VK),Inv X p b H s->aG x v->aG y u->r x y H Q ->
  wpAny (model X.prog X.w) X.A (f v u) (EP X p b Q) X.xe s
abbrev UnR(X:Cx)(f:Value->Sem Value)(r:V->Hp->VK->Prop):Prop:=
 ∀ (p:List (Addr × Obj)) (s:Shared) (b:St) (H:Hp) (x:V) (v:Value) (Q:VK),Inv X p b H s->aG x v->r x H Q ->
  wpAny (model X.prog X.w) X.A (f v) (EP X p b Q) X.xe s
abbrev aZ(X:Cx)(f:Value)(r:List V->Hp->VK->Prop):Prop:=
 ∀ (p:List (Addr × Obj)) (s:Shared) (b:St) (H:Hp) (xs:List V) (u:List Value) (Q:VK),Inv X p b H s->aK xs u->r xs H Q ->
  wpAny (model X.prog X.w) X.A (call f u) (EP X p b Q) X.xe s
abbrev SB(X:Cx)(r:V->Hp->(Bool->Hp->Prop)->Prop):Prop:=
 ∀ (p:List (Addr × Obj)) (s:Shared) (b:St) (H:Hp) (x:V) (v:Value) (Q:Bool->Hp->Prop),Inv X p b H s->aG x v->r x H Q ->
  wpAny (model X.prog X.w) X.A (truthy v) (TP X p b Q) X.xe s
abbrev tOp(r:R2)(f T:TE):TE:=λb H Q=>f b H λx c=>T b c λy h=>r x y h Q
abbrev tUn(r:V->Hp->VK->Prop)(T:TE):TE:=λb H Q=>T b H λx h=>r x h Q
abbrev rI(C:Int->Int->Prop)(g:Int->Int->V):R2:=λx y H Q=>∃i j,x = .int i/\y = .int j/\C i j/\Q (g i j) H
abbrev rI0(g:Int->Int->V):R2:=λx y H Q=>∃i j,x = .int i/\y = .int j/\Q (g i j) H
abbrev rU(g:Int->V):V->Hp->VK->Prop:=λx H Q=>∃i,x = .int i/\Q (g i) H
section
variable {X:Cx} {a b c:Expr} {ta tb tc:TE} {pos:Pos}
def Kx(U:PE X a ta)(J:PE X b tb){p:List (Addr × Obj)}{s:Shared}{j:St}{H:Hp}{R:V->V->Hp->Prop}(I:Inv X p j H s)
  (h:ta j H λx B=>tb j B λy g=>R x y g) {Q:Value->Shared->Prop} {f:Value->Value->Sem Value}
  (O:∀v u z x y g,Inv X p j g z->aG x v->aG y u->R x y g->wpAny (model X.prog X.w) X.A (f v u) Q X.xe z) :
  wpAny (model X.prog X.w) X.A (eval a X.env) (λv q=>wpAny (model X.prog X.w) X.A (eval b X.env) (λu o=>wpAny (model X.prog X.w) X.A (f v u) Q X.xe o) X.xe q) X.xe s:=by
 refine thn (U p s j H _ I h) λv C ⟨x,B,E,r1,M⟩=>?_;refine thn (J p C j B _ E M) λu z ⟨y,g,L,r2,T⟩=>?_;exact O v u z x y g L r1 r2 T
def Bq{op:W2}{r:R2}(E:OpR X (VI op) r)(z:PE X a ta)(f:PE X b tb):PE X (.BinOp a op b pos) (tOp r ta tb):=by
 intro p s J H Q I h;exact wpAny_BinOp (Kx z f I h λv u C x y j g o B q=>E p C J j x y v u Q g o B q)
def Jm(u:UnR X (unaryOp op) r)(o:PE X a ta):PE X (.UnaryOp op a pos) (tUn r ta):=by
 intro p s f H Q I h;exact UnaryOp_ (thn (o p s f H _ I h) λv j ⟨x,g,y,r1,q⟩=>u p j f g x v Q y r1 q)
def opI{f:Value->Value->Sem Value}{C:Int->Int->Prop}{g:Int->Int->Int}
  (rule:∀ (i j:Int) (t u:Tok) (s:Shared) (Q:Value->Shared->Prop) (E:Value->Shared->Prop),C i j->Q (.int (g i j) s.toks) { s with toks:=s.toks+1 }->wpAny (model X.prog X.w) X.A (f (.int i t) (.int j u)) Q E s) :
  OpR X f (rI C λi j=>.int (g i j)):=by
 intro p s J H x y v u Q I z B h;obtain⟨i,j,rfl,rfl,o,q⟩:=h;obtain⟨t,rfl⟩:=z;obtain⟨T,rfl⟩:=B;exact rule i j t T s _ _ o ⟨.int (g i j),H,I.tok _,⟨_,rfl⟩,q⟩
def Pv{f:Value->Value->Sem Value}{g:Int->Int->Int}
  (rule:∀ (i j:Int) (t u:Tok) (s:Shared) (Q:Value->Shared->Prop) (E:Value->Shared->Prop),Q (.int (g i j) s.toks) { s with toks:=s.toks+1 }->wpAny (model X.prog X.w) X.A (f (.int i t) (.int j u)) Q E s) :
  OpR X f (rI0 λi j=>.int (g i j)):=by
 intro p s B H x y v u Q I o z h;obtain⟨i,j,rfl,rfl,q⟩:=h;obtain⟨t,rfl⟩:=o;obtain⟨T,rfl⟩:=z;exact rule i j t T s _ _ ⟨.int (g i j),H,I.tok _,⟨_,rfl⟩,q⟩
def Fi{f:Value->Value->Sem Value}{g:Int->Int->Bool}
  (rule:∀ (i j:Int) (t u:Tok) (s:Shared) (Q:Value->Shared->Prop) (E:Value->Shared->Prop),Q (.bool (g i j)) s->wpAny (model X.prog X.w) X.A (f (.int i t) (.int j u)) Q E s) :
  OpR X f (rI0 λi j=>.bl (g i j)):=by
 intro p s B H x y v u Q I o z h;obtain⟨i,j,rfl,rfl,q⟩:=h;obtain⟨t,rfl⟩:=o;obtain⟨T,rfl⟩:=z;exact rule i j t T s _ _ ⟨.bl (g i j),H,I,rfl,q⟩
abbrev SC(i j:Int):Prop:=0<=j/\j<=1000000/\i.natAbs < 2 ^ 64
abbrev Pw(i j:Int):Prop:=(-(2 ^ 64) < i/\i < 2 ^ 64)\/(-(2 ^ 64) < j/\j < 2 ^ 64)
def Pw.ok{i j:Int}(h:Pw i j):IntMulOk i j:=by
 rcases h with ⟨H,f⟩ |⟨H,f⟩
 ·exact .of_left (intBits_le_64 H f)
 ·exact .of_right (intBits_le_64 H f)
def Ky:OpR X (VI .Add) (rI0 λi j=>.int (i+j)):=Pv λ_ _ _ _ _ _ _ q=>add_int q
def Kz:OpR X (VI .Sub) (rI0 λi j=>.int (i - j)):=Pv λ_ _ _ _ _ _ _ q=>sub_int q
def KA:OpR X (VI .Mult) (rI Pw λi j=>.int (i * j)):=opI λ_ _ _ _ _ _ _ h q=>mul_int q h.ok
def KB:OpR X (VI .Mod) (rI (λ_ j=>0 < j) λi j=>.int (i % j)):=opI λi j _ _ _ _ _ h q=>by
 have H:(0:Int) < j:=h;exact mod_int' (by lia) (by rw[Int.fmod_eq_emod_of_nonneg i (by lia)];exact q)
def KC:OpR X (VI .Pow) (rI SC λi j=>.int (i ^ j.toNat)):=opI λ_ _ _ _ _ _ _ h q=>pow_int_small h.1 h.2.1 h.2.2 q
def unI{f:Value->Sem Value}{g:Int->Int}
  (rule:∀ (i:Int) (t:Tok) (s:Shared) (Q:Value->Shared->Prop) (E:Value->Shared->Prop),Q (.int (g i) s.toks) { s with toks:=s.toks+1 }->wpAny (model X.prog X.w) X.A (f (.int i t)) Q E s) :
  UnR X f (rU λi=>.int (g i)):=by
 intro p s o H x v Q I j h;obtain⟨i,rfl,q⟩:=h;obtain⟨t,rfl⟩:=j;exact rule i t s _ _ ⟨.int (g i),H,I.tok _,⟨_,rfl⟩,q⟩
def Bs:UnR X (unaryOp .USub) (rU λi=>.int (-i)):=unI λ_ _ _ _ _ q=>neg_int q
end
abbrev SD:V->V->Bool
 |.non,.non=>br |.non,.int _=>br |.int _,.non=>br |.non,.bl _=>br |.bl _,.non=>br |.non,.str _=>br |.str _,.non=>br
 |.int _,.int _=>br |.bl _,.bl _=>br |.str _,.str _=>br |.byt _,.byt _=>br
 |.int _,.str _=>br |.str _,.int _=>br |.bl _,.str _=>br |.str _,.bl _=>br
 |_,_=>bx
abbrev rNe:R2:=λx y H Q=>SD x y=br/\Q (.bl (!decide (x=y))) H
def Fj{i j:Int}:decide (V.int i=V.int j)=(i == j):=by
 rw[ZY];simp
def KD:decide (V.bl i=V.bl j)=(i == j):=by
 rw[ZY];simp
def Fk:decide (V.str i=V.str j)=(i == j):=by
 rw[ZY];simp
def Fm:decide (V.byt i=V.byt j)=(i.toList == j.toList):=by
 rw[ZY];cases i;cases j;simp
section
variable {X:Cx} {a b c:Expr} {ta tb tc:TE} {pos:Pos}
def bF(I:Inv X p g H s)(q:Q (.bl k) H)(e:k=f):EP X p g Q (.bool f) s:=by
 subst e;exact⟨.bl k,H,I,rfl,q⟩
def Px:OpR X (VU .NotEq) rNe:=by
 intro p s o H x y v u Q I g f h;obtain⟨hs,q⟩:=h;cases x with
 |non=>
  cases g;cases y with
  |non=>cases f;exact PySem.EqNone.ne_none_none (bF I q (by simp))
  |bl j=>cases f;exact PySem.EqNone.ne_none_bool (bF I q (by simp))
  |int j=>obtain⟨T,rfl⟩:=f;exact PySem.EqNone.ne_none_int (bF I q (by simp))
  |str j=>obtain⟨T,rfl⟩:=f;exact PySem.EqNone.ne_none_str (bF I q (by simp))
  |_=>exact absurd (show bx=br from hs) Zg
 |bl i=>
  cases g;cases y with
  |non=>cases f;exact PySem.EqNone.ne_bool_none (bF I q (by simp))
  |bl j=>cases f;exact ne_bool (bF I q (congrArg not KD))
  |str j=>obtain⟨T,rfl⟩:=f;exact PySem.EqMixed.ne_bool_str (bF I q (by simp))
  |_=>exact absurd (show bx=br from hs) Zg
 |int i=>
  obtain⟨t,rfl⟩:=g;cases y with
  |non=>cases f;exact PySem.EqNone.ne_int_none (bF I q (by simp))
  |int j=>obtain⟨T,rfl⟩:=f;exact ne_int (bF I q (congrArg not Fj))
  |str j=>obtain⟨T,rfl⟩:=f;exact PySem.EqMixed.ne_int_str (bF I q (by simp))
  |_=>exact absurd (show bx=br from hs) Zg
 |str i=>
  obtain⟨t,rfl⟩:=g;cases y with
  |non=>cases f;exact PySem.EqNone.ne_str_none (bF I q (by simp))
  |bl j=>cases f;exact PySem.EqMixed.ne_str_bool (bF I q (by simp))
  |int j=>obtain⟨T,rfl⟩:=f;exact PySem.EqMixed.ne_str_int (bF I q (by simp))
  |str j=>obtain⟨T,rfl⟩:=f;exact ne_str (bF I q (congrArg not Fk))
  |_=>exact absurd (show bx=br from hs) Zg
 |byt i=>
  obtain⟨t,rfl⟩:=g;cases y with
  |byt j=>obtain⟨T,rfl⟩:=f;exact PySem.W.ne_bytes (bF I q (congrArg not Fm))
  |_=>exact absurd (show bx=br from hs) Zg
 |_=>cases y <;> exact absurd (show bx=br from hs) Zg
def Py:OpR X (VU .Lt) (rI0 λi j=>.bl (decide (i < j))):=Fi λ_ _ _ _ _ _ _ q=>lt_int q
def Pz:OpR X (VU .LtE) (rI0 λi j=>.bl (decide (i<=j))):=Fi λ_ _ _ _ _ _ _ q=>le_int q
def PB:OpR X (VU .Gt) (rI0 λi j=>.bl (decide (j < i))):=Fi λ_ _ _ _ _ _ _ q=>gt_int q
def PC:OpR X (VU .GtE) (rI0 λi j=>.bl (decide (j<=i))):=Fi λ_ _ _ _ _ _ _ q=>ge_int q
def zq:OpR X (VU .In) (λx y H Q=>∃i j,x = .str i/\y = .str j/\Q (.bl (!(Builtin.Str.occurrences j i 0 j.length 1).isEmpty)) H):=by
 intro p s o H x y v u Q I f g h;obtain⟨i,j,rfl,rfl,q⟩:=h;obtain⟨t,rfl⟩:=f;obtain⟨T,rfl⟩:=g;exact in_str (bF I q rfl)
def KF:OpR X (VU .Is) (λx y H Q=>y = .non/\Q (.bl (decide (x = .non))) H):=by
 intro p s j H x y v u Q I f g h;obtain⟨rfl,q⟩:=h;cases g;refine is_none_gen (bF I q ?_)
 cases x <;> first
  |(cases f;rfl)
  |(obtain⟨t,rfl⟩:=f;rfl)
def Fn:OpR X (VU .IsNot) (λx y H Q=>y = .non/\Q (.bl (!decide (x = .non))) H):=by
 intro p s j H x y v u Q I f g h;obtain⟨rfl,q⟩:=h;cases g;refine isnot_none_gen (bF I q ?_)
 cases x <;> first
  |(cases f;rfl)
  |(obtain⟨t,rfl⟩:=f;rfl)
def pY:OpR X (VU .NotIn) (λx y H Q=>∃i j,x = .str i/\y = .str j/\Q (.bl (!(!(Builtin.Str.occurrences j i 0 j.length 1).isEmpty))) H):=by
 intro p s o H x y v u Q I f g h;obtain⟨i,j,rfl,rfl,q⟩:=h;obtain⟨t,rfl⟩:=f;obtain⟨T,rfl⟩:=g;exact notIn_str (bF I q rfl)
def Fo{op:CmpOp}{r:R2}(f:OpR X (VU op) r)(E:PE X a ta)(o:PE X b tb)(g:VH op b=bx):PE X (.Compare a [op] [b] pos) (tOp r ta tb):=by
 intro p s L H Q I h;exact wpAny_Compare1 (Kx E o I h λv u J x y j z C B q=>f p J L j x y v u Q z C B q) g
abbrev Jn(t:TE):TT:=λf H Q=>t f H λx h=>∃k,x = .bl k/\Q k h
def xv(j:OpR X (VU op) r)(Y:PE X a ta)(L:PE X b tb)(o:VH op b=bx):PT X (.Compare a [op] [b] pos) (Jn (tOp r ta tb)):=by
 intro p s f H Q I h
 refine wpAny_isTrue_Compare1 (thn (Y p s f H _ I h) λv C ⟨x,O,J,r1,T⟩=>thn (L p C f O _ J T) λu s2 ⟨y,B,M,r2,U⟩=>
  thn (j p s2 f B x y v u _ M r1 r2 U) λc s3 ⟨z,g,Z,E,k,e,q⟩=>?_) o
 subst e;cases E;exact U0 ⟨g,Z,q⟩
abbrev uQ(r q:R2)(ta tb tc:TE):TE:=λf H Q=>ta f H λx j=>tb f j λy g=>r x y g λz h=>∃k,z = .bl k ∧
 (if k=br then tc f h λo p=>q y o p Q else Q (.bl bx) h)
def Bt(C:OpR X (VU op) r)(g:OpR X (VU o) r')(ha:PE X a ta)(Y:PE X b tb)(hc:PE X c tc)
  (J:lastMarks [op,o] [b,c]=bx:=by with_unfolding_all rfl):PE X (.Compare a [op,o] [b,c] pos) (uQ r r' ta tb tc):=by
 intro p s f H Q I h
 refine Compare_chain (thn (ha p s f H _ I h) λv M ⟨x,H1,T,r1,q1⟩=>chain_link (thn (Y p M f H1 _ T q1) λu s2 ⟨y,L,I2,r2,q2⟩=>
  thn (C p s2 f L x y v u _ I2 r1 r2 q2) λd s3 ⟨z,j,B,O,k,e,q⟩=>?_)) J
 subst e;cases O;refine U0 ?_;cases k with
 |false=>exact ite_ff ⟨.bl bx,j,B,rfl,q⟩
 |true=>exact ite_tt (chain_last (thn (hc p s3 f j _ B q) λw' s4 ⟨z',H4,U,Z,E⟩=>g p s4 f H4 y z' u w' Q U r2 Z E))
def Bu(E:OpR X (VU op) r)(g:OpR X (VU o) r')(ha:PE X a ta)(hb:PE X b tb)(hc:PE X c tc)
  (L:lastMarks [op,o] [b,c]=bx:=by with_unfolding_all rfl):PT X (.Compare a [op,o] [b,c] pos) (Jn (uQ r r' ta tb tc)):=by
 intro p s f H Q I h
 refine isTrue_chain (thn (ha p s f H _ I h) λv T ⟨x,H1,Z,r1,q1⟩=>test_link (thn (hb p T f H1 _ Z q1) λu s2 ⟨y,M,I2,r2,q2⟩=>
  thn (E p s2 f M x y v u _ I2 r1 r2 q2) λd s3 ⟨z,j,B,Y,k,e,q⟩=>?_)) L
 subst e;cases Y;refine U0 ?_;cases k with
 |false=>
  obtain⟨k',O,q'⟩:=q;cases O;exact ite_ff ⟨j,B,q'⟩
 |true=>
  refine ite_tt (test_last (thn (hc p s3 f j _ B q) λw' s4 ⟨z',H4,I4,r4,J⟩=>thn (g p s4 f H4 y z' u w' _ I4 r2 r4 J) λd' s5 ⟨z2,H5,I5,C,k2,U,q5⟩=>?_));subst U;cases C;exact U0 ⟨H5,I5,q5⟩
abbrev Fp(K:Vh)(x:V)(H:Hp)(k:Bool):Prop:=
 match x with
 |.non=>k=bx
 |.bl b=>k=b
 |.int i=>k=(i != 0)
 |.str y=>y.length<=sizeLine/\k=((y.length:Int) != 0)
 |.byt y=>y.size<=sizeLine/\k=((y.size:Int) != 0)
 |.ref p=>(∃xs,SqL K H p xs/\k = !xs.isEmpty)\/(∃xs,SqT K H p xs/\k = !xs.isEmpty)\/∃f,H p=aD (.dK f)/\k = !f.isEmpty
 |_=>False
def uR{f:Type}{kvs:List (f × V)}{v:List (f × Value)}(r:KV kvs v):(!v.isEmpty) = !kvs.isEmpty:=by
 cases r <;> rfl
def lK{xs:List V}{its:List Value}(r:aK xs its):(!its.toArray.isEmpty) = !xs.isEmpty:=by
 cases r <;> simp
def iu:(sizeLine:Nat) < 2 ^ 63:=by rw[Ug];decide
def KG:SB X (λx H Q=>∃k,Fp X.K x H k/\Q k H):=by
 intro B s M H x v Q I j h;obtain⟨k,e,q⟩:=h;have L:=iu;have hs:sizeLine=16777216:=Ug;cases x with
 |non=>
  cases j;have E:k=bx:=e;subst E;exact truthy_none ⟨H,I,q⟩
 |bl b=>
  cases j;have E:k=b:=e;subst E;exact U0 ⟨H,I,q⟩
 |int i=>
  obtain⟨t,rfl⟩:=j;have E:k=(i != 0):=e;subst E;exact PySem.P.truthy_int ⟨H,I,q⟩
 |str y=>
  obtain⟨t,rfl⟩:=j;obtain⟨C,E⟩:y.length<=sizeLine/\k=((y.length:Int) != 0):=e;subst E;exact PySem.P.truthy_str (by lia) ⟨H,I.tok _,q⟩
 |byt y=>
  obtain⟨t,rfl⟩:=j;obtain⟨C,E⟩:y.size<=sizeLine/\k=((y.size:Int) != 0):=e;subst E;exact PySem.W.truthy_bytes (by lia) ⟨H,I.tok _,q⟩
 |ref p=>
  cases j;have E:(∃xs,SqL X.K H p xs/\k = !xs.isEmpty)\/(∃xs,SqT X.K H p xs/\k = !xs.isEmpty)\/∃f,H p=aD (.dK f)/\k = !f.isEmpty:=e;rcases E with ⟨xs,o,E⟩ |⟨xs,o,E⟩ |⟨f,o,E⟩
  ·subst E;obtain⟨u,r,pl,z⟩:=I.list o;have g:=r.length;exact wpAny_truthy_list pl.isList (by simp only[Zk];lia) ⟨H,I.tok _,by rw[lK r];exact q⟩
  ·subst E;obtain⟨u,r,pl,z⟩:=I.tuple o;have g:=r.length;exact truthy_tuple pl (by simp only[Zk];lia) ⟨H,I.tok _,by rw[lK r];exact q⟩
  ·subst E;obtain⟨z,J,vs,r,m⟩:f.length<=sizeLine/\(p == Uo)=bx/\∃vs,KV f vs/\s.heap.DictOf (bq X.prog X.w) p vs:=I.hok p _ o;have g:f.length=vs.length:=Paired.length r;exact wpAny_truthy_dict J m (by lia) ⟨H,I.tok _,by rw[uR r];exact q⟩
 |_=>exact(show False from e).elim
def Bv(y:PE X a ta)(z:∀f,isTrue a X.env f=(do let v <-f;standAt a.pos;holding [v] (truthy v))) :
  PT X a (λg H Q=>ta g H λx j=>∃k,Fp X.K x j k/\Q k j):=by
 intro p s g H Q I h;exact isTrue_plain (thn (y p s g H _ I h) λv q ⟨x,o,B,r1,u⟩=>KG p q g o x v Q B r1 u) (z _)
def uS:OpR X (VI .Add) (λx y H Q=>∃i j,x = .str i/\y = .str j/\i.length+j.length<=sizeLine/\Q (.str (i++j)) H):=by
 intro p s B H x y v u Q I g o h;obtain⟨i,j,rfl,rfl,f,q⟩:=h;obtain⟨t,rfl⟩:=g;obtain⟨T,rfl⟩:=o;exact add_str (λT z=>⟨.str (i++j),H,I.tok _,⟨_,rfl⟩,q⟩) f
def cQ(r:aK [x] U):∃u,U=[u]/\aG x u:=by
 cases r with
 |cons r1 r2=>cases r2;exact⟨_,rfl,r1⟩
def xy(r:aK [x,y] U):∃u w',U=[u,w']/\aG x u/\aG y w':=by
 cases r with
 |cons r1 r2=>
  cases r2 with
  |cons g f=>cases f;exact⟨_,_,rfl,r1,g⟩
def zr(hc:X.calm=br):aZ X (.builtin "max") (λxs H Q=>∃i j,xs=[.int i,.int j]/\Q (.int (if j > i then j else i)) H):=by
 intro p s y H xs U Q I r h;obtain⟨i,j,rfl,q⟩:=h;obtain⟨u,g,rfl,⟨t,rfl⟩,⟨v,rfl⟩⟩:=xy r;refine max_two_ints (I.ok.hd hc) λo T k=>⟨_,H,I.kept k,?_,q⟩;by_cases f:j > i
 ·rw[if_pos f,if_pos f];exact⟨_,rfl⟩
 ·rw[if_neg f,if_neg f];exact⟨_,rfl⟩
def zt(hc:X.calm=br):aZ X (.builtin "min") (λxs H Q=>∃i j,xs=[.int i,.int j]/\Q (.int (if j < i then j else i)) H):=by
 intro p s y H xs U Q I r h;obtain⟨i,j,rfl,q⟩:=h;obtain⟨u,g,rfl,⟨t,rfl⟩,⟨v,rfl⟩⟩:=xy r;refine min_two_ints (I.ok.hd hc) λo T k=>⟨_,H,I.kept k,?_,q⟩;by_cases f:j < i
 ·rw[if_pos f,if_pos f];exact⟨_,rfl⟩
 ·rw[if_neg f,if_neg f];exact⟨_,rfl⟩
def pZ:aZ X (.type "str") (λxs H Q=>∃i,xs=[.int i]/\i.natAbs.log2 < 1920/\Q (.str (toString i)) H):=by
 intro p s g H xs U Q I r h;obtain⟨i,rfl,f,q⟩:=h;obtain⟨u,rfl,t,rfl⟩:=cQ r;exact PySem.P.str_of_int f ⟨.str _,H,I.tok _,⟨_,rfl⟩,q⟩
abbrev SE(K:Vh)(x:V)(H:Hp)(n:Nat):Prop:=
 match x with
 |.str y=>y.length<=sizeLine/\n=y.length
 |.byt y=>y.size<=sizeLine/\n=y.size
 |.ref p=>(∃xs,SqL K H p xs/\n=xs.length)\/∃xs,SqT K H p xs/\n=xs.length
 |_=>False
def Bw:aZ X (.builtin "len") (λxs H Q=>∃x n,xs=[x]/\SE X.K x H n/\Q (.int n) H):=by
 intro z s L H xs U Q I r h;obtain⟨x,n,rfl,e,q⟩:=h;obtain⟨u,rfl,j⟩:=cQ r;have J:=iu;have hs:sizeLine=16777216:=Ug;cases x with
 |str y=>
  obtain⟨t,rfl⟩:=j;obtain⟨B,E⟩:y.length<=sizeLine/\n=y.length:=e;subst E;exact len_str (by lia) ⟨.int _,H,I.tok _,⟨_,rfl⟩,q⟩
 |byt y=>
  obtain⟨t,rfl⟩:=j;obtain⟨B,E⟩:y.size<=sizeLine/\n=y.size:=e;subst E;exact PySem.W.len_bytes (by lia) ⟨.int _,H,I.tok _,⟨_,rfl⟩,q⟩
 |ref p=>
  cases j;have E:(∃xs,SqL X.K H p xs/\n=xs.length)\/∃xs,SqT X.K H p xs/\n=xs.length:=e;rcases E with ⟨xs,o,E⟩ |⟨xs,o,E⟩
  ·subst E;obtain⟨g,v,pl,C⟩:=I.list o;have f:=v.length;exact WE pl.isList (by simp only[Zk];lia) ⟨.int xs.length,H,I.tok _,⟨_,by simp only[Zk];rw[f]⟩,q⟩
  ·subst E;obtain⟨g,v,pl,C⟩:=I.tuple o;have f:=v.length;exact len_tuple pl (by simp only[Zk];lia) ⟨.int xs.length,H,I.tok _,⟨_,by simp only[Zk];rw[f]⟩,q⟩
 |_=>exact(show False from e).elim
end
structure ObjM(h:Heap)(x dx C:Addr)(mA:Str->Option Value):Prop where
 obj:h.get? x=aD (Vq C dx)
 ns:h.Ns1 dx mA
 ne:dx ≠ x
def zu{h:Heap}{b:Addr}{M:Str->Option Value}(n:h.Ns1 b M):∃O,h.get? b=aD O/\∀name,Vy name O=aD (M name):=by
 obtain⟨o,E,u,g,hd,j,_,p⟩:=n;refine⟨o,g,λname=>?_⟩;have e:=p name;unfold nsFind findBy at e;rw[<-Array.find?_toList] at e;unfold Vy;rw[hd];dsimp only;split
 ·rename_i y q;rw[q] at e;exact congrArg aD e
 ·rename_i q;rw[q] at e
  have a:E.toList.any (·.refKey)=bx:=by
   rw[List.any_eq_false];intro y c;obtain⟨z,t,H⟩:=j y (Xw.mp c);simp[DictEntry.refKey,H]
  have f:¬ E.toList.any (·.refKey)=br:=by rw[a];exact Zg
  rw[if_neg f];exact congrArg aD e
def ObjM.look(I:ObjM h x b C M):∃o,PySem.W.InstAt h x (Vq C b) C (aD o)/\∀name,Vy name o=aD (M name):=
 let ⟨o,ho,hl⟩:=zu I.ns
 ⟨o,⟨I.obj,rfl,rfl,ho⟩,hl⟩
def uJ.some_of(r:uJ (aD v) o):∃u,o=aD u/\aG v u:=by
 cases o with
 |none=>exact(show False from r).elim
 |some u=>exact⟨u,rfl,r⟩
section
variable {P:Program} {w:World} {H H':Hp} {h h':Heap} {a C dx:Addr} {fs fs':List (Str × V)}
def Fq(hok:HOk P w H h)(e:H a=aD (.ins C dx fs)):∃M,ObjM h a dx C M/\(∀f,uJ (fs.lookup f) (M f))/\PySem.Within M (fs.map (·.1))/\fs.length<=1000/\H dx=aD (.own a):=by
 obtain⟨d,z,ne,ob,M,n,r,q⟩:=(show bz P w H h a (.ins C dx fs) from hok a _ e);exact⟨M,⟨ob,n,ne⟩,r,q,z,d⟩
end
structure Cls(K:Vh)(C:Addr):Prop where
 pg:VC K C Str.empty=br
 hd:PySem.W.hasDictIn K C=br
 po:PySem.W.plainOver K C=br
 sa:Vn K (.ref C) "__setattr__" = aD (aD (.builtin "object.__setattr__"))
def Cls.get{K:Vh}{C:Addr}(c:Cls K C)(f:Str):VC K C f=br:=c.pg
section
variable {X:Cx} {pins:List (Addr × Obj)} {σ:St} {H:Hp} {s:Shared} {A:Around} {E:Value->Shared->Prop} {Q:Value->Shared->Prop} {c:Value} {b:Bool}
inductive TyOf(K:Vh)(H:Hp):V->Value->Prop where
 |non:TyOf K H .non (.type "NoneType")
 |bl (x:Bool):TyOf K H (.bl x) (.type "bool")
 |int (i:Int):TyOf K H (.int i) (.type "int")
 |str (x:Str):TyOf K H (.str x) (.type "str")
 |flt (x:UInt64):TyOf K H (.flt x) (.type "float")
 |lst {a:Addr} {xs:List V} (e:H a=aD (.lst xs)):TyOf K H (.ref a) (.type "list")
 |frz {a:Addr} {o:Obj} {xs:List V} (e:H a=aD (.frz o (.lst xs))):TyOf K H (.ref a) (.type "list")
 |tup {a:Addr} {xs:List V} (e:H a=aD (.tup xs)):TyOf K H (.ref a) (.type "tuple")
 |dK {a:Addr} {kvs:List (Key × V)} (e:H a=aD (.dK kvs)):TyOf K H (.ref a) (.type "dict")
 |dT {a:Addr} {kvs:List (List Key × V)} (e:H a=aD (.dT kvs)):TyOf K H (.ref a) (.type "dict")
 |ins {a C dx:Addr} {fs:List (Str × V)} (e:H a=aD (.ins C dx fs)) (cl:Cls K C) (ha:Vn K (.ref C) "__class__" = aD (aD (.builtin "object.__class__")))
   (hn:PySem.W.specialIn K (.builtin "object.__class__") "__get__" = aD (aD (.builtin "getset_descriptor.__get__"))) (htk:PySem.W.takesIn K (.builtin "object.__class__")=aD br)
   (hm:VA K C (.type "object")=aD br):TyOf K H (.ref a) (.ref C)
def zw(I:Inv X pins σ H s)(f:aG x u)(ty:TyOf X.K H x t)(e:Vv X.K t c=aD b)(h:∀T,Q (.bool b) { s with toks:=T }) :
  wpAny (model X.prog X.w) A (call (.builtin "isinstance") [u,c]) Q E s:=by
 cases ty with
 |non=>cases (show u=Value.none from f);exact Vt PySem.W.kitx_none I.kIn True.intro e (λz=>nomatch z) h
 |bl y=>cases (show u=Value.bool y from f);exact Vt PySem.W.kitx_bool I.kIn True.intro e (λz=>nomatch z) h
 |int i=>obtain⟨t,q⟩:=(show ∃t,u=Value.int i t from f);cases q;exact Vt PySem.W.kitx_int I.kIn True.intro e (λz=>nomatch z) h
 |str y=>obtain⟨t,q⟩:=(show ∃t,u=Value.str y t from f);cases q;exact Vt PySem.W.kitx_str I.kIn True.intro e (λz=>nomatch z) h
 |flt y=>obtain⟨t,q⟩:=(show ∃t,u=Value.float y t from f);cases q;exact Vt PySem.W.kitx_float I.kIn True.intro e (λz=>nomatch z) h
 |@lst a xs ea=>
  cases (show u=Value.ref a from f);obtain⟨_,_,n,_,g⟩:=(show bz X.prog X.w H s.heap a (.lst xs) from I.hok a _ ea);exact Vt Vx I.kIn ⟨_,g,rfl⟩ e (λz=>nomatch z) h
 |@frz a ob xs ea=>
  cases (show u=Value.ref a from f);obtain⟨_,_,_,n,_,g⟩:=(show bz X.prog X.w H s.heap a (.frz ob (.lst xs)) from I.hok a _ ea);exact Vt Vx I.kIn ⟨_,g,rfl⟩ e (λz=>nomatch z) h
 |@tup a xs ea=>
  cases (show u=Value.ref a from f);obtain⟨_,_,_,p⟩:=(show bz X.prog X.w H s.heap a (.tup xs) from I.hok a _ ea);obtain⟨o,g,j,_⟩:=p;exact Vt PySem.W.kitx_tuple I.kIn ⟨o,g,j⟩ e (λz=>nomatch z) h
 |@dK a kvs ea=>
  cases (show u=Value.ref a from f);obtain⟨_,_,L,_,p⟩:=(show bz X.prog X.w H s.heap a (.dK kvs) from I.hok a _ ea);obtain⟨o,B,v,g,j,_⟩:=p;exact Vt Vw I.kIn ⟨o,g,j.1⟩ e (λz=>nomatch z) h
 |@dT a kvs ea=>
  cases (show u=Value.ref a from f);obtain⟨_,_,xs,_,o,B,v,g,j,_⟩:=(show bz X.prog X.w H s.heap a (.dT kvs) from I.hok a _ ea);exact Vt Vw I.kIn ⟨o,g,j.1⟩ e (λz=>nomatch z) h
 |@ins a C dx fs ea cl ha hn htk hm=>
  cases (show u=Value.ref a from f);obtain⟨U,O,_⟩:=Fq I.hok ea;obtain⟨M,J,_⟩:=O.look;exact Vt (PySem.W.kitx_own (cl.get _) cl.hd ha hn htk hm) I.kIn J e (λz=>nomatch z) h
end
structure Room(k:Nat)(A:Around):Prop where
 hd:A.handled=aT
 dp:A.depth+3 * k+5 < recursionLimit
 un:A.units+16 * k+200 < cLine
 gd:A.guards=aD []
def Room.deeper{k:Nat}(r:Room (k+1) A)(env:Env):Room k (A.deeper env):=
 ⟨r.hd,by have:=r.dp;show A.depth+1+3 * k+5 < _;lia,by have:=r.un;show A.units+3+16 * k+200 < _;lia,r.gd⟩
def Room.depth{k:Nat}(r:Room k A):A.depth < recursionLimit:=by have:=r.dp;lia
def Room.units{k:Nat}(r:Room k A):A.units+64 < cLine:=by have:=r.un;lia
abbrev lL:TA:=λ_ H Q=>Q [] H
abbrev dR(T:TE)(tr:TA):TA:=λb H Q=>T b H λx c=>tr b c λxs h=>Q (x::xs) h
section
variable {X:Cx} {e:Expr} {es:List Expr} {te:TE} {t:TA} {pos:Pos}
def p9:PA X [] lL:=λ_ _ _ _ H Q I h=>Calls.spliced_nil ⟨[],H,I,.nil,h⟩
def Fs(o:PE X e te)(z:PA X es t)(hs:Ui (e::es) X.env=(bx,eval e X.env)::Ui es X.env:=by rfl):PA X (e::es) (dR te t):=by
 intro pos p s b H Q I h;rw[hs];show wpAny _ _ (spliced ((bx,eval e X.env)::backTo pos (Ui es X.env))) _ _ s;refine Calls.spliced_cons (thn (o p s b H _ I h) λu j ⟨x,g,v,r1,q⟩=>?_);exact thn (z pos p j b g _ v q) λU B ⟨xs,c,f,r2,y⟩=>⟨x::xs,c,f,.cons r1 r2,y⟩
abbrev PD(t:TA):TE:=λb H Q=>t b H λxs h=>xs.length<=sizeLine/\∀p,h p=aT->Q (.ref p) (upd h p (.tup xs))
abbrev PH(t:TA):TE:=λb H Q=>t b H λxs h=>xs.length<=sizeLine/\∀p,h p=aT->Q (.ref p) (upd h p (.lst xs))
def KH{v}(h:PA X es t):PE X (.Tuple es v pos) (PD t):=by
 intro p s y H Q I o;refine wpAny_Tuple_spliced (thn (h pos p s y H _ I o) λU c ⟨xs,f,g,r,z,q⟩=>⟨by rw[<-r.length];exact z,?_⟩);have j:f c.heap.objs.size=aT:=g.hok.fresh (Zc _);refine⟨.ref c.heap.objs.size,upd f c.heap.objs.size (.tup xs),g.laid (t':=c.toks) (λb u e=>Zj _ e) (Zc _) ?_,rfl,q _ j⟩;exact⟨z,U,r,pV.new _ _⟩
def lN(h:PA X es t):PE X (.List es pos) (PH t):=by
 intro p s v H Q I o;refine wpAny_List_spliced (thn (h pos p s v H _ I o) λU c ⟨xs,f,g,r,z,q⟩=>⟨by rw[<-r.length];exact z,?_⟩);have j:f c.heap.objs.size=aT:=g.hok.fresh (Zc _);refine⟨.ref c.heap.objs.size,upd f c.heap.objs.size (.lst xs),g.laid (t':=c.toks) (λb u e=>Zj _ e) (Zc _) ?_,rfl,q _ j⟩;exact⟨z,U,0,r,ZI _ rfl⟩
end
@[inline]abbrev Sp:=List V->Hp->VK->XK->Prop
@[inline]abbrev CXT:=List Env->Hp->Shared->XK->Value->Shared->Prop
structure Env0(P:Program)(w:World)(K:Vh)(mg:Str->Option Value)(base:Heap)(A:Around)(outer:List Env)(s:Shared)(H:Hp):Prop where
 frames:A.frames=aD outer
 mod:Mod K mg base
 bs:∀b o,base.get? b=aD o->s.heap.get? b=aD o/\H b=aT
 bsz:base.objs.size<=s.heap.objs.size
 funs:s.heap.FunFrames base outer
 frf:∀b ∈ frs outer,H b=aT
 hok:HOk P w H s.heap
 bare:AllBare s.gens
abbrev CE(outer:List Env)(P:Program)(w:World)(H:Hp)(s:Shared)(Q:VK)(u:Value)(b:Shared):Prop:=
 ∃v h,b.os=s.os/\AllBare b.gens/\Un (frs outer) [] H h s.heap b.heap/\HOk P w h b.heap/\aG v u/\Q v h
abbrev CR(C:CXT)(outer:List Env)(P:Program)(w:World)(H:Hp)(s:Shared)(Q:VK)(E:XK)(r:Result)(b:Shared):Prop:=
 match r with
 |.ok (.ret u)=>CE outer P w H s Q u b
 |.ok _=>False
 |.error e=>C outer H s E e b
structure FnOk(P:Program)(w:World)(K:Vh)(mg:Str->Option Value)(base:Heap)(CX:CXT)(k:Nat)(f:Addr)(fd:WZ)(ps:List Str)(sp:Sp):Prop where
 len:∀vs H Q E,sp vs H Q E->vs.length=ps.length
 run:∀ (A:Around) (outer:List Env) (s:Shared) (H:Hp) (args:Args) (us:List Value) (vs:List V) (Q:VK) (E:XK),Room k A->Env0 P w K mg base A outer s H->BindsTo s fd args (ps.zip us)->aK vs us->sp vs H Q E ->
  codeAny (model P w) A (.call (.ref f) args) (CR CX outer P w H s Q E) s
def FnOk.imp{P:Program}{w:World}{K:Vh}{mg:Str->Option Value}{base:Heap}{C:CXT}{k:Nat}{f:Addr}{c:WZ}{ps:List Str}{g sp':Sp}(F:FnOk P w K mg base C k f c ps g)
  (h:∀v H Q E,sp' v H Q E->g v H Q E):FnOk P w K mg base C k f c ps sp':=
 ⟨λv H Q E q=>F.len v H Q E (h _ _ _ _ q),λA outer s H b u v Q E y p j o hs=>F.run A outer s H b u v Q E y p j o (h _ _ _ _ hs)⟩
section
variable {X:Cx} {pins:List (Addr × Obj)} {σ:St} {H:Hp} {s s':Shared}
def Inv.env0(I:Inv X pins σ H s):Env0 X.prog X.w X.K X.mg X.base X.A X.stack s H:=
 ⟨I.ok.frames,I.ok.mod,I.bs,Zz I.ok.bsz I.sz,I.stack,I.stkFree,I.hok,I.bare⟩
def Inv.after(I:Inv X pins σ H s)(h:CE X.stack X.prog X.w H s Q u s'):EP X pins σ Q u s':=by
 obtain⟨v,f,os,bare,un,hok,r,q⟩:=h;obtain⟨c,g,d,t,o⟩:=s';obtain rfl:o=s.os:=os;exact⟨v,f,I.call (h':=c) (g':=g) (d':=d) (t':=t) (ch:=[]) un hok bare (λb z=>absurd z (by simp)),r,q⟩
end
abbrev Jo(c:Sp)(b:List V)(E:XK)(t:TA):TE:=λf H Q=>t f H λv h=>c (v++b) h Q E
abbrev fO(K:Vh)(f:WZ)(ps:List Str)(ds:List Value):Prop:=
 ∀ (s:Shared) (u:List Value),K.In s.heap->(u++ds).length=ps.length->BindsTo s f ⟨u,[]⟩ (ps.zip (u++ds))
def fO.all{K:Vh}{f:WZ}{ps:List Str}(h:∀u:List Value,u.length=ps.length->bindArgs f ⟨u,[]⟩=pure (ps.zip u)):fO K f ps []:=λs u _ H=>by
 rw[ZO] at H ⊢;exact .of_eq (h u H)
abbrev lP(C:CXT)(X:Cx)(E:XK):Prop:=∀ (p:List (Addr × Obj)) (c:St) (H:Hp) (s:Shared) (e:Value) (b:Shared),Inv X p c H s->C X.stack H s E e b->X.xe e b
section
variable {X:Cx} {CX:CXT} {k:Nat} {f C:Addr} {fd:WZ} {ps:List Str} {sp:Sp} {dvs:List V} {ds:List Value} {E:XK} {x m:Str} {p pos apos:Pos} {e o:Expr} {es:List Expr} {ta:TE} {t:TA}
def KI(F:FnOk X.prog X.w X.K X.mg X.base CX k f fd ps sp)(B:Room k X.A)(j:fO X.K fd ps ds)(hd:aK dvs ds)(z:lP CX X E)
  (I:Inv X b g H s) (r:aK v U) (h:sp (v++dvs) H Q E):wpAny (model X.prog X.w) X.A (call (.ref f) U) (EP X b g Q) X.xe s:=by
 have r2:aK (v++dvs) (U++ds):=r.append hd;have J:(U++ds).length=ps.length:=by rw[<-r2.length];exact F.len _ _ _ _ h
 refine wpAny_call (VT (F.run X.A X.stack s H ⟨U,[]⟩ (U++ds) (v++dvs) Q E B I.env0 (j s U I.kIn J) r2 h) λr y c=>?_);cases r with
 |error e=>exact z b g H s e y I c
 |ok q=>
  cases q with
  |ret u=>exact I.after c
  |next=>exact False.elim c
  |brk=>exact False.elim c
  |cont=>exact False.elim c
def xz(F:FnOk X.prog X.w X.K X.mg X.base CX k f fd ps sp)(v:Room k X.A)(J:Gl X x)(u:X.mg x=aD (.ref f))(M:Vs X.K (.ref f)=br)(y:fO X.K fd ps ds)(hd:aK dvs ds)(L:lP CX X E)
  (B:PA X (e::es) t) (c:(x == ("__debug__" : Str))=bx:=by decide) (z:Ui (e::es) X.env=(bx,eval e X.env)::Ui es X.env:=by rfl) (g:(backTo pos (Ui es X.env)).any (·.1)=bx:=by rfl) :
  PE X (.Call (.Name x p) (e::es) [] pos) (Jo sp dvs E t):=by
 intro b s O H Q I h;refine Uv (gI I J u ?_ c);refine Vi (h₀:=X.base) I.ok.mod.kin M (thn (B pos b s O H _ I h) λU T ⟨Z,Y,j,r,q⟩=>⟨j.kIn,?_⟩) z g;exact KI F v y hd L j r q
end
structure FnScope(N P:List Str)(sc:Scope):Prop where
 kind:sc.kind = .function
 co:sc.isCoroutine=bx
 gen:sc.isGenerator=bx
 nd:N.Nodup
 pre:N.take P.length=P
 par:∀x ∈ P,sc.names.lookup x=aD .local\/sc.names.lookup x=aD .cell
 nofree:∀y ∈ sc.names,y.2 ≠ .free
def ot{kindOf:Str->Option W1}{x:Str}:∀ {binds:List (Str × Value)} {m:Str->Option Value},(∀v,(x,v) ∉ binds)->bindL kindOf binds m x=m x
 |[],_,_=>rfl
 |(n,v)::r,m,h=>by
  unfold bindL;rw[ot λw H=>h w (Zf _ H)];split
  ·have:x ≠ n:=by rintro rfl;exact h v Zd
   simp[this]
  ·rfl
def ou{kindOf:Str->Option W1}{x:Str}:∀ {binds:List (Str × Value)} {m:Str->Option Value},(∀v,(x,v) ∉ binds)->bindC kindOf binds m x=m x
 |[],_,_=>rfl
 |(n,v)::r,m,h=>by
  unfold bindC;rw[ou λw H=>h w (Zf _ H)];split
  ·rfl
  ·have:x ≠ n:=by rintro rfl;exact h v Zd
   simp[this]
def ow{kindOf:Str->Option W1}{x:Str}{v:Value}:∀ {P:List Str} {b:List Value} {i:Nat} {m:Str->Option Value},P.Nodup->P[i]?=aD x->b[i]?=aD v->kindOf x=aD .local ->
  bindL kindOf (P.zip b) m x=aD v
 |[],_,_,_,_,h,_,_=>by simp at h
 |_::_,[],_,_,_,_,h,_=>by simp at h
 |p::P,w::b,0,m,nd,h1,h2,hk=>by
  simp at h1 h2;subst h1;subst h2;show bindL kindOf ((p,w)::P.zip b) m p=_;unfold bindL;rw[ot λv H=>(Yq.mp nd).1 (YN H).1,if_pos hk];simp
 |p::P,w::b,i+1,m,nd,h1,h2,hk=>by
  show bindL kindOf ((p,w)::P.zip b) m x=_;unfold bindL;exact ow (i:=i) (Yq.mp nd).2 (by simpa using h1) (by simpa using h2) hk
def oz{kindOf:Str->Option W1}{x:Str}{v:Value}:∀ {P:List Str} {b:List Value} {i:Nat} {m:Str->Option Value},P.Nodup->P[i]?=aD x->b[i]?=aD v->kindOf x ≠ aD .local ->
  bindC kindOf (P.zip b) m x=aD v
 |[],_,_,_,_,h,_,_=>by simp at h
 |_::_,[],_,_,_,_,h,_=>by simp at h
 |p::P,w::b,0,m,nd,h1,h2,hk=>by
  simp at h1 h2;subst h1;subst h2;show bindC kindOf ((p,w)::P.zip b) m p=_;unfold bindC;rw[ou λv H=>(Yq.mp nd).1 (YN H).1,if_neg hk];simp
 |p::P,w::b,i+1,m,nd,h1,h2,hk=>by
  show bindC kindOf ((p,w)::P.zip b) m x=_;unfold bindC;exact oz (i:=i) (Yq.mp nd).2 (by simpa using h1) (by simpa using h2) hk
abbrev dS(N:List Str)(v:List V):St:=v.map aD++Zp (N.length - v.length) aT
abbrev nV(g:CXT)(P:Program)(w:World)(K:Vh)(mg:Str->Option Value)(base:Heap)(N:List Str)(q:Str)(b:Scope)(f:Addr)(C:Value)(A:Around)(outer:List Env)(s:Shared)(H:Hp)(E:XK):Cx where
 prog:=P
 w:=w
 K:=K
 mg:=mg
 base:=base
 A:=A.deeper (envOfC q b s.heap.objs.size f C)
 N:=N
 s₀:=s
 H₀:=H
 env:=envOfC q b s.heap.objs.size f C
 outer:=outer
 stack:=envOfC q b s.heap.objs.size f C::outer
 ex:=[]
 calm:=true
 fn:=λ_=>br
 pn:=[]
 xe:=λe j=>wpAny (model P w) (A.deeper (envOfC q b s.heap.objs.size f C)) (leaving (envOfC q b s.heap.objs.size f C) e) (λ_ c=>g outer H s E e c) (λh c=>g outer H s E h c) j
def rZ{sc:Scope}{n:Nat}{x:Str}(h:sc.names.lookup x=aD .cell):∃c,(VQ n sc.names []).lookup x=aD c:=by
 have q:=Vj sc.names n [] (.inl h);exact Yb.mp q
def oB{T:CXT}{P:Program}{w:World}{K:Vh}{mg:Str->Option Value}{base:Heap}{N ps:List Str}{Q:Str}{g:Scope}{f:Addr}{O:Value}{A:Around}{outer:List Env}{s s1:Shared}{H:Hp}{E:XK}{U:List Value}{C:List V}
  (S:FnScope N ps g) (hd:A.handled=aT) (o:Env0 P w K mg base A outer s H) (hl:C.length=ps.length) (r:aK C U)
  (x:InCallC s s.heap.objs.size (bindL (envOfC Q g s.heap.objs.size f O).kindOf (ps.zip U) λ_=>aT) (VQ (s.heap.objs.size+1) g.names []) (bindC (envOfC Q g s.heap.objs.size f O).kindOf (ps.zip U) λ_=>aT) s1) :
  Inv (nV T P w K mg base N Q g f O A outer s H E) [] (dS N C) H s1:=by
 have hpl:ps.length<=N.length:=by have:=congrArg Zh S.pre;rw[ZA] at this;lia
 obtain⟨M,tk,rfl,Y⟩:=x.done;have B:∀b:Addr,b ∉ (nV T P w K mg base N Q g f O A outer s H E).ex:=λb z=>absurd (show b ∈ ([]:List Addr) from z) (by simp)
 refine⟨⟨o.mod,S.kind,rfl,rfl,Zc _,λy z c M j=>?_,λy hy=>?_,λy c _ h=>?_,λ_=>hd,Around.frames_deeper o.frames,.inr ⟨rfl,rfl⟩,λb z=>absurd z (B b),o.bs,o.bsz,λb _ _=>B b,λb z=>absurd z (B b),o.funs,o.frf⟩,
  rfl,o.bare,Un.kept Y,⟨_,x.toInCall.ns,λi y v M j h3=>?_⟩,λy c h=>⟨_,x.cell y c h⟩,o.hok.fresh (Zc _),λy c h=>?_,λp I=>absurd (show p ∈ ([]:List (Addr × Obj)) from I) (by simp),o.hok.kept Y,?_⟩
 ·exact name_of_addr x.apart (V7 M) (V7 j)
 ·have hy:g.names.lookup y=aD .cell\/g.names.lookup y=aD .free:=hy;rcases hy with hy |hy
  ·exact rZ hy
  ·exact absurd rfl (S.nofree _ (V7 hy))
 ·exact Xk (x.above y c (V7 h))
 ·have L:i < C.length:=by
   unfold dS at j;by_cases L:i < C.length
   ·exact L
   ·rw[Zn (by simpa using L)] at j;rw[Yo] at j;split at j <;> cases j
  have ha:C[i]?=aD v:=by
   unfold dS at j;rw[Zw (by simpa using L),Zo] at j;cases e:C[i]? with
   |none=>rw[e] at j;cases j
   |some a=>rw[e] at j;cases j;rfl
  obtain⟨u,X,Z⟩:=r.get ha
  have I:ps[i]?=aD y:=by
   rw[<-S.pre,Xe (by lia)];exact M
  have J:ps.Nodup:=by rw[<-S.pre];exact S.nd.sublist (Y7 _ _)
  refine⟨u,Z,?_⟩;rcases S.par y (Zy I) with k |k
  ·exact .inl ⟨k,ow J I X k⟩
  ·obtain⟨c,e⟩:=rZ (n:=s.heap.objs.size+1) k;refine .inr ⟨.inl k,c,e,?_⟩;have q:=x.cell y c e;rw[oz J I X (by show g.names.lookup y ≠ _;rw[k];decide)] at q;exact q
 ·exact o.hok.fresh (Xk (x.above y c (V7 h)))
 ·unfold dS;show _=N.length;rw[Zi,Za,YV]
  lia
def PJ{U:CXT}{P:Program}{w:World}{K:Vh}{mg:Str->Option Value}{base:Heap}{k:Nat}{f:Addr}{name g:Str}{p:Arguments}{body:List Stmt}{c:Scope}{dV kV M pm C ct oc:Value}{an od:Option Addr}
  {Y:Array (Option Value)} {N ps:List Str} {sp:Sp} (lk:K.lookup f=aD ⟨oc,od,.func (Vo name g p body c dV kV M pm an C ct),Y⟩) (X:Vl K C g=br) (S:FnScope N ps c)
  (len:∀h H Q E,sp h H Q E->h.length=ps.length)
  (L:∀ (A:Around) (outer:List Env) (s:Shared) (H:Hp) (h:List V) (Q:VK) (E:XK),Room k (A.deeper (envOfC g c s.heap.objs.size f C))->sp h H Q E ->
   ∃t,PSs (nV U P w K mg base N g c f C A outer s H E) body t/\t { nx:=λ_ z=>Q .non z,rt:=Q } (dS N h) H) :
  FnOk P w K mg base U (k+1) f (Vo name g p body c dV kV M pm an C ct) ps sp:=by
 refine⟨len,λA outer s H args us h Q E hr T hb r O=>?_⟩;have hl:=len _ _ _ _ O;have KX:K.In s.heap:=T.mod.kin.keeps λb o e=>(T.bs b o e).1;have lim:s.heap.NoLimit:=T.mod.nolimit.keeps λb o e=>(T.bs b o e).1
 have B:∀y ∈ ps.zip us,c.names.lookup y.1=aD .local\/(c.names.lookup y.1=aD .cell/\((VQ (s.heap.objs.size+1) c.names []).lookup y.1).isSome=br):=λ⟨n,v⟩ hy=>by
  rcases S.par n (YN hy).1 with q |q
  ·exact .inl q
  ·exact .inr ⟨q,Vj _ _ _ (.inl q)⟩
 refine VS hr.depth (KX _ _ lk) rfl S.co S.gen rfl (Vm KX X) (hb _ _ _ _ ?_);refine UN S.kind B λenv he s1 x=>?_;subst he;refine⟨lim.keeps x.toInCall.keep,codeAny_func ?_⟩;obtain⟨t,ht,hq⟩:=L A outer s H h Q E (hr.deeper _) O;have I:Inv (nV U P w K mg base N g c f C A outer s H E) [] (dS N h) H s1:=oB S hr.hd T hl r x;refine UM (ht [] s1 (dS N h) H _ I hq) (λfl s' hs=>?_) λe s' hs=>hs
 have fin:∀ {j:St} {z:Hp} {v:V} {u:Value},Inv (nV U P w K mg base N g c f C A outer s H E) [] j z s'->aG v u->Q v z->CE outer P w H s Q u s':=
  λ{j z v u} J Z q=>⟨v,z,J.os,J.bare,J.base,J.hok,Z,q⟩
 cases fl with
 |ret u=>
  obtain⟨v,j,z,J,Z,q⟩:=hs;exact fin J Z q
 |next=>
  obtain⟨j,z,J,q⟩:=hs;exact fin (v:=V.non) (u:=Value.none) J rfl q
 |brk=>
  obtain⟨_,_,_,q⟩:=hs;exact False.elim q
 |cont=>
  obtain⟨_,_,_,q⟩:=hs;exact False.elim q
section
variable {X:Cx} {x:Str} {p pos:Pos} {e:Expr} {es:List Expr} {t:TA} {id T:String} {r:List V->Hp->VK->Prop}
abbrev tCB(r:List V->Hp->VK->Prop)(t:TA):TE:=λb H Q=>t b H λv h=>r v h Q
def eM(hc:aZ X (.builtin id) r)(L:Gl X x)(j:X.mg x=aT)(o:VL x=aD (.builtin id))(J:PA X (e::es) t)(v:x ≠ "__name__" := by decide)(c:(x == ("__debug__" : Str))=bx:=by decide)
  (E:Ui (e::es) X.env=(bx,eval e X.env)::Ui es X.env:=by rfl) (f:(backTo pos (Ui es X.env)).any (·.1)=bx:=by rfl):PE X (.Call (.Name x p) (e::es) [] pos) (tCB r t):=by
 intro b s g H Q I h;refine Uv (ir I L j o ?_ v c);exact PyProof.Rows.callWith_builtin1 (thn (J pos b s g H _ I h) λu q ⟨C,z,y,r1,B⟩=>hc b q g z C u Q y r1 B) E f
def jK(hc:aZ X (.type T) r)(L:Gl X x)(j:X.mg x=aT)(o:VL x=aD (.type T))(J:PA X (e::es) t)(v:x ≠ "__name__" := by decide)(c:(x == ("__debug__" : Str))=bx:=by decide)
  (E:Ui (e::es) X.env=(bx,eval e X.env)::Ui es X.env:=by rfl) (f:(backTo pos (Ui es X.env)).any (·.1)=bx:=by rfl):PE X (.Call (.Name x p) (e::es) [] pos) (tCB r t):=by
 intro b s g H Q I h;refine Uv (ir I L j o ?_ v c);exact WB (thn (J pos b s g H _ I h) λu q ⟨C,z,y,r1,B⟩=>hc b q g z C u Q y r1 B) E f
end
end L2
namespace HT
open PySem PyProof.Rows
section
open PySem.SeqAt
open PySem.AutoSeq1 (wpAny_loadPart')
open PySem.MeetsSeq PySem.MeetsSeq2 PySem.MeetsSeq3
end
section
variable {prog:Program} {w:World} {A:Around} {E:Value->Shared->Prop} {s:Shared}
def Ft(L:IsTup s.heap t v.toArray)(I:IsTup s.heap b c.toArray)(y:v ≠ [])
  (J:c=[]->Q (.ref t) s) (M:c ≠ []->Q (.ref s.heap.objs.size) { s with heap:=s.heap.push { cls:=.type "tuple", data:=.seq (v++c).toArray } })
  (q:v.length+c.length<=sizeLine):wpAny (model prog w) A (VI .Add (.ref t) (.ref b)) Q E s:=by
 obtain⟨⟨cls,u,data,sl⟩,o,z,n,hd⟩:=id L;obtain⟨⟨C,g,data2,f⟩,h,j,B,H⟩:=id I;simp only at z hd j H;subst z hd j H;have e:v.toArray++c.toArray=(v++c).toArray:=by simp
 by_cases p:c=[]
 ·exact VX ⟨_,o,rfl⟩ ⟨_,h,rfl⟩ V9 Uf WV WK (WI _ _)
   (tuple_addW1 t b v.toArray c.toArray n B u g sl f (by simpa using y) (by simp[p])) ⟨o,h,J p⟩
 ·refine VX ⟨_,o,rfl⟩ ⟨_,h,rfl⟩ V9 Uf WV WK (WI _ _)
   (tuple_addW2 t b v.toArray c.toArray n B u g sl f (by simpa using y) (by simpa using p) (by rw[Zk,Zk];exact q)) ⟨o,h,?_⟩
  rw[e];exact M p
abbrev sIx(n d:Nat):Option Int->Nat
 |none=>d
 |some v=>if v < 0 then (v+(n:Int)).toNat else min v.toNat n
def KJ(n d:Nat)(hd:d<=n)(o:Option Int):sIx n d o<=n:=by
 cases o with
 |none=>exact hd
 |some v=>
  show(if v < 0 then (v+(n:Int)).toNat else min v.toNat n)<=n;by_cases h:v < 0
  ·rw[if_pos h];lia
  ·rw[if_neg h];exact Nat.min_le_right _ _
def xD(v:Int)(n d:Nat):(if v < 0 then max (v+(n:Int)) 0 else min v (n:Int))=((sIx n d (aD v):Nat):Int):=by
 show(if v < 0 then max (v+(n:Int)) 0 else min v (n:Int))=(((if v < 0 then (v+(n:Int)).toNat else min v.toNat n):Nat):Int);by_cases h:v < 0
 ·simp only[if_pos h];lia
 ·simp only[if_neg h];lia
def uT(lo h:Option Int)(n:Nat):Builtin.Slice.sliceAdjust lo h 1 (n:Int)=(((sIx n 0 lo:Nat):Int),((sIx n n h:Nat):Int)):=by
 have H:¬ ((1:Int) < 0):=by lia
 unfold Builtin.Slice.sliceAdjust;simp only[H,if_false];refine Prod.ext ?_ ?_
 ·cases lo with
  |none=>rfl
  |some v=>exact xD v n 0
 ·cases h with
  |none=>rfl
  |some v=>exact xD v n n
def uU(i j:Nat):Builtin.Slice.slicePlaces (i:Int) (j:Int) 1=j - i:=by
 unfold Builtin.Slice.slicePlaces;have h:(1:Int) > 0:=by lia
 simp only[h,if_true,Wo];split <;> lia
def lQ(p:IsPart v o)(h:Q o s):wpAny (model prog w) A (Builtin.Slice.slicePartIndex v) Q E s:=by
 cases p with
 |none=>exact slicePart_none h
 |int i t=>exact slicePart_int h
def eN{sl:Addr}{f v:Value}{lo b:Option Int}{n:Nat}{Q:Int × Int × Nat->Shared->Prop}(hs:s.heap.IsSliceOf sl f v .none)(pl:IsPart f lo)(p:IsPart v b)
  (h:Q (((sIx n 0 lo:Nat):Int),1,sIx n n b - sIx n 0 lo) s):wpAny (model prog w) A (Builtin.Slice.sliceApplied (.ref sl) (pure (n:Int))) Q E s:=by
 obtain⟨os,c,g,H⟩:=id hs;unfold Builtin.Slice.sliceApplied Builtin.Slice.sliceFields;refine Ux (Ux (UE c H (x:=f) rfl (Ux (UE c H (x:=v) rfl (Ux (UE c H (x:=.none) rfl (UR ?_)))))));refine Ux (slicePart_none ?_);show wpAny _ _ (if ((1:Int) == 0)=br then _ else _) _ _ s;rw[if_neg (by decide)];refine Ux (lQ pl (Ux (lQ p (Ux (UR ?_)))));show wpAny _ _ (match Builtin.Slice.sliceAdjust lo b 1 (n:Int) with |(lo,b)=>pure (lo,(1:Int),Builtin.Slice.slicePlaces lo b 1)) _ _ s;rw[uT lo b n];show wpAny _ _ (pure (((sIx n 0 lo:Nat):Int),(1:Int),Builtin.Slice.slicePlaces ((sIx n 0 lo:Nat):Int) ((sIx n n b:Nat):Int) 1)) _ _ s;rw[uU];exact UR h
def Bx(xs:Array Value)(i k:Nat):((Zl k).filterMap λ(m:Nat)=>xs[((i:Int)+(m:Int) * 1).toNat]?).toArray=((xs.toList.drop i).take k).toArray:=by
 have e:(λ(m:Nat)=>xs[((i:Int)+(m:Int) * 1).toNat]?)=λm=>xs[i+m]?:=by
  funext m
  have:((i:Int)+(m:Int) * 1).toNat=i+m:=by lia
  rw[this]
 rw[e];have:=pick_run xs i k;rw[XM] at this;have b:((λx=>xs[x]?) ∘ λx=>i+x)=λm=>xs[i+m]?:=rfl;rw[b] at this;rw[this]
def i6{t sl:Addr}{I:Array Value}{v p:Value}{lo b:Option Int}{Q:Value->Shared->Prop}(c:IsTup s.heap t I)(hs:s.heap.IsSliceOf sl v p .none)(pl:IsPart v lo)(z:IsPart p b)
  (hw:¬ (sIx I.size 0 lo=0/\sIx I.size I.size b=I.size))
  (h:Q (.ref s.heap.objs.size) { s with heap:=s.heap.push { cls:=.type "tuple", data:=.seq ((I.toList.drop (sIx I.size 0 lo)).take (sIx I.size I.size b - sIx I.size 0 lo)).toArray } })
  (u:I.size<=sizeLine):wpAny (model prog w) A (getItem (.ref t) (.ref sl)) Q E s:=by
 have H:sizeOk (.seq ((I.toList.drop (sIx I.size 0 lo)).take (sIx I.size I.size b - sIx I.size 0 lo)).toArray):=by
  show((I.toList.drop (sIx I.size 0 lo)).take (sIx I.size I.size b - sIx I.size 0 lo)).toArray.size<=sizeLine;rw[Zk,ZA,Yg,Z1]
  lia
 have B:sIx I.size I.size b<=I.size:=KJ _ _ (Zc _) b;obtain⟨os,g,o,y⟩:=id hs;have j:s.TypeIs (.ref sl) "slice" := ⟨os,g,o⟩;unfold getItem
 try with_reducible refine UG ?_
 first |refine Ux (UR ?_) |skip
 refine Ux (UY c.typeIs (by decide) ?_)
 refine Ux (wpAny_callSpecial?_slot (name:=Str.ofString "__getitem__") c.typeIs WC
  (Uz WC c.typeIs entry_tuple_getitem ?_ (args_tuple_getitem _ _)))
 show wpAny _ _ (Builtin.Tuple.tupleItemsOf (.ref t) >>= _) _ _ s;refine Ux (tupleItemsOf_ c ?_);refine Ux (U1 j ?_);rw[if_pos (by decide)];refine Ux (eN hs pl z ?_)
 have f:¬ ((((sIx I.size 0 lo:Nat):Int) == 0 && (1:Int) == 1 && (sIx I.size I.size b - sIx I.size 0 lo) == I.size)=br):=by
  intro q;rw[bAE,bAE] at q;have C:((sIx I.size 0 lo:Nat):Int)=0:=eq_of_beq q.1.1;have J:sIx I.size I.size b - sIx I.size 0 lo=I.size:=eq_of_beq q.2;exact hw ⟨by lia,by lia⟩
 show wpAny _ _ (if (((sIx I.size 0 lo:Nat):Int) == 0 && (1:Int) == 1 && (sIx I.size I.size b - sIx I.size 0 lo) == I.size)=br then _ else _) _ _ s;rw[if_neg f,Bx]
 first
  |exact Ux (m:=Builtin.Tuple.tupleExact _) (UP (UR ⟨_,rfl,UR h⟩) H)
  |exact Ux (m:=Builtin.Tuple.tupleExact _) (UP (Ux (UR (UR ⟨_,rfl,UR h⟩))) H)
  |exact Ux (Ux (m:=Builtin.Tuple.tupleExact _) (UP (UR (UR ⟨_,rfl,UR h⟩)) H))
  |exact Ux (Ux (m:=Builtin.Tuple.tupleExact _) (UP (UR ⟨_,rfl,UR h⟩) H))
end
end HT
namespace L2
open PySem PySem.Spec PyProof.Rows
@[inline]abbrev TO:=St->Hp->(Option Int->Hp->Prop)->Prop
abbrev PO(X:Cx)(e:Option Expr)(t:TO):Prop:=
 ∀ (p:List (Addr × Obj)) (s:Shared) (b:St) (H:Hp) (Q:Option Int->Hp->Prop),Inv X p b H s->t b H Q ->
  wpAny (model X.prog X.w) X.A (evalPart e X.env) (λu c=>∃o h,Inv X p b h c/\IsPart u o/\Q o h) X.xe s
abbrev xE:TO:=λ_ H Q=>Q aT H
abbrev Jp(t:TE):TO:=λb H Q=>t b H λx h=>∃i,x = .int i/\Q (aD i) h
section
variable {X:Cx} {e:Expr} {te:TE} {lo hi:Option Expr} {tl th:TO} {pos p2:Pos}
def Fu:PO X aT xE:=by
 intro p s b H Q I h;rw[VZ];exact UR ⟨aT,H,I,.none,h⟩
def xF(h:PE X e te):PO X (aD e) (Jp te):=by
 intro p s j H Q I c;rw[evalPart_some];refine thn (h p s j H _ I c) λu o ⟨x,b,g,r1,f⟩=>?_;obtain⟨i,rfl,q⟩:=f;obtain⟨t,rfl⟩:=r1;exact⟨aD i,b,g,.int i t,q⟩
abbrev SlR(X:Cx)(r:V->Option Int->Option Int->Hp->VK->Prop):Prop:=
 ∀ (p:List (Addr × Obj)) (s:Shared) (f:St) (H:Hp) (x:V) (v c b:Value) (lo hi:Option Int) (sl:Addr) (Q:VK),Inv X p f H s->aG x v->s.heap.IsSliceOf sl c b .none->IsPart c lo->IsPart b hi->r x lo hi H Q ->
  ∃T id,Ut (.type T) "__getitem__" = pure (aD (.builtin id))/\s.TypeIs v T/\wpAny (model X.prog X.w) X.A (getItem v (.ref sl)) (EP X p f Q) X.xe s
def SlR.or{r g:V->Option Int->Option Int->Hp->VK->Prop}(h:SlR X r)(h':SlR X g):SlR X (λx lo hi H Q=>r x lo hi H Q\/g x lo hi H Q):=by
 intro p s o H x v f c lo hi sl Q I b hs pl j q;rcases q with q |q
 ·exact h p s o H x v f c lo hi sl Q I b hs pl j q
 ·exact h' p s o H x v f c lo hi sl Q I b hs pl j q
abbrev tSl(r:V->Option Int->Option Int->Hp->VK->Prop)(te:TE)(tl th:TO):TE:=λb H Q=>te b H λx c=>tl b c λl h=>th b h λu f=>r x l u f Q
def Bz(J:SlR X r)(he:PE X e te)(hl:PO X lo tl)(y:PO X hi th):PE X (.Subscript e (.Slice lo hi aT p2) pos) (tSl r te tl th):=by
 intro p s f H Q I h;refine Subscript_ (thn (he p s f H _ I h) λv C ⟨x,O,E,r1,U⟩=>?_);refine wpAny_Slice (thn (hl p C f O _ E U) λg s2 ⟨l,B,M,pl,Z⟩=>thn (y p s2 f B _ M Z) λj c ⟨u,o,I3,pu,z⟩=>?_);rw[VZ];refine UR ?_;have L:Inv X p f o { c with heap:=c.heap.push { cls:=.type "slice", data:=.fields #[g,j,.none] } }:=I3.kept (t':=c.toks) λb ob q=>Zj _ q;obtain⟨T,id,hT,Y,hg⟩:=J p { c with heap:=c.heap.push { cls:=.type "slice", data:=.fields #[g,j,.none] } } f o x v g j l u c.heap.objs.size Q L r1 (Heap.IsSliceOf.new ..) pl pu z;show wpAny (model X.prog X.w) X.A (subscriptTail e (.Slice lo hi aT p2) v (.ref c.heap.objs.size)) (EP X p f Q) X.xe { c with heap:=c.heap.push { cls:=.type "slice", data:=.fields #[g,j,.none] } };exact tail_any (ops:=[.ref c.heap.objs.size,v]) Y hT hg (by with_unfolding_all rfl)
abbrev lR(xs:List V)(lo hi:Option Int):List V:=(xs.drop (HT.sIx xs.length 0 lo)).take (HT.sIx xs.length xs.length hi - HT.sIx xs.length 0 lo)
def kr(xs:List V)(lo hi:Option Int):(lR xs lo hi).length<=xs.length:=by
 unfold lR;rw[ZA,Yg]
 lia
abbrev SF(K:Vh):V->Option Int->Option Int->Hp->VK->Prop:=λx lo hi H Q=>∃a xs,x = .ref a/\SqT K H a xs ∧
 ¬ (HT.sIx xs.length 0 lo=0/\HT.sIx xs.length xs.length hi=xs.length)/\∀p,H p=aT->Q (.ref p) (upd H p (.tup (lR xs lo hi)))
def KL:SlR X (SF X.K):=by
 intro p s J H x v C E lo hi sl Q I y hs pl B h;obtain⟨a,xs,rfl,z,u,q⟩:=h;cases y;obtain⟨f,r,j,g⟩:=I.tuple z;have c:f.toArray.size=xs.length:=by rw[Zk];exact r.length.symm
 refine⟨"tuple", _,PyProof.Rows.slot_tuple_getitem.lookup,j.typeIs,?_⟩;refine HT.i6 j hs pl B (by rw[c];exact u) ?_ (by rw[c];exact g);rw[c];refine⟨.ref s.heap.objs.size,_,I.laid (t':=s.toks) (o:=.tup (lR xs lo hi)) (λb ob q=>Zj _ q) (Zc _) ?_,rfl,q _ (I.hok.fresh (Zc _))⟩;exact⟨Zz (kr xs lo hi) g,_,(r.drop (HT.sIx xs.length 0 lo)).take (HT.sIx xs.length xs.length hi - HT.sIx xs.length 0 lo),pV.new _ _⟩
abbrev PK(K:Vh):R2:=λx y H Q=>∃a b xs Y,x = .ref a/\y = .ref b/\SqT K H a xs/\SqT K H b Y/\xs ≠ []/\xs.length+Y.length<=sizeLine ∧
 (Y=[]->Q (.ref a) H)/\(Y ≠ []->∀p,H p=aT->Q (.ref p) (upd H p (.tup (xs++Y))))
def aK.nil_iff(r:aK xs u):u=[] ↔ xs=[]:=by
 cases r with
 |nil=>simp
 |cons _ _=>simp
def Fv:OpR X (VI .Add) (PK X.K):=by
 intro p s T H x y v u Q I L C h;obtain⟨a,b,xs,Y,rfl,rfl,M,j,O,c,B,E⟩:=h;cases L;cases C;obtain⟨J,r1,g,_⟩:=I.tuple M;obtain⟨f,r2,p2,_⟩:=I.tuple j;refine HT.Ft g p2 (λz=>O (r1.nil_iff.mp z)) (λz=>⟨.ref a,H,I,rfl,B (r2.nil_iff.mp z)⟩) (λz=>?_) (by rw[<-r1.length,<-r2.length];exact c);refine⟨.ref s.heap.objs.size,_,I.laid (t':=s.toks) (o:=.tup (xs++Y)) (λb ob q=>Zj _ q) (Zc _) ?_,rfl,E (λw=>z (r2.nil_iff.mpr w)) _ (I.hok.fresh (Zc _))⟩;exact⟨by rw[Zi];exact c,_,r1.append r2,pV.new _ _⟩
end
abbrev ixN(n:Nat)(i:Int):Option Nat:=if 0<=i then (if i < n then aD i.toNat else aT) else if -(n:Int)<=i then aD (i+n).toNat else aT
abbrev atI{α:Type}(xs:List α)(i:Int):Option α:=(ixN xs.length i).bind λj=>xs[j]?
def qa{n:Nat}{i:Int}{j:Nat}(h:ixN n i=aD j):seqIndex? i n=aD j/\j < n/\-(n:Int)<=i/\i < n:=by
 unfold ixN at h;by_cases b:0<=i
 ·rw[if_pos b] at h;by_cases H:i < n
  ·rw[if_pos H] at h;have e:i.toNat=j:=Option.some.inj h;exact⟨by rw[Ue b H,e],by lia,by lia,H⟩
  ·rw[if_neg H] at h;cases h
 ·rw[if_neg b] at h;by_cases H:-(n:Int)<=i
  ·rw[if_pos H] at h;have e:(i+n).toNat=j:=Option.some.inj h;exact⟨by rw[Ud (by lia) H,e],by lia,H,by lia⟩
  ·rw[if_neg H] at h;cases h
def qb{b:Type}{xs:List b}{i:Int}{v:b}(h:atI xs i=aD v):∃j,seqIndex? i xs.length=aD j/\xs[j]?=aD v/\j < xs.length/\-(xs.length:Int)<=i/\i < xs.length:=by
 unfold atI at h;cases e:ixN xs.length i with
 |none=>rw[e] at h;cases h
 |some j=>
  rw[e] at h;obtain⟨c,g,f,H⟩:=qa e;exact⟨j,c,h,g,f,H⟩
def qc{b:Type}{xs:List b}{j:Nat}{v:b}(h:xs[j]?=aD v):atI xs (j:Int)=aD v:=by
 have H:j < xs.length:=(Zb.mp h).1
 have e:ixN xs.length (j:Int)=aD j:=by
  unfold ixN;rw[if_pos (by lia),if_pos (by lia)];simp
 unfold atI;rw[e];exact h
abbrev xG(b:Expr):Prop:=∀o i,subscripted b bx o i=operate [o,i] (getItem o i)
abbrev IxR(X:Cx)(r:R2):Prop:=
 ∀ (c b:Expr) (p:List (Addr × Obj)) (s:Shared) (f:St) (H:Hp) (x y:V) (v u:Value) (Q:VK),Inv X p f H s->aG x v->aG y u->r x y H Q ->
  subscripted b bx v u=operate [v,u] (getItem v u)->wpAny (model X.prog X.w) X.A (subscriptTail c b v u) (EP X p f Q) X.xe s
abbrev MtR(X:Cx)(id:String)(r:V->List V->Hp->VK->Prop):Prop:=
 ∀ (p:List (Addr × Obj)) (s:Shared) (b:St) (H:Hp) (x:V) (xs:List V) (v:Value) (u:List Value) (Q:VK),Inv X p b H s->aG x v->aK xs u->r x xs H Q ->
  wpAny (model X.prog X.w) X.A (call (.builtin id) (v::u)) (EP X p b Q) X.xe s
section
variable {X:Cx} {a b:Expr} {ta tb:TE} {pos:Pos}
def IxR.or{r o:R2}(h:IxR X r)(h':IxR X o):IxR X (λx y H Q=>r x y H Q\/o x y H Q):=by
 intro c f p s z H x y v u Q I g j q hs;rcases q with q |q
 ·exact h c f p s z H x y v u Q I g j q hs
 ·exact h' c f p s z H x y v u Q I g j q hs
def BA(C:IxR X r)(o:PE X a ta)(c:PE X b tb)(hs:xG b):PE X (.Subscript a b pos) (tOp r ta tb):=by
 intro p s E H Q I h;exact Subscript_ (Kx o c I h λv u B x y g f j z q=>C a b p B E g x y v u Q f j z q (hs _ _))
abbrev PL(K:Vh):R2:=λx y H Q=>∃p xs i v,x = .ref p/\y = .int i/\SqL K H p xs/\atI xs i=aD v/\Q v H
abbrev PM(K:Vh):R2:=λx y H Q=>∃p xs i v,x = .ref p/\y = .int i/\SqT K H p xs/\atI xs i=aD v/\Q v H
abbrev PN:R2:=λx y H Q=>∃z i c,x = .str z/\y = .int i/\z.length<=sizeLine/\atI z.cps.toList i=aD c/\Q (.str ⟨#[c]⟩) H
def Fw:IxR X (PL X.K):=by
 intro C g c s M H x y v u Q I rx U h hs;obtain⟨p,xs,i,z,rfl,rfl,T,Y,q⟩:=h;cases rx;obtain⟨t,rfl⟩:=U;obtain⟨E,r,pl,hz⟩:=I.list T;obtain⟨j,f,h2,h3,O,h5⟩:=qb Y;obtain⟨w,J,B⟩:=r.get h2;have Z:=r.length;have hn:=iu;have fin:EP X c M Q w s:=⟨z,H,I,B,q⟩;by_cases L:0<=i
 ·have o:i.toNat=j:=by
   rw[Ue L h5] at f;exact Option.some.inj f
  exact item_listR pl.isList L (by lia) (by rw[o];simpa using J) fin hs
 ·have o:(i+(E.toArray.size:Int)).toNat=j:=by
   rw[Ud (by lia) O] at f;rw[Zk,<-Z];exact Option.some.inj f
  exact subscriptTail_builtinR (x:=w) pl.isList.typeIs slot_list_getitem.lookup
   (wpAny_getItem_list_neg (Q:=λr s'=>r=w/\EP X c M Q r s') pl.isList (by lia) (by rw[Zk] <;> lia) (by lia) (by rw[o];simpa using J) ⟨rfl,fin⟩) hs
def SG:IxR X (PM X.K):=by
 intro o f c s B H x y v u Q I U L h hs;obtain⟨p,xs,i,z,rfl,rfl,C,M,q⟩:=h;cases U;obtain⟨t,rfl⟩:=L;obtain⟨T,r,pl,hz⟩:=I.tuple C;obtain⟨j,J,Z,h3,h4,h5⟩:=qb M;obtain⟨w,E,g⟩:=r.get Z;have O:=r.length;have hn:=iu;have fin:EP X c B Q w s:=⟨z,H,I,g,q⟩
 exact subscriptTail_builtinR (x:=w) pl.typeIs slot_tuple_getitem.lookup
  (getItem_tuple (j:=j) (Q:=λr Y=>r=w/\EP X c B Q r Y) pl (by lia) (by lia) (by rw[Zk,<-O];exact J) (by simpa using E) ⟨rfl,fin⟩) hs
def KM:IxR X PN:=by
 intro g f p s σ H x y v u Q I T C h hs;obtain⟨z,i,c,rfl,rfl,Y,J,q⟩:=h;obtain⟨t,rfl⟩:=T;obtain⟨t',rfl⟩:=C;obtain⟨j,o,U,Z,B,O⟩:=qb J;have M:z.cps.toList.length=z.length:=by simp[Str.length]
 rw[M] at o B O;have hn:=iu
 exact tail_any (typeIs_str s z t) slot_str_getitem.lookup (getItem_str (c:=c) (by
  have L:decide (i < -(2 ^ 63:Int))=bx:=decide_eq_false (by lia);have E:decide (i ≥ 2 ^ 63)=bx:=decide_eq_false (by lia);rw[L,E,XH]) (by rw[o];simpa using U) ⟨.str ⟨#[c]⟩,H,I.tok _,⟨_,rfl⟩,q⟩) hs
abbrev rIx(K:Vh):R2:=λx y H Q=>PL K x y H Q\/PM K x y H Q\/PN x y H Q
def BB:IxR X (rIx X.K):=Fw.or (SG.or KM)
def uV(its:List Value)(n j:Nat)(u:Value):Obj.mapSeq (·.setIfInBounds j u) { cls:=.type "list", data:=.seq its.toArray n }={ cls:=.type "list", data:=.seq (its.set j u).toArray n }:=by
 simp[Obj.mapSeq]
def Inv.lst{c:List (Addr × Obj)}{f:St}{H:Hp}{s:Shared}{p:Addr}{xs:List V}(I:Inv X c f H s)(h:H p=aD (.lst xs)) :
  ∃ (its:List Value) (n:Nat),aK xs its/\s.heap.get? p=aD { cls:=.type "list", data:=.seq its.toArray n }/\xs.length<=sizeLine:=by
 obtain⟨z,its,n,r,e⟩:=I.hok p _ h;exact⟨its,n,r,e,z⟩
def Inv.lstUpd{c:List (Addr × Obj)}{o:St}{H:Hp}{s:Shared}{p:Addr}{xs ys:List V}{its its':List Value}{n g:Nat}{f:Obj->Obj}(I:Inv X c o H s)(h:H p=aD (.lst xs))
  (z:s.heap.get? p=aD { cls:=.type "list", data:=.seq its.toArray n }) (j:f { cls:=.type "list", data:=.seq its.toArray n }={ cls:=.type "list", data:=.seq its'.toArray g }) (r:aK ys its') (y:ys.length<=sizeLine) (t:Nat) :
  Inv X c o (upd H p (.lst ys)) { s with heap:=s.heap.update p f,toks:=t }:=by
 have e:(s.heap.update p f).get? p=aD { cls:=.type "list", data:=.seq its'.toArray g }:=by
  rw[Xr f z (by rw[j] <;> rfl),j]
 refine I.write (x:=p) (e:=p) (by rw[h];trivial) (.inl rfl) (λb u v q=>(Xl _ _ (Ne.symm v)).trans q) ⟨_,e⟩ ?_;exact⟨y,its',g,r,e⟩
abbrev PP:V->V->V->Hp->(Hp->Prop)->Prop:=λo i v H Q=>∃p xs k j,o = .ref p/\i = .int k/\H p=aD (.lst xs)/\ixN xs.length k=aD j/\Q (upd H p (.lst (xs.set j v)))
def BC:Kq X PP:=by
 intro c s Z H o i v ov iv u Q I ro Y O h;obtain⟨p,xs,k,j,rfl,rfl,M,U,q⟩:=h;cases ro;obtain⟨t,rfl⟩:=Y;obtain⟨f,n,r,y,T⟩:=I.lst M;obtain⟨g,h2,L,E⟩:=qa U;have z:=r.length;have hn:=iu
 have C:Inv X c Z (upd H p (.lst (xs.set j v))) { s with heap:=s.heap.update p (Obj.mapSeq (·.setIfInBounds j u)) }:=
  I.lstUpd M y (uV f n j u) (r.set O j) (by rw[YA];exact T) s.toks
 by_cases J:0<=k
 ·have B:k.toNat=j:=by
   rw[Ue J E] at g;exact Option.some.inj g
  exact PySem.W.ki_setAt y J (by lia) (by rw[Zk,<-z];exact E) (by rw[B];exact⟨_,C,q⟩)
 ·have B:(k+(f.toArray.size:Int)).toNat=j:=by
   rw[Ud (by lia) L] at g;rw[Zk,<-z];exact Option.some.inj g
  exact PySem.W.ki_setBack y (by lia) (by rw[Zk,<-z];exact L) (by lia) (by rw[B];exact⟨_,C,q⟩)
def qd(lo H:Option Int)(n:Nat):(Uh lo H aT n).1=((HT.sIx n 0 lo:Nat):Int)/\(Uh lo H aT n).2.1=((HT.sIx n n H:Nat):Int)/\(Uh lo H aT n).2.2=1:=by
 refine⟨?_,?_,rfl⟩
 ·cases lo with
  |none=>simp[Uh,HT.sIx]
  |some i=>
   simp only[Uh,HT.sIx,X0,show(1:Int) > 0 by decide,if_true];by_cases h:i < 0
   ·simp only[h,if_true] <;> lia
   ·simp only[h,if_false] <;> lia
 ·cases H with
  |none=>simp[Uh,HT.sIx]
  |some i=>
   simp only[Uh,HT.sIx,X0,show(1:Int) > 0 by decide,if_true];by_cases h:i < 0
   ·simp only[h,if_true] <;> lia
   ·simp only[h,if_false] <;> lia
def nW(its:List Value)(lo h:Option Int):slicePick its.toArray lo h aT=((its.drop (HT.sIx its.length 0 lo)).take (HT.sIx its.length its.length h - HT.sIx its.length 0 lo)).toArray:=by
 obtain⟨H,f,c⟩:=qd lo h its.toArray.size;unfold slicePick;rw[H,f,c];simp only[sliceRange_one,pick_run,Zk] <;> rfl
abbrev SH(K:Vh):V->Option Int->Option Int->Hp->VK->Prop:=λx lo h H Q=>∃a xs,x = .ref a/\SqL K H a xs/\∀p,H p=aT->Q (.ref p) (upd H p (.lst (lR xs lo h)))
def Fx:SlR X (SH X.K):=by
 intro p s J H x v E C lo f sl Q I y hs pl B h;obtain⟨a,xs,rfl,z,q⟩:=h;cases y;obtain⟨u,r,g,j⟩:=I.list z;have c:=r.length;refine⟨"list", _,slot_list_getitem.lookup,g.isList.typeIs,?_⟩;refine UF g.isList hs pl B .none (by simp) ?_ (by rw[Zk] <;> lia);rw[nW,<-c];refine⟨.ref s.heap.objs.size,_,I.laid (t':=s.toks) (o:=.lst (lR xs lo f)) (λb ob q=>Zj _ q) (Zc _) ?_,rfl,q _ (I.hok.fresh (Zc _))⟩;exact⟨Zz (kr xs lo f) j,_,0,(r.drop (HT.sIx xs.length 0 lo)).take (HT.sIx xs.length xs.length f - HT.sIx xs.length 0 lo),ZI _ rfl⟩
abbrev bT:V->Bool
 |.non=>br
 |.bl _=>br
 |.int _=>br
 |.str _=>br
 |_=>bx
abbrev eqV:V->V->Bool
 |.non,.non=>br
 |.bl a,.bl b=>a == b
 |.bl a,.int b=>(if a then 1 else 0) == b
 |.int a,.bl b=>a == (if b then 1 else 0)
 |.int a,.int b=>a == b
 |.str a,.str b=>a == b
 |_,_=>bx
def KN(f:aG y u)(c:aG x v)(h:bT y=br)(g:bT x=br):Ve A s u v (eqV y x):=by
 cases y with
 |non=>
  cases f;cases x with
  |non=>cases c;exact SeqAt.EqAt.same _
  |bl b=>cases c;exact SeqAt.EqAt.none_bool b
  |int b=>obtain⟨t,rfl⟩:=c;exact SeqAt.EqAt.none_int b t
  |str b=>obtain⟨t,rfl⟩:=c;exact SeqAt.EqAt.none_str b t
  |_=>exact absurd (show bx=br from g) Zg
 |bl a=>
  cases f;cases x with
  |non=>cases c;exact SeqAt.EqAt.bool_none a
  |bl b=>cases c;exact SeqAt.EqAt.bool_bool a b
  |int b=>obtain⟨t,rfl⟩:=c;exact SeqAt.EqAt.bool_int a b t
  |str b=>obtain⟨t,rfl⟩:=c;exact SeqAt.EqAt.bool_str a b t
  |_=>exact absurd (show bx=br from g) Zg
 |int a=>
  obtain⟨T,rfl⟩:=f;cases x with
  |non=>cases c;exact SeqAt.EqAt.int_none a T
  |bl b=>cases c;exact SeqAt.EqAt.int_bool a T b
  |int b=>obtain⟨t,rfl⟩:=c;exact SeqAt.EqAt.int_int a T b t
  |str b=>obtain⟨t,rfl⟩:=c;exact SeqAt.EqAt.int_str a T b t
  |_=>exact absurd (show bx=br from g) Zg
 |str a=>
  obtain⟨T,rfl⟩:=f;cases x with
  |non=>cases c;exact SeqAt.EqAt.str_none a T
  |bl b=>cases c;exact SeqAt.EqAt.str_bool a T b
  |int b=>obtain⟨t,rfl⟩:=c;exact SeqAt.EqAt.str_int a T b t
  |str b=>obtain⟨t,rfl⟩:=c;exact SeqAt.EqAt.str_str a T b t
  |_=>exact absurd (show bx=br from g) Zg
 |_=>exact absurd (show bx=br from h) Zg
abbrev eqU(x:V)(u:Value):Bool:=match u with
 |.none=>eqV .non x
 |.bool b=>eqV (.bl b) x
 |.int i _=>eqV (.int i) x
 |.str z _=>eqV (.str z) x
 |_=>bx
def qe(r:aG y u)(f:bT y=br):eqU x u=eqV y x:=by
 cases y with
 |non=>cases r;rfl
 |bl b=>cases r;rfl
 |int i=>obtain⟨t,rfl⟩:=r;rfl
 |str z=>obtain⟨t,rfl⟩:=r;rfl
 |_=>exact absurd (show bx=br from f) Zg
def i7:∀ {xs:List V} {U:List Value},aK xs U->xs.all bT=br->U.any (eqU x)=xs.any λy=>eqV y x
 |_,_,.nil,_=>rfl
 |y::xs,u::U,.cons r t,f=>by
  rw[ZZ,bAE] at f;rw[Yu,Yu,qe r f.1,i7 t f.2]
def cE(c:aG x v)(g:bT x=br):∀ {xs:List V} {U:List Value},aK xs U->xs.all bT=br->∀u ∈ U,Ve A s u v (eqU x u)
 |_,_,.nil,_=>λu hu=>by cases hu
 |y::xs,u::U,.cons r t,f=>λh hu=>by
  rw[ZZ,bAE] at f;rcases Zm.mp hu with rfl |hu
  ·rw[qe r f.1];exact KN r c f.1 g
  ·exact cE c g t f.2 h hu
abbrev inV(x:V)(xs:List V):Bool:=xs.any λy=>eqV y x
abbrev rIn(K:Vh)(neg:Bool):R2:=λx y H Q=>∃p xs,y = .ref p/\(SqL K H p xs\/SqT K H p xs)/\bT x=br/\xs.all bT=br/\Q (.bl (if neg then !inV x xs else inV x xs)) H
def zx:OpR X (VU .In) (rIn X.K bx):=by
 intro j s C H x y v u Q I g B h;obtain⟨p,xs,rfl,hq,o,fs,q⟩:=h;cases B;rcases hq with hq |hq
 ·obtain⟨c,r,pl,z⟩:=I.list hq;refine SeqAt.in_listAt (eqU x) pl.isList (λw f=>cE g o r fs w (by simpa using f)) ⟨.bl _,H,I,rfl,?_⟩;rw[show c.toArray.any (eqU x)=c.any (eqU x) by simp,i7 r fs];exact q
 ·obtain⟨c,r,pl,z⟩:=I.tuple hq;refine SeqAt.in_tupleAt (eqU x) pl (λw f=>cE g o r fs w (by simpa using f)) ⟨.bl _,H,I,rfl,?_⟩;rw[show c.toArray.any (eqU x)=c.any (eqU x) by simp,i7 r fs];exact q
def qf:OpR X (VU .NotIn) (rIn X.K br):=by
 intro j s C H x y v u Q I g B h;obtain⟨p,xs,rfl,hq,o,fs,q⟩:=h;cases B;rcases hq with hq |hq
 ·obtain⟨c,r,pl,z⟩:=I.list hq;refine SeqAt.notIn_listAt (eqU x) pl.isList (λw f=>cE g o r fs w (by simpa using f)) ⟨.bl _,H,I,rfl,?_⟩;rw[show c.toArray.any (eqU x)=c.any (eqU x) by simp,i7 r fs];exact q
 ·obtain⟨c,r,pl,z⟩:=I.tuple hq;refine SeqAt.notIn_tupleAt (eqU x) pl (λw f=>cE g o r fs w (by simpa using f)) ⟨.bl _,H,I,rfl,?_⟩;rw[show c.toArray.any (eqU x)=c.any (eqU x) by simp,i7 r fs];exact q
def qg:aZ X (.builtin "len") (λxs H Q=>∃p ys,xs=[.ref p]/\(SqL X.K H p ys\/SqT X.K H p ys)/\Q (.int ys.length) H):=by
 intro j s z H xs U Q I r h;obtain⟨p,ys,rfl,hq,q⟩:=h;obtain⟨u,rfl,v⟩:=cQ r;cases v;have y:=iu;rcases hq with hq |hq
 ·obtain⟨f,g,pl,o⟩:=I.list hq;have c:=g.length;exact WE pl.isList (by simp only[Zk] <;> lia) ⟨.int ys.length,H,I.tok _,⟨s.toks+1,by rw[Zk,c]⟩,q⟩
 ·obtain⟨f,g,pl,o⟩:=I.tuple hq;have c:=g.length;exact len_tuple pl (by simp only[Zk] <;> lia) ⟨.int ys.length,H,I.tok _,⟨s.toks+1,by rw[Zk,c]⟩,q⟩
def qh:aZ X (.type "list") (λxs H Q=>∃p ys,xs=[.ref p]/\(SqL X.K H p ys\/SqT X.K H p ys)/\∀l,H l=aT->Q (.ref l) (upd H l (.lst ys))):=by
 intro y s J H xs U Q I r h;obtain⟨p,ys,rfl,hq,q⟩:=h;obtain⟨u,rfl,E⟩:=cQ r;cases E
 have fin:∀ (c:List Value),aK ys c->ys.length<=sizeLine->∀ (f:Heap) (C:Nat),(∀b O,s.heap.get? b=aD O->f.get? b=aD O) ->
   f.get? s.heap.objs.size=aD { cls:=.type "list", dict:=aT,data:=.seq c.toArray C,slots:=#[] }->EP X y J Q (.ref s.heap.objs.size) { s with heap:=f }:=λc g v f C kp e=>
  ⟨.ref s.heap.objs.size,_,I.laid (t':=s.toks) kp (Zc _) (show bz X.prog X.w _ f _ (.lst ys) from ⟨v,c,C,g,e⟩),rfl,q _ (I.hok.fresh (Zc _))⟩
 rcases hq with hq |hq
 ·obtain⟨c,g,pl,v⟩:=I.list hq;have j:=g.length;obtain⟨o,z,B,n,hd⟩:=pl.isList;exact call_list_seq p (.inl rfl) z B hd (λf C kp e=>fin c g v f C kp e) (by simp only[Zk] <;> lia)
 ·obtain⟨c,g,pl,v⟩:=I.tuple hq;have j:=g.length;obtain⟨o,z,B,n,hd⟩:=pl;exact call_list_seq p (.inr rfl) z B hd (λf C kp e=>fin c g v f C kp e) (by simp only[Zk] <;> lia)
def nX:aZ X (.type "tuple") (λxs H Q=>∃p ys,xs=[.ref p]/\((SqL X.K H p ys/\∀l,H l=aT->Q (.ref l) (upd H l (.tup ys)))\/(SqT X.K H p ys/\Q (.ref p) H))):=by
 intro c s C H xs U Q I r h;obtain⟨p,ys,rfl,h⟩:=h;obtain⟨u,rfl,J⟩:=cQ r;cases J;rcases h with ⟨j,q⟩ |⟨j,q⟩
 ·obtain⟨f,v,pl,z⟩:=I.list j;have y:=v.length;refine call_tuple_list pl.isList (λg kp=>?_) (by simp only[Zk] <;> lia);have B:Inv X c C H { s with heap:=g }:=I.kept (t':=s.toks) kp
  have E:Inv X c C (upd H g.objs.size (.tup ys)) { s with heap:=g.push { cls:=.type "tuple", data:=.seq f.toArray } }:=
   B.laid (t':=s.toks) (λb o e=>Zj _ e) (Zc _) (show bz X.prog X.w _ _ _ (.tup ys) from ⟨z,f,v,pV.new _ _⟩)
  exact⟨.ref g.objs.size,_,E,rfl,q _ (B.hok.fresh (Zc _))⟩
 ·obtain⟨f,v,pl,z⟩:=I.tuple j;exact call_tuple_same pl ⟨.ref p,H,I,rfl,q⟩
abbrev tyV(K:Vh)(T:String)(x:V)(H:Hp):Prop:=match x with
 |.str _=>T = "str"
 |.int _=>T = "int"
 |.ref p=>(T = "list"/\∃xs,SqL K H p xs)\/(T = "tuple"/\((∃o,K.lookup p=aD o/\o.cls = .type "tuple"/\o.dict=aT)\/∃xs,H p=aD (.tup xs))) ∨
   (T = "dict"/\((∃c,H p=aD (.dK c))\/∃c,H p=aD (.dT c)))\/(T = "set"/\∃S n,H p=aD (.set S n))
 |_=>False
def KO(I:Inv X q y H s)(r:aG x v)(ty:tyV X.K T x H) :
  s.TypeIs v T/\∀a,v = .ref a->∃ob,s.heap.get? a=aD ob/\ob.dict=aT:=by
 cases x with
 |str z=>
  obtain⟨t,rfl⟩:=r;cases (show T = "str" from ty);exact⟨typeIs_str s z t,λ_ e=>nomatch e⟩
 |int i=>
  obtain⟨t,rfl⟩:=r;cases (show T = "int" from ty);exact⟨typeIs_int s i t,λ_ e=>nomatch e⟩
 |ref p=>
  cases r;rcases ty with ⟨rfl,xs,u⟩ |⟨rfl,⟨o,h,f,hd⟩ |⟨xs,h⟩⟩ |⟨rfl,h⟩ |⟨rfl,S,n,h⟩
  ·obtain⟨g,_,pl,_⟩:=I.list u;refine⟨pl.isList.typeIs,λa e=>?_⟩;cases e;obtain⟨o,n,e,c,hd,_⟩:=pl;exact⟨o,e,hd⟩
  ·refine⟨⟨o,I.kIn p o h,f⟩,λa e=>?_⟩;cases e;exact⟨o,I.kIn _ o h,hd⟩
  ·obtain⟨_,g,_,o,e,f,_,_,hd⟩:=I.hok p _ h;refine⟨⟨o,e,f⟩,λa E=>?_⟩;cases E;exact⟨o,e,hd⟩
  ·have z:∃o,s.heap.get? p=aD o/\o.ExactDict:=by
    rcases h with ⟨j,h⟩ |⟨j,h⟩
    ·obtain⟨_,_,_,_,o,_,_,e,ex,_⟩:=I.hok p _ h;exact⟨o,e,ex⟩
    ·obtain⟨_,_,_,_,o,_,_,e,ex,_⟩:=I.hok p _ h;exact⟨o,e,ex⟩
   obtain⟨o,e,ex⟩:=z;refine⟨⟨o,e,ex.1⟩,λa E=>?_⟩;cases E;exact⟨o,e,ex.2.1⟩
  ·obtain⟨o,_,_,_,e,ex,_⟩:=I.hok p _ h;refine⟨⟨o,e,ex.1⟩,λa E=>?_⟩;cases E;exact⟨o,e,ex.2.1⟩
 |_=>exact False.elim ty
abbrev tBM(K:Vh)(T:String)(r:V->List V->Hp->VK->Prop)(g:TE)(t:TA):TE:=λc H Q=>g c H λx h=>tyV K T x h/\t c h λxs f=>r x xs f Q
variable {o e:Expr} {es:List Expr} {to:TE} {t:TA} {name:Str} {apos cpos:Pos} {T id:String} {r:V->List V->Hp->VK->Prop}
def lU(Z:PlainAttrs T)(slot:Slot T name id)(q:typeOf (.builtin id)=pure (.type "method_descriptor"))(C:MtR X id r)(B:PE X o to)(ha:PA X (e::es) t)
  (g:attributeBase o name X.env (eval o X.env)=eval o X.env:=by rfl)
  (j:((backTo cpos (Ui (e::es) X.env)).all (λx=>!x.1) && (backToKw cpos (keywordEach [] X.env)).all (λx=>x.1.isSome)
   && decide ((e::es).length+([]:List Keyword).length+(if ([]:List Keyword).isEmpty then 0 else 1) < 30))=br:=by rfl)
  (f:(apos.endLine == cpos.line)=br:=by rfl) (hs:Ui (e::es) X.env=(bx,eval e X.env)::Ui es X.env:=by rfl) (c:(backTo cpos (Ui es X.env)).any (·.1)=bx:=by rfl) :
  PE X (.Call (.Attribute o name apos) (e::es) [] cpos) (tBM X.K T r to t):=by
 intro p s u H Q I h;refine wpAny_Call_method_late g j f rfl (thn (B p s u H _ I h) λv J ⟨x,M,y,r1,ty,O⟩=>?_);obtain⟨Y,h2⟩:=KO y r1 ty;refine⟨T,id,Z,slot,q,Y,h2,?_⟩;have z:=ha cpos p J u M _ y O;rw[hs] at z ⊢;refine Calls.callWith_builtin (by show(bx || (backTo cpos (Ui es X.env)).any (·.1))=bx;rw[c] <;> rfl) (WF ?_);exact thn z λU s2 ⟨vs,E,L,r2,q2⟩=>C p s2 u E x vs v U Q L r1 r2 q2
end
abbrev MtM(X:Cx)(id:String)(r:V->List V->Hp->VK->Prop):Prop:=
 ∀ (p:List (Addr × Obj)) (s:Shared) (b:St) (H:Hp) (x:V) (xs:List V) (v:Value) (u:List Value) (Q:VK),Inv X p b H s->aG x v->aK xs u->r x xs H Q ->
  wpAny (model X.prog X.w) X.A (call (.builtin id) (v::u)) (EP X p b Q) X.xe s
def aK.one:∀ {x:V} {U:List Value},aK [x] U->∃u,U=[u]/\aG x u
 |_,_,.cons r .nil=>⟨_,rfl,r⟩
def aK.eraseIdx:∀ {xs:List V} {u:List Value} (i:Nat),aK xs u->aK (xs.eraseIdx i) (u.eraseIdx i)
 |_,_,_,.nil=>.nil
 |_,_,0,.cons _ t=>t
 |_,_,i+1,.cons r t=>.cons r (aK.eraseIdx i t)
def aK.rep(h:aK xs u):∀k:Nat,aK (Zp k xs).flatten (Zp k u).flatten
 |0=>.nil
 |k+1=>by
  rw[Yk,Yk,Yt,Yt];exact aK.append h (aK.rep h k)
def oC{b:Type}:∀ (l:List b) (i:Nat),(l.eraseIdx i).length<=l.length
 |[],_=>Zc _
 |_::_,0=>Yw _
 |_::r,i+1=>X1 (oC r i)
def oD(its:List Value):∀ (k:Nat) (b:List Value),
  Wf (λc X=>c++X) b.toArray (Zp k its.toArray)=(b++(Zp k its).flatten).toArray
 |0,b=>by simp
 |k+1,b=>by
  have e:b.toArray++its.toArray=(b++its).toArray:=by simp
  have E:(b++its)++(Zp k its).flatten=b++(Zp (k+1) its).flatten:=by
   rw[Yk,Yt,ZX]
  rw[<-E,<-oD its k (b++its),<-e,Yk,YO]
section
variable {X:Cx} {pins:List (Addr × Obj)} {σ:St} {H:Hp} {s:Shared} {l b:Addr} {xs ys zs:List V}
def Inv.lset{its its':List Value}{n:Nat}{f:Array Value->Array Value}{t':Nat}(I:Inv X pins σ H s)(o:H l=aD (.lst xs))
  (e:s.heap.get? l=aD { cls:=.type "list", data:=.seq its.toArray n }) (j:f its.toArray=its'.toArray) (g:aK ys its') (c:ys.length<=sizeLine) :
  Inv X pins σ (upd H l (.lst ys)) { s with heap:=s.heap.update l (Obj.mapSeq f),toks:=t' }:=by
 have q:=PySem.IsL.update e f;rw[j] at q;refine I.write (x:=l) (e:=l) (by rw[o];exact trivial) (.inl rfl) (λB u h p=>(Xl s.heap (Obj.mapSeq f) (Ne.symm h)).trans p) ⟨_,q⟩ ?_;exact⟨c,its',_,g,q⟩
def Inv.lnew{t':Nat}(I:Inv X pins σ H s)(c:aK ys its)(h:ys.length<=sizeLine) :
  Inv X pins σ (upd H s.heap.objs.size (.lst ys)) { s with heap:=s.heap.push { cls:=.type "list", data:=.seq its.toArray },toks:=t' }:=
 I.laid (λ_ _ q=>Zj _ q) (Zc _) ⟨h,its,0,c,ZI _ rfl⟩
def Inv.fresh(I:Inv X pins σ H s):H s.heap.objs.size=aT:=I.hok.fresh (Zc _)
def Inv.lstM(I:Inv X pins σ H s)(h:H l=aD (.lst xs)):xs.length<=sizeLine/\∃ (its:List Value) (n:Nat),aK xs its/\xs.length=its.length/\s.heap.get? l=aD { cls:=.type "list", data:=.seq its.toArray n }:=by
 obtain⟨z,its,n,r,e⟩:=I.hok l _ h;exact⟨z,its,n,r,r.length,e⟩
def r9{n:Nat}(h:n<=sizeLine):Builtin.List.listTooLong n=bx:=by
 unfold Builtin.List.listTooLong;exact decide_eq_false (by lia)
end
section
variable {X:Cx}
abbrev Fy:V->List V->Hp->VK->Prop:=λx v H Q=>∃l xs y,x = .ref l/\v=[y]/\H l=aD (.lst xs)/\xs.length < sizeLine/\Q .non (upd H l (.lst (xs++[y])))
def oE:MtM X "list.append" Fy:=by
 intro p s E H x B v U Q I j f h;obtain⟨l,xs,y,rfl,rfl,c,o,q⟩:=h;cases j;obtain⟨u,rfl,g⟩:=f.one;obtain⟨z,b,n,r,C,e⟩:=I.lstM c;refine VO WO ⟨_,e,rfl⟩ F.entry_list_append (F.args_list_append_2 _ _) (PySem.list_append l b.toArray n u (by rw[Zk];lia)) ⟨e,?_⟩;refine⟨.non,_,I.lset (its':=b++[u]) c e (by simp) (r.append (.cons g .nil)) ?_,rfl,q⟩;rw[Zi,ZJ]
 lia
abbrev KP:V->List V->Hp->VK->Prop:=λx v H Q=>∃l xs i k y,x = .ref l/\v=[.int i]/\H l=aD (.lst xs)/\-(2 ^ 63)<=i/\i < 2 ^ 63/\seqIndex? i xs.length=aD k/\xs[k]?=aD y/\Q y (upd H l (.lst (xs.eraseIdx k)))
def BD:MtM X "list.pop" KP:=by
 intro p s T H x O v U Q I J g h;obtain⟨l,xs,i,k,y,rfl,rfl,f,C,L,M,j,q⟩:=h;cases J;obtain⟨u,rfl,o⟩:=g.one;obtain⟨t,rfl⟩:=o;obtain⟨z,b,n,r,E,e⟩:=I.lstM f;obtain⟨w,B,c⟩:=r.get j
 refine VO WT ⟨_,e,rfl⟩ F.entry_list_pop (F.args_list_pop_2 _ _)
  (MeetsSeq.list_pop_at l b.toArray n i t k w (fitsIndex_both C L) (by rw[Zk,<-E];exact M) (by rw[<-YE];exact B) (by rw[Zk];lia)) ⟨e,?_⟩
 refine⟨y,_,I.lset (its':=b.eraseIdx k) f e ?_ (r.eraseIdx k) ?_,c,q⟩
 ·show b.toArray.eraseIdxIfInBounds k=(b.eraseIdx k).toArray;rw[List.eraseIdxIfInBounds_toArray]
 ·have:=oC xs k
  lia
abbrev SI:R2:=λx y H Q=>∃l b xs z,x = .ref l/\y = .ref b/\H l=aD (.lst xs)/\H b=aD (.lst z)/\xs.length+z.length<=sizeLine/\∀p,H p=aT->Q (.ref p) (upd H p (.lst (xs++z)))
def uW:OpR X (VI .Add) SI:=by
 intro p s U H x y v u Q I B o h;obtain⟨l,b,xs,Z,rfl,rfl,g,C,L,q⟩:=h;cases B;cases o;obtain⟨z,f,n,r,T,e⟩:=I.lstM g;obtain⟨M,c,O,r2,j,E⟩:=I.lstM C;refine PySem.P.add_list e E ?_ (by rw[Zk,Zk];lia);have J:f.toArray++c.toArray=(f++c).toArray:=by simp
 rw[J];exact⟨.ref _,_,I.lnew (t':=s.toks) (r.append r2) (by rw[Zi];lia),rfl,q _ I.fresh⟩
abbrev SJ:R2:=λx y H Q=>∃l k xs,x = .ref l/\y = .int k/\H l=aD (.lst xs)/\-(2 ^ 63)<=k/\k < 2 ^ 63/\xs.length * k.toNat<=sizeLine ∧
 ∀p,H p=aT->Q (.ref p) (upd H p (.lst (Zp k.toNat xs).flatten))
def Fz{b:Type}(xs:List b)(k:Nat):(Zp k xs).flatten.length=k * xs.length:=by
 induction k with
 |zero=>simp
 |succ k I=>rw[Yk,Yt,Zi,I,XU,Nat.add_comm]
def KQ:OpR X (VI .Mult) SJ:=by
 intro E s σ H x y v u Q I Z M h;obtain⟨l,k,xs,rfl,rfl,J,L,h2,C,q⟩:=h;cases Z;obtain⟨t,rfl⟩:=M;obtain⟨z,b,n,r,Y,e⟩:=I.lstM J;have g:b.toArray.size * k.toNat<=sizeLine:=by rw[Zk,<-Y];exact C
 have f:¬ b.toArray.size * k.toNat > (2 ^ 63 - 1) / 8:=by
  have:(sizeLine:Nat)<=(2 ^ 63 - 1) / 8:=by decide
  lia
 have j:¬ (!Builtin.List.listFitsIndex k)=br:=by
  rw[fitsIndex_both L h2];exact Zg
 have c:¬ Builtin.List.listTooLong (b.toArray.size * k.toNat)=br:=by
  rw[r9 g];exact Zg
 have o:Wf (λp B=>p++B) #[] (Zp (if b.toArray.isEmpty=br then 0 else k.toNat) b.toArray)=(Zp k.toNat b).flatten.toArray:=by
  have O:∀m:Nat,Wf (λp B=>p++B) #[] (Zp m b.toArray)=(Zp m b).flatten.toArray:=λm=>by
   have:=oD b m [];rw[Y0] at this;exact this
  rw[O];cases b with
  |nil=>simp
  |cons a r'=>rw[if_neg (by simp)]
 refine wpAny_binaryOp_repeat_ref (T := "list") (U := "int") (by decide) ⟨_,e,rfl⟩ (λs'=>typeIs_int s' k t) noFill_list_mul F.fills_int_mul F.slot_int_rmul repeat_list F.slot_int_index.lookup
  (VO F.slot_int_rmul (typeIs_int s k t) F.entry_int_rmul (F.args_int_rmul_2 _ _) (int___rmul___int_list k t l b.toArray n)
   ⟨e,rfl,⟨_,e,rfl⟩,VO F.slot_list_mul ⟨_,e,rfl⟩ F.entry_list_mul (F.args_list_mul_2 _ _) (AutoListH.list___mul___list_int_3 l b.toArray n k t j f c) ⟨e,?_⟩⟩)
 rw[o];exact⟨.ref _,_,I.lnew (t':=s.toks) (r.rep k.toNat) (by rw[Fz,Nat.mul_comm];exact C),rfl,q _ I.fresh⟩
end
end L2
namespace Att
open PySem PySem.W PySem.Calls PyProof.Rows
def kQ:∀ (ns:List Int) (v:List Value),WellAll P h v (ns.map WData.int)->IntsAre v ns:=by
 intro ns
 induction ns with
 |nil=>
  intro v w;rw[ZV] at w;cases w;exact .nil
 |cons n ns I=>
  intro v w;rw[Zs] at w;cases w with
  |cons a b=>
   cases a;exact .cons _ _ (I _ b)
def zy{l:OpenLaw}{n:Nat}(C:l.most=aD n){P:Params}{h:Heap}{args:List WData}{v:List Value}
  (H:l.row.toRowW.claim.pre args=br) (j:WellAll P h v args) :
  ∃a u ns,v=[Value.ref a]/\args=[WData.list (ns.map WData.int)]/\h.get? a=aD { cls:=.type "list", data:=.seq u.toArray }/\IntsAre u ns/\ns.length<=n:=by
 have o:WShape.hasAll [] args [.list .int]=br:=(pre_splitW H).1;have p:l.pre.holds [] { args:=args }=br:=(pre_splitW H).2;obtain⟨d,r,rfl,E,I⟩:=hasAllW_cons o;obtain rfl:=hasAllW_nil I;obtain⟨xs,rfl,B⟩:=hasW_list E;obtain⟨ns,rfl⟩:=items_int B
 have b:ns.length<=n:=by
  unfold OpenLaw.pre at p
  have f:(WTm.not (.lt (.lit (.int (n:Int))) (.len (.arg 0)))).holds [] { args:=[.list (ns.map .int)] }=br:=by
   have f:=(holds_andW p).1;rw[C] at f;exact f
  have g:=condW_of f (w_not (w_lt w_lit (w_len_list (w_arg rfl))));rw[Za] at g;refine Nat.le_of_not_lt λq=>?_;have Q:(n:Int) < ((ns.length:Nat):Int):=by lia
  first
   |(rw[decide_eq_true Q] at g;exact absurd g (by decide))
   |(simp at g;lia)
 cases j with
 |cons y w2=>
  cases w2;cases y with
  |list z c=>exact⟨_,_,ns,rfl,rfl,z,kQ ns _ c,b⟩
def zz(l:OpenLaw)(args:List WData):l.row.toRowW.claim.post args (.bool br) args=br:=
 postW_of (r:=l.row.toRowW) (X:=(br == br))
  (show WShape.has [] (.bool br) .bool=br by first |rfl |decide |simp[WShape.has,WShape.arms,WShape.armsAll])
  (show(WTm.eq .res (.lit (.bool br))).value [] { args:=args,res:=aD (.bool br),after:=args }=aD (.bool (br == br)) from w_eq_bool (w_res rfl) w_lit) rfl
def attach_call{l:OpenLaw}{n:Nat}{q:Program}{loose:List Str}{X:(Str->Option Value)->Heap->Prop}{J:World->Heap->Prop}{d:DefRec}
  (hn:l.most=aD n) (z:d.params.defaults=[])
  (call:∀ (w:World) (s₀ b:Shared) (mg M:Str->Option Value) (p:Addr) (o:Obj) (E C c:Value) (a:Addr) (v:List Value) (ns:List Int),
   Ground q loose [] X w s₀ mg M b.heap->J w b.heap ->
   b.heap.get? p=aD o->o.data = .func (docDef d.name d.params d.body d.scope E C c)->b.heap.CodeRec C d.name->mg d.name=aD (.ref p) ->
   b.heap.get? a=aD { cls:=.type "list", data:=.seq v.toArray }->IntsAre v ns->ns.length<=n->b.gens=#[] ->
   codeAny (model l.prog w) callerA (.call (.ref p) ⟨[.ref a],[]⟩) (λr u=>r = .ok (.ret (.bool br))/\OldK b.heap u.heap/\u.os=b.os/\AllBare u.gens) b) :
  WalkO q loose X J l.row.toRowW d [] (λf v=>PySem.call f v):=by
 intro w s₀ b mg M G Y p o E C c dV kV U hd y O I hg L Q as j T hrd B hlo;obtain rfl:dV = .none:=Dflts.none O z;obtain rfl:kV = .none:=Dflts.noKw O;obtain⟨a,v,ns,rfl,rfl,g,h,H⟩:=zy hn j B;refine enter_call (VT (call w s₀ b mg M p o E C c a v ns G Y U (fd_plain hd) y I g h H hg) λr u hq=>?_);obtain⟨rfl,h2,h3,h4⟩:=hq;exact⟨.inl ⟨.bool br,.bool br,[],rfl,λ_=>rfl,.bool br,zz l _,λ_=>⟨List.Pairwise.nil,λ_ Z=>(nomatch Z)⟩⟩,h2,h3,h4⟩
end Att
namespace L2
open PySem PySem.Spec PyProof.Rows
def jL:∀ {v:List Value} {ns:List Int},IntsAre v ns->aK (ns.map V.int) v
 |_,_,.nil=>.nil
 |_,_,.cons n t h=>.cons ⟨t,rfl⟩ (jL h)
abbrev PQ(H:Hp):Prop:=∀b,H b=aT\/∃o xs,H b=aD (.frz o (.lst xs))
def BE{P:Program}{w:World}{K:Vh}{mg Y:Str->Option Value}{CX:CXT}{k:Nat}{fa a:Addr}{fd:WZ}{x:Str}{sp:Sp}{s₁:Shared}{j:List Value}{ns:List Int}
  (KX:K.In s₁.heap) (y:s₁.heap.Ns V6 mg) (c:s₁.heap.Ns VN Y) (hbb:∀x:Str,x ≠ "__name__"->Y x=VL x) (I:s₁.heap.NoLimit) (hg:s₁.gens=#[])
  (O:s₁.heap.get? a=aD { cls:=.type "list", data:=.seq j.toArray }) (hi:IntsAre j ns) (hl:ns.length<=sizeLine) (hr:Room k callerA)
  (F:∀base:Heap,K.In base->base.Ns V6 mg->FnOk P w K mg base CX k fa fd [x] sp) (p:∀ (s:Shared) (u:Value),BindsTo s fd ⟨[u],[]⟩ [(x,u)])
  (Q:∀H:Hp,PQ H->SqL K H a (ns.map V.int)->sp [.ref a] H (λv _=>v = .bl br) λ_ _ _=>False)
  (X:∀H e f,CX [] H s₁ (λ_ _ _=>False) e f->False) :
  codeAny (model P w) callerA (.call (.ref fa) ⟨[.ref a],[]⟩) (λr f=>r = .ok (.ret (.bool br))/\OldK s₁.heap f.heap/\f.os=s₁.os/\AllBare f.gens) s₁:=by
 have rv:=jL hi;have L:=hi.length
 have C:∀H:Hp,PQ H->SqL K H a (ns.map V.int)->HOk P w H s₁.heap->(∀b,H b ≠ aT->b=a)->(H a ≠ aT->K.lookup a=aT) ->
   codeAny (model P w) callerA (.call (.ref fa) ⟨[.ref a],[]⟩) (λr f=>r = .ok (.ret (.bool br))/\OldK s₁.heap f.heap/\f.os=s₁.os/\AllBare f.gens) s₁:=by
  intro H hO hS hok hA hK;have B:∀ {b:Addr} {o:Obj},s₁.heap.get? b=aD o->H b=aT->(pW s₁.heap H).get? b=aD o:=λe n=>Bb e n
  have T:∀ {b:Addr} {o:Obj} {J:Array WH} {ep:Nat},s₁.heap.get? b=aD o->o.data = .dict J ep->H b=aT:=λ{b o J ep} e d=>by
   cases q:H b with
   |none=>rfl
   |some u=>
    have U:b=a:=hA b (by rw[q];simp);subst U;rw[O] at e;cases e;have d':Data.seq j.toArray _=Data.dict J ep:=d;cases d'
  have g:∀ {b:Addr} {m:Str->Option Value},s₁.heap.Ns b m->(pW s₁.heap H).Ns b m:=λ{b m} ⟨o,J,ep,e,d,r⟩=>⟨o,J,ep,B e (T e d),d,r⟩
  have E:K.In (pW s₁.heap H):=λb o e=>B (KX b o e) (by
   cases q:H b with
   |none=>rfl
   |some u=>
    have U:b=a:=hA b (by rw[q];simp);subst U;rw[hK (by rw[q];simp)] at e;cases e)
  have hM:Mod K mg (pW s₁.heap H):=⟨E,g y,⟨Y,g c,hbb⟩,let ⟨mc,h1,h2⟩:=I;⟨mc,g h1,h2⟩⟩;have e0:Env0 P w K mg (pW s₁.heap H) callerA [] s₁ H:=⟨rfl,hM,λb o e=>Fe e,Nat.le_of_eq (zl _ _),trivial,λb c=>absurd (show b ∈ ([]:List Addr) from c) (by simp),hok,.of_eq hg⟩;refine VT ((F _ E (g y)).run callerA [] s₁ H ⟨[.ref a],[]⟩ [.ref a] [.ref a] _ _ hr e0 (p s₁ (.ref a)) (.cons rfl .nil) (Q H hO hS)) λr f h=>?_;cases r with
  |error e=>exact(X H e f h).elim
  |ok fl=>
   cases fl with
   |next=>exact False.elim h
   |brk=>exact False.elim h
   |cont=>exact False.elim h
   |ret u=>
    obtain⟨v,H',os,bare,un,M,r',q⟩:=h;have q':v = .bl br:=q;subst q';obtain rfl:u=Value.bool br:=r';refine⟨rfl,OldK.of_keep λb o e=>?_,os,bare⟩;cases q:H b with
    |none=>exact un.keep b o e q (by intro z;exact absurd (show b ∈ ([]:List Addr) from z) (by simp)) (by simp)
    |some u=>
     rcases hO b with z |⟨ob,xs,z⟩
     ·rw[q] at z;cases z
     ·have z2:=un.frzs b ob _ z;obtain⟨e1,_⟩:=hok b _ z;obtain⟨e2,_⟩:=M b _ z2;rw[e] at e1;cases e1;exact e2
 cases hk:K.lookup a with
 |some o=>
  have e:=KX a o hk;rw[O] at e;cases e;refine C (λ_=>aT) (λ_=>.inl rfl) (.inr ⟨_,j.toArray,_,hk,rfl,rfl,rfl,by rw[Zk,L];exact hl,by simpa using rv⟩) (λb u z=>by have Z:(aT:Option HO)=aD u:=z;cases Z) (λb z=>absurd rfl z) λz=>absurd rfl z
 |none=>
  refine C (λb=>if b=a then aD (.frz { cls:=.type "list", data:=.seq j.toArray } (.lst (ns.map V.int))) else aT) (λb=>?_) (.inl (.inr ⟨{ cls:=.type "list", data:=.seq j.toArray },if_pos rfl⟩)) (λb u z=>?_) (λb z=>?_) λ_=>hk
  ·by_cases c:b=a
   ·exact .inr ⟨_,_,if_pos c⟩
   ·exact .inl (if_neg c)
  ·by_cases c:b=a
   ·have Z:=(if_pos c).symm.trans z;cases Z;subst c;exact⟨O,by rw[Za];exact hl,j,_,rv,O⟩
   ·have Z:=(if_neg c).symm.trans z;cases Z
  ·by_cases c:b=a
   ·exact c
   ·exact absurd (if_neg c) z
@[inline]abbrev CX0:CXT:=λ_ _ _ _ _ _=>False
@[inline]abbrev E0:XK:=λ_ _ _=>False
structure Fun(K:Vh)(x qual:Str)(st:Stmt)(f:Addr)(fd:WZ):Prop where
 ex:∃ (oc:Value) (od:Option Addr) (kV doc pm:Value) (an:Option Addr) (cdv ct:Value) (osl:Array (Option Value)),
  fd=Vo x qual (dQ st) (bw st) (ao st) .none kV doc pm an cdv ct/\K.lookup f=aD ⟨oc,od,.func fd,osl⟩/\Vl K cdv qual=br
 kp:Vs K (.ref f)=br
section
variable {P:Program} {w:World} {K:Vh} {mg:Str->Option Value} {base:Heap}
def Fun.binds{x q:Str}{st:Stmt}{f:Addr}{g:WZ}{ps:List Str}(F:Fun K x q st f g)
  (h:∀ (kV b p:Value) (an:Option Addr) (c ct:Value) (u:List Value),u.length=ps.length->bindArgs (Vo x q (dQ st) (bw st) (ao st) .none kV b p an c ct) ⟨u,[]⟩=pure (ps.zip u)):fO K g ps []:=by
 obtain⟨j,O,kV,b,p,an,c,ct,o,rfl,L,H⟩:=F.ex;exact .all (h kV b p an c ct)
def KR{x qual:Str}{st:Stmt}{f:Addr}{g:Value}{O an:Option Addr}{o:Array (Option Value)}{kV b p C ct:Value}(l:K.lookup f=aD ⟨g,O,.func (Vo x qual (dQ st) (bw st) (ao st) .none kV b p an C ct),o⟩)
  (c:Vl K C qual=br) (k:Vs K (.ref f)=br):Fun K x qual st f (Vo x qual (dQ st) (bw st) (ao st) .none kV b p an C ct):=⟨⟨g,O,kV,b,p,an,C,ct,o,rfl,l,c⟩,k⟩
end
def zA{n:Nat}(h:n<=1000):n < sizeLine:=Nat.lt_of_le_of_lt h (by decide)
abbrev qi(ifs:List Expr)(env:Env):Sem Bool:=
 forIn ifs br λc r=>if r=br then do let ok <-isTrue c env (eval c env);pure (ForInStep.yield ok) else pure (ForInStep.yield r)
inductive CmK where
 |l (elt:Expr) |d (k v:Expr)
abbrev cmE:CmK->List WG->Scope->Pos->Expr
 |.l e=>.ListComp e
 |.d k v=>.DictComp k v
abbrev cmP:CmK->Env->Value->Sem Unit
 |.l e,env,acc=>do let _ <-call (.builtin "list.append") [acc,<-eval e env]
 |.d k v,env,acc=>do
  let a <-eval k env
  let b <-holding [a] (eval v env)
  match acc with
  |.ref d=>do
   standAt { k.pos with endLine:=v.pos.endLine,endCol:=v.pos.endCol }
   holding [a,b] (dictSet d a b)
  |_=>unsupported "internal:dictcomp"
abbrev cmN:CmK->Sem Value
 |.l _=>newList []
 |.d _ _=>newDict
abbrev cmO:CmK->HO
 |.l _=>.lst []
 |.d _ _=>.dK []
def FA{d:Nat}{c:CmK}
  (hg:g[d]?=aD ⟨T,O,ifs,0⟩)
  (h:wpAny M A (pyNext I) (λr u=>match r with
   |none=>Q (.done .next) u
   | some v=>wpAny M A (V4 T I v) (λ_ U=>wpAny M A (assign T env v) (λ_ L=>wpAny M A (qi ifs env) (λok p=>if ok=br then (match g[d+1]? with
     |none=>wpAny M A (cmP c env f) (λ_ o=>Q (.again (.compLoop (cmE c g b pos) d I f env)) o) E p
     | some g'=>g'.is_async=0/\wpAny M A (eval g'.iter env) (λx q=>wpAny M A (V1 g'.iter env x) (λX o=>wpAny M A (pyIter X) (λj z=>
       wpAny M A (runOwn (.compStart (cmE c g b pos) (d+1) j f env) env) (λ_ B=>Q (.again (.compLoop (cmE c g b pos) d I f env)) B) E z) E o) E q) E p)
    else Q (.again (.compLoop (cmE c g b pos) d I f env)) p) E L) E U) E u) E s) :
  wpAny M A (compTurn (cmE c g b pos) d I f env) Q E s:=by
 cases c <;>
 ·unfold compTurn;simp only[cmE,hg];refine Ux (UZ ?_);show wpAny M A (pyNext I >>= _) Q E s;refine Ux (UM h (λr u J=>?_) λ_ _ x=>x);cases r with
  |none=>exact UR J
  |some v=>
   refine Ux (UM J (λ_ U h2=>?_) λ_ _ x=>x);refine Ux (UM h2 (λ_ L h3=>?_) λ_ _ x=>x);refine Ux (UM h3 (λok p H=>?_) λ_ _ x=>x);cases ok with
   |false=>exact UR H
   |true=>
    simp only[if_true] at H ⊢;cases C:g[d+1]? with
    |none=>
     rw[C] at H;exact Ux (m:=cmP _ env f) (UM H (λ_ o y=>UR y) λ_ _ x=>x)
    |some g'=>
     rw[C] at H;obtain⟨ha,H⟩:=H;refine Ux (UM H (λx q h5=>Ux (UZ ?_)) λ_ _ x=>x);rw[ha];show wpAny M A (V1 g'.iter env x >>= _) Q E q;refine Ux (UM h5 (λX o y=>?_) λ_ _ x=>x);refine Ux (UG (UM y (λj z Y=>?_) λ_ _ x=>x));exact Ux (UM Y (λ_ B Z=>UR Z) λ_ _ x=>x)
abbrev cf(c:List (Str × Addr)):List (Str × W1)->List (Str × Addr)->List (Str × Addr)
 |[],acc=>acc
 |(n,k)::r,acc=>if k == .free then cf c r ((n,(c.lookup n).getD 0)::acc) else cf c r acc
def iw:∀ (b:List (Str × W1)) (f:List (Str × Addr)),(∀y ∈ b,y.2 = .free->∃c,env.cells.lookup y.1=aD c) ->
  (forIn b f λ(x:Str × W1) (C:List (Str × Addr))=>(match x with |(name,kind)=>if kind == .free then (do let a <-cellOf env name;pure (ForInStep.yield ((name,a)::C))) else pure (ForInStep.yield C):Sem (ForInStep (List (Str × Addr)))))
   = (pure (cf env.cells b f):Sem (List (Str × Addr)))
 |[],f,_=>by rw[Y6];rfl
 |(n,k)::r,f,h=>by
  rw[Xq];have j:∀y ∈ r,y.2 = .free->∃c,env.cells.lookup y.1=aD c:=λy o=>h y (Zf _ o);cases H:(k == NameKind.free) with
  |true=>
   obtain⟨c,g⟩:=h (n,k) Zd (by simpa using H);have e:cellOf env n=pure c:=by unfold cellOf;rw[show env.cells.lookup n=aD c from g]
   simp only[H,if_true,e,pure_bind];rw[iw r _ j]
   conv=>rhs;rw[cf]
   simp only[H,if_true];rw[show env.cells.lookup n=aD c from g];rfl
  |false=>
   simp only[H,Ye,if_false,pure_bind];rw[iw r _ j]
   conv=>rhs;rw[cf]
   simp only[H,Ye,if_false]
def xH(h:∀y ∈ b.names,y.2 = .free->∃c,env.cells.lookup y.1=aD c):closureFor b env=pure (cf env.cells b.names []):=by
 have e:=iw (env:=env) b.names [] h;unfold closureFor;refine Eq.trans ?_ e
 first
  |rfl
  |(rw[bind_pure])
  |(simp only[bind_pure])
def jM:∀ {b:List (Str × W1)} {f:List (Str × Addr)} {x:Str} {c:Addr},(x,c) ∈ cf C b f->(x,c) ∈ f\/((x,NameKind.free) ∈ b/\c=(C.lookup x).getD 0)
 |[],_,_,_,h=>.inl h
 |(n,k)::r,f,x,c,h=>by
  unfold cf at h;split at h
  ·rename_i g;have H:k = .free:=by simpa using g
   rcases jM h with e |⟨e,q⟩
   ·rcases Zm.mp e with e |e
    ·cases e;exact .inr ⟨by rw[H];exact Zd,rfl⟩
    ·exact .inl e
   ·exact .inr ⟨Zf _ e,q⟩
  ·rcases jM h with e |⟨e,q⟩
   ·exact .inl e
   ·exact .inr ⟨Zf _ e,q⟩
def fX:∀ {l:List (Str × Addr)},(∃c,(x,c) ∈ l)->∃c,l.lookup x=aD c
 |[],⟨_,h⟩=>nomatch h
 |(n,c)::r,⟨c',h⟩=>by
  rw[ZS];cases H:x == n with
  |true=>exact⟨c,rfl⟩
  |false=>
   rcases Zm.mp h with e |e
   ·cases e;simp at H
   ·exact fX ⟨c',e⟩
def gK:∀ {b:List (Str × W1)} {acc:List (Str × Addr)},(x,NameKind.free) ∈ b\/(∃c,(x,c) ∈ acc)->∃c,(x,c) ∈ cf cells b acc
 |[],_,h=>h.elim (λe=>nomatch e) id
 |(n,k)::r,acc,h=>by
  unfold cf;split
  ·rename_i H;refine gK ?_;rcases h with h |⟨c,h⟩
   ·rcases Zm.mp h with e |e
    ·cases e;exact .inr ⟨_,Zd⟩
    ·exact .inl e
   ·exact .inr ⟨c,Zf _ h⟩
  ·rename_i H;refine gK ?_;rcases h with h |⟨c,h⟩
   ·rcases Zm.mp h with e |e
    ·cases e;exact absurd rfl H
    ·exact .inl e
   ·exact .inr ⟨c,h⟩
def cz:∀ (b:List (Str × W1)) (n:Nat) (c:List (Str × Addr)),VQ n b c=VQ n b []++c
 |[],_,_=>rfl
 |(y,k)::r,n,c=>by
  unfold VQ;split
  ·rw[cz r (n+1) ((y,n)::c),cz r (n+1) [(y,n)],ZX];rfl
  ·exact cz r n c
def eB:∀ (b:List (Str × W1)) (n:Nat) (f:List (Str × Addr)) (x:Str) (c:Addr),(x,c) ∈ VQ n b f->(x,c) ∈ f\/(x,NameKind.cell) ∈ b
 |[],_,_,_,_,h=>.inl h
 |(y,k)::r,n,f,x,c,h=>by
  unfold VQ at h;split at h
  ·rename_i g;have H:k = .cell:=by simpa using g
   rcases eB r _ _ x c h with e |e
   ·rcases Zm.mp e with e |e
    ·cases e;exact .inr (by rw[H];exact Zd)
    ·exact .inl e
   ·exact .inr (Zf _ e)
  ·rcases eB r _ _ x c h with e |e
   ·exact .inl e
   ·exact .inr (Zf _ e)
abbrev nY(sc:Scope)(n:Str)(k:W1):W1:=if (k == .free && sc.kind == .function && sc.names.lookup n == aD .cell) then .cell else k
abbrev fY(b sc:Scope):Scope:={ b with names:=b.names.map λy=>(y.1,nY sc y.1 y.2) }
def FC(b:Scope)(env:Env):relabel b env=fY b env.scope:=by
 unfold relabel fY
 congr 1
 refine YL λy _=>?_;obtain⟨n,k⟩:=y;unfold nY;dsimp only;show(if (k == NameKind.free && env.scope.kind == ScopeKind.function && Xx n env.scope.names == aD NameKind.cell)=br then (n,NameKind.cell) else (n,k))=_;split <;> rfl
def fZ(sc:Scope)(x:Str):∀b:List (Str × W1),(b.map λy=>(y.1,nY sc y.1 y.2)).lookup x=(b.lookup x).map (nY sc x)
 |[]=>rfl
 |(n,k)::r=>by
  rw[Zs,ZS,ZS];dsimp only;cases h:x == n with
  |true=>
   have q:x=n:=by simpa using h
   subst q;rfl
  |false=>exact fZ sc x r
abbrev uX(scope:Scope)(C:Addr)(env:Env):Env:=
 { scope:=fY scope env.scope,locals:=C,globals:=env.globals,cells:=VQ (C+1) scope.names (cf env.cells scope.names []),qual:=env.qual,func:=aT,code:=env.code,frame:=env.frame,builtins:=env.builtins }
def zB
  (h:Q { scope:=scope,locals:=s.heap.objs.size,globals:=env.globals,cells:=VQ (s.heap.objs.size+1) scope.names cl,qual:=env.qual,func:=aT,code:=env.code,frame:=env.frame,builtins:=env.builtins }
   { s with heap:=Ub (s.heap.push { cls:=.type "dict", data:=.dict #[] }) scope.names }) :
  wpAny M A (V8 scope env.globals cl [] env.qual aT .none (aD env)) Q E s:=by
 simp only[V8,XN,if_true];refine Ux (wpAny_alloc ?_);refine Ux (wpAny_layCells _ (λname kind cells=>by cases H:kind == NameKind.cell <;> simp[H]) _ _ _ _ ?_);rw[show({ s with heap:=s.heap.push { cls:=.type "dict", data:=.dict #[] } }:Shared).heap.objs.size=s.heap.objs.size+1 from YT ..];simp only[Y6]
 first
  |exact Ux (UR (UR h))
  |exact UR h
abbrev BF(i:Nat):Str:=⟨#[i]⟩
abbrev dq:List Nat->List Str->List Str
 |[],N=>N
 |i::hs,N=>dq hs (N.set i (BF i))
def jN:∀ (hs:List Nat) (N:List Str),(dq hs N).length=N.length
 |[],_=>rfl
 |i::hs,N=>by rw[dq,jN hs,YA]
def oG:∀ (hs:List Nat) (N:List Str) {i:Nat} {x:Str},(dq hs N)[i]?=aD x->N[i]?=aD x\/∃j ∈ hs,x=BF j
 |[],_,_,_,h=>.inl h
 |k::hs,N,i,x,h=>by
  rw[dq] at h;rcases oG hs (N.set k (BF k)) h with e |⟨j,hj,e⟩
  ·rw[YG] at e;split at e
   ·split at e
    ·exact .inr ⟨k,Zd,(Option.some.inj e).symm⟩
    ·cases e
   ·exact .inl e
  ·exact .inr ⟨j,Zf _ hj,e⟩
structure CmScope(own:List Str)(hs:List Nat)(N:List Str)(scope sc:Scope):Prop where
 kind:scope.kind = .function
 nd:(dq hs N++own).Nodup
 uniq:(scope.names.map (·.1)).Nodup
 dis:∀x ∈ dq hs N,scope.names.lookup x ≠ aD .local/\scope.names.lookup x ≠ aD .cell
 fr:∀y ∈ scope.names,y.2 = .free->sc.names.lookup y.1=aD .cell\/sc.names.lookup y.1=aD .free
 hd:∀i ∈ hs,scope.names.lookup (BF i)=aT
def c9:∀ {l:List (Str × W1)} {x:Str} {k:W1},(l.map (·.1)).Nodup->(x,k) ∈ l->l.lookup x=aD k
 |(n,k')::r,x,k,nd,h=>by
  rw[Zs,Yq] at nd;rw[ZS];rcases Zm.mp h with e |e
  ·cases e;simp
  ·have ne:(x == n)=bx:=by
    cases H:x == n with
    |false=>rfl
    |true=>
     have q:x=n:=by simpa using H
     subst q;exact absurd (ZH.mpr ⟨(x,k),e,rfl⟩) nd.1
   rw[ne];exact c9 nd.2 e
abbrev cxC(X:Cx)(own:List Str)(hs:List Nat)(b:Scope)(C:Addr)(ex:List Addr)(s:Shared)(H:Hp):Cx where
 prog:=X.prog
 w:=X.w
 K:=X.K
 mg:=X.mg
 base:=X.base
 A:=X.A
 N:=dq hs X.N++own
 s₀:=s
 H₀:=H
 env:=uX b C X.env
 outer:=X.stack
 stack:=X.stack
 ex:=ex
 fn:=λx=>b.names.lookup x == aD .cell
 calm:=X.calm
 pn:=[]
 xe:=λ_ _=>False
section
variable {X:Cx} {pins:List (Addr × Obj)} {σ:St} {H:Hp} {s:Shared} {own:List Str} {hs:List Nat} {scope:Scope} {fp:List Addr}
def Inv.compStart(I:Inv X pins σ H s)(S:CmScope own hs X.N scope X.env.scope)(hf:∀b ∈ fp,hY X pins H b)(hfo:∀b ∈ fp,b < s.heap.objs.size) :
  Inv (cxC X own hs scope s.heap.objs.size fp s H) [] (σ++Zp own.length aT) H { s with heap:=Ub (s.heap.push { cls:=.type "dict", data:=.dict #[] }) scope.names }:=by
 have keep:∀b o,s.heap.get? b=aD o->(Ub (s.heap.push { cls:=.type "dict", data:=.dict #[] }) scope.names).get? b=aD o:=λb o e=>Uc _ _ b o (Zj _ e);have ok:=cellsFrom_ok scope.names (s.heap.push { cls:=.type "dict", data:=.dict #[] }) (s.heap.objs.size+1) [] ⟨λ_ _ hm=>(nomatch hm),List.Pairwise.nil⟩ (by rw[YT];exact Zc _);rw[YT] at ok;have C:(uX scope s.heap.objs.size X.env).cells=VQ (s.heap.objs.size+1) scope.names []++cf X.env.cells scope.names []:=cz _ _ _;have hasX:∀x,(x,NameKind.free) ∈ scope.names->∃c,X.env.cells.lookup x=aD c:=λx h=>I.ok.has x (S.fr (x,.free) h rfl)
 have old:∀x c,(x,c) ∈ cf X.env.cells scope.names []->X.env.cells.lookup x=aD c/\(x,NameKind.free) ∈ scope.names:=λx c h=>by
  rcases jM h with e |⟨e,q⟩
  ·exact nomatch e
  ·obtain⟨c',U⟩:=hasX x e;rw[U] at q;exact⟨by rw[U,q];rfl,e⟩
 have O:∀x c,X.env.cells.lookup x=aD c->c < s.heap.objs.size:=λx c h=>let ⟨_,z⟩:=I.cell x c h;z.lt
 have f:∀x c,(uX scope s.heap.objs.size X.env).cells.lookup x=aD c->((x,c) ∈ VQ (s.heap.objs.size+1) scope.names [])\/(X.env.cells.lookup x=aD c/\(x,NameKind.free) ∈ scope.names):=λx c h=>by
  have m:=V7 h;rw[C] at m;rcases Zu.mp m with e |e
  ·exact .inl e
  ·exact .inr (old x c e)
 have B:∀x c,(x,c) ∈ VQ (s.heap.objs.size+1) scope.names []->s.heap.objs.size+1<=c:=λx c h=>(ok.empty x c h).2
 have Z:∀b ∈ fp,b ∉ frs X.stack:=λb L z=>by
  rcases Zm.mp (I.stkSub b z) with e |e
  ·exact(hf b L).2.1 e
  ·exact(hf b L).2.2.1 e
 have xok:(cxC X own hs scope s.heap.objs.size fp s H).Ok:=by
  refine⟨I.ok.mod,S.kind,I.ok.glob,I.ok.blt,Zc _,?_,?_,?_,I.ok.hd,I.ok.frames,.inl rfl,?_,I.bs,Zz I.ok.bsz I.sz,?_,Z,I.stack,I.stkFree⟩
  ·intro x y c Q T;rcases f x c Q with a |⟨a,_⟩ <;> rcases f y c T with b |⟨b,_⟩
   ·exact name_of_addr ok.apart a b
   ·exact absurd (Zx (O y c b) (Y8 (B x c a))) (ZQ _)
   ·exact absurd (Zx (O x c a) (Y8 (B y c b))) (ZQ _)
   ·exact I.ok.inj x y c a b
  ·intro x hx;have hx':(fY scope X.env.scope).names.lookup x=aD .cell\/(fY scope X.env.scope).names.lookup x=aD .free:=hx;have e:=fZ X.env.scope x scope.names
   have key:(x,NameKind.cell) ∈ scope.names\/(x,NameKind.free) ∈ scope.names:=by
    cases E:scope.names.lookup x with
    |none=>rw[E] at e;rcases hx' with z |z <;> (rw[show(fY scope X.env.scope).names.lookup x=aT from e] at z;cases z)
    |some k=>
     have m:=V7 E;rw[E] at e;cases k with
     |cell=>exact .inl m
     |free=>exact .inr m
     |_=>rcases hx' with z |z <;> (rw[show(fY scope X.env.scope).names.lookup x=_ from e] at z;simp[nY] at z)
   rcases key with h |h
   ·have q:=Vj scope.names (s.heap.objs.size+1) (cf X.env.cells scope.names []) (x:=x) (.inl (c9 S.uniq h));exact Yb.mp q
   ·obtain⟨c,U⟩:=gK (cells:=X.env.cells) (acc:=[]) (.inl h);have q:∃c,(x,c) ∈ (uX scope s.heap.objs.size X.env).cells:=⟨c,by rw[C];exact ZC _ U⟩;exact fX q
  ·intro x c hfn E
   have J:scope.names.lookup x=aD .cell:=by
    have z:(scope.names.lookup x == aD NameKind.cell)=br:=hfn
    simpa using z
   rcases f x c E with a |⟨_,b⟩
   ·exact Zz (Yw _) (B x c a)
   ·rw[c9 S.uniq b] at J;cases J
  ·intro b L;refine⟨ZF (hfo b L),λx c h z=>?_⟩;rcases f x c h with a |⟨a,_⟩
   ·exact absurd (Zx (z ▸ hfo b L) (Y8 (B x c a))) (ZQ _)
   ·exact(hf b L).2.2.2.2.1 x c a z
  ·intro b o e L;rcases (hf b L).2.2.2.1 with z |z
   ·exact I.ok.noex b o e z
   ·have Q:=Zq e;exact absurd (Zx Q (Zz I.ok.bsz z)) (ZQ _)
 have m0:(Ub (s.heap.push { cls:=.type "dict", data:=.dict #[] }) scope.names).Ns s.heap.objs.size (λ_=>aT):=(Heap.Ns.new s.heap (.type "dict")).keeps (Uc _ _);refine⟨xok,rfl,I.bare,Un.kept keep,⟨_,m0,?_⟩,?_,I.hok.fresh (Zc _),?_,λp hp=>absurd (show p ∈ ([]:List (Addr × Obj)) from hp) (by simp),I.hok.kept keep,?_⟩
 ·intro i x v Q T h3
  have hi:i < σ.length:=by
   by_cases hi:i < σ.length
   ·exact hi
   ·rw[Zn (by lia),Yo] at T;split at T <;> cases T
  rw[Zw hi] at T;have hN:i < X.N.length:=by rw[<-I.len];exact hi
  have h1h:(dq hs X.N)[i]?=aD x:=by
   have Q:(dq hs X.N++own)[i]?=aD x:=Q
   rwa [Zw (by rw[jN];exact hN)] at Q
  have dx:=S.dis x (Zy h1h);have e:=fZ X.env.scope x scope.names;have Y:(fY scope X.env.scope).names.lookup x=aD .local\/(fY scope X.env.scope).names.lookup x=aD .cell\/(fY scope X.env.scope).names.lookup x=aD .free:=h3
  have g:scope.names.lookup x=aD .free:=by
   cases E:scope.names.lookup x with
   |none=>rw[E] at e;rcases Y with z |z |z <;> (rw[show(fY scope X.env.scope).names.lookup x=aT from e] at z;cases z)
   |some k=>
    rw[E] at e dx;cases k with
    |free=>rfl
    |«local»=>exact absurd rfl dx.1
    |cell=>exact absurd rfl dx.2
    |_=>rcases Y with z |z |z <;> (rw[show(fY scope X.env.scope).names.lookup x=_ from e] at z;simp[nY] at z)
  have h1':X.N[i]?=aD x:=by
   rcases oG hs X.N h1h with z |⟨j,hj,z⟩
   ·exact z
   ·rw[z,S.hd j hj] at g;cases g
  have M:=V7 g;have kX:=S.fr (x,.free) M rfl;obtain⟨m,hn,E⟩:=I.loc;obtain⟨u,r,l⟩:=E i x v h1' T (kX.elim (λz=>.inr (.inl z)) λz=>.inr (.inr z));refine⟨u,r,.inr ⟨?_,?_⟩⟩
  ·have k3:(fY scope X.env.scope).names.lookup x=aD (nY X.env.scope x .free):=by rw[g] at e;exact e
   have k4:nY X.env.scope x .free = .cell\/nY X.env.scope x .free = .free:=by unfold nY;split <;> simp
   rcases k4 with z |z
   ·exact .inl (by show(fY scope X.env.scope).names.lookup x=_;rw[k3,z])
   ·exact .inr (by show(fY scope X.env.scope).names.lookup x=_;rw[k3,z])
  ·rcases l with ⟨lk,_⟩ |⟨_,c,U,z⟩
   ·have lk':X.env.scope.names.lookup x=aD .local:=lk;rcases kX with q |q <;> (rw[q] at lk';cases lk')
   ·refine⟨c,?_,z.keeps keep⟩;obtain⟨c',hc'⟩:=gK (cells:=X.env.cells) (acc:=[]) (.inl M);obtain⟨c2,hl2⟩:=fX (l:=(uX scope s.heap.objs.size X.env).cells) ⟨c',by rw[C];exact ZC _ hc'⟩;rcases f x c2 hl2 with a |⟨a,_⟩
    ·rcases eB _ _ _ _ _ a with q |q
     ·exact nomatch q
     ·rw[c9 S.uniq q] at g;cases g
    ·rw[U] at a;cases a;exact hl2
 ·intro x c h;rcases f x c h with a |⟨a,_⟩
  ·exact⟨_,(ok.empty x c a).1⟩
  ·obtain⟨v,z⟩:=I.cell x c a;exact⟨v,z.keeps keep⟩
 ·intro x c h;rcases f x c h with a |⟨a,_⟩
  ·exact I.hok.fresh (Zz (Yw _) (B x c a))
  ·exact I.freeC x c a
 ·show(σ++Zp own.length aT).length=(dq hs X.N++own).length;rw[Zi,Zi,YV,jN,I.len]
end
section
variable {κ:Type} [DecidableEq κ]
abbrev iy(kvs:List (κ × V))(k:κ):Option V:=(kvs.find? λb=>decide (b.1=k)).map (·.2)
abbrev iz(kvs:List (κ × V))(k:κ)(v:V):List (κ × V):=
 if (kvs.any λb=>decide (b.1=k))=br then kvs.map (λb=>if b.1=k then (b.1,v) else b) else kvs++[(k,v)]
def f8{p:κ × V}{r:List (κ × V)}{k:κ}(e:p.1=k):iy (p::r) k=aD p.2:=by simp[iy,YB,e]
def f9{p:κ × V}{r:List (κ × V)}{k:κ}(e:¬ p.1=k):iy (p::r) k=iy r k:=by simp[iy,YB,e]
def sd(k:κ):∀kvs:List (κ × V),(kvs.any λb=>decide (b.1=k))=(iy kvs k).isSome
 |[]=>rfl
 |p::r=>by
  rw[Yu];by_cases e:p.1=k
  ·simp only[f8 e,decide_eq_true e,Bool.true_or,XN]
  ·rw[f9 e,decide_eq_false e,Wj];exact sd k r
def ku(kvs:List (κ × V))(k:κ)(v:V):(iz kvs k v).length<=kvs.length+1:=by
 unfold iz;split
 ·rw[Za];omega
 ·rw[Zi,ZB,Y1];omega
def se{kvs:List (κ × V)}{k:κ}(v:V)(h:iy kvs k=aT):iz kvs k v=kvs++[(k,v)]:=by
 unfold iz;rw[sd,h];exact if_neg (by decide)
def uJ.isSome_eq(r:uJ o u):o.isSome=u.isSome:=by
 cases o with
 |none=>cases u with
  |none=>rfl
  |some _=>exact(show False from r).elim
 |some _=>cases u with
  |none=>exact(show False from r).elim
  |some _=>rfl
def KV.val{kvs:List (κ × V)}{v:List (κ × Value)}(r:KV kvs v)(k:κ):uJ (iy kvs k) (valueAt v k):=by
 unfold KV at r
 induction r with
 |nil=>exact True.intro
 |@cons p q ps qs h t ih=>
  obtain⟨H,c⟩:=h;by_cases e:p.1=k
  ·have E:q.1=k:=H.symm.trans e;have b:valueAt (q::qs) k=aD q.2:=by simp[valueAt,YB,E]
   rw[f8 e,b];exact c
  ·have E:¬ q.1=k:=λz=>e (H.trans z);have b:valueAt (q::qs) k=valueAt qs k:=by simp[valueAt,YB,E]
   rw[f9 e,b];exact ih
def KV.any{kvs:List (κ × V)}{v:List (κ × Value)}(r:KV kvs v)(k:κ):(kvs.any λb=>decide (b.1=k))=v.any λb=>decide (b.1=k):=by
 unfold KV at r
 induction r with
 |nil=>rfl
 |cons h t I=>rw[Yu,Yu,I,h.1]
def KV.repl(r:KV kvs v)(k:κ)(c:aG y u) :
  KV (kvs.map λb=>if b.1=k then (b.1,y) else b) (v.map λb=>if b.1=k then (b.1,u) else b):=by
 unfold KV at r ⊢
 induction r with
 |nil=>exact .nil
 |@cons p q ps qs h t ih=>
  rw[Zs,Zs];refine .cons ?_ ih;obtain⟨H,f⟩:=h;by_cases e:p.1=k
  ·rw[if_pos e,if_pos (H.symm.trans e)];exact⟨H,c⟩
  ·rw[if_neg e,if_neg (λz=>e (H.trans z))];exact⟨H,f⟩
def KV.put(r:KV kvs v)(k:κ)(b:aG y u):KV (iz kvs k y) (stored v k u):=by
 unfold iz stored;rw[r.any k];by_cases e:(v.any λc=>decide (c.1=k))=br
 ·rw[if_pos e,if_pos e];exact r.repl k b
 ·rw[if_neg e,if_neg e];exact Paired.snoc r ⟨rfl,b⟩
def KV.length(r:KV kvs v):kvs.length=v.length:=Paired.length r
end
def oH(r:aG (kV k) u):(bq P w).is k u=br:=by
 cases k with
 |inl i=>obtain⟨t,e⟩:=(show ∃t,u=Value.int i t from r);subst e;exact rR P w i t
 |inr x=>obtain⟨t,e⟩:=(show ∃t,u=Value.str x t from r);subst e;exact rT P w x t
def oI:∀ {b:List Key} {u:List Value},aK (b.map kV) u->ItemsAre (bq P w) b u
 |[],_,r=>by rw[ZV] at r;cases r;exact .nil
 |k::b,_,r=>by
  rw[Zs] at r;cases r with
  |cons h t=>exact .cons (oH h) (oI t)
@[inline]abbrev KT(H:Hp):List (List Key × V)->List (List Key × Addr × Value)->Prop:=Paired λp q=>p.1=q.1/\H q.2.1=aD (.tup (p.1.map kV))/\aG p.2 q.2.2
def KT.val{H:Hp}{kvs:List (List Key × V)}{xs:List (List Key × Addr × Value)}(r:KT H kvs xs)(k:List Key):uJ (iy kvs k) ((atKey xs k).map (·.2)):=by
 induction r with
 |nil=>exact True.intro
 |@cons p q ps qs h t ih=>
  obtain⟨c,_,f⟩:=h;by_cases e:p.1=k
  ·have E:q.1=k:=c.symm.trans e;have b:atKey (q::qs) k=aD q.2:=by simp[atKey,YB,E]
   rw[f8 e,b];exact f
  ·have E:¬ q.1=k:=λz=>e (c.trans z);have b:atKey (q::qs) k=atKey qs k:=by simp[atKey,YB,E]
   rw[f9 e,b];exact ih
section
variable {P:Program} {w:World} {H:Hp} {h:Heap} {a:Addr}
def Jq(ok:HOk P w H h)(e:Rd H a u):bz P w H h a u:=e.ok ok
def sg(ok:HOk P w H h)(e:Rd H a (.dK kvs)):kvs.length<=sizeLine/\(a == Uo)=bx/\∃vs,KV kvs vs/\h.DictOf (bq P w) a vs:=
 show bz P w H h a (.dK kvs) from Jq ok e
def Jr(ok:HOk P w H h)(e:H a=aD (.dK kvs)):kvs.length<=sizeLine/\(a == Uo)=bx/\∃vs,KV kvs vs/\h.DictOf (bq P w) a vs:=sg ok (.inl e)
def qj(ok:HOk P w H h)(e:H a=aD (.tup (b.map kV))):(Ur (bq P w)).is h b a:=by
 obtain⟨_,I,r,o,c,g,n,f,_⟩:=(show bz P w H h a (.tup (b.map kV)) from ok a _ e);exact⟨o,I.toArray,n,c,g,f,by simpa using oI r⟩
def xI(ok:HOk P w H h)(e:Rd H a (.dT kvs)):kvs.length<=sizeLine/\(a == Uo)=bx ∧
  ∃xs,KT H kvs xs/\h.DictOfH (Ur (bq P w)) a xs:=by
 obtain⟨z,y,xs,r,o,u,E,f,j,g,c,b⟩:=(show bz P w H h a (.dT kvs) from Jq ok e);refine⟨z,y,xs,r,o,u,E,f,j,g,c,λx hx=>?_,b⟩
 have all:∀ {l:List (List Key × V)} {m:List (List Key × Addr × Value)},KT H l m->∀x ∈ m,(Ur (bq P w)).is h x.1 x.2.1:=by
  intro l m q
  induction q with
  |nil=>intro x hx;exact nomatch hx
  |@cons p q ps qs hq t ih=>
   intro x hx;rcases Zm.mp hx with e |hx
   ·subst e;exact qj ok (by rw[<-hq.1];exact hq.2.1)
   ·exact ih x hx
 exact all r x hx
end
abbrev uY(H:Hp)(a:Addr)(y:V)(r:Option V):Prop:=
 (∃c k,Rd H a (.dK c)/\y=kV k/\r=iy c k)\/∃c k b,Rd H a (.dT c)/\y = .ref b/\H b=aD (.tup (k.map kV))/\r=iy c k
def uY.k{H:Hp}{a:Addr}{kvs:List (Key × V)}{k:Key}(e:H a=aD (.dK kvs)):uY H a (kV k) (iy kvs k):=.inl ⟨kvs,k,.inl e,rfl,rfl⟩
section
variable {X:Cx} {pins:List (Addr × Obj)} {σ:St} {H:Hp} {s:Shared} {a:Addr} {y v:V} {u r:Value} {o:Option V} {A:Around} {E:Value->Shared->Prop}
def Inv.big(I:Inv X pins σ H s):Uo < s.heap.objs.size:=by
 have h:V6 < s.heap.objs.size:=(I.mod.glob.keeps I.bk).lt;exact XV (by decide) h
def zC(O:A.units+1 < cLine)(I:Inv X pins σ H s)(g:uY H a y (aD v))(L:aG y u)(h:∀f M,Inv X pins σ H M->aG v f->Q f M) :
  wpAny (model X.prog X.w) A (getItem (.ref a) u) Q E s:=by
 rcases g with ⟨C,k,e,J,l⟩ |⟨C,k,b,e,J,T,l⟩
 ·subst J;obtain⟨z,hd,Y,rel,j⟩:=sg I.hok e;obtain⟨f,B,c⟩:=uJ.some_of (v:=v) (o:=valueAt Y k) (by rw[l];exact rel.val k);exact wpAny_getItem_of (oH L) j.mapOf B (h f _ (I.tok _) c)
 ·subst J;cases (show u=Value.ref b from L);obtain⟨z,hd,xs,rel,j⟩:=xI I.hok e;obtain⟨f,B,c⟩:=uJ.some_of (v:=v) (o:=(atKey xs k).map (·.2)) (by rw[l];exact rel.val k);obtain⟨p,U,q⟩:=Z6.mp B;refine wpAny_getItem_heap (Us O) (qj I.hok T) j U ?_;rw[q];exact h f _ (I.tok _) c
def SK(C:A.units+1 < cLine)(I:Inv X pins σ H s)(g:uY H a y o)(p:aG y u)(h:∀B,Inv X pins σ H B->Q (.bool o.isSome) B) :
  wpAny (model X.prog X.w) A (VU .In u (.ref a)) Q E s:=by
 rcases g with ⟨c,k,e,j,l⟩ |⟨c,k,b,e,j,J,l⟩
 ·subst j;obtain⟨z,hd,L,rel,f⟩:=sg I.hok e;refine wpAny_in_of (oH p) hd f.mapOf ?_;rw[<-(rel.val k).isSome_eq,<-l];exact h _ (I.tok _)
 ·subst j;cases (show u=Value.ref b from p);obtain⟨z,hd,xs,rel,f⟩:=xI I.hok e;refine wpAny_in_heap (Us C) (qj I.hok J) hd f ?_;have q:=(rel.val k).isSome_eq;rw[XW] at q;rw[<-q,<-l];exact h _ (I.tok _)
def FD(C:A.units+1 < cLine)(I:Inv X pins σ H s)(g:uY H a y o)(p:aG y u)(h:∀B,Inv X pins σ H B->Q (.bool (!o.isSome)) B) :
  wpAny (model X.prog X.w) A (VU .NotIn u (.ref a)) Q E s:=by
 rcases g with ⟨c,k,e,j,l⟩ |⟨c,k,b,e,j,J,l⟩
 ·subst j;obtain⟨z,hd,L,rel,f⟩:=sg I.hok e;refine wpAny_notIn_of (oH p) hd f.mapOf ?_;rw[<-(rel.val k).isSome_eq,<-l];exact h _ (I.tok _)
 ·subst j;cases (show u=Value.ref b from p);obtain⟨z,hd,xs,rel,f⟩:=xI I.hok e;refine wpAny_notIn_heap (Us C) (qj I.hok J) hd f ?_;have q:=(rel.val k).isSome_eq;rw[XW] at q;rw[<-q,<-l];exact h _ (I.tok _)
def xJ{t':Nat}(I:Inv X pins σ H s)(M:Mut (H a))(hs:Heap.SameBut a s.heap h')(c:∃q,h'.get? a=aD q)(new:bz X.prog X.w (upd H a ob) h' a ob) :
  Inv X pins σ (upd H a ob) { s with heap:=h',toks:=t' }:=
 I.write (x:=a) (e:=a) M (.inl rfl) (λb q h z=>(hs.2 b h).trans z) c new
def BG(z:kvs.length<=sizeLine)(hd:(a == Uo)=bx)(rel:KV kvs b)(c:h'.DictOf (bq P w) a b) :
  bz P w h h' a (.dK kvs):=⟨z,hd,b,rel,c⟩
def zD{kvs:List (Key × V)}{k:Key}(I:Inv X pins σ H s)(e:H a=aD (.dK kvs))(l:kvs.length < sizeLine)(p:aG (kV k) u)(C:aG v r)(h:∀c,Inv X pins σ (upd H a (.dK (iz kvs k v))) c->Q () c) :
  wpAny (model X.prog X.w) A (dictSet a u r) Q E s:=by
 obtain⟨z,hd,g,rel,B⟩:=Jr I.hok e;have f:g.length<=sizeLine:=by rw[<-rel.length];exact z
 have L:(iz kvs k v).length<=sizeLine:=by have:=ku kvs k v;omega
 refine wpAny_dictSet_pairs (hsz:=f) (oH p) B λj b hs=>h _ ?_;have J:∃q,j.get? a=aD q:=let ⟨q,_,_,hq,_⟩:=b;⟨q,hq⟩;exact xJ I (by rw[e];exact True.intro) hs J (BG L hd (rel.put k C) b)
end
def si(I:Inv X p h H s)(g:uY H a y o):s.TypeIs (.ref a) "dict" := by
 rcases g with ⟨c,k,e,_,_⟩ |⟨c,k,b,e,_,_,_⟩
 ·obtain⟨_,_,v,_,f⟩:=sg I.hok e;exact f.typeIs
 ·obtain⟨_,_,xs,_,f⟩:=xI I.hok e;exact f.typeIs
def lV(h:Heap)(b:Uo < h.objs.size):bz P w H (h.push { cls:=.type "dict", data:=.dict #[] }) h.objs.size (.dK []):=
 ⟨Xy _,beq_eq_false_iff_ne.mpr (Ne.symm (ZF b)),[],.nil,Heap.DictOf.new h⟩
abbrev BH:TE:=λ_ H Q=>∀p,H p=aT->Q (.ref p) (upd H p (.dK []))
section
variable {X:Cx} {pos:Pos}
def BI:PE X (.Dict [] [] pos) BH:=λp s b H Q I h=>
 wpAny_Dict_empty ⟨.ref s.heap.objs.size,_,I.laid (a:=s.heap.objs.size) (o:=.dK []) (t':=s.toks) (λ_ _ q=>Zj _ q) (Zc _) (lV s.heap I.big),rfl,h _ (I.hok.fresh (Zc _))⟩
end
abbrev uZ:List (TE × TE)->St->Hp->(List (V × V)->Hp->Prop)->Prop
 |[],_,H,Q=>Q [] H
 |(tk,tv)::r,σ,H,Q=>tk σ H λx c=>tv σ c λy h=>uZ r σ h λps b=>Q ((x,y)::ps) b
@[inline]abbrev VV:List (V × V)->List (Value × Value)->Prop:=Paired λp q=>aG p.1 q.1/\aG p.2 q.2
abbrev PPs(X:Cx)(pos:Pos)(b:List (Option Expr))(v:List Expr)(T:List (TE × TE)):Prop:=
 ∀ (p:List (Addr × Obj)) (s:Shared) (c:St) (H:Hp) (Q:List (V × V)->Hp->Prop),Inv X p c H s->uZ T c H Q ->
  wpAny (model X.prog X.w) X.A (evalPairs (pairTrees b v X.env pos)) (λf g=>∃ps h,Inv X p c h g/\VV ps f/\Q ps h) X.xe s
def FE:PPs X pos [] [] []:=λp s b H Q I h=>pairTrees_nil_walk ⟨[],H,I,.nil,h⟩
def BJ(hk:PE X k c)(o:PE X v g)(C:PPs X pos M Y T) :
  PPs X pos (aD k::M) (v::Y) ((c,g)::T):=λp s b H Q I h=>
 pairTrees_cons_walk (thn (hk p s b H _ I h) λu z ⟨x,J,B,Z,L⟩=>thn (o p z b J _ B L) λw2 s2 ⟨y,j,E,O,U⟩=>
  thn (C p s2 b j _ E U) λws s3 ⟨ps,f,I3,rel,q⟩=>⟨(x,y)::ps,f,I3,.cons ⟨Z,O⟩ rel,q⟩)
abbrev lW(kvs more:List (Key × V)):List (Key × V):=more.foldl (λb c=>iz b c.1 c.2) kvs
def KV.merge:∀ {more:List (Key × V)} {rs:List (Key × Value)} {kvs:List (Key × V)} {v:List (Key × Value)},KV more rs->KV kvs v->KV (lW kvs more) (merged v rs):=by
 intro more rs kvs v r;unfold KV at r
 induction r generalizing kvs v with
 |nil=>intro q;exact q
 |@cons p q ps qs h t ih=>
  intro b
  have e:KV (iz kvs p.1 p.2) (stored v q.1 q.2):=by
   have:=b.put p.1 h.2;rw[<-h.1];exact this
  exact ih e
def ik:∀ (more kvs:List (Key × V)),(lW kvs more).length<=kvs.length+more.length
 |[],kvs=>by show kvs.length<=kvs.length+0;omega
 |p::r,kvs=>by
  have h:=ik r (iz kvs p.1 p.2);have H:=ku kvs p.1 p.2;show(lW (iz kvs p.1 p.2) r).length<=_;rw[ZB];omega
def lX:∀ {kvs:List (Key × V)} {g:List (Value × Value)},VV (kvs.map λf=>(kV f.1,f.2)) g->∃rs,Carries (bq P w) g rs/\KV kvs rs
 |[],_,r=>by rw[ZV] at r;cases r;exact⟨[],True.intro,.nil⟩
 |p::kvs,_,r=>by
  rw[Zs] at r;cases r with
  |@cons a b as bs h t=>
   obtain⟨rs,c,q⟩:=lX (P:=P) (w:=w) t;obtain⟨j,B⟩:=b;exact⟨(p.1,B)::rs,⟨oH h.1,rfl,c⟩,.cons ⟨rfl,h.2⟩ q⟩
abbrev BK(T:List (TE × TE)):TE:=λf H Q=>∀p,H p=aT->uZ T f (upd H p (.dK [])) λps h=>h p=aD (.dK [])/\∃b:List (Key × V),ps=b.map (λc=>(kV c.1,c.2))/\b.length<=15/\Q (.ref p) (upd h p (.dK (lW [] b)))
def FF(h:PPs X pos b v T)(j:b.all (·.isSome)=br)(hl:b.length=v.length)(M:b ≠ [])
  (u:b.length<=15):PE X (.Dict b v pos) (BK T):=by
 intro p s σ H Q I q;have O:=I.hok.fresh (Zc s.heap.objs.size);have U:=I.laid (a:=s.heap.objs.size) (o:=.dK []) (h':=s.heap.push { cls:=.type "dict", data:=.dict #[] }) (t':=s.toks) (λ_ _ q=>Zj _ q) (Zc _) (lV s.heap I.big);refine wpAny_Dict_walk (knd:=bq X.prog X.w) j hl M u (thn (h p _ σ _ _ U (q _ O)) λws s2 ⟨ps,H2,y,rel,e,g,ep,lk,q2⟩=>?_);subst ep;obtain⟨rs,c,E⟩:=lX (P:=X.prog) (w:=X.w) rel;obtain⟨z,hd,J,Y,C⟩:=Jr y.hok e;cases Y;refine⟨rs,c,C,λB f hs=>⟨.ref s.heap.objs.size,_,?_,rfl,q2⟩⟩
 have L:(lW [] g).length<=sizeLine:=by
  have Z:=ik g [];rw[Y1] at Z;rw[Ug];omega
 have he:∃q,B.get? s.heap.objs.size=aD q:=let ⟨q,_,_,hq,_⟩:=f;⟨q,hq⟩;exact xJ y (by rw[e];exact True.intro) hs he (BG L hd (E.merge .nil) f)
abbrev sj(J:It)(g:TG)(T:TS)(D:Ends)(c:St)(H:Hp):Prop:=∃W:Nat->Nat->St->Hp->Prop,(∃m,W 0 m c H)/\∀i m c H,W i m c H ->
 (J.stop i H/\D.nx c H)\/(J.go i H/\∃N:St->Hp->Prop,(∀b h,N b h->∃M,M < m/\W (i+1) M b h)/\∀x h,J.yld i H x h->g x c h λf j=>T { D with nx:=N,ct:=N,bk:=D.nx } f j)
abbrev PTs(Y:Cx)(ifs:List Expr)(t:TT):Prop:=
 ∀ (p:List (Addr × Obj)) (s:Shared) (b:St) (H:Hp) (Q:Bool->Hp->Prop),Inv Y p b H s->t b H Q->wpAny (model Y.prog Y.w) Y.A (qi ifs Y.env) (TP Y p b Q) Y.xe s
abbrev u4:TT:=λ_ H Q=>Q br H
def qk:PTs Y [] u4:=λ_ _ _ H _ I h=>by
 unfold qi;rw[Y6];exact UR ⟨H,I,h⟩
def FG(hc:PT Y c t):PTs Y [c] t:=λp s f H Q I h=>by
 unfold qi;rw[Xq];simp only[if_true,Y6];refine Ux (Ux (thn (hc p s f H Q I h) λb g q=>UR ?_));exact UR q
abbrev PTl(Y:Cx)(c:CmK)(g:List WG)(f:Scope)(pos:Pos)(h:Addr)(d:Nat)(t:TS):Prop:=
 ∀ (p:List (Addr × Obj)) (s:Shared) (u:St) (H:Hp) (D:Ends),Inv Y p u H s->t D u H ->
  match g[d+1]? with
  |none=>wpAny (model Y.prog Y.w) Y.A (cmP c Y.env (.ref h)) (λ_ q=>∃b j,Inv Y p b j q/\D.nx b j) (λ_ _=>False) s
  | some o=>o.is_async=0/\wpAny (model Y.prog Y.w) Y.A (eval o.iter Y.env) (λx v=>wpAny (model Y.prog Y.w) Y.A (V1 o.iter Y.env x) (λX q=>wpAny (model Y.prog Y.w) Y.A (pyIter X) (λI y=>
    wpAny (model Y.prog Y.w) Y.A (runOwn (.compStart (cmE c g f pos) (d+1) I (.ref h) Y.env) Y.env) (λ_ z=>∃b j,Inv Y p b j z/\D.nx b j) (λ_ _=>False) y) (λ_ _=>False) q) (λ_ _=>False) v) (λ_ _=>False) s
abbrev eO(T:TT)(t:TS):TS:=λD b H=>T b H λc h=>if c=br then t D b h else D.nx b h
abbrev Js(b:Addr)(T:TE):TS:=λD c H=>T c H λx h=>∃xs,h b=aD (.lst xs)/\xs.length < sizeLine/\D.nx c (upd h b (.lst (xs++[x])))
def BL{c:CmK}{gens:List WG}{b:Scope}{pos:Pos}:clausesOf (cmE c gens b pos)=gens:=by
 cases c <;> rfl
abbrev BM(c:Addr)(T j:TE):TS:=λD f H=>T f H λx g=>j f g λy h=>∃b k,h c=aD (.dK b)/\x=kV k/\b.length < sizeLine/\D.nx f (upd h c (.dK (iz b k y)))
section
variable {Y:Cx} {elt:Expr} {c:CmK} {gens:List WG} {scope:Scope} {pos:Pos} {acc:Addr} {d:Nat}
def BN(g:Y.xe=λ_ _=>False)(C:gens[d+1]?=aT)(M:PE Y elt T):PTl Y (.l elt) gens scope pos acc d (Js acc T):=by
 intro p s b H D I h;rw[C];have f:=M p s b H _ I h;rw[g] at f;refine Ux (thn f λx u ⟨v,O,E,j,xs,J,U,q⟩=>?_);have z:=oE p u b O (.ref acc) [v] (.ref acc) [x] (λy B=>y = .non/\D.nx b B) E rfl (.cons j .nil) ⟨acc,xs,v,rfl,rfl,J,U,rfl,q⟩;rw[g] at z;exact Ux (thn z λy s6 ⟨Z,L,o,X,e6,Q⟩=>UR ⟨b,L,o,Q⟩)
def xK(j:Y.xe=λ_ _=>False)(E:gens[d+1]?=aT)(hk:PE Y k T)(C:PE Y v u):PTl Y (.d k v) gens scope pos acc d (BM acc T u):=by
 intro p s b H D I h;rw[E];have g:=hk p s b H _ I h;rw[j] at g;refine Ux (thn g λx B ⟨vk,Z,L,o,X⟩=>?_);have f:=C p B b Z _ L X;rw[j] at f;refine Ux (UG (thn f λy s6 ⟨vv,H6,q,z,O,kk,M,h2,J,Q⟩=>?_));subst h2;exact Ux (UZ (UG (zD q M J o z λs7 U=>⟨b,_,U,Q⟩)))
def zE{prog:Program}{w:World}{I acc:Value}{env:Env}:(model prog w).den (.compStart (cmE c gens scope pos) d I acc env)=((compStart (cmE c gens scope pos) d I acc env).onRaise λx=>do noteFrame x env;standAt theWindowsPlace):=by
 cases c <;> rfl
def BO{prog:Program}{w:World}{I acc:Value}{env:Env}:(model prog w).den (.compLoop (cmE c gens scope pos) d I acc env)=((compTurn (cmE c gens scope pos) d I acc env).onRaise λx=>do noteFrame x env;theTreesLotGoes x):=by
 cases c <;> rfl
def zF{A:Around}{I acc:Value}{env:Env}:A.under (.compStart (cmE c gens scope pos) d I acc env)=A:=by
 cases c <;> rfl
def BP{A:Around}{I acc:Value}{env:Env}:A.under (.compLoop (cmE c gens scope pos) d I acc env)=A:=by
 cases c <;> rfl
def lY{A:Around}{R:Result->Shared->Prop}{prog:Program}{w:World}{s:Shared}{T I:Expr}{ifs:List Expr}{g acc:Value}{env:Env}(p:gens[d]?=aD ⟨T,I,ifs,0⟩)
  (o:codeAny (model prog w) A (.compLoop (cmE c gens scope pos) d g acc env) R s)
  (h:wpAny (model prog w) A (pyIter g) (λb f=>codeAny (model prog w) A (.compLoop (cmE c gens scope pos) d b acc env) R f) (notedBy (model prog w) A env λx f=>R (.error x) f) s) :
  codeAny (model prog w) A (.compStart (cmE c gens scope pos) d g acc env) R s:=by
 refine codeAny_of_tree ?_;rw[zE,zF];refine wpAny_notedAt ?_;unfold compStart;have j:(clausesOf (cmE c gens scope pos))[d]?=aD ⟨T,I,ifs,0⟩:=by rw[BL];exact p
 simp only[j,Option.elim];show wpAny _ _ (ask >>= _) _ _ s;refine Ux (wpAny_askSetting (wpAny_ite ?_));split
 ·first
   |exact Ux (UR (UR (And.intro rfl o)))
   |exact UR (And.intro rfl o)
 ·first
   |exact Ux (UX (Ux (UZ (Ux (UM h (λb f H=>UR (And.intro rfl H)) λ_ _ x=>x)))))
   |(refine Ux (UX ?_);show wpAny _ _ (standAt I.pos >>= _) _ _ s;exact Ux (UZ (Ux (UM h (λb f H=>UR (And.intro rfl H)) λ_ _ x=>x))))
def oJ
  (hx:Y.xe=λ_ _=>False) (hc:Y.calm=br) (hg:gens[d]?=aD ⟨tg,iter,ifs,0⟩) (T:Turn Y.prog Y.w Y.K tg J O it tn) (I2:Inv Y p σ H s) (st2:tn 0 s.heap) (f2:∀b ∈ O,hY Y p H b)
  (hgt:PG Y tg g) (hts:PTs Y ifs ti) (htl:PTl Y c gens scope pos acc d t) (hW:sj J g (eO ti t) D σ H) :
  codeAny (model Y.prog Y.w) Y.A (.compLoop (cmE c gens scope pos) d (.ref it) (.ref acc) Y.env) (λr s'=>r = .ok .next/\∃f H',Inv Y p f H' s'/\D.nx f H') s:=by
 obtain⟨W,⟨m0,w0⟩,U⟩:=hW;have h:∀ {H':Hp},(∀b ∈ O,H' b=aT)->∀b ∈ O,hY Y p H' b:=λhn b y=>⟨hn b y,(f2 b y).2⟩;refine codeAny_loop rfl (λn s'=>∃i f H',Inv Y p f H' s'/\tn i s'.heap/\(∀b ∈ O,H' b=aT)/\W i n f H') (λn s3 hI=>?_) m0 ⟨0,σ,H,I2,st2,λb y=>(f2 b y).1,w0⟩;obtain⟨i,v,H3,I3,Z,X,w3⟩:=hI;rw[BO,BP];refine wpAny_noted (UM (E:=λ_ _=>False) ?_ (λ_ _ q=>q) λ_ _ z=>z.elim);refine FA hg ?_;rcases U i n v H3 w3 with ⟨stop,qn⟩ |⟨go,N,hN,step⟩
 ·refine thn (T.done Y rfl rfl rfl hc i p s3 v H3 _ I3 (h X) Z stop) λr s4 ⟨hr,I4⟩=>?_;subst hr;exact⟨rfl,v,H3,I4,qn⟩
 ·refine thn (T.item Y rfl rfl rfl hc i p s3 v H3 _ I3 (h X) Z go) λr s4 ⟨u,hr,h4⟩=>?_;subst hr;refine thn h4 λ_ s5 ⟨x,H5,I5,r5,y5,B,fr5⟩=>?_;have I5':=I5.pinned (h fr5) (T.obj _ _ B)
  have again:∀ {j:St} {C:Hp} {M:Shared},Inv Y (p++lJ O s5.heap) j C M->N j C->∃m,m < n/\∃i f H',Inv Y p f H' M/\tn i M.heap/\(∀b ∈ O,H' b=aT)/\W i m f H':=λ{j C M} I n7=>by
   obtain⟨m',hm,w7⟩:=hN j C n7;refine⟨m',hm,i+1,j,C,I.unpinned,T.keep _ _ _ B λb y o e=>(I.pin (b,o) (ZC _ (ZC _ (fh y e)))).1,λb y=>?_,w7⟩;obtain⟨o,e,dd⟩:=T.obj _ _ B b y;exact(I.pin (b,o) (ZC _ (ZC _ (fh y e)))).2.1
  have hG:=hgt _ s5 v H5 x u _ I5' r5 (step x H5 y5);rw[hx] at hG;refine thn hG λ_ s6 ⟨Q,H6,I6,q6⟩=>?_;have hT:=hts _ s6 Q H6 _ I6 q6;rw[hx] at hT;refine thn hT λok M ⟨C,I,q7⟩=>?_;cases ok with
  |false=>
   simp only[Ye,if_false] at q7 ⊢;exact⟨by trivial,again I q7⟩
  |true=>
   simp only[if_true] at q7 ⊢;have L:=htl _ M Q C _ I q7;cases hn:gens[d+1]? with
   |none=>
    rw[hn] at L;exact thn L λ_ s9 ⟨σ9,H9,I9,q9⟩=>⟨by trivial,again I9 q9⟩
   |some g'=>
    rw[hn] at L;obtain⟨ha,L⟩:=L;exact⟨ha,thn L λx s8 h8=>thn h8 λx' s9 h9=>thn h9 λit' s10 h10=>thn h10 λ_ s11 ⟨σ9,H9,I9,q9⟩=>⟨by trivial,again I9 q9⟩⟩
abbrev BQ(wi:TI)(g:TG)(T:TT)(t:TS):TS:=λD b H=>wi b H λJ h=>sj J g (eO T t) D b h
def FH(o:gens[d+1]?=aD ⟨B,b,ifs,0⟩)
  (M:PI Y B b wi) (u:PG Y B g) (y:PTs Y ifs Z) (j:PTl Y c gens scope pos acc (d+1) t) (C:Y.xe=λ_ _=>False:=by rfl) (hc:Y.calm=br:=by rfl) (hs:∀x,V1 b Y.env x=pure x:=by intro _;rfl) :
  PTl Y c gens scope pos acc d (BQ wi g Z t):=by
 intro p s σ H D I h;rw[o];refine⟨rfl,?_⟩;have z:=M p s σ H _ I h;rw[C] at z;refine thn z λv s5 h5=>wpAny_of_eq (hs v) (thn h5 λitv O X=>?_);obtain⟨it,fp,tn,J,H6,e,E,T,f,Q,W⟩:=X;subst e;have L:=oJ (c:=c) (gens:=gens) (scope:=scope) (pos:=pos) (acc:=acc) C hc o T E f Q u y j W;refine wpAny_runOwn (VT (lY o L (T.self _ 0 O _ _ f L)) λr s8 U=>?_);obtain⟨rfl,q⟩:=U;exact q
end
abbrev ql(o:HO)(own:Nat)(wi:TI)(g:TG)(T:Addr->TS):TE:=λc H Q=>wi c H λJ h=>∀b,h b=aT ->
 sj J g (T b) { nx:=λ_ f=>Q (.ref b) f,rt:=λ_ _=>False } (c++Zp own aT) (upd h b o)
@[inline]abbrev PR:=ql (.lst [])
section
variable {X:Cx} {c:CmK} {elt tg iter:Expr} {ifs:List Expr} {rest:List WG} {scope:Scope} {pos:Pos} {own:List Str} {hs:List Nat} {wi:TI} {g:TG} {ti:TT} {t:Addr->TS}
def KS{p:List (Addr × Obj)}{b:St}{H:Hp}{s:Shared}{E:Value->Shared->Prop}{Q:Value->Shared->Prop}(I:Inv X p b H s)(h:∀o,Inv X p b (upd H s.heap.objs.size (cmO c)) { s with heap:=s.heap.push o }->Q (.ref s.heap.objs.size) { s with heap:=s.heap.push o }):wpAny (model X.prog X.w) X.A (cmN c) Q E s:=by
 cases c with
 |l e=>exact UP (h _ (I.lnew (its:=[]) (t':=s.toks) .nil (Xy _)))
 |d k v=>exact UP (h _ (I.laid (a:=s.heap.objs.size) (o:=.dK []) (t':=s.toks) (λ_ _ q=>Zj _ q) (Zc _) (lV s.heap I.big)))
def lZ{u:List (Addr × Obj)}{σ:St}{Q:VK}{itv:Value}{s2:Shared}{E:Value->Shared->Prop}(hc:X.calm=br)(S:CmScope own hs X.N scope X.env.scope)
  (hgt:∀C ex s H,PG (cxC X own hs scope C ex s H) tg g) (hts:∀C ex s H,PTs (cxC X own hs scope C ex s H) ifs ti)
  (htl:∀C ex s H f,PTl (cxC X own hs scope C ex s H) c (⟨tg,iter,ifs,0⟩::rest) scope pos f 0 (t f))
  (h2:PIE X u σ tg (λJ H1=>∀f,H1 f=aT->sj J g (eO ti (t f)) { nx:=λ_ v=>Q (.ref f) v,rt:=λ_ _=>False } (σ++Zp own.length aT) (upd H1 f (cmO c))) itv s2)
  {RR:Value->Addr->Result->Shared->Prop} (hRR:∀f C v s',Inv X u σ v s'->hY X u v C->(∃m,s'.heap.Ns C m)->Q (.ref f) v->RR (.ref f) C (.ok .next) s') :
  wpAny (model X.prog X.w) X.A (cmN c) (λf h=>wpAny (model X.prog X.w) X.A (V8 scope X.env.globals (cf X.env.cells scope.names []) [] X.env.qual aT .none (aD X.env)) (λy M=>
   codeAny (model X.prog X.w) X.A (.compStart (cmE c (⟨tg,iter,ifs,0⟩::rest) scope pos) 0 itv f { y with scope:=relabel scope X.env }) (RR f y.locals) M) E h) E s2:=by
 obtain⟨it,z,tn,J,H2,e,I2,T,st2,f2,R⟩:=h2;subst e;refine KS I2 λob I3=>?_;have W:=R s2.heap.objs.size (I2.hok.fresh (Zc _));generalize hs3:({ s2 with heap:=s2.heap.push ob }:Shared)=h at I3 ⊢;have e3:h.heap=s2.heap.push ob:=by rw[<-hs3]
 have k3:∀b o,s2.heap.get? b=aD o->h.heap.get? b=aD o:=λb o e=>by rw[e3];exact Zj _ e
 have st3:tn 0 h.heap:=T.keep _ _ _ st2 λb _ o e=>k3 b o e;have fne:∀b ∈ z,b < s2.heap.objs.size:=λb j=>let ⟨o,e,_⟩:=T.obj _ _ st2 b j;Zq e;have B:∀b ∈ z,hY X u (upd H2 s2.heap.objs.size (cmO c)) b:=λb j=>⟨by rw[aw (ZF (fne b j))];exact(f2 b j).1,(f2 b j).2⟩;have Z:∀b ∈ z,b < h.heap.objs.size:=λb j=>let ⟨o,e,_⟩:=T.obj _ _ st3 b j;Zq e;refine zB ?_;have U:=I3.compStart S B Z;generalize hH3:upd H2 s2.heap.objs.size (cmO c)=H3 at I3 U B W
 have eE:({ scope:=relabel scope X.env,locals:=h.heap.objs.size,globals:=X.env.globals,cells:=VQ (h.heap.objs.size+1) scope.names (cf X.env.cells scope.names []),qual:=X.env.qual,func:=aT,code:=X.env.code,frame:=X.env.frame,builtins:=X.env.builtins }:Env)=uX scope h.heap.objs.size X.env:=by
  unfold uX;rw[FC]
 generalize hs4:({ h with heap:=Ub (h.heap.push { cls:=.type "dict", data:=.dict #[] }) scope.names }:Shared)=M at U ⊢;have k4:∀b o,h.heap.get? b=aD o->M.heap.get? b=aD o:=λb o e=>by rw[<-hs4];exact Uc _ _ b o (Zj _ e)
 have O:tn 0 M.heap:=T.keep _ _ _ st3 λb _ o e=>k4 b o e
 have f4:∀b ∈ z,hY (cxC X own hs scope h.heap.objs.size z h H3) [] H3 b:=λb j=>by
  refine⟨(B b j).1,ZF (Z b j),U.ok.exfs b j,.inl j,λx c hl=>(U.ok.exf b j).2 x c hl,λp hp=>absurd (show p ∈ ([]:List (Addr × Obj)) from hp) (by simp)⟩
 have L:=oJ (Y:=cxC X own hs scope h.heap.objs.size z h H3) (c:=c) (gens:=⟨tg,iter,ifs,0⟩::rest) (d:=0) (scope:=scope) (pos:=pos) (acc:=s2.heap.objs.size) rfl hc rfl T U O f4 (hgt _ _ _ _) (hts _ _ _ _) (htl _ _ _ _ _) W;have C:=lY (c:=c) (gens:=⟨tg,iter,ifs,0⟩::rest) (d:=0) (scope:=scope) (pos:=pos) rfl L (T.self _ 0 M _ _ O L);show codeAny (model X.prog X.w) X.A (.compStart (cmE c (⟨tg,iter,ifs,0⟩::rest) scope pos) 0 (.ref it) (.ref s2.heap.objs.size) { scope:=relabel scope X.env,locals:=h.heap.objs.size,globals:=X.env.globals,cells:=VQ (h.heap.objs.size+1) scope.names (cf X.env.cells scope.names []),qual:=X.env.qual,func:=aT,code:=X.env.code,frame:=X.env.frame,builtins:=X.env.builtins }) (RR (.ref s2.heap.objs.size) h.heap.objs.size) M;rw[eE];refine VT C λr s' hr=>?_;obtain⟨rfl,σ',v,I,q⟩:=hr;obtain⟨mC,nC,_⟩:=id I.loc;have freeC:v h.heap.objs.size=aT:=I.free;refine hRR _ _ v s' ?_ (I3.fpOk (Zc _) freeC) ⟨mC,nC⟩ q;exact I3.call' (ch:=z) I.os I.base I.hok I.bare λb j=>⟨(B b j).2.2.2.1,(B b j).2.1,(B b j).2.2.2.2.1,(B b j).2.2.2.2.2⟩
def FI{env:Env}:eval (cmE c (⟨tg,iter,ifs,0⟩::rest) scope pos) env=VW (cmE c (⟨tg,iter,ifs,0⟩::rest) scope pos) scope env (firstIterPos (⟨tg,iter,ifs,0⟩::rest) pos) (cmN c) bx (eval iter env):=by
 cases c with
 |l e=>exact eval_ListComp ..
 |d k v=>unfold cmE;rw[eval];rfl
def xL(hc:X.calm=br)(S:CmScope own hs X.N scope X.env.scope)(O:PI X tg iter wi)
  (B:∀C ex s H,PG (cxC X own hs scope C ex s H) tg g) (E:∀C ex s H,PTs (cxC X own hs scope C ex s H) ifs ti)
  (u:∀C ex s H f,PTl (cxC X own hs scope C ex s H) c (⟨tg,iter,ifs,0⟩::rest) scope pos f 0 (t f))
  (hs:∀x,V1 iter X.env x=pure x:=by intro _;rfl) :
  PE X (cmE c (⟨tg,iter,ifs,0⟩::rest) scope pos) (ql (cmO c) own.length wi g λf=>eO ti (t f)):=by
 intro p s L H Q I h;rw[FI];refine UA (use:=aT) (cl:=cf X.env.cells scope.names []) BL hs (xH λy z J=>I.ok.has y.1 (S.fr y z J)) S.kind (λy z J=>c9 S.uniq (by rw[<-J];exact z)) ?_;refine thn (O p s L H _ I h) λv s1 Y=>thn Y λitv s2 h2=>?_;refine lZ (c:=c) hc S B E u h2 (RR:=λf C=>compPost (model X.prog X.w) X.A X.xe aT (EP X p L Q) f C) λf C T s' M j m' q=>?_;obtain⟨m,nm⟩:=m';refine⟨m,nm,λh' Z=>⟨.ref f,T,?_,rfl,q⟩⟩;exact M.turned (t':=s'.toks) (λb o U e=>(Z.2 b U).trans e) j.1 j.2.1 j.2.2.2.1 j.2.2.2.2.1 j.2.2.2.2.2
def KU{env:Env}{use:Value->Sem Unit}:evalThenUse (cmE c (⟨tg,iter,ifs,0⟩::rest) scope pos) env use=(do let _ <-VW (cmE c (⟨tg,iter,ifs,0⟩::rest) scope pos) scope env (firstIterPos (⟨tg,iter,ifs,0⟩::rest) pos) (cmN c) bx (eval iter env) (aD use)):=by
 cases c <;> rfl
def xM{i:Nat}(hc:X.calm=br)(S:CmScope own hs X.N scope X.env.scope)(hN:X.N.Nodup)(Z:X.N[i]?=aD x)(hx:X.env.scope.names.lookup x=aD .local)(hi:PI X tg iter wi)
  (U:∀C ex s H,PG (cxC X own hs scope C ex s H) tg g) (Y:∀C ex s H,PTs (cxC X own hs scope C ex s H) ifs ti)
  (M:∀C ex s H f,PTl (cxC X own hs scope C ex s H) c (⟨tg,iter,ifs,0⟩::rest) scope pos f 0 (t f))
  (hsw:Ul (cmE c (⟨tg,iter,ifs,0⟩::rest) scope pos) (aD (.Name x p)) E.line X.env=pure br:=by rfl)
  (hs:∀x,V1 iter X.env x=pure x:=by intro _;rfl) :
  PS X (.Assign [.Name x p] (cmE c (⟨tg,iter,ifs,0⟩::rest) scope pos) E) (uM (ql (cmO c) own.length wi g λf=>eO ti (t f)) (i5 i)):=by
 intro j s σ H D I h;rw[exec_Assign_Name_used _ _ _ _ hsw];rw[KU];refine Ux (UZ (Ux ?_));show wpAny _ X.A (do let _ <-VW (cmE c (⟨tg,iter,ifs,0⟩::rest) scope pos) scope X.env _ (cmN c) bx (eval iter X.env) (aD (assign (.Name x p) X.env))) _ _ s
 refine Ux (UM (UA (use:=aD (assign (.Name x p) X.env)) (Q:=λ_ B=>SP X j D .next B) (cl:=cf X.env.cells scope.names []) BL hs (xH λy O hk=>I.ok.has y.1 (S.fr y O hk)) S.kind (λy O hk=>c9 S.uniq (by rw[<-hk];exact O))
  ?_) (λ_ B hq=>UR (UR hq)) λ_ _ e=>e)
 refine thn (hi j s σ H _ I h) λv s1 h1=>thn h1 λitv s2 h2=>?_;refine lZ (c:=c) (Q:=λy T=>i5 i y σ T D.nx) hc S U Y M h2 (RR:=λf C=>compPost (model X.prog X.w) X.A X.xe (aD (assign (.Name x p) X.env)) (λ_ B=>SP X j D .next B) f C) λf C T B I' u m' q=>?_;obtain⟨m,nm⟩:=m';show wpAny _ X.A (assign (.Name x p) X.env (.ref f)) _ _ _;refine wpAny_assign_Name (oq (v:=.ref f) I' hN Z (.inl hx) rfl (λs'' I'' J=>?_) (.inr hx));obtain⟨a,L,ha⟩:=J
 have ne:C ≠ a:=by
  rcases ha with e |e
  ·rw[e];exact u.2.1
  ·exactλz=>u.2.2.2.2.1 x a e z.symm
 refine⟨m,nm.sameBut L ne,λh' sb=>⟨_,T,?_,q⟩⟩;exact I''.turned (t':=s''.toks) (λb o hb e=>(sb.2 b hb).trans e) u.1 u.2.1 u.2.2.2.1 u.2.2.2.2.1 u.2.2.2.2.2
end
end L2
namespace HT
open PySem PyProof.Rows
section
variable {prog:Program} {w:World} {A:Around} {E:Value->Shared->Prop} {s:Shared}
def BR{t b:Addr}{q:List Value}{Q:Value->Shared->Prop}(z:IsTup s.heap t ([]:List Value).toArray)(v:IsTup s.heap b q.toArray)(h:Q (.ref b) s):wpAny (model prog w) A (VI .Add (.ref t) (.ref b)) Q E s:=by
 obtain⟨⟨cls,B,u,sl⟩,p,o,n,hd⟩:=id z;obtain⟨⟨C,g,data2,j⟩,H,c,y,f⟩:=id v;simp only at o hd c f;subst o hd c f
 exact VX ⟨_,p,rfl⟩ ⟨_,H,rfl⟩ V9 Uf WV WK (WI _ _)
   (tuple_addW0 t b _ q.toArray n y B g sl j (by simp)) ⟨p,H,h⟩
def hZ{t sl:Addr}{I:Array Value}{p v:Value}{lo c:Option Int}{Q:Value->Shared->Prop}(H:IsTup s.heap t I)(hs:s.heap.IsSliceOf sl p v .none)(pl:IsPart p lo)(u:IsPart v c)
  (hw:sIx I.size 0 lo=0/\sIx I.size I.size c=I.size) (h:Q (.ref t) s):wpAny (model prog w) A (getItem (.ref t) (.ref sl)) Q E s:=by
 obtain⟨os,j,g,q⟩:=id hs;have f:s.TypeIs (.ref sl) "slice" := ⟨os,j,g⟩;obtain⟨o,z,y,n,hd⟩:=id H;unfold getItem
 try with_reducible refine UG ?_
 first |refine Ux (UR ?_) |skip
 refine Ux (UY H.typeIs (by decide) ?_)
 refine Ux (wpAny_callSpecial?_slot (name:=Str.ofString "__getitem__") H.typeIs WC
  (Uz WC H.typeIs entry_tuple_getitem ?_ (args_tuple_getitem _ _)))
 show wpAny _ _ (Builtin.Tuple.tupleItemsOf (.ref t) >>= _) _ _ s;refine Ux (tupleItemsOf_ H ?_);refine Ux (U1 f ?_);rw[if_pos (by decide)];refine Ux (eN hs pl u ?_)
 have b:((((sIx I.size 0 lo:Nat):Int) == 0 && (1:Int) == 1 && (sIx I.size I.size c - sIx I.size 0 lo) == I.size)=br):=by
  rw[hw.1,hw.2];simp
 show wpAny _ _ (if (((sIx I.size 0 lo:Nat):Int) == 0 && (1:Int) == 1 && (sIx I.size I.size c - sIx I.size 0 lo) == I.size)=br then _ else _) _ _ s;rw[if_pos b];have hT:s.TypeIs (.ref t) "tuple" := H.typeIs
 first
  | (refine Ux (m:=Builtin.Tuple.tupleIsExact _) ?_
     unfold Builtin.Tuple.tupleIsExact;refine Ux (U1 hT (UR ?_));rw[if_pos (by decide)];exact Ux (UX (UR ⟨_,rfl,UR h⟩)))
end
end HT
namespace L2
open PySem PySem.Spec PyProof.Rows
def BS{s:Shared}{h':Heap}{o:Obj}(h:∀b x,b ∉ [s.heap.objs.size]->(s.heap.push o).get? b=aD x->h'.get? b=aD x):∀b x,s.heap.get? b=aD x->h'.get? b=aD x:=
 λb x e=>h b x (λH=>by rw[Zt.mp H] at e;exact ZQ _ (Zq e)) (Zj _ e)
section
variable {X:Cx}
abbrev PU(K:Vh):R2:=λx y H Q=>∃a b xs Y,x = .ref a/\y = .ref b/\SqT K H a xs/\SqT K H b Y/\xs.length+Y.length<=sizeLine ∧
 (xs=[]->Q (.ref b) H)/\(xs ≠ []->Y=[]->Q (.ref a) H)/\(xs ≠ []->Y ≠ []->∀p,H p=aT->Q (.ref p) (upd H p (.tup (xs++Y))))
def FJ:OpR X (VI .Add) (PU X.K):=by
 intro p s O H x y v u Q I j g h;obtain⟨a,b,xs,Y,rfl,rfl,o,f,B,z,J,L⟩:=h;by_cases c:xs=[]
 ·subst c;cases j;cases g;obtain⟨M,r1,E,_⟩:=I.tuple o;obtain⟨q,r2,C,_⟩:=I.tuple f;cases r1;exact HT.BR E C ⟨.ref b,H,I,rfl,z rfl⟩
 ·exact Fv p s O H _ _ v u Q I j g ⟨a,b,xs,Y,rfl,rfl,o,f,c,B,J c,L c⟩
abbrev SL(K:Vh):V->Option Int->Option Int->Hp->VK->Prop:=λx lo h H Q=>∃a xs,x = .ref a/\SqT K H a xs ∧
 ((HT.sIx xs.length 0 lo=0/\HT.sIx xs.length xs.length h=xs.length)->Q (.ref a) H) ∧
 (¬ (HT.sIx xs.length 0 lo=0/\HT.sIx xs.length xs.length h=xs.length)->∀p,H p=aT->Q (.ref p) (upd H p (.tup (lR xs lo h))))
def FK:SlR X (SL X.K):=by
 intro p s E H x v y z lo g sl Q I o hs pl u h;obtain⟨a,xs,rfl,q,B,C⟩:=h;by_cases c:(HT.sIx xs.length 0 lo=0/\HT.sIx xs.length xs.length g=xs.length)
 ·cases o;obtain⟨f,r,j,J⟩:=I.tuple q;have b:f.toArray.size=xs.length:=by rw[Zk];exact r.length.symm
  refine⟨"tuple", _,PyProof.Rows.slot_tuple_getitem.lookup,j.typeIs,?_⟩;exact HT.hZ j hs pl u (by rw[b];exact c) ⟨.ref a,H,I,rfl,B c⟩
 ·exact KL p s E H _ v y z lo g sl Q I o hs pl u ⟨a,xs,rfl,q,c,C c⟩
def sr:aZ X (.builtin "isinstance") (λxs H Q=>∃x n t b,xs=[x,.ty n]/\TyOf X.K H x t/\Vv X.K t (.type n)=aD b/\Q (.bl b) H):=by
 intro p s j H xs U Q I r h;obtain⟨x,n,t,b,rfl,ty,e,q⟩:=h;obtain⟨u,g,rfl,c,f⟩:=xy r;cases f;exact zw I c ty e λT=>⟨.bl b,H,I.tok T,rfl,q⟩
def ma:∀ {bs:List Bool} {u:List Value},aK (bs.map V.bl) u->u=bs.map Value.bool
 |[],_,.nil=>rfl
 |_::_,_,.cons r t=>by rw[Zs,ma t];cases r;rfl
def zG(hc:X.calm=br):aZ X (.builtin "all") (λxs H Q=>∃ (l:Addr) (bs:List Bool),xs=[.ref l]/\SqL X.K H l (bs.map V.bl)/\Q (.bl (bs.all id)) H):=by
 intro y s σ H xs Z Q I r h;obtain⟨l,bs,rfl,J,q⟩:=h;obtain⟨u,rfl,C⟩:=cQ r;cases C;obtain⟨L,B,p,hz⟩:=I.list J;have e:=ma B;subst e;have o:=p.isList;have j:l < s.heap.objs.size:=by obtain⟨_,e,_⟩:=o;exact Zq e
 refine call_all_walk (UT o ?_)
 refine⟨s.heap.objs.size,[s.heap.objs.size,l],[s.heap.objs.size],_,_,_,λi=>(bs[i]?).getD br,rfl,Walks.list (A:=X.A.in1) (I.ok.hd hc) _ l (ZF j) _,
  ⟨⟨_,ZI _ rfl,rfl,rfl⟩,o.push _⟩,λi v s' Q' U M z=>?_,λY T O=>?_⟩
 ·have c:(bs.map Value.bool)[i]?=aD v:=by simpa using M
  rw[Zo] at c;cases g:bs[i]? with
  |none=>rw[g] at c;cases c
  |some b=>
   rw[g] at c;have E:Value.bool b=v:=Option.some.inj c;subst E;simp only[g,Ym] at z;exact U0 z
 ·have e:((Zl (bs.map Value.bool).toArray.size).all λi=>(bs[i]?).getD br)=bs.all id:=by
   rw[Zk,Za,ZY];simp only[Ze,ZT,id];constructor
   ·intro h b g;obtain⟨i,f,rfl⟩:=Xz.mp g;have:=h i f
    rwa [gEG f,Ym] at this
   ·intro h i f;rw[gEG f,Ym];exact h _ (ZK f)
  rw[e];exact⟨.bl (bs.all id),H,I.kept (t':=T) (BS O),rfl,q⟩
def KW:OpR X (VU .Is) (λx y H Q=>∃b c,x = .bl b/\y = .bl c/\Q (.bl (b == c)) H):=by
 intro p s j H x y v u Q I f g h;obtain⟨b,c,rfl,rfl,q⟩:=h;cases f;cases g;exact is_bool ⟨.bl _,H,I,rfl,q⟩
def zH:OpR X (VU .IsNot) (λx y H Q=>∃b c,x = .bl b/\y = .bl c/\Q (.bl (b != c)) H):=by
 intro p s j H x y v u Q I f g h;obtain⟨b,c,rfl,rfl,q⟩:=h;cases f;cases g;exact isnot_bool ⟨.bl _,H,I,rfl,q⟩
def md(hc:X.calm=br):∀ {p:List (Addr × Obj)} {s:Shared} {z:St} {H:Hp} {Q:VK} {r:Addr} {n:Nat} {t u v:Tok},Inv X p z H s->IsRange s.heap r 0 n 1 t u v->n<=1000->(∀l,H l=aT->Q (.ref l) (upd H l (.lst ((Zl n).map λ(i:Nat)=>V.int i)))) ->
  wpAny (model X.prog X.w) X.A (call (.type "list") [.ref r]) (EP X p z Q) X.xe s:=by
 intro p s z H Q r n t u v I Z U q;have C:Builtin.Range.small 0 n 1=br:=small_one (by lia) (by lia) (by lia) (by lia);refine call_list_range (n:=n) (I.ok.hd hc) Z C (by rw[rangeSize_one];split <;> lia) (by lia) λh' g b L hk E h=>?_;refine⟨.ref s.heap.objs.size,_,I.laid (t':=g) (o:=.lst ((Zl n).map λ(i:Nat)=>V.int i)) hk (Zc _) ?_,rfl,q _ (I.hok.fresh (Zc _))⟩;have B:b.size=n:=h.1;refine⟨by rw[Za,Z2];exact Xk (zA U),b.toList,L,?_,by simpa using E⟩
 have go:∀ (m:Nat) (k:Nat) (l:List Value),l.length=m->(∀j x,l[j]?=aD x->∃g,x=Value.int (((k+j:Nat):Nat):Int) g)->aK ((List.range' k m).map λ(i:Nat)=>V.int i) l:=by
  intro m
  induction m with
  |zero=>intro k l c _;cases l with |nil=>exact .nil |cons _ _=>cases c
  |succ m J=>
   intro k l c f;cases l with
   |nil=>cases c
   |cons x l=>
    rw[List.range'_succ,Zs];obtain⟨t,e⟩:=f 0 x rfl;refine .cons ⟨t,by simpa using e⟩ (J (k+1) l (by simpa using c) λj y M=>?_);obtain⟨Y,O⟩:=f (j+1) y (by simpa using M);exact⟨Y,by rw[O,show((k+(j+1):Nat):Int)=((k+1+j:Nat):Int) from by lia]⟩
 rw[List.range_eq_range'];refine go n 0 b.toList (by simpa using B) λj x f=>?_;obtain⟨T,e⟩:=h.2 j x (by simpa using f);exact⟨T,by rw[e,show(0:Int)+(j:Nat) * 1=((0+j:Nat):Int) from by lia]⟩
end
end L2
namespace HT
open PySem PyProof.Rows
open AutoSeq1 (wpAny_loadPart')
section
variable {prog:Program} {w:World} {A:Around} {E:Value->Shared->Prop} {s:Shared}
def kR{i:Nat}(h:s.heap.IsTupleIter b t i)(p:s.heap.IsTuple t I)(q:I[i]?=aD x)
  (g:∀h',h'.IsTupleIter b t (i+1)->Heap.SameBut b s.heap h'->Q x { s with heap:=h' }):wpAny (model prog w) A (Builtin.SmallTypes.nextOf (.ref b)) Q E s:=by
 obtain⟨o,H,j,hd⟩:=id h;obtain⟨O,f,_,u,c⟩:=p;unfold Builtin.SmallTypes.nextOf
 refine Ux (wpAny_callSpecial?_slot (name:=Str.ofString "__next__") h.typeIs WX
  (Uz WX h.typeIs WL ?_ (WJ _)))
 show wpAny _ _ (field (.ref b) 0 >>= _) _ _ s;refine Ux (UE H hd (x:=.ref t) rfl ?_);show wpAny _ _ (if (Value.ref t == Value.none)=br then _ else _) _ _ s;rw[if_neg (show ¬ ((Value.ref t == Value.none)=br) from Zg)];show wpAny _ _ (field (.ref b) 1 >>= _) _ _ s;refine Ux (UE H hd (x:=.int i 0) rfl ?_);show wpAny _ _ (seqItems? (.ref t) >>= _) _ _ s;refine Ux (wpAny_seqItems f c ?_);simp only[ZN,q];refine Ux (wpAny_setField H hd (by simp) (UR ⟨x,rfl,UR (g _ ?_ (Heap.SameBut.update ..))⟩))
 exact⟨_,Xr _ H (Obj.isFreed_of_fields (Obj.data_mapFields hd _)),(Obj.cls_mapFields ..).trans j,by
  rw[Obj.data_mapFields hd];simp[rawInt]⟩
def me{i:Nat}(g:A.handled=aT)(h:s.heap.IsTupleIter b t i)(j:s.heap.IsTuple t I)(p:I[i]?=aT)
  (q:∀h' e,Heap.ExtBut b s.heap h'->(∃o,h'.get? e=aD o/\o.cls = .type "StopIteration")->E (.ref e) { s with heap:=h' }):wpAny (model prog w) A (Builtin.SmallTypes.nextOf (.ref b)) Q E s:=by
 obtain⟨o,c,u,hd⟩:=id h;obtain⟨O,f,_,v,H⟩:=j;unfold Builtin.SmallTypes.nextOf
 refine Ux (wpAny_callSpecial?_slot (name:=Str.ofString "__next__") h.typeIs WX
  (Uz WX h.typeIs WL ?_ (WJ _)))
 show wpAny _ _ (field (.ref b) 0 >>= _) _ _ s;refine Ux (UE c hd (x:=.ref t) rfl ?_);show wpAny _ _ (if (Value.ref t == Value.none)=br then _ else _) _ _ s;rw[if_neg (show ¬ ((Value.ref t == Value.none)=br) from Zg)];show wpAny _ _ (field (.ref b) 1 >>= _) _ _ s;refine Ux (UE c hd (x:=.int i 0) rfl ?_);show wpAny _ _ (seqItems? (.ref t) >>= _) _ _ s;refine Ux (wpAny_seqItems f H ?_);simp only[ZN,p];refine Ux (UX (Ux (wpAny_setField c hd (by simp) ?_)));show wpAny _ _ (newExc (.type "StopIteration") [] >>= _) _ _ _;refine Ux ?_;simp only[newExc,newTuple];refine Ux (UP ?_ (by size_fits));refine Ux (m:=firstArgMember _ _) (wpAny_of_eq (a:=Value.none) (by first |rfl |(simp only[firstArgMember];rfl)) ?_);refine UP ?_ (by size_fits);simp only[raiseNew];refine Ux (wpAny_handled ?_)
 first |rw[show A.in1.handled=aT from g] |rw[g]
 refine Ux (UR (wpAny_throw ?_));exact q _ _ (((Heap.SameBut.update ..).extBut.push _).push _) ⟨_,ZI _ rfl,rfl⟩
end
def BU(u:A.handled=aT)(c l:Addr)(f:l ≠ c)(I:Array Value) :
  Draws prog w A c [c,l] I.size (λi v=>I[i]?=aD v) (λi h=>h.IsTupleIter c l i/\h.IsTuple l I) where
 live:=λ_ _ st=>let ⟨o,ho,_⟩:=st.1;⟨o,ho⟩
 frame:=λ_ _ _ st j=>⟨st.1.at λo e=>j c (by simp) o e,let ⟨o,e,r⟩:=st.2;⟨o,j l (by simp) o e,r⟩⟩
 item:=λi s Q E g st p=>by
  refine kR st.1 st.2 (x:=I[i]) (by simp[g]) λq b H=>?_;exact p _ q s.toks (by simp[g]) ⟨b,let ⟨o,e,r⟩:=st.2;⟨o,H.extBut l o f e,r⟩⟩ H
 done:=λs Q E st y=>me u st.1 st.2 (by simp) y
def su(l:Addr)(items:Array Value)(n:Nat)(f:Option Addr)(sl:Array (Option Value)) :
  Meets (Builtin.«enumerate.__new__» ⟨[.type "enumerate", .ref l],[]⟩) (λ_ R s=>s.heap.get? l=aD { cls:=.type "tuple", dict:=f,data:=.seq items n,slots:=sl } ∧
   R (.ok (.ret (.ref (s.heap.push { cls:=.type "tuple_iterator", data:=.fields #[.ref l,.int 0 0] }).objs.size)))
    { s with heap:=(s.heap.push { cls:=.type "tuple_iterator", data:=.fields #[.ref l,.int 0 0] }).push { cls:=.type "enumerate", data:=.fields #[.none,.bool bx,.ref s.heap.objs.size,rawInt 0,.none,.none] } }):=
 .of_wp λprog w A R s h=>by
  obtain⟨o,g,d,T,os⟩:=s;obtain⟨H,h⟩:=h;have j:=sub_enumerate;have b:Heap.IsTuple (Shared.heap ⟨o,g,d,T,os⟩) l items:=⟨_,H,rfl,n,rfl⟩
  wp_walk using UK H
  refine wpAny_stack_any λst=>UR ?_;split
  ·rename_i c _ _ _ _ _;cases (c == Value.type "enumerate")
   ·wp_walk using UK H,UU b
    exact⟨_,rfl,h⟩
   ·wp_walk using UK H,UU b
    exact⟨_,rfl,h⟩
  ·wp_walk using UK H,UU b
   exact⟨_,rfl,h⟩
def u5(p:IsTup s.heap l I)
  (h:∀h',IsEnum h' (s.heap.objs.size+1) s.heap.objs.size 0 .none->h'.IsTupleIter s.heap.objs.size l 0->h'.objs.size=s.heap.objs.size+2 ->
   (∀b o,s.heap.get? b=aD o->h'.get? b=aD o)->Q (.ref (s.heap.objs.size+1)) { s with heap:=h' }) :
  wpAny (model prog w) A (call (.type "enumerate") [.ref l]) Q E s:=by
 obtain⟨⟨c,g,q,sl⟩,u,f,n,hd⟩:=p;replace f:c = .type "tuple" := f;replace hd:q = .seq I n:=hd;subst f hd
 refine callType_new PySem.F.called_enumerate (by decide) (PySem.F.typeCall_enumerate_1 _) (PySem.F.newCall_enumerate_1 _) (λobj=>PySem.F.args_object_init_2 obj _) PySem.F.entry_enumerate_new
  (su l I n g sl) ⟨u,?_⟩
 have H:(s.heap.push { cls:=.type "tuple_iterator", data:=.fields #[.ref l,.int 0 0] }).objs.size=s.heap.objs.size+1:=YT ..;show _/\_;rw[H]
 have j:IsEnum ((s.heap.push { cls:=.type "tuple_iterator", data:=.fields #[.ref l,.int 0 0] }).push
   { cls:=.type "enumerate", data:=.fields #[.none,.bool bx,.ref s.heap.objs.size,rawInt 0,.none,.none] }) (s.heap.objs.size+1) s.heap.objs.size 0 .none:=by
  have:=ZI (s.heap.push { cls:=.type "tuple_iterator", data:=.fields #[.ref l,.int 0 0] })
   (o:={ cls:=.type "enumerate", data:=.fields #[.none,.bool bx,.ref s.heap.objs.size,rawInt 0,.none,.none] }) rfl
  rw[H] at this;exact this
 exact⟨⟨_,j,rfl⟩,h _ j ⟨_,Zj _ (ZI _ rfl),rfl,rfl⟩ (by rw[YT,H]) λb o x=>Zj _ (Zj _ x)⟩
end HT
namespace L2
open PySem PySem.Spec PyProof.Rows
abbrev Ite(K:Vh)(a:Addr)(b:Vh->Hp->Addr->List V->Prop):It:=
 ⟨λi H=>∃xs x,b K H a xs/\xs[i]?=aD x,λi H x h=>∃T,H T=aT/\x = .ref T/\∀xs v,b K H a xs->xs[i]?=aD v->h=upd H T (.tup [.int i,v]),λi H=>∃xs,b K H a xs/\xs.length=i⟩
def Inv.turnedLaid{X:Cx}{p:List (Addr × Obj)}{B:St}{H:Hp}{s:Shared}{h':Heap}{T:Addr}{o:HO}{t':Nat}{ch:List Addr}(I:Inv X p B H s)(g:∀b ∈ ch,hY X p H b)
  (k:∀b ob,b ∉ ch->s.heap.get? b=aD ob->h'.get? b=aD ob) (y:s.heap.objs.size<=T) (new:bz X.prog X.w (upd H T o) h' T o):Inv X p B (upd H T o) { s with heap:=h',toks:=t' }:=by
 have fr:=I.hok.fresh y;have neT:∀b ob,s.heap.get? b=aD ob->b ≠ T:=λb ob e=>ZF (Zx (Zq e) y)
 refine I.step (g':=s.gens) (d':=s.drawn) (ch:=ch) (λb h=>⟨(g b h).2.2.2.1,(g b h).2.1,(g b h).2.2.2.2.1,(g b h).2.2.2.2.2⟩) (λb ob _ _ f e _=>k b ob f e) (λb ob _ _ f e _=>⟨ob.slots,k b ob f e⟩)
  (λb ob _ e n=>by rw[aw (neT b ob e)];exact n) (λb ob f e=>⟨ob,k b ob f e⟩) (λb xs q=>by rw[aw (aV q fr)];exact q) (λb u xs q=>by rw[aw (aV q fr)];exact q)
  (λb ps q=>⟨#[],by rw[aw (aV q fr),q];simp⟩) (λm C=>?_) (λb u q=>?_) I.bare
 ·obtain⟨ob,L,E,j,J⟩:=C;exact⟨ob,L,E,k _ ob (λz=>(g _ z).2.1 rfl) j,J⟩
 ·by_cases h:b=T
  ·subst h;rw[aC] at q;cases q;exact new
  ·rw[aw h] at q;refine(I.hok b u q).stay (λc v f Q=>k c v (λz=>?_) Q) (λc q=>by rw[aw (aV q fr)];exact q) λc xs q=>by rw[aw (aV q fr)];exact q
   have n:=(g c z).1;rcases f with w |w
   ·rw[w,q] at n;cases n
   ·rw[w] at n;cases n
def Inv.turnedAll{X:Cx}{p:List (Addr × Obj)}{o:St}{H:Hp}{s:Shared}{h':Heap}{t':Nat}{ch:List Addr}(I:Inv X p o H s)(f:∀b ∈ ch,hY X p H b)
  (k:∀b ob,b ∉ ch->s.heap.get? b=aD ob->h'.get? b=aD ob):Inv X p o H { s with heap:=h',toks:=t' }:=by
 refine I.step (g':=s.gens) (d':=s.drawn) (ch:=ch) (λb g=>⟨(f b g).2.2.2.1,(f b g).2.1,(f b g).2.2.2.2.1,(f b g).2.2.2.2.2⟩) (λb ob _ _ h e _=>k b ob h e) (λb ob _ _ h e _=>⟨ob.slots,k b ob h e⟩)
  (λb ob _ e n=>n) (λb ob h e=>⟨ob,k b ob h e⟩) (λb xs q=>q) (λb u xs q=>q)
  (λb ps q=>⟨#[],by rw[q];simp⟩) (λm y=>?_) (λb u q=>?_) I.bare
 ·obtain⟨ob,C,E,j,B⟩:=y;exact⟨ob,C,E,k _ ob (λz=>(f _ z).2.1 rfl) j,B⟩
 ·refine(I.hok b u q).stay (λc v h Q=>k c v (λz=>?_) Q) (λc q=>q) λc xs q=>q;have n:=(f c z).1;rcases h with w |w
  ·rw[w,q] at n;cases n
  ·rw[w] at n;cases n
def u6{P:Program}{w:World}{K:Vh}{elts:List Expr}{x1:Nat}{tp:Pos}(a e it:Addr)(U:e ≠ it) :
  Turn P w K (.Tuple elts x1 tp) (Ite K a SqL) [e,it] e (λi h=>(∃O,IsEnum h e it i O)/\h.IsListIter it a i) where
 mem:=by simp
 obj:=λi h st b J=>by
  obtain⟨⟨O,B⟩,o,M,c,d⟩:=st;rcases Zm.mp J with z |z
  ·subst z;exact⟨_,B,λv z=>by have z':Data.fields _=Data.cell v:=z;cases z'⟩
  ·have z':=Zt.mp z;subst z';exact⟨o,M,λv z=>by rw[d] at z;cases z⟩
 keep:=λi h h' st k=>⟨let ⟨O,B⟩:=st.1;⟨O,k e (by simp) _ B⟩,st.2.at λo M=>k it (by simp) o M⟩
 item:=by
  intro X hP hw hK hc i pins s σ H E I hf st hg;subst hP hw hK;obtain⟨xs,x,hq,hx⟩:=hg;obtain⟨f,rv,p,hz⟩:=I.list hq;obtain⟨u,hu,ru⟩:=rv.get hx;obtain⟨⟨O,B⟩,j⟩:=st;have Z:s.heap.IsList a f.toArray:=p.isList
  have hae:e ≠ a:=λz=>by
   subst z;obtain⟨o,C,hc',n,g⟩:=id Z;rw[B] at C;cases C;have z':Data.fields _=Data.seq f.toArray n:=g;cases z'
  have T:a ≠ it:=λz=>by
   subst z;obtain⟨o,C,hc',n,g⟩:=id Z;obtain⟨o',Q,c',d'⟩:=id j;rw[Q] at C;cases C;rw[d'] at g;cases g
  have hi:i < f.toArray.size:=by
   have:=(Zb.mp hu).1
   simpa using this
  refine UW (Draws.list (A:=X.A.in1) (I.ok.hd hc) it a T f.toArray) B ⟨j,Z⟩ hi U (by simp[U,hae]) λy h' tk hP C hs' hT hsz hk=>?_
  have ey:y=u:=by
   have z:f.toArray[i]?=aD u:=by simpa using hu
   rw[z] at hP;exact(Option.some.inj hP).symm
  subst ey;refine⟨_,rfl,?_⟩;refine UI C λh2 he2 Y=>?_;have L:e < s.heap.objs.size:=Zq B;have hilt:it < s.heap.objs.size:=by obtain⟨o,M,_⟩:=j;exact Zq M
  have hT2:h2.get? s.heap.objs.size=aD { cls:=.type "tuple", data:=.seq #[.int i tk,y] }:=(Y.2 _ (XR L)).trans hT;have fresh:=I.hok.fresh (Zc s.heap.objs.size);refine⟨.ref s.heap.objs.size,upd H s.heap.objs.size (.tup [.int i,x]),?_,rfl,⟨_,fresh,rfl,λys v hy hv=>?_⟩,⟨⟨y,by simpa using he2⟩,hs'.1.at λo M=>(Y.2 it (Ne.symm U)).trans M⟩,λb J=>?_⟩
  ·exact I.turnedLaid (t':=tk+1) hf (λb ob J eb=>(Y.2 b λz=>J (by simp[z])).trans (hk b ob (λz=>J (by simp[z])) (λz=>J (by simp[z])) eb)) (Zc _)
    ⟨by show 2<=sizeLine;decide,[.int i tk,y],.cons ⟨tk,rfl⟩ (.cons ru .nil),⟨_,hT2,rfl,_,rfl,rfl⟩⟩
  ·rw[I.list_inj hy hq,hx] at hv;cases hv;rfl
  ·rcases Zm.mp J with z |z
   ·rw[z,aw (ZF L)];exact(hf e (by simp)).1
   ·rw[Zt.mp z,aw (ZF hilt)];exact(hf it (by simp)).1
 done:=by
  intro X hP hw hK hc i pins s σ H E I hf st hg;subst hP hw hK;obtain⟨xs,hq,hx⟩:=hg;obtain⟨f,rv,p,hz⟩:=I.list hq;obtain⟨⟨O,B⟩,j⟩:=st;have Z:s.heap.IsList a f.toArray:=p.isList
  have T:a ≠ it:=λz=>by
   subst z;obtain⟨o,C,hc',n,g⟩:=id Z;obtain⟨o',Q,c',d'⟩:=id j;rw[Q] at C;cases C;rw[d'] at g;cases g
  have hn:f.toArray.size=i:=by rw[Zk,<-rv.length,hx]
  subst hn;refine UV (Draws.list (A:=X.A.in1) (I.ok.hd hc) it a T f.toArray) B ⟨j,Z⟩ λh' eb=>⟨rfl,?_⟩;exact I.turnedAll (t':=s.toks) hf λb ob J q=>eb b ob (λz=>J (by simp[z])) q
 self:=λ_ _ _ _ _ st h=>let ⟨⟨O,B⟩,_⟩:=st;US B h
def u7{P:Program}{w:World}{K:Vh}{elts:List Expr}{x1:Nat}{tp:Pos}(a e it:Addr)(U:e ≠ it) :
  Turn P w K (.Tuple elts x1 tp) (Ite K a SqT) [e,it] e (λi h=>(∃O,IsEnum h e it i O)/\h.IsTupleIter it a i) where
 mem:=by simp
 obj:=λi h st b J=>by
  obtain⟨⟨O,B⟩,o,M,c,d⟩:=st;rcases Zm.mp J with z |z
  ·subst z;exact⟨_,B,λv z=>by have z':Data.fields _=Data.cell v:=z;cases z'⟩
  ·have z':=Zt.mp z;subst z';exact⟨o,M,λv z=>by rw[d] at z;cases z⟩
 keep:=λi h h' st k=>⟨let ⟨O,B⟩:=st.1;⟨O,k e (by simp) _ B⟩,st.2.at λo M=>k it (by simp) o M⟩
 item:=by
  intro X hP hw hK hc i pins s σ H E I hf st hg;subst hP hw hK;obtain⟨xs,x,hq,hx⟩:=hg;obtain⟨f,rv,p,hz⟩:=I.tuple hq;obtain⟨u,hu,ru⟩:=rv.get hx;obtain⟨⟨O,B⟩,j⟩:=st;have Z:s.heap.IsTuple a f.toArray:=p
  have hae:e ≠ a:=λz=>by
   subst z;obtain⟨o,C,hc',n,g⟩:=id Z;rw[B] at C;cases C;have z':Data.fields _=Data.seq f.toArray n:=g;cases z'
  have T:a ≠ it:=λz=>by
   subst z;obtain⟨o,C,hc',n,g⟩:=id Z;obtain⟨o',Q,c',d'⟩:=id j;rw[Q] at C;cases C;rw[d'] at g;cases g
  have hi:i < f.toArray.size:=by
   have:=(Zb.mp hu).1
   simpa using this
  refine UW (HT.BU (A:=X.A.in1) (I.ok.hd hc) it a T f.toArray) B ⟨j,Z⟩ hi U (by simp[U,hae]) λy h' tk hP C hs' hT hsz hk=>?_
  have ey:y=u:=by
   have z:f.toArray[i]?=aD u:=by simpa using hu
   rw[z] at hP;exact(Option.some.inj hP).symm
  subst ey;refine⟨_,rfl,?_⟩;refine UI C λh2 he2 Y=>?_;have L:e < s.heap.objs.size:=Zq B;have hilt:it < s.heap.objs.size:=by obtain⟨o,M,_⟩:=j;exact Zq M
  have hT2:h2.get? s.heap.objs.size=aD { cls:=.type "tuple", data:=.seq #[.int i tk,y] }:=(Y.2 _ (XR L)).trans hT;have fresh:=I.hok.fresh (Zc s.heap.objs.size);refine⟨.ref s.heap.objs.size,upd H s.heap.objs.size (.tup [.int i,x]),?_,rfl,⟨_,fresh,rfl,λys v hy hv=>?_⟩,⟨⟨y,by simpa using he2⟩,hs'.1.at λo M=>(Y.2 it (Ne.symm U)).trans M⟩,λb J=>?_⟩
  ·exact I.turnedLaid (t':=tk+1) hf (λb ob J eb=>(Y.2 b λz=>J (by simp[z])).trans (hk b ob (λz=>J (by simp[z])) (λz=>J (by simp[z])) eb)) (Zc _)
    ⟨by show 2<=sizeLine;decide,[.int i tk,y],.cons ⟨tk,rfl⟩ (.cons ru .nil),⟨_,hT2,rfl,_,rfl,rfl⟩⟩
  ·rw[I.tuple_inj hy hq,hx] at hv;cases hv;rfl
  ·rcases Zm.mp J with z |z
   ·rw[z,aw (ZF L)];exact(hf e (by simp)).1
   ·rw[Zt.mp z,aw (ZF hilt)];exact(hf it (by simp)).1
 done:=by
  intro X hP hw hK hc i pins s σ H E I hf st hg;subst hP hw hK;obtain⟨xs,hq,hx⟩:=hg;obtain⟨f,rv,p,hz⟩:=I.tuple hq;obtain⟨⟨O,B⟩,j⟩:=st;have Z:s.heap.IsTuple a f.toArray:=p
  have T:a ≠ it:=λz=>by
   subst z;obtain⟨o,C,hc',n,g⟩:=id Z;obtain⟨o',Q,c',d'⟩:=id j;rw[Q] at C;cases C;rw[d'] at g;cases g
  have hn:f.toArray.size=i:=by rw[Zk,<-rv.length,hx]
  subst hn;refine UV (HT.BU (A:=X.A.in1) (I.ok.hd hc) it a T f.toArray) B ⟨j,Z⟩ λh' eb=>⟨rfl,?_⟩;exact I.turnedAll (t':=s.toks) hf λb ob J q=>eb b ob (λz=>J (by simp[z])) q
 self:=λ_ _ _ _ _ st h=>let ⟨⟨O,B⟩,_⟩:=st;US B h
abbrev KY(K:Vh)(T:TA):TI:=λb H R=>T b H λv h=>∃a xs,v=[.ref a]/\SqL K h a xs/\R (Ite K a SqL) h
abbrev PV(K:Vh)(T:TA):TI:=λb H R=>T b H λv h=>∃a xs,v=[.ref a]/\SqT K h a xs/\R (Ite K a SqT) h
section
variable {X:Cx} {elts:List Expr} {x1:Nat} {tp:Pos}
def BV{a:Expr}{T:TA}{p pos:Pos}(Z:Gl X "enumerate")(E:X.mg "enumerate" = aT)(Y:PA X [a] T)(hs:Ui [a] X.env=[(bx,eval a X.env)]:=by rfl):PI X (.Tuple elts x1 tp) (.Call (.Name "enumerate" p) [a] [] pos) (KY X.K T):=by
 intro c s B H R I h;refine Call_ (ir I Z E Wu (WB (thn (Y pos c s B H _ I h) λus f ⟨vs,v,g,r1,Q⟩=>?_) hs rfl));obtain⟨l,xs,e,O,q⟩:=Q;subst e;obtain⟨u,rfl,L⟩:=cQ r1;cases L;obtain⟨U,rv,pl,hz⟩:=g.list O;refine call_enumerate_list pl.isList λC y o J hk=>US y ?_;have M:Inv X c B v { f with heap:=C }:=g.kept (t':=f.toks) hk;have fr:∀b,f.heap.objs.size<=b->hY X c v b:=λb j=>g.fpOk j (g.hok.fresh j);refine⟨_,[f.heap.objs.size+1,f.heap.objs.size],_,_,v,rfl,M,u6 l _ _ (X2 _),⟨⟨_,y⟩,o⟩,λb j=>?_,q⟩;rcases Zm.mp j with z |z
 ·rw[z];exact fr _ (Yw _)
 ·rw[Zt.mp z];exact fr _ (Zc _)
def KZ{a:Expr}{T:TA}{p pos:Pos}(Z:Gl X "enumerate")(E:X.mg "enumerate" = aT)(Y:PA X [a] T)(hs:Ui [a] X.env=[(bx,eval a X.env)]:=by rfl):PI X (.Tuple elts x1 tp) (.Call (.Name "enumerate" p) [a] [] pos) (PV X.K T):=by
 intro c s B H R I h;refine Call_ (ir I Z E Wu (WB (thn (Y pos c s B H _ I h) λus f ⟨vs,v,g,r1,Q⟩=>?_) hs rfl));obtain⟨l,xs,e,O,q⟩:=Q;subst e;obtain⟨u,rfl,L⟩:=cQ r1;cases L;obtain⟨U,rv,pl,hz⟩:=g.tuple O;refine HT.u5 pl λC y o J hk=>US y ?_;have M:Inv X c B v { f with heap:=C }:=g.kept (t':=f.toks) hk;have fr:∀b,f.heap.objs.size<=b->hY X c v b:=λb j=>g.fpOk j (g.hok.fresh j);refine⟨_,[f.heap.objs.size+1,f.heap.objs.size],_,_,v,rfl,M,u7 l _ _ (X2 _),⟨⟨_,y⟩,o⟩,λb j=>?_,q⟩;rcases Zm.mp j with z |z
 ·rw[z];exact fr _ (Yw _)
 ·rw[Zt.mp z];exact fr _ (Zc _)
end
section
variable {X:Cx}
def sv:aZ X (.type "range") (λxs H Q=>∃j:Int,xs=[.int j]/\∀p,H p=aT->Q (.ref p) (upd H p (.rng 0 j))):=by
 intro c s g H xs U Q I r h;obtain⟨j,rfl,q⟩:=h;obtain⟨u,rfl,f⟩:=cQ r;obtain⟨t,rfl⟩:=f;exact call_range_1 ⟨.ref s.heap.objs.size,_,I.laid (t':=s.toks+1+1) (o:=.rng 0 j) (λb o e=>Zj _ e) (Zc _) ⟨_,_,_,ZI _ rfl⟩,rfl,q _ (I.hok.fresh (Zc _))⟩
def qo(hc:X.calm=br):aZ X (.type "list") (λxs H Q=>∃ (p:Addr) (n:Nat),xs=[.ref p]/\H p=aD (.rng 0 n)/\n<=1000/\∀l,H l=aT->Q (.ref l) (upd H l (.lst ((Zl n).map λ(i:Nat)=>V.int i)))):=by
 intro b s j H xs U Q I r h;obtain⟨p,n,rfl,f,g,q⟩:=h;obtain⟨u,rfl,c⟩:=cQ r;cases c;obtain⟨t,u,v,e⟩:=(show bz X.prog X.w H s.heap p (.rng 0 n) from I.hok p _ f);exact md hc I e g q
end
section
variable {X:Cx}
abbrev Jt(i j k:Nat)(T:TA):TS:=λD b H=>T b H λc h=>∃v w z,c=[v,w,z]/\D.nx (((b.set i (aD v)).set j (aD w)).set k (aD z)) h
def FL{i j k:Nat}{M Y g}(hc:X.calm=br)(hN:X.N.Nodup)(hi:X.N[i]?=aD x)(hj:X.N[j]?=aD y)(hk:X.N[k]?=aD z)(J:i ≠ j)(E:i ≠ k)(L:j ≠ k)
  (hx:X.env.scope.names.lookup x=aD .local) (hy:X.env.scope.names.lookup y=aD .local) (hz:X.env.scope.names.lookup z=aD .local) (ha:PA X [a,b,c] ta)
  (hw:Uk [.Tuple [.Name x px,.Name y py,.Name z pz] M pt] (.Tuple [a,b,c] Y g) X.env=pure (aD [x,y,z]))
  (hs:Um [.Tuple [.Name x px,.Name y py,.Name z pz] M pt] (.Tuple [a,b,c] Y g) pos.line X.env=pure bx:=by rfl) :
  PS X (.Assign [.Tuple [.Name x px,.Name y py,.Name z pz] M pt] (.Tuple [a,b,c] Y g) pos) (Jt i j k ta):=by
 intro f s σ H D I h;rw[exec_Assign_arm];refine Ux (UZ ?_);rw[hs];refine Ux (UR ?_);rw[if_neg (by decide)];refine Ux (Tuple_ (thn (ha _ f s σ H _ I h) λus B ⟨vs,H1,I1,r1,O⟩=>?_));obtain⟨v,w,z',e1,O⟩:=O;subst e1
 obtain⟨C,U,u3,rfl,rv,T,rz⟩:∃C U u3,us=[C,U,u3]/\aG v C/\aG w U/\aG z' u3:=by
  cases r1 with
  |cons p q=>
   cases q with
   |cons p' q'=>
    cases q' with
    |cons Z Q=>
     cases Q;exact⟨_,_,_,rfl,p,p',Z⟩
 refine UP ?_ (by show 3<=sizeLine;decide);have I2:Inv X f σ H1 { B with heap:=B.heap.push { cls:=.type "tuple", data:=.seq [C,U,u3].toArray } }:=I1.kept (t':=B.toks) λb o e=>Zj _ e;rw[hw];refine Ux (UR ?_);show wpAny (model X.prog X.w) X.A (do rule "assign.swapped-stores"; let u <-Uu (.ref B.heap.objs.size) 3 aT;VG [λv=>VJ X.env z v,λv=>VJ X.env y v,λv=>VJ X.env x v] u.reverse;pure Flow.next) _ _ _;refine Ux (UX (Ux (unpackItems_tuple (items:=#[C,U,u3]) (I.ok.hd hc) (IsTup.new B.heap _) λh' hx'=>?_)));have I3:=I2.kept (h':=h') (t':=B.toks) λb o e=>hx' b o (ZF (Zq e)) e;show wpAny _ _ (VG [λv=>VJ X.env z v,λv=>VJ X.env y v,λv=>VJ X.env x v] [u3,U,C] >>= λ_=>pure Flow.next) _ _ _;refine Ux (assignInOrder_cons (Uy (ce I3 hN hk (.inl hz) rz (λs2 I4=>?_) (.inr hz))));refine assignInOrder_cons (Uy (ce I4 hN hj (.inl hy) T (λs3 I5=>?_) (.inr hy)));refine assignInOrder_cons (Uy (ce I5 hN hi (.inl hx) rv (λs4 I6=>assignInOrder_nil (UR ?_)) (.inr hx)));refine⟨_,H1,?_,O⟩;rw[Xd _ _ (Ne.symm L),Xd _ _ (Ne.symm E),Xd (aD w) (aD v) (Ne.symm J)] at I6;exact I6
end
abbrev iA:List Str->Bool
 |[]=>br
 |x::r=>!r.contains x && iA r
def gb:∀ {l:List Str},iA l=br->l.Nodup
 |[],_=>Wg
 |x::r,h=>by
  unfold iA at h;rw[bAE] at h;refine Yq.mpr ⟨λm=>?_,gb h.2⟩;have:=h.1;simp[m] at this
abbrev cmB(own:List Str)(hs:List Nat)(N:List Str)(b sc:Scope):Bool:=
 (b.kind == .function) && iA (dq hs N++own) && iA (b.names.map (·.1)) && ((dq hs N).all λx=>b.names.lookup x != aD .local && b.names.lookup x != aD .cell) &&
 (b.names.all λy=>y.2 != .free || (sc.names.lookup y.1 == aD .cell || sc.names.lookup y.1 == aD .free)) && hs.all λi=>(b.names.lookup (BF i)).isNone
def u8(hs:List Nat)(h:cmB own hs N b sc=br):CmScope own hs N b sc:=by
 unfold cmB at h;simp only[bAE,Ze] at h;obtain⟨⟨⟨⟨⟨g,q⟩,o⟩,f⟩,c⟩,j⟩:=h;refine⟨by simpa using g,gb q,gb o,λx p=>?_,λy H v=>?_,λi u=>by simpa using j i u⟩
 ·have:=f x p
  simpa using this
 ·have:=c y H;rw[v] at this
  simpa using this
section
variable {X:Cx} {tg l a:Expr} {tl:TE} {ta:TA} {es:List Expr} {t:TGs} {p pos:Pos} {n k:Nat} {elts:List Expr} {x1:Nat} {tp:Pos} {o e:Expr} {to:TE} {tt:TA} {name:Str} {apos cpos:Pos}
abbrev Ju(K:Vh):List V->Hp->VK->Prop:=λxs H Q=>∃x n t b,xs=[x,.ty n]/\TyOf K H x t/\Vv K t (.type n)=aD b/\Q (.bl b) H
def qp(K:Vh)(h:X.K=K:=by rfl):aZ X (.builtin "isinstance") (Ju K):=h ▸ sr
end
def BW(H:PE X k T)(h:PE X v b):PE X (.Dict [aD k] [v] pos) (BK [(T,b)]):=FF (BJ H h FE) rfl rfl (by simp) (by simp)
def iB:∀ {xs:List V} {U:List Value},aK xs U->xs.all bT=br->U.countP (eqU x)=xs.countP λy=>eqV y x
 |_,_,.nil,_=>rfl
 |y::xs,u::U,.cons r t,f=>by
  rw[ZZ,bAE] at f;rw[YX,YX,qe r f.1,iB t f.2]
section
variable {X:Cx}
abbrev FM(K:Vh):V->List V->Hp->VK->Prop:=λx v H Q=>∃p xs y,x = .ref p/\v=[y]/\SqT K H p xs/\bT y=br/\xs.all bT=br/\Q (.int ((xs.countP λz=>eqV z y:Nat):Int)) H
def zI(K:Vh)(J:X.K=K:=by rfl):MtR X "tuple.count" (FM K):=by
 subst J;intro c s Y H x T v U Q I L o h;obtain⟨p,xs,y,rfl,rfl,B,M,fs,q⟩:=h;cases L;obtain⟨u,rfl,C⟩:=o.one;obtain⟨b,r,⟨⟨cls,j,g,sl⟩,e,f,n,hd⟩,O⟩:=I.tuple B;simp only at f hd;subst f hd;refine VO WW ⟨_,e,rfl⟩ F.entry_tuple_count (F.args_tuple_count_2 _ _) (SeqAt.tuple_countAt p b.toArray n j sl u (eqU y)) ⟨e,λw E=>cE C M r fs w (by simpa using E),?_⟩;refine⟨.int _,H,I.tok _,⟨_,rfl⟩,?_⟩
 have z:(b.toArray.toList.countP (eqU y))=xs.countP λz=>eqV z y:=by
  rw[Y3];exact iB r fs
 rw[z];exact q
end
end L2
namespace Dw
open PySem PySem.Spec PyProof.Rows L2
inductive D where
 |non |bl (b:Bool) |int (i:Int) |str (x:Str) |tup (ds:List D) |lst (ds:List D) |dic (ks:List Key) (ds:List D)
mutual
noncomputable def Br(N:List Addr)(H:Hp):D->V->Prop
 |.non,v=>v = .non
 |.bl b,v=>v = .bl b
 |.int i,v=>v = .int i
 |.str x,v=>v = .str x
 |.tup ds,v=>∃a xs,v = .ref a/\H a=aD (.tup xs)/\BrL N H ds xs
 |.lst ds,v=>∃a xs,v = .ref a/\a ∉ N/\H a=aD (.lst xs)/\BrL N H ds xs
 |.dic ks ds,v=>∃a xs,v = .ref a/\a ∉ N/\H a=aD (.dK (ks.zip xs))/\ks.length=ds.length/\BrL N H ds xs
noncomputable def BrL(N:List Addr)(H:Hp):List D->List V->Prop
 |[],xs=>xs=[]
 |d::ds,xs=>∃x r,xs=x::r/\Br N H d x/\BrL N H ds r
end
mutual
noncomputable def dep:D->Nat
 |.tup ds=>i8 ds+1
 |.lst ds=>i8 ds+1
 |.dic _ ds=>i8 ds+1
 |_=>0
noncomputable def i8:List D->Nat
 |[]=>0
 |d::ds=>max (dep d) (i8 ds)
end
mutual
noncomputable def wid:D->Nat
 |.tup ds=>max ds.length (qq ds)
 |.lst ds=>max ds.length (qq ds)
 |.dic _ ds=>max ds.length (qq ds)
 |_=>0
noncomputable def qq:List D->Nat
 |[]=>0
 |d::ds=>max (wid d) (qq ds)
end
def BrL.len:∀ {ds:List D} {xs:List V},BrL N H ds xs->xs.length=ds.length
 |[],_,h=>by simp only[BrL] at h;rw[h];rfl
 |d::ds,_,h=>by
  simp only[BrL] at h;obtain⟨x,r,rfl,_,b⟩:=h;rw[ZB,ZB,BrL.len b]
abbrev isB:D->Bool |.bl _=>br |_=>bx
abbrev isW(d:D):Bool:=match d with |.int _=>br |_=>bx
abbrev ai(d:D)(a b:Int):Bool:=match d with |.int i=>decide (a<=i) && decide (i<=b) |_=>bx
abbrev isT(d:D)(a b:Int):Bool:=match d with |.tup ds=>decide (a<=(ds.length:Int)) && decide ((ds.length:Int)<=b) |_=>bx
abbrev bL(n:Nat)(d:D):Bool:=match d with |.tup ds=>decide (ds.length=n) && ds.all (λe=>ai e 1 99) |_=>bx
abbrev mf(rows:List D)(a b:Nat):Int:=match rows[a]? with
 |some (.tup r)=>(match r[b]? with |some (.int i)=>i |_=>0)
 |_=>0
abbrev fU(rows:List D)(a b c:Nat):Bool:=decide (mf rows a b<=mf rows a c+mf rows c b)
abbrev nZ(rows:List D)(n:Nat):List Bool:=(Zl n).flatMap λa=>(Zl n).flatMap λb=>(Zl n).map λc=>fU rows a b c
abbrev aR(d:D):Bool:=match d with
 |.tup rows=>(decide (1<=rows.length) && decide (rows.length<=4)) && (rows.all (bL rows.length) && (nZ rows rows.length).all id)
 |_=>bx
abbrev ltD(x y:D):Bool:=match x,y with |.int i,.int j=>decide (i < j) |_,_=>bx
abbrev av(d:D):Bool:=match d with |.tup [b,e]=>ai b 0 9999 && (ai e 0 9999 && ltD b e) |_=>bx
abbrev eP(ds:List D)(i:Nat):Int:=match ds[i]? with |some (.tup [.int b,_])=>b |_=>0
abbrev dU(ds:List D)(i:Nat):Int:=match ds[i]? with |some (.tup [_,.int e])=>e |_=>0
abbrev jO(ds:List D):List Bool:=(Zl (ds.length - 1)).map λi=>decide (dU ds i < eP ds (i+1))
abbrev aM(d:D):Bool:=match d with |.tup ds=>decide (ds.length<=4) && (ds.all av && (jO ds).all id) |_=>bx
abbrev ba(d:D):Bool:=match d with
 |.tup [r,s,g,h]=>ai r 0 8 && (ai s 0 60 && (aR g && aM h))
 |_=>bx
def qr(ds:List D)(n:Nat):isT (.tup ds) n n=decide (ds.length=n):=by
 unfold isT;rw[ZY];simp;omega
def aj{a b:Int}(h:ai d a b=br):∃i,d = .int i/\a<=i/\i<=b:=by
 cases d with
 |int i=>simp[ai] at h;exact⟨i,rfl,h.1,h.2⟩
 |_=>simp[ai] at h
def fj{n a b:Nat}(h:rows.all (bL n)=br)(f:a < rows.length)(o:b < n):∃r i,rows[a]?=aD (.tup r)/\r[b]?=aD (.int i)/\mf rows a b=i/\1<=i/\i<=99:=by
 have c:=Ze.mp h rows[a] (ZK f);have E:rows[a]?=aD rows[a]:=gEG f;generalize hd:rows[a]=d at c E;cases d with
 |tup r=>
  simp only[bL,bAE,decide_eq_true_eq] at c;have H:b < r.length:=by omega
  obtain⟨i,j,l,u⟩:=aj (Ze.mp c.2 r[b] (ZK H));have g:r[b]?=aD (.int i):=by rw[gEG H,j]
  exact⟨r,i,E,g,by unfold mf;rw[E];dsimp only;rw[g],l,u⟩
 |_=>simp[bL] at c
def gL{b:Type}(n:Nat)(f:Nat->List b):(Zl (n+1)).flatMap f=(Zl n).flatMap f++f n:=by
 rw[Yc,XD];simp
def qt{b:Type}{n m:Nat}{f:Nat->List b}(h:∀i,i < n->(f i).length<=m):((Zl n).flatMap f).length<=n * m:=by
 induction n with
 |zero=>simp
 |succ n I=>
  rw[gL,Zi];have:=I λi H=>h i (by omega);have:=h n (by omega);rw[XU];omega
def K0(ds:List D):isT (.tup ds) 1 4=(decide (1<=ds.length) && decide (ds.length<=4)):=by
 unfold isT;rw[ZY];simp;omega
def K1(ds:List D):isT (.tup ds) 0 4=decide (ds.length<=4):=by
 unfold isT;rw[ZY];simp;omega
def BX(ds:List D):isT (.tup ds) 2 2=decide (ds.length=2):=qr ds 2
def BZ(ds:List D):isT (.tup ds) 4 4=decide (ds.length=4):=qr ds 4
def qv(h:ds.length=2):∃b e,ds=[b,e]:=by
 match ds,h with
 |[b,e],_=>exact⟨b,e,rfl⟩
def kY(h:ds.length=4):∃a b c d,ds=[a,b,c,d]:=by
 match ds,h with
 |[a,b,c,d],_=>exact⟨a,b,c,d,rfl⟩
def mh(h:av d=br):∃b e,d = .tup [.int b,.int e]/\0<=b/\b<=9999/\0<=e/\e<=9999/\b < e:=by
 unfold av at h;split at h
 ·rename_i b e;simp only[bAE] at h;obtain⟨c,f,H⟩:=h;obtain⟨i,rfl,l1,u⟩:=aj c;obtain⟨j,rfl,l2,U⟩:=aj f;simp[ltD] at H;exact⟨i,j,rfl,l1,u,l2,U,H⟩
 ·cases h
def xN{i:Nat}(h:ds.all av=br)(H:i < ds.length):∃b e,ds[i]?=aD (.tup [.int b,.int e])/\eP ds i=b/\dU ds i=e:=by
 obtain⟨b,e,q,_⟩:=mh (Ze.mp h ds[i] (ZK H));have E:ds[i]?=aD (.tup [.int b,.int e]):=by rw[gEG H,q]
 exact⟨b,e,E,by unfold eP;rw[E],by unfold dU;rw[E]⟩
abbrev bg(ds:List D)(lo h:Option Int):List D:=(ds.drop (HT.sIx ds.length 0 lo)).take (HT.sIx ds.length ds.length h - HT.sIx ds.length 0 lo)
def xO(ds:List D)(lo h:Option Int):(bg ds lo h).length<=ds.length:=by
 unfold bg;rw[ZA,Yg];omega
def sy:∀ {ds:List D},d ∈ ds->dep d<=i8 ds
 |e::ds,h=>by
  rw[i8];rcases Zm.mp h with z |z
  ·rw[z];omega
  ·have:=sy z;omega
def mi:∀ {ds:List D},d ∈ ds->wid d<=qq ds
 |e::ds,h=>by
  rw[qq];rcases Zm.mp h with z |z
  ·rw[z];omega
  ·have:=mi z;omega
def xP{n:Nat}:∀ {ds:List D},(∀d ∈ ds,dep d<=n)->i8 ds<=n
 |[],_=>by rw[i8];omega
 |e::ds,h=>by
  rw[i8];have:=h e Zd;have:=xP (ds:=ds) λd hd=>h d (Zf _ hd);omega
def xQ{n:Nat}:∀ {ds:List D},(∀d ∈ ds,wid d<=n)->qq ds<=n
 |[],_=>by rw[qq];omega
 |e::ds,h=>by
  rw[qq];have:=h e Zd;have:=xQ (ds:=ds) λd hd=>h d (Zf _ hd);omega
structure Fit(n m:Nat)(d:D):Prop where
 de:dep d<=n
 wi:wid d<=m
def Fit.up{n m b M:Nat}(h:Fit n m d)(H:n<=b)(c:m<=M):Fit b M d:=⟨Zz h.de H,Zz h.wi c⟩
def Fit.tup{n m:Nat}(hl:ds.length<=m)(h:∀d ∈ ds,Fit n m d):Fit (n+1) m (.tup ds):=by
 refine⟨?_,?_⟩
 ·rw[dep];have:=xP (n:=n) λd hd=>(h d hd).de;omega
 ·rw[wid];have:=xQ (n:=m) λd hd=>(h d hd).wi;omega
def Fit.len{n m:Nat}(h:Fit n m (.tup ds)):ds.length<=m:=by have:=h.wi;rw[wid] at this;omega
def Fit.mem{n m:Nat}(h:Fit (n+1) m (.tup ds))(hd:d ∈ ds):Fit n m d:=by
 have H:=h.de;have b:=h.wi;rw[dep] at H;rw[wid] at b;have:=sy hd;have:=mi hd;exact⟨by omega,by omega⟩
def Fit.pos{n m:Nat}(h:Fit n m (.tup ds)):1<=n:=by have H:=h.de;rw[dep] at H;omega
def cA{ds:List D}{lo H:Option Int}{d:D}(h:d ∈ bg ds lo H):d ∈ ds:=List.mem_of_mem_drop (YI h)
def u9(n:Nat)(a:Int)(h:0<=a):HT.sIx n 0 (aD a)=min a.toNat n:=by
 show(if a < 0 then (a+(n:Int)).toNat else min a.toNat n)=_;rw[if_neg (by omega)]
def mj(n:Nat)(a:Int)(h:0<=a):HT.sIx n n (aD a)=min a.toNat n:=by
 show(if a < 0 then (a+(n:Int)).toNat else min a.toNat n)=_;rw[if_neg (by omega)]
def K2(ds:List D)(a:Int)(h:0<=a):(bg ds aT (aD a)).length<=a.toNat:=by
 unfold bg;rw[mj _ _ h,ZA,Yg];omega
def B0(ds:List D)(a:Int)(h:0<=a)(H:a<=ds.length):(bg ds (aD a) aT).length+a.toNat<=ds.length:=by
 unfold bg;rw[u9 _ _ h,ZA,Yg];omega
def FN(ds:List D)(a:Int)(h:0<=a):(bg ds (aD a) (aD (a+1))).length<=1:=by
 unfold bg;rw[u9 _ _ h,mj _ _ (by omega),ZA];omega
def FO(ds:List D):(bg ds (aD (-1)) aT).length<=1:=by
 unfold bg
 have e:HT.sIx ds.length 0 (aD (-1))=((-1:Int)+(ds.length:Int)).toNat:=by
  show(if (-1:Int) < 0 then ((-1:Int)+(ds.length:Int)).toNat else min (-1:Int).toNat ds.length)=_;rw[if_pos (by decide)]
 rw[e,ZA,Yg];have E:HT.sIx ds.length ds.length aT=ds.length:=rfl;rw[E];omega
def fk{k m:Nat}{ds:List D}{lo H:Option Int}(h:Fit (k+1) m (.tup ds)):Fit (k+1) m (.tup (bg ds lo H)):=Fit.tup (Zz (xO ds lo H) h.len) λd hd=>h.mem (cA hd)
def i9{k m:Nat}(h:Fit (k+1) m (.tup ds))(H:Fit (k+1) m (.tup E))(hl:(ds++E).length<=m):Fit (k+1) m (.tup (ds++E)):=Fit.tup hl λd hd=>(Zu.mp hd).elim (λz=>h.mem z) λz=>H.mem z
def FP{k m:Nat}(h:Fit k m d)(b:1<=m):Fit (k+1) m (.tup [d]):=Fit.tup b λe H=>by rw[Zt.mp H];exact h
abbrev SM:D->Bool |.non=>br |.bl _=>br |.int _=>br |.str _=>br |_=>bx
def SN{k m:Nat}(h:SM d=br):Fit k m d:=by
 cases d with
 |tup b=>cases h
 |lst b=>cases h
 |dic c b=>cases h
 |_=>exact⟨by simp[dep],by simp[wid]⟩
def Fit.lst{n m:Nat}(h:Fit n m (.tup ds)):Fit n m (.lst ds):=⟨by have:=h.de;simp only[dep] at this ⊢;exact this,by have:=h.wi;simp only[wid] at this ⊢;exact this⟩
abbrev gc(q:Int × Int):D:=.tup [.int q.1,.int q.2]
structure Good(es:List (Int × Int))(b:Int):Prop where
 each:∀q ∈ es,0<=q.1/\q.1 < q.2/\q.2<=b
 rise:∀ (i:Nat) q q',es[i]?=aD q->es[i+1]?=aD q'->q.2 < q'.1
def Good.nil{b:Int}:Good [] b:=⟨(λ_ h=>nomatch h),λi q Q h _=>by simp at h⟩
def Good.more{b x y:Int}(h:Good f b)(u:0<=b)(p:b < x)(v:x < y):Good (f++[(x,y)]) y:=by
 refine⟨λq g=>?_,λi q Q c E=>?_⟩
 ·rcases Zu.mp g with z |z
  ·have:=h.each q z;omega
  ·rw[Zt.mp z];show 0<=x/\x < y/\y<=y;omega
 ·by_cases j:i+1 < f.length
  ·rw[Zw (by omega)] at c;rw[Zw j] at E;exact h.rise i q Q c E
  ·have o:=(Zb.mp E).1;rw[Zi,ZJ] at o;have H:i+1=f.length:=by omega
   rw[Zn (by omega),H,Z7] at E;cases E;rw[Zw (by omega)] at c;have:=h.each q (Zy c);show q.2 < x;omega
def Good.shuts{b:Int}(h:Good E b)(u:b<=9999)(hl:E.length<=4):aM (.tup (E.map gc))=br:=by
 have hs:(E.map gc).all av=br:=by
  rw[ZW,Ze];intro q o;have:=h.each q o;show av (gc q)=br;simp only[gc,av,ai,ltD,bAE,decide_eq_true_eq];omega
 unfold aM;rw[bAE,bAE];refine⟨decide_eq_true (by rw[Za];exact hl),hs,?_⟩;rw[Ze];intro x H;unfold jO at H;obtain⟨i,p,rfl⟩:=ZH.mp H;rw[ZT,Za] at p;have f:E[i]?=aD E[i]:=gEG (by omega);have c:E[i+1]?=aD E[i+1]:=gEG (by omega);have r:=h.rise i _ _ f c;have g:dU (E.map gc) i=E[i].2:=by unfold dU;rw[Zo,f];rfl
 have j:eP (E.map gc) (i+1)=E[i+1].1:=by unfold eP;rw[Zo,c];rfl
 show decide (dU (E.map gc) i < eP (E.map gc) (i+1))=br;rw[g,j];exact decide_eq_true r
abbrev mg2(M:List (List Int))(i j:Nat):Int:=(((M[i]?).getD [])[j]?).getD 0
structure Mat(n:Nat)(M:List (List Int)):Prop where
 len:M.length=n
 row:∀r ∈ M,r.length=n
 ent:∀r ∈ M,∀x ∈ r,1<=x/\x<=99
def Mat.at{n:Nat}(h:Mat n M){i j:Nat}(f:i < n)(o:j < n):∃r,M[i]?=aD r/\r.length=n/\r[j]?=aD (mg2 M i j)/\1<=mg2 M i j/\mg2 M i j<=99:=by
 have b:i < M.length:=by rw[h.len];exact f
 have E:M[i]?=aD M[i]:=gEG b;have g:=h.row _ (ZK b);have H:j < M[i].length:=by omega
 have c:mg2 M i j=M[i][j]:=by unfold mg2;rw[E,Ym,gEG H,Ym]
 have:=h.ent _ (ZK b) _ (ZK H);exact⟨M[i],E,g,by rw[c,gEG H],by omega,by omega⟩
abbrev xR(n k:Nat)(M:List (List Int)):Prop:=∀a b q,a < n->b < n->q < k->mg2 M a b<=mg2 M a q+mg2 M q b
def B1{n k:Nat}(h:Mat n M)(c:k < n)(u:xR n k M)(p:∀i j,i < n->j < n->mg2 M' i j=min (mg2 M i j) (mg2 M i k+mg2 M k j)):xR n (k+1) M':=by
 intro a b q o g I;have H:q < n:=by omega
 obtain⟨_,_,_,_,E,_⟩:=h.at o g;obtain⟨_,_,_,_,B,_⟩:=h.at o c;obtain⟨_,_,_,_,v,_⟩:=h.at c g;obtain⟨_,_,_,_,z,_⟩:=h.at c c;obtain⟨_,_,_,_,y,_⟩:=h.at o H;obtain⟨_,_,_,_,Q,_⟩:=h.at H g;obtain⟨_,_,_,_,C,_⟩:=h.at c H;obtain⟨_,_,_,_,L,_⟩:=h.at H c;rw[p a b o g,p a q o H,p q b H g];by_cases e:q=k
 ·subst e;omega
 ·have f:q < k:=by omega
  have J:=u a b q o g f;have T:=u k b q c g f;have O:=u a k q o c f;omega
abbrev eR(M:List (List Int)):List D:=M.map λr=>.tup (r.map .int)
def qw{n:Nat}(h:Mat n M){i j:Nat}(b:i < n)(H:j < n):mf (eR M) i j=mg2 M i j:=by
 obtain⟨r,c,_,E,_,_⟩:=h.at b H;unfold mf eR;rw[Zo,c];show(match (r.map D.int)[j]? with |some (.int i)=>i |_=>0)=_;rw[Zo,E];rfl
def B2{n:Nat}(h:Mat n M)(q:1<=n)(p:n<=4)(u:xR n n M):aR (.tup (eR M))=br:=by
 have v:(eR M).length=n:=by unfold eR;rw[Za,h.len]
 unfold aR;dsimp only;rw[v];simp only[bAE,decide_eq_true_eq];refine⟨⟨q,p⟩,?_,?_⟩
 ·rw[Ze];intro d hd;obtain⟨r,o,rfl⟩:=ZH.mp hd;unfold bL;dsimp only;rw[bAE];refine⟨decide_eq_true (by rw[Za];exact h.row r o),?_⟩;rw[ZW,Ze];intro x H;have:=h.ent r o x H;show ai (.int x) 1 99=br;simp only[ai,bAE,decide_eq_true_eq];omega
 ·rw[Ze];intro x H;unfold nZ at H;obtain⟨a,j,H⟩:=Z0.mp H;obtain⟨b,f,H⟩:=Z0.mp H;obtain⟨c,g,rfl⟩:=ZH.mp H;rw[ZT] at j f g;show fU (eR M) a b c=br;unfold fU;rw[qw h j f,qw h j g,qw h g f];exact decide_eq_true (u a b c j f g)
abbrev bJ(M:List (List Int))(n c i:Nat):List Int:=(Zl n).map λj=>if mg2 M i c+mg2 M c j < mg2 M i j then mg2 M i c+mg2 M c j else mg2 M i j
def ml(M:List (List Int))(n c i:Nat):(bJ M n c i).length=n:=by unfold bJ;rw[Za,Z2]
def sA(M:List (List Int)){n c i j:Nat}(h:j < n):(bJ M n c i)[j]?=aD (if mg2 M i c+mg2 M c j < mg2 M i j then mg2 M i c+mg2 M c j else mg2 M i j):=by
 unfold bJ;rw[Zo,Y4 h];rfl
def FQ{n c:Nat}(h:Mat n M)(hc:c < n):∀i j,i < n->j < n->mg2 ((Zl n).map (bJ M n c)) i j=min (mg2 M i j) (mg2 M i c+mg2 M c j):=λi j b H=>by
 have e:mg2 ((Zl n).map (bJ M n c)) i j=if mg2 M i c+mg2 M c j < mg2 M i j then mg2 M i c+mg2 M c j else mg2 M i j:=by
  show((((Zl n).map (bJ M n c))[i]?.getD [])[j]?).getD 0=_;rw[Zo,Y4 b];show((bJ M n c i)[j]?).getD 0=_;rw[sA M H];rfl
 rw[e];split <;> omega
def B3{n c:Nat}(h:Mat n M)(hc:c < n):Mat n ((Zl n).map (bJ M n c)):=by
 refine⟨by rw[Za,Z2],λr f=>?_,λr f x g=>?_⟩
 ·obtain⟨u,_,rfl⟩:=ZH.mp f;exact ml M n c u
 ·obtain⟨u,b,rfl⟩:=ZH.mp f;rw[ZT] at b;unfold bJ at g;obtain⟨j,H,rfl⟩:=ZH.mp g;rw[ZT] at H;obtain⟨_,_,_,_,v,q⟩:=h.at b H;obtain⟨_,_,_,_,p,Q⟩:=h.at b hc;obtain⟨_,_,_,_,o,y⟩:=h.at hc H;split <;> omega
def xS(r s g h:D):ba (.tup [r,s,g,h])=(ai r 0 8 && (ai s 0 60 && (aR g && aM h))):=rfl
def qx(h:¬ (1<=rows.length/\rows.length<=4)):aR (.tup rows)=bx:=by
 have:(decide (1<=rows.length) && decide (rows.length<=4))=bx:=by
  rw[Z3];intro z;simp at z;exact h ⟨z.1,z.2⟩
 simp only[aR,this,ZL]
def qy{i:Nat}(h:rows[i]?=aD d)(H:bL rows.length d=bx):aR (.tup rows)=bx:=by
 have:rows.all (bL rows.length)=bx:=by
  rw[Z3];intro z;have:=Ze.mp z d (Zy h);rw[H] at this;cases this
 simp only[aR,this,ZL,ZP]
def Sw{n:Nat}:x ∈ nZ rows n ↔ ∃a b c,a < n/\b < n/\c < n/\x=fU rows a b c:=by
 unfold nZ;simp only[Z0,ZH,ZT];constructor
 ·rintro⟨a,f,b,h,c,H,rfl⟩;exact⟨a,b,c,f,h,H,rfl⟩
 ·rintro⟨a,b,c,f,h,H,rfl⟩;exact⟨a,f,b,h,c,H,rfl⟩
def qz{a b c:Nat}(f:a < rows.length)(H:b < rows.length)(hc:c < rows.length)(h:fU rows a b c=bx):aR (.tup rows)=bx:=by
 have:(nZ rows rows.length).all id=bx:=by
  rw[Z3];intro z;have:=Ze.mp z _ (Sw.mpr ⟨a,b,c,f,H,hc,rfl⟩);rw[id,h] at this;cases this
 simp only[aR,this,ZP]
def zJ(g:1<=rows.length)(f:rows.length<=4)(q:rows.all (bL rows.length)=br)(o:∀a b c,a < rows.length->b < rows.length->c < rows.length->fU rows a b c=br):aR (.tup rows)=br:=by
 have:(nZ rows rows.length).all id=br:=by
  rw[Ze];intro x p;obtain⟨a,b,c,j,h,H,rfl⟩:=Sw.mp p;exact o a b c j h H
 simp only[aR,this,q,decide_eq_true g,decide_eq_true f,Yi]
def n8(h:¬ hs.length<=4):aM (.tup hs)=bx:=by
 simp only[aM,decide_eq_false h,ZL]
def zK{i:Nat}(h:hs[i]?=aD d)(H:av d=bx):aM (.tup hs)=bx:=by
 have:hs.all av=bx:=by
  rw[Z3];intro z;have:=Ze.mp z d (Zy h);rw[H] at this;cases this
 simp only[aM,this,ZL,ZP]
def mo{i:Nat}(h:i+1 < hs.length)(H:¬ dU hs i < eP hs (i+1)):aM (.tup hs)=bx:=by
 have:(jO hs).all id=bx:=by
  rw[Z3];intro z;have:=Ze.mp z _ (ZH.mpr ⟨i,ZT.mpr (by omega),rfl⟩);exact H (of_decide_eq_true this)
 simp only[aM,this,ZP]
def vf(H:hs.length<=4)(g:∀ (j:Nat) d,hs[j]?=aD d->av d=br)(c:∀ (j:Nat),j+1 < hs.length->dU hs j < eP hs (j+1)):aM (.tup hs)=br:=by
 have b:hs.all av=br:=by
  rw[Ze];intro d hd;obtain⟨i,h,rfl⟩:=Xz.mp hd;exact g i _ (gEG h)
 have:(jO hs).all id=br:=by
  rw[Ze];intro x f;obtain⟨i,h,rfl⟩:=ZH.mp f;rw[ZT] at h;exact decide_eq_true (c i (by omega))
 simp only[aM,this,b,decide_eq_true H,Yi]
def mq(h:¬ ds.length=2):av (.tup ds)=bx:=by
 unfold av;split
 ·rename_i b e H;cases H;exact absurd rfl h
 ·rfl
abbrev B4(d:D):Int:=match d with |.int i=>i |_=>0
abbrev aH(fs:List D):List Int:=fs.map B4
def fm(fs:List D):(aH fs).length=fs.length:=by unfold aH;rw[Za]
def dW:∀ (n:Nat) (l:List Int),l.Nodup->(∀x ∈ l,0<=x/\x < (n:Int))->l.length<=n
 |0,l,_,h=>by
  cases l with
  |nil=>exact Zc _
  |cons x l=>have:=h x Zd;lia
 |n+1,l,nd,h=>by
  by_cases b:(n:Int) ∈ l
  ·have I:=dW n (l.erase n) (nd.erase _) λx H=>by
    have c:=h x (List.mem_of_mem_erase H);have f:x ≠ (n:Int):=λe=>(List.Nodup.not_mem_erase nd) (e ▸ H)
    lia
   rw[List.length_erase_of_mem b] at I;have:=List.length_pos_of_mem b
   lia
  ·have I:=dW n l nd λx H=>by
    have c:=h x H;have f:x ≠ (n:Int):=λe=>b (e ▸ H)
    lia
   lia
abbrev gM(is:List Int):Bool:=decide is.Nodup
def sB(is:List Int):(is.map λi=>decide (((is.count i:Nat):Int)=1)).all id=gM is:=by
 rw[ZY,ZW];unfold gM;rw[Ze,decide_eq_true_eq,List.nodup_iff_count];constructor
 ·intro h a;by_cases H:a ∈ is
  ·have:=of_decide_eq_true (h a H)
   lia
  ·rw[List.count_eq_zero_of_not_mem H];lia
 ·intro h a b;have c:=h a;have f:=List.count_pos_iff.mpr b;exact decide_eq_true (by lia)
abbrev bN(n:Nat)(d:D):Bool:=match d with
 |.tup fs=>decide (fs.length<=n) && (fs.all (λe=>ai e 0 ((n:Int) - 1)) && gM (aH fs))
 |_=>bx
abbrev bA(n:Nat)(d:D):Bool:=match d with
 |.non=>br
 |.tup [k,m]=>ai k 0 ((n:Int) - 1) && ai m 0 9999
 |_=>bx
abbrev leD(j:D)(s:Int)(f:D):Bool:=match j,f with |.int a,.int b=>decide (a+s<=b) |_,_=>bx
abbrev aN(n:Nat)(r s:Int)(d:D):Bool:=match d with
 |.tup [k,j,f,l,u,w,g]=>[j,f,l,u].all (λe=>ai e 0 9999) && ((leD j s f && leD f 0 l) && (ai k 0 ((n:Int) - 1) && (ai w 0 99 && ai g 0 r)))
 |_=>bx
abbrev aI(n:Nat)(r s:Int)(d:D):Bool:=match d with
 |.tup gs=>decide (gs.length<=7) && gs.all (aN n r s)
 |_=>bx
abbrev K3(d:D):Int:=match d with |.tup [_,_,_,_,_,_,.int g]=>g |_=>0
abbrev dr(gs:List D)(i:Nat):Int:=match gs[i]? with |some d=>K3 d |_=>0
abbrev zL(gs:List D)(is:List Int):List Bool:=(Zl gs.length).map λ(i:Nat)=>decide (dr gs i=0) || decide (((i:Nat):Int) ∈ is)
abbrev bH(gs:List D)(d:D):Bool:=match d with
 |.tup fs=>bN gs.length (.tup fs) && (zL gs (aH fs)).all id
 |_=>bx
abbrev tupOf(d:D):List D:=match d with |.tup ds=>ds |_=>[]
abbrev dX(m:D):Nat:=match m with |.tup [_,_,.tup rows,_]=>rows.length |_=>0
abbrev gO(m:D):Int:=match m with |.tup [.int r,_,_,_]=>r |_=>0
abbrev jP(m:D):Int:=match m with |.tup [_,.int s,_,_]=>s |_=>0
abbrev cR(d:D):Bool:=match d with
 |.tup [m,a,g,f]=>ba m && (bA (dX m) a && (aI (dX m) (gO m) (jP m) g && bH (tupOf g) f))
 |_=>bx
def eT(h:ba m=br):∃r s rows hs,m = .tup [.int r,.int s,.tup rows,.tup hs]/\0<=r/\r<=8/\0<=s/\s<=60/\aR (.tup rows)=br/\aM (.tup hs)=br:=by
 unfold ba at h;split at h
 ·rename_i r s g j;simp only[bAE] at h;obtain⟨f,o,b,H⟩:=h;obtain⟨r,rfl,p,r1⟩:=aj f;obtain⟨s,rfl,s0,c⟩:=aj o;cases g with
  |tup rows=>
   cases j with
   |tup hs=>exact⟨r,s,rows,hs,rfl,p,r1,s0,c,b,H⟩
   |_=>simp[aM] at H
  |_=>simp[aR] at b
 ·cases h
def sC(h:ds.length=7):∃a b c d e f g,ds=[a,b,c,d,e,f,g]:=by
 match ds,h with
 |[a,b,c,d,e,f,g],_=>exact⟨a,b,c,d,e,f,g,rfl⟩
def oK{n:Nat}{r s:Int}(h:aN n r s d=br):∃k j f l u w g:Int,d = .tup [.int k,.int j,.int f,.int l,.int u,.int w,.int g]/\0<=k/\k < n/\0<=j/\j<=9999/\0<=f/\f<=9999/\0<=l/\l<=9999/\0<=u/\u<=9999/\j+s<=f/\f<=l/\0<=w/\w<=99/\0<=g/\g<=r:=by
 unfold aN at h;split at h
 ·rename_i k j f l u w g;simp only[bAE,ZZ,Xm,Yi] at h;obtain⟨⟨H,y,q,p⟩,⟨b,E⟩,C,I,z⟩:=h;obtain⟨j,rfl,J,T⟩:=aj H;obtain⟨f,rfl,O,B⟩:=aj y;obtain⟨l,rfl,L,l1⟩:=aj q;obtain⟨u,rfl,U,M⟩:=aj p;obtain⟨k,rfl,c,Y⟩:=aj C;obtain⟨w,rfl,Q,o⟩:=aj I;obtain⟨g,rfl,X,v⟩:=aj z;simp only[leD,decide_eq_true_eq] at b E;exact⟨k,j,f,l,u,w,g,rfl,c,by lia,J,T,O,B,L,l1,U,M,b,by lia,Q,o,X,v⟩
 ·cases h
def oM{n:Nat}{r s:Int}(h:¬ ds.length=7):aN n r s (.tup ds)=bx:=by
 unfold aN;split
 ·rename_i H;cases H;exact absurd rfl h
 ·rfl
def sD{n:Nat}(h:¬ ds.length=2):bA n (.tup ds)=bx:=by
 unfold bA;split
 ·rename_i H;cases H
 ·rename_i H;cases H;exact absurd rfl h
 ·rfl
def B5(h:¬ ds.length=4):cR (.tup ds)=bx:=by
 unfold cR;split
 ·rename_i H;cases H;exact absurd rfl h
 ·rfl
def K4(ds:List D):isT (.tup ds) 7 7=decide (ds.length=7):=qr ds 7
def B6(ds:List D)(n:Nat):isT (.tup ds) 0 n=decide (ds.length<=n):=by
 unfold isT;rw[ZY];simp
def qA(m a g f:D):cR (.tup [m,a,g,f])=(ba m && (bA (dX m) a && (aI (dX m) (gO m) (jP m) g && bH (tupOf g) f))):=rfl
def zM{n:Nat}:ai d 0 ((n:Int) - 1)=br->∃i,d = .int i/\0<=i/\i < n:=λh=>by
 obtain⟨i,e,H,b⟩:=aj h;exact⟨i,e,H,by omega⟩
def vg{n:Nat}{i:Nat}(h:fs[i]?=aD d)(H:ai d 0 ((n:Int) - 1)=bx):bN n (.tup fs)=bx:=by
 have:fs.all (λe=>ai e 0 ((n:Int) - 1))=bx:=by
  rw[Z3];intro z;have:=Ze.mp z d (Zy h);rw[H] at this;cases this
 simp only[bN,this,ZL,ZP]
def vh{n:Nat}(h:¬ (aH fs).Nodup):bN n (.tup fs)=bx:=by
 have:gM (aH fs)=bx:=decide_eq_false h;simp only[bN,this,ZP]
def kw{n:Nat}(h:fs.all (λe=>ai e 0 ((n:Int) - 1))=br)(nd:(aH fs).Nodup):bN n (.tup fs)=br:=by
 have f:fs.length<=n:=by
  have:=dW n (aH fs) nd λx c=>by
   obtain⟨d,hd,rfl⟩:=ZH.mp c;obtain⟨i,rfl,b,H⟩:=zM (Ze.mp h d hd);exact⟨b,H⟩
  rwa [fm] at this
 have:gM (aH fs)=br:=decide_eq_true nd;simp only[bN,this,h,decide_eq_true f,Yi]
def sE{n:Nat}{r s:Int}{i:Nat}(h:gs[i]?=aD d)(H:aN n r s d=bx):aI n r s (.tup gs)=bx:=by
 have:gs.all (aN n r s)=bx:=by
  rw[Z3];intro z;have:=Ze.mp z d (Zy h);rw[H] at this;cases this
 simp only[aI,this,ZP]
def qB{n:Nat}{r s:Int}(h:gs.all (aN n r s)=br){i:Nat}(H:gs[i]?=aD d):∃k j f l u w g:Int,d = .tup [.int k,.int j,.int f,.int l,.int u,.int w,.int g]/\dr gs i=g/\0<=g:=by
 obtain⟨k,j,f,l,u,w,g,rfl,b⟩:=oK (Ze.mp h d (Zy H));exact⟨k,j,f,l,u,w,g,rfl,by unfold dr;rw[H];rfl,by omega⟩
def zN(fs:List D)(k:Nat):aH (fs.take k)=(aH fs).take k:=by unfold aH;rw[Wk]
def ja(ds:List D)(k:Nat)(h:k<=ds.length):bg ds aT (aD (k:Int))=ds.take k:=by
 unfold bg;rw[mj _ _ (by omega)];show(ds.drop 0).take (min ((k:Int).toNat) ds.length - 0)=_;rw[YJ,Wp,ZN,Wb h]
abbrev bc:Key->PyData
 |.inl i=>.int i
 |.inr x=>.str x
mutual
noncomputable def aX:D->PyData
 |.non=>.none
 |.bl b=>.bool b
 |.int i=>.int i
 |.str x=>.str x
 |.tup ds=>.tuple (aJ ds)
 |.lst ds=>.list (aJ ds)
 |.dic ks ds=>.dict ((ks.map bc).zip (aJ ds))
noncomputable def aJ:List D->List PyData
 |[]=>[]
 |d::ds=>aX d::aJ ds
end
def cw:∀ds:List D,(aJ ds).length=ds.length
 |[]=>by simp[aJ]
 |d::ds=>by simp[aJ,cw ds]
def gP{f c:Type}:∀ (b:List f) (ds:List c),b.length=ds.length->(b.zip ds).map (·.1)=b
 |[],[],_=>rfl
 |k::b,d::ds,h=>by simp[gP b ds (by simpa using h)]
 |[],_::_,h=>by simp at h
 |_::_,[],h=>by simp at h
def gQ{f c:Type}:∀ (b:List f) (ds:List c),b.length=ds.length->(b.zip ds).map (·.2)=ds
 |[],[],_=>rfl
 |k::b,d::ds,h=>by simp[gQ b ds (by simpa using h)]
 |[],_::_,h=>by simp at h
 |_::_,[],h=>by simp at h
mutual
noncomputable def shw:D->Prop
 |.int i=>i.natAbs.log2 < 1920
 |.tup ds=>qC ds
 |.lst ds=>qC ds
 |.dic ks ds=>(∀k ∈ ks,∀i,k=Sum.inl i->i.natAbs.log2 < 1920)/\qC ds
 |_=>True
noncomputable def qC:List D->Prop
 |[]=>True
 |d::ds=>shw d/\qC ds
end
section
variable {P:Program} {w:World} {N:List Addr} {H:Hp} {h:Heap}
def oO:∀ {ks:List Key} {kvs:List (Key × Value)} {E:List WH},Pairs (bq P w) E kvs->kvs.map (·.1)=ks->ReadsAll h (E.map (·.key)) (ks.map bc) []
 |[],[],_,.nil,_=>.nil
 |k::ks,_::_,_,.cons (e:=e) hk hv r,eq=>by
  simp only[Zs,X3.injEq] at eq;obtain⟨f,c⟩:=eq;have z:=oO (ks:=ks) r c;have b:kq k e.key=br:=by rw[<-f];exact hk
  have one:Reads h e.key (bc k) []:=by
   rcases a9 b with ⟨i,t,rfl,q⟩ |⟨x,t,rfl,q⟩
   ·rw[q];exact .int _ _
   ·rw[q];exact .str _ _
  exact ReadsAll.cons one z
def cC:∀ {kvs:List (Key × Value)} {E:List WH},Pairs (bq P w) E kvs->E.map (·.val)=kvs.map (·.2)
 |[],_,.nil=>rfl
 |_::_,_,.cons _ hv r=>by rw[Zs,Zs,hv,cC r]
def kZ:∀ {ks:List Key} {xs:List V} {kvs:List (Key × Value)},ks.length=xs.length->KV (ks.zip xs) kvs->aK xs (kvs.map (·.2))/\kvs.map (·.1)=ks
 |[],[],_,_,.nil=>⟨.nil,rfl⟩
 |k::ks,x::xs,_,hl,.cons r t=>by
  obtain⟨b,c⟩:=kZ (ks:=ks) (xs:=xs) (by simpa using hl) t;exact⟨.cons r.2 b,by rw[Zs,c,<-r.1]⟩
 |[],_::_,_,hl,_=>by simp at hl
 |_::_,[],_,hl,_=>by simp at hl
mutual
theorem dz(ok:HOk P w H h):∀ (d:D) {v:V} {u:Value},Br N H d v->aG v u->∃as,Reads h u (aX d) as
 |.non,v,u,b,r=>by simp only[Br] at b;subst b;cases r;exact⟨_,by simp only[aX];exact .none⟩
 |.bl x,v,u,b,r=>by simp only[Br] at b;subst b;cases r;exact⟨_,by simp only[aX];exact .bool _⟩
 |.int i,v,u,b,r=>by simp only[Br] at b;subst b;obtain⟨t,rfl⟩:=r;exact⟨_,by simp only[aX];exact .int _ _⟩
 |.str x,v,u,b,r=>by simp only[Br] at b;subst b;obtain⟨t,rfl⟩:=r;exact⟨_,by simp only[aX];exact .str _ _⟩
 |.tup ds,v,u,b,r=>by
  simp only[Br] at b;obtain⟨a,xs,rfl,g,f⟩:=b;cases r;obtain⟨_,I,j,o,e,c,n,q,_⟩:=ok a _ g;obtain⟨as,z⟩:=gR ok ds f j;simp only[aX];exact⟨_,.tuple e c q (by simpa using z)⟩
 |.lst ds,v,u,b,r=>by
  simp only[Br] at b;obtain⟨a,xs,rfl,_,g,f⟩:=b;cases r;obtain⟨_,I,n,j,e⟩:=ok a _ g;obtain⟨as,z⟩:=gR ok ds f j;simp only[aX];exact⟨_,.list e rfl rfl (by simpa using z)⟩
 |.dic ks ds,v,u,b,r=>by
  simp only[Br] at b;obtain⟨a,xs,rfl,_,g,p,f⟩:=b;cases r;obtain⟨_,_,C,E,o,L,J,e,ex,q,_,y,_⟩:=ok a _ g;obtain⟨j,B⟩:=kZ (by rw[p,f.len]) E;obtain⟨as,z⟩:=gR ok ds f j;simp only[aX];refine⟨_,.dict e ex.1 q (kvs:=(ks.map bc).zip (aJ ds)) (as:=[]) (bs:=as) ?_ ?_⟩
  ·rw[gP _ _ (by rw[Za,cw,p])];exact oO y B
  ·rw[gQ _ _ (by rw[Za,cw,p]),cC y];exact z
theorem gR(ok:HOk P w H h):∀ (ds:List D) {xs:List V} {u:List Value},BrL N H ds xs->aK xs u->∃as,ReadsAll h u (aJ ds) as
 |[],xs,u,b,r=>by simp only[BrL] at b;subst b;cases r;exact⟨_,by simp only[aJ];exact .nil⟩
 |d::ds,xs,u,b,r=>by
  simp only[BrL] at b;obtain⟨x,l,rfl,c,f⟩:=b;cases r with
  |cons r1 r2=>
   obtain⟨as,Z⟩:=dz ok d c r1;obtain⟨bs,z⟩:=gR ok ds f r2;simp only[aJ];exact⟨_,.cons Z z⟩
end
def mr{es:List WH}:∀ {b:List Key} {kvs:List (Key × Value)} {es:List WH} {d:Nat} {bs:List Addr},Pairs (bq P w) es kvs->kvs.map (·.1)=b->(∀k ∈ b,∀i,k=Sum.inl i->i.natAbs.log2 < 1920)->(∀t ∈ W9 (b.map bc),t.length<=sizeLine)->ReprAllK P w bs h d (es.map (·.key)) (W9 (b.map bc))
 |[],[],_,_,_,.nil,_,_,_=>by simp only[ZV,W9];exact .nil
 |k::b,_::_,_,d,bs,.cons (e:=e) hk hv r,eq,hi,hz=>by
  simp only[Zs,X3.injEq] at eq;obtain⟨g,E⟩:=eq;have c:kq k e.key=br:=by rw[<-g];exact hk
  simp only[Zs,W9] at hz ⊢;refine .cons ?_ (mr (es:=[]) r E (λf m=>hi f (Zf _ m)) λt m=>hz t (Zf _ m));rcases a9 c with ⟨i,t,rfl,q⟩ |⟨x,t,rfl,q⟩
  ·rw[q];simp only[bc,W8];exact .of_is (ReprIs.int t (hi _ Zd i rfl)) _ _ _
  ·rw[q];have hs:=hz _ Zd;simp only[bc,W8] at hs ⊢;exact .of_is (ReprIs.str x t hs) _ _ _
mutual
theorem FR(ok:HOk P w H h):∀ (d:D) {v:V} {u:Value},Br N H d v->aG v u->shw d->(aX d).shown.length<=sizeLine->∃bs,ReadAtMost h (aX d).depth bs/\ReprK P w bs h (aX d).depth u (aX d).shown
 |.non,v,u,b,r,_,_=>by simp only[Br] at b;subst b;cases r;exact⟨[],(λ_ m=>nomatch m),by simp only[aX,W8];exact .of_is ReprIs.none _ _ _⟩
 |.bl x,v,u,b,r,_,_=>by simp only[Br] at b;subst b;cases r;exact⟨[],(λ_ m=>nomatch m),by simp only[aX,W8];exact .of_is (ReprIs.bool _) _ _ _⟩
 |.int i,v,u,b,r,hs,_=>by simp only[Br] at b;subst b;obtain⟨t,rfl⟩:=r;exact⟨[],(λ_ m=>nomatch m),by simp only[aX,W8];exact .of_is (ReprIs.int t (by simpa only[shw] using hs)) _ _ _⟩
 |.str x,v,u,b,r,_,hz=>by simp only[Br] at b;subst b;obtain⟨t,rfl⟩:=r;exact⟨[],(λ_ m=>nomatch m),by simp only[aX,W8] at hz ⊢;exact .of_is (ReprIs.str x t hz) _ _ _⟩
 |.tup ds,v,u,b,r,hs,hz=>by
  obtain⟨U,f⟩:=dz ok (.tup ds) b r;simp only[Br] at b;obtain⟨a,xs,rfl,E,B⟩:=b;cases r;obtain⟨_,I,C,o,e,c,n,q,_⟩:=ok a _ E;simp only[aX,W8,W3] at hz f ⊢;obtain⟨bs,m,k⟩:=dA ok ds B C (by simpa only[shw] using hs) λt j=>Zz (tupleText_mem_le j) hz;have out:a ∉ bs:=Ua f (by simp only[W3];lia) m;have M:=ReadAtMost.cons f (by simp only[W3];lia) m;simp only[W3] at M;exact⟨a::bs,M,ReprK.tuple e c q out (by simpa using k)⟩
 |.lst ds,v,u,b,r,hs,hz=>by
  obtain⟨U,f⟩:=dz ok (.lst ds) b r;simp only[Br] at b;obtain⟨a,xs,rfl,_,E,B⟩:=b;cases r;obtain⟨_,I,n,C,e⟩:=ok a _ E;simp only[aX,W8,W3] at hz f ⊢;obtain⟨bs,m,k⟩:=dA ok ds B C (by simpa only[shw] using hs) λt j=>Zz (listText_mem_le j) hz;have out:a ∉ bs:=Ua f (by simp only[W3];lia) m;have M:=ReadAtMost.cons f (by simp only[W3];lia) m;simp only[W3] at M;refine⟨a::bs,M,?_⟩;cases I with
  |nil=>
   cases k':W9 (aJ ds) with
   |nil=>simp only[listText_nil];exact ReprK.listEmpty e rfl rfl
   |cons _ _=>rw[k'] at k;cases k
  |cons y l=>exact ReprK.list e rfl rfl out (by simpa using k.length_eq) (λi y' q'=>k.item i y' (by simpa using q'))
 |.dic ks ds,v,u,b,r,hs,hz=>by
  obtain⟨U,f⟩:=dz ok (.dic ks ds) b r;simp only[Br] at b;obtain⟨a,xs,rfl,_,E,hl,B⟩:=b;cases r;obtain⟨_,J,kvs,rk,o,es,ep,e,ex,q,_,X,_⟩:=ok a _ E;obtain⟨C,k1⟩:=kZ (by rw[hl,B.len]) rk;simp only[shw] at hs;have Z:(ks.map bc).length=(aJ ds).length:=by rw[Za,cw,hl]
  simp only[aX,W8,W3] at hz f ⊢;have L:=gP (ks.map bc) (aJ ds) Z;have Q:=gQ (ks.map bc) (aJ ds) Z;have Y:=W5 ((ks.map bc).zip (aJ ds));have T:=W6 ((ks.map bc).zip (aJ ds));rw[L] at Y;rw[Q] at T
  obtain⟨bs,m,k⟩:=dA ok ds B C hs.2 λt j=>by
   obtain⟨p,O,g⟩:=Vd ((ks.map bc).zip (aJ ds)) t (by rw[Q];exact j);exact Zz g (Zz (VY O) hz)
  have kk:=mr (h:=h) (es:=[]) (d:=W4 (ks.map bc)) (bs:=bs) X k1 hs.1 λt j=>by
   obtain⟨p,O,g⟩:=Vc ((ks.map bc).zip (aJ ds)) t (by rw[L];exact j);exact Zz g (Zz (VY O) hz)
  have m':=m.mono T;have out:a ∉ bs:=Ua f (by simp only[W3];lia) m';have M:=ReadAtMost.cons f (by simp only[W3];lia) m';simp only[W3] at M;refine⟨a::bs,M,?_⟩;rw[Vb,L,Q];refine ReprK.dict e ex.1 q J out (ReprEntriesK.of_two es.toList _ _ (kk.more_le (λ_ z=>z) Y) ?_);rw[cC X];exact k.more_le (λ_ z=>z) T
theorem dA(ok:HOk P w H h):∀ (ds:List D) {xs:List V} {u:List Value},BrL N H ds xs->aK xs u->qC ds->(∀t ∈ W9 (aJ ds),t.length<=sizeLine)->∃bs,ReadAtMost h (W4 (aJ ds)) bs/\ReprAllK P w bs h (W4 (aJ ds)) u (W9 (aJ ds))
 |[],xs,u,b,r,_,_=>by simp only[BrL] at b;subst b;cases r;exact⟨[],(λ_ m=>nomatch m),by simp only[aJ,W9];exact .nil⟩
 |d::ds,xs,u,b,r,hs,hz=>by
  simp only[BrL] at b;obtain⟨x,l,rfl,g,p⟩:=b;cases r with
  |cons r1 r2=>
   simp only[aJ,W9,W4,qC] at hz hs ⊢;obtain⟨B,M,f⟩:=FR ok d g r1 hs.1 (hz _ Zd);obtain⟨o,c,q⟩:=dA ok ds p r2 hs.2 λt j=>hz t (Zf _ j);refine⟨B++o,(M.mono (Wc _ _)).append (c.mono (X4 _ _)),?_⟩;exact .cons ((f.more λb z=>ZU _ z).level_le (Wc _ _)) (q.more_le (λb z=>ZC _ z) (X4 _ _))
end
end
section
variable {X:Cx}
structure Shn(d:D):Prop where
 sh:shw d
 sz:(aX d).shown.length<=sizeLine
 dp:(aX d).depth<=100
abbrev K5:List V->Hp->VK->Prop:=λxs H Q=>∃x N d,xs=[x]/\Br N H d x/\Shn d/\Q (.str (aX d).shown) H
def vj{k:Nat}(hr:Room k X.A):aZ X (.builtin "repr") K5:=by
 intro pins s σ H xs us Q I r h;obtain⟨x,N,d,rfl,b,⟨hs,v,hd⟩,q⟩:=h;obtain⟨u,rfl,C⟩:=cQ r;have hun:=hr.un;have L:X.A.units+1 < cLine:=by lia
 have M:X.A.in1.guards=aD []:=hr.gd;have fin:∀E t T,(∀b o,s.heap.get? b=aD o->E.get? b=aD o)->∃x' t',Value.str (aX d).shown t=Value.str x' t'/\EP X pins σ Q (Value.str (aX d).shown t) { s with heap:=E,toks:=T }:=λE t T U=>⟨_,_,rfl,.str _,H,I.kept (t':=T) U,⟨t,rfl⟩,q⟩;cases d with
 |non=>
  simp only[Br] at b;subst b;cases C;exact P.repr_of_none ⟨.str _,H,I.tok _,⟨_,rfl⟩,by simpa only[aX,W8] using q⟩
 |bl y=>
  simp only[Br] at b;subst b;cases C;exact P.repr_of_bool ⟨.str _,H,I.tok _,⟨_,rfl⟩,by simpa only[aX,W8] using q⟩
 |int i=>
  simp only[Br] at b;subst b;obtain⟨t,rfl⟩:=C;exact P.repr_of_int (by simpa only[shw] using hs) ⟨.str _,H,I.tok _,⟨_,rfl⟩,by simpa only[aX,W8] using q⟩
 |str y=>
  simp only[Br] at b;subst b;obtain⟨t,rfl⟩:=C;exact P.repr_of_str ⟨.str _,H,I.tok _,⟨_,rfl⟩,by simpa only[aX,W8] using q⟩ (by simpa only[aX,W8] using v)
 |tup g=>
  obtain⟨as,f⟩:=dz I.hok (.tup g) b C;simp only[Br] at b;obtain⟨a,ys,rfl,ha,Y⟩:=b;cases C;obtain⟨_,its,Z,o,e,c,n,q',_⟩:=I.hok a _ ha;simp only[aX,W8,W3] at v f hd fin;obtain⟨bs,m,J⟩:=dA I.hok g Y Z (by simpa only[shw] using hs) λt O=>Zz (tupleText_mem_le O) v;have out:a ∉ bs:=Ua f (by simp only[W3];lia) m;refine VP L ⟨o,e,c⟩ F.slot_tuple_repr ?_;exact call_tuple_reprK e c q' out (by simpa using J) M (λb _=>Clear.nil b) (by show X.A.units+1+(_+1) < cLine;lia) (λ_ _ z=>z) (λE t T U=>fin E t T U) v
 |lst g=>
  obtain⟨as,f⟩:=dz I.hok (.lst g) b C;simp only[Br] at b;obtain⟨a,ys,rfl,_,ha,Y⟩:=b;cases C;obtain⟨_,its,n,Z,e⟩:=I.hok a _ ha;simp only[aX,W8,W3] at v f hd fin;obtain⟨bs,m,J⟩:=dA I.hok g Y Z (by simpa only[shw] using hs) λt O=>Zz (listText_mem_le O) v;have out:a ∉ bs:=Ua f (by simp only[W3];lia) m;refine VP L ⟨_,e,rfl⟩ F.slot_list_repr.toG ?_;cases its with
  |nil=>
   cases k2:W9 (aJ g) with
   |nil=>
    rw[k2] at fin;simp only[listText_nil] at fin;exact call_list_repr_empty ⟨_,e,rfl⟩ e rfl (fin s.heap _ _ λ_ _ z=>z)
   |cons _ _=>rw[k2] at J;cases J
  |cons y l=>
   exact call_list_reprK e rfl rfl out (by simpa using J.length_eq) (λi y' q2=>J.item i y' (by simpa using q2)) M (λb _=>Clear.nil b) (by show X.A.units+1+(_+1) < cLine;lia) (λ_ _ z=>z) (λE t T U=>fin E t T U) v
 |dic B g=>
  have bb:=b;obtain⟨as,f⟩:=dz I.hok (.dic B g) b C;simp only[Br] at b;obtain⟨a,ys,rfl,_,ha,hl,Y⟩:=b;cases C;obtain⟨_,sys,kvs,rk,o,es,ep,e,ex,q',_,pr,_⟩:=I.hok a _ ha;obtain⟨Z,k1⟩:=kZ (by rw[hl,Y.len]) rk;simp only[shw] at hs;have lz:(B.map bc).length=(aJ g).length:=by rw[Za,cw,hl]
  simp only[aX,W8,W3] at v f hd fin;have f1:=gP (B.map bc) (aJ g) lz;have f2:=gQ (B.map bc) (aJ g) lz;have dk:=W5 ((B.map bc).zip (aJ g));have dv:=W6 ((B.map bc).zip (aJ g));rw[f1] at dk;rw[f2] at dv
  obtain⟨bs,m,J⟩:=dA I.hok g Y Z hs.2 λt O=>by
   obtain⟨p,hp,j⟩:=Vd ((B.map bc).zip (aJ g)) t (by rw[f2];exact O);exact Zz j (Zz (VY hp) v)
  have kk:=mr (h:=s.heap) (es:=[]) (d:=W4 (B.map bc)) (bs:=bs) pr k1 hs.1 λt O=>by
   obtain⟨p,hp,j⟩:=Vc ((B.map bc).zip (aJ g)) t (by rw[f1];exact O);exact Zz j (Zz (VY hp) v)
  have m':=m.mono dv;have out:a ∉ bs:=Ua f (by simp only[W3];lia) m';refine VP L ⟨o,e,ex.1⟩ F.slot_dict_repr ?_
  have hE:ReprEntriesK X.prog X.w bs s.heap (W7 ((B.map bc).zip (aJ g))) es.toList (Va ((B.map bc).zip (aJ g))):=by
   rw[Vb,f1,f2];refine ReprEntriesK.of_two es.toList _ _ (kk.more_le (λ_ z=>z) dk) ?_;rw[cC pr];exact J.more_le (λ_ z=>z) dv
  exact call_dict_reprK e ex.1 q' sys out hE M (λb _=>Clear.nil b) (by show X.A.units+1+(_+1) < cLine;lia) (λ_ _ z=>z) (λE t T U=>fin E t T U) v
end
mutual
noncomputable def sz:D->Nat
 |.non=>10
 |.bl _=>10
 |.int _=>60
 |.str x=>(reprText x).length
 |.tup ds=>szL ds+4
 |.lst ds=>szL ds+4
 |.dic ks ds=>szL ds+62 * ks.length+4
noncomputable def szL:List D->Nat
 |[]=>0
 |d::ds=>sz d+2+szL ds
end
mutual
noncomputable def bnd(B:Nat):D->Prop
 |.int i=>i.natAbs < B
 |.tup ds=>eU B ds
 |.lst ds=>eU B ds
 |.dic ks ds=>(∀k ∈ ks,∃i,k=Sum.inl i/\i.natAbs < B)/\ks.length=ds.length/\eU B ds
 |_=>True
noncomputable def eU(B:Nat):List D->Prop
 |[]=>True
 |d::ds=>bnd B d/\eU B ds
end
def B7{i:Int}(h:i.natAbs < 10 ^ 50):i.natAbs.log2 < 1920:=by
 by_cases z:i.natAbs=0
 ·rw[z];decide
 ·have:i.natAbs.log2 < 167:=(X9 z).mpr (Zx h (by decide))
  lia
mutual
theorem xT:∀ (d:D),bnd (10 ^ 50) d->shw d
 |.non,_=>by simp only[shw]
 |.bl _,_=>by simp only[shw]
 |.str _,_=>by simp only[shw]
 |.int i,h=>by simp only[shw,bnd] at h ⊢;exact B7 h
 |.tup ds,h=>by simp only[shw,bnd] at h ⊢;exact jb ds h
 |.lst ds,h=>by simp only[shw,bnd] at h ⊢;exact jb ds h
 |.dic ks ds,h=>by
  simp only[shw,bnd] at h ⊢;refine⟨λk b i e=>?_,jb ds h.2.2⟩;obtain⟨j,E,H⟩:=h.1 k b;rw[e] at E;cases E;exact B7 H
theorem jb:∀ (ds:List D),eU (10 ^ 50) ds->qC ds
 |[],_=>by simp only[qC]
 |d::ds,h=>by simp only[qC,eU] at h ⊢;exact⟨xT d h.1,jb ds h.2⟩
end
def xU:∀ (T:List Str) (k:Nat) (b:Str),(Up k b T).length<=b.length+piled T
 |[],k,b=>by show b.length<=_;lia
 |t::r,k,b=>by
  have I:=xU r (k+1) (b++(if k > 0 then ", " else "" : String)++t);show(Up (k+1) (b++(if k > 0 then ", " else "" : String)++t) r).length<=_;rw[piled_cons]
  have e:(b++(if k > 0 then ", " else "" : String)++t).length<=b.length+2+t.length:=by
   rw[Uj,Uj];have:(Str.ofString (if k > 0 then ", " else "" : String)).length<=2:=by split <;> decide
   lia
  lia
def xV(ts:List Str):(Str.join ", " ts).length<=piled ts:=by
 cases ts with
 |nil=>decide
 |cons t r=>have:=join_length_add (t::r) (by simp);lia
def FS(ts:List Str):(listText ts).length<=piled ts+4:=by
 unfold listText;rw[Uj];have h:=xU ts 0 "[";have c:(Str.ofString "[").length=1:=by decide
 have b:(Str.ofString "]").length=1:=by decide
 have H:(Up 0 (Str.ofString "[") ts).length<=(Str.ofString "[").length+piled ts:=h;show(Up 0 (Str.ofString "[") ts).length+(Str.ofString "]").length<=_
 lia
def B8(T:List Str):(tupleText T).length<=piled T+4:=by
 unfold tupleText;rw[Uj,Uj];have h:=xV T;have b:(Str.ofString "(").length=1:=by decide
 have H:(Str.ofString (if T.length == 1 then ",)" else ")" : String)).length<=2:=by split <;> decide
 show(Str.ofString "(").length+_+(Str.ofString (if T.length == 1 then ",)" else ")" : String)).length<=_
 lia
def FT(T:List Str):(dictText T).length<=piled T+4:=by
 unfold dictText;rw[Uj,Uj];have h:=xV T;have b:(Str.ofString "{").length=1:=by decide
 have H:(Str.ofString "}").length=1:=by decide
 show(Str.ofString "{").length+_+(Str.ofString "}").length<=_
 lia
def B9{i:Int}(h:i.natAbs < 10 ^ 50):(Str.ofString (toString i)).length<=51:=by
 rw[ofString_len];exact int_text_length_le10 (by decide) h
def Jv:∀ (b:List Key) (T:List Str) (h:∀k ∈ b,∃i,k=Sum.inl i/\i.natAbs < 10 ^ 50),b.length=T.length->piled (List.zipWith (λk v:Str=>k ++ ": " ++ v) (W9 (b.map bc)) T)<=piled T+53 * b.length
 |[],[],_,_=>by simp[W9,piled]
 |k::b,t::T,h,hl=>by
  have I:=Jv b T (λc m=>h c (Zf _ m)) (by simpa using hl);obtain⟨i,rfl,H⟩:=h _ Zd;simp only[Zs,W9,List.zipWith_cons_cons,piled_cons,ZB,bc,W8];have f:=B9 H;rw[Uj,Uj];have g:(Str.ofString ": ").length=2:=by decide
  show(Str.ofString (toString i)).length+(Str.ofString ": ").length+t.length+2+_<=_
  lia
 |[],_::_,_,hl=>by simp at hl
 |_::_,[],_,hl=>by simp at hl
def jc:∀ds:List PyData,(W9 ds).length=ds.length
 |[]=>by simp[W9]
 |d::ds=>by simp[W9,jc ds]
mutual
theorem sF:∀ (d:D),bnd (10 ^ 50) d->(aX d).shown.length<=sz d
 |.non,_=>by simp only[aX,W8,sz];decide
 |.bl b,_=>by simp only[aX,W8,sz];cases b <;> decide
 |.int i,h=>by
  simp only[aX,W8,sz,bnd] at h ⊢;have:=B9 h;show(Str.ofString (toString i)).length<=60
  lia
 |.str x,_=>by simp only[aX,W8,sz];exact Zc _
 |.tup ds,h=>by
  simp only[aX,W8,sz,bnd] at h ⊢;have:=gS ds h;have:=B8 (W9 (aJ ds))
  lia
 |.lst ds,h=>by
  simp only[aX,W8,sz,bnd] at h ⊢;have:=gS ds h;have:=FS (W9 (aJ ds))
  lia
 |.dic ks ds,h=>by
  simp only[aX,W8,sz,bnd] at h ⊢;have c:=gS ds h.2.2;have L:(ks.map bc).length=(aJ ds).length:=by rw[Za,cw,h.2.1]
  have H:=FT (Va ((ks.map bc).zip (aJ ds)));rw[Vb,gP _ _ L,gQ _ _ L] at H;have f:=Jv ks (W9 (aJ ds)) h.1 (by rw[jc,cw,h.2.1]);rw[Vb,gP _ _ L,gQ _ _ L]
  lia
theorem gS:∀ (ds:List D),eU (10 ^ 50) ds->piled (W9 (aJ ds))<=szL ds
 |[],_=>by simp[aJ,W9,piled,szL]
 |d::ds,h=>by
  simp only[aJ,W9,szL,eU,piled_cons] at h ⊢;have H:=sF d h.1;have b:=gS ds h.2
  lia
end
def sG:∀ (b:List Key) (ds:List PyData),W7 ((b.map bc).zip ds)<=W4 ds
 |[],ds=>by simp[W7]
 |k::b,[]=>by simp[W7]
 |k::b,d::ds=>by
  have I:=sG b ds;simp only[Zs,YQ,W7,W4];have:(bc k).depth=0:=by cases k <;> simp[bc,W3]
  rw[this]
  lia
mutual
theorem sH:∀ (d:D),(aX d).depth<=dep d
 |.non=>by simp[aX,W3]
 |.bl _=>by simp[aX,W3]
 |.int _=>by simp[aX,W3]
 |.str _=>by simp[aX,W3]
 |.tup ds=>by simp only[aX,W3,dep];have:=gU ds;lia
 |.lst ds=>by simp only[aX,W3,dep];have:=gU ds;lia
 |.dic ks ds=>by
  simp only[aX,W3,dep];have:=gU ds;have:=sG ks (aJ ds)
  lia
theorem gU:∀ (ds:List D),W4 (aJ ds)<=i8 ds
 |[]=>by simp[aJ,W4,i8]
 |d::ds=>by
  simp only[aJ,W4,i8];have:=sH d;have:=gU ds
  lia
end
structure Bd(B s:Nat)(d:D):Prop where
 bn:bnd B d
 sz:sz d<=s
mutual
theorem eC{B b:Nat}(h:B<=b):∀ (d:D),bnd B d->bnd b d
 |.non,_=>by simp only[bnd]
 |.bl _,_=>by simp only[bnd]
 |.str _,_=>by simp only[bnd]
 |.int i,z=>by simp only[bnd] at z ⊢;lia
 |.tup ds,z=>by simp only[bnd] at z ⊢;exact k8 h ds z
 |.lst ds,z=>by simp only[bnd] at z ⊢;exact k8 h ds z
 |.dic ks ds,z=>by
  simp only[bnd] at z ⊢;exact⟨λk H=>let ⟨i,e,q⟩:=z.1 k H;⟨i,e,by lia⟩,z.2.1,k8 h ds z.2.2⟩
theorem k8{B b:Nat}(h:B<=b):∀ (ds:List D),eU B ds->eU b ds
 |[],_=>by simp only[eU]
 |d::ds,z=>by simp only[eU] at z ⊢;exact⟨eC h d z.1,k8 h ds z.2⟩
end
def Bd.up{B c s b:Nat}(h:Bd B s d)(H:B<=c)(hs:s<=b):Bd c b d:=⟨eC H d h.bn,Zz h.sz hs⟩
def Bd.shn{B s:Nat}(h:Bd B s d)(H:B<=10 ^ 50)(hs:s<=sizeLine)(hd:dep d<=100):Shn d:=
 have b:=eC H d h.bn
 ⟨xT d b,Zz (sF d b) (Zz h.sz hs),Zz (sH d) hd⟩
def sI{B:Nat}:∀ {ds:List D},eU B ds->d ∈ ds->bnd B d
 |e::ds,h,m=>by
  simp only[eU] at h;rcases Zm.mp m with rfl |m
  ·exact h.1
  ·exact sI h.2 m
def xW{B:Nat}:∀ {ds:List D},(∀d ∈ ds,bnd B d)->eU B ds
 |[],_=>by simp only[eU]
 |d::ds,h=>by simp only[eU];exact⟨h d Zd,xW λe m=>h e (Zf _ m)⟩
def cU:∀ (ds E:List D),szL (ds++E)=szL ds+szL E
 |[],E=>by simp[szL]
 |d::ds,E=>by rw[Yv];simp only[szL,cU ds E];lia
def xX:∀ {ds:List D},d ∈ ds->sz d+2<=szL ds
 |e::ds,m=>by
  simp only[szL];rcases Zm.mp m with rfl |m
  ·lia
  ·have:=xX m;lia
def dY:∀ {ds E:List D},ds.Sublist E->szL ds<=szL E
 |_,_,.slnil=>Zc _
 |_,_,.cons a s=>by have:=dY s;simp only[szL];lia
 |_,_,.cons₂ a s=>by have:=dY s;simp only[szL];lia
def gV(ds:List D)(lo h:Option Int):(bg ds lo h).Sublist ds:=(Y7 _ _).trans (List.drop_sublist _ _)
def jQ{B s:Nat}(h:∀d ∈ ds,bnd B d)(hs:szL ds+4<=s):Bd B s (.tup ds):=⟨by simp only[bnd];exact xW h,by simp only[sz];exact hs⟩
def jR{B s:Nat}(h:Bd B s (.tup ds)):(∀d ∈ ds,bnd B d)/\szL ds+4<=s:=by
 have H:=h.bn;have b:=h.sz;simp only[bnd] at H;simp only[sz] at b;exact⟨λd m=>sI H m,b⟩
def K6{B s:Nat}(h:Bd B s (.tup ds)):Bd B s (.lst ds):=by
 have H:=h.bn;have b:=h.sz;exact⟨by simp only[bnd] at H ⊢;exact H,by simp only[sz] at b ⊢;exact b⟩
def K7{B s:Nat}(h:Bd B s (.tup ds))(m:d ∈ ds):Bd B (sz d) d/\sz d+6<=s:=by
 obtain⟨H,b⟩:=jR h;have:=xX m;exact⟨⟨H d m,Zc _⟩,by lia⟩
def FV{B s:Nat}(h:Bd B s (.tup ds))(g:Bd (10 ^ 31) 300 e):Bd (B+10 ^ 31) (3 * s+400) (.tup (ds++[e])):=by
 obtain⟨H,c⟩:=jR h;have b:=g.sz;refine jQ (λd m=>?_) ?_
 ·rcases Zu.mp m with z |z
  ·exact eC (by lia) d (H d z)
  ·rw[Zt.mp z];exact eC (by lia) e g.bn
 ·rw[cU];simp only[szL];lia
def K8{B s:Nat}{ds:List D}{lo H:Option Int}(h:Bd B s (.tup ds)):Bd (B+10 ^ 31) (3 * s+400) (.tup (ds++bg ds lo H)):=by
 obtain⟨b,c⟩:=jR h;have:=dY (gV ds lo H);refine jQ (λd m=>?_) (by rw[cU];lia);exact eC (by lia) d (b d ((Zu.mp m).elim id λz=>cA z))
def FY{B s:Nat}{ds:List D}{lo b L H:Option Int}(h:Bd B s (.tup ds)):Bd (B+10 ^ 31) (3 * s+400) (.tup (bg ds lo b++bg ds L H)):=by
 obtain⟨c,f⟩:=jR h;have:=dY (gV ds lo b);have:=dY (gV ds L H);refine jQ (λd m=>?_) (by rw[cU];lia);exact eC (by lia) d (c d ((Zu.mp m).elim cA λz=>cA z))
def FZ{B s:Nat}(h:Bd B s (.tup ds)):Bd (B+10 ^ 31) (3 * s+400) (.tup ((bg ds l1 H++bg ds l2 c)++bg ds l3 b)):=by
 obtain⟨g,f⟩:=jR h;have:=dY (gV ds l1 H);have:=dY (gV ds l2 c);have:=dY (gV ds l3 b);refine jQ (λd m=>?_) (by rw[cU,cU];lia);refine eC (by lia) d (g d ?_);rcases Zu.mp m with z |z
 ·exact(Zu.mp z).elim cA λz=>cA z
 ·exact cA z
def zO{i:Nat}(h:ds[i]?=aD d):szL (bg ds aT (aD (i:Int)))+(sz d+2)+szL (bg ds (aD ((i:Int)+1)) aT)=szL ds:=by
 have j:i < ds.length:=(Zb.mp h).1;have c:bg ds aT (aD (i:Int))=ds.take i:=ja ds i (by lia)
 have g:bg ds (aD ((i:Int)+1)) aT=ds.drop (i+1):=by
  unfold bg;rw[u9 _ _ (by lia)];have b:HT.sIx ds.length ds.length aT=ds.length:=rfl;rw[b];have f:min ((i:Int)+1).toNat ds.length=i+1:=by lia
  rw[f,Yj (by rw[Yg];lia)]
 rw[c,g]
 have E:ds=ds.take i++d::ds.drop (i+1):=by
  have H:ds[i]=d:=(Zb.mp h).2;rw[<-H,List.getElem_cons_drop,YF]
 have:szL ds=szL (ds.take i++d::ds.drop (i+1)):=by rw[<-E]
 rw[this,cU];simp only[szL]
 lia
def K9{B s i:Nat}(h:Bd B s (.tup ds))(b:ds[i]?=aD d)(g:Bd (B+10 ^ 31) (3 * sz d+400) d'):Bd (B+10 ^ 31) (3 * s+400) (.tup ((bg ds aT (aD (i:Int))++[d'])++bg ds (aD ((i:Int)+1)) aT)):=by
 obtain⟨H,f⟩:=jR h;have p:=zO b;have c:=g.sz;refine jQ (λe m=>?_) ?_
 ·rcases Zu.mp m with z |z
  ·rcases Zu.mp z with y |y
   ·exact eC (by lia) e (H e (cA y))
   ·rw[Zt.mp y];exact g.bn
  ·exact eC (by lia) e (H e (cA z))
 ·rw[cU,cU];simp only[szL];lia
def La{B s:Nat}{i:Int}(h:i.natAbs < B)(hs:60<=s):Bd B s (.int i):=⟨by simp only[bnd];exact h,by simp only[sz];exact hs⟩
mutual
noncomputable def vm:D->Bool
 |.int i=>decide (i.natAbs < 10 ^ 31)
 |.tup ds=>zP ds
 |.lst ds=>zP ds
 |.dic ks ds=>(ks.all λk=>match k with |.inl i=>decide (i.natAbs < 10 ^ 31) |_=>bx) && (decide (ks.length=ds.length) && zP ds)
 |_=>br
noncomputable def zP:List D->Bool
 |[]=>br
 |d::ds=>vm d && zP ds
end
abbrev bdB(d:D):Bool:=vm d && decide (sz d<=300)
mutual
theorem xY:∀ (d:D),vm d=br->bnd (10 ^ 31) d
 |.non,_=>by simp only[bnd]
 |.bl _,_=>by simp only[bnd]
 |.str _,_=>by simp only[bnd]
 |.int i,h=>by simp only[vm,bnd,decide_eq_true_eq] at h ⊢;exact h
 |.tup ds,h=>by simp only[vm,bnd] at h ⊢;exact k9 ds h
 |.lst ds,h=>by simp only[vm,bnd] at h ⊢;exact k9 ds h
 |.dic ks ds,h=>by
  simp only[vm,bnd,bAE,decide_eq_true_eq] at h ⊢;refine⟨λk H=>?_,h.2.1,k9 ds h.2.2⟩;have z:=Ze.mp h.1 k H;cases k with
  |inl i=>exact⟨i,rfl,of_decide_eq_true z⟩
  |inr x=>cases z
theorem k9:∀ (ds:List D),zP ds=br->eU (10 ^ 31) ds
 |[],_=>by simp only[eU]
 |d::ds,h=>by simp only[zP,eU,bAE] at h ⊢;exact⟨xY d h.1,k9 ds h.2⟩
end
def Lb(h:bdB d=br):Bd (10 ^ 31) 300 d:=by
 simp only[bdB,bAE,decide_eq_true_eq] at h;exact⟨xY d h.1,h.2⟩
end Dw
namespace Ev
open PySem PySem.Spec PyProof.Rows L2
inductive D where
 |non |bl (b:Bool) |int (i:Int) |str (x:Str) |tup (ds:List D) |ref (n:Nat)
inductive Ob where
 |lst (ds:List D) |frz (ds:List D) |dic (ks:List Key) (ds:List D)
@[inline]abbrev Sto:=List Ob
@[inline]abbrev Rho:=List (Option D)
mutual
noncomputable def VD(K:Vh)(m:List Addr)(H:Hp):D->V->Prop
 |.non,v=>v = .non
 |.bl b,v=>v = .bl b
 |.int i,v=>v = .int i
 |.str x,v=>v = .str x
 |.tup ds,v=>∃a xs,v = .ref a/\H a=aD (.tup xs)/\VDs K m H ds xs
 |.ref n,v=>∃a,m[n]?=aD a/\v = .ref a
noncomputable def VDs(K:Vh)(m:List Addr)(H:Hp):List D->List V->Prop
 |[],xs=>xs=[]
 |d::ds,xs=>∃x r,xs=x::r/\VD K m H d x/\VDs K m H ds r
end
structure Ext(m:List Addr)(H:Hp)(m':List Addr)(H':Hp):Prop where
 pre:m <+: m'
 keep:∀a o,H a=aD o->a ∉ m->H' a=aD o
 new:∀a,a ∈ m'->a ∉ m->H a=aT
abbrev ObR(K:Vh)(m:List Addr)(H:Hp)(a:Addr):Ob->Prop
 |.lst ds=>∃v,H a=aD (.lst v)/\VDs K m H ds v
 |.frz ds=>∃o v,H a=aD (.frz o (.lst v))/\VDs K m H ds v
 |.dic ks ds=>∃v,H a=aD (.dK (ks.zip v))/\ks.length=ds.length/\VDs K m H ds v
structure Rel(K:Vh)(m:List Addr)(S:Sto)(H:Hp):Prop where
 len:m.length=S.length
 nd:m.Nodup
 ob:∀ (i:Nat) (o:Ob),S[i]?=aD o->∃a,m[i]?=aD a/\ObR K m H a o
structure EnvR(K:Vh)(m:List Addr)(H:Hp)(ρ:Rho)(σ:L2.St):Prop where
 len:ρ.length=σ.length
 at_:∀ (i:Nat) (d:D),ρ[i]?=aD (aD d)->∃v,σ[i]?=aD (aD v)/\VD K m H d v
def Ext.refl(m:List Addr)(H:Hp):Ext m H m H:=⟨Yn m,λ_ _ h _=>h,λ_ h n=>absurd h n⟩
def Ext.trans(x:Ext m H m1 c)(y:Ext m1 c M H2):Ext m H M H2:=by
 refine⟨x.pre.trans y.pre,λa o h n=>?_,λa h n=>?_⟩
 ·have f:a ∉ m1:=λz=>by have:=x.new a z n;rw[this] at h;cases h
  exact y.keep a o (x.keep a o h n) f
 ·by_cases b:a ∈ m1
  ·exact x.new a b n
  ·cases e:H a with
   |none=>rfl
   |some o=>
    have:=x.keep a o e n;rw[y.new a h b] at this;cases this
section
variable {K:Vh} {m m':List Addr} {S S':Sto} {H H':Hp} {a:Addr}
def Rel.ex(R:Rel K m S H)(u:a ∈ m):∃o ob,H a=aD o/\ObR K m H a ob:=by
 obtain⟨i,p,e⟩:=Yr u;have g:i < S.length:=by rw[<-R.len];exact p
 obtain⟨b,j,r⟩:=R.ob i S[i] (gEG g);have:b=a:=by rw[gEG p] at j;rw[<-e];exact(Option.some.inj j).symm
 subst this;cases f:S[i] with
 |lst c=>rw[f] at r;obtain⟨v,h,q⟩:=r;exact⟨_,.lst c,h,v,h,q⟩
 |frz c=>rw[f] at r;obtain⟨o,v,h,q⟩:=r;exact⟨_,.frz c,h,o,v,h,q⟩
 |dic y c=>rw[f] at r;obtain⟨v,h,q⟩:=r;exact⟨_,.dic y c,h,v,h,q⟩
def Rel.no(R:Rel K m S H)(h:H a=aT):a ∉ m:=λz=>by
 obtain⟨o,_,e,_⟩:=R.ex z;rw[h] at e;cases e
def Rel.notTup(R:Rel K m S H)(h:H a=aD (.tup xs)):a ∉ m:=λz=>by
 obtain⟨o,ob,e,r⟩:=R.ex z;cases ob with
 |lst b=>obtain⟨v,q,_⟩:=r;rw[q] at h;cases h
 |frz b=>obtain⟨o,v,q,_⟩:=r;rw[q] at h;cases h
 |dic c b=>obtain⟨v,q,_⟩:=r;rw[q] at h;cases h
def Tup.ext(R:Rel K m S H)(x:Ext m H m' H')(h:H a=aD (.tup xs)):H' a=aD (.tup xs):=x.keep _ _ h (R.notTup h)
def cg{i:Nat}(h:m <+: m')(e:m[i]?=aD a):m'[i]?=aD a:=by
 obtain⟨t,rfl⟩:=h;have b:i < m.length:=(Zb.mp e).1;rw[Zw b];exact e
mutual
theorem VD.mono0(pre:m <+: m')(T:∀a xs,H a=aD (.tup xs)->H' a=aD (.tup xs)):∀ {d:D} {v:V},VD K m H d v->VD K m' H' d v
 |.non,v,h=>by rw[VD] at h ⊢;exact h
 |.bl _,v,h=>by rw[VD] at h ⊢;exact h
 |.int _,v,h=>by rw[VD] at h ⊢;exact h
 |.str _,v,h=>by rw[VD] at h ⊢;exact h
 |.tup ds,v,h=>by
  rw[VD] at h ⊢;obtain⟨a,xs,e,q,r⟩:=h;exact⟨a,xs,e,T a xs q,VDs.mono0 pre T r⟩
 |.ref n,v,h=>by
  rw[VD] at h ⊢;obtain⟨a,q,e⟩:=h;exact⟨a,cg pre q,e⟩
theorem VDs.mono0(pre:m <+: m')(T:∀a xs,H a=aD (.tup xs)->H' a=aD (.tup xs)):∀ {ds:List D} {v:List V},VDs K m H ds v->VDs K m' H' ds v
 |[],v,h=>by rw[VDs] at h ⊢;exact h
 |d::ds,v,h=>by
  rw[VDs] at h ⊢;obtain⟨y,r,e,p,q⟩:=h;exact⟨y,r,e,VD.mono0 pre T p,VDs.mono0 pre T q⟩
end
def VD.mono(R:Rel K m S H)(x:Ext m H m' H')(h:VD K m H d v):VD K m' H' d v:=VD.mono0 x.pre (λ_ _=>Tup.ext R x) h
def VDs.mono(R:Rel K m S H)(x:Ext m H m' H')(h:VDs K m H ds vs):VDs K m' H' ds vs:=VDs.mono0 x.pre (λ_ _=>Tup.ext R x) h
def EnvR.mono(R:Rel K m S H)(x:Ext m H m' H')(h:EnvR K m H b σ):EnvR K m' H' b σ:=
 ⟨h.len,λi d e=>let ⟨v,p,q⟩:=h.at_ i d e;⟨v,p,VD.mono R x q⟩⟩
def VDs.length:∀ {ds:List D} {v:List V},VDs K m H ds v->ds.length=v.length
 |[],v,h=>by rw[VDs] at h;rw[h];rfl
 |d::ds,v,h=>by
  rw[VDs] at h;obtain⟨y,r,e,_,q⟩:=h;rw[e,ZB,ZB,VDs.length q]
def VDs.nil:VDs K m H [] []:=by rw[VDs]
def VDs.cons(h:VD K m H d v)(t:VDs K m H ds b):VDs K m H (d::ds) (v::b):=by rw[VDs];exact⟨v,b,rfl,h,t⟩
def VDs.get:∀ {ds:List D} {b:List V} {i:Nat} {d:D},VDs K m H ds b->ds[i]?=aD d->∃v,b[i]?=aD v/\VD K m H d v
 |[],_,_,_,_,e=>by simp at e
 |d::ds,b,0,d',h,e=>by
  rw[VDs] at h;obtain⟨y,r,rfl,p,q⟩:=h;simp at e;subst e;exact⟨y,rfl,p⟩
 |d::ds,b,i+1,d',h,e=>by
  rw[VDs] at h;obtain⟨y,r,rfl,p,q⟩:=h;obtain⟨v,f,c⟩:=VDs.get (i:=i) q (by simpa using e);exact⟨v,by simpa using f,c⟩
def VDs.append:∀ {ds E:List D} {v b:List V},VDs K m H ds v->VDs K m H E b->VDs K m H (ds++E) (v++b)
 |[],_,v,_,h,t=>by rw[VDs] at h;subst h;exact t
 |d::ds,E,v,b,h,t=>by
  rw[VDs] at h;obtain⟨y,r,rfl,p,q⟩:=h;exact .cons p (VDs.append q t)
def VDs.drop:∀ {ds:List D} {v:List V} (n:Nat),VDs K m H ds v->VDs K m H (ds.drop n) (v.drop n)
 |ds,v,0,h=>h
 |[],v,n+1,h=>by rw[VDs] at h;subst h;exact .nil
 |d::ds,v,n+1,h=>by
  rw[VDs] at h;obtain⟨y,r,rfl,p,q⟩:=h;exact VDs.drop n q
def VDs.take:∀ {ds:List D} {v:List V} (n:Nat),VDs K m H ds v->VDs K m H (ds.take n) (v.take n)
 |ds,v,0,h=>by simp only[List.take_zero];exact .nil
 |[],v,n+1,h=>by rw[VDs] at h;subst h;exact .nil
 |d::ds,v,n+1,h=>by
  rw[VDs] at h;obtain⟨y,r,rfl,p,q⟩:=h;exact .cons p (VDs.take n q)
def VDs.set:∀ {ds:List D} {b:List V} {i:Nat} {d:D} {v:V},VDs K m H ds b->VD K m H d v->VDs K m H (ds.set i d) (b.set i v)
 |[],b,_,_,_,h,_=>by rw[VDs] at h;subst h;exact .nil
 |_::ds,b,0,d,v,h,p=>by
  rw[VDs] at h;obtain⟨y,r,rfl,_,q⟩:=h;exact .cons p q
 |_::ds,b,i+1,d,v,h,p=>by
  rw[VDs] at h;obtain⟨y,r,rfl,c,q⟩:=h;exact .cons c (VDs.set q p)
def Ext.beside(R:Rel K m S H)(h:H a=aT)(o:HO):Ext m H m (upd H a o):=
 ⟨Yn m,λb u e _=>by rw[aw (aV e h)];exact e,λb z n=>absurd z n⟩
def Rel.ext_keep(R:Rel K m S H)(x:Ext m H m H')(k:∀b ∈ m,H' b=H b):Rel K m S H':=by
 refine⟨R.len,R.nd,λi o e=>?_⟩;obtain⟨b,c,r⟩:=R.ob i o e;have h:b ∈ m:=Zy c;refine⟨b,c,?_⟩;cases o with
 |lst f=>obtain⟨v,p,q⟩:=r;exact⟨v,(k b h).trans p,VDs.mono R x q⟩
 |frz f=>obtain⟨o,v,p,q⟩:=r;exact⟨o,v,(k b h).trans p,VDs.mono R x q⟩
 |dic g f=>obtain⟨v,p,l,q⟩:=r;exact⟨v,(k b h).trans p,l,VDs.mono R x q⟩
def Rel.beside(R:Rel K m S H)(h:H a=aT)(o:HO):Rel K m S (upd H a o):=
 R.ext_keep (Ext.beside R h o) λb c=>aw λz=>R.no h (z ▸ c)
def Rel.adopt(R:Rel K m S H)(n:a ∉ m)(h:H a=aD (.lst v))(q:VDs K m H ds v):Rel K (m++[a]) (S++[.lst ds]) H:=by
 have p:=Yy m [a];have g:∀ {E:List D} {ws:List V},VDs K m H E ws->VDs K (m++[a]) H E ws:=λz=>VDs.mono0 p (λ_ _ t=>t) z;refine⟨by simp[R.len],YU.mpr ⟨R.nd,by simp,λx B y c=>by simp at c;subst c;exactλz=>n (z ▸ B)⟩,λi o e=>?_⟩;by_cases C:i < S.length
 ·rw[Zw C] at e;obtain⟨b,j,r⟩:=R.ob i o e;refine⟨b,cg p j,?_⟩;cases o with
  |lst ds=>obtain⟨v,p,q⟩:=r;exact⟨v,p,g q⟩
  |frz ds=>obtain⟨o,v,p,q⟩:=r;exact⟨o,v,p,g q⟩
  |dic I ds=>obtain⟨v,p,l,q⟩:=r;exact⟨v,p,l,g q⟩
 ·rw[Zn (by lia)] at e
  have f:i - S.length=0:=by
   have:=(Zb.mp e).1;simp at this;lia
  rw[f] at e;have u:Ob.lst ds=o:=by simpa using e
  subst u;refine⟨a,?_,v,h,g q⟩;rw[Zn (by rw[R.len];lia),R.len,f];rfl
def Ext.adopt(x:Ext m H m H')(h:H a=aT):Ext m H (m++[a]) H':=
 ⟨Yy m [a],x.keep,λb c nb=>by
  rcases Zu.mp c with z |z
  ·exact absurd z nb
  ·simp at z;subst z;exact h⟩
def Rel.writeO(R:Rel K m S H){i:Nat}(f:m[i]?=aD a)(u:HO)(ob:Ob)(q:Ext m H m (upd H a u)->ObR K m (upd H a u) a ob):Ext m H m (upd H a u)/\Rel K m (S.set i ob) (upd H a u):=by
 have C:a ∈ m:=Zy f;have x:Ext m H m (upd H a u):=⟨Yn m,λb w e n=>by rw[aw (show b ≠ a fromλz=>n (by rw[z];exact C))];exact e,λb z n=>absurd z n⟩;refine⟨x,by simp[R.len],R.nd,λj o e=>?_⟩;rw[YG] at e;by_cases h:i=j
 ·subst h;rw[if_pos rfl] at e;split at e
  ·have v:=Option.some.inj e;subst v;exact⟨a,f,q x⟩
  ·cases e
 ·rw[if_neg h] at e;obtain⟨b,g,r⟩:=R.ob j o e
  have ne:b ≠ a:=λz=>by
   subst z;have y:=Zb.mp f;have B:=Zb.mp g;exact h ((YW R.nd).mp (y.2.trans B.2.symm))
  refine⟨b,g,?_⟩;cases o with
  |lst E=>obtain⟨c,p,q⟩:=r;exact⟨c,by rw[aw ne];exact p,VDs.mono R x q⟩
  |frz E=>obtain⟨o,c,p,q⟩:=r;exact⟨o,c,by rw[aw ne];exact p,VDs.mono R x q⟩
  |dic I E=>obtain⟨c,p,l,q⟩:=r;exact⟨c,by rw[aw ne];exact p,l,VDs.mono R x q⟩
def Rel.write(R:Rel K m S H){i:Nat}(h:m[i]?=aD a)(q:VDs K m H ds v):Ext m H m (upd H a (.lst v))/\Rel K m (S.set i (.lst ds)) (upd H a (.lst v)):=
 R.writeO h (.lst v) (.lst ds) λx=>⟨v,aC,VDs.mono R x q⟩
def Rel.lst(R:Rel K m S H){i:Nat}(e:S[i]?=aD (.lst ds)):∃a vs,m[i]?=aD a/\H a=aD (.lst vs)/\VDs K m H ds vs:=by
 obtain⟨a,h,vs,p,q⟩:=R.ob i _ e;exact⟨a,vs,h,p,q⟩
end
abbrev aA(S:Sto)(n:Nat):Option (List D):=match S[n]? with
 |some (.lst ds)=>aD ds
 |some (.frz ds)=>aD ds
 |_=>aT
def Rel.seq{K:Vh}{m:List Addr}{S:Sto}{H:Hp}(R:Rel K m S H){i:Nat}{ds:List D}(e:aA S i=aD ds):∃a vs,m[i]?=aD a/\SqL K H a vs/\VDs K m H ds vs:=by
 unfold aA at e;cases h:S[i]? with
 |none=>rw[h] at e;cases e
 |some o=>
  rw[h] at e;cases o with
  |lst E=>cases e;obtain⟨a,b,vs,p,q⟩:=R.ob i _ h;exact⟨a,vs,b,.inl (.inl p),q⟩
  |frz E=>cases e;obtain⟨a,b,o,vs,p,q⟩:=R.ob i _ h;exact⟨a,vs,b,.inl (.inr ⟨o,p⟩),q⟩
  |dic c E=>cases e
@[inline]abbrev XE:=Rho->Sto->Option (D × Sto)
@[inline]abbrev XT:=Rho->Sto->Option (Bool × Sto)
@[inline]abbrev XA:=Rho->Sto->Option (List D × Sto)
abbrev bnd{c b:Type}(x:Option (c × Sto))(f:c->Sto->Option (b × Sto)):Option (b × Sto):=match x with
 |none=>aT
 |some (a,S)=>f a S
def ae{c b:Type}{x:Option (c × Sto)}{f:c->Sto->Option (b × Sto)}{r:b × Sto}(h:bnd x f=aD r):∃a S,x=aD (a,S)/\f a S=aD r:=by
 unfold bnd at h;cases x with
 |none=>cases h
 |some p=>exact⟨p.1,p.2,rfl,h⟩
structure Aft(K:Vh)(m:List Addr)(H:Hp)(S':Sto)(m':List Addr)(H':Hp):Prop where
 ext:Ext m H m' H'
 rel:Rel K m' S' H'
abbrev tE(K:Vh)(x:XE):TE:=λf H Q=>∃m b S d c,EnvR K m H b f/\Rel K m S H/\x b S=aD (d,c)/\∀M h v,Aft K m H c M h->VD K M h d v->Q v h
abbrev tT(K:Vh)(x:XT):TT:=λg H Q=>∃m c S b f,EnvR K m H c g/\Rel K m S H/\x c S=aD (b,f)/\∀M h,Aft K m H f M h->Q b h
abbrev tAr(K:Vh)(x:XA):TA:=λg H Q=>∃m b S f c,EnvR K m H b g/\Rel K m S H/\x b S=aD (f,c)/\∀M h v,Aft K m H c M h->VDs K M h f v->Q v h
abbrev SqB(K:Vh)(T:Bool)(H:Hp)(a:Addr)(v:List V):Prop:=if T=br then H a=aD (.tup v) else SqL K H a v
abbrev fo(K:Vh)(x:XA):TE:=λj H Q=>∃m c S g f,EnvR K m H c j/\Rel K m S H/\x c S=aD (g,f)/\∀M h a v,Aft K m H f M h->h a=aD (.lst v)->a ∉ M->(∀b,b ∈ m->b ≠ a)->H a=aT->VDs K M h g v->Q (.ref a) h
section
variable {X:Cx} {e:Expr} {K:Vh} {m m1 m2:List Addr} {H H1 H2:Hp} {S S1 S2:Sto}
def PE.imp(h:PE X e t)(f:∀b H Q,t' b H Q->t b H Q):PE X e t':=λp s b H Q I q=>h p s b H Q I (f b H Q q)
def PT.imp(h:PT X e t)(f:∀b H Q,t' b H Q->t b H Q):PT X e t':=λp s b H Q I q=>h p s b H Q I (f b H Q q)
def PA.imp(h:PA X E t)(f:∀c H Q,t' c H Q->t c H Q):PA X E t':=λp b s c H Q I q=>h p b s c H Q I (f c H Q q)
def PS.imp{st:Stmt}{t t':TS}(h:PS X st t)(f:∀D b H,t' D b H->t D b H):PS X st t':=λp s b H D I q=>h p s b H D I (f D b H q)
def PSs.imp{st:List Stmt}{t t':TS}(h:PSs X st t)(f:∀D b H,t' D b H->t D b H):PSs X st t':=λp s b H D I q=>h p s b H D I (f D b H q)
def PI.imp(h:PI X T c t)(f:∀b H Q,t' b H Q->t b H Q):PI X T c t':=λp s b H Q I q=>h p s b H Q I (f b H Q q)
def PI.or(h:PI X T c t)(h':PI X T c t'):PI X T c (λb H Q=>t b H Q\/t' b H Q):=λp s b H Q I q=>q.elim (h p s b H Q I) (h' p s b H Q I)
def OpR.imp(h:OpR X f r)(g:∀x y H Q,r' x y H Q->r x y H Q):OpR X f r':=λp s j H x y v u Q I b c q=>h p s j H x y v u Q I b c (g _ _ _ _ q)
def OpR.or(h:OpR X f r)(h':OpR X f j):OpR X f (λx y H Q=>r x y H Q\/j x y H Q):=λp s g H x y v u Q I b c q=>
 q.elim (h p s g H x y v u Q I b c) (h' p s g H x y v u Q I b c)
def aZ.imp(h:aZ X f r)(g:∀x H Q,r' x H Q->r x H Q):aZ X f r':=λp s c H xs u Q I b q=>h p s c H xs u Q I b (g _ _ _ q)
def aZ.or(h:aZ X f r)(h':aZ X f g):aZ X f (λx H Q=>r x H Q\/g x H Q):=λp s c H xs u Q I b q=>
 q.elim (h p s c H xs u Q I b) (h' p s c H xs u Q I b)
def Aft.refl(R:Rel K m S H):Aft K m H S m H:=⟨Ext.refl m H,R⟩
def Aft.trans(x:Aft K m H S1 m1 H1)(y:Aft K m1 H1 S2 m2 H2):Aft K m H S2 m2 H2:=⟨x.ext.trans y.ext,y.rel⟩
abbrev rS(K:Vh)(f:D->D->Sto->Option (D × Sto)):R2:=λv w H Q=>∃m S a b d c,Rel K m S H/\VD K m H a v/\VD K m H b w/\f a b S=aD (d,c)/\∀M h u,Aft K m H c M h->VD K M h d u->Q u h
abbrev rS1(K:Vh)(f:D->Sto->Option (D × Sto)):V->Hp->VK->Prop:=λv H Q=>∃m S a d b,Rel K m S H/\VD K m H a v/\f a S=aD (d,b)/\∀M h u,Aft K m H b M h->VD K M h d u->Q u h
abbrev rSA(K:Vh)(f:List D->Sto->Option (D × Sto)):List V->Hp->VK->Prop:=λv H Q=>∃m S b d c,Rel K m S H/\VDs K m H b v/\f b S=aD (d,c)/\∀M h u,Aft K m H c M h->VD K M h d u->Q u h
abbrev rSq(K:Vh)(f:Bool->List D->Sto->Option (D × Sto)):V->Hp->VK->Prop:=λv H Q=>∃m S T g a b d c,Rel K m S H/\v = .ref a/\SqB K T H a b/\VDs K m H g b/\f T g S=aD (d,c)/\∀M h u,Aft K m H c M h->VD K M h d u->Q u h
abbrev sJ(f:D->D->Sto->Option (D × Sto))(x y:XE):XE:=λc S=>bnd (x c S) λa S1=>bnd (y c S1) λb S2=>f a b S2
abbrev xUn(f:D->Sto->Option (D × Sto))(x:XE):XE:=λb S=>bnd (x b S) λa S1=>f a S1
abbrev kS(f:List D->Sto->Option (D × Sto))(x:XA):XE:=λb S=>bnd (x b S) λa S1=>f a S1
abbrev zQ(f:Bool->List D->Sto->Option (D × Sto))(x:XA):XE:=λc S=>bnd (x c S) λb S1=>f bx b S1
abbrev am(d:D)(S:Sto):Option (Bool × List D):=match d with
 |.tup b=>aD (br,b)
 |.ref n=>(aA S n).map λb=>(bx,b)
 |_=>aT
abbrev az(f:Bool->List D->Sto->Option (D × Sto))(d:D)(S:Sto):Option (D × Sto):=match am d S with
 |some r=>f r.1 r.2 S
 |none=>aT
abbrev zR(f:Bool->List D->Sto->Option (D × Sto))(x:XE):XE:=λb S=>bnd (x b S) λd S1=>az f d S1
def qD{f:D->D->Sto->Option (D × Sto)}{x y:XE}{o:L2.St}{H:Hp}{Q:VK}(h:tE K (sJ f x y) o H Q):tOp (rS K f) (tE K x) (tE K y) o H Q:=by
 obtain⟨m,j,S,d,L,E,R,e,q⟩:=h;obtain⟨a,S1,J,e⟩:=ae e;obtain⟨b,S2,I,e⟩:=ae e;refine⟨m,j,S,a,S1,E,R,J,λm1 H1 v c p=>⟨m1,j,S1,b,S2,E.mono R c.ext,c.rel,I,λm2 H2 w g vb=>?_⟩⟩;exact⟨m2,S2,a,b,d,L,g.rel,p.mono c.rel g.ext,vb,e,λM z u C B=>q M z u ((c.trans g).trans C) B⟩
def oP{f:D->Sto->Option (D × Sto)}{x:XE}{c:L2.St}{H:Hp}{Q:VK}(h:tE K (xUn f x) c H Q):tUn (rS1 K f) (tE K x) c H Q:=by
 obtain⟨m,g,S,d,p,E,R,e,q⟩:=h;obtain⟨a,S1,B,e⟩:=ae e;exact⟨m,g,S,a,S1,E,R,B,λm1 H1 v b o=>⟨m1,S1,a,d,p,b.rel,o,e,λM y u j z=>q M y u (b.trans j) z⟩⟩
def Ca{f:List D->Sto->Option (D × Sto)}{x:XA}{c:L2.St}{H:Hp}{Q:VK}(h:tE K (kS f x) c H Q):tCB (rSA K f) (tAr K x) c H Q:=by
 obtain⟨m,g,S,d,p,E,R,e,q⟩:=h;obtain⟨a,S1,B,e⟩:=ae e;exact⟨m,g,S,a,S1,E,R,B,λm1 H1 v b o=>⟨m1,S1,a,d,p,b.rel,o,e,λM y u j z=>q M y u (b.trans j) z⟩⟩
def Lc{f:Bool->List D->Sto->Option (D × Sto)}{x:XA}{j:L2.St}{H:Hp}{Q:VK}(h:tE K (zQ f x) j H Q):tUn (rSq K f) (fo K x) j H Q:=by
 obtain⟨m,o,S,d,y,E,R,e,q⟩:=h;obtain⟨g,S1,C,e⟩:=ae e;exact⟨m,o,S,g,S1,E,R,C,λm1 H1 a c b B _ _ _ v=>⟨m1,S1,bx,g,a,c,d,y,b.rel,rfl,show SqL K H1 a c from SqL.of B,v,e,λM z u p v=>q M z u (b.trans p) v⟩⟩
abbrev sK(i:Nat):XE:=λb S=>match b[i]? with
 |some (aD d)=>aD (d,S)
 |_=>aT
abbrev xC(d:D):XE:=λ_ S=>aD (d,S)
def Lf{i:Nat}(h:tE K (sK i) j H Q):Kk i j H Q:=by
 obtain⟨m,c,S,d,u,E,R,e,q⟩:=h;unfold sK at e;cases b:c[i]? with
 |none=>rw[b] at e;cases e
 |some o=>
  rw[b] at e;cases o with
  |none=>cases e
  |some p=>
   cases e;obtain⟨v,g,f⟩:=E.at_ i d b;exact⟨v,g,q m H v (Aft.refl R) f⟩
def zS(b:∀m H,VD K m H d v)(h:tE K (xC d) c H Q):tC v c H Q:=by
 obtain⟨m,g,S,f,j,E,R,e,q⟩:=h;cases e;exact q m H v (Aft.refl R) (b m H)
def qE:VD K m H .non .non:=by rw[VD]
def b9:VD K m H (.bl b) (.bl b):=by rw[VD]
def bI{i:Int}:VD K m H (.int i) (.int i):=by rw[VD]
def dB:VD K m H (.str x) (.str x):=by rw[VD]
def qF(h:H a=aD (.tup v))(q:VDs K m H ds v):VD K m H (.tup ds) (.ref a):=by rw[VD];exact⟨a,v,rfl,h,q⟩
def VD.ints{i:Int}(h:VD K m H (.int i) v):v = .int i:=by rw[VD] at h;exact h
def VD.bls(h:VD K m H (.bl i) v):v = .bl i:=by rw[VD] at h;exact h
def VD.strs(h:VD K m H (.str i) v):v = .str i:=by rw[VD] at h;exact h
def VD.nons(h:VD K m H .non v):v = .non:=by rw[VD] at h;exact h
def VD.tups(h:VD K m H (.tup ds) v):∃a vs,v = .ref a/\H a=aD (.tup vs)/\VDs K m H ds vs:=by rw[VD] at h;exact h
def VD.refs{n:Nat}(h:VD K m H (.ref n) v):∃a,m[n]?=aD a/\v = .ref a:=by rw[VD] at h;exact h
abbrev F0:XA:=λ_ S=>aD ([],S)
abbrev xZ(x:XE)(y:XA):XA:=λb S=>bnd (x b S) λa S1=>bnd (y b S1) λc S2=>aD (a::c,S2)
def Lg(h:tAr K F0 b H Q):lL b H Q:=by
 obtain⟨m,f,S,c,g,E,R,e,q⟩:=h;cases e;exact q m H [] (Aft.refl R) .nil
def F1{x:XE}{y:XA}{j:L2.St}{H:Hp}{Q:List V->Hp->Prop}(h:tAr K (xZ x y) j H Q):dR (tE K x) (tAr K y) j H Q:=by
 obtain⟨m,f,S,z,B,E,R,e,q⟩:=h;obtain⟨a,S1,u,e⟩:=ae e;obtain⟨b,S2,p,e⟩:=ae e;cases e;refine⟨m,f,S,a,S1,E,R,u,λm1 H1 v c o=>⟨m1,f,S1,b,_,E.mono R c.ext,c.rel,p,λm2 H2 w g vb=>?_⟩⟩;exact q m2 H2 _ (c.trans g) (.cons (o.mono c.rel g.ext) vb)
abbrev kT(ds:List D)(S:Sto):Option (D × Sto):=if ds.length<=1000 then aD (.tup ds,S) else aT
def mv{n:Nat}(h:n<=1000):n<=sizeLine:=by rw[Ug];lia
def jd{ds:List D}{v:List V}{Q:VK}(R:Rel K m S H)(c:VDs K m H ds v)(q:∀M h u,Aft K m H S M h->VD K M h (.tup ds) u->Q u h):∀p,H p=aT->Q (.ref p) (upd H p (.tup v)):=λp b=>
 q m _ _ ⟨Ext.beside R b _,R.beside b _⟩ (qF aC (c.mono R (Ext.beside R b _)))
def je{ds:List D}{v:List V}{Q:VK}(R:Rel K m S H)(c:VDs K m H ds v)(q:∀M b u,Aft K m H (S++[.lst ds]) M b->VD K M b (.ref S.length) u->Q u b):∀p,H p=aT->Q (.ref p) (upd H p (.lst v)):=λp h=>by
 have x:=Ext.beside R h (.lst v);refine q (m++[p]) _ _ ⟨x.adopt h,(R.beside h _).adopt (R.no h) aC (c.mono R x)⟩ ?_;rw[VD];exact⟨p,by rw[Zn (by rw[R.len];exact Zc _),R.len,Z7];rfl,rfl⟩
def lp{ds:List D}{v:List V}{Q:VK}(R:Rel K m S H)(g:VDs K m H ds v)(q:∀M c a v,Aft K m H S M c->c a=aD (.lst v)->a ∉ M->(∀b,b ∈ m->b ≠ a)->H a=aT->VDs K M c ds v->Q (.ref a) c):∀p,H p=aT->Q (.ref p) (upd H p (.lst v)):=λp h=>
 q m _ _ _ ⟨Ext.beside R h _,R.beside h _⟩ aC (R.no h) (λb f z=>R.no h (z ▸ f)) h (g.mono R (Ext.beside R h _))
def Lh{x:XA}{c:L2.St}{H:Hp}{Q:VK}(h:tE K (kS kT x) c H Q):PD (tAr K x) c H Q:=by
 obtain⟨m,f,S,z,B,E,R,e,q⟩:=h;obtain⟨a,S1,p,e⟩:=ae e;unfold kT at e;split at e
 ·rename_i y;cases e;exact⟨m,f,S,a,_,E,R,p,λm1 H1 C b v=>⟨mv (by rw[<-v.length];exact y),jd b.rel v λM g u o j=>q M g u (b.trans o) j⟩⟩
 ·cases e
abbrev oQ(x:XA):XA:=λc S=>bnd (x c S) λb S1=>if b.length<=1000 then aD (b,S1) else aT
def F2{x:XA}{p:L2.St}{H:Hp}{Q:VK}(h:fo K (oQ x) p H Q):PH (tAr K x) p H Q:=by
 obtain⟨m,z,S,ds,S',E,R,e,q⟩:=h;obtain⟨a,S1,M,e⟩:=ae e;split at e
 ·rename_i O;cases e;refine⟨m,z,S,_,_,E,R,M,λm1 H1 Z c v=>⟨mv (by rw[<-v.length];exact O),lp c.rel v λT B u U Y J y j g C=>?_⟩⟩
  have I:H u=aT:=by
   cases e:H u with
   |none=>rfl
   |some o=>
    by_cases f:u ∈ m
    ·exact absurd rfl (j u (c.ext.pre.subset f))
    ·have:=c.ext.keep u o e f;rw[this] at g;cases g
  exact q T B u U (c.trans Y) J y (λb L=>j b (c.ext.pre.subset L)) I C
 ·cases e
def eV{d:D}{v:V}{tu:Bool}{ds:List D}(R:Rel K m S H)(c:VD K m H d v)(e:am d S=aD (tu,ds)):∃a vs,v = .ref a/\SqB K tu H a vs/\VDs K m H ds vs:=by
 unfold am at e;cases d with
 |tup g=>
  cases e;obtain⟨a,vs,e,q,r⟩:=c.tups;exact⟨a,vs,e,q,r⟩
 |ref n=>
  obtain⟨a,f,E⟩:=c.refs;cases hs:aA S n with
  |none=>simp[hs] at e
  |some g=>
   simp[hs] at e;obtain⟨rfl,rfl⟩:=e;obtain⟨b,vs,h,q,r⟩:=R.seq hs;rw[f] at h;cases h;exact⟨a,vs,E,q,r⟩
 |_=>cases e
def Li{f:Bool->List D->Sto->Option (D × Sto)}{x:XE}{j:L2.St}{H:Hp}{Q:VK}(h:tE K (zR f x) j H Q):tUn (rSq K f) (tE K x) j H Q:=by
 obtain⟨m,C,S,d,T,E,R,e,q⟩:=h;obtain⟨a,S1,O,e⟩:=ae e;refine⟨m,C,S,a,S1,E,R,O,λm1 H1 v g o=>?_⟩;unfold az at e;split at e
 ·rename_i r y;obtain⟨b,L,B,J,c⟩:=eV (tu:=r.1) (ds:=r.2) g.rel o y;exact⟨m1,S1,r.1,r.2,b,L,d,T,g.rel,B,J,c,e,λM p u I z=>q M p u (g.trans I) z⟩
 ·cases e
abbrev eD(x:XA):XE:=λc S=>bnd (x c S) λb S1=>aD (.ref S1.length,S1++[.lst b])
def sL{x:XA}{f:L2.St}{H:Hp}{Q:VK}(h:tE K (eD x) f H Q):fo K x f H Q:=by
 obtain⟨m,j,S,d,I,E,R,e,q⟩:=h;obtain⟨u,S1,p,e⟩:=ae e;cases e;refine⟨m,j,S,u,S1,E,R,p,λm1 H1 a J c v o C y B=>?_⟩;refine q (m1++[a]) H1 _ ⟨⟨c.ext.pre.trans (Yy _ _),c.ext.keep,λb g nb=>?_⟩,c.rel.adopt o v B⟩ ?_
 ·rcases Zu.mp g with z |z
  ·exact c.ext.new b z nb
  ·simp at z;subst z;exact y
 ·rw[VD];exact⟨a,by rw[Zn (by rw[c.rel.len];exact Zc _),c.rel.len,Z7];rfl,rfl⟩
end
abbrev eqL(f:D->D->Option Bool):List D->List D->Option Bool
 |[],[]=>aD br
 |x::xs,y::ys=>match f x y,eqL f xs ys with
  |some a,aD b=>aD (a && b)
  |_,_=>aT
 |_,_=>aD bx
abbrev eqB:D->D->Option Bool
 |.non,.non=>aD br
 |.bl a,.bl b=>aD (a == b)
 |.int a,.int b=>aD (a == b)
 |.str a,.str b=>aD (a == b)
 |.bl a,.int b=>aD ((if a then 1 else 0) == b)
 |.int a,.bl b=>aD (a == (if b then 1 else 0))
 |_,_=>aT
abbrev eqD(_:Nat)(S:Sto)(x y:D):Option Bool:=match x,y with
 |.tup xs,.tup ys=>eqL eqB xs ys
 |.ref a,.ref b=>match aA S a,aA S b with
  |some xs,aD ys=>if a=b then aD br else if xs.length=ys.length then eqL eqB xs ys else aD bx
  |_,_=>aT
 |x,y=>eqB x y
section
variable {X:Cx} {K:Vh} {m:List Addr} {H:Hp} {S:Sto}
def sM{f:D->D->Option Bool}:∀ {xs ys:List D} {b:Bool},eqL f xs ys=aD b->∃g:Nat->Bool,(∀j x y,xs[j]?=aD x->ys[j]?=aD y->f x y=aD (g j))/\b=((Zl (min xs.length ys.length)).all g && (xs.length == ys.length))
 |[],[],b,h=>by simp[eqL] at h;exact⟨λ_=>br,λj x y e=>by simp at e,by simp[<-h]⟩
 |[],_::_,b,h=>by simp[eqL] at h;exact⟨λ_=>br,λj x y e=>by simp at e,by simp[<-h]⟩
 |_::_,[],b,h=>by simp[eqL] at h;exact⟨λ_=>br,λj x y _ e=>by simp at e,by simp[<-h]⟩
 |x::xs,y::ys,b,h=>by
  rw[eqL] at h;split at h
  ·rename_i a c q v;cases h;obtain⟨g,u,p⟩:=sM v;refine⟨λj=>match j with |0=>a |j+1=>g j,λj z Y o E=>?_,?_⟩
   ·cases j with
    |zero=>cases o;cases E;exact q
    |succ j=>exact u j z Y o E
   ·rw[p];simp only[ZB,Nat.succ_min_succ,Xn,ZZ,ZW];rw[Wh,show(xs.length+1 == ys.length+1)=(xs.length == ys.length) by simp];rfl
  ·cases h
def x8{b:List V}{its:List Value}{xs:List D}(p:VDs K m H xs b)(r:aK b its){j:Nat}(f:j < its.toArray.size):∃x v,xs[j]?=aD x/\VD K m H x v/\aG v its.toArray[j]:=by
 have h:j < its.length:=by simpa using f
 have l1:=p.length;have l2:=r.length;obtain⟨v,g,q⟩:=p.get (i:=j) (d:=xs[j]'(by lia)) (gEG _);obtain⟨u,c,o⟩:=r.get g;rw[gEG h] at c;cases c;exact⟨_,v,gEG (by lia),q,o⟩
def Cb{A:Around}{s:Shared}{x y:D}{v w:V}{u U:Value}{b:Bool}(c:VD K m H x v)(f:VD K m H y w)(r1:aG v u)(r2:aG w U)(h:eqB x y=aD b):Ve A s u U b/\SeqAt.RcAt A s u U b/\Vf A s u U (!b):=by
 unfold eqB at h;split at h
 ·cases h;cases c.nons;cases f.nons;cases r1;cases r2;exact⟨.same _,.none_none,.none_none⟩
 ·cases h;cases c.bls;cases f.bls;cases r1;cases r2;exact⟨.bool_bool _ _,.bool_bool _ _,.bool_bool _ _⟩
 ·cases h;cases c.ints;cases f.ints;obtain⟨t,rfl⟩:=r1;obtain⟨T,rfl⟩:=r2;exact⟨.int_int _ _ _ _,.int_int _ _ _ _,.int_int _ _ _ _⟩
 ·cases h;cases c.strs;cases f.strs;obtain⟨t,rfl⟩:=r1;obtain⟨T,rfl⟩:=r2;exact⟨.str_str _ _ _ _,.str_str _ _ _ _,.str_str _ _ _ _⟩
 ·cases h;cases c.bls;cases f.ints;cases r1;obtain⟨T,rfl⟩:=r2;exact⟨.bool_int _ _ _,.bool_int _ _ _,.bool_int _ _ _⟩
 ·cases h;cases c.ints;cases f.bls;obtain⟨t,rfl⟩:=r1;cases r2;exact⟨.int_bool _ _ _,.int_bool _ _ _,.int_bool _ _ _⟩
 ·cases h
def sN{s:Shared}{A:Around}{xs ys:List D}{z C:List V}{I c:List Value}{b:Bool}(p:VDs K m H xs z)(q:VDs K m H ys C)(r1:aK z I)(r2:aK C c)(h:eqL eqB xs ys=aD b):∃g:Nat->Bool,(∀j (u:j < I.toArray.size) (B:j < c.toArray.size),Ve A.in1 s I.toArray[j] c.toArray[j] (g j))/\b=((Zl (min I.toArray.size c.toArray.size)).all g && (I.toArray.size == c.toArray.size)):=by
 obtain⟨g,Q,M⟩:=sM h;refine⟨g,λj u B=>?_,by rw[M,Zk,Zk,<-r1.length,<-p.length,<-r2.length,<-q.length]⟩;obtain⟨x,v,O,L,f⟩:=x8 p r1 u;obtain⟨y,w,J,E,o⟩:=x8 q r2 B;exact(Cb L E f o (Q j x y O J)).1
def PY{A:Around}{J:List (Addr × Obj)}{σ:L2.St}{s:Shared}{x y:D}{v w:V}{u u':Value}{b:Bool}(I:Inv X J σ H s)(R:Rel X.K m S H)(n:Nat)(M:VD X.K m H x v)(U:VD X.K m H y w)(r1:aG v u)(r2:aG w u')(h:eqD n S x y=aD b)(o:A.units < cLine) :
  SeqAt.RcAt A s u u' b/\Vf A s u u' (!b):=by
 unfold eqD at h;split at h
 ·obtain⟨a,vs,rfl,sq,p⟩:=M.tups;obtain⟨a',ws,rfl,B,q⟩:=U.tups;cases r1;cases r2;obtain⟨L,Z,T,_⟩:=I.tuple (.of sq);obtain⟨i2,Y,C,_⟩:=I.tuple (.of B);obtain⟨g,Q,rfl⟩:=sN (s:=s) (A:=A) p q Z Y h;exact⟨SeqAt.RcAt.tuples T C o Q,PySem.SeqAt.RcNeAt.tuples T C o Q⟩
 ·rename_i k k';obtain⟨c,hc,rfl⟩:=M.refs;obtain⟨c',O,rfl⟩:=U.refs;cases r1;cases r2;split at h
  ·rename_i es es' hs hs';obtain⟨b1,vs,hb,sq,p⟩:=R.seq hs;rw[hb] at hc;cases hc;obtain⟨b2,ws,E,B,q⟩:=R.seq hs';rw[E] at O;cases O;obtain⟨L,Z,T,_⟩:=I.list sq;obtain⟨i2,Y,C,_⟩:=I.list B;split at h
   ·rename_i hk;subst hk;rw[hb] at E;cases E;cases h;have z:=SeqAt.RcAt.lists (A:=A) (e:=λ_=>br) T.isList T.isList rfl o λj M U=>SeqAt.EqAt.same _;have z':=PySem.SeqAt.RcNeAt.lists (A:=A) (e:=λ_=>br) T.isList T.isList rfl o λj M U=>SeqAt.EqAt.same _;rw[show(Zl L.toArray.size).all (λ_=>br)=br by simp] at z z';exact⟨z,z'⟩
   ·have l1:L.toArray.size=es.length:=by rw[Zk,<-Z.length,<-p.length]
    have l2:i2.toArray.size=es'.length:=by rw[Zk,<-Y.length,<-q.length]
    split at h
    ·rename_i hl;obtain⟨g,Q,rfl⟩:=sN (s:=s) (A:=A) p q Z Y h;have f:L.toArray.size=i2.toArray.size:=by rw[l1,l2,hl]
     rw[<-f,Nat.min_self,beq_self_eq_true,Yi];exact⟨SeqAt.RcAt.lists T.isList C.isList f o Q,PySem.SeqAt.RcNeAt.lists T.isList C.isList f o Q⟩
    ·rename_i hl;cases h;have f:(L.toArray.size != i2.toArray.size)=br:=by rw[l1,l2];simpa using hl
     exact⟨SeqAt.RcAt.lists_lengths T.isList C.isList f o,PySem.SeqAt.RcNeAt.lists_lengths T.isList C.isList f o⟩
  ·cases h
 ·exact(Cb M U r1 r2 h).2
abbrev eqS(x y:D)(S:Sto):Option (D × Sto):=(eqD 60 S x y).map λb=>(.bl b,S)
abbrev neS(x y:D)(S:Sto):Option (D × Sto):=(eqD 60 S x y).map λb=>(.bl (!b),S)
def Cc{x y:D}{b:Bool}(h:eqD 60 S x y=aD b):neS x y S=aD (.bl (!b),S):=by unfold neS;rw[h];rfl
def Lj(B:X.A.units+64 < cLine):OpR X (VU .Eq) (rS X.K eqS):=by
 intro p s C H x y v u Q I f g h;obtain⟨m,S,a,b,d,z,R,j,vb,e,q⟩:=h;obtain⟨c,o,e⟩:=Z6.mp e;cases e;exact(PY I R 60 j vb f g o (by lia)).1 _ _ _ _ ⟨.bl c,H,I,rfl,q m H _ (Aft.refl R) b9⟩
def Lk(B:X.A.units+64 < cLine):OpR X (VU .NotEq) (rS X.K neS):=by
 intro p s C H x y v u Q I f g h;obtain⟨m,S,a,b,d,z,R,j,vb,e,q⟩:=h;obtain⟨c,o,e⟩:=Z6.mp e;cases e;exact(PY I R 60 j vb f g o (by lia)).2 _ _ _ _ ⟨.bl (!c),H,I,rfl,q m H _ (Aft.refl R) b9⟩
end
abbrev Ll(a b:Nat)(S:Sto):Option (D × Sto):=match S[a]? with
 | some (.lst xs)=>(match S[b]? with
  |some (.lst ys)=>if xs.length+ys.length<=100000 then aD (.ref S.length,S++[.lst (xs++ys)]) else aT
  | _=>aT)
 |_=>aT
abbrev jS:D->D->Sto->Option (D × Sto)
 |.int i,.int j,S=>aD (.int (i+j),S)
 |.tup xs,.tup ys,S=>if xs.length+ys.length<=1000 then aD (.tup (xs++ys),S) else aT
 |.ref a,.ref b,S=>Ll a b S
 |.str x,.str y,S=>if x.length+y.length<=100000 then aD (.str (x++y),S) else aT
 |_,_,_=>aT
abbrev PZ:D->D->Sto->Option (D × Sto)
 |.int i,.int j,S=>aD (.int (i - j),S)
 |_,_,_=>aT
abbrev jg(i j:Int):Bool:=(decide (-(2 ^ 64) < i) && decide (i < 2 ^ 64)) || (decide (-(2 ^ 64) < j) && decide (j < 2 ^ 64))
abbrev sO:D->D->Sto->Option (D × Sto)
 |.int i,.int j,S=>if jg i j=br then aD (.int (i * j),S) else aT
 | .ref n,.int k,S=>(match S[n]? with
  |some (.lst xs)=>if 0<=k/\xs.length * k.toNat<=1000/\k<=1000 then aD (.ref S.length,S++[.lst (Zp k.toNat xs).flatten]) else aT
  | _=>aT)
 |_,_,_=>aT
abbrev Lm:D->D->Sto->Option (D × Sto)
 |.int i,.int j,S=>if 0 < j then aD (.int (i % j),S) else aT
 |_,_,_=>aT
abbrev Cd:D->D->Sto->Option (D × Sto)
 |.int i,.int j,S=>if 0 < j/\j < 1298074214633706907132624082305024 then aD (.int (i / j),S) else aT
 |_,_,_=>aT
abbrev Ln:D->D->Sto->Option (D × Sto)
 |.int i,.int j,S=>if 0<=j/\j<=1000000/\i.natAbs < 2 ^ 64 then aD (.int (i ^ j.toNat),S) else aT
 |_,_,_=>aT
inductive BOp where |add |sub |mul |mod |fdiv |pow
abbrev bR:BOp->D->D->Sto->Option (D × Sto)
 |.add=>jS |.sub=>PZ |.mul=>sO |.mod=>Lm |.fdiv=>Cd |.pow=>Ln
abbrev BOp.op:BOp->W2
 |.add=>.Add |.sub=>.Sub |.mul=>.Mult |.mod=>.Mod |.fdiv=>.FloorDiv |.pow=>.Pow
section
variable {X:Cx} {K:Vh} {m:List Addr} {H:Hp} {S:Sto}
def gW{op:W2}{f:D->D->Sto->Option (D × Sto)}{C:Int->Int->Prop}{g:Int->Int->Int}(u:OpR X (VI op) (rI C λi j=>.int (g i j)))
  (p:∀a b S d o,f a b S=aD (d,o)->∃i j,a = .int i/\b = .int j/\C i j/\d = .int (g i j)/\o=S):OpR X (VI op) (rS X.K f):=by
 refine OpR.imp u λx y H Q h=>?_;obtain⟨m,S,a,b,d,o,R,v,vb,e,q⟩:=h;obtain⟨i,j,rfl,rfl,c,rfl,rfl⟩:=p _ _ _ _ _ e;exact⟨i,j,v.ints,vb.ints,c,q m H _ (Aft.refl R) bI⟩
def vn:OpR X (VI .Add) (λx y H Q=>∃m S xs ys,Rel X.K m S H/\VD X.K m H (.tup xs) x/\VD X.K m H (.tup ys) y/\xs.length+ys.length<=1000/\∀M c u,Aft X.K m H S M c->VD X.K M c (.tup (xs++ys)) u->Q u c):=by
 refine OpR.imp FJ λx y H Q h=>?_;obtain⟨m,S,xs,ys,R,v,vb,z,q⟩:=h;obtain⟨a,o,rfl,sa,g⟩:=v.tups;obtain⟨b,p,rfl,j,f⟩:=vb.tups;have l1:=g.length;have l2:=f.length;refine⟨a,b,o,p,rfl,rfl,.of sa,.of j,mv (by lia),λe=>?_,λ_ e=>?_,λ_ _=>jd R (g.append f) q⟩
 ·subst e;have e:xs=[]:=Yp.mp (by simpa using l1);subst e;exact q m H _ (Aft.refl R) vb
 ·subst e;have e:ys=[]:=Yp.mp (by simpa using l2);subst e;rw[ZO] at q;exact q m H _ (Aft.refl R) v
def F3:OpR X (VI .Add) (rS X.K jS):=by
 refine OpR.imp (OpR.or Ky (OpR.or vn (OpR.or uS uW))) λx y H Q h=>?_;obtain⟨m,S,a,b,d,S',R,v,vb,e,q⟩:=h;cases a with
 |int i=>
  cases b with
  |int j=>cases e;exact .inl ⟨i,j,v.ints,vb.ints,q m H _ (Aft.refl R) bI⟩
  |_=>simp[jS] at e
 |tup xs=>
  cases b with
  |tup Y=>
   simp only[jS] at e;split at e
   ·rename_i o;cases e;exact .inr (.inl ⟨m,S,xs,Y,R,v,vb,o,q⟩)
   ·cases e
  |_=>simp[jS] at e
 |str i=>
  cases b with
  |str j=>
   simp only[jS] at e;split at e
   ·rename_i o;cases e;exact .inr (.inr (.inl ⟨i,j,v.strs,vb.strs,by rw[Ug];lia,q m H _ (Aft.refl R) dB⟩))
   ·cases e
  |_=>simp[jS] at e
 |ref i=>
  cases b with
  |ref j=>
   simp only[jS,Ll] at e;split at e
   ·rename_i xs O;split at e
    ·rename_i Y B;split at e
     ·rename_i o;cases e;obtain⟨a,I,M,z,p⟩:=R.lst O;obtain⟨c,T,C,J,u⟩:=R.lst B;obtain⟨Z,f,L⟩:=v.refs;obtain⟨U,g,E⟩:=vb.refs;rw[M] at f;cases f;rw[C] at g;cases g;exact .inr (.inr (.inr ⟨a,c,I,T,L,E,z,J,by rw[Ug,<-p.length,<-u.length];lia,je R (p.append u) q⟩))
     ·cases e
    ·cases e
   ·cases e
  |_=>simp[jS] at e
 |_=>cases b <;> simp[jS] at e
def x9(h:VDs K m H ds v):∀n:Nat,VDs K m H (Zp n ds).flatten (Zp n v).flatten
 |0=>by rw[XF,XF,X5,X5,VDs]
 |n+1=>by rw[Yk,Yk,Yt,Yt];exact h.append (x9 h n)
def F4:OpR X (VI .Mult) (rS X.K sO):=by
 refine OpR.imp (OpR.or KQ KA) λx y H Q h=>?_;obtain⟨m,S,a,b,d,B,R,v,vb,e,q⟩:=h;cases a with
 |int i=>
  cases b with
  |int j=>
   simp only[sO] at e;split at e
   ·rename_i f;cases e;simp only[jg,YC,bAE,decide_eq_true_eq] at f;exact .inr ⟨i,j,v.ints,vb.ints,f,q m H _ (Aft.refl R) bI⟩
   ·cases e
  |_=>simp[sO] at e
 |ref n=>
  cases b with
  |int k=>
   simp only[sO] at e;split at e
   ·rename_i xs p;split at e
    ·rename_i f;cases e;obtain⟨l,u,z,o,g⟩:=R.lst p;obtain⟨L,c,E⟩:=v.refs;rw[z] at c;cases c;exact .inl ⟨l,k,u,E,vb.ints,o,by lia,by lia,by rw[Ug,<-g.length];lia,je R (x9 g k.toNat) q⟩
    ·cases e
   ·cases e
  |_=>simp[sO] at e
 |_=>cases b <;> simp[sO] at e
def Ce:OpR X (VI .FloorDiv) (rI (λ_ j=>0 < j/\j < 1298074214633706907132624082305024) λi j=>.int (i / j)):=opI λi j _ _ _ _ _ h q=>by
 have c:(0:Int) < j:=h.1;have f:j < 1298074214633706907132624082305024:=h.2
 exact floordiv_int (by lia) (by rw[Int.fdiv_eq_ediv_of_nonneg i (by lia)];exact q) (.inl (PyProof.noPylong_of_log2 (by
  have b:j.natAbs ≠ 0:=by lia
  have:j.natAbs.log2 < 110:=(X9 b).mpr (by lia)
  lia)))
def F5(o:BOp):OpR X (VI o.op) (rS X.K (bR o)):=by
 cases o with
 |add=>exact F3
 |sub=>
  refine gW (C:=λ_ _=>True) (g:=λi j=>i - j) (OpR.imp Kz λx y H Q ⟨i,j,a,b,_,q⟩=>⟨i,j,a,b,q⟩) λa b S d c e=>?_;cases a <;> cases b <;> simp[bR,PZ] at e;exact⟨_,_,rfl,rfl,trivial,e.1.symm,e.2.symm⟩
 |mul=>exact F4
 |mod=>
  refine gW KB λa b S d c e=>?_;cases a <;> cases b <;> simp[bR,Lm] at e;rename_i i j;exact⟨i,j,rfl,rfl,e.1,e.2.1.symm,e.2.2.symm⟩
 |fdiv=>
  refine gW Ce λa b S d c e=>?_;cases a <;> cases b <;> simp[bR,Cd] at e;rename_i i j;exact⟨i,j,rfl,rfl,e.1,e.2.1.symm,e.2.2.symm⟩
 |pow=>
  refine gW KC λa b S d c e=>?_;cases a <;> cases b <;> simp[bR,Ln] at e;rename_i i j;exact⟨i,j,rfl,rfl,e.1,e.2.1.symm,e.2.2.symm⟩
abbrev zT(p:Int->Int->Bool):D->D->Sto->Option (D × Sto)
 |.int i,.int j,S=>aD (.bl (p i j),S)
 |_,_,_=>aT
abbrev mw:D->Bool
 |.non=>br
 |_=>bx
abbrev isB(neg:Bool):D->D->Sto->Option (D × Sto)
 |d,.non,S=>aD (.bl (neg != mw d),S)
 |.bl a,.bl b,S=>aD (.bl (neg != (a == b)),S)
 |_,_,_=>aT
abbrev cF:D->Bool
 |.non=>br |.bl _=>br |.int _=>br |.str _=>br |_=>bx
abbrev eqF:D->D->Bool
 |.non,.non=>br
 |.bl a,.bl b=>a == b
 |.bl a,.int b=>(if a then 1 else 0) == b
 |.int a,.bl b=>a == (if b then 1 else 0)
 |.int a,.int b=>a == b
 |.str a,.str b=>a == b
 |_,_=>bx
abbrev inF(x:D)(ds:List D):Bool:=ds.any λy=>eqF y x
abbrev vo:D->Option Key
 |.int i=>aD (.inl i)
 |.str x=>aD (.inr x)
 |_=>aT
def ya{k:Key}(e:vo d=aD k)(h:VD K m H d v):v=kV k:=by
 cases d <;> simp[vo] at e
 ·subst e;exact h.ints
 ·subst e;exact h.strs
abbrev inK(neg:Bool)(x y:D)(S:Sto):Option (D × Sto):=match y with
 | .str z=>(match x with
  |.str i=>aD (.bl (neg != !(Builtin.Str.occurrences z i 0 z.length 1).isEmpty),S)
  | _=>aT)
 | .ref n=>(match S[n]?,vo x with
  |some (.dic ks _),aD k=>aD (.bl (neg != ks.any λa=>decide (a=k)),S)
  | _,_=>aT)
 |_=>aT
def my{k:Key}:∀ {b:List Key} {c:List V},b.length=c.length->(iy (b.zip c) k).isSome=b.any λa=>decide (a=k)
 |[],[],_=>rfl
 |a::b,v::c,h=>by
  rw[YQ,Yu];by_cases z:a=k
  ·rw[f8 (p:=(a,v)) z,decide_eq_true z];rfl
  ·rw[f9 (p:=(a,v)) z,decide_eq_false z,my (by simpa using h)];rfl
def Jw{P:Prop}{neg:Bool}(R:Rel K m S H)(c:VD K m H a x)(vb:VD K m H b y)(e:inK neg a b S=aD (d,f))(g:∀i z,x = .str i->y = .str z->f=S->d = .bl (neg != !(Builtin.Str.occurrences z i 0 z.length 1).isEmpty)->P)(I:∀p o,y = .ref p->uY H p x o->f=S->d = .bl (neg != o.isSome)->P):P:=by
 unfold inK at e;split at e
 ·split at e
  ·cases e;exact g _ _ c.strs vb.strs rfl rfl
  ·cases e
 ·rename_i n;split at e
  ·rename_i q M k B u;cases e;obtain⟨p,C,E,j,J,v⟩:=R.ob n _ B;obtain⟨L,h,rfl⟩:=vb.refs;rw[C] at h;cases h;refine I p (iy (q.zip E) k) rfl (by rw[ya u c];exact uY.k j) rfl ?_;rw[my (J.trans v.length)]
  ·cases e
 ·cases e
abbrev inS(neg:Bool)(x y:D)(S:Sto):Option (D × Sto):=match am y S with
 |some (_,ds)=>if cF x=br/\ds.all cF=br then aD (.bl (neg != inF x ds),S) else aT
 |none=>inK neg x y S
inductive COp where |eq |ne |lt |le |gt |ge |is |isnot |isin |notin
abbrev ax:COp->D->D->Sto->Option (D × Sto)
 |.eq=>eqS |.ne=>neS
 |.lt=>zT λi j=>decide (i < j) |.le=>zT λi j=>decide (i<=j) |.gt=>zT λi j=>decide (j < i) |.ge=>zT λi j=>decide (j<=i)
 |.is=>isB bx |.isnot=>isB br |.isin=>inS bx |.notin=>inS br
abbrev COp.op:COp->CmpOp
 |.eq=>.Eq |.ne=>.NotEq |.lt=>.Lt |.le=>.LtE |.gt=>.Gt |.ge=>.GtE |.is=>.Is |.isnot=>.IsNot |.isin=>.In |.notin=>.NotIn
def fq(c:OpR X (VU op) (rI0 λi j=>.bl (p i j))):OpR X (VU op) (rS X.K (zT p)):=by
 refine OpR.imp c λx y H Q h=>?_;obtain⟨m,S,a,b,d,f,R,v,vb,e,q⟩:=h;cases a <;> cases b <;> simp[zT] at e;obtain⟨rfl,rfl⟩:=e;exact⟨_,_,v.ints,vb.ints,q m H _ (Aft.refl R) b9⟩
def lu(h:VD K m H x v)(f:cF x=br):bT v=br:=by
 cases x <;> simp[cF] at f
 ·cases h.nons;rfl
 ·cases h.bls;rfl
 ·cases h.ints;rfl
 ·cases h.strs;rfl
def Cf(h:VD K m H x v)(f:cF x=br)(h':VD K m H y w)(b:cF y=br):eqV v w=eqF x y:=by
 cases x <;> simp[cF] at f <;> cases y <;> simp[cF] at b <;> simp[VD] at h h' <;> subst h <;> subst h' <;> rfl
def jh:∀ {ds:List D} {v:List V},VDs K m H ds v->ds.all cF=br->v.all bT=br
 |[],v,h,_=>by rw[VDs] at h;rw[h];rfl
 |d::ds,v,h,f=>by
  rw[VDs] at h;obtain⟨x,r,rfl,p,q⟩:=h;rw[ZZ,bAE] at f;rw[ZZ,lu p f.1,jh q f.2];rfl
def vp(h:VD K m H x v)(f:cF x=br):∀ {ds:List D} {b:List V},VDs K m H ds b->ds.all cF=br->inV v b=inF x ds
 |[],b,h,_=>by rw[VDs] at h;rw[h];rfl
 |d::ds,b,h',f'=>by
  rw[VDs] at h';obtain⟨y,r,rfl,p,q⟩:=h';rw[ZZ,bAE] at f';have I:=vp h f q f'.2;unfold inV inF at I ⊢;rw[Yu,Yu,Cf p f'.1 h f,I]
def oT(h:VD K m H x v)(f:cF x=br):∀ {ds:List D} {b:List V},VDs K m H ds b->ds.all cF=br->(b.countP λz=>eqV z v)=ds.countP λz=>eqF z x
 |[],b,h,_=>by rw[VDs] at h;rw[h];rfl
 |d::ds,b,h',f'=>by
  rw[VDs] at h';obtain⟨y,r,rfl,p,q⟩:=h';rw[ZZ,bAE] at f';rw[YX,YX,Cf p f'.1 h f,oT h f q f'.2]
def qG(h:SqB K T H a vs):SqL K H a vs\/SqT K H a vs:=by
 cases T with
 |false=>exact .inl h
 |true=>exact .inr (.of h)
def Lp(hu:X.A.units+64 < cLine):OpR X (VU .In) (rS X.K (inS bx)):=by
 intro c s O H x y v u Q I L J h;obtain⟨m,S,a,b,d,S',R,B,vb,e,q⟩:=h;unfold inS at e;split at e
 ·rename_i tu ds U;obtain⟨p,Z,rfl,Y,f⟩:=eV R vb U;split at e
  ·rename_i j;cases e;refine zx c s O H x _ v u Q I L J ⟨p,Z,rfl,qG Y,lu B j.1,jh f j.2,q m H _ (Aft.refl R) ?_⟩;rw[if_neg (by decide),vp B j.1 f j.2]
   simpa using b9
  ·cases e
 ·refine Jw R B vb e (λi z ex M C E=>?_) λp o M g C E=>?_
  ·subst C E;exact zq c s O H x y v u Q I L J ⟨i,z,ex,M,q m H _ (Aft.refl R) (by simpa using b9)⟩
  ·subst C E M;cases J;exact SK (show X.A.units+1 < cLine by lia) I g L λs' T=>⟨.bl _,H,T,rfl,q m H _ (Aft.refl R) (by simpa using b9)⟩
def zU(hu:X.A.units+64 < cLine):OpR X (VU .NotIn) (rS X.K (inS br)):=by
 intro c s O H x y v u Q I L J h;obtain⟨m,S,a,b,d,S',R,B,vb,e,q⟩:=h;unfold inS at e;split at e
 ·rename_i tu ds U;obtain⟨p,Z,rfl,Y,f⟩:=eV R vb U;split at e
  ·rename_i j;cases e;refine qf c s O H x _ v u Q I L J ⟨p,Z,rfl,qG Y,lu B j.1,jh f j.2,q m H _ (Aft.refl R) ?_⟩;rw[if_pos rfl,vp B j.1 f j.2]
   simpa using b9
  ·cases e
 ·refine Jw R B vb e (λi z ex M C E=>?_) λp o M g C E=>?_
  ·subst C E;exact pY c s O H x y v u Q I L J ⟨i,z,ex,M,q m H _ (Aft.refl R) (by simpa using b9)⟩
  ·subst C E M;cases J;exact FD (show X.A.units+1 < cLine by lia) I g L λs' T=>⟨.bl _,H,T,rfl,q m H _ (Aft.refl R) (by simpa using b9)⟩
def Cg(h:VD K m H d v):decide (v=V.non)=mw d:=by
 cases d with
 |non=>cases h.nons;rfl
 |bl _=>cases h.bls;rfl
 |int _=>cases h.ints;rfl
 |str _=>cases h.strs;rfl
 |tup _=>obtain⟨_,_,e,_⟩:=h.tups;subst e;rfl
 |ref _=>obtain⟨_,_,e⟩:=h.refs;subst e;rfl
def Lq:OpR X (VU .Is) (rS X.K (isB bx)):=by
 refine OpR.imp (OpR.or KF KW) λx y H Q h=>?_;obtain⟨m,S,a,b,d,c,R,v,vb,e,q⟩:=h;cases b with
 |non=>
  simp[isB] at e;obtain⟨rfl,rfl⟩:=e;exact .inl ⟨vb.nons,q m H _ (Aft.refl R) (by rw[Cg v];exact b9)⟩
 |bl j=>
  cases a with
  |bl i=>
   simp[isB] at e;obtain⟨rfl,rfl⟩:=e;exact .inr ⟨i,j,v.bls,vb.bls,q m H _ (Aft.refl R) b9⟩
  |_=>simp[isB] at e
 |_=>cases a <;> simp[isB] at e
def zV:OpR X (VU .IsNot) (rS X.K (isB br)):=by
 refine OpR.imp (OpR.or Fn zH) λx y H Q h=>?_;obtain⟨m,S,a,b,d,c,R,v,vb,e,q⟩:=h;cases b with
 |non=>
  simp[isB] at e;obtain⟨rfl,rfl⟩:=e;exact .inl ⟨vb.nons,q m H _ (Aft.refl R) (by rw[Cg v];exact b9)⟩
 |bl j=>
  cases a with
  |bl i=>
   simp[isB] at e;obtain⟨rfl,rfl⟩:=e;exact .inr ⟨i,j,v.bls,vb.bls,q m H _ (Aft.refl R) (by simpa[bne] using b9)⟩
  |_=>simp[isB] at e
 |_=>cases a <;> simp[isB] at e
def gX(h:X.A.units+64 < cLine)(o:COp):OpR X (VU o.op) (rS X.K (ax o)):=by
 cases o with
 |eq=>exact Lj h
 |ne=>exact Lk h
 |lt=>exact fq Py
 |le=>exact fq Pz
 |gt=>exact fq PB
 |ge=>exact fq PC
 |is=>exact Lq
 |isnot=>exact zV
 |isin=>exact Lp h
 |notin=>exact zU h
end
section
variable {X:Cx} {K:Vh} {m:List Addr} {H:Hp} {S:Sto}
abbrev qH:List Key->List D->Key->Option D
 |a::ks,d::ds,k=>if a=k then aD d else qH ks ds k
 |_,_,_=>aT
def yb{k:Key}:∀ {b:List Key} {ds:List D} {c:List V},VDs K m H ds c->qH b ds k=aD d->∃v,iy (b.zip c) k=aD v/\VD K m H d v
 |[],_,_,_,e=>by simp[qH] at e
 |_::_,[],_,_,e=>by simp[qH] at e
 |a::b,d'::ds,c,h,e=>by
  rw[VDs] at h;obtain⟨y,r,rfl,p,q⟩:=h;rw[qH] at e;rw[YQ];split at e
  ·rename_i z;cases e;exact⟨y,f8 (p:=(a,y)) z,p⟩
  ·rename_i z;rw[f9 (p:=(a,y)) z];exact yb q e
abbrev ixD(d:D)(k:Key)(S:Sto):Option (D × Sto):=match d with
 | .ref n=>(match S[n]? with
  |some (.dic ks ds)=>(qH ks ds k).map λx=>(x,S)
  | _=>aT)
 |_=>aT
def Ch{k:Key}(e:ixD a k S=aD (d,c)):∃n b ds,a = .ref n/\S[n]?=aD (.dic b ds)/\qH b ds k=aD d/\c=S:=by
 unfold ixD at e;split at e
 ·rename_i n;split at e
  ·rename_i b ds f;cases h:qH b ds k with
   |none=>rw[h] at e;cases e
   |some x=>rw[h] at e;cases e;exact⟨n,b,ds,rfl,f,h,rfl⟩
  ·cases e
 ·cases e
abbrev ixS(d i:D)(S:Sto):Option (D × Sto):=match i with
 | .int k=>(match d with
  |.str z=>if z.length<=100000 then (atI z.cps.toList k).map λc=>(.str ⟨#[c]⟩,S) else aT
  | d=>(match am d S with
   |some (_,ds)=>(atI ds k).map λx=>(x,S)
   | none=>ixD d (.inl k) S))
 |.str x=>ixD d (.inr x) S
 |_=>aT
def Lr{k:Int}(h:VDs K m H ds c)(e:atI ds k=aD d):∃v,atI c k=aD v/\VD K m H d v:=by
 unfold atI at e ⊢;rw[<-h.length];cases b:ixN ds.length k with
 |none=>rw[b] at e;cases e
 |some j=>
  rw[b] at e;exact h.get e
def Ci{k:Int}(f:SqB K tu H a b)(g:VDs K m H ds b)(e:atI ds k=aD d)(q:∀v,VD K m H d v->Q v H):rIx K (.ref a) (.int k) H Q:=by
 obtain⟨v,E,c⟩:=Lr g e;cases tu with
 |false=>exact .inl ⟨a,b,k,v,rfl,rfl,f,E,q v c⟩
 |true=>exact .inr (.inl ⟨a,b,k,v,rfl,rfl,.of f,E,q v c⟩)
def SO(hu:X.A.units+64 < cLine):IxR X (rS X.K ixS):=by
 intro j f o s Y H x y v u Q I rx Z h hs;obtain⟨m,S,a,b,d,S',R,L,vb,e,q⟩:=h
 have B:∀M:Key,y=kV M->ixD a M S=aD (d,S')->wpAny (model X.prog X.w) X.A (subscriptTail j f v u) (EP X o Y Q) X.xe s:=λM hy e=>by
  obtain⟨n,ks,ds,rfl,hn,hv,rfl⟩:=Ch e;obtain⟨p,hp,vs,hH,hl,C⟩:=R.ob n _ hn;obtain⟨p',J,rfl⟩:=L.refs;rw[hp] at J;cases J;obtain⟨w,hw,vw⟩:=yb C hv;cases rx;have g:uY H p y (aD w):=by rw[<-hw,hy];exact uY.k hH
  exact tail_any (si I g) PySem.F.slot_dict_getitem.lookup (zC (show X.A.units+1 < cLine by lia) I g Z λw' s' I' T=>⟨w,H,I',T,q m H _ (Aft.refl R) vw⟩) hs
 cases b with
 |int k=>
  have fin:rIx X.K x (.int k) H Q->wpAny (model X.prog X.w) X.A (subscriptTail j f v u) (EP X o Y Q) X.xe s:=λh=>by
   refine BB j f o s Y H x y v u Q I rx Z ?_ hs;rw[vb.ints];exact h
  have main:∀r,am a S=aD r->(atI r.2 k).map (λx=>(x,S))=aD (d,S')->rIx X.K x (.int k) H Q:=by
   intro r E e;cases U:atI r.2 k with
   |none=>rw[U] at e;cases e
   |some z=>
    rw[U] at e;cases e;obtain⟨p,vs,rfl,sq,C⟩:=eV (tu:=r.1) (ds:=r.2) R L E;exact Ci sq C U λv vv=>q m H v (Aft.refl R) vv
  cases a with
  |str z=>
   simp only[ixS] at e;split at e
   ·rename_i hl;cases O:atI z.cps.toList k with
    |none=>rw[O] at e;cases e
    |some c=>
     rw[O] at e;cases e;exact fin (.inr (.inr ⟨z,k,c,L.strs,rfl,by rw[Ug];lia,O,q m H _ (Aft.refl R) dB⟩))
   ·cases e
  |tup ds=>exact fin (main (br,ds) rfl e)
  |ref n=>
   simp only[ixS] at e;cases E:am (.ref n) S with
   |none=>rw[E] at e;exact B (.inl k) vb.ints e
   |some r=>rw[E] at e;exact fin (main r E e)
  |_=>simp[ixS,am,ixD] at e
 |str x=>exact B (.inr x) vb.strs e
 |_=>simp[ixS] at e
abbrev vq(x:XA)(y:XE):XE:=λb S=>bnd (x b S) λg c=>bnd (y b c) λi f=>match i with
 |.int k=>(atI g k).map λd=>(d,f)
 |_=>aT
def Ls(h:tE K (vq x y) Y H Q):tOp (rIx K) (fo K x) (tE K y) Y H Q:=by
 obtain⟨m,j,S,d,S',E,R,e,q⟩:=h;obtain⟨p,o,O,e⟩:=ae e;obtain⟨i,T,C,e⟩:=ae e;refine⟨m,j,S,p,o,E,R,O,λM H1 a L b I u n2 Z B=>⟨M,j,o,i,T,E.mono R b.ext,b.rel,C,λJ g w f vb=>?_⟩⟩;cases i with
 |int k=>
  cases vb.ints;dsimp only at e;cases c:atI p k with
  |none=>rw[c] at e;cases e
  |some z=>
   rw[c] at e;cases e;exact Ci (tu:=false) (show SqL K g a L from SqL.of (f.ext.keep _ _ I u)) (B.mono b.rel f.ext) c λv U=>q J g v (b.trans f) U
 |_=>cases e
abbrev bg(ds:List D)(lo h:Option Int):List D:=(ds.drop (HT.sIx ds.length 0 lo)).take (HT.sIx ds.length ds.length h - HT.sIx ds.length 0 lo)
def vt(h:VDs K m H ds v)(lo b:Option Int):VDs K m H (bg ds lo b) (lR v lo b):=by
 unfold bg lR;rw[<-h.length];exact(h.drop _).take _
abbrev slS(lo h:Option Int)(d:D)(S:Sto):Option (D × Sto):=match d with
 |.tup b=>aD (.tup (bg b lo h),S)
 | .ref n=>(match aA S n with
  |some b=>aD (.ref S.length,S++[.lst (bg b lo h)])
  | none=>aT)
 |_=>aT
abbrev rSl(K:Vh):V->Option Int->Option Int->Hp->VK->Prop:=λv lo c H Q=>∃m S a d b,Rel K m S H/\VD K m H a v/\slS lo c a S=aD (d,b)/\∀M h u,Aft K m H b M h->VD K M h d u->Q u h
def vA{vs:List V}{lo b:Option Int}(h:HT.sIx vs.length 0 lo=0/\HT.sIx vs.length vs.length b=vs.length):lR vs lo b=vs:=by
 unfold lR;rw[h.1,h.2];simp
def SQ:SlR X (rSl X.K):=by
 intro c s O H x v z B lo g sl Q I J hs pl L h;refine(SlR.or FK Fx) c s O H x v z B lo g sl Q I J hs pl L ?_;obtain⟨m,S,a,d,U,R,y,e,q⟩:=h;cases a with
 |tup M=>
  cases e;obtain⟨p,u,rfl,j,b⟩:=y.tups;refine .inl ⟨p,u,rfl,.of j,λE=>?_,λ_=>jd R (vt b lo g) q⟩;have:=vt b lo g;rw[vA E] at this;exact q m H _ (Aft.refl R) (qF j this)
 |ref n=>
  simp only[slS] at e;cases o:aA S n with
  |none=>rw[o] at e;cases e
  |some M=>
   rw[o] at e;cases e;obtain⟨p,u,C,j,b⟩:=R.seq o;obtain⟨T,f,rfl⟩:=y.refs;rw[C] at f;cases f;exact .inr ⟨p,u,rfl,j,je R (vt b lo g) q⟩
 |_=>cases e
@[inline]abbrev XO:=Rho->Sto->Option (Option Int × Sto)
abbrev tOI(K:Vh)(x:XO):TO:=λf H Q=>∃m b S o c,EnvR K m H b f/\Rel K m S H/\x b S=aD (o,c)/\∀M h,Aft K m H c M h->Q o h
abbrev vB:XO:=λ_ S=>aD (aT,S)
abbrev vC(x:XE):XO:=λc S=>bnd (x c S) λd b=>match d with
 |.int i=>aD (aD i,b)
 |_=>aT
def F6(h:tOI K vB b H Q):xE b H Q:=by
 obtain⟨m,c,S,o,f,E,R,e,q⟩:=h;cases e;exact q m H (Aft.refl R)
def F7(h:tOI K (vC x) u H Q):Jp (tE K x) u H Q:=by
 obtain⟨m,f,S,o,y,E,R,e,q⟩:=h;obtain⟨d,g,p,e⟩:=ae e;refine⟨m,f,S,d,g,E,R,p,λM c v b j=>?_⟩;cases d with
 |int i=>cases e;exact⟨i,j.ints,q M c b⟩
 |_=>cases e
def PO.imp(h:PO X e t)(f:∀b H Q,t' b H Q->t b H Q):PO X e t':=λp s b H Q I q=>h p s b H Q I (f b H Q q)
abbrev xSl(x:XE)(lo j:XO):XE:=λb S=>bnd (x b S) λd c=>bnd (lo b c) λl f=>bnd (j b f) λh g=>slS l h d g
def P0{x:XE}{lo j:XO}{z:L2.St}{H:Hp}{Q:VK}(h:tE K (xSl x lo j) z H Q):tSl (rSl K) (tE K x) (tOI K lo) (tOI K j) z H Q:=by
 obtain⟨m,f,S,d,S',E,R,e,q⟩:=h;obtain⟨a,p,Z,e⟩:=ae e;obtain⟨l,y,C,e⟩:=ae e;obtain⟨u,o,Y,e⟩:=ae e;refine⟨m,f,S,a,p,E,R,Z,λM H1 v b B=>⟨M,f,p,l,y,E.mono R b.ext,b.rel,C,λL H2 c=>⟨L,f,y,u,o,E.mono R (b.trans c).ext,c.rel,Y,λI H3 g=>?_⟩⟩⟩;exact⟨I,o,a,d,S',g.rel,B.mono b.rel (c.trans g).ext,e,λT U w O J=>q T U w (((b.trans c).trans g).trans O) J⟩
abbrev mz(d:D)(S:Sto):Option (Bool × Sto):=match d with
 |.non=>aD (bx,S)
 |.bl b=>aD (b,S)
 |.int i=>aD (i != 0,S)
 |.str y=>if y.length<=100000 then aD ((y.length:Int) != 0,S) else aT
 |.tup c=>aD (!c.isEmpty,S)
 | .ref n=>(match aA S n with
  |some c=>aD (!c.isEmpty,S)
  | none=>aT)
def mB(h:VDs K m H ds v):ds.isEmpty=v.isEmpty:=by
 have:=h.length;cases ds <;> cases v <;> simp at this ⊢
def Lu(R:Rel K m S H)(f:VD K m H d v)(e:mz d S=aD (b,q)):q=S/\Fp K v H b:=by
 cases d with
 |non=>cases e;cases f.nons;exact⟨rfl,rfl⟩
 |bl _=>cases e;cases f.bls;exact⟨rfl,rfl⟩
 |int _=>cases e;cases f.ints;exact⟨rfl,rfl⟩
 |str y=>
  simp only[mz] at e;split at e
  ·rename_i C;cases e;cases f.strs;exact⟨rfl,by rw[Ug];lia,rfl⟩
  ·cases e
 |tup z=>
  cases e;obtain⟨a,j,rfl,o,c⟩:=f.tups;exact⟨rfl,.inr (.inl ⟨j,.of o,by rw[mB c]⟩)⟩
 |ref n=>
  simp only[mz] at e;cases g:aA S n with
  |none=>rw[g] at e;cases e
  |some z=>
   rw[g] at e;cases e;obtain⟨p,j,u,o,c⟩:=R.seq g;obtain⟨B,h,rfl⟩:=f.refs;rw[u] at h;cases h;exact⟨rfl,.inl ⟨j,o,by rw[mB c]⟩⟩
abbrev F8(x:XE):XT:=λc S=>bnd (x c S) λd b=>mz d b
def Lv(h:tT K (F8 x) u H Q):(tE K x) u H λv H'=>∃k,Fp K v H' k/\Q k H':=by
 obtain⟨m,f,S,b,y,E,R,e,q⟩:=h;obtain⟨d,j,p,e⟩:=ae e;refine⟨m,f,S,d,j,E,R,p,λM g v c o=>?_⟩;obtain⟨rfl,t⟩:=Lu c.rel o e;exact⟨b,t,q M g c⟩
abbrev xB(x:XE):XT:=λf S=>bnd (x f S) λd c=>match d with
 |.bl b=>aD (b,c)
 |_=>aT
def P1(h:tT K (xB x) u H Q):(tE K x) u H λv H'=>∃k,v = .bl k/\Q k H':=by
 obtain⟨m,f,S,b,y,E,R,e,q⟩:=h;obtain⟨d,j,p,e⟩:=ae e;refine⟨m,f,S,d,j,E,R,p,λM g v c o=>?_⟩;cases d with
 |bl k=>cases e;exact⟨b,o.bls,q M g c⟩
 |_=>cases e
abbrev eF(_:Bool)(ds:List D)(S:Sto):Option (D × Sto):=aD (.int ds.length,S)
abbrev ia(_:Bool)(ds:List D)(S:Sto):Option (D × Sto):=aD (.tup ds,S)
abbrev Cj:D->Bool
 |.bl _=>br
 |_=>bx
abbrev zW:D->Bool
 |.bl b=>b
 |_=>bx
abbrev n9(T:Bool)(ds:List D)(S:Sto):Option (D × Sto):=if T=bx/\ds.all Cj=br then aD (.bl (ds.all zW),S) else aT
abbrev r1(r:V->Hp->VK->Prop):List V->Hp->VK->Prop
 |[x],H,Q=>r x H Q
 |_,_,_=>False
def cV(h:r1 r xs H Q):∃x,xs=[x]/\r x H Q:=by
 match xs,h with
 |[x],h=>exact⟨x,rfl,h⟩
def zX:aZ X (.builtin "len") (r1 (rSq X.K eF)):=by
 refine aZ.imp qg λxs H Q h=>?_;obtain⟨_,rfl,m,S,T,g,a,v,d,f,R,rfl,b,c,e,q⟩:=cV h;cases e;exact⟨a,v,rfl,qG b,q m H _ (Aft.refl R) (by rw[c.length];exact bI)⟩
def zY:aZ X (.type "tuple") (r1 (rSq X.K ia)):=by
 refine aZ.imp nX λxs H Q h=>?_;obtain⟨_,rfl,m,S,T,g,a,v,d,f,R,rfl,b,c,e,q⟩:=cV h;cases e;cases T with
 |false=>exact⟨a,v,rfl,.inl ⟨b,jd R c q⟩⟩
 |true=>exact⟨a,v,rfl,.inr ⟨.of b,q m H _ (Aft.refl R) (qF b c)⟩⟩
def Ck:∀ {ds:List D} {v:List V},VDs K m H ds v->ds.all Cj=br->v=(ds.map zW).map V.bl
 |[],v,h,_=>by rw[VDs] at h;rw[h];rfl
 |d::ds,v,h,f=>by
  rw[VDs] at h;obtain⟨x,r,rfl,p,q⟩:=h;rw[ZZ,bAE] at f;cases d with
  |bl b=>rw[p.bls,Ck q f.2];rfl
  |_=>simp[Cj] at f
def Lx(ds:List D):(ds.map zW).all id=ds.all zW:=by rw[ZW];rfl
def zZ(hc:X.calm=br):aZ X (.builtin "all") (r1 (rSq X.K n9)):=by
 refine aZ.imp (zG hc) λxs H Q h=>?_;obtain⟨_,rfl,m,S,T,c,a,j,d,g,R,rfl,f,v,e,q⟩:=cV h;unfold n9 at e;split at e
 ·rename_i b;cases e;obtain⟨rfl,b⟩:=b;refine⟨a,c.map zW,rfl,?_,q m H _ (Aft.refl R) (by rw[Lx];exact b9)⟩;rw[<-Ck v b];exact f
 ·cases e
abbrev rTm(K:Vh)(f:Bool->List D->Option (List D)):V->Hp->VK->Prop:=λv H Q=>∃m S T g a c E,Rel K m S H/\v = .ref a/\SqB K T H a c/\VDs K m H g c/\f T g=aD E ∧
 ∀M h p j,Aft K m H S M h->h p=aD (.lst j)->p ∉ M->(∀b,b ∈ m->b ≠ p)->H p=aT->VDs K M h E j->Q (.ref p) h
def mD:aZ X (.type "list") (r1 (rTm X.K λ_ ds=>aD ds)):=by
 refine aZ.imp qh λxs H Q h=>?_;obtain⟨_,rfl,m,S,T,ds,a,v,E,R,rfl,b,c,e,q⟩:=cV h;cases e;exact⟨a,v,rfl,qG b,lp R c q⟩
abbrev Cm:D->D->Sto->Option (D × Sto)
 |.int i,.int j,S=>aD (.int (if j > i then j else i),S)
 |_,_,_=>aT
abbrev Cn:D->D->Sto->Option (D × Sto)
 |.int i,.int j,S=>aD (.int (if j < i then j else i),S)
 |_,_,_=>aT
abbrev two(f:D->D->Sto->Option (D × Sto)):List D->Sto->Option (D × Sto)
 |[a,b],S=>f a b S
 |_,_=>aT
def Co(h:VDs K m H [a,b] f):∃v w,f=[v,w]/\VD K m H a v/\VD K m H b w:=by
 rw[VDs] at h;obtain⟨v,r,rfl,p,q⟩:=h;rw[VDs] at q;obtain⟨w,g,rfl,c,Q⟩:=q;rw[VDs] at Q;subst Q;exact⟨v,w,rfl,p,c⟩
def Cp(h:VDs K m H [a] b):∃v,b=[v]/\VD K m H a v:=by
 rw[VDs] at h;obtain⟨v,r,rfl,p,q⟩:=h;rw[VDs] at q;subst q;exact⟨v,rfl,p⟩
def sP(h:two f as S=aD r):∃a b,as=[a,b]/\f a b S=aD r:=by
 match as,h with
 |[a,b],h=>exact⟨a,b,rfl,h⟩
def vD(hc:X.calm=br):aZ X (.builtin "max") (rSA X.K (two Cm)):=by
 refine aZ.imp (zr hc) λxs H Q h=>?_;obtain⟨m,S,g,d,j,R,f,e,q⟩:=h;obtain⟨a,b,rfl,E⟩:=sP e;obtain⟨v,w,rfl,p,c⟩:=Co f;cases a <;> cases b <;> simp[Cm] at E;obtain⟨rfl,rfl⟩:=E;exact⟨_,_,by rw[p.ints,c.ints],q m H _ (Aft.refl R) bI⟩
def vE(hc:X.calm=br):aZ X (.builtin "min") (rSA X.K (two Cn)):=by
 refine aZ.imp (zt hc) λxs H Q h=>?_;obtain⟨m,S,g,d,j,R,f,e,q⟩:=h;obtain⟨a,b,rfl,E⟩:=sP e;obtain⟨v,w,rfl,p,c⟩:=Co f;cases a <;> cases b <;> simp[Cn] at E;obtain⟨rfl,rfl⟩:=E;exact⟨_,_,by rw[p.ints,c.ints],q m H _ (Aft.refl R) bI⟩
inductive Ty where |int |bool |tuple |list |str
abbrev Ty.nm:Ty->String
 |.int => "int" |.bool => "bool" |.tuple => "tuple" |.list => "list" |.str => "str"
abbrev tyN(d:D)(S:Sto):Option String:=match d with
 |.non=>aD "NoneType" |.bl _=>aD "bool" |.int _=>aD "int" |.str _=>aD "str" |.tup _=>aD "tuple"
 | .ref n=>(match S[n]? with
  |some (.lst _)=>aD "list"
  |some (.frz _)=>aD "list"
  |some (.dic _ _)=>aD "dict"
  | none=>aT)
abbrev gf(t:Ty)(n:String):Bool:=n == t.nm || (match t with |.int=>n == "bool" |_=>bx)
abbrev ji(t:Ty)(d:D)(S:Sto):Option (D × Sto):=(tyN d S).map λn=>(.bl (gf t n),S)
def F9(K:Vh)(t:Ty):(Vv K (.type "NoneType") (.type t.nm)=aD (gf t "NoneType"))/\(Vv K (.type "bool") (.type t.nm)=aD (gf t "bool"))/\(Vv K (.type "int") (.type t.nm)=aD (gf t "int")) ∧
  (Vv K (.type "str") (.type t.nm)=aD (gf t "str"))/\(Vv K (.type "tuple") (.type t.nm)=aD (gf t "tuple"))/\(Vv K (.type "list") (.type t.nm)=aD (gf t "list"))/\(Vv K (.type "dict") (.type t.nm)=aD (gf t "dict")):=by
 cases t <;> exact⟨by kernel_rfl,by kernel_rfl,by kernel_rfl,by kernel_rfl,by kernel_rfl,by kernel_rfl,by kernel_rfl⟩
def P2(R:Rel K m S H)(b:VD K m H d v)(e:tyN d S=aD n):TyOf K H v (.type n):=by
 cases d with
 |non=>cases e;cases b.nons;exact .non
 |bl _=>cases e;cases b.bls;exact .bl _
 |int _=>cases e;cases b.ints;exact .int _
 |str _=>cases e;cases b.strs;exact .str _
 |tup g=>cases e;obtain⟨a,f,rfl,q,_⟩:=b.tups;exact .tup q
 |ref k=>
  simp only[tyN] at e;obtain⟨a,p,rfl⟩:=b.refs;cases j:S[k]? with
  |none=>rw[j] at e;cases e
  |some o=>
   rw[j] at e;obtain⟨u,c,r⟩:=R.ob k o j;rw[p] at c;cases c;cases o with
   |lst g=>cases e;obtain⟨f,h,_⟩:=r;exact .lst h
   |frz g=>cases e;obtain⟨o,f,h,_⟩:=r;exact .frz h
   |dic y g=>cases e;obtain⟨f,h,_⟩:=r;exact .dK h
def Cq(e:tyN d S=aD n):n = "NoneType"\/n = "bool"\/n = "int"\/n = "str"\/n = "tuple"\/n = "list"\/n = "dict" := by
 cases d with
 |ref k=>
  simp only[tyN] at e;cases h:S[k]? with
  |none=>rw[h] at e;cases e
  |some o=>rw[h] at e;cases o <;> cases e <;> simp
 |_=>cases e <;> simp
def Ly(K:Vh)(t:Ty)(h:n = "NoneType"\/n = "bool"\/n = "int"\/n = "str"\/n = "tuple"\/n = "list"\/n = "dict"):Vv K (.type n) (.type t.nm)=aD (gf t n):=by
 obtain⟨a,b,c,d,e,f,g⟩:=F9 K t;rcases h with rfl |rfl |rfl |rfl |rfl |rfl |rfl <;> assumption
abbrev P3(K:Vh)(t:Ty)(T:TE):TE:=tCB (Ju K) (dR T (dR (tC (.ty t.nm)) lL))
def Ga(h:tE K (xUn (ji t) x) u H Q):P3 K t (tE K x) u H Q:=by
 obtain⟨m,j,S,d,y,E,R,e,q⟩:=h;obtain⟨a,f,p,e⟩:=ae e;refine⟨m,j,S,a,f,E,R,p,λM g v c o=>?_⟩;unfold ji at e;cases b:tyN a f with
 |none=>rw[b] at e;cases e
 |some n=>
  rw[b] at e;cases e;exact⟨v,t.nm,_,_,rfl,P2 c.rel o b,Ly K t (Cq b),q M g _ c b9⟩
end
end Ev
namespace Ev
open PySem PySem.Spec PyProof.Rows L2
open PySem.W (KasT kas_sort kas_asc kas_desc kas_tail3 kas_descPart kas_count kas_place kas_bin kas_rev kas_ask KatTups)
abbrev ft{b:Type}(lt:Nat->Nat->Bool):KasT b->b
 |.ret a=>a
 |.ask i j k=>ft lt (k (lt i j))
abbrev KT{c:Type}(n:Nat)(P:c->Prop):KasT c->Prop
 |.ret a=>P a
 |.ask i j k=>i < n/\j < n/\∀b,KT n P (k b)
def KT.bind{c g:Type}{n:Nat}{P:c->Prop}{R:g->Prop}{f:c->KasT g}(H:∀a,P a->KT n R (f a)):∀ {t:KasT c},KT n P t->KT n R (t.bind f)
 |.ret a,h=>H a h
 |.ask i j k,h=>⟨h.1,h.2.1,λb=>KT.bind H (h.2.2 b)⟩
def KT.run{b:Type}{n:Nat}{P:b->Prop}{lt:Nat->Nat->Bool}:∀ {t:KasT b},KT n P t->P (ft lt t)
 |.ret a,h=>h
 |.ask i j k,h=>KT.run (t:=k (lt i j)) (h.2.2 (lt i j))
def sQ{b:Type}{n:Nat}{P:b->Prop}{lt:Nat->Nat->Bool}{cmp:Nat->Nat->(Bool->Shared->Prop)->Shared->Prop}{s:Shared}(hc:∀i j,i < n->j < n->∀C:Bool->Shared->Prop,C (lt i j) s->cmp i j C s){Q:b->Shared->Prop} :
  ∀ {t:KasT b},KT n P t->Q (ft lt t) s->t.kasWp cmp Q s
 |.ret a,_,q=>q
 |.ask i j k,h,q=>hc i j h.1 h.2.1 _ (sQ hc (h.2.2 (lt i j)) q)
abbrev Pm(n:Nat)(p:Array Nat):Prop:=p.Perm (Xo (Zl n))
def Pm.at{n i:Nat}(h:Pm n p)(c:0 < n):p.getD i 0 < n:=by
 by_cases H:i < p.size
 ·have e:p.getD i 0=p[i]:=by simp[Array.getD,H]
  rw[e];have b:p[i] ∈ p:=Array.getElem_mem H;have:=h.mem_iff.mp b
  simpa using this
 ·have e:p.getD i 0=0:=by simp[Array.getD,H]
  omega
def Pm.rev{n i j:Nat}(h:Pm n p):Pm n (kas_rev p i j):=(mirror_perm p i j _).trans h
def vF{n:Nat}(h:Pm n p)(H:0 < n):∀f m,KT n (λ_=>True) (kas_asc p f m)
 |0,_=>trivial
 | f+1,m=>⟨h.at H,h.at H,λb=>by
  cases b with
  |true=>exact trivial
  | false=>exact vF h H f (m+1)⟩
def lv{n:Nat}(H:0 < n):∀f (p:Array Nat) m q,Pm n p->KT n (λr:Array Nat × Nat × Nat=>Pm n r.1) (kas_desc f p m q)
 |0,p,m,q,h=>h
 | f+1,p,m,q,h=>⟨h.at H,h.at H,λb=>by
  cases b with
  |true=>
   show KT n _ (if q > 0 then kas_desc f (kas_rev p (m - (q+1)) m) (m+1) 0 else kas_desc f p (m+1) 0);split
   ·exact lv H f _ _ _ h.rev
   ·exact lv H f _ _ _ h
  | false=>exact⟨h.at H,h.at H,λd=>by
   cases d with
   |true=>exact h
   | false=>exact lv H f _ _ _ h⟩⟩
def sR{n:Nat}{p:Array Nat}(H:0 < n)(h:Pm n p)(m r:Nat):KT n (λr:Nat × Array Nat=>Pm n r.2) (kas_tail3 m r p):=KT.bind (P:=λ_=>True) (f:=λm=>KasT.ret (m,kas_rev p 0 _)) (λ_ _=>(show KT n (λr:Nat × Array Nat=>Pm n r.2) (KasT.ret (_,kas_rev p 0 _)) from h.rev)) (vF h.rev H _ _)
def ky{n:Nat}{p:Array Nat}(H:0 < n)(h:Pm n p)(m r:Nat):KT n (λr:Nat × Array Nat=>Pm n r.2) (kas_descPart m r p):=KT.bind (λa b=>by
 show KT n _ (if a.2.2 > 0 then _ else _);split
 ·exact sR H (Pm.rev b) _ _
 ·exact sR H b _ _) (lv H _ _ _ _ h)
def Cr{n:Nat}{p:Array Nat}(H:0 < n)(h:Pm n p)(r:Nat):KT n (λr:Nat × Array Nat=>Pm n r.2) (kas_count r p):=KT.bind (λa _=>by
 show KT n _ (if (a == r)=br then _ else if a > 1 then _ else _);split
 ·exact h
 ·split
  ·exact⟨h.at H,h.at H,λb=>by
    cases b with
    |true=>exact h
    | false=>exact ky H h.rev _ _⟩
  ·exact ky H h _ _) (vF h H _ _)
def mE{n:Nat}{p:Array Nat}(H:0 < n)(h:Pm n p)(m:Nat):∀f l r,KT n (λ_=>True) (kas_place p m f l r)
 |0,_,_=>trivial
 |f+1,l,r=>by
  show KT n _ (if l ≥ r then _ else _);split
  ·exact trivial
  ·exact⟨h.at H,h.at H,λb=>by
    cases b with
    |true=>exact mE H h m f _ _
    | false=>exact mE H h m f _ _⟩
def Cs{n:Nat}(H:0 < n):∀f (p:Array Nat) m,Pm n p->KT n (Pm n) (kas_bin f p m)
 |0,p,_,h=>h
 |f+1,p,m,h=>KT.bind (λl _=>Cs H f _ _ ((bubble_perm p m _).trans h)) (mE H h m _ _ _)
def qI{n:Nat}(H:0 < n):KT n (Pm n) (kas_sort n):=KT.bind (λr h=>by
 show KT n _ (if r.1 < n then _ else _);split
 ·exact Cs H _ _ _ h
 ·exact h) (Cr H (Array.Perm.refl _) n)
section
variable {prog:Program} {w:World} {A:Around} {E:Value->Shared->Prop} {s:Shared}
def qJ{a:Addr}{v:List Value}{n:Nat}{P:PySem.Fin->Shared->Prop}(y:s.heap.get? a=aD (seqObj "list" v.toArray n))(O:v.length < 64)(J:SortKind)(lt:Nat->Nat->Bool)
  (hk:2<=v.length->∀ (Q:SortKind->Shared->Prop),Q J { s with heap:=((s.heap.update a (Obj.mapSeq λ_=>#[])).push (seqObj "tuple" v.toArray 0)).push (seqObj "list" #[] 0) }->wpAny (model prog w) A (keyKind' v.toArray) Q E { s with heap:=((s.heap.update a (Obj.mapSeq λ_=>#[])).push (seqObj "tuple" v.toArray 0)).push (seqObj "list" #[] 0) })
  (B:∀i j,i < v.length->j < v.length->∀C:Bool->Shared->Prop,C (lt i j) { s with heap:=((s.heap.update a (Obj.mapSeq λ_=>#[])).push (seqObj "tuple" v.toArray 0)).push (seqObj "list" #[] 0) } ->
   kas_ask prog w A J v i j C { s with heap:=((s.heap.update a (Obj.mapSeq λ_=>#[])).push (seqObj "tuple" v.toArray 0)).push (seqObj "list" #[] 0) })
  (h:P (.done (.ret .none)) { s with heap:=sortedHeap s.heap a v (if v.length < 2 then v.toArray else Xo ((ft lt (kas_sort v.length)).toList.map λi=>v.getD i Value.none)) }) :
  wpAny (model prog w) A (Builtin.«list.sort» ⟨[.ref a],[]⟩) P E s:=by
 rw[list_sort_plain];have T:a < s.heap.objs.size:=Zq y;refine Ux (listItems_at y rfl ?_);refine Ux (listUpdate_at y rfl ?_);obtain⟨M,f⟩:∃M,(s.heap.update a (Obj.mapSeq λ_=>#[])).get? a=aD (seqObj "list" #[] M):=⟨_,get?_update_seq y (λ_=>#[])⟩;refine Ux (seqEpoch_at f rfl ?_);refine Ux (wpAny_newTuple ?_);refine Ux (UO ?_);refine UG ?_
 have H:(((s.heap.update a (Obj.mapSeq λ_=>#[])).push (seqObj "tuple" v.toArray 0)).push (seqObj "list" #[] 0)).get? a=aD (seqObj "list" #[] M):=by
  rw[XX _ _ _ (by rw[size_push',Xg];exact ZF (XY T)),XX _ _ _ (by rw[Xg];exact ZF T)];exact f
 show wpAny (model prog w) A _ P E { s with heap:=((s.heap.update a (Obj.mapSeq λ_=>#[])).push (seqObj "tuple" v.toArray 0)).push (seqObj "list" #[] 0) };dsimp only;have I:v.toArray.size=v.length:=by simp
 by_cases q:v.toArray.size < 2
 ·rw[if_pos q,if_pos q];refine Ux (UR ?_);rw[StateT.run_pure];refine Ux (UR ?_);dsimp only;refine Ux (seqEpoch_at H rfl ?_);refine Ux (listUpdate_at H rfl ?_ (hsz2:=by rw[Array.size_map];show(pairsOf v).size<=_;rw[pairsOf_size,Ug];omega));simp only[bne_self_eq_false,Ye,if_false];rw[if_pos (by rw[<-I];exact q)] at h
  have e:Array.map (λx:Keyed=>x.2) (v.toArray.zip v.toArray)=v.toArray:=by
   apply X6.mp;rw[Array.toList_map,Array.toList_zip,List.map_snd_zip (by simp)]
  refine UR ?_;show P _ { s with heap:=sortedHeap s.heap a v (Array.map (λx:Keyed=>x.2) (v.toArray.zip v.toArray)) };rw[e];exact h
 ·have c:2<=v.length:=by omega
  rw[if_neg q,if_neg q];rw[if_neg (by omega)] at h;refine Ux (hk c _ ?_)
  refine Ux (UM (PySem.W.kat_run (κ:=J) (ks:=v) (Q:=λb o=>o={ s with heap:=((s.heap.update a (Obj.mapSeq λ_=>#[])).push (seqObj "tuple" v.toArray 0)).push (seqObj "list" #[] 0) }/\arrOf b=(ft lt (kas_sort v.length)).map (PySem.W.kas_item (v.toArray.zip v.toArray))/\(ft lt (kas_sort v.length)).size=v.length/\failedOf b=aT)
   (G:=λp o=>o={ s with heap:=((s.heap.update a (Obj.mapSeq λ_=>#[])).push (seqObj "tuple" v.toArray 0)).push (seqObj "list" #[] 0) }/\p=ft lt (kas_sort v.length)) rfl c O (λp b o Y X U z=>⟨z.1,z.2 ▸ X,z.2 ▸ Y,U⟩) (sQ B (qI (by omega)) ⟨rfl,rfl⟩)) ?_ λ_ _ e=>e)
  rintro⟨⟨⟩,b⟩ o ⟨rfl,L,u,Z⟩;dsimp only;have g:=PySem.W.kat_snds rfl L;refine Ux (seqEpoch_at H rfl ?_);rw[g];refine Ux (listUpdate_at H rfl ?_ (hsz2:=by rw[Zk,Za,Z1,u,Ug];omega));rw[Z];simp only[bne_self_eq_false,Ye,if_false];exact UR h
end
section
variable {prog:Program} {w:World} {A:Around} {E:Value->Shared->Prop} {s:Shared}
def z8(hl:s.heap.IsList l v.toArray)(y:v.length < 64)(u:SortKind)(lt:Nat->Nat->Bool)
  (L:2<=v.length->∀ (A:Around) (f:Shared),(∀b o,s.heap.get? b=aD o->f.heap.get? b=aD o)->∀ (E:Value->Shared->Prop) (Q:SortKind->Shared->Prop),Q u f->wpAny (model prog w) A (keyKind' v.toArray) Q E f)
  (H:∀ (A:Around) (f:Shared),(∀b o,s.heap.get? b=aD o->f.heap.get? b=aD o)->∀i j,i < v.length->j < v.length->∀C:Bool->Shared->Prop,C (lt i j) f->kas_ask prog w A u v i j C f)
  (h:Q (.ref (s.heap.objs.size+1)) { s with heap:=sortedAll s.heap v (if v.length < 2 then v.toArray else Xo ((ft lt (kas_sort v.length)).toList.map λi=>v.getD i Value.none)) }) :
  wpAny (model prog w) A (call (.builtin "sorted") [.ref l]) Q E s:=by
 refine Calls.call_function_entry kind_sorted plain_sorted entry_sorted (args_sorted1 _) ?_;unfold Builtin.«sorted»;refine Ux (m:=checkCount "sorted" 1 1 _) (UR ?_);refine Ux (collect_list hl ?_);refine Ux (UO ?_)
 have g:((s.heap.push (seqObj "list" #[] 0)).update s.heap.objs.size (Obj.mapSeq (·++v.toArray))).objs.size=s.heap.objs.size+1:=by
  rw[Xg,size_push']
 have p:(((s.heap.push (seqObj "list" #[] 0)).update s.heap.objs.size (Obj.mapSeq (·++v.toArray))).push (seqObj "list" v.toArray 0)).get? (s.heap.objs.size+1)=aD (seqObj "list" v.toArray 0):=by
  rw[<-g];exact ZI _ rfl
 have keep:∀b o,s.heap.get? b=aD o->(((((s.heap.push (seqObj "list" #[] 0)).update s.heap.objs.size (Obj.mapSeq (·++v.toArray))).push (seqObj "list" v.toArray 0)).update (s.heap.objs.size+1) (Obj.mapSeq λ_=>#[])).push (seqObj "tuple" v.toArray 0)).get? b=aD o:=λb o q=>by
  have H:b < s.heap.objs.size:=Zq q;refine Zj _ ?_;rw[XG _ _ _ _ (ZF (XY H))];refine Zj _ ?_;rw[XG _ _ _ _ (ZF H)];exact Zj _ q
 show wpAny _ _ _ _ _ { s with heap:=((s.heap.push (seqObj "list" #[] 0)).update s.heap.objs.size (Obj.mapSeq (·++v.toArray))).push (seqObj "list" v.toArray 0) };rw[g];refine Ux (UG (Uz slot_list_sort ⟨_,p,rfl⟩ entry_list_sort (qJ p y u lt (λJ Q q=>L J _ _ (λb o z=>Zj _ (keep b o z)) _ Q q) (λi j B I C c=>H _ _ (λb o z=>Zj _ (keep b o z)) i j B I C c) ⟨_,rfl,?_⟩) (args_list_sort _)));exact UR ⟨_,rfl,h⟩
abbrev vG(x y:Int × Int):Bool:=if x.1 == y.1 then (if x.2 == y.2 then bx else decide (x.2 < y.2)) else decide (x.1 < y.1)
def Ct{a b c d:Int}{n k:Nat}(o:s.heap.get? x=aD O)(p:O.data = .seq #[.int a u,.int b z] n)(g:s.heap.get? y=aD v)(j:v.data = .seq #[.int c T,.int d q] k)
  (h:C (vG (a,b) (c,d)) s):wpAny (model prog w) A (keyLt' (tuples' br) (.ref x) (.ref y)) C E s:=by
 refine PySem.W.kat_lt o p g j ?_;show PySem.W.KatLex prog w A br _ C [(.int a u,.int c T),(.int b z,.int d q)] 0 s;unfold vG at h;refine UB ?_;cases H:a == c with
 |true=>
  rw[if_pos rfl];simp only[H,if_true] at h;refine UB ?_;cases f:b == d with
  |true=>rw[if_pos rfl];simp only[f,if_true] at h;exact h
  |false=>
   rw[if_neg Zg];simp only[f,Ye,if_false] at h;exact PySem.W.kat_one _ _ (lt_int h)
 |false=>
  rw[if_neg Zg];simp only[H,Ye,if_false] at h;exact oneLt_int h
end
end Ev
namespace Ev
open PySem PySem.Spec PyProof.Rows L2
open PySem.W (kas_sort KatTups)
section
variable {X:Cx} {K:Vh} {m:List Addr} {H:Hp} {S:Sto}
inductive PairsV(H:Hp):List V->List (Int × Int)->Prop where
 |nil:PairsV H [] []
 |cons {r:Addr} {x y:Int} {vs:List V} {ps:List (Int × Int)}:H r=aD (.tup [.int x,.int y])->PairsV H vs ps->PairsV H (.ref r::vs) ((x,y)::ps)
abbrev og(ps:List (Int × Int))(i j:Nat):Bool:=vG (ps.getD i (0,0)) (ps.getD j (0,0))
abbrev dC{α:Type}(ps:List (Int × Int))(d:α)(v:List α):List α:=if v.length < 2 then v else (ft (og ps) (kas_sort v.length)).toList.map λi=>v.getD i d
def PairsV.len{v:List V}{ps:List (Int × Int)}(h:PairsV H v ps):v.length=ps.length:=by
 induction h with
 |nil=>rfl
 |cons _ _ I=>simp[I]
abbrev Jx(h:Heap)(v:Value)(q:Int × Int):Prop:=∃r o T b n,v = .ref r/\h.get? r=aD o/\o.cls = .type "tuple"/\o.data = .seq #[.int q.1 T,.int q.2 b] n
def PairsV.heap{p:List (Addr × Obj)}{s:Shared}{z:L2.St}(I:Inv X p z H s){v:List V}{ps:List (Int × Int)}(h:PairsV H v ps):∀ {its:List Value},aK v its->∀ (i:Nat),i < its.length->Jx s.heap (its.getD i Value.none) (ps.getD i (0,0)):=by
 induction h with
 |nil=>intro its r i c;cases r;simp at c
 |@cons r x y v ps hr _ ih=>
  intro its f i c;cases f with
  |@cons _ u _ us r1 r2=>
   cases i with
   |zero=>
    cases r1;obtain⟨B,j,⟨o,e,g,n,hd⟩,_⟩:=I.tuple (SqT.of (K:=X.K) hr);obtain⟨a,b,rfl,⟨q,rfl⟩,⟨T,rfl⟩⟩:=xy j;exact⟨r,o,q,T,n,rfl,e,g,hd⟩
   |succ i=>
    have:=ih r2 i (by simpa using c)
    simpa using this
def yc{h:Heap}:∀ {its:List Value} {ps:List (Int × Int)},(∀i,i < its.length->Jx h (its.getD i Value.none) (ps.getD i (0,0)))->∃fs:List Value,KatTups h its fs/\fs.length=its.length/\∀v ∈ fs,∃i t,v = .int i t
 |[],_,_=>⟨[],KatTups.nil,rfl,λv f=>by simp at f⟩
 |v::its,ps,hp=>by
  obtain⟨r,o,T,p,n,g,e,c,hd⟩:=hp 0 (by simp)
  obtain⟨fs,k,j,b⟩:=yc (its:=its) (ps:=ps.tail) λi b=>by
   have:=hp (i+1) (by simpa using b);cases ps with
   |nil=>simpa using this
   |cons _ _=>simpa using this
  have E:v = .ref r:=by simpa using g
  subst E
  exact⟨.int (ps.getD 0 (0,0)).1 T::fs,KatTups.cons e c hd rfl k,by simp[j],λw hw=>by
   rcases Zm.mp hw with rfl |hw
   ·exact⟨_,_,rfl⟩
   ·exact b w hw⟩
def Gb(r:aK v its){i:Nat}(h:i < v.length):aG (v.getD i .non) (its.getD i Value.none):=by
 obtain⟨u,e,b⟩:=r.get (gEG h);rw[Ys,Ys,gEG h,e];exact b
def oU{v:List V}{its:List Value}(r:aK v its):∀ (l:List Nat),(∀i ∈ l,i < v.length)->aK (l.map λi=>v.getD i .non) (l.map λi=>its.getD i Value.none)
 |[],_=>.nil
 |i::l,h=>.cons (Gb r (h i Zd)) (oU r l λj b=>h j (Zf _ b))
def qK{n:Nat}{lt:Nat->Nat->Bool}(b:0 < n):(∀i ∈ (ft lt (kas_sort n)).toList,i < n)/\(ft lt (kas_sort n)).toList.length=n:=by
 have h:Pm n (ft lt (kas_sort n)):=(qI b).run;refine⟨λi c=>?_,?_⟩
 ·have:=h.mem_iff.mp (Xw.mp c)
  simpa using this
 ·have:=h.size_eq;rw[Z1,this];simp
def vH{b:Type}{ps:List (Int × Int)}{d:b}{v:List b}:(dC ps d v).length=v.length:=by
 unfold dC;split
 ·rfl
 ·rw[Za,(qK (by lia)).2]
def vI:aZ X (.builtin "sorted") (λxs H Q=>∃a y ps,xs=[.ref a]/\SqL X.K H a y/\PairsV H y ps/\y.length < 64/\∀p,H p=aT->Q (.ref p) (upd H p (.lst (dC ps .non y)))):=by
 intro Y s σ H xs us Q I r h;obtain⟨a,y,ps,rfl,sq,O,h64,q⟩:=h;obtain⟨u,rfl,ru⟩:=cQ r;cases ru;obtain⟨c,B,pl,hz⟩:=I.list sq;have f:=B.length;have L:=O.heap I B;have hl2:=O.len;refine z8 pl.isList (by lia) (tuples' br) (og ps) (λh2 A M kp E Q' hq=>?_) (λA M kp i j g hj C hC=>?_) ?_
 ·obtain⟨fs,kt,hf,g⟩:=yc (h:=M.heap) λi g=>by
   obtain⟨r,o,Z,U,n,e1,e2,e3,e4⟩:=L i g;exact⟨r,o,Z,U,n,e1,kp _ _ e2,e3,e4⟩
  refine PySem.W.kat_kind (T:=.type "int") kt (by lia) (λv J=>?_) (by decide) hq;obtain⟨i,t,rfl⟩:=g v J;exact PySem.W.Looks.of_pure rfl
 ·obtain⟨r1,o1,Z,U,n1,a1,a2,a3,a4⟩:=L i g;obtain⟨r2,o2,t3,t4,n2,b1,b2,b3,b4⟩:=L j hj;show wpAny _ A (keyLt' (tuples' br) (c.getD i Value.none) (c.getD j Value.none)) C _ M;rw[a1,b1];exact Ct (kp _ _ a2) a4 (kp _ _ b2) b4 hC
 ·have J:aK (dC ps .non y) (if c.length < 2 then c else (ft (og ps) (kas_sort c.length)).toList.map λi=>c.getD i Value.none):=by
   unfold dC;rw[f];split
   ·exact B
   ·exact oU B _ λi g=>by rw[f];exact(qK (by lia)).1 i g
  have eo:(if c.length < 2 then c.toArray else Xo ((ft (og ps) (kas_sort c.length)).toList.map λi=>c.getD i Value.none))=(if c.length < 2 then c else (ft (og ps) (kas_sort c.length)).toList.map λi=>c.getD i Value.none).toArray:=by split <;> rfl
  rw[eo];obtain⟨e,he⟩:=sortedAll_at s.heap c (if c.length < 2 then c else (ft (og ps) (kas_sort c.length)).toList.map λi=>c.getD i Value.none).toArray;exact⟨.ref (s.heap.objs.size+1),_,I.laid (t':=s.toks) (a:=s.heap.objs.size+1) (o:=.lst (dC ps .non y)) (λb o z=>sortedAll_old z) (Yw _) ⟨by rw[vH];exact hz,_,e,J,he⟩,rfl,q _ (I.hok.fresh (Yw _))⟩
abbrev vJ(x:Int):List Int->List Int
 |[]=>[x]
 |y::l=>if x<=y then x::y::l else y::vJ x l
abbrev kz:List Int->List Int
 |[]=>[]
 |x::l=>vJ x (kz l)
def jT(x:Int):∀l,(vJ x l).Perm (x::l)
 |[]=>List.Perm.refl _
 |y::l=>by
  unfold vJ;split
  ·exact List.Perm.refl _
  ·exact((jT x l).cons y).trans (List.Perm.swap x y l)
def iC:∀l,(kz l).Perm l
 |[]=>List.Perm.refl _
 |x::l=>(jT x (kz l)).trans ((iC l).cons x)
def kA(x:Int):∀l:List Int,l.Pairwise (·<=·)->(vJ x l).Pairwise (·<=·)
 |[],_=>by unfold vJ;simp
 |y::l,h=>by
  unfold vJ;rw[Yz] at h;split
  ·rename_i c;refine Yz.mpr ⟨λz hz=>?_,Yz.mpr h⟩;rcases Zm.mp hz with rfl |hz
   ·exact c
   ·have:=h.1 z hz;lia
  ·rename_i c;refine Yz.mpr ⟨λz hz=>?_,kA x l h.2⟩;rcases Zm.mp ((jT x l).mem_iff.mp hz) with rfl |hz
   ·lia
   ·exact h.1 z hz
def jj:∀l,(kz l).Pairwise (·<=·)
 |[]=>List.Pairwise.nil
 |x::l=>kA x _ (jj l)
def mF:∀ {a b:List Int},a.Perm b->a.Pairwise (·<=·)->b.Pairwise (·<=·)->a=b
 |[],b,p,_,_=>(List.Perm.nil_eq p)
 |x::a,[],p,_,_=>(List.Perm.nil_eq p.symm).symm
 |x::a,y::b,p,ha,hb=>by
  rw[Yz] at ha hb
  have e:x=y:=by
   have h1:=p.mem_iff.mp (Zd (a:=x) (l:=a));have h2:=p.mem_iff.mpr (Zd (a:=y) (l:=b));rcases Zm.mp h1 with rfl |h1
   ·rfl
   ·rcases Zm.mp h2 with h2 |h2
    ·exact h2.symm
    ·have:=ha.1 y h2;have:=hb.1 x h1
     lia
  subst e;rw[mF (List.Perm.cons_inv p) ha.2 hb.2]
def jk:∀ {ns:List Int} {u:List Value},aK (ns.map V.int) u->IntsAre u ns
 |[],_,h=>by cases h;exact .nil
 |n::ns,_,h=>by
  cases h with
  |cons r1 r2=>obtain⟨t,rfl⟩:=r1;exact .cons n t (jk r2)
def vK:aZ X (.builtin "sorted") (λxs H Q=>∃a ns,xs=[.ref a]/\SqL X.K H a (ns.map V.int)/\ns.length < 64/\∀p,H p=aT->Q (.ref p) (upd H p (.lst ((kz ns).map V.int)))):=by
 intro y s T H xs U Q I r h;obtain⟨a,ns,rfl,E,M,q⟩:=h;obtain⟨u,rfl,B⟩:=cQ r;cases B;obtain⟨g,j,pl,v⟩:=I.list E;have c:=j.length;rw[Za] at c v;refine sorted_ints pl.isList (jk j) (by lia) λout f J O C=>?_;have e:f=kz ns:=mF (O.trans (iC ns).symm) C (jj ns);subst e;obtain⟨e,L⟩:=sortedAll_at s.heap g out;refine⟨.ref (s.heap.objs.size+1),_,I.laid (t':=s.toks) (a:=s.heap.objs.size+1) (o:=.lst ((kz ns).map V.int)) (λb o z=>sortedAll_old z) (Yw _) ⟨by rw[Za,(iC ns).length_eq];exact v,out.toList,e,jL J,by simpa using L⟩,rfl,q _ (I.hok.fresh (Yw _))⟩
abbrev qL:D->Option (Int × Int)
 |.tup [.int a,.int b]=>aD (a,b)
 |_=>aT
abbrev gg:List D->Option (List (Int × Int))
 |[]=>aD []
 |d::ds=>match qL d,gg ds with
  |some p,aD ps=>aD (p::ps)
  |_,_=>aT
abbrev sS:List D->Option (List Int)
 |[]=>aD []
 |d::ds=>match d,sS ds with
  |.int i,aD ms=>aD (i::ms)
  |_,_=>aT
abbrev z9(_:Bool)(ds:List D):Option (List D):=match gg ds with
 |some ps=>if ds.length < 64 then aD (dC ps .non ds) else aT
 | none=>(match sS ds with
  |some ns=>if ns.length < 64 then aD ((kz ns).map D.int) else aT
  | none=>aT)
def sU:∀ {ds:List D} {ns:List Int},sS ds=aD ns->ds=ns.map D.int
 |[],_,e=>by cases e;rfl
 |d::ds,ns,e=>by
  simp only[sS] at e;split at e
  ·rename_i i M h;cases e;rw[sU h];rfl
  ·cases e
def oV:∀ {ns:List Int} {b:List V},VDs K m H (ns.map D.int) b->b=ns.map V.int
 |[],_,h=>by rw[ZV,VDs] at h;exact h
 |n::ns,_,h=>by
  rw[Zs,VDs] at h;obtain⟨v,r,rfl,c,f⟩:=h;rw[c.ints,oV f];rfl
def oW:∀ (ns:List Int),VDs K m H (ns.map D.int) (ns.map V.int)
 |[]=>by rw[ZV,ZV,VDs]
 |n::ns=>by rw[Zs,Zs,VDs];exact⟨_,_,rfl,bI,oW ns⟩
def sV:∀ {ds:List D} {b:List V} {ps:List (Int × Int)},gg ds=aD ps->VDs K m H ds b->PairsV H b ps
 |[],b,ps,e,h=>by rw[VDs] at h;subst h;cases e;exact .nil
 |d::ds,b,ps,e,h=>by
  rw[VDs] at h;obtain⟨v,r,rfl,f,q⟩:=h;simp only[gg] at e;cases hd:qL d with
  |none=>rw[hd] at e;cases e
  |some p=>
   cases c:gg ds with
   |none=>rw[hd,c] at e;cases e
   |some Q=>
    rw[hd,c] at e;cases e;unfold qL at hd;split at hd
    ·cases hd;obtain⟨a,xs,rfl,j,o⟩:=f.tups;obtain⟨x,y,rfl,u,g⟩:=Co o;cases u.ints;cases g.ints;exact .cons j (sV c q)
    ·cases hd
def yd(h:VDs K m H ds f):∀ (l:List Nat),(∀i ∈ l,i < ds.length)->VDs K m H (l.map λi=>ds.getD i .non) (l.map λi=>f.getD i .non)
 |[],_=>by rw[ZV,ZV,VDs]
 |i::l,hl=>by
  rw[Zs,Zs,VDs];obtain⟨v,e,c⟩:=h.get (gEG (hl i Zd));refine⟨_,_,rfl,?_,yd h l λj b=>hl j (Zf _ b)⟩;rw[Ys,Ys,gEG (hl i Zd),e];exact c
def oX:aZ X (.builtin "sorted") (r1 (rTm X.K λT ds=>if T=bx then z9 T ds else aT)):=by
 refine aZ.imp (aZ.or vI vK) λxs H Q h=>?_;obtain⟨_,rfl,m,S,T,ds,a,p,es,R,rfl,g,v,e,q⟩:=cV h;cases T with
 |true=>cases e
 |false=>
  have e:z9 bx ds=aD es:=by simpa using e
  unfold z9 at e;cases f:gg ds with
  |none=>
   rw[f] at e;dsimp only at e;cases b:sS ds with
   |none=>rw[b] at e;cases e
   |some ns=>
    rw[b] at e;dsimp only at e;split at e
    ·rename_i j;cases e;have E:=sU b;subst E;have o:=oV v;subst o;exact .inr ⟨a,ns,rfl,g,j,lp R (oW _) q⟩
    ·cases e
  |some ps=>
   rw[f] at e;dsimp only at e;split at e
   ·rename_i j;cases e;have c:=v.length;refine .inl ⟨a,p,ps,rfl,g,sV f v,by lia,lp R ?_ q⟩;unfold dC;rw[<-c];split
    ·exact v
    ·exact yd v _ λi b=>(qK (by lia)).1 i b
   ·cases e
end
end Ev
namespace Ev
open PySem PySem.Spec PyProof.Rows L2
section
variable {X:Cx} {K:Vh} {m:List Addr} {H:Hp} {S:Sto}
abbrev vL(d:D)(S:Sto):Option (D × Sto):=match d with
 |.int i=>if i.natAbs < 10 ^ 40 then aD (.str (toString i),S) else aT
 |_=>aT
def Aa:aZ X (.type "str") (r1 (rS1 X.K vL)):=by
 refine aZ.imp pZ λxs H Q h=>?_;obtain⟨x,rfl,m,S,a,d,f,R,v,e,q⟩:=cV h;unfold vL at e;split at e
 ·rename_i i;split at e
  ·rename_i c;cases e;refine⟨i,by rw[v.ints],?_,q m H _ (Aft.refl R) dB⟩;by_cases b:i.natAbs=0
   ·rw[b];decide
   ·exact Zx ((X9 b).mpr (Zx c (by decide:10 ^ 40<=2 ^ 133))) (by decide)
  ·cases e
 ·cases e
abbrev mG(d:D)(S:Sto):Option (D × Sto):=match d with
 |.str x=>if x.length<=100000 then aD (.int x.length,S) else aT
 |_=>aT
def vM:aZ X (.builtin "len") (r1 (rS1 X.K mG)):=by
 refine aZ.imp Bw λxs H Q h=>?_;obtain⟨x,rfl,m,S,a,d,b,R,v,e,q⟩:=cV h;unfold mG at e;split at e
 ·rename_i z;split at e
  ·rename_i c;cases e;exact⟨_,z.length,rfl,by rw[v.strs];exact⟨by rw[Ug];lia,rfl⟩,q m H _ (Aft.refl R) bI⟩
  ·cases e
 ·cases e
end
section
variable {X:Cx} {K:Vh} {m:List Addr} {H:Hp} {S:Sto}
abbrev fP(d:D)(S:Sto):Bool:=match d with
 |.ref n=>(aA S n).isSome
 |_=>bx
abbrev isTup:D->Bool
 |.tup _=>br
 |_=>bx
abbrev vN(c:D->Sto->Bool)(f:D->List D->Sto->Option (D × Sto))(x:XE)(y:XA):XE:=λb S=>bnd (x b S) λd g=>if c d g=br then bnd (y b g) λh j=>f d h j else aT
abbrev rM(K:Vh)(f:D->List D->Sto->Option (D × Sto)):V->List V->Hp->VK->Prop:=λv g H Q=>∃m S a b d c,Rel K m S H/\VD K m H a v/\VDs K m H b g/\f a b S=aD (d,c)/\∀M h u,Aft K m H c M h->VD K M h d u->Q u h
def mH(hT:∀ {m H S d v},Rel K m S H->VD K m H d v->c d S=br->tyV K T v H)(h:tE K (vN c f x y) σ H Q):tBM K T (rM K f) (tE K x) (tAr K y) σ H Q:=by
 obtain⟨m,p,S,d,S',E,R,e,q⟩:=h;obtain⟨a,z,Z,e⟩:=ae e;split at e
 ·rename_i U;obtain⟨j,B,L,e⟩:=ae e;refine⟨m,p,S,a,z,E,R,Z,λM H1 v b o=>⟨hT b.rel o U,M,p,z,j,B,E.mono R b.ext,b.rel,L,λY H2 vs g vb=>?_⟩⟩;exact⟨Y,B,a,j,d,S',g.rel,o.mono b.rel g.ext,vb,e,λO C u J I=>q O C u ((b.trans g).trans J) I⟩
 ·cases e
def Cu(R:Rel K m S H)(o:VD K m H d v)(h:fP d S=br):tyV K "list" v H:=by
 cases d with
 |ref n=>
  simp only[fP] at h;obtain⟨u,hs⟩:=Yb.mp h;obtain⟨p,g,f,j,c⟩:=R.seq hs;obtain⟨q,b,rfl⟩:=o.refs;rw[f] at b;cases b;exact .inl ⟨rfl,g,j⟩
 |_=>cases h
def Lz(R:Rel K m S H)(f:VD K m H d v)(h:(λd (_:Sto)=>isTup d) d S=br):tyV K "tuple" v H:=by
 cases d with
 |tup g=>
  obtain⟨a,b,rfl,c,_⟩:=f.tups;exact .inr (.inl ⟨rfl,.inr ⟨b,c⟩⟩)
 |_=>cases h
abbrev chg(n:Nat)(S:Sto)(f:List D->Option (D × List D)):Option (D × Sto):=match S[n]? with
 |some (.lst ds)=>(f ds).map λr=>(r.1,S.set n (.lst r.2))
 |_=>aT
def sW{n:Nat}(h:chg n S f=aD (d,g)):∃ds E,S[n]?=aD (.lst ds)/\f ds=aD (d,E)/\g=S.set n (.lst E):=by
 unfold chg at h;cases c:S[n]? with
 |none=>rw[c] at h;cases h
 |some o=>
  rw[c] at h;cases o with
  |lst ds=>
   dsimp only at h;cases b:f ds with
   |none=>rw[b] at h;cases h
   |some r=>rw[b] at h;cases h;exact⟨ds,r.2,rfl,b,rfl⟩
  |_=>cases h
abbrev vO(d:D)(as:List D)(S:Sto):Option (D × Sto):=match d,as with
 |.ref n,[e]=>chg n S λb=>if b.length < 100000 then aD (.non,b++[e]) else aT
 |_,_=>aT
abbrev iE(d:D)(as:List D)(S:Sto):Option (D × Sto):=match d,as with
 |.ref n,[.int i]=>chg n S λb=>match ixN b.length i with
  |some k=>(b[k]?).map λx=>(x,b.eraseIdx k)
  |none=>aT
 |_,_=>aT
def vP{n:Nat}(R:Rel K m S H)(g:VD K m H (.ref n) v)(f:S[n]?=aD (.lst ds)):∃a vs,v = .ref a/\m[n]?=aD a/\H a=aD (.lst vs)/\VDs K m H ds vs:=by
 obtain⟨a,vs,b,c,q⟩:=R.lst f;obtain⟨j,h,e⟩:=g.refs;rw[b] at h;cases h;exact⟨a,vs,e,b,c,q⟩
def jU{n:Nat}(R:Rel K m S H)(h:m[n]?=aD a)(v:VDs K m H E b):Aft K m H (S.set n (.lst E)) m (upd H a (.lst b)):=let ⟨x,y⟩:=R.write h v;⟨x,y⟩
def LA:MtR X "list.append" (rM X.K vO):=by
 intro b s M H x xs v u Q I J rs h;refine oE b s M H x xs v u Q I J rs ?_;obtain⟨m,S,a,O,d,U,R,j,E,e,q⟩:=h;unfold vO at e;split at e
 ·rename_i n z;obtain⟨Y,Z,B,f,rfl⟩:=sW e;split at f
  ·rename_i T;cases f;obtain⟨p,L,rfl,C,g,c⟩:=vP R j B;obtain⟨y,rfl,o⟩:=Cp E;refine⟨p,L,y,rfl,rfl,g,by rw[Ug,<-c.length];lia,q m _ _ (jU R C (c.append (.cons o .nil))) qE⟩
  ·cases f
 ·cases e
def sX:∀ {ds:List D} {v:List V} (k:Nat),VDs K m H ds v->VDs K m H (ds.eraseIdx k) (v.eraseIdx k)
 |[],v,k,h=>by rw[VDs] at h;subst h;exact .nil
 |d::ds,v,0,h=>by
  rw[VDs] at h;obtain⟨y,r,rfl,p,q⟩:=h;exact q
 |d::ds,v,k+1,h=>by
  rw[VDs] at h;obtain⟨y,r,rfl,p,q⟩:=h;exact .cons p (sX k q)
def Ab:MtR X "list.pop" (rM X.K iE):=by
 intro f s σ H x xs v U Q I Y rs h;refine BD f s σ H x xs v U Q I Y rs ?_;obtain⟨m,S,a,as,d,S',R,B,T,e,q⟩:=h;unfold iE at e;split at e
 ·rename_i n i;obtain⟨u,es,L,c,rfl⟩:=sW e;cases j:ixN u.length i with
  |none=>rw[j] at c;cases c
  |some k=>
   rw[j] at c;dsimp only at c;cases g:u[k]? with
   |none=>rw[g] at c;cases c
   |some z=>
    rw[g] at c;cases c;obtain⟨p,ws,rfl,M,o,b⟩:=vP R B L;obtain⟨y,rfl,vi⟩:=Cp T;cases vi.ints;obtain⟨y,C,J⟩:=b.get g;have A:=jU R M (sX k b);obtain⟨O,h2,h3,h4⟩:=qa j;have E:=(I.lst o).choose_spec.choose_spec.2.2;have Z:=b.length;rw[Ug] at E;exact⟨p,ws,i,k,y,rfl,rfl,o,by lia,by lia,by rw[<-b.length];exact O,C,q m _ _ A (J.mono R A.ext)⟩
 ·cases e
abbrev vQ(d:D)(as:List D)(S:Sto):Option (D × Sto):=match d,as with
 |.tup ds,[x]=>if cF x=br/\ds.all cF=br then aD (.int (ds.countP λz=>eqF z x:Nat),S) else aT
 |_,_=>aT
def Gc:MtR X "tuple.count" (rM X.K vQ):=by
 intro b s J H x xs v u Q I C rs h;refine zI X.K rfl b s J H x xs v u Q I C rs ?_;obtain⟨m,S,a,L,d,M,R,j,B,e,q⟩:=h;unfold vQ at e;split at e
 ·rename_i O z;split at e
  ·rename_i f;cases e;obtain⟨p,E,rfl,o,c⟩:=j.tups;obtain⟨y,rfl,g⟩:=Cp B;exact⟨p,E,y,rfl,rfl,.of o,lu g f.1,jh c f.2,q m H _ (Aft.refl R) (by rw[oT g f.1 c f.2];exact bI)⟩
  ·cases e
 ·cases e
abbrev mI:D->Bool
 |.str _=>br
 |_=>bx
abbrev mJ:List D->Option (List Str)
 |[]=>aD []
 |.str x::ds=>(mJ ds).map (x::·)
 |_=>aT
def ye{K:Vh}{m:List Addr}{H:Hp}:∀ {ds:List D} {ys:List Str} {b:List V},mJ ds=aD ys->VDs K m H ds b->b=ys.map V.str
 |[],ys,b,e,h=>by
  cases e;have:=h.length;cases b with
  |nil=>rfl
  |cons _ _=>simp at this
 |.str x::ds,ys,b,e,h=>by
  simp only[mJ] at e;cases hs:mJ ds with
  |none=>rw[hs] at e;cases e
  |some z=>
   rw[hs] at e;cases e;rw[VDs] at h;obtain⟨v,f,rfl,c,h⟩:=h;rw[c.strs,ye hs h];rfl
abbrev mL(d:D)(as:List D)(S:Sto):Option (D × Sto):=match d,as with
 | .str x,[.ref n]=>(match S[n]? with
  | some (.lst ds)=>(match mJ ds with
   |some y=>if (y.map (·.length)).sum+y.length * x.length<=100000 then aD (.str (Txt.join x y),S) else aT
   | none=>aT)
  | _=>aT)
 |_,_=>aT
def Cv(R:Rel K m S H)(b:VD K m H d v)(h:(λd (_:Sto)=>mI d) d S=br):tyV K "str" v H:=by
 cases d with
 |str x=>rw[b.strs];rfl
 |_=>cases h
def sY:∀ {ys:List Str} {u:List Value},aK (ys.map V.str) u->StrsAre u ys
 |[],u,h=>by cases h;exact .nil
 |y::ys,u,h=>by
  cases h with
  |cons a b=>obtain⟨t,rfl⟩:=a;exact .cons _ _ (sY b)
def Cw:MtR X "str.join" (rM X.K mL):=by
 intro g s σ H x xs v Z Q I T rs h;obtain⟨m,S,a,U,d,S',R,o,O,e,q⟩:=h;unfold mL at e;split at e
 ·rename_i x0 n;split at e
  ·rename_i ds L;split at e
   ·rename_i Y z;split at e
    ·rename_i hl;cases e;have ex:=o.strs;subst ex;obtain⟨t,rfl⟩:=T;obtain⟨y,rfl,J⟩:=Cp O;obtain⟨p,M,rfl⟩:=J.refs;obtain⟨p',b,ws,j,c⟩:=R.ob _ _ L;rw[M] at b;cases b;have E:=ye z c;subst E;obtain⟨u,rfl,C⟩:=cQ rs;cases C;obtain⟨_,f,k,r,B⟩:=I.hok p _ j;refine join_list (items:=f.toArray) ⟨_,B,rfl,k,rfl⟩ (by rw[Y3];exact sY r) (by lia) λt' k=>⟨.str _,H,I.tok _,⟨_,rfl⟩,q m H _ (Aft.refl R) dB⟩
    ·cases e
   ·cases e
  ·cases e
 ·cases e
abbrev oh(o i v:D)(S:Sto):Option Sto:=match o,i with
 | .ref n,.int k=>(match S[n]? with
  |some (.lst ds)=>(ixN ds.length k).map λj=>S.set n (.lst (ds.set j v))
  | _=>aT)
 |_,_=>aT
abbrev P4(K:Vh):Fg:=λo i v H Q=>∃m S a b c f,Rel K m S H/\VD K m H a o/\VD K m H b i/\VD K m H c v/\oh a b c S=aD f/\∀M h,Aft K m H f M h->Q h
def P5:Kq X (P4 X.K):=by
 intro f s Z H o i v O T u Q I ro M E h;refine BC f s Z H o i v O T u Q I ro M E ?_;obtain⟨m,S,a,b,c,S',R,C,vb,L,e,q⟩:=h;unfold oh at e;split at e
 ·rename_i n k;cases y:S[n]? with
  |none=>rw[y] at e;cases e
  |some ob=>
   rw[y] at e;cases ob with
   |lst U=>
    dsimp only at e;cases z:ixN U.length k with
    |none=>rw[z] at e;cases e
    |some j=>
     rw[z] at e;cases e;obtain⟨p,Y,rfl,J,B,g⟩:=vP R C y;cases vb.ints;exact⟨p,Y,k,j,rfl,rfl,B,by rw[<-g.length];exact z,q m _ (jU R J (g.set L))⟩
   |_=>cases e
 ·cases e
mutual
noncomputable def cr(t:D->Option Dw.D):List D->Option (List Dw.D)
 |[]=>aD []
 |d::ds=>match t d,cr t ds with
  |some x,aD xs=>aD (x::xs)
  |_,_=>aT
end
abbrev cL:Nat->Sto->D->Option Dw.D
 |0,_,_=>aT
 |n+1,S,d=>match d with
  |.non=>aD .non
  |.bl b=>aD (.bl b)
  |.int i=>aD (.int i)
  |.str x=>aD (.str x)
  |.tup ds=>(cr (cL n S) ds).map .tup
  | .ref k=>(match S[k]? with
   |some (.lst ds)=>(cr (cL n S) ds).map .lst
   |some (.dic ks ds)=>(cr (cL n S) ds).map (.dic ks)
   | _=>aT)
def jl(g:∀d x v,t d=aD x->VD K m H d v->Dw.Br [] H x v):∀ {ds:List D} {xs:List Dw.D} {c:List V},cr t ds=aD xs->VDs K m H ds c->Dw.BrL [] H xs c
 |[],xs,c,e,h=>by rw[VDs] at h;simp only[cr] at e;cases e;rw[h,Dw.BrL]
 |d::ds,xs,c,e,h=>by
  rw[VDs] at h;obtain⟨y,r,rfl,p,q⟩:=h;simp only[cr] at e;cases b:t d with
  |none=>rw[b] at e;cases e
  |some x=>
   cases f:cr t ds with
   |none=>rw[b,f] at e;cases e
   |some Y=>
    rw[b,f] at e;cases e;rw[Dw.BrL];exact⟨y,r,rfl,g _ _ _ b p,jl g f q⟩
def oY:∀ {ds:List D} {xs:List Dw.D},cr t ds=aD xs->xs.length=ds.length
 |[],xs,e=>by simp only[cr] at e;cases e;rfl
 |d::ds,xs,e=>by
  simp only[cr] at e;cases h:t d with
  |none=>rw[h] at e;cases e
  |some x=>
   cases b:cr t ds with
   |none=>rw[h,b] at e;cases e
   |some y=>rw[h,b] at e;cases e;simp[oY b]
def lw(R:Rel K m S H):∀ (n:Nat) (d:D) (x:Dw.D) (v:V),cL n S d=aD x->VD K m H d v->Dw.Br [] H x v
 |0,_,_,_,e,_=>by simp[cL] at e
 |n+1,d,x,v,e,h=>by
  cases d with
  |non=>simp only[cL] at e;cases e;rw[Dw.Br];exact h.nons
  |bl _=>simp only[cL] at e;cases e;rw[Dw.Br];exact h.bls
  |int _=>simp only[cL] at e;cases e;rw[Dw.Br];exact h.ints
  |str _=>simp only[cL] at e;cases e;rw[Dw.Br];exact h.strs
  |tup c=>
   simp only[cL] at e;cases b:cr (cL n S) c with
   |none=>rw[b] at e;cases e
   |some xs=>
    rw[b] at e;cases e;obtain⟨a,f,rfl,y,p⟩:=h.tups;rw[Dw.Br];exact⟨a,f,rfl,y,jl (lw R n) b p⟩
  |ref k=>
   simp only[cL] at e;obtain⟨a,u,rfl⟩:=h.refs;cases q:S[k]? with
   |none=>rw[q] at e;cases e
   |some o=>
    rw[q] at e;obtain⟨B,g,r⟩:=R.ob k o q;rw[u] at g;cases g;cases o with
    |lst c=>
     dsimp only at e;cases b:cr (cL n S) c with
     |none=>rw[b] at e;cases e
     |some xs=>
      rw[b] at e;cases e;obtain⟨f,j,p⟩:=r;rw[Dw.Br];exact⟨a,f,rfl,by simp,j,jl (lw R n) b p⟩
    |frz c=>cases e
    |dic C c=>
     dsimp only at e;cases b:cr (cL n S) c with
     |none=>rw[b] at e;cases e
     |some xs=>
      rw[b] at e;cases e;obtain⟨f,j,z,p⟩:=r;rw[Dw.Br];exact⟨a,f,rfl,by simp,j,by rw[oY b];exact z,jl (lw R n) b p⟩
open Classical in
abbrev fQ(d:D)(S:Sto):Option (D × Sto):=match cL 100 S d with
 |some t=>if Dw.Shn t then aD (.str (Dw.aX t).shown,S) else aT
 |none=>aT
def vR{k:Nat}(c:Room k X.A):aZ X (.builtin "repr") (r1 (rS1 X.K fQ)):=by
 refine aZ.imp (Dw.vj c) λxs H Q h=>?_;obtain⟨x,rfl,m,S,a,d,f,R,v,e,q⟩:=cV h;unfold fQ at e;cases b:cL 100 S a with
 |none=>rw[b] at e;cases e
 |some t=>
  rw[b] at e;dsimp only at e;split at e
  ·rename_i hs;cases e;exact⟨x,[],t,rfl,lw R 100 a t x b v,hs,q m H _ (Aft.refl R) dB⟩
  ·cases e
end
end Ev
namespace L2
open PySem PySem.Spec PyProof.Rows
abbrev Itx(x:Str):It:=⟨λi _=>i < x.cps.size,λi H v h=>h=H/\∃c,x.cps[i]?=aD c/\v = .str ⟨#[c]⟩,λi _=>x.cps.size<=i⟩
def Cy{P:Program}{w:World}{K:Vh}{tg:Expr}(it:Addr)(x:Str)(t:Tok):Turn P w K tg (Itx x) [it] it (λi h=>h.IsStrIter it "str_ascii_iterator" x t i) where
 mem:=by simp
 obj:=λi h st b f=>by
  have e:b=it:=by simpa using f
  subst e;obtain⟨o,e,c,d⟩:=st;exact⟨o,e,λv z=>by rw[d] at z;cases z⟩
 keep:=λi h j st k=>by
  obtain⟨o,e,c,d⟩:=st;exact⟨o,k it (by simp) o e,c,d⟩
 item:=by
  intro X Q C M T i p s Y H E I q st O;subst Q C M;have U:x.cps[i]?=aD x.cps[i]:=Array.getElem?_eq_getElem O;obtain⟨L,u,f2,B,J,y⟩:=q it (by simp);refine wpAny_pyNext_ascii_item st U λj g sb=>?_;have I1:Inv X p Y H { s with heap:=j,toks:=s.toks+1 }:=I.turned (λb o f e=>(sb.2 b f).trans e) L u B J y;obtain⟨o,e,c,d⟩:=id g;exact⟨_,rfl,xt (s:={ s with heap:=j,toks:=s.toks+1 }) e c d (by decide) ⟨.str ⟨#[x.cps[i]]⟩,H,I1,⟨_,rfl⟩,⟨rfl,_,U,rfl⟩,g,λb f=>(q b f).1⟩⟩
 done:=by
  intro X Q C M T i p s Y H E I q st O;subst Q C M;obtain⟨L,u,f2,B,J,y⟩:=q it (by simp);exact wpAny_pyNext_ascii_end (I.ok.hd T) st (Xp O) λj Z=>⟨rfl,I.turned (t':=s.toks) (λb o f e=>Z b o f e) L u B J y⟩
 self:=λ_ _ _ _ _ st h=>wpAny_pyIter_striter_ascii st h
section
variable {X:Cx} {tg:Expr}
abbrev P6(T:TE):TI:=λb H R=>T b H λx h=>∃z,x = .str z/\z.cps.all (· < 128)=br/\R (Itx z) h
def LB{l:Expr}{T:TE}(hl:PE X l T):PI X tg l (P6 T):=by
 intro p s y H R I h;refine thn (hl p s y H _ I h) λv c ⟨x,j,f,r1,Q⟩=>?_;obtain⟨z,e,u,q⟩:=Q;subst e;obtain⟨t,rfl⟩:=r1;refine wpAny_pyIter_ascii u ?_;refine⟨c.heap.objs.size,[c.heap.objs.size],_,_,j,rfl,f.kept (t':=c.toks) λb o e=>Zj _ e,Cy _ z t,⟨_,ZI _ rfl,rfl,rfl⟩,λb g=>?_,q⟩;have e:b=c.heap.objs.size:=by simpa using g
 subst e;exact f.fpOk (Zc _) (f.hok.fresh (Zc _))
end
end L2
namespace Ev
open PySem PySem.Spec PyProof.Rows L2
@[inline]abbrev Nxt:=Nat->Sto->Option (Option D)
@[inline]abbrev XI:=Rho->Sto->Option (Nxt × Sto)
structure ExtB(B:List Addr)(m:List Addr)(H:Hp)(m':List Addr)(H':Hp):Prop where
 pre:m <+: m'
 keep:∀a o,H a=aD o->a ∉ m->a ∉ B->H' a=aD o
 new:∀a,a ∈ m'->a ∉ m->H a=aT
 nb:∀b,b ∈ B->b ∉ m'
abbrev AtB(B:List Addr)(m:List Addr)(H:Hp):Prop:=∀b,b ∈ B->(∃v,H b=aD (.lst v))/\b ∉ m
def Ext.toB(f:AtB B m H)(x:Ext m H M H'):ExtB B m H M H':=⟨x.pre,λa o h n _=>x.keep a o h n,x.new,λb c z=>by
 obtain⟨⟨v,e⟩,n⟩:=f b c;have:=x.new b z n;rw[e] at this;cases this⟩
def ExtB.trans(x:ExtB B m H m1 f)(y:ExtB B m1 f M H2):ExtB B m H M H2:=by
 refine⟨x.pre.trans y.pre,λa o h n nb=>?_,λa h n=>?_,y.nb⟩
 ·have g:a ∉ m1:=λz=>by have:=x.new a z n;rw[this] at h;cases h
  exact y.keep a o (x.keep a o h n nb) g nb
 ·by_cases c:a ∈ m1
  ·exact x.new a c n
  ·cases e:H a with
   |none=>rfl
   |some o=>
    by_cases b:a ∈ B
    ·exact absurd h (y.nb a b)
    ·have:=x.keep a o e n b;rw[y.new a h c] at this;cases this
def AtB.ext(c:AtB B m H)(x:Ext m H M H'):AtB B M H':=λb h=>by
 obtain⟨⟨v,e⟩,n⟩:=c b h;exact⟨⟨v,x.keep _ _ e n⟩,(x.toB c).nb b h⟩
abbrev IOk(K:Vh)(B:List Addr)(J:It)(nx:Nxt)(M:List Addr)(b:Hp):Prop:=∀ (m:List Addr) (S:Sto) (H:Hp) (i:Nat),ExtB B M b m H->Rel K m S H ->
 (nx i S=aD aT->J.stop i H)/\(∀d,nx i S=aD (aD d)->J.go i H/\∀x h,J.yld i H x h->Aft K m H S m h/\VD K m h d x)
abbrev tIt(K:Vh)(B:List Addr)(x:XI):TI:=λf H R=>∃m b S nx c,EnvR K m H b f/\Rel K m S H/\AtB B m H/\x b S=aD (nx,c)/\∀M h J,Aft K m H c M h->IOk K B J nx M h->R J h
abbrev nxL(ds:List D):Nxt:=λi _=>aD ds[i]?
abbrev nxS(n:Nat):Nxt:=λi S=>(aA S n).map λb=>b[i]?
abbrev nxR(lo:Int)(n:Nat):Nxt:=λi _=>aD (if i < n then aD (.int (lo+i)) else aT)
abbrev gc(i:Nat)(d:D):D:=.tup [.int i,d]
abbrev enm(ds:List D)(i:Nat):Option (Option D):=if i<=ds.length then aD (ds[i]?.map (gc i)) else aT
abbrev qM(ds:List D):Nxt:=λi _=>enm ds i
abbrev Cz(n:Nat):Nxt:=λi S=>(aA S n).bind λb=>enm b i
section
variable {X:Cx} {K:Vh} {m B:List Addr} {H:Hp} {S:Sto}
def Gd(R:Rel K M f b)(c:AtB B M b)(x:ExtB B M b m H)(h:b a=aD (.tup xs)):H a=aD (.tup xs):=x.keep _ _ h (R.notTup h) λz=>by
 obtain⟨⟨v,e⟩,_⟩:=c a z;rw[e] at h;cases h
def VDs.monoB(R:Rel K M f b)(c:AtB B M b)(x:ExtB B M b m H)(h:VDs K M b ds vs):VDs K m H ds vs:=VDs.mono0 x.pre (λ_ _=>Gd R c x) h
def VD.monoB(R:Rel K M f b)(c:AtB B M b)(x:ExtB B M b m H)(h:VD K M b d v):VD K m H d v:=VD.mono0 x.pre (λ_ _=>Gd R c x) h
def EnvR.monoB(R:Rel K M g b)(f:AtB B M b)(x:ExtB B M b m H)(h:EnvR K M b c σ):EnvR K m H c σ:=
 ⟨h.len,λi d e=>let ⟨v,p,q⟩:=h.at_ i d e;⟨v,p,VD.monoB R f x q⟩⟩
def sZ(h:∀m S H i o,ExtB B M H0 m H->Rel K m S H->nx i S=aD o->∃ds b,o=ds[i]?/\SqL K H a b/\VDs K m H ds b):IOk K B (Itl K a) nx M H0:=by
 intro m S H i x R;refine⟨λe=>?_,λd e=>?_⟩
 ·obtain⟨ds,b,E,c,f⟩:=h m S H i _ x R e;exact⟨b,c,by rw[<-f.length];exact Yl.mp E.symm⟩
 ·obtain⟨ds,b,E,c,f⟩:=h m S H i _ x R e;obtain⟨v,g,p⟩:=f.get E.symm;refine⟨⟨b,v,c,g⟩,λy u ⟨q,j⟩=>?_⟩;subst q;have:=j b c;rw[g] at this;cases this;exact⟨Aft.refl R,p⟩
def Gf(g:Rel K M u H0)(f:AtB B M H0)(p:H0 a=aD (.tup vs))(q:VDs K M H0 ds vs):IOk K B (Itt K a) (nxL ds) M H0:=by
 intro m S H i x R;have b:SqT K H a vs:=.of (Gd g f x p);have c:=q.monoB g f x;refine⟨λe=>⟨vs,b,?_⟩,λd e=>?_⟩
 ·rw[<-c.length];exact Yl.mp (Option.some.inj e)
 ·obtain⟨v,h,o⟩:=c.get (Option.some.inj e);refine⟨⟨vs,v,b,h⟩,λy z ⟨E,j⟩=>?_⟩;subst E;have:=j vs b;rw[h] at this;cases this;exact⟨Aft.refl R,o⟩
def yf{lo:Int}{n:Nat}:IOk K B (Itr lo n) (nxR lo n) M H0:=by
 intro m S H i x R;unfold nxR;refine⟨λe=>?_,λd e=>?_⟩
 ·split at e
  ·cases e
  ·show n<=i;lia
 ·split at e
  ·rename_i b;cases e;exact⟨b,λy c ⟨E,h⟩=>by subst E;subst h;exact⟨Aft.refl R,bI⟩⟩
  ·cases e
def qN(h:∀m S H i o,ExtB B M H0 m H->Rel K m S H->nx i S=aD o->∃ds b,enm ds i=aD o/\g K H a b/\VDs K m H ds b):IOk K B (Ite K a g) nx M H0:=by
 intro m S H i x R;refine⟨λe=>?_,λd e=>?_⟩
 ·obtain⟨ds,b,E,c,f⟩:=h m S H i _ x R e;unfold enm at E;split at E
  ·rename_i L;refine⟨b,c,?_⟩;rw[<-f.length];cases hd:ds[i]? with
   |none=>have:=Yl.mp hd;lia
   |some z=>rw[hd] at E;cases E
  ·cases E
 ·obtain⟨ds,b,E,c,f⟩:=h m S H i _ x R e;unfold enm at E;split at E
  ·cases hd:ds[i]? with
   |none=>rw[hd] at E;cases E
   |some z=>
    rw[hd] at E;cases E;obtain⟨v,j,u⟩:=f.get hd;refine⟨⟨b,v,c,j⟩,λy J ⟨T,hT,I,q⟩=>?_⟩;subst I;have C:=q b v c j;subst C;have p:=Ext.beside R hT (.tup [.int i,v]);exact⟨⟨p,R.beside hT _⟩,qF aC (.cons bI (.cons (u.mono R p) .nil))⟩
  ·cases E
abbrev TB(d:D):Option Nxt:=match d with
 |.tup ds=>aD (nxL ds)
 |.ref n=>aD (nxS n)
 |_=>aT
abbrev xIV(x:XE):XI:=λc S=>bnd (x c S) λd b=>match d with
 |.tup ds=>aD (nxL ds,b)
 |.ref n=>if (aA b n).isSome=br then aD (nxS n,b) else aT
 |_=>aT
abbrev xIT(x:XA):XI:=λf S=>bnd (x f S) λb c=>aD (nxL b,c)
abbrev xEV(x:XE):XI:=λc S=>bnd (x c S) λd b=>match d with
 |.tup ds=>aD (qM ds,b)
 |.ref n=>if (aA b n).isSome=br then aD (Cz n,b) else aT
 |_=>aT
abbrev xET(x:XA):XI:=λf S=>bnd (x f S) λb c=>aD (qM b,c)
abbrev lim(i:Int):Bool:=decide (-(2 ^ 62)<=i) && decide (i < 2 ^ 62)
abbrev xR1(x:XE):XI:=λc S=>bnd (x c S) λd b=>match d with
 |.int j=>if lim j=br then aD (nxR 0 j.toNat,b) else aT
 |_=>aT
abbrev xR2(x y:XE):XI:=λb S=>bnd (x b S) λd c=>bnd (y b c) λe f=>match d,e with
 |.int i,.int j=>if lim i=br/\lim j=br then aD (nxR i (j - i).toNat,f) else aT
 |_,_=>aT
def jV{i:Int}(h:lim i=br):-(2 ^ 62)<=i/\i < 2 ^ 62:=by simpa[lim] using h
def lx{n:Nat}(b:M[n]?=aD a)(x:M <+: m)(R:Rel K m S H)(hs:aA S n=aD ds):∃vs,SqL K H a vs/\VDs K m H ds vs:=by
 obtain⟨p,vs,h,c,v⟩:=R.seq hs;have:=cg x b;rw[this] at h;cases h;exact⟨vs,c,v⟩
def P7(b:AtB B m H)(h:H a=aT):a ∉ B:=λz=>by
 obtain⟨⟨v,e⟩,_⟩:=b a z;rw[h] at e;cases e
def SR(h:tIt K B (xIV x) T H R):Bo K (tE K x) T H R\/Kv K (tE K x) T H R:=by
 obtain⟨m,L,S,nx,S',E,J,U,e,q⟩:=h;obtain⟨d,S1,O,e⟩:=ae e;cases d with
 |tup ds=>
  cases e;refine .inr ⟨m,L,S,_,_,E,J,O,λM u v b p=>?_⟩;obtain⟨a,C,rfl,g,f⟩:=p.tups;exact⟨a,rfl,⟨C,.of g⟩,q M u _ b (Gf b.rel (U.ext b.ext) g f)⟩
 |ref n=>
  dsimp only at e;split at e
  ·rename_i hs;cases e;refine .inl ⟨m,L,S,_,_,E,J,O,λM u v b p=>?_⟩;obtain⟨a,Q,rfl⟩:=p.refs;obtain⟨ds,y⟩:=Yb.mp hs;obtain⟨C,g,f⟩:=lx Q (Yn _) b.rel y;refine⟨a,rfl,⟨C,g⟩,q M u _ b (sZ λm2 Y H2 i o Z R2 c=>?_)⟩;unfold nxS at c;cases I:aA Y n with
   |none=>rw[I] at c;cases c
   |some es=>
    rw[I] at c;cases c;obtain⟨ws,z,j⟩:=lx Q Z.pre R2 I;exact⟨es,ws,rfl,z,j⟩
  ·cases e
 |_=>cases e
def SS(h:tIt K B (xIT x) O H R):Bo K (fo K x) O H R:=by
 obtain⟨m,y,S,nx,S',E,p,f,e,q⟩:=h;obtain⟨L,Y,J,e⟩:=ae e;cases e;refine⟨m,y,S,_,_,E,p,J,λM I a v b c j U C u=>⟨a,rfl,⟨v,.of c⟩,q M I _ b (sZ λT Z Q i o g R2 z=>?_)⟩⟩;cases z;exact⟨L,v,rfl,.of (g.keep _ _ c j (P7 f C)),u.monoB b.rel (f.ext b.ext) g⟩
def P8(h:tIt K B (xEV x) σ H R):KY K (dR (tE K x) lL) σ H R\/PV K (dR (tE K x) lL) σ H R:=by
 obtain⟨m,O,S,nx,S',E,L,T,e,q⟩:=h;obtain⟨d,S1,Q,e⟩:=ae e;cases d with
 |tup Z=>
  cases e;refine .inr ⟨m,O,S,_,_,E,L,Q,λM z v b y=>?_⟩;obtain⟨a,j,rfl,g,f⟩:=y.tups;refine⟨a,j,rfl,.of g,q M z _ b (qN λm2 Y H2 i o p R2 c=>⟨Z,j,c,.of (Gd b.rel (T.ext b.ext) p g),f.monoB b.rel (T.ext b.ext) p⟩)⟩
 |ref n=>
  dsimp only at e;split at e
  ·rename_i hs;cases e;refine .inl ⟨m,O,S,_,_,E,L,Q,λM z v b y=>?_⟩;obtain⟨a,U,rfl⟩:=y.refs;obtain⟨Z,C⟩:=Yb.mp hs;obtain⟨j,g,f⟩:=lx U (Yn _) b.rel C;refine⟨a,j,rfl,g,q M z _ b (qN λm2 Y H2 i o p R2 c=>?_)⟩;unfold Cz at c;cases J:aA Y n with
   |none=>rw[J] at c;cases c
   |some es=>
    rw[J] at c;obtain⟨ws,I,u⟩:=lx U p.pre R2 J;exact⟨es,ws,c,I,u⟩
  ·cases e
 |_=>cases e
def P9(h:tIt K B (xET x) O H R):KY K (dR (fo K x) lL) O H R:=by
 obtain⟨m,y,S,nx,S',E,p,f,e,q⟩:=h;obtain⟨L,Y,J,e⟩:=ae e;cases e;exact⟨m,y,S,_,_,E,p,J,λM I a v b c j U C u=>⟨a,v,rfl,.of c,q M I _ b (qN λT Z Q i o g R2 z=>⟨L,v,z,.of (g.keep _ _ c j (P7 f C)),u.monoB b.rel (f.ext b.ext) g⟩)⟩⟩
def Qa(h:tIt K B (xR1 x) z H R):Jk (dR (tE K x) lL) z H R:=by
 obtain⟨m,g,S,nx,I,E,p,C,e,q⟩:=h;obtain⟨d,o,y,e⟩:=ae e;refine⟨m,g,S,d,o,E,p,y,λM f v c u=>?_⟩;cases d with
 |int j=>
  dsimp only at e;split at e
  ·rename_i b;cases e;exact⟨j,by rw[u.ints],(jV b).1,(jV b).2,q M f _ c yf⟩
  ·cases e
 |_=>cases e
def Qc(h:tIt K B (xR2 x y) T H R):Jl (dR (tE K x) (dR (tE K y) lL)) T H R:=by
 obtain⟨m,o,S,nx,Z,E,g,Y,e,q⟩:=h;obtain⟨d,p,L,e⟩:=ae e;obtain⟨c,O,C,e⟩:=ae e;refine⟨m,o,S,d,p,E,g,L,λM U v f u=>⟨M,o,p,c,O,E.mono g f.ext,f.rel,C,λI z w Q J=>?_⟩⟩;cases d with
 |int i=>
  cases c with
  |int j=>
   dsimp only at e;split at e
   ·rename_i b;cases e;exact⟨i,j,by rw[u.ints,J.ints],⟨(jV b.1).1,(jV b.1).2,(jV b.2).1,(jV b.2).2⟩,q I z _ (f.trans Q) yf⟩
   ·cases e
  |_=>cases e
 |_=>cases e
abbrev Ac(x:Str):List D:=x.cps.toList.map λc=>.str ⟨#[c]⟩
abbrev LC(x:XE):XI:=λc S=>bnd (x c S) λd b=>match d with
 |.str z=>if z.cps.all (· < 128)=br then aD (nxL (Ac z),b) else aT
 |_=>aT
def Gg{M:List Addr}{H0:Hp}{z:Str}:IOk K B (Itx z) (nxL (Ac z)) M H0:=by
 intro m S H i x R;have E:(Ac z)[i]?=z.cps[i]?.map λc=>D.str ⟨#[c]⟩:=by unfold Ac;rw[Zo,YE]
 refine⟨λe=>?_,λd e=>?_⟩
 ·have e:=Option.some.inj e;rw[E,Option.map_eq_none_iff] at e;exact Array.getElem?_eq_none_iff.mp e
 ·have e:=Option.some.inj e;rw[E] at e;obtain⟨c,b,rfl⟩:=Z6.mp e;refine⟨(YK.mp b).1,λy j ⟨f,C,h,g⟩=>?_⟩;subst f g;rw[b] at h;cases h;exact⟨Aft.refl R,dB⟩
def LG(h:tIt K B (LC x) u H R):P6 (tE K x) u H R:=by
 obtain⟨m,f,S,nx,I,E,j,y,e,q⟩:=h;obtain⟨d,C,p,e⟩:=ae e;cases d with
 |str z=>
  dsimp only at e;split at e
  ·rename_i g;cases e;exact⟨m,f,S,_,_,E,j,p,λM c v b o=>⟨z,o.strs,g,q M c _ b Gg⟩⟩
  ·cases e
 |_=>cases e
abbrev LH(b:List Str):XI:=λ_ S=>aD (nxL (b.map D.str),S)
def LI{c:List Str}{a:Addr}(b:∀H,SqT K H a (c.map V.str))(h:tIt K B (LH c) u H R):Kv K (tC (.ref a)) u H R:=by
 obtain⟨m,v,S,nx,I,E,o,z,e,q⟩:=h;cases e;refine⟨a,rfl,⟨_,b H⟩,q m H _ (Aft.refl o) ?_⟩;intro m S H i x R;refine⟨λe=>⟨_,b H,?_⟩,λd e=>?_⟩
 ·have e:=Yl.mp (Option.some.inj e)
  simpa using e
 ·have e:=Option.some.inj e;rw[Zo] at e;obtain⟨w,j,rfl⟩:=Z6.mp e;have f:(c.map V.str)[i]?=aD (.str w):=by rw[Zo,j];rfl
  refine⟨⟨_,_,b H,f⟩,λy C ⟨p,g⟩=>?_⟩;subst p;have:=g _ (b _);rw[f] at this;cases this;exact⟨Aft.refl R,dB⟩
inductive Tg where
 |name (i:Nat) |tup (ts:List Tg)
mutual
noncomputable def aB:Tg->D->Rho->Option Rho
 |.name i,d,ρ=>if i < ρ.length then aD (ρ.set i (aD d)) else aT
 |.tup ts,.tup ds,ρ=>aP ts ds ρ
 |_,_,_=>aT
noncomputable def aP:List Tg->List D->Rho->Option Rho
 |[],[],ρ=>aD ρ
 |t::ts,d::ds,ρ=>match aB t d ρ with
  |some b=>aP ts ds b
  |none=>aT
 |_,_,_=>aT
end
abbrev tTg(K:Vh)(t:Tg):TG:=λx g H Q=>∃m S f d b,Rel K m S H/\EnvR K m H f g/\VD K m H d x/\aB t d f=aD b/\∀c,EnvR K m H b c->Q c H
abbrev CA(K:Vh)(T:List Tg):TGs:=λxs h H Q=>∃m S f g b,Rel K m S H/\EnvR K m H f h/\VDs K m H g xs/\aP T g f=aD b/\∀c,EnvR K m H b c->Q c H
def EnvR.set{i:Nat}(E:EnvR K m H f o)(h:VD K m H d v):EnvR K m H (f.set i (aD d)) (o.set i (aD v)):=by
 refine⟨by simp[E.len],λj c e=>?_⟩;rw[YG] at e;rw[YG,<-E.len];by_cases b:i=j
 ·rw[if_pos b] at e ⊢;split at e
  ·rename_i g;rw[if_pos g];cases e;exact⟨v,rfl,h⟩
  ·cases e
 ·rw[if_neg b] at e ⊢;exact E.at_ j c e
def qO{i:Nat}(h:tTg K (.name i) x c H Q):i5 i x c H Q:=by
 obtain⟨m,S,f,d,b,R,E,v,e,q⟩:=h;simp only[aB] at e;split at e
 ·cases e;exact q _ (E.set v)
 ·cases e
def LJ{n:Nat}(g:n=T.length)(h:tTg K (.tup T) x u H Q):Pq K n (CA K T) x u H Q:=by
 obtain⟨m,S,f,d,b,R,E,p,e,q⟩:=h;cases d with
 |tup c=>
  simp only[aB] at e;obtain⟨a,j,rfl,o,v⟩:=p.tups;refine⟨a,j,rfl,.of o,?_,m,S,f,c,b,R,E,v,e,q⟩
  have len:∀ (T:List Tg) (c:List D) (f b:Rho),aP T c f=aD b->T.length=c.length:=by
   intro T
   induction T with
   |nil=>intro c f b e;cases c with |nil=>rfl |cons _ _=>simp[aP] at e
   |cons t T I=>
    intro c f b e;cases c with
    |nil=>simp[aP] at e
    |cons d c=>
     simp only[aP] at e;split at e
     ·simp[I _ _ _ e]
     ·cases e
  rw[g,<-v.length];exact(len _ _ _ _ e).symm
 |_=>simp[aB] at e
def Gh(h:CA K [] xs f H Q):Pp xs f H Q:=by
 obtain⟨m,S,g,c,b,R,E,v,e,q⟩:=h;cases c with
 |nil=>simp[aP] at e;subst e;rw[VDs] at v;exact⟨v,q _ E⟩
 |cons _ _=>simp[aP] at e
def CB(h:CA K (t::T) xs C H Q):Jj (tTg K t) (CA K T) xs C H Q:=by
 obtain⟨m,S,j,g,f,R,E,v,e,q⟩:=h;cases g with
 |nil=>simp[aP] at e
 |cons d g=>
  simp only[aP] at e;rw[VDs] at v;obtain⟨y,r,rfl,p,u⟩:=v;cases c:aB t d j with
  |none=>rw[c] at e;cases e
  |some b=>
   rw[c] at e;exact⟨y,r,rfl,m,S,j,d,b,R,E,p,c,λz o=>⟨m,S,b,g,f,R,o,u,e,q⟩⟩
def PG.imp(h:PG X e t)(f:∀x b H Q,t' x b H Q->t x b H Q):PG X e t':=λp s b H v u Q I r q=>h p s b H v u Q I r (f v b H Q q)
def PGs.imp(h:PGs X E t)(f:∀x b H Q,t' x b H Q->t x b H Q):PGs X E t':=λp s b H v u Q I r q=>h p s b H v u Q I r (f v b H Q q)
end
end Ev
namespace Ev
open PySem PyProof.Rows
variable {prog:Program} {w:World} {A:Around} {E:Value->Shared->Prop} {s:Shared}
def vS:fillsInplaceSlot (.type "list") "add" br=pure bx:=by rfl
def CC:seqSlot? (.type "list") (dunderI "add")=pure (aD (.builtin "list.__iadd__")):=by rfl
def CD:fillsNumberSlot (.type "list") "add" = pure bx:=by rfl
def mM{a b:Value}{Q:Value->Shared->Prop}(H:s.TypeIs a "list")(c:s.TypeIs b "list")(h:wpAny (model prog w) A (call (.builtin "list.__iadd__") [a,b]) Q E s) :
  wpAny (model prog w) A (V3 .Add a b) Q E s:=by
 unfold V3;refine UG ?_;refine Ux (U1 H ?_);rw[show fillsInplaceSlot (.type "list") Operator.Add.info.snd (Operator.Add == Operator.Add)=pure bx from vS];refine Ux (UR ?_);rw[if_neg Zg];refine Ux (wpAny_binaryOp1_none H c CD ?_);dsimp only;rw[show seqSlot? (.type "list") (dunderI Operator.Add.info.snd)=pure (aD (.builtin "list.__iadd__")) from CC];exact Ux (UR (Ux (UX h)))
end Ev
namespace L2
open PySem PySem.Spec PyProof.Rows
variable {X:Cx}
abbrev ipL:TIp:=λx y H Q=>∃l b xs z,x = .ref l/\y = .ref b/\H l=aD (.lst xs)/\H b=aD (.lst z)/\xs.length+z.length<=sizeLine/\Q (.ref l) (upd H l (.lst (xs++z)))
def CF:PIp X .Add ipL:=by
 intro p s Y H x y v u Q I L J h;obtain⟨l,b,xs,Z,rfl,rfl,o,M,O,q⟩:=h;cases L;cases J;obtain⟨z,f,n,r,U,e⟩:=I.lstM o;obtain⟨T,c,C,r2,B,E⟩:=I.lstM M;have j:f.toArray.size+c.toArray.size<=sizeLine:=by rw[Zk,Zk];omega
 have g:¬ (!f.toArray.isEmpty && Builtin.List.listTooLong (f.toArray.size+c.toArray.size))=br:=by
  rw[r9 j,ZP];exact Zg
 refine Ev.mM ⟨_,e,rfl⟩ ⟨_,E,rfl⟩ (VO F.slot_list_iadd ⟨_,e,rfl⟩ F.entry_list_iadd (F.args_list_iadd_2 _ _)
  (AutoSeq1.list___iadd___list_list_0 l f.toArray n b c.toArray C g (by rw[Zk];omega) (by omega)) ⟨e,E,?_⟩)
 refine⟨.ref l,_,I.lset (its':=f++c) o e (by simp) (r.append r2) ?_,rfl,q⟩;rw[Zi];omega
end L2
namespace L2
open PySem PySem.Spec PyProof.Rows PySem.W
variable {X:Cx} {pos sp:Pos}
abbrev Jy(K:Vh)(c g:TG):TG:=λv f H Q=>∃a x xs,v = .ref a/\SqL K H a (x::xs)/\xs.length<=16000/\∀p,H p=aT->c x f (upd H p (.lst xs)) λb h=>g (.ref p) b h Q
def Gi{L J:Expr}{k:Nat}{g1 g2:TG}(hc:X.calm=br)(h1:PG X L g1)(h2:PG X J g2)
  (hs:VF [L,.Starred J sp] X.env=[(bx,assign L X.env),(br,assign J X.env)]):PG X (.Tuple [L,.Starred J sp] k pos) (Jy X.K g1 g2):=by
 intro p s σ H v u Q I r hw;obtain⟨a,x,xs,e1,hq,hl,hw⟩:=hw;subst e1;cases r;obtain⟨E,rv,pl,hz⟩:=I.list hq;obtain⟨items,rfl⟩:∃items:List Value,E=items:=⟨E,rfl⟩;cases rv with
 |@cons _ U _ us r0 rr=>
 have c:=pl.isList;have hh:=I.ok.hd hc;have hus:=rr.length;have Y:(U::us).toArray.size=us.length+1:=by simp
 have C:a ≠ s.heap.objs.size:=by obtain⟨o,O,_⟩:=c;exact ZF (Zq O)
 have hll:a < s.heap.objs.size:=by obtain⟨o,O,_⟩:=c;exact Zq O
 rw[assign_Tuple];refine Ux (UZ ?_);unfold unpack;rw[hs];refine Ux (UG ?_);show wpAny _ _ (Uu (.ref a) 2 (aD 1)) _ _ _;unfold Uu;refine Ux ?_;unfold notIterableAtAll;refine Ux (wpAny_specialOf c.typeIs slot_list_iter.lookup ?_);refine UR ?_;simp only[Ye,if_false];refine Ux (UG (UT c ?_));refine Ux (UG (kun_draw C 1 0 _ _ ⟨_,ZI _ rfl,rfl,rfl⟩ (c.push _) (by omega) λB h y=>?_));have q:B.IsList a (U::us).toArray:=(c.push _).extBut y.extBut C;rw[Wq] at h;have g:=h;obtain⟨oi,hoi,_⟩:=g;have z:=q;obtain⟨ol,hol,_⟩:=z;rw[YJ];rw[if_neg (show ¬ (((U::us).toArray.toList.take 1).length < 1) by simp)];refine Ux (UG (kun_collect (s:={ s with heap:=B }) (T := "list_iterator") (.inr (.inr (.inl rfl))) (Walks.list (A:=X.A.in1) hh s.heap.objs.size a C (U::us).toArray) (λj u st=>st.1.typeIs) (k:=1) (by omega) ⟨h,q⟩ (Zq hoi) (Zq hol) (λf tk hk=>?_) (by rw[Y,Ug];omega)));have hd:(U::us).toArray.toList.drop 1=us:=by simp
 have ht:(U::us).toArray.toList.take 1=[U]:=by simp
 rw[hd,ht];show wpAny _ _ (if us.length < 0 then _ else _) _ _ _;rw[if_neg (Z5 _)];show wpAny _ _ (newList (us.take us.length) >>= λd=>pure ([U]++[d]++us.drop us.length)) _ _ _;rw[Z8,List.drop_length];have he:∀b o,s.heap.get? b=aD o->f.get? b=aD o:=λb o e=>hk b o (ZF (Zq e)) (y.extBut b o (ZF (Zq e)) (Zj _ e));have I2:Inv X p σ H { s with heap:=f,toks:=tk }:=I.kept he;refine Ux (UO (UR ?_) (by rw[Ug];omega));have I3:=I2.lnew (its:=us) (t':=tk) rr (by rw[Ug];omega);refine assignInOrder_cons (thn (h1 p _ σ _ _ _ _ I3 r0 (hw _ I2.fresh)) λ_ s4 ⟨Z,H4,I4,q4⟩=>?_);exact assignInOrder_cons (thn (h2 p s4 Z H4 (.ref f.objs.size) _ _ I4 rfl q4) λ_ s5 ⟨M,H5,I5,q5⟩=>assignInOrder_nil ⟨M,H5,I5,q5⟩)
end L2
namespace Ev
open PySem PySem.Spec PyProof.Rows L2
inductive Fl where
 |nx |bk |ct |rt (d:D)
@[inline]abbrev XS:=Rho->Sto->Option (Fl × Rho × Sto)
abbrev tz(K:Vh)(m:List Addr)(H:Hp)(f:Fl)(c:Rho)(D:Ends):Prop:=match f with
 |.nx=>∀b,EnvR K m H c b->D.nx b H
 |.bk=>∀b,EnvR K m H c b->D.bk b H
 |.ct=>∀b,EnvR K m H c b->D.ct b H
 |.rt d=>∀v,VD K m H d v->D.rt v H
abbrev tSt(K:Vh)(x:XS):TS:=λD j H=>∃m c S f b g,EnvR K m H c j/\Rel K m S H/\x c S=aD (f,b,g)/\∀M h,Aft K m H g M h->tz K M h f b D
section
variable {X:Cx} {K:Vh} {m:List Addr} {H:Hp} {S:Sto}
abbrev vT(x y:XS):XS:=λb S=>match x b S with
 |none=>aT
 |some (.nx,ρ1,S1)=>y ρ1 S1
 |some r=>aD r
abbrev Jz:XS:=λb S=>aD (.nx,b,S)
def Gj{D:Ends}{b:L2.St}{H:Hp}(h:tSt K Jz D b H):Jg D b H:=by
 obtain⟨m,g,S,f,c,j,E,R,e,q⟩:=h;cases e;exact q m H (Aft.refl R) b E
def LK{x y:XS}{D:Ends}{v:L2.St}{H:Hp}(h:tSt K (vT x y) D v H):Pl (tSt K x) (tSt K y) D v H:=by
 obtain⟨m,p,S,C,f,L,E,R,e,q⟩:=h;unfold vT at e;cases j:x p S with
 |none=>rw[j] at e;cases e
 |some r=>
  obtain⟨o,b,u⟩:=r;rw[j] at e;refine⟨m,p,S,o,b,u,E,R,j,λM g c=>?_⟩;cases o with
  |nx=>exactλz J=>⟨M,b,u,C,f,L,J,c.rel,e,λI B O=>q I B (c.trans O)⟩
  |bk=>cases e;exact q M g c
  |ct=>cases e;exact q M g c
  |rt d=>cases e;exact q M g c
abbrev tD(x:XE):XS:=λb S=>match x b S with
 |none=>aT
 |some (_,S1)=>aD (.nx,b,S1)
abbrev CG(x:XE):XS:=λb S=>match x b S with
 |none=>aT
 |some (d,S1)=>aD (.rt d,b,S1)
abbrev Qe:XS:=λb S=>aD (.ct,b,S)
def Gk{x:XE}{D:Ends}{c:L2.St}{H:Hp}(h:tSt K (tD x) D c H):Ji (tE K x) D c H:=by
 obtain⟨m,g,S,p,o,y,E,R,e,q⟩:=h;unfold tD at e;cases b:x g S with
 |none=>rw[b] at e;cases e
 |some r=>
  obtain⟨d,u⟩:=r;rw[b] at e;cases e;exact⟨m,g,S,d,_,E,R,b,λM j v f _=>q M j f c (E.mono R f.ext)⟩
def LL{x:XE}{D:Ends}{f:L2.St}{H:Hp}(h:tSt K (CG x) D f H):Pn (tE K x) D f H:=by
 obtain⟨m,c,S,u,o,z,E,R,e,q⟩:=h;unfold CG at e;cases b:x c S with
 |none=>rw[b] at e;cases e
 |some r=>
  obtain⟨d,y⟩:=r;rw[b] at e;cases e;exact⟨m,c,S,d,_,E,R,b,λM j v g p=>q M j g v p⟩
def LM{D:Ends}{b:L2.St}{H:Hp}(h:tSt K Qe D b H):Jh D b H:=by
 obtain⟨m,g,S,f,c,j,E,R,e,q⟩:=h;cases e;exact q m H (Aft.refl R) b E
abbrev xIf(c:XT)(x y:XS):XS:=λf S=>match c f S with
 |none=>aT
 |some (b,S1)=>if b=br then x f S1 else y f S1
def Qf{c:XT}{x y:XS}{D:Ends}{J:L2.St}{H:Hp}(h:tSt K (xIf c x y) D J H):Po (tT K c) (tSt K x) (tSt K y) D J H:=by
 obtain⟨m,j,S,C,g,I,E,R,e,q⟩:=h;unfold xIf at e;cases u:c j S with
 |none=>rw[u] at e;cases e
 |some r=>
  obtain⟨b,v⟩:=r;rw[u] at e;dsimp only at e;refine⟨m,j,S,b,v,E,R,u,λB L f=>?_⟩;dsimp only;split
  ·rename_i p;rw[if_pos p] at e;exact⟨B,j,v,C,g,I,E.mono R f.ext,f.rel,e,λM o z=>q M o (f.trans z)⟩
  ·rename_i p;rw[if_neg p] at e;exact⟨B,j,v,C,g,I,E.mono R f.ext,f.rel,e,λM o z=>q M o (f.trans z)⟩
abbrev mO(x:XE)(t:Tg):XS:=λc S=>match x c S with
 |none=>aT
 |some (d,S1)=>(aB t d c).map λb=>(.nx,b,S1)
def vU{x:XE}{t:Tg}{D:Ends}{o:L2.St}{H:Hp}(h:tSt K (mO x t) D o H):uM (tE K x) (tTg K t) D o H:=by
 obtain⟨m,b,S,C,z,J,E,R,e,q⟩:=h;unfold mO at e;cases g:x b S with
 |none=>rw[g] at e;cases e
 |some r=>
  obtain⟨d,I⟩:=r;rw[g] at e;dsimp only at e;cases c:aB t d b with
  |none=>rw[c] at e;cases e
  |some u=>
   rw[c] at e;cases e;exact⟨m,b,S,d,_,E,R,g,λM B v f y=>⟨M,_,b,d,_,f.rel,E.mono R f.ext,y,c,λj p=>q M B f j p⟩⟩
abbrev tF(v o i:XE):XS:=λb S=>match v b S with
 |none=>aT
 |some (dv,S1)=>match o b S1 with
  |none=>aT
  |some (d_o,S2)=>match i b S2 with
   |none=>aT
   |some (di,S3)=>(oh d_o di dv S3).map λc=>(.nx,b,c)
def Gm{v o i:XE}{D:Ends}{T:L2.St}{H:Hp}(h:tSt K (tF v o i) D T H):uM (tE K v) (Pr (tE K o) (tE K i) (P4 K)) D T H:=by
 obtain⟨m,b,S,fl,Z,S',E,R,e,q⟩:=h;unfold tF at e;cases B:v b S with
 |none=>rw[B] at e;cases e
 |some r1=>
  obtain⟨J,L⟩:=r1;rw[B] at e;dsimp only at e;cases Q:o b L with
  |none=>rw[Q] at e;cases e
  |some r2=>
   obtain⟨O,M⟩:=r2;rw[Q] at e;dsimp only at e;cases z:i b M with
   |none=>rw[z] at e;cases e
   |some r3=>
    obtain⟨I,C⟩:=r3;rw[z] at e;dsimp only at e;cases y:oh O I J C with
    |none=>rw[y] at e;cases e
    |some S4=>
     rw[y] at e;cases e;refine⟨m,b,S,J,L,E,R,B,λY H1 v1 c u=>⟨Y,b,L,O,M,E.mono R c.ext,c.rel,Q,λm2 H2 v2 f j=>⟨m2,b,M,I,C,E.mono R (c.trans f).ext,f.rel,z,λm3 H3 v3 g p=>?_⟩⟩⟩;exact⟨m3,C,O,I,J,_,g.rel,j.mono f.rel g.ext,p,u.mono c.rel (f.trans g).ext,y,λm4 H4 U=>q m4 H4 (((c.trans f).trans g).trans U) T (E.mono R (((c.trans f).trans g).trans U).ext)⟩
abbrev TC:D->Option (D × D)
 |.tup [a,b]=>aD (a,b)
 |_=>aT
abbrev dD(nx:Nxt)(T:Tg)(b:XS):Nat->Nat->XS
 |0,_=>λ_ _=>aT
 |k+1,i=>λf S=>match nx i S with
  |none=>aT
  |some aT=>aD (.nx,f,S)
  |some (aD d)=>match aB T d f with
   |none=>aT
   |some c=>match b c S with
    |none=>aT
    |some (.nx,ρ2,S2)=>dD nx T b k (i+1) ρ2 S2
    |some (.ct,ρ2,S2)=>dD nx T b k (i+1) ρ2 S2
    |some (.bk,ρ2,S2)=>aD (.nx,ρ2,S2)
    |some (.rt d,ρ2,S2)=>aD (.rt d,ρ2,S2)
abbrev CH(I:XI)(T:Tg)(b:XS)(k:Nat):XS:=λc S=>match I c S with
 |none=>aT
 |some (nx,S1)=>dD nx T b k 0 c S1
abbrev lpW(K:Vh)(nx:Nxt)(T:Tg)(b:XS)(o:List Addr)(p:Hp)(D:Ends)(i k:Nat)(q:L2.St)(H:Hp):Prop:=∃m g S f c j,EnvR K m H g q/\Rel K m S H/\Ext o p m H/\dD nx T b k i g S=aD (f,c,j)/\∀M h,Aft K m H j M h->tz K M h f c D
def yg{nx:Nxt}{U:Tg}{b:XS}{tb:TS}{J:It}{O:List Addr}{T:Hp}{D:Ends}(hI:IOk K [] J nx O T)(hbd:∀ {m:List Addr} {j:Rho} {S:Sto} {g:Fl} {c:Rho} {p:Sto} {D:Ends} {f:L2.St} {H:Hp},Ext O T m H->EnvR K m H j f->Rel K m S H->b j S=aD (g,c,p)->(∀M h,Aft K m H p M h->tz K M h g c D)->tb D f H)(k:Nat){m:List Addr}{j:Rho}{S:Sto}{f:L2.St}{H:Hp}{g:Fl}{c:Rho}{p:Sto}(E:EnvR K m H j f)(R:Rel K m S H)(x:Ext O T m H)(e:dD nx U b k 0 j S=aD (g,c,p))(q:∀M h,Aft K m H p M h->tz K M h g c D) :
  ∃W:Nat->Nat->L2.St->Hp->Prop,(∃m,W 0 m f H)/\∀i m f H,W i m f H ->
   (J.stop i H/\D.nx f H)\/(J.go i H/\∃N:L2.St->Hp->Prop,(∀C h,N C h->∃M,M < m/\W (i+1) M C h)/\∀x h,J.yld i H x h->tTg K U x f h λI H2=>tb { D with nx:=N,ct:=N,bk:=D.nx } I H2):=by
 refine⟨lpW K nx U b O T D,⟨k,m,j,S,g,c,p,E,R,x,e,q⟩,?_⟩;intro i k f H z;obtain⟨m,j,S,g,c,p,E,R,x,e,q⟩:=z;cases k with
 |zero=>simp[dD] at e
 |succ k=>
  simp only[dD] at e;cases hn:nx i S with
  |none=>rw[hn] at e;cases e
  |some o=>
   rw[hn] at e;obtain⟨h1,h2⟩:=hI m S H i (x.toB λb Q=>absurd Q (by simp)) R;cases o with
   |none=>cases e;exact .inl ⟨h1 hn,q m H (Aft.refl R) f E⟩
   |some d=>
    obtain⟨go,hy⟩:=h2 d hn;dsimp only at e;cases Q:aB U d j with
    |none=>rw[Q] at e;cases e
    |some L=>
     rw[Q] at e;dsimp only at e;cases hx:b L S with
     |none=>rw[hx] at e;cases e
     |some r=>
      obtain⟨f2,Y,S2⟩:=r;rw[hx] at e;refine .inr ⟨go,lpW K nx U b O T D (i+1) k,λC h z=>⟨k,X7 k,z⟩,λy h yl=>?_⟩;obtain⟨A,vd⟩:=hy y h yl;refine⟨m,S,j,d,L,A.rel,E.mono R A.ext,vd,Q,λI E2=>hbd (x.trans A.ext) E2 A.rel hx λm3 H3 u=>?_⟩;cases f2 with
      |nx=>exactλB Z=>⟨m3,Y,S2,g,c,p,Z,u.rel,(x.trans A.ext).trans u.ext,e,λm4 H4 A4=>q m4 H4 ((A.trans u).trans A4)⟩
      |ct=>exactλB Z=>⟨m3,Y,S2,g,c,p,Z,u.rel,(x.trans A.ext).trans u.ext,e,λm4 H4 A4=>q m4 H4 ((A.trans u).trans A4)⟩
      |bk=>cases e;exactλB Z=>q m3 H3 (A.trans u) B Z
      |rt d=>cases e;exactλv vd=>q m3 H3 (A.trans u) v vd
def LN{I:XI}{T:Tg}{b:XS}{k:Nat}{D:Ends}{j:L2.St}{H:Hp}(h:tSt K (CH I T b k) D j H):Pu (tIt K [] I) (tTg K T) (tSt K b) D j H:=by
 obtain⟨m,g,S,C,u,O,E,R,e,q⟩:=h;unfold CH at e;cases c:I g S with
 |none=>rw[c] at e;cases e
 |some r=>
  obtain⟨nx,y⟩:=r;rw[c] at e;exact⟨m,g,S,nx,y,E,R,λb v=>absurd v (by simp),c,λB L J f o=>yg o (λ_ E R e q=>⟨_,_,_,_,_,_,E,R,e,q⟩) k (E.mono R f.ext) f.rel (Ext.refl _ _) e λM p z=>q M p (f.trans z)⟩
abbrev Ae(p:Nat)(b c:D)(S:Sto):Option Sto:=match vo b,S[p]? with
 |some k,aD (.dic ks ds)=>if (ks.all λa=>decide (a ≠ k))=br/\ks.length < 1000 then aD (S.set p (.dic (ks++[k]) (ds++[c]))) else aT
 |_,_=>aT
abbrev tG(p:Nat)(k v:XE):XS:=λb S=>match k b S with
 |none=>aT
 |some (dk,S1)=>match v b S1 with
  |none=>aT
  |some (dv,S2)=>(Ae p dk dv S2).map λc=>(.nx,b,c)
abbrev Af(i own:Nat)(I:XI)(T:Tg)(k v:XE)(n:Nat):XS:=λb S=>match I b S with
 |none=>aT
 |some (nx,S1)=>match dD nx T (tG S1.length k v) n 0 (b++Zp own aT) (S1++[.dic [] []]) with
  |some (.nx,_,S2)=>aD (.nx,b.set i (aD (.ref S1.length)),S2)
  |_=>aT
abbrev CJ(i:Nat)(x:XE):XS:=λc S=>match c[i]? with
 | some (aD (.ref l))=>(match x c S with
  | some (.ref b,S1)=>(match S1[l]?,S1[b]? with
   |some (.lst xs),aD (.lst zs)=>if xs.length+zs.length<=100000 then aD (.nx,c.set i (aD (.ref l)),S1.set l (.lst (xs++zs))) else aT
   | _,_=>aT)
  | _=>aT)
 |_=>aT
def LP{i:Nat}{x:XE}{D:Ends}{z:L2.St}{H:Hp}(h:tSt K (CJ i x) D z H):Pt i (tE K x) ipL D z H:=by
 obtain⟨m,L,S,fl,M,S',E,R,e,q⟩:=h;unfold CJ at e;split at e
 ·rename_i l C;split at e
  ·rename_i b S1 U;split at e
   ·rename_i xs zs T Q;split at e
    ·rename_i Z;cases e;obtain⟨v,J,I⟩:=E.at_ _ _ C;obtain⟨Y,f,rfl⟩:=I.refs;refine⟨_,J,m,L,S,_,_,E,R,U,λm1 H1 u c O=>?_⟩;obtain⟨a,vs,y,B,j⟩:=c.rel.lst T;obtain⟨b0,ws,g,o,wds⟩:=c.rel.lst Q;rw[cg c.ext.pre f] at y;cases y;obtain⟨b1,p,rfl⟩:=O.refs;rw[p] at g;cases g;have w:=c.rel.write (cg c.ext.pre f) (j.append wds);refine⟨_,_,_,_,rfl,rfl,B,o,by rw[<-j.length,<-wds.length,Ug];lia,?_⟩;exact q _ _ (c.trans ⟨w.1,w.2⟩) _ ((E.mono R (c.trans ⟨w.1,w.2⟩).ext).set (by rw[VD];exact⟨_,cg c.ext.pre f,rfl⟩))
    ·cases e
   ·cases e
  ·cases e
 ·cases e
abbrev CK(i j:Nat)(x:XE):XS:=λb S=>match x b S with
 | some (.ref n,S1)=>(match aA S1 n with
  |some (d::ds)=>if ds.length<=16000/\i < b.length/\j < b.length then aD (.nx,(b.set i (aD d)).set j (aD (.ref S1.length)),S1++[.lst ds]) else aT
  | _=>aT)
 |_=>aT
def LQ{i j:Nat}{x:XE}{D:Ends}{I:L2.St}{H:Hp}(h:tSt K (CK i j x) D I H):uM (tE K x) (Jy K (i5 i) (i5 j)) D I H:=by
 obtain⟨m,L,S,fl,O,S',E,R,e,q⟩:=h;unfold CK at e;split at e
 ·rename_i n Y hx;split at e
  ·rename_i d ds T;split at e
   ·rename_i J;cases e;refine⟨m,L,S,_,_,E,R,hx,λM B u b Q=>?_⟩;obtain⟨a,Z,rfl⟩:=Q.refs;obtain⟨a',vs,f,U,c⟩:=b.rel.seq T;rw[Z] at f;cases f;have hl:=c.length;rw[VDs] at c;obtain⟨v,o,rfl,vv,z⟩:=c;refine⟨a,v,o,rfl,U,by rw[<-z.length];exact J.1,λp g=>?_⟩;have C:=Ext.beside b.rel g (.lst o);have y:Aft K M B (Y++[.lst ds]) (M++[p]) (upd B p (.lst o)):=⟨C.adopt g,(b.rel.beside g _).adopt (b.rel.no g) aC (z.mono b.rel C)⟩;refine q _ _ (b.trans y) _ (((E.mono R (b.trans y).ext).set (vv.mono b.rel y.ext)).set ?_);rw[VD];exact⟨p,by rw[Zn (by rw[b.rel.len];exact Zc _),b.rel.len,Z7];rfl,rfl⟩
   ·cases e
  ·cases e
 ·cases e
end
mutual
noncomputable def dZ:Tg->Rho->Bool
 |.name i,ρ=>match ρ[i]? with
  |some aT=>br
  |_=>bx
 |.tup ts,ρ=>gh ts ρ
noncomputable def gh:List Tg->Rho->Bool
 |[],_=>br
 |t::ts,ρ=>dZ t ρ && gh ts ρ
end
structure LeR(ρ ρ':Rho):Prop where
 len:ρ.length=ρ'.length
 at_:∀ (i:Nat) (d:D),ρ[i]?=aD (aD d)->ρ'[i]?=aD (aD d)
def LeR.refl(ρ:Rho):LeR ρ ρ:=⟨rfl,λ_ _ h=>h⟩
mutual
theorem tH:∀ {t:Tg} {d:D} {g b:Rho},LeR c g->dZ t c=br->aB t d g=aD b->LeR c b
 |.name i,d,g,b,l,f,e=>by
  simp only[aB] at e;split at e
  ·cases e;refine⟨by simp[l.len],λj o h=>?_⟩;rw[YG];by_cases H:i=j
   ·subst H;simp only[dZ] at f;rw[h] at f;cases f
   ·rw[if_neg H];exact l.at_ j o h
  ·cases e
 |.tup ts,.tup ds,g,b,l,f,e=>by
  simp only[aB] at e;simp only[dZ] at f;exact oZ l f e
 |.tup ts,.non,_,_,_,_,e=>by simp[aB] at e
 |.tup ts,.bl _,_,_,_,_,e=>by simp[aB] at e
 |.tup ts,.int _,_,_,_,_,e=>by simp[aB] at e
 |.tup ts,.str _,_,_,_,_,e=>by simp[aB] at e
 |.tup ts,.ref _,_,_,_,_,e=>by simp[aB] at e
theorem oZ:∀ {T:List Tg} {ds:List D} {g b:Rho},LeR c g->gh T c=br->aP T ds g=aD b->LeR c b
 |[],[],g,b,l,_,e=>by simp only[aP] at e;cases e;exact l
 |[],_::_,_,_,_,_,e=>by simp[aP] at e
 |_::_,[],_,_,_,_,e=>by simp[aP] at e
 |t::T,d::ds,g,b,l,f,e=>by
  simp only[aP] at e;simp only[gh,bAE] at f;cases h:aB t d g with
  |none=>rw[h] at e;cases e
  |some j=>rw[h] at e;exact oZ (tH l f.1 h) f.2 e
end
section
variable {X:Cx} {K:Vh} {m:List Addr} {H:Hp} {S:Sto}
def EnvR.weaken(E:EnvR K m H b σ)(l:LeR c b):EnvR K m H c σ:=⟨l.len.trans E.len,λi d h=>E.at_ i d (l.at_ i d h)⟩
abbrev bt(nx:Nxt)(T:Tg)(c:XA)(f:Rho):Nat->Nat->Sto->Option (List D × Sto)
 |0,_,_=>aT
 |k+1,i,S=>match nx i S with
  |none=>aT
  |some aT=>aD ([],S)
  |some (aD d)=>match aB T d f with
   |none=>aT
   |some b=>bnd (c b S) λE g=>bnd (bt nx T c f k (i+1) g) λrs h=>aD (E++rs,h)
abbrev CL(t:XT)(c:XA):XA:=λg S=>bnd (t g S) λb f=>if b=br then c g f else aD ([],f)
abbrev JA(x:XE):XA:=λc S=>bnd (x c S) λd b=>aD ([d],b)
abbrev jW(I:XI)(T:Tg)(c:XA)(k:Nat):XA:=λb S=>if dZ T b=br then bnd (I b S) λnx f=>bt nx T c b k 0 f else aT
abbrev mP(own:Nat)(I:XI)(T:Tg)(c:XA)(k:Nat):XA:=λb S=>bnd (I b S) λnx f=>if dZ T (b++Zp own aT)=br then
 (bnd (bt nx T c (b++Zp own aT) k 0 f) λE g=>if E.length<=100000 then aD (E,g) else aT) else aT
abbrev tCl(K:Vh)(b:Addr)(c:XA):TS:=λD p H=>∃m g S E j z o,EnvR K m H g p/\Rel K m S H/\b ∉ m/\H b=aD (.lst o)/\VDs K m H z o/\z.length+E.length<=100000/\c g S=aD (E,j) ∧
 ∀M h f v,ExtB [b] m H M h->Rel K M j h->h b=aD (.lst v)->VDs K M h (z++E) v->EnvR K M h g f->D.nx f h
def CM(h:H c=aD (.lst v))(n:c ∉ m):AtB [c] m H:=λb f=>by simp at f;subst f;exact⟨⟨v,h⟩,n⟩
def ExtB.refl(n:c ∉ m):ExtB [c] m H m H:=⟨Yn m,λ_ _ h _ _=>h,λ_ h n=>absurd h n,λb f=>by simp at f;subst f;exact n⟩
def ExtB.put(n:c ∉ m)(o:HO):ExtB [c] m H m (upd H c o):=⟨Yn m,λa u h _ nb=>by
 rw[aw (λz=>nb (by simp[z]))];exact h,λ_ h n=>absurd h n,λb f=>by simp at f;subst f;exact n⟩
def Rel.extB(R:Rel K m S H)(h:AtB [c] m H)(x:ExtB [c] m H m H')(k:∀b ∈ m,H' b=H b):Rel K m S H':=by
 refine⟨R.len,R.nd,λi o e=>?_⟩;obtain⟨b,g,r⟩:=R.ob i o e;have f:b ∈ m:=Zy g;refine⟨b,g,?_⟩;cases o with
 |lst j=>obtain⟨v,p,q⟩:=r;exact⟨v,(k b f).trans p,VDs.monoB R h x q⟩
 |frz j=>obtain⟨o,v,p,q⟩:=r;exact⟨o,v,(k b f).trans p,VDs.monoB R h x q⟩
 |dic u j=>obtain⟨v,p,l,q⟩:=r;exact⟨v,(k b f).trans p,l,VDs.monoB R h x q⟩
def Gn{c:Addr}{x:XE}{D:Ends}{y:L2.St}{H:Hp}(h:tCl K c (JA x) D y H):Js c (tE K x) D y H:=by
 obtain⟨m,M,S,es,S',Z,u,E,R,B,J,C,Q,e,q⟩:=h;obtain⟨d,S1,T,e⟩:=ae e;cases e;refine⟨m,M,S,d,_,E,R,T,λm1 I v g L=>?_⟩;have U:=CM J B;have o:I c=aD (.lst u):=g.ext.keep _ _ J B;have xB:=g.ext.toB U;have j:c ∉ m1:=xB.nb c (by simp);have p:=ExtB.put (H:=I) j (.lst (u++[v]));have f:=CM o j;have Y:=C.length;simp only[ZJ] at Q;refine⟨u,o,by rw[Ug];lia,q m1 _ y (u++[v]) (xB.trans p) (g.rel.extB f p λb O=>aw λz=>j (z ▸ O)) aC ?_ ((E.mono R g.ext).monoB g.rel f p)⟩;exact VDs.append ((C.mono R g.ext).monoB g.rel f p) (.cons (L.monoB g.rel f p) .nil)
def Go{f:Addr}{t:XT}{c:XA}{D:Ends}{z:L2.St}{H:Hp}(h:tCl K f (CL t c) D z H):eO (tT K t) (tCl K f c) D z H:=by
 obtain⟨m,I,S,es,S',Z,y,E,R,B,M,C,Y,e,q⟩:=h;obtain⟨b,L,e1,e⟩:=ae e;refine⟨m,I,S,b,L,E,R,e1,λm1 J g=>?_⟩;have hB:=CM M B;have j:J f=aD (.lst y):=g.ext.keep _ _ M B;have xB:=g.ext.toB hB;have u:f ∉ m1:=xB.nb f (by simp);dsimp only;split
 ·rename_i p;rw[if_pos p] at e;exact⟨m1,I,L,es,S',Z,y,E.mono R g.ext,g.rel,u,j,C.mono R g.ext,Y,e,λT Q o v x2 R2 h2 O U=>q T Q o v (xB.trans x2) R2 h2 O U⟩
 ·rename_i p;rw[if_neg p] at e;cases e;refine q m1 J z y xB g.rel j ?_ (E.mono R g.ext);rw[ZO];exact C.mono R g.ext
def tJ{t:TS}{D:Ends}{b:L2.St}{H:Hp}(h:t D b H):eO u4 t D b H:=by
 show if br=br then t D b H else D.nx b H
 rw[if_pos rfl];exact h
def LR{b:Addr}{c:XA}{D:Ends}{f:L2.St}{H:Hp}(h:tCl K b c D f H):eO u4 (tCl K b c) D f H:=by
 exact tJ h
abbrev clW(K:Vh)(b:Addr)(nx:Nxt)(T:Tg)(c:XA)(g:Rho)(p:List Addr)(q:Hp)(u:Ends)(i k:Nat)(y:L2.St)(H:Hp):Prop:=∃m S o E z j,EnvR K m H g y/\Rel K m S H/\ExtB [b] p q m H/\H b=aD (.lst j)/\VDs K m H z j/\z.length+E.length<=100000/\bt nx T c g k i S=aD (E,o)/\∀M h f v,ExtB [b] m H M h->Rel K M o h->h b=aD (.lst v)->VDs K M h (z++E) v->EnvR K M h g f->u.nx f h
def yh(hI:IOk K [b] J nx U H1)(hts:∀D j H,tCl K b c D j H->ts D j H)(k:Nat)
  (fr:dZ T f=br) (E:EnvR K m H f j) (R:Rel K m S H) (x:ExtB [b] U H1 m H) (u:H b=aD (.lst vs)) (C:VDs K m H zs vs) (hl:zs.length+O.length<=100000) (e:bt nx T c f k 0 S=aD (O,S'))
  (q:∀M h g v,ExtB [b] m H M h->Rel K M S' h->h b=aD (.lst v)->VDs K M h (zs++O) v->EnvR K M h f g->Q.nx g h):sj J (tTg K T) ts Q j H:=by
 refine⟨clW K b nx T c f U H1 Q,⟨k,m,S,S',O,zs,vs,E,R,x,u,C,hl,e,q⟩,?_⟩;intro i k j H z;obtain⟨m,S,S',O,zs,vs,E,R,x,u,C,hl,e,q⟩:=z;have B:b ∉ m:=x.nb b (by simp);have hB:=CM u B;cases k with
 |zero=>simp[bt] at e
 |succ k=>
  simp only[bt] at e;cases I:nx i S with
  |none=>rw[I] at e;cases e
  |some o=>
   rw[I] at e;obtain⟨h1,h2⟩:=hI m S H i x R;cases o with
   |none=>
    cases e;exact .inl ⟨h1 I,q m H j vs (ExtB.refl B) R u (by rw[ZO];exact C) E⟩
   |some d=>
    obtain⟨go,hy⟩:=h2 d I;dsimp only at e;cases L:aB T d f with
    |none=>rw[L] at e;cases e
    |some p=>
     rw[L] at e;dsimp only at e;obtain⟨e1,S1,c1,e⟩:=ae e;obtain⟨rs,S2,c2,e⟩:=ae e;cases e;rw[Zi] at hl;refine .inr ⟨go,clW K b nx T c f U H1 Q (i+1) k,λg h z=>⟨k,X7 k,z⟩,λy h yl=>?_⟩;obtain⟨A,vd⟩:=hy y h yl;have xA:=A.ext.toB hB;have ha':h b=aD (.lst vs):=A.ext.keep _ _ u B;refine⟨m,S,f,d,p,A.rel,E.mono R A.ext,vd,L,λσ2 E2=>hts _ _ _ ⟨m,p,S,e1,S1,zs,vs,E2,A.rel,B,ha',C.mono R A.ext,by lia,c1,λm3 H3 σ3 Y x3 R3 h3 v3 E3=>?_⟩⟩;refine⟨m3,S1,_,rs,zs++e1,Y,E3.weaken (tH (LeR.refl f) fr L),R3,(x.trans xA).trans x3,h3,v3,by rw[Zi];lia,c2,λm4 H4 σ4 Z x4 R4 h4 v4 E4=>?_⟩;refine q m4 H4 σ4 Z ((xA.trans x3).trans x4) R4 h4 ?_ E4;rw[<-ZX];exact v4
def CN{b:Addr}{I:XI}{T:Tg}{t:TT}{c C:XA}{k:Nat}{D:Ends}{g:L2.St}{H:Hp}(o:∀D g H,tCl K b c D g H->eO t (tCl K b C) D g H)(h:tCl K b (jW I T c k) D g H):BQ (tIt K [b] I) (tTg K T) t (tCl K b C) D g H:=by
 obtain⟨m,Q,S,es,S',zs,vs,E,R,u,z,O,hl,e,q⟩:=h;unfold jW at e;split at e
 ·rename_i fr;obtain⟨nx,S1,Z,e⟩:=ae e;have y:=CM z u;refine⟨m,Q,S,nx,S1,E,R,y,Z,λm1 H1 J f L=>?_⟩;have xB:=f.ext.toB y;have p:b ∉ m1:=xB.nb b (by simp);exact yh L o k fr (E.mono R f.ext) f.rel (ExtB.refl p) (f.ext.keep _ _ z u) (O.mono R f.ext) hl e λU M j v x2 R2 h2 B Y=>q U M j v (xB.trans x2) R2 h2 B Y
 ·cases e
def EnvR.more(E:EnvR K m H b c)(n:Nat):EnvR K m H (b++Zp n aT) (c++Zp n aT):=by
 refine⟨by simp[E.len],λi d e=>?_⟩;by_cases h:i < b.length
 ·rw[Zw h] at e;rw[Zw (by rw[<-E.len];exact h)];exact E.at_ i d e
 ·rw[Zn (by lia),Yo] at e;split at e <;> cases e
def yi{own:Nat}{k:Nat}(C:∀acc D v H,tCl K acc c D v H->eO t (tCl K acc c') D v H)(h:fo K (mP own it tg c k) v H Q):PR own (tIt K [] it) (tTg K tg) (λacc=>eO t (tCl K acc c')) v H Q:=by
 obtain⟨m,ρ,S,es,S',E,R,e,q⟩:=h;obtain⟨nx,S1,e1,e⟩:=ae e;split at e
 ·rename_i fr;obtain⟨es',U,e2,e⟩:=ae e;split at e
  ·rename_i hl;cases e;refine⟨m,ρ,S,nx,S1,E,R,λb u=>absurd u (by simp),e1,λO T J g hI acc f=>?_⟩;have x0:=Ext.beside g.rel f (.lst []);have R0:=g.rel.beside f (.lst []);have y:=g.rel.no f
   have I:IOk K [acc] J nx O (upd T acc (.lst [])):=by
    intro M U H2 i j R2;refine hI M U H2 i ⟨j.pre,λa o h n _=>?_,λa h n=>?_,λb u=>absurd u (by simp)⟩ R2
    ·have ne:a ≠ acc:=aV h f;exact j.keep a o (by rw[aw ne];exact h) n (by simp[ne])
    ·have:=j.new a h n;by_cases p:a=acc
     ·subst p;exact f
     ·rw[aw p] at this;exact this
   refine yh (zs:=[]) (vs:=[]) I (C acc) k fr ((E.mono R g.ext |>.mono g.rel x0).more own) R0 (ExtB.refl y) aC .nil (by simpa using hl) e2 λM H2 σ2 B j R2 h2 v2 E2=>?_
   have Y:Ext O T M H2:=⟨j.pre,λa o h n=>by
    have ne:a ≠ acc:=aV h f;exact j.keep a o (by rw[aw ne];exact h) n (by simp[ne]),λa h n=>by
    have:=j.new a h n;by_cases p:a=acc
    ·subst p;exact f
    ·rw[aw p] at this;exact this⟩
   have hn:H acc=aT:=by
    cases Z:H acc with
    |none=>rfl
    |some o=>
     by_cases L:acc ∈ m
     ·exact absurd (g.ext.pre.subset L) y
     ·have:=g.ext.keep acc o Z L;rw[f] at this;cases this
   exact q M H2 acc B (g.trans ⟨Y,R2⟩) h2 (j.nb acc (by simp)) (λb u z=>y (g.ext.pre.subset (z ▸ u))) hn (by simpa using v2)
  ·cases e
 ·cases e
end
section
variable {X:Cx} {K:Vh} {m:List Addr} {H:Hp} {S:Sto}
abbrev CO(x y:XE):XE:=λc S=>bnd (x c S) λd b=>match d with
 |.bl br=>y c b
 |.bl bx=>aD (.bl bx,b)
 |_=>aT
abbrev xOr(x y:XE):XE:=λc S=>bnd (x c S) λd b=>match d with
 |.bl br=>aD (.bl br,b)
 |.bl bx=>y c b
 |_=>aT
abbrev Ag:D->Sto->Option (D × Sto)
 |.bl b,S=>aD (.bl (!b),S)
 |_,_=>aT
abbrev LS:D->Sto->Option (D × Sto)
 |.int i,S=>aD (.int (-i),S)
 |_,_=>aT
abbrev LU(c:XT)(x y:XE):XE:=λf S=>bnd (c f S) λb g=>if b=br then x f g else y f g
def CP(h:tE K (CO x y) J H Q):Jd (tE K x) (tE K y) J H Q:=by
 obtain⟨m,f,S,d,C,E,R,e,q⟩:=h;obtain⟨a,g,B,e⟩:=ae e;refine⟨m,f,S,a,g,E,R,B,λM z v c j=>?_⟩;cases a with
 |bl b=>
  refine⟨b,j.bls,?_⟩;cases b with
  |true=>exact⟨M,f,g,d,C,E.mono R c.ext,c.rel,e,λu p w I o=>q u p w (c.trans I) o⟩
  |false=>cases e;exact q M z _ c b9
 |_=>cases e
def JB(h:tE K (xOr x y) J H Q):Pk (tE K x) (tE K y) J H Q:=by
 obtain⟨m,f,S,d,C,E,R,e,q⟩:=h;obtain⟨a,g,B,e⟩:=ae e;refine⟨m,f,S,a,g,E,R,B,λM z v c j=>?_⟩;cases a with
 |bl b=>
  refine⟨b,j.bls,?_⟩;cases b with
  |false=>exact⟨M,f,g,d,C,E.mono R c.ext,c.rel,e,λu p w I o=>q u p w (c.trans I) o⟩
  |true=>cases e;exact q M z _ c b9
 |_=>cases e
def LV(h:tE K (xUn Ag x) u H Q):Je (tE K x) u H Q:=by
 obtain⟨m,g,S,d,y,E,R,e,q⟩:=h;obtain⟨a,j,p,e⟩:=ae e;refine⟨m,g,S,a,j,E,R,p,λM f v c o=>?_⟩;cases a with
 |bl b=>cases e;exact⟨b,o.bls,q M f _ c b9⟩
 |_=>cases e
def Gp:UnR X (unaryOp .USub) (rS1 X.K LS):=by
 intro p s f H x v Q I b h;refine Bs p s f H x v Q I b ?_;obtain⟨m,S,a,d,g,R,c,e,q⟩:=h;cases a with
 |int i=>cases e;exact⟨i,c.ints,q m H _ (Aft.refl R) bI⟩
 |_=>cases e
def LW(h:tE K (LU c x y) I H Q):tIf (tT K c) (tE K x) (tE K y) I H Q:=by
 obtain⟨m,j,S,d,B,E,R,e,q⟩:=h;obtain⟨b,p,C,e⟩:=ae e;refine⟨m,j,S,b,p,E,R,C,λz J f=>?_⟩;dsimp only;split
 ·rename_i o;rw[if_pos o] at e;exact⟨z,j,p,d,B,E.mono R f.ext,f.rel,e,λM g w u v=>q M g w (f.trans u) v⟩
 ·rename_i o;rw[if_neg o] at e;exact⟨z,j,p,d,B,E.mono R f.ext,f.rel,e,λM g w u v=>q M g w (f.trans u) v⟩
abbrev Ah(f g:D->D->Sto->Option (D × Sto))(x y z:XE):XE:=λh S=>bnd (x h S) λa p=>bnd (y h p) λb q=>bnd (f a b q) λr j=>match r with
 |.bl br=>bnd (z h j) λc o=>g b c o
 |.bl bx=>aD (.bl bx,j)
 |_=>aT
def CQ(h:tE K (Ah f g x y z) σ H Q):uQ (rS K f) (rS K g) (tE K x) (tE K y) (tE K z) σ H Q:=by
 obtain⟨m,B,S,d,S',E,R,e,q⟩:=h;obtain⟨a,L,e1,e⟩:=ae e;obtain⟨b,O,e2,e⟩:=ae e;obtain⟨r,J,e3,e⟩:=ae e;refine⟨m,B,S,a,L,E,R,e1,λm1 H1 v j U=>⟨m1,B,L,b,O,E.mono R j.ext,j.rel,e2,λm2 H2 w o vb=>?_⟩⟩;refine⟨m2,O,a,b,r,J,o.rel,U.mono j.rel o.ext,vb,e3,λM Y u p vr=>?_⟩;cases r with
 |bl k=>
  refine⟨k,vr.bls,?_⟩;cases k with
  |true=>
   dsimp only at e;obtain⟨c,I,e4,e⟩:=ae e;exact⟨M,B,J,c,I,E.mono R ((j.trans o).trans p).ext,p.rel,e4,λm4 H4 y C vc=>⟨m4,I,b,c,d,S',C.rel,vb.mono o.rel (p.trans C).ext,vc,e,λm5 H5 t T Z=>q m5 H5 t ((((j.trans o).trans p).trans C).trans T) Z⟩⟩
  |false=>cases e;exact q M Y _ ((j.trans o).trans p) b9
 |_=>cases e
abbrev CT(x y:XT):XT:=λf S=>bnd (x f S) λb c=>if b=br then y f c else aD (bx,c)
abbrev LX(x y:XT):XT:=λf S=>bnd (x f S) λb c=>if b=br then aD (br,c) else y f c
abbrev CU(x:XT):XT:=λf S=>bnd (x f S) λb c=>aD (!b,c)
def CW(h:tT K (CT x y) C H Q):Ph (tT K x) (tT K y) C H Q:=by
 obtain⟨m,g,S,d,v,E,R,e,q⟩:=h;obtain⟨b,j,B,e⟩:=ae e;refine⟨m,g,S,b,j,E,R,B,λM u c=>?_⟩;dsimp only;split
 ·rename_i f;rw[if_pos f] at e;exact⟨M,g,j,d,v,E.mono R c.ext,c.rel,e,λp o z=>q p o (c.trans z)⟩
 ·rename_i f;rw[if_neg f] at e;cases e;exact q M u c
def JC(h:tT K (LX x y) C H Q):tOr (tT K x) (tT K y) C H Q:=by
 obtain⟨m,g,S,d,v,E,R,e,q⟩:=h;obtain⟨b,j,B,e⟩:=ae e;refine⟨m,g,S,b,j,E,R,B,λM u c=>?_⟩;dsimp only;split
 ·rename_i f;rw[if_pos f] at e;cases e;exact q M u c
 ·rename_i f;rw[if_neg f] at e;exact⟨M,g,j,d,v,E.mono R c.ext,c.rel,e,λp o z=>q p o (c.trans z)⟩
def LY(h:tT K (CU x) o H Q):Pj (tT K x) o H Q:=by
 obtain⟨m,f,S,d,u,E,R,e,q⟩:=h;obtain⟨b,p,j,e⟩:=ae e;cases e;exact⟨m,f,S,b,_,E,R,j,λM g c=>q M g c⟩
@[inline]abbrev Calls:=Nat->List D->Sto->Option (D × Sto)
abbrev spC(K:Vh)(g:List D->Sto->Option (D × Sto))(n:Nat):Sp:=λf H Q _=>∃m b S d c,VDs K m H b f/\Rel K m S H/\b.length=n/\g b S=aD (d,c)/\∀M h v,Aft K m H c M h->VD K M h d v->Q v h
abbrev tK(g:List D->Sto->Option (D × Sto))(n:Nat)(x:XA):XE:=λf S=>bnd (x f S) λb c=>if b.length=n then g b c else aT
def Gq{n:Nat}(h:tE K (tK g n x) J H Q):Jo (spC K g n) [] E0 (tAr K x) J H Q:=by
 obtain⟨m,p,S,d,C,E,R,e,q⟩:=h;obtain⟨f,c,y,e⟩:=ae e;split at e
 ·rename_i z;refine⟨m,p,S,f,c,E,R,y,λM L O b j=>⟨M,f,c,d,C,by rw[ZO];exact j,b.rel,z,e,λu o v I B=>q u o v (b.trans I) B⟩⟩
 ·cases e
end
end Ev
namespace Ev
open PySem PySem.W PyProof.Rows
variable {prog:Program} {w:World} {A:Around} {E:Value->Shared->Prop} {s:Shared}
def jm:∀ (l:List Str) (k:Nat),StrsAre (strsFrom k l) l
 |[],_=>.nil
 |x::l,k=>.cons _ _ (jm l _)
def jn:∀ (l:List Str) (k:Nat),(strsFrom k l).length=l.length
 |[],_=>rfl
 |x::l,k=>congrArg (·+1) (jn l _)
def tL{x y:Str}{t u:Tok}{Q:Value->Shared->Prop}(g:(y.length == 0)=bx)(j:x.length+2<=sizeLine)
  (b:(Txt.split x y).length<=sizeLine) (H:∀z ∈ Txt.split x y,z.length<=sizeLine)
  (h:∀ (v:List Value) (k:Nat),StrsAre v (Txt.split x y)->Q (.ref s.heap.objs.size) { s with heap:=s.heap.push { cls:=.type "list", data:=.seq v.toArray },toks:=k }) :
  wpAny (model prog w) A (call (.builtin "str.split") [.str x t,.str y u]) Q E s:=by
 refine Uz WU rfl (by first |exact entry_str_split |exact PySem.F.entry_str_split |exact PySem.entry_str_split) ?_;unfold Builtin.«str.split»;refine Ux (m:=Builtin.Str.strSelf _) (UR (a:=(Value.str x t,x,[Value.str y u])) ?_);refine Ux (m:=Builtin.Str.bindOptional _ _ _ _ _ _) (UR (a:=[aD (Value.str y u),aT]) ?_);refine Ux (m:=Builtin.Str.countLimit _ _ _) (UR (a:=x.length+1) ?_);rw[show((aD (Value.str y u)).isNone || some (Value.str y u) == aD Value.none)=bx from rfl,if_neg Zg];refine Ux (m:=asStr? _) (UR (a:=aD y) ?_);dsimp only;unfold Txt.split at b H h;split
 ·rename_i c;rw[if_pos c] at h;exact Ux (UX (Ux (UO (UR ⟨_,rfl,h [.str x t] s.toks (.cons _ _ .nil)⟩) (show 1<=sizeLine by decide))))
 ·rename_i c;rw[if_neg c] at b H h;rw[g,if_neg Zg];split
  ·rename_i C;have f:(Builtin.Str.occurrences x y 0 x.length (x.length+1)).isEmpty=br:=C;rw[if_pos f] at h;exact Ux (UX (Ux (UO (UR ⟨_,rfl,h [.str x t] s.toks (.cons _ _ .nil)⟩) (show 1<=sizeLine by decide))))
  ·rename_i C;have f:¬(Builtin.Str.occurrences x y 0 x.length (x.length+1)).isEmpty=br:=C;rw[if_neg f] at b H h;exact Ux (wpAny_mapM_mkStr _ _ _ H (Ux (UO (UR ⟨_,rfl,h _ _ (jm _ _)⟩) (by rw[jn];exact b))))
end Ev
namespace Ev
open PySem
def tM{j c:Type}{f:c->j->c}{g:j->c->Id (ForInStep c)}(h:∀a b,g a b=pure (ForInStep.yield (f b a))):∀ (l:List j) (b:c),(forIn l b g:Id c)=pure (l.foldl f b)
 |[],b=>rfl
 |a::l,b=>by
  rw[Xq,h a b];exact tM h l (f b a)
abbrev tN(x:Str)(c n:Nat)(s:Array Nat × Nat)(i:Nat):Array Nat × Nat:=
 if (decide (s.1.size < n+1) && decide (s.2<=i) && decide (i+1<=n) && Builtin.Str.subAt x ⟨#[c]⟩ i)=br then (s.1.push i,i+1) else s
def CY(x:Str)(c n:Nat):Builtin.Str.occurrences x ⟨#[c]⟩ 0 n (n+1)=((Zl (n+1)).foldl (tN x c n) (#[],0)).1.toList:=by
 unfold Builtin.Str.occurrences;simp only[Std.Legacy.Range.forIn_eq_forIn_range',Std.Legacy.Range.size];rw[show(n+1 - 0+1 - 1) / 1=n+1 by simp,<-List.range_eq_range'];rw[tM (f:=tN x c n) (λi s=>?_)]
 ·rfl
 ·unfold tN;show(if (decide (s.1.size < n+1) && decide (s.2<=i) && decide (i+1<=n) && Builtin.Str.subAt x ⟨#[c]⟩ i)=br then _ else _:Id _)=_;split
  ·rfl
  ·rfl
def yj(x:Str)(c i:Nat):Builtin.Str.subAt x ⟨#[c]⟩ i=br ↔ x.cps[i]?=aD c:=by
 unfold Builtin.Str.subAt;show(x.cps.extract i (i+1) == #[c])=br ↔ _;rw[beq_iff_eq];constructor
 ·intro h;have H:=congrArg (λa:Array Nat=>a[0]?) h;have b:=congrArg Array.size h;rw[Array.size_extract] at b;have:i < x.cps.size:=by simp at b;omega
  simp only[Array.getElem?_extract] at H;have H:x.cps[i]?=aD c:=by simp at H;exact H.2
  exact H
 ·intro h;obtain⟨j,e⟩:=YK.mp h;refine Array.ext (by simp;omega) λk g f=>?_;simp at f;subst f;simp[e]
abbrev oj(l:List Nat)(c k:Nat):List Nat:=(Zl k).filter λi=>decide (l[i]?=aD c)
def yk(x:Str)(c:Nat):∀k,k<=x.length+1->((Zl k).foldl (tN x c x.length) (#[],0)).1.toList=oj x.cps.toList c k/\((Zl k).foldl (tN x c x.length) (#[],0)).2<=k/\((Zl k).foldl (tN x c x.length) (#[],0)).1.size<=k
 |0,_=>⟨rfl,Zc _,Zc _⟩
 |k+1,h=>by
  obtain⟨H,b,g⟩:=yk x c k (by omega);rw[Yc,Y9,YO,List.foldl_nil];unfold oj at H ⊢;rw[Yc,YR];generalize (Zl k).foldl (tN x c x.length) (#[],0)=s at *;unfold tN;have u:x.length=x.cps.size:=rfl;split
  ·rename_i q;simp only[bAE,decide_eq_true_eq] at q;obtain⟨⟨⟨f,j⟩,o⟩,Q⟩:=q;have:=(yj x c k).mp Q;refine⟨?_,Zc _,by simp;omega⟩;have e:x.cps.toList[k]?=aD c:=by rw[YE];exact this
   rw[Array.toList_push,H];simp[e,<-YE]
  ·rename_i q;refine⟨?_,by omega,by omega⟩
   have e:x.cps[k]? ≠ aD c:=by
    intro e;have p:=(YK.mp e).1;apply q;simp only[bAE,decide_eq_true_eq];exact⟨⟨⟨by omega,b⟩,by omega⟩,(yj x c k).mpr e⟩
   simp[H,e]
def Gr(x:Str)(c:Nat):Builtin.Str.occurrences x ⟨#[c]⟩ 0 x.length (x.length+1)=oj x.cps.toList c x.length:=by
 rw[CY,(yk x c _ (Zc _)).1];unfold oj;rw[Yc,YR];have:x.cps[x.length]?=aT:=Xp (Zc _);simp[this]
abbrev spl(c:Nat):List Nat->List (List Nat)
 |[]=>[[]]
 |a::l=>if a=c then []::spl c l else match spl c l with
  |[]=>[[a]]
  |p::ps=>(a::p)::ps
abbrev vV(l:List Nat)(a:Nat)(c:List Nat):List (List Nat):=((a::c.map (·+1)).zip (c++[l.length])).map λp=>(l.drop p.1).take (p.2 - p.1)
def jo(l:List Nat)(a:Nat):vV l a []=[(l.drop a).take (l.length - a)]:=rfl
def eW(l:List Nat)(a i:Nat)(cs:List Nat):vV l a (i::cs)=(l.drop a).take (i - a)::vV l (i+1) cs:=rfl
def Ai(a:Nat)(l:List Nat)(c:Nat):oj (a::l) c (l.length+1)=(if a=c then [0] else [])++(oj l c l.length).map (·+1):=by
 unfold oj;rw[Xn,YY,List.filter_map]
 have e:(λi=>decide ((a::l)[i]?=aD c)) ∘ Nat.succ=λi=>decide (l[i]?=aD c):=by
  funext i
  simp
 rw[e];by_cases h:a=c
 ·simp[h]
 ·simp[h]
def mQ(a:Nat)(l:List Nat):∀ (c:List Nat) (k:Nat),vV (a::l) (k+1) (c.map (·+1))=vV l k c
 |[],k=>by
  simp only[ZV,jo,YM,ZB];rw[Xs]
 |i::c,k=>by
  rw[Zs,eW,eW,mQ a l c (i+1),YM,Xs]
def tO(c:Nat):∀l:List Nat,vV l 0 (oj l c l.length)=spl c l
 |[]=>rfl
 |a::l=>by
  have I:=tO c l;rw[ZB,Ai];unfold spl;by_cases h:a=c
  ·rw[if_pos h,if_pos h,Xu,eW,mQ a l _ 0,I];rfl
  ·rw[if_neg h,if_neg h,Y0,<-I];cases H:oj l c l.length with
   |nil=>
    simp[jo]
   |cons i C=>
    rw[Zs,eW,eW,mQ a l C (i+1)];simp
def Aj{x:Str}{c:Nat}(hc:c < 256):(Txt.split x ⟨#[c]⟩).map (λz=>z.cps.toList)=spl c x.cps.toList:=by
 have b:Builtin.Str.strKind ⟨#[c]⟩=1:=by unfold Builtin.Str.strKind;rw[if_pos];simpa using hc
 have f:1<=Builtin.Str.strKind x:=by
  unfold Builtin.Str.strKind;split
  ·decide
  ·split <;> decide
 have h:x.length=x.cps.toList.length:=by simp[Str.length]
 unfold Txt.split;rw[Gr,b];rw[<-tO,<-h];split
 ·rename_i q
  have H:x.length=0:=by
   simp only[YC,decide_eq_true_eq] at q;have:Str.length ⟨#[c]⟩=1:=rfl;omega
  rw[H];have e:x.cps.toList=[]:=Yp.mp (by omega);simp[e,oj,jo]
 ·split
  ·rename_i q;rw[List.isEmpty_iff.mp q,jo,YJ,Wp,Z8];rfl
  ·unfold Builtin.Str.partsBetween vV;rw[Yd,<-h];refine YL λp g=>?_;obtain⟨i,j⟩:=p;show(Builtin.Str.strSub x i j).cps.toList=_;unfold Builtin.Str.strSub;simp[Array.toList_extract,List.extract]
def o0{c:Nat}:∀ {p:List Nat},c ∉ p->spl c p=[p]
 |[],_=>rfl
 |a::p,h=>by
  have n:¬a=c:=λe=>h (by rw[e];exact Zd);rw[spl,if_neg n,o0 λq=>h (Zf _ q)]
def ym{c:Nat}{l:List Nat}:∀ {p:List Nat},c ∉ p->spl c (p++c::l)=p::spl c l
 |[],_=>by show spl c (c::l)=_;rw[spl,if_pos rfl]
 |a::p,h=>by
  have n:¬a=c:=λe=>h (by rw[e];exact Zd);rw[Yv,spl,if_neg n,ym λq=>h (Zf _ q)]
abbrev glu(c:Nat):List (List Nat)->List Nat
 |[]=>[]
 |[p]=>p
 |p::q::ps=>p++c::glu c (q::ps)
def yn{c:Nat}:∀ {ps:List (List Nat)},ps ≠ []->(∀p ∈ ps,c ∉ p)->spl c (glu c ps)=ps
 |[],h,_=>absurd rfl h
 |[p],_,h=>o0 (h p Zd)
 |p::q::ps,_,h=>by
  rw[glu,ym (h p Zd),yn (Xh _ _) λr H=>h r (Zf _ H)]
end Ev
namespace Ev
open PySem PySem.W PyProof.Rows L2
variable {X:Cx} {K:Vh} {m:List Addr} {H:Hp} {S:Sto}
abbrev gi(d:D)(as:List D)(S:Sto):Option (D × Sto):=match d,as with
 |.str x,[.str y]=>if (y.length == 0)=bx/\x.length<=9000/\(Txt.split x y).length<=9000/\(Txt.split x y).all (λz=>decide (z.length<=9000))=br then aD (.ref S.length,S++[.lst ((Txt.split x y).map D.str)]) else aT
 |_,_=>aT
def o3:∀ {u:List Value} {ys:List Str},StrsAre u ys->aK (ys.map V.str) u
 |_,_,.nil=>.nil
 |_,_,.cons x t h=>.cons ⟨t,rfl⟩ (o3 h)
def tP:∀ {ys:List Str},VDs K m H (ys.map D.str) (ys.map V.str)
 |[]=>by rw[ZV,VDs];rfl
 |y::ys=>by rw[Zs,VDs];exact⟨.str y,ys.map V.str,rfl,dB,tP⟩
def Ak:MtR X "str.split" (rM X.K gi):=by
 intro p s σ H x xs v us Q I U rs h;obtain⟨m,S,a,as,d,S',R,j,T,e,q⟩:=h;unfold gi at e;split at e
 ·rename_i O Y;split at e
  ·rename_i c;obtain⟨C,hx,g,J⟩:=c;cases e;have ex:=j.strs;subst ex;obtain⟨t,rfl⟩:=U;obtain⟨y,rfl,M⟩:=Cp T;have Z:=M.strs;subst Z;obtain⟨u,rfl,L⟩:=cQ rs;obtain⟨t',rfl⟩:=L;have big:∀ {n:Nat},n<=9000->n<=sizeLine:=λ{n} h=>by rw[Ug];omega
   refine tL C (by rw[Ug];omega) (big g) (λz E=>big (of_decide_eq_true (Ze.mp J z E))) λf k sa=>?_;have B:=o3 sa;refine⟨.ref s.heap.objs.size,_,I.laid (t':=k) (o:=.lst ((Txt.split O Y).map V.str)) (λb o z=>Zj _ z) (Zc _) ⟨by rw[Za];exact big g,f,0,B,ZI _ rfl⟩,rfl,je R tP q _ (I.hok.fresh (Zc _))⟩
  ·cases e
 ·cases e
end Ev
namespace Ev
open PySem PyProof.Rows L2
variable {X:Cx}
abbrev vW(d:D)(S:Sto):Option (D × Sto):=match d with
 |.str x=>if x.length<=640 then (intText? x).map λn=>(.int n,S) else aT
 |_=>aT
def Al:aZ X (.type "int") (r1 (rS1 X.K vW)):=by
 intro p s o H xs U Q I r h;obtain⟨x,rfl,m,S,a,d,j,R,v,e,q⟩:=cV h;unfold vW at e;split at e
 ·rename_i f;split at e
  ·rename_i g;cases b:intText? f with
   |none=>rw[b] at e;cases e
   |some n=>
    rw[b] at e;cases e;obtain⟨u,rfl,c⟩:=cQ r;rw[v.strs] at c;obtain⟨t,rfl⟩:=c;exact PySem.W.KIN.call_text b g ⟨.int n,H,I.tok _,⟨_,rfl⟩,q m H _ (Aft.refl R) bI⟩
  ·cases e
 ·cases e
end Ev
namespace HT
open PySem PySem.Spec PyProof.Rows
section
variable {prog:Program} {w:World} {A:Around} {E:Value->Shared->Prop} {s:Shared}
def jX{sl:Addr}{n:Nat}{T:Tok}{Q:Int × Int × Nat->Shared->Prop}(hs:s.heap.IsSliceOf sl .none .none (.int (-1) T))
  (h:Q ((n:Int) - 1,-1,n) s):wpAny (model prog w) A (Builtin.Slice.sliceApplied (.ref sl) (pure (n:Int))) Q E s:=by
 obtain⟨os,b,g,H⟩:=id hs;unfold Builtin.Slice.sliceApplied Builtin.Slice.sliceFields;refine Ux (Ux (UE b H (x:=.none) rfl (Ux (UE b H (x:=.none) rfl (Ux (UE b H (x:=.int (-1) T) rfl (UR ?_)))))));refine Ux (slicePart_int ?_);show wpAny _ _ (if ((-1:Int) == 0)=br then _ else _) _ _ s;rw[if_neg (by decide)];refine Ux (slicePart_none (Ux (slicePart_none (Ux (UR ?_)))));show wpAny _ _ (match Builtin.Slice.sliceAdjust aT aT (-1) (n:Int) with |(lo,hi)=>pure (lo,(-1:Int),Builtin.Slice.slicePlaces lo hi (-1))) _ _ s
 have j:Builtin.Slice.sliceAdjust aT aT (-1) (n:Int)=((n:Int) - 1,-1):=by
  unfold Builtin.Slice.sliceAdjust;simp
 rw[j];show wpAny _ _ (pure ((n:Int) - 1,(-1:Int),Builtin.Slice.slicePlaces ((n:Int) - 1) (-1) (-1))) _ _ s
 have f:Builtin.Slice.slicePlaces ((n:Int) - 1) (-1) (-1)=n:=by
  unfold Builtin.Slice.slicePlaces;have c:¬ ((-1:Int) > 0):=by decide
  simp only[c,if_false,show(- -1:Int)=1 from rfl,Wo];split <;> omega
 rw[f];exact UR h
def CZ(xs:Array Value):((Zl xs.size).filterMap λ(m:Nat)=>xs[((xs.size:Int) - 1+(m:Int) * -1).toNat]?).toArray=xs.toList.reverse.toArray:=by
 have e:(Zl xs.size).filterMap (λ(m:Nat)=>xs[((xs.size:Int) - 1+(m:Int) * -1).toNat]?)=((Zl xs.size).map λk=>xs.size - 1 - k).filterMap (xs[·]?):=by
  rw[XM]
  congr 1
  funext m
  show xs[((xs.size:Int) - 1+(m:Int) * -1).toNat]?=xs[xs.size - 1 - m]?
  congr 1
  omega
 rw[e,PySem.W.krv_range,List.filterMap_reverse,PySem.W.krv_all]
def jp{t sl:Addr}{I:Array Value}{T:Tok}{Q:Value->Shared->Prop}(b:IsTup s.heap t I)(hs:s.heap.IsSliceOf sl .none .none (.int (-1) T))
  (h:Q (.ref s.heap.objs.size) { s with heap:=s.heap.push { cls:=.type "tuple", data:=.seq I.toList.reverse.toArray } })
  (c:I.size<=sizeLine):wpAny (model prog w) A (getItem (.ref t) (.ref sl)) Q E s:=by
 have H:sizeOk (.seq I.toList.reverse.toArray):=by
  show I.toList.reverse.toArray.size<=sizeLine;rw[Zk,Y5,Z1];exact c
 obtain⟨os,j,g,o⟩:=id hs;have f:s.TypeIs (.ref sl) "slice" := ⟨os,j,g⟩;unfold getItem
 try with_reducible refine UG ?_
 first |refine Ux (UR ?_) |skip
 refine Ux (UY b.typeIs (by decide) ?_)
 refine Ux (wpAny_callSpecial?_slot (name:=Str.ofString "__getitem__") b.typeIs WC
  (Uz WC b.typeIs entry_tuple_getitem ?_ (args_tuple_getitem _ _)))
 show wpAny _ _ (Builtin.Tuple.tupleItemsOf (.ref t) >>= _) _ _ s;refine Ux (tupleItemsOf_ b ?_);refine Ux (U1 f ?_);rw[if_pos (by decide)];refine Ux (jX hs ?_);show wpAny _ _ (if (((I.size:Int) - 1) == 0 && (-1:Int) == 1 && I.size == I.size)=br then _ else _) _ _ s;rw[if_neg (by rw[show((-1:Int) == 1)=bx from rfl,ZP,ZL];exact Zg),CZ]
 first
  |exact Ux (m:=Builtin.Tuple.tupleExact _) (UP (UR ⟨_,rfl,UR h⟩) H)
  |exact Ux (m:=Builtin.Tuple.tupleExact _) (UP (Ux (UR (UR ⟨_,rfl,UR h⟩))) H)
  |exact Ux (Ux (m:=Builtin.Tuple.tupleExact _) (UP (UR (UR ⟨_,rfl,UR h⟩)) H))
  |exact Ux (Ux (m:=Builtin.Tuple.tupleExact _) (UP (UR ⟨_,rfl,UR h⟩) H))
end
end HT
namespace Ev
open PySem PySem.Spec PyProof.Rows L2
section
variable {X:Cx} {e:Expr} {te:TE} {pos p2 p3 p4:Pos}
def aK.rev:∀ {xs:List V} {u:List Value},aK xs u->aK xs.reverse u.reverse
 |[],_,.nil=>.nil
 |_::_,_,.cons r t=>by rw[YH,YH];exact(aK.rev t).append (.cons r .nil)
def VDs.rev{K:Vh}:∀ {ds:List D} {v:List V},VDs K m H ds v->VDs K m H ds.reverse v.reverse
 |[],v,h=>by rw[VDs] at h;subst h;exact .nil
 |d::ds,v,h=>by
  rw[VDs] at h;obtain⟨y,r,rfl,p,q⟩:=h;rw[YH,YH];exact(VDs.rev q).append (.cons p .nil)
abbrev C0(d:D)(S:Sto):Option (D × Sto):=match d with
 |.tup b=>aD (.tup b.reverse,S)
 | .ref n=>(match aA S n with
  |some b=>aD (.ref S.length,S++[.lst b.reverse])
  | none=>aT)
 |_=>aT
def LZ{k:Nat}(he:PE X e te):PE X (.Subscript e (.Slice aT aT (aD (.UnaryOp .USub (.Constant (.int 1) k p3) p4)) p2) pos) (tUn (rS1 X.K C0) te):=by
 intro f s O H Q I h;refine Subscript_ (thn (he f s O H _ I h) λv s1 ⟨x,Y,I1,r1,q1⟩=>?_);refine wpAny_Slice ?_;rw[VZ];refine UR (UR ?_);refine thn (xF (Jm Bs lI) f s1 O Y (λo J=>o=aD (-1)/\J=Y) I1 ⟨_,rfl,_,rfl,rfl,rfl⟩) λvk C ⟨o,J,I2,pk,ho,hH⟩=>?_;subst ho hH;cases pk with
 |int i T=>
  have u:L2.Inv X f O J { C with heap:=C.heap.push { cls:=.type "slice", data:=.fields #[.none,.none,.int (-1) T] } }:=I2.kept (t':=C.toks) λb ob q=>Zj _ q;obtain⟨m,S,a,d,S',R,U,E,q⟩:=q1;cases a with
  |tup ds=>
   cases E;obtain⟨p,z,rfl,M,g⟩:=U.tups;cases r1;obtain⟨j,r,Z,y⟩:=u.tuple (.of M);have c:j.toArray.size=z.length:=by rw[Zk];exact r.length.symm
   refine tail_any (ops:=[.ref p,.ref C.heap.objs.size]) Z.typeIs PyProof.Rows.slot_tuple_getitem.lookup (HT.jp Z (Heap.IsSliceOf.new ..) ?_ (by rw[c];exact y)) (by with_unfolding_all rfl);refine⟨.ref _,_,u.laid (o:=.tup z.reverse) (λb ob q=>Zj _ q) (Zc _) ?_,rfl,jd R (VDs.rev g) q _ (u.hok.fresh (Zc _))⟩;exact⟨by rw[Y5];exact y,_,aK.rev r,pV.new _ _⟩
  |ref n=>
   simp only[C0] at E;cases L:aA S n with
   |none=>rw[L] at E;cases E
   |some ds=>
    rw[L] at E;cases E;obtain⟨p,z,hp,M,g⟩:=R.seq L;obtain⟨p',B,rfl⟩:=U.refs;rw[hp] at B;cases B;cases r1;obtain⟨j,r,pl,y⟩:=u.list M;have c:j.toArray.size=z.length:=by rw[Zk];exact r.length.symm
    refine tail_any (ops:=[.ref p,.ref C.heap.objs.size]) pl.isList.typeIs PySem.slot_list_getitem.lookup (UF pl.isList (Heap.IsSliceOf.new ..) .none .none (.int (-1) T) (by decide) ?_ (by rw[c];exact y)) (by with_unfolding_all rfl);rw[PySem.W.krv_pick];refine⟨.ref _,_,u.laid (o:=.lst z.reverse) (λb ob q=>Zj _ q) (Zc _) ?_,rfl,je R (VDs.rev g) q _ (u.hok.fresh (Zc _))⟩;exact⟨by rw[Y5];exact y,_,0,aK.rev r,ZI _ rfl⟩
  |_=>cases E
end
mutual
inductive CE where |non |bl (b:Bool) |int (i:Int) |str (x:Str) |var (i:Nat) |con (k:Nat)(v:Int) |txc (k:Nat)(x:Str) |tup (es:List CE) |lst (es:List CE) |dic0 |dic1 (i j:Int) |bin (o:BOp)(a b:CE) |neg (a:CE) |cmp (o:COp)(a b:CE) |chn (o p:COp)(a b c:CE) |and (a b:CE) |or (a b:CE) |not (a:CE) |ite (c a b:CE) |ix (a b:CE) |sl (a:CE)(lo hi:Option CE) |call (f:Nat)(es:List CE) |inst (t:Ty)(a:CE) |len (a:CE) |all (a:CE) |tupOf (a:CE) |listOf (a:CE) |listR (a:CE) |srt (a:CE) |strI (a:CE) |lenS (a:CE) |intX (a:CE) |rev (a:CE) |mx (a b:CE) |mn (a b:CE) |rep (a:CE) |comp (own:List Str)(elt:CE)(cls:List Cl) |app (o e:CE) |popAt (o e:CE) |cnt (o e:CE) |join (o e:CE) |spl (o e:CE)
inductive CI where
 |val (a:CE) |r1 (a:CE) |r2 (a b:CE) |en (a:CE) |chr (a:CE) |wds (k:Nat) (ws:List Str)
inductive Cl where
 |mk (tg:Tg) (it:CI) (cond:Option CE)
end
abbrev ak:CE->Bool
 |.lst _=>br |.comp _ _ _=>br |.listOf _=>br |.listR _=>br |.srt _=>br
 |_=>bx
abbrev LF:Nat:=1000000
abbrev xNo{b:Type}:Rho->Sto->Option (b × Sto):=λ_ _=>aT
abbrev mR(x:XE):XA:=λc S=>bnd (x c S) λd b=>(am d b).map λr=>(r.2,b)
abbrev eX(T:Bool)(ds:List D):Option (List D):=if T=bx then z9 T ds else aT
abbrev Am(f:Bool->List D->Option (List D))(x:XA):XA:=λb S=>bnd (x b S) λg c=>(f bx g).map λE=>(E,c)
abbrev An(f:Bool->List D->Option (List D))(x:XE):XA:=λc S=>bnd (x c S) λd b=>match am d b with
 |some r=>(f r.1 r.2).map λE=>(E,b)
 |none=>aT
abbrev om(i:Int):Key:=Sum.inl i
abbrev Ao(x:XE):XA:=λc S=>bnd (x c S) λd b=>match d with
 |.int i=>if 0<=i/\i<=1000 then aD ((Zl i.toNat).map λj=>.int (Int.ofNat j),b) else aT
 |_=>aT
abbrev C1:XE:=λ_ S=>aD (.ref S.length,S++[.dic [] []])
abbrev C2(i j:Int):XE:=λ_ S=>aD (.ref S.length,S++[.dic [om i] [.int j]])
abbrev cnd(t:CE->XT):Option CE->XA->XA
 |some c,x=>CL (t c) x
 |none,x=>x
abbrev opt(t:CE->XE):Option CE->XO
 |some l=>vC (t l)
 |none=>vB
mutual
noncomputable def evE(C:Calls)(g:Nat->Nat):Nat->CE->XE
 |0,_=>xNo
 |n+1,e=>match e with
  |.non=>xC .non
  |.bl b=>xC (.bl b)
  |.int i=>xC (.int i)
  |.str x=>xC (.str x)
  |.var i=>sK i
  |.con _ v=>xC (.int v)
  |.txc _ x=>xC (.str x)
  |.tup es=>kS kT (evA C g n es)
  |.lst es=>eD (oQ (evA C g n es))
  |.dic0=>C1
  |.dic1 i j=>C2 i j
  |.bin o a b=>sJ (bR o) (evE C g n a) (evE C g n b)
  |.neg a=>xUn LS (evE C g n a)
  |.cmp o a b=>sJ (ax o) (evE C g n a) (evE C g n b)
  |.chn o p a b c=>Ah (ax o) (ax p) (evE C g n a) (evE C g n b) (evE C g n c)
  |.and a b=>CO (evE C g n a) (evE C g n b)
  |.or a b=>xOr (evE C g n a) (evE C g n b)
  |.not a=>xUn Ag (evE C g n a)
  |.ite c a b=>LU (evT C g n c) (evE C g n a) (evE C g n b)
  |.ix a b=>if ak a=br then vq (dE C g n a) (evE C g n b) else sJ ixS (evE C g n a) (evE C g n b)
  |.sl a lo hi=>xSl (evE C g n a) (opt (evE C g n) lo) (opt (evE C g n) hi)
  |.call f es=>tK (C f) (g f) (evA C g n es)
  |.inst t a=>xUn (ji t) (evE C g n a)
  |.len a=>if ak a=br then zQ eF (dE C g n a) else zR eF (evE C g n a)
  |.all a=>if ak a=br then zQ n9 (dE C g n a) else zR n9 (evE C g n a)
  |.tupOf a=>if ak a=br then zQ ia (dE C g n a) else zR ia (evE C g n a)
  |.listOf a=>eD (if ak a=br then dE C g n a else mR (evE C g n a))
  |.listR a=>eD (Ao (evE C g n a))
  |.srt a=>eD (if ak a=br then Am eX (dE C g n a) else An eX (evE C g n a))
  |.strI a=>xUn vL (evE C g n a)
  |.lenS a=>xUn mG (evE C g n a)
  |.intX a=>xUn vW (evE C g n a)
  |.rev a=>xUn C0 (evE C g n a)
  |.mx a b=>kS (two Cm) (evA C g n [a,b])
  |.mn a b=>kS (two Cn) (evA C g n [a,b])
  |.rep a=>xUn fQ (evE C g n a)
  | .comp own elt cls=>eD (match cls with
   |[]=>xNo
   | ⟨tg,it,cond⟩::rest=>mP own.length (evI C g n it) tg (cnd (evT C g n) cond (ic C g n elt rest)) LF)
  |.app o a=>vN fP vO (evE C g n o) (evA C g n [a])
  |.popAt o a=>vN fP iE (evE C g n o) (evA C g n [a])
  |.cnt o a=>vN (λd _=>isTup d) vQ (evE C g n o) (evA C g n [a])
  |.join o a=>vN (λd _=>mI d) mL (evE C g n o) (evA C g n [a])
  |.spl o a=>vN (λd _=>mI d) gi (evE C g n o) (evA C g n [a])
noncomputable def evA(C:Calls)(b:Nat->Nat):Nat->List CE->XA
 |0,_=>xNo
 |n+1,es=>match es with
  |[]=>F0
  |e::es=>xZ (evE C b n e) (evA C b n es)
noncomputable def dE(C:Calls)(b:Nat->Nat):Nat->CE->XA
 |0,_=>xNo
 |n+1,e=>match e with
  |.lst es=>oQ (evA C b n es)
  |.listOf a=>if ak a=br then dE C b n a else mR (evE C b n a)
  |.listR a=>Ao (evE C b n a)
  |.srt a=>if ak a=br then Am eX (dE C b n a) else An eX (evE C b n a)
  |.comp own elt cls=>match cls with
   |[]=>xNo
   |⟨tg,it,cond⟩::rest=>mP own.length (evI C b n it) tg (cnd (evT C b n) cond (ic C b n elt rest)) LF
  |_=>xNo
noncomputable def ic(C:Calls)(b:Nat->Nat):Nat->CE->List Cl->XA
 |0,_,_=>xNo
 |n+1,elt,cls=>match cls with
  |[]=>JA (evE C b n elt)
  |⟨tg,it,cond⟩::rest=>jW (evI C b n it) tg (cnd (evT C b n) cond (ic C b n elt rest)) LF
noncomputable def evI(C:Calls)(c:Nat->Nat):Nat->CI->XI
 |0,_=>xNo
 |n+1,it=>match it with
  |.val a=>if ak a=br then xIT (dE C c n a) else xIV (evE C c n a)
  |.chr a=>LC (evE C c n a)
  |.wds _ ws=>LH ws
  |.r1 a=>xR1 (evE C c n a)
  |.r2 a b=>xR2 (evE C c n a) (evE C c n b)
  |.en a=>if ak a=br then xET (dE C c n a) else xEV (evE C c n a)
noncomputable def evT(C:Calls)(f:Nat->Nat):Nat->CE->XT
 |0,_=>xNo
 |n+1,e=>match e with
  |.cmp o a b=>xB (sJ (ax o) (evE C f n a) (evE C f n b))
  |.chn o p a b c=>xB (Ah (ax o) (ax p) (evE C f n a) (evE C f n b) (evE C f n c))
  |.and a b=>CT (evT C f n a) (evT C f n b)
  |.or a b=>LX (evT C f n a) (evT C f n b)
  |.not a=>CU (evT C f n a)
  |.ite _ _ _=>xNo
  |e=>F8 (evE C f n e)
end
structure Tab where
 con:List (Str × CV)
 fns:List (Str × Nat)
structure Blk where
 sc:Scope
 fs:Option Scope
 N:List Str
abbrev Blk.glo(b:Blk)(x:Str):Bool:=b.sc.names.lookup x == aD .globalImplicit && !(x == ("__debug__" : Str))
abbrev Blk.vis(b:Blk)(x:Str):Bool:=(match b.sc.names.lookup x with
 |some .local=>br
 |some .cell=>br
 |some .free=>br
 | _=>bx) && !(x == ("__debug__" : Str)) && !(x == ("__classdict__" : Str))
abbrev Blk.own(b:Blk)(x:Str):Bool:=match b.sc.names.lookup x with
 |some .local=>br
 | some .cell=>(match b.fs with
  |none=>br
  | some sc=>sc.names.lookup x == aD .cell)
 |_=>bx
def bE{P:Prop}[Decidable P]{f:P->Bool}(h:(if p:P then f p else bx)=br):∃p,f p=br:=by
 by_cases p:P
 ·rw[dif_pos p] at h;exact⟨p,h⟩
 ·rw[dif_neg p] at h;cases h
def an2{a b:Bool}(h:(a && b)=br):a=br/\b=br:=by cases a;cases h;exact⟨rfl,h⟩
def an3{a b c:Bool}(h:(a && b && c)=br):a=br/\b=br/\c=br:=⟨(an2 (an2 h).1).1,(an2 (an2 h).1).2,(an2 h).2⟩
def an4{a b c d:Bool}(h:(a && b && c && d)=br):a=br/\b=br/\c=br/\d=br:=⟨(an3 (an2 h).1).1,(an3 (an2 h).1).2.1,(an3 (an2 h).1).2.2,(an2 h).2⟩
def an5{a b c d e:Bool}(h:(a && b && c && d && e)=br):a=br/\b=br/\c=br/\d=br/\e=br:=⟨(an4 (an2 h).1).1,(an4 (an2 h).1).2.1,(an4 (an2 h).1).2.2.1,(an4 (an2 h).1).2.2.2,(an2 h).2⟩
def an6{a b c d e f:Bool}(h:(a && b && c && d && e && f)=br):a=br/\b=br/\c=br/\d=br/\e=br/\f=br:=⟨(an5 (an2 h).1).1,(an5 (an2 h).1).2.1,(an5 (an2 h).1).2.2.1,(an5 (an2 h).1).2.2.2.1,(an5 (an2 h).1).2.2.2.2,(an2 h).2⟩
abbrev l1{b:Type}(l:List b)(k:b->Bool):Bool:=match l with
 |[]=>bx
 |x::t=>t.isEmpty && k x
abbrev lC{b:Type}(l:List b)(k:b->List b->Bool):Bool:=match l with
 |[]=>bx
 |x::t=>k x t
def ci{b:Type}{l:List b}{k:b->List b->Bool}(h:lC l k=br):∃x t,l=x::t/\k x t=br:=by
 cases l with
 |nil=>cases h
 |cons x t=>exact⟨x,t,rfl,h⟩
def cx{b:Type}{l:List b}(h:l.isEmpty=br):l=[]:=by cases l;rfl;cases h
def cM{b:Type}{l:List b}{k:b->Bool}(h:l1 l k=br):∃x,l=[x]/\k x=br:=by
 cases l with
 |nil=>cases h
 |cons x t=>obtain⟨H,c⟩:=an2 h;cases cx H;exact⟨x,rfl,c⟩
abbrev aQ(e:Expr):Bool:=!(e.ctorIdx == 22 || e.ctorIdx == 26 || e.ctorIdx == 7)
abbrev qP(e:Expr)(k:BoolOp->List Expr->Pos->Bool):Bool:=if h:e.ctorIdx=0 then @Expr.BoolOp.elim (λ_=>Bool) e h k else bx
def o4{e:Expr}{k:BoolOp->List Expr->Pos->Bool}(h:qP e k=br):∃X c b,e = .BoolOp X c b/\k X c b=br:=by
 obtain⟨H,h⟩:=bE h;exact Expr.BoolOp.elim (motive_1:=λe=>∀f,@Expr.BoolOp.elim (λ_=>Bool) e f k=br->∃X c b,e = .BoolOp X c b/\k X c b=br) e H (λX c b _ g=>⟨X,c,b,rfl,g⟩) H h
abbrev C3(e:Expr)(k:Expr->W2->Expr->Pos->Bool):Bool:=if h:e.ctorIdx=2 then @Expr.BinOp.elim (λ_=>Bool) e h k else bx
def C4{e:Expr}{k:Expr->W2->Expr->Pos->Bool}(h:C3 e k=br):∃X f c b,e = .BinOp X f c b/\k X f c b=br:=by
 obtain⟨H,h⟩:=bE h;exact Expr.BinOp.elim (motive_1:=λe=>∀g,@Expr.BinOp.elim (λ_=>Bool) e g k=br->∃X f c b,e = .BinOp X f c b/\k X f c b=br) e H (λX f c b _ j=>⟨X,f,c,b,rfl,j⟩) H h
abbrev jq(e:Expr)(k:UnaryOp->Expr->Pos->Bool):Bool:=if h:e.ctorIdx=3 then @Expr.UnaryOp.elim (λ_=>Bool) e h k else bx
def mS{e:Expr}{k:UnaryOp->Expr->Pos->Bool}(h:jq e k=br):∃X c b,e = .UnaryOp X c b/\k X c b=br:=by
 obtain⟨H,h⟩:=bE h;exact Expr.UnaryOp.elim (motive_1:=λe=>∀f,@Expr.UnaryOp.elim (λ_=>Bool) e f k=br->∃X c b,e = .UnaryOp X c b/\k X c b=br) e H (λX c b _ g=>⟨X,c,b,rfl,g⟩) H h
abbrev C5(e:Expr)(k:Expr->Expr->Expr->Pos->Bool):Bool:=if h:e.ctorIdx=5 then @Expr.IfExp.elim (λ_=>Bool) e h k else bx
def C6{e:Expr}{k:Expr->Expr->Expr->Pos->Bool}(h:C5 e k=br):∃X f c b,e = .IfExp X f c b/\k X f c b=br:=by
 obtain⟨H,h⟩:=bE h;exact Expr.IfExp.elim (motive_1:=λe=>∀g,@Expr.IfExp.elim (λ_=>Bool) e g k=br->∃X f c b,e = .IfExp X f c b/\k X f c b=br) e H (λX f c b _ j=>⟨X,f,c,b,rfl,j⟩) H h
abbrev C7(e:Expr)(k:List (Option Expr)->List Expr->Pos->Bool):Bool:=if h:e.ctorIdx=6 then @Expr.Dict.elim (λ_=>Bool) e h k else bx
def yo{e:Expr}{k:List (Option Expr)->List Expr->Pos->Bool}(h:C7 e k=br):∃X c b,e = .Dict X c b/\k X c b=br:=by
 obtain⟨H,h⟩:=bE h;exact Expr.Dict.elim (motive_1:=λe=>∀f,@Expr.Dict.elim (λ_=>Bool) e f k=br->∃X c b,e = .Dict X c b/\k X c b=br) e H (λX c b _ g=>⟨X,c,b,rfl,g⟩) H h
abbrev jY(e:Expr)(k:Expr->List WG->Scope->Pos->Bool):Bool:=if h:e.ctorIdx=8 then @Expr.ListComp.elim (λ_=>Bool) e h k else bx
def kB{e:Expr}{k:Expr->List WG->Scope->Pos->Bool}(h:jY e k=br):∃X f c b,e = .ListComp X f c b/\k X f c b=br:=by
 obtain⟨H,h⟩:=bE h;exact Expr.ListComp.elim (motive_1:=λe=>∀g,@Expr.ListComp.elim (λ_=>Bool) e g k=br->∃X f c b,e = .ListComp X f c b/\k X f c b=br) e H (λX f c b _ j=>⟨X,f,c,b,rfl,j⟩) H h
abbrev o5(e:Expr)(k:Expr->Expr->List WG->Scope->Pos->Bool):Bool:=if h:e.ctorIdx=10 then @Expr.DictComp.elim (λ_=>Bool) e h k else bx
def tQ{e:Expr}{k:Expr->Expr->List WG->Scope->Pos->Bool}(h:o5 e k=br):∃b g f c X,e = .DictComp b g f c X/\k b g f c X=br:=by
 obtain⟨H,h⟩:=bE h;exact Expr.DictComp.elim (motive_1:=λe=>∀o,@Expr.DictComp.elim (λ_=>Bool) e o k=br->∃b g f c X,e = .DictComp b g f c X/\k b g f c X=br) e H (λb g f c X _ j=>⟨b,g,f,c,X,rfl,j⟩) H h
abbrev mU(e:Expr)(k:Expr->List CmpOp->List Expr->Pos->Bool):Bool:=if h:e.ctorIdx=15 then @Expr.Compare.elim (λ_=>Bool) e h k else bx
def mV{e:Expr}{k:Expr->List CmpOp->List Expr->Pos->Bool}(h:mU e k=br):∃X f c b,e = .Compare X f c b/\k X f c b=br:=by
 obtain⟨H,h⟩:=bE h;exact Expr.Compare.elim (motive_1:=λe=>∀g,@Expr.Compare.elim (λ_=>Bool) e g k=br->∃X f c b,e = .Compare X f c b/\k X f c b=br) e H (λX f c b _ j=>⟨X,f,c,b,rfl,j⟩) H h
abbrev yp(e:Expr)(k:Expr->List Expr->List Keyword->Pos->Bool):Bool:=if h:e.ctorIdx=16 then @Expr.Call.elim (λ_=>Bool) e h k else bx
def yq{e:Expr}{k:Expr->List Expr->List Keyword->Pos->Bool}(h:yp e k=br):∃X f c b,e = .Call X f c b/\k X f c b=br:=by
 obtain⟨H,h⟩:=bE h;exact Expr.Call.elim (motive_1:=λe=>∀g,@Expr.Call.elim (λ_=>Bool) e g k=br->∃X f c b,e = .Call X f c b/\k X f c b=br) e H (λX f c b _ j=>⟨X,f,c,b,rfl,j⟩) H h
abbrev dh(e:Expr)(k:Const->Nat->Pos->Bool):Bool:=if h:e.ctorIdx=19 then @Expr.Constant.elim (λ_=>Bool) e h k else bx
def cG{e:Expr}{k:Const->Nat->Pos->Bool}(h:dh e k=br):∃X c b,e = .Constant X c b/\k X c b=br:=by
 obtain⟨H,h⟩:=bE h;exact Expr.Constant.elim (motive_1:=λe=>∀f,@Expr.Constant.elim (λ_=>Bool) e f k=br->∃X c b,e = .Constant X c b/\k X c b=br) e H (λX c b _ g=>⟨X,c,b,rfl,g⟩) H h
abbrev mW(e:Expr)(k:Expr->Str->Pos->Bool):Bool:=if h:e.ctorIdx=20 then @Expr.Attribute.elim (λ_=>Bool) e h k else bx
def qQ{e:Expr}{k:Expr->Str->Pos->Bool}(h:mW e k=br):∃X c b,e = .Attribute X c b/\k X c b=br:=by
 obtain⟨H,h⟩:=bE h;exact Expr.Attribute.elim (motive_1:=λe=>∀f,@Expr.Attribute.elim (λ_=>Bool) e f k=br->∃X c b,e = .Attribute X c b/\k X c b=br) e H (λX c b _ g=>⟨X,c,b,rfl,g⟩) H h
abbrev dF(e:Expr)(k:Expr->Expr->Pos->Bool):Bool:=if h:e.ctorIdx=21 then @Expr.Subscript.elim (λ_=>Bool) e h k else bx
def cX{e:Expr}{k:Expr->Expr->Pos->Bool}(h:dF e k=br):∃X c b,e = .Subscript X c b/\k X c b=br:=by
 obtain⟨H,h⟩:=bE h;exact Expr.Subscript.elim (motive_1:=λe=>∀f,@Expr.Subscript.elim (λ_=>Bool) e f k=br->∃X c b,e = .Subscript X c b/\k X c b=br) e H (λX c b _ g=>⟨X,c,b,rfl,g⟩) H h
abbrev C8(e:Expr)(k:Str->Pos->Bool):Bool:=if h:e.ctorIdx=23 then @Expr.Name.elim (λ_=>Bool) e h k else bx
def yr{e:Expr}{k:Str->Pos->Bool}(h:C8 e k=br):∃X b,e = .Name X b/\k X b=br:=by
 obtain⟨H,h⟩:=bE h;exact Expr.Name.elim (motive_1:=λe=>∀c,@Expr.Name.elim (λ_=>Bool) e c k=br->∃X b,e = .Name X b/\k X b=br) e H (λX b _ f=>⟨X,b,rfl,f⟩) H h
abbrev JD(e:Expr)(k:List Expr->Pos->Bool):Bool:=if h:e.ctorIdx=24 then @Expr.List.elim (λ_=>Bool) e h k else bx
def Gs{e:Expr}{k:List Expr->Pos->Bool}(h:JD e k=br):∃X b,e = .List X b/\k X b=br:=by
 obtain⟨H,h⟩:=bE h;exact Expr.List.elim (motive_1:=λe=>∀c,@Expr.List.elim (λ_=>Bool) e c k=br->∃X b,e = .List X b/\k X b=br) e H (λX b _ f=>⟨X,b,rfl,f⟩) H h
abbrev C9(e:Expr)(k:List Expr->Nat->Pos->Bool):Bool:=if h:e.ctorIdx=25 then @Expr.Tuple.elim (λ_=>Bool) e h k else bx
def Da{e:Expr}{k:List Expr->Nat->Pos->Bool}(h:C9 e k=br):∃X c b,e = .Tuple X c b/\k X c b=br:=by
 obtain⟨H,h⟩:=bE h;exact Expr.Tuple.elim (motive_1:=λe=>∀f,@Expr.Tuple.elim (λ_=>Bool) e f k=br->∃X c b,e = .Tuple X c b/\k X c b=br) e H (λX c b _ g=>⟨X,c,b,rfl,g⟩) H h
abbrev vX(e:Expr)(k:Option Expr->Option Expr->Option Expr->Pos->Bool):Bool:=if h:e.ctorIdx=26 then @Expr.Slice.elim (λ_=>Bool) e h k else bx
def tR{e:Expr}{k:Option Expr->Option Expr->Option Expr->Pos->Bool}(h:vX e k=br):∃X f c b,e = .Slice X f c b/\k X f c b=br:=by
 obtain⟨H,h⟩:=bE h;exact Expr.Slice.elim (motive_1:=λe=>∀g,@Expr.Slice.elim (λ_=>Bool) e g k=br->∃X f c b,e = .Slice X f c b/\k X f c b=br) e H (λX f c b _ j=>⟨X,f,c,b,rfl,j⟩) H h
abbrev vY(e:Expr):Bool:=!(e.ctorIdx == 22 || yp e λf E b _=>f.ctorIdx == 23 && E.isEmpty && b.isEmpty)
abbrev Gu(e:Expr):Bool:=!(e.ctorIdx == 0 || e.ctorIdx == 5 || e.ctorIdx == 15 || jq e λo _ _=>decide (o = .Not))
abbrev jr(own N:List Str):List Nat:=(Zl N.length).filter λi=>match N[i]? with
 |some x=>own.contains x
 |none=>bx
abbrev Blk.inner(b:Blk)(own:List Str)(c:Scope):Blk:=⟨fY c b.sc,aD c,dq (jr own b.N) b.N++own⟩
abbrev qR(e:Expr):Option (Str × Pos):=if h:e.ctorIdx=23 then aD (@Expr.Name.elim (λ_=>Str × Pos) e h λx p=>(x,p)) else aT
abbrev tS(e:Expr):Option (List Expr × Nat × Pos):=if h:e.ctorIdx=25 then aD (@Expr.Tuple.elim (λ_=>List Expr × Nat × Pos) e h λE k p=>(E,k,p)) else aT
def JE{b:Type}{P:Prop}[Decidable P]{f:P->b}{r:b}(h:(if p:P then aD (f p) else aT)=aD r):∃p,f p=r:=by
 by_cases p:P
 ·rw[dif_pos p] at h;cases h;exact⟨p,rfl⟩
 ·rw[dif_neg p] at h;cases h
def fu{e:Expr}{x:Str}{p:Pos}(h:qR e=aD (x,p)):e = .Name x p:=by
 obtain⟨H,h⟩:=JE h;exact Expr.Name.elim (motive_1:=λe=>∀b,Expr.Name.elim (motive_1:=λ_=>Str × Pos) e b (λx p=>(x,p))=(x,p)->e = .Name x p) e H (λ_ _ _ c=>by cases c;rfl) H h
def ly{e:Expr}{E:List Expr}{k:Nat}{p:Pos}(h:tS e=aD (E,k,p)):e = .Tuple E k p:=by
 obtain⟨H,h⟩:=JE h;exact Expr.Tuple.elim (motive_1:=λe=>∀b,Expr.Tuple.elim (motive_1:=λ_=>List Expr × Nat × Pos) e b (λE k p=>(E,k,p))=(E,k,p)->e = .Tuple E k p) e H (λ_ _ _ _ c=>by cases c;rfl) H h
abbrev oA{b:Type}(o:Option b)(k:b->Bool):Bool:=match o with
 |some r=>k r
 |none=>bx
def ig{b:Type}{o:Option b}{k:b->Bool}(h:oA o k=br):∃r,o=aD r/\k r=br:=by
 cases o with
 |none=>cases h
 |some r=>exact⟨r,rfl,h⟩
def Gv{a b:Bool}(h:(a || b)=br):a=br\/b=br:=by cases a;exact .inr h;exact .inl rfl
mutual
noncomputable def tU(b:Blk)(e:Expr):Tg->Bool
 |.name i=>oA (qR e) λr=>b.N[i]? == aD r.1 && b.own r.1
 |.tup ts=>oA (tS e) λr=>mX b r.1 ts
noncomputable def mX(b:Blk)(E:List Expr):List Tg->Bool
 |[]=>E.isEmpty
 |t::ts=>lC E λe E=>tU b e t && aQ e && mX b E ts
end
abbrev Qg(e:Expr):Bool:=dh e λc _ _=>decide (c = .none)
abbrev sBl(v:Bool)(e:Expr):Bool:=dh e λc _ _=>decide (c = .bool v)
abbrev Ap(v:Int)(e:Expr):Bool:=dh e λc _ _=>decide (c = .int v)
abbrev Aq(v:Str)(e:Expr):Bool:=dh e λc _ _=>decide (c = .str v)
abbrev fR(k:Str->Bool)(e:Expr):Bool:=C8 e λx _=>k x
abbrev L0(k:List Expr->Bool)(e:Expr):Bool:=C9 e λE _ _=>k E
abbrev Ar(k:List Expr->Bool)(e:Expr):Bool:=JD e λE _=>k E
abbrev Gw(o:W2)(k l:Expr->Bool)(e:Expr):Bool:=C3 e λx op y _=>decide (op=o) && k x && l y
abbrev L1(k:Expr->Bool)(e:Expr):Bool:=jq e λo x _=>decide (o = .USub) && k x
abbrev Gx(k:Expr->Bool)(e:Expr):Bool:=jq e λo x _=>decide (o = .Not) && k x
abbrev Gy(o:CmpOp)(k l:Expr->Bool)(e:Expr):Bool:=mU e λx os Y _=>l1 os λop=>l1 Y λy=>decide (op=o) && k x && l y && aQ y
abbrev L3(o p:CmpOp)(k l m:Expr->Bool)(e:Expr):Bool:=mU e λx os Y _=>lC os λop os=>l1 os λO=>lC Y λy Y=>l1 Y λz=>decide (op=o) && decide (O=p) && k x && l y && m z && aQ z
abbrev As(o:BoolOp)(k l:Expr->Bool)(e:Expr):Bool:=qP e λop v _=>lC v λx v=>l1 v λy=>decide (op=o) && k x && l y
abbrev Db(o:BoolOp)(k l:Expr->Bool)(e:Expr):Bool:=qP e λop v p=>lC v λx v=>lC v λy v=>lC v λz Y=>decide (op=o) && k x && l (.BoolOp o (y::z::Y) p)
abbrev Qh(k l m:Expr->Bool)(e:Expr):Bool:=C5 e λx y z _=>k x && l y && m z
abbrev sIx(k l:Expr->Bool)(e:Expr):Bool:=dF e λx y _=>k x && l y && aQ y
abbrev sSl(k:Expr->Bool)(l m:Option Expr->Bool)(e:Expr):Bool:=dF e λx s _=>vX s λy z w _=>w.isNone && k x && l y && m z
abbrev Qj(k:Expr->Bool)(e:Expr):Bool:=dF e λx s _=>vX s λy z w _=>y.isNone && z.isNone && k x && oA w λe=>L1 (Ap 1) e
abbrev sCN(e:Expr)(k:Str->List Expr->List Keyword->Bool):Bool:=yp e λf E b _=>C8 f λx _=>k x E b
abbrev Dc(k:Str->Bool)(l:List Expr->Bool)(e:Expr):Bool:=sCN e λx E b=>lC E λe E=>b.isEmpty && k x && l (e::E)
abbrev vZ(b:Blk)(f:Str)(k:List Expr->Bool)(e:Expr):Bool:=sCN e λx E c=>lC E λe E=>c.isEmpty && x == f && b.glo x && k (e::E)
abbrev cj(b:Blk)(f:Str)(k:Expr->Bool)(e:Expr):Bool:=sCN e λx E c=>l1 E λe=>c.isEmpty && x == f && b.glo x && k e && aQ e
abbrev qS(b:Blk)(f:Str)(k l:Expr->Bool)(e:Expr):Bool:=sCN e λx E g=>lC E λe E=>l1 E λc=>g.isEmpty && (x == f && b.glo x && k e && aQ e && l c && aQ c)
abbrev v0(m:Str)(k:Expr->Bool)(l:List Expr->Bool)(e:Expr):Bool:=yp e λf E b p=>mW f λx M c=>b.isEmpty && M == m && vY x && (c.endLine == p.line) && k x && l E
abbrev JF(k:Expr->Expr->Expr->List Expr->List WG->Scope->Bool)(e:Expr):Bool:=jY e λe gs b _=>lC gs λg gs=>decide (g.is_async=0) && k e g.target g.iter g.ifs gs b
abbrev JG(e:Expr):Bool:=C7 e λb v _=>b.isEmpty && v.isEmpty
abbrev JH(k l:Expr->Bool)(e:Expr):Bool:=C7 e λb v _=>l1 b λx=>l1 v λy=>match x with
 |some x=>k x && l y
 |none=>bx
def ec{x y:Str}(h:(x == y)=br):x=y:=eq_of_beq h
section
variable {e:Expr} {k l m:Expr->Bool}
def L4(h:Qg e=br):∃a p,e = .Constant .none a p:=by
 obtain⟨c,a,p,rfl,h⟩:=cG h;cases of_decide_eq_true h;exact⟨a,p,rfl⟩
def Dd{v:Bool}(h:sBl v e=br):∃a p,e = .Constant (.bool v) a p:=by
 obtain⟨c,a,p,rfl,h⟩:=cG h;cases of_decide_eq_true h;exact⟨a,p,rfl⟩
def mY{v:Int}(h:Ap v e=br):∃a p,e = .Constant (.int v) a p:=by
 obtain⟨c,a,p,rfl,h⟩:=cG h;cases of_decide_eq_true h;exact⟨a,p,rfl⟩
def v5{v:Str}(h:Aq v e=br):∃a p,e = .Constant (.str v) a p:=by
 obtain⟨c,a,p,rfl,h⟩:=cG h;cases of_decide_eq_true h;exact⟨a,p,rfl⟩
def bX{k:Str->Bool}(h:fR k e=br):∃x p,e = .Name x p/\k x=br:=yr h
def De{k:List Expr->Bool}(h:L0 k e=br):∃x a p,e = .Tuple x a p/\k x=br:=Da h
def mZ{k:List Expr->Bool}(h:Ar k e=br):∃x p,e = .List x p/\k x=br:=Gs h
def v7{o:W2}(h:Gw o k l e=br):∃x y p,e = .BinOp x o y p/\k x=br/\l y=br:=by
 obtain⟨x,op,y,p,rfl,h⟩:=C4 h;obtain⟨H,z⟩:=an3 h;cases of_decide_eq_true H;exact⟨x,y,p,rfl,z⟩
def Df(h:L1 k e=br):∃x p,e = .UnaryOp .USub x p/\k x=br:=by
 obtain⟨op,x,p,rfl,h⟩:=mS h;obtain⟨H,z⟩:=an2 h;cases of_decide_eq_true H;exact⟨x,p,rfl,z⟩
def v8(h:Gx k e=br):∃x p,e = .UnaryOp .Not x p/\k x=br:=by
 obtain⟨op,x,p,rfl,h⟩:=mS h;obtain⟨H,z⟩:=an2 h;cases of_decide_eq_true H;exact⟨x,p,rfl,z⟩
def v9{o:CmpOp}(h:Gy o k l e=br):∃x y p,e = .Compare x [o] [y] p/\k x=br/\l y=br/\aQ y=br:=by
 obtain⟨x,os,Y,p,rfl,h⟩:=mV h;obtain⟨op,rfl,h⟩:=cM h;obtain⟨y,rfl,h⟩:=cM h;obtain⟨H,z⟩:=an4 h;cases of_decide_eq_true H;exact⟨x,y,p,rfl,z⟩
def Dg{o p:CmpOp}(h:L3 o p k l m e=br):∃x y z q,e = .Compare x [o,p] [y,z] q/\k x=br/\l y=br/\m z=br/\aQ z=br:=by
 obtain⟨x,os,Y,q,rfl,h⟩:=mV h;obtain⟨op,os,rfl,h⟩:=ci h;obtain⟨O,rfl,h⟩:=cM h;obtain⟨y,Y,rfl,h⟩:=ci h;obtain⟨z,rfl,h⟩:=cM h;obtain⟨H,b,Z⟩:=an6 h;cases of_decide_eq_true H;cases of_decide_eq_true b;exact⟨x,y,z,q,rfl,Z⟩
def m6{o:BoolOp}(h:As o k l e=br):∃x y p,e = .BoolOp o [x,y] p/\k x=br/\l y=br:=by
 obtain⟨op,v,p,rfl,h⟩:=o4 h;obtain⟨x,v,rfl,h⟩:=ci h;obtain⟨y,rfl,h⟩:=cM h;obtain⟨H,z⟩:=an3 h;cases of_decide_eq_true H;exact⟨x,y,p,rfl,z⟩
def qT{o:BoolOp}(h:Db o k l e=br):∃x y z ys p,e = .BoolOp o (x::y::z::ys) p/\k x=br/\l (.BoolOp o (y::z::ys) p)=br:=by
 obtain⟨op,v,p,rfl,h⟩:=o4 h;obtain⟨x,v,rfl,h⟩:=ci h;obtain⟨y,v,rfl,h⟩:=ci h;obtain⟨z,v,rfl,h⟩:=ci h;obtain⟨H,Z⟩:=an3 h;cases of_decide_eq_true H;exact⟨x,y,z,v,p,rfl,Z⟩
def L5(h:Qh k l m e=br):∃x y z p,e = .IfExp x y z p/\k x=br/\l y=br/\m z=br:=by
 obtain⟨x,y,z,p,rfl,h⟩:=C6 h;exact⟨x,y,z,p,rfl,an3 h⟩
def JI(h:sIx k l e=br):∃x y p,e = .Subscript x y p/\k x=br/\l y=br/\aQ y=br:=by
 obtain⟨x,y,p,rfl,h⟩:=cX h;exact⟨x,y,p,rfl,an3 h⟩
def Qk{l m:Option Expr->Bool}(h:sSl k l m e=br):∃x y z p q,e = .Subscript x (.Slice y z aT p) q/\k x=br/\l y=br/\m z=br:=by
 obtain⟨x,s,q,rfl,h⟩:=cX h;obtain⟨y,z,w,p,rfl,h⟩:=tR h;obtain⟨H,Z⟩:=an4 h;cases w;exact⟨x,y,z,p,q,rfl,Z⟩;cases H
def L6(h:Qj k e=br):∃x n p g b c,e = .Subscript x (.Slice aT aT (aD (.UnaryOp .USub (.Constant (.int 1) n b) c)) g) p/\k x=br:=by
 obtain⟨x,s,q,rfl,h⟩:=cX h;obtain⟨y,z,w,p,rfl,h⟩:=tR h;obtain⟨j,B,o,H⟩:=an4 h;obtain⟨u,rfl,H⟩:=ig H;obtain⟨v,c,rfl,f⟩:=Df H;obtain⟨n,b,rfl⟩:=mY f;cases y <;> cases z <;> first |exact⟨x,n,q,p,b,c,rfl,o⟩ |(cases j;done) |(cases B;done)
def o6{k:Str->List Expr->List Keyword->Bool}(h:sCN e k=br):∃x p E b q,e = .Call (.Name x p) E b q/\k x E b=br:=by
 obtain⟨f,E,b,q,rfl,h⟩:=yq h;obtain⟨x,p,rfl,h⟩:=yr h;exact⟨x,p,E,b,q,rfl,h⟩
def qU{k:Str->Bool}{l:List Expr->Bool}(h:Dc k l e=br):∃x X E p q,e = .Call (.Name x p) (X::E) [] q/\k x=br/\l (X::E)=br:=by
 obtain⟨x,p,E,b,q,rfl,h⟩:=o6 h;obtain⟨X,E,rfl,h⟩:=ci h;obtain⟨H,z⟩:=an3 h;cases cx H;exact⟨x,X,E,p,q,rfl,z⟩
def tV{b:Blk}{f:Str}{k:List Expr->Bool}(h:vZ b f k e=br):∃x E p q,e = .Call (.Name f p) (x::E) [] q/\b.glo f=br/\k (x::E)=br:=by
 obtain⟨x,p,E,g,q,rfl,h⟩:=o6 h;obtain⟨X,E,rfl,h⟩:=ci h;obtain⟨H,c,z⟩:=an4 h;cases cx H;cases ec c;exact⟨X,E,p,q,rfl,z⟩
def bj{b:Blk}{f:Str}(h:cj b f k e=br):∃x p q,e = .Call (.Name f p) [x] [] q/\b.glo f=br/\k x=br/\aQ x=br:=by
 obtain⟨x,p,E,g,q,rfl,h⟩:=o6 h;obtain⟨X,rfl,h⟩:=cM h;obtain⟨H,c,z⟩:=an5 h;cases cx H;cases ec c;exact⟨X,p,q,rfl,z⟩
def eY{b:Blk}{f:Str}(h:qS b f k l e=br):∃x y p q,e = .Call (.Name f p) [x,y] [] q/\b.glo f=br/\k x=br/\aQ x=br/\l y=br/\aQ y=br:=by
 obtain⟨x,p,E,g,q,rfl,h⟩:=o6 h;obtain⟨X,E,rfl,h⟩:=ci h;obtain⟨y,rfl,h⟩:=cM h;obtain⟨H,Y⟩:=an2 h;obtain⟨c,z⟩:=an6 Y;cases cx H;cases ec c;exact⟨X,y,p,q,rfl,z⟩
def iG{m:Str}{l:List Expr->Bool}(h:v0 m k l e=br):∃x b E p,e = .Call (.Attribute x m b) E [] p/\vY x=br/\(b.endLine == p.line)=br/\k x=br/\l E=br:=by
 obtain⟨f,E,g,p,rfl,h⟩:=yq h;obtain⟨x,M,b,rfl,h⟩:=qQ h;obtain⟨H,c,z⟩:=an6 h;cases cx H;cases ec c;exact⟨x,b,E,p,rfl,z⟩
def yt{k:Expr->Expr->Expr->List Expr->List WG->Scope->Bool}(h:JF k e=br):∃E t i ifs gs b p,e = .ListComp E (⟨t,i,ifs,0⟩::gs) b p/\k E t i ifs gs b=br:=by
 obtain⟨E,gs,b,p,rfl,h⟩:=kB h;obtain⟨⟨t,i,ifs,c⟩,gs,rfl,h⟩:=ci h;obtain⟨H,z⟩:=an2 h;cases of_decide_eq_true H;exact⟨E,t,i,ifs,gs,b,p,rfl,z⟩
def Gz(h:JG e=br):∃p,e = .Dict [] [] p:=by
 obtain⟨c,v,p,rfl,h⟩:=yo h;obtain⟨H,b⟩:=an2 h;cases cx H;cases cx b;exact⟨p,rfl⟩
def GA(h:JH k l e=br):∃x y p,e = .Dict [aD x] [y] p/\k x=br/\l y=br:=by
 obtain⟨b,v,p,rfl,h⟩:=yo h;obtain⟨x,rfl,h⟩:=cM h;obtain⟨y,rfl,h⟩:=cM h;cases x with
 |none=>cases h
 |some x=>exact⟨x,y,p,rfl,an2 h⟩
end
abbrev Dh(f:Expr->CE->Bool)(l:Option Expr):Option CE->Bool
 |none=>l.isNone
 |some c=>oA l λe=>f e c
abbrev Di(f:Expr->CE->Bool)(l:List Expr):Option CE->Bool
 |none=>l.isEmpty
 |some c=>l1 l λe=>f e c
abbrev clC(cls:List Cl)(k:Tg->CI->Option CE->List Cl->Bool):Bool:=match cls with
 |[]=>bx
 |⟨tg,it,cond⟩::rest=>k tg it cond rest
def JJ{cls:List Cl}{k:Tg->CI->Option CE->List Cl->Bool}(h:clC cls k=br):∃T I cond b,cls=⟨T,I,cond⟩::b/\k T I cond b=br:=by
 cases cls with
 |nil=>cases h
 |cons g b=>obtain⟨T,I,cond⟩:=g;exact⟨T,I,cond,b,rfl,h⟩
mutual
noncomputable def aF(T:Tab):Nat->Blk->Expr->CE->Bool
 |0,_,_,_=>bx
 |n+1,b,e,c=>match c with
  |.non=>Qg e
  |.bl v=>sBl v e
  |.int i=>Ap i e
  |.str x=>Aq x e
  |.var i=>fR (λx=>b.N[i]? == aD x && b.vis x) e
  |.con k v=>fR (λx=>T.con[k]? == aD (x,.i v) && b.glo x) e
  |.txc k v=>fR (λx=>T.con[k]? == aD (x,.s v) && b.glo x) e
  |.tup cs=>L0 (λE=>eG T n b E cs) e
  |.lst cs=>Ar (λE=>eG T n b E cs) e
  |.dic0=>JG e
  |.dic1 i j=>JH (Ap i) (Ap j) e
  |.bin o a c=>Gw o.op (λx=>aF T n b x a) (λx=>aF T n b x c) e
  |.neg a=>L1 (λx=>aF T n b x a) e
  |.cmp o a c=>Gy o.op (λx=>aF T n b x a) (λx=>aF T n b x c) e
  |.chn o p a c d=>L3 o.op p.op (λx=>aF T n b x a) (λx=>aF T n b x c) (λx=>aF T n b x d) e
  |.and a c=>As .And (λx=>aF T n b x a) (λx=>aF T n b x c) e || Db .And (λx=>aF T n b x a) (λx=>aF T n b x c) e
  |.or a c=>As .Or (λx=>aF T n b x a) (λx=>aF T n b x c) e || Db .Or (λx=>aF T n b x a) (λx=>aF T n b x c) e
  |.not a=>Gx (λx=>aF T n b x a) e
  |.ite t a c=>Qh (λx=>fv T n b x t) (λx=>aF T n b x a) (λx=>aF T n b x c) e
  |.ix a c=>sIx (λx=>aF T n b x a) (λx=>aF T n b x c) e
  |.sl a lo hi=>sSl (λx=>aF T n b x a) (λl=>Dh (aF T n b) l lo) (λl=>Dh (aF T n b) l hi) e
  |.call f cs=>Dc (λx=>oA T.fns[f]? (λy=>y.1 == x) && b.glo x) (λE=>eG T n b E cs) e
  |.inst t a=>qS b "isinstance" (λx=>aF T n b x a) (fR λy=>y == Str.ofString t.nm && b.glo y) e
  |.len a=>cj b "len" (λx=>aF T n b x a) e
  |.all a=>cj b "all" (λx=>aF T n b x a) e
  |.tupOf a=>cj b "tuple" (λx=>aF T n b x a) e
  |.listOf a=>cj b "list" (λx=>aF T n b x a) e
  |.listR a=>cj b "list" (cj b "range" λx=>aF T n b x a) e
  |.srt a=>cj b "sorted" (λx=>aF T n b x a) e
  |.strI a=>cj b "str" (λx=>aF T n b x a) e
  |.lenS a=>cj b "len" (λx=>aF T n b x a) e
  |.intX a=>cj b "int" (λx=>aF T n b x a) e
  |.rev a=>Qj (λx=>aF T n b x a) e
  |.mx a c=>vZ b "max" (λE=>eG T n b E [a,c]) e
  |.mn a c=>vZ b "min" (λE=>eG T n b E [a,c]) e
  |.rep a=>cj b "repr" (λx=>aF T n b x a) e
  |.comp own elt cls=>clC cls λu I cond h=>JF (λq t i ifs gs g=>cmB own (jr own b.N) b.N g b.sc && qV T n b t i I && tU (b.inner own g) t u && Di (fv T n (b.inner own g)) ifs cond && o7 T n (b.inner own g) q gs elt h) e
  |.app o a=>v0 "append" (λx=>aF T n b x o) (λE=>eG T n b E [a]) e
  |.popAt o a=>v0 "pop" (λx=>aF T n b x o) (λE=>eG T n b E [a]) e
  |.cnt o a=>v0 "count" (λx=>aF T n b x o) (λE=>eG T n b E [a]) e
  |.join o a=>v0 "join" (λx=>aF T n b x o) (λE=>eG T n b E [a]) e
  |.spl o a=>v0 "split" (λx=>aF T n b x o) (λE=>eG T n b E [a]) e
noncomputable def eG(T:Tab):Nat->Blk->List Expr->List CE->Bool
 |0,_,_,_=>bx
 |n+1,b,E,cs=>match cs with
  |[]=>E.isEmpty
  |c::cs=>lC E λe E=>aF T n b e c && aQ e && eG T n b E cs
noncomputable def o7(T:Tab):Nat->Blk->Expr->List WG->CE->List Cl->Bool
 |0,_,_,_,_,_=>bx
 |n+1,b,e,gs,elt,cls=>match cls with
  |[]=>gs.isEmpty && aF T n b e elt
  |⟨tg,it,cond⟩::rest=>lC gs λg gs=>decide (g.is_async=0) && qV T n b g.target g.iter it && tU b g.target tg && Di (fv T n b) g.ifs cond && o7 T n b e gs elt rest
noncomputable def qV(T:Tab):Nat->Blk->Expr->Expr->CI->Bool
 |0,_,_,_,_=>bx
 |n+1,b,t,e,c=>match c with
  |.val a=>aF T n b e a && aQ e
  |.chr a=>aF T n b e a && aQ e
  |.wds k v=>fR (λx=>T.con[k]? == aD (x,.w v) && b.glo x) e
  |.r1 a=>cj b "range" (λx=>aF T n b x a) e
  |.r2 a c=>qS b "range" (λx=>aF T n b x a) (λx=>aF T n b x c) e
  |.en a=>cj b "enumerate" (λx=>aF T n b x a) e && L0 (λ_=>br) t
noncomputable def fv(T:Tab):Nat->Blk->Expr->CE->Bool
 |0,_,_,_=>bx
 |n+1,b,e,c=>match c with
  |.cmp o a c=>Gy o.op (λx=>aF T n b x a) (λx=>aF T n b x c) e
  |.chn o p a c d=>L3 o.op p.op (λx=>aF T n b x a) (λx=>aF T n b x c) (λx=>aF T n b x d) e
  |.and a c=>As .And (λx=>fv T n b x a) (λx=>fv T n b x c) e || Db .And (λx=>fv T n b x a) (λx=>fv T n b x c) e
  |.or a c=>As .Or (λx=>fv T n b x a) (λx=>fv T n b x c) e || Db .Or (λx=>fv T n b x a) (λx=>fv T n b x c) e
  |.not a=>Gx (λx=>fv T n b x a) e
  |.ite _ _ _=>bx
  |c=>aF T n b e c && Gu e
end
def dn{T:Tab}{n:Nat}{b:Blk}{t e:Expr}{c:CI}(h:qV T n b t e c=br)(H:∀e,aQ e=br->∀env x,V1 e env x=pure x):∀env x,V1 e env x=pure x:=by
 cases n with
 |zero=>cases h
 |succ n=>
  cases c with
  |val a=>exact H e (an2 h).2
  |chr a=>exact H e (an2 h).2
  |wds k v=>obtain⟨x,p,rfl,_⟩:=bX h;intro _ _;rfl
  |r1 a=>obtain⟨x,p,q,rfl,_⟩:=bj h;intro _ _;rfl
  |r2 a c=>obtain⟨x,y,p,q,rfl,_⟩:=eY h;intro _ _;rfl
  |en a=>obtain⟨x,p,q,rfl,_⟩:=bj (an2 h).1;intro _ _;rfl
abbrev bG(h:Heap)(C:Addr)(B:List Value):Prop:=∃N nm q bs H j sub u c p b f o v g M,h.get? C=aD (V0 nm q C N bs B H j sub u c p b f o v g "ValueError.__new__")/\h.Ns N M/\∀n ∈ quN,M n=aT
def bG.keeps(x:bG h C bm)(k:∀b o,h.get? b=aD o->h'.get? b=aD o):bG h' C bm:=by
 obtain⟨N,nm,q,bs,H,p,sub,z,c,y,f,g,u,B,j,M,hC,hN,v⟩:=x;exact⟨N,nm,q,bs,H,p,sub,z,c,y,f,g,u,B,j,M,k _ _ hC,hN.keeps k,v⟩
section
variable {prog:Program} {w:World} {M:Model} {A:Around} {E:Value->Shared->Prop} {h:Heap} {g:Array W0} {d:Drawn} {t:Nat} {os:OsState} {a C R:Addr} {o:Obj} {vs:Array Value}
def wb(u:n ∈ quN)(hC:bG h C (.ref R::bmV))(hR:bG h R bmV)(z:Ut (.type "ValueError") n=pure y)(X:Q y ⟨h,g,d,t,os⟩):wpAny M A (Ut (.ref C) n) Q E ⟨h,g,d,t,os⟩:=by
 obtain⟨N,nm,q,bs,v,sn,sub,ab,T,dd,k0,k1,k2,k3,k5,mN,hC,hN,c⟩:=hC;obtain⟨N',L,q',I,f,Y,B,ab',p,U,k0',k1',k2',O,Z,J,hR,j,b⟩:=hR;have H:V5 bmV n=pure y:=by rw[typeLookup_eq,PySem.F.excBase_ValueError.mroIs] at z;exact z
 rw[typeLookup_eq];refine Ux (wpAny_mroOf_exc hC ?_);rw[lookupAlong_cons];refine Ux (wpAny_classOwn_exc hC hN ?_);rw[c n u];show wpAny M A (V5 (.ref R::bmV) n) Q E _;rw[lookupAlong_cons];refine Ux (wpAny_classOwn_exc hR j ?_);rw[b n u];show wpAny M A (V5 bmV n) Q E _;rw[H];exact UR X
def tW:Ut (.type "ValueError") "__class__" = pure (aD (.builtin "object.__class__")):=by rw[typeLookup_type,builtinLookup_eq_fast];kernel_rfl
def L7(hC:bG h C (.ref R::bmV))(c:h.get? a=aD o)(hc:o.cls = .ref C)(I:Q (.ok (.ret (.ref C))) ⟨h,g,d,t,os⟩) :
  codeAny (model prog w) A (.call (.builtin "getset_descriptor.__get__") ⟨[.builtin "object.__class__", .ref a,.ref C],[]⟩) Q ⟨h,g,d,t,os⟩:=by
 obtain⟨N,nm,q,bs,f,B,sub,L,p,J,u,y,O,T,v,z,hC,hN,j⟩:=hC;have H:(⟨h,g,d,t,os⟩:Shared).TypeIs (.builtin "object.__class__") "getset_descriptor" := WY
 have b:(Value.ref C :: .ref R::bmV).contains (.type (".".intercalate ("object.__class__".cutAt '.').dropLast))=br:=by
  rw[PySem.F.owner_object_class,Z4,Z4];rfl
 refine VR PySem.F.slot_gs_get.plain PySem.F.entry_gs_get (PySem.F.slot_gs_get.check _ _ _ _ _ _ _ _ H (PySem.F.args_gs_get _ _ _) ?_)
 repeat (any_goals (first |assumption |(with_reducible refine UL c ?_;rw[hc]) |(with_reducible refine UH hC ?_;rw[b]) |wp_step))
 refine⟨Code.quiet_builtin _ (by decide +kernel),codeAny_builtin PySem.F.entry_object_class ?_⟩
 repeat (any_goals (first |assumption |(with_reducible refine UL c ?_;rw[hc]) |wp_step))
def Dj(hC:bG h C (.ref R::bmV))(hR:bG h R bmV)(H:h.get? a=aD o)(hc:o.cls = .ref C)(j:Q (.done (.ret (.ref C))) ⟨h,g,d,t,os⟩) :
  wpAny (model prog w) A (Builtin.«object.__getattribute__» ⟨[.ref a,.str "__class__" T],[]⟩) Q E ⟨h,g,d,t,os⟩:=by
 have b:(⟨h,g,d,t,os⟩:Shared).TypeIs (.builtin "object.__class__") "getset_descriptor" := WY;have f:=WY;have p:=PySem.F.slot_gs_get.lookup;have q:=PySem.F.slot_gs_set.lookup;have c:("__class__" : Str) ∈ quN:=.tail _ (.tail _ (.tail _ (.head _)))
 repeat (any_goals (first |assumption |(with_reducible refine UL H ?_;rw[hc]) |with_reducible refine wb c hC hR tW ?_ |wp_step))
 refine L7 hC H hc ?_
 repeat (any_goals (first |assumption |wp_step))
def Dk(hC:bG h C (.ref R::bmV))(v:h.get? a=aD o)(hc:o.cls = .ref C)(u:Q () ⟨h,g,d,t,os⟩):wpAny M A (checkBuiltinCall "BaseException.__getattribute__" ⟨[.ref a,b],[]⟩) Q E ⟨h,g,d,t,os⟩:=by
 obtain⟨N,nm,q,bs,f,I,sub,Y,p,J,z,U,T,L,O,B,hC,hN,j⟩:=hC;have y:builtinKind "BaseException.__getattribute__" = aD .slot:=by decide +kernel
 have H:splitId "BaseException.__getattribute__" = aD ("BaseException", "__getattribute__"):=by decide +kernel
 have c:(Value.ref C :: .ref R::bmV).contains (.type "BaseException")=br:=by rw[Z4,Z4];rfl
 have X:=PySem.F.args_bexc_ga (.ref a) b;simp only[checkBuiltinCall,y,H];refine Ux ?_
 ·unfold isInstance
  repeat (first |(with_reducible refine UL v ?_;rw[hc]) |(with_reducible refine UH hC ?_;rw[c]) |wp_step)
  exact u
def Qm(hC:bG h C (.ref R::bmV))(hR:bG h R bmV)(c:h.get? a=aD o)(hc:o.cls = .ref C)(j:Q (.ref C) ⟨h,g,d,t,os⟩) :
  wpAny (model prog w) A (getAttrBy (.ref a) (.str "__class__" T) bx) Q E ⟨h,g,d,t,os⟩:=by
 have FB:=PySem.F.attrBase_ValueError;have p:=FB.ga.bind (.ref a);have f:(Value.builtin "BaseException.__getattribute__" == Value.builtin "object.__getattribute__")=bx:=by decide +kernel
 have H:("__getattribute__" : Str) ∈ quN:=.tail _ (.head _);have b:("__getattr__" : Str) ∈ quN:=.tail _ (.tail _ (.head _))
 repeat (any_goals (first |assumption |(with_reducible refine UL c ?_;rw[hc]) |with_reducible refine wb H hC hR FB.ga.lookup ?_ |with_reducible refine wb b hC hR FB.noGetattr ?_ |wp_step))
 refine VR FB.ga.plain PySem.F.entry_bexc_ga (Dk hC c hc (Dj hC hR c hc ?_))
 repeat (any_goals (first |assumption |wp_step))
def GB(hC:bG h C (.ref R::bmV))(hR:bG h R bmV)(H:h.get? a=aD o)(hc:o.cls = .ref C)(b:Q (aD (.ref C)) ⟨h,g,d,t+1,os⟩):wpAny (model prog w) A (getAttr? (.ref a) "__class__") Q E ⟨h,g,d,t,os⟩:=by
 unfold getAttr? getAttrBy?
 repeat (any_goals (first |assumption |with_reducible apply Qm hC hR H hc |wp_step))
end
abbrev o8(h:Heap)(e C:Addr):Prop:=∃o v,h.get? e=aD o/\o.cls = .ref C/\o.data = .fields v
abbrev o9(h:Heap)(D:Addr):Prop:=∃b c sl,h.get? D=aD ⟨.type "type", b,.cls c,sl⟩
section
variable {prog:Program} {w:World} {M:Model} {A:Around} {E:Value->Shared->Prop} {s:Shared} {e C R D:Addr}
def yu{K:Vh}{O:Value}{b:Option Addr}{u:ClassData}{sl:Array (Option Value)}(v:K.lookup C=aD ⟨O,b,.cls u,sl⟩):PySem.W.KitX K (.ref e) (.ref C) (λh=>bG h C (.ref R::bmV)/\bG h R bmV/\o8 h e C) where
 ty:=λM h _ ⟨_,_,o,_,c,f,_⟩=>f ▸ (PySem.W.Looks.ld c).andThen .now
 it:=λM h _ ⟨hC,_⟩=>by
  obtain⟨N,nm,q,bs,j,J,sub,ab,p,b,y,U,T,L,Q,B,hC,_⟩:=hC;intro Z Q' z Y k q;unfold isType loadHead;exact Ux (wpAny_loadPart (k _ _ hC) (UR q))
 ne:=λh tp b I n sl X H=>by
  refine Z3.mpr λq=>?_;have e:C=tp:=Value.ref.inj (beq_iff_eq.mp q);subst e;rw[X _ _ v] at H;cases H
 ca:=λ{_ _ _ _ _ s} _ ⟨hC,hR,o,_,c,f,_⟩ hq=>by
  obtain⟨h,g,d,t,os⟩:=s;exact GB hC hR c f hq
def isx{D:Addr}{Q:Value->Shared->Prop}(hC:bG s.heap C (.ref R::bmV))(hR:bG s.heap R bmV)(he:o8 s.heap e C)(Y:o9 s.heap D)(X:D ≠ R)(h:∀U,Q (.bool (C == D)) { s with toks:=U }) :
  wpAny (model prog w) A (call (.builtin "isinstance") [.ref e,.ref D]) Q E s:=by
 have T:=hC;obtain⟨N,nm,q,bs,H,v,sub,O,c,y,u,L,J,B,I,mN,Z,_⟩:=T;obtain⟨g,f,j,hd⟩:=Y
 have KX:PySem.W.Frag.In [(C,V0 nm q C N bs (.ref R::bmV) H v sub O c y u L J B I "ValueError.__new__"),(D,⟨.type "type", g,.cls f,j⟩)] s.heap:=by
  intro b o p;rw[ZS] at p;split at p
  ·rename_i z;cases p;rw[show b=C from by simpa using z];exact Z
  ·rw[ZS] at p;split at p
   ·rename_i z;cases p;rw[show b=D from by simpa using z];exact hd
   ·cases p
 have l1:Xx C [(C,V0 nm q C N bs (.ref R::bmV) H v sub O c y u L J B I "ValueError.__new__"),(D,(⟨.type "type", g,.cls f,j⟩:Obj))]=aD (V0 nm q C N bs (.ref R::bmV) H v sub O c y u L J B I "ValueError.__new__"):=by
  rw[ZS,beq_self_eq_true]
 refine Vt (yu (R:=R) l1) KX ⟨hC,hR,he⟩ ?_ (λz=>nomatch z) h;unfold Vv;by_cases z:C=D
 ·subst z;rw[if_pos (beq_self_eq_true _),beq_self_eq_true]
 ·have z1:(C == D)=bx:=by simpa using z
  rw[if_neg (by simpa using z),z1]
  have l2:Xx D [(C,V0 nm q C N bs (.ref R::bmV) H v sub O c y u L J B I "ValueError.__new__"),(D,(⟨.type "type", g,.cls f,j⟩:Obj))]=aD ⟨.type "type", g,.cls f,j⟩:=by
   rw[ZS,show(D == C)=bx from by simpa using Ne.symm z,ZS,beq_self_eq_true]
  unfold Vu;dsimp only;rw[if_pos (by unfold Vk PySem.W.typeIn;dsimp only;rw[l2];rfl)];unfold VE VA Vk;dsimp only;rw[l1];show aD ((Value.ref C :: .ref R::bmV).contains (.ref D))=_;rw[Z4,Z4];have z2:((Value.ref D) == Value.ref C)=bx:=by simpa using Ne.symm z
  have z3:((Value.ref D) == Value.ref R)=bx:=by simpa using X
  rw[z2,z3];rfl
def isv{Q:Value->Shared->Prop}(hC:bG s.heap C (.ref R::bmV))(hR:bG s.heap R bmV)(O:o8 s.heap e C)(h:∀T,Q (.bool br) { s with toks:=T }) :
  wpAny (model prog w) A (call (.builtin "isinstance") [.ref e,.type "ValueError"]) Q E s:=by
 have y:=hC;obtain⟨N,nm,q,bs,H,j,sub,J,c,p,g,I,B,u,v,X,L,_⟩:=y
 have U:PySem.W.Frag.In [(C,V0 nm q C N bs (.ref R::bmV) H j sub J c p g I B u v "ValueError.__new__")] s.heap:=by
  intro b o f;rw[ZS] at f;split at f
  ·rename_i z;cases f;rw[show b=C from by simpa using z];exact L
  ·cases f
 have l1:Xx C [(C,V0 nm q C N bs (.ref R::bmV) H j sub J c p g I B u v "ValueError.__new__")]=aD (V0 nm q C N bs (.ref R::bmV) H j sub J c p g I B u v "ValueError.__new__"):=by
  rw[ZS,beq_self_eq_true]
 refine Vt (yu (R:=R) l1) U ⟨hC,hR,O⟩ ?_ (λz=>nomatch z) h;unfold Vv;rw[if_neg (by simp)];unfold Vu;dsimp only;rw[if_pos (by decide +kernel)];unfold VE VA Vk;dsimp only;rw[l1];show aD ((Value.ref C :: .ref R::bmV).contains (.type "ValueError"))=_;rw[Z4,Z4];rfl
def L8{h:Heap}{g:Array W0}{d:Drawn}{t:Nat}{os:OsState}{Q:Bool->Shared->Prop}(hC:bG h C (.ref R::bmV))(hR:bG h R bmV)(j:o8 h e C)(O:Q br ⟨h,g,d,t,os⟩):wpAny M A (excMatches (.ref e) (.ref R)) Q E ⟨h,g,d,t,os⟩:=by
 obtain⟨N,nm,q,bs,u,sn,sub,ab,J,dd,k0,k1,k2,k3,k5,mN,hC,_⟩:=hC;obtain⟨N',z,q',B,c,T,v,ab',p,L,Y,X,Z,I,U,y,hR,_⟩:=hR;obtain⟨oe,vs,j,H,_⟩:=j;have o:(Value.ref R::bmV).contains (.type "BaseException")=br:=by rw[Z4];rfl
 have b:(Value.ref C :: .ref R::bmV).contains (.ref R)=br:=by simp
 have f:=tc_notTuple;unfold excMatches
 repeat (first |(with_reducible refine UL j ?_;rw[H]) |with_reducible refine UL hR ?_ |with_reducible refine UL hC ?_ |(with_reducible refine UH hR ?_;rw[o]) |(with_reducible refine UH hC ?_;rw[b]) |wp_step)
 exact O
end
structure XLeft(P:Program)(w:World)(outer:List Env)(H H':Hp)(s:Shared)(B:Heap)(s':Shared):Prop where
 os:s'.os=s.os
 bare:AllBare s'.gens
 un:Un (frs outer) [] H H' s.heap s'.heap
 keep:∀b o,s.heap.get? b=aD o->H b=aT->b ∉ frs outer->B.get? b=aD o
 there:∀b o,s.heap.get? b=aD o->b ∉ frs outer->∃o',B.get? b=aD o'
 hok:HOk P w H' B
abbrev CXE(P:Program)(w:World):CXT:=λouter H s E g b=>∃e c f h B,g = .ref e/\Heap.FlyingW B outer e c f b.heap/\XLeft P w outer H h s B b/\E c aT h
def Qo:lP (CXE P w) X E0:=λ_ _ _ _ _ _ _ ⟨_,_,_,_,_,_,_,_,h⟩=>h.elim
section
variable {P:Program} {w:World} {outer:List Env} {H H':Hp} {s s':Shared} {B:Heap} {e:Addr} {c a0:Value} {h':Heap}
def XLeft.later(x:XLeft P w outer H H' s B s')(I:Heap.FlyingW B outer e c a0 s'.heap)(f:B.StaysIn h')(p:h'.FunFrames B outer)(u:s'.heap.UpToSlots h'){t:Nat}(C:AllBare g):XLeft P w outer H H' s B ⟨h',g,d,t,s'.os⟩ where
 os:=x.os
 bare:=C
 un:=by
  have sl:∀b o,s'.heap.get? b=aD o->b ∈ frs outer->∃sl,h'.get? b=aD { o with slots:=sl }:=λb o q h=>by
   obtain⟨_,O,Q,y⟩:=I.2.2.1.mem h;rw[q] at Q;cases Q;exact u b o q y
  refine⟨λb o q n h _=>f b o (x.keep b o q n h),λb o q n h j=>?_,x.un.free,λb o q j=>?_,x.un.tups,x.un.frzs,x.un.tbls⟩
  ·obtain⟨z,v⟩:=x.un.slot b o q n h j;obtain⟨Z,E⟩:=sl b _ v h;exact⟨Z,E⟩
  ·by_cases h:b ∈ frs outer
   ·obtain⟨_,O,Q,_⟩:=p.mem h;exact⟨O,Q⟩
   ·obtain⟨O,Q⟩:=x.there b o q h;exact⟨O,f b O Q⟩
 keep:=x.keep
 there:=x.there
 hok:=x.hok
end
section
variable {P:Program} {w:World} {K:Vh} {mg:Str->Option Value} {base:Heap} {N:List Str} {qual:Str} {scope:Scope} {f:Addr} {cd:Value} {A:Around} {outer:List Env} {s0:Shared} {H0:Hp} {E:XK}
noncomputable abbrev cxE(P:Program)(w:World)(K:Vh)(mg:Str->Option Value)(base:Heap)(N:List Str)(qual:Str)(scope:Scope)(f:Addr)(cd:Value)(A:Around)(outer:List Env)(s0:Shared)(H0:Hp)(E:XK):Cx:=nV (CXE P w) P w K mg base N qual scope f cd A outer s0 H0 E
def tX:frs (envOfC qual scope s0.heap.objs.size f cd::outer)=s0.heap.objs.size::frs outer:=rfl
def Qp:lP (CXE P w) (cxE P w K mg base N qual scope f cd A outer s0 H0 E) E:=by
 rintro T σ H s _ s' I ⟨e,c,a0,H',B,rfl,M,x,Z⟩;have J:(A.deeper (envOfC qual scope s0.heap.objs.size f cd)).frames=aD (envOfC qual scope s0.heap.objs.size f cd::outer):=I.ok.frames;show wpAny (model P w) (A.deeper (envOfC qual scope s0.heap.objs.size f cd)) (leaving (envOfC qual scope s0.heap.objs.size f cd) (.ref e)) _ _ s'
 have p:∀b o,s0.heap.get? b=aD o->b ∉ frs outer->b ∉ frs (envOfC qual scope s0.heap.objs.size f cd::outer):=λb o q h L=>by
  rw[tX] at L;rcases Zm.mp L with z |z
  ·exact absurd (Zq q) (by rw[z];exact ZQ _)
  ·exact h z
 have g:Un (frs outer) [] H0 H s0.heap s.heap:=I.base;refine wpAny_leaves_onW J rfl M λh' X x2=>⟨e,c,a0,H',B,rfl,X,?_,Z⟩;refine⟨x.os.trans I.os,x.bare,⟨λb o q n h j=>?_,λb o q n h j=>?_,λb o q n j=>?_,λb o q j=>?_,λb xs q=>x.un.tups b xs (g.tups b xs q),λb o u q=>x.un.frzs b o u (g.frzs b o u q),λb ps q=>?_⟩,λb o q n h=>?_,λb o q h=>?_,x.hok⟩
 ·exact X.1 b o (x.keep b o (g.keep b o q n h j) (g.free b o q n j) (p b o q h))
 ·obtain⟨z,Q⟩:=g.slot b o q n h j;obtain⟨z2,v⟩:=x.un.slot b _ Q (g.free b o q n j) (show b ∈ s0.heap.objs.size::frs outer from Zf _ h) j
  obtain⟨_,O,C,nf⟩:=M.2.2.1.mem (b:=b) (Yx.mpr (by
   obtain⟨y,hy,hz⟩:=Yx.mp h;exact⟨y,Zf _ hy,hz⟩))
  rw[v] at C;cases C;obtain⟨z3,Y⟩:=x2 b _ v nf;exact⟨z3,Y⟩
 ·obtain⟨O,Q⟩:=g.there b o q j;exact x.un.free b O Q (g.free b o q n j) j
 ·by_cases h:b ∈ frs outer
  ·obtain⟨_,O,C,_⟩:=X.2.2.1.mem h;exact⟨O,C⟩
  ·obtain⟨O,Q⟩:=g.there b o q j;obtain⟨U,v⟩:=x.there b O Q (p b o q h);exact⟨U,X.1 b U v⟩
 ·obtain⟨m1,e1⟩:=g.tbls b ps q;obtain⟨m2,e2⟩:=x.un.tbls b _ e1;exact⟨m1++m2,by rw[e2,XJ]⟩
 ·exact x.keep b o (g.keep b o q n h (by simp)) (g.free b o q n (by simp)) (p b o q h)
 ·obtain⟨O,Q⟩:=g.there b o q (by simp);exact x.there b O Q (p b o q h)
def Qq(I:Inv (cxE P w K mg base N qual scope f cd A outer s0 H0 E) L σ H s)(mk:Heap.MadeExcOf s.heap M e c J)(hE:E c aT H) :
  (cxE P w K mg base N qual scope f cd A outer s0 H0 E).xe (.ref e) { s with heap:=M }:=by
 have C:(A.deeper (envOfC qual scope s0.heap.objs.size f cd)).frames=aD (envOfC qual scope s0.heap.objs.size f cd::outer):=I.ok.frames;show wpAny (model P w) (A.deeper (envOfC qual scope s0.heap.objs.size f cd)) (leaving (envOfC qual scope s0.heap.objs.size f cd) (.ref e)) _ _ { s with heap:=M };have stk:s.heap.FunFrames base (envOfC qual scope s0.heap.objs.size f cd::outer):=I.stack;have sf:∀b ∈ frs (envOfC qual scope s0.heap.objs.size f cd::outer),H b=aT:=I.stkFree
 have v:∀b o,s0.heap.get? b=aD o->b ∉ frs outer->b ∉ frs (envOfC qual scope s0.heap.objs.size f cd::outer):=λb o q hb j=>by
  rw[tX] at j;rcases Zm.mp j with z |z
  ·exact absurd (Zq q) (by rw[z];exact ZQ _)
  ·exact hb z
 have g:Un (frs outer) [] H0 H s0.heap s.heap:=I.base;have y:∀env ∈ (envOfC qual scope s0.heap.objs.size f cd::outer),∀b,env.frame=aD b->b ∈ frs (envOfC qual scope s0.heap.objs.size f cd::outer):=λenv he b hb=>Yx.mpr ⟨env,he,hb⟩;refine wpAny_leaves_madeW C rfl (λb o q=>VB _ q) (PySem.W.funFrames_hide stk y) mk λU t X x2 x3 Y=>⟨e,c,.ref t,H,_,rfl,X,?_,hE⟩
 have up:∀b o,s.heap.get? b=aD o->b ∈ frs (envOfC qual scope s0.heap.objs.size f cd::outer)->∃sl,U.get? b=aD { o with slots:=sl }:=λb o q hb=>by
  obtain⟨_,O,T,nf⟩:=stk.mem hb;rw[q] at T;cases T;exact Y b o (mk.keeps b o q) nf
 refine⟨I.os,I.bare,⟨λb o q n hb h=>?_,λb o q n hb h=>?_,λb o q n h=>g.free b o q n h,λb o q h=>?_,g.tups,g.frzs,g.tbls⟩,λb o q n hb=>?_,λb o q hb=>?_,λa o q=>?_⟩
 ·exact X.1 b o (Vp _ (g.keep b o q n hb h) (v b o q hb))
 ·obtain⟨z,Q⟩:=g.slot b o q n hb h;obtain⟨Z,B⟩:=up b _ Q (show b ∈ s0.heap.objs.size::frs outer from Zf _ hb);exact⟨Z,B⟩
 ·obtain⟨O,Q⟩:=g.there b o q h;by_cases hb:b ∈ frs (envOfC qual scope s0.heap.objs.size f cd::outer)
  ·obtain⟨Z,B⟩:=up b _ Q hb;exact⟨_,B⟩
  ·exact⟨O,X.1 b O (Vp _ Q hb)⟩
 ·exact Vp _ (g.keep b o q n hb (by simp)) (v b o q hb)
 ·obtain⟨O,Q⟩:=g.there b o q (by simp);exact⟨O,Vp _ Q (v b o q hb)⟩
 ·refine(I.hok a o q).stay (λb u hb qu=>Vp _ qu λj=>?_) (λ_ z=>z) λ_ _ z=>z;have p:=sf b j;rcases hb with rfl |hb
  ·rw[q] at p;cases p
  ·rw[hb] at p;cases p
end
section
variable {X:Cx} {x:Str} {np cpos pos:Pos} {a:Expr} {C R:Addr} {v:V}
def Dm{E:XK}(hx:∀p b H s O e c,Inv X p b H s->Heap.MadeExcOf s.heap O e (.ref C) c->E (.ref C) aT H->X.xe (.ref e) { s with heap:=O })(hc:X.calm=br)(hg:Gl X x)(hm:X.mg x=aD (.ref C))(hC:bG X.base C (.ref R::bmV))(hR:bG X.base R bmV)
  (ha:PA X [a] (dR (tC v) lL)) (Q:Ui [a] X.env=[(bx,eval a X.env)]) (hd:(x == ("__debug__" : Str))=bx):PS X (.Raise (aD (.Call (.Name x np) [a] [] cpos)) aT pos) (λD b H=>E (.ref C) aT H):=by
 intro p s b H D I h;have h:dR (tC v) lL b H λJ H1=>J.length=1/\E (.ref C) aT H1:=⟨rfl,h⟩;obtain⟨N,nm,q,bs,f,sn,sub,ab,B,dd,Y,k1,k2,k3,k5,mN,hC,hN,o⟩:=hC;obtain⟨N',nm',q',Z,u,sn',U,ab',L,dd',k0',k1',k2',k3',k5',mN',hR,z,g⟩:=hR;have T:OwnTail X.base bmV (.ref R::bmV):=.own hR z (g _ (.head _)) .base
 refine wpAny_Raise_call_subT (C:=C) (nm:=nm) (q:=q) (N:=N) (bs:=bs) (bm:=.ref R::bmV) (hdct:=f) (sn:=sn) (sub:=sub) (ab:=ab) (col:=B) (dd:=dd) (k0:=Y) (k1:=k1) (k2:=k2) (k3:=k3) (k5:=k5)
  PySem.F.excBase_ValueError (mN:=mN) (T.hasType PySem.F.excBase_ValueError.hasBase) (I.ok.hd hc) (by rw[Q];rfl) (o _ (.head _)) (gI I hg hm ⟨rfl,?_⟩ hd)
 have M:=ha cpos p s b H _ I h;rw[Q] at M ⊢;exact WF (UM M (λJ s2 ⟨xs,H1,j,r,q⟩=>⟨rfl,by rw[<-r.length,q.1];decide,j.bk _ _ hC,hN.keeps j.bk,T.keeps j.bk,λh' e mk=>hx p b H1 s2 h' e J j mk q.2⟩) λ_ _ y=>y)
end
def tY(x:bz P w H h a o):∃u,h.get? a=aD u:=by
 cases o with
 |lst xs=>obtain⟨_,_,_,_,e⟩:=x;exact⟨_,e⟩
 |tup xs=>obtain⟨_,_,_,o,e,_⟩:=x;exact⟨_,e⟩
 |dK b=>obtain⟨_,_,_,_,o,_,_,e,_⟩:=x;exact⟨_,e⟩
 |dT b=>obtain⟨_,_,_,_,o,_,_,e,_⟩:=x;exact⟨_,e⟩
 |set S n=>obtain⟨o,_,_,_,e,_⟩:=x;exact⟨_,e⟩
 |ins C j fs=>obtain⟨_,_,_,e,_⟩:=x;exact⟨_,e⟩
 |own y=>exact x
 |xd fs=>obtain⟨_,⟨_,_,_,e,_⟩,_⟩:=x;exact⟨_,e⟩
 |rng lo g=>obtain⟨_,_,_,e⟩:=x;exact⟨_,e⟩
 |frz ob u=>obtain⟨e,_⟩:=x;exact⟨_,e⟩
 |tbl ps=>exact⟨_,x⟩
 |met f y=>exact⟨_,x⟩
 |ext c=>obtain⟨_,e,_⟩:=x;exact e
noncomputable abbrev exO(e C:Addr):HO:=.ext λh=>o8 h e C
section
variable {P:Program} {w:World} {l:List Env} {H H':Hp} {s s':Shared} {B:Heap} {e C:Addr} {a0:Value} {h6:Heap}
def XLeft.got(x:XLeft P w l H H' s B s')(I:Heap.FlyingW B l e (.ref C) a0 s'.heap)(f:Heap.FlyingW B l e (.ref C) a0 h6)(u:s'.heap.UpToSlots h6):Un (frs l) [] H (upd H' e (exO e C)) s.heap h6/\HOk P w (upd H' e (exO e C)) h6:=by
 have un:=(x.later I f.1 f.2.2.1 u (g:=s'.gens) (d:=s'.drawn) (t:=s'.toks) x.bare).un
 have ne:H' e=aT:=by
  cases q:H' e with
  |none=>rfl
  |some o=>obtain⟨z,Q⟩:=tY (x.hok e o q);rw[f.2.1] at Q;cases Q
 obtain⟨O,j,y,E,hd,_⟩:=f.first
 have nb:∀b o,s.heap.get? b=aD o->H b=aT->b ≠ e:=λb o q n z=>by
  subst z;by_cases h:b ∈ frs l
  ·obtain⟨_,T,Q,L⟩:=f.2.2.1.mem h;rw[y] at Q;cases Q;exact L j hd
  ·have:=x.keep b o q n h;rw[f.2.1] at this;cases this
 have up:∀b u,H' b=aD u->upd H' e (exO e C) b=aD u:=λb u q=>by rw[aw (aV q ne)];exact q
 refine⟨⟨un.keep,un.slot,λb o q n J=>by rw[aw (nb b o q n)];exact un.free b o q n J,un.there,λb xs q=>up b _ (un.tups b xs q),λb o v q=>up b _ (un.frzs b o v q),λb ps q=>?_⟩,λb o q=>?_⟩
 ·obtain⟨m,p⟩:=un.tbls b ps q;exact⟨m,up b _ p⟩
 ·by_cases h:b=e
  ·subst h;rw[aC] at q;cases q;exact⟨⟨O,j,y,E,hd⟩,⟨O,y⟩,λM U ⟨o,j,p,Q⟩ k=>⟨o,j,k o p,Q⟩⟩
  ·rw[aw h] at q;exact(x.hok b o q).stay (λc v _ z=>f.1 c v z) (λc z=>up c _ z) λc xs z=>up c _ z
end
section
variable {X:Cx} {pins:List (Addr × Obj)} {σ:L2.St} {H:Hp} {s:Shared}
noncomputable abbrev Cx.mk(X:Cx)(e:Addr):Cx:={ X with A:=X.A.mark (aD (.ref e)),calm:=false,xe:=λ_ _=>False }
def Dn(I:L2.Inv X pins σ H s)(e:Addr):L2.Inv (Cx.mk X e) pins σ H s:=
 ⟨⟨I.ok.mod,I.ok.kind,I.ok.glob,I.ok.blt,I.ok.above,I.ok.inj,I.ok.has,I.ok.cab,λz=>(nomatch z),I.ok.frames,I.ok.stk,I.ok.exf,I.ok.bs,I.ok.bsz,I.ok.noex,I.ok.exfs,I.ok.funs,I.ok.frf⟩,I.os,I.bare,I.base,I.loc,I.cell,I.free,I.freeC,I.pin,I.hok,I.len⟩
def L9(ok:X.Ok)(I:L2.Inv (Cx.mk X e) pins σ H s):L2.Inv X pins σ H s:=⟨ok,I.os,I.bare,I.base,I.loc,I.cell,I.free,I.freeC,I.pin,I.hok,I.len⟩
def GC{i:Nat}(I:L2.Inv X pins σ H s)(hN:X.N.Nodup)(T:X.N[i]?=aD x)(hk:X.env.scope.names.lookup x=aD .local)
  (h:∀Y,L2.Inv X pins (σ.set i aT) H Y->Q () Y):wpAny M A (do VJ X.env x .none;unbindBehindTheSuite X.env x pos) Q E s:=by
 obtain⟨m,hn,hl⟩:=id I.loc;have g:(X.env.scope.kind == .class || (X.env.scope.kind == .module && X.env.locals != X.env.globals))=bx:=by rw[I.ok.kind];rfl
 have u:i < σ.length:=by rw[I.len];exact(Zb.mp T).1
 have cne:=I.cne;refine wpAny_nameGoes_keeps hk hn g λh' v O hs=>?_;refine h _ ⟨I.ok,I.os,I.bare,⟨λb o e n L B=>?_,λb o e n L B=>?_,I.base.free,λb o e B=>?_,I.base.tups,I.base.frzs,I.base.tbls⟩,⟨_,O,λj y Z f C e3=>?_⟩,λy c e=>?_,I.free,I.freeC,λp hp=>?_,λb ob e=>?_,by simpa using I.len⟩
 ·exact(hs.2 b (ZF (Zx (Zq e) I.ok.above))).trans (I.base.keep b o e n L B)
 ·obtain⟨sl,f⟩:=I.base.slot b o e n L B;exact⟨sl,(hs.2 b (ZF (Zx (Zq e) I.ok.above))).trans f⟩
 ·obtain⟨o',f⟩:=I.base.there b o e B;exact⟨o',(hs.2 b (ZF (Zx (Zq e) I.ok.above))).trans f⟩
 ·by_cases J:j=i
  ·subst J;rw[ZD u] at C;cases C
  ·rw[ZE (Ne.symm J)] at C;obtain⟨u',r',q⟩:=hl j y Z f C e3;refine⟨u',r',?_⟩;rcases q with ⟨k,e⟩ |⟨k,c,e,z⟩
   ·refine .inl ⟨k,?_⟩;have:y ≠ x:=λe=>J (lH hN f (e ▸ T));simp[this,e]
   ·exact .inr ⟨k,c,e,z.sameBut hs (cne y c e)⟩
 ·obtain⟨U,z⟩:=I.cell y c e;exact⟨U,z.sameBut hs (cne y c e)⟩
 ·obtain⟨e,n,ne,nf,d⟩:=I.pin p hp;exact⟨(hs.2 p.1 ne).trans e,n,ne,nf,d⟩
 ·refine(I.hok b ob e).stay (λc U hc q=>(hs.2 c ?_).trans q) (λ_ q=>q) λ_ _ q=>q;rintro rfl;rcases hc with rfl |hc
  ·rw[I.free] at e;cases e
  ·rw[I.free] at hc;cases hc
def GD{Q:Hp}{s':Shared}{B:Heap}{e C R:Addr}{a0:Value}{i:Nat}{n ring:Str}{h:Stmt}{g:List Stmt}{np J:Pos}{D:Ends}(j:X.stack=X.env::X.outer)(hfm:X.env.frame=aD X.env.locals)(I:L2.Inv X pins σ H s)(fl:Heap.FlyingW B X.stack e (.ref C) a0 s'.heap)(x:XLeft X.prog X.w X.stack H Q s B s')
  (hC:bG X.base C (.ref R::bmV)) (hR:bG X.base R bmV) (hg:Gl X ring) (Z:X.mg ring=aD (.ref R)) (hdb:(ring == ("__debug__" : Str))=bx) (hN:X.N.Nodup) (hi:X.N[i]?=aD n) (hl:X.env.scope.names.lookup n=aD .local)
  (hb:∀s6,L2.Inv (Cx.mk X e) pins (σ.set i (aD (.ref e))) (upd Q e (exO e C)) s6->wpAny (model X.prog X.w) (Cx.mk X e).A (execs (h::g) X.env) (λf T=>∃u v σ7 H7,f = .ret u/\L2.Inv (Cx.mk X e) pins σ7 H7 T/\aG v u/\D.rt v H7) (λ_ _=>False) s6) :
  wpAny (model X.prog X.w) X.A (noteFrame (.ref e) X.env) (λ_ y=>wpAny (model X.prog X.w) X.A (setFlight (.ref e) aT) (λ_ L=>wpAny (model X.prog X.w) X.A (handleBy (.ref e) X.env [.ExceptHandler (aD (.Name ring np)) (aD n) (h::g) J]) (SP X pins D) X.xe L) X.xe y) X.xe s':=by
 have hfr:X.A.frames=aD (X.env::X.outer):=by rw[<-j];exact I.ok.frames
 have st:X.base.StaysIn B:=λb o q=>x.keep b o (I.bs b o q).1 (I.bs b o q).2 λZ=>by
  rw[(I.stack.mem Z).1] at q;cases q
 have M:=fl;rw[j] at fl;refine wpAny_looks_onW hfr hfm fl λh4 E O=>?_;refine wpAny_landsW E λh5 c p=>?_;rw[<-j] at c;obtain⟨un5,ok5⟩:=x.got M c (O.trans p);have I5:L2.Inv X pins σ (upd Q e (exO e C)) { s' with heap:=h5 }:=I.call' x.os un5 ok5 x.bare (λb z=>absurd z (by simp));have I5m:=Dn I5 e;refine wpAny_handleBy_cons (codeAny_handlers_test (gI (X:=Cx.mk X e) I5m hg Z ?_ hdb)) (by intro q;cases q);have hE:o8 h5 e C:=by obtain⟨oe,vs,he,hc,hd,_⟩:=c.first;exact⟨oe,vs,he,hc,hd⟩
 have kb:∀b o,X.base.get? b=aD o->h5.get? b=aD o:=λb o q=>c.1 b o (st b o q);refine L8 (hC.keeps kb) (hR.keeps kb) hE ?_;refine codeAny_handlers_suite_as ?_;refine lands_againW c λh6 fl6 Y=>?_;obtain⟨un6,U⟩:=x.got M fl6 ((O.trans p).trans Y);have I6:L2.Inv X pins σ (upd Q e (exO e C)) { s' with heap:=h6 }:=I.call' x.os un6 U x.bare (λb z=>absurd z (by simp));refine ce (X:=Cx.mk X e) (Dn I6 e) hN hi (.inl hl) (show aG (.ref e) (.ref e) from rfl) (λT I7=>?_) (.inr hl);refine UM (hb T I7) (λf s8 ⟨u,v,σ8,H8,hf,I8,rv,q⟩=>?_) λ_ _ z=>z.elim;subst hf;exact GC (L9 I.ok I8) hN hi hl λs9 I9=>⟨v,_,H8,I9,rv,q⟩
end
abbrev JK(K:Vh)(mg:Str->Option Value)(x:Str):CV->Prop
 |.i v=>∃T,mg x=aD (.int v T)
 |.s v=>∃T,mg x=aD (.str v T)
 |.w ws=>∃a,mg x=aD (.ref a)/\∀H,SqT K H a (ws.map V.str)
structure CtxOk(T:Tab)(C:Calls)(ar:Nat->Nat)(k:Nat)(b:Blk)(X:Cx):Prop where
 calm:X.calm=br
 xe:X.xe=λ_ _=>False
 hN:X.N=b.N
 hs:X.env.scope=b.sc
 nd:b.N.Nodup
 fn:∀x,(match b.fs with |none=>br |some sc=>sc.names.lookup x == aD .cell)=br->X.fn x=br
 room:Room k X.A
 con:∀ (i:Nat) (x:Str) (v:CV),T.con[i]?=aD (x,v)->JK X.K X.mg x v
 bl:∀x,x ∈ fW->X.mg x=aT
 fns:∀ (i:Nat) (y:Str × Nat),T.fns[i]?=aD y->ar i=y.2/\∃f fd ps,X.mg y.1=aD (.ref f)/\Vs X.K (.ref f)=br/\fO X.K fd ps []/\FnOk X.prog X.w X.K X.mg X.base (CXE X.prog X.w) k f fd ps (spC X.K (C i) (ar i))
section
variable {T:Tab} {C:Calls} {ar:Nat->Nat} {k:Nat} {b:Blk} {X:Cx}
def al{e:Expr}{E:List Expr}{env:Env}(h:aQ e=br):Ui (e::E) env=(bx,eval e env)::Ui E env:=by
 cases e <;> first |rfl |(exact absurd h Zg)
def m7{e:Expr}(h:aQ e=br):xG e:=by
 intro o i;cases e <;> first |rfl |(exact absurd h Zg)
def fA{e:Expr}{op:CmpOp}(h:aQ e=br):VH op e=bx:=by
 cases e <;> first |rfl |(exact absurd h Zg)
def m8{e f:Expr}{op o:CmpOp}(h:aQ e=br):lastMarks [op,o] [f,e]=bx:=by
 show VH o e=bx;exact fA h
def cy{e:Expr}{env:Env}(h:aQ e=br):∀x,V1 e env x=pure x:=by
 intro x;cases e <;> first |rfl |(exact absurd h Zg)
def bZ{e:Expr}{m:Str}{env:Env}{w:Sem Value}(h:vY e=br):attributeBase e m env w=w:=by
 cases e with
 |Call f c g p=>
  cases f with
  |Name x q=>
   cases c with
   |nil=>cases g with |nil=>exact absurd h Zg |cons _ _=>rfl
   |cons _ _=>rfl
  |_=>rfl
 |_=>first |rfl |(exact absurd h Zg)
def m9{e:Expr}{env:Env}(h:Gu e=br):∀c,isTrue e env c=(do let v <-c;standAt e.pos;holding [v] (truthy v)):=by
 intro c;cases e with
 |UnaryOp op x p=>cases op <;> first |rfl |(exact absurd h Zg)
 |_=>first |rfl |(exact absurd h Zg)
def eZ{E:List Expr}{env:Env}{pos:Pos}(h:∀e ∈ E,aQ e=br):(backTo pos (Ui E env)).any (·.1)=bx:=by
 induction E with
 |nil=>rfl
 |cons e E I=>
  rw[al (h e Zd)];show(bx || (backTo pos (Ui E env)).any (·.1))=bx;rw[I λe H=>h e (Zf _ H)];rfl
def bo:∀ {n:Nat} {E:List Expr} {f:List CE},eG T n b E f=br->∀e ∈ E,aQ e=br
 |0,_,_,h=>absurd h Zg
 |n+1,E,[],h=>λx hx=>by rw[cx h] at hx;cases hx
 |n+1,E,c::f,h=>by
  obtain⟨e,E,rfl,h⟩:=ci h;obtain⟨_,H,h⟩:=an3 h;intro x hx;rcases Zm.mp hx with rfl |hx
  ·exact H
  ·exact bo h x hx
def CtxOk.gl(G:CtxOk T C ar k b X){x:Str}(h:b.glo x=br):Gl X x/\(x == ("__debug__" : Str))=bx:=by
 unfold Blk.glo at h;rw[bAE] at h;refine⟨?_,by simpa using h.2⟩;show X.env.scope.names.lookup x=_;rw[G.hs]
 simpa using h.1
def CtxOk.vis(G:CtxOk T C ar k b X){x:Str}(h:b.vis x=br):Vis X.env.scope x/\(x == ("__debug__" : Str))=bx/\(x == ("__classdict__" : Str))=bx:=by
 unfold Blk.vis at h;rw[bAE,bAE] at h;refine⟨?_,by simpa using h.1.2,by simpa using h.2⟩;unfold Vis;rw[G.hs];have H:=h.1.1;split at H
 ·rename_i e;exact .inl e
 ·rename_i e;exact .inr (.inl e)
 ·rename_i e;exact .inr (.inr e)
 ·cases H
def CtxOk.own(G:CtxOk T C ar k b X){x:Str}(h:b.own x=br):L2.Loc X.env.scope x/\(X.fn x=br\/X.env.scope.names.lookup x=aD .local):=by
 unfold Blk.own at h;unfold L2.Loc;rw[G.hs];split at h
 ·rename_i e;exact⟨.inl e,.inr e⟩
 ·rename_i e;refine⟨.inr e,.inl (G.fn x ?_)⟩;cases H:b.fs with
  |none=>rfl
  |some sc=>rw[H] at h;exact h
 ·cases h
def CtxOk.inner(G:CtxOk T C ar k b X){own:List Str}{c:Scope}(S:CmScope own (jr own b.N) b.N c b.sc){C':Addr}{ex:List Addr}{s:Shared}{H:Hp}:CtxOk T C ar k (b.inner own c) (cxC X own (jr own b.N) c C' ex s H):=
 ⟨G.calm,rfl,by show dq (jr own b.N) X.N++own=_;rw[G.hN];rfl,by show fY c X.env.scope=_;rw[G.hs];rfl,S.nd,λx h=>h,G.room,G.con,G.bl,G.fns⟩
def pb{e:Expr}{E:List Expr}{env:Env}(h:aQ e=br):VF (e::E) env=(bx,assign e env)::VF E env:=by
 cases e <;> first |rfl |(exact absurd h Zg)
mutual
theorem ek(G:CtxOk T C ar k b X):∀ {e:Expr} {t:Tg},tU b e t=br->PG X e (tTg X.K t)
 |e,.name i,h=>by
  obtain⟨r,c,h⟩:=ig h;obtain⟨g,j⟩:=an2 h;rw[fu c];have o:=G.own j;exact PG.imp (kW (i:=i) (x:=r.1) (by rw[G.hN];exact G.nd) (by rw[G.hN];exact eq_of_beq g) o.1 o.2) λx p H Q q=>qO q
 |e,.tup ts,h=>by
  obtain⟨r,c,h⟩:=ig h;rw[ly c];have f:=pc h;exact PG.imp (Kr G.calm (tZ G h) rfl f.2) λx p H Q q=>LJ f.1 q
theorem tZ(G:CtxOk T C ar k b X):∀ {E:List Expr} {c:List Tg},mX b E c=br->PGs X E (CA X.K c)
 |E,[],h=>by
  rw[cx h];exact PGs.imp Fh λx j H Q q=>Gh q
 |E,t::c,h=>by
  obtain⟨e,E,rfl,h⟩:=ci h;obtain⟨f,g,h⟩:=an3 h;exact PGs.imp (Bm (ek G f) (tZ G h) (by rw[pb g];rfl)) λx j H Q q=>CB q
theorem pc:∀ {E:List Expr} {c:List Tg},mX b E c=br->(VF E X.env).length=c.length/\(VF E X.env).findIdx? (·.1)=aT
 |E,[],h=>by
  rw[cx h];exact⟨rfl,rfl⟩
 |E,t::c,h=>by
  obtain⟨e,E,rfl,h⟩:=ci h;obtain⟨f,H,h⟩:=an3 h;have I:=pc h;rw[pb H];refine⟨congrArg (·+1) I.1,?_⟩;rw[List.findIdx?_cons];simp[I.2]
end
end
structure Snd(T:Tab)(C:Calls)(ar:Nat->Nat)(k n:Nat):Prop where
 e:∀ (b:Blk) (X:Cx) (e:Expr) (c:CE),CtxOk T C ar k b X->aF T n b e c=br->PE X e (tE X.K (evE C ar n c))
 tm:∀ (b:Blk) (X:Cx) (e:Expr) (c:CE),CtxOk T C ar k b X->ak c=br->aF T n b e c=br->PE X e (fo X.K (dE C ar n c))
 a:∀ (b:Blk) (X:Cx) (es:List Expr) (cs:List CE),CtxOk T C ar k b X->eG T n b es cs=br->PA X es (tAr X.K (evA C ar n cs))
 t:∀ (b:Blk) (X:Cx) (e:Expr) (c:CE),CtxOk T C ar k b X->fv T n b e c=br->PT X e (tT X.K (evT C ar n c))
 i:∀ (B:List Addr) (b:Blk) (X:Cx) (t e:Expr) (c:CI),CtxOk T C ar k b X->qV T n b t e c=br->PI X t e (tIt X.K B (evI C ar n c))
 cl:∀ (b:Blk) (X:Cx) (e:Expr) (gs:List WG) (elt:CE) (cls:List Cl),CtxOk T C ar k b X->o7 T n b e gs elt cls=br ->
  ∀ (gens:List WG) (scope:Scope) (pos:Pos) (acc:Addr) (d:Nat),gens.drop (d+1)=gs->PTl X (.l e) gens scope pos acc d (tCl X.K acc (ic C ar n elt cls))
section
variable {T:Tab} {C:Calls} {ar:Nat->Nat} {k n:Nat} {b:Blk} {X:Cx}
def cH{e:Expr}{E:List Expr}{c:TE}{t:TA}(h:PE X e c)(f:PA X E t)(H:aQ e=br):PA X (e::E) (dR c t):=Fs h f (al H)
def Qu(I:Snd T C ar k n)(E:List Expr)(f:List CE)(G:CtxOk T C ar k b X)(h:eG T (n+1) b E f=br):PA X E (tAr X.K (evA C ar (n+1) f)):=by
 cases f with
 |nil=>rw[cx h];exact PA.imp p9 λo H Q q=>Lg q
 |cons c f=>
  obtain⟨e,E,rfl,h⟩:=ci h;obtain⟨g,j,h⟩:=an3 h;exact PA.imp (cH (I.e b X e c G g) (I.a b X E f G h) j) λo H Q q=>F1 q
def bV{e:Expr}{c:TE}(h:PE X e c)(H:aQ e=br):PA X [e] (dR c lL):=cH h p9 H
def gY{x:Str}{id:String}{e:Expr}{f:TE}{r:V->Hp->VK->Prop}{p pos:Pos}(hc:aZ X (.builtin id) (r1 r))(G:CtxOk T C ar k b X)(c:b.glo x=br)(j:x ∈ fW)(o:VL x=aD (.builtin id))(u:x ≠ "__name__")(h:PE X e f)(g:aQ e=br) :
  PE X (.Call (.Name x p) [e] [] pos) (tUn r f):=
 PE.imp (eM hc (G.gl c).1 (G.bl x j) o (bV h g) u (G.gl c).2 (al g) rfl) λv H Q q=>q
def jt{x:Str}{id:String}{e:Expr}{f:TE}{r:V->Hp->VK->Prop}{p pos:Pos}(hc:aZ X (.type id) (r1 r))(G:CtxOk T C ar k b X)(c:b.glo x=br)(j:x ∈ fW)(o:VL x=aD (.type id))(u:x ≠ "__name__")(h:PE X e f)(g:aQ e=br) :
  PE X (.Call (.Name x p) [e] [] pos) (tUn r f):=
 PE.imp (jK hc (G.gl c).1 (G.bl x j) o (bV h g) u (G.gl c).2 (al g) rfl) λv H Q q=>q
def wc{x:Str}{e:Expr}{a:CE}{f:Bool->List D->Sto->Option (D × Sto)}{c:List Keyword}{p pos:Pos}(I:Snd T C ar k n)(G:CtxOk T C ar k b X)(j:∀g:TE,PE X e g->PE X (.Call (.Name x p) [e] c pos) (tUn (rSq X.K f) g))(h:aF T n b e a=br) :
  PE X (.Call (.Name x p) [e] c pos) (tE X.K (if ak a=br then zQ f (dE C ar n a) else zR f (evE C ar n a))):=by
 split
 ·rename_i o;exact PE.imp (j _ (I.tm b X e a G o h)) λu H Q q=>Lc q
 ·exact PE.imp (j _ (I.e b X e a G h)) λu H Q q=>Li q
def lA{x y:Str}(h:(x == y)=br):x=y:=eq_of_beq h
def qW{K:Vh}{x:XE}{g:L2.St}{H:Hp}{Q Q':VK}(h:tE K x g H Q)(f:∀v c,Q v c->Q' v c):tE K x g H Q':=by
 obtain⟨m,j,S,d,o,E,R,e,q⟩:=h;exact⟨m,j,S,d,o,E,R,e,λM c v A p=>f _ _ (q M c v A p)⟩
def Dp{x:XE}{y:L2.St}{H:Hp}{Q:VK}{K:Vh}(h:fo K (mR x) y H Q):tUn (rTm K λ_ ds=>aD ds) (tE K x) y H Q:=by
 obtain⟨m,U,S,ds,S',E,R,e,q⟩:=h;obtain⟨d,S1,e1,e⟩:=ae e;cases f:am d S1 with
 |none=>rw[f] at e;cases e
 |some r=>
  rw[f] at e;cases e;refine⟨m,U,S,d,_,E,R,e1,λM H1 v c I=>?_⟩;obtain⟨a,vs,L,sq,g⟩:=eV (tu:=r.1) (ds:=r.2) c.rel I f;refine⟨M,_,r.1,r.2,a,vs,r.2,c.rel,L,sq,g,rfl,λm2 O p J A2 Z B u n3 vw=>?_⟩
  have Y:H p=aT:=by
   cases z:H p with
   |none=>rfl
   |some o=>
    by_cases j:p ∈ m
    ·exact absurd rfl (u p (c.ext.pre.subset j))
    ·have:=c.ext.keep p o z j;rw[n3] at this;cases this
  exact q m2 O p J (c.trans A2) Z B (λb hb=>u b (c.ext.pre.subset hb)) Y vw
def Dq{x:XA}{j:L2.St}{H:Hp}{Q:VK}{K:Vh}(h:fo K x j H Q):tUn (rTm K λ_ ds=>aD ds) (fo K x) j H Q:=by
 obtain⟨m,J,S,ds,S',E,R,e,q⟩:=h;refine⟨m,J,S,ds,S',E,R,e,λM H1 a v c ha na _ _ z=>?_⟩;refine⟨M,_,bx,ds,a,v,ds,c.rel,rfl,show SqL K H1 a v from SqL.of ha,z,rfl,λm2 I p B A2 O y g U Z=>?_⟩
 have L:H p=aT:=by
  cases u:H p with
  |none=>rfl
  |some o=>
   by_cases f:p ∈ m
   ·exact absurd rfl (g p (c.ext.pre.subset f))
   ·have:=c.ext.keep p o u f;rw[U] at this;cases this
 exact q m2 I p B (c.trans A2) O y (λb Y=>g b (c.ext.pre.subset Y)) L Z
abbrev ifT(C:Calls)(ar:Nat->Nat)(n:Nat)(K:Vh):Option CE->TT
 |none=>u4
 |some c=>tT K (evT C ar n c)
def nc(I:Snd T C ar k n)(G:CtxOk T C ar k b X){ifs:List Expr}{cond:Option CE}(h:Di (fv T n b) ifs cond=br):PTs X ifs (ifT C ar n X.K cond):=by
 cases cond with
 |none=>rw[cx h];exact qk
 |some c=>obtain⟨e,rfl,h⟩:=cM h;exact FG (I.t b X e c G h)
def wd{K:Vh}{cond:Option CE}{f:Addr}{c:XA}{D:Ends}{g:L2.St}{H:Hp}(q:tCl K f (cnd (evT C ar n) cond c) D g H):eO (ifT C ar n K cond) (tCl K f c) D g H:=by
 cases cond with
 |none=>exact LR q
 |some c=>exact Go q
def t0(I:Snd T C ar k n)(G:CtxOk T C ar k b X){l:Option Expr}{lo:Option CE}(h:Dh (aF T n b) l lo=br):PO X l (tOI X.K (opt (evE C ar n) lo)):=by
 cases lo with
 |none=>
  cases l with
  |none=>exact PO.imp Fu λf H Q q=>F6 q
  |some _=>cases h
 |some c=>obtain⟨e,rfl,h⟩:=ig h;exact PO.imp (xF (I.e b X e c G h)) λf H Q q=>F7 q
def Ma(y:Snd T C ar k n)(e:Expr)(gs:List WG)(E:CE)(cls:List Cl)(G:CtxOk T C ar k b X)(h:o7 T (n+1) b e gs E cls=br)(c:List WG)(j:Scope)(pos:Pos)(o:Addr)(d:Nat)(hd:c.drop (d+1)=gs) :
  PTl X (.l e) c j pos o d (tCl X.K o (ic C ar (n+1) E cls)):=by
 have imp:∀ {t t':TS},PTl X (.l e) c j pos o d t->(∀D p H,t' D p H->t D p H)->PTl X (.l e) c j pos o d t':=λh f u s p H D I q=>h u s p H D I (f D p H q);cases cls with
 |nil=>
  obtain⟨J,h⟩:=an2 h;cases cx J
  have L:c[d+1]?=aT:=by
   have:=congrArg Zh hd;simp at this;exact Yl.mpr (by omega)
  exact imp (BN G.xe L (y.e b X e E G h)) λD p H q=>Gn q
 |cons g v=>
  obtain⟨tg,Q,cond⟩:=g;obtain⟨⟨t,i,ifs,as⟩,gs',rfl,h⟩:=ci h;obtain⟨J,O,h2,Y,U⟩:=an5 h;cases of_decide_eq_true J
  have L:c[d+1]?=aD ⟨t,i,ifs,0⟩:=by
   have:=congrArg (·[0]?) hd
   simpa using this
  have B:c.drop (d+1+1)=gs':=by
   have:=congrArg (YD 1) hd
   simpa[List.drop_drop] using this
  have M:=dn O (λe Z env=>cy Z) X.env;exact imp (FH L (y.i [o] b X t i Q G O) (ek G h2) (nc y G Y) (y.cl b X e gs' E v G U c j pos o (d+1) B) G.xe G.calm M) λD p H q=>CN (λD p H z=>wd z) q
def Qv(I:Snd T C ar k n)(B:List Addr)(t e:Expr)(c:CI)(G:CtxOk T C ar k b X)(h:qV T (n+1) b t e c=br):PI X t e (tIt X.K B (evI C ar (n+1) c)):=by
 cases c with
 |val a=>
  have h:=an2 h;show PI X t _ (tIt X.K B (if ak a=br then xIT (dE C ar n a) else xIV (evE C ar n a)));split
  ·rename_i J;exact PI.imp (xu (I.tm b X _ a G J h.1)) λu H R q=>SS q
  ·exact PI.imp (PI.or (xu (I.e b X _ a G h.1)) (Bp (I.e b X _ a G h.1))) λu H R q=>SR q
 |chr a=>
  have h:=an2 h;exact PI.imp (LB (I.e b X _ a G h.1)) λu H R q=>LG q
 |wds U v=>
  obtain⟨x,p,rfl,z⟩:=bX h;have z:=an2 z;have g:=G.gl z.2;obtain⟨a,M,O⟩:=G.con U x (.w v) (eq_of_beq z.1);exact PI.imp (Bp (kU (v:=.ref a) g.1 M rfl g.2)) λu H R q=>LI O q
 |r1 a=>
  obtain⟨x,p,q,rfl,o,j,f⟩:=bj h;exact PI.imp (zn (G.gl o).1 (G.bl _ (by decide)) (bV (I.e b X x a G j) f) (al f)) λu H R q=>Qa q
 |r2 a c=>
  obtain⟨x,y,p,q,rfl,o,j,f,Q,E⟩:=eY h;exact PI.imp (zo (G.gl o).1 (G.bl _ (by decide)) (cH (I.e b X x a G j) (bV (I.e b X y c G Q) E) f) (by rw[al f,al E];rfl) (al E)) λu H R q=>Qc q
 |en a=>
  have h:=an2 h;obtain⟨x,p,q,rfl,o,j,f⟩:=bj h.1;obtain⟨L,Y,Z,rfl,_⟩:=De h.2;show PI X _ _ (tIt X.K B (if ak a=br then xET (dE C ar n a) else xEV (evE C ar n a)));split
  ·rename_i J;exact PI.imp (BV (G.gl o).1 (G.bl _ (by decide)) (bV (I.tm b X x a G J j) f) (al f)) λu H R q=>P9 q
  ·exact PI.imp (PI.or (BV (G.gl o).1 (G.bl _ (by decide)) (bV (I.e b X x a G j) f) (al f)) (KZ (G.gl o).1 (G.bl _ (by decide)) (bV (I.e b X x a G j) f) (al f))) λu H R q=>P8 q
end
section
variable {T:Tab} {C:Calls} {ar:Nat->Nat} {k n:Nat} {b:Blk} {X:Cx}
def t5{k:Nat}{A:Around}(r:Room k A):A.units+64 < cLine:=r.units
def ju(K:Vh)(m:List Addr)(H:Hp):∀l:List Nat,VDs K m H (l.map λj=>D.int (Int.ofNat j)) (l.map λ(j:Nat)=>V.int j)
 |[]=>by rw[ZV,ZV,VDs]
 |a::l=>by rw[Zs,Zs,VDs];exact⟨_,_,rfl,bI,ju K m H l⟩
def xo{H:Hp}{p:Addr}{x y:HO}:upd (upd H p x) p y=upd H p y:=by
 funext b
 unfold upd;split <;> rfl
def Rel.adoptO{K:Vh}{m:List Addr}{S:Sto}{H:Hp}{a:Addr}(R:Rel K m S H)(n:a ∉ m){ob:Ob}(h:ObR K (m++[a]) H a ob):Rel K (m++[a]) (S++[ob]) H:=by
 have p:=Yy m [a];have g:∀ {E:List D} {ws:List V},VDs K m H E ws->VDs K (m++[a]) H E ws:=λz=>VDs.mono0 p (λ_ _ t=>t) z;refine⟨by simp[R.len],YU.mpr ⟨R.nd,by simp,λx I y c=>by simp at c;subst c;exactλz=>n (z ▸ I)⟩,λi o e=>?_⟩;by_cases J:i < S.length
 ·rw[Zw J] at e;obtain⟨b,u,r⟩:=R.ob i o e;refine⟨b,cg p u,?_⟩;cases o with
  |lst j=>obtain⟨v,p,q⟩:=r;exact⟨v,p,g q⟩
  |frz j=>obtain⟨o,v,p,q⟩:=r;exact⟨o,v,p,g q⟩
  |dic L j=>obtain⟨v,p,l,q⟩:=r;exact⟨v,p,l,g q⟩
 ·rw[Zn (by lia)] at e
  have f:i - S.length=0:=by
   have:=(Zb.mp e).1;simp at this;lia
  rw[f] at e;have B:ob=o:=by simpa using e
  subst B;refine⟨a,?_,h⟩;rw[Zn (by rw[R.len];lia),R.len,f];rfl
def yv{K:Vh}{m:List Addr}{H:Hp}{S:Sto}{p:Addr}{ks:List Key}{ds:List D}{vs:List V}{Q:VK}(R:Rel K m S H)(h:H p=aT)(v:VDs K m H ds vs)(hl:ks.length=ds.length)(q:∀M c u,Aft K m H (S++[.dic ks ds]) M c->VD K M c (.ref S.length) u->Q u c):Q (.ref p) (upd H p (.dK (ks.zip vs))):=by
 have x:=Ext.beside R h (.dK (ks.zip vs));have f:=R.beside h (.dK (ks.zip vs));refine q (m++[p]) _ _ ⟨x.adopt h,?_⟩ ?_
 ·exact f.adoptO (R.no h) (ob:=.dic ks ds) ⟨vs,aC,hl,VDs.mono0 (Yy m [p]) (λ_ _ t=>t) (v.mono R x)⟩
 ·rw[VD];exact⟨p,by rw[Zn (by rw[R.len];exact Zc _),R.len,Z7];rfl,rfl⟩
def ng{E:List Expr}{a:CE}(h:eG T n b E [a]=br):∃y,E=[y]:=by
 cases n with
 |zero=>exact absurd h Zg
 |succ n=>
  obtain⟨e,E,rfl,h⟩:=ci h;have h:=(an2 h).2;cases n with
  |zero=>exact absurd h Zg
  |succ n=>cases cx h;exact⟨e,rfl⟩
def GF(I:Snd T C ar k n){own:List Str}{E:CE}{v:Tg}{p:CI}{cond:Option CE}{h:List Cl}{e t i:Expr}{ifs:List Expr}{gs:List WG}{f:Scope}{pos:Pos}(G:CtxOk T C ar k b X)
  (J:cmB own (jr own b.N) b.N f b.sc=br) (y:qV T n b t i p=br) (U:tU (b.inner own f) t v=br) (L:Di (fv T n (b.inner own f)) ifs cond=br) (B:o7 T n (b.inner own f) e gs E h=br) :
  PE X (.ListComp e (⟨t,i,ifs,0⟩::gs) f pos) (fo X.K (mP own.length (evI C ar n p) v (cnd (evT C ar n) cond (ic C ar n E h)) LF)):=by
 have S:CmScope own (jr own b.N) b.N f b.sc:=u8 _ J;have O:CmScope own (jr own b.N) X.N f X.env.scope:=by rw[G.hN,G.hs];exact S
 have u:=dn y (λe M env=>cy M) X.env
 refine PE.imp (xL (c:=.l e) (g:=tTg X.K v) (ti:=ifT C ar n X.K cond) (t:=λj=>tCl X.K j (ic C ar n E h)) G.calm O (I.i [] b X t i p G y) (λo ex s H=>ek (G.inner S (C':=o) (ex:=ex) (s:=s) (H:=H)) U) (λo ex s H=>nc I (G.inner S (C':=o) (ex:=ex) (s:=s) (H:=H)) L)
  (λo ex s H j=>I.cl _ _ e gs E h (G.inner S (C':=o) (ex:=ex) (s:=s) (H:=H)) B _ f pos j 0 rfl) u) λY H Q q=>?_
 exact yi (λj D Y H z=>wd z) q
def Mb{x:XE}{O:L2.St}{H:Hp}{Q:VK}{K:Vh}(h:fo K (Ao x) O H Q):tE K x O H λv c=>∃i:Nat,v = .int i/\i<=1000/\∀p,c p=aT->∀l,upd c p (.rng 0 i) l=aT->Q (.ref l) (upd (upd c p (.rng 0 i)) l (.lst ((Zl i).map λ(j:Nat)=>V.int j))):=by
 obtain⟨m,Y,S,ds,M,E,R,e,q⟩:=h;obtain⟨d,S1,e1,e⟩:=ae e;cases d with
 |int i=>
  dsimp only at e;split at e
  ·rename_i hi;cases e;refine⟨m,Y,S,.int i,_,E,R,e1,λm1 c v f U=>⟨i.toNat,by rw[U.ints];congr 1;lia,by lia,λp I l g=>?_⟩⟩;have y:Aft K m1 c M m1 (upd c p (.rng 0 i.toNat)):=⟨Ext.beside f.rel I _,f.rel.beside I _⟩;have Z:Aft K m1 (upd c p (.rng 0 i.toNat)) M m1 (upd (upd c p (.rng 0 i.toNat)) l (.lst ((Zl i.toNat).map λ(j:Nat)=>V.int j))):=⟨Ext.beside y.rel g _,y.rel.beside g _⟩;have u:l ∉ m1:=y.rel.no g
   have J:c l=aT:=by
    cases B:c l with
    |none=>rfl
    |some o=>rw[(Ext.beside f.rel I (.rng 0 i.toNat)).keep l o B u] at g;cases g
   have nH:H l=aT:=by
    cases B:H l with
    |none=>rfl
    |some o=>
     by_cases L:l ∈ m
     ·exact absurd (f.ext.pre.subset L) u
     ·rw[f.ext.keep l o B L] at J;cases J
   refine q m1 _ l _ (f.trans (y.trans Z)) aC u (λb hb z=>u (z ▸ f.ext.pre.subset hb)) nH ?_;exact ju _ _ _ _
  ·cases e
 |_=>cases e
def GG{c:L2.St}{H:Hp}{Q:VK}{K:Vh}(h:tE K C1 c H Q):BH c H Q:=by
 obtain⟨m,g,S,d,j,E,R,e,q⟩:=h;cases e;exactλp f=>yv R f (show VDs K m H [] [] by rw[VDs]) rfl q
def GH{c:L2.St}{H:Hp}{Q:VK}{K:Vh}{i j:Int}(h:tE K (C2 i j) c H Q):BK [(tC (.int i),tC (.int j))] c H Q:=by
 obtain⟨m,g,S,d,o,E,R,e,q⟩:=h;cases e;intro p f;refine⟨aC,[(om i,.int j)],rfl,by simp,?_⟩;rw[xo];exact yv R f (ks:=[om i]) (vs:=[.int j]) (show VDs K m H [.int j] [.int j] by rw[VDs];exact⟨_,_,rfl,bI,by rw[VDs]⟩) rfl q
def Mc{f:Bool->List D->Option (List D)}{x:XE}{B:L2.St}{H:Hp}{Q:VK}{K:Vh}(h:fo K (An f x) B H Q):tUn (rTm K f) (tE K x) B H Q:=by
 obtain⟨m,Z,S,ds,S',E,R,e,q⟩:=h;obtain⟨d,S1,e1,e⟩:=ae e;cases g:am d S1 with
 |none=>rw[g] at e;cases e
 |some r=>
  rw[g] at e;dsimp only at e;cases u:f r.1 r.2 with
  |none=>rw[u] at e;cases e
  |some es=>
  rw[u] at e;cases e;refine⟨m,Z,S,d,_,E,R,e1,λY H1 v c L=>?_⟩;obtain⟨a,vs,O,sq,j⟩:=eV (tu:=r.1) (ds:=r.2) c.rel L g;refine⟨Y,_,r.1,r.2,a,vs,ds,c.rel,O,sq,j,u,λm2 U p M A2 hp J z n3 vw=>?_⟩
  have hn:H p=aT:=by
   cases I:H p with
   |none=>rfl
   |some o=>
    by_cases y:p ∈ m
    ·exact absurd rfl (z p (c.ext.pre.subset y))
    ·have:=c.ext.keep p o I y;rw[n3] at this;cases this
  exact q m2 U p M (c.trans A2) hp J (λb hb=>z b (c.ext.pre.subset hb)) hn vw
def Md{f:Bool->List D->Option (List D)}{x:XA}{z:L2.St}{H:Hp}{Q:VK}{K:Vh}(h:fo K (Am f x) z H Q):tUn (rTm K f) (fo K x) z H Q:=by
 obtain⟨m,U,S,es,S',E,R,e,q⟩:=h;obtain⟨j,S1,e1,e⟩:=ae e;cases g:f bx j with
 |none=>rw[g] at e;cases e
 |some es'=>
 rw[g] at e;cases e;refine⟨m,U,S,j,_,E,R,e1,λM H1 a y c ha na _ _ J=>?_⟩;refine⟨M,_,bx,j,a,y,es,c.rel,rfl,show SqL K H1 a y from SqL.of ha,J,g,λm2 O p L A2 Z I v n3 vw=>?_⟩
 have Y:H p=aT:=by
  cases B:H p with
  |none=>rfl
  |some o=>
   by_cases u:p ∈ m
   ·exact absurd rfl (v p (c.ext.pre.subset u))
   ·have:=c.ext.keep p o B u;rw[n3] at this;cases this
 exact q m2 O p L (c.trans A2) Z I (λb hb=>v b (c.ext.pre.subset hb)) Y vw
def Dt(I:Snd T C ar k n)(e:Expr)(c:CE)(G:CtxOk T C ar k b X)(u:ak c=br)(h:aF T (n+1) b e c=br):PE X e (fo X.K (dE C ar (n+1) c)):=by
 cases c with
 |lst cs=>
  obtain⟨es,p,rfl,E⟩:=mZ h;exact PE.imp (lN (I.a b X es cs G E)) λB H Q q=>F2 q
 |listOf a=>
  obtain⟨x,p,q,rfl,j,o,g⟩:=bj h;show PE X _ (fo X.K (if ak a=br then dE C ar n a else mR (evE C ar n a)));split
  ·rename_i u;exact PE.imp (jt mD G j (by decide) Wx (by decide) (I.tm b X x a G u o) g) λB H Q q=>Dq q
  ·exact PE.imp (jt mD G j (by decide) Wx (by decide) (I.e b X x a G o) g) λB H Q q=>Dp q
 |listR a=>
  obtain⟨x,p,q,rfl,j,o,g⟩:=bj h;obtain⟨y,p',q',rfl,O,h6,L⟩:=bj o
  exact PE.imp (jK (qo G.calm) (G.gl j).1 (G.bl _ (by decide)) Wx (bV (jK sv (G.gl O).1 (G.bl _ (by decide)) PyProof.Rows.boot_range (bV (I.e b X y a G h6) L) (by decide) (G.gl O).2 (al L) rfl) g) (by decide) (G.gl j).2 (al g) rfl) λB H Q q=>qW (Mb q) λv H1 ⟨i,Z,U,z⟩=>by
    subst Z;exact⟨i,rfl,λp hp=>⟨p,i,rfl,aC,U,λl hl=>z p hp l hl⟩⟩
 |srt a=>
  obtain⟨x,p,q,rfl,j,o,g⟩:=bj h;show PE X _ (fo X.K (if ak a=br then Am eX (dE C ar n a) else An eX (evE C ar n a)));split
  ·rename_i u;exact PE.imp (gY oX G j (by decide) Wy (by decide) (I.tm b X x a G u o) g) λB H Q q=>Md (f:=eX) q
  ·exact PE.imp (gY oX G j (by decide) Wy (by decide) (I.e b X x a G o) g) λB H Q q=>Mc (f:=eX) q
 |comp own Y cls=>
  obtain⟨tg,it,cond,M,rfl,hc⟩:=JJ h;obtain⟨el,t,i,ifs,gs,J,p,rfl,E⟩:=yt hc;obtain⟨h0,h1,j,o,g⟩:=an5 E;exact GF I G h0 h1 j o g
 |_=>cases u
def fB{y:Expr}{pos:Pos}(h:aQ y=br):((backTo pos (Ui [y] X.env)).all (λx=>!x.1) && (backToKw pos (keywordEach [] X.env)).all (λx=>x.1.isSome) && decide (([y]:List Expr).length+([]:List Keyword).length+(if ([]:List Keyword).isEmpty then 0 else 1) < 30))=br:=by
 rw[al h];rfl
def Qw(I:Snd T C ar k n)(e:Expr)(c:CE)(G:CtxOk T C ar k b X)(h:aF T (n+1) b e c=br):PE X e (tE X.K (evE C ar (n+1) c)):=by
 have hu:=t5 G.room
 have tmp:ak c=br->evE C ar (n+1) c=eD (dE C ar (n+1) c)->PE X e (tE X.K (evE C ar (n+1) c)):=λht he=>by
  rw[he];exact PE.imp (Dt I e c G ht h) λJ H Q q=>sL q
 cases c with
 |non=>obtain⟨_,_,rfl⟩:=L4 h;exact PE.imp Kl λJ H Q q=>zS (λ_ _=>qE) q
 |bl v=>obtain⟨_,_,rfl⟩:=Dd h;exact PE.imp Bc λJ H Q q=>zS (λ_ _=>b9) q
 |int v=>obtain⟨_,_,rfl⟩:=mY h;exact PE.imp lI λJ H Q q=>zS (λ_ _=>bI) q
 |str v=>obtain⟨_,_,rfl⟩:=v5 h;exact PE.imp pX λJ H Q q=>zS (λ_ _=>dB) q
 |var i=>
  obtain⟨x,p,rfl,Y⟩:=bX h;have Y:=an2 Y;have v:=G.vis Y.2;exact PE.imp (uK (i:=i) (by rw[G.hN];exact eq_of_beq Y.1) v.1 v.2.1 v.2.2) λJ H Q q=>Lf q
 |con k' v=>
  obtain⟨x,p,rfl,Y⟩:=bX h;have Y:=an2 Y;have g:=G.gl Y.2;obtain⟨tk,hm⟩:=G.con k' x (.i v) (eq_of_beq Y.1);exact PE.imp (kU (v:=.int v) g.1 hm ⟨tk,rfl⟩ g.2) λJ H Q q=>zS (λ_ _=>bI) q
 |txc k' v=>
  obtain⟨x,p,rfl,Y⟩:=bX h;have Y:=an2 Y;have g:=G.gl Y.2;obtain⟨tk,hm⟩:=G.con k' x (.s v) (eq_of_beq Y.1);exact PE.imp (kU (v:=.str v) g.1 hm ⟨tk,rfl⟩ g.2) λJ H Q q=>zS (λ_ _=>dB) q
 |tup cs=>obtain⟨Z,_,_,rfl,Y⟩:=De h;exact PE.imp (KH (I.a b X Z cs G Y)) λJ H Q q=>Lh q
 |lst cs=>exact tmp rfl rfl
 |dic0=>obtain⟨p,rfl⟩:=Gz h;exact PE.imp BI λJ H Q q=>GG q
 |dic1 i j=>
  obtain⟨x,y,p,rfl,U,u⟩:=GA h;obtain⟨_,_,rfl⟩:=mY U;obtain⟨_,_,rfl⟩:=mY u;exact PE.imp (BW lI lI) λJ H Q q=>GH q
 |bin o a M=>obtain⟨l,r,p,rfl,u,B⟩:=v7 h;exact PE.imp (Bq (F5 o) (I.e b X l a G u) (I.e b X r M G B)) λJ H Q q=>qD q
 |neg a=>obtain⟨x,p,rfl,Y⟩:=Df h;exact PE.imp (Jm Gp (I.e b X x a G Y)) λJ H Q q=>oP q
 |cmp o a M=>obtain⟨l,r,p,rfl,u,B,L⟩:=v9 h;exact PE.imp (Fo (gX hu o) (I.e b X l a G u) (I.e b X r M G B) (fA L)) λJ H Q q=>qD q
 |chn o p' a M d=>obtain⟨l,r,s,p,rfl,u,B,L,O⟩:=Dg h;exact PE.imp (Bt (gX hu o) (gX hu p') (I.e b X l a G u) (I.e b X r M G B) (I.e b X s d G L) (m8 O)) λJ H Q q=>CQ q
 |and a M=>
  rcases Gv h with h |h
  ·obtain⟨x,y,p,rfl,U,u⟩:=m6 h;exact PE.imp (Bj (I.e b X x a G U) (Bi (I.e b X y M G u))) λJ H Q q=>CP q
  ·obtain⟨x,y,z,ys,p,rfl,U,u⟩:=qT h;exact PE.imp (Bj (I.e b X x a G U) (I.e b X _ M G u)) λJ H Q q=>CP q
 |or a M=>
  rcases Gv h with h |h
  ·obtain⟨x,y,p,rfl,U,u⟩:=m6 h;exact PE.imp (Jf (I.e b X x a G U) (Bi (I.e b X y M G u))) λJ H Q q=>JB q
  ·obtain⟨x,y,z,ys,p,rfl,U,u⟩:=qT h;exact PE.imp (Jf (I.e b X x a G U) (I.e b X _ M G u)) λJ H Q q=>JB q
 |not a=>obtain⟨x,p,rfl,Y⟩:=v8 h;exact PE.imp (Kn (I.e b X x a G Y)) λJ H Q q=>LV q
 |ite t a M=>obtain⟨x,y,z,p,rfl,U,u,B⟩:=L5 h;exact PE.imp (Bk (I.t b X x t G U) (I.e b X y a G u) (I.e b X z M G B)) λJ H Q q=>LW q
 |ix a M=>
  obtain⟨x,y,p,rfl,U,u,B⟩:=JI h;show PE X _ (tE X.K (if ak a=br then vq (dE C ar n a) (evE C ar n M) else sJ ixS (evE C ar n a) (evE C ar n M)));split
  ·rename_i ht;exact PE.imp (BA BB (I.tm b X x a G ht U) (I.e b X y M G u) (m7 B)) λJ H Q q=>Ls q
  ·exact PE.imp (BA (SO hu) (I.e b X x a G U) (I.e b X y M G u) (m7 B)) λJ H Q q=>qD q
 |sl a lo hi=>obtain⟨x,y,z,p,p',rfl,U,u,B⟩:=Qk h;exact PE.imp (Bz SQ (I.e b X x a G U) (t0 I G u) (t0 I G B)) λJ H Q q=>P0 q
 |call f cs=>
  obtain⟨x,e,Z,p,p',rfl,h12,B⟩:=qU (k:=λx=>oA T.fns[f]? (λy=>y.1 == x) && b.glo x) (l:=λZ=>eG T n b Z cs) (e:=e) h;obtain⟨U,u⟩:=an2 h12
  ·obtain⟨y,hy,U⟩:=ig U;have hx:=lA U;subst hx;obtain⟨ha,fa,fd,ps,hm,hk,hb,F⟩:=G.fns f y hy;have E:=bo B;have g:=G.gl u;exact PE.imp (xz F G.room g.1 hm hk hb .nil Qo (I.a b X (e::Z) cs G B) g.2 (al (E e Zd)) (eZ λe he=>E e (Zf _ he))) λJ H Q q=>Gq q
 |inst t a=>
  obtain⟨x,y,p,p',rfl,u,O,h6,h7,_⟩:=eY h;obtain⟨y,p'',rfl,h8⟩:=bX h7;obtain⟨B,L⟩:=an2 h8;have hy:=lA B;subst hy
  have ty:PE X (.Name (Str.ofString t.nm) p'') (tC (.ty t.nm)):=by
   have g:=G.gl L;cases t with
   |int=>exact gJ g.1 (G.bl _ (by decide)) Wv rfl (by decide) g.2
   |bool=>exact gJ g.1 (G.bl _ (by decide)) PyProof.Rows.boot_bool rfl (by decide) g.2
   |tuple=>exact gJ g.1 (G.bl _ (by decide)) WA rfl (by decide) g.2
   |list=>exact gJ g.1 (G.bl _ (by decide)) Wx rfl (by decide) g.2
   |str=>exact gJ g.1 (G.bl _ (by decide)) Wz rfl (by decide) g.2
  exact PE.imp (eM (qp X.K) (G.gl u).1 (G.bl _ (by decide)) Ww (cH (I.e b X x a G O) (bV ty rfl) h6) (by decide) (G.gl u).2 (al h6) rfl) λJ H Q q=>Ga q
 |len a=>obtain⟨x,p,p',rfl,u,B,L⟩:=bj h;exact wc I G (λte z=>gY zX G u (by decide) VM (by decide) z L) B
 |all a=>obtain⟨x,p,p',rfl,u,B,L⟩:=bj h;exact wc I G (λte z=>gY (zZ G.calm) G u (by decide) PyProof.Rows.boot_all (by decide) z L) B
 |strI a=>obtain⟨x,p,p',rfl,u,B,L⟩:=bj h;exact PE.imp (jt Aa G u (by decide) Wz (by decide) (I.e b X x a G B) L) λJ H Q q=>oP q
 |lenS a=>obtain⟨x,p,p',rfl,u,B,L⟩:=bj h;exact PE.imp (gY vM G u (by decide) VM (by decide) (I.e b X x a G B) L) λJ H Q q=>oP q
 |intX a=>obtain⟨x,p,p',rfl,u,B,L⟩:=bj h;exact PE.imp (jt Al G u (by decide) Wv (by decide) (I.e b X x a G B) L) λJ H Q q=>oP q
 |rev a=>obtain⟨x,k,p,p2,p3,p4,rfl,U⟩:=L6 h;exact PE.imp (LZ (I.e b X x a G U)) λJ H Q q=>oP q
 |tupOf a=>obtain⟨x,p,p',rfl,u,B,L⟩:=bj h;exact wc I G (λte z=>jt zY G u (by decide) WA (by decide) z L) B
 |listOf a=>exact tmp rfl rfl
 |listR a=>exact tmp rfl rfl
 |srt a=>exact tmp rfl rfl
 |mx a M=>
  obtain⟨x,Z,p,p',rfl,u,B⟩:=tV (b:=b) (f := "max") (k:=λZ=>eG T n b Z [a,M]) (e:=e) h;have E:=bo B;exact PE.imp (eM (vD G.calm) (G.gl u).1 (G.bl _ (by decide)) PyProof.Rows.boot_max (I.a b X (x::Z) [a,M] G B) (by decide) (G.gl u).2 (al (E x Zd)) (eZ λe he=>E e (Zf _ he))) λJ H Q q=>Ca q
 |mn a M=>
  obtain⟨x,Z,p,p',rfl,u,B⟩:=tV (b:=b) (f := "min") (k:=λZ=>eG T n b Z [a,M]) (e:=e) h;have E:=bo B;exact PE.imp (eM (vE G.calm) (G.gl u).1 (G.bl _ (by decide)) PyProof.Rows.boot_min (I.a b X (x::Z) [a,M] G B) (by decide) (G.gl u).2 (al (E x Zd)) (eZ λe he=>E e (Zf _ he))) λJ H Q q=>Ca q
 |rep a=>obtain⟨x,p,p',rfl,u,B,L⟩:=bj h;exact PE.imp (gY (vR G.room) G u (by decide) PyProof.Rows.boot_repr (by decide) (I.e b X x a G B) L) λJ H Q q=>oP q
 |comp own elt cls=>exact tmp rfl rfl
 |app o a=>
  obtain⟨x,ap,Z,p,rfl,u,B,L,O⟩:=iG h;obtain⟨y,rfl⟩:=ng O;have E:=bo O y (by simp);exact PE.imp (lU WM WO PySem.F.type_list_append LA (I.e b X x o G L) (I.a b X [y] [a] G O) (bZ u) (fB E) B (al E) rfl) λJ H Q q=>mH (λR vd c=>Cu R vd c) q
 |popAt o a=>
  obtain⟨x,ap,Z,p,rfl,u,B,L,O⟩:=iG h;obtain⟨y,rfl⟩:=ng O;have E:=bo O y (by simp);exact PE.imp (lU WM WT PySem.F.type_list_pop Ab (I.e b X x o G L) (I.a b X [y] [a] G O) (bZ u) (fB E) B (al E) rfl) λJ H Q q=>mH (λR vd c=>Cu R vd c) q
 |cnt o a=>
  obtain⟨x,ap,Z,p,rfl,u,B,L,O⟩:=iG h;obtain⟨y,rfl⟩:=ng O;have E:=bo O y (by simp);exact PE.imp (lU PySem.F.plainAttrs_tuple WW PySem.F.type_tuple_count Gc (I.e b X x o G L) (I.a b X [y] [a] G O) (bZ u) (fB E) B (al E) rfl) λJ H Q q=>mH (λR vd c=>Lz R vd c) q
 |join o a=>
  obtain⟨x,ap,Z,p,rfl,u,B,L,O⟩:=iG h;obtain⟨y,rfl⟩:=ng O;have E:=bo O y (by simp);exact PE.imp (lU WN PySem.F.slot_str_join PySem.F.type_str_join Cw (I.e b X x o G L) (I.a b X [y] [a] G O) (bZ u) (fB E) B (al E) rfl) λJ H Q q=>mH (λR vd c=>Cv R vd c) q
 |spl o a=>
  obtain⟨x,ap,Z,p,rfl,u,B,L,O⟩:=iG h;obtain⟨y,rfl⟩:=ng O;have E:=bo O y (by simp);exact PE.imp (lU WN WU PySem.F.type_str_split Ak (I.e b X x o G L) (I.a b X [y] [a] G O) (bZ u) (fB E) B (al E) rfl) λJ H Q q=>mH (λR vd c=>Cv R vd c) q
end
section
variable {T:Tab} {C:Calls} {ar:Nat->Nat} {k n:Nat} {b:Blk} {X:Cx}
def yw{op:BoolOp}{v:List Expr}{p:Pos}{t:TT}(h:PT X (.BoolOp op v p) t):PW X (.BoolOp op v p) t:=λf c s g H Q I q=>h c s g H Q I q
def Qx(I:Snd T C ar k n)(e:Expr)(c:CE)(G:CtxOk T C ar k b X)(h:fv T (n+1) b e c=br):PT X e (tT X.K (evT C ar (n+1) c)):=by
 have B:=t5 G.room
 have dflt:evT C ar (n+1) c=F8 (evE C ar n c)->(aF T n b e c && Gu e)=br->PT X e (tT X.K (evT C ar (n+1) c)):=λM v=>by
  rw[M];have v:=an2 v;exact PT.imp (Bv (I.e b X e c G v.1) (m9 v.2)) λu H Q q=>Lv q
 cases c with
 |cmp o a g=>obtain⟨l,r,p,rfl,f,J,E⟩:=v9 h;exact PT.imp (xv (gX B o) (I.e b X l a G f) (I.e b X r g G J) (fA E)) λu H Q q=>qD (P1 q)
 |chn o L a g d=>obtain⟨l,r,s,p,rfl,f,J,E,O⟩:=Dg h;exact PT.imp (Bu (gX B o) (gX B L) (I.e b X l a G f) (I.e b X r g G J) (I.e b X s d G E) (m8 O)) λu H Q q=>CQ (P1 q)
 |and a g=>
  rcases Gv h with h |h
  ·obtain⟨x,y,p,rfl,j,f⟩:=m6 h;exact PT.imp (Bf (I.t b X x a G j) (Ff (I.t b X y g G f))).pt λu H Q q=>CW q
  ·obtain⟨x,y,z,Y,p,rfl,j,f⟩:=qT h;exact PT.imp (Bf (I.t b X x a G j) (yw (I.t b X _ g G f))).pt λu H Q q=>CW q
 |or a g=>
  rcases Gv h with h |h
  ·obtain⟨x,y,p,rfl,j,f⟩:=m6 h;exact PT.imp (Bg (I.t b X x a G j) (Be (I.t b X y g G f))).pt λu H Q q=>JC q
  ·obtain⟨x,y,z,Y,p,rfl,j,f⟩:=qT h;exact PT.imp (Bg (I.t b X x a G j) (yw (I.t b X _ g G f))).pt λu H Q q=>JC q
 |not a=>obtain⟨x,p,rfl,j⟩:=v8 h;exact PT.imp (Bh (I.t b X x a G j)) λu H Q q=>LY q
 |ite _ _ _=>cases h
 |_=>exact dflt rfl h
def snd:∀n,Snd T C ar k n
 |0=>⟨λb X e c _ h=>absurd h Zg,λb X e c _ _ h=>absurd h Zg,λb X e c _ h=>absurd h Zg,λb X e c _ h=>absurd h Zg,λB b X t e c _ h=>absurd h Zg,λb X e gs E cls _ h=>absurd h Zg⟩
 |n+1=>⟨λb X e c G h=>Qw (snd n) e c G h,λb X e c G H h=>Dt (snd n) e c G H h,λb X g f G h=>Qu (snd n) g f G h,λb X e c G h=>Qx (snd n) e c G h,λB b X t e c G h=>Qv (snd n) B t e c G h,λb X e gs E cls G h=>Ma (snd n) e gs E cls G h⟩
end
inductive CS where |asg (t:Tg)(e:CE) |setI (v o i:CE) |aug (i:Nat)(e:CE) |stg (i j:Nat)(e:CE) |dcs (i:Nat)(own:List Str)(k v:CE)(t:Tg)(it:CI) |ex (e:CE) |ret (e:CE) |ifs (c:CE)(a b:List CS) |for_ (t:Tg)(it:CI)(b:List CS) |cnt |never
abbrev GI:XS:=λ_ _=>aT
mutual
noncomputable def evS(C:Calls)(f:Nat->Nat):Nat->CS->XS
 |0,_=>GI
 |n+1,s=>match s with
  |.asg t e=>mO (evE C f n e) t
  |.setI v o i=>tF (evE C f n v) (evE C f n o) (evE C f n i)
  |.dcs i own k v t it=>Af i own.length (evI C f n it) t (evE C f n k) (evE C f n v) LF
  |.aug i e=>CJ i (evE C f n e)
  |.stg i j e=>CK i j (evE C f n e)
  |.ex e=>tD (evE C f n e)
  |.ret e=>CG (evE C f n e)
  |.ifs c a b=>xIf (evT C f n c) (fV C f n a) (fV C f n b)
  |.for_ t it b=>CH (evI C f n it) t (fV C f n b) LF
  |.cnt=>Qe
  |.never=>GI
noncomputable def fV(C:Calls)(b:Nat->Nat):Nat->List CS->XS
 |0,_=>GI
 |n+1,ss=>match ss with
  |[]=>Jz
  |s::ss=>vT (evS C b n s) (fV C b n ss)
end
abbrev Du:Expr->Bool
 |.Starred _ _=>br
 |_=>bx
abbrev gZ(sc:Scope)(L:Nat)(T:List Expr):List Str:=T.filterMap λ
 |.Name id pos=>if sc.names.lookup id == aD .local && pos.line == L then aD id else aT
 |_=>aT
abbrev yx(sc:Scope)(ts vs:List Expr):Option (Option (List Str)):=
 if (!(ts.length == 2 || ts.length == 3) || vs.length != ts.length)=br then aD aT
 else if (vs.any Du)=br then aD aT
 else if ((gZ sc ((ts.head?.map (·.pos.line)).getD 0) ts).length != ts.length || (gZ sc ((ts.head?.map (·.pos.line)).getD 0) ts).eraseDups.length != (gZ sc ((ts.head?.map (·.pos.line)).getD 0) ts).length)=br then aD aT
 else if (vs.all (foldedForSure 8))=br then aD aT
 else if (vs.all (constantsAlone 8))=br then aT
 else aD (aD (gZ sc ((ts.head?.map (·.pos.line)).getD 0) ts))
def Qy{k k2:Nat}(H:env.blockKind = .function)(hs:env.scope=sc)(h:yx sc ts v=aD r):Uk [.Tuple ts k p] (.Tuple v k2 p2) env=pure r:=by
 unfold yx at h;unfold Uk
 have E:(v.any λ|.Starred ..=>br |_=>bx)=v.any Du:=by
  congr 1
 have g:(ts.filterMap λ
   |.Name id pos=>if env.kindOf id == aD .local && pos.line == ((ts.head?.map (·.pos.line)).getD 0) then aD id else aT
   | _=>aT)=gZ sc ((ts.head?.map (·.pos.line)).getD 0) ts:=by
  unfold gZ Env.kindOf;rw[hs]
 have j:(env.blockKind != .function)=bx:=by rw[H];rfl
 simp only[j,XH];split at h
 ·rename_i C;rw[if_pos C];cases h;rfl
 rename_i C;rw[if_neg C];split at h
 ·rename_i f;cases h;exact if_pos (E.trans f)
 rename_i f;refine Eq.trans (if_neg λz=>f (E.symm.trans z)) ?_;split at h
 ·rename_i c;cases h;rw[<-g] at c;exact if_pos c
 rename_i c;rw[<-g] at c h;refine Eq.trans (if_neg c) ?_;split at h
 ·rename_i b;cases h;exact if_pos b
 rename_i b;refine Eq.trans (if_neg b) ?_;split at h
 ·cases h
 rename_i o;cases h;exact if_neg o
abbrev we:Expr->Option (Scope × Pos)
 |.ListComp _ _ s p=>aD (s,p)
 |.SetComp _ _ s p=>aD (s,p)
 |.DictComp _ _ _ s p=>aD (s,p)
 |_=>aT
abbrev swW(sc:Scope)(v:Expr)(t:Str)(pos:Pos):Bool:=match we v with
 |none=>bx
 |some (s,p)=>sc.names.lookup t == aD .local && pos.line == p.line && !(s.names.any λy=>y.1 == t && (y.2 == .local || y.2 == .cell))
def wg{line:Nat}(h:env.blockKind = .function)(hs:env.scope=sc):Ul v (aD (.Name t pos)) line env=pure (swW sc v t pos):=by
 unfold Ul swW we;have E:(env.blockKind == .function)=br:=by rw[h];rfl
 cases v <;> first |rfl |(simp only[E,ZR,Env.kindOf,hs];rfl)
def nh{L:Nat}(h:∀x p,T ≠ .Name x p):Um [T] v L env=pure bx:=by
 show Ul v (aD T) L env=pure bx;unfold Ul;cases v <;> first |rfl |(cases T <;> first |rfl |(exact absurd rfl (h _ _)))
def g8(h:(∀E k p,v ≠ .Tuple E k p)\/(∃x p,T = .Name x p)\/(∃o i p,T = .Subscript o i p)):Uk [T] v env=pure aT:=by
 unfold Uk;rcases h with h |⟨x,p,rfl⟩ |⟨o,i,p,rfl⟩
 ·split
  ·rename_i e;split at e
   ·exact absurd rfl (h _ _ _)
   ·exact absurd rfl (h _ _ _)
   ·cases e
  ·rfl
 ·rfl
 ·rfl
abbrev nmL:List Expr->Option (List Str)
 |[]=>aD []
 |e::es=>match qR e,nmL es with
  |some r,aD xs=>aD (r.1::xs)
  |_,_=>aT
def gk(h:nmL b=aD (x::xs)):∃p E,b = .Name x p::E/\nmL E=aD xs:=by
 cases b with
 |nil=>cases h
 |cons e b=>
  rw[nmL] at h;split at h
  ·rename_i r y H c;cases h;exact⟨_,b,by rw[fu H],c⟩
  ·cases h
def yy(h:nmL E=aD []):E=[]:=by
 cases E with
 |nil=>rfl
 |cons e E=>
  rw[nmL] at h;split at h <;> cases h
abbrev tgL:List Tg->Option (List Nat)
 |[]=>aD []
 |.name i::ts=>match tgL ts with
  |some is=>aD (i::is)
  |none=>aT
 |.tup _::_=>aT
def Dv:∀ {T:List Tg} {is:List Nat},tgL T=aD is->T=is.map Tg.name
 |[],_,h=>by cases h;rfl
 |.name i::T,is,h=>by
  rw[tgL] at h;cases e:tgL T with
  |none=>rw[e] at h;cases h
  |some j=>rw[e] at h;cases h;rw[Dv e];rfl
 |.tup _::_,_,h=>by cases h
abbrev Qz(b:Blk)(ns:List Str)(is:List Nat):Bool:=match ns with
 | [x,y]=>(match is with
  |[i,j]=>b.N[i]? == aD x && b.N[j]? == aD y && i != j && b.sc.names.lookup x == aD .local && b.sc.names.lookup y == aD .local
  | _=>bx)
 | [x,y,z]=>(match is with
  |[i,j,l]=>b.N[i]? == aD x && b.N[j]? == aD y && b.N[l]? == aD z && i != j && i != l && j != l && b.sc.names.lookup x == aD .local && b.sc.names.lookup y == aD .local && b.sc.names.lookup z == aD .local
  | _=>bx)
 |_=>bx
abbrev SU(e:Expr):Bool:=jY e λ_ _ _ _=>br
abbrev QA(e:Expr):Bool:=e.ctorIdx == 24
abbrev wk(T:Tab)(n:Nat)(b:Blk)(f e:Expr)(t:Tg)(c:CE):Bool:=match t with
 | .name i=>(match qR f with
  |some r=>aF T n b e c && b.N[i]? == aD r.1 && b.own r.1 && (!(swW b.sc e r.1 r.2) || (SU e && b.sc.names.lookup r.1 == aD .local))
  | none=>bx)
 | .tup gs=>(match tS f with
  | some r=>aF T n b e c && (match tS e with
   | some q=>(match yx b.sc r.1 q.1 with
    |some aT=>mX b r.1 gs
    | some (aD ns)=>(match tgL gs with
     |some is=>nmL r.1 == aD ns && q.1.length == ns.length && Qz b ns is
     | none=>bx)
    | none=>bx)
   | none=>!(QA e) && mX b r.1 gs)
  | none=>bx)
abbrev yz(e:Stmt)(k:Option Expr->Pos->Bool):Bool:=if h:e.ctorIdx=3 then @Stmt.Return.elim (λ_=>Bool) e h k else bx
def Au(h:yz e k=br):∃X b,e = .Return X b/\k X b=br:=by
 obtain⟨H,h⟩:=bE h;exact Stmt.Return.elim (motive_2:=λe=>∀c,@Stmt.Return.elim (λ_=>Bool) e c k=br->∃X b,e = .Return X b/\k X b=br) e H (λX b _ f=>⟨X,b,rfl,f⟩) H h
abbrev qX(e:Stmt)(k:List Expr->Expr->Pos->Bool):Bool:=if h:e.ctorIdx=5 then @Stmt.Assign.elim (λ_=>Bool) e h k else bx
def pd(h:qX e k=br):∃X c b,e = .Assign X c b/\k X c b=br:=by
 obtain⟨H,h⟩:=bE h;exact Stmt.Assign.elim (motive_2:=λe=>∀f,@Stmt.Assign.elim (λ_=>Bool) e f k=br->∃X c b,e = .Assign X c b/\k X c b=br) e H (λX c b _ g=>⟨X,c,b,rfl,g⟩) H h
abbrev QB(e:Stmt)(k:Expr->Expr->List Stmt->List Stmt->Pos->Bool):Bool:=if h:e.ctorIdx=9 then @Stmt.For.elim (λ_=>Bool) e h k else bx
def Me(h:QB e k=br):∃b g f c X,e = .For b g f c X/\k b g f c X=br:=by
 obtain⟨H,h⟩:=bE h;exact Stmt.For.elim (motive_2:=λe=>∀o,@Stmt.For.elim (λ_=>Bool) e o k=br->∃b g f c X,e = .For b g f c X/\k b g f c X=br) e H (λb g f c X _ j=>⟨b,g,f,c,X,rfl,j⟩) H h
abbrev jIf(e:Stmt)(k:Expr->List Stmt->List Stmt->Pos->Bool):Bool:=if h:e.ctorIdx=12 then @Stmt.If.elim (λ_=>Bool) e h k else bx
def QC(h:jIf e k=br):∃X f c b,e = .If X f c b/\k X f c b=br:=by
 obtain⟨H,h⟩:=bE h;exact Stmt.If.elim (motive_2:=λe=>∀g,@Stmt.If.elim (λ_=>Bool) e g k=br->∃X f c b,e = .If X f c b/\k X f c b=br) e H (λX f c b _ j=>⟨X,f,c,b,rfl,j⟩) H h
abbrev JL(e:Stmt)(k:Expr->Pos->Bool):Bool:=if h:e.ctorIdx=24 then @Stmt.Expr.elim (λ_=>Bool) e h k else bx
def GJ(h:JL e k=br):∃X b,e = .Expr X b/\k X b=br:=by
 obtain⟨H,h⟩:=bE h;exact Stmt.Expr.elim (motive_2:=λe=>∀c,@Stmt.Expr.elim (λ_=>Bool) e c k=br->∃X b,e = .Expr X b/\k X b=br) e H (λX b _ f=>⟨X,b,rfl,f⟩) H h
abbrev pj(e:Stmt)(k:Pos->Bool):Bool:=if h:e.ctorIdx=27 then @Stmt.Continue.elim (λ_=>Bool) e h k else bx
def t6(h:pj e k=br):∃X,e = .Continue X/\k X=br:=by
 obtain⟨H,h⟩:=bE h;exact Stmt.Continue.elim (motive_2:=λe=>∀b,@Stmt.Continue.elim (λ_=>Bool) e b k=br->∃X,e = .Continue X/\k X=br) e H (λX _ c=>⟨X,rfl,c⟩) H h
abbrev QD(e:Stmt)(k:Expr->W2->Expr->Pos->Bool):Bool:=if h:e.ctorIdx=7 then @Stmt.AugAssign.elim (λ_=>Bool) e h k else bx
def Mf(h:QD e k=br):∃X f c b,e = .AugAssign X f c b/\k X f c b=br:=by
 obtain⟨H,h⟩:=bE h;exact Stmt.AugAssign.elim (motive_2:=λe=>∀g,@Stmt.AugAssign.elim (λ_=>Bool) e g k=br->∃X f c b,e = .AugAssign X f c b/\k X f c b=br) e H (λX f c b _ j=>⟨X,f,c,b,rfl,j⟩) H h
abbrev t7(e:Expr)(k:Expr->Pos->Bool):Bool:=if h:e.ctorIdx=22 then @Expr.Starred.elim (λ_=>Bool) e h k else bx
def wm{e:Expr}{k:Expr->Pos->Bool}(h:t7 e k=br):∃X b,e = .Starred X b/\k X b=br:=by
 obtain⟨H,h⟩:=bE h;exact Expr.Starred.elim (motive_1:=λe=>∀c,@Expr.Starred.elim (λ_=>Bool) e c k=br->∃X b,e = .Starred X b/\k X b=br) e H (λX b _ f=>⟨X,b,rfl,f⟩) H h
abbrev qY(e:Expr):Bool:=e.ctorIdx == 8 || e.ctorIdx == 9 || e.ctorIdx == 10
abbrev Dx(T:Tab)(n:Nat)(b:Blk)(f e:Expr)(i:Nat)(own:List Str)(k v:CE)(t:Tg)(I:CI):Bool:=oA (qR f) λr=>o5 e λh ve gs c _=>l1 gs λg=>
 decide (g.is_async=0) && g.ifs.isEmpty && cmB own (jr own b.N) b.N c b.sc && qV T n b g.target g.iter I && tU (b.inner own c) g.target t && aF T n (b.inner own c) h k && aF T n (b.inner own c) ve v &&
 b.N[i]? == aD r.1 && b.own r.1 && (!(swW b.sc e r.1 r.2) || b.sc.names.lookup r.1 == aD .local)
abbrev wn(k:Expr->Expr->Bool)(s:Stmt):Bool:=qX s λb v _=>l1 b λT=>k T v
abbrev JM(k l m:Expr->Bool)(s:Stmt):Bool:=qX s λb z _=>l1 b λT=>dF T λx y _=>k z && l x && m y && aQ y
abbrev zEx(k:Expr->Bool)(s:Stmt):Bool:=JL s λv _=>k v && !(qY v)
abbrev Av(k:Expr->Bool)(s:Stmt):Bool:=yz s λv _=>oA v k
abbrev zIf(k:Expr->Bool)(l m:List Stmt->Bool)(s:Stmt):Bool:=jIf s λt p q _=>k t && l p && m q
abbrev QE(k:Expr->Expr->Bool)(l:List Stmt->Bool)(s:Stmt):Bool:=QB s λT i p q _=>q.isEmpty && k T i && l p
abbrev QF(s:Stmt):Bool:=pj s λ_=>br
section
variable {s:Stmt} {k l m:Expr->Bool}
def jZ{k:Expr->Expr->Bool}(h:wn k s=br):∃T v p,s = .Assign [T] v p/\k T v=br:=by
 obtain⟨b,v,p,rfl,h⟩:=pd h;obtain⟨T,rfl,h⟩:=cM h;exact⟨T,v,p,rfl,h⟩
def GK(h:JM k l m s=br):∃x y q z p,s = .Assign [.Subscript x y q] z p/\k z=br/\l x=br/\m y=br/\aQ y=br:=by
 obtain⟨b,v,p,rfl,h⟩:=pd h;obtain⟨T,rfl,h⟩:=cM h;obtain⟨x,y,q,rfl,h⟩:=cX h;exact⟨x,y,q,v,p,rfl,an4 h⟩
def JN(h:zEx k s=br):∃v p,s = .Expr v p/\k v=br/\qY v=bx:=by
 obtain⟨v,p,rfl,h⟩:=GJ h;obtain⟨b,H⟩:=an2 h;exact⟨v,p,rfl,b,by cases e:qY v;rfl;rw[e] at H;cases H⟩
def ni(h:Av k s=br):∃v p,s = .Return (aD v) p/\k v=br:=by
 obtain⟨v,p,rfl,h⟩:=Au h;obtain⟨v,rfl,h⟩:=ig h;exact⟨v,p,rfl,h⟩
def Dy{l m:List Stmt->Bool}(h:zIf k l m s=br):∃t p q r,s = .If t p q r/\k t=br/\l p=br/\m q=br:=by
 obtain⟨t,p,q,r,rfl,h⟩:=QC h;exact⟨t,p,q,r,rfl,an3 h⟩
def Mg{k:Expr->Expr->Bool}{l:List Stmt->Bool}(h:QE k l s=br):∃T i p q,s = .For T i p [] q/\k T i=br/\l p=br:=by
 obtain⟨T,i,p,q,r,rfl,h⟩:=Me h;obtain⟨H,z⟩:=an3 h;cases cx H;exact⟨T,i,p,r,rfl,z⟩
def Mh(h:QF s=br):∃p,s = .Continue p:=by obtain⟨p,rfl,_⟩:=t6 h;exact⟨p,rfl⟩
end
mutual
noncomputable def Mi(T:Tab):Nat->Blk->Stmt->CS->Bool
 |0,_,_,_=>bx
 |n+1,b,s,c=>match c with
  |.asg t e=>wn (λf v=>wk T n b f v t e) s
  |.setI v o i=>JM (λx=>aF T n b x v) (λx=>aF T n b x o) (λx=>aF T n b x i) s
  |.dcs i own k v t it=>wn (λf e=>Dx T n b f e i own k v t it) s
  |.aug i c=>QD s λf op e _=>decide (op = .Add) && oA (qR f) λr=>b.N[i]? == aD r.1 && b.own r.1 && aF T n b e c
  |.stg i j c=>wn (λf e=>oA (tS f) λr=>lC r.1 λh q=>l1 q λg=>oA (qR h) λx=>t7 g λy _=>oA (qR y) λy=>b.N[i]? == aD x.1 && b.own x.1 && b.N[j]? == aD y.1 && b.own y.1 && !(QA e) && (tS e).isNone && aF T n b e c) s
  |.ex e=>zEx (λx=>aF T n b x e) s
  |.ret e=>Av (λx=>aF T n b x e) s
  |.ifs c x y=>zIf (λe=>fv T n b e c) (λp=>pw T n b p x) (λp=>pw T n b p y) s
  |.for_ t it x=>QE (λf i=>qV T n b f i it && tU b f t) (λp=>pw T n b p x) s
  |.cnt=>QF s
  |.never=>br
noncomputable def pw(T:Tab):Nat->Blk->List Stmt->List CS->Bool
 |0,_,_,_=>bx
 |n+1,b,ss,cs=>match cs with
  |[]=>ss.isEmpty
  |c::cs=>lC ss λs ss=>Mi T n b s c && pw T n b ss cs
end
section
variable {T:Tab} {C:Calls} {ar:Nat->Nat} {k n:Nat} {b:Blk} {X:Cx}
def GM{c:Nat}(h:aF T (n+1) b (.Tuple E c p) (.tup f)=br):eG T n b E f=br:=h
def Dz{j:Nat}(h:aF T (n+1) b (.Tuple q j p) c=br):∃cs,c = .tup cs:=by
 cases c with
 |tup cs=>exact⟨cs,rfl⟩
 |comp own E cls=>
  cases cls with
  |nil=>exact absurd h Zg
  |cons g f=>obtain⟨o,I,cond⟩:=g;exact absurd h Zg
 |_=>exact absurd h Zg
def iH:∀ (f:List Tg) (ds:List D) (g c:Rho),aP f ds g=aD c->f.length=ds.length
 |[],[],_,_,_=>rfl
 |[],_::_,_,_,e=>by simp[aP] at e
 |_::_,[],_,_,e=>by simp[aP] at e
 |t::f,d::ds,g,c,e=>by
  simp only[aP] at e;split at e
  ·simp[iH _ _ _ _ e]
  ·cases e
def t8{K:Vh}{x:XA}{p:List Tg}{D:Ends}{v:L2.St}{H:Hp}(h:tSt K (mO (kS kT x) (.tup p)) D v H):tAr K x v H λy H1=>∃M f g ds,EnvR K M H1 f v/\VDs K M H1 ds y/\aP p ds f=aD g/\∀c,EnvR K M H1 g c->D.nx c H1:=by
 obtain⟨m,f,S,O,g,U,E,R,e,q⟩:=h;unfold mO at e;cases u:kS kT x f S with
 |none=>rw[u] at e;cases e
 |some r=>
  rw[u] at e;obtain⟨ds,Q,L,j⟩:=ae u;unfold kT at j;split at j
  ·cases j;dsimp only at e;simp only[aB] at e;cases o:aP p ds f with
   |none=>rw[o] at e;cases e
   |some I=>
    rw[o] at e;cases e;exact⟨m,f,S,ds,_,E,R,L,λM H1 y z J=>⟨M,f,_,ds,E.mono R z.ext,J,o,λc B=>q M H1 z c B⟩⟩
  ·cases j
def t9{K:Vh}{x:XA}{g:L2.St}{H:Hp}{Q Q':List V->Hp->Prop}(h:tAr K x g H Q)(f:∀v c,Q v c->Q' v c):tAr K x g H Q':=by
 obtain⟨m,j,S,d,o,E,R,e,q⟩:=h;exact⟨m,j,S,d,o,E,R,e,λM c v A p=>f _ _ (q M c v A p)⟩
def nj{f c:Rho}{i:Nat}{d:D}(h:(if i < f.length then aD (f.set i (aD d)) else aT)=aD c):c=f.set i (aD d):=by
 split at h
 ·cases h;rfl
 ·cases h
def GN{K:Vh}{x:XA}{i j:Nat}{D:Ends}{f:L2.St}{H:Hp}(h:tSt K (mO (kS kT x) (.tup [.name i,.name j])) D f H):Ps i j (tAr K x) D f H:=by
 refine t9 (t8 h) λO J ⟨M,L,o,z,E,B,e,q⟩=>?_;have I:=iH _ _ _ _ e
 match z,I with
 |[a,c],_=>
  obtain⟨v,w,rfl,p,u⟩:=Co B;refine⟨v,w,rfl,q _ ?_⟩;simp only[aP,aB] at e;split at e
  ·rename_i r1 g;have:=nj g;subst this;split at e
   ·rename_i r2 y;have:=nj y;subst this;cases e;exact(E.set p).set u
   ·cases e
  ·cases e
def SV{K:Vh}{m:List Addr}{H:Hp}{a b c:D}{f:List V}(h:VDs K m H [a,b,c] f):∃v w z,f=[v,w,z]/\VD K m H a v/\VD K m H b w/\VD K m H c z:=by
 rw[VDs] at h;obtain⟨v,r,rfl,p,q⟩:=h;obtain⟨w,z,rfl,g,Q⟩:=Co q;exact⟨v,w,z,rfl,p,g,Q⟩
def GO{K:Vh}{x:XA}{i j l:Nat}{D:Ends}{g:L2.St}{H:Hp}(h:tSt K (mO (kS kT x) (.tup [.name i,.name j,.name l])) D g H):Jt i j l (tAr K x) D g H:=by
 refine t9 (t8 h) λZ Y ⟨O,Q,u,M,E,p,e,q⟩=>?_;have J:=iH _ _ _ _ e
 match M,J with
 |[a,c,d],_=>
  obtain⟨v,w,z,rfl,o,I,f⟩:=SV p;refine⟨v,w,z,rfl,q _ ?_⟩;simp only[aP,aB] at e;split at e
  ·rename_i r1 B;have:=nj B;subst this;split at e
   ·rename_i r2 L;have:=nj L;subst this;split at e
    ·rename_i U y;have:=nj y;subst this;cases e;exact((E.set o).set I).set f
    ·cases e
   ·cases e
  ·cases e
def DA(h:aF T (n+1) b (.ListComp e gs f p) c=br):∃own E q I cond g t i ifs j,c = .comp own E (⟨q,I,cond⟩::g)/\gs=⟨t,i,ifs,0⟩::j ∧
  cmB own (jr own b.N) b.N f b.sc=br/\qV T n b t i I=br/\tU (b.inner own f) t q=br/\Di (fv T n (b.inner own f)) ifs cond=br/\o7 T n (b.inner own f) e j E g=br:=by
 cases c with
 |comp own E cls=>
  ·obtain⟨q,I,cond,g,rfl,z⟩:=JJ h;obtain⟨O,t,i,ifs,j,o,M,J,u⟩:=yt z;cases J;obtain⟨v,B,L,y,H⟩:=an5 u;exact⟨own,E,q,I,cond,g,t,i,ifs,j,rfl,rfl,v,B,L,y,H⟩
 |_=>exact absurd h Zg
end
section
variable {K:Vh} {m:List Addr} {H:Hp} {S:Sto}
def ua{f c:Type}(x:f)(y:c):∀ {b:List f} {v:List c},b.length=v.length->(b++[x]).zip (v++[y])=b.zip v++[(x,y)]
 |[],[],_=>rfl
 |_::b,_::v,h=>by
  rw[Yv,Yv,YQ,ua x y (by simpa using h)];rfl
def Aw{p:Nat}(e:Ae p c o S=aD f):∃k b ds,vo c=aD k/\S[p]?=aD (.dic b ds)/\k ∉ b/\b.length < 1000/\f=S.set p (.dic (b++[k]) (ds++[o])):=by
 unfold Ae at e;split at e
 ·rename_i k b ds j g;split at e
  ·rename_i h;cases e;exact⟨k,b,ds,j,g,λz=>of_decide_eq_true (Ze.mp h.1 _ z) rfl,h.2,rfl⟩
  ·cases e
 ·cases e
def se{b:List Key}{c:List V}{k:Key}(v:V)(h:k ∉ b)(hl:b.length=c.length):iz (b.zip c) k v=(b++[k]).zip (c++[v]):=by
 unfold iz;rw[if_neg,ua _ _ hl];intro z;obtain⟨q,f,e⟩:=YZ.mp z;have e:q.1=k:=of_decide_eq_true e;have g:=(YN (show(q.1,q.2) ∈ b.zip c from f)).1;exact h (e ▸ g)
def Mj{p:Nat}{g:Addr}{k v:XE}{D:Ends}{O:L2.St}{T:Fl}(Q:m[p]?=aD g)(E:EnvR K m H f O)(R:Rel K m S H)(e:tG p k v f S=aD (T,u,S'))(q:∀X U,Aft K m H S' X U->tz K X U T u D):BM g (tE K k) (tE K v) D O H:=by
 unfold tG at e;cases C:k f S with
 |none=>rw[C] at e;cases e
 |some r1=>
  obtain⟨dk,L⟩:=r1;rw[C] at e;dsimp only at e;cases M:v f L with
  |none=>rw[M] at e;cases e
  |some r2=>
   obtain⟨J,Z⟩:=r2;rw[M] at e;dsimp only at e;cases B:Ae p dk J Z with
   |none=>rw[B] at e;cases e
   |some S3=>
    rw[B] at e;cases e;obtain⟨z,j,ds,I,hn,hc,hl,rfl⟩:=Aw B;refine⟨m,f,S,_,L,E,R,C,λm1 H1 x c vk=>⟨m1,f,L,J,Z,E.mono R c.ext,c.rel,M,λm2 H2 y b vv=>?_⟩⟩;obtain⟨a,Y,o,hH,hk,h⟩:=b.rel.ob p _ hn;rw[cg (c.trans b).ext.pre Q] at Y;cases Y;have hz:j.length=o.length:=hk.trans h.length;refine⟨j.zip o,z,hH,ya I (vk),by rw[Ug,List.length_zip];lia,?_⟩;rw[se y hc hz];have w:=b.rel.writeO (cg (c.trans b).ext.pre Q) (.dK ((j++[z]).zip (o++[y]))) (.dic (j++[z]) (ds++[J])) λx=>⟨o++[y],aC,by simp[hk],VDs.mono b.rel x (h.append (.cons vv .nil))⟩;exact q _ _ ((c.trans b).trans ⟨w.1,w.2⟩) O (E.mono R ((c.trans b).trans ⟨w.1,w.2⟩).ext)
def EnvR.wide{n:Nat}(E:EnvR K m H b c):EnvR K m H (b++Zp n aT) (c++Zp n aT):=by
 refine⟨by simp[E.len],λi d e=>?_⟩;by_cases h:i < b.length
 ·rw[Zw h] at e;rw[Zw (by rw[<-E.len];exact h)];exact E.at_ i d e
 ·rw[Zn (by lia),Yo] at e;split at e <;> cases e
def DB{i own n:Nat}{I:XI}{U:Tg}{k v:XE}{D:Ends}{Z:L2.St}(h:tSt K (Af i own I U k v n) D Z H):uM (ql (.dK []) own (tIt K [] I) (tTg K U) λacc=>eO u4 (BM acc (tE K k) (tE K v))) (i5 i) D Z H:=by
 obtain⟨m,Q,S,fl,ρ',S',E,R,e,q⟩:=h;unfold Af at e;cases u:I Q S with
 |none=>rw[u] at e;cases e
 |some r=>
  obtain⟨nx,C⟩:=r;rw[u] at e;dsimp only at e;refine⟨m,Q,S,nx,C,E,R,λb z=>absurd z (by simp),u,λM p J f hI acc c=>?_⟩;split at e
  ·rename_i ρ2 Y hf;cases e;have x0:=Ext.beside f.rel c (.dK []);have X:Ext M p (M++[acc]) (upd p acc (.dK [])):=x0.adopt c;have T:Rel K (M++[acc]) (C++[.dic [] []]) (upd p acc (.dK [])):=(f.rel.beside c (.dK [])).adoptO (f.rel.no c) (ob:=.dic [] []) ⟨[],aC,rfl,.nil⟩;have E1:=E.mono R (f.ext.trans X);have g:(M++[acc])[C.length]?=aD acc:=by rw[Zn (by rw[f.rel.len];exact Zc _),f.rel.len,Z7];rfl
   have L:IOk K [] J nx (M++[acc]) (upd p acc (.dK [])):=λB Y y j x R2=>hI B Y y j ((X.trans ⟨x.pre,λa o h n=>x.keep a o h n (by simp),x.new⟩).toB λb z=>absurd z (by simp)) R2;exact yg L (λx E R e q=>Mj (cg x.pre g) E R e q) n E1.wide T (Ext.refl _ _) hf λB y O σ2 _=>q B y (f.trans (Aft.trans ⟨X,T⟩ O)) _ ((E.mono R (f.ext.trans (X.trans O.ext))).set (by rw[VD];exact⟨acc,cg O.ext.pre g,rfl⟩))
  ·cases e
end
section
variable {T:Tab} {C:Calls} {ar:Nat->Nat} {k n:Nat} {b:Blk} {X:Cx}
def Ml(G:CtxOk T C ar k b X)(hb:X.env.blockKind = .function){tg e:Expr}{i:Nat}{own:List Str}{ck y:CE}{t:Tg}{I:CI}{p:Pos}(h:Dx T n b tg e i own ck y t I=br):PS X (.Assign [tg] e p) (tSt X.K (Af i own.length (evI C ar n I) t (evE C ar n ck) (evE C ar n y) LF)):=by
 obtain⟨r,Q,h⟩:=ig h;obtain⟨z,ve,gs,f,Z,rfl,h⟩:=tQ h;obtain⟨⟨M,L,ifs,as⟩,rfl,h⟩:=cM h;simp only[bAE] at h;obtain⟨⟨⟨⟨⟨⟨⟨⟨⟨h1,h2⟩,h3⟩,E⟩,h5⟩,h6⟩,U⟩,Y⟩,h9⟩,B⟩:=h;cases of_decide_eq_true h1;cases cx h2;rw[fu Q];have S:CmScope own (jr own b.N) b.N f b.sc:=u8 _ h3;have S':CmScope own (jr own b.N) X.N f X.env.scope:=by rw[G.hN,G.hs];exact S
 have J:=wg (sc:=b.sc) (v:=.DictComp z ve [⟨M,L,[],0⟩] f Z) (t:=r.1) (pos:=r.2) (line:=p.line) hb G.hs;have o:=G.own h9;have nd:X.N.Nodup:=by rw[G.hN];exact G.nd
 have hi:X.N[i]?=aD r.1:=by rw[G.hN];simpa using Y
 cases hw:swW b.sc (.DictComp z ve [⟨M,L,[],0⟩] f Z) r.1 r.2 with
 |false=>
  rw[hw] at J
  refine PS.imp (Bn (by rw[G.hN];exact G.nd) (by rw[G.hN];simpa using Y) o.1 (xL (c:=.d z ve) (g:=tTg X.K t) (ti:=u4) (t:=λj=>BM j (tE X.K (evE C ar n ck)) (tE X.K (evE C ar n y))) G.calm S' ((snd n).i [] b X M L I G E)
   (λu ex s H=>ek (G.inner S (C':=u) (ex:=ex) (s:=s) (H:=H)) h5) (λu ex s H=>qk) (λu ex s H j=>xK rfl rfl ((snd n).e _ _ z ck (G.inner S (C':=u) (ex:=ex) (s:=s) (H:=H)) h6) ((snd n).e _ _ ve y (G.inner S (C':=u) (ex:=ex) (s:=s) (H:=H)) U)) (dn E (λe O env=>cy O) X.env)) J o.2) λD σ H q=>DB q
 |true=>
  rw[hw] at J B;have Q:X.env.scope.names.lookup r.1=aD .local:=by rw[G.hs];simpa using B
  refine PS.imp (xM (c:=.d z ve) (g:=tTg X.K t) (ti:=u4) (t:=λj=>BM j (tE X.K (evE C ar n ck)) (tE X.K (evE C ar n y))) G.calm S' nd hi Q ((snd n).i [] b X M L I G E)
   (λu ex s H=>ek (G.inner S (C':=u) (ex:=ex) (s:=s) (H:=H)) h5) (λu ex s H=>qk) (λu ex s H j=>xK rfl rfl ((snd n).e _ _ z ck (G.inner S (C':=u) (ex:=ex) (s:=s) (H:=H)) h6) ((snd n).e _ _ ve y (G.inner S (C':=u) (ex:=ex) (s:=s) (H:=H)) U)) J (dn E (λe O env=>cy O) X.env)) λD σ H q=>DB q
end
section
variable {T:Tab} {C:Calls} {ar:Nat->Nat} {k n:Nat} {b:Blk} {X:Cx}
def qZ(h:X.env.scope.kind = .function):X.env.blockKind = .function:=by
 unfold Env.blockKind;rw[h];rfl
def GP{c:Type}{l:List c}(h:l.length=2):∃a b,l=[a,b]:=by
 match l,h with
 |[a,b],_=>exact⟨a,b,rfl⟩
def Ax{f:Type}{l:List f}(h:l.length=3):∃a b c,l=[a,b,c]:=by
 match l,h with
 |[a,b,c],_=>exact⟨a,b,c,rfl⟩
def Mm(G:CtxOk T C ar k b X)(hk:X.env.scope.kind = .function){tg e:Expr}{t:Tg}{c:CE}{p:Pos}(h:wk T n b tg e t c=br):PS X (.Assign [tg] e p) (tSt X.K (mO (evE C ar n c) t)):=by
 have hb:=qZ hk;unfold wk at h;cases t with
 |name i=>
  dsimp only at h;cases I:qR tg with
  |none=>rw[I] at h;cases h
  |some r=>
  obtain⟨x,px⟩:=r;rw[I] at h;rw[fu I];simp only[bAE] at h;obtain⟨⟨⟨J,h2⟩,f⟩,h4⟩:=h;have hi:X.N[i]?=aD x:=by rw[G.hN];simpa using h2
  have nd:X.N.Nodup:=by rw[G.hN];exact G.nd
  have o:=G.own f;have sw:=wg (sc:=b.sc) (v:=e) (t:=x) (pos:=px) (line:=p.line) hb G.hs;cases E:swW b.sc e x px with
  |false=>
   rw[E] at sw;exact PS.imp (Bn nd hi o.1 ((snd n).e b X e c G J) sw o.2) λD σ H q=>qW (vU q) λv H' z=>qO z
  |true=>
   rw[E] at h4 sw;simp only[Bool.not_true,Wj,bAE] at h4;obtain⟨h5,h4⟩:=h4;obtain⟨el,gs,u,pp,rfl,_⟩:=kB h5
   ·cases n with
    |zero=>exact absurd J Zg
    |succ n=>
     obtain⟨own,elt,tg',it,cond,L,tt,ii,ifs,gs',rfl,rfl,c0,c1,c2,c3,c4⟩:=DA J;have S:CmScope own (jr own b.N) b.N u b.sc:=u8 _ c0;have S':CmScope own (jr own b.N) X.N u X.env.scope:=by rw[G.hN,G.hs];exact S
     have hpl:=dn c1 (λe he env=>cy he) X.env;have I:X.env.scope.names.lookup x=aD .local:=by rw[G.hs];simpa using h4
     refine PS.imp (xM (c:=.l el) (g:=tTg X.K tg') (ti:=ifT C ar n X.K cond) (t:=λB=>tCl X.K B (ic C ar n elt L)) G.calm S' nd hi I ((snd n).i [] b X tt ii it G c1) (λC' ex s H=>ek (G.inner S (C':=C') (ex:=ex) (s:=s) (H:=H)) c2) (λC' ex s H=>nc (snd n) (G.inner S (C':=C') (ex:=ex) (s:=s) (H:=H)) c3)
      (λC' ex s H B=>(snd n).cl _ _ el gs' elt L (G.inner S (C':=C') (ex:=ex) (s:=s) (H:=H)) c4 _ u pp B 0 rfl) sw hpl) λD σ H q=>?_
     exact yi (λB D σ H z=>wd z) (sL (qW (vU q) λv H' z=>qO z))
 |tup gs=>
  dsimp only at h;cases I:tS tg with
  |none=>rw[I] at h;cases h
  |some r=>
  obtain⟨Q,kt,pt⟩:=r;rw[I] at h;rw[ly I];simp only[bAE] at h;obtain⟨J,f⟩:=h;have so:Um [.Tuple Q kt pt] e p.line X.env=pure bx:=nh λx p z=>nomatch z
  have plain:∀ (E:Uk [.Tuple Q kt pt] e X.env=pure aT) (hg:mX b Q gs=br),PS X (.Assign [.Tuple Q kt pt] e p) (tSt X.K (mO (evE C ar n c) (.tup gs))):=λE hg=>
   PS.imp (jJ ((snd n).e b X e c G J) (ek G (e:=.Tuple Q kt pt) (t:=.tup gs) hg) so E rfl) λD σ H q=>vU q
  cases Z:tS e with
  |none=>
   rw[Z] at f;simp only[bAE] at f;exact plain (g8 (.inl λes k p z=>by rw[z] at Z;cases Z)) f.2
  |some q=>
   obtain⟨es,ke,pe⟩:=q;rw[Z] at f;obtain rfl:=ly Z;cases n with
   |zero=>exact absurd J Zg
   |succ n=>
    obtain⟨cs,rfl⟩:=Dz J;have ha:=GM J;dsimp only at f;cases hr:yx b.sc Q es with
    |none=>rw[hr] at f;cases f
    |some w=>
     have E:=Qy (k:=kt) (p:=pt) (k2:=ke) (p2:=pe) hb G.hs hr;rw[hr] at f;cases w with
     |none=>exact plain E f
     |some ns=>
      dsimp only at f;cases ht:tgL gs with
      |none=>rw[ht] at f;cases f
      |some is=>
       rw[ht] at f;simp only[bAE] at f;obtain⟨⟨U,Y⟩,f⟩:=f;have hn:nmL Q=aD ns:=by simpa using U
       have hl:es.length=ns.length:=by simpa using Y
       clear U Y;obtain rfl:=Dv ht;unfold Qz at f;split at f
       ·rename_i x y;split at f
        ·rename_i i j;obtain⟨p1,t1,rfl,O⟩:=gk hn;obtain⟨p2,t2,rfl,M⟩:=gk O;obtain rfl:=yy M;obtain⟨a1,a2,rfl⟩:=GP hl;simp only[bAE] at f;obtain⟨⟨⟨⟨q2,q3⟩,q4⟩,q5⟩,q6⟩:=f;exact PS.imp (Kt (i:=i) (j:=j) G.calm (by rw[G.hN];exact G.nd) (by rw[G.hN];simpa using q2) (by rw[G.hN];simpa using q3) (by simpa using q4) (by rw[G.hs];simpa using q5) (by rw[G.hs];simpa using q6) ((snd n).a b X _ cs G ha) E so) λD σ H q=>GN q
        ·cases f
       ·rename_i x y z;split at f
        ·rename_i i j l;obtain⟨p1,t1,rfl,O⟩:=gk hn;obtain⟨p2,t2,rfl,M⟩:=gk O;obtain⟨p3,t3,rfl,hn3⟩:=gk M;obtain rfl:=yy hn3;obtain⟨a1,a2,a3,rfl⟩:=Ax hl;simp only[bAE] at f;obtain⟨⟨⟨⟨⟨⟨⟨⟨q2,q3⟩,q3'⟩,q4⟩,q4'⟩,q4''⟩,q5⟩,q6⟩,q7⟩:=f;exact PS.imp (FL (i:=i) (j:=j) (k:=l) G.calm (by rw[G.hN];exact G.nd) (by rw[G.hN];simpa using q2) (by rw[G.hN];simpa using q3) (by rw[G.hN];simpa using q3') (by simpa using q4) (by simpa using q4') (by simpa using q4'') (by rw[G.hs];simpa using q5) (by rw[G.hs];simpa using q6) (by rw[G.hs];simpa using q7) ((snd n).a b X _ cs G ha) E so) λD σ H q=>GO q
        ·cases f
       ·cases f
def ub{L:Nat}(h:qY v=bx):Ul v aT L X.env=pure bx:=by
 unfold Ul;cases v <;> first |rfl |(exact absurd h (λz=>Zg z.symm))
structure SndS(T:Tab)(C:Calls)(ar:Nat->Nat)(k n:Nat):Prop where
 s:∀ (b:Blk) (X:Cx) (s:Stmt) (c:CS),CtxOk T C ar k b X->X.env.scope.kind = .function->Mi T n b s c=br->PS X s (tSt X.K (evS C ar n c))
 ss:∀ (b:Blk) (X:Cx) (s:List Stmt) (c:List CS),CtxOk T C ar k b X->X.env.scope.kind = .function->pw T n b s c=br->PSs X s (tSt X.K (fV C ar n c))
def QG{K:Vh}{D:Ends}{f:L2.St}{H:Hp}(h:tSt K GI D f H):False:=by
 obtain⟨m,j,S,g,c,o,E,R,e,q⟩:=h;cases e
def Mn:∀n,SndS T C ar k n
 |0=>⟨λb X s c _ _ h=>absurd h Zg,λb X s c _ _ h=>absurd h Zg⟩
 |n+1=>by
  have I:=Mn n;refine⟨λb X s c G B h=>?_,λb X ss M G B h=>?_⟩
  ·have hp:PassesOwn (model X.prog X.w) X.A X.env X.xe:=by rw[G.xe];exact PassesOwn.never
   cases c with
   |asg t e=>obtain⟨J,v,p,rfl,f⟩:=jZ h;exact Mm G B f
   |setI v o i=>
    obtain⟨x,y,px,z,p,rfl,f,g,E,pl⟩:=GK h
    exact PS.imp (jJ ((snd n).e b X z v G f) (Ks ((snd n).e b X x o G g) ((snd n).e b X y i G E) P5 (λv=>by
     cases y <;> first | rfl | (exact absurd pl Zg))) (nh λx p z=>nomatch z) (g8 (.inr (.inr ⟨_,_,_,rfl⟩))) rfl) λD u H q=>Gm q
   |dcs i own k v t it=>obtain⟨J,e,p,rfl,h⟩:=jZ h;exact Ml G (qZ B) h
   |aug i e=>
    obtain⟨J,op,v,p,rfl,h⟩:=Mf h;obtain⟨f,h⟩:=an2 h;cases of_decide_eq_true f;obtain⟨r,U,h⟩:=ig h;obtain⟨f,g,E⟩:=an3 h;rw[fu U];have o:=G.own g;exact PS.imp (Ku (by rw[G.hN];exact G.nd) (by rw[G.hN];simpa using f) o.1 ((snd n).e b X v e G E) CF o.2) λD u H q=>LP q
   |stg i j c=>
    obtain⟨J,e,p,rfl,h⟩:=jZ h;obtain⟨⟨es,k0,p0⟩,U,h⟩:=ig h;obtain⟨t1,ts,O,h⟩:=ci h;obtain⟨t2,e2,h⟩:=cM h;obtain⟨x,L,h⟩:=ig h;obtain⟨y0,sp,e3,h⟩:=wm h;obtain⟨y,Q,h⟩:=ig h;simp only[bAE] at h;obtain⟨⟨⟨⟨⟨⟨f,g⟩,E⟩,h4⟩,h5⟩,Z⟩,h7⟩:=h;have O:es=t1::ts:=O;subst O e2 e3;rw[ly U,fu L,fu Q];have nd:X.N.Nodup:=by rw[G.hN];exact G.nd
    have Y:=G.own g;have o2:=G.own h4;exact PS.imp (jJ ((snd n).e b X e c G h7) (Gi G.calm (kW nd (by rw[G.hN];simpa using f) Y.1 Y.2) (kW nd (by rw[G.hN];simpa using E) o2.1 o2.2) rfl) (nh λx p z=>nomatch z) (g8 (.inl λes k p z=>by rw[z] at Z;cases Z)) rfl) λD u H q=>LQ q
   |ex e=>obtain⟨v,p,rfl,f,g⟩:=JN h;exact PS.imp (xq ((snd n).e b X v e G f) (ub g)) λD u H q=>Gk q
   |ret e=>obtain⟨v,p,rfl,f⟩:=ni h;exact PS.imp (uL ((snd n).e b X _ _ G f)) λD u H q=>LL q
   |ifs c x y=>obtain⟨t,p,q,r,rfl,f,g,E⟩:=Dy h;exact PS.imp (xr ((snd n).t b X _ _ G f) (I.ss b X _ _ G B g) (I.ss b X _ _ G B E)) λD u H q=>Qf q
   |for_ t it x=>
    obtain⟨J,i,p,pos,rfl,f,g⟩:=Mg h;have f:=an2 f;exact PS.imp (Kw hp G.calm ((snd n).i [] b X _ _ _ G f.1) (ek G f.2) (I.ss b X _ _ G B g) (dn f.1 (λe he env=>cy he) X.env)) λD u H q=>LN q
   |cnt=>obtain⟨p,rfl⟩:=Mh h;exact PS.imp rV λD u H q=>LM q
   |never=>exact PS.imp rX λD u H q=>(QG q).elim
  ·cases M with
   |nil=>rw[cx h];exact PSs.imp iY λD u H q=>Gj q
   |cons c M=>
    obtain⟨s,ss,rfl,h⟩:=ci h;have h:=an2 h;exact PSs.imp (bK (I.s b X s c G B h.1) (I.ss b X ss M G B h.2)) λD u H q=>LK q
end
abbrev wIs(b:Blk)(x:Str)(e:Expr):Bool:=qS b "isinstance" (fR λy=>b.N[0]? == aD y && b.vis y) (fR λy=>y == x && b.glo y) e
abbrev wo(k:Str->Expr->Bool):List Str->List Expr->Bool
 |[],E=>E.isEmpty
 |x::xs,E=>lC E λe E=>aQ e && k x e && wo k xs E
abbrev wV(b:Blk)(i:Nat)(e:Expr):Bool:=fR (λy=>b.N[i]? == aD y && b.vis y) e
abbrev wTg(b:Blk)(i:Nat)(e:Expr):Bool:=fR (λy=>b.N[i]? == aD y && b.own y) e
abbrev wMt(b:Blk)(m:Str)(e:Expr):Bool:=v0 m (wV b 1) (λE=>l1 E λe=>sBl br e) e
abbrev yA(b:Blk)(c:List Str)(s:Stmt):Bool:=wn (λT v=>wTg b 1 T && Gw .Add (wV b 1) (Ar (wo (wIs b) c)) v) s
abbrev QH(b:Blk)(c:List Str)(s:Stmt):Bool:=wn (λT v=>wTg b 1 T && Ar (wo (wIs b) c) v) s
abbrev QI(b:Blk)(s:Stmt):Bool:=zIf (As .Or (Gy .NotEq (wMt b "count") (Ap 1)) (Gx (wIs b "ValueError"))) (λss=>l1 ss λs=>Av (Aq "other") s) (λss=>ss.isEmpty) s
abbrev QJ(b:Blk)(c:List Str)(s:Stmt):Bool:=wn (λT v=>wTg b 2 T && Ar (wo Aq c) v) s
abbrev QK(b:Blk)(c:List Str)(s:Stmt):Bool:=Av (sIx (Gw .Add (wV b 2) (Ar (wo Aq c))) (wMt b "index")) s
abbrev wq(b:Blk)(c f:List Str)(ss:List Stmt):Bool:=
 iA b.N && b.N.length == 3 && b.glo "isinstance" && lC ss λj ss=>lC ss λu ss=>lC ss λo ss=>lC ss λg ss=>lC ss λh ss=>lC ss λq ss=>l1 ss λp=>
  QH b (c.take 4) j && yA b ((c.drop 4).take 4) u && yA b ((c.drop 8).take 4) o && yA b (c.drop 12) g && QI b h && (QJ b (f.take 12) q && QK b (f.drop 12) p)
abbrev j3(H h:Hp):Prop:=∀p o,H p=aD o->h p=aD o
def j3.upd(h:H p=aT):j3 H (L2.upd H p o):=λq u e=>by rw[aw (aV e h)];exact e
def j3.trans(a:j3 H h)(b:j3 h H2):j3 H H2:=λp o e=>b p o (a p o e)
section
variable {X:Cx}
def Ay:MtR X "list.count" (λx f H Q=>∃l xs y,x = .ref l/\f=[y]/\H l=aD (.lst xs)/\bT y=br/\xs.all bT=br/\Q (.int ((xs.countP λz=>eqV z y:Nat):Int)) H):=by
 intro c s J H x f v U Q I C g h;obtain⟨p,xs,y,rfl,rfl,j,E,fs,q⟩:=h;cases C;obtain⟨u,rfl,o⟩:=g.one;obtain⟨_,b,n,r,e⟩:=I.hok p _ j;refine VO WQ ⟨_,e,rfl⟩ PySem.F.entry_list_count (PySem.F.args_list_count_2 _ _) (SeqAt.list_countAt p b.toArray n aT #[] u (eqU y)) ⟨e,λw B=>cE o E r fs w (by simpa using B),?_⟩;refine⟨.int _,H,I.tok _,⟨_,rfl⟩,?_⟩
 have z:(b.toArray.toList.countP (eqU y))=xs.countP λz=>eqV z y:=by
  rw[Y3];exact iB r fs
 rw[z];exact q
def Az:MtR X "list.index" (λx O H Q=>∃l xs y,∃j:Nat,∃z,x = .ref l/\O=[y]/\H l=aD (.lst xs)/\bT y=br/\xs.all bT=br/\j < 100/\xs[j]?=aD z/\eqV z y=br/\(∀ (m:Nat) z,m < j->xs[m]?=aD z->eqV z y=bx)/\Q (.int (j:Int)) H):=by
 intro M s σ H x O v us Q I rx T h;obtain⟨p,xs,y,j,z,rfl,rfl,Y,fy,fs,hj,L,C,B,q⟩:=h;cases rx;obtain⟨u,rfl,Z⟩:=T.one;obtain⟨_,b,n,r,e⟩:=I.hok p _ Y
 have at_:∀m (o:m < b.toArray.size),∃w,xs[m]?=aD w/\eqU y b.toArray[m]=eqV w y:=λm o=>by
  have c:m < xs.length:=by rw[r.length];simpa using o
  obtain⟨u',U,rr⟩:=r.get (i:=m) (gEG c);refine⟨xs[m],gEG c,?_⟩
  have E:b.toArray[m]=u':=by
   have:=Zb.mp U;obtain⟨_,z⟩:=this
   simpa using z
  rw[E];exact qe rr (Ze.mp fs _ (ZK c))
 have g:j < b.toArray.size:=by have:=(Zb.mp L).1;rw[r.length] at this;simpa using this
 refine VO WR ⟨_,e,rfl⟩ PySem.F.entry_list_index (PySem.F.args_list_index_2 _ _) (SeqAt.list_indexAt p b.toArray n aT #[] u (eqU y) j g (by lia) ?_ ?_) ⟨e,λw f=>cE Z fy r fs w (by simpa using f),?_⟩
 ·obtain⟨w,f,E⟩:=at_ j g;rw[L] at f;cases f;rw[E];exact C
 ·intro m o J;obtain⟨w,f,E⟩:=at_ m o;rw[E];exact B m w J f
 ·exact⟨.int _,H,I.tok _,⟨_,rfl⟩,q⟩
end
section
variable {X:Cx} {b:Blk} {a C R:Addr}
def uc(hs:X.env.scope=b.sc)(h:b.glo x=br):Gl X x/\(x == ("__debug__" : Str))=bx:=by
 unfold Blk.glo at h;rw[bAE] at h;refine⟨?_,by simpa using h.2⟩;show X.env.scope.names.lookup x=_;rw[hs]
 simpa using h.1
def pA(hs:X.env.scope=b.sc)(hN:X.N=b.N){i:Nat}(h:wV b i e=br):PE X e (Kk i):=by
 obtain⟨x,p,rfl,g⟩:=bX h;obtain⟨f,H⟩:=an2 g;unfold Blk.vis at H;rw[bAE,bAE] at H;refine uK (i:=i) (by rw[hN];exact eq_of_beq f) ?_ (by simpa using H.1.2) (by simpa using H.2);unfold Vis;rw[hs];have c:=H.1.1;split at c
 ·rename_i e;exact .inl e
 ·rename_i e;exact .inr (.inl e)
 ·rename_i e;exact .inr (.inr e)
 ·cases c
def DC(hC:bG X.base C (.ref R::bmV))(hR:bG X.base R bmV):aZ X (.builtin "isinstance") (λxs H Q=>∃D,xs=[.ref a,.ref D]/\H a=aD (exO a C)/\o9 X.base D/\D ≠ R/\Q (.bl (C == D)) H):=by
 intro p s v H xs u Q I rs h;obtain⟨D,rfl,f,⟨g,o,sl,c⟩,j,q⟩:=h;cases rs with
 |cons r1 rs=>
  cases rs with
  |cons r2 rs=>
   cases rs;cases r1;cases r2;exact isx (hC.keeps I.bk) (hR.keeps I.bk) (I.hok a _ f).1 ⟨g,o,sl,I.bk _ _ c⟩ j λT=>⟨.bl _,H,I.tok _,rfl,q⟩
def DD(hC:bG X.base C (.ref R::bmV))(hR:bG X.base R bmV):aZ X (.builtin "isinstance") (λxs H Q=>xs=[.ref a,.ty "ValueError"]/\H a=aD (exO a C)/\Q (.bl br) H):=by
 intro p s f H xs u Q I rs h;obtain⟨rfl,c,q⟩:=h;cases rs with
 |cons r1 rs=>
  cases rs with
  |cons r2 rs=>
   cases rs;cases r1;cases r2;exact isv (hC.keeps I.bk) (hR.keeps I.bk) (I.hok a _ c).1 λT=>⟨.bl _,H,I.tok _,rfl,q⟩
def SX(hs:X.env.scope=b.sc)(hN:X.N=b.N)(I:X.mg "isinstance" = aT)(hC:bG X.base C (.ref R::bmV))(hR:bG X.base R bmV){x:Str}{D:Addr}{e:Expr}(z:X.mg x=aD (.ref D))(h:wIs b x e=br) :
  PE X e (λj H Q=>j[0]?=aD (aD (.ref a))/\H a=aD (exO a C)/\o9 X.base D/\D ≠ R/\Q (.bl (C == D)) H):=by
 obtain⟨O,y,p,M,rfl,g,J,f,o,_⟩:=eY h;obtain⟨y,L,rfl,u⟩:=bX o;obtain⟨E,c⟩:=an2 u;have B:=eq_of_beq E;subst B;exact PE.imp (eM (DC (a:=a) hC hR) (uc hs g).1 I Ww (cH (pA hs hN J) (bV (kU (v:=.ref D) (uc hs c).1 z rfl (uc hs c).2) rfl) f) (by decide) (uc hs g).2 (al f) rfl) λj H Q q=>⟨_,q.1,D,rfl,q.2.1,q.2.2.1,q.2.2.2.1,q.2.2.2.2⟩
def QL(hs:X.env.scope=b.sc)(hN:X.N=b.N)(I:X.mg "isinstance" = aT)(B:X.mg "ValueError" = aT)(hC:bG X.base C (.ref R::bmV))(hR:bG X.base R bmV)(h:wIs b "ValueError" e=br) :
  PE X e (λj H Q=>j[0]?=aD (aD (.ref a))/\H a=aD (exO a C)/\Q (.bl br) H):=by
 obtain⟨O,y,p,M,rfl,g,J,f,o,_⟩:=eY h;obtain⟨y,L,rfl,u⟩:=bX o;obtain⟨E,c⟩:=an2 u;have z:=eq_of_beq E;subst z;exact PE.imp (eM (DD (a:=a) hC hR) (uc hs g).1 I Ww (cH (pA hs hN J) (bV (gJ (v:=.ty "ValueError") (uc hs c).1 B PyProof.Rows.Boot.«ValueError» rfl (by decide) (uc hs c).2) rfl) f) (by decide) (uc hs g).2 (al f) rfl) λj H Q q=>⟨_,q.1,rfl,q.2.1,q.2.2⟩
inductive Cls2(X:Cx)(R:Addr):List Str->List Addr->Prop
 |nil:Cls2 X R [] []
 |cons {x:Str} {D:Addr} {xs:List Str} {Ds:List Addr}:X.mg x=aD (.ref D)->o9 X.base D->D ≠ R->Cls2 X R xs Ds->Cls2 X R (x::xs) (D::Ds)
def DE(hs:X.env.scope=b.sc)(hN:X.N=b.N)(f:X.mg "isinstance" = aT)(hC:bG X.base C (.ref R::bmV))(hR:bG X.base R bmV):∀ {j:List Str} {g:List Addr} {E:List Expr},Cls2 X R j g->wo (wIs b) j E=br ->
  PA X E (λc H Q=>c[0]?=aD (aD (.ref a))/\H a=aD (exO a C)/\Q (g.map λD=>.bl (C == D)) H)
 |_,_,E,.nil,h=>by rw[cx h];exact PA.imp p9 λc H Q q=>q.2.2
 |_,_,E,.cons h1 h2 h3 t,h=>by
  obtain⟨e,E,rfl,h⟩:=ci h;obtain⟨u,p,o⟩:=an3 h;exact PA.imp (cH (SX hs hN f hC hR h1 p) (DE hs hN f hC hR t o) u) λc H Q q=>⟨q.1,q.2.1,h2,h3,q.1,q.2.1,q.2.2⟩
def wr:∀ {c:List Str} {E:List Expr},wo Aq c E=br->PA X E (λf H Q=>Q (c.map V.str) H)
 |[],E,h=>by rw[cx h];exact PA.imp p9 λf H Q q=>q
 |w::c,E,h=>by
  obtain⟨e,E,rfl,h⟩:=ci h;obtain⟨j,p,g⟩:=an3 h;obtain⟨_,_,rfl⟩:=v5 p;exact PA.imp (cH pX (wr g) j) λf H Q q=>q
def Mo(hs:X.env.scope=b.sc)(hN:X.N=b.N)(f:X.fn=λ_=>br)(H:b.N.Nodup){i:Nat}(h:wTg b i e=br):∃x p,e = .Name x p/\PG X e (i5 i):=by
 obtain⟨x,p,rfl,g⟩:=bX h;obtain⟨j,c⟩:=an2 g;refine⟨x,p,rfl,kW (by rw[hN];exact H) (by rw[hN];exact eq_of_beq j) ?_ (.inl (by rw[f]))⟩;unfold Blk.own at c;unfold L2.Loc;rw[hs];split at c
 ·rename_i e;exact .inl e
 ·rename_i e;exact .inr e
 ·cases c
def wt{L:Nat}(H:X.env.blockKind = .function)(hs:X.env.scope=b.sc)(h:we e=aT):Um [.Name x p] e L X.env=pure bx:=by
 have z:=wg (sc:=b.sc) (v:=e) (t:=x) (pos:=p) (line:=L) H hs;unfold swW at z;rw[h] at z;exact z
abbrev AA(a C:Addr)(c:L2.St)(H:Hp):Prop:=c.length=3/\c[0]?=aD (aD (.ref a))/\H a=aD (exO a C)
def gm{i:Nat}(x:AA a C c H)(h:i ≠ 0)(e:j3 H H2):AA a C (c.set i (aD v)) H2:=⟨by simpa using x.1,by rw[ZE h];exact x.2.1,e _ _ x.2.2⟩
variable (hk:X.env.blockKind = .function) (hs:X.env.scope=b.sc) (hN:X.N=b.N) (hf:X.fn=λ_=>br) (hnd:b.N.Nodup) (hb:X.mg "isinstance" = aT) (hv:X.mg "ValueError" = aT) (hC:bG X.base C (.ref R::bmV)) (hR:bG X.base R bmV)
include hk hs hN hf hnd hb hC hR in
def QM(y:Cls2 X R z o)(hl:o.length<=100)(h:QH b z s=br):PS X s (λD j H=>AA a C j H/\∀q c,j3 H c->c q=aD (.lst (o.map λD=>.bl (C == D)))->D.nx (j.set 1 (aD (.ref q))) c):=by
 obtain⟨T,v,p,rfl,h⟩:=jZ h;obtain⟨u,f⟩:=an2 h;obtain⟨x,E,rfl,g⟩:=Mo hs hN hf hnd u;obtain⟨I,B,rfl,f⟩:=mZ f;refine PS.imp (jJ (lN (DE (a:=a) hs hN hb hC hR y f)) g (wt hk hs rfl) (g8 (.inr (.inl ⟨_,_,rfl⟩))) rfl) λD j H Q=>?_;obtain⟨e,q⟩:=Q;exact⟨e.2.1,e.2.2,by rw[Za,Ug];lia,λl hl=>q l _ (j3.upd hl) aC⟩
include hk hs hN hf hnd hb hC hR in
def ww(J:Cls2 X R O E)(hl:E.length<=100)(h:yA b O s=br):PS X s (λD c H=>AA a C c H/\∃l xs,c[1]?=aD (aD (.ref l))/\H l=aD (.lst xs)/\xs.length<=100/\∀q j,j3 H j->j q=aD (.lst (xs++E.map λD=>.bl (C == D)))->D.nx (c.set 1 (aD (.ref q))) j):=by
 obtain⟨tg,v,p,rfl,h⟩:=jZ h;obtain⟨M,U⟩:=an2 h;obtain⟨x,p1,rfl,g⟩:=Mo hs hN hf hnd M;obtain⟨y,z,Y,rfl,I,o⟩:=v7 U;obtain⟨es,Z,rfl,o⟩:=mZ o;refine PS.imp (jJ (Bq uW (pA hs hN I) (lN (DE (a:=a) hs hN hb hC hR J o))) g (wt hk hs rfl) (g8 (.inr (.inl ⟨_,_,rfl⟩))) rfl) λD c H Q=>?_;obtain⟨e,l,xs,f,u,T,q⟩:=Q;refine⟨_,f,e.2.1,e.2.2,by rw[Za,Ug];lia,λp B=>?_⟩;refine⟨l,p,xs,_,rfl,rfl,j3.upd B _ _ u,aC,by rw[Za,Ug];lia,λr L=>?_⟩;exact q r _ ((j3.upd B).trans (j3.upd L)) aC
include hs hN in
def QN(h:wMt b "count" e=br):PE X e (λj H Q=>∃l xs,j[1]?=aD (aD (.ref l))/\H l=aD (.lst xs)/\xs.all bT=br/\Q (.int ((xs.countP λz=>eqV z (.bl br):Nat):Int)) H):=by
 obtain⟨x,v,E,p,rfl,c,g,o,f⟩:=iG h;obtain⟨y,rfl,f⟩:=cM f;obtain⟨_,_,rfl⟩:=Dd f;exact PE.imp (lU WM WQ PySem.F.type_list_count Ay (pA hs hN o) (bV Bc rfl) (bZ c) (fB rfl) g (al rfl) rfl) λj H Q ⟨l,xs,u,c,g,q⟩=>⟨_,u,.inl ⟨rfl,xs,SqL.of c⟩,l,xs,.bl br,rfl,rfl,c,rfl,g,q⟩
include hs hN in
def QO(h:wMt b "index" e=br):PE X e (λo H Q=>∃l xs,∃j:Nat,∃z,o[1]?=aD (aD (.ref l))/\H l=aD (.lst xs)/\xs.all bT=br/\j < 100/\xs[j]?=aD z/\eqV z (.bl br)=br/\(∀ (m:Nat) z,m < j->xs[m]?=aD z->eqV z (.bl br)=bx)/\Q (.int (j:Int)) H):=by
 obtain⟨x,B,E,p,rfl,c,g,u,f⟩:=iG h;obtain⟨y,rfl,f⟩:=cM f;obtain⟨_,_,rfl⟩:=Dd f;exact PE.imp (lU WM WR PySem.F.type_list_index Az (pA hs hN u) (bV Bc rfl) (bZ c) (fB rfl) g (al rfl) rfl) λo H Q ⟨l,xs,j,z,v,c,g,q⟩=>⟨_,v,.inl ⟨rfl,xs,SqL.of c⟩,l,xs,.bl br,j,z,rfl,rfl,c,rfl,g,q⟩
include hs hN hb hv hC hR in
def QP(h:QI b s=br):PS X s (λD f H=>AA a C f H/\(∃l xs,f[1]?=aD (aD (.ref l))/\H l=aD (.lst xs)/\xs.all bT=br/\(xs.countP λz=>eqV z (.bl br))=1)/\D.nx f H):=by
 obtain⟨t,p,q,r,rfl,o,c,j⟩:=Dy h;obtain⟨s,rfl,c⟩:=cM c;obtain⟨v,U,rfl,c⟩:=ni c;obtain⟨_,_,rfl⟩:=v5 c;rw[cx j];obtain⟨x,y,T,rfl,g,J⟩:=m6 o;obtain⟨l,z,L,rfl,I,B,O⟩:=v9 g;obtain⟨_,_,rfl⟩:=mY B;obtain⟨w,M,rfl,u⟩:=v8 J
 have E:Gu w=br:=by
  obtain⟨_,_,_,_,rfl,_⟩:=eY u;rfl
 refine PS.imp (xr (Bg (xv Px (QN hs hN I) lI (fA rfl)) (Be (Bh (Km (QL (a:=a) hs hN hb hv hC hR u) (m9 E))))).pt (iZ (uL pX)) iY) λD f H Q=>?_;obtain⟨e,⟨l,xs,o,c,j,g⟩,q⟩:=Q;refine⟨l,xs,o,c,j,rfl,_,rfl,?_⟩;rw[g];show if (!decide (V.int ((1:Nat):Int)=V.int 1))=br then _ else _
 rw[if_neg (by decide)];refine⟨e.2.1,e.2.2,br,rfl,?_⟩;show if (!br)=br then _ else _
 rw[if_neg (by decide)];exact q
include hk hs hN hf hnd in
def QQ(hl:j.length<=100)(h:QJ b j s=br):PS X s (λD o H=>∀q c,j3 H c->c q=aD (.lst (j.map V.str))->D.nx (o.set 2 (aD (.ref q))) c):=by
 obtain⟨T,v,p,rfl,h⟩:=jZ h;obtain⟨u,f⟩:=an2 h;obtain⟨x,z,rfl,g⟩:=Mo hs hN hf hnd u;obtain⟨E,y,rfl,f⟩:=mZ f;refine PS.imp (jJ (lN (wr f)) g (wt hk hs rfl) (g8 (.inr (.inl ⟨_,_,rfl⟩))) rfl) λD o H q=>?_;exact⟨by rw[Za,Ug];lia,λl hl=>q l _ (j3.upd hl) aC⟩
include hs hN in
def QR(hl:B.length<=100)(h:QK b B s=br):PS X s (λD g H=>∃l xs m ys,∃j:Nat,∃z w,g[1]?=aD (aD (.ref l))/\H l=aD (.lst xs)/\xs.all bT=br/\j < 100/\xs[j]?=aD z/\eqV z (.bl br)=br/\(∀ (m:Nat) z,m < j->xs[m]?=aD z->eqV z (.bl br)=bx) ∧
  g[2]?=aD (aD (.ref m))/\H m=aD (.lst ys)/\ys.length<=100/\(ys++B.map V.str)[j]?=aD w/\∀o,j3 H o->D.rt w o):=by
 obtain⟨v,p,rfl,h⟩:=ni h;obtain⟨x,y,p1,rfl,Y,h2,T⟩:=JI h;obtain⟨x1,x2,p2,rfl,M,f⟩:=v7 Y;obtain⟨es,p3,rfl,f⟩:=mZ f;refine PS.imp (uL (BA Fw (Bq uW (pA hs hN M) (lN (wr f))) (QO hs hN h2) (m7 T))) λD g H Q=>?_;obtain⟨l,xs,m,ys,j,z,w,U,L,J,I,a5,a6,Z,b1,O,b3,E,q⟩:=Q;refine⟨_,b1,by rw[Za,Ug];lia,λp c=>⟨m,p,ys,_,rfl,rfl,j3.upd c _ _ O,aC,by rw[Za,Ug];lia,λr u=>?_⟩⟩;refine⟨l,xs,j,z,U,j3.upd u _ _ (j3.upd c _ _ L),J,I,a5,a6,Z,r,_,(j:Int),w,rfl,rfl,SqL.of aC,?_,q _ ((j3.upd c).trans (j3.upd u))⟩;have hj:=(Zb.mp E).1;unfold atI ixN;rw[if_pos (Int.natCast_nonneg j),if_pos (by lia)]
 simpa using E
include hk hs hN hf hb hv hC hR in
def GQ{u B:List Str}{c:List Addr}{i:Nat}{w:Str}{ss:List Stmt}(c1:Cls2 X R (u.take 4) (c.take 4))(c2:Cls2 X R ((u.drop 4).take 4) ((c.drop 4).take 4))(c3:Cls2 X R ((u.drop 8).take 4) ((c.drop 8).take 4))(c4:Cls2 X R (u.drop 12) (c.drop 12))
  (hl:c.length<=100) (hws:B.length<=100) (hnd:c.Nodup) (y:c[i]?=aD C) (hw:B[i]?=aD w) (h:wq b u B ss=br) :
  PSs X ss (λD σ H=>AA a C σ H/\∀J,j3 H J->D.rt (.str w) J):=by
 unfold wq at h;obtain⟨h1,h2,_,k0⟩:=an4 h;clear h;obtain⟨s1,ss1,j,k1⟩:=ci k0;subst j;obtain⟨s2,ss2,p,k2⟩:=ci k1;subst p;obtain⟨s3,ss3,E,k3⟩:=ci k2;subst E;obtain⟨s4,ss4,o,k4⟩:=ci k3;subst o;obtain⟨s5,ss5,e5,k5⟩:=ci k4;subst e5;obtain⟨s6,ss6,e6,k6⟩:=ci k5;subst e6;obtain⟨s7,e7,k7⟩:=cM k6;subst e7;obtain⟨g1,g2,g3,g4,g5,I⟩:=an6 k7;obtain⟨I,g7⟩:=an2 I;have nd:=gb h1;have t1:(c.take 4).length<=100:=by rw[ZA];lia
 have t2:((c.drop 4).take 4).length<=100:=by rw[ZA];lia
 have t3:((c.drop 8).take 4).length<=100:=by rw[ZA];lia
 have t4:(c.drop 12).length<=100:=by rw[Yg];lia
 refine PSs.imp (bK (QM (a:=a) hk hs hN hf nd hb hC hR c1 t1 g1) (bK (ww (a:=a) hk hs hN hf nd hb hC hR c2 t2 g2) (bK (ww (a:=a) hk hs hN hf nd hb hC hR c3 t3 g3) (bK (ww (a:=a) hk hs hN hf nd hb hC hR c4 t4 g4) (bK (QP (a:=a) hs hN hb hv hC hR g5)
  (bK (QQ hk hs hN hf nd (by rw[ZA];lia) I) (iZ (QR hs hN (by rw[Yg];lia) g7))))))) ) λD σ H ⟨e,q⟩=>?_
 have el:=e.1;refine⟨e,λZ H1 U y1=>?_⟩;have j:=gm (v:=.ref Z) e (by decide:1 ≠ 0) U;refine⟨j,Z,_,by rw[ZD (by lia)],y1,by rw[Za];exact t1,λq2 J x2 y2=>?_⟩;have p:=gm (v:=.ref q2) j (by decide:1 ≠ 0) x2;refine⟨p,q2,_,by rw[ZD (by have:=j.1;lia)],y2,by rw[Zi,Za,Za,ZA,ZA];lia,λM H3 x3 y3=>?_⟩;have E:=gm (v:=.ref M) p (by decide:1 ≠ 0) x3;refine⟨E,M,_,by rw[ZD (by have:=p.1;lia)],y3,by rw[Zi,Zi,Za,Za,Za,ZA,ZA,ZA];lia,λQ H4 O Y=>?_⟩;have o:=gm (v:=.ref Q) E (by decide:1 ≠ 0) O
 have all:(((c.take 4).map (λD=>V.bl (C == D))++((c.drop 4).take 4).map (λD=>V.bl (C == D)))++((c.drop 8).take 4).map (λD=>V.bl (C == D)))++(c.drop 12).map (λD=>V.bl (C == D))=c.map λD=>V.bl (C == D):=by
  rw[<-Zv,<-Zv,<-Zv]
  congr 1
  have z1:c.take 4++(c.drop 4).take 4=c.take 8:=by rw[show 8=4+4 from rfl,Wl]
  have z2:c.take 8++(c.drop 8).take 4=c.take 12:=by rw[show 12=8+4 from rfl,Wl]
  rw[z1,z2,YF]
 rw[all] at Y;have T:(c.map λD=>V.bl (C == D)).all bT=br:=by rw[ZW];exact Ze.mpr λ_ _=>rfl
 have g:∀D:Addr,eqV (V.bl (C == D)) (.bl br)=(C == D):=λD=>by cases C == D <;> rfl
 have at_:∀ (m:Nat) z,(c.map λD=>V.bl (C == D))[m]?=aD z->∃D,c[m]?=aD D/\z = .bl (C == D):=λm z f=>by
  rw[Zo] at f;cases hd:c[m]? with
  |none=>rw[hd] at f;cases f
  |some D=>rw[hd] at f;cases f;exact⟨D,rfl,rfl⟩
 refine⟨o,⟨Q,_,by rw[ZD (by have:=E.1;lia)],Y,T,?_⟩,λq5 H5 L y5=>?_⟩
 ·rw[Wd]
  have:((λz=>eqV z (V.bl br)) ∘ λD=>V.bl (C == D))=λD=>D == C:=by
   funext D
   show eqV (V.bl (C == D)) (.bl br)=_;rw[g,Bool.beq_comm]
  rw[this];show c.count C=1;rw[hnd.count,if_pos (Zy y)]
 ·have e5:=gm (v:=.ref q5) o (by decide:2 ≠ 0) L;have hil:=(Zb.mp y).1;refine⟨Q,_,q5,_,i,.bl (C == C),.str w,?_,L _ _ Y,T,by lia,by rw[Zo,y];rfl,by rw[g,beq_self_eq_true],λm z hm f=>?_,?_,y5,by rw[Za,ZA];lia,?_,λH6 x6=>?_⟩
  ·rw[ZE (by decide),ZD (by have:=E.1;lia)]
  ·obtain⟨D,hD,rfl⟩:=at_ m z f;rw[g];refine Z3.mpr λq=>?_;have z:C=D:=by simpa using q
   subst z;obtain⟨i1,j1⟩:=Zb.mp hD;obtain⟨i2,j2⟩:=Zb.mp y;have z2:m=i:=(YW hnd).mp (j1.trans j2.symm)
   lia
  ·rw[ZD (by have:=o.1;lia)]
  ·rw[<-Zv,YF,Zo,hw];rfl
  ·exact q H6 ((((U.trans x2).trans x3).trans O).trans (L.trans x6))
end
section
variable {X:Cx}
def Mp(h:PA X.nox E t):PA X E t:=λpos p s g H Q I b=>
 UM (h pos p s g H Q (I.wish _) b) (λ_ _ ⟨v,f,c,r,q⟩=>⟨v,f,c.unwish,r,q⟩) λ_ _ z=>False.elim z
def Mq(h:PS X.nox s t):PS X s t:=λp s c H D I b=>
 UM (h p s c H D (I.wish _) b) (λ_ _ z=>SP.unwish z) λ_ _ z=>False.elim z
end
noncomputable abbrev cxM(P:Program)(w:World)(K:Vh)(mg:Str->Option Value)(base:Heap)(N:List Str)(q:Str)(b:Scope)(f:Addr)(c:Value)(A:Around)(outer:List Env)(s:Shared)(H:Hp):Cx:=
 { nV CX0 P w K mg base N q b f c { A with handled:=aT } outer s H E0 with A:=A.deeper (envOfC q b s.heap.objs.size f c),calm:=false,xe:=λ_ _=>False }
section
variable {P:Program} {w:World} {K:Vh} {mg:Str->Option Value} {base:Heap} {A:Around} {outer:List Env} {s:Shared} {H:Hp}
def DF{x g:Str}{st:Stmt}{f:Addr}{T:WZ}{N ps:List Str}{U:List Value}{L:List V}{Q:VK}(F:Fun K x g st f T)(S:FnScope N ps (ao st))(hd:A.depth < recursionLimit)(E:Env0 P w K mg base A outer s H)(hb:BindsTo s T ⟨U,[]⟩ (ps.zip U))(r:aK L U)(hl:L.length=ps.length)
  (B:∀C,∃t,PSs (cxM P w K mg base N g (ao st) f C A outer s H) (bw st) t/\t { nx:=λ_ j=>Q .non j,rt:=Q } (dS N L) H) :
  codeAny (model P w) A (.call (.ref f) ⟨U,[]⟩) (λr s'=>match r with |.ok (.ret u)=>L2.CE outer P w H s Q u s' |_=>False) s:=by
 obtain⟨oc,od,kV,Y,pm,an,C,ct,Z,rfl,lk,M⟩:=F.ex;have X:K.In s.heap:=E.mod.kin.keeps λb o e=>(E.bs b o e).1;have lim:s.heap.NoLimit:=E.mod.nolimit.keeps λb o e=>(E.bs b o e).1
 have p:∀y ∈ ps.zip U,(ao st).names.lookup y.1=aD .local\/((ao st).names.lookup y.1=aD .cell/\((VQ (s.heap.objs.size+1) (ao st).names []).lookup y.1).isSome=br):=λ⟨n,v⟩ hy=>by
  rcases S.par n (YN hy).1 with q |q
  ·exact .inl q
  ·exact .inr ⟨q,Vj _ _ _ (.inl q)⟩
 refine VS hd (X _ _ lk) rfl S.co S.gen rfl (Vm X M) (hb _ _ _ _ ?_);refine UN S.kind p λenv he s1 x=>?_;subst he;refine⟨lim.keeps x.toInCall.keep,codeAny_func ?_⟩;obtain⟨t,ht,hq⟩:=B C;have e1:Env0 P w K mg base { A with handled:=aT } outer s H:=⟨E.frames,E.mod,E.bs,E.bsz,E.funs,E.frf,E.hok,E.bare⟩;have c:L2.Inv (nV CX0 P w K mg base N g (ao st) f C { A with handled:=aT } outer s H E0) [] (dS N L) H s1:=oB S rfl e1 hl r x
 have I:L2.Inv (cxM P w K mg base N g (ao st) f C A outer s H) [] (dS N L) H s1:=
  ⟨⟨c.ok.mod,c.ok.kind,c.ok.glob,c.ok.blt,c.ok.above,c.ok.inj,c.ok.has,c.ok.cab,λz=>(nomatch z),c.ok.frames,c.ok.stk,c.ok.exf,c.ok.bs,c.ok.bsz,c.ok.noex,c.ok.exfs,c.ok.funs,c.ok.frf⟩,c.os,c.bare,c.base,c.loc,c.cell,c.free,c.freeC,c.pin,c.hok,c.len⟩
 refine UM (ht [] s1 (dS N L) H _ I hq) (λfl s' hs=>?_) λe s' hs=>hs.elim
 have fin:∀ {h:L2.St} {j:Hp} {v:V} {u:Value},L2.Inv (cxM P w K mg base N g (ao st) f C A outer s H) [] h j s'->aG v u->Q v j->L2.CE outer P w H s Q u s':=
  λ{h j v u} J O q=>⟨v,j,J.os,J.bare,J.base,J.hok,O,q⟩
 cases fl with
 |ret u=>
  obtain⟨v,h,j,J,O,q⟩:=hs;exact fin J O q
 |next=>
  obtain⟨h,j,J,q⟩:=hs;exact fin (v:=V.non) (u:=Value.none) J rfl q
 |brk=>
  obtain⟨_,_,_,q⟩:=hs;exact False.elim q
 |cont=>
  obtain⟨_,_,_,q⟩:=hs;exact False.elim q
end
abbrev AB:List Str:=["meadow", "sky", "landings", "order", "lot", "text", "name", "glider", "minute", "aim", "many", "bound", "deed", "row", "way"]
abbrev wx(i:Nat):Option Str:=if i < 14 then AB[i]? else aT
structure XInf(K:Vh)(mg:Str->Option Value)(R:Addr)(Ds:List Addr):Prop where
 ring:mg "RingError" = aD (.ref R)
 ve:mg "ValueError" = aT
 isi:mg "isinstance" = aT
 hR:∀h,K.In h->bG h R bmV
 hC:∀h,K.In h->∀ (i:Nat) C,Ds[i]?=aD C->i < 14->bG h C (.ref R::bmV)
 hT:∀h,K.In h->∀D ∈ Ds,o9 h D
 nd:Ds.Nodup
 nr:∀D ∈ Ds,D ≠ R
 nm:∀ (i:Nat) x,kP[i]?=aD x->∃D,Ds[i]?=aD D/\mg x=aD (.ref D)
 len:Ds.length=15
section
variable {X:Cx} {R:Addr}
def yB:∀ {xs:List Str} {b:List Addr},xs.length=b.length->(∀ (i:Nat) x,xs[i]?=aD x->∃D,b[i]?=aD D/\X.mg x=aD (.ref D))->(∀D ∈ b,o9 X.base D/\D ≠ R)->Cls2 X R xs b
 |[],[],_,_,_=>.nil
 |x::xs,D::b,hl,h,g=>by
  obtain⟨j,e,f⟩:=h 0 x rfl;cases e;exact .cons f (g D Zd).1 (g D Zd).2 (yB (by simpa using hl) (λi y H=>h (i+1) y (by simpa using H)) λD c=>g D (Zf _ c))
def j4{n:Nat}(h:Cls2 X R xs f):Cls2 X R (xs.take n) (f.take n):=by
 induction h generalizing n with
 |nil=>rw[Wm,Wm];exact .nil
 |cons a b c _ I=>cases n with
  |zero=>exact .nil
  |succ n=>exact .cons a b c I
def j5{n:Nat}(h:Cls2 X R xs f):Cls2 X R (xs.drop n) (f.drop n):=by
 induction h generalizing n with
 |nil=>rw[Wn,Wn];exact .nil
 |cons a b c d I=>cases n with
  |zero=>exact .cons a b c d
  |succ n=>exact I
end
def noE(x:XLeft P w l H h s B b)(f:B.get? e=aT):h e=aT:=by
 cases q:h e with
 |none=>rfl
 |some o=>obtain⟨z,Q⟩:=tY (x.hok e o q);rw[f] at Q;cases Q
section
variable {X:Cx} {R:Addr} {Ds:List Addr} {k f fw:Nat} {fd fdw:WZ} {ps psW NW:List Str} {sp:Sp} {xf xw n:Str} {stw:Stmt} {e:Expr} {es:List Expr} {t:TA} {p pos rp np wp p2 p3 p4 hp tp:Pos} {i:Nat}
abbrev PX(X:Cx)(e:Expr)(t:L2.St->Hp->VK->XK->Prop):Prop:=∀b s c H Q E,L2.Inv X b c H s->t c H Q E ->
 wpAny (model X.prog X.w) X.A (eval e X.env) (EP X b c Q) (λo j=>∃g h,L2.Inv X b c h g/\CXE X.prog X.w X.stack h g E o j) s
def GR(F:FnOk X.prog X.w X.K X.mg X.base (CXE X.prog X.w) k f fd ps sp)(O:Room k X.A)(hg:Gl X xf)(L:X.mg xf=aD (.ref f))(hk:Vs X.K (.ref f)=br)(Y:fO X.K fd ps [])(T:PA X.nox (e::es) t)
  (Z:Ui (e::es) X.env=(bx,eval e X.env)::Ui es X.env) (C:(backTo pos (Ui es X.env)).any (·.1)=bx) (B:(xf == ("__debug__" : Str))=bx) :
  PX X (.Call (.Name xf p) (e::es) [] pos) (λy H Q E=>t y H λJ v=>sp J v Q E):=by
 intro b s y H Q E I h;refine Uv (gI I hg L ?_ B);refine Vi (h₀:=X.base) I.ok.mod.kin hk (UM (T pos b s y H _ (I.wish _) h) (λU s1 ⟨J,v,c,r,q⟩=>⟨c.unwish.kIn,?_⟩) λ_ _ z=>z.elim) Z C;have c:L2.Inv X b y v s1:=c.unwish;have g:U.length=ps.length:=by rw[<-r.length];exact F.len _ _ _ _ q
 have j:=Y s1 U c.kIn (by rw[ZO];exact g);rw[ZO] at j;refine wpAny_call (VT (F.run X.A X.stack s1 v ⟨U,[]⟩ U J _ _ O c.env0 j r q) λr s' o=>?_);cases r with
 |ok M=>
  cases M with
  |ret u=>exact c.after o
  |next=>exact False.elim o
  |brk=>exact False.elim o
  |cont=>exact False.elim o
 |error ev=>exact⟨s1,v,c,o⟩
def GS{ex:Expr}{tx:L2.St->Hp->VK->XK->Prop}(hst:X.stack=X.env::X.outer)(hfm:X.env.frame=aD X.env.locals)(xi:XInf X.K X.mg R Ds)(hr:Room k X.A)(hX:PX X ex tx)
  (FW:Fun X.K xw xw stw fw fdw) (SW:FnScope NW psW (ao stw)) (bW:fO X.K fdw psW []) (U:psW.length=1) (cW:wq ⟨ao stw,aT,NW⟩ kP AB (bw stw)=br) (hgW:Gl X xw) (hmW:X.mg xw=aD (.ref fw)) (hdw:(xw == ("__debug__" : Str))=bx)
  (hN:X.N.Nodup) (hi:X.N[i]?=aD n) (hl:X.env.scope.names.lookup n=aD .local) (hgr:Gl X "RingError") (hn1:(n == ("__debug__" : Str))=bx) (hn2:(n == ("__classdict__" : Str))=bx) :
  PS X (.Try [.Return (aD ex) rp] [.ExceptHandler (aD (.Name "RingError" np)) (aD n) [.Return (aD (.Call (.Name xw wp) [.Name n p2] [] p3)) p4] hp] [] [] tp)
   (λD Y H=>tx Y H D.rt λc _ H2=>∃j C w,c = .ref C/\Ds[j]?=aD C/\wx j=aD w/\∀H3,j3 H2 H3->D.rt (.str w) H3):=by
 intro o s Y H D I h;refine wpAny_Try_except ?_;refine UC (Uw (UM (hX o s Y H _ _ I h) (λu s' ⟨v,J,I',rv,z⟩=>⟨v,Y,J,I',rv,z⟩) λev s' y=>?_));obtain⟨s1,H1,I1,a,c,a0,J,B,rfl,fl,x,j,C,w,rfl,hj,E,q⟩:=y;have g:j < 14:=by unfold wx at E;split at E <;> first |assumption |cases E
 have E:AB[j]?=aD w:=by rw[wx,if_pos g] at E;exact E
 have hC:=xi.hC _ I.ok.mod.kin j C hj g;have hR:=xi.hR _ I.ok.mod.kin;have hH':=noE x fl.2.1;refine GD hst hfm I1 fl x hC hR hgr xi.ring (by decide) hN hi hl λs6 I6=>?_;refine UC (Uw (Uv (gI (X:=Cx.mk X a) I6 hgW hmW ?_ hdw)));have M:i < Y.length:=by rw[I.len];exact(Zb.mp hi).1
 refine Vi (h₀:=X.base) I.ok.mod.kin FW.kp (UM ((bV (X:=Cx.mk X a) (uK (i:=i) hi (.inl hl) hn1 hn2) rfl) p3 o s6 _ _ (λvs H7=>vs=[.ref a]/\H7=upd J a (exO a C)) I6 ⟨_,ZD M,rfl,rfl⟩) (λus s7 ⟨vs,H7,I7,r,hvs,hH7⟩=>⟨I7.kIn,?_⟩) λ_ _ z=>z.elim) rfl rfl;subst hvs hH7;have hlW:us.length=psW.length:=by rw[<-r.length,U];rfl
 have L:=bW s7 us I7.kIn (by rw[ZO];exact hlW);rw[ZO] at L;have O:X.A.depth < recursionLimit:=hr.depth;refine wpAny_call (VT (DF (Q:=λv Z=>v = .str w/\j3 (upd J a (exO a C)) Z) FW SW O I7.env0 L r (by rw[U];rfl) λT=>?_) λr s8 y=>?_)
 ·have c2:Cls2 (cxM X.prog X.w X.K X.mg X.base NW xw (ao stw) fw T (Cx.mk X a).A X.stack s7 (upd J a (exO a C))) R kP Ds:=yB (by rw[xi.len];rfl) xi.nm λD hD=>⟨xi.hT _ I.ok.mod.kin D hD,xi.nr D hD⟩;refine⟨_,GQ (X:=cxM X.prog X.w X.K X.mg X.base NW xw (ao stw) fw T (Cx.mk X a).A X.stack s7 (upd J a (exO a C))) (b:=⟨ao stw,aT,NW⟩) (a:=a) (C:=C) (qZ SW.kind) rfl rfl rfl xi.isi xi.ve hC hR (j4 c2) (j4 (j5 c2)) (j4 (j5 c2)) (j5 c2) (by rw[xi.len];decide) (by decide) xi.nd hj E cW,⟨?_,?_,aC⟩,λH2 x2=>⟨rfl,x2⟩⟩
  ·unfold wq at cW;have:=(an4 cW).2.1;have hl3:NW.length=3:=by simpa using this
   unfold L2.dS;rw[Zi,YV,Za,hl3];rfl
  ·rfl
 ·cases r with
  |ok fl=>
   cases fl with
   |ret u=>
    obtain⟨v,Z,I8,rv,rfl,z⟩:=I7.after y;exact⟨u,_,_,Z,rfl,I8,rv,q Z ((j3.upd hH').trans z)⟩
   |next=>exact False.elim y
   |brk=>exact False.elim y
   |cont=>exact False.elim y
  |error ev=>exact False.elim y
end
inductive RS where
 |pl (s:CS) |ck (f:Nat) (es:List CE) |rz (c:CE) (i:Nat) |tr (f:Nat) (es:List CE)
inductive RR where
 |val (d:D) |exc (i:Nat)
structure DefE where
 x:Str
 st:Stmt
 N:List Str
 np:Nat
 body:List CS
 rb:Option (List RS)
abbrev DefE.ps(d:DefE):List Str:=d.N.take d.np
abbrev FU:Nat:=60
abbrev cN(af:List DefE)(f:Nat):Nat:=match af[f]? with
 |some d=>d.ps.length
 |none=>0
@[inline]abbrev gn:=Nat->List D->Sto->Option (RR × Sto)
abbrev toC(g:gn):Calls:=λf b S=>match g f b S with
 |some (.val d,S')=>aD (d,S')
 |_=>aT
abbrev GU(C:Calls)(b:Nat->Nat)(d:DefE)(ds:List D)(S:Sto):Option (D × Sto):=
 match fV C b FU d.body (ds.map aD++Zp (d.N.length - ds.length) aT) S with
 |some (.rt v,_,S')=>aD (v,S')
 |some (.nx,_,S')=>aD (.non,S')
 |_=>aT
abbrev xck(g:gn)(n f:Nat)(o:Option (List D × Sto))(k:RR->Sto->Option (RR × Sto)):Option (RR × Sto):=match o with
 | some (ds,S1)=>if ds.length=n then (match g f ds S1 with
  |some (r,S2)=>k r S2
  | none=>aT) else aT
 |none=>aT
abbrev cm(g:gn)(b:Nat->Nat):List RS->Rho->Sto->Option (RR × Sto)
 |[],_,S=>aD (.val .non,S)
 | .pl s::r,ρ,S=>(match evS (toC g) b 59 s ρ S with
  |some (.nx,ρ',S')=>cm g b r ρ' S'
  |some (.rt v,_,S')=>aD (.val v,S')
  | _=>aT)
 | .ck f es::r,ρ,S=>xck g (b f) f (evA (toC g) b FU es ρ S) λv h=>(match v with
  |.val _=>cm g b r ρ h
  | .exc i=>aD (.exc i,h))
 | .rz c i::r,ρ,S=>(match evT (toC g) b FU c ρ S with
  |some (br,S1)=>if i < 14 then aD (.exc i,S1) else aT
  |some (bx,S1)=>cm g b r ρ S1
  | none=>aT)
 | .tr f es::_,ρ,S=>xck g (b f) f (evA (toC g) b FU es ρ S) λv h=>(match v with
  |.val d=>aD (.val d,h)
  | .exc i=>(wx i).map λw=>(.val (.str w),h))
abbrev evX(af:List DefE):Nat->gn
 |0=>λ_ _ _=>aT
 |k+1=>λf b S=>match af[f]? with
  | some d=>(match d.rb with
   |none=>(GU (toC (evX af k)) (cN af) d b S).map λr=>(.val r.1,r.2)
   | some rs=>cm (evX af k) (cN af) rs (b.map aD++Zp (d.N.length - b.length) aT) S)
  |none=>aT
abbrev evC(af:List DefE)(k:Nat):Calls:=toC (evX af k)
abbrev DG(N ps:List Str)(sc:Scope):Bool:=sc.kind == .function && sc.isCoroutine == bx && sc.isGenerator == bx && iA N && N.take ps.length == ps && (ps.all λx=>sc.names.lookup x == aD .local || sc.names.lookup x == aD .cell) && sc.names.all λy=>y.2 != .free
def yC(h:DG N ps sc=br):FnScope N ps sc:=by
 unfold DG at h;simp only[bAE,Ze] at h;obtain⟨⟨⟨⟨⟨⟨f,p⟩,j⟩,c⟩,b⟩,g⟩,o⟩:=h;refine⟨by simpa using f,by simpa using p,by simpa using j,gb c,by simpa using b,λx q=>?_,λy H=>by simpa using o y H⟩;have:=g x q
 simpa using this
abbrev DH(e:Stmt)(k:Option Expr->Option Expr->Pos->Bool):Bool:=if h:e.ctorIdx=16 then @Stmt.Raise.elim (λ_=>Bool) e h k else bx
def DI(h:DH e k=br):∃X c b,e = .Raise X c b/\k X c b=br:=by
 obtain⟨H,h⟩:=bE h;exact Stmt.Raise.elim (motive_2:=λe=>∀f,@Stmt.Raise.elim (λ_=>Bool) e f k=br->∃X c b,e = .Raise X c b/\k X c b=br) e H (λX c b _ g=>⟨X,c,b,rfl,g⟩) H h
abbrev QS(e:Stmt)(k:List Stmt->List ExceptHandler->List Stmt->List Stmt->Pos->Bool):Bool:=if h:e.ctorIdx=17 then @Stmt.Try.elim (λ_=>Bool) e h k else bx
def Mr(h:QS e k=br):∃b g f c X,e = .Try b g f c X/\k b g f c X=br:=by
 obtain⟨H,h⟩:=bE h;exact Stmt.Try.elim (motive_2:=λe=>∀o,@Stmt.Try.elim (λ_=>Bool) e o k=br->∃b g f c X,e = .Try b g f c X/\k b g f c X=br) e H (λb g f c X _ j=>⟨b,g,f,c,X,rfl,j⟩) H h
abbrev yD(T:Tab)(b:Blk)(f:Nat)(E:List CE)(e:Expr):Bool:=Dc (λx=>oA T.fns[f]? (λy=>y.1 == x) && b.glo x) (λa=>eG T FU b a E) e
abbrev QT(b:Blk)(i:Nat)(s:Stmt):Bool:=DH s λv c _=>c.isNone && oA v λe=>sCN e λx E f=>l1 E λa=>f.isEmpty && kP[i]? == aD x && b.glo x && dh a λc _ _=>(match c with |.str _=>br |_=>bx)
abbrev im:Str := "_law_word"
abbrev Ms(b:Blk)(h:ExceptHandler):Bool:=match h with
 |.ExceptHandler t n body _=>(oA t λe=>fR (λx=>x == ("RingError" : Str) && b.glo x) e) && oA n λn=>b.sc.names.lookup n == aD .local && b.N.contains n && !(n == ("__debug__" : Str)) && !(n == ("__classdict__" : Str)) && l1 body λs=>Av (λe=>sCN e λx E c=>l1 E λa=>c.isEmpty && x == im && b.glo x && fR (λy=>y == n) a) s
abbrev SY(k:Expr->Bool)(b:Blk)(s:Stmt):Bool:=QS s λbody hs o f _=>o.isEmpty && f.isEmpty && (l1 body λr=>Av k r) && l1 hs λh=>Ms b h
abbrev e9(T:Tab)(b:Blk):List RS->List Stmt->Bool
 |[],ss=>ss.isEmpty
 |.pl c::rs,ss=>lC ss λs ss=>Mi T 59 b s c && e9 T b rs ss
 |.ck f es::rs,ss=>lC ss λs ss=>zEx (yD T b f es) s && e9 T b rs ss
 |.rz c i::rs,ss=>lC ss λs ss=>zIf (λe=>fv T FU b e c) (λp=>l1 p λs=>QT b i s) (λq=>q.isEmpty) s && e9 T b rs ss
 |.tr f es::rs,ss=>l1 ss λs=>SY (yD T b f es) b s
abbrev DJ(T:Tab)(d:DefE):Bool:=DG d.N d.ps (ao d.st) && (match d.rb with
 |none=>pw T FU ⟨ao d.st,aT,d.N⟩ (bw d.st) d.body
 | some rs=>e9 T ⟨ao d.st,aT,d.N⟩ rs (bw d.st))
abbrev pB(con:List (Str × CV))(af:List DefE):Tab:=⟨con,af.map λd=>(d.x,d.ps.length)⟩
abbrev yE(d:DefE):Bool:=d.x == im && d.ps.length == 1 && wq ⟨ao d.st,aT,d.N⟩ kP AB (bw d.st)
structure TextOk(K:Vh)(mg:Str->Option Value)(con:List (Str × CV))(af:List DefE):Prop where
 con:∀ (i:Nat) (x:Str) (v:CV),con[i]?=aD (x,v)->JK K mg x v
 bl:∀x,x ∈ fW->mg x=aT
 fn:∀ (i:Nat) (d:DefE),af[i]?=aD d->∃f fd,mg d.x=aD (.ref f)/\Vs K (.ref f)=br/\fO K fd d.ps []/\Fun K d.x d.x d.st f fd
 xs:∃R Ds,XInf K mg R Ds
abbrev spX(K:Vh)(f:List Addr)(g:List D->Sto->Option (RR × Sto))(n:Nat):Sp:=λj H Q E=>∃m b S r c,VDs K m H b j/\Rel K m S H/\b.length=n/\g b S=aD (r,c)/\∀M h,Aft K m H c M h->(match r with
 |.val d=>∀v,VD K M h d v->Q v h
 | .exc i=>∃C,f[i]?=aD C/\i < 14/\E (.ref C) aT h)
def DK{K:Vh}{c:List Addr}{g:gn}{f n:Nat}{b:List V}{H:Hp}{Q:VK}{E:XK}(h:spC K (toC g f) n b H Q E):spX K c (g f) n b H Q E:=by
 obtain⟨m,y,S,d,u,z,R,B,e,q⟩:=h;unfold toC at e;split at e
 ·rename_i C I o;cases e;exact⟨m,y,S,.val d,u,z,R,B,o,λM j A v p=>q M j v A p⟩
 ·cases e
section
variable {P:Program} {w:World} {K:Vh} {mg:Str->Option Value} {base:Heap} {con:List (Str × CV)} {af:List DefE}
def pC(c:VDs K m H ds j):EnvR K m H (ds.map aD++Zp (N.length - ds.length) aT) (L2.dS N j):=by
 have o:=c.length;unfold L2.dS;refine⟨by simp[o],λi d e=>?_⟩;by_cases b:i < ds.length
 ·rw[Zw (by simpa using b),Zo] at e;cases h:ds[i]? with
  |none=>rw[h] at e;cases e
  |some p=>
   rw[h] at e;cases e;obtain⟨v,f,g⟩:=c.get h;exact⟨v,by rw[Zw (by simp;lia),Zo,f];rfl,g⟩
 ·rw[Zn (by simpa using b),Yo] at e;split at e <;> cases e
abbrev tRs(K:Vh)(j:List Addr)(E:XK)(g:gn)(o:Nat->Nat)(rs:List RS):TS:=λD b H=>(∀b H,D.rt .non H->D.nx b H)/\∃m c S r f,EnvR K m H c b/\Rel K m S H/\cm g o rs c S=aD (r,f)/\∀M h,Aft K m H f M h->(match r with
 |.val d=>∀v,VD K M h d v->D.rt v h
 | .exc i=>∃C,j[i]?=aD C/\i < 14/\E (.ref C) aT h)
def ud{n f:Nat}(h:xck g n f o k=aD z):∃ds b v c,o=aD (ds,b)/\ds.length=n/\g f ds b=aD (v,c)/\k v c=aD z:=by
 cases o with
 |none=>cases h
 |some p=>
  obtain⟨ds,b⟩:=p;unfold xck at h;dsimp only at h;split at h
  ·rename_i j;cases H:g f ds b with
   |none=>rw[H] at h;cases h
   |some p=>obtain⟨v,c⟩:=p;rw[H] at h;exact⟨ds,b,v,c,rfl,j,H,h⟩
  ·cases h
def GV(A:Aft K m H j M c)(x:j3 c H3):Aft K m H j M H3:=by
 have E:Ext M c M H3:=⟨Yn _,λa o h _=>x a o h,λ_ h n=>absurd h n⟩
 exact A.trans ⟨E,A.rel.ext_keep E λb g=>by
  obtain⟨o,_,f,_⟩:=A.rel.ex g;rw[f];exact x b o f⟩
structure RCx(T:Tab)(g:gn)(ar:Nat->Nat)(k:Nat)(b:Blk)(X:Cx)(E:XK)(R:Addr)(Ds:List Addr):Prop where
 G:CtxOk T (toC g) ar k b X.nox
 xi:XInf X.K X.mg R Ds
 kin:X.K.In X.base
 fns:∀ (i:Nat) (y:Str × Nat),T.fns[i]?=aD y->∃f fd ps,X.mg y.1=aD (.ref f)/\Vs X.K (.ref f)=br/\fO X.K fd ps []/\FnOk X.prog X.w X.K X.mg X.base (CXE X.prog X.w) k f fd ps (spX X.K Ds (g i) (ar i))
 pass:lP (CXE X.prog X.w) X E
 made:∀pins σ H s h1 e c args,L2.Inv X pins σ H s->Heap.MadeExcOf s.heap h1 e c args->E c aT H->X.xe (.ref e) { s with heap:=h1 }
 stk:X.stack=X.env::X.outer
 frm:X.env.frame=aD X.env.locals
 kind:X.env.scope.kind = .function
 word:∃fw fdw psW NW stw,X.mg im=aD (.ref fw)/\Fun X.K im im stw fw fdw/\FnScope NW psW (ao stw)/\fO X.K fdw psW []/\psW.length=1/\wq ⟨ao stw,aT,NW⟩ kP AB (bw stw)=br
def Mu{P:Prop}{f:Nat}(h:yD T b f z E=br)(q:∀y c e as p,E = .Call (.Name y.1 c) (e::as) [] p->T.fns[f]?=aD y->b.glo y.1=br->eG T FU b (e::as) z=br->P):P:=by
 obtain⟨x,e,as,c,p,Q,H,o⟩:=qU h;obtain⟨u,v⟩:=an2 H;obtain⟨y,j,B⟩:=ig u;have g:=lA B;exact q y c e as p (by rw[Q,g]) j (g ▸ v) o
def QU{P:Prop}(M:Ms b hd=br)(q:∀np n g j p c H (i:Nat),hd = .ExceptHandler (aD (.Name "RingError" np)) (aD n) [.Return (aD (.Call (.Name im g) [.Name n j] [] p)) c] H->b.glo "RingError" = br->b.glo im=br->b.N[i]?=aD n->b.sc.names.lookup n=aD .local->(n == ("__debug__" : Str))=bx->(n == ("__classdict__" : Str))=bx->P):P:=by
 obtain⟨ty,nm,v,H⟩:=hd;unfold Ms at M;obtain⟨k1,k2⟩:=an2 M;obtain⟨e1,q1,Z⟩:=ig k1;obtain⟨rn,np,q2,T⟩:=bX Z;obtain⟨k5,k6⟩:=an2 T;have J:=eq_of_beq k5;obtain⟨n,q4,k7⟩:=ig k2;obtain⟨X,l6,l7,l8,l9⟩:=an5 k7;obtain⟨s0,q5,h⟩:=cM l9;obtain⟨v2,c,U,L⟩:=ni h;obtain⟨xw,g,es2,ks,p,q7,I⟩:=o6 L;obtain⟨a,Y,y⟩:=cM I;obtain⟨f,u,o,z⟩:=an4 y;have q9:=cx f;have Q:=eq_of_beq u;obtain⟨n2,j,C,B⟩:=bX z;have E:=eq_of_beq B;obtain⟨i,O⟩:=XB (Xv.mp l6);exact q np n g j p c H i (by rw[q1,q2,J,q4,q5,U,q7,Y,q9,Q,C,E]) (J ▸ k6) (Q ▸ o) O (by simpa using X) (by simpa using l7) (by simpa using l8)
def Mv{k:Nat}(v:RCx T g j k b X E R c)(h:e9 T b ([]) ss=br):PSs X ss (tRs X.K c E g j ([])):=by
 rw[cx h];refine PSs.imp iY λD o H Q=>?_;obtain⟨p,m,u,S,r,y,Ev,f,e,q⟩:=Q;cases e;exact p o H (q m H (Aft.refl f) _ qE)
def QV{k:Nat}(z:RCx T g I k b X E R B)(J:∀ss,e9 T b rs ss=br->PSs X ss (tRs X.K B E g I rs))(h:e9 T b (.pl c::rs) ss=br):PSs X ss (tRs X.K B E g I (.pl c::rs)):=by
 obtain⟨s,ss,rfl,h⟩:=ci h;obtain⟨h1,h2⟩:=an2 h;refine PSs.imp (bK (Mq ((Mn 59).s b X.nox s c z.G z.kind h1)) (J ss h2)) λD σ H Q=>?_;obtain⟨Y,m,y,S,r,S',Ev,p,e,q⟩:=Q;simp only[cm] at e;split at e
 ·rename_i f o hs;exact⟨m,y,S,.nx,f,o,Ev,p,hs,λM C j L E1=>⟨Y,M,f,o,r,S',E1,j.rel,e,λZ O A2=>q Z O (j.trans A2)⟩⟩
 ·rename_i v f o hs;cases e;exact⟨m,y,S,_,_,_,Ev,p,hs,λM C j u U=>q M C j u U⟩
 ·cases e
def QW{k:Nat}(c:RCx T g Z k b X E R L){f:Nat}(ih:∀ss,e9 T b rs ss=br->PSs X ss (tRs X.K L E g Z rs))(h:e9 T b (.ck f es::rs) ss=br):PSs X ss (tRs X.K L E g Z (.ck f es::rs)):=by
 obtain⟨s,ss,rfl,h⟩:=ci h;obtain⟨h1,h2⟩:=an2 h;obtain⟨v,p,rfl,h3,h4⟩:=JN h1;obtain⟨x,e,as,p',p'',rfl,C,O⟩:=qU h3;obtain⟨B,h7⟩:=an2 C;obtain⟨y,hy,B⟩:=ig B;have hx:=lA B;subst hx;obtain⟨fa,fd,ps,hm,hk,hb,F⟩:=c.fns f y hy;have j:=bo O;have gl:=c.G.gl h7;refine PSs.imp (bK (xq (xz F c.G.room gl.1 hm hk hb .nil c.pass (Mp ((snd FU).a b X.nox _ es c.G O)) gl.2 (al (j e Zd)) (eZ λe he=>j e (Zf _ he))) (ub h4)) (ih ss h2)) λD σ H Q=>?_;obtain⟨hD,m,J,S,r,S',Ev,I,e,q⟩:=Q;simp only[cm] at e;obtain⟨ds,U,v,Y,e1,hl,eg,e⟩:=ud e;refine⟨m,J,S,ds,U,Ev,I,e1,λm1 H1 vs o vd=>⟨m1,ds,U,v,Y,by rw[ZO];exact vd,o.rel,hl,eg,λM H2 z=>?_⟩⟩;cases v with
 |val d=>exactλu _=>⟨hD,M,J,Y,r,S',Ev.mono I (o.trans z).ext,z.rel,e,λm3 H3 A3=>q m3 H3 ((o.trans z).trans A3)⟩
 |exc i=>cases e;exact q M H2 (o.trans z)
def QX{P:Prop}{i:Nat}(h:QT b i s=br)(q:∀x g f z j p pos,s = .Raise (aD (.Call (.Name x g) [.Constant (.str z) j p] [] f)) aT pos->kP[i]?=aD x->b.glo x=br->P):P:=by
 obtain⟨v,u,pos,O,H⟩:=DI h;obtain⟨y,H⟩:=an2 H;obtain⟨T,L,H⟩:=ig H;obtain⟨x,g,U,Q,f,M,H⟩:=o6 H;obtain⟨a,I,H⟩:=cM H;obtain⟨E,B,o,c⟩:=an4 H;obtain⟨C,j,p,Z,c⟩:=cG c;have J:u=aT:=by cases u <;> first |rfl |cases y
 have ⟨z,z7⟩:∃z,C = .str z:=by cases C <;> first |exact⟨_,rfl⟩ |cases c
 exact q x g f z j p pos (by rw[O,L,M,I,cx E,Z,J,z7]) (by simpa using B) o
def QY{k:Nat}(f:RCx T g ar k b X E R Ds){i:Nat}(ih:∀ss,e9 T b rs ss=br->PSs X ss (tRs X.K Ds E g ar rs))(h:e9 T b (.rz c i::rs) ss=br):PSs X ss (tRs X.K Ds E g ar (.rz c i::rs)):=by
 obtain⟨s,L,z1,h⟩:=ci h;obtain⟨h1,h2⟩:=an2 h;obtain⟨t,p,q,r,z2,h3,h4,h5⟩:=Dy h1;obtain⟨s1,z3,h4⟩:=cM h4;refine QX h4 λx p1 p2 z j p3 pos z4 hx h10=>?_;rw[z1,z2,cx h5,z3,z4];obtain⟨C,hC,hm⟩:=f.xi.nm i x hx;have gl:=f.G.gl h10;by_cases u:i < 14
 ·refine PSs.imp (bK (xr (PT.nox ((snd FU).t b X.nox t c f.G h3)) (iZ (Dm (E:=E) (v:=.str z) (λU σ H s h1 e O I mk hE=>f.made U σ H s h1 e _ O I mk hE) f.G.calm gl.1 hm (f.xi.hC _ f.kin i C hC u) (f.xi.hR _ f.kin) (bV pX rfl) rfl gl.2)) iY) (ih L h2)) λD σ H Q=>?_;obtain⟨hD,m,B,S,r,S',Ev,y,e,q⟩:=Q;simp only[cm] at e;split at e
  ·rename_i Z J;rw[if_pos u] at e;cases e;refine⟨m,B,S,br,_,Ev,y,J,λM H1 o=>?_⟩;dsimp only;rw[if_pos rfl];obtain⟨C',Y,_,z⟩:=q M H1 o;rw[hC] at Y;cases Y;exact z
  ·rename_i Z J;refine⟨m,B,S,bx,_,Ev,y,J,λM H1 o=>?_⟩;dsimp only;rw[if_neg Zg];exact⟨hD,M,B,Z,r,S',Ev.mono y o.ext,o.rel,e,λm2 H2 A2=>q m2 H2 (o.trans A2)⟩
  ·cases e
 ·refine PSs.imp (bK (xr (PT.nox ((snd FU).t b X.nox t c f.G h3)) (iZ rX) iY) (ih L h2)) λD σ H Q=>?_;obtain⟨hD,m,B,S,r,S',Ev,y,e,q⟩:=Q;simp only[cm] at e;split at e
  ·rename_i Z J;rw[if_neg u] at e;cases e
  ·rename_i Z J;refine⟨m,B,S,bx,_,Ev,y,J,λM H1 o=>?_⟩;dsimp only;rw[if_neg Zg];exact⟨hD,M,B,Z,r,S',Ev.mono y o.ext,o.rel,e,λm2 H2 A2=>q m2 H2 (o.trans A2)⟩
  ·cases e
def QZ{k:Nat}(j:RCx T g p k b X E R I){f:Nat}(h:yD T b f q e=br):PX X e (λY H Q E=>tAr X.K (evA (toC g) p FU q) Y H λL J=>spX X.K I (g f) (p f) L J Q E):=by
 refine Mu h λy p' e Z O z B u o=>?_;rw[z];obtain⟨fa,fd,ps,v,U,C,F⟩:=j.fns f y B;have c:=bo o;have gl:=j.G.gl u;exact GR F j.G.room gl.1 v U C ((snd FU).a b X.nox _ q j.G o) (al (c e Zd)) (eZ λe M=>c e (Zf _ M)) gl.2
def Q0{k:Nat}(c:RCx T g ar k b X E R z){f:Nat}(h:e9 T b (.tr f es::rs) ss=br):PSs X ss (tRs X.K z E g ar (.tr f es::rs)):=by
 obtain⟨s,z1,c0⟩:=cM h;obtain⟨body,hs,o,fi,tp,z2,c1⟩:=Mr c0;obtain⟨h1,h2,h3,h4⟩:=an4 c1;obtain⟨r0,z3,c2⟩:=cM h3;obtain⟨v,rp,z4,c3⟩:=ni c2;obtain⟨hd,z5,c4⟩:=cM h4;refine QU c4 λnp n wp p2 p3 rp2 hp i z7 k6 y Z l5 l7 l8=>?_;rw[z1,z2,cx h1,cx h2,z3,z4,z5,z7];obtain⟨fw,fdw,psW,NW,stw,U,w2,w3,w4,w5,w6⟩:=c.word;refine PSs.imp (iZ (GS (i:=i) c.stk c.frm c.xi c.G.room (QZ c c3) w2 w3 w4 w5 w6 (c.G.gl y).1 U (c.G.gl y).2 (by rw[show X.N=b.N from c.G.hN];exact c.G.nd) (by rw[show X.N=b.N from c.G.hN];exact Z) (by rw[show X.env.scope=b.sc from c.G.hs];exact l5) (c.G.gl k6).1 l7 l8)) λD σ H Q=>?_;obtain⟨hD,m,ρ,S,r,S',Ev,Y,e,q⟩:=Q;simp only[cm] at e;obtain⟨L,J,v,S2,e1,hl,eg,e⟩:=ud e;refine⟨m,ρ,S,L,J,Ev,Y,e1,λm1 H1 vs C vd=>⟨m1,L,J,v,S2,vd,C.rel,hl,eg,λM H2 O=>?_⟩⟩;cases v with
 |val d=>cases e;exactλu vu=>q M H2 (C.trans O) u vu
 |exc j=>
  dsimp only at e;cases p:wx j with
  |none=>rw[p] at e;cases e
  |some w=>
   rw[p] at e;cases e;have B:j < 14:=by unfold wx at p;split at p <;> first |assumption |cases p
   have I:j < z.length:=by rw[c.xi.len];lia
   exact⟨z[j],gEG I,B,j,z[j],w,rfl,gEG I,p,λH3 x3=>q M H3 (GV (C.trans O) x3) _ dB⟩
def yF{k:Nat}(j:RCx T g p k b X E R o):∀ (rs:List RS) (ss:List Stmt),e9 T b rs ss=br->PSs X ss (tRs X.K o E g p rs)
 |[],ss,h=>Mv j h
 |.pl c::rs,ss,h=>QV j (yF j rs) h
 |.ck f es::rs,ss,h=>QW j (yF j rs) h
 |.rz c i::rs,ss,h=>QY j (yF j rs) h
 |.tr f es::rs,ss,h=>Q0 j h
def GW{i n:Nat}:FnOk P w K mg base (CXE P w) 0 f o ps (spX K j (evX af 0 i) n):=
 ⟨λv H Q E h=>(by obtain⟨m,g,S,d,c,_,_,_,e,_⟩:=h;cases e),λA outer s H b u v Q E _ _ _ _ h=>(by obtain⟨m,g,S,d,c,_,_,_,e,_⟩:=h;cases e)⟩
def yG(T:TextOk K mg con af)(xi:XInf K mg R Ds)(kin:K.In base)(hc:af.all (DJ (pB con af))=br)(hw:af.any yE=br):∀ (k i:Nat) (d:DefE),af[i]?=aD d->∀f J,mg d.x=aD (.ref f)->Fun K d.x d.x d.st f J->FnOk P w K mg base (CXE P w) k f J d.ps (spX K Ds (evX af k i) d.ps.length)
 |0,i,d,_,f,J,_,_=>GW
 |k+1,i,d,hd,f,J,hm,F=>by
  have ih:=yG T xi kin hc hw k;have ck:=Ze.mp hc d (Zy hd);unfold DJ at ck;rw[bAE] at ck;have S:=yC ck.1
  have word:∃fw g C NW o,mg im=aD (.ref fw)/\Fun K im im o fw g/\FnScope NW C (ao o)/\fO K g C []/\C.length=1/\wq ⟨ao o,aT,NW⟩ kP AB (bw o)=br:=by
   obtain⟨Y,B,hq⟩:=YZ.mp hw;obtain⟨j,M⟩:=XB B;unfold yE at hq;obtain⟨q1,q2,q3⟩:=an3 hq;obtain⟨fw,g,m1,m2,m3,m4⟩:=T.fn j Y M;have L:=Ze.mp hc Y B;unfold DJ at L;rw[bAE] at L;rw[<-eq_of_beq q1];exact⟨fw,g,Y.ps,Y.N,Y.st,m1,m4,yC L.1,m3,by simpa using q2,q3⟩
  obtain⟨oc,od,kV,doc,pm,an,Z,ct,osl,rfl,lk,hcd⟩:=F.ex;refine PJ lk hcd S (λvs H Q E h=>?_) λA outer s H vs Q E hr h=>?_
  ·obtain⟨m,ds,S,d',S',vd,_,hl,_⟩:=h;rw[<-vd.length,hl]
  ·have FX:∀ (j:Nat) (y:Str × Nat),(pB con af).fns[j]?=aD y->cN af j=y.2/\∃f J ps,mg y.1=aD (.ref f)/\Vs K (.ref f)=br/\fO K J ps []/\FnOk P w K mg base (CXE P w) k f J ps (spX K Ds (evX af k j) (cN af j)):=λj y U=>by
    have b:(af.map λd=>(d.x,d.ps.length))[j]?=aD y:=U;rw[Zo] at b;cases M:af[j]? with
    |none=>rw[M] at b;cases b
    |some e=>
     rw[M] at b;cases b;have ha:cN af j=e.ps.length:=by unfold cN;rw[M]
     obtain⟨f',p,O,k',b',F'⟩:=T.fn j e M;refine⟨ha,f',p,e.ps,O,k',b',?_⟩;rw[ha];exact ih j e M f' p O F'
   have G:CtxOk (pB con af) (toC (evX af k)) (cN af) k ⟨ao d.st,aT,d.N⟩ (nV (CXE P w) P w K mg base d.N d.x (ao d.st) f Z A outer s H E).nox:=by
    refine⟨rfl,rfl,rfl,rfl,S.nd,λ_ _=>rfl,hr,T.con,T.bl,λj y U=>?_⟩;obtain⟨ha,f',p,ps',O,k',b',F'⟩:=FX j y U;exact⟨ha,f',p,ps',O,k',b',F'.imp λvs H Q E q=>DK q⟩
   obtain⟨m,ds,S0,r,S',vd,Rl,hl,e,q⟩:=h;simp only[evX,hd] at e;cases X:d.rb with
   |none=>
    rw[X] at e ck;dsimp only at e ck;refine⟨_,((Mn FU).ss _ _ (bw d.st) d.body G S.kind ck.2).nox,?_⟩;unfold GU at e;cases hx:fV (toC (evX af k)) (cN af) FU d.body (ds.map aD++Zp (d.N.length - ds.length) aT) S0 with
    |none=>rw[hx] at e;cases e
    |some z=>
     obtain⟨fl,ρ',S1⟩:=z;rw[hx] at e;refine⟨m,_,S0,fl,ρ',S1,pC vd,Rl,hx,λO H' A'=>?_⟩;cases fl with
     |nx=>cases e;exactλσ _=>q O H' A' .non qE
     |rt v=>cases e;exactλu vu=>q O H' A' u vu
     |bk=>cases e
     |ct=>cases e
   |some rs=>
    rw[X] at e ck;dsimp only at e ck
    have rc:RCx (pB con af) (evX af k) (cN af) k ⟨ao d.st,aT,d.N⟩ (nV (CXE P w) P w K mg base d.N d.x (ao d.st) f Z A outer s H E) E R Ds:=
     ⟨G,xi,kin,λj y U=>(FX j y U).2,Qp,λpins σ H s h1 e c args I mk hE=>Qq I mk hE,rfl,rfl,S.kind,word⟩
    exact⟨_,yF rc rs (bw d.st) ck.2,λ_ _ z=>z,m,_,S0,r,S',pC vd,Rl,e,q⟩
end
abbrev yH(d:DefE):Option rQ:=aD ((d.x,d.x),(dQ d.st,bw d.st),(ao d.st,V6),([],.none),(VN,aD d.x))
def yI:∀ {l:List Nat},Kd l=br->l.Nodup
 |[],_=>Wg
 |a::l,h=>by
  obtain⟨H,c⟩:=an2 h;refine Yq.mpr ⟨λb=>?_,yI c⟩;rw[Xv.mpr b] at H;cases H
abbrev gp(h:Heap)(x:Str):Vh:=match h.nsMap V6 x with
 | some (.ref C)=>(match h.get? C with
  | some ⟨c0,dd,.cls cd,sl⟩=>(C,⟨c0,dd,.cls cd,sl⟩)::(match h.get? cd.ns with
   |some ⟨c1,d1,.dict es ep,s1⟩=>[(cd.ns,⟨c1,d1,.dict es ep,s1⟩)]
   | _=>[])
  | _=>[])
 |_=>[]
@[inline]abbrev ue:=Bool × List (Option rQ) × List (Option CV) × List Bool × Bool
abbrev AC(con:List (Str × CV))(af:List DefE)(h:Heap):ue:=(h.isNs V6,af.map (λd=>uI h d.x),con.map (λc=>Fb h c.1),(fW.map λx=>(h.nsMap V6 x).isNone),Ba h)
abbrev uf(con:List (Str × CV))(af:List DefE):ue:=(br,af.map yH,con.map (λc=>aD c.2),(fW.map λ_=>br),br)
abbrev JO(d:DefE):Prop:=∀ (kV b p:Value) (an:Option Addr) (c ct:Value) (u:List Value),u.length=d.ps.length->bindArgs (Vo d.x d.x (dQ d.st) (bw d.st) (ao d.st) .none kV b p an c ct) ⟨u,[]⟩=pure (d.ps.zip u)
abbrev AE:List DefE->Prop
 |[]=>True
 |d::ds=>JO d/\AE ds
def AE.at:∀ {ds:List DefE} {d:DefE},AE ds->d ∈ ds->JO d
 |e::ds,d,h,hd=>by
  rcases Zm.mp hd with rfl |hd
  ·exact h.1
  ·exact AE.at h.2 hd
abbrev pD(h:Heap)(f:Addr):Vh:=match h.get? f with
 | some o=>(f,o)::(match o.data with
  | .func fd=>(match fd.code with
   |.ref c=>(match h.get? c with |some O=>[(c,O)] |none=>[])
   | _=>[])
  | _=>[])
 |none=>[]
abbrev eu(h:Heap)(d:DefE):Vh:=match h.nsMap V6 d.x with
 |some (.ref f)=>pD h f
 |_=>[]
abbrev Q1(K:Vh):Prop:=∀a o,K.lookup a=aD o->∀I n,o.data = .seq I n->o.cls = .type "tuple"
structure Says(con:List (Str × CV))(af:List DefE)(h:Heap):Prop where
 ns:∃m,h.Ns V6 m
 frag:∃K:Vh,K.In h/\Q1 K/\∀mg,h.Ns V6 mg->TextOk K mg con af
def nk{K:Vh}{a:Addr}{o:Obj}(h:K.lookup a=aD o):(a,o) ∈ K:=by
 induction K with
 |nil=>cases h
 |cons p K I=>
  obtain⟨b,q⟩:=p;rw[ZS] at h;cases H:a == b with
  |true=>
   rw[H] at h;cases h;have:a=b:=by simpa using H
   subst this;exact Zd
  |false=>rw[H] at h;exact Zf _ (I h)
def DM{K:Vh}{a:Addr}{o:Obj}(h:(a,o) ∈ K):∃o',K.lookup a=aD o':=by
 induction K with
 |nil=>cases h
 |cons p K I=>
  obtain⟨b,q⟩:=p;rw[ZS];cases H:a == b with
  |true=>exact⟨_,rfl⟩
  |false=>
   rcases Zm.mp h with e |h
   ·cases e;simp at H
   ·exact I h
def DN(e:(a,o) ∈ pD h f):h.get? a=aD o:=by
 unfold pD at e;cases b:h.get? f with
 |none=>rw[b] at e;cases e
 |some of=>
  rw[b] at e;dsimp only at e;rcases Zm.mp e with q |e
  ·cases q;exact b
  ·split at e
   ·split at e
    ·rename_i c g;cases H:h.get? c with
     |none=>rw[H] at e;cases e
     |some O=>
      rw[H] at e;dsimp only at e;rcases Zm.mp e with q |e
      ·cases q;exact H
      ·cases e
    ·cases e
   ·cases e
def Mw{h:Heap}{a:Addr}{mg:Str->Option Value}(N:h.Ns a mg):h.nsMap a=mg:=by
 obtain⟨o,c,E,b,hd,_,H⟩:=N
 funext x
 unfold Heap.nsMap;rw[b];dsimp only;rw[hd];exact H x
def DP(e:uI h d.x=yH d):∃f O q kV g p an c ct o C u v a t r j,h.nsMap V6 d.x=aD (.ref f)/\h.get? f=aD ⟨O,q,.func (Vo d.x d.x (dQ d.st) (bw d.st) (ao d.st) .none kV g p an (.ref c) ct),o⟩ ∧
  h.get? c=aD ⟨C,u,.fields v,j⟩/\v.toList=a :: .str d.x t::r:=by
 unfold uI yH at e;split at e
 ·rename_i f z;unfold Pg at e;split at e
  ·rename_i O q nm Q ps b sc gl cl J kV g p an B ct I o E;simp only[Option.some.injEq,Prod.mk.injEq] at e;obtain⟨⟨rfl,rfl⟩,⟨rfl,rfl⟩,⟨rfl,rfl⟩,⟨rfl,rfl⟩,rfl,e⟩:=e;unfold Jc at e;split at e
   ·rename_i c;split at e
    ·rename_i C u v j y;split at e
     ·rename_i a n t r H;cases e;exact⟨f,O,q,kV,g,p,an,c,ct,o,C,u,v,a,t,r,j,z,E,y,H⟩
     ·cases e
    ·cases e
   ·cases e
  ·cases e
 ·cases e
def ug(e:(a,o) ∈ gp h x):h.get? a=aD o/\∀its n,o.data ≠ .seq its n:=by
 unfold gp at e;split at e
 ·split at e
  ·rename_i C _ c f g sl hC;rcases Zm.mp e with q |e
   ·cases q;exact⟨hC,λ_ _ z=>nomatch z⟩
   ·split at e
    ·rename_i j u p E b hN;rcases Zm.mp e with q |e
     ·cases q;exact⟨hN,λ_ _ z=>nomatch z⟩
     ·cases e
    ·cases e
  ·cases e
 ·cases e
def yJ(e:Kc h x=br):∃b c sl,h.nsMap V6 x=aD (.ref (adX h x))/\(adX h x,(⟨.type "type", b,.cls c,sl⟩:Obj)) ∈ gp h x:=by
 unfold Kc at e;split at e
 ·rename_i C H;split at e
  ·rename_i b c sl hC;have z:adX h x=C:=by unfold adX;rw[H]
   refine⟨b,c,sl,by rw[H,z],?_⟩;unfold gp;rw[H,z];dsimp only;rw[hC];exact Zd
  ·cases e
 ·cases e
def yK{h:Heap}{bm:List Value}{x:Str}(e:Fc h bm x=br){K:Vh}(L:∀a o,(a,o) ∈ gp h x->K.lookup a=aD o):h.nsMap V6 x=aD (.ref (adX h x))/\∀h',K.In h'->bG h' (adX h x) bm:=by
 unfold Fc at e;split at e
 ·rename_i C c;split at e
  ·rename_i y p sl hC;split at e
   ·rename_i C' bm' q U Q I n O B hs;simp only[bAE,beq_iff_eq,Bool.not_eq_true',Ze] at e;obtain⟨⟨⟨⟨⟨rfl,rfl⟩,rfl⟩,H⟩,b⟩,E⟩:=e;have z:adX h x=C':=by unfold adX;rw[c]
    refine⟨by rw[c,z],λh' X=>?_⟩;rw[z];have N:=Heap.Ns.of_isNs b;obtain⟨oN,Y,T,hN,hd,r⟩:=id N;obtain⟨c1,d1,dat,s1⟩:=oN;dsimp only at hd;subst hd
    have M:(C',(⟨.type "type", y,.cls p,sl⟩:Obj)) ∈ gp h x:=by
     unfold gp;rw[c];dsimp only;rw[hC];exact Zd
    have J:(p.ns,(⟨c1,d1,.dict Y T,s1⟩:Obj)) ∈ gp h x:=by
     unfold gp;rw[c];dsimp only;rw[hC];dsimp only;rw[hN];exact Zf _ Zd
    have v:=X _ _ (L _ _ M);have u:=X _ _ (L _ _ J);obtain⟨nm,bs,mro,ns,qn,f,Z,sub,ab,g,del⟩:=p;dsimp only at B H b E N hN r M J v u;subst B H
    have j:sl=#[q,U,Q,I,aD (.builtin "ValueError.__new__"),O]:=by
     obtain⟨l⟩:=sl;simp only at hs;rw[hs]
    subst j;exact⟨ns,nm,qn,bs,f,Z,sub,ab,g,y,q,U,Q,I,O,h.nsMap ns,v,⟨_,Y,T,u,rfl,r⟩,λn hn=>by simpa using E n hn⟩
   ·cases e
  ·cases e
 ·cases e
def GX{h:Heap}(e:Ba h=br){K:Vh}{mg:Str->Option Value}(v:h.nsMap V6=mg)(I:mg "isinstance" = aT)(L:∀x,x ∈ ("RingError" : Str)::kP->∀a o,(a,o) ∈ gp h x->K.lookup a=aD o):XInf K mg (adX h "RingError") (kP.map (adX h)):=by
 unfold Ba at e;obtain⟨M,B,E,y,J⟩:=an5 e;subst v;have r1:=yK M (L _ Zd);have nd:=Yq.mp (yI y);refine⟨r1.1,by simpa using J,I,r1.2,λp j i C b f=>?_,λp j D g=>?_,nd.2,λD g z=>nd.1 (z ▸ g),λi x H=>?_,by rw[Za];rfl⟩
 ·rw[Zo] at b;cases H:kP[i]? with
  |none=>rw[H] at b;cases b
  |some x=>
   rw[H] at b;cases b;have c:x ∈ kP.take 14:=Zy (i:=i) (by rw[Xe f];exact H);exact(yK (Ze.mp B x c) (L x (Zf _ (Zy H)))).2 p j
 ·obtain⟨x,H,rfl⟩:=ZH.mp g;obtain⟨q,u,sl,_,m⟩:=yJ (Ze.mp E x H);exact⟨q,u,sl,j _ _ (L x (Zf _ H) _ _ m)⟩
 ·obtain⟨q,u,sl,m,_⟩:=yJ (Ze.mp E x (Zy H));exact⟨adX h x,by rw[Zo,H];rfl,m⟩
abbrev uh(h:Heap)(x:Str):Vh:=match h.nsMap V6 x with
 | some (.ref a)=>(match h.get? a with
  |some ⟨.type "tuple", d,.seq its n,s⟩=>[(a,⟨.type "tuple", d,.seq its n,s⟩)]
  | _=>[])
 |_=>[]
def DQ(e:(a,o) ∈ uh h x):h.get? a=aD o/\∀its n,o.data = .seq its n->o.cls = .type "tuple" := by
 unfold uh at e;split at e
 ·split at e
  ·rename_i b _ d its n s H;rcases Zm.mp e with q |e
   ·cases q;exact⟨H,λ_ _ _=>rfl⟩
   ·cases e
  ·cases e
 ·cases e
abbrev fC(h:Heap)(con:List (Str × CV)):Vh:=(("RingError" : Str)::kP).flatMap (gp h)++con.flatMap λc=>uh h c.1
def pE(e:(a,o) ∈ fC h con):h.get? a=aD o/\∀its n,o.data = .seq its n->o.cls = .type "tuple" := by
 rcases Zu.mp e with e |e
 ·obtain⟨x,_,e⟩:=Z0.mp e;exact⟨(ug e).1,λits n z=>absurd z ((ug e).2 its n)⟩
 ·obtain⟨x,_,e⟩:=Z0.mp e;exact DQ e
def ui:∀ {U:List Value} {b:List Str},oo U=aD b->aK (b.map V.str) U
 |[],b,h=>by cases h;exact .nil
 |u::U,b,h=>by
  cases u with
  |str x t=>
   simp only[oo] at h;cases e:oo U with
   |none=>rw[e] at h;cases h
   |some r=>rw[e] at h;cases h;exact .cons ⟨t,rfl⟩ (ui e)
  |_=>cases h
def GY{con:List (Str × CV)}{af:List DefE}(hb:AE af){h:Heap}(e:AC con af h=uf con af):Says con af h:=by
 unfold AC uf at e;simp only[Prod.mk.injEq] at e;obtain⟨e0,e1,e2,e3,e4⟩:=e;have N:=Heap.Ns.of_isNs e0;have D:∀d ∈ af,uI h d.x=yH d:=λd hd=>Xa.mp e1 d hd
 have inK:∀a o,(a,o) ∈ af.flatMap (eu h)++fC h con->h.get? a=aD o:=λa o he=>by
  rcases Zu.mp he with he |he
  rotate_left
  ·exact(pE he).1
  obtain⟨d,hd,he⟩:=Z0.mp he;obtain⟨f,U,od,kV,p,pm,an,c,ct,O,X,cd,vs,Y,t,r,Z,g,j,B,M⟩:=DP (D d hd);unfold eu at he;rw[g] at he;exact DN he
 have L:∀a o,(a,o) ∈ af.flatMap (eu h)++fC h con->(af.flatMap (eu h)++fC h con).lookup a=aD o:=λa o he=>by
  obtain⟨o',q⟩:=DM he;have z:=inK a o' (nk q);rw[inK a o he] at z;cases z;exact q
 refine⟨⟨_,N⟩,af.flatMap (eu h)++fC h con,λa o q=>inK a o (nk q),λa o q I n hs=>?_,λmg G=>?_⟩
 ·rcases Zu.mp (nk q) with he |he
  rotate_left
  ·exact(pE he).2 I n hs
  obtain⟨d,hd,he⟩:=Z0.mp he;obtain⟨f,U,od,kV,p,pm,an,c,ct,O,X,cd,vs,Y,t,r,Z,g,j,B,M⟩:=DP (D d hd);unfold eu at he;rw[g] at he;dsimp only at he;unfold pD at he;rw[j] at he;dsimp only at he;rw[B] at he;dsimp only at he;rcases Zm.mp he with z |he
  ·cases z;cases hs
  ·rcases Zm.mp he with z |he
   ·cases z;cases hs
   ·cases he
 ·have u:=Mw G
  have bl:∀x,x ∈ fW->mg x=aT:=λx Q=>by
   have z:=Xa.mp e3 x Q;rw[u] at z
   simpa using z
  refine⟨λi x v y=>?_,bl,λi d y=>?_,_,_,GX e4 u (bl _ (by decide)) λx Q a o E=>L a o (ZC _ (ZU _ (Z0.mpr ⟨x,Q,E⟩)))⟩
  ·have z:=Xa.mp e2 (x,v) (Zy y);unfold Fb at z;rw[u] at z;dsimp only at z;split at z
   ·rename_i v' t b;cases z;exact⟨t,b⟩
   ·rename_i v' t b;cases z;exact⟨t,b⟩
   ·rename_i T b;split at z
    ·rename_i d0 I n0 s0 E;split at z
     ·rename_i hz;cases J:oo I.toList with
      |none=>rw[J] at z;cases z
      |some ws=>
       rw[J] at z;cases z;refine⟨T,b,λH=>.inr ⟨⟨.type "tuple", d0,.seq I n0,s0⟩,I,n0,L T _ (ZC _ (ZC _ (Z0.mpr ⟨_,Zy y,?_⟩))),rfl,rfl,by rw[Ug];lia,ui J⟩⟩;show _ ∈ uh h x;unfold uh;rw[u,b];dsimp only;rw[E];exact Zd
     ·cases z
    ·cases z
   ·cases z
  ·have hd:=Zy y;obtain⟨f,U,od,kV,p,pm,an,c,ct,O,X,cd,vs,Y,t,r,Z,g,j,B,M⟩:=DP (D d hd)
   have m1:(f,_) ∈ af.flatMap (eu h)++fC h con:=ZU _ <| Z0.mpr ⟨d,hd,by
    show _ ∈ eu h d;unfold eu;rw[g];dsimp only;unfold pD;rw[j];exact Zd⟩
   have m2:(c,_) ∈ af.flatMap (eu h)++fC h con:=ZU _ <| Z0.mpr ⟨d,hd,by
    show _ ∈ eu h d;unfold eu;rw[g];dsimp only;unfold pD;rw[j];dsimp only;rw[B];exact Zf _ Zd⟩
   have l1:=L _ _ m1;have l2:=L _ _ m2;have kp:Vs (af.flatMap (eu h)++fC h con) (.ref f)=br:=by unfold Vs;dsimp only;rw[l1]
   have C:Vl (af.flatMap (eu h)++fC h con) (.ref c) d.x=br:=by
    unfold Vl;dsimp only;rw[l2];dsimp only;rw[M];simp
   have F:=KR (st:=d.st) (x:=d.x) (qual:=d.x) l1 C kp;refine⟨f,_,by rw[<-u];exact g,kp,F.binds (hb.at hd),F⟩
def wy(x:Says con af h)(k:∀b o,h.get? b=aD o->h'.get? b=aD o):Says con af h':=by
 obtain⟨⟨m,N⟩,K,g,ns,T⟩:=x
 have B:∀mg,h'.Ns V6 mg->h.Ns V6 mg:=λmg ⟨o,f,E,c,r⟩=>by
  obtain⟨O,j,p,H,u⟩:=N;have z:=k _ _ H;rw[c] at z;cases z;exact⟨o,f,E,H,r⟩
 refine⟨⟨m,let ⟨o,f,E,c,r⟩:=N;⟨o,f,E,k _ _ c,r⟩⟩,K,λa o q=>k _ _ (g a o q),ns,λmg G=>T mg (B mg G)⟩
abbrev j6(con:List (Str × CV))(af:List DefE)(H:AE af):PySem.W.Hook:=
 ⟨ue,λs=>AC con af s.heap,λ_=>uf con af,λ_ h=>Says con af h,λ_ _ e=>GY H e,λ_ _ _ x k=>wy x k⟩
def nn{K:Vh}{m:List Addr}{H:Hp}:∀ns:List Int,VDs K m H (ns.map D.int) (ns.map V.int)
 |[]=>by rw[ZV,ZV,VDs]
 |a::l=>by rw[Zs,Zs,VDs];exact⟨_,_,rfl,bI,nn l⟩
def GZ{l:PySem.W.OpenLaw}{n k i:Nat}{q:Program}{loose:List Str}{XP:(Str->Option Value)->Heap->Prop}{d:DefRec}{con:List (Str × CV)}{af:List DefE}{hb:AE af}{dl:DefE}{x:Str}
  (hn:l.most=aD n) (I:n<=sizeLine) (L:d.params.defaults=[]) (hr:Room k callerA) (hx:d.name=dl.x) (J:af[i]?=aD dl) (h:dl.ps=[x]) (hc:af.all (DJ (pB con af))=br) (hw:af.any yE=br)
  (main:∀ns:List Int,ns.length<=n->∃U,evC af k i [.ref 0] [.frz (ns.map D.int)]=aD (.bl br,U)) :
  PySem.W.WalkO q loose XP (j6 con af hb).says l.row.toRowW d [] (λf vs=>PySem.call f vs):=by
 refine Att.attach_call hn L λw s₀ C mg mb fa o pm cd p a vs ns G Y ho hd E g B c b hg=>?_;obtain⟨_,K,KX,Q,T⟩:=(show Says con af C.heap from Y);have T:=T mg G.T.g;obtain⟨R,Ds,xi⟩:=T.xs;obtain⟨f,fd,Z,kp,_,F⟩:=T.fn i dl J;rw[hx] at g;rw[g] at Z;cases Z
 have bd:∀ (s:Shared) (u:Value),BindsTo s fd ⟨[u],[]⟩ [(x,u)]:=λs u=>by
  obtain⟨oc,od,kV,p,pm,an,O,ct,osl,rfl,lk,E⟩:=F.ex;have z:=(hb.at (Zy J)) kV p pm an O ct [u] (by rw[h];rfl);rw[h] at z;exact .of_eq z
 refine BE (CX:=CXE l.row.toRowW.prog w) (sp:=spX K Ds (evX af k i) dl.ps.length) KX G.T.g G.T.b G.T.builtins G.T.nolimit hg B c (Zz b I) hr (λbase kin _=>by
  have:=yG (P:=l.row.toRowW.prog) (w:=w) (base:=base) T xi kin hc hw k i dl J fa fd g F;rw[h] at this ⊢;exact this) bd (λH hO hS=>?_) λH e s' ⟨_,_,_,_,_,_,_,_,z⟩=>z
 have M:∃o,H a=aD (.frz o (.lst (ns.map V.int))):=by
  rcases hS with (z |⟨o,z⟩) |⟨o,its,n',hk,hc,hdd,hdt,_⟩
  ·rcases hO a with y |⟨o',xs,y⟩
   ·rw[y] at z;cases z
   ·rw[y] at z;cases z
  ·exact⟨o,z⟩
  ·exact absurd (hc.symm.trans (Q a o hk its n' hdt)) (by show Value.type "list" ≠ .type "tuple"; decide +kernel)
 obtain⟨o,M⟩:=M;obtain⟨U,e⟩:=main ns b;refine DK ⟨[a],[.ref 0],[.frz (ns.map D.int)],.bl br,U,?_,⟨rfl,by simp,λj ob X=>?_⟩,by rw[h];rfl,e,λm' H' v A vv=>vv.bls⟩
 ·rw[VDs];exact⟨_,_,rfl,by rw[VD];exact⟨a,rfl,rfl⟩,by rw[VDs]⟩
 ·cases j with
  |zero=>cases X;exact⟨a,rfl,o,_,M,nn ns⟩
  |succ j=>simp at X
end Ev
namespace Lw
open PySem Ev
abbrev nq:List CS:=[.ret (.and (.inst .int (.var 0)) (.not (.inst .bool (.var 0))))]
abbrev kC:List CS:=[.ret (.and (.call 0 [.var 0]) (.chn .le .le (.var 1) (.var 0) (.var 2)))]
abbrev kD:List CS:=[.ret (.call 1 [.var 0,.int 0,.con 0 9999])]
abbrev nu:List CS:=[.ret (.and (.inst .tuple (.var 0)) (.chn .le .le (.var 1) (.len (.var 0)) (.var 2)))]
abbrev jv:List CS:=[.ifs (.or (.not (.call 3 [.var 0,.int 0,.var 1])) (.not (.all (.comp ["number"] (.call 1 [.var 2,.int 0,.bin .sub (.var 1) (.int 1)]) [⟨.name 2,.val (.var 0),aT⟩])))) [.ret (.bl bx)] [],.ret (.all (.comp ["number"] (.cmp .eq (.cnt (.var 0) (.var 2)) (.int 1)) [⟨.name 2,.val (.var 0),aT⟩]))]
abbrev kE:List CS:=[.ifs (.or (.not (.chn .le .le (.int 1) (.lenS (.var 0)) (.con 2 40))) (.not (.all (.comp ["sign"] (.cmp .isin (.var 1) (.txc 1 "0123456789")) [⟨.name 1,.chr (.var 0),aT⟩])))) [.ret .non] [],.ifs (.and (.cmp .eq (.ix (.var 0) (.int 0)) (.str "0")) (.cmp .ne (.var 0) (.str "0"))) [.ret .non] [],.ret (.intX (.var 0))]
abbrev kF:List CS:=[.ifs (.not (.call 3 [.var 0,.int 4,.int 4])) [.ret (.bl bx)] [],.asg (.tup [.name 1,.name 2,.name 3,.name 4]) (.var 0),.ret (.and (.call 1 [.var 1,.int 0,.con 3 8]) (.and (.call 1 [.var 2,.int 0,.con 4 60]) (.and (.call 7 [.var 3]) (.call 10 [.var 4]))))]
abbrev nv:List CS:=[.ifs (.not (.call 3 [.var 0,.int 1,.con 5 4])) [.ret (.bl bx)] [],.ret (.and (.all (.comp ["row"] (.call 8 [.var 1,.len (.var 0)]) [⟨.name 1,.val (.var 0),aT⟩])) (.call 9 [.var 0]))]
abbrev jw:List CS:=[.ret (.and (.call 3 [.var 0,.var 1,.var 1]) (.all (.comp ["gap"] (.call 1 [.var 2,.int 1,.con 6 99]) [⟨.name 2,.val (.var 0),aT⟩])))]
abbrev bU:List CS:=[.asg (.name 1) (.listR (.len (.var 0))),.ret (.all (.comp ["a", "b", "c"] (.cmp .le (.ix (.ix (.var 0) (.var 2)) (.var 3)) (.bin .add (.ix (.ix (.var 0) (.var 2)) (.var 4)) (.ix (.ix (.var 0) (.var 4)) (.var 3)))) [⟨.name 2,.val (.var 1),aT⟩,⟨.name 3,.val (.var 1),aT⟩,⟨.name 4,.val (.var 1),aT⟩]))]
abbrev kG:List CS:=[.ifs (.or (.not (.call 3 [.var 0,.int 0,.con 7 4])) (.not (.all (.comp ["part"] (.call 11 [.var 1]) [⟨.name 1,.val (.var 0),aT⟩])))) [.ret (.bl bx)] [],.ret (.all (.comp ["at"] (.cmp .gt (.ix (.ix (.var 0) (.var 1)) (.int 0)) (.ix (.ix (.var 0) (.bin .sub (.var 1) (.int 1))) (.int 1))) [⟨.name 1,.r2 (.int 1) (.len (.var 0)),aT⟩]))]
abbrev jx:List CS:=[.ret (.and (.call 3 [.var 0,.int 2,.int 2]) (.and (.call 2 [.ix (.var 0) (.int 0)]) (.and (.call 2 [.ix (.var 0) (.int 1)]) (.cmp .lt (.ix (.var 0) (.int 0)) (.ix (.var 0) (.int 1))))))]
abbrev pF:List CS:=[.ret (.call 1 [.var 1,.int 0,.bin .sub (.len (.ix (.var 0) (.int 2))) (.int 1)])]
abbrev uj:List CS:=[.ifs (.not (.call 3 [.var 0,.int 4,.int 4])) [.ret (.bl bx)] [],.asg (.tup [.name 1,.name 2,.name 3,.name 4]) (.var 0),.ret (.and (.call 6 [.var 1]) (.and (.call 14 [.var 1,.var 2]) (.and (.call 15 [.var 1,.var 3]) (.call 17 [.var 3,.var 4]))))]
abbrev nw:List CS:=[.ifs (.cmp .is (.var 1) .non) [.ret (.bl br)] [],.ret (.and (.call 3 [.var 1,.int 2,.int 2]) (.and (.call 12 [.var 0,.ix (.var 1) (.int 0)]) (.call 2 [.ix (.var 1) (.int 1)])))]
abbrev io:List CS:=[.ret (.and (.call 3 [.var 1,.int 0,.con 8 7]) (.all (.comp ["part"] (.call 16 [.var 0,.var 2]) [⟨.name 2,.val (.var 1),aT⟩])))]
abbrev kH:List CS:=[.ifs (.not (.call 3 [.var 1,.int 7,.int 7])) [.ret (.bl bx)] [],.asg (.tup [.name 2,.name 3,.name 4,.name 5,.name 6,.name 7,.name 8]) (.var 1),.ifs (.not (.all (.comp ["minute"] (.call 2 [.var 9]) [⟨.name 9,.val (.tup [.var 3,.var 4,.var 5,.var 6]),aT⟩]))) [.ret (.bl bx)] [],.ifs (.not (.chn .le .le (.bin .add (.var 3) (.ix (.var 0) (.int 1))) (.var 4) (.var 5))) [.ret (.bl bx)] [],.ret (.and (.call 12 [.var 0,.var 2]) (.and (.call 1 [.var 7,.int 0,.con 9 99]) (.call 1 [.var 8,.int 0,.ix (.var 0) (.int 0)])))]
abbrev kI:List CS:=[.ifs (.not (.call 4 [.var 1,.len (.var 0)])) [.ret (.bl bx)] [],.ret (.all (.comp ["number", "glider"] (.or (.cmp .eq (.ix (.var 3) (.int 6)) (.int 0)) (.cmp .isin (.var 2) (.var 1))) [⟨.tup [.name 2,.name 3],.en (.var 0),aT⟩]))]
abbrev gq:List RS:=[.rz (.not (.call 13 [.var 0])) 1]
abbrev fc:List RS:=[.ck 18 [.var 0],.pl (.ret (.call 21 [.var 0]))]
abbrev wz:List RS:=[.pl (.asg (.name 1) (.ite (.inst .str (.var 0)) (.call 23 [.var 0]) .non)),.rz (.or (.not (.call 13 [.var 1])) (.cmp .ne (.call 21 [.var 1]) (.var 0))) 5,.pl (.ret (.var 1))]
abbrev j7:List CS:=[.asg (.tup [.tup [.name 1,.name 2,.name 3,.name 4],.name 5,.name 6,.name 7]) (.var 0),.asg (.name 8) (.lst [.call 22 [.str "meadow", .tup [.var 1,.var 2]]]),.aug 8 (.comp ["row"] (.call 22 [.str "gaps", .var 9]) [⟨.name 9,.val (.var 3),aT⟩]),.aug 8 (.comp ["stretch"] (.call 22 [.str "shut", .var 9]) [⟨.name 9,.val (.var 4),aT⟩]),.ifs (.cmp .isnot (.var 5) .non) [.ex (.app (.var 8) (.call 22 [.str "ahead", .var 5]))] [],.aug 8 (.comp ["glider"] (.call 22 [.str "glider", .var 9]) [⟨.name 9,.val (.var 6),aT⟩]),.ifs (.var 7) [.ex (.app (.var 8) (.call 22 [.str "fixed", .var 7]))] [],.ret (.join (.str "\n") (.var 8))]
abbrev uk:List CS:=[.ret (.join (.str " ") (.bin .add (.lst [.var 0]) (.comp ["number"] (.strI (.var 2)) [⟨.name 2,.val (.var 1),aT⟩])))]
abbrev jy:List CS:=[.dcs 1 ["word"] (.var 6) (.lst []) (.name 6) (.wds 10 ["meadow", "gaps", "shut", "ahead", "glider", "fixed"]),.for_ (.name 2) (.val (.spl (.var 0) (.str "\n"))) [.stg 3 4 (.spl (.var 2) (.str " ")),.ifs (.cmp .notin (.var 3) (.var 1)) [.ret .non] [],.ex (.app (.ix (.var 1) (.var 3)) (.tupOf (.comp ["part"] (.call 5 [.var 6]) [⟨.name 6,.val (.var 4),aT⟩])))],.asg (.name 5) (.bin .add (.call 24 [.ix (.var 1) (.str "meadow"),.tup []]) (.tup [.tupOf (.ix (.var 1) (.str "gaps")),.tupOf (.ix (.var 1) (.str "shut"))])),.ret (.tup [.var 5,.call 24 [.ix (.var 1) (.str "ahead"),.non],.tupOf (.ix (.var 1) (.str "glider")),.call 24 [.ix (.var 1) (.str "fixed"),.tup []]])]
abbrev kJ:List CS:=[.ret (.ite (.var 0) (.ix (.var 0) (.int 0)) (.var 1))]
abbrev ip:List CS:=[.ifs (.cmp .lt (.var 1) (.len (.var 0))) [.ret (.ix (.var 0) (.var 1))] [],.ret (.int 0)]
abbrev pG:List CS:=[.ifs (.cmp .ge (.var 0) (.bin .pow (.int 10) (.int 18))) [.ret (.lst [.bin .sub (.var 0) (.bin .pow (.int 10) (.int 18))])] [],.asg (.name 1) (.int 0),.for_ (.name 2) (.r1 (.int 64)) [.asg (.name 3) (.bin .mod (.bin .mul (.bin .add (.bin .add (.bin .mod (.var 0) (.int 2147483629)) (.bin .mul (.int 7919) (.var 2))) (.int 1)) (.int 48271)) (.int 2147483647)),.asg (.name 3) (.bin .mod (.bin .add (.bin .add (.bin .mul (.var 3) (.var 3)) (.bin .mul (.int 69621) (.var 2))) (.int 7)) (.int 2147483587)),.asg (.name 1) (.bin .add (.bin .mul (.var 1) (.int 2147483587)) (.var 3))],.ret (.lst [.var 1])]
abbrev ny:List CS:=[.asg (.name 2) (.bin .mod (.ix (.var 0) (.int 0)) (.var 1)),.setI (.bin .fdiv (.ix (.var 0) (.int 0)) (.var 1)) (.var 0) (.int 0),.ret (.var 2)]
abbrev kK:List CS:=[.ret (.and (.inst .int (.var 0)) (.not (.inst .bool (.var 0))))]
abbrev jz:List CS:=[.ret (.and (.call 28 [.var 0]) (.chn .le .le (.var 1) (.var 0) (.var 2)))]
abbrev dG:List CS:=[.asg (.name 1) (.bin .add (.int 1) (.call 27 [.var 0,.int 4])),.asg (.name 2) (.comp ["_law_a"] (.comp ["_law_b"] (.bin .add (.int 1) (.call 27 [.var 0,.int 9])) [⟨.name 5,.r1 (.var 1),aT⟩]) [⟨.name 4,.r1 (.var 1),aT⟩]),.ifs (.cmp .eq (.call 27 [.var 0,.int 8]) (.int 0)) [.asg (.name 2) (.comp ["_law_row"] (.comp ["_law_gap"] (.bin .sub (.int 99) (.call 27 [.var 0,.int 3])) [⟨.name 5,.val (.var 4),aT⟩]) [⟨.name 4,.val (.var 2),aT⟩])] [],.for_ (.name 3) (.r1 (.var 1)) [.asg (.name 2) (.comp ["_law_row"] (.comp ["_law_b", "_law_gap"] (.mn (.var 6) (.bin .add (.ix (.var 4) (.var 3)) (.ix (.ix (.var 2) (.var 3)) (.var 5)))) [⟨.tup [.name 5,.name 6],.en (.var 4),aT⟩]) [⟨.name 4,.val (.var 2),aT⟩])],.ret (.tupOf (.comp ["_law_row"] (.tupOf (.var 4)) [⟨.name 4,.val (.var 2),aT⟩]))]
abbrev kL:List CS:=[.asg (.tup [.name 2,.name 3]) (.tup [.lst [],.var 1]),.for_ (.name 4) (.r1 (.ix (.lst [.int 0,.int 1,.int 2,.int 3,.int 4]) (.call 27 [.var 0,.int 5]))) [.asg (.name 3) (.bin .add (.bin .add (.var 3) (.int 1)) (.call 27 [.var 0,.int 14])),.ex (.app (.var 2) (.tup [.var 3,.bin .add (.bin .add (.var 3) (.int 1)) (.call 27 [.var 0,.int 6])])),.asg (.name 3) (.ix (.ix (.var 2) (.neg (.int 1))) (.int 1))],.ret (.tupOf (.var 2))]
abbrev jA:List CS:=[.asg (.name 1) (.ix (.lst [.int 2,.int 1,.int 3,.int 8,.int 0]) (.call 27 [.var 0,.int 5])),.ret (.tup [.var 1,.ix (.lst [.int 2,.int 0,.int 1,.int 5,.int 60]) (.call 27 [.var 0,.int 5]),.call 30 [.var 0],.call 31 [.var 0,.int 0]])]
abbrev jB:List CS:=[.asg (.name 2) (.call 27 [.var 0,.int 40]),.asg (.name 3) (.bin .add (.bin .add (.var 2) (.ix (.var 1) (.int 1))) (.ix (.lst [.int 0,.int 0,.call 27 [.var 0,.int 9]]) (.call 27 [.var 0,.int 3]))),.asg (.name 4) (.bin .add (.var 3) (.ix (.lst [.call 27 [.var 0,.int 5],.bin .add (.int 5) (.call 27 [.var 0,.int 20]),.int 60,.int 200]) (.call 27 [.var 0,.int 4]))),.asg (.name 5) (.ix (.lst [.var 3,.bin .add (.var 2) (.call 27 [.var 0,.int 30]),.call 27 [.var 0,.int 90]]) (.call 27 [.var 0,.int 3])),.ret (.tup [.call 27 [.var 0,.len (.ix (.var 1) (.int 2))],.var 2,.var 3,.var 4,.var 5,.call 27 [.var 0,.int 10],.int 0])]
abbrev kM:List CS:=[.asg (.name 2) (.listOf (.var 1)),.ret (.comp ["_law_one"] (.popAt (.var 2) (.call 27 [.var 0,.len (.var 2)])) [⟨.name 3,.val (.var 1),aT⟩])]
abbrev g9:List CS:=[.asg (.name 2) (.call 32 [.var 0]),.asg (.name 3) (.comp ["_law_g"] (.call 33 [.var 0,.var 2]) [⟨.name 8,.r1 (.call 27 [.var 0,.bin .add (.var 1) (.int 1)]),aT⟩]),.asg (.name 4) (.listR (.len (.var 3))),.ifs (.cmp .eq (.call 27 [.var 0,.int 2]) (.int 0)) [.asg (.name 4) (.comp ["_law_pair"] (.ix (.var 8) (.int 1)) [⟨.name 8,.val (.srt (.comp ["_law_g", "_law_glider_here"] (.tup [.ix (.var 9) (.int 2),.var 8]) [⟨.tup [.name 8,.name 9],.en (.var 3),aT⟩])),aT⟩])] [.asg (.name 4) (.call 34 [.var 0,.var 4])],.asg (.name 5) (.sl (.var 4) aT (aD (.ix (.lst [.int 0,.int 1,.int 2,.int 3]) (.call 27 [.var 0,.int 4])))),.for_ (.name 6) (.val (.var 5)) [.ifs (.and (.cmp .eq (.call 27 [.var 0,.int 2]) (.int 0)) (.cmp .gt (.ix (.var 2) (.int 0)) (.int 0))) [.setI (.bin .add (.sl (.ix (.var 3) (.var 6)) aT (aD (.int 6))) (.tup [.bin .add (.int 1) (.call 27 [.var 0,.ix (.var 2) (.int 0)])])) (.var 3) (.var 6)] []],.asg (.name 7) .non,.ifs (.cmp .eq (.call 27 [.var 0,.int 2]) (.int 0)) [.asg (.name 7) (.tup [.call 27 [.var 0,.len (.ix (.var 2) (.int 2))],.call 27 [.var 0,.int 20]])] [],.ret (.tup [.var 2,.var 7,.tupOf (.var 3),.tupOf (.var 5)])]
abbrev pH:List CS:=[.asg (.name 1) (.lst [.non,.bl br,.bl bx,.neg (.int 1),.bin .pow (.int 10) (.int 30),.str "", .str "a", .str "1", .tup [],.lst [],.dic0,.lst [.tup []],.tup [.tup []],.tup [.int 0],.lst [.int 0],.dic1 0 1,.tup [.bl br,.bl br]]),.ret (.ix (.var 1) (.call 27 [.var 0,.len (.var 1)]))]
abbrev iI:List CS:=[.ifs (.not (.inst .tuple (.var 1))) [.ifs (.and (.call 28 [.var 1]) (.cmp .gt (.call 27 [.var 0,.int 3]) (.int 0))) [.ret (.bin .add (.var 1) (.ix (.lst [.int 1,.neg (.int 1),.int 9,.int 100,.int 9999,.neg (.bin .pow (.int 10) (.int 4))]) (.call 27 [.var 0,.int 6])))] [],.ret (.call 36 [.var 0])] [],.asg (.name 2) (.call 27 [.var 0,.int 12]),.ifs (.or (.cmp .eq (.var 2) (.int 0)) (.cmp .eq (.var 1) (.tup []))) [.ret (.ix (.lst [.call 36 [.var 0],.listOf (.var 1),.bin .add (.var 1) (.tup [.call 36 [.var 0]]),.bin .add (.var 1) (.sl (.var 1) (aD (.neg (.int 1))) aT)]) (.call 27 [.var 0,.int 4]))] [],.asg (.name 3) (.call 27 [.var 0,.len (.var 1)]),.ifs (.cmp .eq (.var 2) (.int 1)) [.ret (.bin .add (.sl (.var 1) aT (aD (.var 3))) (.sl (.var 1) (aD (.bin .add (.var 3) (.int 1))) aT))] [],.ifs (.cmp .eq (.var 2) (.int 2)) [.ret (.bin .add (.bin .add (.sl (.var 1) aT (aD (.var 3))) (.sl (.var 1) (aD (.var 3)) (aD (.bin .add (.var 3) (.int 1))))) (.sl (.var 1) (aD (.var 3)) aT))] [],.ret (.bin .add (.bin .add (.sl (.var 1) aT (aD (.var 3))) (.tup [.call 37 [.var 0,.ix (.var 1) (.var 3)]])) (.sl (.var 1) (aD (.bin .add (.var 3) (.int 1))) aT))]
abbrev wD:List CS:=[.never,.never,.never,.never,.never,.asg (.name 2) (.lst [.str "meadow", .str "sky", .str "landings", .str "order", .str "lot", .str "text", .str "name", .str "glider", .str "minute", .str "aim", .str "many", .str "bound"]),.never]
abbrev fS:List CS:=[.ifs (.or (.not (.inst .tuple (.var 0))) (.cmp .ne (.len (.var 0)) (.int 4))) [.ret (.bl bx)] [],.asg (.tup [.name 1,.name 2,.name 3,.name 4]) (.var 0),.ifs (.or (.not (.call 29 [.var 1,.int 0,.int 8])) (.not (.call 29 [.var 2,.int 0,.int 60]))) [.ret (.bl bx)] [],.ifs (.or (.not (.inst .tuple (.var 3))) (.or (.not (.chn .le .le (.int 1) (.len (.var 3)) (.int 4))) (.or (.not (.inst .tuple (.var 4))) (.cmp .gt (.len (.var 4)) (.int 4))))) [.ret (.bl bx)] [],.for_ (.name 5) (.val (.var 3)) [.ifs (.or (.not (.inst .tuple (.var 5))) (.or (.cmp .ne (.len (.var 5)) (.len (.var 3))) (.not (.all (.comp ["_law_gap"] (.call 29 [.var 10,.int 1,.int 99]) [⟨.name 10,.val (.var 5),aT⟩]))))) [.ret (.bl bx)] []],.for_ (.name 5) (.val (.var 3)) [.for_ (.tup [.name 6,.name 7]) (.en (.var 5)) [.ifs (.cmp .ne (.comp ["_law_b", "_law_gap"] (.var 10) [⟨.tup [.name 10,.name 11],.en (.var 5),aD (.cmp .gt (.var 11) (.bin .add (.var 7) (.ix (.ix (.var 3) (.var 6)) (.var 10))))⟩]) (.lst [])) [.ret (.bl bx)] []]],.asg (.name 8) (.neg (.int 1)),.for_ (.name 9) (.val (.var 4)) [.ifs (.or (.not (.inst .tuple (.var 9))) (.or (.cmp .ne (.len (.var 9)) (.int 2)) (.not (.all (.comp ["_law_end"] (.call 29 [.var 10,.int 0,.int 9999]) [⟨.name 10,.val (.var 9),aT⟩]))))) [.ret (.bl bx)] [],.ifs (.or (.cmp .ge (.ix (.var 9) (.int 0)) (.ix (.var 9) (.int 1))) (.cmp .le (.ix (.var 9) (.int 0)) (.var 8))) [.ret (.bl bx)] [],.asg (.name 8) (.ix (.var 9) (.int 1))],.ret (.bl br)]
abbrev fT:List CS:=[.ifs (.or (.not (.inst .tuple (.var 0))) (.or (.cmp .ne (.len (.var 0)) (.int 7)) (.not (.call 29 [.ix (.var 0) (.int 0),.int 0,.bin .sub (.len (.ix (.var 1) (.int 2))) (.int 1)])))) [.ret (.bl bx)] [],.for_ (.name 2) (.val (.sl (.var 0) (aD (.int 1)) (aD (.int 5)))) [.ifs (.not (.call 29 [.var 2,.int 0,.int 9999])) [.ret (.bl bx)] []],.ifs (.or (.not (.call 29 [.ix (.var 0) (.int 5),.int 0,.int 99])) (.not (.call 29 [.ix (.var 0) (.int 6),.int 0,.ix (.var 1) (.int 0)]))) [.ret (.bl bx)] [],.ret (.and (.cmp .ge (.ix (.var 0) (.int 2)) (.bin .add (.ix (.var 0) (.int 1)) (.ix (.var 1) (.int 1)))) (.cmp .ge (.ix (.var 0) (.int 3)) (.ix (.var 0) (.int 2))))]
abbrev cY:List CS:=[.ifs (.or (.not (.inst .tuple (.var 0))) (.or (.cmp .ne (.len (.var 0)) (.int 4)) (.not (.call 39 [.ix (.var 0) (.int 0)])))) [.ret (.bl bx)] [],.asg (.tup [.name 1,.name 2,.name 3,.name 4]) (.var 0),.ifs (.cmp .isnot (.var 2) .non) [.ifs (.or (.not (.inst .tuple (.var 2))) (.or (.cmp .ne (.len (.var 2)) (.int 2)) (.not (.call 29 [.ix (.var 2) (.int 0),.int 0,.bin .sub (.len (.ix (.var 1) (.int 2))) (.int 1)])))) [.ret (.bl bx)] [],.ifs (.not (.call 29 [.ix (.var 2) (.int 1),.int 0,.int 9999])) [.ret (.bl bx)] []] [],.ifs (.or (.not (.inst .tuple (.var 3))) (.or (.cmp .gt (.len (.var 3)) (.int 7)) (.not (.inst .tuple (.var 4))))) [.ret (.bl bx)] [],.for_ (.name 5) (.val (.var 3)) [.ifs (.not (.call 40 [.var 5,.var 1])) [.ret (.bl bx)] []],.for_ (.tup [.name 6,.name 7]) (.en (.var 4)) [.ifs (.or (.not (.call 29 [.var 7,.int 0,.bin .sub (.len (.var 3)) (.int 1)])) (.cmp .isin (.var 7) (.sl (.var 4) aT (aD (.var 6))))) [.ret (.bl bx)] []],.ret (.cmp .eq (.comp ["_law_g", "_law_glider_here"] (.var 8) [⟨.tup [.name 8,.name 9],.en (.var 3),aD (.and (.cmp .gt (.ix (.var 9) (.int 6)) (.int 0)) (.cmp .notin (.var 8) (.var 4)))⟩]) (.lst []))]
abbrev fD:List CS:=[.asg (.name 1) (.lst [.bin .add (.bin .add (.bin .add (.str "meadow ") (.strI (.ix (.ix (.var 0) (.int 0)) (.int 0)))) (.str " ")) (.strI (.ix (.ix (.var 0) (.int 0)) (.int 1)))]),.asg (.name 2) (.bin .add (.comp ["_law_row"] (.tup [.str "gaps", .var 8]) [⟨.name 8,.val (.ix (.ix (.var 0) (.int 0)) (.int 2)),aT⟩]) (.comp ["_law_one"] (.tup [.str "shut", .var 8]) [⟨.name 8,.val (.ix (.ix (.var 0) (.int 0)) (.int 3)),aT⟩])),.ifs (.cmp .isnot (.ix (.var 0) (.int 1)) .non) [.ex (.app (.var 2) (.tup [.str "ahead", .ix (.var 0) (.int 1)]))] [],.asg (.name 2) (.bin .add (.var 2) (.comp ["_law_glider_here"] (.tup [.str "glider", .var 8]) [⟨.name 8,.val (.ix (.var 0) (.int 2)),aT⟩])),.ifs (.cmp .gt (.len (.ix (.var 0) (.int 3))) (.int 0)) [.ex (.app (.var 2) (.tup [.str "fixed", .ix (.var 0) (.int 3)]))] [],.for_ (.tup [.name 3,.name 4]) (.val (.var 2)) [.for_ (.name 5) (.val (.var 4)) [.asg (.name 3) (.bin .add (.bin .add (.var 3) (.str " ")) (.strI (.var 5)))],.ex (.app (.var 1) (.var 3))],.asg (.name 6) (.ix (.var 1) (.int 0)),.for_ (.name 7) (.val (.sl (.var 1) (aD (.int 1)) aT)) [.asg (.name 6) (.bin .add (.bin .add (.var 6) (.str "\n")) (.var 7))],.ret (.var 6)]
abbrev dH:List RS:=[.tr 19 [.var 0]]
abbrev JP:List CS:=[.for_ (.name 1) (.r1 (.mx (.int 1) (.mn (.len (.var 0)) (.int 20)))) [.asg (.name 2) (.call 26 [.call 25 [.var 0,.var 1]]),.asg (.name 3) (.call 35 [.var 2,.int 7]),.asg (.tup [.name 4,.name 5]) (.tup [.rep (.var 3),.call 42 [.var 3]]),.for_ (.name 6) (.r1 (.int 2)) [.asg (.name 7) (.call 43 [.var 3]),.ifs (.or (.cmp .ne (.rep (.var 7)) (.rep (.var 5))) (.or (.cmp .ne (.rep (.var 3)) (.var 4)) (.cmp .ne (.rep (.call 20 [.var 5])) (.var 4)))) [.ret (.bl bx)] []],.for_ (.name 6) (.r1 (.int 3)) [.asg (.name 8) (.call 37 [.var 2,.var 3]),.ifs (.not (.call 41 [.var 8])) [.asg (.name 5) (.rep (.str "sky"))] [.asg (.name 5) (.rep (.call 42 [.var 8]))],.ifs (.cmp .ne (.rep (.call 43 [.var 8])) (.var 5)) [.ret (.bl bx)] []]],.ret (.bl br)]
abbrev iJ:DefE:=⟨"is_whole", top 21,["thing"],1,nq,aT⟩
abbrev gr:DefE:=⟨"is_within", top 22,["thing", "least", "most"],3,kC,aT⟩
abbrev gu:DefE:=⟨"is_minute", top 23,["thing"],1,kD,aT⟩
abbrev iK:DefE:=⟨"is_tuple", top 24,["thing", "least", "most"],3,nu,aT⟩
abbrev fE:DefE:=⟨"are_unlike", top 25,["thing", "many"],2,jv,aT⟩
abbrev gw:DefE:=⟨"number_in", top 26,["word"],1,kE,aT⟩
abbrev gy:DefE:=⟨"is_meadow", top 33,["thing", "rings", "sink", "gaps", "shuts"],1,kF,aT⟩
abbrev iL:DefE:=⟨"are_gaps", top 34,["thing"],1,nv,aT⟩
abbrev fF:DefE:=⟨"is_gap_row", top 35,["thing", "many"],2,jw,aT⟩
abbrev bu:DefE:=⟨"no_glider_between_helps", top 36,["gaps", "kinds"],1,bU,aT⟩
abbrev gz:DefE:=⟨"are_shuts", top 37,["thing"],1,kG,aT⟩
abbrev fG:DefE:=⟨"is_stretch", top 38,["thing"],1,jx,aT⟩
abbrev j8:DefE:=⟨"is_kind", top 39,["meadow", "thing"],2,pF,aT⟩
abbrev nz:DefE:=⟨"is_sky", top 43,["thing", "meadow", "ahead", "gliders", "fixed"],1,uj,aT⟩
abbrev iM:DefE:=⟨"is_ahead", top 44,["meadow", "thing"],2,nw,aT⟩
abbrev eI:DefE:=⟨"are_gliders", top 45,["meadow", "thing"],2,io,aT⟩
abbrev gA:DefE:=⟨"is_glider", top 46,["meadow", "thing", "kind", "joins", "first", "last", "due", "weight", "ring"],2,kH,aT⟩
abbrev gB:DefE:=⟨"are_fixed", top 47,["gliders", "thing"],2,kI,aT⟩
abbrev kN:DefE:=⟨"check_sky", top 48,["thing"],1,[],aD gq⟩
abbrev j9:DefE:=⟨"written", top 51,["sky"],1,[],aD fc⟩
abbrev DR:DefE:=⟨"read", top 52,["text", "sky"],1,[],aD wz⟩
abbrev kc:DefE:=⟨"text_of", top 53,["sky", "rings", "sink", "gaps", "shuts", "ahead", "gliders", "fixed", "rows"],1,j7,aT⟩
abbrev nA:DefE:=⟨"row_of", top 54,["word", "numbers"],2,uk,aT⟩
abbrev nB:DefE:=⟨"sky_in", top 55,["text", "found", "row", "word", "figures", "meadow"],1,jy,aT⟩
abbrev gC:DefE:=⟨"first_row", top 56,["rows", "otherwise"],2,kJ,aT⟩
abbrev eJ:DefE:=⟨"_law_cell_at", top 58,["_law_script", "_law_k"],2,ip,aT⟩
abbrev kf:DefE:=⟨"_law_pot", top 59,["_law_cell", "_law_number", "_law_j", "_law_more"],1,pG,aT⟩
abbrev iO:DefE:=⟨"_law_take", top 60,["_law_pot_here", "_law_far", "_law_found"],2,ny,aT⟩
abbrev gD:DefE:=⟨"_law_whole", top 61,["_law_thing"],1,kK,aT⟩
abbrev fH:DefE:=⟨"_law_within", top 62,["_law_thing", "_law_low", "_law_high"],3,jz,aT⟩
abbrev iP:DefE:=⟨"_law_gaps", top 63,["_law_pot_here", "_law_many", "_law_rows", "_law_c"],1,dG,aT⟩
abbrev gF:DefE:=⟨"_law_shuts", top 64,["_law_pot_here", "_law_now", "_law_found", "_law_begin", "_law_turn"],2,kL,aT⟩
abbrev fI:DefE:=⟨"_law_meadow", top 65,["_law_pot_here", "_law_rings"],1,jA,aT⟩
abbrev fJ:DefE:=⟨"_law_glider", top 66,["_law_pot_here", "_law_meadow_here", "_law_joins", "_law_first", "_law_last", "_law_due"],2,jB,aT⟩
abbrev gG:DefE:=⟨"_law_mixed", top 67,["_law_pot_here", "_law_some", "_law_left"],2,kM,aT⟩
abbrev kg:DefE:=⟨"_law_sky", top 68,["_law_pot_here", "_law_most", "_law_meadow_here", "_law_gliders", "_law_numbers", "_law_fixed", "_law_g", "_law_ahead"],2,g9,aT⟩
abbrev kh:DefE:=⟨"_law_odd", top 69,["_law_pot_here", "_law_some"],1,pH,aT⟩
abbrev dJ:DefE:=⟨"_law_bent", top 70,["_law_pot_here", "_law_thing", "_law_way", "_law_at"],2,iI,aT⟩
abbrev wG:DefE:=⟨"_law_word", top 71,["_law_e", "_law_some", "_law_words"],1,wD,aT⟩
abbrev cO:DefE:=⟨"_law_is_meadow", top 72,["_law_thing", "_law_rings", "_law_sink", "_law_gaps_here", "_law_shuts_here", "_law_row", "_law_c", "_law_first", "_law_behind", "_law_one"],1,fS,aT⟩
abbrev cP:DefE:=⟨"_law_is_glider", top 73,["_law_thing", "_law_meadow_here", "_law_minute"],2,fT,aT⟩
abbrev fK:DefE:=⟨"_law_is_sky", top 74,["_law_thing", "_law_meadow_here", "_law_ahead", "_law_gliders", "_law_fixed", "_law_glider_here", "_law_k", "_law_g"],1,cY,aT⟩
abbrev iQ:DefE:=⟨"_law_text", top 75,["_law_sky_here", "_law_rows", "_law_some", "_law_word_here", "_law_numbers", "_law_number", "_law_text_here", "_law_row"],1,fD,aT⟩
abbrev iR:DefE:=⟨"_law_told", top 76,["_law_sky_here", "_law_e"],1,[],aD dH⟩
abbrev yL:DefE:=⟨"law", top 77,["_law_script", "_law_k", "_law_pot_here", "_law_sky_here", "_law_kept", "_law_due", "_law_turn", "_law_found", "_law_bad"],1,JP,aT⟩
abbrev af:List DefE:=[iJ,gr,gu,iK,fE,gw,gy,iL,fF,bu,gz,fG,j8,nz,iM,eI,gA,gB,kN,j9,DR,kc,nA,nB,gC,eJ,kf,iO,gD,fH,iP,gF,fI,fJ,gG,kg,kh,dJ,wG,cO,cP,fK,iQ,iR,yL]
def chk:af.all (DJ (pB con af))=br:=by kernel_rfl
def SZ:af.any yE=br:=by kernel_rfl
def us1:∀ {u:List Value},u.length=1->∃b,u=[b]
 |[b],_=>⟨b,rfl⟩
def us2:∀ {u:List Value},u.length=2->∃b c,u=[b,c]
 |[b,c],_=>⟨b,c,rfl⟩
def us3:∀ {u:List Value},u.length=3->∃b c f,u=[b,c,f]
 |[b,c,f],_=>⟨b,c,f,rfl⟩
def bind:AE af:=by
 repeat' apply And.intro
 all_goals first |trivial |(intro _ _ _ _ _ _ u h;first |(obtain⟨_,rfl⟩:=us1 h;rfl) |(obtain⟨_,_,rfl⟩:=us2 h;rfl) |(obtain⟨_,_,_,rfl⟩:=us3 h;rfl))
end Lw
section
open PySem PySem.W PyProof.Rows
def Lw.eqs(h:Heap):Ev.AC Lw.con Lw.af h=(h.isNs V6,(Lw.nx.take 30).map (λx=>Ev.uI h (.ofString x.1))++(Lw.nx.drop 30).map (λx=>Ev.uI h (.ofString x.1)),Lw.con.map (λc=>Ev.Fb h c.1),(Ev.fW.map λx=>(h.nsMap V6 x).isNone),Ev.Ba h):=by kernel_rfl
def Lw.eqv:Ev.uf Lw.con Lw.af=(br,Lw.vb (Lw.nx.take 30)++Lw.vb (Lw.nx.drop 30),Lw.con.map (λc=>aD c.2),(Ev.fW.map λ_=>br),br):=by kernel_rfl
def Lw.partC:Cut.PartC PySem.Challenge.rw_downrings_k71_skies_written_and_read.row.toRowW.prog (Hook.obs (Ev.j6 Lw.con Lw.af Lw.bind)) (Hook.val (Ev.j6 Lw.con Lw.af Lw.bind)):=λw=>by
 have z:=Cut.two (λa (b:Ev.ue)=>((b.1,a++b.2.1,b.2.2):Ev.ue)) Lw.Ke Lw.Kf w;show Wt (λs=>Ev.AC Lw.con Lw.af s.heap) (Cut.fin _ w)=aD (Ev.uf Lw.con Lw.af);rw[Lw.eqv,show(λs:Shared=>Ev.AC Lw.con Lw.af s.heap)=_ from funext λs=>Lw.eqs s.heap];exact z
set_option maxHeartbeats 0 in
def Lw.head(h:∀ns:List Int,ns.length<=63->∃b,Ev.evC Lw.af 40 44 [.ref 0] [.frz (ns.map Ev.D.int)]=aD (.bl br,b)):PySem.Challenge.rw_downrings_k71_skies_written_and_read.Holds:=by
 w_on;refine holds_law Lw.said λsaid=>?_
 refine holds_open (q:=Lw.view) (loose:=Lw.loose) (Xt:=(λs=>xlAt Lw.view [] s && recOk (RowW.records PySem.Challenge.rw_downrings_k71_skies_written_and_read.row.toRowW) s)) (XP:=XL Lw.view []) (Yf:=(Hook.obs (Ev.j6 Lw.con Lw.af Lw.bind))) (Ya:=(Hook.val (Ev.j6 Lw.con Lw.af Lw.bind))) (YP:=Hook.says (Ev.j6 Lw.con Lw.af Lw.bind)) (N:=20000) ?hl (Hook.of _) (Hook.keeps _) (λs e=>xl_of s (XC.mp e).1) XL.keeps (by rfl) (by rfl) (by rfl) (λs e=>recFacts_of (XC.mp e).2) (by rfl) (by first |assumption |decide +kernel) (by decide +kernel) ⟨rfl,rfl,rfl,rfl,rfl,by decide +kernel⟩ ?hw ?hc
 case hw=>w_witness2
 case hl=>exact Cut.left_cut Lw.opn Lw.partA Lw.partB Lw.partC
 case hc=>exact Ev.GZ (l:=PySem.Challenge.rw_downrings_k71_skies_written_and_read) (n:=63) (k:=40) (i:=44) (dl:=Lw.yL) rfl (by decide) rfl ⟨rfl,by decide,by decide,rfl⟩ rfl rfl rfl Lw.chk Lw.SZ h
end
namespace Ev
open PySem PySem.Spec PyProof.Rows L2
abbrev Ok{b:Type}(x:Option (b × Sto))(Q:b->Sto->Prop):Prop:=∃a S,x=aD (a,S)/\Q a S
abbrev OkS(x:Option (Fl × Rho × Sto))(Q:Fl->Rho->Sto->Prop):Prop:=∃f b S,x=aD (f,b,S)/\Q f b S
section
variable {α β:Type} {S S':Sto} {ρ ρ':Rho}
def ag{a:α}:Ok (aD (a,S)) Q=Q a S:=by
 apply propext;exact⟨λ⟨_,_,e,q⟩=>by cases e;exact q,λq=>⟨a,S,rfl,q⟩⟩
def bf:Ok aT Q=False:=propext ⟨λ⟨_,_,e,_⟩=>(nomatch e),λh=>h.elim⟩
def bO:Ok (bnd x f) Q=Ok x λa S=>Ok (f a S) Q:=by
 apply propext;constructor
 ·rintro⟨b,S',e,q⟩;obtain⟨a,S,c,E⟩:=ae e;exact⟨a,S,c,b,S',E,q⟩
 ·rintro⟨a,S,c,b,S',E,q⟩;exact⟨b,S',by rw[c];exact E,q⟩
def dM{c:Prop}[Decidable c]:Ok (if c then x else y) Q=if c then Ok x Q else Ok y Q:=by split <;> rfl
def Mx{x:Option β}{f:β->α × Sto}{Q:α->Sto->Prop}:Ok (x.map f) Q=∃b,x=aD b/\Q (f b).1 (f b).2:=by
 apply propext;cases x with
 |none=>exact⟨λ⟨_,_,e,_⟩=>(nomatch e),λ⟨_,e,_⟩=>(nomatch e)⟩
 |some b=>exact⟨λ⟨a,S,e,q⟩=>⟨b,rfl,by have E:=Option.some.inj e;rw[E];exact q⟩,λ⟨B,e,q⟩=>by cases e;exact⟨_,_,rfl,q⟩⟩
def Ok.mono(h:Ok x Q)(f:∀a S,Q a S->Q' a S):Ok x Q':=let ⟨a,S,e,q⟩:=h;⟨a,S,e,f a S q⟩
def OkS.mono(h:OkS x Q)(f:∀a ρ S,Q a ρ S->Q' a ρ S):OkS x Q':=let ⟨a,ρ,S,e,q⟩:=h;⟨a,ρ,S,e,f a ρ S q⟩
def Q2:OkS (aD (f,ρ,S)) Q=Q f ρ S:=propext ⟨λ⟨_,_,_,e,q⟩=>by cases e;exact q,λq=>⟨f,ρ,S,rfl,q⟩⟩
abbrev nxt(y:XS)(Q:Fl->Rho->Sto->Prop)(f:Fl)(ρ:Rho)(S:Sto):Prop:=match f with
 |.nx=>OkS (y ρ S) Q
 |f=>Q f ρ S
def G0:OkS (vT x y ρ S) Q=OkS (x ρ S) (nxt y Q):=by
 apply propext;unfold vT;constructor
 ·rintro⟨f,b,c,e,q⟩;split at e
  ·cases e
  ·rename_i g j h;exact⟨_,_,_,h,f,b,c,e,q⟩
  ·rename_i r n h;cases e;cases f with
   |nx=>exact absurd rfl (n b c)
   |_=>exact⟨_,_,_,h,q⟩
 ·rintro⟨f,b,c,e,q⟩;rw[e];cases f with
  |nx=>exact q
  |_=>exact⟨_,_,_,rfl,q⟩
def My:OkS (xIf c x y ρ S) Q=Ok (c ρ S) λb g=>if b=br then OkS (x ρ g) Q else OkS (y ρ g) Q:=by
 apply propext;unfold xIf;constructor
 ·rintro⟨f,j,g,e,q⟩;cases h:c ρ S with
  |none=>rw[h] at e;cases e
  |some r=>
   obtain⟨b,o⟩:=r;rw[h] at e;refine⟨b,o,rfl,?_⟩;dsimp only at e ⊢;split
   ·rename_i H;rw[if_pos H] at e;exact⟨f,j,g,e,q⟩
   ·rename_i H;rw[if_neg H] at e;exact⟨f,j,g,e,q⟩
 ·rintro⟨b,o,e,q⟩;rw[e];dsimp only;split
  ·rename_i H;rw[if_pos H] at q;exact q
  ·rename_i H;rw[if_neg H] at q;exact q
def G1:OkS (mO x t ρ S) Q=Ok (x ρ S) λd S1=>∃b,aB t d ρ=aD b/\Q .nx b S1:=by
 apply propext;unfold mO;constructor
 ·rintro⟨f,b,S1,e,q⟩;cases h:x ρ S with
  |none=>rw[h] at e;cases e
  |some r=>
   obtain⟨d,c⟩:=r;rw[h] at e;dsimp only at e;cases H:aB t d ρ with
   |none=>rw[H] at e;cases e
   |some g=>rw[H] at e;cases e;exact⟨d,_,rfl,b,H,q⟩
 ·rintro⟨d,c,e,b,E,q⟩;rw[e];dsimp only;rw[E];exact⟨_,_,_,rfl,q⟩
def DS:OkS (tD x ρ S) Q=Ok (x ρ S) λ_ S1=>Q .nx ρ S1:=by
 apply propext;unfold tD;constructor
 ·rintro⟨f,b,S1,e,q⟩;cases h:x ρ S with
  |none=>rw[h] at e;cases e
  |some r=>rw[h] at e;cases e;exact⟨_,_,rfl,q⟩
 ·rintro⟨d,c,e,q⟩;rw[e];exact⟨_,_,_,rfl,q⟩
def G2:OkS (CG x ρ S) Q=Ok (x ρ S) λd S1=>Q (.rt d) ρ S1:=by
 apply propext;unfold CG;constructor
 ·rintro⟨f,b,S1,e,q⟩;cases h:x ρ S with
  |none=>rw[h] at e;cases e
  |some r=>rw[h] at e;cases e;exact⟨_,_,rfl,q⟩
 ·rintro⟨d,c,e,q⟩;rw[e];exact⟨_,_,_,rfl,q⟩
def DT:OkS (tF v o i ρ S) Q=Ok (v ρ S) λa g=>Ok (o ρ g) λb u=>Ok (i ρ u) λc y=>∃S4,oh b c a y=aD S4/\Q .nx ρ S4:=by
 apply propext;unfold tF;constructor
 ·rintro⟨f,B,g,e,q⟩;cases h:v ρ S with
  |none=>rw[h] at e;cases e
  |some r=>
   rw[h] at e;dsimp only at e;cases p:o ρ r.2 with
   |none=>rw[p] at e;cases e
   |some r2=>
    rw[p] at e;dsimp only at e;cases j:i ρ r2.2 with
    |none=>rw[j] at e;cases e
    |some z=>
     rw[j] at e;dsimp only at e;cases H:oh r2.1 z.1 r.1 z.2 with
     |none=>rw[H] at e;cases e
     |some S4=>rw[H] at e;cases e;exact⟨_,_,rfl,_,_,p,_,_,j,_,H,q⟩
 ·rintro⟨a,g,J,b,u,C,c,y,I,S4,E,q⟩;rw[J];dsimp only;rw[C];dsimp only;rw[I];dsimp only;rw[E];exact⟨_,_,_,rfl,q⟩
def G3{k:Nat}:OkS (CH I T b k ρ S) Q=Ok (I ρ S) λnx c=>OkS (dD nx T b k 0 ρ c) Q:=by
 apply propext;unfold CH;constructor
 ·rintro⟨f,g,c,e,q⟩;cases h:I ρ S with
  |none=>rw[h] at e;cases e
  |some r=>rw[h] at e;exact⟨_,_,rfl,_,_,_,e,q⟩
 ·rintro⟨d,j,e,q⟩;rw[e];exact q
abbrev out(Q:D->Sto->Prop)(f:Fl)(_:Rho)(S:Sto):Prop:=match f with
 |.rt v=>Q v S
 |.nx=>Q .non S
 |_=>False
def Mz:out Q (.rt d) ρ S=Q d S:=rfl
def MA:out Q .nx ρ S=Q .non S:=rfl
def aW{k f:Nat}(hd:af[f]?=aD d)(H:ds.map aD++Zp (d.N.length - ds.length) aT=ρ)(h:OkS (fV (evC af k) (cN af) 60 d.body ρ S) (out Q))(j:d.rb=aT:=by rfl):Ok (evC af (k+1) f ds S) Q:=by
 subst H;obtain⟨c,b,g,e,q⟩:=h;have e:fV (toC (evX af k)) (cN af) FU d.body _ S=aD (c,b,g):=e;have z:evX af (k+1) f ds S=(GU (toC (evX af k)) (cN af) d ds S).map λr=>(.val r.1,r.2):=by simp only[evX,hd,j]
 unfold evC toC;rw[z];unfold GU;rw[e];cases c with
 |rt v=>exact⟨_,_,rfl,q⟩
 |nx=>exact⟨_,_,rfl,q⟩
 |bk=>exact q.elim
 |ct=>exact q.elim
def pJ{N:Nat}(I:Nat->List D->Sto->Prop)
  (step:∀i b S,i < N->I i b S->∃d f,nx i S=aD (aD d)/\aB T d ρ=aD f/\Ok (c f S) λE g=>I (i+1) (b++E) g) (stop:∀b S,I N b S->nx N S=aD aT) :
  ∀ (n i k:Nat) (b:List D) (S:Sto),N=i+n->n < k->I i b S->Ok (bt nx T c ρ k i S) λE S'=>I N (b++E) S'
 |0,i,k+1,b,S,hN,hk,h=>by
  obtain rfl:N=i:=by lia
  simp only[bt,stop b S h];exact⟨_,_,rfl,by show I _ (b++[]) S;rw[ZO];exact h⟩
 |n+1,i,k+1,b,S,hN,hk,h=>by
  obtain⟨d,f,v,p,E,g,u,H⟩:=step i b S (by lia) h;simp only[bt,v,p,u,bnd];obtain⟨rs,j,o,q⟩:=pJ I step stop n (i+1) k (b++E) g (by lia) (by lia) H;simp only[o];exact⟨_,_,rfl,by show I _ (b++(E++rs)) j;rw[<-ZX];exact q⟩
def cI{k:Nat}(N:Nat)(I:Nat->List D->Sto->Prop)(H:N < k)
  (step:∀i b S,i < N->I i b S->∃d f,nx i S=aD (aD d)/\aB T d ρ=aD f/\Ok (c f S) λE g=>I (i+1) (b++E) g) (stop:∀b S,I N b S->nx N S=aD aT) (h:I 0 [] S) :
  Ok (bt nx T c ρ k 0 S) (I N):=(pJ I step stop N 0 k [] S (by lia) H h).mono λE S' z=>by rw[Y0] at z;exact z
def nD{N:Nat}(I:Nat->Rho->Sto->Prop)
  (step:∀i ρ S,i < N->I i ρ S->∃d g,nx i S=aD (aD d)/\aB T d ρ=aD g/\OkS (b g S) λj c f=>match j with |.nx=>I (i+1) c f |.ct=>I (i+1) c f |.bk=>Q .nx c f |.rt d=>Q (.rt d) c f)
  (stop:∀ρ S,I N ρ S->nx N S=aD aT/\Q .nx ρ S) :
  ∀ (n i k:Nat) (ρ:Rho) (S:Sto),N=i+n->n < k->I i ρ S->OkS (dD nx T b k i ρ S) Q
 |0,i,k+1,ρ,S,hN,hk,h=>by
  obtain rfl:N=i:=by lia
  simp only[dD,(stop ρ S h).1];exact⟨_,_,_,rfl,(stop ρ S h).2⟩
 |n+1,i,k+1,ρ,S,hN,hk,h=>by
  obtain⟨d,g,p,E,j,c,f,o,H⟩:=step i ρ S (by lia) h;simp only[dD,p,E,o];cases j with
  |nx=>exact nD I step stop n (i+1) k c f (by lia) (by lia) H
  |ct=>exact nD I step stop n (i+1) k c f (by lia) (by lia) H
  |bk=>exact⟨_,_,_,rfl,H⟩
  |rt d=>exact⟨_,_,_,rfl,H⟩
def eA{k:Nat}(N:Nat)(I:Nat->Rho->Sto->Prop)(H:N < k)
  (step:∀i ρ S,i < N->I i ρ S->∃d f,nx i S=aD (aD d)/\aB T d ρ=aD f/\OkS (b f S) λj c g=>match j with |.nx=>I (i+1) c g |.ct=>I (i+1) c g |.bk=>Q .nx c g |.rt d=>Q (.rt d) c g)
  (stop:∀ρ S,I N ρ S->nx N S=aD aT/\Q .nx ρ S) (h:I 0 ρ S):OkS (dD nx T b k 0 ρ S) Q:=nD I step stop N 0 k ρ S (by lia) H h
end
mutual
noncomputable def TD(p:Nat)(S:Sto):Dw.D->D->Prop
 |.non,d=>d = .non
 |.bl b,d=>d = .bl b
 |.int i,d=>d = .int i
 |.str x,d=>d = .str x
 |.tup ts,d=>∃c,d = .tup c/\TDs p S ts c
 |.lst ts,d=>∃n c,d = .ref n/\n ≠ p/\S[n]?=aD (.lst c)/\TDs p S ts c
 |.dic ks ts,d=>∃n c,d = .ref n/\n ≠ p/\S[n]?=aD (.dic ks c)/\TDs p S ts c
noncomputable def TDs(p:Nat)(S:Sto):List Dw.D->List D->Prop
 |[],ds=>ds=[]
 |t::ts,ds=>∃d r,ds=d::r/\TD p S t d/\TDs p S ts r
end
abbrev Kp(p:Nat)(S b:Sto):Prop:=∀i o,i ≠ p->S[i]?=aD o->b[i]?=aD o
abbrev Sm(S b:Sto):Prop:=∀ (i:Nat) (o:Ob),S[i]?=aD o->b[i]?=aD o
def Sm.kp{p:Nat}(h:Sm S S'):Kp p S S':=λi o _ e=>h i o e
def Sm.refl(S:Sto):Sm S S:=λ_ _ e=>e
def Sm.trans(a:Sm S c)(b:Sm c S2):Sm S S2:=λi o e=>b i o (a i o e)
def Sm.app(S X:Sto):Sm S (S++X):=λi o e=>by
 have h:=(Zb.mp e).1;rw[Zw h];exact e
def Kp.refl(p:Nat)(S:Sto):Kp p S S:=λ_ _ _ e=>e
def Kp.trans{p:Nat}(a:Kp p S c)(b:Kp p c S2):Kp p S S2:=λi o n e=>b i o n (a i o n e)
mutual
theorem TD.keep{p:Nat}(k:Kp p S c):∀ {t:Dw.D} {d:D},TD p S t d->TD p c t d
 |.non,_,h=>by rw[TD] at h ⊢;exact h
 |.bl _,_,h=>by rw[TD] at h ⊢;exact h
 |.int _,_,h=>by rw[TD] at h ⊢;exact h
 |.str _,_,h=>by rw[TD] at h ⊢;exact h
 |.tup ts,_,h=>by rw[TD] at h ⊢;obtain⟨b,e,q⟩:=h;exact⟨b,e,TDs.keep k q⟩
 |.lst ts,_,h=>by rw[TD] at h ⊢;obtain⟨n,b,e,ne,a,q⟩:=h;exact⟨n,b,e,ne,k _ _ ne a,TDs.keep k q⟩
 |.dic ks ts,_,h=>by rw[TD] at h ⊢;obtain⟨n,b,e,ne,a,q⟩:=h;exact⟨n,b,e,ne,k _ _ ne a,TDs.keep k q⟩
theorem TDs.keep{p:Nat}(k:Kp p S b):∀ {T:List Dw.D} {ds:List D},TDs p S T ds->TDs p b T ds
 |[],_,h=>by rw[TDs] at h ⊢;exact h
 |t::T,_,h=>by rw[TDs] at h ⊢;obtain⟨d,r,e,a,q⟩:=h;exact⟨d,r,e,TD.keep k a,TDs.keep k q⟩
end
section
variable {p:Nat} {S S':Sto}
def re:TD p S .non .non:=by rw[TD]
def yM:TD p S (.bl b) (.bl b):=by rw[TD]
def bP{i:Int}:TD p S (.int i) (.int i):=by rw[TD]
def rf:TD p S (.str x) (.str x):=by rw[TD]
def td_tup(h:TDs p S T ds):TD p S (.tup T) (.tup ds):=by rw[TD];exact⟨ds,rfl,h⟩
def aE:TDs p S [] []:=by rw[TDs]
def ac(h:TD p S t d)(q:TDs p S T ds):TDs p S (t::T) (d::ds):=by rw[TDs];exact⟨d,ds,rfl,h,q⟩
def TD.non(h:TD p S .non d):d = .non:=by rw[TD] at h;exact h
def TD.bl(h:TD p S (.bl b) d):d = .bl b:=by rw[TD] at h;exact h
def TD.int{i:Int}(h:TD p S (.int i) d):d = .int i:=by rw[TD] at h;exact h
def TD.str(h:TD p S (.str x) d):d = .str x:=by rw[TD] at h;exact h
def TD.tup(h:TD p S (.tup T) d):∃ds,d = .tup ds/\TDs p S T ds:=by rw[TD] at h;exact h
def TDs.cons(h:TDs p S (t::T) ds):∃d r,ds=d::r/\TD p S t d/\TDs p S T r:=by rw[TDs] at h;exact h
def TDs.nil(h:TDs p S [] ds):ds=[]:=by rw[TDs] at h;exact h
def TDs.len:∀ {T:List Dw.D} {ds:List D},TDs p S T ds->ds.length=T.length
 |[],_,h=>by rw[h.nil];rfl
 |t::T,_,h=>by obtain⟨d,r,rfl,_,q⟩:=h.cons;simp[q.len]
def TDs.get:∀ {T:List Dw.D} {ds:List D} {i:Nat} {t:Dw.D},TDs p S T ds->T[i]?=aD t->∃d,ds[i]?=aD d/\TD p S t d
 |[],_,_,_,_,e=>by simp at e
 |t::T,_,0,_,h,e=>by obtain⟨d,r,rfl,a,q⟩:=h.cons;simp at e;subst e;exact⟨d,rfl,a⟩
 |t::T,_,i+1,_,h,e=>by obtain⟨d,r,rfl,a,q⟩:=h.cons;simp at e;obtain⟨x,H,y⟩:=q.get e;exact⟨x,by simpa using H,y⟩
def TDs.app:∀ {T u:List Dw.D} {ds E:List D},TDs p S T ds->TDs p S u E->TDs p S (T++u) (ds++E)
 |[],_,_,_,h,q=>by rw[h.nil];exact q
 |t::T,_,_,_,h,q=>by obtain⟨d,r,rfl,a,z⟩:=h.cons;exact ac a (z.app q)
def TDs.drop:∀ {T:List Dw.D} {ds:List D} (n:Nat),TDs p S T ds->TDs p S (T.drop n) (ds.drop n)
 |[],_,n,h=>by rw[h.nil];simp[aE]
 |t::T,_,0,h=>by simpa using h
 |t::T,_,n+1,h=>by obtain⟨d,r,rfl,a,z⟩:=h.cons;simpa using z.drop n
def TDs.take:∀ {T:List Dw.D} {ds:List D} (n:Nat),TDs p S T ds->TDs p S (T.take n) (ds.take n)
 |[],_,n,h=>by rw[h.nil];simp[aE]
 |t::T,_,0,h=>by simp[aE]
 |t::T,_,n+1,h=>by obtain⟨d,r,rfl,a,z⟩:=h.cons;simpa using ac a (z.take n)
def TDs.cut(lo H:Option Int)(h:TDs p S T ds):TDs p S (Dw.bg T lo H) (bg ds lo H):=by
 unfold Dw.bg bg;rw[h.len];exact(h.drop _).take _
abbrev tyT:Dw.D->String
 |.non => "NoneType" |.bl _ => "bool" |.int _ => "int" |.str _ => "str" |.tup _ => "tuple" |.lst _ => "list" |.dic _ _ => "dict"
def Q3(h:TD p S t d):tyN d S=aD (tyT t):=by
 cases t with
 |non=>rw[h.non];rfl
 |bl _=>rw[h.bl];rfl
 |int _=>rw[h.int];rfl
 |str _=>rw[h.str];rfl
 |tup _=>obtain⟨_,rfl,_⟩:=h.tup;rfl
 |lst _=>rw[TD] at h;obtain⟨n,b,rfl,_,e,_⟩:=h;simp only[tyN,e];rfl
 |dic _ _=>rw[TD] at h;obtain⟨n,b,rfl,_,e,_⟩:=h;simp only[tyN,e];rfl
def hJ(h:TD p S t d):ji ty d S=aD (.bl (gf ty (tyT t)),S):=by
 unfold ji;rw[Q3 h];rfl
end
def G4{n:Nat}:Ok (tK g n x c S) Q=Ok (x c S) λds b=>ds.length=n/\Ok (g ds b) Q:=by
 unfold tK;rw[bO]
 congr 1
 funext ds b
 rw[dM,bf];apply propext;split
 ·rename_i h;exact⟨λz=>⟨h,z⟩,λz=>z.2⟩
 ·rename_i h;exact⟨λz=>z.elim,λz=>(h z.1).elim⟩
def MB:Ok (CO x y c S) Q=Ok (x c S) λd S1=>∃b,d = .bl b/\if b=br then Ok (y c S1) Q else Q (.bl bx) S1:=by
 unfold CO;rw[bO]
 congr 1
 funext d S1
 apply propext;cases d with
 |bl b=>cases b <;> simp[ag]
 |_=>simp[bf]
def Q4:Ok (xOr x y f S) Q=Ok (x f S) λd c=>∃b,d = .bl b/\if b=br then Q (.bl br) c else Ok (y f c) Q:=by
 unfold xOr;rw[bO]
 congr 1
 funext d c
 apply propext;cases d with
 |bl b=>cases b <;> simp[ag]
 |_=>simp[bf]
def MC:Ok (Ag d S) Q=∃b,d = .bl b/\Q (.bl (!b)) S:=by
 apply propext;cases d with
 |bl b=>simp[Ag,ag]
 |_=>simp[Ag,bf]
def MD:Ok (Ah f g x y z h S) Q=Ok (x h S) λa j=>Ok (y h j) λb o=>Ok (f a b o) λr S3=>∃c,r = .bl c/\if c=br then Ok (z h S3) λe p=>Ok (g b e p) Q else Q (.bl bx) S3:=by
 unfold Ah;rw[bO]
 congr 1
 funext a j
 rw[bO]
 congr 1
 funext b o
 rw[bO]
 congr 1
 funext r S3
 apply propext;cases r with
 |bl c=>cases c <;> simp[ag,bO]
 |_=>simp[bf]
def ME{i:Nat}:Ok (sK i b S) Q=∃d,b[i]?=aD (aD d)/\Q d S:=by
 apply propext;unfold sK;cases h:b[i]? with
 |none=>simp[bf]
 |some o=>cases o with
  |none=>simp[bf]
  |some d=>simp[ag]
def Q5{i j:Int}:Ok (ax .le (.int i) (.int j) S) Q=Q (.bl (decide (i<=j))) S:=ag
def Q6{i j:Int}:Ok (ax .lt (.int i) (.int j) S) Q=Q (.bl (decide (i < j))) S:=ag
def Q7{i j:Int}:Ok (ax .gt (.int i) (.int j) S) Q=Q (.bl (decide (j < i))) S:=ag
def Q8{i j:Int}:Ok (ax .ge (.int i) (.int j) S) Q=Q (.bl (decide (j<=i))) S:=ag
def MF{i j:Int}:Ok (bR .add (.int i) (.int j) S) Q=Q (.int (i+j)) S:=ag
def MG{i j:Int}:Ok (bR .sub (.int i) (.int j) S) Q=Q (.int (i - j)) S:=ag
def Q9:Ok (xB x c S) Q=Ok (x c S) λd S1=>∃b,d = .bl b/\Q b S1:=by
 unfold xB;rw[bO]
 congr 1
 funext d S1
 apply propext;cases d with
 |bl b=>simp[ag]
 |_=>simp[bf]
def G5{own k:Nat}:Ok (mP own I T c k b S) Q=Ok (I b S) λnx f=>dZ T (b++Zp own aT)=br/\Ok (bt nx T c (b++Zp own aT) k 0 f) λE S2=>E.length<=100000/\Q E S2:=by
 unfold mP;rw[bO]
 congr 1
 funext nx f
 rw[dM,bf];apply propext
 have e:Ok (bnd (bt nx T c (b++Zp own aT) k 0 f) λE S2=>if E.length<=100000 then aD (E,S2) else aT) Q=Ok (bt nx T c (b++Zp own aT) k 0 f) λE S2=>E.length<=100000/\Q E S2:=by
  rw[bO]
  congr 1
  funext E S2
  rw[dM,bf,ag];apply propext;split
  ·rename_i h;exact⟨λz=>⟨h,z⟩,λz=>z.2⟩
  ·rename_i h;exact⟨λz=>z.elim,λz=>(h z.1).elim⟩
 rw[e];split
 ·rename_i h;exact⟨λz=>⟨h,z⟩,λz=>z.2⟩
 ·rename_i h;exact⟨λz=>z.elim,λz=>(h z.1).elim⟩
def DU{k:Nat}:Ok (jW I T c k b S) Q=(dZ T b=br/\Ok (I b S) λnx f=>Ok (bt nx T c b k 0 f) Q):=by
 unfold jW;rw[dM,bf,bO];apply propext;split
 ·rename_i h;exact⟨λz=>⟨h,z⟩,λz=>z.2⟩
 ·rename_i h;exact⟨λz=>z.elim,λz=>(h z.1).elim⟩
def G6:Ok (oQ x b S) Q=Ok (x b S) λds S1=>ds.length<=1000/\Q ds S1:=by
 unfold oQ;rw[bO]
 congr 1
 funext ds S1
 rw[dM,bf,ag];apply propext;split
 ·rename_i h;exact⟨λz=>⟨h,z⟩,λz=>z.2⟩
 ·rename_i h;exact⟨λz=>z.elim,λz=>(h z.1).elim⟩
def G7:Ok (kT ds S) Q=(ds.length<=1000/\Q (.tup ds) S):=by
 unfold kT;rw[dM,bf,ag];apply propext;split
 ·rename_i h;exact⟨λz=>⟨h,z⟩,λz=>z.2⟩
 ·rename_i h;exact⟨λz=>z.elim,λz=>(h z.1).elim⟩
def bS{b:Type}(l:List b)(g:b->Bool)(S:Sto):n9 bx (l.map λt=>D.bl (g t)) S=aD (.bl (l.all g),S):=by
 unfold n9;have h:(l.map λt=>D.bl (g t)).all Cj=br:=by rw[ZW];simp[Function.comp_def,Cj]
 have H:(l.map λt=>D.bl (g t)).all zW=l.all g:=by rw[ZW];rfl
 rw[if_pos ⟨rfl,h⟩,H]
def cZ{p:Nat}{S:Sto}{T:List Dw.D}{ds:List D}{z:Tg}{c:XA}{y:Rho}{Q:List D->Sto->Prop}(h:TDs p S T ds)(hl:T.length<=100000)(g:Dw.D->Bool)
  (step:∀ (i:Nat) t d b,T[i]?=aD t->Sm S b->TD p b t d->∃f,aB z d y=aD f/\Ok (c f b) λE v=>E=[.bl (g t)]/\Sm b v) (q:∀b,Sm S b->Q (T.map λt=>.bl (g t)) b) :
  Ok (bt (nxL ds) z c y LF 0 S) λE S2=>E.length<=100000/\Q E S2:=by
 refine(cI T.length (λi j b=>Sm S b/\j=(T.take i).map λt=>.bl (g t)) (by unfold LF;lia) (λi j b H ⟨sm,o⟩=>?_) (λj b ⟨sm,o⟩=>?_) ⟨Sm.refl S,by simp⟩).mono λE b ⟨sm,o⟩=>?_
 ·obtain⟨d,J,C⟩:=h.get (gEG H);obtain⟨f,B,E,v,I,rfl,u⟩:=step i T[i] d b (gEG H) sm (C.keep sm.kp);refine⟨d,f,by show aD ds[i]?=_;rw[J],B,_,v,I,sm.trans u,?_⟩;rw[o,ZM H,Zv];rfl
 ·show aD ds[T.length]?=_;rw[ZG (by rw[h.len];lia)]
 ·rw[Z8] at o;subst o;exact⟨by rw[Za];exact hl,q b sm⟩
def G8{S:Sto}{n:Nat}{lo:Int}{T:Tg}{c:XA}{u:Rho}{Q:List D->Sto->Prop}(hl:n<=100000)(g:Nat->Bool)
  (step:∀ (i:Nat) b,i < n->Sm S b->∃f,aB T (.int (lo+i)) u=aD f/\Ok (c f b) λE o=>E=[.bl (g i)]/\Sm b o) (q:∀b,Sm S b->Q ((Zl n).map λi=>.bl (g i)) b) :
  Ok (bt (nxR lo n) T c u LF 0 S) λE S2=>E.length<=100000/\Q E S2:=by
 refine(cI n (λi h b=>Sm S b/\h=(Zl i).map λt=>.bl (g t)) (by unfold LF;lia) (λi h b H ⟨sm,j⟩=>?_) (λh b ⟨sm,j⟩=>?_) ⟨Sm.refl S,by simp⟩).mono λE b ⟨sm,j⟩=>?_
 ·obtain⟨f,v,E,o,y,rfl,p⟩:=step i b H sm;refine⟨_,f,by show aD (if i < n then aD (D.int (lo+i)) else aT)=_;rw[if_pos H],v,_,o,y,sm.trans p,?_⟩;rw[j,Yc,Zv];rfl
 ·show aD (if n < n then aD (D.int (lo+n)) else aT)=_;rw[if_neg (ZQ n)]
 ·subst j;exact⟨by rw[Za,Z2];exact hl,q b sm⟩
def G9{p:Nat}{S:Sto}{T:List Dw.D}{ds:List D}{z:Tg}{c:XA}{y:Rho}{Q:List D->Sto->Prop}(h:TDs p S T ds)(hl:T.length<=100000)(g:Nat->Bool)
  (step:∀ (i:Nat) t d b,T[i]?=aD t->Sm S b->TD p b t d->∃f,aB z (.tup [.int i,d]) y=aD f/\Ok (c f b) λE v=>E=[.bl (g i)]/\Sm b v) (q:∀b,Sm S b->Q ((Zl T.length).map λi=>.bl (g i)) b) :
  Ok (bt (qM ds) z c y LF 0 S) λE S2=>E.length<=100000/\Q E S2:=by
 refine(cI T.length (λi j b=>Sm S b/\j=(Zl i).map λt=>.bl (g t)) (by unfold LF;lia) (λi j b H ⟨sm,o⟩=>?_) (λj b ⟨sm,o⟩=>?_) ⟨Sm.refl S,by simp⟩).mono λE b ⟨sm,o⟩=>?_
 ·obtain⟨d,J,C⟩:=h.get (gEG H);obtain⟨f,B,E,v,I,rfl,u⟩:=step i T[i] d b (gEG H) sm (C.keep sm.kp);refine⟨.tup [.int i,d],f,?_,B,_,v,I,sm.trans u,?_⟩
  ·show enm ds i=_;unfold enm;rw[if_pos (by rw[h.len];lia),J];rfl
  ·rw[o,Yc,Zv];rfl
 ·show enm ds T.length=_;unfold enm;rw[if_pos (by rw[h.len];lia),ZG (by rw[h.len];lia)];rfl
 ·subst o;exact⟨by rw[Za,Z2];exact hl,q b sm⟩
def wH{m n:Nat}(v:S[m]?=aD (.lst ((Zl n).map λj=>.int (Int.ofNat j))))(C:n<=1000)(f:Nat->List D)
  (step:∀ (i:Nat) b,i < n->Sm S b->∃g,aB T (.int i) y=aD g/\Ok (c g b) λE p=>E=f i/\Sm b p):Ok (bt (nxS m) T c y LF 0 S) λE S2=>E=(Zl n).flatMap f/\Sm S S2:=by
 refine(cI n (λi h b=>Sm S b/\h=(Zl i).flatMap f) (by unfold LF;lia) (λi h b H ⟨sm,o⟩=>?_) (λh b ⟨sm,o⟩=>?_) ⟨Sm.refl S,by simp⟩).mono λE b ⟨sm,o⟩=>⟨o,sm⟩
 ·obtain⟨g,z,E,p,B,rfl,q⟩:=step i b H sm;refine⟨.int i,g,?_,z,_,p,B,sm.trans q,?_⟩
  ·show(aA b m).map (λu=>u[i]?)=_;simp only[aA,sm _ _ v,Zr,Zo,Y4 H];rfl
  ·rw[o,Dw.gL]
 ·show(aA b m).map (λu=>u[n]?)=_;simp only[aA,sm _ _ v,Zr];rw[ZG (by simp)]
def DV:Ok (eD x c S) Q=Ok (x c S) λds b=>Q (.ref b.length) (b++[.lst ds]):=by
 unfold eD;rw[bO]
 congr 1
 funext ds b
 rw[ag]
def MH(h:Ok (x c S) λd b=>∃i:Nat,d = .int i/\i<=1000/\Q ((Zl i).map λj=>.int (Int.ofNat j)) b):Ok (Ao x c S) Q:=by
 unfold Ao;rw[bO];refine h.mono λd b ⟨i,e,H,q⟩=>?_;subst e;dsimp only;rw[if_pos (by lia),ag,ZN];exact q
def jC{p:Nat}{a b:Int}:∀ {fs:List Dw.D} {ds:List D},fs.all (λe=>Dw.ai e a b)=br->TDs p S fs ds->ds=(Dw.aH fs).map D.int
 |[],ds,_,h=>by rw[h.nil];rfl
 |t::fs,ds,hw,h=>by
  obtain⟨d,r,rfl,H,c⟩:=h.cons;rw[ZZ,bAE] at hw;obtain⟨i,rfl,_⟩:=Dw.aj hw.1;rw[H.int,jC hw.2 c];rfl
def ul(is:List Int):(is.map D.int).all cF=br:=by rw[ZW];simp[Function.comp_def,cF]
def DW(is:List Int)(i:Int)(S:Sto):vQ (.tup (is.map D.int)) [.int i] S=aD (.int (is.count i:Nat),S):=by
 have e:((is.map D.int).countP λz=>eqF z (.int i))=is.count i:=by
  rw[Wd];unfold Wi
  congr 1
 simp only[vQ];rw[if_pos ⟨rfl,ul is⟩,e]
def rg(neg:Bool)(is:List Int)(i:Int)(S:Sto):inS neg (.int i) (.tup (is.map D.int)) S=aD (.bl (neg != decide (i ∈ is)),S):=by
 have e:inF (.int i) (is.map D.int)=decide (i ∈ is):=by
  unfold inF;rw[List.any_map,ZY,YZ];simp only[Function.comp_def,eqF,beq_iff_eq,decide_eq_true_eq];exact⟨λ⟨x,H,e⟩=>e ▸ H,λh=>⟨i,h,rfl⟩⟩
 simp only[inS,am];rw[if_pos ⟨rfl,ul is⟩,e]
def Ha(i j:Int)(S:Sto):ax .eq (.int i) (.int j) S=aD (.bl (decide (i=j)),S):=by
 simp only[ax,eqS];have:eqD 60 S (.int i) (.int j)=aD (i == j):=rfl;rw[this];rfl
def Hb(i j:Int)(S:Sto):ax .ne (.int i) (.int j) S=aD (.bl (!decide (i=j)),S):=Cc (x:=.int i) (y:=.int j) (b:=decide (i=j)) rfl
def MI{i j:Int}:Ok (ax .eq (.int i) (.int j) S) Q=Q (.bl (decide (i=j))) S:=by rw[Ha,ag]
def MJ{i j:Int}:Ok (ax .ne (.int i) (.int j) S) Q=Q (.bl (!decide (i=j))) S:=by rw[Hb,ag]
abbrev wJ:Dw.D->Bool
 |.non=>br
 |_=>bx
def DX{p:Nat}(h:TD p S t d):mw d=wJ t:=by
 cases t with
 |non=>rw[h.non];rfl
 |bl _=>rw[h.bl];rfl
 |int _=>rw[h.int];rfl
 |str _=>rw[h.str];rfl
 |tup _=>obtain⟨_,rfl,_⟩:=h.tup;rfl
 |lst _=>rw[TD] at h;obtain⟨n,b,rfl,_⟩:=h;rfl
 |dic _ _=>rw[TD] at h;obtain⟨n,b,rfl,_⟩:=h;rfl
def Ra{p:Nat}(h:TD p S t d):ax .is d .non S=aD (.bl (wJ t),S):=by
 rw[<-DX h];simp only[ax];have:isB bx d .non S=aD (.bl (bx != mw d),S):=by cases d <;> rfl
 rw[this];cases mw d <;> rfl
def DY{p:Nat}(h:TD p S t d):ax .isnot d .non S=aD (.bl (!wJ t),S):=by
 rw[<-DX h];simp only[ax];have:isB br d .non S=aD (.bl (br != mw d),S):=by cases d <;> rfl
 rw[this];cases mw d <;> rfl
def yN{i:Nat}:aB (.name i) d b=if i < b.length then aD (b.set i (aD d)) else aT:=by simp only[aB]
def DZ:aB (.tup T) (.tup ds) ρ=aP T ds ρ:=by simp only[aB]
def yO:aP [] [] ρ=aD ρ:=by simp only[aP]
def um{i:Nat}:aP (.name i::T) (d::ds) b=if i < b.length then aP T ds (b.set i (aD d)) else aT:=by
 simp only[aP,aB];split
 ·rename_i c h;split at h
  ·rename_i H;cases h;rw[if_pos H]
  ·cases h
 ·rename_i h;split at h
  ·cases h
  ·rename_i H;rw[if_neg H]
def iS{i j:Nat}(h:i < c.length)(H:j < c.length):aB (.tup [.name i,.name j]) (.tup [a,b]) c=aD ((c.set i (aD a)).set j (aD b)):=by
 rw[DZ,um,if_pos h,um,if_pos (by rw[YA];exact H),yO]
abbrev cn:Dw.D->Bool
 |.tup _=>br
 |_=>bx
def bB{p:Nat}(h:TD p S t d):ji .tuple d S=aD (.bl (cn t),S):=by
 rw[hJ h];cases t <;> rfl
def aq{a:Nat}(h:S[a]?=aD (.lst es)):aA S a=aD es:=by simp only[aA,h]
def yP{a b n:Nat}(h:S[a]?=aD (.lst E))(c:S[b]?=aD (.lst []))(H:a ≠ b):eqD (n+1) S (.ref a) (.ref b)=aD E.isEmpty:=by
 show(match aA S a,aA S b with |some xs,aD ys=>if a=b then aD br else if xs.length=ys.length then eqL eqB xs ys else aD bx |_,_=>aT)=_;rw[aq h,aq c];show(if a=b then aD br else if E.length=([]:List D).length then eqL eqB E [] else aD bx)=_;rw[if_neg H];cases E with
 |nil=>simp[eqL]
 |cons x xs=>simp
def ne_nil{a b:Nat}(h:S[a]?=aD (.lst E))(c:S[b]?=aD (.lst []))(H:a ≠ b):ax .ne (.ref a) (.ref b) S=aD (.bl (!E.isEmpty),S):=Cc (yP h c H)
def eq_nil{a b:Nat}(h:S[a]?=aD (.lst E))(c:S[b]?=aD (.lst []))(H:a ≠ b):ax .eq (.ref a) (.ref b) S=aD (.bl E.isEmpty,S):=by
 simp only[ax,eqS,yP h c H,Zr]
def Hc:ax .ne (.ref (Zh S)) (.ref (Zh (S++[Ob.lst E]))) (S++[Ob.lst E]++[Ob.lst []])=aD (.bl (!E.isEmpty),S++[Ob.lst E]++[Ob.lst []]):=
 ne_nil (by rw[ZX,Zn (Zc _),Z7];rfl) (by rw[Zn (Zc _),Z7];rfl) (by simp)
def Hd:ax .eq (.ref (Zh S)) (.ref (Zh (S++[Ob.lst E]))) (S++[Ob.lst E]++[Ob.lst []])=aD (.bl E.isEmpty,S++[Ob.lst E]++[Ob.lst []]):=
 eq_nil (by rw[ZX,Zn (Zc _),Z7];rfl) (by rw[Zn (Zc _),Z7];rfl) (by simp)
def wK{n:Nat}{g:Nat->Bool}{f:Nat->D}:((Zl n).flatMap λi=>if g i=br then [f i] else []).isEmpty=(Zl n).all λi=>!g i:=by
 induction n with
 |zero=>rfl
 |succ n I=>
  rw[Dw.gL,Yc,List.all_append,<-I];cases h:g n <;> simp[h]
def D0{p:Nat}{S:Sto}{T:List Dw.D}{ds:List D}{C:Tg}{c:XA}{B:Rho}{Q:List D->Sto->Prop}(h:TDs p S T ds)(hl:T.length<=100000)(g:Nat->Bool)
  (step:∀ (i:Nat) t d b,T[i]?=aD t->Sm S b->TD p b t d->∃j,aB C (.tup [.int i,d]) B=aD j/\Ok (c j b) λE z=>E=(if g i=br then [.int i] else [])/\Sm b z) (q:∀E b,Sm S b->E.isEmpty=((Zl T.length).all λi=>!g i)->Q E b) :
  Ok (bt (qM ds) C c B LF 0 S) λE S2=>E.length<=100000/\Q E S2:=by
 have y:∀n:Nat,((Zl n).flatMap λi=>if g i=br then [D.int (Int.ofNat i)] else []).length<=n:=λn=>by
  have:=Dw.qt (n:=n) (m:=1) (f:=λi=>if g i=br then [D.int (Int.ofNat i)] else []) λi _=>by split <;> simp
  lia
 refine(cI T.length (λi o b=>Sm S b/\o=(Zl i).flatMap λi=>if g i=br then [D.int (Int.ofNat i)] else []) (by unfold LF;lia) (λi o b H ⟨sm,u⟩=>?_) (λo b ⟨sm,u⟩=>?_) ⟨Sm.refl S,by simp⟩).mono λE b ⟨sm,u⟩=>?_
 ·obtain⟨d,M,J⟩:=h.get (gEG H);obtain⟨j,I,E,z,L,rfl,v⟩:=step i T[i] d b (gEG H) sm (J.keep sm.kp);refine⟨.tup [.int i,d],j,?_,I,_,z,L,sm.trans v,?_⟩
  ·show enm ds i=_;unfold enm;rw[if_pos (by rw[h.len];lia),M];rfl
  ·rw[u,Dw.gL];rfl
 ·show enm ds T.length=_;unfold enm;rw[if_pos (by rw[h.len];lia),ZG (by rw[h.len];lia)];rfl
 ·subst u;exact⟨Zz (y _) hl,q _ b sm wK⟩
def uo{p:Nat}(h:TDs p S T ds)(hl:T.length<=100000)(I:Nat->Rho->Prop)
  (step:∀ (i:Nat) t d f c,T[i]?=aD t->Sm S c->TD p c t d->I i f->∃j,aB J d f=aD j/\OkS (b j c) λu g o=>match u with |.nx=>I (i+1) g/\Sm c o |.ct=>I (i+1) g/\Sm c o |.bk=>Q .nx g o |.rt d=>Q (.rt d) g o)
  (q:∀f c,Sm S c->I T.length f->Q .nx f c) (B:I 0 f):OkS (dD (nxL ds) J b LF 0 f S) Q:=by
 refine eA T.length (λi f c=>I i f/\Sm S c) (by unfold LF;lia) (λi f c H ⟨v,sm⟩=>?_) (λf c ⟨v,sm⟩=>⟨?_,q f c sm v⟩) ⟨B,Sm.refl S⟩
 ·obtain⟨d,L,C⟩:=h.get (gEG H);obtain⟨j,E,z⟩:=step i T[i] d f c (gEG H) sm (C.keep sm.kp) v;refine⟨d,j,by show aD ds[i]?=_;rw[L],E,z.mono λu g o y=>?_⟩;cases u with
  |nx=>exact⟨y.1,sm.trans y.2⟩
  |ct=>exact⟨y.1,sm.trans y.2⟩
  |bk=>exact y
  |rt d=>exact y
 ·show aD ds[T.length]?=_;rw[ZG (by rw[h.len];lia)]
def JQ{p:Nat}(h:TDs p S T ds)(hl:T.length<=100000)(I:Nat->Rho->Prop)
  (step:∀ (i:Nat) t d f c,T[i]?=aD t->Sm S c->TD p c t d->I i f->∃j,aB J (.tup [.int i,d]) f=aD j/\OkS (b j c) λu g o=>match u with |.nx=>I (i+1) g/\Sm c o |.ct=>I (i+1) g/\Sm c o |.bk=>Q .nx g o |.rt d=>Q (.rt d) g o)
  (q:∀f c,Sm S c->I T.length f->Q .nx f c) (B:I 0 f):OkS (dD (qM ds) J b LF 0 f S) Q:=by
 refine eA T.length (λi f c=>I i f/\Sm S c) (by unfold LF;lia) (λi f c H ⟨v,sm⟩=>?_) (λf c ⟨v,sm⟩=>⟨?_,q f c sm v⟩) ⟨B,Sm.refl S⟩
 ·obtain⟨d,L,C⟩:=h.get (gEG H);obtain⟨j,E,z⟩:=step i T[i] d f c (gEG H) sm (C.keep sm.kp) v;refine⟨.tup [.int i,d],j,?_,E,z.mono λu g o y=>?_⟩
  ·show enm ds i=_;unfold enm;rw[if_pos (by rw[h.len];lia),L];rfl
  ·cases u with
   |nx=>exact⟨y.1,sm.trans y.2⟩
   |ct=>exact⟨y.1,sm.trans y.2⟩
   |bk=>exact y
   |rt d=>exact y
 ·show enm ds T.length=_;unfold enm;rw[if_pos (by rw[h.len];lia),ZG (by rw[h.len];lia)];rfl
def ja(ds:List D)(k:Nat)(h:k<=ds.length):bg ds aT (aD (k:Int))=ds.take k:=by
 unfold bg;rw[Dw.mj _ _ (by lia),ZN,Wb h];rfl
def bv{p:Nat}(h:TDs p S T ds):az eF (.tup ds) S=aD (.int T.length,S):=by
 simp only[az,am,eF,h.len]
def aO{p:Nat}{i:Nat}(h:TDs p S c ds)(e:c[i]?=aD t)(q:∀d,TD p S t d->Q d S):Ok (ixS (.tup ds) (.int i) S) Q:=by
 obtain⟨d,E,T⟩:=h.get e;have H:=(Zb.mp E).1
 have b:atI ds (i:Int)=aD d:=by
  unfold atI ixN;rw[if_pos (by lia),if_pos (by lia),ZN];exact E
 simp only[ixS,am,b,Zr];rw[ag];exact q d T
section
variable {S S' S1 S2:Sto} {p:Nat} {Q:D->Sto->Prop} {ρ:Rho}
def ML{i j:Int}:Ok (bR .mod (.int i) (.int j) S) Q=(0 < j/\Q (.int (i % j)) S):=by
 simp only[bR,Lm,dM,ag,bf];apply propext;split
 ·rename_i h;exact⟨λz=>⟨h,z⟩,λz=>z.2⟩
 ·rename_i h;exact⟨λz=>z.elim,λz=>(h z.1).elim⟩
def He{i j:Int}:Ok (bR .fdiv (.int i) (.int j) S) Q=((0 < j/\j < 1298074214633706907132624082305024)/\Q (.int (i / j)) S):=by
 simp only[bR,Cd,dM,ag,bf];apply propext;split
 ·rename_i h;exact⟨λz=>⟨h,z⟩,λz=>z.2⟩
 ·rename_i h;exact⟨λz=>z.elim,λz=>(h z.1).elim⟩
def MM{i j:Int}:Ok (bR .mul (.int i) (.int j) S) Q=(jg i j=br/\Q (.int (i * j)) S):=by
 simp only[bR,sO,dM,ag,bf];apply propext;split
 ·rename_i h;exact⟨λz=>⟨h,z⟩,λz=>z.2⟩
 ·rename_i h;exact⟨λz=>z.elim,λz=>(h z.1).elim⟩
def MN{i j:Int}:Ok (bR .pow (.int i) (.int j) S) Q=((0<=j/\j<=1000000/\i.natAbs < 2 ^ 64)/\Q (.int (i ^ j.toNat)) S):=by
 simp only[bR,Ln,dM,ag,bf];apply propext;split
 ·rename_i h;exact⟨λz=>⟨h,z⟩,λz=>z.2⟩
 ·rename_i h;exact⟨λz=>z.elim,λz=>(h z.1).elim⟩
def yQ{i j:Int}(h:-(2 ^ 64) < j)(H:j < 2 ^ 64):jg i j=br:=by simp only[jg,YC,bAE,decide_eq_true_eq];exact .inr ⟨h,H⟩
def rh{i j:Int}(h:-(2 ^ 64) < i)(H:i < 2 ^ 64):jg i j=br:=by simp only[jg,YC,bAE,decide_eq_true_eq];exact .inl ⟨h,H⟩
abbrev Pot(p:Nat)(S:Sto):Prop:=∃n:Int,S[p]?=aD (.lst [.int n])
structure Dr(p:Nat)(S S':Sto):Prop where
 kp:Kp p S S'
 pot:Pot p S'
def Dr.refl(h:Pot p S):Dr p S S:=⟨Kp.refl p S,h⟩
def Dr.trans(a:Dr p S S1)(b:Dr p S1 S2):Dr p S S2:=⟨a.kp.trans b.kp,b.pot⟩
def Dr.sm(h:Pot p S)(s:Sm S S'):Dr p S S':=⟨s.kp,let ⟨n,e⟩:=h;⟨n,s _ _ e⟩⟩
def Dr.thenSm(a:Dr p S S1)(s:Sm S1 S2):Dr p S S2:=a.trans (Dr.sm a.pot s)
def Pot.lt(h:Pot p S):p < S.length:=let ⟨_,e⟩:=h;(Zb.mp e).1
def MO:Kp p S (S.set p o):=λi u n e=>by rw[ZE (Ne.symm n)];exact e
def rj(h:p < S.length):(S.set p o)[p]?=aD o:=by rw[ZD h]
def pK{n:Nat}{lo:Int}{T:Tg}{b:XS}{Q:Fl->Rho->Sto->Prop}(hl:n<=100000)(I:Nat->Rho->Sto->Prop)
  (step:∀ (i:Nat) ρ S,i < n->I i ρ S->∃c,aB T (.int (lo+i)) ρ=aD c/\OkS (b c S) λj f S2=>match j with |.nx=>I (i+1) f S2 |.ct=>I (i+1) f S2 |.bk=>Q .nx f S2 |.rt d=>Q (.rt d) f S2)
  (q:∀ρ S',I n ρ S'->Q .nx ρ S') (H:I 0 ρ S):OkS (dD (nxR lo n) T b LF 0 ρ S) Q:=by
 refine eA n I (by unfold LF;lia) (λi ρ S' h g=>?_) (λρ S' g=>⟨?_,q ρ S' g⟩) H
 ·obtain⟨c,E,z⟩:=step i ρ S' h g;exact⟨_,c,by show aD (if i < n then aD (D.int (lo+i)) else aT)=_;rw[if_pos h],E,z⟩
 ·show aD (if n < n then aD (D.int (lo+n)) else aT)=_;rw[if_neg (ZQ n)]
def wL{n:Nat}{lo:Int}{T:Tg}{c:XA}{Q:List D->Sto->Prop}(hl:n<=100000)(I:Nat->List D->Sto->Prop)
  (step:∀ (i:Nat) b S',i < n->I i b S'->∃f,aB T (.int (lo+i)) ρ=aD f/\Ok (c f S') λE S1=>I (i+1) (b++E) S1) (q:∀E S',I n E S'->E.length<=100000/\Q E S') (H:I 0 [] S) :
  Ok (bt (nxR lo n) T c ρ LF 0 S) λE S2=>E.length<=100000/\Q E S2:=by
 refine(cI n I (by unfold LF;lia) (λi b S' h g=>?_) (λb S' g=>?_) H).mono q
 ·obtain⟨f,j,z⟩:=step i b S' h g;exact⟨_,f,by show aD (if i < n then aD (D.int (lo+i)) else aT)=_;rw[if_pos h],j,z⟩
 ·show aD (if n < n then aD (D.int (lo+n)) else aT)=_;rw[if_neg (ZQ n)]
def MP:Ok (vq x y ρ S) Q=Ok (x ρ S) λds S1=>Ok (y ρ S1) λi S2=>∃k,i = .int k/\∃d,atI ds k=aD d/\Q d S2:=by
 unfold vq;rw[bO]
 congr 1
 funext ds S1
 rw[bO]
 congr 1
 funext i S2
 apply propext;cases i with
 |int k=>simp[Mx]
 |_=>simp[bf]
def MQ{i:Int}(H:0<=i)(b:i < ds.length):∃d,atI ds i=aD d/\ds[i.toNat]?=aD d:=by
 have h:i.toNat < ds.length:=by lia
 refine⟨ds[i.toNat],?_,gEG h⟩;unfold atI ixN;rw[if_pos H,if_pos (by lia)];exact gEG h
def gH{nx:Nxt}{T:Tg}{c:XA}{Q:List D->Sto->Prop}(n:Nat)(j:Nat->D)(I:Nat->List D->Sto->Prop)(h:∀i b S',i<=n->I i b S'->nx i S'=aD (if i < n then aD (j i) else aT))(hl:n<=100000)
  (step:∀ (i:Nat) b S',i < n->I i b S'->∃f,aB T (j i) ρ=aD f/\Ok (c f S') λE S1=>I (i+1) (b++E) S1) (q:∀E S',I n E S'->E.length<=100000/\Q E S') (o:I 0 [] S) :
  Ok (bt nx T c ρ LF 0 S) λE S2=>E.length<=100000/\Q E S2:=by
 refine(cI n I (by unfold LF;lia) (λi b S' H g=>?_) (λb S' g=>?_) o).mono q
 ·obtain⟨f,u,z⟩:=step i b S' H g;exact⟨_,f,by rw[h i b S' (by lia) g,if_pos H],u,z⟩
 ·rw[h n b S' (Zc _) g,if_neg (ZQ n)]
def iT{m i:Nat}(h:S[m]?=aD (.lst ds))(E:Nat->D)(b:∀i d,ds[i]?=aD d->E i=d):nxS m i S=aD (if i < ds.length then aD (E i) else aT):=by
 show(aA S m).map (λds=>ds[i]?)=_;rw[aq h,Zr];split
 ·rename_i H;rw[gEG H,b i _ (gEG H)]
 ·rename_i H;rw[ZG (by lia)]
def yR{m i:Nat}(h:S[m]?=aD (.lst ds))(H:i<=ds.length)(E:Nat->D)(c:∀i d,ds[i]?=aD d->E i = .tup [.int i,d]):Cz m i S=aD (if i < ds.length then aD (E i) else aT):=by
 show(aA S m).bind (λds=>enm ds i)=_;rw[aq h];show enm ds i=_;unfold enm;rw[if_pos H];split
 ·rename_i b;rw[gEG b,c i _ (gEG b)];rfl
 ·rename_i b;rw[ZG (by lia)];rfl
structure RowsS(p:Nat)(S:Sto)(rs:List D)(M:List (List Int)):Prop where
 len:rs.length=M.length
 row:∀ (i:Nat) r,M[i]?=aD r->∃a,rs[i]?=aD (.ref a)/\a ≠ p/\S[a]?=aD (.lst (r.map D.int))
def RowsS.keep(h:RowsS p S rs M)(k:Kp p S S'):RowsS p S' rs M:=⟨h.len,λi r H=>let ⟨a,e,n,z⟩:=h.row i r H;⟨a,e,n,k _ _ n z⟩⟩
def RowsS.nil:RowsS p S [] []:=⟨rfl,λi r h=>by simp at h⟩
def RowsS.snoc{a:Nat}(h:RowsS p S rs M)(n:a ≠ p)(z:S[a]?=aD (.lst (r.map D.int))):RowsS p S (rs++[.ref a]) (M++[r]):=by
 refine⟨by simp[h.len],λi g H=>?_⟩;by_cases f:i < M.length
 ·rw[Zw f] at H;obtain⟨b,e,nb,Z⟩:=h.row i g H;exact⟨b,by rw[Zw (by rw[h.len];exact f)];exact e,nb,Z⟩
 ·rw[Zn (by lia)] at H
  have c:i - M.length=0:=by
   have:=(Zb.mp H).1;simp at this;lia
  rw[c] at H;cases H;exact⟨a,by rw[Zn (by rw[h.len];lia),h.len,c];rfl,n,z⟩
def ay:(S++[o])[S.length]?=aD o:=by rw[Zn (Zc _),Z7];rfl
def Kp.setNew{f:Nat}(h:Kp p S S')(H:S.length<=f):Kp p S (S'.set f o):=λi u n e=>by
 have b:=(Zb.mp e).1;rw[ZE (by lia)];exact h i u n e
def Pot.setNe{f:Nat}(h:Pot p S)(H:f ≠ p):Pot p (S.set f o):=by
 obtain⟨n,e⟩:=h;exact⟨n,by rw[ZE H];exact e⟩
abbrev cS(q:Int × Int):D:=.tup [.int q.1,.int q.2]
def uq:∀ (E:List (Int × Int)),TDs p S (E.map Dw.gc) (E.map cS)
 |[]=>aE
 |e::E=>ac (td_tup (ac bP (ac bP aE))) (uq E)
def iU{f:Nat}(h:S[f]?=aD (.lst ds))(hl:ds.length < 100000):Ok (vO (.ref f) [e] S) Q=Q .non (S.set f (.lst (ds++[e]))):=by
 simp only[vO,chg,h];rw[if_pos hl];exact ag
def cp{f:Nat}(h:S[f]?=aD (.lst ds)):fP (.ref f) S=br:=by simp only[fP,aq h];rfl
def Hf{f:Nat}(h:S[f]?=aD (.lst (ds++[e]))):ixS (.ref f) (.int (-1)) S=aD (e,S):=by
 have:atI (ds++[e]) (-1:Int)=aD e:=by
  unfold atI ixN;rw[if_neg (by decide),if_pos (by rw[Zi,ZJ];lia)];show(ds++[e])[((-1:Int)+((ds++[e]).length:Int)).toNat]?=aD e;have:((-1:Int)+((ds++[e]).length:Int)).toNat=ds.length:=by rw[Zi,ZJ];lia
  rw[this,Zn (Zc _),Z7];rfl
 simp only[ixS,am,aq h,Zr,this]
def qc{i:Nat}(h:ds[i]?=aD d):atI ds (i:Int)=aD d:=by
 have H:=(Zb.mp h).1;unfold atI ixN;rw[if_pos (by lia),if_pos (by lia),ZN];exact h
def rm{n:Nat}(H:n ≠ p)(h:S[n]?=aD (.lst ds))(q:TDs p S T ds):TD p S (.lst T) (.ref n):=by rw[TD];exact⟨n,ds,rfl,H,h,q⟩
def D1{n:Nat}(H:n ≠ p)(h:S[n]?=aD (.dic b ds))(q:TDs p S T ds):TD p S (.dic b T) (.ref n):=by rw[TD];exact⟨n,ds,rfl,H,h,q⟩
def Hg:ax .eq (.tup ds) (.tup []) S=aD (.bl ds.isEmpty,S):=by
 simp only[ax,eqS]
 have:eqD 60 S (.tup ds) (.tup [])=aD ds.isEmpty:=by
  cases ds <;> rfl
 rw[this];rfl
def Hh:ax .ne (.tup ds) (.tup []) S=aD (.bl (!ds.isEmpty),S):=Cc (x:=.tup ds) (y:=.tup []) (b:=ds.isEmpty) (by cases ds <;> rfl)
def MR:Ok (bR .add (.tup xs) (.tup ys) S) Q=(xs.length+ys.length<=1000/\Q (.tup (xs++ys)) S):=by
 simp only[bR,jS,dM,ag,bf];apply propext;split
 ·rename_i h;exact⟨λz=>⟨h,z⟩,λz=>z.2⟩
 ·rename_i h;exact⟨λz=>z.elim,λz=>(h z.1).elim⟩
end
@[inline]abbrev WP(b:Type):=Rho->Sto->(b->Sto->Prop)->Prop
abbrev Sd{b:Type}(w:WP b)(x:Rho->Sto->Option (b × Sto)):Prop:=∀c S Q,w c S Q->Ok (x c S) Q
def be{c b:Type}{x:Option (c × Sto)}{f:c->Sto->Option (b × Sto)}{Q:b->Sto->Prop}(h:Ok x λa S=>Ok (f a S) Q):Ok (bnd x f) Q:=bO ▸ h
def bC{b:Type}{a:b}{S:Sto}{Q:b->Sto->Prop}(h:Q a S):Ok (aD (a,S)) Q:=⟨_,_,rfl,h⟩
abbrev wIf(b:Bool)(A B:Prop):Prop:=match b with
 |true=>A
 |false=>B
abbrev wBl(d:D)(Q:Bool->Prop):Prop:=match d with
 |.bl b=>Q b
 |.non=>False |.int _=>False |.str _=>False |.tup _=>False |.ref _=>False
abbrev dP(d:D)(Q:Int->Prop):Prop:=match d with
 |.int i=>Q i
 |.non=>False |.bl _=>False |.str _=>False |.tup _=>False |.ref _=>False
def nI{d:D}{Q:Bool->Prop}(h:wBl d Q):∃b,d = .bl b/\Q b:=by cases d <;> first |exact h.elim |exact⟨_,rfl,h⟩
def cD{d:D}{Q:Int->Prop}(h:dP d Q):∃b,d = .int b/\Q b:=by cases d <;> first |exact h.elim |exact⟨_,rfl,h⟩
abbrev Ta(o:Option D)(Q:D->Prop):Prop:=match o with
 |some d=>Q d
 |none=>False
abbrev wM:Rho->Nat->(D->Prop)->Prop
 |[],_,_=>False
 |o::_,0,Q=>Ta o Q
 |_::ρ,i+1,Q=>wM ρ i Q
def yS:∀ {ρ:Rho} {i:Nat} {Q:D->Prop},wM ρ i Q->∃d,ρ[i]?=aD (aD d)/\Q d
 |[],_,_,h=>h.elim
 |some d::_,0,_,h=>⟨d,rfl,h⟩
 |none::_,0,_,h=>h.elim
 |o::ρ,i+1,_,h=>by rw[Xi];exact yS (ρ:=ρ) h
abbrev Rb(i:Nat):WP D:=λb S Q=>wM b i λd=>Q d S
def Rc{i:Nat}:Sd (Rb i) (sK i):=λb S Q h=>by
 rw[ME];exact yS h
abbrev wC(d:D):WP D:=λ_ S Q=>Q d S
def s_c{d:D}:Sd (wC d) (xC d):=λ_ _ _ h=>bC h
abbrev Hi(g:D->D->Sto->(D->Sto->Prop)->Prop)(x y:WP D):WP D:=λc S Q=>x c S λa f=>y c f λb h=>g a b h Q
def D2{g:D->D->Sto->(D->Sto->Prop)->Prop}{f:D->D->Sto->Option (D × Sto)}{w v:WP D}{x y:XE}(hw:Sd w x)(H:Sd v y)(c:∀ {a b S Q},g a b S Q->Ok (f a b S) Q):Sd (Hi g w v) (sJ f x y):=
 λ_ _ _ h=>be ((hw _ _ _ h).mono λ_ _ h=>be ((H _ _ _ h).mono λ_ _ h=>c h))
abbrev wUn{b β:Type}(g:b->Sto->(β->Sto->Prop)->Prop)(x:WP b):WP β:=λf S Q=>x f S λa c=>g a c Q
def Hj{b c:Type}{g:b->Sto->(c->Sto->Prop)->Prop}{f:b->Sto->Option (c × Sto)}{w:WP b}{x:Rho->Sto->Option (b × Sto)}(hw:Sd w x)(H:∀ {a S Q},g a S Q->Ok (f a S) Q):Sd (wUn g w) (λj S=>bnd (x j S) f):=
 λ_ _ _ h=>be ((hw _ _ _ h).mono λ_ _ h=>H h)
abbrev wOk{c b:Type}(f:c->Sto->Option (b × Sto))(a:c)(S:Sto)(Q:b->Sto->Prop):Prop:=Ok (f a S) Q
abbrev wII:BOp->Int->Int->Sto->(D->Sto->Prop)->Prop
 |.add,i,j,S,Q=>Q (.int (i+j)) S
 |.sub,i,j,S,Q=>Q (.int (i - j)) S
 |.mul,i,j,S,Q=>jg i j=br/\Q (.int (i * j)) S
 |.mod,i,j,S,Q=>0 < j/\Q (.int (i % j)) S
 |.fdiv,i,j,S,Q=>(0 < j/\j < 1298074214633706907132624082305024)/\Q (.int (i / j)) S
 |.pow,i,j,S,Q=>(0<=j/\j<=1000000/\i.natAbs < 2 ^ 64)/\Q (.int (i ^ j.toNat)) S
def MS{o:BOp}{i j:Int}{S:Sto}{Q:D->Sto->Prop}(h:wII o i j S Q):Ok (bR o (.int i) (.int j) S) Q:=by
 cases o with
 |add=>rw[MF];exact h
 |sub=>rw[MG];exact h
 |mul=>rw[MM];exact h
 |mod=>rw[ML];exact h
 |fdiv=>rw[He];exact h
 |pow=>rw[MN];exact h
abbrev wTT:BOp->List D->List D->Sto->(D->Sto->Prop)->Prop
 |.add,xs,ys,S,Q=>xs.length+ys.length<=1000/\Q (.tup (xs++ys)) S
 |.sub,_,_,_,_=>False
 |.mul,_,_,_,_=>False
 |.mod,_,_,_,_=>False
 |.fdiv,_,_,_,_=>False
 |.pow,_,_,_,_=>False
def MU{o:BOp}{i j:List D}{S:Sto}{Q:D->Sto->Prop}(h:wTT o i j S Q):Ok (bR o (.tup i) (.tup j) S) Q:=by
 cases o with
 |add=>rw[MR];exact h
 |_=>exact h.elim
abbrev D3(o:BOp)(i:Int)(y:D)(S:Sto)(Q:D->Sto->Prop):Prop:=match y with
 |.int j=>wII o i j S Q
 |.non=>False |.bl _=>False |.str _=>False |.ref _=>False
 |.tup ys=>Ok (bR o (.int i) (.tup ys) S) Q
abbrev yT(o:BOp)(xs:List D)(y:D)(S:Sto)(Q:D->Sto->Prop):Prop:=match y with
 |.tup ys=>wTT o xs ys S Q
 |.non=>False |.bl _=>False |.str _=>False |.ref _=>False
 |.int j=>Ok (bR o (.tup xs) (.int j) S) Q
abbrev wN(o:BOp)(x y:D)(S:Sto)(Q:D->Sto->Prop):Prop:=match x with
 |.int i=>D3 o i y S Q
 |.tup xs=>yT o xs y S Q
 |.non=>Ok (bR o .non y S) Q
 |.bl b=>Ok (bR o (.bl b) y S) Q
 |.str b=>Ok (bR o (.str b) y S) Q
 |.ref b=>Ok (bR o (.ref b) y S) Q
def Hk{o:BOp}{x y:D}{S:Sto}{Q:D->Sto->Prop}(h:wN o x y S Q):Ok (bR o x y S) Q:=by
 cases x with
 |int i=>cases y with
  |int j=>exact MS h
  |tup Y=>exact h
  |_=>exact h.elim
 |tup xs=>cases y with
  |int j=>exact h
  |tup Y=>exact MU h
  |_=>exact h.elim
 |_=>exact h
abbrev wCI:COp->Int->Int->Sto->(D->Sto->Prop)->Prop
 |.eq,i,j,S,Q=>Q (.bl (decide (i=j))) S
 |.ne,i,j,S,Q=>Q (.bl (!decide (i=j))) S
 |.lt,i,j,S,Q=>Q (.bl (decide (i < j))) S
 |.le,i,j,S,Q=>Q (.bl (decide (i<=j))) S
 |.gt,i,j,S,Q=>Q (.bl (decide (j < i))) S
 |.ge,i,j,S,Q=>Q (.bl (decide (j<=i))) S
 |.is,_,_,_,_=>False
 |.isnot,_,_,_,_=>False
 |.isin,_,_,_,_=>False
 |.notin,_,_,_,_=>False
def MV{o:COp}{i j:Int}{S:Sto}{Q:D->Sto->Prop}(h:wCI o i j S Q):Ok (ax o (.int i) (.int j) S) Q:=by
 cases o with
 |eq=>rw[MI];exact h
 |ne=>rw[MJ];exact h
 |lt=>rw[Q6];exact h
 |le=>rw[Q5];exact h
 |gt=>rw[Q7];exact h
 |ge=>rw[Q8];exact h
 |_=>exact h.elim
abbrev MW(o:COp)(i:Int)(y:D)(S:Sto)(Q:D->Sto->Prop):Prop:=match y with
 |.int j=>wCI o i j S Q
 |.non=>Ok (ax o (.int i) .non S) Q
 |.bl b=>Ok (ax o (.int i) (.bl b) S) Q
 |.str b=>Ok (ax o (.int i) (.str b) S) Q
 |.ref b=>Ok (ax o (.int i) (.ref b) S) Q
 |.tup b=>Ok (ax o (.int i) (.tup b) S) Q
abbrev AF(o:COp)(xs:List D)(y:D)(S:Sto)(Q:D->Sto->Prop):Prop:=match o with
 |.eq=>match y with
  |.tup ys=>match ys with
   |[]=>Q (.bl xs.isEmpty) S
   |y::ys=>Ok (ax .eq (.tup xs) (.tup (y::ys)) S) Q
  |.non=>Ok (ax .eq (.tup xs) .non S) Q
  |.bl b=>Ok (ax .eq (.tup xs) (.bl b) S) Q
  |.str b=>Ok (ax .eq (.tup xs) (.str b) S) Q
  |.ref b=>Ok (ax .eq (.tup xs) (.ref b) S) Q
  |.int b=>Ok (ax .eq (.tup xs) (.int b) S) Q
 |.ne=>match y with
  |.tup ys=>match ys with
   |[]=>Q (.bl (!xs.isEmpty)) S
   |y::ys=>Ok (ax .ne (.tup xs) (.tup (y::ys)) S) Q
  |.non=>Ok (ax .ne (.tup xs) .non S) Q
  |.bl b=>Ok (ax .ne (.tup xs) (.bl b) S) Q
  |.str b=>Ok (ax .ne (.tup xs) (.str b) S) Q
  |.ref b=>Ok (ax .ne (.tup xs) (.ref b) S) Q
  |.int b=>Ok (ax .ne (.tup xs) (.int b) S) Q
 |.is=>Ok (ax .is (.tup xs) y S) Q
 |.isnot=>Ok (ax .isnot (.tup xs) y S) Q
 |.isin=>Ok (ax .isin (.tup xs) y S) Q
 |.notin=>Ok (ax .notin (.tup xs) y S) Q
 |.lt=>False |.le=>False |.gt=>False |.ge=>False
abbrev wCx(o:COp)(x y:D)(S:Sto)(Q:D->Sto->Prop):Prop:=match x with
 |.int i=>MW o i y S Q
 |.tup xs=>AF o xs y S Q
 |.non=>Ok (ax o .non y S) Q
 |.bl b=>Ok (ax o (.bl b) y S) Q
 |.str b=>Ok (ax o (.str b) y S) Q
 |.ref b=>Ok (ax o (.ref b) y S) Q
def MX{o:COp}{x y:D}{S:Sto}{Q:D->Sto->Prop}(h:wCx o x y S Q):Ok (ax o x y S) Q:=by
 cases x with
 |int i=>cases y with
  |int j=>exact MV h
  |_=>exact h
 |tup xs=>cases o with
  |eq=>cases y with
   |tup Y=>cases Y with
    |nil=>rw[Hg,ag];exact h
    |cons y Y=>exact h
   |_=>exact h
  |ne=>cases y with
   |tup Y=>cases Y with
    |nil=>rw[Hh,ag];exact h
    |cons y Y=>exact h
   |_=>exact h
  |lt=>exact h.elim
  |le=>exact h.elim
  |gt=>exact h.elim
  |ge=>exact h.elim
  |_=>exact h
 |_=>exact h
abbrev wCm(o:COp)(x y:D)(S:Sto)(Q:D->Sto->Prop):Prop:=match o with
 |.is=>Ok (ax .is x y S) Q
 |.isnot=>Ok (ax .isnot x y S) Q
 |.isin=>Ok (ax .isin x y S) Q
 |.notin=>Ok (ax .notin x y S) Q
 |.eq=>wCx .eq x y S Q
 |.ne=>wCx .ne x y S Q
 |.lt=>wCx .lt x y S Q
 |.le=>wCx .le x y S Q
 |.gt=>wCx .gt x y S Q
 |.ge=>wCx .ge x y S Q
def rq{o:COp}{x y:D}{S:Sto}{Q:D->Sto->Prop}(h:wCm o x y S Q):Ok (ax o x y S) Q:=by
 cases o <;> first |exact MX h |exact h
abbrev MY(o p:COp)(x y z:WP D):WP D:=λf S Q=>x f S λa j=>y f j λb q=>wCm o a b q λr g=>wBl r λc=>wIf c (z f g λe h=>wCm p b e h Q) (Q (.bl bx) g)
def JR{o p:COp}{w v u:WP D}{x y z:XE}(hw:Sd w x)(H:Sd v y)(f:Sd u z):Sd (MY o p w v u) (Ah (ax o) (ax p) x y z):=λ_ _ _ h=>by
 rw[MD];refine(hw _ _ _ h).mono λa g h=>(H _ _ _ h).mono λb j h=>(rq h).mono λr q h=>?_;obtain⟨c,e,h⟩:=nI h;refine⟨c,e,?_⟩;cases c with
 |true=>exact(f _ _ _ h).mono λe B h=>rq h
 |false=>exact h
abbrev Re(x y:WP D):WP D:=λc S Q=>x c S λd f=>wBl d λb=>wIf b (y c f Q) (Q (.bl bx) f)
def Rf{w v:WP D}{x y:XE}(hw:Sd w x)(H:Sd v y):Sd (Re w v) (CO x y):=λ_ _ _ h=>by
 rw[MB];refine(hw _ _ _ h).mono λa b h=>?_;obtain⟨c,e,h⟩:=nI h;refine⟨c,e,?_⟩;cases c with
 |true=>exact H _ _ _ h
 |false=>exact h
abbrev wOr(x y:WP D):WP D:=λc S Q=>x c S λd f=>wBl d λb=>wIf b (Q (.bl br) f) (y c f Q)
def Tb{w v:WP D}{x y:XE}(hw:Sd w x)(H:Sd v y):Sd (wOr w v) (xOr x y):=λ_ _ _ h=>by
 rw[Q4];refine(hw _ _ _ h).mono λa b h=>?_;obtain⟨c,e,h⟩:=nI h;refine⟨c,e,?_⟩;cases c with
 |false=>exact H _ _ _ h
 |true=>exact h
abbrev Rg(x:WP D):WP D:=λf S Q=>x f S λd c=>wBl d λb=>Q (.bl (!b)) c
def Rh{w:WP D}{x:XE}(hw:Sd w x):Sd (Rg w) (xUn Ag x):=λ_ _ _ h=>be ((hw _ _ _ h).mono λa b h=>by
 rw[MC];exact nI h)
abbrev Ri(x:WP D):WP D:=λc S Q=>x c S λd b=>dP d λi=>Q (.int (-i)) b
def Rj{w:WP D}{x:XE}(hw:Sd w x):Sd (Ri w) (xUn LS x):=λ_ _ _ h=>be ((hw _ _ _ h).mono λa b h=>by
 obtain⟨i,rfl,h⟩:=cD h;exact bC h)
abbrev Rk{α:Type}(c:WP Bool)(x y:WP α):WP α:=λf S Q=>c f S λb g=>wIf b (x f g Q) (y f g Q)
def Rm{c:WP Bool}{w v:WP D}{t:XT}{x y:XE}(hc:Sd c t)(hw:Sd w x)(H:Sd v y):Sd (Rk c w v) (LU t x y):=λ_ _ _ h=>be ((hc _ _ _ h).mono λb f h=>by
 cases b with
 |true=>exact hw _ _ _ h
 | false=>exact H _ _ _ h)
abbrev wO:Option (WP D)->WP (Option Int)
 |none=>λ_ S Q=>Q aT S
 |some w=>λc S Q=>w c S λd b=>dP d λi=>Q (aD i) b
abbrev wP(lo h:Option Int)(d:D)(S:Sto)(Q:D->Sto->Prop):Prop:=match d with
 |.tup ds=>Q (.tup (bg ds lo h)) S
 |.ref n=>Ok (slS lo h (.ref n) S) Q
 |.non=>False |.bl _=>False |.str _=>False |.int _=>False
abbrev wSl(x:WP D)(lo H:WP (Option Int)):WP D:=λb S Q=>x b S λd c=>lo b c λl f=>H b f λh g=>wP l h d g Q
def Tc:Sd (wO aT) vB:=λ_ _ _ h=>bC h
def Td{w:WP D}{x:XE}(hw:Sd w x):Sd (wO (aD w)) (vC x):=λ_ _ _ h=>be ((hw _ _ _ h).mono λd b h=>by
 obtain⟨i,rfl,h⟩:=cD h;exact bC h)
def Te{w:WP D}{l u:WP (Option Int)}{x:XE}{lo H:XO}(hw:Sd w x)(hl:Sd l lo)(c:Sd u H):Sd (wSl w l u) (xSl x lo H):=λ_ _ _ h=>be ((hw _ _ _ h).mono λd f h=>be ((hl _ _ _ h).mono λa g h=>be ((c _ _ _ h).mono λb j h=>by
 cases d with
 |tup o=>exact bC h
 |ref n=>exact h
 | _=>exact h.elim)))
abbrev JS(g:List D->Sto->Option (D × Sto))(n:Nat)(x:WP (List D)):WP D:=λf S Q=>x f S λb c=>b.length=n/\Ok (g b c) Q
def MZ{g:List D->Sto->Option (D × Sto)}{n:Nat}{w:WP (List D)}{x:XA}(hw:Sd w x):Sd (JS g n w) (tK g n x):=λ_ _ _ h=>by
 rw[G4];exact hw _ _ _ h
abbrev ki(x:WP (List D)):WP D:=λf S Q=>x f S λc b=>Q (.ref b.length) (b++[.lst c])
def hU{w:WP (List D)}{x:XA}(hw:Sd w x):Sd (ki w) (eD x):=λ_ _ _ h=>by rw[DV];exact hw _ _ _ h
abbrev fL:Nat->List CE->Prop->Prop
 |_,[],A=>A
 |0,_::_,_=>False
 |n+1,_::es,A=>fL n es A
def jD:∀ {n:Nat} {es:List CE} {A:Prop},fL n es A->es.length<=n/\A
 |n,[],_,h=>⟨Xy _,by cases n <;> exact h⟩
 |0,_::_,_,h=>h.elim
 |n+1,_::es,_,h=>by rw[ZB];exact⟨X1 (jD (es:=es) h).1,(jD (es:=es) h).2⟩
abbrev wSh{α:Type}(E:List CE)(x:WP α):WP α:=λb S Q=>fL 60 E (x b S Q)
abbrev AG(c:D->Sto->Bool)(f:D->List D->Sto->Option (D × Sto))(x:WP D)(y:WP (List D)):WP D:=λb S Q=>x b S λd g=>c d g=br/\y b g λh j=>Ok (f d h j) Q
def ur{c:D->Sto->Bool}{f:D->List D->Sto->Option (D × Sto)}{w:WP D}{v:WP (List D)}{x:XE}{y:XA}(hw:Sd w x)(H:Sd v y):Sd (AG c f w v) (vN c f x y):=λ_ _ _ h=>be ((hw _ _ _ h).mono λd b h=>by
 rw[if_pos h.1];exact be (H _ _ _ h.2))
abbrev M0(x:WP D):WP (List D):=λc S Q=>x c S λd b=>∃i:Nat,d = .int i/\i<=1000/\Q ((Zl i).map λj=>.int (Int.ofNat j)) b
def JT{w:WP D}{x:XE}(hw:Sd w x):Sd (M0 w) (Ao x):=λ_ _ _ h=>MH (hw _ _ _ h)
abbrev Rn:WP (List D):=λ_ S Q=>Q [] S
def Ro:Sd Rn F0:=λ_ _ _ h=>bC h
abbrev JU(x:WP D)(y:WP (List D)):WP (List D):=λb S Q=>x b S λa f=>y b f λc g=>Q (a::c) g
def M1{w:WP D}{v:WP (List D)}{x:XE}{y:XA}(hw:Sd w x)(H:Sd v y):Sd (JU w v) (xZ x y):=λ_ _ _ h=>be ((hw _ _ _ h).mono λd b h=>be ((H _ _ _ h).mono λf c h=>bC h))
abbrev Tf(o:Option D)(A:Prop):Prop:=match o with
 |none=>A
 |some _=>False
abbrev wFr:Rho->Nat->Prop->Prop
 |[],_,_=>False
 |o::_,0,A=>Tf o A
 |_::ρ,i+1,A=>wFr ρ i A
def rA:∀ {ρ:Rho} {i:Nat} {A:Prop},wFr ρ i A->ρ[i]?=aD aT/\A
 |[],_,_,h=>h.elim
 |none::_,0,_,h=>⟨rfl,h⟩
 |some _::_,0,_,h=>h.elim
 |o::ρ,i+1,_,h=>by rw[Xi];exact rA (ρ:=ρ) h
abbrev ut:List Tg->Rho->Prop->Prop
 |[],_,A=>A
 |.name i::ts,ρ,A=>wFr ρ i (ut ts ρ A)
 |.tup us::ts,ρ,A=>dZ (.tup us) ρ=br/\ut ts ρ A
abbrev wFt:Tg->Rho->Prop->Prop
 |.name i,ρ,A=>wFr ρ i A
 |.tup ts,ρ,A=>ut ts ρ A
def pL{i:Nat}{b:Rho}(h:b[i]?=aD aT):dZ (.name i) b=br:=by rw[dZ,h]
def rB:∀ {T:List Tg} {b:Rho} {A:Prop},ut T b A->gh T b=br/\A
 |[],_,_,h=>⟨by rw[gh],h⟩
 |.name i::T,b,_,h=>by
  obtain⟨e,h⟩:=rA h;obtain⟨E,h⟩:=rB h;exact⟨by rw[gh,pL e,E];rfl,h⟩
 |.tup us::T,b,_,h=>by
  obtain⟨e,h⟩:=h;obtain⟨E,h⟩:=rB h;exact⟨by rw[gh,e,E];rfl,h⟩
def wQ{t:Tg}{b:Rho}{A:Prop}(h:wFt t b A):dZ t b=br/\A:=by
 cases t with
 |name i=>exact⟨pL (rA h).1,(rA h).2⟩
 |tup T=>rw[dZ];exact rB h
abbrev uu:List Str->Rho->(Rho->Prop)->Prop
 |[],r,Q=>Q r
 |_::own,r,Q=>uu own (aT::r) Q
abbrev uv:Rho->Rho->(Rho->Prop)->Prop
 |[],r,Q=>Q r
 |o::ρ,r,Q=>uv ρ r λb=>Q (o::b)
def yU:∀ {ρ r:Rho} {Q:Rho->Prop},uv ρ r Q->Q (ρ++r)
 |[],_,_,h=>h
 |o::ρ,r,Q,h=>yU (ρ:=ρ) (Q:=λb=>Q (o::b)) h
def yV:∀ {own:List Str} {k:Nat} {Q:Rho->Prop},uu own (Zp k aT) Q->Q (Zp (own.length+k) aT)
 |[],k,_,h=>by rw[Y1,Wq];exact h
 |_::own,k,Q,h=>by
  have:=yV (own:=own) (k:=k+1) h;rw[ZB,show own.length+1+k=own.length+(k+1) by lia];exact this
abbrev JV(own:List Str)(I:WP Nxt)(T:Tg)(c:XA)(k:Nat):WP (List D):=λf S Q=>I f S λnx g=>uu own [] λr=>uv f r λb=>wFt T b (Ok (bt nx T c b k 0 g) λE h=>E.length<=100000/\Q E h)
def D4{own:List Str}{k:Nat}{w:WP Nxt}{I:XI}{T:Tg}{c:XA}(hw:Sd w I):Sd (JV own w T c k) (mP own.length I T c k):=λ_ _ _ h=>by
 rw[G5]
 exact(hw _ _ _ h).mono λnx b h=>by
  have h:=yU (yV (own:=own) (k:=0) h);exact wQ h
abbrev D5(I:WP Nxt)(T:Tg)(c:XA)(k:Nat):WP (List D):=λb S Q=>wFt T b (I b S λnx f=>Ok (bt nx T c b k 0 f) Q)
def Hl{k:Nat}{w:WP Nxt}{I:XI}{T:Tg}{c:XA}(hw:Sd w I):Sd (D5 w T c k) (jW I T c k):=λ_ _ _ h=>by
 rw[DU];exact⟨(wQ h).1,hw _ _ _ (wQ h).2⟩
abbrev D6(d:D)(b:Sto)(Q:Nxt->Sto->Prop):Prop:=match d with
 |.tup ds=>Q (nxL ds) b
 |.ref n=>(aA b n).isSome=br/\Q (nxS n) b
 |.non=>False |.bl _=>False |.str _=>False |.int _=>False
def Th{w:WP D}{x:XE}(hw:Sd w x):Sd (λc S Q=>w c S λd b=>D6 d b Q) (xIV x):=λ_ _ _ h=>be ((hw _ _ _ h).mono λd b h=>by
 cases d with
 |tup f=>exact bC h
 |ref n=>dsimp only;rw[if_pos h.1];exact bC h.2
 | _=>exact h.elim)
abbrev D7(d:D)(b:Sto)(Q:Nxt->Sto->Prop):Prop:=match d with
 |.tup ds=>Q (qM ds) b
 |.ref n=>(aA b n).isSome=br/\Q (Cz n) b
 |.non=>False |.bl _=>False |.str _=>False |.int _=>False
def Ti{w:WP D}{x:XE}(hw:Sd w x):Sd (λc S Q=>w c S λd b=>D7 d b Q) (xEV x):=λ_ _ _ h=>be ((hw _ _ _ h).mono λd b h=>by
 cases d with
 |tup f=>exact bC h
 |ref n=>dsimp only;rw[if_pos h.1];exact bC h.2
 | _=>exact h.elim)
abbrev wOn{b β:Type}(f:b->β)(x:WP b):WP β:=λc S Q=>x c S λa g=>Q (f a) g
def D8{b j:Type}{f:b->j}{w:WP b}{x:Rho->Sto->Option (b × Sto)}(hw:Sd w x):Sd (wOn f w) (λg S=>bnd (x g S) λa c=>aD (f a,c)):=λ_ _ _ h=>be ((hw _ _ _ h).mono λd c h=>bC h)
abbrev Rp(x:WP D):WP Nxt:=λc S Q=>x c S λd b=>∃z,d = .str z/\z.cps.all (· < 128)=br/\Q (nxL (Ac z)) b
def Rq{w:WP D}{x:XE}(hw:Sd w x):Sd (Rp w) (LC x):=λ_ _ _ h=>be ((hw _ _ _ h).mono λd b h=>by
 obtain⟨z,rfl,c,q⟩:=h;dsimp only;rw[if_pos c];exact bC q)
abbrev Rr(b:List Str):WP Nxt:=λ_ S Q=>Q (nxL (b.map D.str)) S
def Rs{b:List Str}:Sd (Rr b) (LH b):=λ_ _ _ h=>bC h
abbrev wR1(x:WP D):WP Nxt:=λc S Q=>x c S λd b=>dP d λj=>lim j=br/\Q (nxR 0 j.toNat) b
def Tj{w:WP D}{x:XE}(hw:Sd w x):Sd (wR1 w) (xR1 x):=λ_ _ _ h=>be ((hw _ _ _ h).mono λd b h=>by
 obtain⟨i,rfl,h⟩:=cD h;dsimp only;rw[if_pos h.1];exact bC h.2)
abbrev wR2(x y:WP D):WP Nxt:=λb S Q=>x b S λd c=>y b c λe f=>dP d λi=>dP e λj=>(lim i=br/\lim j=br)/\Q (nxR i (j - i).toNat) f
def Tk{w v:WP D}{x y:XE}(hw:Sd w x)(b:Sd v y):Sd (wR2 w v) (xR2 x y):=λ_ _ _ h=>be ((hw _ _ _ h).mono λd f h=>be ((b _ _ _ h).mono λe g h=>by
 obtain⟨i,rfl,c⟩:=cD h;obtain⟨j,rfl,H⟩:=cD c;dsimp only;rw[if_pos H.1];exact bC H.2))
abbrev cJ(d:D)(S:Sto)(Q:Bool->Sto->Prop):Prop:=match d with
 |.bl b=>Q b S
 |.tup ds=>Q (!ds.isEmpty) S
 |.int i=>Q (i != 0) S
 |.non=>Q bx S
 |.str y=>Ok (mz (.str y) S) Q
 |.ref y=>Ok (mz (.ref y) S) Q
def D9{d:D}{S:Sto}{Q:Bool->Sto->Prop}(h:cJ d S Q):Ok (mz d S) Q:=by cases d <;> first |exact bC h |exact h
abbrev wB(x:WP D):WP Bool:=λf S Q=>x f S λd c=>wBl d λb=>Q b c
def s_b{w:WP D}{x:XE}(hw:Sd w x):Sd (wB w) (xB x):=λ_ _ _ h=>by
 rw[Q9];exact(hw _ _ _ h).mono λd b h=>nI h
abbrev JW(x y:WP Bool):WP Bool:=λc S Q=>x c S λb f=>wIf b (y c f Q) (Q bx f)
abbrev Rt(x y:WP Bool):WP Bool:=λc S Q=>x c S λb f=>wIf b (Q br f) (y c f Q)
abbrev JX(x:WP Bool):WP Bool:=λf S Q=>x f S λb c=>Q (!b) c
def M2{w v:WP Bool}{x y:XT}(hw:Sd w x)(H:Sd v y):Sd (JW w v) (CT x y):=λ_ _ _ h=>be ((hw _ _ _ h).mono λb c h=>by
 cases b with
 |true=>exact H _ _ _ h
 | false=>exact bC h)
def Ru{w v:WP Bool}{x y:XT}(hw:Sd w x)(H:Sd v y):Sd (Rt w v) (LX x y):=λ_ _ _ h=>be ((hw _ _ _ h).mono λb c h=>by
 cases b with
 |false=>exact H _ _ _ h
 | true=>exact bC h)
def M3{w:WP Bool}{x:XT}(hw:Sd w x):Sd (JX w) (CU x):=λ_ _ _ h=>be ((hw _ _ _ h).mono λb c h=>bC h)
abbrev JY(t:WP Bool)(c:WP (List D)):WP (List D):=λf S Q=>t f S λb g=>wIf b (c f g Q) (Q [] g)
def M4{t:WP Bool}{c:WP (List D)}{x:XT}{y:XA}(H:Sd t x)(hc:Sd c y):Sd (JY t c) (CL x y):=λ_ _ _ h=>be ((H _ _ _ h).mono λb f h=>by
 cases b with
 |true=>exact hc _ _ _ h
 | false=>exact bC h)
abbrev Hm(f:Bool->List D->Option (List D))(ds:List D)(S:Sto)(Q:List D->Sto->Prop):Prop:=∃E,f bx ds=aD E/\Q E S
abbrev Hn(f:Bool->List D->Option (List D))(d:D)(S:Sto)(Q:List D->Sto->Prop):Prop:=∃r E,am d S=aD r/\f r.1 r.2=aD E/\Q E S
abbrev wR(d:D)(S:Sto)(Q:List D->Sto->Prop):Prop:=Ok ((am d S).map λr=>(r.2,S)) Q
def Rv{f:Bool->List D->Option (List D)}{w:WP (List D)}{x:XA}(hw:Sd w x):Sd (λc S Q=>w c S λds b=>Hm f ds b Q) (Am f x):=λ_ _ _ h=>be ((hw _ _ _ h).mono λds b ⟨E,e,h⟩=>by rw[e];exact bC h)
def Rx{f:Bool->List D->Option (List D)}{w:WP D}{x:XE}(hw:Sd w x):Sd (λc S Q=>w c S λds b=>Hn f ds b Q) (An f x):=λ_ _ _ h=>be ((hw _ _ _ h).mono λds b ⟨r,g,E,e,h⟩=>by
 rw[E];dsimp only;rw[e];exact bC h)
abbrev wNo{α:Type}:WP α:=λ_ _ _=>False
def rC{b:Type}{x:Rho->Sto->Option (b × Sto)}:Sd wNo x:=λ_ _ _ h=>h.elim
abbrev a8(b:Bool)(x:WP (List D))(y:WP D)(c:Rho)(S:Sto)(KT:List D->Sto->Prop)(KV:D->Sto->Prop):Prop:=match b with
 |true=>x c S KT
 |false=>y c S KV
abbrev wOf{α:Type}(b:Bool)(x:WP (List D))(y:WP D)(gt:List D->Sto->(α->Sto->Prop)->Prop)(g:D->Sto->(α->Sto->Prop)->Prop):WP α:=λf S Q=>a8 b x y f S (λh c=>gt h c Q) (λd c=>g d c Q)
def s_of{g:Type}{b:Bool}{w:WP (List D)}{v:WP D}{gt:List D->Sto->(g->Sto->Prop)->Prop}{h:D->Sto->(g->Sto->Prop)->Prop}{x y:Rho->Sto->Option (g × Sto)}(hw:Sd (λc S Q=>w c S λds f=>gt ds f Q) x)(H:Sd (λc S Q=>v c S λd f=>h d f Q) y):Sd (wOf b w v gt h) (if b=br then x else y):=by
 cases b with
 |true=>exact hw
 |false=>exact H
def Tl{b:Bool}{w:WP (List D)}{v u:WP D}{x:XA}{y z:XE}(hw:Sd w x)(j:Sd u z)(H:Sd v y):Sd (λc S Q=>a8 b w u c S (λds f=>v c f λi g=>dP i λk=>∃d,atI ds k=aD d/\Q d g) (λd f=>v c f λi g=>Ok (ixS d i g) Q)) (if b=br then vq x y else sJ ixS z y):=λc S Q h=>by
 cases b with
 |true=>
  show Ok (vq x y c S) Q;rw[MP];exact(hw _ _ _ h).mono λds f h=>(H _ _ _ h).mono λi g h=>cD h
 |false=>exact be ((j _ _ _ h).mono λds f h=>be (H _ _ _ h))
abbrev wO2(t:CE->WP D):Option CE->Option (WP D)
 |none=>aT
 |some e=>aD (t e)
abbrev Ho(t:CE->WP Bool):Option CE->WP (List D)->WP (List D)
 |some c,x=>JY (t c) x
 |none,x=>x
abbrev Ea(x y:D)(S:Sto)(Q:D->Sto->Prop):Prop:=dP x λi=>dP y λj=>Q (.int (if j > i then j else i)) S
abbrev Eb(x y:D)(S:Sto)(Q:D->Sto->Prop):Prop:=dP x λi=>dP y λj=>Q (.int (if j < i then j else i)) S
abbrev w2(g:D->D->Sto->(D->Sto->Prop)->Prop):List D->Sto->(D->Sto->Prop)->Prop
 |[],_,_=>False
 |[_],_,_=>False
 |[x,y],S,Q=>g x y S Q
 |_::_::_::_,_,_=>False
def JZ{g:D->D->Sto->(D->Sto->Prop)->Prop}{f:D->D->Sto->Option (D × Sto)}(H:∀ {a b S Q},g a b S Q->Ok (f a b S) Q):∀ {ds:List D} {S:Sto} {Q:D->Sto->Prop},w2 g ds S Q->Ok (two f ds S) Q
 |[],_,_,h=>h.elim
 |[_],_,_,h=>h.elim
 |[x,y],_,_,h=>H h
 |_::_::_::_,_,_,h=>h.elim
abbrev J0:WP D:=λ_ S Q=>Q (.ref (Zh S)) (S++[.dic [] []])
abbrev J1(i j:Int):WP D:=λ_ S Q=>Q (.ref (Zh S)) (S++[.dic [om i] [.int j]])
abbrev wCf(i:CI->WP Nxt)(own:List Str)(t:CE->XT)(e:List Cl->XA):List Cl->WP (List D)
 |[]=>wNo
 |⟨tg,it,cond⟩::rest=>JV own (i it) tg (cnd t cond (e rest)) LF
mutual
noncomputable def wE(C:Calls)(g:Nat->Nat):Nat->CE->WP D
 |0,_=>wNo
 |n+1,e=>match e with
  |.non=>wC .non
  |.bl b=>wC (.bl b)
  |.int i=>wC (.int i)
  |.str x=>wC (.str x)
  |.var i=>Rb i
  |.con _ v=>wC (.int v)
  |.txc _ v=>wC (.str v)
  |.tup es=>wSh es (wOn D.tup (wA C g n es))
  |.lst es=>ki (wSh es (wA C g n es))
  |.dic0=>J0
  |.dic1 i j=>J1 i j
  |.bin o a b=>Hi (wN o) (wE C g n a) (wE C g n b)
  |.neg a=>Ri (wE C g n a)
  |.cmp o a b=>Hi (wCm o) (wE C g n a) (wE C g n b)
  |.chn o p a b c=>MY o p (wE C g n a) (wE C g n b) (wE C g n c)
  |.and a b=>Re (wE C g n a) (wE C g n b)
  |.or a b=>wOr (wE C g n a) (wE C g n b)
  |.not a=>Rg (wE C g n a)
  |.ite c a b=>Rk (wT C g n c) (wE C g n a) (wE C g n b)
  |.ix a b=>λh S Q=>a8 (ak a) (wTm C g n a) (wE C g n a) h S (λy q=>wE C g n b h q λi u=>dP i λk=>∃d,atI y k=aD d/\Q d u) (λd q=>wE C g n b h q λi u=>Ok (ixS d i u) Q)
  |.sl a lo hi=>wSl (wE C g n a) (wO (wO2 (wE C g n) lo)) (wO (wO2 (wE C g n) hi))
  |.call f es=>JS (C f) (g f) (wA C g n es)
  |.inst t a=>wUn (wOk (ji t)) (wE C g n a)
  |.len a=>wOf (ak a) (wTm C g n a) (wE C g n a) (wOk (eF bx)) (wOk (az eF))
  |.all a=>wOf (ak a) (wTm C g n a) (wE C g n a) (wOk (n9 bx)) (wOk (az n9))
  |.tupOf a=>wOf (ak a) (wTm C g n a) (wE C g n a) (wOk (ia bx)) (wOk (az ia))
  |.listOf a=>ki (wOf (ak a) (wTm C g n a) (wE C g n a) (λy S Q=>Q y S) wR)
  |.listR a=>ki (M0 (wE C g n a))
  |.srt a=>ki (wOf (ak a) (wTm C g n a) (wE C g n a) (Hm eX) (Hn eX))
  |.strI a=>wUn (wOk vL) (wE C g n a)
  |.lenS a=>wUn (wOk mG) (wE C g n a)
  |.intX a=>wUn (wOk vW) (wE C g n a)
  |.rev a=>wUn (wOk C0) (wE C g n a)
  |.mx a b=>wUn (w2 Ea) (wA C g n [a,b])
  |.mn a b=>wUn (w2 Eb) (wA C g n [a,b])
  |.rep a=>wUn (wOk fQ) (wE C g n a)
  |.comp own elt cls=>ki (wCf (wI C g n) own (evT C g n) (ic C g n elt) cls)
  |.app o a=>AG fP vO (wE C g n o) (wA C g n [a])
  |.popAt o a=>AG fP iE (wE C g n o) (wA C g n [a])
  |.cnt o a=>AG (λd _=>isTup d) vQ (wE C g n o) (wA C g n [a])
  |.join o a=>AG (λd _=>mI d) mL (wE C g n o) (wA C g n [a])
  |.spl o a=>AG (λd _=>mI d) gi (wE C g n o) (wA C g n [a])
noncomputable def wA(C:Calls)(b:Nat->Nat):Nat->List CE->WP (List D)
 |0,_=>wNo
 |n+1,es=>match es with
  |[]=>Rn
  |e::es=>JU (wE C b n e) (wA C b n es)
noncomputable def wTm(C:Calls)(b:Nat->Nat):Nat->CE->WP (List D)
 |0,_=>wNo
 |n+1,e=>match e with
  |.lst es=>wSh es (wA C b n es)
  |.listOf a=>wOf (ak a) (wTm C b n a) (wE C b n a) (λc S Q=>Q c S) wR
  |.listR a=>M0 (wE C b n a)
  |.srt a=>wOf (ak a) (wTm C b n a) (wE C b n a) (Hm eX) (Hn eX)
  |.comp own elt cls=>wCf (wI C b n) own (evT C b n) (ic C b n elt) cls
  |_=>wNo
noncomputable def wI(C:Calls)(c:Nat->Nat):Nat->CI->WP Nxt
 |0,_=>wNo
 |n+1,it=>match it with
  |.val a=>wOf (ak a) (wTm C c n a) (wE C c n a) (λf S Q=>Q (nxL f) S) D6
  |.chr a=>Rp (wE C c n a)
  |.wds _ ws=>Rr ws
  |.r1 a=>wR1 (wE C c n a)
  |.r2 a b=>wR2 (wE C c n a) (wE C c n b)
  |.en a=>wOf (ak a) (wTm C c n a) (wE C c n a) (λf S Q=>Q (qM f) S) D7
noncomputable def wT(C:Calls)(f:Nat->Nat):Nat->CE->WP Bool
 |0,_=>wNo
 |n+1,e=>match e with
  |.cmp o a b=>wB (Hi (wCm o) (wE C f n a) (wE C f n b))
  |.chn o p a b c=>wB (MY o p (wE C f n a) (wE C f n b) (wE C f n c))
  |.and a b=>JW (wT C f n a) (wT C f n b)
  |.or a b=>Rt (wT C f n a) (wT C f n b)
  |.not a=>JX (wT C f n a)
  |.ite _ _ _=>wNo
  |e=>wUn cJ (wE C f n e)
end
abbrev wCl(C:Calls)(b:Nat->Nat)(n:Nat)(E:CE):List Cl->WP (List D)
 |[]=>wOn (λd=>[d]) (wE C b n E)
 |⟨tg,it,cond⟩::rest=>D5 (wI C b n it) tg (cnd (evT C b n) cond (ic C b n E rest)) LF
def rD{C:Calls}{f:Nat->Nat}:∀ {n:Nat} {E:List CE} {b:Rho} {S c:Sto} {ds:List D},evA C f n E b S=aD (ds,c)->ds.length=E.length
 |0,_,_,_,_,_,h=>by simp only[evA,xNo] at h;cases h
 |n+1,[],_,_,_,_,h=>by simp only[evA,F0] at h;cases h;rfl
 |n+1,e::E,_,_,_,_,h=>by
  simp only[evA,xZ] at h;obtain⟨a,o,q,h⟩:=ae h;obtain⟨j,p,g,h⟩:=ae h;cases h;rw[ZB,ZB,rD g]
structure SndW(C:Calls)(ar:Nat->Nat)(n:Nat):Prop where
 e:∀ {e:CE},Sd (wE C ar n e) (evE C ar n e)
 a:∀ {es:List CE},Sd (wA C ar n es) (evA C ar n es)
 m:∀ {e:CE},Sd (wTm C ar n e) (dE C ar n e)
 i:∀ {i:CI},Sd (wI C ar n i) (evI C ar n i)
 t:∀ {e:CE},Sd (wT C ar n e) (evT C ar n e)
section
variable {C:Calls} {ar:Nat->Nat} {n:Nat}
def Ry(h:SndW C ar n){E:List CE}:Sd (wSh E (wOn D.tup (wA C ar n E))) (kS kT (evA C ar n E)):=λg S Q w=>by
 obtain⟨le,w⟩:=jD w;obtain⟨c,b,f,q⟩:=h.a _ _ _ w;refine be ⟨c,b,f,?_⟩;have l:=rD f;show Ok (kT c b) Q;rw[G7];exact⟨by lia,q⟩
def Ec(h:SndW C ar n){E:List CE}:Sd (wSh E (wA C ar n E)) (oQ (evA C ar n E)):=λg S Q w=>by
 obtain⟨le,w⟩:=jD w;obtain⟨f,c,b,q⟩:=h.a _ _ _ w;rw[G6];have l:=rD b;exact⟨f,c,b,by lia,q⟩
def J2(h:SndW C ar n){o:Option CE}:Sd (wO (wO2 (wE C ar n) o)) (opt (evE C ar n) o):=by
 cases o with
 |none=>exact Tc
 |some e=>exact Td h.e
def Hq{a b:D}{S:Sto}{Q:D->Sto->Prop}(h:Ea a b S Q):Ok (Cm a b S) Q:=by
 obtain⟨i,rfl,c⟩:=cD h;obtain⟨j,rfl,H⟩:=cD c;exact bC H
def Hr{a b:D}{S:Sto}{Q:D->Sto->Prop}(h:Eb a b S Q):Ok (Cn a b S) Q:=by
 obtain⟨i,rfl,c⟩:=cD h;obtain⟨j,rfl,H⟩:=cD c;exact bC H
end
section
variable {C:Calls} {ar:Nat->Nat} {n:Nat}
def Rz(h:SndW C ar n){o:Option CE}{w:WP (List D)}{x:XA}(hw:Sd w x):Sd (Ho (wT C ar n) o w) (cnd (evT C ar n) o x):=by
 cases o with
 |none=>exact hw
 |some c=>exact M4 h.t hw
def Ed{c b:Type}{f:c->Sto->Option (b × Sto)}{a:c}{S:Sto}{Q:b->Sto->Prop}(h:wOk f a S Q):Ok (f a S) Q:=h
def s_q(h:SndW C ar n){f:Bool->List D->Sto->Option (D × Sto)}{a:CE}:Sd (wOf (ak a) (wTm C ar n a) (wE C ar n a) (wOk (f bx)) (wOk (az f))) (if ak a=br then zQ f (dE C ar n a) else zR f (evE C ar n a)):=
 s_of (Hj (f:=f bx) h.m Ed) (Hj (f:=az f) h.e Ed)
def J3(h:SndW C ar n){a:CE}:Sd (wOf (ak a) (wTm C ar n a) (wE C ar n a) (λds S Q=>Q ds S) wR) (if ak a=br then dE C ar n a else mR (evE C ar n a)):=s_of h.m (λ_ _ _ w=>be (h.e _ _ _ w))
def J4(h:SndW C ar n){a:CE}:Sd (wOf (ak a) (wTm C ar n a) (wE C ar n a) (Hm eX) (Hn eX)) (if ak a=br then Am eX (dE C ar n a) else An eX (evE C ar n a)):=s_of (Rv h.m) (Rx h.e)
def s_u{g:D->Sto->Option (D × Sto)}{w:WP D}{x:XE}(hw:Sd w x):Sd (wUn (wOk g) w) (xUn g x):=Hj (f:=g) hw Ed
def Tn{w:WP (List D)}{x:XA}(hw:Sd w x):Sd (wUn (w2 Ea) w) (kS (two Cm) x):=λ_ _ _ h=>be ((hw _ _ _ h).mono λ_ _ h=>JZ (λz=>Hq z) h)
def To{w:WP (List D)}{x:XA}(hw:Sd w x):Sd (wUn (w2 Eb) w) (kS (two Cn) x):=λ_ _ _ h=>be ((hw _ _ _ h).mono λ_ _ h=>JZ (λz=>Hr z) h)
def M5:Sd J0 C1:=λ_ _ _ h=>bC h
def M6{i j:Int}:Sd (J1 i j) (C2 i j):=λ_ _ _ h=>bC h
def RA{w:WP D}{x:XE}(hw:Sd w x):Sd (wUn cJ w) (F8 x):=Hj (f:=mz) hw D9
def pM:∀n,SndW C ar n
 |0=>⟨rC,rC,rC,rC,rC⟩
 |n+1=>by
  have h:=pM n;refine⟨λ{e}=>?_,λ{E}=>?_,λ{e}=>?_,λ{i}=>?_,λ{e}=>?_⟩
  ·cases e with
   |non=>exact s_c
   |bl b=>exact s_c
   |int b=>exact s_c
   |str b=>exact s_c
   |var b=>exact Rc
   |con b v=>exact s_c
   |txc b v=>exact s_c
   |tup E=>exact Ry h
   |lst E=>exact hU (Ec h)
   |dic0=>exact M5
   |dic1 i j=>exact M6
   |bin o a b=>exact D2 h.e h.e Hk
   |neg a=>exact Rj h.e
   |cmp o a b=>exact D2 h.e h.e rq
   |chn o p a b c=>exact JR h.e h.e h.e
   |and a b=>exact Rf h.e h.e
   |or a b=>exact Tb h.e h.e
   |not a=>exact Rh h.e
   |ite c a b=>exact Rm h.t h.e h.e
   |ix a b=>exact Tl h.m h.e h.e
   |sl a lo H=>exact Te h.e (J2 h) (J2 h)
   |call f E=>exact MZ h.a
   |inst t a=>exact s_u h.e
   |len a=>exact s_q h
   |all a=>exact s_q h
   |tupOf a=>exact s_q h
   |listOf a=>exact hU (J3 h)
   |listR a=>exact hU (JT h.e)
   |srt a=>exact hU (J4 h)
   |strI a=>exact s_u h.e
   |lenS a=>exact s_u h.e
   |intX a=>exact s_u h.e
   |rev a=>exact s_u h.e
   |mx a b=>exact Tn h.a
   |mn a b=>exact To h.a
   |rep a=>exact s_u h.e
   |comp own q cls=>cases cls with
    |nil=>exact hU rC
    |cons c g=>cases c with |mk T I cond=>exact hU (D4 h.i)
   |app o a=>exact ur h.e h.a
   |popAt o a=>exact ur h.e h.a
   |cnt o a=>exact ur h.e h.a
   |join o a=>exact ur h.e h.a
   |spl o a=>exact ur h.e h.a
  ·cases E with
   |nil=>exact Ro
   |cons e E=>exact M1 h.e h.a
  ·cases e with
   |lst E=>exact Ec h
   |listOf a=>exact J3 h
   |listR a=>exact JT h.e
   |srt a=>exact J4 h
   |comp own q cls=>cases cls with
    |nil=>exact rC
    |cons c g=>cases c with |mk T I cond=>exact D4 h.i
   |_=>exact rC
  ·cases i with
   |val a=>exact s_of (D8 h.m) (Th h.e)
   |chr a=>exact Rq h.e
   |wds k u=>exact Rs
   |r1 a=>exact Tj h.e
   |r2 a b=>exact Tk h.e h.e
   |en a=>exact s_of (D8 h.m) (Ti h.e)
  ·cases e with
   |cmp o a b=>exact s_b (D2 h.e h.e rq)
   |chn o p a b c=>exact s_b (JR h.e h.e h.e)
   |and a b=>exact M2 h.t h.t
   |or a b=>exact Ru h.t h.t
   |not a=>exact M3 h.t
   |ite a b c=>exact rC
   |_=>exact RA h.e
def Tp{E:CE}{cls:List Cl}:Sd (wCl C ar n E cls) (ic C ar (n+1) E cls):=by
 cases cls with
 |nil=>exact D8 (pM n).e
 |cons c b=>cases c with |mk T I cond=>exact Hl (pM n).i
def M7{E:CE}{cls:List Cl}{o:Option CE}{b:Rho}{S:Sto}{Q:List D->Sto->Prop}(h:Ho (wT C ar (n+1)) o (wCl C ar n E cls) b S Q):Ok (cnd (evT C ar (n+1)) o (ic C ar (n+1) E cls) b S) Q:=Rz (pM (n+1)) Tp _ _ _ h
abbrev wNm:Nat->D->Rho->(Rho->Prop)->Prop
 |_,_,[],_=>False
 |0,d,_::ρ,Q=>Q (aD d::ρ)
 |i+1,d,o::ρ,Q=>wNm i d ρ λb=>Q (o::b)
def rE:∀ {i:Nat} {d:D} {ρ:Rho} {Q:Rho->Prop},wNm i d ρ Q->i < ρ.length/\Q (ρ.set i (aD d))
 |i,_,[],_,h=>by cases i <;> exact h.elim
 |0,d,_::ρ,Q,h=>⟨by simp,h⟩
 |i+1,d,o::ρ,Q,h=>by
  have:=rE (ρ:=ρ) (Q:=λb=>Q (o::b)) h;exact⟨by rw[ZB];lia,this.2⟩
abbrev wBs:List Tg->List D->Rho->(Rho->Prop)->Prop
 |[],[],ρ,Q=>Q ρ
 |[],_::_,_,_=>False
 |.name _::_,[],_,_=>False
 |.tup _::_,[],_,_=>False
 |.name i::ts,d::ds,ρ,Q=>wNm i d ρ λb=>wBs ts ds b Q
 |.tup us::ts,d::ds,ρ,Q=>∃b,aB (.tup us) d ρ=aD b/\wBs ts ds b Q
abbrev wTp(T:List Tg)(d:D)(b:Rho)(Q:Rho->Prop):Prop:=match d with
 |.tup ds=>wBs T ds b Q
 |.non=>False |.bl _=>False |.str _=>False |.int _=>False |.ref _=>False
abbrev wBd:Tg->D->Rho->(Rho->Prop)->Prop
 |.name i,d,ρ,Q=>wNm i d ρ Q
 |.tup ts,d,ρ,Q=>wTp ts d ρ Q
def Ee{i:Nat}{d:D}{b:Rho}{Q:Rho->Prop}(h:wNm i d b Q):∃ρ1,aB (.name i) d b=aD ρ1/\Q ρ1:=⟨_,by rw[yN,if_pos (rE h).1],(rE h).2⟩
def wU:∀ {T:List Tg} {ds:List D} {f:Rho} {Q:Rho->Prop},wBs T ds f Q->∃b,aP T ds f=aD b/\Q b
 |[],[],f,Q,h=>⟨f,yO,h⟩
 |[],_::_,_,_,h=>h.elim
 |.name _::_,[],_,_,h=>h.elim
 |.tup _::_,[],_,_,h=>h.elim
 |.name i::T,d::ds,f,Q,h=>by
  obtain⟨b,e,q⟩:=Ee h;obtain⟨c,E,q⟩:=wU q;exact⟨c,by rw[aP,e];exact E,q⟩
 |.tup us::T,d::ds,f,Q,h=>by
  obtain⟨b,e,q⟩:=h;obtain⟨c,E,q⟩:=wU q;exact⟨c,by rw[aP,e];exact E,q⟩
def M8{t:Tg}{d:D}{b:Rho}{Q:Rho->Prop}(h:wBd t d b Q):∃ρ1,aB t d b=aD ρ1/\Q ρ1:=by
 cases t with
 |name i=>exact Ee h
 |tup T=>cases d with
  |tup c=>rw[DZ];exact wU h
  |_=>exact h.elim
@[inline]abbrev WS:=Rho->Sto->(Fl->Rho->Sto->Prop)->Prop
abbrev rW(y:WS)(b:Rho)(S:Sto)(Q:Fl->Rho->Sto->Prop):Prop:=y b S Q
abbrev wNx(y:WS)(Q:Fl->Rho->Sto->Prop)(f:Fl)(b:Rho)(S:Sto):Prop:=match f with
 |.nx=>rW y b S Q
 |.rt d=>Q (.rt d) b S
 |.bk=>Q .bk b S
 |.ct=>Q .ct b S
mutual
noncomputable def wS(C:Calls)(ar:Nat->Nat):Nat->CS->WS
 |0,_=>λ_ _ _=>False
 |n+1,s=>match s with
  |.asg t e=>λg S Q=>wE C ar n e g S λd h=>wBd t d g λq=>Q .nx q h
  |.setI v o i=>λg S Q=>wE C ar n v g S λa h=>wE C ar n o g h λb p=>wE C ar n i g p λc y=>∃u,oh b c a y=aD u/\Q .nx g u
  |.dcs i own k v t it=>λg S Q=>wI C ar n it g S λnx h=>OkS (dD nx t (tG h.length (evE C ar n k) (evE C ar n v)) LF 0 (g++Zp own.length aT) (h++[.dic [] []])) λf _ p=>f = .nx/\Q .nx (g.set i (aD (.ref h.length))) p
  |.aug i e=>λg S Q=>∃l,g[i]?=aD (aD (.ref l))/\wE C ar n e g S λd h=>∃b xs z,d = .ref b/\h[l]?=aD (.lst xs)/\h[b]?=aD (.lst z)/\xs.length+z.length<=100000/\Q .nx (g.set i (aD (.ref l))) (h.set l (.lst (xs++z)))
  |.stg i j e=>λg S Q=>wE C ar n e g S λd h=>∃m x xs,d = .ref m/\aA h m=aD (x::xs)/\(xs.length<=16000/\i < g.length/\j < g.length)/\Q .nx ((g.set i (aD x)).set j (aD (.ref h.length))) (h++[.lst xs])
  |.ex e=>λg S Q=>wE C ar n e g S λ_ h=>Q .nx g h
  |.ret e=>λg S Q=>wE C ar n e g S λd h=>Q (.rt d) g h
  |.ifs c a b=>λg S Q=>wT C ar n c g S λt h=>wIf t (rW (wSs C ar n a) g h Q) (rW (wSs C ar n b) g h Q)
  |.for_ t it b=>λg S Q=>wI C ar n it g S λnx h=>OkS (dD nx t (fV C ar n b) LF 0 g h) Q
  |.cnt=>λg S Q=>Q .ct g S
  |.never=>λ_ _ _=>False
noncomputable def wSs(C:Calls)(ar:Nat->Nat):Nat->List CS->WS
 |0,_=>λ_ _ _=>False
 |n+1,ss=>match ss with
  |[]=>λb S Q=>Q .nx b S
  |s::ss=>λb S Q=>wS C ar n s b S (wNx (wSs C ar n ss) Q)
end
structure SdS(C:Calls)(ar:Nat->Nat)(n:Nat):Prop where
 s:∀ {s:CS} {ρ S Q},wS C ar n s ρ S Q->OkS (evS C ar n s ρ S) Q
 ss:∀ {ss:List CS} {ρ S Q},wSs C ar n ss ρ S Q->OkS (fV C ar n ss ρ S) Q
def Ef:∀n,SdS C ar n
 |0=>⟨λh=>by simp only[wS] at h,λh=>by simp only[wSs] at h⟩
 |n+1=>by
  have h:=Ef n;have g:SndW C ar n:=pM n;refine⟨λ{s ρ S Q} w=>?_,λ{ss ρ S Q} w=>?_⟩
  ·cases s with
   |asg t e=>simp only[evS,G1];simp only[wS] at w;exact(g.e _ _ _ w).mono λd p w=>M8 w
   |setI v o i=>simp only[evS,DT];simp only[wS] at w;exact(g.e _ _ _ w).mono λa p w=>(g.e _ _ _ w).mono λb L w=>g.e _ _ _ w
   |dcs i own k v t I=>
    simp only[wS] at w;obtain⟨nx,p,E,f,J,L,y,rfl,w⟩:=g.i _ _ _ w;refine⟨_,_,_,?_,w⟩;show Af i own.length (evI C ar n I) t (evE C ar n k) (evE C ar n v) LF ρ S=_;unfold Af;rw[E];dsimp only;rw[y]
   |aug i e=>
    simp only[wS] at w;obtain⟨l,B,w⟩:=w;obtain⟨d,p,E,M,xs,Z,rfl,H,q,z,w⟩:=g.e _ _ _ w;refine⟨_,_,_,?_,w⟩;show CJ i (evE C ar n e) ρ S=_;unfold CJ;rw[B];dsimp only;rw[E];dsimp only;rw[H,q];dsimp only;rw[if_pos z]
   |stg i j e=>
    simp only[wS] at w;obtain⟨d,p,E,O,x,xs,rfl,H,q,w⟩:=g.e _ _ _ w;refine⟨_,_,_,?_,w⟩;show CK i j (evE C ar n e) ρ S=_;unfold CK;rw[E];dsimp only;rw[H];dsimp only;rw[if_pos q]
   |ex e=>simp only[evS,DS];simp only[wS] at w;exact g.e _ _ _ w
   |ret e=>simp only[evS,G2];simp only[wS] at w;exact g.e _ _ _ w
   |ifs c a b=>
    simp only[evS,My];simp only[wS] at w;refine(g.t _ _ _ w).mono λt p w=>?_;cases t with
    |true=>exact h.ss w
    |false=>exact h.ss w
   |for_ t I b=>simp only[evS,G3];simp only[wS] at w;exact g.i _ _ _ w
   |cnt=>simp only[wS] at w;simp only[evS];exact⟨_,_,_,rfl,w⟩
   |never=>simp only[wS] at w
  ·cases ss with
   |nil=>simp only[wSs] at w;simp only[fV];exact⟨_,_,_,rfl,w⟩
   |cons s ss=>
    simp only[wSs] at w;simp only[fV,G0];refine(h.s w).mono λf u p w=>?_;cases f with
    |nx=>exact h.ss w
    |_=>exact w
def rF{ss:List CS}{b:Rho}{S:Sto}{Q:Fl->Rho->Sto->Prop}(h:rW (wSs C ar n ss) b S Q):OkS (fV C ar n ss b S) Q:=(Ef n).ss h
def Eg{s:CS}{ss:List CS}{b:Rho}{S:Sto}{Q:Fl->Rho->Sto->Prop}(h:wS C ar n s b S (wNx (wSs C ar n ss) Q)):rW (wSs C ar (n+1) (s::ss)) b S Q:=h
def Hs{b:Rho}{S:Sto}{Q:Fl->Rho->Sto->Prop}(h:Q .nx b S):rW (wSs C ar (n+1) []) b S Q:=h
end
def Tq{af:List DefE}{k f:Nat}{d:DefE}{ds:List D}{ρ:Rho}{S:Sto}{Q:D->Sto->Prop}(hd:af[f]?=aD d)(H:ds.map aD++Zp (d.N.length - ds.length) aT=ρ)(h:rW (wSs (evC af k) (cN af) 60 d.body) ρ S (out Q))(b:d.rb=aT:=by rfl):Ok (evC af (k+1) f ds S) Q:=aW hd H (rF h) b
section
variable {C:Calls} {ar:Nat->Nat} {A B:Prop} {S S1:Sto} {Q:D->Sto->Prop} {Ql:List D->Sto->Prop} {Qn:Nxt->Sto->Prop} {Qb:Bool->Prop} {Qi:Int->Prop} {Qd:D->Prop} {Qr:Rho->Prop} {Qt:Bool->Sto->Prop} {Qs:Fl->Rho->Sto->Prop} {t:Bool} {d x y:D} {i j:Int} {n m f:Nat} {s:Str} {o:BOp} {c p:COp} {ds xs ys:List D} {l h:Option Int} {tg:Tg} {ts:List Tg} {ρ ρ2:Rho} {es:List CE} {a b e:CE} {oa ob cd:Option CE} {own:List Str} {it:CI} {rest:List Cl} {ty:Ty} {w wl:WP (List D)} {wv:WP D} {sa sb:List CS} {ws:WS} {od:Option D} {g:D->D->Sto->(D->Sto->Prop)->Prop}
def M9:wE C ar (n+1) (.non) ρ S Q=(Q .non S):=rfl
def RB:wE C ar (n+1) (.bl t) ρ S Q=(Q (.bl t) S):=rfl
def Na:wE C ar (n+1) (.int i) ρ S Q=(Q (.int i) S):=rfl
def Nb:wE C ar (n+1) (.str s) ρ S Q=(Q (.str s) S):=rfl
def Nc{x:Str}:wE C ar (n+1) (.txc m x) ρ S Q=(Q (.str x) S):=rfl
def Nd:wE C ar (n+1) (.con m i) ρ S Q=(Q (.int i) S):=rfl
def Nf:wE C ar (n+1) (.var m) ρ S Q=(wM ρ m λd=>Q d S):=rfl
def Ng:wE C ar (n+1) (.tup es) ρ S Q=(fL 60 es (wA C ar n es ρ S λds S1=>Q (.tup ds) S1)):=rfl
def Nh:wE C ar (n+1) (.lst es) ρ S Q=(fL 60 es (wA C ar n es ρ S λds S1=>Q (.ref S1.length) (S1++[.lst ds]))):=rfl
def Ht:wE C ar (n+1) (.dic0) ρ S Q=(Q (.ref (Zh S)) (S++[.dic [] []])):=rfl
def Hu:wE C ar (n+1) (.dic1 i j) ρ S Q=(Q (.ref (Zh S)) (S++[.dic [om i] [.int j]])):=rfl
def Ni:wE C ar (n+1) (.bin o a b) ρ S Q=(wE C ar n a ρ S λx S1=>wE C ar n b ρ S1 λy q=>wN o x y q Q):=rfl
def Nj:wE C ar (n+1) (.neg a) ρ S Q=(wE C ar n a ρ S λd S1=>dP d λi=>Q (.int (-i)) S1):=rfl
def Nk:wE C ar (n+1) (.cmp c a b) ρ S Q=(wE C ar n a ρ S λx S1=>wE C ar n b ρ S1 λy q=>wCm c x y q Q):=rfl
def Nl:wE C ar (n+1) (.chn c p a b e) ρ S Q=(wE C ar n a ρ S λx S1=>wE C ar n b ρ S1 λy u=>wCm c x y u λr q=>wBl r λt=>wIf t (wE C ar n e ρ q λz v=>wCm p y z v Q) (Q (.bl bx) q)):=rfl
def Nm:wE C ar (n+1) (.and a b) ρ S Q=(wE C ar n a ρ S λd S1=>wBl d λt=>wIf t (wE C ar n b ρ S1 Q) (Q (.bl bx) S1)):=rfl
def RC:wE C ar (n+1) (.or a b) ρ S Q=(wE C ar n a ρ S λd S1=>wBl d λt=>wIf t (Q (.bl br) S1) (wE C ar n b ρ S1 Q)):=rfl
def Nn:wE C ar (n+1) (.not a) ρ S Q=(wE C ar n a ρ S λd S1=>wBl d λt=>Q (.bl (!t)) S1):=rfl
def Np:wE C ar (n+1) (.ite e a b) ρ S Q=(wT C ar n e ρ S λt S1=>wIf t (wE C ar n a ρ S1 Q) (wE C ar n b ρ S1 Q)):=rfl
def RD:wE C ar (n+1) (.ix a b) ρ S Q=(a8 (ak a) (wTm C ar n a) (wE C ar n a) ρ S (λds S1=>wE C ar n b ρ S1 λi q=>dP i λk=>∃d,atI ds k=aD d/\Q d q) (λd S1=>wE C ar n b ρ S1 λi q=>Ok (ixS d i q) Q)):=rfl
def Hv:wE C ar (n+1) (.sl a aT aT) ρ S Q=(wE C ar n a ρ S λd S1=>wP aT aT d S1 Q):=rfl
def Hw:wE C ar (n+1) (.sl a aT (aD b)) ρ S Q=(wE C ar n a ρ S λd S1=>wE C ar n b ρ S1 λy q=>dP y λj=>wP aT (aD j) d q Q):=rfl
def Hx:wE C ar (n+1) (.sl a (aD b) aT) ρ S Q=(wE C ar n a ρ S λd S1=>wE C ar n b ρ S1 λy q=>dP y λj=>wP (aD j) aT d q Q):=rfl
def Hy:wE C ar (n+1) (.sl a (aD b) (aD e)) ρ S Q=(wE C ar n a ρ S λd S1=>wE C ar n b ρ S1 λy q=>dP y λj=>wE C ar n e ρ q λz u=>dP z λk=>wP (aD j) (aD k) d u Q):=rfl
def Hz:wE C ar (n+1) (.call f es) ρ S Q=(wA C ar n es ρ S λds S1=>ds.length=ar f/\Ok (C f ds S1) Q):=rfl
def HA:wE C ar (n+1) (.inst ty a) ρ S Q=(wE C ar n a ρ S λd S1=>Ok (ji ty d S1) Q):=rfl
def Nq:wE C ar (n+1) (.len a) ρ S Q=(a8 (ak a) (wTm C ar n a) (wE C ar n a) ρ S (λds S1=>Ok (eF bx ds S1) Q) (λd S1=>Ok (az eF d S1) Q)):=rfl
def Nr:wE C ar (n+1) (.all a) ρ S Q=(a8 (ak a) (wTm C ar n a) (wE C ar n a) ρ S (λds S1=>Ok (n9 bx ds S1) Q) (λd S1=>Ok (az n9 d S1) Q)):=rfl
def Eh:wE C ar (n+1) (.tupOf a) ρ S Q=(a8 (ak a) (wTm C ar n a) (wE C ar n a) ρ S (λds S1=>Ok (ia bx ds S1) Q) (λd S1=>Ok (az ia d S1) Q)):=rfl
def AH:wE C ar (n+1) (.listOf a) ρ S Q=(a8 (ak a) (wTm C ar n a) (wE C ar n a) ρ S (λds S1=>Q (.ref S1.length) (S1++[.lst ds])) (λd S1=>Ok ((am d S1).map λr=>(r.2,S1)) λds S1=>Q (.ref S1.length) (S1++[.lst ds]))):=rfl
def Ei:wE C ar (n+1) (.listR a) ρ S Q=(wE C ar n a ρ S λd S1=>∃i:Nat,d = .int i/\i<=1000/\Q (.ref S1.length) (S1++[.lst ((Zl i).map λj=>.int (Int.ofNat j))])):=rfl
def Nt:wE C ar (n+1) (.srt a) ρ S Q=(a8 (ak a) (wTm C ar n a) (wE C ar n a) ρ S (λds S1=>∃es,eX bx ds=aD es/\Q (.ref S1.length) (S1++[.lst es])) (λd S1=>∃r es,am d S1=aD r/\eX r.1 r.2=aD es/\Q (.ref S1.length) (S1++[.lst es]))):=rfl
def HB:wE C ar (n+1) (.strI a) ρ S Q=(wE C ar n a ρ S λd S1=>Ok (vL d S1) Q):=rfl
def HC:wE C ar (n+1) (.lenS a) ρ S Q=(wE C ar n a ρ S λd S1=>Ok (mG d S1) Q):=rfl
def HD:wE C ar (n+1) (.intX a) ρ S Q=(wE C ar n a ρ S λd S1=>Ok (vW d S1) Q):=rfl
def Nu:wE C ar (n+1) (.rev a) ρ S Q=(wE C ar n a ρ S λd S1=>Ok (C0 d S1) Q):=rfl
def RE:wE C ar (n+1) (.mx a b) ρ S Q=(wA C ar n [a,b] ρ S λds S1=>w2 Ea ds S1 Q):=rfl
def RF:wE C ar (n+1) (.mn a b) ρ S Q=(wA C ar n [a,b] ρ S λds S1=>w2 Eb ds S1 Q):=rfl
def Nv:wE C ar (n+1) (.rep a) ρ S Q=(wE C ar n a ρ S λd S1=>Ok (fQ d S1) Q):=rfl
def HE:wE C ar (n+1) (.comp own a (⟨tg,it,cd⟩::rest)) ρ S Q=(wI C ar n it ρ S λnx S1=>uu own [] λr=>uv ρ r λq=>wFt tg q (Ok (bt nx tg (cnd (evT C ar n) cd (ic C ar n a rest)) q LF 0 S1) λes u=>es.length<=100000/\Q (.ref u.length) (u++[.lst es]))):=rfl
def Nw:wE C ar (n+1) (.app a b) ρ S Q=(wE C ar n a ρ S λd S1=>fP d S1=br/\wA C ar n [b] ρ S1 λas q=>Ok (vO d as q) Q):=rfl
def Ej:wE C ar (n+1) (.popAt a b) ρ S Q=(wE C ar n a ρ S λd S1=>fP d S1=br/\wA C ar n [b] ρ S1 λas q=>Ok (iE d as q) Q):=rfl
def Nx:wE C ar (n+1) (.cnt a b) ρ S Q=(wE C ar n a ρ S λd S1=>isTup d=br/\wA C ar n [b] ρ S1 λas q=>Ok (vQ d as q) Q):=rfl
def HF:wE C ar (n+1) (.join a b) ρ S Q=(wE C ar n a ρ S λd S1=>mI d=br/\wA C ar n [b] ρ S1 λas q=>Ok (mL d as q) Q):=rfl
def Ny:wE C ar (n+1) (.spl a b) ρ S Q=(wE C ar n a ρ S λd S1=>mI d=br/\wA C ar n [b] ρ S1 λas q=>Ok (gi d as q) Q):=rfl
def Tr:wA C ar (n+1) [] ρ S Ql=Ql [] S:=rfl
def Ts:wA C ar (n+1) (a::es) ρ S Ql=(wE C ar n a ρ S λd S1=>wA C ar n es ρ S1 λds q=>Ql (d::ds) q):=rfl
def Nz:wTm C ar (n+1) (.lst es) ρ S Ql=fL 60 es (wA C ar n es ρ S Ql):=rfl
def AI:wTm C ar (n+1) (.listOf a) ρ S Ql=(a8 (ak a) (wTm C ar n a) (wE C ar n a) ρ S (λds S1=>Ql ds S1) (λd S1=>Ok ((am d S1).map λr=>(r.2,S1)) Ql)):=rfl
def Ek:wTm C ar (n+1) (.listR a) ρ S Ql=(wE C ar n a ρ S λd S1=>∃i:Nat,d = .int i/\i<=1000/\Ql ((Zl i).map λj=>.int (Int.ofNat j)) S1):=rfl
def NA:wTm C ar (n+1) (.srt a) ρ S Ql=(a8 (ak a) (wTm C ar n a) (wE C ar n a) ρ S (λds S1=>∃es,eX bx ds=aD es/\Ql es S1) (λd S1=>∃r es,am d S1=aD r/\eX r.1 r.2=aD es/\Ql es S1)):=rfl
def HG:wTm C ar (n+1) (.comp own a (⟨tg,it,cd⟩::rest)) ρ S Ql=(wI C ar n it ρ S λnx S1=>uu own [] λr=>uv ρ r λq=>wFt tg q (Ok (bt nx tg (cnd (evT C ar n) cd (ic C ar n a rest)) q LF 0 S1) λes u=>es.length<=100000/\Ql es u)):=rfl
def NB:wI C ar (n+1) (.val a) ρ S Qn=(a8 (ak a) (wTm C ar n a) (wE C ar n a) ρ S (λds S1=>Qn (nxL ds) S1) (λd S1=>D6 d S1 Qn)):=rfl
def RG:wI C ar (n+1) (.en a) ρ S Qn=(a8 (ak a) (wTm C ar n a) (wE C ar n a) ρ S (λds S1=>Qn (qM ds) S1) (λd S1=>D7 d S1 Qn)):=rfl
def NC:wI C ar (n+1) (.chr a) ρ S Qn=(wE C ar n a ρ S λd S1=>∃z,d = .str z/\z.cps.all (· < 128)=br/\Qn (nxL (Ac z)) S1):=rfl
def ND{ws:List Str}:wI C ar (n+1) (.wds m ws) ρ S Qn=Qn (nxL (ws.map D.str)) S:=rfl
def RH:wI C ar (n+1) (.r1 a) ρ S Qn=(wE C ar n a ρ S λd S1=>dP d λj=>lim j=br/\Qn (nxR 0 j.toNat) S1):=rfl
def RI:wI C ar (n+1) (.r2 a b) ρ S Qn=(wE C ar n a ρ S λd S1=>wE C ar n b ρ S1 λe q=>dP d λi=>dP e λj=>(lim i=br/\lim j=br)/\Qn (nxR i (j - i).toNat) q):=rfl
def NF:wT C ar (n+1) (.cmp c a b) ρ S Qt=(wE C ar n a ρ S λx S1=>wE C ar n b ρ S1 λy q=>wCm c x y q λd u=>wBl d λt=>Qt t u):=rfl
def NG:wT C ar (n+1) (.chn c p a b e) ρ S Qt=(wE C ar n a ρ S λx S1=>wE C ar n b ρ S1 λy u=>wCm c x y u λr q=>wBl r λt=>wIf t (wE C ar n e ρ q λz E=>wCm p y z E λd v=>wBl d λt=>Qt t v) (wBl (.bl bx) λt=>Qt t q)):=rfl
def NH:wT C ar (n+1) (.and a b) ρ S Qt=(wT C ar n a ρ S λt S1=>wIf t (wT C ar n b ρ S1 Qt) (Qt bx S1)):=rfl
def RJ:wT C ar (n+1) (.or a b) ρ S Qt=(wT C ar n a ρ S λt S1=>wIf t (Qt br S1) (wT C ar n b ρ S1 Qt)):=rfl
def NI:wT C ar (n+1) (.not a) ρ S Qt=(wT C ar n a ρ S λt S1=>Qt (!t) S1):=rfl
def RK:wT C ar (n+1) (.bl t) ρ S Qt=(wE C ar n (.bl t) ρ S λd S1=>cJ d S1 Qt):=rfl
def NJ:wT C ar (n+1) (.var m) ρ S Qt=(wE C ar n (.var m) ρ S λd S1=>cJ d S1 Qt):=rfl
def HH:wT C ar (n+1) (.call f es) ρ S Qt=(wE C ar n (.call f es) ρ S λd S1=>cJ d S1 Qt):=rfl
def HI:wT C ar (n+1) (.inst ty a) ρ S Qt=(wE C ar n (.inst ty a) ρ S λd S1=>cJ d S1 Qt):=rfl
def NK:wT C ar (n+1) (.all a) ρ S Qt=(wE C ar n (.all a) ρ S λd S1=>cJ d S1 Qt):=rfl
def NL:wT C ar (n+1) (.len a) ρ S Qt=(wE C ar n (.len a) ρ S λd S1=>cJ d S1 Qt):=rfl
def RL:wT C ar (n+1) (.ix a b) ρ S Qt=(wE C ar n (.ix a b) ρ S λd S1=>cJ d S1 Qt):=rfl
def NM:wT C ar (n+1) (.lst es) ρ S Qt=(wE C ar n (.lst es) ρ S λd S1=>cJ d S1 Qt):=rfl
def NN:wT C ar (n+1) (.tup es) ρ S Qt=(wE C ar n (.tup es) ρ S λd S1=>cJ d S1 Qt):=rfl
def Tt:wCl C ar n a [] ρ S Ql=(wE C ar n a ρ S λd S1=>Ql [d] S1):=rfl
def Tu:wCl C ar n a (⟨tg,it,cd⟩::rest) ρ S Ql=(wFt tg ρ (wI C ar n it ρ S λnx S1=>Ok (bt nx tg (cnd (evT C ar n) cd (ic C ar n a rest)) ρ LF 0 S1) Ql)):=rfl
def Tv:Ho (wT C ar n) aT w ρ S Ql=w ρ S Ql:=rfl
def Tw:Ho (wT C ar n) (aD a) w ρ S Ql=(wT C ar n a ρ S λt S1=>wIf t (w ρ S1 Ql) (Ql [] S1)):=rfl
def NP:wS C ar (n+1) (.asg tg a) ρ S Qs=(wE C ar n a ρ S λd S1=>wBd tg d ρ λq=>Qs .nx q S1):=rfl
def HJ:wS C ar (n+1) (.setI a b e) ρ S Qs=(wE C ar n a ρ S λx S1=>wE C ar n b ρ S1 λy u=>wE C ar n e ρ u λz v=>∃q,oh y z x v=aD q/\Qs .nx ρ q):=rfl
def RM:wS C ar (n+1) (.ex a) ρ S Qs=(wE C ar n a ρ S λ_ S1=>Qs .nx ρ S1):=rfl
def NQ:wS C ar (n+1) (.ret a) ρ S Qs=(wE C ar n a ρ S λd S1=>Qs (.rt d) ρ S1):=rfl
def NR:wS C ar (n+1) (.ifs a sa sb) ρ S Qs=(wT C ar n a ρ S λt S1=>wIf t (rW (wSs C ar n sa) ρ S1 Qs) (rW (wSs C ar n sb) ρ S1 Qs)):=rfl
def NS:wS C ar (n+1) (.for_ tg it sa) ρ S Qs=(wI C ar n it ρ S λnx S1=>OkS (dD nx tg (fV C ar n sa) LF 0 ρ S1) Qs):=rfl
def NT{i:Nat}{own:List Str}:wS C ar (n+1) (.dcs i own a b tg it) ρ S Qs=(wI C ar n it ρ S λnx S1=>OkS (dD nx tg (tG S1.length (evE C ar n a) (evE C ar n b)) LF 0 (ρ++Zp own.length aT) (S1++[.dic [] []])) λf _ q=>f = .nx/\Qs .nx (ρ.set i (aD (.ref S1.length))) q):=rfl
def NU{i:Nat}:wS C ar (n+1) (.aug i a) ρ S Qs=(∃l,ρ[i]?=aD (aD (.ref l))/\wE C ar n a ρ S λd S1=>∃b xs z,d = .ref b/\S1[l]?=aD (.lst xs)/\S1[b]?=aD (.lst z)/\xs.length+z.length<=100000/\Qs .nx (ρ.set i (aD (.ref l))) (S1.set l (.lst (xs++z)))):=rfl
def NV{i j:Nat}:wS C ar (n+1) (.stg i j a) ρ S Qs=(wE C ar n a ρ S λd S1=>∃m x xs,d = .ref m/\aA S1 m=aD (x::xs)/\(xs.length<=16000/\i < ρ.length/\j < ρ.length)/\Qs .nx ((ρ.set i (aD x)).set j (aD (.ref S1.length))) (S1++[.lst xs])):=rfl
def NX:wS C ar (n+1) .cnt ρ S Qs=Qs .ct ρ S:=rfl
def RN:wNx ws Qs .nx ρ S=rW ws ρ S Qs:=rfl
def RO:wNx ws Qs (.rt d) ρ S=Qs (.rt d) ρ S:=rfl
def RP:wNx ws Qs .bk ρ S=Qs .bk ρ S:=rfl
def RQ:wNx ws Qs .ct ρ S=Qs .ct ρ S:=rfl
def NY:wIf (br && t) A B=wIf t A B:=rfl
def NZ:wIf (bx && t) A B=B:=rfl
def N0:wIf (br || t) A B=A:=rfl
def HK:wIf (bx || t) A B=wIf t A B:=rfl
def HL:wIf (!(br && t)) A B=wIf (!t) A B:=rfl
def HM:wIf (!(bx && t)) A B=A:=rfl
def HN:wIf (!(br || t)) A B=B:=rfl
def HP:wIf (!(bx || t)) A B=wIf (!t) A B:=rfl
def RT:wIf br A B=A:=rfl
def RU:wIf bx A B=B:=rfl
def N1:wIf (!br) A B=B:=rfl
def N3:wIf (!bx) A B=A:=rfl
def RV:wBl (.bl t) Qb=Qb t:=rfl
def N4:dP (.int i) Qi=Qi i:=rfl
def N5:wM (aD d::ρ) 0 Qd=Qd d:=rfl
def N6:wM (od::ρ) (n+1) Qd=wM ρ n Qd:=rfl
def RX:wFr (aT::ρ) 0 A=A:=rfl
def RY:wFr (od::ρ) (n+1) A=wFr ρ n A:=rfl
def N7:ut [] ρ A=A:=rfl
def N8:ut (.name m::ts) ρ A=wFr ρ m (ut ts ρ A):=rfl
def RZ:wFt (.name m) ρ A=wFr ρ m A:=rfl
def R5:wFt (.tup ts) ρ A=ut ts ρ A:=rfl
def N9:uu [] ρ Qr=Qr ρ:=rfl
def Oa:uu (s::own) ρ Qr=uu own (aT::ρ) Qr:=rfl
def Oc:uv [] ρ Qr=Qr ρ:=rfl
def Od:uv (od::ρ) ρ2 Qr=uv ρ ρ2 λr=>Qr (od::r):=rfl
def R6:fL (n+1) [] A=A:=rfl
def R7:fL (n+1) (a::es) A=fL n es A:=rfl
def R8:wNm 0 d (od::ρ) Qr=Qr (aD d::ρ):=rfl
def R9:wNm (n+1) d (od::ρ) Qr=wNm n d ρ λr=>Qr (od::r):=rfl
def Sc:wBs [] [] ρ Qr=Qr ρ:=rfl
def Se:wBs (.name m::ts) (d::ds) ρ Qr=wNm m d ρ λr=>wBs ts ds r Qr:=rfl
def Sf:wBd (.name m) d ρ Qr=wNm m d ρ Qr:=rfl
def Sg:wBd (.tup ts) d ρ Qr=wTp ts d ρ Qr:=rfl
def Sh:wTp ts (.tup ds) ρ Qr=wBs ts ds ρ Qr:=rfl
def HQ:wII .add i j S Q=Q (.int (i+j)) S:=rfl
def HR:wII .sub i j S Q=Q (.int (i - j)) S:=rfl
def HS:wII .mul i j S Q=(jg i j=br/\Q (.int (i * j)) S):=rfl
def HU:wII .mod i j S Q=(0 < j/\Q (.int (i % j)) S):=rfl
def El:wII .fdiv i j S Q=((0 < j/\j < 1298074214633706907132624082305024)/\Q (.int (i / j)) S):=rfl
def HV:wII .pow i j S Q=((0<=j/\j<=1000000/\i.natAbs < 2 ^ 64)/\Q (.int (i ^ j.toNat)) S):=rfl
def HW:wTT .add xs ys S Q=(xs.length+ys.length<=1000/\Q (.tup (xs++ys)) S):=rfl
def HX:D3 o i (.int j) S Q=wII o i j S Q:=rfl
def HY:yT o xs (.tup ys) S Q=wTT o xs ys S Q:=rfl
def HZ:yT o xs (.int j) S Q=Ok (bR o (.tup xs) (.int j) S) Q:=rfl
def Oe:wN o (.int i) y S Q=D3 o i y S Q:=rfl
def Og:wN o (.tup xs) y S Q=yT o xs y S Q:=rfl
def Oh:wN o (.ref n) y S Q=Ok (bR o (.ref n) y S) Q:=rfl
def Oi:wN o (.str s) y S Q=Ok (bR o (.str s) y S) Q:=rfl
def Oj:wCI .eq i j S Q=Q (.bl (decide (i=j))) S:=rfl
def Ol:wCm .eq x y S Q=wCx .eq x y S Q:=rfl
def Om:wCI .ne i j S Q=Q (.bl (!decide (i=j))) S:=rfl
def Oo:wCm .ne x y S Q=wCx .ne x y S Q:=rfl
def Op:wCI .lt i j S Q=Q (.bl (decide (i < j))) S:=rfl
def Oq:wCm .lt x y S Q=wCx .lt x y S Q:=rfl
def Ot:wCI .le i j S Q=Q (.bl (decide (i<=j))) S:=rfl
def Ou:wCm .le x y S Q=wCx .le x y S Q:=rfl
def Ov:wCI .gt i j S Q=Q (.bl (decide (j < i))) S:=rfl
def Ow:wCm .gt x y S Q=wCx .gt x y S Q:=rfl
def Ox:wCI .ge i j S Q=Q (.bl (decide (j<=i))) S:=rfl
def Oy:wCm .ge x y S Q=wCx .ge x y S Q:=rfl
def Oz:wCm .is x y S Q=Ok (ax .is x y S) Q:=rfl
def AJ:wCm .isnot x y S Q=Ok (ax .isnot x y S) Q:=rfl
def Em:wCm .isin x y S Q=Ok (ax .isin x y S) Q:=rfl
def AK:wCm .notin x y S Q=Ok (ax .notin x y S) Q:=rfl
def Si:wCx c (.int i) y S Q=MW c i y S Q:=rfl
def Sj:wCx c (.tup xs) y S Q=AF c xs y S Q:=rfl
def Sk:wCx c .non y S Q=Ok (ax c .non y S) Q:=rfl
def Sl:wCx c (.bl t) y S Q=Ok (ax c (.bl t) y S) Q:=rfl
def Sn:wCx c (.str s) y S Q=Ok (ax c (.str s) y S) Q:=rfl
def So:wCx c (.ref n) y S Q=Ok (ax c (.ref n) y S) Q:=rfl
def OA:MW c i (.int j) S Q=wCI c i j S Q:=rfl
def OB:AF .eq xs (.tup []) S Q=Q (.bl xs.isEmpty) S:=rfl
def OC:AF .ne xs (.tup []) S Q=Q (.bl (!xs.isEmpty)) S:=rfl
def Ia:AF .eq xs (.tup (y::ys)) S Q=Ok (ax .eq (.tup xs) (.tup (y::ys)) S) Q:=rfl
def Ib:AF .ne xs (.tup (y::ys)) S Q=Ok (ax .ne (.tup xs) (.tup (y::ys)) S) Q:=rfl
def OD:wP l h (.tup ds) S Q=Q (.tup (bg ds l h)) S:=rfl
def OE:wP l h (.ref n) S Q=Ok (slS l h (.ref n) S) Q:=rfl
def OG:D6 (.tup ds) S Qn=Qn (nxL ds) S:=rfl
def OH:D6 (.ref n) S Qn=((aA S n).isSome=br/\Qn (nxS n) S):=rfl
def OI:D7 (.tup ds) S Qn=Qn (qM ds) S:=rfl
def OJ:D7 (.ref n) S Qn=((aA S n).isSome=br/\Qn (Cz n) S):=rfl
def Ic:cJ (.bl t) S Qt=Qt t S:=rfl
def Ie:cJ (.tup ds) S Qt=Qt (!ds.isEmpty) S:=rfl
def Ig:cJ (.int i) S Qt=Qt (i != 0) S:=rfl
def Ih:cJ (.ref n) S Qt=Ok (mz (.ref n) S) Qt:=rfl
def Tx:w2 g [x,y] S Q=g x y S Q:=rfl
def OK:Ea (.int i) (.int j) S Q=Q (.int (if j > i then j else i)) S:=rfl
def OL:Eb (.int i) (.int j) S Q=Q (.int (if j < i then j else i)) S:=rfl
def Ii:a8 (ak (.lst es)) wl wv ρ S Ql Q=wl ρ S Ql:=rfl
def wW:a8 (ak (.listOf a)) wl wv ρ S Ql Q=wl ρ S Ql:=rfl
def AL:a8 (ak (.listR a)) wl wv ρ S Ql Q=wl ρ S Ql:=rfl
def Ij:a8 (ak (.srt a)) wl wv ρ S Ql Q=wl ρ S Ql:=rfl
def En:a8 (ak (.comp own a rest)) wl wv ρ S Ql Q=wl ρ S Ql:=rfl
def Ik:a8 (ak (.non)) wl wv ρ S Ql Q=wv ρ S Q:=rfl
def OM:a8 (ak (.bl t)) wl wv ρ S Ql Q=wv ρ S Q:=rfl
def Il:a8 (ak (.int i)) wl wv ρ S Ql Q=wv ρ S Q:=rfl
def Im:a8 (ak (.str s)) wl wv ρ S Ql Q=wv ρ S Q:=rfl
def Io:a8 (ak (.var m)) wl wv ρ S Ql Q=wv ρ S Q:=rfl
def Ip{x:Str}:a8 (ak (.txc m x)) wl wv ρ S Ql Q=wv ρ S Q:=rfl
def Iq:a8 (ak (.con m i)) wl wv ρ S Ql Q=wv ρ S Q:=rfl
def Ir:a8 (ak (.tup es)) wl wv ρ S Ql Q=wv ρ S Q:=rfl
def Eo:a8 (ak (.dic0)) wl wv ρ S Ql Q=wv ρ S Q:=rfl
def Ep:a8 (ak (.dic1 i j)) wl wv ρ S Ql Q=wv ρ S Q:=rfl
def Iu:a8 (ak (.bin o a b)) wl wv ρ S Ql Q=wv ρ S Q:=rfl
def Iv:a8 (ak (.neg a)) wl wv ρ S Ql Q=wv ρ S Q:=rfl
def Iw:a8 (ak (.cmp c a b)) wl wv ρ S Ql Q=wv ρ S Q:=rfl
def Ix:a8 (ak (.chn c p a b e)) wl wv ρ S Ql Q=wv ρ S Q:=rfl
def Iy:a8 (ak (.and a b)) wl wv ρ S Ql Q=wv ρ S Q:=rfl
def OO:a8 (ak (.or a b)) wl wv ρ S Ql Q=wv ρ S Q:=rfl
def Iz:a8 (ak (.not a)) wl wv ρ S Ql Q=wv ρ S Q:=rfl
def IA:a8 (ak (.ite e a b)) wl wv ρ S Ql Q=wv ρ S Q:=rfl
def OP:a8 (ak (.ix a b)) wl wv ρ S Ql Q=wv ρ S Q:=rfl
def OQ:a8 (ak (.sl a oa ob)) wl wv ρ S Ql Q=wv ρ S Q:=rfl
def Er:a8 (ak (.call f es)) wl wv ρ S Ql Q=wv ρ S Q:=rfl
def Es:a8 (ak (.inst ty a)) wl wv ρ S Ql Q=wv ρ S Q:=rfl
def IB:a8 (ak (.len a)) wl wv ρ S Ql Q=wv ρ S Q:=rfl
def IC:a8 (ak (.all a)) wl wv ρ S Ql Q=wv ρ S Q:=rfl
def AM:a8 (ak (.tupOf a)) wl wv ρ S Ql Q=wv ρ S Q:=rfl
def Et:a8 (ak (.strI a)) wl wv ρ S Ql Q=wv ρ S Q:=rfl
def Eu:a8 (ak (.lenS a)) wl wv ρ S Ql Q=wv ρ S Q:=rfl
def Ew:a8 (ak (.intX a)) wl wv ρ S Ql Q=wv ρ S Q:=rfl
def IE:a8 (ak (.rev a)) wl wv ρ S Ql Q=wv ρ S Q:=rfl
def OT:a8 (ak (.mx a b)) wl wv ρ S Ql Q=wv ρ S Q:=rfl
def OU:a8 (ak (.mn a b)) wl wv ρ S Ql Q=wv ρ S Q:=rfl
def IG:a8 (ak (.rep a)) wl wv ρ S Ql Q=wv ρ S Q:=rfl
def IH:a8 (ak (.app a b)) wl wv ρ S Ql Q=wv ρ S Q:=rfl
def AN:a8 (ak (.popAt a b)) wl wv ρ S Ql Q=wv ρ S Q:=rfl
def II:a8 (ak (.cnt a b)) wl wv ρ S Ql Q=wv ρ S Q:=rfl
def Ex:a8 (ak (.join a b)) wl wv ρ S Ql Q=wv ρ S Q:=rfl
def IJ:a8 (ak (.spl a b)) wl wv ρ S Ql Q=wv ρ S Q:=rfl
def aa{u:Type}{z:Option (u × Sto)}{r:u}{v:Sto}{K:u->Sto->Prop}(e:z=aD (r,v))(q:K r v):Ok z K:=⟨r,v,e,q⟩
def OV(H:A)(q:t=bx->u=bx->B):wIf t A (wIf u A B):=by
 cases t with
 |true=>exact H
 |false=>cases u with
  |true=>exact H
  |false=>exact q rfl rfl
def bD(H:t=br->A)(q:t=bx->B):wIf t A B:=by
 cases t with
 |true=>exact H rfl
 |false=>exact q rfl
end
end Ev
local macro_rules|`(tactic|k_go)=>do
 let f s:Lean.MacroM (Lean.TSyntax ``Lean.Parser.Tactic.simpLemma):=`(Lean.Parser.Tactic.simpLemma|↓$(Lean.mkIdent (`Ev++s.toName)):ident)
 let a ← ("M9 RB Na Nb Nd Nc Nf Ng Nh Ht Hu Ni Nj Nk Nl Nm RC Nn Np RD Hv Hw Hx Hy Hz HA Nq Nr Eh AH Ei Nt HB HC HD Nu RE RF Nv HE Nw Ej Nx HF Ny Tr Ts Nz AI Ek NA HG NB RG RH NC ND RI NF NG NH RJ NI RK NJ HH HI NK NL RL NM NN Tt Tu Tv Tw NP HJ RM NQ NR NS NU NV NT NX RN RO RP RQ NY NZ N0 HK HL HM HN HP RT RU N1 N3 RV N4 N5 N6 RX RY N7 N8 RZ R5 N9 Oa Oc Od R6 R7 R8 R9 Sc Se Sf Sg Sh HQ HR HS HU El HV HW HX HY HZ Oe Og Oh Oi Oj Ol Om Oo Op Oq Ot Ou Ov Ow Ox Oy Oz AJ Em AK Si Sj Sk Sl Sn So OA OB OC Ia Ib OD OE OG OH OI OJ Ic Ie Ig Ih Tx OK OL Ii wW AL Ij En Ik OM Il Im Io Iq Ip Ir Eo Ep Iu Iv Iw Ix Iy OO Iz IA OP OQ Er Es IB IC AM Et Eu Ew IE OT OU IG IH AN II Ex IJ Mz MA".splitOn).toArray.mapM f
 `(tactic|dsimp only[$a,*])
local macro_rules |`(tactic|k_is)=>`(tactic|((with_reducible first |refine Ev.rF ?_ |refine Ev.M7 ?_ |refine Ev.wcl_ok ?_ |skip);(try dsimp only[List.set_cons_zero,List.set_cons_succ]);(try k_go);(repeat ((with_reducible first |refine Ev.Eg ?_ |refine Ev.Hs ?_);(try k_go)))))
namespace Lw
open PySem Ev
variable {p:Nat} {S:Sto} {k:Nat} {Q:D->Sto->Prop}
def Ey{t:Dw.D}{d:D}(h:TD p S t d)(q:Q (.bl (Dw.isW t)) S):Ok (evC af (k+1) 0 [d] S) Q:=by
 refine aW (d:=iJ) (ρ:=[aD d]) rfl rfl ?_;dsimp only[iJ,nq];k_is;refine aa (hJ h) ?_;k_is;cases t <;> first |exact q |(k_is;rw[hJ h,ag];exact q)
def cb{t:Dw.D}{d:D}{a b:Int}(h:TD p S t d)(q:Q (.bl (Dw.ai t a b)) S):Ok (evC af (k+2) 1 [d,.int a,.int b] S) Q:=by
 refine aW (d:=gr) (ρ:=[aD d,aD (.int a),aD (.int b)]) rfl rfl ?_;dsimp only[gr,kC];k_is;refine⟨rfl,Ey h ?_⟩;k_is;cases t with
 |int i=>
  obtain rfl:=h.int;dsimp only[Dw.isW];k_is;dsimp only[Dw.ai] at q;cases c:decide (a<=i) with
  |true=>rw[c] at q;exact q
  |false=>rw[c] at q;exact q
 |_=>exact q
def hV{t:Dw.D}{d:D}(h:TD p S t d)(q:Q (.bl (Dw.ai t 0 9999)) S):Ok (evC af (k+3) 2 [d] S) Q:=by
 refine aW (d:=gu) (ρ:=[aD d]) rfl rfl ?_;dsimp only[gu,kD];k_is;exact⟨rfl,cb h q⟩
def bQ{t:Dw.D}{d:D}{a b:Int}(h:TD p S t d)(q:Q (.bl (Dw.isT t a b)) S):Ok (evC af (k+1) 3 [d,.int a,.int b] S) Q:=by
 refine aW (d:=iK) (ρ:=[aD d,aD (.int a),aD (.int b)]) rfl rfl ?_;dsimp only[iK,nu];k_is;refine aa (hJ h) ?_;k_is;cases t with
 |tup T=>
  obtain⟨f,rfl,hs⟩:=h.tup;rw[show gf Ty.tuple (tyT (Dw.D.tup T))=br from rfl];k_is;refine aa (bv hs) ?_;k_is;dsimp only[Dw.isT] at q;cases c:decide (a<=(T.length:Int)) with
  |true=>rw[c] at q;exact q
  |false=>rw[c] at q;exact q
 |_=>exact q
def OW{t:Dw.D}{d:D}{n:Nat}(h:TD p S t d)(f:n<=1000)(q:∀b,Sm S b->Q (.bl (Dw.bL n t)) b):Ok (evC af (k+3) 8 [d,.int n] S) Q:=by
 refine aW (d:=fF) (ρ:=[aD d,aD (.int n)]) rfl rfl ?_;dsimp only[fF,jw];k_is;refine⟨rfl,bQ h ?_⟩;k_is;cases t with
 |tup c=>
  obtain⟨g,rfl,hs⟩:=h.tup;rw[Dw.qr];by_cases H:c.length=n
  ·rw[decide_eq_true H];k_is;refine cZ hs (by lia) (λe=>Dw.ai e 1 99) (λi t d b _ sm T=>⟨_,rfl,?_⟩) λb sm=>?_
   ·k_is;exact⟨rfl,cb T ⟨rfl,Sm.refl _⟩⟩
   ·rw[bS,ag];have:=q b sm;simp only[Dw.bL,decide_eq_true H,ZR] at this;exact this
  ·rw[decide_eq_false H];k_is;have:=q S (Sm.refl S);simp only[Dw.bL,decide_eq_false H,ZL] at this;exact this
 |_=>exact q S (Sm.refl S)
def OX{rows:List Dw.D}{d:D}(h:TD p S (.tup rows) d)(hl:rows.length<=4)(J:rows.all (Dw.bL rows.length)=br)(q:∀u,Sm S u->Q (.bl ((Dw.nZ rows rows.length).all id)) u):Ok (evC af (k+1) 9 [d] S) Q:=by
 obtain⟨ds,rfl,hs⟩:=h.tup;refine aW (d:=bu) (ρ:=[aD (.tup ds),aT]) rfl rfl ?_;dsimp only[bu,bU];k_is;refine aa (bv hs) ?_;refine⟨_,rfl,by lia,?_⟩;k_is;have z:(S++[Ob.lst ((Zl rows.length).map λj=>D.int (Int.ofNat j))])[S.length]?=aD (.lst ((Zl rows.length).map λj=>D.int (Int.ofNat j))):=by rw[Zn (Zc _),Z7];rfl
 have I:∀u,Sm (S++[Ob.lst ((Zl rows.length).map λj=>D.int (Int.ofNat j))]) u->(aA u S.length).isSome=br:=λu sm=>by simp only[aA,sm _ _ z];rfl
 refine⟨I _ (Sm.refl _),?_⟩;refine(wH z (by lia) (λa=>(Zl rows.length).flatMap λb=>(Zl rows.length).flatMap λc=>[.bl (Dw.fU rows a b c)]) λa S1 ha g=>⟨_,rfl,?_⟩).mono λes S2 ⟨ee,sm⟩=>?_
 ·k_is;refine⟨I _ g,?_⟩;refine wH (g _ _ z) (by lia) _ λb S2 Y o=>⟨_,rfl,?_⟩;k_is;refine⟨I _ (g.trans o),?_⟩;refine wH (o _ _ (g _ _ z)) (by lia) _ λc S3 Z M=>⟨_,rfl,?_⟩;k_is;have H:TDs p S3 rows ds:=hs.keep (((Sm.app S _).trans g).trans (o.trans M)).kp;obtain⟨ra,xab,U,e2,e3,_⟩:=Dw.fj J ha Y;obtain⟨ra',xac,E,C,B,_⟩:=Dw.fj J ha Z;obtain⟨rc,xcb,f1,f2,f3,_⟩:=Dw.fj J Z Y;rw[U] at E;cases E;refine aO H U λX v=>?_;obtain⟨da,rfl,L⟩:=v.tup;refine aO L e2 λd2 T=>?_;obtain rfl:=T.int;refine aO H U λX v=>?_;obtain⟨da',rfl,y⟩:=v.tup;refine aO y C λd2 T=>?_;obtain rfl:=T.int;refine aO H f1 λX v=>?_;obtain⟨dc,rfl,O⟩:=v.tup;refine aO O f2 λd2 T=>?_;obtain rfl:=T.int;k_is;refine⟨?_,Sm.refl _⟩;rw[<-e3,<-B,<-f3];rfl
 ·subst ee
  have e:((Zl rows.length).flatMap λa=>(Zl rows.length).flatMap λb=>(Zl rows.length).flatMap λc=>[D.bl (Dw.fU rows a b c)])=(Dw.nZ rows rows.length).map λb=>D.bl b:=by
   have one:∀ (l:List Nat) (f:Nat->D),(l.flatMap λc=>[f c])=l.map f:=λl f=>by
    induction l with
    |nil=>rfl
    |cons a l ih=>rw[Xb,ih];rfl
   unfold Dw.nZ;simp only[List.map_flatMap,Yd,Function.comp_def,one]
  rw[e,bS,ag];refine⟨?_,?_⟩
  ·rw[Za]
   have:=Dw.qt (n:=rows.length) (m:=16) (f:=λa=>(Zl rows.length).flatMap λb=>(Zl rows.length).map λc=>Dw.fU rows a b c) λa _=>by
    have:=Dw.qt (n:=rows.length) (m:=4) (f:=λb=>(Zl rows.length).map λc=>Dw.fU rows a b c) λb _=>by rw[Za,Z2];exact hl
    lia
   unfold Dw.nZ
   lia
  ·exact q _ ((Sm.app S _).trans sm)
def IK{t:Dw.D}{d:D}(h:TD p S t d)(q:∀c,Sm S c->Q (.bl (Dw.aR t)) c):Ok (evC af (k+4) 7 [d] S) Q:=by
 refine aW (d:=iL) (ρ:=[aD d]) rfl rfl ?_;dsimp only[iL,nv];k_is;refine⟨rfl,bQ h ?_⟩;k_is;cases t with
 |tup T=>
  obtain⟨ds,rfl,hs⟩:=h.tup;rw[Dw.K0];by_cases H:1<=T.length/\T.length<=4
  ·rw[decide_eq_true H.1,decide_eq_true H.2];k_is;refine cZ hs (by lia) (Dw.bL T.length) (λi t d c _ sm o=>⟨_,rfl,?_⟩) λc sm=>?_
   ·k_is;have g:TDs p c T ds:=hs.keep sm.kp;refine aa (bv g) ?_;exact⟨rfl,OW o (by lia) λj b=>⟨rfl,b⟩⟩
   ·rw[bS,ag];k_is;refine bD (λf=>?_) λf=>?_
    ·refine⟨rfl,OX (h.keep sm.kp) H.2 f λj b=>?_⟩;have:=q j (sm.trans b);simp only[Dw.aR,decide_eq_true H.1,decide_eq_true H.2,f,ZR] at this;exact this
    ·have:=q c sm;simp only[Dw.aR,decide_eq_true H.1,decide_eq_true H.2,f,ZR,ZL] at this;exact this
  ·have e:(decide (1<=T.length) && decide (T.length<=4))=bx:=by simpa using H
   rw[e];have:=q S (Sm.refl S);simp only[Dw.aR,e,ZL] at this;exact this
 |_=>exact q S (Sm.refl S)
def wX{t:Dw.D}{d:D}(h:TD p S t d)(q:Q (.bl (Dw.av t)) S):Ok (evC af (k+4) 11 [d] S) Q:=by
 refine aW (d:=fG) (ρ:=[aD d]) rfl rfl ?_;dsimp only[fG,jx];k_is;refine⟨rfl,bQ h ?_⟩;k_is;cases t with
 |tup v=>
  obtain⟨y,rfl,hs⟩:=h.tup;rw[Dw.BX];by_cases f:v.length=2
  ·obtain⟨b,e,rfl⟩:=Dw.qv f;rw[decide_eq_true f];k_is;refine aO (i:=0) hs rfl λu g=>⟨rfl,hV g ?_⟩;k_is;simp only[Dw.av] at q;refine bD (λH=>?_) λH=>?_
   ·rw[H] at q;refine aO (i:=1) hs rfl λo T=>⟨rfl,hV T ?_⟩;k_is;refine bD (λc=>?_) λc=>?_
    ·rw[c] at q;refine aO (i:=0) hs rfl λu g=>aO (i:=1) hs rfl λo T=>?_;obtain⟨i,rfl,_⟩:=Dw.aj H;obtain⟨j,rfl,_⟩:=Dw.aj c;obtain rfl:=g.int;obtain rfl:=T.int;exact q
    ·rw[c] at q;exact q
   ·rw[H] at q;exact q
  ·rw[decide_eq_false f];rw[Dw.mq f] at q;exact q
 |_=>exact q
def Ez{t:Dw.D}{d:D}(h:TD p S t d)(q:∀c,Sm S c->Q (.bl (Dw.aM t)) c):Ok (evC af (k+5) 10 [d] S) Q:=by
 refine aW (d:=gz) (ρ:=[aD d]) rfl rfl ?_;dsimp only[gz,kG];k_is;refine⟨rfl,bQ h ?_⟩;k_is;cases t with
 |tup T=>
  obtain⟨ds,rfl,hs⟩:=h.tup;rw[Dw.K1];by_cases f:T.length<=4
  ·rw[decide_eq_true f];k_is;refine cZ hs (by lia) Dw.av (λi t d c _ sm I=>⟨_,rfl,?_⟩) λc sm=>?_
   ·k_is;exact⟨rfl,wX I ⟨rfl,Sm.refl _⟩⟩
   ·rw[bS,ag];k_is;have H:TDs p c T ds:=hs.keep sm.kp;cases j:T.all Dw.av with
    |false=>
     k_is;have:=q c sm;simp only[Dw.aM,decide_eq_true f,j,ZR,ZL] at this;exact this
    |true=>
     k_is;refine aa (bv H) ?_;k_is;refine⟨⟨by decide,by simp only[lim,bAE,decide_eq_true_eq];lia⟩,?_⟩;have en:((T.length:Int) - 1).toNat=T.length - 1:=by lia
     rw[en];refine G8 (by lia) (λi=>decide (Dw.dU T i < Dw.eP T (i+1))) (λi v U b=>⟨_,rfl,?_⟩) λv b=>?_
     ·k_is;have g:TDs p v T ds:=H.keep b.kp;obtain⟨b1,e1,E,J,Y⟩:=Dw.xN (i:=i+1) j (by lia);obtain⟨b0,e0,z,O,B⟩:=Dw.xN (i:=i) j (by lia);have M:(1:Int)+i=((i+1:Nat):Int):=by lia
      have z2:(1:Int)+i - 1=((i:Nat):Int):=by lia
      rw[M];refine aO g E λC u=>?_;obtain⟨X,rfl,y⟩:=u.tup;refine aO (i:=0) y rfl λL o=>?_;obtain rfl:=o.int;have Z:((i+1:Nat):Int) - 1=((i:Nat):Int):=by lia
      rw[Z];refine aO g z λC u=>?_;obtain⟨X,rfl,y⟩:=u.tup;refine aO (i:=1) y rfl λL o=>?_;obtain rfl:=o.int;k_is;rw[J,B];exact⟨rfl,Sm.refl _⟩
     ·rw[bS,ag];have:=q v (sm.trans b);simp only[Dw.aM,decide_eq_true f,j,ZR] at this;have e:(Dw.jO T).all id=(Zl (T.length - 1)).all λi=>decide (Dw.dU T i < Dw.eP T (i+1)):=by unfold Dw.jO;rw[ZW];rfl
      rw[<-e];exact this
  ·rw[decide_eq_false f];k_is;have:=q S (Sm.refl S);simp only[Dw.aM,decide_eq_false f,ZL] at this;exact this
 |_=>exact q S (Sm.refl S)
def uw{a b c e:Dw.D}{ds:List D}(h:TDs p S [a,b,c,e] ds):∃w x y z,ds=[w,x,y,z]/\TD p S a w/\TD p S b x/\TD p S c y/\TD p S e z:=by
 obtain⟨w,_,rfl,f,j⟩:=h.cons;obtain⟨x,_,rfl,u,g⟩:=j.cons;obtain⟨y,_,rfl,q,v⟩:=g.cons;obtain⟨z,_,rfl,H,o⟩:=v.cons;obtain rfl:=o.nil;exact⟨w,x,y,z,rfl,f,u,q,H⟩
def AO{t:Dw.D}{d:D}(h:TD p S t d)(q:∀o,Sm S o->Q (.bl (Dw.ba t)) o):Ok (evC af (k+6) 6 [d] S) Q:=by
 refine aW (d:=gy) (ρ:=[aD d,aT,aT,aT,aT]) rfl rfl ?_;dsimp only[gy,kF];k_is;refine⟨rfl,bQ h ?_⟩;k_is;cases t with
 |tup T=>
  obtain⟨M,rfl,hs⟩:=h.tup;rw[Dw.BZ];by_cases H:T.length=4
  ·obtain⟨a,b,c,e,rfl⟩:=Dw.kY H;obtain⟨w,x,y,z,rfl,B,L,v,u⟩:=uw hs;rw[decide_eq_true H];k_is;refine⟨rfl,cb B ?_⟩;rw[Dw.xS] at q;k_is;cases j:Dw.ai a 0 8 with
   |false=>rw[j] at q;exact q S (Sm.refl S)
   |true=>
    rw[j] at q;k_is;refine⟨rfl,cb L ?_⟩;k_is;cases E:Dw.ai b 0 60 with
    |false=>rw[E] at q;exact q S (Sm.refl S)
    |true=>
     rw[E] at q;k_is;refine⟨rfl,IK v λI sm=>?_⟩;k_is;cases g:Dw.aR c with
     |false=>rw[g] at q;exact q I sm
     |true=>
      rw[g] at q;k_is;exact⟨rfl,Ez (u.keep sm.kp) λJ f=>q J (sm.trans f)⟩
  ·rw[decide_eq_false H];k_is;have:=q S (Sm.refl S)
   have e:Dw.ba (.tup T)=bx:=by
    unfold Dw.ba;split
    ·rename_i C;cases C;exact absurd rfl H
    ·rfl
   rw[e] at this;exact this
 |_=>exact q S (Sm.refl S)
def yW{r s h' t:Dw.D}{rows:List Dw.D}{m d:D}(b:TD p S (.tup [r,s,.tup rows,h']) m)(h:TD p S t d)(q:Q (.bl (Dw.ai t 0 ((rows.length:Int) - 1))) S):Ok (evC af (k+3) 12 [m,d] S) Q:=by
 obtain⟨o,rfl,hs⟩:=b.tup;obtain⟨w,x,y,z,rfl,g,j,c,f⟩:=uw hs;obtain⟨rs,rfl,H⟩:=c.tup;refine aW (d:=j8) (ρ:=[aD _,aD d]) rfl rfl ?_;dsimp only[j8,pF];k_is;refine aO (i:=2) hs rfl λu T=>?_;obtain⟨rs,rfl,H⟩:=T.tup;refine aa (bv H) ?_;k_is;exact⟨rfl,cb h q⟩
def EA{r s h' t:Dw.D}{rows:List Dw.D}{m d:D}(c:TD p S (.tup [r,s,.tup rows,h']) m)(h:TD p S t d)(q:Q (.bl (Dw.bA rows.length t)) S):Ok (evC af (k+4) 14 [m,d] S) Q:=by
 refine aW (d:=iM) (ρ:=[aD m,aD d]) rfl rfl ?_;dsimp only[iM,nw];k_is;refine aa (Ra h) ?_;k_is;cases t with
 |non=>exact q
 |tup T=>
  obtain⟨o,rfl,hs⟩:=h.tup;dsimp only[wJ];k_is;refine⟨rfl,bQ h ?_⟩;k_is;rw[Dw.BX];by_cases H:T.length=2
  ·obtain⟨b,e,rfl⟩:=Dw.qv H;rw[decide_eq_true H];k_is;refine aO (i:=0) hs rfl λu f=>⟨rfl,yW c f ?_⟩;simp only[Dw.bA] at q;k_is;cases E:Dw.ai b 0 ((rows.length:Int) - 1) with
   |false=>rw[E] at q;exact q
   |true=>
    rw[E] at q;k_is;exact aO (i:=1) hs rfl λj g=>⟨rfl,hV g q⟩
  ·rw[decide_eq_false H];rw[Dw.sD H] at q;exact q
 |_=>exact⟨rfl,bQ h (by k_is;exact q)⟩
def AQ{t:Dw.D}{d:D}{n:Nat}(h:TD p S t d)(v:n<=1000)(q:∀b,Sm S b->Q (.bl (Dw.bN n t)) b):Ok (evC af (k+3) 4 [d,.int n] S) Q:=by
 refine aW (d:=fE) (ρ:=[aD d,aD (.int n)]) rfl rfl ?_;dsimp only[fE,jv];k_is;refine⟨rfl,bQ h ?_⟩;k_is;cases t with
 |tup T=>
  obtain⟨y,rfl,hs⟩:=h.tup;rw[Dw.B6];by_cases f:T.length<=n
  ·rw[decide_eq_true f];k_is;refine cZ hs (by lia) (λe=>Dw.ai e 0 ((n:Int) - 1)) (λi t d b _ sm g=>⟨_,rfl,?_⟩) λb sm=>?_
   ·k_is;exact⟨rfl,cb g ⟨rfl,Sm.refl _⟩⟩
   ·rw[bS,ag];k_is;cases H:T.all (λe=>Dw.ai e 0 ((n:Int) - 1)) with
    |false=>
     k_is;have:=q b sm;simp only[Dw.bN,H,ZL,ZP] at this;exact this
    |true=>
     k_is;have E:=jC H hs;subst E;refine cZ (hs.keep sm.kp) (by lia) (λt=>decide (((Wi (Dw.B4 t) (Dw.aH T):Nat):Int)=1)) (λi t d o u c g=>⟨_,rfl,?_⟩) λo c=>?_
     ·obtain⟨j,rfl,_⟩:=Dw.aj (Ze.mp H t (Zy u));obtain rfl:=g.int;k_is;refine⟨rfl,?_⟩;rw[DW,ag];k_is;exact⟨rfl,Sm.refl _⟩
     ·rw[bS,ag];have:=q o (sm.trans c)
      have e:(T.all λt=>decide (((Wi (Dw.B4 t) (Dw.aH T):Nat):Int)=1))=Dw.gM (Dw.aH T):=by
       rw[<-Dw.sB,ZW]
       conv=>rhs;unfold Dw.aH
       rw[ZW];rfl
      simp only[Dw.bN,H,decide_eq_true f,ZR] at this;rw[e];exact this
  ·rw[decide_eq_false f];k_is;have:=q S (Sm.refl S);simp only[Dw.bN,decide_eq_false f,ZL] at this;exact this
 |_=>dsimp only[Dw.isT];k_is;exact q S (Sm.refl S)
def Sq{a b c e f g i:Dw.D}{ds:List D}(h:TDs p S [a,b,c,e,f,g,i] ds):∃t u v w x y z,ds=[t,u,v,w,x,y,z]/\TD p S a t/\TD p S b u/\TD p S c v/\TD p S e w/\TD p S f x/\TD p S g y/\TD p S i z:=by
 obtain⟨t,_,rfl,E,o⟩:=h.cons;obtain⟨u,_,rfl,T,j⟩:=o.cons;obtain⟨v,_,rfl,C,q⟩:=j.cons;obtain⟨w,_,rfl,B,M⟩:=q.cons;obtain⟨x,_,rfl,L,O⟩:=M.cons;obtain⟨y,_,rfl,I,U⟩:=O.cons;obtain⟨z,_,rfl,H,J⟩:=U.cons;obtain rfl:=J.nil;exact⟨t,u,v,w,x,y,z,rfl,E,T,C,B,L,I,H⟩
def AR{r s:Int}{h' t:Dw.D}{rows:List Dw.D}{m d:D}(v:TD p S (.tup [.int r,.int s,.tup rows,h']) m)(h:TD p S t d)(q:∀b,Sm S b->Q (.bl (Dw.aN rows.length r s t)) b):Ok (evC af (k+4) 16 [m,d] S) Q:=by
 obtain⟨ms,rfl,c⟩:=v.tup;refine aW (d:=gA) (ρ:=[aD (.tup ms),aD d,aT,aT,aT,aT,aT,aT,aT]) rfl rfl ?_;dsimp only[gA,kH];k_is;refine⟨rfl,bQ h ?_⟩;k_is;cases t with
 |tup ts=>
  obtain⟨ds,rfl,hs⟩:=h.tup;rw[Dw.K4];by_cases f:ts.length=7
  ·obtain⟨U,E,M,o,j,tw,tg,rfl⟩:=Dw.sC f;obtain⟨dk,Y,df,dl,du,dw,dg,rfl,h1,L,z,y,h5,h6,X⟩:=Sq hs;rw[decide_eq_true f];k_is;have ht:TDs p S [E,M,o,j] [Y,df,dl,du]:=ac L (ac z (ac y (ac h5 aE)));refine cZ ht (by simp) (λe=>Dw.ai e 0 9999) (λi t d b _ sm td=>⟨_,rfl,?_⟩) λb sm=>?_
   ·k_is;exact⟨rfl,hV td ⟨rfl,Sm.refl _⟩⟩
   ·rw[bS,ag];k_is;simp only[Dw.aN] at q;cases g:[E,M,o,j].all (λe=>Dw.ai e 0 9999) with
    |false=>k_is;rw[g] at q;exact q b sm
    |true=>
     k_is;rw[g] at q;have H:=g;simp only[ZZ,Xm,Yi,bAE] at H;obtain⟨O,rfl,_⟩:=Dw.aj H.1;obtain⟨J,rfl,_⟩:=Dw.aj H.2.1;obtain⟨Z,rfl,_⟩:=Dw.aj H.2.2.1;obtain rfl:=L.int;obtain rfl:=z.int;obtain rfl:=y.int;refine aO (i:=1) (c.keep sm.kp) rfl λd1 T=>?_;obtain rfl:=T.int;k_is;simp only[Dw.leD,Wr,ZR] at q;cases C:decide (O+s<=J) with
     |false=>k_is;rw[C] at q;exact q b sm
     |true=>
      k_is;rw[C] at q;cases B:decide (J<=Z) with
      |false=>k_is;rw[B] at q;exact q b sm
      |true=>
       k_is;rw[B] at q;refine⟨rfl,yW (v.keep sm.kp) (h1.keep sm.kp) ?_⟩;k_is;cases u:Dw.ai U 0 ((rows.length:Int) - 1) with
       |false=>rw[u] at q;exact q b sm
       |true=>
        rw[u] at q;k_is;refine⟨rfl,cb (h6.keep sm.kp) ?_⟩;k_is;cases I:Dw.ai tw 0 99 with
        |false=>rw[I] at q;exact q b sm
        |true=>
         rw[I] at q;k_is;refine aO (i:=0) (c.keep sm.kp) rfl λd1 T=>?_;obtain rfl:=T.int;exact⟨rfl,cb (X.keep sm.kp) (q b sm)⟩
  ·rw[decide_eq_false f];k_is;have:=q S (Sm.refl S);rw[Dw.oM f] at this;exact this
 |_=>dsimp only[Dw.isT];k_is;exact q S (Sm.refl S)
def wY{r s:Int}{h' t:Dw.D}{rows:List Dw.D}{m d:D}(g:TD p S (.tup [.int r,.int s,.tup rows,h']) m)(h:TD p S t d)(q:∀b,Sm S b->Q (.bl (Dw.aI rows.length r s t)) b):Ok (evC af (k+5) 15 [m,d] S) Q:=by
 refine aW (d:=eI) (ρ:=[aD m,aD d]) rfl rfl ?_;dsimp only[eI,io];k_is;refine⟨rfl,bQ h ?_⟩;k_is;cases t with
 |tup T=>
  obtain⟨o,rfl,hs⟩:=h.tup;have E:=Dw.B6 T 7;rw[show((7:Nat):Int)=7 from rfl] at E;rw[E];by_cases H:T.length<=7
  ·rw[decide_eq_true H];k_is;refine cZ hs (by lia) (Dw.aN rows.length r s) (λi t d b _ sm f=>⟨_,rfl,?_⟩) λb sm=>?_
   ·k_is;exact⟨rfl,AR (g.keep sm.kp) f λj c=>⟨rfl,c⟩⟩
   ·rw[bS,ag];have:=q b sm;simp only[Dw.aI,decide_eq_true H,ZR] at this;exact this
  ·rw[decide_eq_false H];have:=q S (Sm.refl S);simp only[Dw.aI,decide_eq_false H,ZL] at this;exact this
 |_=>dsimp only[Dw.isT];k_is;exact q S (Sm.refl S)
def EB{n:Nat}{r s:Int}{t:Dw.D}{gs:List Dw.D}{g d:D}(I:TD p S (.tup gs) g)(C:gs.all (Dw.aN n r s)=br)(hl:gs.length<=7)(h:TD p S t d)(q:∀o,Sm S o->Q (.bl (Dw.bH gs t)) o):Ok (evC af (k+4) 17 [g,d] S) Q:=by
 obtain⟨L,rfl,hs⟩:=I.tup;refine aW (d:=gB) (ρ:=[aD (.tup L),aD d]) rfl rfl ?_;dsimp only[gB,kI];k_is;refine aa (bv hs) ?_;refine⟨rfl,AQ h (by lia) λB sm=>?_⟩;k_is;cases H:Dw.bN gs.length t with
 |false=>
  k_is;have:=q B sm
  have e:Dw.bH gs t=bx:=by
   unfold Dw.bH;split
   ·rw[H];rfl
   ·rfl
  rw[e] at this;exact this
 |true=>
  k_is;cases t with
  |tup fs=>
   obtain⟨es,rfl,y⟩:=h.tup
   have v:fs.all (λe=>Dw.ai e 0 ((gs.length:Int) - 1))=br:=by
    simp only[Dw.bN,bAE] at H;exact H.2.1
   have E:=jC v y;subst E;refine G9 (hs.keep sm.kp) (by lia) (λi=>decide (Dw.dr gs i=0) || decide (((i:Nat):Int) ∈ Dw.aH fs)) (λi t d j z b T=>⟨_,iS (Zx (by decide) (Zc 4)) (Zx (by decide) (Zc 4)),?_⟩) λj b=>?_
   ·obtain⟨Y,U,O,M,a5,Z,g,rfl,f,_⟩:=Dw.qB C z;obtain⟨xs,rfl,J⟩:=T.tup;k_is;refine aO (i:=6) J rfl λX u=>?_;obtain rfl:=u.int;k_is;rw[f];cases c:decide (g=0) with
    |true=>k_is;exact⟨rfl,Sm.refl _⟩
    |false=>
     k_is;simp only[ax,rg,ag];exact⟨by simp,Sm.refl _⟩
   ·rw[bS,ag];have:=q j (sm.trans b);simp only[Dw.bH,H,ZR] at this;have e:(Dw.zL gs (Dw.aH fs)).all id=(Zl gs.length).all λi=>decide (Dw.dr gs i=0) || decide (((i:Nat):Int) ∈ Dw.aH fs):=by unfold Dw.zL;rw[ZW];rfl
    rw[<-e];exact this
  |_=>simp[Dw.bN] at H
def EC{t:Dw.D}{d:D}(h:TD p S t d)(q:∀v,Sm S v->Q (.bl (Dw.cR t)) v):Ok (evC af (k+7) 13 [d] S) Q:=by
 refine aW (d:=nz) (ρ:=[aD d,aT,aT,aT,aT]) rfl rfl ?_;dsimp only[nz,uj];k_is;refine⟨rfl,bQ h ?_⟩;k_is;cases t with
 |tup I=>
  obtain⟨Z,rfl,hs⟩:=h.tup;rw[Dw.BZ];by_cases H:I.length=4
  ·obtain⟨tm,L,T,O,rfl⟩:=Dw.kY H;obtain⟨Y,U,dg,X,rfl,g,M,o,B⟩:=uw hs;rw[decide_eq_true H];k_is;rw[Dw.qA] at q;refine⟨rfl,AO g λu b=>?_⟩;k_is;cases j:Dw.ba tm with
   |false=>rw[j] at q;exact q u b
   |true=>
    rw[j] at q;obtain⟨r,s,rows,z,rfl,_⟩:=Dw.eT j;k_is;refine⟨rfl,EA (g.keep b.kp) (M.keep b.kp) ?_⟩;k_is;simp only[Dw.dX,Dw.gO,Dw.jP] at q;cases y:Dw.bA rows.length L with
    |false=>rw[y] at q;exact q u b
    |true=>
     rw[y] at q;k_is;refine⟨rfl,wY (g.keep b.kp) (o.keep b.kp) λJ c=>?_⟩;k_is;cases E:Dw.aI rows.length r s T with
     |false=>rw[E] at q;exact q J (b.trans c)
     |true=>
      rw[E] at q;k_is;cases T with
      |tup gs=>
       simp only[Dw.aI,bAE,decide_eq_true_eq] at E;exact⟨rfl,EB (o.keep (b.trans c).kp) E.2 E.1 (B.keep (b.trans c).kp) λC f=>q C ((b.trans c).trans f)⟩
      |_=>simp[Dw.aI] at E
  ·rw[decide_eq_false H];k_is;have:=q S (Sm.refl S);rw[Dw.B5 H] at this;exact this
 |_=>dsimp only[Dw.isT];k_is;exact q S (Sm.refl S)
def pN{t:Dw.D}{d:D}(h:TD p S t d)(q:Q (.bl (Dw.isW t)) S):Ok (evC af (k+1) 28 [d] S) Q:=by
 refine aW (d:=gD) (ρ:=[aD d]) rfl rfl ?_;dsimp only[gD,kK];k_is;refine aa (hJ h) ?_;k_is;cases t <;> first |exact q |(k_is;rw[hJ h,ag];exact q)
def bp{t:Dw.D}{d:D}{a b:Int}(h:TD p S t d)(q:Q (.bl (Dw.ai t a b)) S):Ok (evC af (k+2) 29 [d,.int a,.int b] S) Q:=by
 refine aW (d:=fH) (ρ:=[aD d,aD (.int a),aD (.int b)]) rfl rfl ?_;dsimp only[fH,jz];k_is;refine⟨rfl,pN h ?_⟩;k_is;cases t with
 |int i=>
  obtain rfl:=h.int;dsimp only[Dw.isW];k_is;dsimp only[Dw.ai] at q;cases c:decide (a<=i) with
  |true=>rw[c] at q;exact q
  |false=>rw[c] at q;exact q
 |_=>exact q
def wZ{t:Dw.D}{d:D}(h:TD p S t d)(q:∀S',Sm S S'->Q (.bl (Dw.ba t)) S'):Ok (evC af (k+3) 39 [d] S) Q:=by
 refine aW (d:=cO) (ρ:=[aD d,aT,aT,aT,aT,aT,aT,aT,aT,aT]) rfl rfl ?_;dsimp only[cO,fS];k_is;refine aa (bB h) ?_;k_is;cases t with
 |tup ts=>
  obtain⟨ds,rfl,hs⟩:=h.tup;dsimp only[cn];k_is;refine aa (bv hs) ?_;k_is;by_cases hl:ts.length=4
  ·obtain⟨a,b,c,e,rfl⟩:=Dw.kY hl;obtain⟨w,x,y,z,rfl,h1,h2,h3,h4⟩:=uw hs;rw[show decide ((([a,b,c,e].length:Nat):Int)=4)=br from rfl];k_is;rw[Dw.xS] at q;refine⟨rfl,bp h1 ?_⟩;k_is;cases e1:Dw.ai a 0 8 with
   |false=>rw[e1] at q;exact q S (Sm.refl S)
   |true=>
   rw[e1] at q;k_is;refine⟨rfl,bp h2 ?_⟩;k_is;cases e2:Dw.ai b 0 60 with
   |false=>rw[e2] at q;exact q S (Sm.refl S)
   |true=>
   rw[e2] at q;k_is;refine aa (bB h3) ?_;k_is;simp only[ZR] at q;cases c with
   |tup rows=>
    obtain⟨rs,rfl,hr⟩:=h3.tup;dsimp only[cn];k_is;refine aa (bv hr) ?_;k_is
    have bad:¬ (1<=rows.length/\rows.length<=4)->Q (D.bl bx) S:=λE=>by
     have:=q S (Sm.refl S);rw[Dw.qx E] at this;exact this
    by_cases l1:1<=rows.length
    ·rw[decide_eq_true (show(1:Int)<=rows.length by lia)];k_is;by_cases l4:rows.length<=4
     ·rw[decide_eq_true (show(rows.length:Int)<=4 by lia)];k_is;refine aa (bB h4) ?_;k_is;cases e with
      |tup H=>
       obtain⟨zs,rfl,hz⟩:=h4.tup;dsimp only[cn];k_is;refine aa (bv hz) ?_;k_is;by_cases lh:H.length<=4
       ·rw[decide_eq_false (show ¬ (4:Int) < H.length by lia)];k_is;refine uo hr (by lia) (λi L=>(∀j t,j < i->rows[j]?=aD t->Dw.bL rows.length t=br)/\∃u,L=[aD (D.tup [w,x,D.tup rs,D.tup zs]),aD w,aD x,aD (D.tup rs),aD (D.tup zs),u,aT,aT,aT,aT]) (λi t d L S1 C sm T ⟨iv,u,M⟩=>?_) (λL S1 sm ⟨iv,u,M⟩=>?_) ⟨λj t B=>absurd B (Z5 j),aT,rfl⟩
        ·subst M;refine⟨_,rfl,?_⟩
         have fail:Dw.bL rows.length t=bx->∀S',Sm S1 S'->Q (D.bl bx) S':=λE S' sm'=>by
          have:=q S' (sm.trans sm');rw[Dw.qy C E] at this;exact this
         k_is;refine aa (bB T) ?_;k_is;cases t with
         |tup cs=>
          obtain⟨xs,rfl,hx⟩:=T.tup;dsimp only[cn];k_is;refine aa (bv hx) (aa (bv (hr.keep sm.kp)) ?_);k_is;by_cases lc:cs.length=rows.length
          ·rw[decide_eq_true (show(cs.length:Int)=rows.length by lia)];k_is;refine cZ hx (by lia) (λe=>Dw.ai e 1 99) (λi t d S' _ sm T=>⟨_,rfl,?_⟩) λS2 g=>?_
           ·k_is;exact⟨rfl,bp T ⟨rfl,Sm.refl _⟩⟩
           ·rw[bS,ag];k_is;cases ea:cs.all (λe=>Dw.ai e 1 99) with
            |false=>exact fail (by simp only[Dw.bL,ea,ZP]) S2 g
            |true=>
             refine⟨⟨λj t B I=>?_,_,rfl⟩,g⟩;by_cases U:j < i
             ·exact iv j t U I
             ·obtain rfl:j=i:=by lia
              rw[C] at I;cases I;simp only[Dw.bL,ea,decide_eq_true lc,Yi]
          ·rw[decide_eq_false (show ¬ (cs.length:Int)=rows.length by lia)];exact fail (by simp only[Dw.bL,decide_eq_false lc,ZL]) S1 (Sm.refl _)
         |_=>exact fail rfl S1 (Sm.refl _)
        ·subst M
         have ha:rows.all (Dw.bL rows.length)=br:=Ze.mpr λt C=>by
          obtain⟨j,B,rfl⟩:=Yr C;exact iv j _ B (gEG B)
         k_is;have hr1:=hr.keep sm.kp;refine uo hr1 (by lia) (λi L=>(∀a b c,a < i->b < rows.length->c < rows.length->Dw.fU rows a b c=br)/\∃u v X,L=[aD (D.tup [w,x,D.tup rs,D.tup zs]),aD w,aD x,aD (D.tup rs),aD (D.tup zs),u,v,X,aT,aT]) (λi t d L S2 C g T ⟨iv,u,v,X,M⟩=>?_) (λL S2 g ⟨iv,u,v,X,M⟩=>?_) ⟨λa b c ha=>absurd ha (Z5 a),_,aT,aT,rfl⟩
         ·subst M;refine⟨_,rfl,?_⟩;have hi:i < rows.length:=(Zb.mp C).1;obtain⟨r,e0,f1,f2,_⟩:=Dw.fj ha hi (show 0 < rows.length by lia);rw[C] at f1;cases f1
          have lr:r.length=rows.length:=by
           have:=Ze.mp ha _ (Zy C);simp only[Dw.bL,bAE,decide_eq_true_eq] at this;exact this.1
          obtain⟨xs,rfl,hx⟩:=T.tup;k_is;refine JQ hx (by lia) (λc L=>(∀b c',b < rows.length->c' < c->Dw.fU rows i b c'=br)/\∃v X,L=[aD (D.tup [w,x,D.tup rs,D.tup zs]),aD w,aD x,aD (D.tup rs),aD (D.tup zs),aD (D.tup xs),v,X,aT,aT]) (λc t d L S3 hct f T ⟨J,v,X,M⟩=>?_) (λL S3 f ⟨J,v,X,M⟩=>?_) ⟨λb c _ hc=>absurd hc (Z5 c),v,X,rfl⟩
          ·subst M;have hc:c < rows.length:=by rw[<-lr];exact(Zb.mp hct).1
           obtain⟨r',xac,g1,g2,g3,_⟩:=Dw.fj ha hi hc;rw[C] at g1;cases g1;rw[hct] at g2;cases g2;obtain rfl:=T.int;refine⟨_,iS (by simp) (by simp),?_⟩;k_is;refine D0 (hx.keep f.kp) (by lia) (λb=>!Dw.fU rows i b c) (λb t d S4 hbt o T=>⟨_,iS (by simp) (by simp),?_⟩) λes S4 o ee=>?_
           ·have E:b < rows.length:=by rw[<-lr];exact(Zb.mp hbt).1
            obtain⟨r',xab,g1,g2,g4,_⟩:=Dw.fj ha hi E;rw[C] at g1;cases g1;rw[hbt] at g2;cases g2;obtain rfl:=T.int;obtain⟨rc,xcb,k1,k2,k3,_⟩:=Dw.fj ha hc E;k_is;refine aO (hr1.keep ((g.trans f).trans o).kp) k1 λd1 Z=>?_;obtain⟨dc,rfl,hdc⟩:=Z.tup;refine aO hdc k2 λd2 t2=>?_;obtain rfl:=t2.int;k_is
            have et:decide (xac+xcb < xab) = !Dw.fU rows i b c:=by
             unfold Dw.fU;rw[g4,g3,k3];by_cases hh:xab<=xac+xcb
             ·rw[decide_eq_true hh,decide_eq_false (by lia)];rfl
             ·rw[decide_eq_false hh,decide_eq_true (by lia)];rfl
            rw[et];cases !Dw.fU rows i b c with
            |true=>exact⟨rfl,Sm.refl _⟩
            |false=>exact⟨rfl,Sm.refl _⟩
           ·refine aa Hc ?_;k_is;rw[ee,lr];cases et:(Zl rows.length).all λb=>!!Dw.fU rows i b c with
            |true=>
             k_is;refine⟨⟨λb c' E hc'=>?_,_,_,rfl⟩,(o.trans (Sm.app _ _)).trans (Sm.app _ _)⟩;by_cases hcc:c' < c
             ·exact J b c' E hcc
             ·obtain rfl:c'=c:=by lia
              have:=Ze.mp et b (ZT.mpr E)
              simpa using this
            |false=>
             k_is;obtain⟨b,E,hf⟩:=List.all_eq_false.mp et;have hf':Dw.fU rows i b c=bx:=by simpa using hf
             have:=q (S4++[Ob.lst es]++[Ob.lst []]) ((((sm.trans g).trans f).trans o).trans ((Sm.app _ _).trans (Sm.app _ _)));rw[Dw.qz hi (ZT.mp E) hc hf'] at this;exact this
          ·subst M;k_is;refine⟨⟨λa b c ha' E hc=>?_,_,_,_,rfl⟩,f⟩;by_cases hai:a < i
           ·exact iv a b c hai E hc
           ·obtain rfl:a=i:=by lia
            exact J b c E (by rw[lr];exact hc)
         ·subst M;have hg:Dw.aR (.tup rows)=br:=Dw.zJ l1 l4 ha λa b c h1 h2 h3=>iv a b c h1 h2 h3;rw[hg] at q;simp only[ZR] at q;k_is;have hz2:=hz.keep (sm.trans g).kp;refine uo hz2 (by lia) (λi L=>(∀j t,j < i->H[j]?=aD t->Dw.av t=br)/\(∀j,j+1 < i->Dw.dU H j < Dw.eP H (j+1))/\∃bh u',L=[aD (D.tup [w,x,D.tup rs,D.tup zs]),aD w,aD x,aD (D.tup rs),aD (D.tup zs),u,v,X,aD (.int bh),u']/\(i=0->bh = -1)/\∀j,i=j+1->bh=Dw.dU H j) (λi t d L S3 C f T ⟨iv1,J,bh,u',M,z0,z1⟩=>?_) (λL S3 f ⟨iv1,J,bh,u',M,z0,z1⟩=>?_) ⟨λj t B=>absurd B (Z5 j),λj B=>absurd B (Z5 _),-1,aT,rfl,λ_=>rfl,λj B=>absurd B (X8 j).symm⟩
          ·subst M;refine⟨_,rfl,?_⟩
           have fail:Dw.av t=bx->∀S',Sm S3 S'->Q (D.bl bx) S':=λE S' sm'=>by
            have:=q S' (((sm.trans g).trans f).trans sm');rw[Dw.zK C E] at this;exact this
           k_is;refine aa (bB T) ?_;k_is;cases t with
           |tup cs=>
            obtain⟨xs,rfl,hx⟩:=T.tup;dsimp only[cn];k_is;refine aa (bv hx) ?_;k_is;by_cases lc:cs.length=2
            ·rw[decide_eq_true (show(cs.length:Int)=2 by lia)];obtain⟨tb,te,rfl⟩:=Dw.qv lc;k_is;refine cZ hx (by simp) (λe=>Dw.ai e 0 9999) (λi t d S' _ sm T=>⟨_,rfl,?_⟩) λS4 o=>?_
             ·k_is;exact⟨rfl,bp T ⟨rfl,Sm.refl _⟩⟩
             ·rw[bS,ag];k_is;cases ea:[tb,te].all (λe=>Dw.ai e 0 9999) with
              |false=>
               refine fail ?_ S4 o;have O:(Dw.ai tb 0 9999 && Dw.ai te 0 9999)=bx:=by simpa using ea
               simp only[Dw.av];rw[<-Wh,O,ZL]
              |true=>
               have O:Dw.ai tb 0 9999=br/\Dw.ai te 0 9999=br:=by simpa using ea
               obtain⟨ib,rfl,b0,b1⟩:=Dw.aj O.1;obtain⟨ie,rfl,c0,c1⟩:=Dw.aj O.2;k_is;have Y:=hx.keep o.kp;refine aO (i:=0) Y rfl λd1 Z=>?_;obtain rfl:=Z.int;refine aO (i:=1) Y rfl λd1 Z=>?_;obtain rfl:=Z.int;k_is;by_cases lt:ib < ie
               ·rw[decide_eq_false (show ¬ ie<=ib by lia)];k_is;refine aO (i:=0) Y rfl λd1 Z=>?_;obtain rfl:=Z.int;k_is
                have st:Dw.av (.tup [.int ib,.int ie])=br:=by
                 simp only[Dw.av,O.1,O.2,Dw.ltD,decide_eq_true lt,Xf]
                have fb:Dw.eP H i=ib:=by unfold Dw.eP;rw[C]
                have ff:Dw.dU H i=ie:=by unfold Dw.dU;rw[C]
                by_cases lb:ib<=bh
                ·rw[decide_eq_true lb];k_is;have:=q S4 (((sm.trans g).trans f).trans o);have hi:i < H.length:=(Zb.mp C).1;cases i with
                 |zero=>have:=z0 rfl;lia
                 |succ j=>
                  have e:=z1 j rfl;rw[Dw.mo (i:=j) hi (by rw[fb,<-e];lia)] at this;exact this
                ·rw[decide_eq_false lb];k_is;refine aO (i:=1) Y rfl λd1 Z=>?_;obtain rfl:=Z.int;refine⟨⟨λj t B I=>?_,λj B=>?_,ie,_,rfl,λh=>absurd h (X8 i),λj B=>?_⟩,o⟩
                 ·by_cases U:j < i
                  ·exact iv1 j t U I
                  ·obtain rfl:j=i:=by lia
                   rw[C] at I;cases I;exact st
                 ·by_cases U:j+1 < i
                  ·exact J j U
                  ·obtain rfl:i=j+1:=by lia
                   rw[fb,<-z1 j rfl]
                   lia
                 ·obtain rfl:i=j:=by lia
                  exact ff.symm
               ·rw[decide_eq_true (show ie<=ib by lia)];refine fail ?_ S4 o;simp only[Dw.av,Dw.ltD,decide_eq_false lt,ZP]
            ·rw[decide_eq_false (show ¬ (cs.length:Int)=2 by lia)];exact fail (Dw.mq lc) S3 (Sm.refl _)
           |_=>exact fail rfl S3 (Sm.refl _)
          ·subst M;k_is;have:=q S3 ((sm.trans g).trans f);rw[Dw.vf lh (λj d B=>iv1 j d (Zb.mp B).1 B) λj B=>J j B] at this;exact this
       ·rw[decide_eq_true (show(4:Int) < H.length by lia)];have:=q S (Sm.refl S);rw[Dw.n8 lh,ZP] at this;exact this
      |_=>have:=q S (Sm.refl S);simp only[Dw.aM,ZP] at this;exact this
     ·rw[decide_eq_false (show ¬ (rows.length:Int)<=4 by lia)];exact bad λz=>l4 z.2
    ·rw[decide_eq_false (show ¬ (1:Int)<=rows.length by lia)];exact bad λz=>l1 z.1
   |_=>exact q S (Sm.refl S)
  ·rw[decide_eq_false (show ¬ ((ts.length:Nat):Int)=4 by lia)];have:=q S (Sm.refl S)
   have e:Dw.ba (.tup ts)=bx:=by
    unfold Dw.ba;split
    ·rename_i he;cases he;exact absurd rfl hl
    ·rfl
   rw[e] at this;exact this
 |_=>exact q S (Sm.refl S)
def w8{r s:Int}{h' t:Dw.D}{rows:List Dw.D}{m d:D}(hm:TD p S (.tup [.int r,.int s,.tup rows,h']) m)(h:TD p S t d)(q:∀S',Sm S S'->Q (.bl (Dw.aN rows.length r s t)) S'):Ok (evC af (k+3) 40 [d,m] S) Q:=by
 obtain⟨ms,rfl,C⟩:=hm.tup;refine aW (d:=cP) (ρ:=[aD d,aD (.tup ms),aT]) rfl rfl ?_;dsimp only[cP,fT];k_is;refine aa (bB h) ?_;k_is;cases t with
 |tup X=>
  obtain⟨ds,rfl,hs⟩:=h.tup;dsimp only[cn];k_is;refine aa (bv hs) ?_;k_is;by_cases hl:X.length=7
  ·rw[decide_eq_true (show(X.length:Int)=7 by omega)];obtain⟨Z,y,f,g,B,tw,tg,rfl⟩:=Dw.sC hl;k_is;simp only[Dw.aN] at q;refine aO (i:=0) hs rfl λJ T=>aO (i:=2) C rfl λY o=>?_;obtain⟨rs,rfl,hr⟩:=o.tup;refine aa (bv hr) ?_;k_is;refine⟨rfl,bp T ?_⟩;k_is
   have fail:∀S',Sm S S'->([y,f,g,B].all (λe=>Dw.ai e 0 9999) && ((Dw.leD y s f && Dw.leD f 0 g) && (Dw.ai Z 0 ((rows.length:Int) - 1) && (Dw.ai tw 0 99 && Dw.ai tg 0 r))))=bx->Q (.bl bx) S':=λS' sm e=>by
    have:=q S' sm;rw[e] at this;exact this
   cases c3:Dw.ai Z 0 ((rows.length:Int) - 1) with
   |false=>exact fail S (Sm.refl S) (by rw[c3];simp)
   |true=>
   k_is;have U:TDs p S [y,f,g,B] (bg ds (aD 1) (aD 5)):=hs.cut (aD 1) (aD 5);refine uo U (by simp) (λi M=>(∀j t,j < i->[y,f,g,B][j]?=aD t->Dw.ai t 0 9999=br)/\∃u,M=[aD (D.tup ds),aD (D.tup ms),u]) (λi t d M E ht sm td ⟨I,u,L⟩=>?_) (λM E sm ⟨I,u,L⟩=>?_) ⟨λj t hj=>absurd hj (Z5 j),aT,rfl⟩
   ·subst L;refine⟨_,rfl,?_⟩;k_is;refine⟨rfl,bp td ?_⟩;k_is;cases c:Dw.ai t 0 9999 with
    |false=>
     refine fail E sm ?_
     have:[y,f,g,B].all (λe=>Dw.ai e 0 9999)=bx:=by
      rw[Z3];intro z;have:=Ze.mp z t (Zy ht);rw[c] at this;cases this
     rw[this,ZL]
    |true=>
     refine⟨⟨λj t' hj v=>?_,_,rfl⟩,Sm.refl _⟩;by_cases O:j < i
     ·exact I j t' O v
     ·obtain rfl:j=i:=by omega
      rw[ht] at v;cases v;exact c
   ·subst L;have wj:=I 0 y (by simp) rfl;have wf:=I 1 f (by simp) rfl;have wl:=I 2 g (by simp) rfl;have wu:=I 3 B (by simp) rfl;have wa:[y,f,g,B].all (λe=>Dw.ai e 0 9999)=br:=by simp[wj,wf,wl,wu]
    k_is;have H:=hs.keep sm.kp;have b:=C.keep sm.kp;refine aO (i:=5) H rfl λJ T=>⟨rfl,bp T ?_⟩;k_is;cases c4:Dw.ai tw 0 99 with
    |false=>exact fail E sm (by rw[c4];simp)
    |true=>
    k_is;refine aO (i:=6) H rfl λJ T=>aO (i:=0) b rfl λY o=>?_;obtain rfl:=o.int;refine⟨rfl,bp T ?_⟩;k_is;cases c5:Dw.ai tg 0 r with
    |false=>exact fail E sm (by rw[c5];simp)
    |true=>
    k_is;obtain⟨ij,rfl,_⟩:=Dw.aj wj;obtain⟨jf,rfl,_⟩:=Dw.aj wf;obtain⟨il,rfl,_⟩:=Dw.aj wl;refine aO (i:=2) H rfl λJ T=>aO (i:=1) H rfl λY o=>aO (i:=1) b rfl λd3 t3=>?_;obtain rfl:=T.int;obtain rfl:=o.int;obtain rfl:=t3.int;k_is;have:=q E sm;rw[wa,c3,c4,c5] at this;simp only[Dw.leD,Wr,ZR,Yi] at this;cases c6:decide (ij+s<=jf) with
    |false=>rw[c6] at this;exact this
    |true=>
     rw[c6] at this;k_is;refine aO (i:=3) H rfl λJ T=>aO (i:=2) H rfl λY o=>?_;obtain rfl:=T.int;obtain rfl:=o.int;k_is;exact this
  ·rw[decide_eq_false (show ¬ (X.length:Int)=7 by omega)];have:=q S (Sm.refl S);rw[Dw.oM hl] at this;exact this
 |_=>exact q S (Sm.refl S)
def IL{t:Dw.D}{T:List Dw.D}{n:Nat}(h:Dw.wid (.tup T)<=n)(H:t ∈ T):Dw.wid t<=n:=by
 rw[Dw.wid] at h;have:=Dw.mi H;omega
def IM{T:List Dw.D}{n:Nat}(h:Dw.wid (.tup T)<=n):T.length<=n:=by
 rw[Dw.wid] at h;omega
def AS{r s:Int}{rows:List Dw.D}{h' tg tf:Dw.D}{th dm da dg df:D}(k1:TD p S (.tup [.int r,.int s,.tup rows,h']) dm)(k3:TD p S tg dg)(k4:TD p S tf df)(hw:Dw.wid tf<=1000)
  (q:∀S',Sm S S'->Q (.bl (Dw.aI rows.length r s tg && Dw.bH (Dw.tupOf tg) tf)) S') :
  rW (wSs (evC af (k+3)) (cN af) 57 (cY.drop 3)) [aD th,aD dm,aD da,aD dg,aD df,aT,aT,aT] S (out Q):=by
 dsimp only[cY,YD];k_is;refine aa (bB k3) ?_;k_is;cases tg with
 |tup gs=>
  obtain⟨ds,rfl,hs⟩:=k3.tup;dsimp only[cn];k_is;refine aa (bv hs) ?_;k_is;by_cases lg:gs.length<=7
  ·rw[decide_eq_false (show ¬ (7:Int) < gs.length by omega)];k_is;refine aa (bB k4) ?_;k_is;cases tf with
   |tup fs=>
    obtain⟨M,rfl,hf⟩:=k4.tup;have lf:=IM hw;dsimp only[cn];k_is;simp only[Dw.tupOf] at q;refine uo hs (by omega) (λi C=>(∀j t,j < i->gs[j]?=aD t->Dw.aN rows.length r s t=br)/\∃u,C=[aD th,aD dm,aD da,aD (D.tup ds),aD (D.tup M),u,aT,aT]) (λi t d C S1 o sm T ⟨iv,u,E⟩=>?_) (λC S1 sm ⟨iv,u,E⟩=>?_) ⟨λj t H=>absurd H (Z5 j),aT,rfl⟩
    ·subst E;refine⟨_,rfl,?_⟩;k_is;refine⟨rfl,w8 (k1.keep sm.kp) T λS2 f=>?_⟩;k_is;cases c:Dw.aN rows.length r s t with
     |false=>
      have:=q S2 (sm.trans f);rw[Dw.sE o c] at this;exact this
     |true=>
      refine⟨⟨λj t' H h=>?_,_,rfl⟩,f⟩;by_cases J:j < i
      ·exact iv j t' J h
      ·obtain rfl:j=i:=by omega
       rw[o] at h;cases h;exact c
    ·subst E
     have ha:gs.all (Dw.aN rows.length r s)=br:=Ze.mpr λt o=>by
      obtain⟨j,H,rfl⟩:=Yr o;exact iv j _ H (gEG H)
     have eg:Dw.aI rows.length r s (.tup gs)=br:=by simp only[Dw.aI,ha,decide_eq_true lg,Xf]
     rw[eg] at q;simp only[ZR,Dw.bH] at q;k_is;have U:=hs.keep sm.kp;have hf1:=hf.keep sm.kp;refine JQ hf1 (by omega) (λi C=>(∀j t,j < i->fs[j]?=aD t->Dw.ai t 0 ((gs.length:Int) - 1)=br)/\((Dw.aH fs).take i).Nodup/\∃v v',C=[aD th,aD dm,aD da,aD (D.tup ds),aD (D.tup M),u,v,v']) (λi t d C S2 o f T ⟨I,nd,v,v',E⟩=>?_) (λC S2 f ⟨I,nd,v,v',E⟩=>?_) ⟨λj t H=>absurd H (Z5 j),by simp,aT,aT,rfl⟩
     ·subst E;have B:i < fs.length:=(Zb.mp o).1;refine⟨_,iS (by simp) (by simp),?_⟩;k_is;refine aa (bv (U.keep f.kp)) ?_;k_is;refine⟨rfl,bp T ?_⟩;k_is
      have fail:Dw.bN gs.length (.tup fs)=bx->Q (.bl bx) S2:=λe=>by
       have:=q S2 (sm.trans f);rw[e] at this;exact this
      cases c:Dw.ai t 0 ((gs.length:Int) - 1) with
      |false=>exact fail (Dw.vg o c)
      |true=>
       k_is;obtain⟨x,rfl,_⟩:=Dw.aj c;obtain rfl:=T.int
       have tk:M.take i=((Dw.aH fs).take i).map D.int:=by
        have hp:(fs.take i).all (λe=>Dw.ai e 0 ((gs.length:Int) - 1))=br:=Ze.mpr λt' ht'=>by
         obtain⟨j,H,rfl⟩:=Yr ht';rw[ZA] at H;rw[XZ];exact I j _ (by omega) (gEG (by omega))
        rw[jC hp (hf.take i),Dw.zN]
       rw[ja M i (by rw[hf.len];omega),tk];simp only[ax,rg,ag];k_is;simp only[Bool.false_bne];have Z:(Dw.aH fs)[i]?=aD x:=by unfold Dw.aH;rw[Zo,o];rfl
       by_cases O:x ∈ (Dw.aH fs).take i
       ·rw[decide_eq_true O];refine fail (Dw.vh λz=>?_);have y:i < (Dw.aH fs).length:=by rw[Dw.fm];exact B
        rw[<-YF i (Dw.aH fs)] at z
        have:=(YU.mp z).2.2 x O x (by
         rw[List.drop_eq_getElem_cons y];rw[gEG y] at Z;cases Z;exact Zd)
        exact this rfl
       ·rw[decide_eq_false O];refine⟨⟨λj t' H h=>?_,?_,_,_,rfl⟩,Sm.refl _⟩
        ·by_cases J:j < i
         ·exact I j t' J h
         ·obtain rfl:j=i:=by omega
          rw[o] at h;cases h;exact c
        ·have y:i < (Dw.aH fs).length:=by rw[Dw.fm];exact B
         rw[gEG y] at Z;cases Z;rw[ZM y];exact YU.mpr ⟨nd,by simp,λa ha' b hb=>by simp at hb;subst hb;exactλz=>O (z ▸ ha')⟩
     ·subst E;rw[<-Dw.fm,Z8] at nd
      have wa:fs.all (λe=>Dw.ai e 0 ((gs.length:Int) - 1))=br:=Ze.mpr λt o=>by
       obtain⟨j,H,rfl⟩:=Yr o;exact I j _ H (gEG H)
      rw[Dw.kw wa nd] at q;simp only[ZR] at q;have ei:=jC wa hf;subst ei;k_is;refine D0 (U.keep f.kp) (by omega) (λi=>decide (0 < Dw.dr gs i) && !decide (((i:Nat):Int) ∈ Dw.aH fs)) (λi t d S3 o X T=>⟨_,iS (by simp) (by simp),?_⟩) λM S3 X ee=>?_
      ·obtain⟨a1,a2,a3,a4,a5,a6,g,rfl,L,g0⟩:=Dw.qB ha o;obtain⟨xs,rfl,O⟩:=T.tup;k_is;refine aO (i:=6) O rfl λd1 t1=>?_;obtain rfl:=t1.int;k_is;rw[L];cases c:decide (0 < g) with
       |false=>exact⟨rfl,Sm.refl _⟩
       |true=>
        k_is;simp only[ax,rg,ag];k_is;cases decide (((i:Nat):Int) ∈ Dw.aH fs) with
        |true=>exact⟨rfl,Sm.refl _⟩
        |false=>exact⟨rfl,Sm.refl _⟩
      ·refine aa Hd ?_;have:=q (S3++[Ob.lst M]++[Ob.lst []]) (((sm.trans f).trans X).trans ((Sm.app _ _).trans (Sm.app _ _)))
       have e:(Dw.zL gs (Dw.aH fs)).all id=M.isEmpty:=by
        rw[ee];unfold Dw.zL;rw[ZW,ZY,Ze,Ze]
        have Y:∀i,i ∈ Zl gs.length->((decide (Dw.dr gs i=0) || decide (((i:Nat):Int) ∈ Dw.aH fs))=br ↔ (!(decide (0 < Dw.dr gs i) && !decide (((i:Nat):Int) ∈ Dw.aH fs)))=br):=λi B=>by
         obtain⟨a1,a2,a3,a4,a5,a6,g,e1,L,g0⟩:=Dw.qB ha (gEG (ZT.mp B));rw[L];by_cases m:((i:Nat):Int) ∈ Dw.aH fs
         ·simp[m]
         ·simp only[m,decide_false,XH,Bool.not_false,Yi,decide_eq_true_eq,Bool.not_eq_true',decide_eq_false_iff_not];omega
        exact⟨λz i B=>(Y i B).mp (z i B),λz i B=>(Y i B).mpr (z i B)⟩
       rw[e] at this;exact this
   |_=>have:=q S (Sm.refl S);simp only[Dw.bH,ZP] at this;exact this
  ·rw[decide_eq_true (show(7:Int) < gs.length by omega)];have:=q S (Sm.refl S);simp only[Dw.aI,decide_eq_false lg,ZL] at this;exact this
 |_=>exact q S (Sm.refl S)
def IP{t:Dw.D}{d:D}(h:TD p S t d)(hw:Dw.wid t<=1000)(q:∀g,Sm S g->Q (.bl (Dw.cR t)) g):Ok (evC af (k+4) 41 [d] S) Q:=by
 refine aW (d:=fK) (ρ:=[aD d,aT,aT,aT,aT,aT,aT,aT]) rfl rfl ?_;dsimp only[fK,cY];k_is;refine aa (bB h) ?_;k_is;cases t with
 |tup o=>
  obtain⟨ds,rfl,hs⟩:=h.tup;dsimp only[cn];k_is;refine aa (bv hs) ?_;k_is;by_cases I:o.length=4
  ·rw[decide_eq_true (show(o.length:Int)=4 by omega)];obtain⟨tm,u,tg,tf,rfl⟩:=Dw.kY I;obtain⟨dm,z,dg,Z,rfl,h1,h2,Y,U⟩:=uw hs;k_is;rw[Dw.qA] at q;refine aO (i:=0) hs rfl λM j=>⟨rfl,wZ j λS1 c=>?_⟩;k_is;cases E:Dw.ba tm with
   |false=>rw[E] at q;exact q S1 c
   |true=>
   rw[E] at q;obtain⟨r,s,rows,hss,rfl,_⟩:=Dw.eT E;k_is;simp only[Dw.dX,Dw.gO,Dw.jP,ZR] at q;have J:=h1.keep c.kp;have f:=h2.keep c.kp;have k3:=Y.keep c.kp;have X:=U.keep c.kp;refine aa (DY f) ?_;k_is
   have T:=λ(ea:Dw.bA rows.length u=br)=>AS (k:=k) (th:=D.tup [dm,z,dg,Z]) (da:=z) (Q:=Q) J k3 X (IL hw (by simp)) λg sm=>by
    have:=q g (c.trans sm);rw[ea] at this;exact this
   dsimp only[cY,YD] at T
   have fail:Dw.bA rows.length u=bx->Q (.bl bx) S1:=λe=>by
    have:=q S1 c;rw[e] at this;exact this
   cases u with
   |non=>dsimp only[wJ];k_is;exact T rfl
   |tup y=>
    obtain⟨xs,rfl,v⟩:=f.tup;dsimp only[wJ];k_is;refine aa (bB f) ?_;dsimp only[cn];k_is;refine aa (bv v) ?_;k_is;by_cases L:y.length=2
    ·obtain⟨b,e,rfl⟩:=Dw.qv L;rw[show decide ((([b,e].length:Nat):Int)=2)=br from rfl];k_is;obtain⟨ms,rfl,H⟩:=J.tup;refine aO (i:=0) v rfl λM j=>aO (i:=2) H rfl λd2 O=>?_;obtain⟨rs,rfl,hr⟩:=O.tup;refine aa (bv hr) ?_;k_is;refine⟨rfl,bp j ?_⟩;k_is;cases C:Dw.ai b 0 ((rows.length:Int) - 1) with
     |false=>exact fail (by simp only[Dw.bA,C,ZL])
     |true=>
      k_is;refine aO (i:=1) v rfl λd3 t3=>⟨rfl,bp t3 ?_⟩;k_is;cases B:Dw.ai e 0 9999 with
      |false=>exact fail (by simp only[Dw.bA,B,ZP])
      |true=>k_is;exact T (by simp only[Dw.bA,C,B,Xf])
    ·rw[decide_eq_false (show ¬ (y.length:Int)=2 by omega)];exact fail (Dw.sD L)
   |_=>dsimp only[wJ];k_is;rw[bB f,ag];dsimp only[cn];k_is;exact fail rfl
  ·rw[decide_eq_false (show ¬ (o.length:Int)=4 by omega)];have:=q S (Sm.refl S);rw[Dw.B5 I] at this;exact this
 |_=>exact q S (Sm.refl S)
def au{f:Int}(h:Pot p S)(H:0 < f)(c:f < 1073741824)(q:∀ (r:Int) b,0<=r->r < f->Dr p S b->Q (.int r) b):Ok (evC af (k+1) 27 [.ref p,.int f] S) Q:=by
 obtain⟨n,e⟩:=h;have lt:p < S.length:=(Zb.mp e).1;refine aW (d:=iO) (ρ:=[aD (.ref p),aD (.int f),aT]) rfl rfl ?_;dsimp only[iO,ny];k_is;have ix:ixS (.ref p) (.int 0) S=aD (.int n,S):=by simp only[ixS,am,aA,e];rfl
 refine aa ix ?_;k_is;refine⟨H,?_⟩;k_is;refine aa ix ?_;k_is;refine⟨⟨H,by lia⟩,?_⟩;k_is;refine⟨S.set p (.lst [.int (n / f)]),by simp only[oh,e];rfl,?_⟩;exact q _ _ (We _ (by omega)) (XQ _ H) ⟨MO,_,rj lt⟩
def IQ{c:Nat}{ns:List Int}(h:S[0]?=aD (.frz (ns.map D.int)))(q:∀i:Int,Q (.int i) S):Ok (evC af (k+1) 25 [.ref 0,.int c] S) Q:=by
 refine aW (d:=eJ) (ρ:=[aD (.ref 0),aD (.int c)]) rfl rfl ?_;dsimp only[eJ,ip];k_is;have L:az eF (.ref 0) S=aD (.int ns.length,S):=by simp only[az,am,aA,h,Zr,eF,Za]
 refine aa L ?_;k_is;refine bD (λH=>?_) λH=>?_
 ·k_is;have f:=of_decide_eq_true H;obtain⟨d,g,E⟩:=MQ (ds:=ns.map D.int) (i:=c) (by omega) (by rw[Za];omega);have ix:ixS (.ref 0) (.int c) S=aD (d,S):=by simp only[ixS,am,aA,h,Zr,g]
  refine aa ix ?_;rw[Zo] at E;cases b:ns[(c:Int).toNat]? with
  |none=>rw[b] at E;cases E
  |some i=>rw[b] at E;cases E;exact q i
 ·k_is;exact q 0
def OY{c:Int}(q:∀n:Int,Q (.ref S.length) (S++[.lst [.int n]])):Ok (evC af (k+1) 26 [.int c] S) Q:=by
 refine aW (d:=kf) (ρ:=[aD (.int c),aT,aT,aT]) rfl rfl ?_;dsimp only[kf,pG];k_is;refine⟨⟨by decide,by decide,by decide⟩,?_⟩;k_is;refine bD (λ_=>?_) λ_=>?_
 ·k_is;refine⟨⟨by decide,by decide,by decide⟩,?_⟩;k_is;exact q _
 ·k_is;refine⟨by decide,?_⟩;refine pK (by decide) (λi b f=>f=S/\∃n:Int,∃u v,b=[aD (.int c),aD (.int n),u,v]) (λi b f H ⟨g,n,u,v,E⟩=>?_) (λb f ⟨g,n,u,v,E⟩=>?_) ⟨rfl,0,aT,aT,rfl⟩
  ·subst g E;refine⟨_,rfl,?_⟩;k_is;refine⟨by decide,?_⟩;k_is;refine⟨rh (by decide) (by decide),?_⟩;k_is;refine⟨yQ (by decide) (by decide),by decide,?_⟩;k_is;have h:=We ((c % 2147483629+7919 * (0+(i:Int))+1) * 48271) (show(2147483647:Int) ≠ 0 by decide);have j:=XQ ((c % 2147483629+7919 * (0+(i:Int))+1) * 48271) (show(0:Int) < 2147483647 by decide);refine⟨rh (by omega) (by omega),?_⟩;k_is;refine⟨rh (by decide) (by decide),?_⟩;k_is;refine⟨by decide,?_⟩;k_is;refine⟨yQ (by decide) (by decide),?_⟩;k_is;exact⟨rfl,_,_,_,rfl⟩
  ·subst g E;k_is;exact q n
end Lw
namespace Lw
open PySem Ev L2
variable {p:Nat} {S:Sto} {k:Nat} {Q:D->Sto->Prop}
def yX(r:List Int):TDs p S (r.map Dw.D.int) (r.map D.int):=by
 induction r with
 |nil=>exact aE
 |cons a r I=>exact ac bP I
def w9:∀ (M:List (List Int)),TDs p S (Dw.eR M) (M.map λr=>D.tup (r.map D.int))
 |[]=>aE
 |r::M=>ac (td_tup (yX r)) (w9 M)
def nJ{ds:List D}(i:Nat)(d:D)(h:ds[i]?=aD d):(λi=>(ds[i]?).getD .non) i=d:=by
 show(ds[i]?).getD .non=d;rw[h];rfl
def nK{L n:Nat}{es:List D}{M:List (List Int)}(h:Pot p S)(z:S[L]?=aD (.lst es))(nL:L ≠ p)(o:RowsS p S es M)(H:Dw.Mat (n+1) M)(hn:n < 4)
  (q:∀rows ds g,Dr p S g->TDs p g rows ds->Dw.aR (.tup rows)=br->Q (.tup ds) g) :
  rW (wSs (evC af (k+1)) (cN af) 57 (dG.drop 3)) [aD (.ref p),aD (.int (1+(n:Int))),aD (.ref L),aT] S (out Q):=by
 dsimp only[dG,YD];k_is;have e1:((1:Int)+n).toNat=n+1:=by lia
 refine⟨(by simp only[lim,bAE,decide_eq_true_eq];lia),?_⟩;rw[e1];refine pK (by lia) (λc ρ g=>Dr p S g/\∃L es M u,ρ=[aD (.ref p),aD (.int (1+(n:Int))),aD (.ref L),u]/\L ≠ p/\g[L]?=aD (.lst es)/\RowsS p g es M/\Dw.Mat (n+1) M/\Dw.xR (n+1) c M) (λc ρ S1 y ⟨O,L,es,M,u,Y,nL,z,o,H,tr⟩=>?_) (λρ S1 ⟨O,L,es,M,u,Y,nL,z,o,H,tr⟩=>?_) ⟨Dr.refl h,L,es,M,aT,rfl,nL,z,o,H,λa b q _ _ hq=>absurd hq (Z5 q)⟩
 ·subst Y;refine⟨_,rfl,?_⟩;k_is;refine⟨(by rw[aq z];rfl),?_⟩;have le:es.length=n+1:=by rw[o.len,H.len]
  refine gH (n+1) (λi=>(es[i]?).getD .non) (λi f g=>Sm S1 g/\RowsS p g f ((Zl i).map (Dw.bJ M (n+1) c))) (λi f g C ⟨sm,_⟩=>by rw[<-le];exact iT (sm _ _ z) _ nJ) (by lia) (λi f B C ⟨sm,X⟩=>?_) (λes' B ⟨sm,X⟩=>⟨by rw[X.len,Za,Z2];lia,?_⟩) ⟨Sm.refl _,RowsS.nil⟩
  ·obtain⟨r,m1,lr,_⟩:=H.at C y;obtain⟨a,J,na,za⟩:=o.row i r m1;obtain⟨rc,m2,lrc,_⟩:=H.at y y;obtain⟨b,eb,nb,zb⟩:=o.row c rc m2;have Z:=sm _ _ za;have zb2:=sm _ _ zb;simp only[J,Ym];refine⟨_,rfl,?_⟩;k_is;refine⟨(by rw[aq Z];rfl),?_⟩;have lm:(r.map D.int).length=n+1:=by rw[Za];exact lr
   refine gH (n+1) (λj=>.tup [.int j,((r.map D.int)[j]?).getD .non]) (λj f g=>g=B/\f=((Dw.bJ M (n+1) c i).take j).map D.int) (λj f g T ⟨e,_⟩=>by subst e;rw[<-lm];exact yR (i:=j) Z (by lia) (λj=>.tup [.int j,((r.map D.int)[j]?).getD .non]) λj d hd=>by show D.tup [.int j,((r.map D.int)[j]?).getD .non]=_;rw[hd];rfl) (by lia) (λj f I T ⟨e3,E⟩=>?_) (λes3 I ⟨e3,E⟩=>⟨by rw[E,Za,ZA];lia,?_⟩) ⟨rfl,rfl⟩
   ·subst e3;obtain⟨r',v,_,e4,_⟩:=H.at C T;rw[m1] at v;cases v;have g1:((r.map D.int)[j]?).getD .non = .int (Dw.mg2 M i j):=by rw[Zo,e4];rfl
    rw[g1];refine⟨_,iS (by simp) (by simp),?_⟩;k_is;obtain⟨r',v,_,e5,_⟩:=H.at C y;rw[m1] at v;cases v;obtain⟨rc',v,_,e6,_⟩:=H.at y T;rw[m2] at v;cases v;have z0:(0:Int)+(c:Int)=(c:Int):=by lia
    have U:∀ (l:List Int) (m:Nat) (x:Int),l[m]?=aD x->atI (l.map D.int) (m:Int)=aD (.int x):=λl m x hx=>by
     have hlt:=(Zb.mp hx).1;unfold atI ixN;rw[if_pos (by lia),if_pos (by rw[Za];lia),ZN];show(l.map D.int)[m]?=_;rw[Zo,hx];rfl
    have i1:ixS (.ref a) (.int (0+(c:Int))) I=aD (.int (Dw.mg2 M i c),I):=by
     simp only[ixS,am,aq Z,Zr,z0,U r c _ e5]
    have i2:ixS (.ref L) (.int (0+(c:Int))) I=aD (.ref b,I):=by
     have:atI es (c:Int)=aD (.ref b):=by
      unfold atI ixN;rw[if_pos (by lia),if_pos (by lia),ZN];exact eb
     simp only[ixS,am,aq (sm _ _ z),Zr,z0,this]
    have i3:ixS (.ref b) (.int (j:Int)) I=aD (.int (Dw.mg2 M c j),I):=by
     simp only[ixS,am,aq zb2,Zr,U rc j _ e6]
    refine aa i1 (aa i2 (aa i3 ?_));k_is;have lj:j < (Dw.bJ M (n+1) c i).length:=by rw[Dw.ml];exact T
    have gj:=Dw.sA M (c:=c) (i:=i) T;rw[gEG lj] at gj;rw[E,ZM lj,Zv,Option.some.inj gj];exact⟨rfl,rfl⟩
   ·subst e3;rw[Yj (by rw[Dw.ml];exact Zc _)] at E;subst E;k_is;have lt:=(Dr.sm O.pot sm).pot.lt;refine⟨sm.trans (Sm.app _ _),?_⟩;rw[Yc,Zv];exact(X.keep (Sm.app _ _).kp).snoc (by lia) ay
  ·k_is;have lt:=(Dr.sm O.pot sm).pot.lt;have st:Dw.Mat (n+1) ((Zl (n+1)).map (Dw.bJ M (n+1) c)):=Dw.B3 H y;exact⟨(O.thenSm sm).thenSm (Sm.app _ _),_,_,_,_,rfl,by lia,ay,X.keep (Sm.app _ _).kp,st,Dw.B1 H y tr (Dw.FQ H y)⟩
 ·subst Y;k_is;refine⟨(by rw[aq z];rfl),?_⟩;have le:es.length=n+1:=by rw[o.len,H.len]
  refine gH (n+1) (λi=>(es[i]?).getD .non) (λi f g=>g=S1/\f=(M.take i).map λr=>D.tup (r.map D.int)) (λi f g C ⟨e,_⟩=>by subst e;rw[<-le];exact iT z _ nJ) (by lia) (λi f B C ⟨e2,J⟩=>?_) (λes' B ⟨e2,J⟩=>⟨by rw[J,Za,ZA];lia,?_⟩) ⟨rfl,rfl⟩
  ·subst e2;have li:i < M.length:=by rw[H.len];exact C
   obtain⟨a,eb,na,za⟩:=o.row i M[i] (gEG li);simp only[eb,Ym];refine⟨_,rfl,?_⟩;k_is;have tq:az ia (.ref a) B=aD (.tup (M[i].map D.int),B):=by simp only[az,am,aq za,Zr,ia]
   refine aa tq ?_;refine⟨rfl,?_⟩;rw[J,ZM li,Zv];rfl
  ·subst e2;rw[Yj (by rw[H.len];exact Zc _)] at J;subst J;show Ok (aD (D.tup _,B)) _;rw[ag];exact q (Dw.eR M) _ B O (w9 M) (Dw.B2 H (by lia) (by lia) tr)
def ED(h:Pot p S)(q:∀rows ds c,Dr p S c->TDs p c rows ds->Dw.aR (.tup rows)=br->Q (.tup ds) c):Ok (evC af (k+2) 30 [.ref p] S) Q:=by
 refine aW (d:=iP) (ρ:=[aD (.ref p),aT,aT,aT]) rfl rfl ?_;dsimp only[iP,dG];k_is;refine⟨rfl,au h (by decide) (by decide) λr0 S1 r1 r2 d1=>?_⟩;k_is;obtain⟨n,rfl⟩:∃n:Nat,r0=(n:Int):=⟨r0.toNat,by lia⟩;have e1:((1:Int)+n).toNat=n+1:=by lia
 refine⟨(by simp only[lim,bAE,decide_eq_true_eq];lia),?_⟩;rw[e1];refine wL (by lia) (λi b c=>Dr p S1 c/\∃M:List (List Int),M.length=i/\RowsS p c b M/\∀r ∈ M,r.length=n+1/\∀x ∈ r,1<=x/\x<=99) (λi b v hi ⟨d2,M,lM,rM,bM⟩=>⟨_,rfl,?_⟩) (λo v ⟨d2,M,lM,rM,bM⟩=>⟨by rw[rM.len];lia,?_⟩) ⟨Dr.refl d1.pot,[],rfl,RowsS.nil,λr H=>by simp at H⟩
 ·k_is;refine⟨(by simp only[lim,bAE,decide_eq_true_eq];lia),?_⟩;rw[e1];refine wL (by lia) (λj b c=>Dr p v c/\∃r:List Int,b=r.map D.int/\r.length=j/\∀x ∈ r,1<=x/\x<=99) (λj b S3 hj ⟨f,r,Z,lr,J⟩=>⟨_,rfl,?_⟩) (λo S3 ⟨f,r,Z,lr,J⟩=>⟨by rw[Z,Za];lia,?_⟩) ⟨Dr.refl d2.pot,[],rfl,rfl,λx hx=>by simp at hx⟩
  ·k_is;refine⟨rfl,au f.pot (by decide) (by decide) λx S4 x1 x2 Y=>?_⟩;k_is;refine⟨f.trans Y,r++[1+x],by rw[Z,Zv];rfl,by simp[lr],λy hy=>?_⟩;rcases Zu.mp hy with hy |hy
   ·exact J y hy
   ·simp at hy;lia
  ·subst Z;k_is;have lt:=f.pot.lt;refine⟨(d2.trans f).thenSm (Sm.app _ _),M++[r],by simp[lM],((rM.keep f.kp).keep (Sm.app _ _).kp).snoc (by lia) ay,λr' hr'=>?_⟩;rcases Zu.mp hr' with hr' |hr'
   ·exact bM r' hr'
   ·simp at hr';subst hr';exact⟨lr,J⟩
 ·have lt2:=d2.pot.lt;have f:Dr p S1 (v++[Ob.lst o]):=d2.thenSm (Sm.app _ _);have r3:RowsS p (v++[Ob.lst o]) o M:=rM.keep (Sm.app _ _).kp;have a3:(v++[Ob.lst o])[v.length]?=aD (Ob.lst o):=ay;have m3:Dw.Mat (n+1) M:=⟨lM,λr H=>(bM r H).1,λr H=>(bM r H).2⟩;have I:v.length ≠ p:=by lia
  revert a3 r3 f;generalize v++[Ob.lst o]=S3;intro f r3 a3;k_is;refine⟨rfl,au f.pot (by decide) (by decide) λx S4 x1 x2 Y=>?_⟩;k_is;have a4:=Y.kp _ _ I a3;have r4:=r3.keep Y.kp;have d5:Dr p S S4:=(d1.trans f).trans Y;have hlim:lim (1+(n:Int))=br:=by simp only[lim,bAE,decide_eq_true_eq];lia
  refine bD (λ_=>?_) λ_=>?_
  ·k_is;refine⟨(by rw[aq a4];rfl),?_⟩;have le:o.length=n+1:=by rw[r4.len,lM]
   refine gH (n+1) (λi=>(o[i]?).getD .non) (λi b c=>Dr p S4 c/\∃U:List (List Int),U.length=i/\RowsS p c b U/\∀r ∈ U,r.length=n+1/\∀x ∈ r,1<=x/\x<=99) (λi b c hi ⟨u,_⟩=>by rw[<-le];exact iT (u.kp _ _ I a4) _ nJ) (by lia) (λi b S5 hi ⟨u,U,O,g,B⟩=>?_) (λes' S5 ⟨u,U,O,g,B⟩=>⟨by rw[g.len];lia,?_⟩) ⟨Dr.refl Y.pot,[],rfl,RowsS.nil,λr H=>by simp at H⟩
   ·obtain⟨r,m1,lr,_⟩:=m3.at hi hi;obtain⟨a,Z,na,za⟩:=r4.row i r m1;simp only[Z,Ym];refine⟨_,rfl,?_⟩;k_is;have za5:=u.kp _ _ na za;refine⟨(by rw[aq za5];rfl),?_⟩;have lm:(r.map D.int).length=n+1:=by rw[Za];exact lr
    refine gH (n+1) (λi=>((r.map D.int)[i]?).getD .non) (λj b c=>Dr p S5 c/\∃r:List Int,b=r.map D.int/\r.length=j/\∀x ∈ r,1<=x/\x<=99) (λj b c hj ⟨de,_⟩=>by rw[<-lm];exact iT (de.kp _ _ na za5) _ nJ) (by lia) (λj b S6 hj ⟨de,r',E,X,J⟩=>⟨_,rfl,?_⟩) (λes6 S6 ⟨de,r',E,X,J⟩=>⟨by rw[E,Za];lia,?_⟩) ⟨Dr.refl u.pot,[],rfl,rfl,λx hx=>by simp at hx⟩
    ·k_is;refine⟨rfl,au de.pot (by decide) (by decide) λy S7 y1 y2 d7=>?_⟩;k_is;refine⟨de.trans d7,r'++[99 - y],by rw[E,Zv];rfl,by simp[X],λz hz=>?_⟩;rcases Zu.mp hz with hz |hz
     ·exact J z hz
     ·simp at hz;lia
    ·subst E;k_is;have lt:=de.pot.lt;refine⟨(u.trans de).thenSm (Sm.app _ _),U++[r'],by simp[O],((g.keep de.kp).keep (Sm.app _ _).kp).snoc (by lia) ay,λr'' hr''=>?_⟩;rcases Zu.mp hr'' with hr'' |hr''
     ·exact B r'' hr''
     ·simp at hr'';subst hr'';exact⟨X,J⟩
   ·have lt:=u.pot.lt;have d6:Dr p S4 (S5++[Ob.lst es']):=u.thenSm (Sm.app _ _);have T:=nK (k:=k) (Q:=Q) (n:=n) (L:=S5.length) (es:=es') (M:=U) d6.pot ay (by lia) (g.keep (Sm.app _ _).kp) ⟨O,λr H=>(B r H).1,λr H=>(B r H).2⟩ (by lia) λrows ds c C td hg=>q rows ds c ((d5.trans d6).trans C) td hg;dsimp only[dG,YD] at T;k_is;exact T
  ·have T:=nK (k:=k) (Q:=Q) (n:=n) Y.pot a4 I r4 m3 (by lia) λrows ds c C td hg=>q rows ds c (d5.trans C) td hg;dsimp only[dG,YD] at T;k_is;exact T
def AU(h:Pot p S)(q:∀ts ds c,Dr p S c->TDs p c ts ds->Dw.aM (.tup ts)=br->Q (.tup ds) c):Ok (evC af (k+2) 31 [.ref p,.int 0] S) Q:=by
 refine aW (d:=gF) (ρ:=[aD (.ref p),aD (.int 0),aT,aT,aT]) rfl rfl ?_;dsimp only[gF,kL];k_is;have X:Dr p S (S++[Ob.lst []]):=Dr.sm h (Sm.app _ _);refine⟨rfl,au X.pot (by decide) (by decide) λU S1 r1 r2 j=>?_⟩;obtain⟨n,rfl⟩:∃n:Nat,U=(n:Int):=⟨U.toNat,by lia⟩;have lt:=h.lt;have a1:S1[S.length]?=aD (Ob.lst []):=j.kp _ _ (by lia) ay
 have I:atI [D.int 0,D.int 1,D.int 2,D.int 3,D.int 4] (n:Int)=aD (D.int n):=by
  have:n=0\/n=1\/n=2\/n=3\/n=4:=by lia
  rcases this with rfl |rfl |rfl |rfl |rfl <;> rfl
 refine⟨_,I,?_⟩;k_is;refine⟨(by simp only[lim,bAE,decide_eq_true_eq];lia),?_⟩;rw[ZN];refine pK (by lia) (λi v c=>Kp p S c/\Pot p c/\∃ (E:List (Int × Int)) (b:Int) (u:Option D),v=[aD (.ref p),aD (.int 0),aD (.ref S.length),aD (.int b),u]/\c[S.length]?=aD (.lst (E.map cS))/\Dw.Good E b/\E.length=i/\0<=b/\b<=20 * i) (λi v f hi ⟨B,o,E,b,u,g,H,C,le,Z,b1⟩=>?_) (λv f ⟨B,o,E,b,u,g,H,C,le,Z,b1⟩=>?_) ⟨X.kp.trans j.kp,j.pot,[],0,aT,rfl,a1,Dw.Good.nil,rfl,by lia,by lia⟩
 ·subst g;refine⟨_,rfl,?_⟩;k_is;refine⟨rfl,au o (by decide) (by decide) λx S3 x1 x2 z=>?_⟩;k_is;have T:=z.kp _ _ (show S.length ≠ p by lia) H;refine⟨cp T,?_⟩;k_is;refine⟨rfl,au z.pot (by decide) (by decide) λy M y1 y2 J=>?_⟩;k_is;have Y:=J.kp _ _ (show S.length ≠ p by lia) T;rw[iU Y (by rw[Za];lia)];k_is;have L:S.length < M.length:=(Zb.mp Y).1;have O:(M.set S.length (Ob.lst (E.map cS++[D.tup [D.int (b+1+x),D.int (b+1+x+1+y)]])))[S.length]?=aD (Ob.lst (E.map cS++[D.tup [D.int (b+1+x),D.int (b+1+x+1+y)]])):=rj L;refine aa (Hf O) ?_;k_is;show Ok (aD (D.int (b+1+x+1+y),_)) _;rw[ag];k_is;refine⟨((B.trans z.kp).trans J.kp).setNew (Zc _),J.pot.setNe (by lia),E++[(b+1+x,b+1+x+1+y)],_,_,rfl,by rw[Zv];exact O,C.more Z (by lia) (by lia),by simp[le],by lia,by lia⟩
 ·subst g;k_is;have tq:az ia (.ref S.length) f=aD (.tup (E.map cS),f):=by simp only[az,am,aq H,Zr,ia]
  refine aa tq ?_;k_is;exact q _ _ f ⟨B,o⟩ (uq E) (C.shuts (by lia) (by lia))
def EF(h:Pot p S)(q:∀r s rows hs d f,Dr p S f->TD p f (.tup [.int r,.int s,.tup rows,.tup hs]) d->Dw.ba (.tup [.int r,.int s,.tup rows,.tup hs])=br->Q d f):Ok (evC af (k+3) 32 [.ref p] S) Q:=by
 refine aW (d:=fI) (ρ:=[aD (.ref p),aT]) rfl rfl ?_;dsimp only[fI,jA];k_is;refine⟨rfl,au h (by decide) (by decide) λj L r1 r2 g=>?_⟩;obtain⟨n,rfl⟩:∃n:Nat,j=(n:Int):=⟨j.toNat,by lia⟩
 obtain⟨r,b,o⟩:∃r:Int,atI [D.int 2,D.int 1,D.int 3,D.int 8,D.int 0] (n:Int)=aD (D.int r)/\0<=r/\r<=8:=by
  have:n=0\/n=1\/n=2\/n=3\/n=4:=by lia
  rcases this with rfl |rfl |rfl |rfl |rfl
  ·exact⟨2,rfl,by decide,by decide⟩
  ·exact⟨1,rfl,by decide,by decide⟩
  ·exact⟨3,rfl,by decide,by decide⟩
  ·exact⟨8,rfl,by decide,by decide⟩
  ·exact⟨0,rfl,by decide,by decide⟩
 refine⟨_,b,?_⟩;k_is;refine⟨rfl,au g.pot (by decide) (by decide) λs0 M I O v=>?_⟩;obtain⟨m,rfl⟩:∃n:Nat,s0=(n:Int):=⟨s0.toNat,by lia⟩
 obtain⟨s,c,hs⟩:∃r:Int,atI [D.int 2,D.int 0,D.int 1,D.int 5,D.int 60] (m:Int)=aD (D.int r)/\0<=r/\r<=60:=by
  have:m=0\/m=1\/m=2\/m=3\/m=4:=by lia
  rcases this with rfl |rfl |rfl |rfl |rfl
  ·exact⟨2,rfl,by decide,by decide⟩
  ·exact⟨0,rfl,by decide,by decide⟩
  ·exact⟨1,rfl,by decide,by decide⟩
  ·exact⟨5,rfl,by decide,by decide⟩
  ·exact⟨60,rfl,by decide,by decide⟩
 refine⟨_,c,?_⟩;k_is;refine⟨rfl,ED v.pot λrows U J u C E=>?_⟩;k_is;refine⟨rfl,AU u.pot λH X z y T B=>?_⟩;k_is;refine q r s rows H _ z (((g.trans v).trans u).trans y) (td_tup (ac bP (ac bP (ac (td_tup (C.keep y.kp)) (ac (td_tup T) aE))))) ?_;rw[Dw.xS,E,B];simp only[Dw.ai,decide_eq_true o.1,decide_eq_true o.2,decide_eq_true hs.1,decide_eq_true hs.2,Xf]
def EG{r s:Int}{rows:List Dw.D}{hs:Dw.D}{m:D}(h:Pot p S)(hm:TD p S (.tup [.int r,.int s,.tup rows,hs]) m)(hr:0<=r)(hs0:0<=s)(hs1:s<=60)(l1:1<=rows.length)(l4:rows.length<=4)
  (q:∀ (a j f l u w:Int) S',Dr p S S'->Dw.aN rows.length r s (.tup [.int a,.int j,.int f,.int l,.int u,.int w,.int 0])=br->Q (.tup [.int a,.int j,.int f,.int l,.int u,.int w,.int 0]) S'):Ok (evC af (k+2) 33 [.ref p,m] S) Q:=by
 obtain⟨ms,rfl,H⟩:=hm.tup;refine aW (d:=fJ) (ρ:=[aD (.ref p),aD (.tup ms),aT,aT,aT,aT]) rfl rfl ?_;dsimp only[fJ,jB];k_is;refine⟨rfl,au h (by decide) (by decide) λj S1 j1 j2 L=>?_⟩;k_is;refine aO (i:=1) (H.keep L.kp) rfl λJ T=>?_;obtain rfl:=T.int;k_is;refine⟨rfl,au L.pot (by decide) (by decide) λx S2 x1 x2 J=>?_⟩;k_is;refine⟨rfl,au J.pot (by decide) (by decide) λy S3 y1 y2 d3=>?_⟩;obtain⟨n,rfl⟩:∃n:Nat,y=(n:Int):=⟨y.toNat,by lia⟩
 obtain⟨e,I,he⟩:∃e:Int,atI [D.int 0,D.int 0,D.int x] (n:Int)=aD (D.int e)/\0<=e/\e<=9:=by
  have:n=0\/n=1\/n=2:=by lia
  rcases this with rfl |rfl |rfl
  ·exact⟨0,rfl,by decide,by decide⟩
  ·exact⟨0,rfl,by decide,by decide⟩
  ·exact⟨x,rfl,by lia,by lia⟩
 refine⟨_,I,?_⟩;k_is;refine⟨rfl,au d3.pot (by decide) (by decide) λx' S4 a1 a2 O=>?_⟩;k_is;refine⟨rfl,au O.pot (by decide) (by decide) λX S5 b1 b2 Z=>?_⟩;k_is;refine⟨rfl,au Z.pot (by decide) (by decide) λy' S6 c1 c2 M=>?_⟩;obtain⟨c,rfl⟩:∃n:Nat,y'=(n:Int):=⟨y'.toNat,by lia⟩
 obtain⟨g,C,hg⟩:∃e:Int,atI [D.int x',D.int (5+X),D.int 60,D.int 200] (c:Int)=aD (D.int e)/\0<=e/\e<=200:=by
  have:c=0\/c=1\/c=2\/c=3:=by lia
  rcases this with rfl |rfl |rfl |rfl
  ·exact⟨x',rfl,by lia,by lia⟩
  ·exact⟨5+X,rfl,by lia,by lia⟩
  ·exact⟨60,rfl,by decide,by decide⟩
  ·exact⟨200,rfl,by decide,by decide⟩
 refine⟨_,C,?_⟩;k_is;refine⟨rfl,au M.pot (by decide) (by decide) λz S7 z1 z2 d7=>?_⟩;k_is;refine⟨rfl,au d7.pot (by decide) (by decide) λz' S8 z3 z4 d8=>?_⟩;k_is;refine⟨rfl,au d8.pot (by decide) (by decide) λY S9 y3 y4 d9=>?_⟩;obtain⟨b,rfl⟩:∃n:Nat,Y=(n:Int):=⟨Y.toNat,by lia⟩
 obtain⟨u,E,hu⟩:∃v:Int,atI [D.int (j+s+e),D.int (j+z),D.int z'] (b:Int)=aD (D.int v)/\0<=v/\v<=300:=by
  have:b=0\/b=1\/b=2:=by lia
  rcases this with rfl |rfl |rfl
  ·exact⟨j+s+e,rfl,by lia,by lia⟩
  ·exact⟨j+z,rfl,by lia,by lia⟩
  ·exact⟨z',rfl,by lia,by lia⟩
 refine⟨_,E,?_⟩;k_is;have o:=(((((((L.trans J).trans d3).trans O).trans Z).trans M).trans d7).trans d8).trans d9;refine aO (i:=2) (H.keep o.kp) rfl λdd T=>?_;obtain⟨rs,rfl,B⟩:=T.tup;refine aa (bv B) ?_;k_is;refine⟨rfl,au d9.pot (by lia) (by lia) λkd Sa ka kb U=>?_⟩;k_is;refine⟨rfl,au U.pot (by decide) (by decide) λw Sb w1 w2 db=>?_⟩;k_is;refine q kd j (j+s+e) (j+s+e+g) u w Sb ((o.trans U).trans db) ?_;simp only[Dw.aN,Dw.ai,Dw.leD,ZZ,Xm,bAE,decide_eq_true_eq,Yi];omega
abbrev OZ:List Dw.D:=[.non,.bl br,.bl bx,.int (-1),.int (10 ^ 30),.str "", .str "a", .str "1", .tup [],.lst [],.dic [] [],.lst [.tup []],.tup [.tup []],.tup [.int 0],.lst [.int 0],.dic [om 0] [.int 1],.tup [.bl br,.bl br]]
def O0:∀t ∈ OZ,Dw.Fit 2 2 t/\Dw.Bd (10 ^ 31) 300 t:=by
 have h:(OZ.all λt=>decide (Dw.dep t<=2) && (decide (Dw.wid t<=2) && Dw.bdB t))=br:=by kernel_rfl
 intro t H;have:=Ze.mp h t H;simp only[bAE,decide_eq_true_eq] at this;exact⟨⟨this.1,this.2.1⟩,Dw.Lb this.2.2⟩
def rG(h:Pot p S)(q:∀t d u,Dr p S u->TD p u t d->Dw.Fit 2 2 t->Dw.Bd (10 ^ 31) 300 t->Q d u):Ok (evC af (k+2) 36 [.ref p] S) Q:=by
 refine aW (d:=kh) (ρ:=[aD (.ref p),aT]) rfl rfl ?_;dsimp only[kh,pH];k_is;refine⟨⟨by decide,by decide,by decide⟩,?_⟩;have lt:=h.lt;have g0:=@ay S (Ob.lst []);have O:=@ay (S++[Ob.lst []]) (Ob.dic [] []);have J:=@ay (S++[Ob.lst []]++[Ob.dic [] []]) (Ob.lst [D.tup []]);have U:=@ay (S++[Ob.lst []]++[Ob.dic [] []]++[Ob.lst [D.tup []]]) (Ob.lst [D.int 0]);have g4:=@ay (S++[Ob.lst []]++[Ob.dic [] []]++[Ob.lst [D.tup []]]++[Ob.lst [D.int 0]]) (Ob.dic [om 0] [D.int 1]);have n0:Zh S ≠ p:=by lia
 have M:Zh (S++[Ob.lst []]) ≠ p:=by simp;lia
 have n2:Zh (S++[Ob.lst []]++[Ob.dic [] []]) ≠ p:=by simp;lia
 have n3:Zh (S++[Ob.lst []]++[Ob.dic [] []]++[Ob.lst [D.tup []]]) ≠ p:=by simp;lia
 have n4:Zh (S++[Ob.lst []]++[Ob.dic [] []]++[Ob.lst [D.tup []]]++[Ob.lst [D.int 0]]) ≠ p:=by simp;lia
 have X:Zh (S++[Ob.lst []]++[Ob.dic [] []]++[Ob.lst [D.tup []]]++[Ob.lst [D.int 0]]++[Ob.dic [om 0] [D.int 1]]) ≠ p:=by simp;lia
 have Y:=Sm.app S [Ob.lst []];have I:=Sm.app (S++[Ob.lst []]) [Ob.dic [] []];have j:=Sm.app (S++[Ob.lst []]++[Ob.dic [] []]) [Ob.lst [D.tup []]];have f:=Sm.app (S++[Ob.lst []]++[Ob.dic [] []]++[Ob.lst [D.tup []]]) [Ob.lst [D.int 0]];have c:=Sm.app (S++[Ob.lst []]++[Ob.dic [] []]++[Ob.lst [D.tup []]]++[Ob.lst [D.int 0]]) [Ob.dic [om 0] [D.int 1]];generalize hE:(S++[Ob.lst []]++[Ob.dic [] []]++[Ob.lst [D.tup []]]++[Ob.lst [D.int 0]]++[Ob.dic [om 0] [D.int 1]])=E at *;have b:=λo=>Sm.app E [o];have C:=λo=>@ay E o;generalize Zh (S++[Ob.lst []]++[Ob.dic [] []]++[Ob.lst [D.tup []]]++[Ob.lst [D.int 0]])=i4 at *;generalize Zh (S++[Ob.lst []]++[Ob.dic [] []]++[Ob.lst [D.tup []]])=i3 at *;generalize Zh (S++[Ob.lst []]++[Ob.dic [] []])=i2 at *;generalize Zh (S++[Ob.lst []])=i1 at *
 have v:∀o,TDs p (E++[o]) OZ [D.non,D.bl br,D.bl bx,D.int (-1),D.int (10 ^ Int.toNat 30),D.str (Str.ofString ""),D.str (Str.ofString "a"),D.str (Str.ofString "1"),D.tup [],D.ref (Zh S),D.ref i1,D.ref i2,D.tup [D.tup []],D.tup [D.int 0],D.ref i3,D.ref i4,D.tup [D.bl br,D.bl br]]:=λo=>by
  refine ac re (ac yM (ac yM (ac bP (ac bP (ac rf (ac rf (ac rf (ac (td_tup aE) (ac (rm n0 (b o _ _ (c _ _ (f _ _ (j _ _ (I _ _ g0))))) aE) (ac (D1 M (b o _ _ (c _ _ (f _ _ (j _ _ O)))) aE) (ac (rm n2 (b o _ _ (c _ _ (f _ _ J))) (ac (td_tup aE) aE)) (ac (td_tup (ac (td_tup aE) aE)) (ac (td_tup (ac bP aE)) (ac (rm n3 (b o _ _ (c _ _ U)) (ac bP aE)) (ac (D1 n4 (b o _ _ g4) (ac bP aE)) (ac (td_tup (ac yM (ac yM aE))) aE))))))))))))))))
 have y:∀o,Dr p S (E++[o]):=λo=>Dr.sm h ((((Y.trans I).trans j).trans f).trans (c.trans (b o)));generalize [D.non,D.bl br,D.bl bx,D.int (-1),D.int (10 ^ Int.toNat 30),D.str (Str.ofString ""),D.str (Str.ofString "a"),D.str (Str.ofString "1"),D.tup [],D.ref (Zh S),D.ref i1,D.ref i2,D.tup [D.tup []],D.tup [D.int 0],D.ref i3,D.ref i4,D.tup [D.bl br,D.bl br]]=L at *;have ll:L.length=17:=(v (Ob.lst [])).len;have lq:az eF (D.ref (Zh E)) (E++[Ob.lst L])=aD (.int 17,E++[Ob.lst L]):=by simp only[az,am,aq (C _),Zr,eF,ll];rfl
 k_is;refine aa lq ?_;k_is;refine⟨rfl,au (y _).pot (by decide) (by decide) λr z r1 r2 g=>?_⟩;obtain⟨n,rfl⟩:∃n:Nat,r=(n:Int):=⟨r.toNat,by lia⟩;have Z:=g.kp _ _ X (C (Ob.lst L));have H:n < OZ.length:=by show n < 17;lia
 obtain⟨d,e1,T⟩:=((v (Ob.lst L)).keep g.kp).get (gEG H);have ix:ixS (.ref (Zh E)) (.int (n:Int)) z=aD (d,z):=by simp only[ixS,am,aq Z,Zr,Ev.qc e1]
 refine aa ix ?_;k_is;have B:=O0 OZ[n] (ZK H);exact q _ _ _ ((y _).trans g) T B.1 B.2
def O1{T:List Dw.D}{ds:List D}(h:TDs p S T ds):ds.isEmpty=T.isEmpty:=by
 cases T with
 |nil=>rw[h.nil];rfl
 |cons t T=>obtain⟨d,r,rfl,_⟩:=h.cons;rfl
def pO{t:Dw.D}{d:D}{n m B s:Nat}(h:Pot p S)(H:TD p S t d)(C:cn t=bx)(X:Dw.Fit n m t)(J:Dw.Bd B s t)(U:2<=m)
  (q:∀t' d' u,Dr p S u->TD p u t' d'->Dw.Fit (n+2) (m+1) t'->Dw.Bd (B+10 ^ 31) (3 * s+400) t'->Q d' u):Ok (evC af (k+3) 37 [.ref p,d] S) Q:=by
 refine aW (d:=dJ) (ρ:=[aD (.ref p),aD d,aT,aT]) rfl rfl ?_;dsimp only[dJ,iI];k_is;rw[bB H,ag,C];k_is;have o:∀j,Dr p S j->Ok (evC af (k+2) 36 [D.ref p] j) λd S2=>Q d S2:=λj g=>rG g.pot λt' d' u z T f b=>q t' d' u (g.trans z) T (f.up (by lia) (by lia)) (b.up (by lia) (by lia));refine⟨rfl,pN H ?_⟩;k_is;cases I:Dw.isW t with
 |false=>k_is;exact⟨rfl,o S (Dr.refl h)⟩
 |true=>
  k_is;refine⟨rfl,au h (by decide) (by decide) λr j r1 r2 g=>?_⟩;k_is;refine bD (λ_=>?_) λ_=>?_
  ·k_is;cases t with
   |int i=>
    obtain rfl:=H.int;refine⟨⟨by decide,by decide,by decide⟩,?_⟩;k_is;refine⟨rfl,au g.pot (by decide) (by decide) λy S2 M O L=>?_⟩;obtain⟨c,rfl⟩:∃n:Nat,y=(n:Int):=⟨y.toNat,by lia⟩
    obtain⟨e,v,Y⟩:∃e:Int,atI [D.int 1,D.int (-1),D.int 9,D.int 100,D.int 9999,D.int (-10 ^ Int.toNat 4)] (c:Int)=aD (D.int e)/\e.natAbs<=10000:=by
     have:c=0\/c=1\/c=2\/c=3\/c=4\/c=5:=by lia
     rcases this with rfl |rfl |rfl |rfl |rfl |rfl
     ·exact⟨1,rfl,by decide⟩
     ·exact⟨-1,rfl,by decide⟩
     ·exact⟨9,rfl,by decide⟩
     ·exact⟨100,rfl,by decide⟩
     ·exact⟨9999,rfl,by decide⟩
     ·exact⟨-10 ^ Int.toNat 4,rfl,by decide⟩
    refine⟨_,v,?_⟩;k_is;have E:=J.bn;simp only[Dw.bnd] at E;exact q (.int (i+e)) _ S2 (g.trans L) bP (Dw.SN rfl) (Dw.La (by lia) (by lia))
   |_=>simp[Dw.isW] at I
  ·k_is;exact⟨rfl,o j g⟩
def ux:∀ (n:Nat) {S:Sto} {Q:D->Sto->Prop} {t:Dw.D} {d:D} {m B s:Nat},Pot p S->TD p S t d->Dw.Fit n m t->Dw.Bd B s t->2<=m->m<=300 ->
  (∀t' d' J,Dr p S J->TD p J t' d'->Dw.Fit (n+2) (m+1) t'->Dw.Bd (B+10 ^ 31) (3 * s+400) t'->Q d' J)->Ok (evC af (k+n+3) 37 [.ref p,d] S) Q
 |0,S,Q,t,d,m,B,s,h,ht,hf,hB,m2,m3,q=>by
  cases t with
  |tup T=>exact absurd hf.pos (by lia)
  |_=>exact pO h ht rfl hf hB m2 q
 |n+1,S,Q,t,d,m,B,s,h,ht,hf,hB,m2,m3,q=>by
  cases t with
  |tup T=>
   obtain⟨ds,rfl,hs⟩:=ht.tup;refine aW (d:=dJ) (k:=k+n+3) (ρ:=[aD (.ref p),aD (.tup ds),aT,aT]) rfl rfl ?_;dsimp only[dJ,iI];k_is;refine aa (bB ht) ?_;k_is;dsimp only[cn];k_is;refine⟨rfl,au h (by decide) (by decide) λway S1 w1 w2 j=>?_⟩;k_is;have C:=hs.keep j.kp;have ll:=hs.len;have lm:=hf.len;have m1:∀x:D,(ds++[x]).length<=1000:=λx=>by rw[Zi,ZJ];lia
   refine OV ?_ λ_ ne=>?_
   ·k_is;refine⟨rfl,rG j.pot λta O S2 u U f2 Z=>?_⟩;show Ok (aD (ds,S2)) _;rw[ag];k_is;have lt:=u.pot.lt;have g:Dr p S2 (S2++[Ob.lst ds]):=Dr.sm u.pot (Sm.app _ _);refine⟨rfl,rG g.pot λY db S4 z t4 f4 b4=>⟨by show ds.length+1<=1000;lia,?_,rfl,au z.pot (by decide) (by decide) λr S5 r1 r2 y=>?_⟩⟩
    ·have:=(hs.cut (aD (-1)) aT).len;have:=Dw.xO T (aD (-1)) aT
     lia
    ·have c:Dr p S S5:=(((j.trans u).trans g).trans z).trans y;have f:TDs p S5 T ds:=hs.keep c.kp;have a5:S5[Zh S2]?=aD (Ob.lst ds):=(z.trans y).kp _ _ (by lia) ay;obtain⟨v,rfl⟩:∃n:Nat,r=(n:Int):=⟨r.toNat,by lia⟩;have:v=0\/v=1\/v=2\/v=3:=by lia
     rcases this with rfl |rfl |rfl |rfl
     ·exact⟨_,rfl,q ta O S5 c (U.keep ((g.trans z).trans y).kp) (f2.up (by lia) (by lia)) (Z.up (by lia) (by lia))⟩
     ·exact⟨_,rfl,q (.lst T) _ S5 c (rm (by lia) a5 f) (hf.lst.up (by lia) (by lia)) ((Dw.K6 hB).up (by lia) (by lia))⟩
     ·refine⟨_,rfl,q (.tup (T++[Y])) _ S5 c (td_tup (f.app (ac (t4.keep y.kp) aE))) (Dw.Fit.tup (n:=n+2) ?_ ?_) (Dw.FV hB b4)⟩
      ·rw[Zi,ZJ];lia
      ·intro x hx;rcases Zu.mp hx with hx |hx
       ·exact(hf.mem hx).up (by lia) (by lia)
       ·rw[Zt.mp hx];exact f4.up (by lia) (by lia)
     ·refine⟨_,rfl,q (.tup (T++Dw.bg T (aD (-1)) aT)) _ S5 c (td_tup (f.app (f.cut _ _))) (Dw.Fit.tup (n:=n+2) ?_ ?_) (Dw.K8 hB)⟩
      ·rw[Zi];have:=Dw.FO T
       lia
      ·intro x hx;rcases Zu.mp hx with hx |hx
       ·exact(hf.mem hx).up (by lia) (by lia)
       ·exact(hf.mem (Dw.cA hx)).up (by lia) (by lia)
   ·k_is
    have pos:0 < T.length:=by
     cases T with
     |nil=>rw[O1 hs] at ne;cases ne
     |cons _ _=>simp
    refine aa (bv C) ?_;k_is;refine⟨rfl,au j.pot (by lia) (by lia) λat_ S2 a1 a2 u=>?_⟩;obtain⟨a,rfl⟩:∃n:Nat,at_=(n:Int):=⟨at_.toNat,by lia⟩;k_is;have c:Dr p S S2:=j.trans u;have H:TDs p S2 T ds:=hs.keep c.kp;have c1:=Dw.K2 T (a:Int) (by lia);have c2:=Dw.B0 T ((a:Int)+1) (by lia) (by lia);have e1:=(hs.cut aT (aD (a:Int))).len;have e2:=(hs.cut (aD ((a:Int)+1)) aT).len;refine bD (λ_=>?_) λ_=>?_
    ·k_is;refine⟨by lia,q _ _ S2 c (td_tup ((H.cut aT (aD (a:Int))).app (H.cut (aD ((a:Int)+1)) aT))) ((Dw.i9 (k:=n) (Dw.fk hf) (Dw.fk hf) ?_).up (by lia) (by lia)) (Dw.FY hB)⟩;rw[Zi];lia
    ·k_is;refine bD (λ_=>?_) λ_=>?_
     ·k_is;have c3:=Dw.FN T (a:Int) (by lia);have c4:=Dw.B0 T (a:Int) (by lia) (by lia);have e3:=(hs.cut (aD (a:Int)) (aD ((a:Int)+1))).len;have e4:=(hs.cut (aD (a:Int)) aT).len;have b:Dw.Fit (n+1) (m+1) (.tup T):=hf.up (Zc _) (by lia);refine⟨by lia,by rw[Zi];lia,q _ _ S2 c (td_tup (((H.cut aT (aD (a:Int))).app (H.cut (aD (a:Int)) (aD ((a:Int)+1)))).app (H.cut (aD (a:Int)) aT))) ((Dw.i9 (k:=n) (Dw.i9 (k:=n) (Dw.fk b) (Dw.fk b) ?_) (Dw.fk b) ?_).up (by lia) (by lia)) (Dw.FZ hB)⟩
      ·rw[Zi];lia
      ·rw[Zi,Zi];lia
     ·k_is;have I:a < T.length:=by lia
      refine aO H (gEG I) λx tx=>?_;have L:=ZK I;obtain⟨M,sx⟩:=Dw.K7 hB L;refine⟨rfl,ux n c.pot tx (hf.mem L) M m2 m3 λt' d' S3 g E X b'=>?_⟩;k_is;have o:=H.keep g.kp;have b:Dw.Fit (n+3) (m+1) (.tup T):=hf.up (by lia) (by lia);refine⟨by rw[ZJ];lia,by rw[Zi,ZJ];lia,q _ _ S3 (c.trans g) (td_tup (((o.cut aT (aD (a:Int))).app (ac E aE)).app (o.cut (aD ((a:Int)+1)) aT))) (Dw.i9 (k:=n+2) (Dw.i9 (k:=n+2) (Dw.fk b) (Dw.FP X (by lia)) ?_) (Dw.fk b) ?_) (Dw.K9 hB (gEG I) b')⟩
      ·rw[Zi,ZJ];lia
      ·rw[Zi,Zi,ZJ];lia
  |_=>exact(pO (k:=k+n+1) h ht rfl hf hB m2 q)
def yY{b c:Type}(f:b->c):∀ (l:List b) (j:Nat),(l.map f).eraseIdx j=(l.eraseIdx j).map f
 |[],_=>rfl
 |_::_,0=>rfl
 |a::l,j+1=>by rw[Zs,YS,YS,Zs,yY f l j]
def uy{b:Type}:∀ (l:List b) (j:Nat) (h:j < l.length),(l[j]::l.eraseIdx j).Perm l
 |a::l,0,_=>List.Perm.refl _
 |a::l,j+1,h=>by
  rw[YS,List.getElem_cons_succ];exact(List.Perm.swap _ _ _).trans ((uy l j (by simpa using h)).cons a)
def AV{L:Nat}{I:List Int}(h:Pot p S)(f:S[L]?=aD (.lst (I.map D.int)))(M:L ≠ p)(Y:I.length<=1000)
  (q:∀ (is:List Int) b,Dr p S b->is.Perm I->Q (.ref (Zh b)) (b++[.lst (is.map D.int)])):Ok (evC af (k+2) 34 [.ref p,.ref L] S) Q:=by
 refine aW (d:=gG) (ρ:=[aD (.ref p),aD (.ref L),aT]) rfl rfl ?_;dsimp only[gG,kM];k_is;have E:am (.ref L) S=aD (bx,I.map D.int):=by simp only[am,aq f,Zr]
 rw[E];show Ok (aD (I.map D.int,S)) _;rw[ag];k_is;have lt:=h.lt;have C:Dr p S (S++[Ob.lst (I.map D.int)]):=Dr.sm h (Sm.app _ _);have o:=Sm.app S [Ob.lst (I.map D.int)] _ _ f;have X:L < Zh S:=(Zb.mp f).1;k_is;refine⟨(by rw[aq o];rfl),?_⟩;have O:(I.map D.int).length=I.length:=Za _;refine gH I.length (λi=>((I.map D.int)[i]?).getD .non) (λi c b=>Ev.Kp p S b/\Pot p b/\∃left as:List Int,b[Zh S]?=aD (.lst (left.map D.int))/\c=as.map D.int/\(as++left).Perm I/\left.length+i=I.length) (λi c b J ⟨kp,_⟩=>by rw[<-O];exact iT (kp _ _ M f) _ nJ) (by lia) (λi c g J ⟨kp,pt,left,as,hf,ea,pm,ll⟩=>⟨_,rfl,?_⟩) (λZ g ⟨kp,pt,left,as,hf,ea,pm,ll⟩=>⟨by rw[ea,Za];have:=pm.length_eq;rw[Zi] at this;lia,?_⟩) ⟨C.kp,C.pot,I,[],ay,rfl,by simp,by lia⟩
 ·k_is;refine⟨cp hf,?_⟩;k_is;have U:az eF (D.ref (Zh S)) g=aD (.int left.length,g):=by simp only[az,am,aq hf,Zr,eF,Za]
  refine aa U ?_;k_is;refine⟨rfl,au pt (by lia) (by lia) λr z r1 r2 B=>?_⟩;k_is;obtain⟨j,rfl⟩:∃n:Nat,r=(n:Int):=⟨r.toNat,by lia⟩;have u:j < left.length:=by lia
  have H:=B.kp _ _ (show Zh S ≠ p by lia) hf;have y:Zh S < z.length:=(Zb.mp H).1
  have T:iE (.ref (Zh S)) [.int (j:Int)] z=aD (.int left[j],z.set (Zh S) (.lst ((left.map D.int).eraseIdx j))):=by
   have v:ixN (left.map D.int).length (j:Int)=aD j:=by
    unfold ixN;rw[if_pos (by lia),if_pos (by rw[Za];lia),ZN]
   simp only[iE,chg,H,v,Zo,gEG u,Zr]
  refine aa T ?_;k_is;refine⟨(kp.trans B.kp).setNew (Zc _),B.pot.setNe (by lia),left.eraseIdx j,as++[left[j]],by rw[rj y,yY],by rw[ea,Zv];rfl,?_,by rw[List.length_eraseIdx_of_lt u];lia⟩;refine List.Perm.trans ?_ pm;rw[ZX];exact List.Perm.append_left as (uy left j u)
 ·subst ea;k_is;have:left=[]:=Yp.mp (by lia);subst this;rw[ZO] at pm;exact q as g ⟨kp,pt⟩ pm
def pP:∀ (ps:List (Int × Int)),gg (ps.map cS)=aD ps
 |[]=>rfl
 |q::ps=>by
  rw[Zs];simp only[gg,pP ps,cS,qL]
def xa{b:Type}(d:b)(l:List b):(Zl l.length).map (λi=>l.getD i d)=l:=by
 apply List.ext_getElem
 ·simp
 ·intro i h H;simp at h;simp[h]
def AW(ps:List (Int × Int)):∃q:List (Int × Int),dC ps .non (ps.map cS)=q.map cS/\q.Perm ps:=by
 by_cases h:ps.length < 2
 ·exact⟨ps,by unfold dC;rw[if_pos (by rw[Za];exact h)],List.Perm.refl _⟩
 ·have b:0 < ps.length:=by lia
  have f:Pm ps.length (ft (og ps) (Vr ps.length)):=(qI b).run;refine⟨(ft (og ps) (Vr ps.length)).toList.map λi=>ps.getD i (0,0),?_,?_⟩
  ·unfold dC;rw[if_neg (by rw[Za];exact h),Za,Yd];refine YL λi c=>?_;have H:=(qK (lt:=og ps) b).1 i c;simp[H]
  ·have e:(ft (og ps) (Vr ps.length)).toList.Perm (Zl ps.length):=by
    have:=Array.perm_iff_toList_perm.mp f
    simpa using this
   have:=e.map λi=>ps.getD i (0,0)
   rwa [xa] at this
abbrev GL(n:Nat)(r s:Int)(g:List Int):Prop:=g.length=7/\Dw.aN n r s (.tup (g.map Dw.D.int))=br
def iV{g:List Int}(h:g.length=7):∃a b c d e f i,g=[a,b,c,d,e,f,i]:=by
 match g,h with
 |[a,b,c,d,e,f,i],_=>exact⟨a,b,c,d,e,f,i,rfl⟩
abbrev iq(M:List (List Int))(i:Nat):Int:=((M[i]?).getD []).getD 6 0
abbrev gE(g:List Int):D:=.tup (g.map D.int)
def AX(ds:List D)(j:Nat):bg ds aT (aD (j:Int))=ds.take j:=by
 by_cases h:j<=ds.length
 ·exact ja ds j h
 ·unfold bg;rw[Dw.mj _ _ (by lia),ZN,Nat.min_eq_right (by lia)];show(ds.drop 0).take (ds.length - 0)=ds.take j;rw[YJ,Yj (by lia),Yj (by lia)]
def Sr{S:Sto}(M:List (List Int)):TDs p S (Dw.eR M) (M.map gE):=w9 M
def EH{M:List (List Int)}{n:Nat}{r s:Int}(H:∀g ∈ M,GL n r s g){i:Nat}(h:i < M.length):Dw.dr (Dw.eR M) i=iq M i:=by
 obtain⟨a,b,c,d,e,f,x,E⟩:=iV (H M[i] (ZK h)).1;unfold Dw.dr Dw.eR iq;rw[Zo,gEG h,E];rfl
def IR{r s:Int}{rows hs:List Dw.D}{M:List (List Int)}{fx:List Int}{T:Dw.D}(y:Dw.ba (.tup [.int r,.int s,.tup rows,.tup hs])=br)(B:Dw.bA rows.length T=br)(H:∀g ∈ M,GL rows.length r s g)(u:M.length<=7)(nd:fx.Nodup)(f:∀x ∈ fx,0<=x/\x < (M.length:Int))(z:∀j:Nat,j < M.length->iq M j=0\/(j:Int) ∈ fx) :
  Dw.cR (.tup [.tup [.int r,.int s,.tup rows,.tup hs],T,.tup (Dw.eR M),.tup (fx.map Dw.D.int)])=br:=by
 have L:(Dw.eR M).length=M.length:=by unfold Dw.eR;rw[Za]
 have o:(Dw.eR M).all (Dw.aN rows.length r s)=br:=by
  unfold Dw.eR;rw[ZW,Ze];exactλg q=>(H g q).2
 have E:Dw.aH (fx.map Dw.D.int)=fx:=by unfold Dw.aH;rw[Yd];exact(YL λx _=>rfl).trans (List.map_id fx)
 have c:Dw.bN (Dw.eR M).length (.tup (fx.map Dw.D.int))=br:=by
  refine Dw.kw ?_ (by rw[E];exact nd);rw[ZW,Ze];intro x v;have:=f x v;show(decide (0<=x) && decide (x<=((Dw.eR M).length:Int) - 1))=br;rw[L,bAE,decide_eq_true_eq,decide_eq_true_eq]
  lia
 rw[L] at c;rw[Dw.qA,y];simp only[Dw.dX,Dw.gO,Dw.jP,B,ZR,Dw.aI,o,L,decide_eq_true u,Dw.tupOf,Dw.bH,c,E];unfold Dw.zL;rw[ZW,Ze];intro i b;rw[L] at b;have h:=ZT.mp b;show(decide (Dw.dr (Dw.eR M) i=0) || decide (((i:Nat):Int) ∈ fx))=br;rw[EH H h,YC,decide_eq_true_eq,decide_eq_true_eq];exact z i h
def xc{r s:Int}{rows hs:List Dw.D}{m:D}{G N:Nat}{M:List (List Int)}{is:List Int}{S0:Sto}(h:Pot p S)(k0:Ev.Kp p S0 S)(l0:S0.length<=G)(hm:∀S,TD p S (.tup [.int r,.int s,.tup rows,.tup hs]) m)(em:Dw.ba (.tup [.int r,.int s,.tup rows,.tup hs])=br)
  (hG:S[G]?=aD (.lst (M.map gE))) (U:G ≠ p) (hN:S[N]?=aD (.lst (is.map D.int))) (nN:N ≠ p) (nGN:G < N) (hM:∀g ∈ M,GL rows.length r s g) (h0:∀i,iq M i=0) (l7:M.length<=7) (pm:is.Perm ((Zl M.length).map λi=>Int.ofNat i))
  (q:∀Y tg tf d C,Ev.Kp p S0 C->Pot p C->TD p C (.tup [.tup [.int r,.int s,.tup rows,.tup hs],Y,tg,tf]) d->Dw.cR (.tup [.tup [.int r,.int s,.tup rows,.tup hs],Y,tg,tf])=br->Q d C) :
  rW (wSs (evC af (k+1)) (cN af) 56 (g9.drop 4)) [aD (.ref p),aD (.int 7),aD m,aD (.ref G),aD (.ref N),aT,aT,aT] S (out Q):=by
 dsimp only[g9,YD];k_is;obtain⟨r',s',rows',hs',eqm,r0,r8,s0,s60,hg,hh⟩:=Dw.eT em;cases eqm
 have lr:1<=rows.length/\rows.length<=4:=by
  simp only[Dw.aR,bAE,decide_eq_true_eq] at hg;exact hg.1
 refine⟨rfl,au h (by decide) (by decide) λx B x1 x2 d1=>?_⟩;obtain⟨c,rfl⟩:∃n:Nat,x=(n:Int):=⟨x.toNat,by lia⟩
 have at4:atI [D.int 0,D.int 1,D.int 2,D.int 3] (c:Int)=aD (D.int c):=by
  have:c=0\/c=1\/c=2\/c=3:=by lia
  rcases this with rfl |rfl |rfl |rfl <;> rfl
 refine⟨_,at4,?_⟩;k_is;have hN1:=d1.kp _ _ nN hN;have hG1:=d1.kp _ _ U hG
 have hsl:slS aT (aD (c:Int)) (D.ref N) B=aD (D.ref (Zh B),B++[Ob.lst ((is.take c).map D.int)]):=by
  simp only[slS,aq hN1,AX,Wk]
 refine aa hsl ?_;k_is;have d2:Dr p B (B++[Ob.lst ((is.take c).map D.int)]):=Dr.sm d1.pot (Sm.app _ _);have hF2:(B++[Ob.lst ((is.take c).map D.int)])[Zh B]?=aD (Ob.lst ((is.take c).map D.int)):=ay;have hG2:=d2.kp _ _ U hG1;have k2:=(k0.trans d1.kp).trans d2.kp;have lt1:=d1.pot.lt;have nF:Zh B ≠ p:=by lia
 have nFG:Zh B ≠ G:=by have:=(Zb.mp hG1).1;lia
 refine⟨(by rw[aq hF2];rfl),?_⟩;generalize B++[Ob.lst ((is.take c).map D.int)]=S2 at *;generalize Zh B=F at *
 have pe:∀x ∈ is,0<=x/\x < (M.length:Int):=λx hx=>by
  have:=pm.mem_iff.mp hx;obtain⟨i,hi,rfl⟩:=ZH.mp this;have:=ZT.mp hi;show 0<=(i:Int)/\(i:Int) < M.length
  lia
 have nd:is.Nodup:=pm.nodup_iff.mpr (List.pairwise_map.mpr (List.nodup_range.imp λh z=>h (Int.ofNat.inj z)));have pf:∀x ∈ is.take c,0<=x/\x < (M.length:Int):=λx hx=>pe x (YI hx);have ndf:(is.take c).Nodup:=nd.sublist (Y7 c is);generalize is.take c=fx at *
 have lf:fx.length<=1000:=by
  have:=Dw.dW M.length fx ndf pf
  lia
 have lmf:(fx.map D.int).length=fx.length:=Za _
 have fin:∀ (f:List (List Int)) (Y:Dw.D) (da:D) S3,Ev.Kp p S0 S3->Pot p S3->S3[G]?=aD (Ob.lst (f.map gE))->S3[F]?=aD (Ob.lst (fx.map D.int))->f.length=M.length->(∀g ∈ f,GL rows.length r s g)->(∀j:Nat,iq f j=0\/(j:Int) ∈ fx)->TD p S3 Y da->Dw.bA rows.length Y=br ->
   Q (D.tup [m,da,D.tup (f.map gE),D.tup (fx.map D.int)]) S3:=λf Y da S3 k3 p3 _ _ l3 H o tda ea=>by
  refine q Y (.tup (Dw.eR f)) (.tup (fx.map Dw.D.int)) _ S3 k3 p3 (td_tup (ac (hm S3) (ac tda (ac (td_tup (Sr f)) (ac (td_tup (yX fx)) aE))))) ?_;exact IR em ea H (by lia) ndf (λx hx=>by rw[l3];exact pf x hx) λj _=>o j
 refine eA fx.length (λi ρ C=>Ev.Kp p S0 C/\Pot p C/\∃ (f:List (List Int)) (u:Option D),ρ=[aD (.ref p),aD (.int 7),aD m,aD (.ref G),aD (.ref N),aD (.ref F),u,aT]/\C[G]?=aD (Ob.lst (f.map gE))/\C[F]?=aD (Ob.lst (fx.map D.int))/\f.length=M.length/\(∀g ∈ f,GL rows.length r s g)/\∀j:Nat,iq f j=0\/(j:Int) ∈ fx) (by unfold LF;lia) (λi ρ S3 hi ⟨k3,p3,f,u,er,g3,f3,l3,H,o⟩=>?_) (λρ S3 ⟨k3,p3,f,u,er,g3,f3,l3,H,o⟩=>⟨?_,?_⟩) ⟨k2,d2.pot,M,aT,rfl,hG2,hF2,rfl,hM,λj=>.inl (h0 j)⟩
 ·subst er;have hx:=pf fx[i] (ZK hi);obtain⟨j,ej⟩:∃n:Nat,fx[i]=(n:Int):=⟨fx[i].toNat,by lia⟩;have jin:(j:Int) ∈ fx:=ej ▸ ZK hi;have hj:j < f.length:=by lia
  refine⟨.int j,_,by rw[iT f3 (λi=>((fx.map D.int)[i]?).getD .non) nJ,if_pos (by rw[lmf];exact hi)];simp[gEG hi,ej],rfl,?_⟩;k_is;refine⟨rfl,au p3 (by decide) (by decide) λy J y1 y2 v=>?_⟩;k_is;have I:=v.kp _ _ U g3;have O:=v.kp _ _ nF f3;have k4:=k3.trans v.kp
  have mt:∀S,ixS m (.int 0) S=aD (.int r,S):=λS=>by
   obtain⟨ms,rfl,Z⟩:=(hm S).tup;obtain⟨a,b,c',d',rfl,t1,_⟩:=uw Z;obtain rfl:=t1.int;rfl
  cases ey:decide (y=0) with
  |false=>k_is;exact⟨k4,v.pot,f,_,rfl,I,O,l3,H,o⟩
  |true=>
   k_is;rw[mt,ag];k_is;cases er0:decide (0 < r) with
   |false=>k_is;exact⟨k4,v.pot,f,_,rfl,I,O,l3,H,o⟩
   |true=>
    have hr0:=of_decide_eq_true er0;k_is;have gj:=(H f[j] (ZK hj));obtain⟨X,L,a3,a4,a5,a6,a7,eg⟩:=iV gj.1
    have ix1:ixS (.ref G) (.int (j:Int)) J=aD (gE f[j],J):=by
     have:(f.map gE)[j]?=aD (gE f[j]):=by rw[Zo,gEG hj];rfl
     simp only[ixS,am,aq I,Zr,Ev.qc this]
    refine aa ix1 ?_;k_is;rw[eg];rw[show gE [X,L,a3,a4,a5,a6,a7]=D.tup [.int X,.int L,.int a3,.int a4,.int a5,.int a6,.int a7] from rfl];k_is;rw[show bg [D.int X,.int L,.int a3,.int a4,.int a5,.int a6,.int a7] aT (aD 6)=[.int X,.int L,.int a3,.int a4,.int a5,.int a6] from rfl,mt,ag];k_is;refine⟨rfl,au v.pot hr0 (by lia) λz S5 z1 z2 E=>?_⟩;k_is;have g5:=E.kp _ _ U I;have f5:=E.kp _ _ nF O;have lt5:G < S5.length:=(Zb.mp g5).1;refine⟨by show 7<=1000;decide,?_⟩;refine⟨S5.set G (.lst ((f.map gE).set j (.tup [.int X,.int L,.int a3,.int a4,.int a5,.int a6,.int (1+z)]))),?_,?_⟩
    ·have hix:ixN (f.map gE).length (j:Int)=aD j:=by
      unfold ixN;rw[if_pos (by lia),if_pos (by rw[Za];lia),ZN]
     simp only[oh,g5,hix,Zr];rfl
    ·k_is;refine⟨(k4.trans E.kp).setNew l0,E.pot.setNe U,f.set j [X,L,a3,a4,a5,a6,1+z],_,rfl,?_,?_,by rw[YA];exact l3,λg hg=>?_,λj'=>?_⟩
     ·rw[rj lt5,List.map_set];rfl
     ·rw[ZE (Ne.symm nFG)];exact f5
     ·rcases List.mem_or_eq_of_mem_set hg with hg |rfl
      ·exact H g hg
      ·refine⟨rfl,?_⟩;have:=gj.2;rw[eg] at this;simp only[Zs,ZV,Dw.aN,Dw.ai,Dw.leD,ZZ,Xm,bAE,decide_eq_true_eq,Yi] at this ⊢;omega
     ·by_cases hjj:j'=j
      ·subst hjj;exact .inr jin
      ·rcases o j' with z |z
       ·left;unfold iq at z ⊢;rw[ZE (Ne.symm hjj)];exact z
       ·exact .inr z
 ·subst er;rw[iT f3 (λi=>((fx.map D.int)[i]?).getD .non) nJ,if_neg (by rw[lmf];exact ZQ _)]
 ·subst er;k_is;refine⟨rfl,au p3 (by decide) (by decide) λy J y1 y2 v=>?_⟩;k_is;have T:∀ (S:Sto) (a:Nat) (ds:List D),S[a]?=aD (Ob.lst ds)->az ia (.ref a) S=aD (.tup ds,S):=λS a ds e=>by simp only[az,am,aq e,Zr,ia]
  have I:=v.kp _ _ U g3;have O:=v.kp _ _ nF f3;refine bD (λ_=>?_) λ_=>?_
  ·k_is;obtain⟨ms,em',Z⟩:=(hm J).tup
   have ix2:Ok (ixS m (.int 2) J) λd S=>∃rs,d = .tup rs/\S=J/\TDs p J rows rs:=by
    rw[em'];exact aO (i:=2) Z rfl λd t=>let ⟨rs,e,z⟩:=t.tup;⟨rs,e,rfl,z⟩
   refine ix2.mono λd C ⟨rs,e,es,z⟩=>?_;subst e es;refine aa (bv z) ?_;k_is;refine⟨rfl,au v.pot (by lia) (by lia) λa S5 X L E=>?_⟩;k_is;refine⟨rfl,au E.pot (by decide) (by decide) λb S6 b1 b2 d6=>?_⟩;k_is;have g6:=(E.trans d6).kp _ _ U I;have f6:=(E.trans d6).kp _ _ nF O;refine aa (T _ _ _ g6) (aa (T _ _ _ f6) ?_);k_is;refine fin f (.tup [.int a,.int b]) _ S6 ((k3.trans v.kp).trans (E.trans d6).kp) d6.pot g6 f6 l3 H o (td_tup (ac bP (ac bP aE))) ?_;simp only[Dw.bA,Dw.ai,bAE,decide_eq_true_eq]
   lia
  ·k_is;refine aa (T _ _ _ I) (aa (T _ _ _ O) ?_);k_is;exact fin f .non .non J (k3.trans v.kp) v.pot I O l3 H o re rfl
mutual
noncomputable def aY:Dw.D->Bool
 |.non=>br
 |.int i=>decide (i.natAbs < 10 ^ 20)
 |.tup ts=>c7 ts
 |_=>bx
noncomputable def c7:List Dw.D->Bool
 |[]=>br
 |t::ts=>aY t && c7 ts
end
def b8:∀ {T:List Dw.D},(∀t ∈ T,aY t=br)->c7 T=br
 |[],_=>by rw[c7]
 |t::T,h=>by rw[c7,h t Zd,b8 λb H=>h b (Zf _ H)];rfl
def kO:∀ {T:List Dw.D},c7 T=br->∀t ∈ T,aY t=br
 |t::T,h,t',ht=>by
  rw[c7,bAE] at h;rcases Zm.mp ht with rfl |ht
  ·exact h.1
  ·exact kO h.2 t' ht
mutual
theorem TD.any{c:Nat}{S b:Sto}:∀ {t:Dw.D} {d:D},aY t=br->TD p S t d->TD c b t d
 |.non,_,_,h=>by rw[h.non];exact re
 |.int _,_,_,h=>by rw[h.int];exact bP
 |.tup ts,_,f,h=>by
  rw[aY] at f;obtain⟨g,rfl,q⟩:=h.tup;exact td_tup (TDs.any f q)
 |.bl _,_,f,_=>by simp[aY] at f
 |.str _,_,f,_=>by simp[aY] at f
 |.lst _,_,f,_=>by simp[aY] at f
 |.dic _ _,_,f,_=>by simp[aY] at f
theorem TDs.any{c:Nat}{S b:Sto}:∀ {T:List Dw.D} {ds:List D},c7 T=br->TDs p S T ds->TDs c b T ds
 |[],_,_,h=>by rw[h.nil];exact aE
 |t::T,_,f,h=>by
  rw[c7,bAE] at f;obtain⟨d,r,rfl,a,q⟩:=h.cons;exact ac (TD.any f.1 a) (TDs.any f.2 q)
end
def nM{t:Dw.D}{a b:Int}(h:Dw.ai t a b=br)(f:-10000<=a)(H:b<=10000):aY t=br:=by
 obtain⟨i,rfl,g,c⟩:=Dw.aj h;rw[aY];exact decide_eq_true (by lia)
def rH{r s:Int}{rows hs:List Dw.D}(E:Dw.ba (.tup [.int r,.int s,.tup rows,.tup hs])=br):aY (.tup [.int r,.int s,.tup rows,.tup hs])=br:=by
 rw[Dw.xS] at E;simp only[bAE] at E;obtain⟨g,j,f,c⟩:=E;rw[aY];refine b8 λt H=>?_;simp only[Zm,Yh,or_false] at H;rcases H with rfl |rfl |rfl |rfl
 ·exact nM g (by decide) (by decide)
 ·exact nM j (by decide) (by decide)
 ·rw[aY];simp only[Dw.aR,bAE] at f;refine b8 λt H=>?_;have:=Ze.mp f.2.1 t H;cases t with
  |tup u=>
   simp only[Dw.bL,bAE] at this;rw[aY];exact b8 λT h=>nM (Ze.mp this.2 T h) (by decide) (by decide)
  |_=>simp[Dw.bL] at this
 ·rw[aY];simp only[Dw.aM,bAE] at c;refine b8 λt H=>?_;obtain⟨b,e,rfl,B,o,C,q,_⟩:=Dw.mh (Ze.mp c.2.1 t H);rw[aY];refine b8 λT h=>?_;simp only[Zm,Yh,or_false] at h;rcases h with rfl |rfl <;> (rw[aY];exact decide_eq_true (by lia))
def EI(h:Pot p S)(q:∀tm Z U tf d c,Dr p S c->TD p c (.tup [tm,Z,U,tf]) d->Dw.cR (.tup [tm,Z,U,tf])=br->Q d c):Ok (evC af (k+4) 35 [.ref p,.int 7] S) Q:=by
 refine aW (d:=kg) (ρ:=[aD (.ref p),aD (.int 7),aT,aT,aT,aT,aT,aT]) rfl rfl ?_;dsimp only[kg,g9];k_is;refine⟨rfl,EF h λr s rows hs m S1 d1 tm em=>?_⟩;k_is;obtain⟨r',s',rows',hs',eqm,r0,r8,s0,s60,C,hh⟩:=Dw.eT em;cases eqm
 have lr:1<=rows.length/\rows.length<=4:=by
  simp only[Dw.aR,bAE,decide_eq_true_eq] at C;exact C.1
 refine⟨rfl,au d1.pot (by decide) (by decide) λx S2 x1 x2 d2=>?_⟩;obtain⟨n,rfl⟩:∃n:Nat,x=(n:Int):=⟨x.toNat,by lia⟩;k_is;have I:∀S,TD p S (.tup [.int r,.int s,.tup rows,.tup hs]) m:=λS=>TD.any (rH em) tm;refine⟨(by simp only[lim,bAE,decide_eq_true_eq];lia),?_⟩;rw[ZN];refine wL (by lia) (λi b c=>Dr p S2 c/\∃M:List (List Int),b=M.map gE/\M.length=i/\(∀g ∈ M,GL rows.length r s g)/\∀j,iq M j=0) (λi b S3 H ⟨z,M,E,lM,Y,h0⟩=>⟨_,rfl,?_⟩) (λes S3 ⟨z,M,E,lM,Y,h0⟩=>⟨by rw[E,Za];lia,?_⟩) ⟨Dr.refl d2.pot,[],rfl,rfl,λg C=>by simp at C,λj=>by unfold iq;simp⟩
 ·k_is;refine⟨rfl,EG (k:=k+1) z.pot (I S3) r0 s0 s60 lr.1 lr.2 λa j f l u w v L C=>?_⟩;refine⟨z.trans L,M++[[a,j,f,l,u,w,0]],by rw[E,Zv];rfl,by simp[lM],λg hg'=>?_,λj'=>?_⟩
  ·rcases Zu.mp hg' with hg' |hg'
   ·exact Y g hg'
   ·rw[Zt.mp hg'];exact⟨rfl,C⟩
  ·have:=h0 j';unfold iq at this ⊢;by_cases hj:j' < M.length
   ·rw[Zw hj];exact this
   ·by_cases hj2:j'=M.length
    ·subst hj2;rw[Zn (Zc _),Z7];rfl
    ·rw[ZG (by rw[Zi,ZJ];lia)];rfl
 ·subst E;have lt3:=z.pot.lt;have L:Dr p S3 (S3++[Ob.lst (M.map gE)]):=Dr.sm z.pot (Sm.app _ _);have g4:(S3++[Ob.lst (M.map gE)])[Zh S3]?=aD (Ob.lst (M.map gE)):=ay
  have lS:S.length<=Zh S3:=by
   have hkp:=((d1.trans d2).trans z).kp;by_cases hz:S.length<=Zh S3
   ·exact hz
   ·exfalso;have hlt:Zh S3 < S.length:=by lia
    have hx:Zh S3 ≠ p:=by lia
    have:=hkp (Zh S3) S[Zh S3] hx (gEG hlt);rw[ZG (Zc _)] at this;cases this
  k_is;have lq:az eF (D.ref (Zh S3)) (S3++[Ob.lst (M.map gE)])=aD (.int M.length,S3++[Ob.lst (M.map gE)]):=by simp only[az,am,aq g4,Zr,eF,Za]
  refine aa lq ?_;k_is;refine⟨_,rfl,by lia,?_⟩;have X:Zh S3 ≠ p:=by lia
  have lGN:Zh S3 < Zh (S3++[Ob.lst (M.map gE)]):=by simp
  have k4:=((d1.trans d2).trans z).trans L;generalize S3++[Ob.lst (M.map gE)]=v at *;have d5:Dr p v (v++[Ob.lst ((Zl M.length).map λj=>D.int (Int.ofNat j))]):=Dr.sm L.pot (Sm.app _ _);have n5:(v++[Ob.lst ((Zl M.length).map λj=>D.int (Int.ofNat j))])[Zh v]?=aD (Ob.lst (((Zl M.length).map λj=>Int.ofNat j).map D.int)):=by rw[Yd];exact ay
  have g5:=d5.kp _ _ X g4;have lt4:=L.pot.lt;have nN:Zh v ≠ p:=by lia
  generalize v++[Ob.lst ((Zl M.length).map λj=>D.int (Int.ofNat j))]=S5 at *;generalize Zh S3=G at *;generalize hLN:Zh v=N at *
  have T:∀ (is:List Int) (J:Nat) (c:Sto),Ev.Kp p S c->Pot p c->c[G]?=aD (Ob.lst (M.map gE))->c[J]?=aD (Ob.lst (is.map D.int))->J ≠ p->G < J->is.Perm ((Zl M.length).map λi=>Int.ofNat i) ->
    rW (wSs (evC af (k+2+1)) (cN af) 56 (g9.drop 4)) [aD (.ref p),aD (.int 7),aD m,aD (.ref G),aD (.ref J),aT,aT,aT] c (out Q):=λis J c kp pt hG hN' nN' gN pm=>
   xc pt kp lS I em hG X hN' nN' gN Y h0 (by lia) pm λZ U tf d c k' p' td hsk=>q _ Z U tf d c ⟨k',p'⟩ td hsk
  dsimp only[g9,YD] at T;k_is;refine⟨rfl,au d5.pot (by decide) (by decide) λy S6 y1 y2 B=>?_⟩;k_is;have O:=B.kp _ _ X g5;have n6:=B.kp _ _ nN n5;have k6:Ev.Kp p S S6:=(k4.kp.trans d5.kp).trans B.kp;have lt6:=B.pot.lt;have lG6:G < Zh S6:=(Zb.mp O).1;refine bD (λ_=>?_) λ_=>?_
  ·k_is;refine⟨(by rw[aq O];rfl),?_⟩;have lm:(M.map gE).length=M.length:=Za _;refine gH M.length (λi=>.tup [.int i,((M.map gE)[i]?).getD .non]) (λi b c=>c=S6/\b=((Zl i).map λj=>((((M[j]?).getD []).getD 2 0:Int),(Int.ofNat j))).map cS) (λi b c H ⟨e,_⟩=>by subst e;rw[<-lm];exact yR (i:=i) O (by lia) (λi=>.tup [.int i,((M.map gE)[i]?).getD .non]) λj d hd=>by show D.tup [.int j,((M.map gE)[j]?).getD .non]=_;rw[hd];rfl) (by lia) (λi b S7 H ⟨e7,E⟩=>?_) (λes S7 ⟨e7,E⟩=>⟨by rw[E,Za,Za,Z2];lia,?_⟩) ⟨rfl,rfl⟩
   ·subst e7;obtain⟨b1,b2,b3,b4,b5,b6,b7,eg⟩:=iV (Y M[i] (ZK H)).1;have g1:((M.map gE)[i]?).getD .non=gE [b1,b2,b3,b4,b5,b6,b7]:=by rw[Zo,gEG H,eg];rfl
    rw[g1];refine⟨_,iS (by simp) (by simp),?_⟩;k_is;show Ok (aD (D.int b3,S7)) _;rw[ag];k_is;refine⟨rfl,?_⟩;rw[E,Yc,Zv,Zv];simp[cS,gEG H,eg]
   ·subst e7;have lps:((Zl M.length).map λj=>((((M[j]?).getD []).getD 2 0:Int),(Int.ofNat j))).length=M.length:=by rw[Za,Z2]
    have snd:((Zl M.length).map λj=>((((M[j]?).getD []).getD 2 0:Int),(Int.ofNat j))).map (·.2)=(Zl M.length).map λi=>Int.ofNat i:=by rw[Yd];rfl
    generalize (Zl M.length).map (λj=>((((M[j]?).getD []).getD 2 0:Int),(Int.ofNat j)))=ps at *;subst E;obtain⟨o,e1,pq⟩:=AW ps;refine⟨o.map cS,?_,?_⟩
    ·show(if bx=bx then z9 bx (ps.map cS) else aT)=_;rw[if_pos rfl];simp only[z9,pP];rw[if_pos (by rw[Za];lia),e1]
    ·have lq:o.length=M.length:=by rw[pq.length_eq];exact lps
     refine gH o.length (λi=>((o.map cS)[i]?).getD .non) (λi b c=>c=S7/\b=((o.map (·.2)).take i).map D.int) (λi b c H ⟨e,_⟩=>by
      show aD (o.map cS)[i]?=_;split
      ·rename_i hh;rw[Zo,gEG hh];rfl
      ·rename_i hh;rw[ZG (by rw[Za];lia)]) (by lia) (λi b S8 H ⟨e8,E⟩=>?_) (λes S8 ⟨e8,E⟩=>⟨by rw[E,Za,ZA,Za];lia,?_⟩) ⟨rfl,rfl⟩
     ·subst e8;have g1:((o.map cS)[i]?).getD .non = .tup [.int o[i].1,.int o[i].2]:=by rw[Zo,gEG H];rfl
      rw[g1];refine⟨_,rfl,?_⟩;k_is;show Ok (aD (D.int o[i].2,S8)) _;rw[ag];k_is;refine⟨rfl,?_⟩;have hi':i < (o.map (·.2)).length:=by rw[Za];exact H
      rw[E,ZM hi',Zv,List.getElem_map];rfl
     ·subst e8;rw[Yj (by rw[Za];exact Zc _)] at E;subst E;k_is;exact T (o.map (·.2)) (Zh S8) _ (k6.trans (Sm.app _ _).kp) (Dr.sm B.pot (Sm.app _ _)).pot (Sm.app _ _ _ _ O) ay (by lia) lG6 (by rw[<-snd];exact pq.map _)
  ·k_is;refine⟨rfl,AV (k:=k+1) B.pot n6 nN (by rw[Za,Z2];lia) λis S7 d7 pm=>?_⟩;have g7:=d7.kp _ _ X O;have lt7:=d7.pot.lt;have lG7:G < Zh S7:=(Zb.mp g7).1;k_is;exact T is (Zh S7) _ ((k6.trans d7.kp).trans (Sm.app _ _).kp) (Dr.sm d7.pot (Sm.app _ _)).pot (Sm.app _ _ _ _ g7) ay (by lia) lG7 pm
structure PF(n:Nat)(t:Dw.D):Prop where
 pl:aY t=br
 de:Dw.dep t<=n
 wi:Dw.wid t<=8
def PF.tup{n:Nat}{T:List Dw.D}(hl:T.length<=8)(h:∀t ∈ T,PF n t):PF (n+1) (.tup T):=by
 have f:=Dw.Fit.tup (n:=n) (m:=8) hl λt H=>⟨(h t H).de,(h t H).wi⟩;exact⟨by rw[aY];exact b8 λt H=>(h t H).pl,f.de,f.wi⟩
def PF.up{n m:Nat}{t:Dw.D}(h:PF n t)(H:n<=m):PF m t:=⟨h.pl,Zz h.de H,h.wi⟩
def xg{n:Nat}{i:Int}(h:i.natAbs < 10 ^ 20):PF n (.int i):=⟨by rw[aY];exact decide_eq_true h,by simp[Dw.dep],by simp[Dw.wid]⟩
def O2{n:Nat}:PF n .non:=⟨by rw[aY],by simp[Dw.dep],by simp[Dw.wid]⟩
abbrev cB:Nat->Nat
 |0=>60
 |n+1=>8 * (cB n+2)+4
def EJ{c:Nat}:∀ {ts:List Dw.D},(∀t ∈ ts,Dw.sz t<=c)->Dw.szL ts<=ts.length * (c+2)
 |[],_=>by simp[Dw.szL]
 |t::ts,h=>by
  have b:=h t Zd;have f:=EJ (ts:=ts) λT H=>h T (Zf _ H);rw[Dw.szL,ZB,XU]
  lia
def EK:∀n,60<=cB n
 |0=>Zc _
 |n+1=>by have:=EK n;rw[cB];lia
def EL:∀ (n:Nat) {t:Dw.D},PF n t->Dw.Bd (10 ^ 31) (cB n) t
 |n,.non,h=>⟨by simp only[Dw.bnd],by rw[Dw.sz];have:=EK n;lia⟩
 | n,.int i,h=>⟨by
   have:=h.pl;rw[aY] at this;have:=of_decide_eq_true this;simp only[Dw.bnd]
   lia,by rw[Dw.sz];exact EK n⟩
 |0,.tup ts,h=>by have:=h.de;rw[Dw.dep] at this;lia
 |n+1,.tup ts,h=>by
  have b:=h.pl;rw[aY] at b;have f:Dw.Fit (n+1) 8 (.tup ts):=⟨h.de,h.wi⟩;have each:∀t ∈ ts,Dw.Bd (10 ^ 31) (cB n) t:=λt H=>EL n ⟨kO b t H,(f.mem H).de,(f.mem H).wi⟩;have L:=f.len;refine Dw.jQ (λt H=>(each t H).bn) ?_;have:=EJ (c:=cB n) λt H=>(each t H).sz;have g:ts.length * (cB n+2)<=8 * (cB n+2):=Nat.mul_le_mul_right _ L;rw[cB]
  lia
 |n,.bl _,h=>by have:=h.pl;simp[aY] at this
 |n,.str _,h=>by have:=h.pl;simp[aY] at this
 |n,.lst _,h=>by have:=h.pl;simp[aY] at this
 |n,.dic _ _,h=>by have:=h.pl;simp[aY] at this
structure Shw(t:Dw.D):Prop where
 sh:Dw.Shn t
 de:Dw.dep t<=50
 wi:Dw.wid t<=1000
def O3{n m B s:Nat}{t:Dw.D}(f:Dw.Fit n m t)(b:Dw.Bd B s t)(H:n<=50)(c:m<=1000)(h:B<=10 ^ 50)(hs:s<=16000000):Shw t:=
 ⟨b.shn h (by rw[Ug];lia) (Zz f.de (by lia)),Zz f.de H,Zz f.wi c⟩
def O4{t:Dw.D}(h:PF 4 t):Shw t:=O3 (n:=4) (m:=8) ⟨h.de,h.wi⟩ (EL 4 h) (by decide) (by decide) (by decide) (by decide)
end Lw
namespace Lw
open PySem Ev L2
abbrev aL(i:Int):Str:=toString i
abbrev cq(x:Str):List Nat:=x.cps.toList
abbrev EM(c:Nat):Bool:=decide (48<=c) && decide (c<=57)
abbrev O5(n:Nat):List Nat:=(Nat.toDigits 10 n).map Char.toNat
abbrev Ss(n:Nat):Bool:=let x:=O5 n;x.all EM && decide (1<=x.length) && decide (x.length<=4) && (decide (n=0) || !(x.head? == aD 48))
def IS:(Zl 10000).all Ss=br:=by decide +kernel
structure NumOk(i:Int):Prop where
 dig:∀c ∈ cq (aL i),EM c=br
 pos:1<=(aL i).cps.size
 len:(aL i).cps.size<=4
 hd:i=0\/(cq (aL i)).head? ≠ aD 48
 rd:intText? (aL i)=aD i
def iW{i:Int}(H:0<=i)(f:i<=9999):NumOk i:=by
 obtain⟨n,rfl⟩:∃n:Nat,i=(n:Int):=⟨i.toNat,by lia⟩;have h:=Ze.mp IS n (ZT.mpr (by lia));have e:cq (aL (n:Int))=O5 n:=PySem.W.KIN.signs_num n;have E:(aL (n:Int)).cps.size=(O5 n).length:=by rw[<-e];exact(Z1 ..).symm
 unfold Ss at h;simp only[bAE,Ze,YC,decide_eq_true_eq] at h;obtain⟨⟨⟨a,b⟩,c⟩,d⟩:=h;refine⟨by rw[e];exact a,by rw[E];exact b,by rw[E];exact c,?_,PySem.W.KIN.num_reads H (by lia)⟩;rw[e];rcases d with d |d
 ·exact .inl (by lia)
 ·right;intro z;rw[z] at d;simp at d
def EN:aL 0=("0" : Str):=by decide +kernel
abbrev aU(w:Str)(l:List Int):Str:=l.foldl (λa n=>a++(" " : Str)++aL n) w
def kj(w:Str)(l:List Int)(n:Int):aU w (l++[n])=aU w l++(" " : Str)++aL n:=by
 unfold aU;rw[Y9];rfl
def yZ{x y:Str}(h:x.cps=y.cps):x=y:=by cases x;cases y;cases h;rfl
def y6(x y:Str):(x++y).cps=x.cps++y.cps:=rfl
def c8(x y:Str):(x++y).length=x.length+y.length:=by show(x.cps++y.cps).size=_;rw[Array.size_append];rfl
def pQ{g:Type}(b:Str)(f:g->Str):∀ (l:List g) (w:Str),Txt.join b (w::l.map f)=l.foldl (λa n=>a++b++f n) w:=by
 intro l w;apply yZ;show(((w::l.map f).drop 1).foldl (λc p=>c++b.cps++p.cps) w.cps)=_;rw[YM,YJ]
 induction l generalizing w with
 |nil=>rfl
 |cons a l I=>
  rw[Zs,YO,YO];have:=I (w++b++f a);rw[y6,y6] at this;exact this
def EO(w:Str)(l:List Int):Txt.join " " (w::l.map aL)=aU w l:=pQ _ _ _ _
abbrev jE(x:Str)(L:List Str):Str:=L.foldl (λa p=>a++("\n" : Str)++p) x
def ER(x:Str)(ls:List Str):Txt.join "\n" (x::ls)=jE x ls:=by
 have:=pQ "\n" (λp:Str=>p) ls x
 rwa [List.map_id'] at this
def nP(x:Str)(L:List Str)(y:Str):jE x (L++[y])=jE x L++("\n" : Str)++y:=by
 unfold jE;rw[Y9];rfl
def y7{b:Type}{P:List b->Prop}(H:P [])(h:∀l a,P l->P (l++[a]))(l:List b):P l:=by
 have:∀m:List b,P m.reverse:=λm=>by
  induction m with
  |nil=>exact H
  |cons a m I=>rw[YH];exact h _ _ I
 have:=this l.reverse
 rwa [List.reverse_reverse] at this
abbrev inN(l:List Int):Prop:=∀n ∈ l,0<=n/\n<=9999
def jF(w:Str):∀ (l:List Int),inN l->(aU w l).length<=w.length+5 * l.length:=by
 intro l
 induction l using y7
 ·intro _;exact Zc _
 ·rename_i l n I;intro h;have c:=I λm b=>h m (ZU _ b);have H:=h n (ZC _ (Zt.mpr rfl));have f:=(iW H.1 H.2).len;rw[kj,c8,c8,Zi];have:(aL n).length=(aL n).cps.size:=rfl;have:Str.length (" " : Str)=1:=rfl;simp only[ZJ]
  lia
def y8(x:Str)(k:Nat)(c:x.length<=k):∀ (L:List Str),(∀y ∈ L,y.length<=k)->(jE x L).length<=(k+1) * (L.length+1):=by
 intro L
 induction L using y7
 ·intro _;show x.length<=_;simp only[Y1];lia
 ·rename_i l n I;intro h;have b:=I λm H=>h m (ZU _ H);have f:=h n (ZC _ (Zt.mpr rfl));rw[nP,c8,c8,Zi];have:Str.length ("\n" : Str)=1:=rfl;simp only[ZJ];rw[Nat.mul_add (k+1)]
  lia
def eL{i:Int}(h:NumOk i):∀c ∈ cq (aL i),c ≠ 32/\c ≠ 10/\c < 128:=λc H=>by
 have:=h.dig c H;unfold EM at this;simp only[bAE,decide_eq_true_eq] at this
 lia
def ES(c:Nat):∀ (ps:List Str) (w:Str),cq (ps.foldl (λa p=>a++(⟨#[c]⟩:Str)++p) w)=glu c (cq w::ps.map cq):=by
 intro ps w
 induction ps generalizing w with
 |nil=>rfl
 |cons a l I=>
  rw[YO,I];cases l with
  |nil=>
   show(w.cps++#[c]++a.cps).toList=_;rw[Z9,Z9,ZX];rfl
  |cons b l=>
   show(w.cps++#[c]++a.cps).toList++c::glu c (cq b::l.map cq)=w.cps.toList++c::(a.cps.toList++c::glu c (cq b::l.map cq));rw[Z9,Z9,ZX,ZX];rfl
def y9:∀ {xs ys:List Str},xs.map cq=ys.map cq->xs=ys
 |[],[],_=>rfl
 |[],_::_,h=>by cases h
 |_::_,[],h=>by cases h
 |x::xs,y::ys,h=>by
  rw[Zs,Zs] at h;have H:=(X3.inj h).1;rw[y9 (X3.inj h).2,yZ (X6.mp H)]
def split_fold{c:Nat}(hc:c < 256)(ps:List Str)(w:Str)(h:∀p ∈ w::ps,c ∉ cq p):Txt.split (ps.foldl (λa p=>a++(⟨#[c]⟩:Str)++p) w) ⟨#[c]⟩=w::ps:=by
 apply y9;show(Txt.split _ _).map (λz=>z.cps.toList)=_;rw[Aj hc];show spl c (cq _)=_;rw[ES];refine yn (ps:=(w::ps).map cq) (Xh _ _) λp b=>?_;obtain⟨q,H,rfl⟩:=ZH.mp b;exact h q H
abbrev cT(w:Str):Bool:=w.cps.toList.all (λc=>decide (97<=c) && decide (c<=122)) && decide (w.cps.size<=6)
def AY(hw:cT w=br)(h:inN l):Txt.split (aU w l) " " = w::l.map aL:=by
 have e:aU w l=(l.map aL).foldl (λa p=>a++(⟨#[32]⟩:Str)++p) w:=by unfold aU;rw[List.foldl_map];rfl
 rw[e];refine split_fold (c:=32) (by decide) _ _ λp hp=>?_;rcases Zm.mp hp with rfl |hp
 ·intro z;unfold cT at hw;rw[bAE] at hw;have:=Ze.mp hw.1 32 z;simp at this
 ·obtain⟨n,H,rfl⟩:=ZH.mp hp;exactλz=>((eL (iW (h n H).1 (h n H).2)) 32 z).1 rfl
def zd{w:Str}(hw:cT w=br):∀ {l:List Int},inN l->∀c ∈ cq (aU w l),c ≠ 10/\c < 128:=by
 intro l
 induction l using y7
 ·intro _ c hc;unfold cT at hw;rw[bAE] at hw;have:=Ze.mp hw.1 c hc;simp only[bAE,decide_eq_true_eq] at this
  lia
 ·rename_i l n I;intro h c hc;have H:=h n (ZC _ (Zt.mpr rfl));rw[kj] at hc;have hc:c ∈ ((aU w l).cps++#[32]++(aL n).cps).toList:=hc;rw[Z9,Z9] at hc;rcases Zu.mp hc with hc |hc
  ·rcases Zu.mp hc with hc |hc
   ·exact I (λm b=>h m (ZU _ b)) c hc
   ·have:c=32:=by simpa using hc
    lia
  ·have:=eL (iW H.1 H.2) c hc;exact⟨this.2.1,this.2.2⟩
def AZ(h:∀p ∈ x::ls,∀c ∈ cq p,c ≠ 10/\c < 128):Txt.split (jE x ls) "\n" = x::ls:=
 split_fold (c:=10) (by decide) ls x λp H z=>(h p H 10 z).1 rfl
def txt_cps:∀ {ls:List Str} {x:Str},(∀p ∈ x::ls,∀c ∈ cq p,c ≠ 10/\c < 128)->∀c ∈ cq (jE x ls),c < 128:=by
 intro ls x
 induction ls using y7
 ·intro h c hc;exact(h x Zd c hc).2
 ·rename_i l n I;intro h c hc;rw[nP] at hc;have hc:c ∈ ((jE x l).cps++#[10]++n.cps).toList:=hc;rw[Z9,Z9] at hc;rcases Zu.mp hc with hc |hc
  ·rcases Zu.mp hc with hc |hc
   ·exact I (λp hp=>h p (by rcases Zm.mp hp with rfl |hp;exact Zd;exact Zf _ (ZU _ hp))) c hc
   ·have:c=10:=by simpa using hc
    lia
  ·exact(h n (Zf _ (ZC _ (Zt.mpr rfl))) c hc).2
end Lw
namespace Ev
open PySem
abbrev OkX(o:Option (RR × Sto))(Q:RR->Sto->Prop):Prop:=∃r b,o=aD (r,b)/\Q r b
section
variable {af:List DefE} {k f:Nat} {d:DefE} {ds:List D} {ρ:Rho} {S:Sto} {g:gn} {ar:Nat->Nat} {r:List RS} {Q:RR->Sto->Prop}
def A0(hd:af[f]?=aD d)(b:d.rb=aD rs)(H:ds.map aD++Zp (d.N.length - ds.length) aT=ρ)(h:OkX (cm (evX af k) (cN af) rs ρ S) Q):OkX (evX af (k+1) f ds S) Q:=by
 subst H;have z:evX af (k+1) f ds S=cm (evX af k) (cN af) rs (ds.map aD++Zp (d.N.length - ds.length) aT) S:=by simp only[evX,hd,b]
 rw[z];exact h
def xh{Q:D->Sto->Prop}(h:OkX (evX af k f ds S) λr b=>match r with |.val d=>Q d b |.exc _=>False):Ok (evC af k f ds S) Q:=by
 obtain⟨r,b,e,q⟩:=h;cases r with
 |val d=>exact⟨d,b,by unfold evC toC;rw[e],q⟩
 |exc i=>exact q.elim
def O6(q:Q (.val .non) S):OkX (cm g ar [] ρ S) Q:=⟨_,_,rfl,q⟩
def IT{n:Nat}:fV C ar (n+2) [s] ρ S=evS C ar (n+1) s ρ S:=by
 show vT (evS C ar (n+1) s) (fV C ar (n+1) []) ρ S=_;unfold vT;cases evS C ar (n+1) s ρ S with
 |none=>rfl
 |some z=>
  obtain⟨b,c,h⟩:=z;cases b <;> rfl
def ET(h:rW (wSs (toC g) ar 60 [s]) ρ S λb c p=>match b with |.nx=>OkX (cm g ar r c p) Q |.rt v=>Q (.val v) p |_=>False):OkX (cm g ar (.pl s::r) ρ S) Q:=by
 obtain⟨b,j,o,e,q⟩:=rF h;rw[IT] at e;have z:evS (toC g) ar 59 s ρ S=aD (b,j,o):=e;cases b with
 |nx=>obtain⟨v,u,E,y⟩:=q;exact⟨v,u,by simp only[cm,z];exact E,y⟩
 |rt v=>exact⟨.val v,o,by simp only[cm,z],q⟩
 |bk=>exact q.elim
 |ct=>exact q.elim
def J5(h:evA (toC g) ar FU j ρ S=aD (ds,S1))(hl:ds.length=ar f)(q:OkX (g f ds S1) λv b=>match v with |.val _=>OkX (cm g ar r ρ b) Q |.exc i=>Q (.exc i) b):OkX (cm g ar (.ck f j::r) ρ S) Q:=by
 obtain⟨v,b,e,q⟩:=q;cases v with
 |val d=>
  obtain⟨v,c,E,o⟩:=q;exact⟨v,c,by simp only[cm,xck,h,hl,if_true,e];exact E,o⟩
 |exc i=>exact⟨.exc i,b,by simp only[cm,xck,h,hl,if_true,e],q⟩
def J6{i:Nat}(h:wT (toC g) ar 60 c ρ S λb j=>if b=br then i < 14/\Q (.exc i) j else OkX (cm g ar r ρ j) Q):OkX (cm g ar (.rz c i::r) ρ S) Q:=by
 obtain⟨b,j,e,q⟩:=(pM 60).t _ _ _ h;have z:evT (toC g) ar FU c ρ S=aD (b,j):=e;cases b with
 |true=>
  rw[if_pos rfl] at q;exact⟨.exc i,j,by simp only[cm,z];rw[if_pos q.1],q.2⟩
 |false=>
  rw[if_neg Zg] at q;obtain⟨v,o,E,p⟩:=q;exact⟨v,o,by simp only[cm,z];exact E,p⟩
def J7(h:evA (toC g) ar FU E ρ S=aD (ds,S1))(hl:ds.length=ar f)(q:OkX (g f ds S1) λv b=>match v with |.val d=>Q (.val d) b |.exc i=>∃w,wx i=aD w/\Q (.val (.str w)) b):OkX (cm g ar (.tr f E::r) ρ S) Q:=by
 obtain⟨v,b,e,q⟩:=q;cases v with
 |val d=>exact⟨.val d,b,by simp only[cm,xck,h,hl,if_true,e],q⟩
 |exc i=>
  obtain⟨w,H,q⟩:=q;exact⟨.val (.str w),b,by simp only[cm,xck,h,hl,if_true,e,H];rfl,q⟩
end
end Ev
namespace Lw
open PySem Ev L2
variable {p:Nat} {S:Sto} {k:Nat} {Q:D->Sto->Prop}
def EU{b:Type}{l:List b}{E:b->D}{i:Nat}{d:D}(h:(l.map E)[i]?=aD d):∃a,l[i]?=aD a/\d=E a:=by
 rw[Zo] at h;cases e:l[i]? with
 |none=>rw[e] at h;cases h
 |some a=>rw[e] at h;cases h;exact⟨a,rfl,rfl⟩
def J8{ds:List D}{T:Tg}{b:XS}{c:Rho}{Q:Fl->Rho->Sto->Prop}(hl:ds.length<=100000)(I:Nat->Rho->Sto->Prop)
  (step:∀ (i:Nat) d c f,ds[i]?=aD d->I i c f->∃g,aB T d c=aD g/\OkS (b g f) λu h j=>match u with |.nx=>I (i+1) h j |.ct=>I (i+1) h j |.bk=>Q .nx h j |.rt d=>Q (.rt d) h j)
  (q:∀c f,I ds.length c f->Q .nx c f) (v:I 0 c S):OkS (dD (nxL ds) T b LF 0 c S) Q:=by
 refine eA ds.length I (by unfold LF;lia) (λi c f H o=>?_) (λc f o=>⟨?_,q c f o⟩) v
 ·obtain⟨g,E,z⟩:=step i ds[i] c f (gEG H) o;exact⟨ds[i],g,by show aD ds[i]?=_;rw[gEG H],E,z⟩
 ·show aD ds[ds.length]?=_;rw[ZG (Zc _)]
def O7{y:Type}{nx:Nxt}{T:Tg}{c:XA}{I:Rho}{Q:List D->Sto->Prop}(l:List y)(E:y->D)(f:y->List D)(hl:l.length<=1000)(U:∀a ∈ l,(f a).length<=1)
  (H:∀i g,Sm S g->nx i g=aD ((l[i]?).map E))
  (step:∀ (i:Nat) a g,l[i]?=aD a->Sm S g->∃j,aB T (E a) I=aD j/\Ok (c j g) λu C=>u=f a/\Sm g C) (q:∀g,Sm S g->Q (l.flatMap f) g) :
  Ok (bt nx T c I LF 0 S) λu S2=>u.length<=100000/\Q u S2:=by
 refine(cI l.length (λi o g=>Sm S g/\o=(l.take i).flatMap f) (by unfold LF;lia) (λi o g z ⟨sm,v⟩=>?_) (λo g ⟨sm,v⟩=>?_) ⟨Sm.refl S,by simp⟩).mono λu g ⟨sm,v⟩=>?_
 ·obtain⟨j,M,u,C,X,L,B⟩:=step i l[i] g (gEG z) sm;refine⟨E l[i],j,by rw[H i g sm,gEG z];rfl,M,u,C,X,sm.trans B,?_⟩;rw[v,L,ZM z,XD];simp
 ·rw[H _ g sm,ZG (Zc _)];rfl
 ·rw[Z8] at v;subst v;refine⟨?_,q g sm⟩
  have:∀m:List y,(∀a ∈ m,(f a).length<=1)->(m.flatMap f).length<=m.length:=λm=>by
   induction m with
   |nil=>intro _;simp
   |cons a m J=>
    intro h;rw[Xb,Zi,ZB];have:=h a Zd;have:=J λb O=>h b (Zf _ O)
    lia
  have:=this l U
  lia
def kl{c:Type}{l:List c}{E:c->D}:∀i b,Sm S b->nxL (l.map E) i b=aD ((l[i]?).map E):=λi b _=>by
 show aD (l.map E)[i]?=_;rw[Zo]
def uz{b c:Type}(f:b->c):∀l:List b,(l.flatMap λa=>[f a])=l.map f
 |[]=>rfl
 |a::l=>by rw[Xb,uz f l];rfl
def iX{u:Type}{nx:Nxt}{T:Tg}{c:XA}{o:Rho}{Q:List D->Sto->Prop}(l:List u)(E f:u->D)(hl:l.length<=1000)
  (H:∀i b,Sm S b->nx i b=aD ((l[i]?).map E))
  (step:∀a b,a ∈ l->Sm S b->∃g,aB T (E a) o=aD g/\Ok (c g b) λj v=>j=[f a]/\Sm b v) (q:∀b,Sm S b->Q (l.map f) b) :
  Ok (bt nx T c o LF 0 S) λj S2=>j.length<=100000/\Q j S2:=
 O7 l E (λa=>[f a]) hl (λ_ _=>Zc 1) H (λi a b h sm=>step a b (Zy h) sm) λb sm=>by
  rw[uz];exact q b sm
def EV{w:Str}(h:w.length<=100000):mG (.str w) S=aD (.int w.length,S):=by unfold mG;dsimp only;rw[if_pos h]
def O8{c:Nat}(h:EM c=br):ax .isin (.str ⟨#[c]⟩) (.str "0123456789") S=aD (.bl br,S):=by
 have e:∀c,c < 58->48<=c->(!(Builtin.Str.occurrences ("0123456789" : Str) ⟨#[c]⟩ 0 (Str.length ("0123456789" : Str)) 1).isEmpty)=br:=by decide +kernel
 unfold EM at h;simp only[bAE,decide_eq_true_eq] at h;show aD (D.bl (bx != !(Builtin.Str.occurrences ("0123456789" : Str) ⟨#[c]⟩ 0 (Str.length ("0123456789" : Str)) 1).isEmpty),S)=_;rw[e c (by lia) h.1];rfl
def IU(x y:Str)(S:Sto):ax .eq (.str x) (.str y) S=aD (.bl (x == y),S):=rfl
def fM(x y:Str)(S:Sto):ax .ne (.str x) (.str y) S=aD (.bl (!(x == y)),S):=rfl
def IV{i:Int}(h:NumOk i):∃c l,cq (aL i)=c::l:=by
 cases e:cq (aL i) with
 |nil=>
  have:=h.pos;have z:(aL i).cps.size=(cq (aL i)).length:=(Z1 ..).symm;rw[e] at z;have z:(aL i).cps.size=0:=z
  lia
 |cons c l=>exact⟨c,l,rfl⟩
def A6{i:Int}(h:NumOk i)(q:∀b,Sm S b->Q (.int i) b):Ok (evC af (k+1) 5 [.str (aL i)] S) Q:=by
 refine aW (d:=gw) (ρ:=[aD (.str (aL i))]) rfl rfl ?_;dsimp only[gw,kE];have B:=h.len;have y:=h.pos;k_is;refine aa (EV (by show(aL i).cps.size<=_;lia)) ?_;k_is;rw[decide_eq_true (show(1:Int)<=(aL i).length by show(1:Int)<=((aL i).cps.size:Nat);lia),decide_eq_true (show((aL i).length:Int)<=40 by show(((aL i).cps.size:Nat):Int)<=40;lia)];k_is;refine⟨aL i,rfl,by rw[<-Array.all_toList];exact Ze.mpr λc H=>decide_eq_true (eL h c H).2.2,?_⟩;refine iX (cq (aL i)) (λc=>.str ⟨#[c]⟩) (λc=>.bl br) (by rw[show(cq (aL i)).length=(aL i).cps.size from Z1 ..];lia) kl (λc b H sm=>⟨_,rfl,?_⟩) λb sm=>?_
 ·k_is;refine aa (O8 (h.dig c H)) ?_;exact⟨rfl,Sm.refl _⟩
 ·rw[bS (cq (aL i)) (λ_=>br),ag,Ze.mpr λ_ _=>rfl];k_is;obtain⟨c,l,e⟩:=IV h
  have I:ixS (.str (aL i)) (.int 0) b=aD (.str ⟨#[c]⟩,b):=by
   simp only[ixS];rw[if_pos (by show(aL i).cps.size<=_;lia),show(aL i).cps.toList=c::l from e,show atI (c::l) 0=aD c by simp[atI,ixN]];rfl
  refine aa I ?_;refine aa (IU ..) ?_;k_is
  have f:∀b,vW (.str (aL i)) b=aD (.int i,b):=λb=>by
   unfold vW;dsimp only;rw[if_pos (by show(aL i).cps.size<=_;lia),h.rd];rfl
  cases z:((⟨#[c]⟩:Str) == "0") with
  |false=>
   k_is;refine aa (f _) ?_;exact q b sm
  |true=>
   have v:c=48:=by
    have o:(⟨#[c]⟩:Str) = "0" := eq_of_beq z;have g:(#[c]:Array Nat)=("0" : Str).cps:=congrArg Str.cps o;have Z:=congrArg (λa:Array Nat=>a[0]?) g;have u:aD c=aD 48:=Z;exact Option.some.inj u
   have j:i=0:=by
    rcases h.hd with h0 |h0
    ·exact h0
    ·rw[e,v] at h0;exact absurd rfl h0
   have ns:aL i = "0" := by rw[j];exact EN
   k_is;rw[fM,ag,show(aL i == ("0" : Str))=br by rw[ns];decide +kernel];k_is;refine aa (f _) ?_;exact q b sm
def nQ{m:Nat}(h:S[m]?=aD (.lst ds))(q:Q (ds.headD x) S):Ok (evC af (k+1) 24 [.ref m,x] S) Q:=by
 refine aW (d:=gC) (ρ:=[aD (.ref m),aD x]) rfl rfl ?_;dsimp only[gC,kJ];k_is;have tr:mz (.ref m) S=aD (!ds.isEmpty,S):=by simp only[mz,aq h]
 refine aa tr ?_;cases ds with
 |nil=>exact q
 |cons d ds=>
  have ix:ixS (.ref m) (.int 0) S=aD (d,S):=by
   simp only[ixS,am,aq h,Zr];rw[show atI (d::ds) 0=aD d by simp[atI,ixN]];rfl
  exact aa ix q
def lB{i:Int}(h:0<=i)(H:i<=9999):vL (.int i) S=aD (.str (aL i),S):=by
 unfold vL;dsimp only;have e:i.natAbs < 10 ^ 5:=by lia
 rw[if_pos (XV e (by decide))];rfl
def rJ{a b:Nat}(H:S[a]?=aD (.lst xs))(h:S[b]?=aD (.lst ys))(hl:xs.length+ys.length<=100000):bR .add (.ref a) (.ref b) S=aD (.ref (Zh S),S++[.lst (xs++ys)]):=by
 simp only[bR,jS,Ll,H,h];rw[if_pos hl]
def pR:∀ys:List Str,mJ (ys.map D.str)=aD ys
 |[]=>rfl
 |y::ys=>by rw[Zs,mJ,pR ys];rfl
def rK{n:Nat}(h:S[n]?=aD (.lst (ys.map D.str)))(hl:(ys.map (·.length)).sum+ys.length * b.length<=100000):mL (.str b) [.ref n] S=aD (.str (Txt.join b ys),S):=by
 unfold mL;dsimp only;rw[h];dsimp only;rw[pR];dsimp only;rw[if_pos hl]
def xj{k:Nat}:∀ {ys:List Str},(∀y ∈ ys,y.length<=k)->(ys.map (·.length)).sum<=k * ys.length
 |[],_=>by simp
 |y::ys,h=>by
  have b:=h y Zd;have c:=xj (ys:=ys) λz H=>h z (Zf _ H);rw[Zs,List.sum_cons,ZB,Nat.mul_succ]
  lia
def fe{w:Str}{l:List Int}(hw:cT w=br)(h:inN l)(hl:l.length<=100)(q:∀b,Sm S b->Q (.str (aU w l)) b):Ok (evC af (k+1) 22 [.str w,.tup (l.map D.int)] S) Q:=by
 refine aW (d:=nA) (ρ:=[aD (.str w),aD (.tup (l.map D.int))]) rfl rfl ?_;dsimp only[nA,uk];k_is;refine⟨rfl,iX l D.int (λn=>.str (aL n)) (by lia) kl (λn b H sm=>⟨_,rfl,?_⟩) λb sm=>?_⟩
 ·k_is;refine aa (lB (h n H).1 (h n H).2) ?_;exact⟨rfl,Sm.refl _⟩
 ·have s0:b[Zh S]?=aD (Ob.lst [D.str w]):=sm _ _ ay;have c:Sm b (b++[Ob.lst (l.map λn=>D.str (aL n))]):=Sm.app _ _;refine aa (rJ (c _ _ s0) ay (by rw[Za,ZJ];lia)) ?_;have e:[D.str w]++(l.map λn=>D.str (aL n))=(w::l.map aL).map D.str:=by rw[Zs,Yd];rfl
  rw[e]
  have f:w.length<=6:=by
   unfold cT at hw;rw[bAE] at hw;exact of_decide_eq_true hw.2
  have sl:=xj (k:=6) (ys:=w::l.map aL) λy hy=>by
   rcases Zm.mp hy with rfl |hy
   ·exact f
   ·obtain⟨n,H,rfl⟩:=ZH.mp hy;have:=(iW (h n H).1 (h n H).2).len;show(aL n).cps.size<=6
    lia
  rw[ZB,Za] at sl;refine aa (rK ay (by rw[ZB,Za,show Str.length (" " : Str)=1 from rfl];lia)) ?_;rw[EO];exact q _ ((Sm.app _ _).trans (sm.trans (c.trans (Sm.app _ _))))
structure SkP where
 r:Int
 s:Int
 rows:List (List Int)
 hs:List (List Int)
 ah:List (List Int)
 gs:List (List Int)
 fs:List Int
abbrev dI(l:List Int):D:=.tup (l.map D.int)
abbrev tI(l:List Int):Dw.D:=.tup (l.map Dw.D.int)
abbrev ahD:List (List Int)->D
 |[]=>.non
 |l::_=>dI l
abbrev ahT:List (List Int)->Dw.D
 |[]=>.non
 |l::_=>tI l
abbrev skD(K:SkP):D:=.tup [.tup [.int K.r,.int K.s,.tup (K.rows.map dI),.tup (K.hs.map dI)],ahD K.ah,.tup (K.gs.map dI),dI K.fs]
abbrev skT(K:SkP):Dw.D:=.tup [.tup [.int K.r,.int K.s,.tup (K.rows.map tI),.tup (K.hs.map tI)],ahT K.ah,.tup (K.gs.map tI),tI K.fs]
structure SkN(K:SkP):Prop where
 rs:inN [K.r,K.s]
 rows:∀l ∈ K.rows,inN l/\l.length<=7
 hs:∀l ∈ K.hs,inN l/\l.length<=7
 ah:∀l ∈ K.ah,inN l/\l.length<=7
 gs:∀l ∈ K.gs,inN l/\l.length<=7
 fs:inN K.fs/\K.fs.length<=7
 l1:K.rows.length<=4
 l2:K.hs.length<=4
 l3:K.ah.length<=1
 l4:K.gs.length<=7
abbrev fxL(l:List Int):List (List Int):=if l=[] then [] else [l]
abbrev cK(K:SkP):List (Str × List Int):=K.rows.map (("gaps" : Str),·)++K.hs.map (("shut" : Str),·)++K.ah.map (("ahead" : Str),·)++K.gs.map (("glider" : Str),·)++(fxL K.fs).map (("fixed" : Str),·)
abbrev aS(x:Str × List Int):Str:=aU x.1 x.2
abbrev cu(K:SkP):Str:=jE (aU "meadow" [K.r,K.s]) ((cK K).map aS)
structure Bl(S:Sto)(m:Nat)(S':Sto)(xs:List Str):Prop where
 sm:Sm S S'
 le:S.length<=m
 at_:S'[m]?=aD (.lst (xs.map D.str))
def Bl.then{m:Nat}(b:Bl S m c xs)(s:Sm c f):Bl S m f xs:=⟨b.sm.trans s,b.le,s _ _ b.at_⟩
def Bl.set{m:Nat}(b:Bl S m c xs)(e:ds=ys.map D.str):Bl S m (c.set m (.lst ds)) ys:=by
 subst e;have H:=(Zb.mp b.at_).1;refine⟨λi o h=>?_,b.le,by rw[ZD H]⟩;rw[ZE (by have:=(Zb.mp h).1;have:=b.le;lia)];exact b.sm _ _ h
def Sm.le(h:Sm S b):S.length<=b.length:=by
 by_cases z:S.length=0
 ·lia
 ·have e:=h (S.length - 1) _ (gEG (by lia));have:=(Zb.mp e).1
  lia
def km{S0 S:Sto}{n m v:Nat}{w:Str}{L:List (List Int)}{g:Rho}{c:XA}{Q:List D->Sto->Prop}(hl:L.length<=7)(hw:cT w=br)(H:∀l ∈ L,inN l/\l.length<=7)
  (step:∀l b,l ∈ L->Sm S b->∃f,aB (.name v) (dI l) g=aD f/\Ok (c f b) λE h=>E=[.str (aU w l)]/\Sm b h)
  (q:∀b,Sm S b->Q ((L.map (aU w)).map D.str) b):Ok (bt (nxL (L.map dI)) (.name v) c g LF 0 S) λE S2=>E.length<=100000/\Q E S2:=
 iX L dI (λl=>.str (aU w l)) (by lia) kl step λb sm=>by
  have:=q b sm
  rwa [Yd] at this
abbrev xk(K:SkP)(m:Nat):Rho:=[aD (skD K),aD (.int K.r),aD (.int K.s),aD (.tup (K.rows.map dI)),aD (.tup (K.hs.map dI)),aD (ahD K.ah),aD (.tup (K.gs.map dI)),aD (dI K.fs),aD (.ref m)]
def ze{xs:List Str}(h:∀y ∈ xs,y.length<=50)(hl:xs.length<=100):(xs.map (·.length)).sum+xs.length * 1<=100000:=by
 have:=xj h
 lia
structure Sml(n:Nat)(xs:List Str):Prop where
 len:xs.length<=n
 each:∀y ∈ xs,y.length<=50
def Sml.app{n m:Nat}(a:Sml n xs)(b:Sml m ys):Sml (n+m) (xs++ys):=⟨by rw[Zi];have:=a.len;have:=b.len;lia,λy h=>(Zu.mp h).elim (a.each y) (b.each y)⟩
def uA(hw:cT w=br):w.length<=6:=by
 unfold cT at hw;rw[bAE] at hw;exact of_decide_eq_true hw.2
def fg{n:Nat}{w:Str}{ls:List (List Int)}(hw:cT w=br)(H:∀l ∈ ls,inN l/\l.length<=7)(hl:ls.length<=n):Sml n (ls.map (aU w)):=⟨by rw[Za];exact hl,λy b=>by
 obtain⟨l,h,rfl⟩:=ZH.mp b;have:=jF w l (H l h).1;have:=(H l h).2;have:=uA hw
 lia⟩
def cp{m:Nat}(h:S[m]?=aD (.lst ds)):fP (.ref m) S=br:=by simp only[fP,aq h];rfl
def A7{K:SkP}{m:Nat}{S y:Sto}{xs:List Str}(h:SkN K)(b:Bl S m y xs)(z:Sml 50 xs)(q:∀o,Sm S o->Q (.str (Txt.join "\n" (xs++K.gs.map (aU "glider")++(fxL K.fs).map (aU "fixed")))) o) :
  rW (wSs (evC af (k+1)) (cN af) 55 (j7.drop 5)) (xk K m) y (out Q):=by
 dsimp only [j7,YD,xk];k_is;have g:cT "glider" = br:=by decide +kernel
 refine ⟨m,rfl,km (S0:=S) (n:=0) (m:=0) h.l4 g h.gs (λl o v sm=>⟨_,rfl,?_⟩) λC sm=>⟨_,_,_,rfl,((b.then sm).then (Sm.app _ _)).at_,ay,?_,?_⟩⟩
 ·k_is;exact ⟨rfl,fe (k:=k) g (h.gs l v).1 (by have:=(h.gs l v).2;lia) λf I=>⟨rfl,I⟩⟩
 ·rw [Za,Za,Za];have:=z.len;have:=h.l4;lia
 ·have B:=((b.then sm).then (Sm.app C [Ob.lst ((K.gs.map (aU "glider")).map D.str)])).set (ys:=xs++K.gs.map (aU "glider")) (Zv ..).symm;have c:=z.app (fg g h.gs h.l4);generalize Xj (C++[Ob.lst ((K.gs.map (aU "glider")).map D.str)]) m _=f at *;generalize xs++K.gs.map (aU "glider")=ys at *;show rW _ [aD (skD K),aD (.int K.r),aD (.int K.s),aD (.tup (K.rows.map dI)),aD (.tup (K.hs.map dI)),aD (ahD K.ah),aD (.tup (K.gs.map dI)),aD (dI K.fs),aD (.ref m)] f _;k_is;show cJ (.tup (K.fs.map D.int)) f _;k_is;cases e:K.fs with
  |nil=>
   rw [e] at q;k_is;refine ⟨rfl,aa (rK B.at_ (ze c.each (by have:=c.len;lia))) ?_⟩;have:=q f B.sm
   rwa [show (fxL []).map (aU "fixed")=[] from rfl,ZO] at this
  |cons a l=>
   rw[e] at q;have j:inN (a::l)/\(a::l).length<=7:=by rw[<-e];exact h.fs
   have H:cT "fixed" = br:=by decide +kernel
   k_is;refine⟨cp B.at_,rfl,fe (k:=k) H j.1 (by have:=j.2;lia) λM J=>?_⟩;k_is;have E:=B.then J
   rw[iU E.at_ (by rw[Za];have:=c.len;lia)];have u:=E.set (ys:=ys++[aU "fixed" (a::l)]) (by rw[Zv]);have Z:=c.app (fg (ls:=[a::l]) H (λx L=>by rw[Zt.mp L];exact j) (Zc 1));have Z:Sml (50+7+1) (ys++[aU "fixed" (a::l)]):=Z;k_is;refine⟨rfl,aa (rK u.at_ (ze Z.each (by have:=Z.len;lia))) ?_⟩;exact q _ u.sm
def zf{K:SkP}(h:SkN K)(q:∀f,Sm S f->Q (.str (cu K)) f):Ok (evC af (k+2) 21 [skD K] S) Q:=by
 refine aW (d:=kc) (ρ:=[aD (skD K),aT,aT,aT,aT,aT,aT,aT,aT]) rfl rfl ?_;dsimp only[kc,j7];k_is;refine⟨_,rfl,?_⟩;k_is;refine⟨rfl,fe (k:=k) (l:=[K.r,K.s]) (w := "meadow") (by decide +kernel) h.rs (by show 2<=100;decide) λj o=>?_⟩;have E:Bl S (Zh j) (j++[Ob.lst [D.str (aU "meadow" [K.r,K.s])]]) [aU "meadow" [K.r,K.s]]:=⟨o.trans (Sm.app _ _),Sm.le o,ay⟩;have M:Sml 1 [aU "meadow" [K.r,K.s]]:=fg (ls:=[[K.r,K.s]]) (w := "meadow") (by decide +kernel) (λx hx=>by rw[Zt.mp hx];exact⟨h.rs,by show 2<=7;decide⟩) (Zc 1);generalize j++[Ob.lst [D.str (aU "meadow" [K.r,K.s])]]=S2 at *;generalize Zh j=m at *;clear o;k_is;have v:cT "gaps" = br:=by decide +kernel
 refine⟨m,rfl,km (S0:=S) (n:=0) (m:=0) (by have:=h.l1;lia) v h.rows (λl f H sm=>⟨_,rfl,?_⟩) λg sm=>⟨_,_,_,rfl,((E.then sm).then (Sm.app _ _)).at_,ay,?_,?_⟩⟩
 ·k_is;exact⟨rfl,fe (k:=k) v (h.rows l H).1 (by have:=(h.rows l H).2;lia) λg y=>⟨rfl,y⟩⟩
 ·rw[Za,Za,Za];have:=h.l1;show 1+_<=_;lia
 have u:=((E.then sm).then (Sm.app g [Ob.lst ((K.rows.map (aU "gaps")).map D.str)])).set (ys:=[aU "meadow" [K.r,K.s]]++K.rows.map (aU "gaps")) (Zv ..).symm;have Z:=M.app (fg v h.rows h.l1);generalize Xj (g++[Ob.lst ((K.rows.map (aU "gaps")).map D.str)]) m _=S4 at *;show rW _ (xk K m) S4 _;clear E M sm;dsimp only[xk];k_is;have c:cT "shut" = br:=by decide +kernel
 refine⟨m,rfl,km (S0:=S) (n:=0) (m:=0) (by have:=h.l2;lia) c h.hs (λl f H sm=>⟨_,rfl,?_⟩) λO sm=>⟨_,_,_,rfl,((u.then sm).then (Sm.app _ _)).at_,ay,?_,?_⟩⟩
 ·k_is;exact⟨rfl,fe (k:=k) c (h.hs l H).1 (by have:=(h.hs l H).2;lia) λg y=>⟨rfl,y⟩⟩
 ·rw[Za,Za,Za];have:=h.l2;have:=Z.len;lia
 have B:=((u.then sm).then (Sm.app O [Ob.lst ((K.hs.map (aU "shut")).map D.str)])).set (ys:=([aU "meadow" [K.r,K.s]]++K.rows.map (aU "gaps"))++K.hs.map (aU "shut")) (Zv ..).symm;have L:=Z.app (fg c h.hs h.l2);generalize Xj (O++[Ob.lst ((K.hs.map (aU "shut")).map D.str)]) m _=S6 at *;show rW _ (xk K m) S6 _;clear u Z sm
 have fin:∀ {I:Sto},Bl S m I (([aU "meadow" [K.r,K.s]]++K.rows.map (aU "gaps"))++K.hs.map (aU "shut")++K.ah.map (aU "ahead"))->rW (wSs (evC af (k+1)) (cN af) 55 (j7.drop 5)) (xk K m) I (out Q):=λb=>by
  have J:=L.app (fg (w := "ahead") (by decide +kernel) h.ah h.l3);refine A7 h b ⟨by have:=J.len;lia,J.each⟩ λf Y=>?_;have:=q f Y;unfold cu at this;rw[<-ER] at this
  rw[show([aU "meadow" [K.r,K.s]]++K.rows.map (aU "gaps"))++K.hs.map (aU "shut")++K.ah.map (aU "ahead")++K.gs.map (aU "glider")++(fxL K.fs).map (aU "fixed")=aU "meadow" [K.r,K.s]::(cK K).map aS by
   unfold cK;simp only[Zv,Yd,ZX,Xu,Yv,Y0];rfl]
  exact this
 dsimp only[xk];k_is
 have e0:K.ah=[]\/∃l,K.ah=[l]:=by
  match e:K.ah,h.l3 with
  |[],_=>exact .inl rfl
  |[l],_=>exact .inr ⟨l,rfl⟩
  |_::_::_,z=>simp at z
 rcases e0 with e |⟨l,e⟩
 ·have is:ax .isnot (ahD K.ah) .non S6=aD (.bl bx,S6):=by rw[e];rfl
  refine aa is ?_;exact fin (by rw[e,ZV,ZO];exact B)
 ·have is:ax .isnot (ahD K.ah) .non S6=aD (.bl br,S6):=by rw[e];rfl
  refine aa is ?_;have C:cT "ahead" = br:=by decide +kernel
  have H:=h.ah l (by rw[e];exact Zt.mpr rfl);k_is;rw[show ahD K.ah=dI l by rw[e];rfl];refine⟨cp B.at_,rfl,fe (k:=k) C H.1 (by have:=H.2;lia) λI U=>?_⟩;k_is;have T:=B.then U
  rw[iU T.at_ (by rw[Za];have:=L.len;lia)];have X:=T.set (ys:=([aU "meadow" [K.r,K.s]]++K.rows.map (aU "gaps"))++K.hs.map (aU "shut")++K.ah.map (aU "ahead")) (by rw[e,Zv]);rw[<-show ahD K.ah=dI l by rw[e];rfl];exact fin X
abbrev wds:List Str:=["meadow", "gaps", "shut", "ahead", "glider", "fixed"]
abbrev ksW:List Key:=wds.map Sum.inr
abbrev uB(n i:Nat):List D:=(Zl i).map λj=>.ref (n+1+j)
def A8(n i:Nat):uB n (i+1)=uB n i++[.ref (n+1+i)]:=by unfold uB;rw[Yc,Zv];rfl
structure Fd(S:Sto)(n i:Nat)(S':Sto)(vs:Nat->List D):Prop where
 sm:Sm S S'
 le:S.length<=n
 d:S'[n]?=aD (.dic (ksW.take i) (uB n i))
 l:∀j,j < i->S'[n+1+j]?=aD (.lst (vs j))
def Fd.then{n i:Nat}(f:Fd S n i b vs)(s:Sm b c):Fd S n i c vs:=⟨f.sm.trans s,f.le,s _ _ f.d,λj h=>s _ _ (f.l j h)⟩
def xl{m:Nat}(s:Sm S b)(h:S.length<=m):Sm S (b.set m o):=λi u e=>by
 rw[ZE (by have:=(Zb.mp e).1;lia)];exact s _ _ e
def Fd.put{n i j:Nat}(f:Fd S n i b v)(h:j < i):Fd S n i (b.set (n+1+j) (.lst ds)) (λx=>if x=j then ds else v x):=by
 have c:=(Zb.mp (f.l j h)).1;refine⟨xl f.sm (by have:=f.le;lia),f.le,by rw[ZE (by lia)];exact f.d,λx H=>?_⟩;by_cases e:x=j
 ·subst e;rw[if_pos rfl,ZD c]
 ·rw[if_neg e,ZE (by lia)];exact f.l x H
def EW{b:Nat}{j v:XE}{g:Rho}{Q:Fl->Rho->Sto->Prop}{w:Str}{f:List Key}{ds:List D}{h:D}{c:Sto}(u:j g S=aD (.str w,S))(B:v g S=aD (h,c))(y:c[b]?=aD (.dic f ds))(o:∀x ∈ f,x ≠ Sum.inr w)(H:f.length < 1000)(q:Q .nx g (c.set b (.dic (f++[Sum.inr w]) (ds++[h])))):OkS (tG b j v g S) Q:=by
 have e:Ae b (.str w) h c=aD (c.set b (.dic (f++[Sum.inr w]) (ds++[h]))):=by
  unfold Ae vo;dsimp only;rw[y];dsimp only;rw[if_pos ⟨Ze.mpr λx z=>decide_eq_true (o x z),H⟩]
 unfold tG;rw[u];dsimp only;rw[B];dsimp only;rw[e];exact Q2.mpr q
def EX{J B:XE}{y:Rho}{Q:Fl->Rho->Sto->Prop}(h:6 < y.length)(T:∀w b S,b[6]?=aD (aD (.str w))->J b S=aD (.str w,S))(L:∀b S,B b S=aD (.ref (Zh S),S++[.lst []]))
  (q:∀o c,Fd S (Zh S) 6 c (λ_=>[])->Q .nx o c):OkS (dD (nxL (wds.map D.str)) (.name 6) (tG (Zh S) J B) LF 0 y (S++[.dic [] []])) Q:=by
 refine J8 (by decide) (λi b c=>6 < b.length/\c.length=S.length+1+i/\Fd S (Zh S) i c (λ_=>[])) (λi d b c hd I=>?_) (λb c I=>q b c I.2.2) ⟨h,by simp,Sm.app _ _,Zc _,ay,λj H=>absurd H (Z5 _)⟩;obtain⟨v,hs,f⟩:=I;obtain⟨w,u,rfl⟩:=EU hd;have U:i < 6:=(Zb.mp u).1;refine⟨_,by rw[yN,if_pos v],?_⟩;have g:=f.then (Sm.app c [Ob.lst []])
 have M:ksW.take (i+1)=ksW.take i++[Sum.inr w]:=by
  rw[List.take_succ,show ksW[i]?=aD (Sum.inr w) by unfold ksW;rw[Zo,u];rfl];rfl
 have C:(c++[Ob.lst []]).length=S.length+1+i+1:=by rw[Zi,hs];rfl
 refine EW (T w _ c (by rw[ZD v])) (L _ _) g.d (λx O z=>?_) (by rw[ZA];show min i 6 < 1000;lia) ?_
 ·have nd:ksW.Nodup:=by decide +kernel
  obtain⟨j,H,e⟩:=Yr O;rw[ZA] at H;have H:j < i:=by lia
  rw[XZ] at e;have E:ksW[i]?=aD (Sum.inr w):=by unfold ksW;rw[Zo,u];rfl
  obtain⟨X,E⟩:=Zb.mp E;have:=(YW nd).mp (e.trans (z.trans E.symm))
  lia
 ·refine⟨by rw[YA];exact v,by rw[YA,C];lia,xl g.sm (Zc _),Zc _,?_,λj H=>?_⟩
  ·rw[ZD (by rw[C];lia),M,A8,hs]
  ·rw[ZE (by lia)];by_cases e:j=i
   ·subst e;rw[<-hs];exact ay
   ·exact g.l j (by lia)
def uC(h:(y.length == 0)=bx)(c:x.length<=9000)(f:(Txt.split x y).length<=9000)(b:∀z ∈ Txt.split x y,z.length<=9000):gi (.str x) [.str y] S=aD (.ref (Zh S),S++[.lst ((Txt.split x y).map D.str)]):=by
 unfold gi;dsimp only;rw[if_pos ⟨h,c,f,Ze.mpr λz H=>decide_eq_true (b z H)⟩]
abbrev wix(w:Str):Nat:=wds.findIdx (· == w)
structure LnOk(x:Str × List Int):Prop where
 w:x.1 ∈ wds
 n:inN x.2
 l:x.2.length<=7
def kn:∀w ∈ wds,cT w=br/\wix w < 6/\wds[wix w]?=aD w:=by decide +kernel
def Su{n:Nat}(f:Fd c n 6 b v)(hw:w ∈ wds):ax .notin (.str w) (.ref n) b=aD (.bl bx,b):=by
 show inS br (.str w) (.ref n) b=_;unfold inS;have e:am (.ref n) b=aT:=by simp only[am,aA,f.d,Option.map_none]
 rw[e];show inK br (.str w) (.ref n) b=_;unfold inK vo;dsimp only;rw[f.d];dsimp only;have:((ksW.take 6).any λa=>decide (a=Sum.inr w))=br:=YZ.mpr ⟨Sum.inr w,ZH.mpr ⟨w,hw,rfl⟩,decide_eq_true rfl⟩;rw[this];rfl
def J9{n:Nat}(f:Fd c n 6 b v)(hw:w ∈ wds):ixS (.ref n) (.str w) b=aD (.ref (n+1+wix w),b):=by
 have e:∀w ∈ wds,qH ksW (uB n 6) (.inr w)=aD (.ref (n+1+wix w)):=λw hw=>by
  simp only[wds,Zm,Yh,or_false] at hw;rcases hw with rfl |rfl |rfl |rfl |rfl |rfl <;> rfl
 simp only[ixS,ixD,f.d];rw[show ksW.take 6=ksW from rfl,e w hw];rfl
def O9{c:Type}{n:Nat}{l:List c}{E:c->D}(h:S[n]?=aD (.lst (l.map E))):∀i b,Sm S b->nxS n i b=aD ((l[i]?).map E):=λi b sm=>by
 show(aA b n).map (λf=>f[i]?)=_;rw[aq (sm _ _ h),Zr,Zo]
abbrev Sv:List CS:=match jy with
 |_ :: .for_ _ _ b::_=>b
 |_=>[]
def IW{T g:Sto}{n N:Nat}{j:Nat->List D}{x:Str × List Int}{a u v w:Option D}{rs:List D}(h:LnOk x)(f:Fd T n 6 g j)(hN:n+7<=N)(U:g[N]?=aD (.lst rs))(hv:(j (wix x.1)).length < 1000)
  {Q:Fl->Rho->Sto->Prop} (q:∀b c B,Fd T n 6 B (λy=>if y=wix x.1 then j y++[dI x.2] else j y)->B[N]?=aD (.lst rs)->Q .nx [a,aD (.ref n),aD (.str (aS x)),b,c,w] B) :
  rW (wSs (evC af (k+1)) (cN af) 57 Sv) [a,aD (.ref n),aD (.str (aS x)),u,v,w] g Q:=by
 have H:=kn x.1 h.w;dsimp only[Sv,jy];k_is;have rl:=jF x.1 x.2 h.n;have w6:=uA H.1;have Z:(aU x.1 x.2).length<=50:=by have:=h.l;lia
 have I:=AY H.1 h.n
 have s1:gi (.str (aS x)) [.str " "] g=aD (.ref (Zh g),g++[.lst ((x.1::x.2.map aL).map D.str)]):=by
  have:=uC (S:=g) (x:=aU x.1 x.2) (y := " ") rfl (by lia) (by rw[I,ZB,Za];have:=h.l;lia) (λz hz=>by
   rw[I] at hz;rcases Zm.mp hz with rfl |hz
   ·lia
   ·obtain⟨m,M,rfl⟩:=ZH.mp hz;have:=(iW (h.n m M).1 (h.n m M).2).len;show(aL m).cps.size<=_
    lia)
  rw[I] at this;exact this
 refine⟨rfl,aa s1 ?_⟩;refine⟨_,.str x.1,(x.2.map aL).map D.str,rfl,by rw[aq ay];rfl,⟨by rw[Za,Za];have:=h.l;lia,by simp,by simp⟩,?_⟩;have C:=(f.then (Sm.app g [Ob.lst ((x.1::x.2.map aL).map D.str)])).then (Sm.app _ [Ob.lst ((x.2.map aL).map D.str)])
 have E:=Sm.app (g++[Ob.lst ((x.1::x.2.map aL).map D.str)]) [Ob.lst ((x.2.map aL).map D.str)] _ _ (Sm.app g [Ob.lst ((x.1::x.2.map aL).map D.str)] _ _ U);have o:(g++[Ob.lst ((x.1::x.2.map aL).map D.str)]++[Ob.lst ((x.2.map aL).map D.str)])[Zh (g++[Ob.lst ((x.1::x.2.map aL).map D.str)])]?=aD (Ob.lst ((x.2.map aL).map D.str)):=ay
 have hl2:n+7<=Zh (g++[Ob.lst ((x.1::x.2.map aL).map D.str)]):=by
  have:=(Zb.mp U).1;rw[Zi];lia
 generalize Zh (g++[Ob.lst ((x.1::x.2.map aL).map D.str)])=L at *;generalize g++[Ob.lst ((x.1::x.2.map aL).map D.str)]++[Ob.lst ((x.2.map aL).map D.str)]=B at *;show rW _ [a,aD (.ref n),aD (.str (aS x)),aD (.str x.1),aD (.ref L),w] B _;k_is;refine aa (Su C h.w) ?_;k_is;refine aa (J9 C h.w) ?_;k_is;refine⟨cp (C.l _ H.2.1),by rw[aq o];rfl,iX x.2 (λi=>.str (aL i)) D.int (by have:=h.l;lia) (O9 (by rw[o,Yd];rfl)) (λi S' J sm=>⟨_,rfl,?_⟩) λX Y=>?_⟩
 ·k_is;exact⟨rfl,A6 (k:=k) (iW (h.n i J).1 (h.n i J).2) λS4 s4=>⟨rfl,s4⟩⟩
 ·refine aa (show ia bx (x.2.map D.int) X=aD (dI x.2,X) from rfl) ?_;have O:=C.then Y
  rw[iU (O.l _ H.2.1) (by lia)];have f4:=O.put (ds:=j (wix x.1)++[dI x.2]) H.2.1;k_is;refine q _ _ _ ?_ (by rw[ZE (by lia)];exact Y _ _ E)
  have e:(λy=>if y=wix x.1 then j y++[dI x.2] else j y)=λy=>if y=wix x.1 then j (wix x.1)++[dI x.2] else j y:=by
   funext y
   split
   ·rename_i z;rw[z]
   ·rfl
  rw[e];exact f4
def nR{m:Nat}(h:S[m]?=aD (.lst ds)):az ia (.ref m) S=aD (.tup ds,S):=by simp only[az,am,aq h,Zr,ia]
abbrev ofW(L:List (Str × List Int))(j:Nat):List (List Int):=(L.filter λx=>wix x.1 == j).map (·.2)
def EY(L:List (Str × List Int))(x:Str × List Int)(j:Nat):ofW (L++[x]) j=if j=wix x.1 then ofW L j++[x.2] else ofW L j:=by
 unfold ofW;rw[YR,Zv];by_cases h:j=wix x.1
 ·rw[if_pos h,YY,if_pos (by rw[h];exact beq_self_eq_true _)];rfl
 ·rw[if_neg h,YY,if_neg (by intro z;exact h (eq_of_beq z).symm)];exact ZO _
abbrev IX(L:List (Str × List Int)):D:=match ofW L 0 with
 |m::_=>.tup [.tup (m.map D.int++[.tup ((ofW L 1).map dI),.tup ((ofW L 2).map dI)]),ahD (ofW L 3),.tup ((ofW L 4).map dI),((ofW L 5).map dI).headD (.tup [])]
 |[]=>.non
def EZ{x:Str}{ls:List (Str × List Int)}(hl:ls.length<=50)(H:∀y ∈ ls,LnOk y)(hs:Txt.split x "\n" = ls.map aS)(hx:x.length<=9000)(hm:ofW ls 0 ≠ [])(L:∀ m ∈ ofW ls 0,m.length<=7)(q:∀ g,Sm S g->Q (IX ls) g):Ok (evC af (k+2) 23 [.str x] S) Q:=by
 refine aW (d:=nB) (ρ:=[aD (.str x),aT,aT,aT,aT,aT]) rfl rfl ?_;dsimp only [nB,jy];k_is;refine EX (by show 6 < 7;decide) (λw o S h=>by show sK 6 o S=_;unfold sK;rw [h]) (λo S=>rfl) λρ' S1 Z=>⟨rfl,?_⟩;show rW _ [aD (.str x),aD (.ref (Zh S)),aT,aT,aT,aT] S1 _;generalize hn0:Zh S=n at *
 have rl:∀ z ∈ Txt.split x "\n", z.length<=9000:=λz Y=>by
  rw [hs] at Y;obtain ⟨y,C,rfl⟩:=ZH.mp Y;have:=jF y.1 y.2 (H y C).n;have:=uA (kn y.1 (H y C).w).1;have:=(H y C).l;show (aU y.1 y.2).length<=_
  lia
 k_is;refine ⟨rfl,aa (uC rfl hx (by rw [hs,Za];lia) rl) ?_⟩;refine (show (aA (S1++[Ob.lst ((Txt.split x "\n").map D.str)]) (Zh S1)).isSome=br/\_ from ⟨by rw[aq ay];rfl,?_⟩);have f2:=Z.then (Sm.app S1 [Ob.lst ((Txt.split x "\n").map D.str)])
 have O:(S1++[Ob.lst ((Txt.split x "\n").map D.str)])[Zh S1]?=aD (Ob.lst ((ls.map aS).map D.str)):=by rw [hs];exact ay
 have hN:n+7<=Zh S1:=by have:=(Zb.mp (Z.l 5 (by decide))).1;lia
 generalize Zh S1=N at *;generalize S1++[Ob.lst ((Txt.split x "\n").map D.str)]=S2 at *;refine eA ls.length (λi J g=>Fd S n 6 g (λj=>(ofW (ls.take i) j).map dI)/\g[N]?=aD (Ob.lst ((ls.map aS).map D.str))/\∃b c d,J=[aD (.str x),aD (.ref n),b,c,d,aT]) (by unfold LF;lia) (λi J g v T=>?_) (λJ g T=>?_) ⟨f2,O,_,_,_,rfl⟩
 ·obtain⟨f,u,b,c,d,E⟩:=T;subst E;refine⟨.str (aS ls[i]),_,?_,rfl,?_⟩
  ·show(aA g N).map (λX=>X[i]?)=_;rw[aq u,Zr,Zo,Zo,gEG v];rfl
  ·refine rF (IW (H _ (ZK v)) f hN u (by
    rw[Za];unfold ofW;rw[Za];have:=List.length_filter_le (λy:Str × List Int=>wix y.1 == wix (ls[i]).1) (ls.take i);rw[ZA] at this
    lia) λb c S3 f3 B=>⟨?_,B,_,_,_,rfl⟩)
   have e:(λj=>(ofW (ls.take (i+1)) j).map dI)=λy=>if y=wix (ls[i]).1 then (ofW (ls.take i) y).map dI++[dI (ls[i]).2] else (ofW (ls.take i) y).map dI:=by
    funext j
    rw[ZM v,EY];split
    ·rw[Zv];rfl
    ·rfl
   rw[e];exact f3
 ·obtain⟨f,u,b,c,d,E⟩:=T;subst E;rw[Z8] at f;refine⟨?_,?_⟩
  ·show(aA g N).map (λX=>X[ls.length]?)=_;rw[aq u,Zr,ZG (by rw[Za,Za];exact Zc _)]
  k_is;have I:∀w j,w ∈ wds->wix w=j->ixS (.ref n) (.str w) g=aD (.ref (n+1+j),g):=λw j hw hj=>by rw[<-hj];exact J9 f hw
  obtain⟨M,ms,U⟩:∃m ms,ofW ls 0=m::ms:=by
   cases e:ofW ls 0 with
   |nil=>exact absurd e hm
   |cons m ms=>exact⟨m,ms,rfl⟩
  have f0:=f.l 0 (by decide);rw[U] at f0;have hm0:=L M (by rw[U];exact Zd);refine aa (I "meadow" 0 (by decide +kernel) (by decide +kernel)) ⟨rfl,nQ (k:=k) f0 ?_⟩;refine aa (I "gaps" 1 (by decide +kernel) (by decide +kernel)) (aa (nR (f.l 1 (by decide))) ?_);refine aa (I "shut" 2 (by decide +kernel) (by decide +kernel)) (aa (nR (f.l 2 (by decide))) ?_);rw[show(List.map dI (M::ms)).headD (.tup []) = .tup (M.map D.int) from rfl];k_is;refine⟨by rw[Za];show M.length+2<=1000;lia,?_⟩;k_is;refine aa (I "ahead" 3 (by decide +kernel) (by decide +kernel)) ⟨rfl,nQ (k:=k) (f.l 3 (by decide)) ?_⟩;refine aa (I "glider" 4 (by decide +kernel) (by decide +kernel)) (aa (nR (f.l 4 (by decide))) ?_);refine aa (I "fixed" 5 (by decide +kernel) (by decide +kernel)) ⟨rfl,nQ (k:=k) (f.l 5 (by decide)) ?_⟩;k_is;have:=q g f.sm;unfold IX at this;rw[U] at this;have e3:((ofW ls 3).map dI).headD .non=ahD (ofW ls 3):=by cases ofW ls 3 <;> rfl
  rw[e3];exact this
def nS{a b:Int}(c:0<=a)(H:b<=9999):∀ {T:List Dw.D},(∀e ∈ T,Dw.ai e a b=br)->∃l,T=l.map Dw.D.int/\inN l/\l.length=T.length
 |[],_=>⟨[],rfl,λn hn=>by simp at hn,rfl⟩
 |t::T,h=>by
  obtain⟨i,rfl,o,j⟩:=Dw.aj (h t Zd);obtain⟨l,rfl,g,e⟩:=nS c H λe f=>h e (Zf _ f);exact⟨i::l,rfl,λn hn=>by rcases Zm.mp hn with rfl |hn;exact⟨by lia,by lia⟩;exact g n hn,by rw[ZB,e,ZB]⟩
def lF:∀ {ts:List Dw.D},(∀t ∈ ts,∃l,t=tI l/\inN l/\l.length<=7)->∃L:List (List Int),ts=L.map tI/\(∀l ∈ L,inN l/\l.length<=7)/\L.length=ts.length
 |[],_=>⟨[],rfl,λn hn=>by simp at hn,rfl⟩
 |t::ts,h=>by
  obtain⟨l,rfl,c⟩:=h t Zd;obtain⟨L,rfl,b,e⟩:=lF λe H=>h e (Zf _ H);exact⟨l::L,rfl,λn hn=>by rcases Zm.mp hn with rfl |hn;exact c;exact b n hn,by rw[ZB,e,ZB]⟩
def E5(h:Dw.cR t=br):∃K,t=skT K/\SkN K:=by
 obtain⟨tm,ta,tg,tf,rfl⟩:∃m a g f,t = .tup [m,a,g,f]:=by
  unfold Dw.cR at h;split at h
  ·exact⟨_,_,_,_,rfl⟩
  ·cases h
 rw[Dw.qA] at h;simp only[bAE] at h;obtain⟨em,E,y,J⟩:=h;obtain⟨r,s,rows,hs,rfl,r0,r8,s0,s60,B,T⟩:=Dw.eT em;simp only[Dw.dX,Dw.gO,Dw.jP] at E y;simp only[Dw.aR,bAE,decide_eq_true_eq] at B;simp only[Dw.aM,bAE,decide_eq_true_eq] at T
 obtain⟨I,rfl,Z,er⟩:=lF (ts:=rows) λt o=>by
  have:=Ze.mp B.2.1 t o;unfold Dw.bL at this;split at this
  ·rename_i ds;rw[bAE,decide_eq_true_eq,Ze] at this;obtain⟨l,rfl,q,e⟩:=nS (by decide) (by decide) this.2;exact⟨l,rfl,q,by lia⟩
  ·cases this
 obtain⟨L,rfl,M,eh⟩:=lF (ts:=hs) λt o=>by
  have:=Ze.mp T.2.1 t o;unfold Dw.av at this;split at this
  ·rename_i b e;simp only[bAE] at this;obtain⟨b,rfl,b0,b1⟩:=Dw.aj this.1;obtain⟨e,rfl,U,e1⟩:=Dw.aj this.2.1;exact⟨[b,e],rfl,λn H=>by simp only[Zm,Yh,or_false] at H;rcases H with rfl |rfl <;> exact⟨by assumption,by assumption⟩,by simp⟩
  ·cases this
 obtain⟨c,rfl,ha,Y⟩:∃c,ta=ahT c/\(∀l ∈ c,inN l/\l.length<=7)/\c.length<=1:=by
  unfold Dw.bA at E;split at E
  ·exact⟨[],rfl,λl q=>by simp at q,by simp⟩
  ·rename_i kk mm;simp only[bAE] at E;obtain⟨b,rfl,b0,b1⟩:=Dw.aj E.1;obtain⟨e,rfl,U,e1⟩:=Dw.aj E.2;refine⟨[[b,e]],rfl,λl q=>?_,by simp⟩;rw[Zt.mp q];refine⟨λn H=>?_,by simp⟩;simp only[Zm,Yh,or_false] at H;have:=B.1.2;rcases H with rfl |rfl
   ·exact⟨by lia,by lia⟩
   ·exact⟨by lia,by lia⟩
  ·cases E
 cases tg with
 |tup gs=>
  simp only[Dw.aI,bAE,decide_eq_true_eq] at y
  obtain⟨v,rfl,C,eg'⟩:=lF (ts:=gs) λt o=>by
   obtain⟨k,j,f,l,u,w,g,rfl,z⟩:=Dw.oK (Ze.mp y.2 t o);refine⟨[k,j,f,l,u,w,g],rfl,λn H=>?_,by simp⟩;have:=B.1.2;simp only[Zm,Yh,or_false] at H;rcases H with rfl |rfl |rfl |rfl |rfl |rfl |rfl <;> exact⟨by lia,by lia⟩
  cases tf with
  |tup fs=>
   simp only[Dw.tupOf,Dw.bH,bAE] at J;have O:=J.1;simp only[Dw.bN,bAE,decide_eq_true_eq] at O;obtain⟨X,rfl,hf,ef'⟩:=nS (a:=0) (b:=((v.map tI).length:Int) - 1) (by decide) (by lia) (Ze.mp O.2.1);exact⟨⟨r,s,I,L,c,v,X⟩,rfl,⟨λn H=>by simp only[Zm,Yh,or_false] at H;rcases H with rfl |rfl <;> exact⟨by lia,by lia⟩,Z,M,ha,C,⟨hf,by lia⟩,by lia,by lia,Y,by lia⟩⟩
  |_=>simp[Dw.bH] at J
 |_=>simp[Dw.aI] at y
def uD:∀ {l:List Int} {ds:List D},TDs p S (l.map Dw.D.int) ds->ds=l.map D.int
 |[],ds,h=>h.nil
 |i::l,ds,h=>by
  obtain⟨d,r,rfl,a,q⟩:=h.cons;rw[a.int,uD q];rfl
def E6(h:TD p S (tI l) d):d=dI l:=by
 obtain⟨b,rfl,q⟩:=h.tup;rw[uD q];rfl
def rL:∀ {L:List (List Int)} {ds:List D},TDs p S (L.map tI) ds->ds=L.map dI
 |[],ds,h=>h.nil
 |i::l,ds,h=>by
  obtain⟨d,r,rfl,a,q⟩:=h.cons;rw[E6 a,rL q];rfl
def E7(h:TD p S (skT K) d):d=skD K:=by
 obtain⟨T,rfl,q⟩:=h.tup;obtain⟨a,b,c,e,rfl,y,H,v,u⟩:=uw q;obtain⟨O,rfl,B⟩:=y.tup;obtain⟨M,L,J,I,rfl,f,g,j,C⟩:=uw B;obtain⟨_,rfl,o⟩:=j.tup;obtain⟨_,rfl,E⟩:=C.tup;obtain⟨_,rfl,z⟩:=v.tup
 rw[f.int,g.int,rL o,rL E,rL z,E6 u,show b=ahD K.ah by
  cases e:K.ah with
  |nil=>rw[e] at H;exact H.non
  | cons l _=>rw[e] at H;exact E6 H]
 rfl
def jG:∀ {l:List Int},TDs p S (l.map Dw.D.int) (l.map D.int)
 |[]=>aE
 |_::l=>ac bP jG
def lG:∀ {L:List (List Int)},TDs p S (L.map tI) (L.map dI)
 |[]=>aE
 |_::l=>ac (td_tup jG) lG
def rN:TD p S (skT K) (skD K):=
 td_tup (ac (td_tup (ac bP (ac bP (ac (td_tup lG) (ac (td_tup lG) aE))))) (ac (by
  cases e:K.ah with
  |nil=>exact re
  | cons l _=>exact td_tup jG) (ac (td_tup lG) (ac (td_tup jG) aE))))
abbrev lnK(K:SkP):List (Str × List Int):=("meadow", [K.r,K.s])::cK K
def jH(a b:List (Str × List Int))(j:Nat):ofW (a++b) j=ofW a j++ofW b j:=by unfold ofW;rw[YR,Zv]
def fN(w:Str)(j:Nat):∀L:List (List Int),ofW (L.map (w,·)) j=if wix w=j then L else []
 |[]=>by split <;> rfl
 |l::L=>by
  have I:=fN w j L;unfold ofW at I ⊢;rw[Zs,YY];by_cases h:wix w=j
  ·rw[if_pos h] at I ⊢;rw[if_pos (by rw[h];exact beq_self_eq_true _),Zs,I]
  ·rw[if_neg h] at I ⊢;rw[if_neg (by intro z;exact h (eq_of_beq z)),I]
def Pa:wix "meadow" = 0/\wix "gaps" = 1/\wix "shut" = 2/\wix "ahead" = 3/\wix "glider" = 4/\wix "fixed" = 5:=by decide +kernel
def Ka(K:SkP):ofW (lnK K) 0=[[K.r,K.s]]/\ofW (lnK K) 1=K.rows/\ofW (lnK K) 2=K.hs/\ofW (lnK K) 3=K.ah/\ofW (lnK K) 4=K.gs/\ofW (lnK K) 5=fxL K.fs:=by
 have e:∀j,ofW (lnK K) j=ofW ([[K.r,K.s]].map (("meadow" : Str),·)) j++ofW (cK K) j:=λj=>jH [("meadow", [K.r,K.s])] (cK K) j;obtain⟨h,c,w2,b,g,f⟩:=Pa;refine⟨?_,?_,?_,?_,?_,?_⟩ <;>
 ·rw[e];unfold cK;rw[jH,jH,jH,jH,fN,fN,fN,fN,fN,fN,h,c,w2,b,g,f];simp
def Pb(K:SkP):IX (lnK K)=skD K:=by
 obtain⟨h,c,w2,b,g,f⟩:=Ka K;unfold IX;rw[h,c,w2,b,g,f]
 have:((fxL K.fs).map dI).headD (.tup [])=dI K.fs:=by
  cases K.fs with
  |nil=>rfl
  |cons a l=>rfl
 show D.tup [.tup ([K.r,K.s].map D.int++[.tup (K.rows.map dI),.tup (K.hs.map dI)]),ahD K.ah,.tup (K.gs.map dI),((fxL K.fs).map dI).headD (.tup [])]=_;rw[this];rfl
def pS(h:SkN K):∀y ∈ lnK K,LnOk y:=by
 have e:∀ {w:Str} {L:List (List Int)} {y:Str × List Int},w ∈ wds->(∀l ∈ L,inN l/\l.length<=7)->y ∈ L.map (w,·)->LnOk y:=λc H hy=>by
  obtain⟨l,b,rfl⟩:=ZH.mp hy;exact⟨c,(H l b).1,(H l b).2⟩
 intro y hy;unfold lnK cK at hy;simp only[Zm,Zu] at hy;rcases hy with rfl |(((hy |hy) |hy) |hy) |hy
 ·exact⟨(by decide +kernel:("meadow" : Str) ∈ wds),h.rs,by show 2<=7;decide⟩
 ·exact e (by decide +kernel) h.rows hy
 ·exact e (by decide +kernel) h.hs hy
 ·exact e (by decide +kernel) h.ah hy
 ·exact e (by decide +kernel) h.gs hy
 ·refine e (w := "fixed") (by decide +kernel) (λl H=>?_) hy;unfold fxL at H;split at H
  ·simp at H
  ·rw[Zt.mp H];exact h.fs
def E8(h:SkN K):(lnK K).length<=18:=by
 unfold lnK cK;have:(fxL K.fs).length<=1:=by unfold fxL;split <;> simp
 simp only[ZB,Zi,Za];have:=h.l1;have:=h.l2;have:=h.l3;have:=h.l4
 lia
def zg(h:LnOk y):(aS y).length<=50:=by
 have:=jF y.1 y.2 h.n;have:=uA (kn y.1 h.w).1;have:=h.l;show(aU y.1 y.2).length<=_
 lia
def nT(h:SkN K):(cu K).length<=9000:=by
 have g:=E8 h
 have c:=y8 (aS ("meadow", [K.r,K.s])) 50 (zg (pS h _ Zd)) ((cK K).map aS) λy H=>by
  obtain⟨z,b,rfl⟩:=ZH.mp H;exact zg (pS h _ (Zf _ b))
 have j:(cK K).length+1<=18:=g;have f:((cK K).map aS).length=(cK K).length:=Za ..;have:(cu K).length<=(50+1) * (((cK K).map aS).length+1):=c;rw[f] at this
 lia
def xm(h:SkN K):Txt.split (cu K) "\n" = (lnK K).map aS:=by
 refine AZ (x:=aS ("meadow", [K.r,K.s])) (ls:=(cK K).map aS) λz H c f=>?_;have H:z ∈ (lnK K).map aS:=H;obtain ⟨y,b,rfl⟩:=ZH.mp H;have:=pS h y b;exact zd (kn y.1 this.w).1 this.n c f
def uE(h:SkN K):∀ c ∈ cq (cu K),c < 128:=
 txt_cps (x:=aS ("meadow", [K.r,K.s])) (ls:=(cK K).map aS) λz H c f=>by
  have H:z ∈ (lnK K).map aS:=H;obtain ⟨y,b,rfl⟩:=ZH.mp H;have:=pS h y b;exact zd (kn y.1 this.w).1 this.n c f
def IY(h:SkN K)(q:∀ b,Sm S b->Q (skD K) b):Ok (evC af (k+2) 23 [.str (cu K)] S) Q:=by
 obtain ⟨c,_⟩:=Ka K;refine EZ (ls:=lnK K) (Zz (E8 h) (by decide)) (pS h) (xm h) (nT h) (by rw [c];exact Xh _ _) (λm H=>?_) λb s=>?_
 ·rw [c,Zt] at H;rw [H];show 2<=7;decide
 ·rw [Pb];exact q b s
def IZ(h:SkN K)(hs:Dw.cR (skT K)=br)(q:∀ b,Sm S b->Q (skD K) b):Ok (evC af (k+8) 20 [.str (cu K)] S) Q:=by
 refine xh (A0 (d:=DR) (k:=k+7) rfl rfl rfl ?_);show OkX (cm _ _ wz [aD (.str (cu K)),aT] S) _;dsimp only [wz];refine ET ?_;k_is;refine aa (show ji .str (.str (cu K)) S=aD (.bl br,S) from rfl) ?_;k_is;refine ⟨rfl,IY (k:=k+5) h λo c=>?_⟩;k_is;refine J6 ?_;k_is;refine ⟨rfl,EC (k:=k) (p:=0) rN λu j=>?_⟩;rw [hs];k_is;refine ⟨rfl,zf (k:=k+5) h λf g=>?_⟩;k_is;rw [fM,ag,beq_self_eq_true];k_is;rw [if_neg (by decide)];refine ET ?_;k_is;exact q f (c.trans (j.trans g))
def uF{t:Dw.D}{d:D}{Q:RR->Sto->Prop}(h:TD p S t d)(q:∀ b,Sm S b->Q (if Dw.cR t=br then .val .non else .exc 1) b):OkX (evX af (k+8) 18 [d] S) Q:=by
 refine A0 (d:=kN) (rs:=gq) (ρ:=[aD d]) rfl rfl rfl ?_;unfold gq;refine J6 ?_;k_is;refine ⟨rfl,EC h λb sm=>?_⟩;have q:=q b sm;k_is;cases e:Dw.cR t with
 |true=>
  rw [e] at q;exact O6 q
 |false=>
  rw [e] at q;exact ⟨by decide,q⟩
def Ja(h:TD p S t d)(H:Dw.cR t=bx)(q:∀ b,Sm S b->Q (.str "sky") b):Ok (evC af (k+10) 43 [d] S) Q:=by
 refine xh (A0 (d:=iR) (rs:=dH) (ρ:=[aD d,aT]) rfl rfl rfl ?_);unfold dH;refine J7 (ds:=[d]) (S1:=S) rfl rfl ?_;refine A0 (d:=j9) (rs:=fc) (ρ:=[aD d]) rfl rfl rfl ?_;unfold fc;refine J5 (ds:=[d]) (S1:=S) rfl rfl (uF h λb sm=>?_);rw[H];exact⟨_,rfl,q b sm⟩
def uG(h:SkN K)(hs:Dw.cR (skT K)=br)(q:∀b,Sm S b->Q (.str (cu K)) b):Ok (evC af (k+10) 43 [skD K] S) Q:=by
 refine xh (A0 (d:=iR) (rs:=dH) (ρ:=[aD (skD K),aT]) rfl rfl rfl ?_);unfold dH;refine J7 (ds:=[skD K]) (S1:=S) rfl rfl ?_;refine A0 (d:=j9) (rs:=fc) (ρ:=[aD (skD K)]) rfl rfl rfl ?_;unfold fc;refine J5 (ds:=[skD K]) (S1:=S) rfl rfl (uF (p:=0) rN λb sm=>?_);rw[hs];refine ET ?_;k_is;exact⟨rfl,zf (k:=k+6) h λc f=>q c (sm.trans f)⟩
abbrev lnD(y:Str × List Int):D:=.tup [.str y.1,dI y.2]
def dN(h:x.length+y.length<=100000):bR .add (.str x) (.str y) S=aD (.str (x++y),S):=by
 simp only[bR,jS];rw[if_pos h]
def rO{n:Int}(h:0<=n/\n<=9999):(aL n).length<=4:=(iW h.1 h.2).len
def ko{b:Type}{l:List b}{i:Nat}(h:i < l.length):l.take (i+1)=l.take i++[l[i]]:=ZM h
def Jb{y:Str × List Int}{a b c e f g:Option D}(o:LnOk y){Q:Fl->Rho->Sto->Prop}{C:Calls}{ar:Nat->Nat}{z:Nat}(q:∀j,Q .nx [a,b,c,aD (.str (aS y)),aD (dI y.2),j,f,g] S) :
  OkS (dD (nxL (y.2.map D.int)) (.name 5) (fV C ar (z+8) [CS.asg (Tg.name 3) (CE.bin BOp.add (CE.bin BOp.add (CE.var 3) (CE.str " ")) (CE.var 5).strI)]) LF 0 [a,b,c,aD (.str y.1),aD (dI y.2),e,f,g] S) Q:=by
 have T:=uA (kn y.1 o.w).1;refine J8 (by rw[Za];have:=o.l;lia) (λi u v=>v=S/\i<=y.2.length/\∃j,u=[a,b,c,aD (.str (aU y.1 (y.2.take i))),aD (dI y.2),j,f,g]) (λi d u v hd I=>?_) (λu v I=>?_) ⟨rfl,Xy _,_,rfl⟩
 ·obtain⟨rfl,H,j,rfl⟩:=I;obtain⟨n,J,rfl⟩:=EU hd;obtain⟨H,rfl⟩:=Zb.mp J;have h:=o.n _ (ZK H);have E:=jF y.1 (y.2.take i) λm B=>o.n m (YI B);rw[ZA] at E;have M:=o.l;have L:=rO h;have O:Str.length (" " : Str)=1:=rfl;refine⟨_,rfl,?_⟩;k_is;refine aa (dN (by lia)) ?_;k_is;refine aa (lB h.1 h.2) ?_;k_is;refine aa (dN (by rw[c8];lia)) ?_;k_is;exact⟨rfl,H,aD (.int y.2[i]),by rw[ko H,kj]⟩
 ·obtain⟨rfl,H,j,rfl⟩:=I;rw[Za,Z8];exact q j
def Tz:bg (d::ds) (aD 1) aT=ds:=by
 unfold bg
 have h:HT.sIx (d::ds).length 0 (aD 1)=1:=by
  unfold HT.sIx;simp
 have H:HT.sIx (d::ds).length (d::ds).length aT=ds.length+1:=rfl;rw[h,H,YM,YJ,Nat.add_sub_cancel,Z8]
def pT{O T:Sto}{m n:Nat}{X:Str}{ys:List (Str × List Int)}{a b c d e f:Option D}(bl:Bl O m T [X])(hx:X.length<=50)(Z:T[n]?=aD (.lst (ys.map lnD)))(nm:n ≠ m)(hl:ys.length<=20)(Y:∀y ∈ ys,LnOk y)
  (q:∀g,Sm O g->Q (.str (jE X (ys.map aS))) g) :
  rW (wSs (evC af k) (cN af) 55 (fD.drop 5)) [a,aD (.ref m),aD (.ref n),b,c,d,e,f] T (out Q):=by
 dsimp only[fD,YD];k_is;refine⟨by rw[aq Z];rfl,?_⟩;refine eA ys.length (λi o g=>Bl O m g (X::(ys.take i).map aS)/\g[n]?=aD (.lst (ys.map lnD))/\∃b c d,o=[a,aD (.ref m),aD (.ref n),b,c,d,e,f]) (by unfold LF;lia) (λi o g H I=>?_) (λo g I=>?_) ⟨bl,Z,_,_,_,rfl⟩
 ·obtain⟨B,h,b,c,d,rfl⟩:=I;refine⟨lnD ys[i],[a,aD (.ref m),aD (.ref n),aD (.str (ys[i]).1),aD (dI (ys[i]).2),d,e,f],?_,rfl,?_⟩
  ·show(aA g n).map (λj=>j[i]?)=_;rw[aq h,Zr,Zo,gEG H];rfl
  ·have U:=Y _ (ZK H);k_is;refine Jb (C:=evC af k) (ar:=cN af) U λc'=>?_;k_is;refine⟨cp B.at_,?_⟩;k_is;rw[iU B.at_ (by rw[Za,ZB,Za,ZA];lia)];k_is;refine⟨B.set (by rw[ko H,Zv,<-Yv,Zv];rfl),by rw[ZE (Ne.symm nm)];exact h,_,_,_,rfl⟩
 ·obtain⟨B,h,b,c,d,rfl⟩:=I;rw[Z8] at B;refine⟨?_,?_⟩
  ·show(aA g n).map (λj=>j[ys.length]?)=_;rw[aq h,Zr,ZG (by rw[Za];exact Zc _)]
  k_is
  have M:ixS (.ref m) (.int 0) g=aD (.str X,g):=by
   simp only[ixS,am,aq B.at_,Zr];rw[show atI ((X::ys.map aS).map D.str) 0=aD (.str X) by simp[atI,ixN]];rfl
  refine aa M ?_;k_is
  have sl:slS (aD 1) aT (.ref m) g=aD (.ref (Zh g),g++[Ob.lst ((ys.map aS).map D.str)]):=by
   simp only[slS,aq B.at_];rw[Zs,Tz]
  refine aa sl ?_;have b2:=B.then (Sm.app g [Ob.lst ((ys.map aS).map D.str)])
  have u:(g++[Ob.lst ((ys.map aS).map D.str)])[Zh g]?=aD (Ob.lst ((ys.map aS).map D.str)):=ay;generalize Zh g=N at *;generalize g++[Ob.lst ((ys.map aS).map D.str)]=S2 at *;refine(show(aA S2 N).isSome=br/\_ from ⟨by rw[aq u];rfl,?_⟩);refine eA (ys.map aS).length (λi o v=>v=S2/\∃L,o=[a,aD (.ref m),aD (.ref n),b,c,d,aD (.str (jE X ((ys.map aS).take i))),L]) (by rw[Za];unfold LF;lia) (λi o v H I=>?_) (λo v I=>?_) ⟨rfl,_,rfl⟩
  ·obtain⟨rfl,L,rfl⟩:=I;refine⟨.str (ys.map aS)[i],[a,aD (.ref m),aD (.ref n),b,c,d,aD (.str (jE X ((ys.map aS).take i))),aD (.str (ys.map aS)[i])],?_,rfl,?_⟩
   ·show(aA v N).map (λj=>j[i]?)=_;rw[aq u,Zr,Zo,gEG H];rfl
   ·have each:∀z ∈ ys.map aS,z.length<=50:=λz J=>by
     obtain⟨y,E,rfl⟩:=ZH.mp J;exact zg (Y y E)
    have tl:=y8 X 50 hx ((ys.map aS).take i) λz J=>each z (YI J);have l2:((ys.map aS).take i).length<=20:=by rw[ZA,Za];lia
    have ri:=each _ (ZK H);have s1:Str.length ("\n" : Str)=1:=rfl;have tl2:(jE X ((ys.map aS).take i)).length<=2000:=Zz tl (Zz (Nat.mul_le_mul_left 51 (Nat.add_le_add_right l2 1)) (by decide));k_is;refine aa (dN (by lia)) ?_;k_is;refine aa (dN (by rw [c8];lia)) ?_;k_is;exact ⟨rfl,aD (.str (ys.map aS)[i]),by rw [ko H,nP]⟩
  ·obtain ⟨rfl,L,rfl⟩:=I;rw [Z8];refine ⟨?_,?_⟩
   ·show (aA v N).map (λj=>j[(ys.map aS).length]?)=_;rw [aq u,Zr,ZG (by rw [Za];exact Zc _)]
   k_is;exact q _ b2.sm
def Bl.other{m n:Nat}(b:Bl S m c xs)(nm:n ≠ m)(hl:S.length<=n):Bl S m (c.set n o) xs:=⟨xl b.sm hl,b.le,by rw [ZE nm];exact b.at_⟩
def pU{K:SkP}{J v:Sto}{m n:Nat}{X:Str}{ys:List (Str × List Int)}{b c d e f:Option D}(h:SkN K)(bl:Bl J m v [X])(U:X.length<=50)(hn:v[n]?=aD (.lst (ys.map lnD)))(hl:ys.length<=9)(Z:∀ y ∈ ys,LnOk y)
  (q:∀ j,Sm J j->Q (.str (jE X ((ys++K.gs.map (("glider" : Str),·)++(fxL K.fs).map (("fixed" : Str),·)).map aS))) j) :
  rW (wSs (evC af k) (cN af) 57 (fD.drop 3)) [aD (skD K),aD (.ref m),aD (.ref n),b,c,d,e,f] v (out Q):=by
 dsimp only [fD,YD];k_is;have C:ixS (skD K) (.int 2) v=aD (.tup (K.gs.map dI),v):=rfl;refine aa C ?_;refine iX K.gs dI (λl=>lnD ("glider", l)) (by have:=h.l4;lia) kl (λl j hl sm=>⟨_,rfl,?_⟩) λg sm=>?_
 ·k_is;exact ⟨rfl,Sm.refl _⟩
 ·have M:=Sm.app g [Ob.lst (K.gs.map λl=>lnD ("glider", l))];refine aa (rJ (M _ _ (sm _ _ hn)) ay (by rw [Za,Za];have:=h.l4;lia)) ?_;have O:=(bl.then sm).then (M.trans (Sm.app (g++[Ob.lst (K.gs.map λl=>lnD ("glider", l))]) [Ob.lst (ys.map lnD++K.gs.map λl=>lnD ("glider", l))]))
  have H:(g++[Ob.lst (K.gs.map λl=>lnD ("glider", l))]++[Ob.lst (ys.map lnD++K.gs.map λl=>lnD ("glider", l))])[Zh (g++[Ob.lst (K.gs.map λl=>lnD ("glider", l))])]?=aD (Ob.lst ((ys++K.gs.map (("glider" : Str),·)).map lnD)):=by
   rw [ay,Zv,Yd];rfl
  have nm:Zh (g++[Ob.lst (K.gs.map λl=>lnD ("glider", l))]) ≠ m:=by
   have:=(Zb.mp (bl.then sm).at_).1;rw [Zi];lia
  have B:J.length<=Zh (g++[Ob.lst (K.gs.map λl=>lnD ("glider", l))]):=by have:=Sm.le (bl.then sm).sm;rw [Zi];lia
  generalize g++[Ob.lst (K.gs.map λl=>lnD ("glider", l))]++[Ob.lst (ys.map lnD++K.gs.map λl=>lnD ("glider", l))]=S3 at *;generalize Zh (g++[Ob.lst (K.gs.map λl=>lnD ("glider", l))])=N at *
  have u:∀ y ∈ ys++K.gs.map (("glider" : Str),·),LnOk y:=λy h1=>(Zu.mp h1).elim (Z y) λh1=>by
   obtain ⟨l,Y,rfl⟩:=ZH.mp h1;exact ⟨(by decide +kernel:("glider" : Str) ∈ wds),(h.gs l Y).1,(h.gs l Y).2⟩
  have l2:(ys++K.gs.map (("glider" : Str),·)).length<=16:=by rw [Zi,Za];have:=h.l4;lia
  generalize ys++K.gs.map (("glider" : Str),·)=zs at *;have I:∀ S,ixS (skD K) (.int 3) S=aD (dI K.fs,S):=λS=>rfl;k_is;refine aa (I S3) ?_;refine aa (show az eF (dI K.fs) S3=aD (.int K.fs.length,S3) by simp only [az,dI,am,eF,Za]) ?_;k_is;cases E:K.fs with
  |nil=>
   rw [E] at q;rw [show decide ((0:Int) < (([]:List Int).length:Nat))=bx from rfl];refine pT O U H nm (by lia) u λj L=>?_;have:=q j L
   rwa [show (fxL []).map (("fixed" : Str),·)=[] from rfl,ZO] at this
  |cons a l=>
   rw[E] at q;have T:inN (a::l)/\(a::l).length<=7:=by rw[<-E];exact h.fs
   rw[show decide ((0:Int) < ((a::l).length:Nat))=br from decide_eq_true (by rw[ZB];lia)];k_is;refine⟨cp H,?_⟩;k_is;refine aa (I S3) ?_;rw[iU H (by rw[Za];lia)];have b3:=O.other (o:=Ob.lst (zs.map lnD++[D.tup [.str "fixed", dI K.fs]])) nm B
   have z:(Xj S3 N (Ob.lst (zs.map lnD++[D.tup [.str "fixed", dI K.fs]])))[N]?=aD (Ob.lst ((zs++[(("fixed" : Str),a::l)]).map lnD)):=by
    rw[ZD (Zb.mp H).1,E,Zv];rfl
   generalize Xj S3 N (Ob.lst (zs.map lnD++[D.tup [.str "fixed", dI K.fs]]))=S4 at *;refine pT b3 U z nm (by rw[Zi];show zs.length+1<=20;lia) (λy h1=>?_) λj L=>q j L;rcases Zu.mp h1 with h1 |h1
   ·exact u y h1
   ·rw[Zt.mp h1];exact⟨(by decide +kernel:("fixed" : Str) ∈ wds),T.1,T.2⟩
def uH(h:SkN K)(q:∀f,Sm S f->Q (.str (cu K)) f):Ok (evC af (k+1) 42 [skD K] S) Q:=by
 refine aW (d:=iQ) (ρ:=[aD (skD K),aT,aT,aT,aT,aT,aT,aT]) rfl rfl ?_;dsimp only[iQ,fD];have I:∀S,ixS (skD K) (.int 0) S=aD (.tup [.int K.r,.int K.s,.tup (K.rows.map dI),.tup (K.hs.map dI)],S):=λS=>rfl;have E:=h.rs K.r Zd;have hs:=h.rs K.s (Zf _ (Zt.mpr rfl));have lr:=rO E;have O:=rO hs;k_is;refine aa (I S) (aa (show ixS (.tup [.int K.r,.int K.s,.tup (K.rows.map dI),.tup (K.hs.map dI)]) (.int 0) S=aD (.int K.r,S) from rfl) (aa (lB E.1 E.2) (aa (dN (by have:Str.length ("meadow " : Str)=7:=rfl;lia)) ?_)));k_is;have l7:Str.length ("meadow " : Str)=7:=rfl;have l1:Str.length (" " : Str)=1:=rfl;refine aa (dN (by rw[c8];lia)) (aa (I S) (aa (show ixS (.tup [.int K.r,.int K.s,.tup (K.rows.map dI),.tup (K.hs.map dI)]) (.int 1) S=aD (.int K.s,S) from rfl) (aa (lB hs.1 hs.2) ?_)));k_is;refine aa (dN (by rw[c8,c8];lia)) ?_
 have U:("meadow " : Str)++aL K.r++(" " : Str)++aL K.s=aU "meadow" [K.r,K.s]:=by
  show _=("meadow" : Str)++(" " : Str)++aL K.r++(" " : Str)++aL K.s;rw[show("meadow" : Str)++(" " : Str) = "meadow " by decide +kernel]
 rw[U];k_is;have b1:Bl S (Zh S) (S++[Ob.lst [D.str (aU "meadow" [K.r,K.s])]]) [aU "meadow" [K.r,K.s]]:=⟨Sm.app _ _,Zc _,ay⟩;generalize S++[Ob.lst [D.str (aU "meadow" [K.r,K.s])]]=S1 at *;generalize Zh S=m at *;refine aa (I S1) (aa (show ixS (.tup [.int K.r,.int K.s,.tup (K.rows.map dI),.tup (K.hs.map dI)]) (.int 2) S1=aD (.tup (K.rows.map dI),S1) from rfl) ?_);refine iX K.rows dI (λl=>lnD ("gaps", l)) (by have:=h.l1;lia) kl (λl f u sm=>⟨_,rfl,?_⟩) λj s2=>?_
 ·k_is;exact⟨rfl,Sm.refl _⟩
 have C:=(b1.then s2).then (Sm.app j [Ob.lst (K.rows.map λl=>lnD ("gaps", l))])
 have J:(j++[Ob.lst (K.rows.map λl=>lnD ("gaps", l))])[Zh j]?=aD (Ob.lst (K.rows.map λl=>lnD ("gaps", l))):=ay;have le2:=Sm.le (b1.then s2).sm;generalize j++[Ob.lst (K.rows.map λl=>lnD ("gaps", l))]=S3 at *;generalize Zh j=N2 at *;refine aa (I S3) (aa (show ixS (.tup [.int K.r,.int K.s,.tup (K.rows.map dI),.tup (K.hs.map dI)]) (.int 3) S3=aD (.tup (K.hs.map dI),S3) from rfl) ?_);refine iX K.hs dI (λl=>lnD ("shut", l)) (by have:=h.l2;lia) kl (λl f u sm=>⟨_,rfl,?_⟩) λc v=>?_
 ·k_is;exact⟨rfl,Sm.refl _⟩
 have Y:=Sm.app c [Ob.lst (K.hs.map λl=>lnD ("shut", l))];refine aa (rJ (Y _ _ (v _ _ J)) ay (by rw[Za,Za];have:=h.l1;have:=h.l2;lia)) ?_;have Z:=(C.then v).then (Y.trans (Sm.app (c++[Ob.lst (K.hs.map λl=>lnD ("shut", l))]) [Ob.lst ((K.rows.map λl=>lnD ("gaps", l))++K.hs.map λl=>lnD ("shut", l))]))
 have b:(c++[Ob.lst (K.hs.map λl=>lnD ("shut", l))]++[Ob.lst ((K.rows.map λl=>lnD ("gaps", l))++K.hs.map λl=>lnD ("shut", l))])[Zh (c++[Ob.lst (K.hs.map λl=>lnD ("shut", l))])]?=aD (Ob.lst ((K.rows.map (("gaps" : Str),·)++K.hs.map (("shut" : Str),·)).map lnD)):=by
  rw[ay,Zv,Yd,Yd];rfl
 have nm:Zh (c++[Ob.lst (K.hs.map λl=>lnD ("shut", l))]) ≠ m:=by
  have:=(Zb.mp (C.then v).at_).1;rw[Zi];lia
 have B:Zh S<=Zh (c++[Ob.lst (K.hs.map λl=>lnD ("shut", l))]):=by have:=Sm.le (C.then v).sm;rw[Zi];lia
 generalize c++[Ob.lst (K.hs.map λl=>lnD ("shut", l))]++[Ob.lst ((K.rows.map λl=>lnD ("gaps", l))++K.hs.map λl=>lnD ("shut", l))]=S6 at *;generalize Zh (c++[Ob.lst (K.hs.map λl=>lnD ("shut", l))])=N at *;have X:(aU "meadow" [K.r,K.s]).length<=50:=zg (pS h _ Zd)
 have L:∀ {w:Str} {O:List (List Int)} {y:Str × List Int},w ∈ wds->(∀l ∈ O,inN l/\l.length<=7)->y ∈ O.map (w,·)->LnOk y:=λhw u H=>by
  obtain⟨l,h2,rfl⟩:=ZH.mp H;exact⟨hw,(u l h2).1,(u l h2).2⟩
 have H:∀y ∈ K.rows.map (("gaps" : Str),·)++K.hs.map (("shut" : Str),·),LnOk y:=λy h1=>(Zu.mp h1).elim (L (by decide +kernel) h.rows) (L (by decide +kernel) h.hs);have hl8:(K.rows.map (("gaps" : Str),·)++K.hs.map (("shut" : Str),·)).length<=8:=by rw[Zi,Za,Za];have:=h.l1;have:=h.l2;lia
 unfold cu cK at q;k_is;have g:∀S,ixS (skD K) (.int 1) S=aD (ahD K.ah,S):=λS=>rfl;refine aa (g S6) ?_
 have U:K.ah=[]\/∃l,K.ah=[l]:=by
  match e:K.ah,h.l3 with
  |[],_=>exact .inl rfl
  |[l],_=>exact .inr ⟨l,rfl⟩
  |_::_::_,z=>simp at z
 rcases U with e |⟨l,e⟩
 ·have is:ax .isnot (ahD K.ah) .non S6=aD (.bl bx,S6):=by rw[e];rfl
  refine aa is ?_;refine pU h Z X b (by lia) H λf T=>?_;have:=q f T;rw[e] at this
  rwa [ZV,ZO] at this
 ·have is:ax .isnot (ahD K.ah) .non S6=aD (.bl br,S6):=by rw[e];rfl
  refine aa is ?_;k_is;refine⟨cp b,?_⟩;k_is;refine aa (g S6) ?_;rw[iU b (by rw[Za];lia)];have b6:=Z.other (o:=Ob.lst ((K.rows.map (("gaps" : Str),·)++K.hs.map (("shut" : Str),·)).map lnD++[D.tup [.str "ahead", ahD K.ah]])) nm B
  have M:(Xj S6 N (Ob.lst ((K.rows.map (("gaps" : Str),·)++K.hs.map (("shut" : Str),·)).map lnD++[D.tup [.str "ahead", ahD K.ah]])))[N]?=aD (Ob.lst ((K.rows.map (("gaps" : Str),·)++K.hs.map (("shut" : Str),·)++[(("ahead" : Str),l)]).map lnD)):=by
   rw[ZD (Zb.mp b).1,Zv (l₁:=K.rows.map (("gaps" : Str),·)++K.hs.map (("shut" : Str),·)),show ahD K.ah=dI l by rw[e];rfl];rfl
  generalize Xj S6 N (Ob.lst ((K.rows.map (("gaps" : Str),·)++K.hs.map (("shut" : Str),·)).map lnD++[D.tup [.str "ahead", ahD K.ah]]))=S7 at *;refine pU h b6 X M (by rw[Zi];show _+1<=9;lia) (λy h1=>?_) λf T=>?_
  ·rcases Zu.mp h1 with h1 |h1
   ·exact H y h1
   ·rw[Zt.mp h1];have:=h.ah l (by rw[e];exact Zt.mpr rfl);exact⟨(by decide +kernel:("ahead" : Str) ∈ wds),this.1,this.2⟩
  ·have:=q f T;rw[e] at this;exact this
mutual
theorem zh:∀ (n:Nat) {t:Dw.D} {d:D},Dw.dep t < n->TD p S t d->cL n S d=aD t
 |n+1,.non,_,_,h=>by rw[h.non];simp only[cL]
 |n+1,.bl _,_,_,h=>by rw[h.bl];simp only[cL]
 |n+1,.int _,_,_,h=>by rw[h.int];simp only[cL]
 |n+1,.str _,_,_,h=>by rw[h.str];simp only[cL]
 |n+1,.tup ts,_,hd,h=>by
  obtain⟨b,rfl,q⟩:=h.tup;rw[Dw.dep] at hd;simp only[cL,jI n (by lia) q,Zr]
 |n+1,.lst ts,_,hd,h=>by
  rw[TD] at h;obtain⟨m,b,rfl,_,e,q⟩:=h;rw[Dw.dep] at hd;simp only[cL,e,jI n (by lia) q,Zr]
 |n+1,.dic ks ts,_,hd,h=>by
  rw[TD] at h;obtain⟨m,b,rfl,_,e,q⟩:=h;rw[Dw.dep] at hd;simp only[cL,e,jI n (by lia) q,Zr]
theorem jI:∀ (n:Nat) {T:List Dw.D} {ds:List D},Dw.i8 T < n->TDs p S T ds->cr (cL n S) ds=aD T
 |n,[],_,_,h=>by rw[h.nil];simp only[cr]
 |n,t::T,_,hd,h=>by
  obtain⟨d,r,rfl,a,q⟩:=h.cons;rw[Dw.i8] at hd;simp only[cr,zh n (by lia) a,jI n (by lia) q]
end
def zi(h:TD p S t d)(s:Shw t):fQ d S=aD (.str (Dw.aX t).shown,S):=by
 unfold fQ;rw[zh 100 (by have:=s.de;lia) h];dsimp only;rw[if_pos s.sh]
def nU(hl:x.length<=9000)(hc:∀c ∈ cq x,c < 128):fQ (.str x) S=aD (.str (Dw.aX (.str x)).shown,S):=by
 have h:=PySem.StrLaws.reprText_len x λc h=>XV (hc c h) (by decide);refine zi (p:=0) (t:=.str x) rf ⟨Dw.Bd.shn (B:=1) (s:=90002) ⟨by simp only[Dw.bnd],by rw[Dw.sz];lia⟩ (by decide) (by rw[Ug];decide) (by simp[Dw.dep]),by simp[Dw.dep],by simp[Dw.wid]⟩
def E9(h:inN l/\l.length<=7):PF 1 (tI l):=PF.tup (n:=0) (by rw[Za];lia) λt H=>by
 obtain⟨i,b,rfl⟩:=ZH.mp H;have:=h.1 i b;exact xg (by lia)
def xn{L:List (List Int)}(h:∀l ∈ L,inN l/\l.length<=7)(hl:L.length<=8):PF 2 (.tup (L.map tI)):=PF.tup (n:=1) (by rw[Za];exact hl) λt H=>by
 obtain⟨l,hl,rfl⟩:=ZH.mp H;exact E9 (h l hl)
def Fa{K:SkP}(h:SkN K):PF 4 (skT K):=by
 have l1:=h.l1;have l2:=h.l2;have l4:=h.l4;have b:=h.rs K.r Zd;have hs:=h.rs K.s (Zf _ (Zt.mpr rfl));refine PF.tup (n:=3) (by show 4<=8;decide) λt H=>?_;simp only[Zm,Yh,or_false] at H;rcases H with rfl |rfl |rfl |rfl
 ·refine PF.tup (n:=2) (by show 4<=8;decide) λt H=>?_;simp only[Zm,Yh,or_false] at H;rcases H with rfl |rfl |rfl |rfl
  ·exact xg (by lia)
  ·exact xg (by lia)
  ·exact xn h.rows (by lia)
  ·exact xn h.hs (by lia)
 ·cases e:K.ah with
  |nil=>exact O2
  |cons l _=>exact(E9 (h.ah l (by rw[e];exact Zd))).up (by decide)
 ·exact(xn h.gs (by lia)).up (by decide)
 ·exact(E9 h.fs).up (by decide)
def main(ns:List Int)(hn:ns.length<=63):∃y,evC af 40 44 [.ref 0] [.frz (ns.map D.int)]=aD (.bl br,y):=by
 have key:Ok (evC af (39+1) 44 [.ref 0] [.frz (ns.map D.int)]) λd _=>d = .bl br:=by
  refine Tq (d:=yL) (ρ:=[aD (.ref 0),aT,aT,aT,aT,aT,aT,aT,aT]) rfl rfl ?_;dsimp only[yL,JP];k_is;have lq:az eF (.ref 0) [Ob.frz (ns.map D.int)]=aD (.int ns.length,[Ob.frz (ns.map D.int)]):=by simp only[az,am,aA,List.getElem?_cons_zero,Zr,eF,Za]
  refine aa lq ?_;k_is
  obtain⟨c,hc,c20⟩:∃c:Nat,(if (if (20:Int) < ns.length then (20:Int) else ns.length) > 1 then (if (20:Int) < ns.length then (20:Int) else ns.length) else 1)=(c:Int)/\c<=20:=by
   refine⟨(if (if (20:Int) < ns.length then (20:Int) else ns.length) > 1 then (if (20:Int) < ns.length then (20:Int) else ns.length) else 1).toNat,?_,?_⟩
   ·split <;> split <;> lia
   ·split <;> split <;> lia
  rw[hc];refine⟨by simp only[lim,bAE,decide_eq_true_eq];lia,?_⟩;rw[ZN];refine pK (by lia) (λi o y=>y[0]?=aD (Ob.frz (ns.map D.int))/\∃a b c d e f g h,o=[aD (.ref 0),a,b,c,d,e,f,g,h]) (λi o S1 hi I=>?_) (λo S1 I=>?_) ⟨rfl,aT,aT,aT,aT,aT,aT,aT,aT,rfl⟩
  ·obtain⟨L,a,b,c',d,e,f,g,h,rfl⟩:=I;refine⟨_,rfl,?_⟩;k_is;rw[Int.zero_add];refine⟨rfl,IQ (k:=38) L λx=>?_⟩;k_is;refine⟨rfl,OY (k:=38) λn=>?_⟩;k_is;have pt:Pot (Zh S1) (S1++[Ob.lst [D.int n]]):=⟨n,ay⟩;have n0:0 ≠ Zh S1:=λz=>by rw[Yp.mp z.symm] at L;simp at L
   have h1:(S1++[Ob.lst [D.int n]])[0]?=aD (Ob.frz (ns.map D.int)):=Sm.app _ _ _ _ L;generalize S1++[Ob.lst [D.int n]]=S2 at *;generalize Zh S1=p at *;refine⟨rfl,EI (k:=35) pt λtm ta tg tf sk S3 d3 T q=>?_⟩;obtain⟨K,eK,E⟩:=E5 q;rw[eK] at q T;obtain rfl:=E7 T;have Z:=O4 (Fa E);have tl:=nT E;have tc:=uE E;have C:∀S,fQ (skD K) S=aD (.str (Dw.aX (skT K)).shown,S):=λS=>zi (p:=0) rN Z;clear T eK;k_is;refine aa (C S3) ⟨rfl,uH (k:=38) E λS4 s4=>?_⟩;have d4:=d3.thenSm s4;generalize hk:(Dw.aX (skT K)).shown=kp at *;have M:∀S,fQ (.str (cu K)) S=aD (.str (Dw.aX (.str (cu K))).shown,S):=λS=>nU tl tc;k_is;refine⟨rfl,?_⟩;refine pK (by decide) (λj o y=>Dr p S2 y/\∃u v,o=[aD (.ref 0),aD (.int (i:Int)),aD (.ref p),aD (skD K),aD (.str kp),aD (.str (cu K)),u,v,h]) (λj o S5 hj I=>?_) (λo S5 I=>?_) ⟨d4,_,_,rfl⟩
   ·obtain⟨d5,u,v,rfl⟩:=I;refine⟨_,rfl,?_⟩;k_is;refine⟨rfl,uG (k:=29) E q λJ s6=>?_⟩;k_is;refine aa (M J) (aa (M J) ?_);k_is;rw[fM,ag,beq_self_eq_true];k_is;refine aa (C J) ?_;k_is;rw[fM,ag,beq_self_eq_true];k_is;refine⟨rfl,IZ (k:=31) E q λS7 s7=>?_⟩;refine aa (C S7) ?_;k_is;rw[fM,ag,beq_self_eq_true];k_is;exact⟨(d5.thenSm s6).thenSm s7,_,_,rfl⟩
   ·obtain⟨d5,u,v,rfl⟩:=I;k_is;refine⟨rfl,?_⟩;refine pK (by decide) (λj o y=>Dr p S2 y/\∃u v w z,o=[aD (.ref 0),aD (.int (i:Int)),aD (.ref p),aD (skD K),aD (.str kp),u,v,w,z]) (λj o J hj I=>?_) (λo J I=>?_) ⟨d5,_,_,_,_,rfl⟩
    ·obtain⟨X,u,v,w,z,rfl⟩:=I;refine⟨_,rfl,?_⟩;k_is;have pf:=Fa E;refine⟨rfl,ux (k:=32) 4 X.pot (rN (K:=K)) (m:=8) ⟨pf.de,pf.wi⟩ (EL 4 pf) (by decide) (by decide) λt' d' S7 d7 td fb bb=>?_⟩;k_is;refine⟨rfl,IP (k:=35) td (Zz fb.wi (by decide)) λS8 s8=>?_⟩;have d8:=X.trans (d7.thenSm s8);have O:=td.keep s8.kp;k_is;cases e1:Dw.cR t' with
     |true=>
      obtain⟨K',rfl,H⟩:=E5 e1;obtain rfl:=E7 O;have B:∀S,fQ (.str (cu K')) S=aD (.str (Dw.aX (.str (cu K'))).shown,S):=λS=>nU (nT H) (uE H);k_is;refine⟨rfl,uH (k:=38) H λS9 s9=>aa (B S9) ?_⟩;k_is;refine⟨rfl,uG (k:=29) H e1 λY sa=>aa (B Y) ?_⟩;k_is;rw[fM,ag,beq_self_eq_true];k_is;exact⟨(d8.thenSm s9).thenSm sa,_,_,_,_,rfl⟩
     |false=>
      have U:∀S,fQ (.str "sky") S=aD (.str (Dw.aX (.str "sky")).shown,S):=λS=>nU (by decide +kernel) (by decide +kernel);k_is;refine aa (U S8) ?_;k_is;refine⟨rfl,Ja (k:=29) O e1 λY sa=>aa (U Y) ?_⟩;k_is;rw[fM,ag,beq_self_eq_true];k_is;exact⟨d8.thenSm sa,_,_,_,_,rfl⟩
    ·obtain⟨X,u,v,w,z,rfl⟩:=I;k_is;exact⟨X.kp _ _ n0 h1,_,_,_,_,_,_,_,_,rfl⟩
  ·obtain⟨L,a,b,c',d,e,f,g,h,rfl⟩:=I;k_is
 obtain⟨d,y,e,rfl⟩:=key;exact⟨y,e⟩
end Lw
theorem PySem.Challenge.cw_downrings_k71_skies_written_and_read_holds : PySem.Challenge.rw_downrings_k71_skies_written_and_read.Holds :=
 Lw.head Lw.main
