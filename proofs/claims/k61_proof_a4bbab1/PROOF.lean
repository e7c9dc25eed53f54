import PyProof.Rows.All
import KE.KIsAll
import KE.KRevSl
import KE.KSortTup
import PySem.Challenge.RW_downrings_k61_who_holds_which_ring
set_option Elab.async false
set_option linter.all false
set_option maxRecDepth 100000
set_option maxHeartbeats 4000000
local macro_rules|`(abbrev $n:declId $s:optDeclSig $v:declVal)=>`(noncomputable def $n $s:optDeclSig $v:declVal)
local macro_rules|`(def $n:declId $s:optDeclSig $v:declVal)=>do let d:=⟨Lean.mkNode `Lean.Parser.Command.declSig #[s.raw[0],s.raw[1][0]]⟩;`(theorem $n $d $v:declVal)
open Option renaming some → aa,none → aD
open Bool renaming true → aN,false → aT
namespace Xobt
variable{P:Prop}
def ex1{p:A→Prop}(h:∃a,p a)(k:∀a,p a→P):P:=let⟨a,h⟩:=h;k a h
def ex2{p:A→B→Prop}(h:∃a b,p a b)(k:∀a b,p a b→P):P:=let⟨a,b,h⟩:=h;k a b h
def ex3{p:A→B→C→Prop}(h:∃a b c,p a b c)(k:∀a b c,p a b c→P):P:=let⟨a,b,c,h⟩:=h;k a b c h
def ex4{p:A→B→C→D→Prop}(h:∃a b c d,p a b c d)(k:∀a b c d,p a b c d→P):P:=let⟨a,b,c,d,h⟩:=h;k a b c d h
def ex5{p:A→B→C→D→E→Prop}(h:∃a b c d e,p a b c d e)(k:∀a b c d e,p a b c d e→P):P:=let⟨a,b,c,d,e,h⟩:=h;k a b c d e h
def ex6{p:A→B→C→D→E→F→Prop}(h:∃a b c d e f,p a b c d e f)(k:∀a b c d e f,p a b c d e f→P):P:=let⟨a,b,c,d,e,f,h⟩:=h;k a b c d e f h
def ex7{p:A→B→C→D→E→F→G→Prop}(h:∃a b c d e f g,p a b c d e f g)(k:∀a b c d e f g,p a b c d e f g→P):P:=let⟨a,b,c,d,e,f,g,h⟩:=h;k a b c d e f g h
def ex8{p:A→B→C→D→E→F→G→I→Prop}(h:∃a b c d e f g i,p a b c d e f g i)(k:∀a b c d e f g i,p a b c d e f g i→P):P:=let⟨a,b,c,d,e,f,g,i,h⟩:=h;k a b c d e f g i h
def ex9{p:A→B→C→D→E→F→G→I→J→Prop}(h:∃a b c d e f g i j,p a b c d e f g i j)(k:∀a b c d e f g i j,p a b c d e f g i j→P):P:=let⟨a,b,c,d,e,f,g,i,j,h⟩:=h;k a b c d e f g i j h
def ex10{p:A→B→C→D→E→F→G→I→J→L→Prop}(h:∃a b c d e f g i j l,p a b c d e f g i j l)(k:∀a b c d e f g i j l,p a b c d e f g i j l→P):P:=let⟨a,b,c,d,e,f,g,i,j,l,h⟩:=h;k a b c d e f g i j l h
def ex16{p:A→B→C→D→E→F→G→I→J→L→M→N→O→Q→R→T→Prop}(h:∃a b c d e f g i j l m n o q r s,p a b c d e f g i j l m n o q r s)(k:∀a b c d e f g i j l m n o q r s,p a b c d e f g i j l m n o q r s→P):P:=let⟨a,b,c,d,e,f,g,i,j,l,m,n,o,q,r,s,h⟩:=h;k a b c d e f g i j l m n o q r s h
def an2(h:a∧b)(k:a→b→P):P:=k h.1 h.2
def an3(h:a∧b∧c)(k:a→b→c→P):P:=k h.1 h.2.1 h.2.2
def an4(h:a∧b∧c∧d)(k:a→b→c→d→P):P:=k h.1 h.2.1 h.2.2.1 h.2.2.2
def an5(h:a∧b∧c∧d∧e)(k:a→b→c→d→e→P):P:=k h.1 h.2.1 h.2.2.1 h.2.2.2.1 h.2.2.2.2
def an6(h:a∧b∧c∧d∧e∧f)(k:a→b→c→d→e→f→P):P:=k h.1 h.2.1 h.2.2.1 h.2.2.2.1 h.2.2.2.2.1 h.2.2.2.2.2
def an7(h:a∧b∧c∧d∧e∧f∧g)(k:a→b→c→d→e→f→g→P):P:=k h.1 h.2.1 h.2.2.1 h.2.2.2.1 h.2.2.2.2.1 h.2.2.2.2.2.1 h.2.2.2.2.2.2
def an8(h:a∧b∧c∧d∧e∧f∧g∧i)(k:a→b→c→d→e→f→g→i→P):P:=k h.1 h.2.1 h.2.2.1 h.2.2.2.1 h.2.2.2.2.1 h.2.2.2.2.2.1 h.2.2.2.2.2.2.1 h.2.2.2.2.2.2.2
def an9(h:a∧b∧c∧d∧e∧f∧g∧i∧j)(k:a→b→c→d→e→f→g→i→j→P):P:=k h.1 h.2.1 h.2.2.1 h.2.2.2.1 h.2.2.2.2.1 h.2.2.2.2.2.1 h.2.2.2.2.2.2.1 h.2.2.2.2.2.2.2.1 h.2.2.2.2.2.2.2.2
def an10(h:a∧b∧c∧d∧e∧f∧g∧i∧j∧l)(k:a→b→c→d→e→f→g→i→j→l→P):P:=k h.1 h.2.1 h.2.2.1 h.2.2.2.1 h.2.2.2.2.1 h.2.2.2.2.2.1 h.2.2.2.2.2.2.1 h.2.2.2.2.2.2.2.1 h.2.2.2.2.2.2.2.2.1 h.2.2.2.2.2.2.2.2.2
def an12(h:a∧b∧c∧d∧e∧f∧g∧i∧j∧l∧m∧n)(k:a→b→c→d→e→f→g→i→j→l→m→n→P):P:=k h.1 h.2.1 h.2.2.1 h.2.2.2.1 h.2.2.2.2.1 h.2.2.2.2.2.1 h.2.2.2.2.2.2.1 h.2.2.2.2.2.2.2.1 h.2.2.2.2.2.2.2.2.1 h.2.2.2.2.2.2.2.2.2.1 h.2.2.2.2.2.2.2.2.2.2.1 h.2.2.2.2.2.2.2.2.2.2.2
def an13(h:a∧b∧c∧d∧e∧f∧g∧i∧j∧l∧m∧n∧o)(k:a→b→c→d→e→f→g→i→j→l→m→n→o→P):P:=k h.1 h.2.1 h.2.2.1 h.2.2.2.1 h.2.2.2.2.1 h.2.2.2.2.2.1 h.2.2.2.2.2.2.1 h.2.2.2.2.2.2.2.1 h.2.2.2.2.2.2.2.2.1 h.2.2.2.2.2.2.2.2.2.1 h.2.2.2.2.2.2.2.2.2.2.1 h.2.2.2.2.2.2.2.2.2.2.2.1 h.2.2.2.2.2.2.2.2.2.2.2.2
end Xobt
local macro_rules
|`(tactic|obtain⟨$ps,*⟩:=$e:term)=>do
 let ps:=ps.getElems
 let n:=ps.size
 if n<2 then Lean.Macro.throwUnsupported
 let I s:=return Lean.mkIdent (← Lean.Macro.addMacroScope (Lean.Name.mkSimple s))
 let mut vs:Array (Lean.TSyntax `ident):=#[]
 let mut sb:Array (Lean.TSyntax `tactic):=#[]
 for p in ps do
  let y ← I s!"q{vs.size}"
  match p with
  |`(Lean.Parser.Tactic.rcasesPatLo|$x:ident)=>
   if x.getId==`rfl then
    vs:=vs.push y
    sb:=sb.push (← `(tactic|subst $y))
   else vs:=vs.push x
  |`(Lean.Parser.Tactic.rcasesPatLo|_)=>vs:=vs.push y
  |_=>Lean.Macro.throwUnsupported
 let z ← I "z"
 let w ← I "w"
 let N (s:String):=Lean.mkIdent (`Xobt++Lean.Name.mkSimple s)
 let mk (e:Lean.TSyntax `term)(c:Array (Lean.TSyntax `tactic)):Lean.MacroM (Lean.TSyntax `tactic):=do
  let mut al:=#[]
  for i in [0:n] do
   let k:=n-1-i
   let m:=n-k
   if k>16||m>18 then continue
   let a:=vs.extract 0 k
   let b:=vs.extract k n
   let E:=N s!"ex{k}"
   let A:=N s!"an{m}"
   al:=al.push (← if k==0 then `(tacticSeq|(refine $A $e λ$b*=>?_;$[$c]*)) else if m==1 then `(tacticSeq|(refine $E $e λ$vs*=>?_;$[$c]*)) else `(tacticSeq|(refine $E $e λ$a* $z=>$A $z λ$b*=>?_;clear $z;$[$c]*)))
  al:=al.push (← `(tacticSeq|fail))
  `(tactic|first $[| $al]*)
 let t ← mk e sb
 if e.raw.isIdent then
  let i:Lean.TSyntax `ident:=⟨e.raw⟩
  let s ← mk w (#[← `(tactic|clear $w)]++sb)
  `(tactic|first|(revert $i;intro $w:ident;$s:tactic)|$t:tactic)
 else return t
open List renaming length_map → Za, getElem?_eq_some_iff → Zb, length → Zc, range → Ze, mem_cons_of_mem → Zf, mem_cons_self → Zh, mem_of_getElem? → Zi, getElem?_map → Zj, mem_cons → Zl, size_toArray → Zm, length_append → Zn, getElem?_append_right → Zp, replicate → Zq, map_append → Zr, length_take → Zs, getElem?_append_left → Zv, mem_map → Zw, length_range → Zx, map_cons → Zz, mem_append_right → ZA, length_cons → ZB, getElem?_set_self → ZD, getElem?_eq_none → ZE, getElem?_set_ne → ZH, getElem_mem → ZI, mem_append → ZJ, mem_singleton → ZK, all_eq_true → ZL, mem_filter → ZM, take_succ_eq_append_getElem → ZN, length_singleton → ZO, map_map → ZP, lookup_cons → ZS, mem_range → ZU, length_filter_le → ZW, mem_of_mem_take → ZX, append_nil → ZY, length_drop → ZZ, not_mem_nil → Z0, getElem?_range → Z1, getD_eq_getElem?_getD → Z2, contains_cons → Z3, map_nil → Z4, take_of_length_le → Z5, mem_flatMap → Z6, take_length → Z7, append_assoc → Z8, pairwise_cons → Yc, getElem?_replicate → Yd, getElem?_of_mem → Ye, filter_eq_nil_iff → Yg, replicate_succ → Yh, range_succ → Yj, length_replicate → Yk, prefix_refl → Ym, drop → Yn, all_cons → Yo, map_take → Yp, filter_cons_of_pos → Yq, nodup_cons → Yr, length_set → Ys, find?_cons → Yt, getElem?_eq_none_iff → Yw, mem_append_left → Yx, flatten_cons → Yy, all_map → Yz, exists_of_findSome?_eq_some → YA, any_cons → YB, map_congr_left → YC, length_eq_zero_iff → YD, getElem?_cons_succ → YE, filter_cons_of_neg → YG, mem_filterMap → YI, prefix_append → YJ, getElem?_set → YL, foldl_append → YM, getLast?_append → YO, take_succ → YQ, filter_cons → YR, mem_take_iff_getElem → YS, getElem?_take_of_lt → YT, of_mem_zip → YU, eraseIdx_cons_succ → YV, reverse_cons → YW, eq_nil_or_concat → YX, concat_eq_append → YY, any_eq_true → YZ, countP_cons → Y0, foldl_cons → Y1, nil_append → Y2, length_nil → Y3, filterMap_cons → Y4, forIn_nil → Y5, zip_cons_cons → Y6, length_eraseIdx_of_lt → Y7, length_zipIdx → Y8, findSome?_eq_none_iff → Y9, find?_eq_none → Xa, mem_or_eq_of_mem_set → Xb, pairwise_iff_getElem → Xc, map_inj_left → Xg, flatMap_cons → Xh, pairwise_map → Xi, set_comm → Xk, getElem_inj → Xl, toArray → Xq, take_append_drop → Xw, contains_iff_mem → Xx, lookup → XB, mem_iff_getElem → XD, mem_of_mem_drop → XG, toList_toArray → XH, flatMap_append → XJ, replicate_zero → XM, length_pos_iff → XQ, findSome?_cons → XR, take_nil → XV, map_drop → XX, getElem_range → X1, take_sublist → X3, nodup_append → X5, any_map → X6, getElem_take → X8, flatten_nil → Wd, cons_append → We, ext_getElem → Wg, forIn_cons → Wh, countP_map → Wj, foldl → Wm, nodup_nil → Wn, take_add → Ws, drop_nil → Wt, map_set → Wv
open Nat renaming le_refl → Zd, lt_of_lt_of_le → Zy, le_trans → ZC, ne_of_lt → ZF, lt_irrefl → ZQ, not_lt_zero → Yb, sub_self → Yv, le_succ → YH, le_of_succ_le → Xd, lt_succ_of_lt → Xe, lt_succ_self → Xn, le_of_lt → Xo, min_eq_left → Xs, zero_le → XC, ne_of_gt → X2, succ_mul → X4, succ_le_succ → Wa, succ_ne_self → Wb, le_max_right → Wc, min_eq_right → Wf, le_max_left → Wi, mul_le_mul → Wo, zero_add → Wu, log2_lt → Wx
open Bool renaming false_ne_true → Zg, eq_iff_iff → Yi, false_eq_true → Yl, eq_false_iff → Xf, and_comm → Xj, or_eq_true → Xr, false_and → Xy, and_eq_true_iff → XF, true_and → XU, and_self → XW, or_false → Wp, false_or → Wq, and_true → Wr
open PySem.Heap renaming get?_push_of_some → Zk, lt_size → Zt, get?_push_size → ZG, size_push → YN, size_update → Xm, get?_update_other → Xp, get?_update_self → Xv, get?_update_ne → XN, get?_push_ne → X7
open Int renaming toNat_natCast → Zo, le_refl → ZV, zero_add → YK, emod_lt_of_pos → X0, emod_nonneg → Wk, le_antisymm → Wl
open Option renaming map_some → Zu, getD_some → ZT, isSome_iff_exists → Z9, map_eq_some_iff → Yu, bind_some → YF, any_some → Xu, isSome_some → XZ, getD_none → X9, bind → Ww, map → Wy
open Array renaming length_toList → ZR, mem_toList_iff → Xz, append_assoc → XY
open PyProof.Rows renaming boot_enumerate → Wz, boot_int → WA, boot_isinstance → WB, boot_list → WC, boot_max → WD, boot_range → WE, boot_sorted → WF, boot_tuple → WG, callWith_type1 → WH, slot_tuple_getitem → WI
open PySem.Calls renaming Name_function_global → WJ, evalArgs_plain → WK
open PySem renaming Comprehension → WL, FuncData → W2, GenState → W3, NameKind → W4, Operator → W5, Spec → Ve, assignEach → VC, assignInOrder → VE, behindInMarks → VF, binaryOp → VG, bindName → VH, bootBuiltins → VI, builtinsNs → VJ, call_meets → VL, cellsFrom → VM, codeAny_call_builtin → VN, codeAny_call_function → VO, codeAny_mono → VP, compareOp → VQ, comprehension → VR, concat_meets → VS, evalPart_none → VT, excClassObj → VU, foldedSetIterable → VW, importedModules → VX, intItems → VY, intItems_at → VZ, letOwnedTupleGo → V0, lookupAlong → V1, mainGlobals → V2, mem_of_lookup → V3, newFunctionEnv → V4, noFill_tuple_add → V5, not_mem_of_deeper → V6, numAt_eq → V7, pushCells → V8, pushCells_keeps → V9, rangeSize_one → Ua, seqIndex_neg → Ub, seqIndex_of → Uc, seq_tuple_add → Ud, sizeLine_eq → Ue, sliceBounds → Uf, starEach → Ug, strLen_append → Uh, swappedStores → Ui, swapsWith → Uj, swapsWithSole → Uk, sysModules → Ul, textFrom → Um, treeTable → Uo, tupleKind → Up, typeLookup → Uq, wpAny_Call_Name_kw → Ur, wpAny_Return_some → Us, wpAny_bind → Ut, wpAny_bindName → Uu, wpAny_call_entry → Uv, wpAny_comprehension_free → Uw, wpAny_eqBool_int → Ux, wpAny_execs_cons → Uy, wpAny_execs_nil → Uz, wpAny_field → UA, wpAny_getItem_list_slice → UB, wpAny_holding → UC, wpAny_isSubtype_exc → UD, wpAny_letOwnedTupleGo_enum → UE, wpAny_loadPart' → UF, wpAny_loadPart_at → UG, wpAny_mono → UH, wpAny_newFunctionEnv_cells → UI, wpAny_newObj_type → UJ, wpAny_passesOwn → UK, wpAny_pure → UL, wpAny_pyIter_enum → UM, wpAny_pyIter_list → UN, wpAny_pyIter_tuple → UO, wpAny_pyNext_enum_endD → UP, wpAny_pyNext_enum_itemD → UQ, wpAny_rule → UR, wpAny_standAt → US, wpAny_truthy_bool → UT, wpAny_typeOf → UU
open PySem.F renaming args_tuple_add_2 → WM, args_tuple_iterator_next_1 → WN, entry_tuple_add → WO, entry_tuple_iterator_next → WQ, plainAttrs_list → WR, slot_list_append → WT, slot_list_count → WU, slot_list_index → WV, slot_list_insert → WW, slot_list_pop → WX, slot_tuple_add → WY, slot_tuple_count → WZ, slot_tuple_iterator_next → W0, typeOf_object_class → W1
open PySem.PyData renaming depth → W6, depthAll → W7, depthKv → W8, shown → W9, shownAll → Va
open PySem.SeqAt renaming EqAt → Vb, RcNeAt → Vc
open PySem.W renaming Frag → Vf, callWith_K → Vg, cellsFrom_some → Vh, clsIn → Vi, codeIn → Vj, codeRec_of → Vk, findIn → Vl, fnOf → Vm, hideAll_get → Vn, instObj → Vo, kas_sort → Vp, keepIn → Vq, kia_one → Vr, kitCls → Vs, kitOne → Vt, kitx_dict → Vu, kitx_list → Vv, lookIn → Vw, methodObj → Vx, mroIn → Vy, of_hideAll → Vz, plainGet → VA, subIn → VB
namespace Cut
open PySem PySem.W
abbrev sv(T:String->Option Builtin)(p:Program)(w:World)(b:Nat)(c:Option Value):Nat->Shared->Thread->Option (Shared × Thread)
 |0,s,t=>aa (s,t)
 |n+1,s,t=>match through t with
  |true=>aD
  |false=>match stepOk b c t with
   |false=>aD
   |true=>match step (denote T) p w s t with
    |.go s' t'=>sv T p w b c n s' t'
    |.halt _ _=>aD
def AL{T:String->Option Builtin}{p:Program}{w:World}{b:Nat}{c:Option Value}{m:Nat}:∀ {n:Nat} {s f:Shared} {t g:Thread},sv T p w b c n s t=aa (f,g)->topRun T p w b c (m+n) s t=topRun T p w b c m f g
 |0,s,f,t,g,h=>by cases h;rfl
 |n+1,s,f,t,g,h=>by
  rw[<-Nat.add_assoc];unfold sv at h
  conv=>lhs;unfold topRun
  cases E:through t with
  |true=>rw[E] at h;cases h
  |false=>
   rw[E] at h;dsimp only at h ⊢;cases q:stepOk b c t with
   |false=>rw[q] at h;cases h
   |true=>
    rw[q] at h;dsimp only at h ⊢;cases j:step (denote T) p w s t with
    |halt o u=>rw[j] at h;cases h
    |go u v=>
     rw[j] at h;exact AL h
section
variable (p:Program) (w:World)
abbrev s0:Shared:=(fencedOpening Uo p w 20000).getD {}
abbrev n0:Nat:=(s0 p w).heap.objs.size
abbrev an:Option Value:=(s0 p w).heap.nsMap V2 "__annotations__"
abbrev st(n:Nat):Shared × Thread:=(sv Uo p w (n0 p w) (an p w) n (s0 p w) (topStub p)).getD (s0 p w,topStub p)
abbrev ent(n:String)(t:Nat)(v:Value):DictEntry:=⟨reduceHash (w.params.strHash (Str.ofString n).cps),.str (Str.ofString n) t,v⟩
abbrev nm:List String:=["NoMeadow", "NoSky", "NoLandings", "NoOrder", "NoLot", "NoText", "NoName", "NoGlider", "NoMinute", "NoAim", "TooMany", "Bound", "NoDeed", "NoRow"]
abbrev cls(x:String × Nat):List Obj:=
 let n:=Str.ofString x.1;let b:=28+12 * x.2;let t:=207+16 * x.2;let l:Int:=4+2 * x.2
 let m:=Value.str (Str.ofString "downrings.errors") 187
 let f:=λt=>Value.str p.main.file t
 [⟨.type "tuple", aD,.seq #[.ref 24] 0,#[]⟩,
   ⟨.type "builtin_function_or_method", aD,.fields #[.builtin "type.__prepare__", .type "type"],#[]⟩,
   ⟨.type "dict", aD,.dict #[ent w "__module__" (t+7) m,ent w "__qualname__" (t+9) (.str n (t+8)),ent w "__firstlineno__" (t+11) (.int l (t+10)),ent w "__static_attributes__" (t+12) (.ref (b+7))] 4,#[]⟩,
   ⟨.type "tuple", aD,.seq #[] 0,#[]⟩,
   ⟨.none,aD,.fields #[],#[]⟩,
   ⟨.type "code", aD,.fields #[.str n (t+2),.str n (t+3),f (t+4),.int l 0,.int 0 0,.int 0 0,.int 0 0,.int 0 0,.ref (b+3),.bool aT,.int 181 0,.ref (b+4),.none,.none,.none,.none,.int (t+5:Nat) 0,.int l 0,f (t+6)],#[]⟩,
   ⟨.type "frame", aD,.plain,#[aa (.ref (b+5)),aa (.ref 3),aa (.ref (b+2)),aD,aa m,aD,aa (.ref 0)]⟩,
   ⟨.type "tuple", aD,.seq #[] 0,#[]⟩,
   ⟨.type "dict", aD,.dict #[ent w "__module__" (t+7) m,ent w "__firstlineno__" (t+11) (.int l (t+10)),ent w "__static_attributes__" (t+12) (.ref (b+7)),ent w "__doc__" (t+13) .none] 2,#[]⟩,
   ⟨.type "type", aD,.cls { name:=n,bases:=[.ref 24],mro:=[.ref (b+9),.ref 24,.type "ValueError", .type "Exception", .type "BaseException", .type "object"],ns:=b+8,qualname:=n },#[aa (.ref b),aD,aa (.str n t),aa (.str n (t+8)),aa (.builtin "ValueError.__new__"),aa (.bool aN)]⟩,
   ⟨.type "super", aD,.fields #[.ref (b+9),.ref (b+9),.ref (b+9)],#[]⟩,
   ⟨.type "builtin_function_or_method", aD,.fields #[.builtin "object.__init_subclass__", .ref (b+9)],#[]⟩]
abbrev Se(o:Obj):Obj:=match o with
 |⟨c,d,.dict es n,s⟩=>⟨c,d,.dict (es++(nm.zipIdx.map λx=>ent w x.1 (222+16 * x.2) (.ref (37+12 * x.2))).toArray) (n+14),s⟩
 |o=>o
abbrev Pa(o:Obj):Obj:=match o with
 |⟨c,d,.fields vs,s⟩=>⟨c,d,.fields (vs++(nm.zipIdx.flatMap λx=>[Value.int (4+2 * x.2:Nat) 0,.int 0 0,.ref (33+12 * x.2)]).toArray),s⟩
 |o=>o
abbrev Pb(o:Obj):Obj:=match o with
 |⟨c,d,.cls k,s⟩=>⟨c,d,.cls { k with subclasses:=nm.zipIdx.map λx=>.ref (37+12 * x.2) },s⟩
 |o=>o
abbrev mid:Shared:=match (st p w 208).1 with
 |⟨⟨os,l⟩,g,d,_,o⟩=>⟨⟨((((os.toList.modify 3 (Se w)).modify 12 Pa).modify 24 Pb)++(nm.zipIdx.flatMap (cls p w))).toArray,l⟩,g,d,431,o⟩
abbrev Pc:Thread:=match (st p w 208).2 with
 |⟨_,.body ss env,_,k⟩=>⟨do return .done (<-(execs (ss.drop 16) env).onRaise (leaving env)),.body ss env,⟨30,0,31,8⟩,k⟩
 |t=>t
abbrev J6(s:Shared)(o:Option Shared):Option Shared:=bif s.gens.size == 0 && s.heap.isNs V2 then (o.bind λu=>bif laidKept s.heap u.heap && (gensDone u && (namesBound p u.heap && staticsOk (VX p.main.body) s.heap u.heap)) then aa u else aD) else aD
end
def Pd{T:String->Option Builtin}{p:Program}{w:World}{N:Nat}{s:Shared}:topFrom T p w N s=J6 p s (topRun T p w s.heap.objs.size (s.heap.nsMap V2 "__annotations__") N s (topStub p)):=by
 unfold topFrom J6;rw[Xj];cases s.gens.size == 0 && s.heap.isNs V2 with
 |false=>rfl
 |true=>
  show Ww _ _=Ww _ _
  congr 1
  funext u
  rw[Xj,Xj (_ && _) (gensDone u),Xj _ (namesBound p u.heap)];cases laidKept s.heap u.heap && (gensDone u && (namesBound p u.heap && staticsOk (VX p.main.body) s.heap u.heap)) <;> rfl
@[inline]abbrev PartA(p:Program):Prop:=∀w,sv Uo p w (n0 p w) (an p w) 3189 (s0 p w) (topStub p)=aa (mid p w,Pc p w)
abbrev fin(p:Program)(w:World):Option Shared:=J6 p (s0 p w) (topRun Uo p w (n0 p w) (an p w) 16811 (mid p w) (Pc p w))
@[inline]abbrev PartB(p q:Program)(loose:List Str)(X:Shared->Bool):Prop:=∀w,(fin p w).map (openSeen q loose (VX p.main.body) X aN)=aa (openGood q loose)
@[inline]abbrev PartC(p:Program){b:Type}(Y:Shared->b)(y:World->b):Prop:=∀w,(fin p w).map Y=aa (y w)
def two{p:Program}{j c o:Type}{f:Shared->j}{g:Shared->c}{a:World->j}{b:World->c}(k:j->c->o)(h:PartC p f a)(i:PartC p g b):PartC p (λs=>k (f s) (g s)) (λw=>k (a w) (b w)):=λw=>by
 obtain⟨u,q,n⟩:=Yu.mp (h w);have E:=i w;rw[q] at E ⊢;have E:=Option.some.inj E;show aa (k (f u) (g u))=_;rw[n,E]
def left_cut{p q:Program}{loose:List Str}{X:Shared->Bool}{b:Type}{Y:Shared->b}{y:World->b}(n:∀w,(fencedOpening Uo p w 20000).isSome=aN)(j:PartA p)(f:PartB p q loose X)(hC:PartC p Y y):LeftO p q loose X Y y 20000:=λw=>by
 obtain⟨s,hs⟩:=Z9.mp (n w);have g:s0 p w=s:=by unfold s0;rw[hs];rfl
 obtain⟨u,h,c⟩:=Yu.mp (f w);have E:=hC w;rw[h] at E;have E:Y u=y w:=Option.some.inj E;have a:=AL (m:=16811) (j w);unfold fin at h;unfold n0 an at a h;rw[<-a,g] at h;unfold openEnds;rw[hs];show Wy _ (topFrom Uo p w 20000 s)=_;rw[Pd];refine(congrArg _ h).trans ?_;show aa (openSeen q loose (VX p.main.body) X aN u,Y u)=_;rw[c,E]
end Cut
def gEG{b:Type _}{l:List b}{i:Nat}(h:i < l.length):l[i]?=aa l[i]:=List.getElem?_eq_getElem h
def bAE(a b:Bool):((a && b)=aN)=(a=aN/\b=aN):=Bool.and_eq_true a b
namespace L2
open PySem PySem.Spec PyProof.Rows
abbrev dP(s:Stmt):Arguments:=match s with
 |.FunctionDef _ a _ _ _ _ _ _ _ _=>a
 |_=>{ posonlyargs:=[],args:=[],vararg:=aD,kwonlyargs:=[],kw_defaults:=[],kwarg:=aD,defaults:=[] }
abbrev bt(s:Stmt):List Stmt:=match s with
 |.FunctionDef _ _ b _ _ _ _ _ _ _=>b
 |_=>[]
abbrev ay(s:Stmt):Scope:=match s with
 |.FunctionDef _ _ _ _ _ _ sc _ _ _=>sc
 |_=>{ kind:=.function,names:=[],isGenerator:=false,isCoroutine:=false }
end L2
namespace Ev
open PySem PySem.Spec PyProof.Rows L2
abbrev gf:List Str:=["len", "isinstance", "all", "any", "tuple", "list", "max", "min", "repr", "range", "enumerate", "int", "bool", "str", "sorted", "zip"]
abbrev bmV:List Value:=[.type "ValueError", .type "Exception", .type "BaseException", .type "object"]
abbrev quN:List Str:=["__init__", "__getattribute__", "__getattr__", "__class__"]
abbrev fq:List Str:=["NoMeadow", "NoSky", "NoLandings", "NoOrder", "NoLot", "NoText", "NoName", "NoGlider", "NoMinute", "NoAim", "TooMany", "Bound", "NoDeed", "NoRow", "NoWay"]
@[inline]abbrev sx:=(Str × Str) × (Arguments × List Stmt) × (Scope × Addr) × (List (Str × Addr) × Value) × (Addr × Option Str)
abbrev IX(h:Heap):Value->Option Str
 | .ref c=>(match h.get? c with
  |some ⟨_,_,.fields vs,_⟩=>(match vs.toList with |_ :: .str n _::_=>aa n |_=>aD)
  | _=>aD)
 |_=>aD
abbrev Pe(h:Heap):Option Obj->Option sx
 |some ⟨_,_,.func ⟨nm,qn,ps,.stmts b,sc,gl,cl,dv,_,_,_,_,cd,_,bi⟩,_⟩=>aa ((nm,qn),(ps,b),(sc,gl),(cl,dv),(bi,IX h cd))
 |_=>aD
abbrev uI(h:Heap)(x:Str):Option sx:=match h.nsMap V2 x with
 |some (.ref f)=>Pe h (h.get? f)
 |_=>aD
abbrev EW(h:Heap)(x:Str):Option Int:=match h.nsMap V2 x with
 |some (.int v _)=>aa v
 |_=>aD
abbrev adX(h:Heap)(x:Str):Addr:=match h.nsMap V2 x with
 |some (.ref C)=>C
 |_=>0
abbrev EX(h:Heap)(b:List Value)(x:Str):Bool:=match h.nsMap V2 x with
 | some (.ref C)=>(match h.get? C with
  | some ⟨.type "type", _,.cls cd,sl⟩=>(match cd.mro,sl.toList with
   |.ref C'::bm',[_,_,_,_,aa (.builtin n),_]=>C' == C && bm' == b && n == "ValueError.__new__" && !cd.hasDel && h.isNs cd.ns && quN.all λq=>(h.nsMap cd.ns q).isNone
   | _,_=>aT)
  | _=>aT)
 |_=>aT
abbrev J7(h:Heap)(x:Str):Bool:=match h.nsMap V2 x with
 | some (.ref C)=>(match h.get? C with
  |some ⟨.type "type", _,.cls _,_⟩=>aN
  | _=>aT)
 |_=>aT
abbrev J8:List Nat->Bool
 |[]=>aN
 |a::l=>!(l.contains a) && J8 l
abbrev AM(h:Heap):Bool:=EX h bmV "RingError" && (fq.take 14).all (EX h (.ref (adX h "RingError")::bmV)) && fq.all (J7 h) && J8 (adX h "RingError" :: fq.map (adX h)) && (h.nsMap V2 "ValueError").isNone
end Ev
namespace Lw
open PySem
abbrev con:List (Str × Int):=[("LAST_MINUTE", 9999),("MOST_RINGS", 8),("MOST_SINK", 60),("MOST_KINDS", 4),("MOST_GAP", 99),("MOST_SHUTS", 4),("MOST_GLIDERS", 7),("MOST_WEIGHT", 99),("MOST_LANDINGS", 20)]
abbrev nx:List (String × Nat):=[("is_whole", 19),("is_within", 20),("is_minute", 21),("is_tuple", 22),("are_unlike", 23),("is_meadow", 30),("are_gaps", 31),("is_gap_row", 32),("no_glider_between_helps", 33),("are_shuts", 34),("is_stretch", 35),("is_kind", 36),("is_shut", 37),("is_sky", 41),("is_ahead", 42),("are_gliders", 43),("is_glider", 44),("are_fixed", 45),("check_sky", 46),("check_keeps", 49),("keeps_sky", 50),("are_pairs", 51),("is_pair", 52),("first_amiss", 53),("landing_amiss", 54),("minute_amiss", 55),("landing_ahead", 56),("gap_end", 57),("first_lacking", 58),("waits_at", 59),("how_many_wait", 60),("joining_minutes", 61),("first_crowded", 62),("first_too_high", 63),("is_too_high", 64),("ring_needed", 65),("held", 67),("waiting", 68),("rings_at", 69),("steps_down", 70),("minutes_of_steps", 71),("_law_cell_at", 73),("_law_pot", 74),("_law_take", 75),("_law_whole", 76),("_law_gaps", 77),("_law_shuts", 78),("_law_meadow", 79),("_law_glider", 80),("_law_mixed", 81),("_law_sky", 82),("_law_order", 83),("_law_open", 84),("_law_run", 85),("_law_waits", 86),("_law_need", 87),("_law_one_amiss", 88),("_law_amiss", 89),("_law_landing", 90),("_law_turned", 91),("_law_odd", 92),("_law_word", 93),("_law_is_list", 94),("_law_holding", 95),("_law_told", 96),("_law_right", 97),("law", 98)]
abbrev top(i:Nat):Stmt:=PySem.Challenge.pw_downrings_k61_who_holds_which_ring.main.body.getD i (.Pass ⟨0,0,0,0⟩)
end Lw
section
open PySem PySem.W PyProof.Rows
noncomputable abbrev Lw.view:Program:={ PySem.Challenge.pw_downrings_k61_who_holds_which_ring with main:={ PySem.Challenge.pw_downrings_k61_who_holds_which_ring.main with body:=[Lw.top 98] } }
noncomputable abbrev Lw.loose:List PySem.Str:=(Lw.nx.take 66).map (λx=>.ofString x.1)++Lw.con.map (·.1)++("RingError" : PySem.Str)::Ev.fq
set_option maxHeartbeats 0 in
def Lw.said:PySem.Challenge.rw_downrings_k61_who_holds_which_ring.wellSaid=aN:=by kernel_rfl
set_option maxHeartbeats 0 in
def Lw.opn:∀w,(fencedOpening Uo PySem.Challenge.rw_downrings_k61_who_holds_which_ring.row.toRowW.prog w 20000).isSome=aN:=λw=>by kernel_rfl
set_option maxHeartbeats 0 in
def Lw.partA:Cut.PartA PySem.Challenge.rw_downrings_k61_who_holds_which_ring.row.toRowW.prog:=λw=>by kernel_rfl
set_option maxHeartbeats 0 in
def Lw.partB:Cut.PartB PySem.Challenge.rw_downrings_k61_who_holds_which_ring.row.toRowW.prog Lw.view Lw.loose (λs=>xlAt Lw.view [] s && recOk (RowW.records PySem.Challenge.rw_downrings_k61_who_holds_which_ring.row.toRowW) s):=λw=>by kernel_rfl
end
namespace Lw
open PySem
abbrev ob(l:List (String × Nat))(s:Shared):=l.map λx=>Ev.uI s.heap (.ofString x.1)
abbrev vb(l:List (String × Nat)):List (Option Ev.sx):=l.map λx=>let n:=Str.ofString x.1;aa ((n,n),(L2.dP (top x.2),L2.bt (top x.2)),(L2.ay (top x.2),V2),([],.none),(VJ,aa n))
set_option maxHeartbeats 0 in
def J9:Cut.PartC PySem.Challenge.rw_downrings_k61_who_holds_which_ring.row.toRowW.prog (ob (nx.take 44)) (λ_=>vb (nx.take 44)):=λw=>by kernel_rfl
set_option maxHeartbeats 0 in
def Ka:Cut.PartC PySem.Challenge.rw_downrings_k61_who_holds_which_ring.row.toRowW.prog (λs=>(s.heap.isNs V2,ob (nx.drop 44) s,con.map (λc=>Ev.EW s.heap c.1),(Ev.gf.map λx=>(s.heap.nsMap V2 x).isNone),Ev.AM s.heap)) (λ_=>(aN,vb (nx.drop 44),con.map (λc=>aa c.2),(Ev.gf.map λ_=>aN),aN)):=λw=>by kernel_rfl
end Lw
namespace L2
open PySem PySem.Spec PyProof.Rows
@[inline]abbrev Key:=Sum Int Str
abbrev pw:Key->Value->Bool
 |.inl k,v=>Value.isInt k v
 |.inr x,v=>Value.isStrOf x v
abbrev Sf(w:World):Key->Int
 |.inl k=>hashInt k
 |.inr x=>hashStr w x
def bu:∀ {k:Key} {v:Value},pw k v=aN->(∃i t,k=Sum.inl i/\v=Value.int i t)\/(∃x t,k=Sum.inr x/\v=Value.str x t)
 |.inl i,v,h=>by
  obtain⟨t,e⟩:=Value.isInt_shape (k:=i) (v:=v) h;exact .inl ⟨i,t,rfl,e⟩
 |.inr x,v,h=>by
  obtain⟨t,e⟩:=Value.isStrOf_shape (x:=x) (v:=v) h;exact .inr ⟨x,t,rfl,e⟩
def yT(i:Int)(t:Tok):pw (.inl i) (.int i t)=aN:=by simp[pw,Value.isInt]
def yU(x:Str)(t:Tok):pw (.inr x) (.str x t)=aN:=by simp[pw,Value.isStrOf]
def Kb(a b:Int):decide ((Sum.inl a:Key)=Sum.inl b)=(a == b):=by
 by_cases e:a=b
 ·subst e;simp
 ·have h:¬ (Sum.inl a:Key)=Sum.inl b:=λq=>e (Sum.inl.inj q);rw[decide_eq_false h];exact(beq_eq_false_iff_ne.mpr e).symm
def Kc(a b:Str):decide ((Sum.inr a:Key)=Sum.inr b)=decide (a=b):=by
 by_cases e:a=b
 ·subst e;simp
 ·have h:¬ (Sum.inr a:Key)=Sum.inr b:=λq=>e (Sum.inr.inj q);rw[decide_eq_false h,decide_eq_false e]
def Kd(a:Int)(b:Str):decide ((Sum.inl a:Key)=Sum.inr b)=aT:=decide_eq_false (λq=>nomatch q)
def Ke(a:Str)(b:Int):decide ((Sum.inr a:Key)=Sum.inl b)=aT:=decide_eq_false (λq=>nomatch q)
abbrev bE(prog:Program)(w:World):PySem.KeyKind prog w Key where
 is:=pw
 hash:=Sf w
 inj:=λv a b f hb=>by
  rcases bu f with ⟨i,t,rfl,rfl⟩ |⟨x,t,rfl,rfl⟩
  ·rcases bu hb with ⟨j,u,rfl,e⟩ |⟨y,u,rfl,e⟩
   ·injection e with e1 _;rw[e1]
   ·exact nomatch e
  ·rcases bu hb with ⟨j,u,rfl,e⟩ |⟨y,u,rfl,e⟩
   ·exact nomatch e
   ·injection e with e1 _;rw[e1]
 byValue:=λk v h=>by
  rcases bu h with ⟨i,t,rfl,rfl⟩ |⟨x,t,rfl,rfl⟩ <;> rfl
 pyHash:=λc h=>by
  rcases bu c with ⟨i,t,rfl,rfl⟩ |⟨x,t,rfl,rfl⟩
  ·exact wpAny_pyHash_int h
  ·exact wpAny_pyHash_str h
 eqBool:=λg c h=>by
  rcases bu g with ⟨i,t,rfl,rfl⟩ |⟨x,t,rfl,rfl⟩
  ·rcases bu c with ⟨j,u,rfl,rfl⟩ |⟨y,u,rfl,rfl⟩
   ·rw[Kb] at h;exact Ux h
   ·rw[Kd] at h;exact SeqAt.EqAt.int_str i t y u _ _ _ _ h
  ·rcases bu c with ⟨j,u,rfl,rfl⟩ |⟨y,u,rfl,rfl⟩
   ·rw[Ke] at h;exact SeqAt.EqAt.str_int x t j u _ _ _ _ h
   ·rw[Kc] at h;exact wpAny_eqBool_str h
 «strs»:=λk x t v h=>by
  rcases bu h with ⟨i,u,rfl,e⟩ |⟨y,u,rfl,e⟩
  ·exact nomatch e
  ·injection e with e1 _;subst e1;cases v <;> rfl
def sy(prog:Program)(w:World)(i:Int)(t:Tok):(bE prog w).is (.inl i) (.int i t)=aN:=yT i t
def sD(prog:Program)(w:World)(x:Str)(t:Tok):(bE prog w).is (.inr x) (.str x t)=aN:=yU x t
inductive V where
 |non |bl (b:Bool) |int (i:Int) |str (x:Str) |byt (b:Array UInt8) |flt (b:UInt64) |ref (a:Addr) |ty (n:String)
 deriving DecidableEq
abbrev aJ:V->Value->Prop
 |.non,u=>u=Value.none
 |.bl b,u=>u=Value.bool b
 |.int i,u=>∃t,u=Value.int i t
 |.str x,u=>∃t,u=Value.str x t
 |.byt b,u=>∃t,u=Value.bytes b t
 |.flt b,u=>∃t,u=Value.float b t
 |.ref a,u=>u=Value.ref a
 |.ty n,u=>u=Value.type n
@[inline]abbrev aO:List V->List Value->Prop:=Paired aJ
def aO.length{xs:List V}{u:List Value}(r:aO xs u):xs.length=u.length:=Paired.length r
def aO.get:∀ {xs:List V} {U:List Value} {i:Nat} {x:V},aO xs U->xs[i]?=aa x->∃u,U[i]?=aa u/\aJ x u
 |_,_,_,_,.nil,e=>by simp at e
 |_,_,0,_,.cons r _,e=>by simp at e;subst e;exact⟨_,rfl,r⟩
 |_,_,i+1,x,.cons _ t,e=>by
  obtain⟨u,b,h⟩:=aO.get (i:=i) (x:=x) t (by simpa using e);exact⟨u,by simpa using b,h⟩
def aO.set{x:V}{u:Value}(r:aJ x u):∀ {xs:List V} {U:List Value} (i:Nat),aO xs U->aO (xs.set i x) (U.set i u)
 |_,_,_,.nil=>.nil
 |_,_,0,.cons _ t=>.cons r t
 |_,_,i+1,.cons q t=>.cons q (aO.set r i t)
def aO.append:∀ {xs y:List V} {u b:List Value},aO xs u->aO y b->aO (xs++y) (u++b)
 |_,_,_,_,.nil,s=>s
 |_,_,_,_,.cons r t,s=>.cons r (aO.append t s)
def aO.take:∀ {xs:List V} {u:List Value} (n:Nat),aO xs u->aO (xs.take n) (u.take n)
 |_,_,0,_=>.nil
 |_,_,_+1,.nil=>.nil
 |_,_,n+1,.cons r t=>.cons r (aO.take n t)
def aO.drop:∀ {xs:List V} {u:List Value} (n:Nat),aO xs u->aO (xs.drop n) (u.drop n)
 |_,_,0,r=>r
 |_,_,_+1,.nil=>.nil
 |_,_,n+1,.cons _ t=>aO.drop n t
abbrev yV:Option V->Option Value->Prop
 |some v,aa u=>aJ v u
 |none,aD=>True
 |_,_=>False
abbrev KV{b:Type}:List (b × V)->List (b × Value)->Prop:=Paired λ(p:b × V) (q:b × Value)=>p.1=q.1/\aJ p.2 q.2
abbrev kV:Key->V
 |.inl i=>.int i
 |.inr x=>.str x
abbrev qI(h:Heap)(a:Addr)(I:Array Value):Prop:=∃o,h.get? a=aa o/\o.cls = .type "tuple"/\∃n,o.data = .seq I n/\o.dict=aD
def qI.isTup(x:qI h a items):IsTup h a items:=let ⟨o,e,c,n,d,_⟩:=x;⟨o,e,c,n,d⟩
def qI.lt(x:qI h a I):a < h.objs.size:=x.isTup.lt
def qI.new(h:Heap)(items:Array Value):qI (h.push { cls:=.type "tuple", data:=.seq items }) h.objs.size items:=⟨_,ZG _ rfl,rfl,_,rfl,rfl⟩
inductive HO where
  |lst (xs:List V)
  |tup (xs:List V)
  |dK (kvs:List (Key × V)) |dT (kvs:List (List Key × V))
  |set (S:Int->Bool) (n:Nat)
  |ins (C dx:Addr) (fs:List (Str × V))
  |own (x:Addr)
  |xd (fs:List (Str × V))
  |met (f x:Addr)
  |rng (lo hi:Int)
  |frz (o:Obj) (u:HO)
  |tbl (ps:Array Value)
  |ext (φ:Heap->Prop)
@[inline]abbrev Hp:=Addr->Option HO
abbrev upd(H:Hp)(a:Addr)(o:HO):Hp:=λb=>if b=a then aa o else H b
def aH{H:Hp}{a:Addr}{o:HO}:upd H a o a=aa o:=by unfold upd;rw[if_pos rfl]
def aG{H:Hp}{a b:Addr}{o:HO}(h:b ≠ a):upd H a o b=H b:=by unfold upd;rw[if_neg h]
def xc:upd (upd H a o) a u=upd H a u:=by
 funext b;unfold upd;split <;> rfl
def aU{H:Hp}{a b:Addr}{o:HO}(h:H a=aa o)(c:H b=aD):a ≠ b:=by
 intro e;subst e;rw[h] at c;cases c
section
variable (P:Program) (w:World)
abbrev bv(H:Hp)(h:Heap)(a:Addr):HO->Prop
 |.lst xs=>xs.length<=sizeLine/\∃ (I:List Value) (n:Nat),aO xs I/\h.get? a=aa { cls:=.type "list", data:=.seq I.toArray n }
 |.tup xs=>xs.length<=sizeLine/\∃I:List Value,aO xs I/\qI h a I.toArray
 |.dK kvs=>kvs.length<=sizeLine/\(a == Ul)=aT/\∃g,KV kvs g/\h.DictOf (bE P w) a g
 |.dT kvs=>kvs.length<=sizeLine/\(a == Ul)=aT/\∃xs:List (List Key × Addr × Value),
   Paired (λ(p:List Key × V) (q:List Key × Addr × Value)=>p.1=q.1/\H q.2.1=aa (.tup (p.1.map kV))/\aJ p.2 q.2.2) kvs xs ∧
   ∃o E y,h.get? a=aa o/\o.ExactDict/\o.data = .dict E y/\E.toList=xs.map (entryOfKey (Up (bE P w)))/\(xs.map (·.1)).Nodup
 |.set S n=>h.SetOf (intKind P w) a S n
 |.ins C dx fs=>H dx=aa (.own a)/\fs.length<=1000/\dx ≠ a/\h.get? a=aa (Vo C dx) ∧
   ∃b,h.Ns1 dx b/\(∀f,yV (fs.lookup f) (b f))/\PySem.Within b (fs.map (·.1))
 |.own _=>∃o,h.get? a=aa o
 |.xd fs=>∃b,h.Ns1 a b/\∀f,yV (fs.lookup f) (b f)
 |.rng lo hi=>∃t u v,h.get? a=aa { cls:=.type "range", data:=.fields #[.int lo t,.int hi u,.int 1 v] }
 |.frz o u=>h.get? a=aa o/\bv H h a u
 |.tbl ps=>h.get? a=aa { cls:=.none,data:=.fields ps }
 |.met f x=>h.get? a=aa (Vx (.ref f) (.ref x))
 |.ext φ=>φ h/\(∃o,h.get? a=aa o)/\∀j c:Heap,φ j->(∀o,j.get? a=aa o->c.get? a=aa o)->φ c
abbrev HOk(H:Hp)(h:Heap):Prop:=∀a o,H a=aa o->bv P w H h a o
end
section
variable {P:Program} {w:World} {H H':Hp} {h h':Heap} {a:Addr} {o:HO}
def bv.lt(x:bv P w H h a o):a < h.objs.size:=by
 cases o with
 |lst xs=>obtain⟨_,_,_,_,e⟩:=x;exact Zt e
 |tup xs=>obtain⟨_,_,_,p⟩:=x;exact p.lt
 |dK b=>obtain⟨_,_,_,_,o,_,_,e,_⟩:=x;exact Zt e
 |dT b=>obtain⟨_,_,_,_,o,_,_,e,_⟩:=x;exact Zt e
 |set S n=>obtain⟨o,_,_,_,e,_⟩:=x;exact Zt e
 |ins C j fs=>obtain⟨_,_,_,e,_⟩:=x;exact Zt e
 |own y=>obtain⟨_,e⟩:=x;exact Zt e
 |xd fs=>obtain⟨_,⟨_,_,_,e,_⟩,_⟩:=x;exact Zt e
 |rng lo c=>obtain⟨_,_,_,e⟩:=x;exact Zt e
 |frz ob u=>obtain⟨e,_⟩:=x;exact Zt e
 |tbl ps=>exact Zt (show h.get? a=aa _ from x)
 |met f y=>exact Zt (show h.get? a=aa _ from x)
 |ext g=>obtain⟨_,⟨_,e⟩,_⟩:=x;exact Zt e
def Paired.mapP{j g:Type}{F G:j->g->Prop}:∀ {c:List j} {L:List g},Paired F c L->(∀a b,F a b->G a b)->Paired G c L
 |_,_,.nil,_=>.nil
 |_,_,.cons r t,f=>.cons (f _ _ r) (Paired.mapP t f)
def bv.stay(x:bv P w H h a o)(k:∀b u,(b=a\/H b=aa (.own a))->h.get? b=aa u->h'.get? b=aa u)
  (T:∀b,H b=aa (.own a)->H' b=aa (.own a)) (J:∀b xs,H b=aa (.tup xs)->H' b=aa (.tup xs)):bv P w H' h' a o:=by
 induction o with
 |lst xs=>obtain⟨z,I,n,r,e⟩:=x;exact⟨z,I,n,r,k _ _ (.inl rfl) e⟩
 |tup xs=>obtain⟨z,I,r,ob,e,c⟩:=x;exact⟨z,I,r,ob,k _ _ (.inl rfl) e,c⟩
 |dK B=>obtain⟨z,y,L,r,ob,E,g,e,c⟩:=x;exact⟨z,y,L,r,ob,E,g,k _ _ (.inl rfl) e,c⟩
 |dT B=>
  obtain⟨z,y,xs,r,ob,E,g,e,c⟩:=x;exact⟨z,y,xs,Paired.mapP r λp q z=>⟨z.1,J _ _ z.2.1,z.2.2⟩,ob,E,g,k _ _ (.inl rfl) e,c⟩
 |set S n=>obtain⟨ob,E,g,t,e,c⟩:=x;exact⟨ob,E,g,t,k _ _ (.inl rfl) e,c⟩
 |ins C Y fs=>
  obtain⟨d,z,ne,e,j,⟨O,E,g,U,c⟩,r⟩:=x;exact⟨T _ d,z,ne,k _ _ (.inl rfl) e,j,⟨O,E,g,k _ _ (.inr d) U,c⟩,r⟩
 |own y=>obtain⟨ob,e⟩:=x;exact⟨ob,k _ _ (.inl rfl) e⟩
 |xd fs=>obtain⟨j,⟨O,E,g,e,c⟩,r⟩:=x;exact⟨j,⟨O,E,g,k _ _ (.inl rfl) e,c⟩,r⟩
 |rng lo X=>obtain⟨t,u,v,e⟩:=x;exact⟨t,u,v,k _ _ (.inl rfl) e⟩
 |frz ob u Q=>obtain⟨e,q⟩:=x;exact⟨k _ _ (.inl rfl) e,Q q⟩
 |tbl ps=>
  have e:h.get? a=aa { cls:=.none,data:=.fields ps }:=x;show h'.get? a=aa { cls:=.none,data:=.fields ps };exact k a _ (.inl rfl) e
 |met f y=>
  have e:h.get? a=aa (Vx (.ref f) (.ref y)):=x;show h'.get? a=aa (Vx (.ref f) (.ref y));exact k a _ (.inl rfl) e
 |ext Z=>obtain⟨p,⟨o,e⟩,st⟩:=x;exact⟨st _ _ p λo q=>k _ _ (.inl rfl) q,⟨o,k _ _ (.inl rfl) e⟩,st⟩
def HOk.lt(x:HOk P w H h)(e:H a=aa o):a < h.objs.size:=(x a o e).lt
def HOk.fresh(x:HOk P w H h)(e:h.objs.size<=a):H a=aD:=by
 cases q:H a with
 |none=>rfl
 |some u=>exact absurd (Zy (x.lt q) e) (ZQ _)
def HOk.kept(x:HOk P w H h)(k:∀b u,h.get? b=aa u->h'.get? b=aa u):HOk P w H h':=λa o e=>
 (x a o e).stay (λb u _ q=>k b u q) (λ_ q=>q) λ_ _ q=>q
def HOk.laid(x:HOk P w H h)(k:∀b u,h.get? b=aa u->h'.get? b=aa u)(g:h.objs.size<=a)(new:bv P w (upd H a o) h' a o):HOk P w (upd H a o) h':=λb u e=>by
 have f:=x.fresh g;by_cases hb:b=a
 ·subst hb;rw[aH] at e;cases e;exact new
 ·rw[aG hb] at e;exact(x b u e).stay (λc v _ q=>k c v q) (λc q=>by rw[aG (aU q f)];exact q) λc xs q=>by rw[aG (aU q f)];exact q
end
abbrev Rd(H:Hp)(a:Addr)(u:HO):Prop:=H a=aa u\/∃o,H a=aa (.frz o u)
def Rd.ok{P:Program}{w:World}{H:Hp}{h:Heap}{a:Addr}{u:HO}(r:Rd H a u)(x:HOk P w H h):bv P w H h a u:=by
 rcases r with r |⟨o,r⟩
 ·exact x a u r
 ·obtain⟨_,q⟩:=x a _ r;exact q
abbrev Mut:Option HO->Prop
 |some (.lst _)=>True
 |some (.dK _)=>True
 |some (.dT _)=>True
 |some (.set _ _)=>True
 |some (.ins _ _ _)=>True
 |some (.ext _)=>True
 |_=>False
section
variable {P:Program} {w:World} {H:Hp} {h h':Heap} {x e:Addr} {o':HO}
def HOk.write(ok:HOk P w H h)(j:Mut (H x))(p:e=x\/H e=aa (.own x))(k:∀b u,b ≠ e->h.get? b=aa u->h'.get? b=aa u)(o:∃u,h'.get? e=aa u)
  (new:bv P w (upd H x o') h' x o'):HOk P w (upd H x o') h':=λb u q=>by
 have n:∀c y,H c=aa (.own y)->c ≠ x:=λc y r z=>by subst z;rw[r] at j;exact j
 have g:∀c xs,H c=aa (.tup xs)->c ≠ x:=λc xs r z=>by subst z;rw[r] at j;exact j
 by_cases hb:b=x
 ·subst hb;rw[aH] at q;cases q;exact new
 ·rw[aG hb] at q;by_cases f:b=e
  ·have Q:H b=aa (.own x):=by
    rcases p with z |z
    ·exact absurd (f.trans z) hb
    ·rw[f];exact z
   rw[q] at Q;cases Q;obtain⟨v,B⟩:=o;exact⟨v,by rw[f];exact B⟩
  ·refine(ok b u q).stay (λc v hc r=>k c v ?_ r) (λc r=>by rw[aG (n c b r)];exact r) λc xs r=>by rw[aG (g c xs r)];exact r
   rcases hc with rfl |hc
   ·exact f
   ·rintro rfl;rcases p with z |z
    ·exact n c b hc z
    ·rw[hc] at z;cases z;exact hb rfl
end
structure Un(fs ex:List Addr)(H H':Hp)(h h':Heap):Prop where
 keep:∀b o,h.get? b=aa o->H b=aD->b ∉ fs->b ∉ ex->h'.get? b=aa o
 slot:∀b o,h.get? b=aa o->H b=aD->b ∈ fs->b ∉ ex->∃sl,h'.get? b=aa { o with slots:=sl }
 free:∀b o,h.get? b=aa o->H b=aD->b ∉ ex->H' b=aD
 there:∀b o,h.get? b=aa o->b ∉ ex->∃o',h'.get? b=aa o'
 tups:∀b xs,H b=aa (.tup xs)->H' b=aa (.tup xs)
 frzs:∀b o u,H b=aa (.frz o u)->H' b=aa (.frz o u)
 tbls:∀b ps,H b=aa (.tbl ps)->∃more,H' b=aa (.tbl (ps++more))
section
variable {fs fs' ex ex':List Addr} {H H1 H2:Hp} {h h1 h2 h':Heap} {a x e:Addr} {o:HO}
def Un.any(u:Un fs ex H H1 h h1){b:Addr}{ob:Obj}(q:h.get? b=aa ob)(n:H b=aD)(c:b ∉ ex):∃sl,h1.get? b=aa { ob with slots:=sl }:=by
 by_cases hb:b ∈ fs
 ·exact u.slot b ob q n hb c
 ·exact⟨ob.slots,u.keep b ob q n hb c⟩
def Un.kept(k:∀b u,h.get? b=aa u->h'.get? b=aa u):Un fs ex H H h h':=
 ⟨λb ob q _ _ _=>k b ob q,λb ob q _ _ _=>⟨ob.slots,k b ob q⟩,λ_ _ _ n _=>n,λb ob q _=>⟨ob,k b ob q⟩,λ_ _ q=>q,λ_ _ _ q=>q,λ_ ps q=>⟨#[],by rw[q];simp⟩⟩
def Un.refl:Un fs ex H H h h:=Un.kept λ_ _ q=>q
def Un.laid(k:∀b u,h.get? b=aa u->h'.get? b=aa u)(f:h.objs.size<=a)(c:H a=aD):Un fs ex H (upd H a o) h h' where
 keep:=λb u q _ _ _=>k b u q
 slot:=λb u q _ _ _=>⟨u.slots,k b u q⟩
 free:=λb u q n _=>by rw[aG (ZF (Zy (Zt q) f))];exact n
 there:=λb u q _=>⟨u,k b u q⟩
 tups:=λb xs q=>by rw[aG (aU q c)];exact q
 frzs:=λb u xs q=>by rw[aG (aU q c)];exact q
 tbls:=λb ps q=>⟨#[],by rw[aG (aU q c),q];simp⟩
def Un.write(f:Mut (H x))(v:e=x\/H e=aa (.own x))(k:∀b u,b ≠ e->h.get? b=aa u->h'.get? b=aa u)(g:∃u,h'.get? e=aa u):Un fs ex H (upd H x o) h h':=by
 have p:∀b,H b=aD->b ≠ x:=λb n z=>by subst z;rw[n] at f;exact f
 have hb:∀b,H b=aD->b ≠ e:=λb n z=>by
  subst z;rcases v with r |r
  ·exact p b n r
  ·rw[n] at r;cases r
 have j:∀b u,H b=aa u->¬ Mut (aa u)->b ≠ x:=λb u q nm z=>by subst z;rw[q] at f;exact nm f
 refine⟨λb u q n _ _=>k b u (hb b n) q,λb u q n _ _=>⟨u.slots,k b u (hb b n) q⟩,λb u q n _=>by rw[aG (p b n)];exact n,λb u q _=>?_,
  λb xs q=>by rw[aG (j b _ q λz=>z)];exact q,λb u xs q=>by rw[aG (j b _ q λz=>z)];exact q,λb ps q=>⟨#[],by rw[aG (j b _ q λz=>z),q];simp⟩⟩
 by_cases c:b=e
 ·subst c;exact g
 ·exact⟨u,k b u c q⟩
end
abbrev trk(h:Heap)(H:Hp):List Addr:=(Ze h.objs.size).filter λa=>(H a).isSome
abbrev qJ(h:Heap)(H:Hp):Heap:=PySem.W.hideAll h (trk h H)
def yW(h:Heap)(H:Hp):(qJ h H).objs.size=h.objs.size:=PySem.W.hideAll_size _ _
def AN(e:h.get? b=aa o)(n:H b=aD):(qJ h H).get? b=aa o:=
 Vn _ e λc=>by
  have q:(H b).isSome=aN:=(ZM.mp c).2;rw[n] at q;simp at q
def EY(e:(qJ h H).get? b=aa o):h.get? b=aa o/\H b=aD:=by
 have E:h.get? b=aa o:=Vz (trk h H) e;refine⟨E,?_⟩;cases q:H b with
 |none=>rfl
 |some x=>
  have c:b ∈ trk h H:=ZM.mpr ⟨ZU.mpr (Zt E),by simp[q]⟩;have z:(qJ h H).get? b=aD:=PySem.W.hideAll_none (trk h H) c;rw[z] at e;cases e
structure Mod(K:Vf)(mg:Str->Option Value)(base:Heap):Prop where
 kin:K.In base
 glob:base.Ns V2 mg
 blt:∃mb,base.Ns VJ mb/\∀x:Str,x ≠ "__name__"->mb x=VI x
 nolimit:base.NoLimit
structure Cx where
 prog:Program
 w:World
 K:Vf
 mg:Str->Option Value
 base:Heap
 A:Around
 N:List Str
 s₀:Shared
 H₀:Hp
 env:Env
 outer:List Env
 stack:List Env
 ex:List Addr
 fn:Str->Bool
 calm:Bool
 pn:List (Addr × Obj)
 xe:Value->Shared->Prop
abbrev frs(l:List Env):List Addr:=l.filterMap (·.frame)
noncomputable abbrev Cx.fs(X:Cx):List Addr:=frs X.outer
abbrev Vis(sc:Scope)(x:Str):Prop:=sc.names.lookup x=aa .local\/sc.names.lookup x=aa .cell\/sc.names.lookup x=aa .free
abbrev Loc(sc:Scope)(x:Str):Prop:=sc.names.lookup x=aa .local\/sc.names.lookup x=aa .cell
abbrev Sg(env:Env)(h:Heap)(m:Str->Option Value)(x:Str)(u:Value):Prop:=
 (env.kindOf x=aa .local/\m x=aa u)\/((env.kindOf x=aa .cell\/env.kindOf x=aa .free)/\∃c,env.cells.lookup x=aa c/\h.IsCell c (aa u))
structure Cx.Ok(X:Cx):Prop where
 mod:Mod X.K X.mg X.base
 kind:X.env.scope.kind = .function
 glob:X.env.globals=V2
 blt:X.env.builtins=VJ
 above:X.s₀.heap.objs.size<=X.env.locals
 inj:∀x y c,X.env.cells.lookup x=aa c->X.env.cells.lookup y=aa c->x=y
 has:∀x,(X.env.kindOf x=aa .cell\/X.env.kindOf x=aa .free)->∃c,X.env.cells.lookup x=aa c
 cab:∀x c,X.fn x=aN->X.env.cells.lookup x=aa c->X.s₀.heap.objs.size<=c
 hd:X.calm=aN->X.A.handled=aD
 frames:X.A.frames=aa X.stack
 stk:X.stack=X.outer\/(X.stack=X.env::X.outer/\X.env.frame=aa X.env.locals)
 exf:∀b ∈ X.ex,b ≠ X.env.locals/\∀x c,X.env.cells.lookup x=aa c->c ≠ b
 bs:∀b o,X.base.get? b=aa o->X.s₀.heap.get? b=aa o/\X.H₀ b=aD
 bsz:X.base.objs.size<=X.s₀.heap.objs.size
 noex:∀b o,X.base.get? b=aa o->b ∉ X.ex
 exfs:∀b ∈ X.ex,b ∉ X.fs
 funs:X.s₀.heap.FunFrames X.base X.outer
 frf:∀b ∈ X.fs,X.H₀ b=aD
structure Inv(X:Cx)(pins:List (Addr × Obj))(σ:List (Option V))(H:Hp)(s:Shared):Prop where
 ok:X.Ok
 os:s.os=X.s₀.os
 bare:AllBare s.gens
 base:Un X.fs X.ex X.H₀ H X.s₀.heap s.heap
 loc:∃m,s.heap.Ns X.env.locals m/\∀ (i:Nat) (x:Str) (v:V),X.N[i]?=aa x->σ[i]?=aa (aa v)->Vis X.env.scope x->∃u,aJ v u/\Sg X.env s.heap m x u
 cell:∀x c,X.env.cells.lookup x=aa c->∃v,s.heap.IsCell c v
 free:H X.env.locals=aD
 freeC:∀x c,X.env.cells.lookup x=aa c->H c=aD
 pin:∀p ∈ X.pn++pins,s.heap.get? p.1=aa p.2/\H p.1=aD/\p.1 ≠ X.env.locals/\p.1 ∉ X.fs/\∀v,p.2.data ≠ .cell v
 hok:HOk X.prog X.w H s.heap
 len:σ.length=X.N.length
section
variable {X:Cx} {pins:List (Addr × Obj)} {σ:List (Option V)} {H H':Hp} {s:Shared} {h':Heap}
def Cx.Ok.nofr(ok:X.Ok)(e:X.base.get? b=aa o):b ∉ X.fs:=λhb=>by
 have:=(ok.funs.mem hb).1;rw[e] at this;cases this
def Inv.bs(I:Inv X pins σ H s):∀b o,X.base.get? b=aa o->s.heap.get? b=aa o/\H b=aD:=λb o e=>
 ⟨I.base.keep b o (I.ok.bs b o e).1 (I.ok.bs b o e).2 (I.ok.nofr e) (I.ok.noex b o e),I.base.free b o (I.ok.bs b o e).1 (I.ok.bs b o e).2 (I.ok.noex b o e)⟩
def Inv.bk(I:Inv X pins σ H s):∀b o,X.base.get? b=aa o->s.heap.get? b=aa o:=λb o e=>(I.bs b o e).1
def Inv.mod(I:Inv X pins σ H s):Mod X.K X.mg X.base:=I.ok.mod
def Inv.kIn(I:Inv X pins σ H s):X.K.In s.heap:=I.ok.mod.kin.keeps I.bk
def Inv.lt(I:Inv X pins σ H s):X.env.locals < s.heap.objs.size:=let ⟨_,hn,_⟩:=I.loc;hn.lt
def Inv.sz(I:Inv X pins σ H s):X.s₀.heap.objs.size<=s.heap.objs.size:=ZC I.ok.above (Xo I.lt)
def Inv.nofs(I:Inv X pins σ H s)(h:s.heap.objs.size<=a):a ∉ X.fs:=λhb=>by
 obtain⟨_,o,b,_⟩:=I.ok.funs.mem hb;exact absurd (Zy (Zt b) (ZC I.sz h)) (ZQ _)
def Inv.cne(I:Inv X pins σ H s):∀x c,X.env.cells.lookup x=aa c->c ≠ X.env.locals:=λx c e z=>by
 obtain⟨v,o,f,hd⟩:=I.cell x c e;obtain⟨m,⟨O,E,g,h,b,_⟩,_⟩:=I.loc;rw[z,h] at f;cases f;rw[b] at hd;cases hd
def Inv.funs(I:Inv X pins σ H s):s.heap.FunFrames X.base X.outer:=by
 have all:∀ (l:List Env),(∀b ∈ frs l,b ∈ X.fs)->X.s₀.heap.FunFrames X.base l->s.heap.FunFrames X.base l:=by
  intro l
  induction l with
  |nil=>intro _ _;trivial
  |cons env r p=>
   intro hs q;obtain⟨f,⟨L,o,h,n,g,hd⟩,j⟩:=q;have c:L ∈ X.fs:=hs L (by unfold frs;rw[Y4,h];exact Zh);obtain⟨sl,e⟩:=I.base.slot L o g (I.ok.frf L c) c λz=>I.ok.exfs L z c;exact⟨f,⟨L,_,h,n,e,hd⟩,p (λb hb=>hs b (by unfold frs;rw[Y4,h];exact Zf _ hb)) j⟩
 exact all X.outer (λ_ hb=>hb) I.ok.funs
def Inv.stack(I:Inv X pins σ H s):s.heap.FunFrames X.base X.stack:=by
 rcases I.ok.stk with e |⟨e,hf⟩
 ·rw[e];exact I.funs
 ·rw[e];obtain⟨m,h,_⟩:=I.loc;refine .cons (by rw[I.ok.kind];decide) hf h ?_ I.funs;exact Heap.get?_none_of_le (ZC I.ok.bsz I.ok.above)
def Inv.stkSub(I:Inv X pins σ H s):∀b ∈ frs X.stack,b ∈ X.env.locals::X.fs:=λb hb=>by
 rcases I.ok.stk with e |⟨e,hf⟩
 ·rw[e] at hb;exact Zf _ hb
 ·rw[e] at hb;unfold frs at hb;rw[Y4,hf] at hb;exact hb
def Inv.stkFree(I:Inv X pins σ H s):∀b ∈ frs X.stack,H b=aD:=λb hb=>by
 rcases Zl.mp (I.stkSub b hb) with e |hb
 ·rw[e];exact I.free
 ·obtain⟨_,o,h,_⟩:=I.ok.funs.mem hb;exact I.base.free b o h (I.ok.frf b hb) λz=>I.ok.exfs b z hb
def Inv.step{g':Array W3}{t':Nat}{d':Drawn}{ch:List Addr}(I:Inv X pins σ H s)
  (g:∀b ∈ ch,(b ∈ X.ex\/X.s₀.heap.objs.size<=b)/\b ≠ X.env.locals/\(∀x c,X.env.cells.lookup x=aa c->c ≠ b)/\∀p ∈ X.pn++pins,p.1 ≠ b)
  (keep:∀b o,b ≠ X.env.locals->b ∉ X.fs->b ∉ ch->s.heap.get? b=aa o->H b=aD->h'.get? b=aa o)
  (slot:∀b o,b ≠ X.env.locals->b ∈ X.fs->b ∉ ch->s.heap.get? b=aa o->H b=aD->∃sl,h'.get? b=aa { o with slots:=sl }) (free:∀b o,b ∉ ch->s.heap.get? b=aa o->H b=aD->H' b=aD)
  (there:∀b o,b ∉ ch->s.heap.get? b=aa o->∃O,h'.get? b=aa O)
  (tups:∀b xs,H b=aa (.tup xs)->H' b=aa (.tup xs)) (frzs:∀b o u,H b=aa (.frz o u)->H' b=aa (.frz o u)) (tbls:∀b ps,H b=aa (.tbl ps)->∃more,H' b=aa (.tbl (ps++more)))
  (ns:∀m,s.heap.Ns X.env.locals m->h'.Ns X.env.locals m) (hok:HOk X.prog X.w H' h') (Z:AllBare g') :
  Inv X pins σ H' { s with heap:=h',gens:=g',drawn:=d',toks:=t' }:=by
 have J:∀b o,X.s₀.heap.get? b=aa o->b ≠ X.env.locals:=λb o e=>ZF (Zy (Zt e) I.ok.above)
 have j:∀b o,X.s₀.heap.get? b=aa o->b ∉ X.ex->b ∉ ch:=λb o e h hb=>by
  rcases (g b hb).1 with z |z
  ·exact h z
  ·exact absurd (Zy (Zt e) z) (ZQ _)
 have C:∀x c,X.env.cells.lookup x=aa c->∀v,s.heap.IsCell c v->h'.IsCell c v:=λx c e v ⟨o,y,hd⟩=>by
  have f:c ∉ ch:=λz=>(g c z).2.2.1 x c e rfl;by_cases Q:c ∈ X.fs
  ·obtain⟨sl,q⟩:=slot c o (I.cne x c e) Q f y (I.freeC x c e);exact⟨_,q,hd⟩
  ·exact⟨o,keep c o (I.cne x c e) Q f y (I.freeC x c e),hd⟩
 refine⟨I.ok,I.os,Z,⟨λb o e n hb h=>?_,λb o e n hb h=>?_,λb o e n h=>?_,λb o e h=>?_,λb xs e=>tups b xs (I.base.tups b xs e),λb o xs e=>frzs b o xs (I.base.frzs b o xs e),λb ps e=>?_⟩,?_,λx c e=>?_,?_,λx c e=>?_,λp U=>?_,hok,I.len⟩
 ·exact keep b o (J b o e) hb (j b o e h) (I.base.keep b o e n hb h) (I.base.free b o e n h)
 ·obtain⟨sl,E⟩:=I.base.slot b o e n hb h;obtain⟨L,B⟩:=slot b _ (J b o e) hb (j b o e h) E (I.base.free b o e n h);exact⟨L,B⟩
 ·obtain⟨O,E⟩:=I.base.there b o e h;exact free b O (j b o e h) E (I.base.free b o e n h)
 ·obtain⟨O,E⟩:=I.base.there b o e h;exact there b O (j b o e h) E
 ·obtain⟨m1,E⟩:=I.base.tbls b ps e;obtain⟨m2,B⟩:=tbls b _ E;exact⟨m1++m2,by rw[B,XY]⟩
 ·obtain⟨m,hn,hl⟩:=I.loc;refine⟨m,ns m hn,λi x v E B Y=>?_⟩;obtain⟨u,r,l⟩:=hl i x v E B Y;refine⟨u,r,?_⟩;rcases l with l |⟨k,c,e,z⟩
  ·exact .inl l
  ·exact .inr ⟨k,c,e,C x c e _ z⟩
 ·obtain⟨v,z⟩:=I.cell x c e;exact⟨v,C x c e v z⟩
 ·obtain⟨m,⟨o,_,_,y,_⟩,_⟩:=I.loc;exact free _ o (λz=>(g _ z).2.1 rfl) y I.free
 ·obtain⟨v,o,y,hd⟩:=I.cell x c e;exact free c o (λz=>(g c z).2.2.1 x c e rfl) y (I.freeC x c e)
 ·obtain⟨e,n,ne,T,d⟩:=I.pin p U;have f:p.1 ∉ ch:=λz=>(g p.1 z).2.2.2 p U rfl;exact⟨keep p.1 p.2 ne T f e n,free p.1 p.2 f e n,ne,T,d⟩
def Inv.un{t':Nat}(I:Inv X pins σ H s)(u:Un X.fs [] H H' s.heap h')(hok:HOk X.prog X.w H' h'):Inv X pins σ H' { s with heap:=h',toks:=t' }:=by
 obtain⟨m,⟨o,v,y,f,r⟩,_⟩:=id I.loc;obtain⟨sl,j⟩:=u.any f I.free (by simp)
 exact I.step (g':=s.gens) (d':=s.drawn) (ch:=[]) (λ_ z=>nomatch z) (λb o _ hb _ e n=>u.keep b o e n hb (by simp)) (λb o _ hb _ e n=>u.slot b o e n hb (by simp)) (λb o _ e n=>u.free b o e n (by simp)) (λb o _ e=>u.there b o e (by simp)) u.tups u.frzs u.tbls (λq p=>by
  obtain⟨O,c,E,h,g⟩:=p;rw[f] at h;cases h;exact⟨_,c,E,j,g⟩) hok I.bare
def Inv.call{g':Array W3}{t':Nat}{d':Drawn}{ch:List Addr}(I:Inv X pins σ H s)(u:Un (frs X.stack) ch H H' s.heap h')(hok:HOk X.prog X.w H' h')(y:AllBare g')
  (f:∀b ∈ ch,(b ∈ X.ex\/X.s₀.heap.objs.size<=b)/\b ≠ X.env.locals/\(∀x c,X.env.cells.lookup x=aa c->c ≠ b)/\∀p ∈ X.pn++pins,p.1 ≠ b) :
  Inv X pins σ H' { s with heap:=h',gens:=g',drawn:=d',toks:=t' }:=by
 obtain⟨m,⟨o,J,Q,v,r⟩,_⟩:=id I.loc;obtain⟨sl,q⟩:=u.any v I.free λz=>(f _ z).2.1 rfl
 exact I.step (ch:=ch) f (λb o q hb h e n=>u.keep b o e n (λz=>(Zl.mp (I.stkSub b z)).elim q hb) h) (λb o _ _ h e n=>u.any e n h) (λb o h e n=>u.free b o e n h) (λb o h e=>u.there b o e h) u.tups u.frzs u.tbls (λL B=>by
  obtain⟨O,E,j,g,C⟩:=B;rw[v] at g;cases g;exact⟨_,E,j,q,C⟩) hok y
def Inv.turned{t':Nat}{it:Addr}(I:Inv X pins σ H s)(k:∀b o,b ≠ it->s.heap.get? b=aa o->h'.get? b=aa o)(B:H it=aD)(g:it ≠ X.env.locals)
  (J:it ∈ X.ex\/X.s₀.heap.objs.size<=it) (j:∀x c,X.env.cells.lookup x=aa c->c ≠ it) (y:∀p ∈ X.pn++pins,p.1 ≠ it):Inv X pins σ H { s with heap:=h',toks:=t' }:=by
 have f:∀b u,H b=aa u->b ≠ it:=λb u e z=>by rw[z,B] at e;cases e
 refine I.step (g':=s.gens) (d':=s.drawn) (ch:=[it]) (λb hb=>?_) (λb o _ _ h e _=>k b o (λz=>h (by simp[z])) e) (λb o _ _ h e _=>⟨o.slots,k b o (λz=>h (by simp[z])) e⟩) (λ_ _ _ _ n=>n)
  (λb o h e=>⟨o,k b o (λz=>h (by simp[z])) e⟩) (λ_ _ e=>e) (λ_ _ _ e=>e) (λb ps e=>⟨#[],by rw[e];simp⟩) (λm L=>?_) (λb u e=>?_) I.bare
 ·have e:b=it:=by simpa using hb
  subst e;exact⟨J,g,j,y⟩
 ·obtain⟨o,E,O,C,r⟩:=L;exact⟨o,E,O,k _ o (Ne.symm g) C,r⟩
 ·refine(I.hok b u e).stay (λc v h q=>k c v ?_ q) (λ_ q=>q) λ_ _ q=>q;rcases h with z |z
  ·rw[z];exact f b u e
  ·exact f c _ z
def Inv.tok(I:Inv X pins σ H s)(t:Nat):Inv X pins σ H { s with toks:=t }:=I.un (h':=s.heap) (t':=t) Un.refl I.hok
def Inv.kept{t':Nat}(I:Inv X pins σ H s)(k:∀b u,s.heap.get? b=aa u->h'.get? b=aa u):Inv X pins σ H { s with heap:=h',toks:=t' }:=I.un (Un.kept k) (I.hok.kept k)
def Inv.laid{a:Addr}{o:HO}{t':Nat}(I:Inv X pins σ H s)(k:∀b u,s.heap.get? b=aa u->h'.get? b=aa u)(h:s.heap.objs.size<=a)(new:bv X.prog X.w (upd H a o) h' a o) :
  Inv X pins σ (upd H a o) { s with heap:=h',toks:=t' }:=I.un (Un.laid k h (I.hok.fresh h)) (I.hok.laid k h new)
def Inv.write{T:Nat}(I:Inv X pins σ H s)(c:Mut (H x))(f:e=x\/H e=aa (.own x))(k:∀b u,b ≠ e->s.heap.get? b=aa u->h'.get? b=aa u)(h:∃u,h'.get? e=aa u)
  (new:bv X.prog X.w (upd H x o) h' x o):Inv X pins σ (upd H x o) { s with heap:=h',toks:=T }:=I.un (Un.write c f k h) (I.hok.write c f k h new)
def Inv.pins_of(I:Inv X pins σ H s)(h:∀p ∈ b,s.heap.get? p.1=aa p.2/\H p.1=aD/\p.1 ≠ X.env.locals/\p.1 ∉ X.fs/\∀v,p.2.data ≠ .cell v):Inv X b σ H s:=
 ⟨I.ok,I.os,I.bare,I.base,I.loc,I.cell,I.free,I.freeC,λp c=>(ZJ.mp c).elim (λz=>I.pin p (Yx _ z)) (h p),I.hok,I.len⟩
def my{N:List Str}(hN:N.Nodup){i j:Nat}{x:Str}(a:N[i]?=aa x)(b:N[j]?=aa x):i=j:=by
 obtain⟨f,E⟩:=Zb.mp a;obtain⟨h,c⟩:=Zb.mp b;exact(Xl hN).mp (E.trans c.symm)
def pA{M:Model}{A:Around}{E:Value->Shared->Prop}{i:Nat}{x:Str}{v:V}{u:Value}{Q:Unit->Shared->Prop}(I:Inv X pins σ H s)(hN:X.N.Nodup)(Z:X.N[i]?=aa x)(g:Loc X.env.scope x)(r:aJ v u)
  (h:∀s',Inv X pins (σ.set i (aa v)) H s'->(∃a,Heap.SameBut a s.heap s'.heap/\(a=X.env.locals\/X.env.cells.lookup x=aa a))->Q () s') (hf:X.fn x=aN\/X.env.scope.names.lookup x=aa .local:=by first |exact .inl rfl |exact .inr rfl |assumption):wpAny M A (storeName X.env x u) Q E s:=by
 obtain⟨m,hn,hl⟩:=id I.loc;have hcls:(X.env.scope.kind == .class || (X.env.scope.kind == .module && X.env.locals != X.env.globals))=aT:=by rw[I.ok.kind];rfl
 have J:i < σ.length:=by rw[I.len];exact(Zb.mp Z).1
 have cne:=I.cne
 have T:∀ {a:Addr} {h':Heap},(∃o,s.heap.get? a=aa o/\H a=aD)->Heap.SameBut a s.heap h'->HOk X.prog X.w H h':=λ{a h'} ha hs b ob e=>by
  obtain⟨_,_,B⟩:=ha;refine(I.hok b ob e).stay (λc w' hc q=>(hs.2 c ?_).trans q) (λ_ q=>q) λ_ _ q=>q;rintro rfl;rcases hc with rfl |hc
  ·rw[B] at e;cases e
  ·rw[B] at hc;cases hc
 rcases g with hk |hk
 ·refine wpAny_storeName_local hk hn (λh' hn' hs=>?_) hcls;obtain⟨oL,_,_,hoL,_⟩:=id hn;refine h _ ⟨I.ok,I.os,I.bare,⟨λb o e n hb g=>?_,λb o e n hb g=>?_,I.base.free,λb o e g=>?_,I.base.tups,I.base.frzs,I.base.tbls⟩,⟨_,hn',λj y v' f C e3=>?_⟩,λy c e=>?_,I.free,I.freeC,λp hp=>?_,T ⟨oL,hoL,I.free⟩ hs,by simpa using I.len⟩ ⟨_,hs,.inl rfl⟩
  ·exact(hs.2 b (ZF (Zy (Zt e) I.ok.above))).trans (I.base.keep b o e n hb g)
  ·obtain⟨sl,f⟩:=I.base.slot b o e n hb g;exact⟨sl,(hs.2 b (ZF (Zy (Zt e) I.ok.above))).trans f⟩
  ·obtain⟨o',f⟩:=I.base.there b o e g;exact⟨o',(hs.2 b (ZF (Zy (Zt e) I.ok.above))).trans f⟩
  ·by_cases O:j=i
   ·subst O;rw[Z] at f;cases f;rw[ZD J] at C;cases C;exact⟨u,r,.inl ⟨hk,by simp⟩⟩
   ·rw[ZH (Ne.symm O)] at C;obtain⟨u',r',q⟩:=hl j y v' f C e3;refine⟨u',r',?_⟩;rcases q with ⟨k,e⟩ |⟨k,c,e,z⟩
    ·refine .inl ⟨k,?_⟩;have:y ≠ x:=λe=>O (my hN f (e ▸ Z));simp[this,e]
    ·exact .inr ⟨k,c,e,z.sameBut hs (cne y c e)⟩
  ·obtain⟨w',z⟩:=I.cell y c e;exact⟨w',z.sameBut hs (cne y c e)⟩
  ·obtain⟨e,n,ne,nf,d⟩:=I.pin p hp;exact⟨(hs.2 p.1 ne).trans e,n,ne,nf,d⟩
 ·have L:X.fn x=aN:=by
   rcases hf with z |z
   ·exact z
   ·rw[z] at hk;cases hk
  obtain⟨c,hc⟩:=I.ok.has x (.inl hk);obtain⟨w',z⟩:=I.cell x c hc;refine wpAny_storeName_cell I.ok.kind hk hc z (λh' Y hs=>?_);obtain⟨oc,hoc,U⟩:=id z;refine h { s with heap:=h' } ⟨I.ok,I.os,I.bare,⟨λb o e n hb g=>?_,λb o e n hb g=>?_,I.base.free,λb o e g=>?_,I.base.tups,I.base.frzs,I.base.tbls⟩,⟨m,hn.sameBut hs (Ne.symm (cne x c hc)),λj y v' f C e3=>?_⟩,λy c' e=>?_,I.free,I.freeC,λp hp=>?_,T ⟨oc,hoc,I.freeC x c hc⟩ hs,by simpa using I.len⟩ ⟨c,hs,.inr hc⟩
  ·exact(hs.2 b (ZF (Zy (Zt e) (I.ok.cab x c L hc)))).trans (I.base.keep b o e n hb g)
  ·obtain⟨sl,f⟩:=I.base.slot b o e n hb g;exact⟨sl,(hs.2 b (ZF (Zy (Zt e) (I.ok.cab x c L hc)))).trans f⟩
  ·obtain⟨o',f⟩:=I.base.there b o e g;exact⟨o',(hs.2 b (ZF (Zy (Zt e) (I.ok.cab x c L hc)))).trans f⟩
  ·by_cases O:j=i
   ·subst O;rw[Z] at f;cases f;rw[ZD J] at C;cases C;exact⟨u,r,.inr ⟨.inl hk,c,hc,Y⟩⟩
   ·rw[ZH (Ne.symm O)] at C;obtain⟨u',r',q⟩:=hl j y v' f C e3;refine⟨u',r',?_⟩;rcases q with q |⟨k,c',e,z'⟩
    ·exact .inl q
    ·refine .inr ⟨k,c',e,z'.sameBut hs ?_⟩;rintro rfl;exact O (my hN f (I.ok.inj _ _ _ e hc ▸ Z))
  ·by_cases hcc:c'=c
   ·subst hcc;exact⟨_,Y⟩
   ·obtain⟨w2,z2⟩:=I.cell y c' e;exact⟨w2,z2.sameBut hs hcc⟩
  ·obtain⟨e,n,ne,nf,d⟩:=I.pin p hp;refine⟨(hs.2 p.1 ?_).trans e,n,ne,nf,d⟩;intro q;rw[q,hoc] at e;have q':oc=p.2:=Option.some.inj e;exact d w' (by rw[<-q'];exact U)
def cH{i:Nat}(I:Inv X pins σ H s)(hN:X.N.Nodup)(c:X.N[i]?=aa x)(f:Loc X.env.scope x)(r:aJ v u)
  (h:∀b,Inv X pins (σ.set i (aa v)) H b->Q () b) (g:X.fn x=aN\/X.env.scope.names.lookup x=aa .local:=by first |exact .inl rfl |exact .inr rfl |assumption):wpAny M A (storeName X.env x u) Q E s:=
 pA I hN c f r (λb j _=>h b j) g
def Inv.call'(I:Inv X pins σ H s)(f:s'.os=s.os)(u:Un (frs X.stack) ch H H' s.heap s'.heap)(hok:HOk X.prog X.w H' s'.heap)(n:AllBare s'.gens)
  (h:∀b ∈ ch,(b ∈ X.ex\/X.s₀.heap.objs.size<=b)/\b ≠ X.env.locals/\(∀x c,X.env.cells.lookup x=aa c->c ≠ b)/\∀p ∈ X.pn++pins,p.1 ≠ b):Inv X pins σ H' s':=by
 obtain⟨h',g,j,T,o⟩:=s';have e:o=s.os:=f;subst e;exact I.call (g':=g) (t':=T) (d':=j) u hok n h
end
@[inline]abbrev XK:=Value->Option Addr->Hp->Prop
@[inline]abbrev St:=List (Option V)
@[inline]abbrev VK:=V->Hp->Prop
@[inline]abbrev TE:=St->Hp->VK->Prop
@[inline]abbrev TT:=St->Hp->(Bool->Hp->Prop)->Prop
@[inline]abbrev TA:=St->Hp->(List V->Hp->Prop)->Prop
structure Ends where
 nx:St->Hp->Prop
 rt:VK
 bk:St->Hp->Prop:=λ_ _=>False
 ct:St->Hp->Prop:=λ_ _=>False
@[inline]abbrev TS:=Ends->St->Hp->Prop
abbrev EP(X:Cx)(p:List (Addr × Obj))(b:St)(Q:VK)(u:Value)(c:Shared):Prop:=∃v h,Inv X p b h c/\aJ v u/\Q v h
abbrev TP(X:Cx)(p:List (Addr × Obj))(c:St)(Q:Bool->Hp->Prop)(b:Bool)(f:Shared):Prop:=∃h,Inv X p c h f/\Q b h
abbrev AP(X:Cx)(p:List (Addr × Obj))(b:St)(Q:List V->Hp->Prop)(u:List Value)(c:Shared):Prop:=∃v h,Inv X p b h c/\aO v u/\Q v h
abbrev SP(X:Cx)(p:List (Addr × Obj))(D:Ends)(f:Flow)(c:Shared):Prop:=
 match f with
 |.next=>∃b h,Inv X p b h c/\D.nx b h
 |.brk=>∃b h,Inv X p b h c/\D.bk b h
 |.cont=>∃b h,Inv X p b h c/\D.ct b h
 |.ret u=>∃v b h,Inv X p b h c/\aJ v u/\D.rt v h
abbrev PE(X:Cx)(e:Expr)(t:TE):Prop:=
 ∀ (p:List (Addr × Obj)) (s:Shared) (b:St) (H:Hp) (Q:VK),Inv X p b H s->t b H Q->wpAny (model X.prog X.w) X.A (eval e X.env) (EP X p b Q) X.xe s
abbrev PT(X:Cx)(e:Expr)(t:TT):Prop:=
 ∀ (p:List (Addr × Obj)) (s:Shared) (b:St) (H:Hp) (Q:Bool->Hp->Prop),Inv X p b H s->t b H Q->wpAny (model X.prog X.w) X.A (isTrue e X.env (eval e X.env)) (TP X p b Q) X.xe s
abbrev PW(X:Cx)(e:Expr)(t:TT):Prop:=
 ∀ (b:Sem Value) (p:List (Addr × Obj)) (s:Shared) (c:St) (H:Hp) (Q:Bool->Hp->Prop),Inv X p c H s->t c H Q->wpAny (model X.prog X.w) X.A (isTrue e X.env b) (TP X p c Q) X.xe s
def PW.pt(h:PW X e t):PT X e t:=h _
abbrev PA(X:Cx)(E:List Expr)(t:TA):Prop:=
 ∀ (c:Pos) (p:List (Addr × Obj)) (s:Shared) (b:St) (H:Hp) (Q:List V->Hp->Prop),Inv X p b H s->t b H Q->wpAny (model X.prog X.w) X.A (spliced (backTo c (Ug E X.env))) (AP X p b Q) X.xe s
abbrev PS(X:Cx)(st:Stmt)(t:TS):Prop:=
 ∀ (p:List (Addr × Obj)) (s:Shared) (b:St) (H:Hp) (D:Ends),Inv X p b H s->t D b H->wpAny (model X.prog X.w) X.A (exec st X.env) (SP X p D) X.xe s
abbrev PSs(X:Cx)(st:List Stmt)(t:TS):Prop:=
 ∀ (p:List (Addr × Obj)) (s:Shared) (b:St) (H:Hp) (D:Ends),Inv X p b H s->t D b H->wpAny (model X.prog X.w) X.A (execs st X.env) (SP X p D) X.xe s
def thn{b:Type}{t:Sem b}{Q q:b->Shared->Prop}{M:Model}{A:Around}{E:Value->Shared->Prop}{s:Shared}(h:wpAny M A t Q E s)(c:∀a s,Q a s->q a s):wpAny M A t q E s:=UH h c λ_ _ x=>x
section
variable {X:Cx}
abbrev Kf(i:Nat):TE:=λb H Q=>∃v,b[i]?=aa (aa v)/\Q v H
abbrev tC(v:V):TE:=λ_ H Q=>Q v H
def uJ{i:Nat}(hN:X.N[i]?=aa x)(q:Vis X.env.scope x)(hd:(x == ("__debug__" : Str))=aT:=by decide)(f:(x == ("__classdict__" : Str))=aT:=by decide):PE X (.Name x n) (Kf i):=by
 intro p s j H Q I h;obtain⟨v,e,h⟩:=h;obtain⟨m,o,y⟩:=I.loc;obtain⟨u,r,l⟩:=y i x v hN e q;have fin:EP X p j Q u s:=⟨v,H,I,r,h⟩;rcases l with ⟨hk,z⟩ |⟨hk,c,g,b⟩
 ·exact wpAny_Name (wpAny_loadName_local I.ok.kind hk o z fin) hd
 ·rcases hk with hk |hk
  ·exact wpAny_Name (wpAny_loadName_cell I.ok.kind hk g b fin) hd
  ·exact wpAny_Name (wpAny_loadName_free I.ok.kind hk g b fin f) hd
def mz{i j p}:PE X (.Constant (.int i) j p) (tC (.int i)):=λ_ _ _ H _ I h=>wpAny_Constant_int ⟨.int i,H,I.tok _,⟨_,rfl⟩,h⟩
def AO{b j p}:PE X (.Constant (.bool b) j p) (tC (.bl b)):=λ_ _ _ H _ I h=>Constant_bool ⟨.bl b,H,I,rfl,h⟩
def Kg{j p}:PE X (.Constant .none j p) (tC .non):=λ_ _ _ H _ I h=>Constant_none ⟨.non,H,I,rfl,h⟩
def qK{x j p}:PE X (.Constant (.str x) j p) (tC (.str x)):=λ_ _ _ H _ I h=>Calls.Constant_str ⟨.str x,H,I.tok _,⟨_,rfl⟩,h⟩
abbrev Gl(X:Cx)(x:Str):Prop:=X.env.kindOf x=aa .globalImplicit
def gX(I:Inv X p g H s)(f:Gl X x)(c:X.mg x=aa u)(h:Q u s)
  (hd:(x == ("__debug__" : Str))=aT:=by decide):wpAny (model X.prog X.w) X.A (eval (.Name x b) X.env) Q E s:=
 WJ I.ok.kind f (Calls.loadGlobal_global (by rw[I.ok.glob];exact I.mod.glob.keeps I.bk) c h) hd
def iK(I:Inv X p q H s)(o:Gl X x)(n:X.mg x=aD)(j:VI x=aa u)(h:Q u s)
  (g:x ≠ "__name__" := by decide) (hd:(x == ("__debug__" : Str))=aT:=by decide):wpAny (model X.prog X.w) X.A (eval (.Name x c) X.env) Q E s:=by
 obtain⟨v,f,b⟩:=I.mod.blt;exact WJ I.ok.kind o (Calls.loadGlobal_builtin (by rw[I.ok.glob];exact I.mod.glob.keeps I.bk) n (by rw[I.ok.blt];exact f.keeps I.bk) ((b x g).trans j) h) hd
def xg(c:Gl X x)(b:X.mg x=aa u)(r:aJ v u)(hd:(x == ("__debug__" : Str))=aT:=by decide):PE X (.Name x p) (tC v):=
 λ_ _ _ H _ I h=>gX I c b ⟨v,H,I,r,h⟩ hd
def gY(g:Gl X x)(f:X.mg x=aD)(c:VI x=aa u)(r:aJ v u)(b:x ≠ "__name__" := by decide)(hd:(x == ("__debug__" : Str))=aT:=by decide):PE X (.Name x p) (tC v):=
 λ_ _ _ H _ I h=>iK I g f c ⟨v,H,I,r,h⟩ b hd
variable {a b:Expr} {ta tb:TE} {pos:Pos}
abbrev tB(t:TE):TT:=λf H Q=>t f H λx h=>∃c,x = .bl c/\Q c h
def Kh{e:Expr}{t:TE}(h:PE X e t)(n:∀c,isTrue e X.env c=(do let v <-c;standAt e.pos;holding [v] (truthy v)):=by intro _;rfl):PT X e (tB t):=by
 intro p s f H Q I u;refine isTrue_plain (thn (h p s f H _ I u) λv y ⟨x,o,g,r1,j⟩=>?_) (n _);obtain⟨d,rfl,q⟩:=j;cases r1;exact UT ⟨o,g,q⟩
variable {tA tB':TT} {rest:List Expr}
abbrev Pf(t u:TT):TT:=λf H Q=>t f H λc h=>if c=aN then u f h Q else Q aT h
abbrev tOr(t u:TT):TT:=λf H Q=>t f H λc h=>if c=aN then Q aN h else u f h Q
abbrev Pg(t:TT):TT:=λf H Q=>t f H λc h=>Q (!c) h
def EZ(g:PT X a tA):PW X (.BoolOp .And [a] pos) tA:=by
 intro j p s f H Q I h;refine isTrue_and (thn (g p s f H Q I h) λc n e=>?_);cases c with
 |true=>exact isTrue_and_nil e
 |false=>exact e
def AQ(g:PT X a tA):PW X (.BoolOp .Or [a] pos) tA:=by
 intro j p s f H Q I h;refine isTrue_or (thn (g p s f H Q I h) λc n e=>?_);cases c with
 |false=>exact isTrue_or_nil e
 |true=>exact e
def AR(n:PT X a tA)(hb:PW X (.BoolOp .And (b::rest) pos) tB'):PW X (.BoolOp .And (a::b::rest) pos) (Pf tA tB'):=by
 intro o p s f H Q I h;refine isTrue_and (thn (n p s f H _ I h) λc u ⟨j,g,q⟩=>?_);cases c with
 |true=>exact hb o p u f j Q g q
 |false=>exact⟨j,g,q⟩
def AS(n:PT X a tA)(hb:PW X (.BoolOp .Or (b::rest) pos) tB'):PW X (.BoolOp .Or (a::b::rest) pos) (tOr tA tB'):=by
 intro o p s f H Q I h;refine isTrue_or (thn (n p s f H _ I h) λc u ⟨j,g,q⟩=>?_);cases c with
 |true=>exact⟨j,g,q⟩
 |false=>exact hb o p u f j Q g q
def AU(g:PT X a tA):PT X (.UnaryOp .Not a pos) (Pg tA):=by
 intro p s f H Q I h;exact isTrue_not (g p s f H (λc j=>Q (!c) j) I h)
abbrev IY(ta tb:TE):TE:=λf H Q=>ta f H λx h=>∃c,x = .bl c/\if c=aN then tb f h Q else Q (.bl aT) h
abbrev Ph(ta tb:TE):TE:=λf H Q=>ta f H λx h=>∃c,x = .bl c/\if c=aN then Q (.bl aN) h else tb f h Q
abbrev IZ(ta:TE):TE:=λf H Q=>ta f H λx h=>∃c,x = .bl c/\Q (.bl (!c)) h
def AV{op}(h:PE X a t):PE X (.BoolOp op [a] pos) t:=λp s c H Q I f=>BoolOp_one (h p s c H Q I f)
def AW(n:PE X a ta)(hb:PE X (.BoolOp .And (b::rest) pos) tb):PE X (.BoolOp .And (a::b::rest) pos) (IY ta tb):=by
 intro p s f H Q I h;refine BoolOp_and (thn (n p s f H _ I h) λv o ⟨x,j,g,r1,q⟩=>?_);obtain⟨c,rfl,q⟩:=q;cases r1;refine UT ?_;cases c with
 |true=>exact hb p o f j Q g q
 |false=>exact⟨.bl aT,j,g,rfl,q⟩
def Ja(n:PE X a ta)(hb:PE X (.BoolOp .Or (b::rest) pos) tb):PE X (.BoolOp .Or (a::b::rest) pos) (Ph ta tb):=by
 intro p s f H Q I h;refine BoolOp_or (thn (n p s f H _ I h) λv o ⟨x,j,g,r1,q⟩=>?_);obtain⟨c,rfl,q⟩:=q;cases r1;refine UT ?_;cases c with
 |false=>exact hb p o f j Q g q
 |true=>exact⟨.bl aN,j,g,rfl,q⟩
def Ki(j:PE X a ta):PE X (.UnaryOp .Not a pos) (IZ ta):=by
 intro p s f H Q I h;refine UnaryOp_ (thn (j p s f H _ I h) λv o ⟨x,n,g,r1,q⟩=>?_);obtain⟨c,rfl,q⟩:=q;cases r1;exact not_of (UT ⟨.bl (!c),n,g,rfl,q⟩)
end
abbrev SqL(K:Vf)(H:Hp)(a:Addr)(xs:List V):Prop:=
 Rd H a (.lst xs) ∨
  ∃ (o:Obj) (I:Array Value) (n:Nat),K.lookup a=aa o/\o.cls = .type "list"/\o.dict=aD/\o.data = .seq I n/\I.size<=sizeLine/\aO xs I.toList
abbrev SqT(K:Vf)(H:Hp)(a:Addr)(xs:List V):Prop:=
 Rd H a (.tup xs) ∨
  ∃ (o:Obj) (I:Array Value) (n:Nat),K.lookup a=aa o/\o.cls = .type "tuple"/\o.data = .seq I n/\I.size<=sizeLine/\aO xs I.toList
abbrev Sh:Value->Option V
 |.none=>aa .non
 |.bool b=>aa (.bl b)
 |.int i _=>aa (.int i)
 |.str x _=>aa (.str x)
 |.bytes b _=>aa (.byt b)
 |.float b _=>aa (.flt b)
 |.ref a=>aa (.ref a)
 |.type n=>aa (.ty n)
 |_=>aD
def aJ.abs(r:aJ x u):Sh u=aa x:=by
 cases x with
 |non=>cases r;rfl
 |bl _=>cases r;rfl
 |int _=>obtain⟨t,rfl⟩:=r;rfl
 |str _=>obtain⟨t,rfl⟩:=r;rfl
 |byt _=>obtain⟨t,rfl⟩:=r;rfl
 |flt _=>obtain⟨t,rfl⟩:=r;rfl
 |ref _=>cases r;rfl
 |ty _=>cases r;rfl
def aJ.inj{x y:V}{u:Value}(r:aJ x u)(q:aJ y u):x=y:=Option.some.inj (r.abs.symm.trans q.abs)
def aO.inj:∀ {xs y:List V} {u:List Value},aO xs u->aO y u->xs=y
 |_,_,_,.nil,.nil=>rfl
 |_,_,_,.cons r t,.cons r' t'=>by rw[r.inj r',aO.inj t t']
section
variable {X:Cx} {pins:List (Addr × Obj)} {σ:St} {H:Hp} {s:Shared} {a:Addr} {xs ys:List V}
def SqL.of{K:Vf}(h:H a=aa (.lst xs)):SqL K H a xs:=.inl (.inl h)
def SqT.of{K:Vf}(h:H a=aa (.tup xs)):SqT K H a xs:=.inl (.inl h)
def Inv.list(I:Inv X pins σ H s)(h:SqL X.K H a xs):∃b:List Value,aO xs b/\PlainL s.heap a b.toArray/\xs.length<=sizeLine:=by
 rcases h with h |⟨o,b,n,hk,hc,hd,hs,hz,r⟩
 ·obtain⟨z,b,n,r,e⟩:=h.ok I.hok;exact⟨b,r,⟨_,n,e,rfl,rfl,rfl⟩,z⟩
 ·refine⟨b.toList,r,⟨o,n,I.kIn a o hk,hc,hd,by simpa using hs⟩,?_⟩;have e:=r.length;simp only[ZR] at e
  lia
def Inv.tuple(I:Inv X pins σ H s)(h:SqT X.K H a xs):∃b:List Value,aO xs b/\IsTup s.heap a b.toArray/\xs.length<=sizeLine:=by
 rcases h with h |⟨o,b,n,hk,hc,hs,hz,r⟩
 ·obtain⟨z,b,r,p⟩:=h.ok I.hok;exact⟨b,r,p.isTup,z⟩
 ·refine⟨b.toList,r,⟨o,I.kIn a o hk,hc,n,by simpa using hs⟩,?_⟩;have e:=r.length;simp only[ZR] at e
  lia
def Inv.list_inj(I:Inv X pins σ H s)(h:SqL X.K H a xs)(f:SqL X.K H a ys):xs=ys:=by
 obtain⟨b,r,⟨o,n,e,_,_,d⟩,_⟩:=I.list h;obtain⟨its',g,⟨O,j,E,_,_,c⟩,_⟩:=I.list f;rw[e] at E;cases E;rw[d] at c;injection c with d1 _;have:b=its':=by simpa using congrArg Array.toList d1
 subst this;exact r.inj g
def Inv.tuple_inj(I:Inv X pins σ H s)(h:SqT X.K H a xs)(f:SqT X.K H a ys):xs=ys:=by
 obtain⟨b,r,⟨o,e,_,n,d⟩,_⟩:=I.tuple h;obtain⟨its',g,⟨O,E,_,j,c⟩,_⟩:=I.tuple f;rw[e] at E;cases E;rw[d] at c;injection c with d1 _;have:b=its':=by simpa using congrArg Array.toList d1
 subst this;exact r.inj g
end
noncomputable abbrev Cx.wish(X:Cx)(E:Value->Shared->Prop):Cx:={ X with xe:=E }
noncomputable abbrev Cx.nox(X:Cx):Cx:=X.wish λ_ _=>False
def Cx.Ok.wish{X:Cx}(ok:X.Ok)(E:Value->Shared->Prop):(X.wish E).Ok:=
 ⟨ok.mod,ok.kind,ok.glob,ok.blt,ok.above,ok.inj,ok.has,ok.cab,ok.hd,ok.frames,ok.stk,ok.exf,ok.bs,ok.bsz,ok.noex,ok.exfs,ok.funs,ok.frf⟩
def Cx.Ok.unwish{X:Cx}{E:Value->Shared->Prop}(ok:(X.wish E).Ok):X.Ok:=
 ⟨ok.mod,ok.kind,ok.glob,ok.blt,ok.above,ok.inj,ok.has,ok.cab,ok.hd,ok.frames,ok.stk,ok.exf,ok.bs,ok.bsz,ok.noex,ok.exfs,ok.funs,ok.frf⟩
section
variable {X:Cx} {pins:List (Addr × Obj)} {σ:St} {H:Hp} {s:Shared} {E:Value->Shared->Prop}
def Inv.wish(I:Inv X pins σ H s)(E:Value->Shared->Prop):Inv (X.wish E) pins σ H s:=⟨I.ok.wish E,I.os,I.bare,I.base,I.loc,I.cell,I.free,I.freeC,I.pin,I.hok,I.len⟩
def Inv.unwish(I:Inv (X.wish E) pins σ H s):Inv X pins σ H s:=⟨I.ok.unwish,I.os,I.bare,I.base,I.loc,I.cell,I.free,I.freeC,I.pin,I.hok,I.len⟩
def SP.unwish{D:Ends}{f:Flow}{s':Shared}(h:SP (X.wish E) pins D f s'):SP X pins D f s':=by
 cases f with
 |next=>obtain⟨b,c,I,q⟩:=h;exact⟨b,c,I.unwish,q⟩
 |brk=>obtain⟨b,c,I,q⟩:=h;exact⟨b,c,I.unwish,q⟩
 |cont=>obtain⟨b,c,I,q⟩:=h;exact⟨b,c,I.unwish,q⟩
 |ret u=>obtain⟨v,b,c,I,r,q⟩:=h;exact⟨v,b,c,I.unwish,r,q⟩
def PT.nox(h:PT X.nox e t):PT X e t:=λpins s σ H Q I f=>
 UH (h pins s σ H Q (I.wish _) f) (λ_ _ ⟨b,c,q⟩=>⟨b,c.unwish,q⟩) λ_ _ z=>False.elim z
def PSs.nox{st:List Stmt}{t:TS}(h:PSs X.nox st t):PSs X st t:=λpins s σ H D I b=>
 UH (h pins s σ H D (I.wish _) b) (λ_ _ q=>q.unwish) λ_ _ z=>False.elim z
end
section
variable {X:Cx} {st:Stmt} {rest:List Stmt} {t u:TS} {e:Expr} {te:TE} {pos:Pos}
abbrev Jb:TS:=λD b H=>D.nx b H
abbrev Pj(t u:TS):TS:=λD b H=>t { D with nx:=u D } b H
def jd:PSs X [] Jb:=λ_ _ b H _ I h=>Uz ⟨b,H,I,h⟩
def bS(y:PS X st t)(g:PSs X rest u):PSs X (st::rest) (Pj t u):=by
 intro p s c H D I h;refine Uy (thn (y p s c H { D with nx:=u D } I h) λf n q=>?_);cases f with
 |next=>
  obtain⟨b,j,o,q⟩:=q;exact g p n b j D o q
 |ret v=>exact q
 |brk=>exact q
 |cont=>exact q
def je(c:PS X st t):PSs X [st] t:=by
 intro p s b H D I h;refine Uy (thn (c p s b H D I h) λf g q=>?_);cases f with
 |next=>exact Uz q
 |ret v=>exact q
 |brk=>exact q
 |cont=>exact q
abbrev Jc:TS:=λD b H=>D.ct b H
def sE:PS X (.Continue pos) Jc:=λ_ _ b H _ I h=>wpAny_Continue ⟨b,H,I,h⟩
def Inv.quiet{p:List (Addr × Obj)}{b:St}{H:Hp}{s:Shared}(I:Inv X p b H s):interactive X.env=aT:=by simp[interactive,I.ok.kind]
abbrev Jd(te:TE):TS:=λD b H=>te b H λ_ h=>D.nx b h
def xh(f:PE X e te)(hs:Uj e aD pos.line X.env=pure aT:=by rfl):PS X (.Expr e pos) (Jd te):=by
 intro p s b H D I h;exact wpAny_Expr_any (thn (f p s b H _ I h) λv j ⟨x,g,c,r1,q⟩=>⟨b,g,c,q⟩) I.quiet hs
abbrev Pk(te:TE):TS:=λD b H=>te b H D.rt
def uK(f:PE X e te):PS X (.Return (aa e) pos) (Pk te):=by
 intro p s b H D I h;exact Us (thn (f p s b H _ I h) λv j ⟨x,g,c,r1,q⟩=>⟨x,b,g,c,r1,q⟩)
abbrev Pl(c:TT)(t u:TS):TS:=λD f H=>c f H λb h=>if b=aN then t D f h else u D f h
def xj{c:Expr}{a b:List Stmt}{T:TT}(v:PT X c T)(o:PSs X a t)(hb:PSs X b u):PS X (.If c a b pos) (Pl T t u):=by
 intro p s f H D I h;refine wpAny_If (thn (v p s f H _ I h) λd j ⟨n,g,q⟩=>?_);cases d with
 |true=>exact o p j f n D g q
 |false=>exact hb p j f n D g q
abbrev Kj:TS:=λ_ _ _=>False
def sF:PS X st Kj:=λ_ _ _ _ _ _ h=>h.elim
end
@[inline]abbrev TG:=V->St->Hp->(St->Hp->Prop)->Prop
@[inline]abbrev TGs:=List V->St->Hp->(St->Hp->Prop)->Prop
abbrev PG(X:Cx)(T:Expr)(t:TG):Prop:=
 ∀ (p:List (Addr × Obj)) (s:Shared) (c:St) (H:Hp) (v:V) (u:Value) (Q:St->Hp->Prop),Inv X p c H s->aJ v u->t v c H Q ->
  wpAny (model X.prog X.w) X.A (assign T X.env u) (λ_ f=>∃b h,Inv X p b h f/\Q b h) X.xe s
abbrev PGs(X:Cx)(T:List Expr)(t:TGs):Prop:=
 ∀ (p:List (Addr × Obj)) (s:Shared) (c:St) (H:Hp) (v:List V) (u:List Value) (Q:St->Hp->Prop),Inv X p c H s->aO v u->t v c H Q ->
  wpAny (model X.prog X.w) X.A (VE ((VC T X.env).map (·.2)) u) (λ_ f=>∃b h,Inv X p b h f/\Q b h) X.xe s
@[inline]abbrev E5:=V->V->V->Hp->(Hp->Prop)->Prop
abbrev Kk(X:Cx)(t:E5):Prop:=
 ∀ (p:List (Addr × Obj)) (s:Shared) (b:St) (H:Hp) (o i v:V) (O I u:Value) (Q:Hp->Prop),Inv X p b H s->aJ o O->aJ i I->aJ v u->t o i v H Q ->
  wpAny (model X.prog X.w) X.A (setItem O I u) (λ_ c=>∃h,Inv X p b h c/\Q h) X.xe s
section
variable {X:Cx} {pos:Pos}
abbrev mB(i:Nat):TG:=λv b H Q=>Q (b.set i (aa v)) H
def xk{i:Nat}(hN:X.N.Nodup)(b:X.N[i]?=aa x)(c:Loc X.env.scope x)(f:X.fn x=aN\/X.env.scope.names.lookup x=aa .local:=by first |exact .inl rfl |exact .inr rfl |assumption):PG X (.Name x pos) (mB i):=by
 intro p s j H v u Q I r h;exact wpAny_assign_Name (cH I hN b c r (λn g=>⟨_,H,g,h⟩) f)
abbrev Kl:TGs:=λv b H Q=>v=[]/\Q b H
abbrev xl(t:TG)(u:TGs):TGs:=λf c H Q=>∃v r,f=v::r/\t v c H λb h=>u r b h Q
def xm:PGs X [] Kl:=by
 intro p s b H v u Q I r h;obtain⟨e,h⟩:=h;subst e;cases r;exact assignInOrder_nil ⟨b,H,I,h⟩
def mD{e:Expr}{E:List Expr}{t:TG}{u:TGs}(o:PG X e t)(j:PGs X E u)
  (hs:(VC (e::E) X.env).map (·.2)=assign e X.env::(VC E X.env).map (·.2):=by rfl):PGs X (e::E) (xl t u):=by
 intro p s c H B U Q I r h;obtain⟨v,C,g,h⟩:=h;subst g;cases r with
 |cons r y=>
  rw[hs];refine assignInOrder_cons (thn (o p s c H _ _ _ I r h) λ_ n ⟨b,z,f,q⟩=>?_);exact j p n b z _ _ Q f y q
abbrev Km(K:Vf)(n:Nat)(t:TGs):TG:=λv b H Q=>∃a xs,v = .ref a/\SqT K H a xs/\xs.length=n/\t xs b H Q
def AX{k:Nat}{n:Nat}(B:X.calm=aN)(h:PGs X E t)
  (J:(VC E X.env).length=n:=by rfl) (f:(VC E X.env).findIdx? (·.1)=aD:=by rfl):PG X (.Tuple E k pos) (Km X.K n t):=by
 intro p s g H v u Q I r c;obtain⟨a,xs,y,O,L,c⟩:=c;subst y;cases r;obtain⟨U,j,C,Y⟩:=I.tuple O;refine assign_Tuple_tuple (I.ok.hd B) C (by simp[J,<-L,j.length]) f λz T=>?_;have q:Inv X p g H { s with heap:=z }:=I.kept (t':=s.toks) λb o e=>T b o (ZF (Zt e)) e;exact h p _ g H xs _ Q q (by simpa using j) c
abbrev AY(T g:TE)(t:E5):TG:=λv b H Q=>T b H λo c=>g b c λi h=>t o i v h λf=>Q b f
def uL{o i:Expr}{T f:TE}{t:E5}(E:PE X o T)(n:PE X i f)(hs:Kk X t)
  (Z:∀v,assign (.Subscript o i pos) X.env v=(do
   let O <-holding [v] (eval o X.env)
   let b <-holding [v,O] (eval i X.env)
   standAt pos
   holding [v,O,b] (setItem O b v)
   release [v,O,b] []):=by intro _;rfl):PG X (.Subscript o i pos) (AY T f t):=by
 intro p s c H v u Q I r h;rw[Z];refine Ut (UC (thn (E p s c H _ I h) λO B ⟨x,H1,g,r1,L⟩=>?_));refine Ut (UC (thn (n p B c H1 _ g L) λb C ⟨y,U,z,r2,J⟩=>?_));refine Ut (US (Ut (UC (thn (hs p C c U x y v O b u _ z r1 r2 r J) λ_ s3 ⟨q,j,Y⟩=>?_))));exact wpAny_release ⟨c,q,j,Y⟩
abbrev uM(T:TE)(g:TG):TS:=λD b H=>T b H λx h=>g x b h D.nx
def jQ{T e:Expr}{c:TE}{g:TG}(n:PE X e c)(z:PG X T g)(hs:Uk [T] e pos.line X.env=pure aT:=by rfl)(y:Ui [T] e X.env=pure aD:=by rfl)
  (u:(VC [T] X.env).map (·.2)=[assign T X.env]:=by rfl):PS X (.Assign [T] e pos) (uM c g):=by
 intro p s b H D I h;refine wpAny_Assign_stores (thn (n p s b H _ I h) λv j ⟨x,o,f,r1,Q⟩=>?_) hs y;rw[u];exact thn (z p j b o x v _ f r1 Q) λ_ B q=>q
def AZ{i:Nat}{x:Str}{e:Expr}{T:TE}{p:Pos}(hN:X.N.Nodup)(g:X.N[i]?=aa x)(j:Loc X.env.scope x)(o:PE X e T)(hs:Uj e (aa (.Name x p)) pos.line X.env=pure aT:=by rfl)(q:X.fn x=aN\/X.env.scope.names.lookup x=aa .local:=by first |exact .inl rfl |exact .inr rfl |assumption) :
  PS X (.Assign [.Name x p] e pos) (uM T (mB i)):=by
 intro b s c H D I h;refine wpAny_Assign_Name (thn (o b s c H _ I h) λv z ⟨y,u,f,r1,Q⟩=>?_) hs;exact cH f hN g j r1 (λB n=>⟨_,u,n,Q⟩) q
abbrev Pn(i j:Nat)(T:TA):TS:=λD b H=>T b H λc h=>∃v w,c=[v,w]/\D.nx ((b.set i (aa v)).set j (aa w)) h
def Kn{i j:Nat}{x y:Str}{a b:Expr}{Y:TA}{J z pt:Pos}{B C f}(hc:X.calm=aN)(hN:X.N.Nodup)(hi:X.N[i]?=aa x)(hj:X.N[j]?=aa y)(O:i ≠ j)
  (Z:X.env.scope.names.lookup x=aa .local) (hy:X.env.scope.names.lookup y=aa .local) (ha:PA X [a,b] Y)
  (hw:Ui [.Tuple [.Name x J,.Name y z] B pt] (.Tuple [a,b] C f) X.env=pure (aa [x,y]))
  (hs:Uk [.Tuple [.Name x J,.Name y z] B pt] (.Tuple [a,b] C f) pos.line X.env=pure aT:=by rfl) :
  PS X (.Assign [.Tuple [.Name x J,.Name y z] B pt] (.Tuple [a,b] C f) pos) (Pn i j Y):=by
 intro c s T H D I h;rw[exec_Assign_arm];refine Ut (US ?_);rw[hs];refine Ut (UL ?_);rw[if_neg (by decide)];refine Ut (Tuple_ (thn (ha _ c s T H _ I h) λus n ⟨vs,H1,I1,r1,Q⟩=>?_));obtain⟨v,w,e1,Q⟩:=Q;subst e1
 obtain⟨u,u2,rfl,rv,E⟩:∃u u2,us=[u,u2]/\aJ v u/\aJ w u2:=by
  cases r1 with
  |cons p q=>
   cases q with
   |cons p' q'=>
    cases q';exact⟨_,_,rfl,p,p'⟩
 refine UJ ?_ (by show 2<=sizeLine;decide);have I2:Inv X c T H1 { n with heap:=n.heap.push { cls:=.type "tuple", data:=.seq [u,u2].toArray } }:=I1.kept (t':=n.toks) λb o e=>Zk _ e;rw[hw];refine Ut (UL ?_);show wpAny (model X.prog X.w) X.A (do rule "assign.swapped-stores"; let g <-unpackItems (.ref n.heap.objs.size) 2 aD;VE [λv=>VH X.env y v,λv=>VH X.env x v] g.reverse;pure Flow.next) _ _ _;refine Ut (UR (Ut (unpackItems_tuple (items:=#[u,u2]) (I.ok.hd hc) (IsTup.new n.heap _) λh' L=>?_)));have I3:=I2.kept (h':=h') (t':=n.toks) λb o e=>L b o (ZF (Zt e)) e;show wpAny _ _ (VE [λv=>VH X.env y v,λv=>VH X.env x v] [u2,u] >>= λ_=>pure Flow.next) _ _ _;refine Ut (assignInOrder_cons (Uu (cH I3 hN hj (.inl hy) E (λs2 I4=>?_) (.inr hy))));refine assignInOrder_cons (Uu (cH I4 hN hi (.inl Z) rv (λs3 U=>assignInOrder_nil (UL ?_)) (.inr Z)));rw[Xk _ _ (Ne.symm O)] at U;exact⟨_,H1,U,Q⟩
end
structure It where
 go:Nat->Hp->Prop
 yld:Nat->Hp->V->Hp->Prop
 stop:Nat->Hp->Prop
abbrev ie(X:Cx)(f:List (Addr × Obj))(H:Hp)(b:Addr):Prop:=
 H b=aD/\b ≠ X.env.locals/\b ∉ X.fs/\(b ∈ X.ex\/X.s₀.heap.objs.size<=b)/\(∀x c,X.env.cells.lookup x=aa c->c ≠ b)/\∀p ∈ X.pn++f,p.1 ≠ b
def Inv.fpOk(I:Inv X f n H s)(hb:s.heap.objs.size<=b)(j:g b=aD):ie X f g b:=by
 refine⟨j,X2 (Zy I.lt hb),I.nofs hb,.inr (ZC I.sz hb),λx c e z=>?_,λp h z=>?_⟩
 ·obtain⟨v,q⟩:=I.cell x c e;exact absurd (Zy q.lt (by rw[z];exact hb)) (ZQ _)
 ·exact absurd (Zy (Zt (I.pin p h).1) (by rw[z];exact hb)) (ZQ _)
structure Turn(P:Program)(w:World)(K:Vf)(tg:Expr)(J:It)(fp:List Addr)(it:Addr)(tn:Nat->Heap->Prop):Prop where
 mem:it ∈ fp
 obj:∀i h,tn i h->∀b ∈ fp,∃o,h.get? b=aa o/\∀v,o.data ≠ .cell v
 keep:∀i h h',tn i h->(∀b ∈ fp,∀o,h.get? b=aa o->h'.get? b=aa o)->tn i h'
 item:∀ (X:Cx),X.prog=P->X.w=w->X.K=K->X.calm=aN->∀ (i:Nat) (pins:List (Addr × Obj)) (s:Shared) (σ:St) (H:Hp) (E:Value->Shared->Prop),Inv X pins σ H s->(∀b ∈ fp,ie X pins H b)->tn i s.heap->J.go i H ->
  wpAny (model P w) X.A (pyNext (.ref it)) (λr s1=>∃u,r=aa u ∧
   wpAny (model P w) X.A (V0 tg (.ref it) u) (λ_ s2=>∃x H',Inv X pins σ H' s2/\aJ x u/\J.yld i H x H'/\tn (i+1) s2.heap/\∀b ∈ fp,H' b=aD) E s1) E s
 done:∀ (X:Cx),X.prog=P->X.w=w->X.K=K->X.calm=aN->∀ (i:Nat) (pins:List (Addr × Obj)) (s:Shared) (σ:St) (H:Hp) (E:Value->Shared->Prop),Inv X pins σ H s->(∀b ∈ fp,ie X pins H b)->tn i s.heap->J.stop i H ->
  wpAny (model P w) X.A (pyNext (.ref it)) (λr s1=>r=aD/\Inv X pins σ H s1) E s
 self:∀ (A:Around) (i:Nat) (s:Shared) (Q:Value->Shared->Prop) (E:Value->Shared->Prop),tn i s.heap->Q (.ref it) s->wpAny (model P w) A (pyIter (.ref it)) Q E s
@[inline]abbrev TI:=St->Hp->(It->Hp->Prop)->Prop
abbrev PIE(X:Cx)(p:List (Addr × Obj))(j:St)(n:Expr)(R:It->Hp->Prop)(I:Value)(f:Shared):Prop:=
 ∃ (c:Addr) (g:List Addr) (T:Nat->Heap->Prop) (J:It) (h:Hp),I = .ref c/\Inv X p j h f/\Turn X.prog X.w X.K n J g c T/\T 0 f.heap/\(∀b ∈ g,ie X p h b)/\R J h
abbrev PI(X:Cx)(T I:Expr)(wi:TI):Prop:=
 ∀ (p:List (Addr × Obj)) (s:Shared) (b:St) (H:Hp) (R:It->Hp->Prop),Inv X p b H s->wi b H R ->
  wpAny (model X.prog X.w) X.A (eval I X.env) (λv c=>wpAny (model X.prog X.w) X.A (pyIter v) (PIE X p b T R) X.xe c) X.xe s
def A6(c:s.heap.get? I=aa o)(f:o.cls = .type n)(hd:o.data = .fields vs)
  (g:["enumerate", "zip", "dict_itemiterator", "dict_reverseitemiterator", "odict_iterator", "itertools.zip_longest", "itertools.pairwise"].contains n=aT) (b:Q () s):wpAny M A (V0 T (.ref I) u) Q E s:=by
 unfold V0
 cases T <;> first
  |exact UL b
  | (cases u <;> first
    |exact UL b
    | (refine Ut (wpAny_load c ?_)
       rw[f,hd];show wpAny M A (if (["enumerate", "zip", "dict_itemiterator", "dict_reverseitemiterator", "odict_iterator", "itertools.zip_longest", "itertools.pairwise"].contains n && vs[0]? == aa (rawInt _))=aN then _ else _) Q E s;rw[if_neg (by intro h;rw[g,Xy] at h;cases h)];exact UL b))
abbrev Itl(K:Vf)(a:Addr):It:=
 ⟨λi H=>∃xs x,SqL K H a xs/\xs[i]?=aa x,λi H x h=>h=H/\∀xs,SqL K H a xs->xs[i]?=aa x,λi H=>∃xs,SqL K H a xs/\xs.length<=i⟩
abbrev Itt(K:Vf)(a:Addr):It:=
 ⟨λi H=>∃xs x,SqT K H a xs/\xs[i]?=aa x,λi H x h=>h=H/\∀xs,SqT K H a xs->xs[i]?=aa x,λi H=>∃xs,SqT K H a xs/\xs.length<=i⟩
abbrev Itr(lo:Int)(n:Nat):It:=⟨λi _=>i < n,λi H x h=>h=H/\x = .int (lo+i),λi _=>n<=i⟩
def yX{P:Program}{w:World}{K:Vf}{tg:Expr}(a it:Addr):Turn P w K tg (Itl K a) [it] it (λi h=>h.IsListIter it a i) where
 mem:=by simp
 obj:=λi h st b hb=>by
  have e:b=it:=by simpa using hb
  subst e;obtain⟨o,e,c,d⟩:=st;exact⟨o,e,λv z=>by rw[d] at z;cases z⟩
 keep:=λi h j st k=>st.at λo e=>k it (by simp) o e
 item:=by
  intro X J L C hc i f s σ H E I q st B;subst J L C;obtain⟨xs,x,n,Q⟩:=B;obtain⟨U,rv,p,hz⟩:=I.list n;obtain⟨u,hu,ru⟩:=rv.get Q;obtain⟨O,T,f2,Y,Z,y⟩:=q it (by simp);refine wpAny_pyNext_list_item st p.isList (x:=u) (by simpa using hu) λj g sb=>?_;have I1:Inv X f σ H { s with heap:=j }:=I.turned (t':=s.toks) (λb o hb e=>(sb.2 b hb).trans e) O T Y Z y;obtain⟨o,e,c,d⟩:=id g;exact⟨u,rfl,A6 (s:={ s with heap:=j }) e c d (by decide) ⟨x,H,I1,ru,⟨rfl,λys hy=>by rw[I.list_inj hy n];exact Q⟩,g,λb hb=>(q b hb).1⟩⟩
 done:=by
  intro X J L C hc i f s σ H E I q st B;subst J L C;obtain⟨xs,n,Q⟩:=B;obtain⟨U,rv,p,hz⟩:=I.list n;obtain⟨O,T,f2,Y,Z,y⟩:=q it (by simp);have hl:=rv.length;exact wpAny_pyNext_list_end (I.ok.hd hc) st p.isList (by simp;lia) λj eb=>⟨rfl,I.turned (t':=s.toks) (λb o hb e=>eb b o hb e) O T Y Z y⟩
 self:=λ_ _ _ _ _ st h=>wpAny_pyIter_listiter st h
def uN{P:Program}{w:World}{K:Vf}{tg:Expr}(a it:Addr):Turn P w K tg (Itt K a) [it] it (λi h=>h.IsTupleIter it a i) where
 mem:=by simp
 obj:=λi h st b hb=>by
  have e:b=it:=by simpa using hb
  subst e;obtain⟨o,e,c,d⟩:=st;exact⟨o,e,λv z=>by rw[d] at z;cases z⟩
 keep:=λi h n st k=>st.at λo e=>k it (by simp) o e
 item:=by
  intro X L O J hc i f s σ H E I y st C;subst L O J;obtain⟨xs,x,q,T⟩:=C;obtain⟨g,rv,p,hz⟩:=I.tuple q;obtain⟨u,hu,ru⟩:=rv.get T;obtain⟨Q,U,f2,Y,Z,B⟩:=y it (by simp);refine wpAny_pyNext_tuple_item st (show s.heap.IsTuple a g.toArray from p) (x:=u) (by simpa using hu) λn j sb=>?_;have I1:Inv X f σ H { s with heap:=n }:=I.turned (t':=s.toks) (λb o hb e=>(sb.2 b hb).trans e) Q U Y Z B;obtain⟨o,e,c,d⟩:=id j;exact⟨u,rfl,A6 (s:={ s with heap:=n }) e c d (by decide) ⟨x,H,I1,ru,⟨rfl,λys hy=>by rw[I.tuple_inj hy q];exact T⟩,j,λb hb=>(y b hb).1⟩⟩
 done:=by
  intro X L O J hc i f s σ H E I y st C;subst L O J;obtain⟨xs,q,T⟩:=C;obtain⟨g,rv,p,hz⟩:=I.tuple q;obtain⟨Q,U,f2,Y,Z,B⟩:=y it (by simp);have hl:=rv.length;exact wpAny_pyNext_tuple_end (I.ok.hd hc) st (show s.heap.IsTuple a g.toArray from p) (by simp;lia) λn eb=>⟨rfl,I.turned (t':=s.toks) (λb o hb e=>eb b o hb e) Q U Y Z B⟩
 self:=λ_ _ _ _ _ st h=>wpAny_pyIter_tupleiter st h
def uO{P:Program}{w:World}{K:Vf}{tg:Expr}(it:Addr)(lo:Int)(n:Nat):Turn P w K tg (Itr lo n) [it] it (λi h=>IsRangeIter h it (lo+(i:Nat) * 1) ((n:Int) - (i:Nat)) 1) where
 mem:=by simp
 obj:=λi h st b hb=>by
  have e:b=it:=by simpa using hb
  subst e
  exact⟨_,st,λv z=>by
   have Z:Data.fields _=Data.cell v:=z;cases Z⟩
 keep:=λi h f st k=>k it (by simp) _ st
 item:=by
  intro X B C y q i p s T H E I g st u;subst B C y;obtain⟨J,L,f2,O,Q,j⟩:=g it (by simp);have W:=Walks.range (prog:=X.prog) (w:=X.w) (I.ok.hd q) it lo 1 n;refine W.item i s _ _ u st λv f U hv c kk=>?_;obtain⟨t,rfl⟩:=hv;have Y:Inv X p T H { s with heap:=f,toks:=U }:=I.turned (λb o hb e=>kk b o (by simpa using hb) e) J L O Q j;refine⟨_,rfl,A6 (s:={ s with heap:=f,toks:=U }) (n := "range_iterator") c rfl rfl (by decide) ⟨.int (lo+i),H,Y,⟨t,?_⟩,⟨rfl,rfl⟩,c,λb hb=>(g b hb).1⟩⟩;rw[Int.mul_one]
 done:=by
  intro X B C y q i p s T H E I g st u;subst B C y;obtain⟨J,L,f2,O,Q,j⟩:=g it (by simp);exact wpAny_pyNext_range_end (I.ok.hd q) st (by have:n<=i:=u;lia) λf eb=>⟨rfl,I.turned (t':=s.toks) (λb o hb e=>eb b o hb e) J L O Q j⟩
 self:=λ_ _ _ _ _ st h=>wpAny_pyIter_rangeiter st h
section
variable {X:Cx} {tg:Expr}
abbrev A7(K:Vf)(T:TE):TI:=λb H R=>T b H λx h=>∃a,x = .ref a/\(∃xs,SqL K h a xs)/\R (Itl K a) h
abbrev Po(K:Vf)(T:TE):TI:=λb H R=>T b H λx h=>∃a,x = .ref a/\(∃xs,SqT K h a xs)/\R (Itt K a) h
def xn{l:Expr}{T:TE}(n:PE X l T):PI X tg l (A7 X.K T):=by
 intro c s j H R I h;refine thn (n c s j H _ I h) λv g ⟨x,z,f,r1,Q⟩=>?_;obtain⟨a,e,⟨xs,u⟩,q⟩:=Q;subst e;cases r1;obtain⟨y,C,p,B⟩:=f.list u;refine UN p.isList ?_;refine⟨g.heap.objs.size,[g.heap.objs.size],_,_,z,rfl,f.kept (t':=g.toks) λb o e=>Zk _ e,yX a _,⟨_,ZG _ rfl,rfl,rfl⟩,λb hb=>?_,q⟩;have e:b=g.heap.objs.size:=by simpa using hb
 subst e;exact f.fpOk (Zd _) (f.hok.fresh (Zd _))
def Ko{l:Expr}{T:TE}(u:PE X l T):PI X tg l (Po X.K T):=by
 intro c s n H R I h;refine thn (u c s n H _ I h) λv f ⟨x,z,g,r1,Q⟩=>?_;obtain⟨a,e,⟨xs,y⟩,q⟩:=Q;subst e;cases r1;obtain⟨j,C,p,B⟩:=g.tuple y;refine UO (show f.heap.IsTuple a j.toArray from p) ?_;refine⟨f.heap.objs.size,[f.heap.objs.size],_,_,z,rfl,g.kept (t':=f.toks) λb o e=>Zk _ e,uN a _,⟨_,ZG _ rfl,rfl,rfl⟩,λb hb=>?_,q⟩;have e:b=f.heap.objs.size:=by simpa using hb
 subst e;exact g.fpOk (Zd _) (g.hok.fresh (Zd _))
def sG{lo h:Int}{T:Nat}(I:Inv X p f H s)(z:-(2 ^ 62)<=lo)(j:lo < 2 ^ 62)(n:-(2 ^ 62)<=h)(h4:h < 2 ^ 62)
  (q:R (Itr lo (h - lo).toNat) H):wpAny (model X.prog X.w) X.A (pyIter (.ref s.heap.objs.size)) (PIE X p f tg R) E { s with heap:=s.heap.push { cls:=.type "range", data:=.fields #[.int lo t,.int h u,.int 1 v] },toks:=T }:=by
 refine wpAny_pyIter_range (IsRange.new ..) (small_one z j n h4) ?_;have c:Inv X p f H { s with heap:=s.heap.push { cls:=.type "range", data:=.fields #[.int lo t,.int h u,.int 1 v] },toks:=T }:=I.kept λb o e=>Zk _ e
 refine⟨(s.heap.push { cls:=.type "range", data:=.fields #[.int lo t,.int h u,.int 1 v] }).objs.size,[(s.heap.push { cls:=.type "range", data:=.fields #[.int lo t,.int h u,.int 1 v] }).objs.size],_,_,H,rfl,
  c.kept (t':=T) λb o e=>Zk _ e,uO _ lo (h - lo).toNat,?_,λb hb=>?_,q⟩
 ·have g:lo+((0:Nat):Int) * 1=lo:=by simp
  have y:(((h - lo).toNat:Nat):Int) - ((0:Nat):Int)=Builtin.Range.rangeSize lo h 1:=by rw[Ua];split <;> lia
  show IsRangeIter _ _ (lo+((0:Nat):Int) * 1) ((((h - lo).toNat:Nat):Int) - ((0:Nat):Int)) 1;rw[g,y];exact ZG _ rfl
 ·have e:b=(s.heap.push { cls:=.type "range", data:=.fields #[.int lo t,.int h u,.int 1 v] }).objs.size:=by simpa using hb
  subst e;exact c.fpOk (Zd _) (c.hok.fresh (Zd _))
abbrev Je(T:TA):TI:=λb H R=>T b H λv h=>∃j:Int,v=[.int j]/\-(2 ^ 62)<=j/\j < 2 ^ 62/\R (Itr 0 j.toNat) h
abbrev Jf(T:TA):TI:=λb H R=>T b H λv h=>∃i j:Int,v=[.int i,.int j]/\(-(2 ^ 62)<=i/\i < 2 ^ 62/\-(2 ^ 62)<=j/\j < 2 ^ 62)/\R (Itr i (j - i).toNat) h
def yY(n:Gl X "range")(u:X.mg "range" = aD)(y:PA X [a] T)(hs:Ug [a] X.env=[(aT,eval a X.env)]:=by rfl):PI X tg (.Call (.Name "range" p) [a] [] c) (Je T):=by
 intro b s f H R I h;refine Call_ (iK I n u boot_range (WH (thn (y c b s f H _ I h) λU B ⟨z,C,g,r1,Q⟩=>?_) hs rfl));obtain⟨j,e,Q,o,q⟩:=Q;subst e;cases r1 with
 |cons r v=>
  cases v;obtain⟨t,rfl⟩:=r;exact call_range_1 (sG g (by lia) (by lia) Q o (by simpa using q))
def yZ(v:Gl X "range")(B:X.mg "range" = aD)(E:PA X [a,b] T)(hs:Ug [a,b] X.env=[(aT,eval a X.env),(aT,eval b X.env)]:=by rfl)(f:Ug [b] X.env=[(aT,eval b X.env)]:=by rfl) :
  PI X tg (.Call (.Name "range" p) [a,b] [] g) (Jf T):=by
 intro c s o H R I h;refine Call_ (iK I v B boot_range (WH (thn (E g c s o H _ I h) λU O ⟨L,Z,u,r1,Q⟩=>?_) (by rw[hs,f]) (by rw[f];rfl)));obtain⟨i,j,e,⟨Q,z,C,y⟩,q⟩:=Q;subst e;cases r1 with
 |cons r n=>
  cases n with
  |cons J n=>
   cases n;obtain⟨t,rfl⟩:=r;obtain⟨Y,rfl⟩:=J;exact call_range_2 (sG u Q z C y q)
abbrev Pp(wi:TI)(g:TG)(T:TS):TS:=λD b H=>wi b H λJ o=>∃W:Nat->Nat->St->Hp->Prop,(∃m,W 0 m b o)/\∀i m b H,W i m b H ->
 (J.stop i H/\D.nx b H)\/(J.go i H/\∃N:St->Hp->Prop,(∀c h,N c h->∃j,j < m/\W (i+1) j c h)/\∀x h,J.yld i H x h->g x b h λf n=>T { D with nx:=N,ct:=N,bk:=D.nx } f n)
abbrev mE(f:List Addr)(h:Heap):List (Addr × Obj):=f.filterMap λb=>(h.get? b).map λo=>(b,o)
def fu(hb:b ∈ f)(e:h.get? b=aa o):(b,o) ∈ mE f h:=YI.mpr ⟨b,hb,by rw[e];rfl⟩
def y7(c:p ∈ mE f h):p.1 ∈ f/\h.get? p.1=aa p.2:=by
 obtain⟨b,hb,e⟩:=YI.mp c;cases q:h.get? b with
 |none=>rw[q] at e;cases e
 |some o=>
  rw[q] at e;have E:(b,o)=p:=Option.some.inj e;subst E;exact⟨hb,q⟩
def Inv.pinned(I:Inv X c g H s)(u:∀b ∈ f,ie X c H b)(n:∀b ∈ f,∃o,s.heap.get? b=aa o/\∀v,o.data ≠ .cell v):Inv X (c++mE f s.heap) g H s:=
 I.pins_of λp j=>(ZJ.mp j).elim (λz=>I.pin p (ZA _ z)) λz=>by
  obtain⟨hb,e⟩:=y7 z;obtain⟨y,h,q,_⟩:=u p.1 hb;obtain⟨o,E,d⟩:=n p.1 hb;rw[e] at E;cases E;exact⟨e,y,h,q,d⟩
def Inv.unpinned(I:Inv X (b++pl) c H s):Inv X b c H s:=I.pins_of λp h=>I.pin p (ZA _ (Yx _ h))
def Kq(O:PassesOwn (model X.prog X.w) X.A X.env X.xe)(hc:X.calm=aN)(hi:PI X tg C wi)(hg:PG X tg g)(hb:PSs X body tb)
  (hs:∀x,VW C X.env x=pure x:=by intro _;rfl):PS X (.For tg C body [] pos) (Pp wi g tb):=by
 intro p s σ H D I h;refine wpAny_For (thn (hi p s σ H _ I h) λv s1 h1=>thn h1 λitv s2 h2=>?_) hs;obtain⟨it,L,tn,J,H2,e,I2,T,st2,f2,W,⟨m0,w0⟩,Z⟩:=h2;subst e;have q:∀ {H':Hp},(∀b ∈ L,H' b=aD)->∀b ∈ L,ie X p H' b:=λhn b hb=>⟨hn b hb,(f2 b hb).2⟩;refine codeAny_forLoop_any (λn s'=>∃i z H',Inv X p z H' s'/\tn i s'.heap/\(∀b ∈ L,H' b=aD)/\W i n z H') ?_ m0 ⟨0,σ,H2,I2,st2,λb hb=>(f2 b hb).1,w0⟩;rintro n s3 ⟨i,y,H3,I3,U,fr3,w3⟩;rcases Z i n y H3 w3 with ⟨stop,qn⟩ |⟨go,N,hN,step⟩
 ·refine UK O (thn (T.done X rfl rfl rfl hc i p s3 y H3 X.xe I3 (q fr3) U stop) λr s4 ⟨hr,I4⟩=>?_);subst hr;exact Uz ⟨y,H3,I4,qn⟩
 ·refine UK O (thn (T.item X rfl rfl rfl hc i p s3 y H3 X.xe I3 (q fr3) U go) λr s4 ⟨u,hr,h4⟩=>?_);subst hr;refine UK O (thn h4 λ_ s5 ⟨x,H5,I5,r5,y5,E,fr5⟩=>?_);have I5':=I5.pinned (q fr5) (T.obj _ _ E);refine UK O (thn (hg _ s5 y H5 x u _ I5' r5 (step x H5 y5)) λ_ s6 ⟨σ6,H6,I6,q6⟩=>?_);refine UK O (thn (hb _ s6 σ6 H6 _ I6 q6) λf s7 Q=>?_)
  have again:∀ {c:St} {B:Hp},Inv X (p++mE L s5.heap) c B s7->N c B->∃m,m < n/\∃i z H',Inv X p z H' s7/\tn i s7.heap/\(∀b ∈ L,H' b=aD)/\W i m z H':=λ{c B} j Y=>by
   obtain⟨m',hm,w7⟩:=hN c B Y;refine⟨m',hm,i+1,c,B,j.unpinned,T.keep _ _ _ E λb hb o e=>(j.pin (b,o) (ZA _ (ZA _ (fu hb e)))).1,λb hb=>?_,w7⟩;obtain⟨o,e,d⟩:=T.obj _ _ E b hb;exact(j.pin (b,o) (ZA _ (ZA _ (fu hb e)))).2.1
  cases f with
  |next=>obtain⟨c,B,j,Y⟩:=Q;exact again j Y
  |cont=>obtain⟨c,B,j,Y⟩:=Q;exact again j Y
  |brk=>obtain⟨c,B,j,Q⟩:=Q;exact⟨c,B,j.unpinned,Q⟩
  |ret v=>obtain⟨x7,c,B,j,r7,Q⟩:=Q;exact⟨x7,c,B,j.unpinned,r7,Q⟩
end
@[inline]abbrev R2:=V->V->Hp->VK->Prop
abbrev OpR(X:Cx)(f:Value->Value->Sem Value)(r:R2):Prop:=
 ∀ (p:List (Addr × Obj)) (s:Shared) (b:St) (H:Hp) (x y:V) (v u:Value) (Q:VK),Inv X p b H s->aJ x v->aJ y u->r x y H Q ->
  wpAny (model X.prog X.w) X.A (f v u) (EP X p b Q) X.xe s
abbrev UnR(X:Cx)(f:Value->Sem Value)(r:V->Hp->VK->Prop):Prop:=
 ∀ (p:List (Addr × Obj)) (s:Shared) (b:St) (H:Hp) (x:V) (v:Value) (Q:VK),Inv X p b H s->aJ x v->r x H Q ->
  wpAny (model X.prog X.w) X.A (f v) (EP X p b Q) X.xe s
abbrev aV(X:Cx)(f:Value)(r:List V->Hp->VK->Prop):Prop:=
 ∀ (p:List (Addr × Obj)) (s:Shared) (b:St) (H:Hp) (xs:List V) (u:List Value) (Q:VK),Inv X p b H s->aO xs u->r xs H Q ->
  wpAny (model X.prog X.w) X.A (call f u) (EP X p b Q) X.xe s
abbrev Si(X:Cx)(r:V->Hp->(Bool->Hp->Prop)->Prop):Prop:=
 ∀ (p:List (Addr × Obj)) (s:Shared) (b:St) (H:Hp) (x:V) (v:Value) (Q:Bool->Hp->Prop),Inv X p b H s->aJ x v->r x H Q ->
  wpAny (model X.prog X.w) X.A (truthy v) (TP X p b Q) X.xe s
abbrev tOp(r:R2)(T c:TE):TE:=λb H Q=>T b H λx f=>c b f λy h=>r x y h Q
abbrev tUn(r:V->Hp->VK->Prop)(T:TE):TE:=λb H Q=>T b H λx h=>r x h Q
abbrev rI(C:Int->Int->Prop)(g:Int->Int->V):R2:=λx y H Q=>∃i j,x = .int i/\y = .int j/\C i j/\Q (g i j) H
abbrev rI0(g:Int->Int->V):R2:=λx y H Q=>∃i j,x = .int i/\y = .int j/\Q (g i j) H
abbrev rU(g:Int->V):V->Hp->VK->Prop:=λx H Q=>∃i,x = .int i/\Q (g i) H
section
variable {X:Cx} {a b c:Expr} {ta tb tc:TE} {pos:Pos}
def Kr(T:PE X a ta)(hb:PE X b tb){p:List (Addr × Obj)}{s:Shared}{g:St}{H:Hp}{R:V->V->Hp->Prop}(I:Inv X p g H s)
  (h:ta g H λx z=>tb g z λy j=>R x y j) {Q:Value->Shared->Prop} {f:Value->Value->Sem Value}
  (L:∀v u q x y j,Inv X p g j q->aJ x v->aJ y u->R x y j->wpAny (model X.prog X.w) X.A (f v u) Q X.xe q) :
  wpAny (model X.prog X.w) X.A (eval a X.env) (λv n=>wpAny (model X.prog X.w) X.A (eval b X.env) (λu o=>wpAny (model X.prog X.w) X.A (f v u) Q X.xe o) X.xe n) X.xe s:=by
 refine thn (T p s g H _ I h) λv E ⟨x,z,B,r1,O⟩=>?_;refine thn (hb p E g z _ B O) λu q ⟨y,j,C,r2,J⟩=>?_;exact L v u q x y j C r1 r2 J
def A8{op:W5}{r:R2}(n:OpR X (VG op) r)(o:PE X a ta)(hb:PE X b tb):PE X (.BinOp a op b pos) (tOp r ta tb):=by
 intro p s f H Q I h;exact wpAny_BinOp (Kr o hb I h λv u B x y g z j C q=>n p B f g x y v u Q z j C q)
def Jg(j:UnR X (unaryOp op) r)(n:PE X a ta):PE X (.UnaryOp op a pos) (tUn r ta):=by
 intro p s f H Q I h;exact UnaryOp_ (thn (n p s f H _ I h) λv o ⟨x,q,g,r1,u⟩=>j p o f q x v Q g r1 u)
def opI{f:Value->Value->Sem Value}{C:Int->Int->Prop}{g:Int->Int->Int}
  (rule:∀ (i j:Int) (t u:Tok) (s:Shared) (Q:Value->Shared->Prop) (E:Value->Shared->Prop),C i j->Q (.int (g i j) s.toks) { s with toks:=s.toks+1 }->wpAny (model X.prog X.w) X.A (f (.int i t) (.int j u)) Q E s) :
  OpR X f (rI C λi j=>.int (g i j)):=by
 intro p s B H x y v u Q I n z h;obtain⟨i,j,rfl,rfl,o,q⟩:=h;obtain⟨t,rfl⟩:=n;obtain⟨T,rfl⟩:=z;exact rule i j t T s _ _ o ⟨.int (g i j),H,I.tok _,⟨_,rfl⟩,q⟩
def Pq{f:Value->Value->Sem Value}{g:Int->Int->Int}
  (rule:∀ (i j:Int) (t u:Tok) (s:Shared) (Q:Value->Shared->Prop) (E:Value->Shared->Prop),Q (.int (g i j) s.toks) { s with toks:=s.toks+1 }->wpAny (model X.prog X.w) X.A (f (.int i t) (.int j u)) Q E s) :
  OpR X f (rI0 λi j=>.int (g i j)):=by
 intro p s z H x y v u Q I n o h;obtain⟨i,j,rfl,rfl,q⟩:=h;obtain⟨t,rfl⟩:=n;obtain⟨T,rfl⟩:=o;exact rule i j t T s _ _ ⟨.int (g i j),H,I.tok _,⟨_,rfl⟩,q⟩
def E6{f:Value->Value->Sem Value}{g:Int->Int->Bool}
  (rule:∀ (i j:Int) (t u:Tok) (s:Shared) (Q:Value->Shared->Prop) (E:Value->Shared->Prop),Q (.bool (g i j)) s->wpAny (model X.prog X.w) X.A (f (.int i t) (.int j u)) Q E s) :
  OpR X f (rI0 λi j=>.bl (g i j)):=by
 intro p s z H x y v u Q I n o h;obtain⟨i,j,rfl,rfl,q⟩:=h;obtain⟨t,rfl⟩:=n;obtain⟨T,rfl⟩:=o;exact rule i j t T s _ _ ⟨.bl (g i j),H,I,rfl,q⟩
abbrev Sj(i j:Int):Prop:=0<=j/\j<=1000000/\i.natAbs < 2 ^ 64
abbrev Pr(i j:Int):Prop:=(-(2 ^ 64) < i/\i < 2 ^ 64)\/(-(2 ^ 64) < j/\j < 2 ^ 64)
def Pr.ok{i j:Int}(h:Pr i j):IntMulOk i j:=by
 rcases h with ⟨g,f⟩ |⟨g,f⟩
 ·exact .of_left (intBits_le_64 g f)
 ·exact .of_right (intBits_le_64 g f)
def Ks:OpR X (VG .Add) (rI0 λi j=>.int (i+j)):=Pq λ_ _ _ _ _ _ _ q=>add_int q
def Kt:OpR X (VG .Sub) (rI0 λi j=>.int (i - j)):=Pq λ_ _ _ _ _ _ _ q=>sub_int q
def Ku:OpR X (VG .Mult) (rI Pr λi j=>.int (i * j)):=opI λ_ _ _ _ _ _ _ h q=>mul_int q h.ok
def Kv:OpR X (VG .Mod) (rI (λ_ j=>0 < j) λi j=>.int (i % j)):=opI λi j _ _ _ _ _ h q=>by
 have f:(0:Int) < j:=h;exact mod_int' (by lia) (by rw[Int.fmod_eq_emod_of_nonneg i (by lia)];exact q)
def Kw:OpR X (VG .Pow) (rI Sj λi j=>.int (i ^ j.toNat)):=opI λ_ _ _ _ _ _ _ h q=>pow_int_small h.1 h.2.1 h.2.2 q
def unI{f:Value->Sem Value}{g:Int->Int}
  (rule:∀ (i:Int) (t:Tok) (s:Shared) (Q:Value->Shared->Prop) (E:Value->Shared->Prop),Q (.int (g i) s.toks) { s with toks:=s.toks+1 }->wpAny (model X.prog X.w) X.A (f (.int i t)) Q E s) :
  UnR X f (rU λi=>.int (g i)):=by
 intro p s n H x v Q I j h;obtain⟨i,rfl,q⟩:=h;obtain⟨t,rfl⟩:=j;exact rule i t s _ _ ⟨.int (g i),H,I.tok _,⟨_,rfl⟩,q⟩
def A9:UnR X (unaryOp .USub) (rU λi=>.int (-i)):=unI λ_ _ _ _ _ q=>neg_int q
end
abbrev Sk:V->V->Bool
 |.non,.non=>aN |.non,.int _=>aN |.int _,.non=>aN |.non,.bl _=>aN |.bl _,.non=>aN |.non,.str _=>aN |.str _,.non=>aN
 |.int _,.int _=>aN |.bl _,.bl _=>aN |.str _,.str _=>aN |.byt _,.byt _=>aN
 |.int _,.str _=>aN |.str _,.int _=>aN |.bl _,.str _=>aN |.str _,.bl _=>aN
 |_,_=>aT
abbrev rNe:R2:=λx y H Q=>Sk x y=aN/\Q (.bl (!decide (x=y))) H
def E7{i j:Int}:decide (V.int i=V.int j)=(i == j):=by
 rw[Yi];simp
def Kx:decide (V.bl i=V.bl j)=(i == j):=by
 rw[Yi];simp
def E8:decide (V.str i=V.str j)=(i == j):=by
 rw[Yi];simp
def E9:decide (V.byt i=V.byt j)=(i.toList == j.toList):=by
 rw[Yi];cases i;cases j;simp
section
variable {X:Cx} {a b c:Expr} {ta tb tc:TE} {pos:Pos}
def bT(I:Inv X p f H s)(q:Q (.bl k) H)(e:k=g):EP X p f Q (.bool g) s:=by
 subst e;exact⟨.bl k,H,I,rfl,q⟩
def Ps:OpR X (VQ .NotEq) rNe:=by
 intro p s n H x y v u Q I g f h;obtain⟨hs,q⟩:=h;cases x with
 |non=>
  cases g;cases y with
  |non=>cases f;exact PySem.EqNone.ne_none_none (bT I q (by simp))
  |bl j=>cases f;exact PySem.EqNone.ne_none_bool (bT I q (by simp))
  |int j=>obtain⟨T,rfl⟩:=f;exact PySem.EqNone.ne_none_int (bT I q (by simp))
  |str j=>obtain⟨T,rfl⟩:=f;exact PySem.EqNone.ne_none_str (bT I q (by simp))
  |_=>exact absurd (show aT=aN from hs) Zg
 |bl i=>
  cases g;cases y with
  |non=>cases f;exact PySem.EqNone.ne_bool_none (bT I q (by simp))
  |bl j=>cases f;exact ne_bool (bT I q (congrArg not Kx))
  |str j=>obtain⟨T,rfl⟩:=f;exact PySem.EqMixed.ne_bool_str (bT I q (by simp))
  |_=>exact absurd (show aT=aN from hs) Zg
 |int i=>
  obtain⟨t,rfl⟩:=g;cases y with
  |non=>cases f;exact PySem.EqNone.ne_int_none (bT I q (by simp))
  |int j=>obtain⟨T,rfl⟩:=f;exact ne_int (bT I q (congrArg not E7))
  |str j=>obtain⟨T,rfl⟩:=f;exact PySem.EqMixed.ne_int_str (bT I q (by simp))
  |_=>exact absurd (show aT=aN from hs) Zg
 |str i=>
  obtain⟨t,rfl⟩:=g;cases y with
  |non=>cases f;exact PySem.EqNone.ne_str_none (bT I q (by simp))
  |bl j=>cases f;exact PySem.EqMixed.ne_str_bool (bT I q (by simp))
  |int j=>obtain⟨T,rfl⟩:=f;exact PySem.EqMixed.ne_str_int (bT I q (by simp))
  |str j=>obtain⟨T,rfl⟩:=f;exact ne_str (bT I q (congrArg not E8))
  |_=>exact absurd (show aT=aN from hs) Zg
 |byt i=>
  obtain⟨t,rfl⟩:=g;cases y with
  |byt j=>obtain⟨T,rfl⟩:=f;exact PySem.W.ne_bytes (bT I q (congrArg not E9))
  |_=>exact absurd (show aT=aN from hs) Zg
 |_=>cases y <;> exact absurd (show aT=aN from hs) Zg
def Pt:OpR X (VQ .Lt) (rI0 λi j=>.bl (decide (i < j))):=E6 λ_ _ _ _ _ _ _ q=>lt_int q
def Pu:OpR X (VQ .LtE) (rI0 λi j=>.bl (decide (i<=j))):=E6 λ_ _ _ _ _ _ _ q=>le_int q
def Pv:OpR X (VQ .Gt) (rI0 λi j=>.bl (decide (j < i))):=E6 λ_ _ _ _ _ _ _ q=>gt_int q
def Pw:OpR X (VQ .GtE) (rI0 λi j=>.bl (decide (j<=i))):=E6 λ_ _ _ _ _ _ _ q=>ge_int q
def Ky:OpR X (VQ .Is) (λx y H Q=>y = .non/\Q (.bl (decide (x = .non))) H):=by
 intro p s j H x y v u Q I f g h;obtain⟨rfl,q⟩:=h;cases g;refine is_none_gen (bT I q ?_)
 cases x <;> first
  |(cases f;rfl)
  |(obtain⟨t,rfl⟩:=f;rfl)
def Fa:OpR X (VQ .IsNot) (λx y H Q=>y = .non/\Q (.bl (!decide (x = .non))) H):=by
 intro p s j H x y v u Q I f g h;obtain⟨rfl,q⟩:=h;cases g;refine isnot_none_gen (bT I q ?_)
 cases x <;> first
  |(cases f;rfl)
  |(obtain⟨t,rfl⟩:=f;rfl)
def Fb{op:CmpOp}{r:R2}(n:OpR X (VQ op) r)(o:PE X a ta)(hb:PE X b tb)(E:VF op b=aT):PE X (.Compare a [op] [b] pos) (tOp r ta tb):=by
 intro p s f H Q I h;exact wpAny_Compare1 (Kr o hb I h λv u B x y g z j C q=>n p B f g x y v u Q z j C q) E
abbrev Jh(t:TE):TT:=λf H Q=>t f H λx h=>∃k,x = .bl k/\Q k h
def xo(C:OpR X (VQ op) r)(U:PE X a ta)(hb:PE X b tb)(J:VF op b=aT):PT X (.Compare a [op] [b] pos) (Jh (tOp r ta tb)):=by
 intro p s f H Q I h
 refine wpAny_isTrue_Compare1 (thn (U p s f H _ I h) λv q ⟨x,Z,g,r1,L⟩=>thn (hb p q f Z _ g L) λu B ⟨y,O,o,r2,E⟩=>
  thn (C p B f O x y v u _ o r1 r2 E) λc s3 ⟨z,n,j,Y,k,e,T⟩=>?_) J
 subst e;cases Y;exact UT ⟨n,j,T⟩
abbrev uQ(r o:R2)(ta tb tc:TE):TE:=λf H Q=>ta f H λx p=>tb f p λy g=>r x y g λz h=>∃k,z = .bl k ∧
 (if k=aN then tc f h λj n=>o y j n Q else Q (.bl aT) h)
def Ba(ho:OpR X (VQ op) r)(g:OpR X (VQ o) r')(ha:PE X a ta)(hb:PE X b tb)(J:PE X c tc)
  (hm:lastMarks [op,o] [b,c]=aT:=by with_unfolding_all rfl):PE X (.Compare a [op,o] [b,c] pos) (uQ r r' ta tb tc):=by
 intro p s f H Q I h
 refine Compare_chain (thn (ha p s f H _ I h) λv U ⟨x,H1,B,r1,q1⟩=>chain_link (thn (hb p U f H1 _ B q1) λu Y ⟨y,H2,O,r2,q2⟩=>
  thn (ho p Y f H2 x y v u _ O r1 r2 q2) λd s3 ⟨z,n,j,r3,k,e,q⟩=>?_)) hm
 subst e;cases r3;refine UT ?_;cases k with
 |false=>exact ite_ff ⟨.bl aT,n,j,rfl,q⟩
 |true=>exact ite_tt (chain_last (thn (J p s3 f n _ j q) λw' E ⟨Z,T,I4,C,L⟩=>g p E f T y Z u w' Q I4 r2 C L))
def Bb(ho:OpR X (VQ op) r)(g:OpR X (VQ o) r')(ha:PE X a ta)(hb:PE X b tb)(L:PE X c tc)
  (hm:lastMarks [op,o] [b,c]=aT:=by with_unfolding_all rfl):PT X (.Compare a [op,o] [b,c] pos) (Jh (uQ r r' ta tb tc)):=by
 intro p s f H Q I h
 refine isTrue_chain (thn (ha p s f H _ I h) λv s1 ⟨x,H1,B,r1,q1⟩=>test_link (thn (hb p s1 f H1 _ B q1) λu s2 ⟨y,H2,U,r2,q2⟩=>
  thn (ho p s2 f H2 x y v u _ U r1 r2 q2) λd s3 ⟨z,n,j,r3,k,e,q⟩=>?_)) hm
 subst e;cases r3;refine UT ?_;cases k with
 |false=>
  obtain⟨k',e',q'⟩:=q;cases e';exact ite_ff ⟨n,j,q'⟩
 |true=>
  refine ite_tt (test_last (thn (L p s3 f n _ j q) λw' E ⟨Z,Y,I4,C,T⟩=>thn (g p E f Y y Z u w' _ I4 r2 C T) λd' s5 ⟨z2,O,J,r5,k2,e2,q5⟩=>?_));subst e2;cases r5;exact UT ⟨O,J,q5⟩
abbrev Fc(K:Vf)(x:V)(H:Hp)(k:Bool):Prop:=
 match x with
 |.non=>k=aT
 |.bl b=>k=b
 |.int i=>k=(i != 0)
 |.str y=>y.length<=sizeLine/\k=((y.length:Int) != 0)
 |.byt y=>y.size<=sizeLine/\k=((y.size:Int) != 0)
 |.ref p=>(∃xs,SqL K H p xs/\k = !xs.isEmpty)\/(∃xs,SqT K H p xs/\k = !xs.isEmpty)\/∃f,H p=aa (.dK f)/\k = !f.isEmpty
 |_=>False
def uR{g:Type}{f:List (g × V)}{vs:List (g × Value)}(r:KV f vs):(!vs.isEmpty) = !f.isEmpty:=by
 cases r <;> rfl
def mF{xs:List V}{I:List Value}(r:aO xs I):(!I.toArray.isEmpty) = !xs.isEmpty:=by
 cases r <;> simp
def jR:(sizeLine:Nat) < 2 ^ 63:=by rw[Ue];decide
def Kz:Si X (λx H Q=>∃k,Fc X.K x H k/\Q k H):=by
 intro u s J H x v Q I j h;obtain⟨k,e,q⟩:=h;have L:=jR;have hs:sizeLine=16777216:=Ue;cases x with
 |non=>
  cases j;have E:k=aT:=e;subst E;exact truthy_none ⟨H,I,q⟩
 |bl b=>
  cases j;have E:k=b:=e;subst E;exact UT ⟨H,I,q⟩
 |int i=>
  obtain⟨t,rfl⟩:=j;have E:k=(i != 0):=e;subst E;exact PySem.P.truthy_int ⟨H,I,q⟩
 |str y=>
  obtain⟨t,rfl⟩:=j;obtain⟨C,E⟩:y.length<=sizeLine/\k=((y.length:Int) != 0):=e;subst E;exact PySem.P.truthy_str (by lia) ⟨H,I.tok _,q⟩
 |byt y=>
  obtain⟨t,rfl⟩:=j;obtain⟨C,E⟩:y.size<=sizeLine/\k=((y.size:Int) != 0):=e;subst E;exact PySem.W.truthy_bytes (by lia) ⟨H,I.tok _,q⟩
 |ref p=>
  cases j;have E:(∃xs,SqL X.K H p xs/\k = !xs.isEmpty)\/(∃xs,SqT X.K H p xs/\k = !xs.isEmpty)\/∃f,H p=aa (.dK f)/\k = !f.isEmpty:=e;rcases E with ⟨xs,n,E⟩ |⟨xs,n,E⟩ |⟨f,n,E⟩
  ·subst E;obtain⟨o,r,pl,z⟩:=I.list n;have g:=r.length;exact wpAny_truthy_list pl.isList (by simp only[Zm];lia) ⟨H,I.tok _,by rw[mF r];exact q⟩
  ·subst E;obtain⟨o,r,pl,z⟩:=I.tuple n;have g:=r.length;exact truthy_tuple pl (by simp only[Zm];lia) ⟨H,I.tok _,by rw[mF r];exact q⟩
  ·subst E;obtain⟨z,B,vs,r,m⟩:f.length<=sizeLine/\(p == Ul)=aT/\∃vs,KV f vs/\s.heap.DictOf (bE X.prog X.w) p vs:=I.hok p _ n;have g:f.length=vs.length:=Paired.length r;exact wpAny_truthy_dict B m (by lia) ⟨H,I.tok _,by rw[uR r];exact q⟩
 |_=>exact(show False from e).elim
def Bc(o:PE X a ta)(u:∀f,isTrue a X.env f=(do let v <-f;standAt a.pos;holding [v] (truthy v))) :
  PT X a (λg H Q=>ta g H λx j=>∃k,Fc X.K x j k/\Q k j):=by
 intro p s g H Q I h;exact isTrue_plain (thn (o p s g H _ I h) λv q ⟨x,y,n,r1,z⟩=>Kz p q g y x v Q n r1 z) (u _)
def uS:OpR X (VG .Add) (λx y H Q=>∃i j,x = .str i/\y = .str j/\i.length+j.length<=sizeLine/\Q (.str (i++j)) H):=by
 intro p s o H x y v u Q I f n h;obtain⟨i,j,rfl,rfl,g,q⟩:=h;obtain⟨t,rfl⟩:=f;obtain⟨T,rfl⟩:=n;exact add_str (λT z=>⟨.str (i++j),H,I.tok _,⟨_,rfl⟩,q⟩) g
def cI(r:aO [x] U):∃u,U=[u]/\aJ x u:=by
 cases r with
 |cons r1 r2=>cases r2;exact⟨_,rfl,r1⟩
def xq(r:aO [x,y] U):∃u w',U=[u,w']/\aJ x u/\aJ y w':=by
 cases r with
 |cons r1 r2=>
  cases r2 with
  |cons f g=>cases g;exact⟨_,_,rfl,r1,f⟩
def y8(g:X.calm=aN):aV X (.builtin "max") (λxs H Q=>∃i j,xs=[.int i,.int j]/\Q (.int (if j > i then j else i)) H):=by
 intro p s n H xs U Q I r h;obtain⟨i,j,rfl,q⟩:=h;obtain⟨u,v,rfl,⟨t,rfl⟩,⟨y,rfl⟩⟩:=xq r;refine max_two_ints (I.ok.hd g) λo T k=>⟨_,H,I.kept k,?_,q⟩;by_cases f:j > i
 ·rw[if_pos f,if_pos f];exact⟨_,rfl⟩
 ·rw[if_neg f,if_neg f];exact⟨_,rfl⟩
def y9(g:X.calm=aN):aV X (.builtin "min") (λxs H Q=>∃i j,xs=[.int i,.int j]/\Q (.int (if j < i then j else i)) H):=by
 intro p s n H xs U Q I r h;obtain⟨i,j,rfl,q⟩:=h;obtain⟨u,v,rfl,⟨t,rfl⟩,⟨y,rfl⟩⟩:=xq r;refine min_two_ints (I.ok.hd g) λo T k=>⟨_,H,I.kept k,?_,q⟩;by_cases f:j < i
 ·rw[if_pos f,if_pos f];exact⟨_,rfl⟩
 ·rw[if_neg f,if_neg f];exact⟨_,rfl⟩
def zc:aV X (.type "int") (λxs H Q=>(∃i,xs=[.int i]/\Q (.int i) H)\/∃k,xs=[.bl k]/\Q (.int (if k then 1 else 0)) H):=by
 intro p s f H xs U Q I r h;rcases h with ⟨i,rfl,q⟩ |⟨k,rfl,q⟩
 ·obtain⟨u,rfl,t,rfl⟩:=cI r;exact call_int_int ⟨.int i,H,I,⟨_,rfl⟩,q⟩
 ·obtain⟨u,rfl,r1⟩:=cI r;cases r1;exact call_int_bool ⟨.int (if k then 1 else 0),H,I.tok _,⟨_,rfl⟩,q⟩
end
structure ObjM(h:Heap)(x dx C:Addr)(mA:Str->Option Value):Prop where
 obj:h.get? x=aa (Vo C dx)
 ns:h.Ns1 dx mA
 ne:dx ≠ x
def zd{h:Heap}{c:Addr}{f:Str->Option Value}(n:h.Ns1 c f):∃O,h.get? c=aa O/\∀name,Vw name O=aa (f name):=by
 obtain⟨o,E,B,g,hd,v,_,p⟩:=n;refine⟨o,g,λname=>?_⟩;have e:=p name;unfold nsFind findBy at e;rw[<-Array.find?_toList] at e;unfold Vw;rw[hd];dsimp only;split
 ·rename_i y q;rw[q] at e;exact congrArg aa e
 ·rename_i q;rw[q] at e
  have a:E.toList.any (·.refKey)=aT:=by
   rw[List.any_eq_false];intro y u;obtain⟨z,t,b⟩:=v y (Xz.mp u);simp[DictEntry.refKey,b]
  have j:¬ E.toList.any (·.refKey)=aN:=by rw[a];exact Zg
  rw[if_neg j];exact congrArg aa e
def ObjM.look(I:ObjM h x c C b):∃o,PySem.W.InstAt h x (Vo C c) C (aa o)/\∀name,Vw name o=aa (b name):=
 let ⟨o,ho,hl⟩:=zd I.ns
 ⟨o,⟨I.obj,rfl,rfl,ho⟩,hl⟩
def yV.some_of(r:yV (aa v) o):∃u,o=aa u/\aJ v u:=by
 cases o with
 |none=>exact(show False from r).elim
 |some u=>exact⟨u,rfl,r⟩
section
variable {P:Program} {w:World} {H H':Hp} {h h':Heap} {a C dx:Addr} {fs fs':List (Str × V)}
def Fd(hok:HOk P w H h)(e:H a=aa (.ins C dx fs)):∃b,ObjM h a dx C b/\(∀f,yV (fs.lookup f) (b f))/\PySem.Within b (fs.map (·.1))/\fs.length<=1000/\H dx=aa (.own a):=by
 obtain⟨d,z,ne,ob,b,n,r,q⟩:=(show bv P w H h a (.ins C dx fs) from hok a _ e);exact⟨b,⟨ob,n,ne⟩,r,q,z,d⟩
end
structure Cls(K:Vf)(C:Addr):Prop where
 pg:VA K C Str.empty=aN
 hd:PySem.W.hasDictIn K C=aN
 po:PySem.W.plainOver K C=aN
 sa:Vl K (.ref C) "__setattr__" = aa (aa (.builtin "object.__setattr__"))
def Cls.get{K:Vf}{C:Addr}(c:Cls K C)(f:Str):VA K C f=aN:=c.pg
section
variable {X:Cx} {pins:List (Addr × Obj)} {σ:St} {H:Hp} {s:Shared} {A:Around} {E:Value->Shared->Prop} {Q:Value->Shared->Prop} {c:Value} {b:Bool}
inductive TyOf(K:Vf)(H:Hp):V->Value->Prop where
 |non:TyOf K H .non (.type "NoneType")
 |bl (x:Bool):TyOf K H (.bl x) (.type "bool")
 |int (i:Int):TyOf K H (.int i) (.type "int")
 |str (x:Str):TyOf K H (.str x) (.type "str")
 |flt (x:UInt64):TyOf K H (.flt x) (.type "float")
 |lst {a:Addr} {xs:List V} (e:H a=aa (.lst xs)):TyOf K H (.ref a) (.type "list")
 |frz {a:Addr} {o:Obj} {xs:List V} (e:H a=aa (.frz o (.lst xs))):TyOf K H (.ref a) (.type "list")
 |tup {a:Addr} {xs:List V} (e:H a=aa (.tup xs)):TyOf K H (.ref a) (.type "tuple")
 |dK {a:Addr} {kvs:List (Key × V)} (e:H a=aa (.dK kvs)):TyOf K H (.ref a) (.type "dict")
 |dT {a:Addr} {kvs:List (List Key × V)} (e:H a=aa (.dT kvs)):TyOf K H (.ref a) (.type "dict")
 |ins {a C dx:Addr} {fs:List (Str × V)} (e:H a=aa (.ins C dx fs)) (cl:Cls K C) (ha:Vl K (.ref C) "__class__" = aa (aa (.builtin "object.__class__")))
   (hn:PySem.W.specialIn K (.builtin "object.__class__") "__get__" = aa (aa (.builtin "getset_descriptor.__get__"))) (htk:PySem.W.takesIn K (.builtin "object.__class__")=aa aN)
   (hm:Vy K C (.type "object")=aa aN):TyOf K H (.ref a) (.ref C)
def ze(I:Inv X pins σ H s)(f:aJ x u)(ty:TyOf X.K H x t)(e:Vt X.K t c=aa b)(h:∀T,Q (.bool b) { s with toks:=T }) :
  wpAny (model X.prog X.w) A (call (.builtin "isinstance") [u,c]) Q E s:=by
 cases ty with
 |non=>cases (show u=Value.none from f);exact Vr PySem.W.kitx_none I.kIn True.intro e (λz=>nomatch z) h
 |bl y=>cases (show u=Value.bool y from f);exact Vr PySem.W.kitx_bool I.kIn True.intro e (λz=>nomatch z) h
 |int i=>obtain⟨t,q⟩:=(show ∃t,u=Value.int i t from f);cases q;exact Vr PySem.W.kitx_int I.kIn True.intro e (λz=>nomatch z) h
 |str y=>obtain⟨t,q⟩:=(show ∃t,u=Value.str y t from f);cases q;exact Vr PySem.W.kitx_str I.kIn True.intro e (λz=>nomatch z) h
 |flt y=>obtain⟨t,q⟩:=(show ∃t,u=Value.float y t from f);cases q;exact Vr PySem.W.kitx_float I.kIn True.intro e (λz=>nomatch z) h
 |@lst a xs ea=>
  cases (show u=Value.ref a from f);obtain⟨_,_,n,_,g⟩:=(show bv X.prog X.w H s.heap a (.lst xs) from I.hok a _ ea);exact Vr Vv I.kIn ⟨_,g,rfl⟩ e (λz=>nomatch z) h
 |@frz a ob xs ea=>
  cases (show u=Value.ref a from f);obtain⟨_,_,_,n,_,g⟩:=(show bv X.prog X.w H s.heap a (.frz ob (.lst xs)) from I.hok a _ ea);exact Vr Vv I.kIn ⟨_,g,rfl⟩ e (λz=>nomatch z) h
 |@tup a xs ea=>
  cases (show u=Value.ref a from f);obtain⟨_,_,_,p⟩:=(show bv X.prog X.w H s.heap a (.tup xs) from I.hok a _ ea);obtain⟨o,g,j,_⟩:=p;exact Vr PySem.W.kitx_tuple I.kIn ⟨o,g,j⟩ e (λz=>nomatch z) h
 |@dK a kvs ea=>
  cases (show u=Value.ref a from f);obtain⟨_,_,U,_,p⟩:=(show bv X.prog X.w H s.heap a (.dK kvs) from I.hok a _ ea);obtain⟨o,v,B,g,j,_⟩:=p;exact Vr Vu I.kIn ⟨o,g,j.1⟩ e (λz=>nomatch z) h
 |@dT a kvs ea=>
  cases (show u=Value.ref a from f);obtain⟨_,_,xs,_,o,v,B,g,j,_⟩:=(show bv X.prog X.w H s.heap a (.dT kvs) from I.hok a _ ea);exact Vr Vu I.kIn ⟨o,g,j.1⟩ e (λz=>nomatch z) h
 |@ins a C dx fs ea cl ha hn htk hm=>
  cases (show u=Value.ref a from f);obtain⟨L,O,_⟩:=Fd I.hok ea;obtain⟨Y,J,_⟩:=O.look;exact Vr (PySem.W.kitx_own (cl.get _) cl.hd ha hn htk hm) I.kIn J e (λz=>nomatch z) h
end
structure Room(k:Nat)(A:Around):Prop where
 hd:A.handled=aD
 dp:A.depth+3 * k+5 < recursionLimit
 un:A.units+16 * k+200 < cLine
 gd:A.guards=aa []
def Room.deeper{k:Nat}(r:Room (k+1) A)(env:Env):Room k (A.deeper env):=
 ⟨r.hd,by have:=r.dp;show A.depth+1+3 * k+5 < _;lia,by have:=r.un;show A.units+3+16 * k+200 < _;lia,r.gd⟩
def Room.depth{k:Nat}(r:Room k A):A.depth < recursionLimit:=by have:=r.dp;lia
def Room.units{k:Nat}(r:Room k A):A.units+64 < cLine:=by have:=r.un;lia
abbrev mG:TA:=λ_ H Q=>Q [] H
abbrev dQ(T:TE)(tr:TA):TA:=λb H Q=>T b H λx c=>tr b c λxs h=>Q (x::xs) h
section
variable {X:Cx} {e:Expr} {es:List Expr} {te:TE} {t:TA} {pos:Pos}
def qL:PA X [] mG:=λ_ _ _ _ H Q I h=>Calls.spliced_nil ⟨[],H,I,.nil,h⟩
def Fe(g:PE X e te)(o:PA X es t)(hs:Ug (e::es) X.env=(aT,eval e X.env)::Ug es X.env:=by rfl):PA X (e::es) (dQ te t):=by
 intro pos p s b H Q I h;rw[hs];show wpAny _ _ (spliced ((aT,eval e X.env)::backTo pos (Ug es X.env))) _ _ s;refine Calls.spliced_cons (thn (g p s b H _ I h) λu n ⟨x,v,c,r1,y⟩=>?_);exact thn (o pos p n b v _ c y) λU z ⟨xs,f,j,r2,q⟩=>⟨x::xs,f,j,.cons r1 r2,q⟩
abbrev Px(t:TA):TE:=λb H Q=>t b H λxs h=>xs.length<=sizeLine/\∀p,h p=aD->Q (.ref p) (upd h p (.tup xs))
abbrev Py(t:TA):TE:=λb H Q=>t b H λxs h=>xs.length<=sizeLine/\∀p,h p=aD->Q (.ref p) (upd h p (.lst xs))
def KA{n}(h:PA X es t):PE X (.Tuple es n pos) (Px t):=by
 intro p s j H Q I o;refine wpAny_Tuple_spliced (thn (h pos p s j H _ I o) λU c ⟨xs,g,f,r,z,q⟩=>⟨by rw[<-r.length];exact z,?_⟩);have v:g c.heap.objs.size=aD:=f.hok.fresh (Zd _);refine⟨.ref c.heap.objs.size,upd g c.heap.objs.size (.tup xs),f.laid (t':=c.toks) (λb u e=>Zk _ e) (Zd _) ?_,rfl,q _ v⟩;exact⟨z,U,r,qI.new _ _⟩
def mH(h:PA X es t):PE X (.List es pos) (Py t):=by
 intro p s j H Q I n;refine wpAny_List_spliced (thn (h pos p s j H _ I n) λU c ⟨xs,g,f,r,z,q⟩=>⟨by rw[<-r.length];exact z,?_⟩);have o:g c.heap.objs.size=aD:=f.hok.fresh (Zd _);refine⟨.ref c.heap.objs.size,upd g c.heap.objs.size (.lst xs),f.laid (t':=c.toks) (λb u e=>Zk _ e) (Zd _) ?_,rfl,q _ o⟩;exact⟨z,U,0,r,ZG _ rfl⟩
end
@[inline]abbrev Sp:=List V->Hp->VK->XK->Prop
@[inline]abbrev CXT:=List Env->Hp->Shared->XK->Value->Shared->Prop
structure Env0(P:Program)(w:World)(K:Vf)(mg:Str->Option Value)(base:Heap)(A:Around)(outer:List Env)(s:Shared)(H:Hp):Prop where
 frames:A.frames=aa outer
 mod:Mod K mg base
 bs:∀b o,base.get? b=aa o->s.heap.get? b=aa o/\H b=aD
 bsz:base.objs.size<=s.heap.objs.size
 funs:s.heap.FunFrames base outer
 frf:∀b ∈ frs outer,H b=aD
 hok:HOk P w H s.heap
 bare:AllBare s.gens
abbrev CE(outer:List Env)(P:Program)(w:World)(H:Hp)(s:Shared)(Q:VK)(u:Value)(b:Shared):Prop:=
 ∃v h,b.os=s.os/\AllBare b.gens/\Un (frs outer) [] H h s.heap b.heap/\HOk P w h b.heap/\aJ v u/\Q v h
abbrev CR(C:CXT)(outer:List Env)(P:Program)(w:World)(H:Hp)(s:Shared)(Q:VK)(E:XK)(r:Result)(b:Shared):Prop:=
 match r with
 |.ok (.ret u)=>CE outer P w H s Q u b
 |.ok _=>False
 |.error e=>C outer H s E e b
structure FnOk(P:Program)(w:World)(K:Vf)(mg:Str->Option Value)(base:Heap)(CX:CXT)(k:Nat)(f:Addr)(fd:W2)(ps:List Str)(sp:Sp):Prop where
 len:∀vs H Q E,sp vs H Q E->vs.length=ps.length
 run:∀ (A:Around) (outer:List Env) (s:Shared) (H:Hp) (args:Args) (us:List Value) (vs:List V) (Q:VK) (E:XK),Room k A->Env0 P w K mg base A outer s H->BindsTo s fd args (ps.zip us)->aO vs us->sp vs H Q E ->
  codeAny (model P w) A (.call (.ref f) args) (CR CX outer P w H s Q E) s
def FnOk.imp{P:Program}{w:World}{K:Vf}{mg:Str->Option Value}{base:Heap}{C:CXT}{k:Nat}{f:Addr}{g:W2}{ps:List Str}{c sp':Sp}(F:FnOk P w K mg base C k f g ps c)
  (h:∀vs H Q E,sp' vs H Q E->c vs H Q E):FnOk P w K mg base C k f g ps sp':=
 ⟨λvs H Q E q=>F.len vs H Q E (h _ _ _ _ q),λA outer s H b u vs Q E j n hb o hs=>F.run A outer s H b u vs Q E j n hb o (h _ _ _ _ hs)⟩
section
variable {X:Cx} {pins:List (Addr × Obj)} {σ:St} {H:Hp} {s s':Shared}
def Inv.env0(I:Inv X pins σ H s):Env0 X.prog X.w X.K X.mg X.base X.A X.stack s H:=
 ⟨I.ok.frames,I.ok.mod,I.bs,ZC I.ok.bsz I.sz,I.stack,I.stkFree,I.hok,I.bare⟩
def Inv.after(I:Inv X pins σ H s)(h:CE X.stack X.prog X.w H s Q u s'):EP X pins σ Q u s':=by
 obtain⟨v,c,os,bare,un,hok,r,q⟩:=h;obtain⟨f,g,d,t,o⟩:=s';obtain rfl:o=s.os:=os;exact⟨v,c,I.call (h':=f) (g':=g) (d':=d) (t':=t) (ch:=[]) un hok bare (λb z=>absurd z (by simp)),r,q⟩
end
abbrev Ji(f:Sp)(b:List V)(E:XK)(t:TA):TE:=λc H Q=>t c H λv h=>f (v++b) h Q E
abbrev fU(K:Vf)(f:W2)(ps:List Str)(b:List Value):Prop:=
 ∀ (s:Shared) (u:List Value),K.In s.heap->(u++b).length=ps.length->BindsTo s f ⟨u,[]⟩ (ps.zip (u++b))
def fU.all{K:Vf}{f:W2}{ps:List Str}(h:∀u:List Value,u.length=ps.length->bindArgs f ⟨u,[]⟩=pure (ps.zip u)):fU K f ps []:=λs u _ b=>by
 rw[ZY] at b ⊢;exact .of_eq (h u b)
abbrev mI(C:CXT)(X:Cx)(E:XK):Prop:=∀ (p:List (Addr × Obj)) (c:St) (H:Hp) (s:Shared) (e:Value) (b:Shared),Inv X p c H s->C X.stack H s E e b->X.xe e b
section
variable {X:Cx} {CX:CXT} {k:Nat} {f C:Addr} {fd:W2} {ps:List Str} {sp:Sp} {dvs:List V} {ds:List Value} {E:XK} {x m:Str} {p pos apos:Pos} {e o:Expr} {es:List Expr} {ta:TE} {t:TA}
def KB(F:FnOk X.prog X.w X.K X.mg X.base CX k f fd ps sp)(q:Room k X.A)(hb:fU X.K fd ps ds)(hd:aO dvs ds)(n:mI CX X E)
  (I:Inv X b g H s) (r:aO vs U) (h:sp (vs++dvs) H Q E):wpAny (model X.prog X.w) X.A (call (.ref f) U) (EP X b g Q) X.xe s:=by
 have r2:aO (vs++dvs) (U++ds):=r.append hd;have y:(U++ds).length=ps.length:=by rw[<-r2.length];exact F.len _ _ _ _ h
 refine wpAny_call (VP (F.run X.A X.stack s H ⟨U,[]⟩ (U++ds) (vs++dvs) Q E q I.env0 (hb s U I.kIn y) r2 h) λr j c=>?_);cases r with
 |error e=>exact n b g H s e j I c
 |ok v=>
  cases v with
  |ret u=>exact I.after c
  |next=>exact False.elim c
  |brk=>exact False.elim c
  |cont=>exact False.elim c
def xr(F:FnOk X.prog X.w X.K X.mg X.base CX k f fd ps sp)(z:Room k X.A)(u:Gl X x)(B:X.mg x=aa (.ref f))(L:Vq X.K (.ref f)=aN)(hb:fU X.K fd ps ds)(hd:aO dvs ds)(y:mI CX X E)
  (J:PA X (e::es) t) (c:(x == ("__debug__" : Str))=aT:=by decide) (v:Ug (e::es) X.env=(aT,eval e X.env)::Ug es X.env:=by rfl) (g:(backTo pos (Ug es X.env)).any (·.1)=aT:=by rfl) :
  PE X (.Call (.Name x p) (e::es) [] pos) (Ji sp dvs E t):=by
 intro b s n H Q I h;refine Ur (gX I u B ?_ c);refine Vg (h₀:=X.base) I.ok.mod.kin L (thn (J pos b s n H _ I h) λU T ⟨O,Y,j,r,q⟩=>⟨j.kIn,?_⟩) v g;exact KB F z hb hd y j r q
end
structure FnScope(N P:List Str)(sc:Scope):Prop where
 kind:sc.kind = .function
 co:sc.isCoroutine=aT
 gen:sc.isGenerator=aT
 nd:N.Nodup
 pre:N.take P.length=P
 par:∀x ∈ P,sc.names.lookup x=aa .local\/sc.names.lookup x=aa .cell
 nofree:∀y ∈ sc.names,y.2 ≠ .free
def pB{kindOf:Str->Option W4}{x:Str}:∀ {binds:List (Str × Value)} {m:Str->Option Value},(∀v,(x,v) ∉ binds)->bindL kindOf binds m x=m x
 |[],_,_=>rfl
 |(n,v)::r,m,h=>by
  unfold bindL;rw[pB λw b=>h w (Zf _ b)];split
  ·have:x ≠ n:=by rintro rfl;exact h v Zh
   simp[this]
  ·rfl
def pC{kindOf:Str->Option W4}{x:Str}:∀ {binds:List (Str × Value)} {m:Str->Option Value},(∀v,(x,v) ∉ binds)->bindC kindOf binds m x=m x
 |[],_,_=>rfl
 |(n,v)::r,m,h=>by
  unfold bindC;rw[pC λw b=>h w (Zf _ b)];split
  ·rfl
  ·have:x ≠ n:=by rintro rfl;exact h v Zh
   simp[this]
def pD{kindOf:Str->Option W4}{x:Str}{v:Value}:∀ {P:List Str} {vs:List Value} {i:Nat} {m:Str->Option Value},P.Nodup->P[i]?=aa x->vs[i]?=aa v->kindOf x=aa .local ->
  bindL kindOf (P.zip vs) m x=aa v
 |[],_,_,_,_,h,_,_=>by simp at h
 |_::_,[],_,_,_,_,h,_=>by simp at h
 |p::P,w::vs,0,m,nd,h1,h2,hk=>by
  simp at h1 h2;subst h1;subst h2;show bindL kindOf ((p,w)::P.zip vs) m p=_;unfold bindL;rw[pB λv b=>(Yr.mp nd).1 (YU b).1,if_pos hk];simp
 |p::P,w::vs,i+1,m,nd,h1,h2,hk=>by
  show bindL kindOf ((p,w)::P.zip vs) m x=_;unfold bindL;exact pD (i:=i) (Yr.mp nd).2 (by simpa using h1) (by simpa using h2) hk
def pE{kindOf:Str->Option W4}{x:Str}{v:Value}:∀ {P:List Str} {vs:List Value} {i:Nat} {m:Str->Option Value},P.Nodup->P[i]?=aa x->vs[i]?=aa v->kindOf x ≠ aa .local ->
  bindC kindOf (P.zip vs) m x=aa v
 |[],_,_,_,_,h,_,_=>by simp at h
 |_::_,[],_,_,_,_,h,_=>by simp at h
 |p::P,w::vs,0,m,nd,h1,h2,hk=>by
  simp at h1 h2;subst h1;subst h2;show bindC kindOf ((p,w)::P.zip vs) m p=_;unfold bindC;rw[pC λv b=>(Yr.mp nd).1 (YU b).1,if_neg hk];simp
 |p::P,w::vs,i+1,m,nd,h1,h2,hk=>by
  show bindC kindOf ((p,w)::P.zip vs) m x=_;unfold bindC;exact pE (i:=i) (Yr.mp nd).2 (by simpa using h1) (by simpa using h2) hk
abbrev dR(N:List Str)(vs:List V):St:=vs.map aa++Zq (N.length - vs.length) aD
abbrev o4(g:CXT)(P:Program)(w:World)(K:Vf)(mg:Str->Option Value)(base:Heap)(N:List Str)(q:Str)(b:Scope)(f:Addr)(C:Value)(A:Around)(outer:List Env)(s:Shared)(H:Hp)(E:XK):Cx where
 prog:=P
 w:=w
 K:=K
 mg:=mg
 base:=base
 A:=A.deeper (envOfC q b s.heap.objs.size f C)
 N:=N
 s₀:=s
 H₀:=H
 env:=envOfC q b s.heap.objs.size f C
 outer:=outer
 stack:=envOfC q b s.heap.objs.size f C::outer
 ex:=[]
 calm:=true
 fn:=λ_=>aN
 pn:=[]
 xe:=λe j=>wpAny (model P w) (A.deeper (envOfC q b s.heap.objs.size f C)) (leaving (envOfC q b s.heap.objs.size f C) e) (λ_ c=>g outer H s E e c) (λh c=>g outer H s E h c) j
def sH{sc:Scope}{n:Nat}{x:Str}(h:sc.names.lookup x=aa .cell):∃c,(VM n sc.names []).lookup x=aa c:=by
 have q:=Vh sc.names n [] (.inl h);exact Z9.mp q
def pF{T:CXT}{P:Program}{w:World}{K:Vf}{mg:Str->Option Value}{base:Heap}{N ps:List Str}{Q:Str}{g:Scope}{f:Addr}{L:Value}{A:Around}{outer:List Env}{s s1:Shared}{H:Hp}{E:XK}{U:List Value}{vs:List V}
  (S:FnScope N ps g) (hd:A.handled=aD) (o:Env0 P w K mg base A outer s H) (hl:vs.length=ps.length) (r:aO vs U)
  (x:InCallC s s.heap.objs.size (bindL (envOfC Q g s.heap.objs.size f L).kindOf (ps.zip U) λ_=>aD) (VM (s.heap.objs.size+1) g.names []) (bindC (envOfC Q g s.heap.objs.size f L).kindOf (ps.zip U) λ_=>aD) s1) :
  Inv (o4 T P w K mg base N Q g f L A outer s H E) [] (dR N vs) H s1:=by
 have Z:ps.length<=N.length:=by have:=congrArg Zc S.pre;rw[Zs] at this;lia
 obtain⟨O,tk,rfl,Y⟩:=x.done;have B:∀b:Addr,b ∉ (o4 T P w K mg base N Q g f L A outer s H E).ex:=λb z=>absurd (show b ∈ ([]:List Addr) from z) (by simp)
 refine⟨⟨o.mod,S.kind,rfl,rfl,Zd _,λy z c O j=>?_,λy hy=>?_,λy c _ h=>?_,λ_=>hd,Around.frames_deeper o.frames,.inr ⟨rfl,rfl⟩,λb z=>absurd z (B b),o.bs,o.bsz,λb _ _=>B b,λb z=>absurd z (B b),o.funs,o.frf⟩,
  rfl,o.bare,Un.kept Y,⟨_,x.toInCall.ns,λi y v O j h3=>?_⟩,λy c h=>⟨_,x.cell y c h⟩,o.hok.fresh (Zd _),λy c h=>?_,λp I=>absurd (show p ∈ ([]:List (Addr × Obj)) from I) (by simp),o.hok.kept Y,?_⟩
 ·exact name_of_addr x.apart (V3 O) (V3 j)
 ·have hy:g.names.lookup y=aa .cell\/g.names.lookup y=aa .free:=hy;rcases hy with hy |hy
  ·exact sH hy
  ·exact absurd rfl (S.nofree _ (V3 hy))
 ·exact Xo (x.above y c (V3 h))
 ·have J:i < vs.length:=by
   unfold dR at j;by_cases J:i < vs.length
   ·exact J
   ·rw[Zp (by simpa using J)] at j;rw[Yd] at j;split at j <;> cases j
  have ha:vs[i]?=aa v:=by
   unfold dR at j;rw[Zv (by simpa using J),Zj] at j;cases e:vs[i]? with
   |none=>rw[e] at j;cases j
   |some a=>rw[e] at j;cases j;rfl
  obtain⟨u,X,rv⟩:=r.get ha
  have I:ps[i]?=aa y:=by
   rw[<-S.pre,YT (by lia)];exact O
  have C:ps.Nodup:=by rw[<-S.pre];exact S.nd.sublist (X3 _ _)
  refine⟨u,rv,?_⟩;rcases S.par y (Zi I) with k |k
  ·exact .inl ⟨k,pD C I X k⟩
  ·obtain⟨c,e⟩:=sH (n:=s.heap.objs.size+1) k;refine .inr ⟨.inl k,c,e,?_⟩;have q:=x.cell y c e;rw[pE C I X (by show g.names.lookup y ≠ _;rw[k];decide)] at q;exact q
 ·exact o.hok.fresh (Xo (x.above y c (V3 h)))
 ·unfold dR;show _=N.length;rw[Zn,Za,Yk]
  lia
def Pz{U:CXT}{P:Program}{w:World}{K:Vf}{mg:Str->Option Value}{base:Heap}{k:Nat}{f:Addr}{name g:Str}{p:Arguments}{body:List Stmt}{c:Scope}{dV kV L pm C ct oc:Value}{an od:Option Addr}
  {Y:Array (Option Value)} {N ps:List Str} {sp:Sp} (lk:K.lookup f=aa ⟨oc,od,.func (Vm name g p body c dV kV L pm an C ct),Y⟩) (X:Vj K C g=aN) (S:FnScope N ps c)
  (len:∀vs H Q E,sp vs H Q E->vs.length=ps.length)
  (B:∀ (A:Around) (outer:List Env) (s:Shared) (H:Hp) (vs:List V) (Q:VK) (E:XK),Room k (A.deeper (envOfC g c s.heap.objs.size f C))->sp vs H Q E ->
   ∃t,PSs (o4 U P w K mg base N g c f C A outer s H E) body t/\t { nx:=λ_ j=>Q .non j,rt:=Q } (dR N vs) H) :
  FnOk P w K mg base U (k+1) f (Vm name g p body c dV kV L pm an C ct) ps sp:=by
 refine⟨len,λA outer s H args us vs Q E Z O hb r T=>?_⟩;have hl:=len _ _ _ _ T;have KX:K.In s.heap:=O.mod.kin.keeps λb o e=>(O.bs b o e).1;have lim:s.heap.NoLimit:=O.mod.nolimit.keeps λb o e=>(O.bs b o e).1
 have z:∀y ∈ ps.zip us,c.names.lookup y.1=aa .local\/(c.names.lookup y.1=aa .cell/\((VM (s.heap.objs.size+1) c.names []).lookup y.1).isSome=aN):=λ⟨n,v⟩ hy=>by
  rcases S.par n (YU hy).1 with q |q
  ·exact .inl q
  ·exact .inr ⟨q,Vh _ _ _ (.inl q)⟩
 refine VO Z.depth (KX _ _ lk) rfl S.co S.gen rfl (Vk KX X) (hb _ _ _ _ ?_);refine UI S.kind z λenv he s1 x=>?_;subst he;refine⟨lim.keeps x.toInCall.keep,codeAny_func ?_⟩;obtain⟨t,ht,hq⟩:=B A outer s H vs Q E (Z.deeper _) T;have I:Inv (o4 U P w K mg base N g c f C A outer s H E) [] (dR N vs) H s1:=pF S Z.hd O hl r x;refine UH (ht [] s1 (dR N vs) H _ I hq) (λfl s' hs=>?_) λe s' hs=>hs
 have fin:∀ {h:St} {j:Hp} {v:V} {u:Value},Inv (o4 U P w K mg base N g c f C A outer s H E) [] h j s'->aJ v u->Q v j->CE outer P w H s Q u s':=
  λ{h j v u} J rv q=>⟨v,j,J.os,J.bare,J.base,J.hok,rv,q⟩
 cases fl with
 |ret u=>
  obtain⟨v,h,j,J,rv,q⟩:=hs;exact fin J rv q
 |next=>
  obtain⟨h,j,J,q⟩:=hs;exact fin (v:=V.non) (u:=Value.none) J rfl q
 |brk=>
  obtain⟨_,_,_,q⟩:=hs;exact False.elim q
 |cont=>
  obtain⟨_,_,_,q⟩:=hs;exact False.elim q
section
variable {X:Cx} {x:Str} {p pos:Pos} {e:Expr} {es:List Expr} {t:TA} {id T:String} {r:List V->Hp->VK->Prop}
abbrev tCB(r:List V->Hp->VK->Prop)(t:TA):TE:=λb H Q=>t b H λv h=>r v h Q
def eV(n:aV X (.builtin id) r)(o:Gl X x)(z:X.mg x=aD)(J:VI x=aa (.builtin id))(C:PA X (e::es) t)(y:x ≠ "__name__" := by decide)(c:(x == ("__debug__" : Str))=aT:=by decide)
  (u:Ug (e::es) X.env=(aT,eval e X.env)::Ug es X.env:=by rfl) (f:(backTo pos (Ug es X.env)).any (·.1)=aT:=by rfl):PE X (.Call (.Name x p) (e::es) [] pos) (tCB r t):=by
 intro b s g H Q I h;refine Ur (iK I o z J ?_ y c);exact PyProof.Rows.callWith_builtin1 (thn (C pos b s g H _ I h) λU q ⟨v,E,j,r1,B⟩=>n b q g E v U Q j r1 B) u f
def eW(n:aV X (.type T) r)(o:Gl X x)(z:X.mg x=aD)(J:VI x=aa (.type T))(C:PA X (e::es) t)(y:x ≠ "__name__" := by decide)(c:(x == ("__debug__" : Str))=aT:=by decide)
  (u:Ug (e::es) X.env=(aT,eval e X.env)::Ug es X.env:=by rfl) (f:(backTo pos (Ug es X.env)).any (·.1)=aT:=by rfl):PE X (.Call (.Name x p) (e::es) [] pos) (tCB r t):=by
 intro b s g H Q I h;refine Ur (iK I o z J ?_ y c);exact WH (thn (C pos b s g H _ I h) λU q ⟨v,E,j,r1,B⟩=>n b q g E v U Q j r1 B) u f
end
end L2
namespace HT
open PySem PyProof.Rows
section
open PySem.SeqAt
open PySem.AutoSeq1 (wpAny_loadPart')
open PySem.MeetsSeq PySem.MeetsSeq2 PySem.MeetsSeq3
end
section
variable {prog:Program} {w:World} {A:Around} {E:Value->Shared->Prop} {s:Shared}
def Ff(J:IsTup s.heap t vs.toArray)(hb:IsTup s.heap b c.toArray)(B:vs ≠ [])
  (L:c=[]->Q (.ref t) s) (I:c ≠ []->Q (.ref s.heap.objs.size) { s with heap:=s.heap.push { cls:=.type "tuple", data:=.seq (vs++c).toArray } })
  (u:vs.length+c.length<=sizeLine):wpAny (model prog w) A (VG .Add (.ref t) (.ref b)) Q E s:=by
 obtain⟨⟨cls,z,data,sl⟩,q,y,n,hd⟩:=id J;obtain⟨⟨C,j,data2,f⟩,h,g,v,o⟩:=id hb;simp only at y hd g o;subst y hd g o;have e:vs.toArray++c.toArray=(vs++c).toArray:=by simp
 by_cases p:c=[]
 ·exact VS ⟨_,q,rfl⟩ ⟨_,h,rfl⟩ V5 Ud WY WO (WM _ _)
   (tuple_addW1 t b vs.toArray c.toArray n v z j sl f (by simpa using B) (by simp[p])) ⟨q,h,L p⟩
 ·refine VS ⟨_,q,rfl⟩ ⟨_,h,rfl⟩ V5 Ud WY WO (WM _ _)
   (tuple_addW2 t b vs.toArray c.toArray n v z j sl f (by simpa using B) (by simpa using p) (by rw[Zm,Zm];exact u)) ⟨q,h,?_⟩
  rw[e];exact I p
abbrev sIx(n d:Nat):Option Int->Nat
 |none=>d
 |some v=>if v < 0 then (v+(n:Int)).toNat else min v.toNat n
def Be(n d:Nat):sIx n d aD=d:=rfl
def KC(n d:Nat)(hd:d<=n)(o:Option Int):sIx n d o<=n:=by
 cases o with
 |none=>exact hd
 |some v=>
  show(if v < 0 then (v+(n:Int)).toNat else min v.toNat n)<=n;by_cases h:v < 0
  ·rw[if_pos h];lia
  ·rw[if_neg h];exact Nat.min_le_right _ _
def xt(v:Int)(n d:Nat):(if v < 0 then max (v+(n:Int)) 0 else min v (n:Int))=((sIx n d (aa v):Nat):Int):=by
 show(if v < 0 then max (v+(n:Int)) 0 else min v (n:Int))=(((if v < 0 then (v+(n:Int)).toNat else min v.toNat n):Nat):Int);by_cases h:v < 0
 ·simp only[if_pos h];lia
 ·simp only[if_neg h];lia
def uT(lo h:Option Int)(n:Nat):Builtin.Slice.sliceAdjust lo h 1 (n:Int)=(((sIx n 0 lo:Nat):Int),((sIx n n h:Nat):Int)):=by
 have b:¬ ((1:Int) < 0):=by lia
 unfold Builtin.Slice.sliceAdjust;simp only[b,if_false];refine Prod.ext ?_ ?_
 ·cases lo with
  |none=>rfl
  |some v=>exact xt v n 0
 ·cases h with
  |none=>rfl
  |some v=>exact xt v n n
def uU(i j:Nat):Builtin.Slice.slicePlaces (i:Int) (j:Int) 1=j - i:=by
 unfold Builtin.Slice.slicePlaces;have h:(1:Int) > 0:=by lia
 simp only[h,if_true,Int.ediv_one];split <;> lia
def mJ(p:IsPart v o)(h:Q o s):wpAny (model prog w) A (Builtin.Slice.slicePartIndex v) Q E s:=by
 cases p with
 |none=>exact slicePart_none h
 |int i t=>exact slicePart_int h
def eX{sl:Addr}{v g:Value}{lo c:Option Int}{n:Nat}{Q:Int × Int × Nat->Shared->Prop}(hs:s.heap.IsSliceOf sl v g .none)(pl:IsPart v lo)(p:IsPart g c)
  (h:Q (((sIx n 0 lo:Nat):Int),1,sIx n n c - sIx n 0 lo) s):wpAny (model prog w) A (Builtin.Slice.sliceApplied (.ref sl) (pure (n:Int))) Q E s:=by
 obtain⟨os,b,j,f⟩:=id hs;unfold Builtin.Slice.sliceApplied Builtin.Slice.sliceFields;refine Ut (Ut (UA b f (x:=v) rfl (Ut (UA b f (x:=g) rfl (Ut (UA b f (x:=.none) rfl (UL ?_)))))));refine Ut (slicePart_none ?_);show wpAny _ _ (if ((1:Int) == 0)=aN then _ else _) _ _ s;rw[if_neg (by decide)];refine Ut (mJ pl (Ut (mJ p (Ut (UL ?_)))));show wpAny _ _ (match Builtin.Slice.sliceAdjust lo c 1 (n:Int) with |(lo,c)=>pure (lo,(1:Int),Builtin.Slice.slicePlaces lo c 1)) _ _ s;rw[uT lo c n];show wpAny _ _ (pure (((sIx n 0 lo:Nat):Int),(1:Int),Builtin.Slice.slicePlaces ((sIx n 0 lo:Nat):Int) ((sIx n n c:Nat):Int) 1)) _ _ s;rw[uU];exact UL h
def Bf(xs:Array Value)(i k:Nat):((Ze k).filterMap λ(m:Nat)=>xs[((i:Int)+(m:Int) * 1).toNat]?).toArray=((xs.toList.drop i).take k).toArray:=by
 have e:(λ(m:Nat)=>xs[((i:Int)+(m:Int) * 1).toNat]?)=λm=>xs[i+m]?:=by
  funext m
  have:((i:Int)+(m:Int) * 1).toNat=i+m:=by lia
  rw[this]
 rw[e];have:=pick_run xs i k;rw[List.filterMap_map] at this;have b:((λx=>xs[x]?) ∘ λx=>i+x)=λm=>xs[i+m]?:=rfl;rw[b] at this;rw[this]
def jf{t sl:Addr}{I:Array Value}{p v:Value}{lo c:Option Int}{Q:Value->Shared->Prop}(f:IsTup s.heap t I)(hs:s.heap.IsSliceOf sl p v .none)(pl:IsPart p lo)(z:IsPart v c)
  (y:¬ (sIx I.size 0 lo=0/\sIx I.size I.size c=I.size))
  (h:Q (.ref s.heap.objs.size) { s with heap:=s.heap.push { cls:=.type "tuple", data:=.seq ((I.toList.drop (sIx I.size 0 lo)).take (sIx I.size I.size c - sIx I.size 0 lo)).toArray } })
  (B:I.size<=sizeLine):wpAny (model prog w) A (getItem (.ref t) (.ref sl)) Q E s:=by
 have b:sizeOk (.seq ((I.toList.drop (sIx I.size 0 lo)).take (sIx I.size I.size c - sIx I.size 0 lo)).toArray):=by
  show((I.toList.drop (sIx I.size 0 lo)).take (sIx I.size I.size c - sIx I.size 0 lo)).toArray.size<=sizeLine;rw[Zm,Zs,ZZ,ZR]
  lia
 have J:sIx I.size I.size c<=I.size:=KC _ _ (Zd _) c;obtain⟨os,g,o,u⟩:=id hs;have n:s.TypeIs (.ref sl) "slice" := ⟨os,g,o⟩;unfold getItem
 try with_reducible refine UC ?_
 first |refine Ut (UL ?_) |skip
 refine Ut (wpAny_sequenceKey f.typeIs (by decide) ?_)
 refine Ut (wpAny_callSpecial?_slot (name:=Str.ofString "__getitem__") f.typeIs WI
  (Uv WI f.typeIs entry_tuple_getitem ?_ (args_tuple_getitem _ _)))
 show wpAny _ _ (Builtin.Tuple.tupleItemsOf (.ref t) >>= _) _ _ s;refine Ut (tupleItemsOf_ f ?_);refine Ut (UU n ?_);rw[if_pos (by decide)];refine Ut (eX hs pl z ?_)
 have j:¬ ((((sIx I.size 0 lo:Nat):Int) == 0 && (1:Int) == 1 && (sIx I.size I.size c - sIx I.size 0 lo) == I.size)=aN):=by
  intro q;rw[bAE,bAE] at q;have L:((sIx I.size 0 lo:Nat):Int)=0:=eq_of_beq q.1.1;have C:sIx I.size I.size c - sIx I.size 0 lo=I.size:=eq_of_beq q.2;exact y ⟨by lia,by lia⟩
 show wpAny _ _ (if (((sIx I.size 0 lo:Nat):Int) == 0 && (1:Int) == 1 && (sIx I.size I.size c - sIx I.size 0 lo) == I.size)=aN then _ else _) _ _ s;rw[if_neg j,Bf]
 first
  |exact Ut (m:=Builtin.Tuple.tupleExact _) (UJ (UL ⟨_,rfl,UL h⟩) b)
  |exact Ut (m:=Builtin.Tuple.tupleExact _) (UJ (Ut (UL (UL ⟨_,rfl,UL h⟩))) b)
  |exact Ut (Ut (m:=Builtin.Tuple.tupleExact _) (UJ (UL (UL ⟨_,rfl,UL h⟩)) b))
  |exact Ut (Ut (m:=Builtin.Tuple.tupleExact _) (UJ (UL ⟨_,rfl,UL h⟩) b))
end
end HT
namespace L2
open PySem PySem.Spec PyProof.Rows
@[inline]abbrev TO:=St->Hp->(Option Int->Hp->Prop)->Prop
abbrev PO(X:Cx)(e:Option Expr)(t:TO):Prop:=
 ∀ (p:List (Addr × Obj)) (s:Shared) (b:St) (H:Hp) (Q:Option Int->Hp->Prop),Inv X p b H s->t b H Q ->
  wpAny (model X.prog X.w) X.A (evalPart e X.env) (λu c=>∃o h,Inv X p b h c/\IsPart u o/\Q o h) X.xe s
abbrev xu:TO:=λ_ H Q=>Q aD H
abbrev Jj(t:TE):TO:=λb H Q=>t b H λx h=>∃i,x = .int i/\Q (aa i) h
section
variable {X:Cx} {e:Expr} {te:TE} {lo hi:Option Expr} {tl th:TO} {pos p2:Pos}
def Fg:PO X aD xu:=by
 intro p s b H Q I h;rw[VT];exact UL ⟨aD,H,I,.none,h⟩
def xv(h:PE X e te):PO X (aa e) (Jj te):=by
 intro p s b H Q I j;rw[evalPart_some];refine thn (h p s b H _ I j) λu n ⟨x,g,c,r1,f⟩=>?_;obtain⟨i,rfl,q⟩:=f;obtain⟨t,rfl⟩:=r1;exact⟨aa i,g,c,.int i t,q⟩
abbrev SlR(X:Cx)(r:V->Option Int->Option Int->Hp->VK->Prop):Prop:=
 ∀ (p:List (Addr × Obj)) (s:Shared) (b:St) (H:Hp) (x:V) (v c f:Value) (lo hi:Option Int) (sl:Addr) (Q:VK),Inv X p b H s->aJ x v->s.heap.IsSliceOf sl c f .none->IsPart c lo->IsPart f hi->r x lo hi H Q ->
  ∃T id,Uq (.type T) "__getitem__" = pure (aa (.builtin id))/\s.TypeIs v T/\wpAny (model X.prog X.w) X.A (getItem v (.ref sl)) (EP X p b Q) X.xe s
def SlR.or{r j:V->Option Int->Option Int->Hp->VK->Prop}(h:SlR X r)(o:SlR X j):SlR X (λx lo hi H Q=>r x lo hi H Q\/j x lo hi H Q):=by
 intro p s b H x v f g lo hi sl Q I c hs pl n q;rcases q with q |q
 ·exact h p s b H x v f g lo hi sl Q I c hs pl n q
 ·exact o p s b H x v f g lo hi sl Q I c hs pl n q
abbrev tSl(r:V->Option Int->Option Int->Hp->VK->Prop)(te:TE)(tl th:TO):TE:=λb H Q=>te b H λx c=>tl b c λl h=>th b h λu f=>r x l u f Q
def Bg(Y:SlR X r)(J:PE X e te)(O:PO X lo tl)(Z:PO X hi th):PE X (.Subscript e (.Slice lo hi aD p2) pos) (tSl r te tl th):=by
 intro p s f H Q I h;refine Subscript_ (thn (J p s f H _ I h) λv E ⟨x,H1,o,r1,q1⟩=>?_);refine wpAny_Slice (thn (O p E f H1 _ o q1) λj L ⟨l,H2,B,pl,U⟩=>thn (Z p L f H2 _ B U) λg c ⟨u,n,y,pu,q3⟩=>?_);rw[VT];refine UL ?_;have I4:Inv X p f n { c with heap:=c.heap.push { cls:=.type "slice", data:=.fields #[j,g,.none] } }:=y.kept (t':=c.toks) λb ob q=>Zk _ q;obtain⟨T,id,hT,C,z⟩:=Y p { c with heap:=c.heap.push { cls:=.type "slice", data:=.fields #[j,g,.none] } } f n x v j g l u c.heap.objs.size Q I4 r1 (Heap.IsSliceOf.new ..) pl pu q3;show wpAny (model X.prog X.w) X.A (subscriptTail e (.Slice lo hi aD p2) v (.ref c.heap.objs.size)) (EP X p f Q) X.xe { c with heap:=c.heap.push { cls:=.type "slice", data:=.fields #[j,g,.none] } };exact tail_any (ops:=[.ref c.heap.objs.size,v]) C hT z (by with_unfolding_all rfl)
abbrev mL(xs:List V)(lo hi:Option Int):List V:=(xs.drop (HT.sIx xs.length 0 lo)).take (HT.sIx xs.length xs.length hi - HT.sIx xs.length 0 lo)
def kD(xs:List V)(lo hi:Option Int):(mL xs lo hi).length<=xs.length:=by
 unfold mL;rw[Zs,ZZ]
 lia
abbrev Sl(K:Vf):V->Option Int->Option Int->Hp->VK->Prop:=λx lo hi H Q=>∃a xs,x = .ref a/\SqT K H a xs ∧
 ¬ (HT.sIx xs.length 0 lo=0/\HT.sIx xs.length xs.length hi=xs.length)/\∀p,H p=aD->Q (.ref p) (upd H p (.tup (mL xs lo hi)))
def KD:SlR X (Sl X.K):=by
 intro p s B H x v C E lo hi sl Q I n hs pl y h;obtain⟨a,xs,rfl,u,z,q⟩:=h;cases n;obtain⟨f,r,g,j⟩:=I.tuple u;have c:f.toArray.size=xs.length:=by rw[Zm];exact r.length.symm
 refine⟨"tuple", _,PyProof.Rows.slot_tuple_getitem.lookup,g.typeIs,?_⟩;refine HT.jf g hs pl y (by rw[c];exact z) ?_ (by rw[c];exact j);rw[c];refine⟨.ref s.heap.objs.size,_,I.laid (t':=s.toks) (o:=.tup (mL xs lo hi)) (λb ob q=>Zk _ q) (Zd _) ?_,rfl,q _ (I.hok.fresh (Zd _))⟩;exact⟨ZC (kD xs lo hi) j,_,(r.drop (HT.sIx xs.length 0 lo)).take (HT.sIx xs.length xs.length hi - HT.sIx xs.length 0 lo),qI.new _ _⟩
abbrev PC(K:Vf):R2:=λx y H Q=>∃a b xs Y,x = .ref a/\y = .ref b/\SqT K H a xs/\SqT K H b Y/\xs ≠ []/\xs.length+Y.length<=sizeLine ∧
 (Y=[]->Q (.ref a) H)/\(Y ≠ []->∀p,H p=aD->Q (.ref p) (upd H p (.tup (xs++Y))))
def aO.nil_iff(r:aO xs u):u=[] ↔ xs=[]:=by
 cases r with
 |nil=>simp
 |cons _ _=>simp
def Fh:OpR X (VG .Add) (PC X.K):=by
 intro p s O H x y v u Q I E g h;obtain⟨a,b,xs,Y,rfl,rfl,J,hb,B,c,C,n⟩:=h;cases E;cases g;obtain⟨L,r1,j,_⟩:=I.tuple J;obtain⟨f,r2,p2,_⟩:=I.tuple hb;refine HT.Ff j p2 (λz=>B (r1.nil_iff.mp z)) (λz=>⟨.ref a,H,I,rfl,C (r2.nil_iff.mp z)⟩) (λz=>?_) (by rw[<-r1.length,<-r2.length];exact c);refine⟨.ref s.heap.objs.size,_,I.laid (t':=s.toks) (o:=.tup (xs++Y)) (λb ob q=>Zk _ q) (Zd _) ?_,rfl,n (λw=>z (r2.nil_iff.mpr w)) _ (I.hok.fresh (Zd _))⟩;exact⟨by rw[Zn];exact c,_,r1.append r2,qI.new _ _⟩
end
abbrev ixN(n:Nat)(i:Int):Option Nat:=if 0<=i then (if i < n then aa i.toNat else aD) else if -(n:Int)<=i then aa (i+n).toNat else aD
abbrev atI{α:Type}(xs:List α)(i:Int):Option α:=(ixN xs.length i).bind λj=>xs[j]?
def qM{n:Nat}{i:Int}{j:Nat}(h:ixN n i=aa j):seqIndex? i n=aa j/\j < n/\-(n:Int)<=i/\i < n:=by
 unfold ixN at h;by_cases c:0<=i
 ·rw[if_pos c] at h;by_cases b:i < n
  ·rw[if_pos b] at h;have e:i.toNat=j:=Option.some.inj h;exact⟨by rw[Uc c b,e],by lia,by lia,b⟩
  ·rw[if_neg b] at h;cases h
 ·rw[if_neg c] at h;by_cases b:-(n:Int)<=i
  ·rw[if_pos b] at h;have e:(i+n).toNat=j:=Option.some.inj h;exact⟨by rw[Ub (by lia) b,e],by lia,b,by lia⟩
  ·rw[if_neg b] at h;cases h
def qN{b:Type}{xs:List b}{i:Int}{v:b}(h:atI xs i=aa v):∃j,seqIndex? i xs.length=aa j/\xs[j]?=aa v/\j < xs.length/\-(xs.length:Int)<=i/\i < xs.length:=by
 unfold atI at h;cases e:ixN xs.length i with
 |none=>rw[e] at h;cases h
 |some j=>
  rw[e] at h;obtain⟨g,c,f,h4⟩:=qM e;exact⟨j,g,h,c,f,h4⟩
def qO{b:Type}{xs:List b}{j:Nat}{v:b}(h:xs[j]?=aa v):atI xs (j:Int)=aa v:=by
 have c:j < xs.length:=(Zb.mp h).1
 have e:ixN xs.length (j:Int)=aa j:=by
  unfold ixN;rw[if_pos (by lia),if_pos (by lia)];simp
 unfold atI;rw[e];exact h
abbrev xy(b:Expr):Prop:=∀o i,subscripted b aT o i=operate [o,i] (getItem o i)
abbrev IxR(X:Cx)(r:R2):Prop:=
 ∀ (c b:Expr) (p:List (Addr × Obj)) (s:Shared) (f:St) (H:Hp) (x y:V) (v u:Value) (Q:VK),Inv X p f H s->aJ x v->aJ y u->r x y H Q ->
  subscripted b aT v u=operate [v,u] (getItem v u)->wpAny (model X.prog X.w) X.A (subscriptTail c b v u) (EP X p f Q) X.xe s
abbrev MtR(X:Cx)(id:String)(r:V->List V->Hp->VK->Prop):Prop:=
 ∀ (p:List (Addr × Obj)) (s:Shared) (b:St) (H:Hp) (x:V) (xs:List V) (v:Value) (u:List Value) (Q:VK),Inv X p b H s->aJ x v->aO xs u->r x xs H Q ->
  wpAny (model X.prog X.w) X.A (call (.builtin id) (v::u)) (EP X p b Q) X.xe s
section
variable {X:Cx} {a b:Expr} {ta tb:TE} {pos:Pos}
def IxR.or{r n:R2}(h:IxR X r)(z:IxR X n):IxR X (λx y H Q=>r x y H Q\/n x y H Q):=by
 intro f c p s g H x y v u Q I j o q hs;rcases q with q |q
 ·exact h f c p s g H x y v u Q I j o q hs
 ·exact z f c p s g H x y v u Q I j o q hs
def Bh(o:IxR X r)(j:PE X a ta)(hb:PE X b tb)(hs:xy b):PE X (.Subscript a b pos) (tOp r ta tb):=by
 intro p s c H Q I h;exact Subscript_ (Kr j hb I h λv u z x y f n g B q=>o a b p z c f x y v u Q n g B q (hs _ _))
abbrev PD(K:Vf):R2:=λx y H Q=>∃p xs i v,x = .ref p/\y = .int i/\SqL K H p xs/\atI xs i=aa v/\Q v H
abbrev PF(K:Vf):R2:=λx y H Q=>∃p xs i v,x = .ref p/\y = .int i/\SqT K H p xs/\atI xs i=aa v/\Q v H
abbrev PH:R2:=λx y H Q=>∃z i c,x = .str z/\y = .int i/\z.length<=sizeLine/\atI z.cps.toList i=aa c/\Q (.str ⟨#[c]⟩) H
def Fi:IxR X (PD X.K):=by
 intro C n c s E H x y v u Q I rx U h hs;obtain⟨p,xs,i,z,rfl,rfl,Z,T,q⟩:=h;cases rx;obtain⟨t,rfl⟩:=U;obtain⟨B,r,pl,hz⟩:=I.list Z;obtain⟨j,f,O,h3,h4,h5⟩:=qN T;obtain⟨w,L,g⟩:=r.get O;have Y:=r.length;have hn:=jR;have fin:EP X c E Q w s:=⟨z,H,I,g,q⟩;by_cases J:0<=i
 ·have o:i.toNat=j:=by
   rw[Uc J h5] at f;exact Option.some.inj f
  exact item_listR pl.isList J (by lia) (by rw[o];simpa using L) fin hs
 ·have o:(i+(B.toArray.size:Int)).toNat=j:=by
   rw[Ub (by lia) h4] at f;rw[Zm,<-Y];exact Option.some.inj f
  exact subscriptTail_builtinR (x:=w) pl.isList.typeIs slot_list_getitem.lookup
   (wpAny_getItem_list_neg (Q:=λr s'=>r=w/\EP X c E Q r s') pl.isList (by lia) (by rw[Zm] <;> lia) (by lia) (by rw[o];simpa using L) ⟨rfl,fin⟩) hs
def Bi:IxR X (PF X.K):=by
 intro n g c s o H x y v u Q I U E h hs;obtain⟨p,xs,i,z,rfl,rfl,L,C,q⟩:=h;cases U;obtain⟨t,rfl⟩:=E;obtain⟨Y,r,pl,hz⟩:=I.tuple L;obtain⟨j,T,B,h3,h4,h5⟩:=qN C;obtain⟨w,Z,f⟩:=r.get B;have J:=r.length;have hn:=jR;have fin:EP X c o Q w s:=⟨z,H,I,f,q⟩
 exact subscriptTail_builtinR (x:=w) pl.typeIs slot_tuple_getitem.lookup
  (getItem_tuple (j:=j) (Q:=λr O=>r=w/\EP X c o Q r O) pl (by lia) (by lia) (by rw[Zm,<-J];exact T) (by simpa using Z) ⟨rfl,fin⟩) hs
def KF:IxR X PH:=by
 intro g f p s U H x y v u Q I O C h hs;obtain⟨z,i,c,rfl,rfl,Z,B,q⟩:=h;obtain⟨t,rfl⟩:=O;obtain⟨t',rfl⟩:=C;obtain⟨j,n,o,Y,h4,T⟩:=qN B;have J:z.cps.toList.length=z.length:=by simp[Str.length]
 rw[J] at n h4 T;have hn:=jR
 exact tail_any (typeIs_str s z t) slot_str_getitem.lookup (getItem_str (c:=c) (by
  have E:decide (i < -(2 ^ 63:Int))=aT:=decide_eq_false (by lia);have L:decide (i ≥ 2 ^ 63)=aT:=decide_eq_false (by lia);rw[E,L,Wp]) (by rw[n];simpa using o) ⟨.str ⟨#[c]⟩,H,I.tok _,⟨_,rfl⟩,q⟩) hs
abbrev rIx(K:Vf):R2:=λx y H Q=>PD K x y H Q\/PF K x y H Q\/PH x y H Q
def Bj:IxR X (rIx X.K):=Fi.or (Bi.or KF)
def uV(I:List Value)(n j:Nat)(u:Value):Obj.mapSeq (·.setIfInBounds j u) { cls:=.type "list", data:=.seq I.toArray n }={ cls:=.type "list", data:=.seq (I.set j u).toArray n }:=by
 simp[Obj.mapSeq]
def Inv.lst{f:List (Addr × Obj)}{g:St}{H:Hp}{s:Shared}{p:Addr}{xs:List V}(I:Inv X f g H s)(h:H p=aa (.lst xs)) :
  ∃ (c:List Value) (n:Nat),aO xs c/\s.heap.get? p=aa { cls:=.type "list", data:=.seq c.toArray n }/\xs.length<=sizeLine:=by
 obtain⟨z,c,n,r,e⟩:=I.hok p _ h;exact⟨c,n,r,e,z⟩
def Inv.lstUpd{g:List (Addr × Obj)}{v:St}{H:Hp}{s:Shared}{p:Addr}{xs y:List V}{j c:List Value}{n o:Nat}{f:Obj->Obj}(I:Inv X g v H s)(h:H p=aa (.lst xs))
  (B:s.heap.get? p=aa { cls:=.type "list", data:=.seq j.toArray n }) (z:f { cls:=.type "list", data:=.seq j.toArray n }={ cls:=.type "list", data:=.seq c.toArray o }) (r:aO y c) (C:y.length<=sizeLine) (t:Nat) :
  Inv X g v (upd H p (.lst y)) { s with heap:=s.heap.update p f,toks:=t }:=by
 have e:(s.heap.update p f).get? p=aa { cls:=.type "list", data:=.seq c.toArray o }:=by
  rw[Xv f B (by rw[z] <;> rfl),z]
 refine I.write (x:=p) (e:=p) (by rw[h];trivial) (.inl rfl) (λb u hb q=>(Xp _ _ (Ne.symm hb)).trans q) ⟨_,e⟩ ?_;exact⟨C,c,o,r,e⟩
abbrev PJ:V->V->V->Hp->(Hp->Prop)->Prop:=λo i v H Q=>∃p xs k j,o = .ref p/\i = .int k/\H p=aa (.lst xs)/\ixN xs.length k=aa j/\Q (upd H p (.lst (xs.set j v)))
def Bk:Kk X PJ:=by
 intro c s O H o i v ov iv u Q I T Z rv h;obtain⟨p,xs,k,j,rfl,rfl,L,Y,q⟩:=h;cases T;obtain⟨t,rfl⟩:=Z;obtain⟨f,n,r,z,U⟩:=I.lst L;obtain⟨g,h2,C,h4⟩:=qM Y;have y:=r.length;have hn:=jR
 have E:Inv X c O (upd H p (.lst (xs.set j v))) { s with heap:=s.heap.update p (Obj.mapSeq (·.setIfInBounds j u)) }:=
  I.lstUpd L z (uV f n j u) (r.set rv j) (by rw[Ys];exact U) s.toks
 by_cases J:0<=k
 ·have B:k.toNat=j:=by
   rw[Uc J h4] at g;exact Option.some.inj g
  exact PySem.W.ki_setAt z J (by lia) (by rw[Zm,<-y];exact h4) (by rw[B];exact⟨_,E,q⟩)
 ·have B:(k+(f.toArray.size:Int)).toNat=j:=by
   rw[Ub (by lia) C] at g;rw[Zm,<-y];exact Option.some.inj g
  exact PySem.W.ki_setBack z (by lia) (by rw[Zm,<-y];exact C) (by lia) (by rw[B];exact⟨_,E,q⟩)
def qP(lo c:Option Int)(n:Nat):(Uf lo c aD n).1=((HT.sIx n 0 lo:Nat):Int)/\(Uf lo c aD n).2.1=((HT.sIx n n c:Nat):Int)/\(Uf lo c aD n).2.2=1:=by
 refine⟨?_,?_,rfl⟩
 ·cases lo with
  |none=>simp[Uf,HT.sIx]
  |some i=>
   simp only[Uf,HT.sIx,X9,show(1:Int) > 0 by decide,if_true];by_cases h:i < 0
   ·simp only[h,if_true] <;> lia
   ·simp only[h,if_false] <;> lia
 ·cases c with
  |none=>simp[Uf,HT.sIx]
  |some i=>
   simp only[Uf,HT.sIx,X9,show(1:Int) > 0 by decide,if_true];by_cases h:i < 0
   ·simp only[h,if_true] <;> lia
   ·simp only[h,if_false] <;> lia
def o5(I:List Value)(lo h:Option Int):slicePick I.toArray lo h aD=((I.drop (HT.sIx I.length 0 lo)).take (HT.sIx I.length I.length h - HT.sIx I.length 0 lo)).toArray:=by
 obtain⟨g,f,c⟩:=qP lo h I.toArray.size;unfold slicePick;rw[g,f,c];simp only[sliceRange_one,pick_run,Zm] <;> rfl
abbrev So(K:Vf):V->Option Int->Option Int->Hp->VK->Prop:=λx lo h H Q=>∃a xs,x = .ref a/\SqL K H a xs/\∀p,H p=aD->Q (.ref p) (upd H p (.lst (mL xs lo h)))
def Fj:SlR X (So X.K):=by
 intro p s B H x v C E lo f sl Q I j hs pl z h;obtain⟨a,xs,rfl,n,q⟩:=h;cases j;obtain⟨u,r,g,y⟩:=I.list n;have c:=r.length;refine⟨"list", _,slot_list_getitem.lookup,g.isList.typeIs,?_⟩;refine UB g.isList hs pl z .none (by simp) ?_ (by rw[Zm] <;> lia);rw[o5,<-c];refine⟨.ref s.heap.objs.size,_,I.laid (t':=s.toks) (o:=.lst (mL xs lo f)) (λb ob q=>Zk _ q) (Zd _) ?_,rfl,q _ (I.hok.fresh (Zd _))⟩;exact⟨ZC (kD xs lo f) y,_,0,(r.drop (HT.sIx xs.length 0 lo)).take (HT.sIx xs.length xs.length f - HT.sIx xs.length 0 lo),ZG _ rfl⟩
abbrev bX:V->Bool
 |.non=>aN
 |.bl _=>aN
 |.int _=>aN
 |.str _=>aN
 |_=>aT
abbrev eqV:V->V->Bool
 |.non,.non=>aN
 |.bl a,.bl b=>a == b
 |.bl a,.int b=>(if a then 1 else 0) == b
 |.int a,.bl b=>a == (if b then 1 else 0)
 |.int a,.int b=>a == b
 |.str a,.str b=>a == b
 |_,_=>aT
def KG(g:aJ y u)(c:aJ x v)(h:bX y=aN)(f:bX x=aN):Vb A s u v (eqV y x):=by
 cases y with
 |non=>
  cases g;cases x with
  |non=>cases c;exact SeqAt.EqAt.same _
  |bl b=>cases c;exact SeqAt.EqAt.none_bool b
  |int b=>obtain⟨t,rfl⟩:=c;exact SeqAt.EqAt.none_int b t
  |str b=>obtain⟨t,rfl⟩:=c;exact SeqAt.EqAt.none_str b t
  |_=>exact absurd (show aT=aN from f) Zg
 |bl a=>
  cases g;cases x with
  |non=>cases c;exact SeqAt.EqAt.bool_none a
  |bl b=>cases c;exact SeqAt.EqAt.bool_bool a b
  |int b=>obtain⟨t,rfl⟩:=c;exact SeqAt.EqAt.bool_int a b t
  |str b=>obtain⟨t,rfl⟩:=c;exact SeqAt.EqAt.bool_str a b t
  |_=>exact absurd (show aT=aN from f) Zg
 |int a=>
  obtain⟨T,rfl⟩:=g;cases x with
  |non=>cases c;exact SeqAt.EqAt.int_none a T
  |bl b=>cases c;exact SeqAt.EqAt.int_bool a T b
  |int b=>obtain⟨t,rfl⟩:=c;exact SeqAt.EqAt.int_int a T b t
  |str b=>obtain⟨t,rfl⟩:=c;exact SeqAt.EqAt.int_str a T b t
  |_=>exact absurd (show aT=aN from f) Zg
 |str a=>
  obtain⟨T,rfl⟩:=g;cases x with
  |non=>cases c;exact SeqAt.EqAt.str_none a T
  |bl b=>cases c;exact SeqAt.EqAt.str_bool a T b
  |int b=>obtain⟨t,rfl⟩:=c;exact SeqAt.EqAt.str_int a T b t
  |str b=>obtain⟨t,rfl⟩:=c;exact SeqAt.EqAt.str_str a T b t
  |_=>exact absurd (show aT=aN from f) Zg
 |_=>exact absurd (show aT=aN from h) Zg
abbrev eqU(x:V)(u:Value):Bool:=match u with
 |.none=>eqV .non x
 |.bool b=>eqV (.bl b) x
 |.int i _=>eqV (.int i) x
 |.str z _=>eqV (.str z) x
 |_=>aT
def qQ(r:aJ y u)(f:bX y=aN):eqU x u=eqV y x:=by
 cases y with
 |non=>cases r;rfl
 |bl b=>cases r;rfl
 |int i=>obtain⟨t,rfl⟩:=r;rfl
 |str z=>obtain⟨t,rfl⟩:=r;rfl
 |_=>exact absurd (show aT=aN from f) Zg
def jg:∀ {xs:List V} {U:List Value},aO xs U->xs.all bX=aN->U.any (eqU x)=xs.any λy=>eqV y x
 |_,_,.nil,_=>rfl
 |y::xs,u::U,.cons r t,f=>by
  rw[Yo,bAE] at f;rw[YB,YB,qQ r f.1,jg t f.2]
def cJ(c:aJ x v)(g:bX x=aN):∀ {xs:List V} {U:List Value},aO xs U->xs.all bX=aN->∀u ∈ U,Vb A s u v (eqU x u)
 |_,_,.nil,_=>λu hu=>by cases hu
 |y::xs,u::U,.cons r t,f=>λh hu=>by
  rw[Yo,bAE] at f;rcases Zl.mp hu with rfl |hu
  ·rw[qQ r f.1];exact KG r c f.1 g
  ·exact cJ c g t f.2 h hu
abbrev inV(x:V)(xs:List V):Bool:=xs.any λy=>eqV y x
abbrev rIn(K:Vf)(neg:Bool):R2:=λx y H Q=>∃p xs,y = .ref p/\(SqL K H p xs\/SqT K H p xs)/\bX x=aN/\xs.all bX=aN/\Q (.bl (if neg then !inV x xs else inV x xs)) H
def zf:OpR X (VQ .In) (rIn X.K aT):=by
 intro j s B H x y v u Q I g z h;obtain⟨p,xs,rfl,hq,n,fs,q⟩:=h;cases z;rcases hq with hq |hq
 ·obtain⟨c,r,pl,o⟩:=I.list hq;refine SeqAt.in_listAt (eqU x) pl.isList (λw f=>cJ g n r fs w (by simpa using f)) ⟨.bl _,H,I,rfl,?_⟩;rw[show c.toArray.any (eqU x)=c.any (eqU x) by simp,jg r fs];exact q
 ·obtain⟨c,r,pl,o⟩:=I.tuple hq;refine SeqAt.in_tupleAt (eqU x) pl (λw f=>cJ g n r fs w (by simpa using f)) ⟨.bl _,H,I,rfl,?_⟩;rw[show c.toArray.any (eqU x)=c.any (eqU x) by simp,jg r fs];exact q
def qR:OpR X (VQ .NotIn) (rIn X.K aN):=by
 intro j s B H x y v u Q I g z h;obtain⟨p,xs,rfl,hq,n,fs,q⟩:=h;cases z;rcases hq with hq |hq
 ·obtain⟨c,r,pl,o⟩:=I.list hq;refine SeqAt.notIn_listAt (eqU x) pl.isList (λw f=>cJ g n r fs w (by simpa using f)) ⟨.bl _,H,I,rfl,?_⟩;rw[show c.toArray.any (eqU x)=c.any (eqU x) by simp,jg r fs];exact q
 ·obtain⟨c,r,pl,o⟩:=I.tuple hq;refine SeqAt.notIn_tupleAt (eqU x) pl (λw f=>cJ g n r fs w (by simpa using f)) ⟨.bl _,H,I,rfl,?_⟩;rw[show c.toArray.any (eqU x)=c.any (eqU x) by simp,jg r fs];exact q
def qS:aV X (.builtin "len") (λxs H Q=>∃p y,xs=[.ref p]/\(SqL X.K H p y\/SqT X.K H p y)/\Q (.int y.length) H):=by
 intro j s v H xs U Q I r h;obtain⟨p,y,rfl,hq,q⟩:=h;obtain⟨u,rfl,n⟩:=cI r;cases n;have z:=jR;rcases hq with hq |hq
 ·obtain⟨g,f,pl,o⟩:=I.list hq;have c:=f.length;exact Calls.call_len_list pl.isList (by simp only[Zm] <;> lia) ⟨.int y.length,H,I.tok _,⟨s.toks+1,by rw[Zm,c]⟩,q⟩
 ·obtain⟨g,f,pl,o⟩:=I.tuple hq;have c:=f.length;exact len_tuple pl (by simp only[Zm] <;> lia) ⟨.int y.length,H,I.tok _,⟨s.toks+1,by rw[Zm,c]⟩,q⟩
def qT:aV X (.type "list") (λxs H Q=>∃p y,xs=[.ref p]/\(SqL X.K H p y\/SqT X.K H p y)/\∀l,H l=aD->Q (.ref l) (upd H l (.lst y))):=by
 intro j s J H xs U Q I r h;obtain⟨p,y,rfl,hq,q⟩:=h;obtain⟨u,rfl,L⟩:=cI r;cases L
 have fin:∀ (c:List Value),aO y c->y.length<=sizeLine->∀ (f:Heap) (C:Nat),(∀b O,s.heap.get? b=aa O->f.get? b=aa O) ->
   f.get? s.heap.objs.size=aa { cls:=.type "list", dict:=aD,data:=.seq c.toArray C,slots:=#[] }->EP X j J Q (.ref s.heap.objs.size) { s with heap:=f }:=λc g z f C kp e=>
  ⟨.ref s.heap.objs.size,_,I.laid (t':=s.toks) kp (Zd _) (show bv X.prog X.w _ f _ (.lst y) from ⟨z,c,C,g,e⟩),rfl,q _ (I.hok.fresh (Zd _))⟩
 rcases hq with hq |hq
 ·obtain⟨c,g,pl,z⟩:=I.list hq;have v:=g.length;obtain⟨o,E,B,n,hd⟩:=pl.isList;exact call_list_seq p (.inl rfl) E B hd (λf C kp e=>fin c g z f C kp e) (by simp only[Zm] <;> lia)
 ·obtain⟨c,g,pl,z⟩:=I.tuple hq;have v:=g.length;obtain⟨o,E,B,n,hd⟩:=pl;exact call_list_seq p (.inr rfl) E B hd (λf C kp e=>fin c g z f C kp e) (by simp only[Zm] <;> lia)
def o6:aV X (.type "tuple") (λxs H Q=>∃p y,xs=[.ref p]/\((SqL X.K H p y/\∀l,H l=aD->Q (.ref l) (upd H l (.tup y)))\/(SqT X.K H p y/\Q (.ref p) H))):=by
 intro c s v H xs U Q I r h;obtain⟨p,y,rfl,h⟩:=h;obtain⟨u,rfl,J⟩:=cI r;cases J;rcases h with ⟨j,q⟩ |⟨j,q⟩
 ·obtain⟨f,n,pl,C⟩:=I.list j;have B:=n.length;refine call_tuple_list pl.isList (λg kp=>?_) (by simp only[Zm] <;> lia);have z:Inv X c v H { s with heap:=g }:=I.kept (t':=s.toks) kp
  have E:Inv X c v (upd H g.objs.size (.tup y)) { s with heap:=g.push { cls:=.type "tuple", data:=.seq f.toArray } }:=
   z.laid (t':=s.toks) (λb o e=>Zk _ e) (Zd _) (show bv X.prog X.w _ _ _ (.tup y) from ⟨C,f,n,qI.new _ _⟩)
  exact⟨.ref g.objs.size,_,E,rfl,q _ (z.hok.fresh (Zd _))⟩
 ·obtain⟨f,n,pl,C⟩:=I.tuple j;exact call_tuple_same pl ⟨.ref p,H,I,rfl,q⟩
abbrev tyV(K:Vf)(T:String)(x:V)(H:Hp):Prop:=match x with
 |.str _=>T = "str"
 |.int _=>T = "int"
 |.ref p=>(T = "list"/\∃xs,SqL K H p xs)\/(T = "tuple"/\((∃o,K.lookup p=aa o/\o.cls = .type "tuple"/\o.dict=aD)\/∃xs,H p=aa (.tup xs))) ∨
   (T = "dict"/\((∃c,H p=aa (.dK c))\/∃c,H p=aa (.dT c)))\/(T = "set"/\∃S n,H p=aa (.set S n))
 |_=>False
def KH(I:Inv X q y H s)(r:aJ x v)(ty:tyV X.K T x H) :
  s.TypeIs v T/\∀a,v = .ref a->∃ob,s.heap.get? a=aa ob/\ob.dict=aD:=by
 cases x with
 |str z=>
  obtain⟨t,rfl⟩:=r;cases (show T = "str" from ty);exact⟨typeIs_str s z t,λ_ e=>nomatch e⟩
 |int i=>
  obtain⟨t,rfl⟩:=r;cases (show T = "int" from ty);exact⟨typeIs_int s i t,λ_ e=>nomatch e⟩
 |ref p=>
  cases r;rcases ty with ⟨rfl,xs,u⟩ |⟨rfl,⟨o,h,j,hd⟩ |⟨xs,h⟩⟩ |⟨rfl,h⟩ |⟨rfl,S,n,h⟩
  ·obtain⟨g,_,pl,_⟩:=I.list u;refine⟨pl.isList.typeIs,λa e=>?_⟩;cases e;obtain⟨o,n,e,c,hd,_⟩:=pl;exact⟨o,e,hd⟩
  ·refine⟨⟨o,I.kIn p o h,j⟩,λa e=>?_⟩;cases e;exact⟨o,I.kIn _ o h,hd⟩
  ·obtain⟨_,g,_,o,e,j,_,_,hd⟩:=I.hok p _ h;refine⟨⟨o,e,j⟩,λa E=>?_⟩;cases E;exact⟨o,e,hd⟩
  ·have z:∃o,s.heap.get? p=aa o/\o.ExactDict:=by
    rcases h with ⟨f,h⟩ |⟨f,h⟩
    ·obtain⟨_,_,_,_,o,_,_,e,ex,_⟩:=I.hok p _ h;exact⟨o,e,ex⟩
    ·obtain⟨_,_,_,_,o,_,_,e,ex,_⟩:=I.hok p _ h;exact⟨o,e,ex⟩
   obtain⟨o,e,ex⟩:=z;refine⟨⟨o,e,ex.1⟩,λa E=>?_⟩;cases E;exact⟨o,e,ex.2.1⟩
  ·obtain⟨o,_,_,_,e,ex,_⟩:=I.hok p _ h;refine⟨⟨o,e,ex.1⟩,λa E=>?_⟩;cases E;exact⟨o,e,ex.2.1⟩
 |_=>exact False.elim ty
abbrev tBM(K:Vf)(T:String)(r:V->List V->Hp->VK->Prop)(g:TE)(t:TA):TE:=λc H Q=>g c H λx h=>tyV K T x h/\t c h λxs f=>r x xs f Q
variable {o e:Expr} {es:List Expr} {to:TE} {t:TA} {name:Str} {apos cpos:Pos} {T id:String} {r:V->List V->Hp->VK->Prop}
def pG(Y:PlainAttrs T)(slot:Slot T name id)(q:typeOf (.builtin id)=pure (.type "method_descriptor"))(Z:MtR X id r)(L:PE X o to)(ha:PA X (e::es) t)
  (g:attributeBase o name X.env (eval o X.env)=eval o X.env:=by rfl)
  (j:((backTo cpos (Ug (e::es) X.env)).all (λx=>!x.1) && (backToKw cpos (keywordEach [] X.env)).all (λx=>x.1.isSome)
   && decide ((e::es).length+([]:List Keyword).length+(if ([]:List Keyword).isEmpty then 0 else 1) < 30))=aN:=by rfl)
  (f:(apos.endLine == cpos.line)=aN:=by rfl) (hs:Ug (e::es) X.env=(aT,eval e X.env)::Ug es X.env:=by rfl) (c:(backTo cpos (Ug es X.env)).any (·.1)=aT:=by rfl) :
  PE X (.Call (.Attribute o name apos) (e::es) [] cpos) (tBM X.K T r to t):=by
 intro p s n H Q I h;refine wpAny_Call_method_late g j f rfl (thn (L p s n H _ I h) λv E ⟨x,H1,u,r1,ty,q1⟩=>?_);obtain⟨h1,z⟩:=KH u r1 ty;refine⟨T,id,Y,slot,q,h1,z,?_⟩;have y:=ha cpos p E n H1 _ u q1;rw[hs] at y ⊢;refine Calls.callWith_builtin (by show(aT || (backTo cpos (Ug es X.env)).any (·.1))=aT;rw[c] <;> rfl) (WK ?_);exact thn y λU J ⟨C,H2,B,r2,O⟩=>Z p J n H2 x C v U Q B r1 r2 O
end
abbrev MtM(X:Cx)(id:String)(r:V->List V->Hp->VK->Prop):Prop:=
 ∀ (p:List (Addr × Obj)) (s:Shared) (b:St) (H:Hp) (x:V) (xs:List V) (v:Value) (u:List Value) (Q:VK),Inv X p b H s->aJ x v->aO xs u->r x xs H Q ->
  wpAny (model X.prog X.w) X.A (call (.builtin id) (v::u)) (EP X p b Q) X.xe s
def aO.one:∀ {x:V} {U:List Value},aO [x] U->∃u,U=[u]/\aJ x u
 |_,_,.cons r .nil=>⟨_,rfl,r⟩
def aO.eraseIdx:∀ {xs:List V} {u:List Value} (i:Nat),aO xs u->aO (xs.eraseIdx i) (u.eraseIdx i)
 |_,_,_,.nil=>.nil
 |_,_,0,.cons _ t=>t
 |_,_,i+1,.cons r t=>.cons r (aO.eraseIdx i t)
def aO.rep(h:aO xs u):∀k:Nat,aO (Zq k xs).flatten (Zq k u).flatten
 |0=>.nil
 |k+1=>by
  rw[Yh,Yh,Yy,Yy];exact aO.append h (aO.rep h k)
def pH{b:Type}:∀ (l:List b) (i:Nat),(l.eraseIdx i).length<=l.length
 |[],_=>Zd _
 |_::_,0=>YH _
 |_::r,i+1=>Wa (pH r i)
def pJ(I:List Value):∀ (k:Nat) (b:List Value),
  Wm (λX c=>X++c) b.toArray (Zq k I.toArray)=(b++(Zq k I).flatten).toArray
 |0,b=>by simp
 |k+1,b=>by
  have e:b.toArray++I.toArray=(b++I).toArray:=by simp
  have E:(b++I)++(Zq k I).flatten=b++(Zq (k+1) I).flatten:=by
   rw[Yh,Yy,Z8]
  rw[<-E,<-pJ I k (b++I),<-e,Yh,Y1]
section
variable {X:Cx} {pins:List (Addr × Obj)} {σ:St} {H:Hp} {s:Shared} {l b:Addr} {xs ys zs:List V}
def Inv.lset{c its':List Value}{n:Nat}{f:Array Value->Array Value}{T:Nat}(I:Inv X pins σ H s)(h:H l=aa (.lst xs))
  (e:s.heap.get? l=aa { cls:=.type "list", data:=.seq c.toArray n }) (o:f c.toArray=its'.toArray) (p:aO ys its') (g:ys.length<=sizeLine) :
  Inv X pins σ (upd H l (.lst ys)) { s with heap:=s.heap.update l (Obj.mapSeq f),toks:=T }:=by
 have q:=PySem.IsL.update e f;rw[o] at q;refine I.write (x:=l) (e:=l) (by rw[h];exact trivial) (.inl rfl) (λB u hb j=>(Xp s.heap (Obj.mapSeq f) (Ne.symm hb)).trans j) ⟨_,q⟩ ?_;exact⟨g,its',_,p,q⟩
def Inv.lnew{t':Nat}(I:Inv X pins σ H s)(c:aO ys its)(h:ys.length<=sizeLine) :
  Inv X pins σ (upd H s.heap.objs.size (.lst ys)) { s with heap:=s.heap.push { cls:=.type "list", data:=.seq its.toArray },toks:=t' }:=
 I.laid (λ_ _ q=>Zk _ q) (Zd _) ⟨h,its,0,c,ZG _ rfl⟩
def Inv.fresh(I:Inv X pins σ H s):H s.heap.objs.size=aD:=I.hok.fresh (Zd _)
def Inv.lstM(I:Inv X pins σ H s)(h:H l=aa (.lst xs)):xs.length<=sizeLine/\∃ (c:List Value) (n:Nat),aO xs c/\xs.length=c.length/\s.heap.get? l=aa { cls:=.type "list", data:=.seq c.toArray n }:=by
 obtain⟨z,c,n,r,e⟩:=I.hok l _ h;exact⟨z,c,n,r,r.length,e⟩
def Bl{n:Nat}(h:n<=sizeLine):Builtin.List.listTooLong n=aT:=by
 unfold Builtin.List.listTooLong;exact decide_eq_false (by lia)
end
section
variable {X:Cx}
abbrev Fk:V->List V->Hp->VK->Prop:=λx v H Q=>∃l xs y,x = .ref l/\v=[y]/\H l=aa (.lst xs)/\xs.length < sizeLine/\Q .non (upd H l (.lst (xs++[y])))
def pK:MtM X "list.append" Fk:=by
 intro p s o H x B v U Q I g j h;obtain⟨l,xs,y,rfl,rfl,c,C,q⟩:=h;cases g;obtain⟨u,rfl,f⟩:=j.one;obtain⟨z,b,n,r,E,e⟩:=I.lstM c;refine VL WT ⟨_,e,rfl⟩ F.entry_list_append (F.args_list_append_2 _ _) (PySem.list_append l b.toArray n u (by rw[Zm];lia)) ⟨e,?_⟩;refine⟨.non,_,I.lset (its':=b++[u]) c e (by simp) (r.append (.cons f .nil)) ?_,rfl,q⟩;rw[Zn,ZO]
 lia
abbrev KI:V->List V->Hp->VK->Prop:=λx v H Q=>∃l xs i k y,x = .ref l/\v=[.int i]/\H l=aa (.lst xs)/\-(2 ^ 63)<=i/\i < 2 ^ 63/\seqIndex? i xs.length=aa k/\xs[k]?=aa y/\Q y (upd H l (.lst (xs.eraseIdx k)))
def Bm:MtM X "list.pop" KI:=by
 intro p s T H x U v Y Q I E J h;obtain⟨l,xs,i,k,y,rfl,rfl,f,C,g,O,L,q⟩:=h;cases E;obtain⟨u,rfl,B⟩:=J.one;obtain⟨t,rfl⟩:=B;obtain⟨z,b,n,r,o,e⟩:=I.lstM f;obtain⟨w,j,c⟩:=r.get L
 refine VL WX ⟨_,e,rfl⟩ F.entry_list_pop (F.args_list_pop_2 _ _)
  (MeetsSeq.list_pop_at l b.toArray n i t k w (fitsIndex_both C g) (by rw[Zm,<-o];exact O) (by rw[<-Array.getElem?_toList];exact j) (by rw[Zm];lia)) ⟨e,?_⟩
 refine⟨y,_,I.lset (its':=b.eraseIdx k) f e ?_ (r.eraseIdx k) ?_,c,q⟩
 ·show b.toArray.eraseIdxIfInBounds k=(b.eraseIdx k).toArray;rw[List.eraseIdxIfInBounds_toArray]
 ·have:=pH xs k
  lia
abbrev Sq:R2:=λx y H Q=>∃l b xs z,x = .ref l/\y = .ref b/\H l=aa (.lst xs)/\H b=aa (.lst z)/\xs.length+z.length<=sizeLine/\∀p,H p=aD->Q (.ref p) (upd H p (.lst (xs++z)))
def uW:OpR X (VG .Add) Sq:=by
 intro p s L H x y v u Q I J o h;obtain⟨l,b,xs,T,rfl,rfl,g,j,O,q⟩:=h;cases J;cases o;obtain⟨z,f,n,r,U,e⟩:=I.lstM g;obtain⟨Z,c,Y,r2,C,B⟩:=I.lstM j;refine PySem.P.add_list e B ?_ (by rw[Zm,Zm];lia);have E:f.toArray++c.toArray=(f++c).toArray:=by simp
 rw[E];exact⟨.ref _,_,I.lnew (t':=s.toks) (r.append r2) (by rw[Zn];lia),rfl,q _ I.fresh⟩
abbrev Sr:R2:=λx y H Q=>∃l k xs,x = .ref l/\y = .int k/\H l=aa (.lst xs)/\-(2 ^ 63)<=k/\k < 2 ^ 63/\xs.length * k.toNat<=sizeLine ∧
 ∀p,H p=aD->Q (.ref p) (upd H p (.lst (Zq k.toNat xs).flatten))
def Fm{b:Type}(xs:List b)(k:Nat):(Zq k xs).flatten.length=k * xs.length:=by
 induction k with
 |zero=>simp
 |succ k I=>rw[Yh,Yy,Zn,I,X4,Nat.add_comm]
def KJ:OpR X (VG .Mult) Sr:=by
 intro C s σ H x y v u Q I rx O h;obtain⟨l,k,xs,rfl,rfl,L,h1,J,E,q⟩:=h;cases rx;obtain⟨t,rfl⟩:=O;obtain⟨z,b,n,r,Z,e⟩:=I.lstM L;have f:b.toArray.size * k.toNat<=sizeLine:=by rw[Zm,<-Z];exact E
 have j:¬ b.toArray.size * k.toNat > (2 ^ 63 - 1) / 8:=by
  have:(sizeLine:Nat)<=(2 ^ 63 - 1) / 8:=by decide
  lia
 have o:¬ (!Builtin.List.listFitsIndex k)=aN:=by
  rw[fitsIndex_both h1 J];exact Zg
 have c:¬ Builtin.List.listTooLong (b.toArray.size * k.toNat)=aN:=by
  rw[Bl f];exact Zg
 have g:Wm (λp B=>p++B) #[] (Zq (if b.toArray.isEmpty=aN then 0 else k.toNat) b.toArray)=(Zq k.toNat b).flatten.toArray:=by
  have Y:∀m:Nat,Wm (λp B=>p++B) #[] (Zq m b.toArray)=(Zq m b).flatten.toArray:=λm=>by
   have:=pJ b m [];rw[Y2] at this;exact this
  rw[Y];cases b with
  |nil=>simp
  |cons a r'=>rw[if_neg (by simp)]
 refine wpAny_binaryOp_repeat_ref (T := "list") (U := "int") (by decide) ⟨_,e,rfl⟩ (λs'=>typeIs_int s' k t) noFill_list_mul F.fills_int_mul F.slot_int_rmul repeat_list F.slot_int_index.lookup
  (VL F.slot_int_rmul (typeIs_int s k t) F.entry_int_rmul (F.args_int_rmul_2 _ _) (int___rmul___int_list k t l b.toArray n)
   ⟨e,rfl,⟨_,e,rfl⟩,VL F.slot_list_mul ⟨_,e,rfl⟩ F.entry_list_mul (F.args_list_mul_2 _ _) (AutoListH.list___mul___list_int_3 l b.toArray n k t o j c) ⟨e,?_⟩⟩)
 rw[g];exact⟨.ref _,_,I.lnew (t':=s.toks) (r.rep k.toNat) (by rw[Fm,Nat.mul_comm];exact E),rfl,q _ I.fresh⟩
end
end L2
namespace Att
open PySem PySem.W PySem.Calls PyProof.Rows
def ls:∀ (ns:List Int) (vs:List Value),WellAll P h vs (ns.map WData.int)->IntsAre vs ns:=by
 intro ns
 induction ns with
 |nil=>
  intro vs w;rw[Z4] at w;cases w;exact .nil
 |cons n ns I=>
  intro vs w;rw[Zz] at w;cases w with
  |cons a b=>
   cases a;exact .cons _ _ (I _ b)
def zg{l:OpenLaw}{n:Nat}(C:l.most=aa n){P:Params}{h:Heap}{args:List WData}{v:List Value}
  (b:l.row.toRowW.claim.pre args=aN) (j:WellAll P h v args) :
  ∃a vs ns,v=[Value.ref a]/\args=[WData.list (ns.map WData.int)]/\h.get? a=aa { cls:=.type "list", data:=.seq vs.toArray }/\IntsAre vs ns/\ns.length<=n:=by
 have o:WShape.hasAll [] args [.list .int]=aN:=(pre_splitW b).1;have p:l.pre.holds [] { args:=args }=aN:=(pre_splitW b).2;obtain⟨d,r,rfl,E,z⟩:=hasAllW_cons o;obtain rfl:=hasAllW_nil z;obtain⟨xs,rfl,y⟩:=hasW_list E;obtain⟨ns,rfl⟩:=items_int y
 have f:ns.length<=n:=by
  unfold OpenLaw.pre at p
  have h4:(WTm.not (.lt (.lit (.int (n:Int))) (.len (.arg 0)))).holds [] { args:=[.list (ns.map .int)] }=aN:=by
   have h4:=(holds_andW p).1;rw[C] at h4;exact h4
  have g:=condW_of h4 (w_not (w_lt w_lit (w_len_list (w_arg rfl))));rw[Za] at g;refine Nat.le_of_not_lt λq=>?_;have Q:(n:Int) < ((ns.length:Nat):Int):=by lia
  first
   |(rw[decide_eq_true Q] at g;exact absurd g (by decide))
   |(simp at g;lia)
 cases j with
 |cons B w2=>
  cases w2;cases B with
  |list u c=>exact⟨_,_,ns,rfl,rfl,u,ls ns _ c,f⟩
def zh(l:OpenLaw)(args:List WData):l.row.toRowW.claim.post args (.bool aN) args=aN:=
 postW_of (r:=l.row.toRowW) (X:=(aN == aN))
  (show WShape.has [] (.bool aN) .bool=aN by first |rfl |decide |simp[WShape.has,WShape.arms,WShape.armsAll])
  (show(WTm.eq .res (.lit (.bool aN))).value [] { args:=args,res:=aa (.bool aN),after:=args }=aa (.bool (aN == aN)) from w_eq_bool (w_res rfl) w_lit) rfl
def attach_call{l:OpenLaw}{n:Nat}{q:Program}{loose:List Str}{X:(Str->Option Value)->Heap->Prop}{U:World->Heap->Prop}{d:DefRec}
  (hn:l.most=aa n) (J:d.params.defaults=[])
  (call:∀ (w:World) (s₀ b:Shared) (mg E:Str->Option Value) (j:Addr) (o:Obj) (z C c:Value) (a:Addr) (vs:List Value) (ns:List Int),
   Ground q loose [] X w s₀ mg E b.heap->U w b.heap ->
   b.heap.get? j=aa o->o.data = .func (docDef d.name d.params d.body d.scope z C c)->b.heap.CodeRec C d.name->mg d.name=aa (.ref j) ->
   b.heap.get? a=aa { cls:=.type "list", data:=.seq vs.toArray }->IntsAre vs ns->ns.length<=n->b.gens=#[] ->
   codeAny (model l.prog w) callerA (.call (.ref j) ⟨[.ref a],[]⟩) (λr v=>r = .ok (.ret (.bool aN))/\OldK b.heap v.heap/\v.os=b.os/\AllBare v.gens) b) :
  WalkO q loose X U l.row.toRowW d [] (λf vs=>PySem.call f vs):=by
 intro w s₀ b mg E G Y j o z C c dV kV ho hd B L I hg T O as p Q hrd y hlo;obtain rfl:dV = .none:=Dflts.none L J;obtain rfl:kV = .none:=Dflts.noKw L;obtain⟨a,vs,ns,rfl,rfl,u,h,g⟩:=zg hn p y;refine enter_call (VP (call w s₀ b mg E j o z C c a vs ns G Y ho (fd_plain hd) B I u h g hg) λr v hq=>?_);obtain⟨rfl,Z,h3,h4⟩:=hq;exact⟨.inl ⟨.bool aN,.bool aN,[],rfl,λ_=>rfl,.bool aN,zh l _,λ_=>⟨List.Pairwise.nil,λ_ hm=>(nomatch hm)⟩⟩,Z,h3,h4⟩
end Att
namespace L2
open PySem PySem.Spec PyProof.Rows
def jS:∀ {vs:List Value} {ns:List Int},IntsAre vs ns->aO (ns.map V.int) vs
 |_,_,.nil=>.nil
 |_,_,.cons n t h=>.cons ⟨t,rfl⟩ (jS h)
abbrev PK(H:Hp):Prop:=∀b,H b=aD\/∃o xs,H b=aa (.frz o (.lst xs))
def Bn{P:Program}{w:World}{K:Vf}{mg Q:Str->Option Value}{CX:CXT}{k:Nat}{T a:Addr}{fd:W2}{x:Str}{sp:Sp}{s₁:Shared}{vs:List Value}{ns:List Int}
  (KX:K.In s₁.heap) (j:s₁.heap.Ns V2 mg) (hb:s₁.heap.Ns VJ Q) (O:∀x:Str,x ≠ "__name__"->Q x=VI x) (p:s₁.heap.NoLimit) (hg:s₁.gens=#[])
  (J:s₁.heap.get? a=aa { cls:=.type "list", data:=.seq vs.toArray }) (hi:IntsAre vs ns) (hl:ns.length<=sizeLine) (hr:Room k callerA)
  (F:∀base:Heap,K.In base->base.Ns V2 mg->FnOk P w K mg base CX k T fd [x] sp) (g:∀ (s:Shared) (u:Value),BindsTo s fd ⟨[u],[]⟩ [(x,u)])
  (U:∀H:Hp,PK H->SqL K H a (ns.map V.int)->sp [.ref a] H (λv _=>v = .bl aN) λ_ _ _=>False)
  (Y:∀H e c,CX [] H s₁ (λ_ _ _=>False) e c->False) :
  codeAny (model P w) callerA (.call (.ref T) ⟨[.ref a],[]⟩) (λr c=>r = .ok (.ret (.bool aN))/\OldK s₁.heap c.heap/\c.os=s₁.os/\AllBare c.gens) s₁:=by
 have rv:=jS hi;have L:=hi.length
 have C:∀H:Hp,PK H->SqL K H a (ns.map V.int)->HOk P w H s₁.heap->(∀b,H b ≠ aD->b=a)->(H a ≠ aD->K.lookup a=aD) ->
   codeAny (model P w) callerA (.call (.ref T) ⟨[.ref a],[]⟩) (λr c=>r = .ok (.ret (.bool aN))/\OldK s₁.heap c.heap/\c.os=s₁.os/\AllBare c.gens) s₁:=by
  intro H hO hS hok hA hK;have B:∀ {b:Addr} {o:Obj},s₁.heap.get? b=aa o->H b=aD->(qJ s₁.heap H).get? b=aa o:=λe n=>AN e n
  have noA:∀ {b:Addr} {o:Obj} {E:Array DictEntry} {ep:Nat},s₁.heap.get? b=aa o->o.data = .dict E ep->H b=aD:=λ{b o E ep} e d=>by
   cases q:H b with
   |none=>rfl
   |some u=>
    have X:b=a:=hA b (by rw[q];simp);subst X;rw[J] at e;cases e;have d':Data.seq vs.toArray _=Data.dict E ep:=d;cases d'
  have f:∀ {b:Addr} {m:Str->Option Value},s₁.heap.Ns b m->(qJ s₁.heap H).Ns b m:=λ{b m} ⟨o,E,ep,e,d,r⟩=>⟨o,E,ep,B e (noA e d),d,r⟩
  have y:K.In (qJ s₁.heap H):=λb o e=>B (KX b o e) (by
   cases q:H b with
   |none=>rfl
   |some u=>
    have X:b=a:=hA b (by rw[q];simp);subst X;rw[hK (by rw[q];simp)] at e;cases e)
  have hM:Mod K mg (qJ s₁.heap H):=⟨y,f j,⟨Q,f hb,O⟩,let ⟨mc,h1,h2⟩:=p;⟨mc,f h1,h2⟩⟩;have e0:Env0 P w K mg (qJ s₁.heap H) callerA [] s₁ H:=⟨rfl,hM,λb o e=>EY e,Nat.le_of_eq (yW _ _),trivial,λb hb=>absurd (show b ∈ ([]:List Addr) from hb) (by simp),hok,.of_eq hg⟩;refine VP ((F _ y (f j)).run callerA [] s₁ H ⟨[.ref a],[]⟩ [.ref a] [.ref a] _ _ hr e0 (g s₁ (.ref a)) (.cons rfl .nil) (U H hO hS)) λr c h=>?_;cases r with
  |error e=>exact(Y H e c h).elim
  |ok fl=>
   cases fl with
   |next=>exact False.elim h
   |brk=>exact False.elim h
   |cont=>exact False.elim h
   |ret u=>
    obtain⟨v,H',os,bare,un,I,r',q⟩:=h;have q':v = .bl aN:=q;subst q';obtain rfl:u=Value.bool aN:=r';refine⟨rfl,OldK.of_keep λb o e=>?_,os,bare⟩;cases q:H b with
    |none=>exact un.keep b o e q (by intro z;exact absurd (show b ∈ ([]:List Addr) from z) (by simp)) (by simp)
    |some u=>
     rcases hO b with z |⟨ob,xs,z⟩
     ·rw[q] at z;cases z
     ·have z2:=un.frzs b ob _ z;obtain⟨e1,_⟩:=hok b _ z;obtain⟨e2,_⟩:=I b _ z2;rw[e] at e1;cases e1;exact e2
 cases hk:K.lookup a with
 |some o=>
  have e:=KX a o hk;rw[J] at e;cases e;refine C (λ_=>aD) (λ_=>.inl rfl) (.inr ⟨_,vs.toArray,_,hk,rfl,rfl,rfl,by rw[Zm,L];exact hl,by simpa using rv⟩) (λb u z=>by have Z:(aD:Option HO)=aa u:=z;cases Z) (λb z=>absurd rfl z) λz=>absurd rfl z
 |none=>
  refine C (λb=>if b=a then aa (.frz { cls:=.type "list", data:=.seq vs.toArray } (.lst (ns.map V.int))) else aD) (λb=>?_) (.inl (.inr ⟨{ cls:=.type "list", data:=.seq vs.toArray },if_pos rfl⟩)) (λb u z=>?_) (λb z=>?_) λ_=>hk
  ·by_cases hb:b=a
   ·exact .inr ⟨_,_,if_pos hb⟩
   ·exact .inl (if_neg hb)
  ·by_cases hb:b=a
   ·have Z:=(if_pos hb).symm.trans z;cases Z;subst hb;exact⟨J,by rw[Za];exact hl,vs,_,rv,J⟩
   ·have Z:=(if_neg hb).symm.trans z;cases Z
  ·by_cases hb:b=a
   ·exact hb
   ·exact absurd (if_neg hb) z
@[inline]abbrev CX0:CXT:=λ_ _ _ _ _ _=>False
@[inline]abbrev E0:XK:=λ_ _ _=>False
structure Fun(K:Vf)(x qual:Str)(st:Stmt)(f:Addr)(fd:W2):Prop where
 ex:∃ (oc:Value) (od:Option Addr) (kV doc pm:Value) (an:Option Addr) (cdv ct:Value) (osl:Array (Option Value)),
  fd=Vm x qual (dP st) (bt st) (ay st) .none kV doc pm an cdv ct/\K.lookup f=aa ⟨oc,od,.func fd,osl⟩/\Vj K cdv qual=aN
 kp:Vq K (.ref f)=aN
section
variable {P:Program} {w:World} {K:Vf} {mg:Str->Option Value} {base:Heap}
def Fun.binds{x q:Str}{st:Stmt}{f:Addr}{g:W2}{ps:List Str}(F:Fun K x q st f g)
  (h:∀ (kV b p:Value) (an:Option Addr) (c ct:Value) (u:List Value),u.length=ps.length->bindArgs (Vm x q (dP st) (bt st) (ay st) .none kV b p an c ct) ⟨u,[]⟩=pure (ps.zip u)):fU K g ps []:=by
 obtain⟨O,n,kV,b,p,an,c,ct,o,rfl,L,j⟩:=F.ex;exact .all (h kV b p an c ct)
def KL{x qual:Str}{st:Stmt}{f:Addr}{O:Value}{g an:Option Addr}{o:Array (Option Value)}{kV b p C ct:Value}(l:K.lookup f=aa ⟨O,g,.func (Vm x qual (dP st) (bt st) (ay st) .none kV b p an C ct),o⟩)
  (c:Vj K C qual=aN) (k:Vq K (.ref f)=aN):Fun K x qual st f (Vm x qual (dP st) (bt st) (ay st) .none kV b p an C ct):=⟨⟨O,g,kV,b,p,an,C,ct,o,rfl,l,c⟩,k⟩
end
def zi{n:Nat}(h:n<=1000):n < sizeLine:=Nat.lt_of_le_of_lt h (by decide)
abbrev qU(ifs:List Expr)(env:Env):Sem Bool:=
 forIn ifs aN λc r=>if r=aN then do let ok <-isTrue c env (eval c env);pure (ForInStep.yield ok) else pure (ForInStep.yield r)
inductive CmK where
 |l (elt:Expr) |d (k v:Expr)
abbrev cmE:CmK->List WL->Scope->Pos->Expr
 |.l e=>.ListComp e
 |.d k v=>.DictComp k v
abbrev cmP:CmK->Env->Value->Sem Unit
 |.l e,env,acc=>do let _ <-call (.builtin "list.append") [acc,<-eval e env]
 |.d k v,env,acc=>do
  let a <-eval k env
  let b <-holding [a] (eval v env)
  match acc with
  |.ref d=>do
   standAt { k.pos with endLine:=v.pos.endLine,endCol:=v.pos.endCol }
   holding [a,b] (dictSet d a b)
  |_=>unsupported "internal:dictcomp"
abbrev cmN:CmK->Sem Value
 |.l _=>newList []
 |.d _ _=>newDict
abbrev cmO:CmK->HO
 |.l _=>.lst []
 |.d _ _=>.dK []
def Fn{d:Nat}{c:CmK}
  (hg:g[d]?=aa ⟨T,Y,ifs,0⟩)
  (h:wpAny M A (pyNext I) (λr y=>match r with
   |none=>Q (.done .next) y
   | some v=>wpAny M A (V0 T I v) (λ_ C=>wpAny M A (assign T env v) (λ_ L=>wpAny M A (qU ifs env) (λok q=>if ok=aN then (match g[d+1]? with
     |none=>wpAny M A (cmP c env f) (λ_ o=>Q (.again (.compLoop (cmE c g b p) d I f env)) o) E q
     | some n=>n.is_async=0/\wpAny M A (eval n.iter env) (λx u=>wpAny M A (VW n.iter env x) (λX o=>wpAny M A (pyIter X) (λj B=>
       wpAny M A (runOwn (.compStart (cmE c g b p) (d+1) j f env) env) (λ_ U=>Q (.again (.compLoop (cmE c g b p) d I f env)) U) E B) E o) E u) E q)
    else Q (.again (.compLoop (cmE c g b p) d I f env)) q) E L) E C) E y) E s) :
  wpAny M A (compTurn (cmE c g b p) d I f env) Q E s:=by
 cases c <;>
 ·unfold compTurn;simp only[cmE,hg];refine Ut (US ?_);show wpAny M A (pyNext I >>= _) Q E s;refine Ut (UH h (λr y O=>?_) λ_ _ x=>x);cases r with
  |none=>exact UL O
  |some v=>
   refine Ut (UH O (λ_ C Z=>?_) λ_ _ x=>x);refine Ut (UH Z (λ_ L h3=>?_) λ_ _ x=>x);refine Ut (UH h3 (λok q h4=>?_) λ_ _ x=>x);cases ok with
   |false=>exact UL h4
   |true=>
    simp only[if_true] at h4 ⊢;cases J:g[d+1]? with
    |none=>
     rw[J] at h4;exact Ut (m:=cmP _ env f) (UH h4 (λ_ o z=>UL z) λ_ _ x=>x)
    |some n=>
     rw[J] at h4;obtain⟨ha,h4⟩:=h4;refine Ut (UH h4 (λx u h5=>Ut (US ?_)) λ_ _ x=>x);rw[ha];show wpAny M A (VW n.iter env x >>= _) Q E u;refine Ut (UH h5 (λX o z=>?_) λ_ _ x=>x);refine Ut (UC (UH z (λj B h7=>?_) λ_ _ x=>x));exact Ut (UH h7 (λ_ U h8=>UL h8) λ_ _ x=>x)
abbrev ci(c:List (Str × Addr)):List (Str × W4)->List (Str × Addr)->List (Str × Addr)
 |[],acc=>acc
 |(n,k)::r,acc=>if k == .free then ci c r ((n,(c.lookup n).getD 0)::acc) else ci c r acc
def iM:∀ (b:List (Str × W4)) (f:List (Str × Addr)),(∀y ∈ b,y.2 = .free->∃c,env.cells.lookup y.1=aa c) ->
  (forIn b f λ(x:Str × W4) (C:List (Str × Addr))=>(match x with |(name,kind)=>if kind == .free then (do let a <-cellOf env name;pure (ForInStep.yield ((name,a)::C))) else pure (ForInStep.yield C):Sem (ForInStep (List (Str × Addr)))))
   = (pure (ci env.cells b f):Sem (List (Str × Addr)))
 |[],f,_=>by rw[Y5];rfl
 |(n,k)::r,f,h=>by
  rw[Wh];have j:∀y ∈ r,y.2 = .free->∃c,env.cells.lookup y.1=aa c:=λy p=>h y (Zf _ p);cases g:(k == NameKind.free) with
  |true=>
   obtain⟨c,o⟩:=h (n,k) Zh (by simpa using g);have e:cellOf env n=pure c:=by unfold cellOf;rw[show env.cells.lookup n=aa c from o]
   simp only[g,if_true,e,pure_bind];rw[iM r _ j]
   conv=>rhs;rw[ci]
   simp only[g,if_true];rw[show env.cells.lookup n=aa c from o];rfl
  |false=>
   simp only[g,Yl,if_false,pure_bind];rw[iM r _ j]
   conv=>rhs;rw[ci]
   simp only[g,Yl,if_false]
def xz(h:∀y ∈ b.names,y.2 = .free->∃c,env.cells.lookup y.1=aa c):closureFor b env=pure (ci env.cells b.names []):=by
 have e:=iM (env:=env) b.names [] h;unfold closureFor;refine Eq.trans ?_ e
 first
  |rfl
  |(rw[bind_pure])
  |(simp only[bind_pure])
def jT:∀ {b:List (Str × W4)} {f:List (Str × Addr)} {x:Str} {c:Addr},(x,c) ∈ ci C b f->(x,c) ∈ f\/((x,NameKind.free) ∈ b/\c=(C.lookup x).getD 0)
 |[],_,_,_,h=>.inl h
 |(n,k)::r,f,x,c,h=>by
  unfold ci at h;split at h
  ·rename_i j;have g:k = .free:=by simpa using j
   rcases jT h with e |⟨e,q⟩
   ·rcases Zl.mp e with e |e
    ·cases e;exact .inr ⟨by rw[g];exact Zh,rfl⟩
    ·exact .inl e
   ·exact .inr ⟨Zf _ e,q⟩
  ·rcases jT h with e |⟨e,q⟩
   ·exact .inl e
   ·exact .inr ⟨Zf _ e,q⟩
def gg:∀ {l:List (Str × Addr)},(∃c,(x,c) ∈ l)->∃c,l.lookup x=aa c
 |[],⟨_,h⟩=>nomatch h
 |(n,c)::r,⟨c',h⟩=>by
  rw[ZS];cases hb:x == n with
  |true=>exact⟨c,rfl⟩
  |false=>
   rcases Zl.mp h with e |e
   ·cases e;simp at hb
   ·exact gg ⟨c',e⟩
def gZ:∀ {b:List (Str × W4)} {acc:List (Str × Addr)},(x,NameKind.free) ∈ b\/(∃c,(x,c) ∈ acc)->∃c,(x,c) ∈ ci cells b acc
 |[],_,h=>h.elim (λe=>nomatch e) id
 |(n,k)::r,acc,h=>by
  unfold ci;split
  ·rename_i f;refine gZ ?_;rcases h with h |⟨c,h⟩
   ·rcases Zl.mp h with e |e
    ·cases e;exact .inr ⟨_,Zh⟩
    ·exact .inl e
   ·exact .inr ⟨c,Zf _ h⟩
  ·rename_i f;refine gZ ?_;rcases h with h |⟨c,h⟩
   ·rcases Zl.mp h with e |e
    ·cases e;exact absurd rfl f
    ·exact .inl e
   ·exact .inr ⟨c,h⟩
def cF:∀ (b:List (Str × W4)) (n:Nat) (c:List (Str × Addr)),VM n b c=VM n b []++c
 |[],_,_=>rfl
 |(y,k)::r,n,c=>by
  unfold VM;split
  ·rw[cF r (n+1) ((y,n)::c),cF r (n+1) [(y,n)],Z8];rfl
  ·exact cF r n c
def eC:∀ (b:List (Str × W4)) (n:Nat) (f:List (Str × Addr)) (x:Str) (c:Addr),(x,c) ∈ VM n b f->(x,c) ∈ f\/(x,NameKind.cell) ∈ b
 |[],_,_,_,_,h=>.inl h
 |(y,k)::r,n,f,x,c,h=>by
  unfold VM at h;split at h
  ·rename_i j;have g:k = .cell:=by simpa using j
   rcases eC r _ _ x c h with e |e
   ·rcases Zl.mp e with e |e
    ·cases e;exact .inr (by rw[g];exact Zh)
    ·exact .inl e
   ·exact .inr (Zf _ e)
  ·rcases eC r _ _ x c h with e |e
   ·exact .inl e
   ·exact .inr (Zf _ e)
abbrev o7(sc:Scope)(n:Str)(k:W4):W4:=if (k == .free && sc.kind == .function && sc.names.lookup n == aa .cell) then .cell else k
abbrev gh(b sc:Scope):Scope:={ b with names:=b.names.map λy=>(y.1,o7 sc y.1 y.2) }
def Fo(b:Scope)(env:Env):relabel b env=gh b env.scope:=by
 unfold relabel gh
 congr 1
 refine YC λy _=>?_;obtain⟨n,k⟩:=y;unfold o7;dsimp only;show(if (k == NameKind.free && env.scope.kind == ScopeKind.function && XB n env.scope.names == aa NameKind.cell)=aN then (n,NameKind.cell) else (n,k))=_;split <;> rfl
def gk(sc:Scope)(x:Str):∀b:List (Str × W4),(b.map λy=>(y.1,o7 sc y.1 y.2)).lookup x=(b.lookup x).map (o7 sc x)
 |[]=>rfl
 |(n,k)::r=>by
  rw[Zz,ZS,ZS];dsimp only;cases hb:x == n with
  |true=>
   have q:x=n:=by simpa using hb
   subst q;rfl
  |false=>exact gk sc x r
abbrev uX(scope:Scope)(C:Addr)(env:Env):Env:=
 { scope:=gh scope env.scope,locals:=C,globals:=env.globals,cells:=VM (C+1) scope.names (ci env.cells scope.names []),qual:=env.qual,func:=aD,code:=env.code,frame:=env.frame,builtins:=env.builtins }
def zj
  (h:Q { scope:=scope,locals:=s.heap.objs.size,globals:=env.globals,cells:=VM (s.heap.objs.size+1) scope.names cl,qual:=env.qual,func:=aD,code:=env.code,frame:=env.frame,builtins:=env.builtins }
   { s with heap:=V8 (s.heap.push { cls:=.type "dict", data:=.dict #[] }) scope.names }) :
  wpAny M A (V4 scope env.globals cl [] env.qual aD .none (aa env)) Q E s:=by
 simp only[V4,XZ,if_true];refine Ut (wpAny_alloc ?_);refine Ut (wpAny_layCells _ (λname kind cells=>by cases b:kind == NameKind.cell <;> simp[b]) _ _ _ _ ?_);rw[show({ s with heap:=s.heap.push { cls:=.type "dict", data:=.dict #[] } }:Shared).heap.objs.size=s.heap.objs.size+1 from YN ..];simp only[Y5]
 first
  |exact Ut (UL (UL h))
  |exact UL h
abbrev Bo(i:Nat):Str:=⟨#[i]⟩
abbrev dr:List Nat->List Str->List Str
 |[],N=>N
 |i::hs,N=>dr hs (N.set i (Bo i))
def jU:∀ (hs:List Nat) (N:List Str),(dr hs N).length=N.length
 |[],_=>rfl
 |i::hs,N=>by rw[dr,jU hs,Ys]
def pL:∀ (hs:List Nat) (N:List Str) {i:Nat} {x:Str},(dr hs N)[i]?=aa x->N[i]?=aa x\/∃j ∈ hs,x=Bo j
 |[],_,_,_,h=>.inl h
 |k::hs,N,i,x,h=>by
  rw[dr] at h;rcases pL hs (N.set k (Bo k)) h with e |⟨j,hj,e⟩
  ·rw[YL] at e;split at e
   ·split at e
    ·exact .inr ⟨k,Zh,(Option.some.inj e).symm⟩
    ·cases e
   ·exact .inl e
  ·exact .inr ⟨j,Zf _ hj,e⟩
structure CmScope(own:List Str)(hs:List Nat)(N:List Str)(scope sc:Scope):Prop where
 kind:scope.kind = .function
 nd:(dr hs N++own).Nodup
 uniq:(scope.names.map (·.1)).Nodup
 dis:∀x ∈ dr hs N,scope.names.lookup x ≠ aa .local/\scope.names.lookup x ≠ aa .cell
 fr:∀y ∈ scope.names,y.2 = .free->sc.names.lookup y.1=aa .cell\/sc.names.lookup y.1=aa .free
 hd:∀i ∈ hs,scope.names.lookup (Bo i)=aD
def dj:∀ {l:List (Str × W4)} {x:Str} {k:W4},(l.map (·.1)).Nodup->(x,k) ∈ l->l.lookup x=aa k
 |(n,k')::r,x,k,nd,h=>by
  rw[Zz,Yr] at nd;rw[ZS];rcases Zl.mp h with e |e
  ·cases e;simp
  ·have ne:(x == n)=aT:=by
    cases hb:x == n with
    |false=>rfl
    |true=>
     have q:x=n:=by simpa using hb
     subst q;exact absurd (Zw.mpr ⟨(x,k),e,rfl⟩) nd.1
   rw[ne];exact dj nd.2 e
abbrev cxC(X:Cx)(own:List Str)(hs:List Nat)(b:Scope)(C:Addr)(ex:List Addr)(s:Shared)(H:Hp):Cx where
 prog:=X.prog
 w:=X.w
 K:=X.K
 mg:=X.mg
 base:=X.base
 A:=X.A
 N:=dr hs X.N++own
 s₀:=s
 H₀:=H
 env:=uX b C X.env
 outer:=X.stack
 stack:=X.stack
 ex:=ex
 fn:=λx=>b.names.lookup x == aa .cell
 calm:=X.calm
 pn:=[]
 xe:=λ_ _=>False
section
variable {X:Cx} {pins:List (Addr × Obj)} {σ:St} {H:Hp} {s:Shared} {own:List Str} {hs:List Nat} {scope:Scope} {fp:List Addr}
def Inv.compStart(I:Inv X pins σ H s)(S:CmScope own hs X.N scope X.env.scope)(hf:∀b ∈ fp,ie X pins H b)(hfo:∀b ∈ fp,b < s.heap.objs.size) :
  Inv (cxC X own hs scope s.heap.objs.size fp s H) [] (σ++Zq own.length aD) H { s with heap:=V8 (s.heap.push { cls:=.type "dict", data:=.dict #[] }) scope.names }:=by
 have keep:∀b o,s.heap.get? b=aa o->(V8 (s.heap.push { cls:=.type "dict", data:=.dict #[] }) scope.names).get? b=aa o:=λb o e=>V9 _ _ b o (Zk _ e);have ok:=cellsFrom_ok scope.names (s.heap.push { cls:=.type "dict", data:=.dict #[] }) (s.heap.objs.size+1) [] ⟨λ_ _ hm=>(nomatch hm),List.Pairwise.nil⟩ (by rw[YN];exact Zd _);rw[YN] at ok;have C:(uX scope s.heap.objs.size X.env).cells=VM (s.heap.objs.size+1) scope.names []++ci X.env.cells scope.names []:=cF _ _ _;have hasX:∀x,(x,NameKind.free) ∈ scope.names->∃c,X.env.cells.lookup x=aa c:=λx h=>I.ok.has x (S.fr (x,.free) h rfl)
 have old:∀x c,(x,c) ∈ ci X.env.cells scope.names []->X.env.cells.lookup x=aa c/\(x,NameKind.free) ∈ scope.names:=λx c h=>by
  rcases jT h with e |⟨e,q⟩
  ·exact nomatch e
  ·obtain⟨c',T⟩:=hasX x e;rw[T] at q;exact⟨by rw[T,q];rfl,e⟩
 have O:∀x c,X.env.cells.lookup x=aa c->c < s.heap.objs.size:=λx c h=>let ⟨_,z⟩:=I.cell x c h;z.lt
 have f:∀x c,(uX scope s.heap.objs.size X.env).cells.lookup x=aa c->((x,c) ∈ VM (s.heap.objs.size+1) scope.names [])\/(X.env.cells.lookup x=aa c/\(x,NameKind.free) ∈ scope.names):=λx c h=>by
  have m:=V3 h;rw[C] at m;rcases ZJ.mp m with e |e
  ·exact .inl e
  ·exact .inr (old x c e)
 have B:∀x c,(x,c) ∈ VM (s.heap.objs.size+1) scope.names []->s.heap.objs.size+1<=c:=λx c h=>(ok.empty x c h).2
 have Y:∀b ∈ fp,b ∉ frs X.stack:=λb hb z=>by
  rcases Zl.mp (I.stkSub b z) with e |e
  ·exact(hf b hb).2.1 e
  ·exact(hf b hb).2.2.1 e
 have xok:(cxC X own hs scope s.heap.objs.size fp s H).Ok:=by
  refine⟨I.ok.mod,S.kind,I.ok.glob,I.ok.blt,Zd _,?_,?_,?_,I.ok.hd,I.ok.frames,.inl rfl,?_,I.bs,ZC I.ok.bsz I.sz,?_,Y,I.stack,I.stkFree⟩
  ·intro x y c Q L;rcases f x c Q with a |⟨a,_⟩ <;> rcases f y c L with b |⟨b,_⟩
   ·exact name_of_addr ok.apart a b
   ·exact absurd (Zy (O y c b) (Xd (B x c a))) (ZQ _)
   ·exact absurd (Zy (O x c a) (Xd (B y c b))) (ZQ _)
   ·exact I.ok.inj x y c a b
  ·intro x hx;have Z:(gh scope X.env.scope).names.lookup x=aa .cell\/(gh scope X.env.scope).names.lookup x=aa .free:=hx;have e:=gk X.env.scope x scope.names
   have key:(x,NameKind.cell) ∈ scope.names\/(x,NameKind.free) ∈ scope.names:=by
    cases E:scope.names.lookup x with
    |none=>rw[E] at e;rcases Z with z |z <;> (rw[show(gh scope X.env.scope).names.lookup x=aD from e] at z;cases z)
    |some k=>
     have m:=V3 E;rw[E] at e;cases k with
     |cell=>exact .inl m
     |free=>exact .inr m
     |_=>rcases Z with z |z <;> (rw[show(gh scope X.env.scope).names.lookup x=_ from e] at z;simp[o7] at z)
   rcases key with h |h
   ·have q:=Vh scope.names (s.heap.objs.size+1) (ci X.env.cells scope.names []) (x:=x) (.inl (dj S.uniq h));exact Z9.mp q
   ·obtain⟨c,T⟩:=gZ (cells:=X.env.cells) (acc:=[]) (.inl h);have q:∃c,(x,c) ∈ (uX scope s.heap.objs.size X.env).cells:=⟨c,by rw[C];exact ZA _ T⟩;exact gg q
  ·intro x c hfn E
   have J:scope.names.lookup x=aa .cell:=by
    have z:(scope.names.lookup x == aa NameKind.cell)=aN:=hfn
    simpa using z
   rcases f x c E with a |⟨_,b⟩
   ·exact ZC (YH _) (B x c a)
   ·rw[dj S.uniq b] at J;cases J
  ·intro b hb;refine⟨ZF (hfo b hb),λx c h z=>?_⟩;rcases f x c h with a |⟨a,_⟩
   ·exact absurd (Zy (z ▸ hfo b hb) (Xd (B x c a))) (ZQ _)
   ·exact(hf b hb).2.2.2.2.1 x c a z
  ·intro b o e hb;rcases (hf b hb).2.2.2.1 with z |z
   ·exact I.ok.noex b o e z
   ·have Q:=Zt e;exact absurd (Zy Q (ZC I.ok.bsz z)) (ZQ _)
 have m0:(V8 (s.heap.push { cls:=.type "dict", data:=.dict #[] }) scope.names).Ns s.heap.objs.size (λ_=>aD):=(Heap.Ns.new s.heap (.type "dict")).keeps (V9 _ _);refine⟨xok,rfl,I.bare,Un.kept keep,⟨_,m0,?_⟩,?_,I.hok.fresh (Zd _),?_,λp hp=>absurd (show p ∈ ([]:List (Addr × Obj)) from hp) (by simp),I.hok.kept keep,?_⟩
 ·intro i x v Q L h3
  have hi:i < σ.length:=by
   by_cases hi:i < σ.length
   ·exact hi
   ·rw[Zp (by lia),Yd] at L;split at L <;> cases L
  rw[Zv hi] at L;have hN:i < X.N.length:=by rw[<-I.len];exact hi
  have U:(dr hs X.N)[i]?=aa x:=by
   have Q:(dr hs X.N++own)[i]?=aa x:=Q
   rwa [Zv (by rw[jU];exact hN)] at Q
  have dx:=S.dis x (Zi U);have e:=gk X.env.scope x scope.names;have h3':(gh scope X.env.scope).names.lookup x=aa .local\/(gh scope X.env.scope).names.lookup x=aa .cell\/(gh scope X.env.scope).names.lookup x=aa .free:=h3
  have g:scope.names.lookup x=aa .free:=by
   cases E:scope.names.lookup x with
   |none=>rw[E] at e;rcases h3' with z |z |z <;> (rw[show(gh scope X.env.scope).names.lookup x=aD from e] at z;cases z)
   |some k=>
    rw[E] at e dx;cases k with
    |free=>rfl
    |«local»=>exact absurd rfl dx.1
    |cell=>exact absurd rfl dx.2
    |_=>rcases h3' with z |z |z <;> (rw[show(gh scope X.env.scope).names.lookup x=_ from e] at z;simp[o7] at z)
  have h1':X.N[i]?=aa x:=by
   rcases pL hs X.N U with z |⟨j,hj,z⟩
   ·exact z
   ·rw[z,S.hd j hj] at g;cases g
  have n:=V3 g;have kX:=S.fr (x,.free) n rfl;obtain⟨m,hn,E⟩:=I.loc;obtain⟨u,r,l⟩:=E i x v h1' L (kX.elim (λz=>.inr (.inl z)) λz=>.inr (.inr z));refine⟨u,r,.inr ⟨?_,?_⟩⟩
  ·have k3:(gh scope X.env.scope).names.lookup x=aa (o7 X.env.scope x .free):=by rw[g] at e;exact e
   have k4:o7 X.env.scope x .free = .cell\/o7 X.env.scope x .free = .free:=by unfold o7;split <;> simp
   rcases k4 with z |z
   ·exact .inl (by show(gh scope X.env.scope).names.lookup x=_;rw[k3,z])
   ·exact .inr (by show(gh scope X.env.scope).names.lookup x=_;rw[k3,z])
  ·rcases l with ⟨lk,_⟩ |⟨_,c,T,z⟩
   ·have lk':X.env.scope.names.lookup x=aa .local:=lk;rcases kX with q |q <;> (rw[q] at lk';cases lk')
   ·refine⟨c,?_,z.keeps keep⟩;obtain⟨c',hc'⟩:=gZ (cells:=X.env.cells) (acc:=[]) (.inl n);obtain⟨c2,hl2⟩:=gg (l:=(uX scope s.heap.objs.size X.env).cells) ⟨c',by rw[C];exact ZA _ hc'⟩;rcases f x c2 hl2 with a |⟨a,_⟩
    ·rcases eC _ _ _ _ _ a with q |q
     ·exact nomatch q
     ·rw[dj S.uniq q] at g;cases g
    ·rw[T] at a;cases a;exact hl2
 ·intro x c h;rcases f x c h with a |⟨a,_⟩
  ·exact⟨_,(ok.empty x c a).1⟩
  ·obtain⟨v,z⟩:=I.cell x c a;exact⟨v,z.keeps keep⟩
 ·intro x c h;rcases f x c h with a |⟨a,_⟩
  ·exact I.hok.fresh (ZC (YH _) (B x c a))
  ·exact I.freeC x c a
 ·show(σ++Zq own.length aD).length=(dr hs X.N++own).length;rw[Zn,Zn,Yk,jU,I.len]
end
section
variable {κ:Type} [DecidableEq κ]
abbrev jV(b:List (κ × V))(k:κ):Option V:=(b.find? λc=>decide (c.1=k)).map (·.2)
abbrev iO(b:List (κ × V))(k:κ)(v:V):List (κ × V):=
 if (b.any λc=>decide (c.1=k))=aN then b.map (λc=>if c.1=k then (c.1,v) else c) else b++[(k,v)]
def jh{p:κ × V}{r:List (κ × V)}{k:κ}(e:p.1=k):jV (p::r) k=aa p.2:=by simp[jV,Yt,e]
def ji{p:κ × V}{r:List (κ × V)}{k:κ}(e:¬ p.1=k):jV (p::r) k=jV r k:=by simp[jV,Yt,e]
def sI(k:κ):∀b:List (κ × V),(b.any λc=>decide (c.1=k))=(jV b k).isSome
 |[]=>rfl
 |p::r=>by
  rw[YB];by_cases e:p.1=k
  ·simp only[jh e,decide_eq_true e,Bool.true_or,XZ]
  ·rw[ji e,decide_eq_false e,Wq];exact sI k r
def kE(b:List (κ × V))(k:κ)(v:V):(iO b k v).length<=b.length+1:=by
 unfold iO;split
 ·rw[Za];omega
 ·rw[Zn,ZB,Y3];omega
def sJ{b:List (κ × V)}{k:κ}(v:V)(h:jV b k=aD):iO b k v=b++[(k,v)]:=by
 unfold iO;rw[sI,h];exact if_neg (by decide)
def KV.val{c:List (κ × V)}{vs:List (κ × Value)}(r:KV c vs)(k:κ):yV (jV c k) (valueAt vs k):=by
 unfold KV at r
 induction r with
 |nil=>exact True.intro
 |@cons p q ps qs h t ih=>
  obtain⟨f,g⟩:=h;by_cases e:p.1=k
  ·have E:q.1=k:=f.symm.trans e;have b:valueAt (q::qs) k=aa q.2:=by simp[valueAt,Yt,E]
   rw[jh e,b];exact g
  ·have E:¬ q.1=k:=λz=>e (f.trans z);have b:valueAt (q::qs) k=valueAt qs k:=by simp[valueAt,Yt,E]
   rw[ji e,b];exact ih
def KV.any{b:List (κ × V)}{vs:List (κ × Value)}(r:KV b vs)(k:κ):(b.any λc=>decide (c.1=k))=vs.any λc=>decide (c.1=k):=by
 unfold KV at r
 induction r with
 |nil=>rfl
 |cons h t I=>rw[YB,YB,I,h.1]
def KV.repl(r:KV f vs)(k:κ)(j:aJ y u) :
  KV (f.map λb=>if b.1=k then (b.1,y) else b) (vs.map λb=>if b.1=k then (b.1,u) else b):=by
 unfold KV at r ⊢
 induction r with
 |nil=>exact .nil
 |@cons p q ps qs h t ih=>
  rw[Zz,Zz];refine .cons ?_ ih;obtain⟨c,g⟩:=h;by_cases e:p.1=k
  ·rw[if_pos e,if_pos (c.symm.trans e)];exact⟨c,j⟩
  ·rw[if_neg e,if_neg (λz=>e (c.trans z))];exact⟨c,g⟩
def KV.put(r:KV b vs)(k:κ)(c:aJ y u):KV (iO b k y) (stored vs k u):=by
 unfold iO stored;rw[r.any k];by_cases e:(vs.any λf=>decide (f.1=k))=aN
 ·rw[if_pos e,if_pos e];exact r.repl k c
 ·rw[if_neg e,if_neg e];exact Paired.snoc r ⟨rfl,c⟩
def KV.length(r:KV b vs):b.length=vs.length:=Paired.length r
end
def xD(r:aJ (kV k) u):(bE P w).is k u=aN:=by
 cases k with
 |inl i=>obtain⟨t,e⟩:=(show ∃t,u=Value.int i t from r);subst e;exact sy P w i t
 |inr x=>obtain⟨t,e⟩:=(show ∃t,u=Value.str x t from r);subst e;exact sD P w x t
def pM:∀ {ks:List Key} {u:List Value},aO (ks.map kV) u->ItemsAre (bE P w) ks u
 |[],_,r=>by rw[Z4] at r;cases r;exact .nil
 |k::ks,_,r=>by
  rw[Zz] at r;cases r with
  |cons h t=>exact .cons (xD h) (pM t)
@[inline]abbrev KT(H:Hp):List (List Key × V)->List (List Key × Addr × Value)->Prop:=Paired λp q=>p.1=q.1/\H q.2.1=aa (.tup (p.1.map kV))/\aJ p.2 q.2.2
def KT.val{H:Hp}{c:List (List Key × V)}{xs:List (List Key × Addr × Value)}(r:KT H c xs)(k:List Key):yV (jV c k) ((atKey xs k).map (·.2)):=by
 induction r with
 |nil=>exact True.intro
 |@cons p q ps qs h t ih=>
  obtain⟨f,_,g⟩:=h;by_cases e:p.1=k
  ·have E:q.1=k:=f.symm.trans e;have b:atKey (q::qs) k=aa q.2:=by simp[atKey,Yt,E]
   rw[jh e,b];exact g
  ·have E:¬ q.1=k:=λz=>e (f.trans z);have b:atKey (q::qs) k=atKey qs k:=by simp[atKey,Yt,E]
   rw[ji e,b];exact ih
section
variable {P:Program} {w:World} {H:Hp} {h:Heap} {a:Addr}
def Jk(ok:HOk P w H h)(e:Rd H a u):bv P w H h a u:=e.ok ok
def Bp(ok:HOk P w H h)(e:Rd H a (.dK b)):b.length<=sizeLine/\(a == Ul)=aT/\∃vs,KV b vs/\h.DictOf (bE P w) a vs:=
 show bv P w H h a (.dK b) from Jk ok e
def Jl(ok:HOk P w H h)(e:H a=aa (.dK b)):b.length<=sizeLine/\(a == Ul)=aT/\∃vs,KV b vs/\h.DictOf (bE P w) a vs:=Bp ok (.inl e)
def Bq(ok:HOk P w H h)(e:H a=aa (.tup (ks.map kV))):(Up (bE P w)).is h ks a:=by
 obtain⟨_,I,r,o,f,b,n,c,_⟩:=(show bv P w H h a (.tup (ks.map kV)) from ok a _ e);exact⟨o,I.toArray,n,f,b,c,by simpa using pM r⟩
def Jm(ok:HOk P w H h)(e:Rd H a (.dT b)):b.length<=sizeLine/\(a == Ul)=aT ∧
  ∃xs,KT H b xs/\h.DictOfH (Up (bE P w)) a xs:=by
 obtain⟨z,y,xs,r,o,E,j,n,f,c,h4,g⟩:=(show bv P w H h a (.dT b) from Jk ok e);refine⟨z,y,xs,r,o,E,j,n,f,c,h4,λx hx=>?_,g⟩
 have all:∀ {l:List (List Key × V)} {m:List (List Key × Addr × Value)},KT H l m->∀x ∈ m,(Up (bE P w)).is h x.1 x.2.1:=by
  intro l m q
  induction q with
  |nil=>intro x hx;exact nomatch hx
  |@cons p q ps qs hq t ih=>
   intro x hx;rcases Zl.mp hx with e |hx
   ·subst e;exact Bq ok (by rw[<-hq.1];exact hq.2.1)
   ·exact ih x hx
 exact all r x hx
end
abbrev Fp(H:Hp)(a:Addr)(y:V)(r:Option V):Prop:=
 (∃c k,Rd H a (.dK c)/\y=kV k/\r=jV c k)\/∃c k b,Rd H a (.dT c)/\y = .ref b/\H b=aa (.tup (k.map kV))/\r=jV c k
def Fp.k{H:Hp}{a:Addr}{b:List (Key × V)}{k:Key}(e:H a=aa (.dK b)):Fp H a (kV k) (jV b k):=.inl ⟨b,k,.inl e,rfl,rfl⟩
section
variable {X:Cx} {pins:List (Addr × Obj)} {σ:St} {H:Hp} {s:Shared} {a:Addr} {y v:V} {u r:Value} {o:Option V} {A:Around} {E:Value->Shared->Prop}
def Inv.big(I:Inv X pins σ H s):Ul < s.heap.objs.size:=by
 have h:V2 < s.heap.objs.size:=(I.mod.glob.keeps I.bk).lt;exact Nat.lt_trans (by decide) h
def zk(Y:A.units+1 < cLine)(I:Inv X pins σ H s)(g:Fp H a y (aa v))(J:aJ y u)(h:∀f L,Inv X pins σ H L->aJ v f->Q f L) :
  wpAny (model X.prog X.w) A (getItem (.ref a) u) Q E s:=by
 rcases g with ⟨j,k,e,q,l⟩ |⟨j,k,b,e,q,T,l⟩
 ·subst q;obtain⟨z,hd,O,rel,B⟩:=Bp I.hok e;obtain⟨f,n,c⟩:=yV.some_of (v:=v) (o:=valueAt O k) (by rw[l];exact rel.val k);exact wpAny_getItem_of (xD J) B.mapOf n (h f _ (I.tok _) c)
 ·subst q;cases (show u=Value.ref b from J);obtain⟨z,hd,xs,rel,B⟩:=Jm I.hok e;obtain⟨f,n,c⟩:=yV.some_of (v:=v) (o:=(atKey xs k).map (·.2)) (by rw[l];exact rel.val k);obtain⟨p,U,C⟩:=Yu.mp n;refine wpAny_getItem_heap (tupleKind_room_in1 Y) (Bq I.hok T) B U ?_;rw[C];exact h f _ (I.tok _) c
def xE{T:Nat}(I:Inv X pins σ H s)(c:Mut (H a))(hs:Heap.SameBut a s.heap h)(f:∃q,h.get? a=aa q)(new:bv X.prog X.w (upd H a ob) h a ob) :
  Inv X pins σ (upd H a ob) { s with heap:=h,toks:=T }:=
 I.write (x:=a) (e:=a) c (.inl rfl) (λb q hb z=>(hs.2 b hb).trans z) f new
def Bs(z:b.length<=sizeLine)(hd:(a == Ul)=aT)(rel:KV b vs)(c:h.DictOf (bE P w) a vs) :
  bv P w f h a (.dK b):=⟨z,hd,vs,rel,c⟩
def zl{b:List (Key × V)}{k:Key}(I:Inv X pins σ H s)(e:H a=aa (.dK b))(l:b.length < sizeLine)(J:aJ (kV k) u)(C:aJ v r)(h:∀f,Inv X pins σ (upd H a (.dK (iO b k v))) f->Q () f) :
  wpAny (model X.prog X.w) A (dictSet a u r) Q E s:=by
 obtain⟨z,hd,n,rel,g⟩:=Jl I.hok e;have p:n.length<=sizeLine:=by rw[<-rel.length];exact z
 have L:(iO b k v).length<=sizeLine:=by have:=kE b k v;omega
 refine wpAny_dictSet_pairs (hsz:=p) (xD J) g λj c hs=>h _ ?_;have B:∃q,j.get? a=aa q:=let ⟨q,_,_,hq,_⟩:=c;⟨q,hq⟩;exact xE I (by rw[e];exact True.intro) hs B (Bs L hd (rel.put k C) c)
end
def sK(I:Inv X p h H s)(g:Fp H a y o):s.TypeIs (.ref a) "dict" := by
 rcases g with ⟨f,k,e,_,_⟩ |⟨f,k,b,e,_,_,_⟩
 ·obtain⟨_,_,v,_,c⟩:=Bp I.hok e;exact c.typeIs
 ·obtain⟨_,_,xs,_,c⟩:=Jm I.hok e;exact c.typeIs
def mM(h:Heap)(hb:Ul < h.objs.size):bv P w H (h.push { cls:=.type "dict", data:=.dict #[] }) h.objs.size (.dK []):=
 ⟨XC _,beq_eq_false_iff_ne.mpr (Ne.symm (ZF hb)),[],.nil,Heap.DictOf.new h⟩
abbrev Bt:TE:=λ_ H Q=>∀p,H p=aD->Q (.ref p) (upd H p (.dK []))
section
variable {X:Cx} {pos:Pos}
def Bu:PE X (.Dict [] [] pos) Bt:=λp s b H Q I h=>
 wpAny_Dict_empty ⟨.ref s.heap.objs.size,_,I.laid (a:=s.heap.objs.size) (o:=.dK []) (t':=s.toks) (λ_ _ q=>Zk _ q) (Zd _) (mM s.heap I.big),rfl,h _ (I.hok.fresh (Zd _))⟩
end
abbrev uY:List (TE × TE)->St->Hp->(List (V × V)->Hp->Prop)->Prop
 |[],_,H,Q=>Q [] H
 |(tk,tv)::r,σ,H,Q=>tk σ H λx c=>tv σ c λy h=>uY r σ h λps b=>Q ((x,y)::ps) b
@[inline]abbrev VV:List (V × V)->List (Value × Value)->Prop:=Paired λp q=>aJ p.1 q.1/\aJ p.2 q.2
abbrev PPs(X:Cx)(f:Pos)(b:List (Option Expr))(v:List Expr)(T:List (TE × TE)):Prop:=
 ∀ (p:List (Addr × Obj)) (s:Shared) (c:St) (H:Hp) (Q:List (V × V)->Hp->Prop),Inv X p c H s->uY T c H Q ->
  wpAny (model X.prog X.w) X.A (evalPairs (pairTrees b v X.env f)) (λj g=>∃ps h,Inv X p c h g/\VV ps j/\Q ps h) X.xe s
def Fq:PPs X b [] [] []:=λp s c H Q I h=>pairTrees_nil_walk ⟨[],H,I,.nil,h⟩
def Bv(hk:PE X k Y)(hv:PE X v j)(E:PPs X c ks vs T) :
  PPs X c (aa k::ks) (v::vs) ((Y,j)::T):=λp s b H Q I h=>
 pairTrees_cons_walk (thn (hk p s b H _ I h) λu q ⟨x,Z,f,O,J⟩=>thn (hv p q b Z _ f J) λw2 z ⟨y,L,o,B,C⟩=>
  thn (E p z b L _ o C) λws s3 ⟨ps,n,g,rel,U⟩=>⟨(x,y)::ps,n,g,.cons ⟨O,B⟩ rel,U⟩)
abbrev mO(c more:List (Key × V)):List (Key × V):=more.foldl (λb f=>iO b f.1 f.2) c
def KV.merge:∀ {more:List (Key × V)} {c:List (Key × Value)} {b:List (Key × V)} {vs:List (Key × Value)},KV more c->KV b vs->KV (mO b more) (merged vs c):=by
 intro more c b vs r;unfold KV at r
 induction r generalizing b vs with
 |nil=>intro q;exact q
 |@cons p q ps qs h t ih=>
  intro r0
  have e:KV (iO b p.1 p.2) (stored vs q.1 q.2):=by
   have:=r0.put p.1 h.2;rw[<-h.1];exact this
  exact ih e
def io:∀ (more b:List (Key × V)),(mO b more).length<=b.length+more.length
 |[],b=>by show b.length<=b.length+0;omega
 |p::r,b=>by
  have c:=io r (iO b p.1 p.2);have h:=kE b p.1 p.2;show(mO (iO b p.1 p.2) r).length<=_;rw[ZB];omega
def mP:∀ {f:List (Key × V)} {n:List (Value × Value)},VV (f.map λj=>(kV j.1,j.2)) n->∃g,Carries (bE P w) n g/\KV f g
 |[],_,r=>by rw[Z4] at r;cases r;exact⟨[],True.intro,.nil⟩
 |p::f,_,r=>by
  rw[Zz] at r;cases r with
  |@cons a b as bs h t=>
   obtain⟨g,c,q⟩:=mP (P:=P) (w:=w) t;obtain⟨o,B⟩:=b;exact⟨(p.1,B)::g,⟨xD h.1,rfl,c⟩,.cons ⟨rfl,h.2⟩ q⟩
abbrev Bw(T:List (TE × TE)):TE:=λf H Q=>∀p,H p=aD->uY T f (upd H p (.dK [])) λps h=>h p=aa (.dK [])/\∃b:List (Key × V),ps=b.map (λc=>(kV c.1,c.2))/\b.length<=15/\Q (.ref p) (upd h p (.dK (mO [] b)))
def Fs(h:PPs X u b v T)(f:b.all (·.isSome)=aN)(hl:b.length=v.length)(h0:b ≠ [])
  (n:b.length<=15):PE X (.Dict b v u) (Bw T):=by
 intro p s B H Q I q;have Y:=I.hok.fresh (Zd s.heap.objs.size);have C:=I.laid (a:=s.heap.objs.size) (o:=.dK []) (h':=s.heap.push { cls:=.type "dict", data:=.dict #[] }) (t':=s.toks) (λ_ _ q=>Zk _ q) (Zd _) (mM s.heap I.big);refine wpAny_Dict_walk (knd:=bE X.prog X.w) f hl h0 n (thn (h p _ B _ _ C (q _ Y)) λws s2 ⟨ps,H2,y,rel,e,g,ep,lk,q2⟩=>?_);subst ep;obtain⟨Z,c,L⟩:=mP (P:=X.prog) (w:=X.w) rel;obtain⟨z,hd,J,r0,dd⟩:=Jl y.hok e;cases r0;refine⟨Z,c,dd,λE j hs=>⟨.ref s.heap.objs.size,_,?_,rfl,q2⟩⟩
 have O:(mO [] g).length<=sizeLine:=by
  have h1:=io g [];rw[Y3] at h1;rw[Ue];omega
 have U:∃q,E.get? s.heap.objs.size=aa q:=let ⟨q,_,_,hq,_⟩:=j;⟨q,hq⟩;exact xE y (by rw[e];exact True.intro) hs U (Bs O hd (L.merge .nil) j)
abbrev sL(J:It)(g:TG)(T:TS)(D:Ends)(b:St)(H:Hp):Prop:=∃W:Nat->Nat->St->Hp->Prop,(∃m,W 0 m b H)/\∀i m b H,W i m b H ->
 (J.stop i H/\D.nx b H)\/(J.go i H/\∃N:St->Hp->Prop,(∀c h,N c h->∃j,j < m/\W (i+1) j c h)/\∀x h,J.yld i H x h->g x b h λf n=>T { D with nx:=N,ct:=N,bk:=D.nx } f n)
abbrev PTs(Y:Cx)(ifs:List Expr)(t:TT):Prop:=
 ∀ (p:List (Addr × Obj)) (s:Shared) (b:St) (H:Hp) (Q:Bool->Hp->Prop),Inv Y p b H s->t b H Q->wpAny (model Y.prog Y.w) Y.A (qU ifs Y.env) (TP Y p b Q) Y.xe s
abbrev zm:TT:=λ_ H Q=>Q aN H
def xF:PTs Y [] zm:=λ_ _ _ H _ I h=>by
 unfold qU;rw[Y5];exact UL ⟨H,I,h⟩
def Ft(g:PT Y c t):PTs Y [c] t:=λp s f H Q I h=>by
 unfold qU;rw[Wh];simp only[if_true,Y5];refine Ut (Ut (thn (g p s f H Q I h) λb j q=>UL ?_));exact UL q
abbrev PTl(Y:Cx)(c:CmK)(g:List WL)(f:Scope)(o:Pos)(j:Addr)(d:Nat)(t:TS):Prop:=
 ∀ (p:List (Addr × Obj)) (s:Shared) (u:St) (H:Hp) (D:Ends),Inv Y p u H s->t D u H ->
  match g[d+1]? with
  |none=>wpAny (model Y.prog Y.w) Y.A (cmP c Y.env (.ref j)) (λ_ n=>∃b h,Inv Y p b h n/\D.nx b h) (λ_ _=>False) s
  | some q=>q.is_async=0/\wpAny (model Y.prog Y.w) Y.A (eval q.iter Y.env) (λx y=>wpAny (model Y.prog Y.w) Y.A (VW q.iter Y.env x) (λX n=>wpAny (model Y.prog Y.w) Y.A (pyIter X) (λI z=>
    wpAny (model Y.prog Y.w) Y.A (runOwn (.compStart (cmE c g f o) (d+1) I (.ref j) Y.env) Y.env) (λ_ v=>∃b h,Inv Y p b h v/\D.nx b h) (λ_ _=>False) z) (λ_ _=>False) n) (λ_ _=>False) y) (λ_ _=>False) s
abbrev eY(T:TT)(t:TS):TS:=λD b H=>T b H λc h=>if c=aN then t D b h else D.nx b h
abbrev Jn(b:Addr)(T:TE):TS:=λD c H=>T c H λx h=>∃xs,h b=aa (.lst xs)/\xs.length < sizeLine/\D.nx c (upd h b (.lst (xs++[x])))
def Bx{c:CmK}{gens:List WL}{b:Scope}{p:Pos}:clausesOf (cmE c gens b p)=gens:=by
 cases c <;> rfl
abbrev Fu(c:Addr)(T g:TE):TS:=λD f H=>T f H λx j=>g f j λy h=>∃b k,h c=aa (.dK b)/\x=kV k/\b.length < sizeLine/\D.nx f (upd h c (.dK (iO b k y)))
section
variable {Y:Cx} {elt:Expr} {c:CmK} {gens:List WL} {scope:Scope} {pos:Pos} {acc:Addr} {d:Nat}
def Bz(f:Y.xe=λ_ _=>False)(J:gens[d+1]?=aD)(E:PE Y elt U):PTl Y (.l elt) gens scope pos acc d (Jn acc U):=by
 intro p s b H D I h;rw[J];have g:=E p s b H _ I h;rw[f] at g;refine Ut (thn g λx o ⟨v,u,n,L,xs,T,j,q⟩=>?_);have z:=pK p o b u (.ref acc) [v] (.ref acc) [x] (λy O=>y = .non/\D.nx b O) n rfl (.cons L .nil) ⟨acc,xs,v,rfl,rfl,T,j,rfl,q⟩;rw[f] at z;exact Ut (thn z λy s6 ⟨v6,C,B,X,Z,Q⟩=>UL ⟨b,C,B,Q⟩)
def Fv(g:Y.xe=λ_ _=>False)(J:gens[d+1]?=aD)(hk:PE Y k X)(Z:PE Y v T):PTl Y (.d k v) gens scope pos acc d (Fu acc X T):=by
 intro p s b H D I h;rw[J];have j:=hk p s b H _ I h;rw[g] at j;refine Ut (thn j λx u ⟨vk,z,o,L,q5⟩=>?_);have f:=Z p u b z _ o q5;rw[g] at f;refine Ut (UC (thn f λy s6 ⟨vv,H6,B,Q,C,kk,U,n,E,q⟩=>?_));subst n;exact Ut (US (UC (zl B U E L Q λs7 O=>⟨b,_,O,q⟩)))
def zn{prog:Program}{w:World}{I acc:Value}{env:Env}:(model prog w).den (.compStart (cmE c gens scope pos) d I acc env)=((compStart (cmE c gens scope pos) d I acc env).onRaise λx=>do noteFrame x env;standAt theWindowsPlace):=by
 cases c <;> rfl
def BA{prog:Program}{w:World}{I acc:Value}{env:Env}:(model prog w).den (.compLoop (cmE c gens scope pos) d I acc env)=((compTurn (cmE c gens scope pos) d I acc env).onRaise λx=>do noteFrame x env;theTreesLotGoes x):=by
 cases c <;> rfl
def zo{A:Around}{I acc:Value}{env:Env}:A.under (.compStart (cmE c gens scope pos) d I acc env)=A:=by
 cases c <;> rfl
def BB{A:Around}{I acc:Value}{env:Env}:A.under (.compLoop (cmE c gens scope pos) d I acc env)=A:=by
 cases c <;> rfl
def mQ{A:Around}{R:Result->Shared->Prop}{prog:Program}{w:World}{s:Shared}{T I:Expr}{ifs:List Expr}{n acc:Value}{env:Env}(p:gens[d]?=aa ⟨T,I,ifs,0⟩)
  (o:codeAny (model prog w) A (.compLoop (cmE c gens scope pos) d n acc env) R s)
  (h:wpAny (model prog w) A (pyIter n) (λb f=>codeAny (model prog w) A (.compLoop (cmE c gens scope pos) d b acc env) R f) (notedBy (model prog w) A env λx f=>R (.error x) f) s) :
  codeAny (model prog w) A (.compStart (cmE c gens scope pos) d n acc env) R s:=by
 refine codeAny_of_tree ?_;rw[zn,zo];refine wpAny_notedAt ?_;unfold compStart;have j:(clausesOf (cmE c gens scope pos))[d]?=aa ⟨T,I,ifs,0⟩:=by rw[Bx];exact p
 simp only[j,Option.elim];show wpAny _ _ (ask >>= _) _ _ s;refine Ut (wpAny_askSetting (wpAny_ite ?_));split
 ·first
   |exact Ut (UL (UL (And.intro rfl o)))
   |exact UL (And.intro rfl o)
 ·first
   |exact Ut (UR (Ut (US (Ut (UH h (λb f g=>UL (And.intro rfl g)) λ_ _ x=>x)))))
   |(refine Ut (UR ?_);show wpAny _ _ (standAt I.pos >>= _) _ _ s;exact Ut (US (Ut (UH h (λb f g=>UL (And.intro rfl g)) λ_ _ x=>x))))
def pN
  (hx:Y.xe=λ_ _=>False) (hc:Y.calm=aN) (hg:gens[d]?=aa ⟨tg,iter,ifs,0⟩) (T:Turn Y.prog Y.w Y.K tg J O it tn) (I2:Inv Y p σ H s) (st2:tn 0 s.heap) (f2:∀b ∈ O,ie Y p H b)
  (hgt:PG Y tg g) (hts:PTs Y ifs ti) (htl:PTl Y c gens scope pos acc d t) (hW:sL J g (eY ti t) D σ H) :
  codeAny (model Y.prog Y.w) Y.A (.compLoop (cmE c gens scope pos) d (.ref it) (.ref acc) Y.env) (λr s'=>r = .ok .next/\∃f H',Inv Y p f H' s'/\D.nx f H') s:=by
 obtain⟨W,⟨m0,w0⟩,U⟩:=hW;have j:∀ {H':Hp},(∀b ∈ O,H' b=aD)->∀b ∈ O,ie Y p H' b:=λhn b hb=>⟨hn b hb,(f2 b hb).2⟩;refine codeAny_loop rfl (λn s'=>∃i f H',Inv Y p f H' s'/\tn i s'.heap/\(∀b ∈ O,H' b=aD)/\W i n f H') (λn s3 hI=>?_) m0 ⟨0,σ,H,I2,st2,λb hb=>(f2 b hb).1,w0⟩;obtain⟨i,v,H3,I3,Q,Z,w3⟩:=hI;rw[BA,BB];refine wpAny_noted (UH (E:=λ_ _=>False) ?_ (λ_ _ q=>q) λ_ _ z=>z.elim);refine Fn hg ?_;rcases U i n v H3 w3 with ⟨stop,qn⟩ |⟨go,N,hN,step⟩
 ·refine thn (T.done Y rfl rfl rfl hc i p s3 v H3 _ I3 (j Z) Q stop) λr s4 ⟨hr,I4⟩=>?_;subst hr;exact⟨rfl,v,H3,I4,qn⟩
 ·refine thn (T.item Y rfl rfl rfl hc i p s3 v H3 _ I3 (j Z) Q go) λr s4 ⟨u,hr,h4⟩=>?_;subst hr;refine thn h4 λ_ s5 ⟨x,H5,I5,r5,y5,y,fr5⟩=>?_;have I5':=I5.pinned (j fr5) (T.obj _ _ y)
  have again:∀ {h:St} {B:Hp} {L:Shared},Inv Y (p++mE O s5.heap) h B L->N h B->∃m,m < n/\∃i f H',Inv Y p f H' L/\tn i L.heap/\(∀b ∈ O,H' b=aD)/\W i m f H':=λ{h B L} I n7=>by
   obtain⟨m',hm,w7⟩:=hN h B n7;refine⟨m',hm,i+1,h,B,I.unpinned,T.keep _ _ _ y λb hb o e=>(I.pin (b,o) (ZA _ (ZA _ (fu hb e)))).1,λb hb=>?_,w7⟩;obtain⟨o,e,dd⟩:=T.obj _ _ y b hb;exact(I.pin (b,o) (ZA _ (ZA _ (fu hb e)))).2.1
  have hG:=hgt _ s5 v H5 x u _ I5' r5 (step x H5 y5);rw[hx] at hG;refine thn hG λ_ s6 ⟨X,H6,I6,q6⟩=>?_;have hT:=hts _ s6 X H6 _ I6 q6;rw[hx] at hT;refine thn hT λok L ⟨B,I,q7⟩=>?_;cases ok with
  |false=>
   simp only[Yl,if_false] at q7 ⊢;exact⟨by trivial,again I q7⟩
  |true=>
   simp only[if_true] at q7 ⊢;have C:=htl _ L X B _ I q7;cases hn:gens[d+1]? with
   |none=>
    rw[hn] at C;exact thn C λ_ s9 ⟨σ9,H9,I9,q9⟩=>⟨by trivial,again I9 q9⟩
   |some g'=>
    rw[hn] at C;obtain⟨ha,C⟩:=C;exact⟨ha,thn C λx s8 h8=>thn h8 λx' s9 h9=>thn h9 λit' s10 h10=>thn h10 λ_ s11 ⟨σ9,H9,I9,q9⟩=>⟨by trivial,again I9 q9⟩⟩
abbrev BC(wi:TI)(g:TG)(T:TT)(t:TS):TS:=λD b H=>wi b H λJ h=>sL J g (eY T t) D b h
def Fw(n:gens[d+1]?=aa ⟨y,b,ifs,0⟩)
  (E:PI Y y b wi) (u:PG Y y g) (o:PTs Y ifs ti) (j:PTl Y c gens scope pos acc (d+1) t) (B:Y.xe=λ_ _=>False:=by rfl) (O:Y.calm=aN:=by rfl) (hs:∀x,VW b Y.env x=pure x:=by intro _;rfl) :
  PTl Y c gens scope pos acc d (BC wi g ti t):=by
 intro p s C H D I h;rw[n];refine⟨rfl,?_⟩;have z:=E p s C H _ I h;rw[B] at z;refine thn z λv s5 h5=>wpAny_of_eq (hs v) (thn h5 λU s6 Z=>?_);obtain⟨it,fp,tn,J,H6,e,Q,T,f,f6,W⟩:=Z;subst e;have L:=pN (c:=c) (gens:=gens) (scope:=scope) (pos:=pos) (acc:=acc) B O n T Q f f6 u o j W;refine wpAny_runOwn (VP (mQ n L (T.self _ 0 s6 _ _ f L)) λr s8 X=>?_);obtain⟨rfl,q⟩:=X;exact q
end
abbrev qV(o:HO)(own:Nat)(wi:TI)(g:TG)(T:Addr->TS):TE:=λc H Q=>wi c H λJ h=>∀b,h b=aD ->
 sL J g (T b) { nx:=λ_ f=>Q (.ref b) f,rt:=λ_ _=>False } (c++Zq own aD) (upd h b o)
@[inline]abbrev PL:=qV (.lst [])
section
variable {X:Cx} {c:CmK} {elt tg iter:Expr} {ifs:List Expr} {rest:List WL} {scope:Scope} {pos:Pos} {own:List Str} {hs:List Nat} {wi:TI} {g:TG} {ti:TT} {t:Addr->TS}
def KM{p:List (Addr × Obj)}{b:St}{H:Hp}{s:Shared}{E:Value->Shared->Prop}{Q:Value->Shared->Prop}(I:Inv X p b H s)(h:∀o,Inv X p b (upd H s.heap.objs.size (cmO c)) { s with heap:=s.heap.push o }->Q (.ref s.heap.objs.size) { s with heap:=s.heap.push o }):wpAny (model X.prog X.w) X.A (cmN c) Q E s:=by
 cases c with
 |l e=>exact UJ (h _ (I.lnew (its:=[]) (t':=s.toks) .nil (XC _)))
 |d k v=>exact UJ (h _ (I.laid (a:=s.heap.objs.size) (o:=.dK []) (t':=s.toks) (λ_ _ q=>Zk _ q) (Zd _) (mM s.heap I.big)))
def mR{j:List (Addr × Obj)}{σ:St}{Q:VK}{U:Value}{s2:Shared}{E:Value->Shared->Prop}(hc:X.calm=aN)(S:CmScope own hs X.N scope X.env.scope)
  (hgt:∀C ex s H,PG (cxC X own hs scope C ex s H) tg g) (hts:∀C ex s H,PTs (cxC X own hs scope C ex s H) ifs ti)
  (htl:∀C ex s H f,PTl (cxC X own hs scope C ex s H) c (⟨tg,iter,ifs,0⟩::rest) scope pos f 0 (t f))
  (h2:PIE X j σ tg (λJ H1=>∀f,H1 f=aD->sL J g (eY ti (t f)) { nx:=λ_ n=>Q (.ref f) n,rt:=λ_ _=>False } (σ++Zq own.length aD) (upd H1 f (cmO c))) U s2)
  {RR:Value->Addr->Result->Shared->Prop} (hRR:∀f C n s',Inv X j σ n s'->ie X j n C->(∃m,s'.heap.Ns C m)->Q (.ref f) n->RR (.ref f) C (.ok .next) s') :
  wpAny (model X.prog X.w) X.A (cmN c) (λf h=>wpAny (model X.prog X.w) X.A (V4 scope X.env.globals (ci X.env.cells scope.names []) [] X.env.qual aD .none (aa X.env)) (λu z=>
   codeAny (model X.prog X.w) X.A (.compStart (cmE c (⟨tg,iter,ifs,0⟩::rest) scope pos) 0 U f { u with scope:=relabel scope X.env }) (RR f u.locals) z) E h) E s2:=by
 obtain⟨it,v,tn,J,H2,e,I2,T,st2,f2,R⟩:=h2;subst e;refine KM I2 λob B=>?_;have W:=R s2.heap.objs.size (I2.hok.fresh (Zd _));generalize hs3:({ s2 with heap:=s2.heap.push ob }:Shared)=h at B ⊢;have e3:h.heap=s2.heap.push ob:=by rw[<-hs3]
 have k3:∀b o,s2.heap.get? b=aa o->h.heap.get? b=aa o:=λb o e=>by rw[e3];exact Zk _ e
 have Z:tn 0 h.heap:=T.keep _ _ _ st2 λb _ o e=>k3 b o e;have fne:∀b ∈ v,b < s2.heap.objs.size:=λb hb=>let ⟨o,e,_⟩:=T.obj _ _ st2 b hb;Zt e;have y:∀b ∈ v,ie X j (upd H2 s2.heap.objs.size (cmO c)) b:=λb hb=>⟨by rw[aG (ZF (fne b hb))];exact(f2 b hb).1,(f2 b hb).2⟩;have fo3:∀b ∈ v,b < h.heap.objs.size:=λb hb=>let ⟨o,e,_⟩:=T.obj _ _ Z b hb;Zt e;refine zj ?_;have I4:=B.compStart S y fo3;generalize hH3:upd H2 s2.heap.objs.size (cmO c)=H3 at B I4 y W
 have eE:({ scope:=relabel scope X.env,locals:=h.heap.objs.size,globals:=X.env.globals,cells:=VM (h.heap.objs.size+1) scope.names (ci X.env.cells scope.names []),qual:=X.env.qual,func:=aD,code:=X.env.code,frame:=X.env.frame,builtins:=X.env.builtins }:Env)=uX scope h.heap.objs.size X.env:=by
  unfold uX;rw[Fo]
 generalize hs4:({ h with heap:=V8 (h.heap.push { cls:=.type "dict", data:=.dict #[] }) scope.names }:Shared)=z at I4 ⊢;have k4:∀b o,h.heap.get? b=aa o->z.heap.get? b=aa o:=λb o e=>by rw[<-hs4];exact V9 _ _ b o (Zk _ e)
 have O:tn 0 z.heap:=T.keep _ _ _ Z λb _ o e=>k4 b o e
 have f4:∀b ∈ v,ie (cxC X own hs scope h.heap.objs.size v h H3) [] H3 b:=λb hb=>by
  refine⟨(y b hb).1,ZF (fo3 b hb),I4.ok.exfs b hb,.inl hb,λx c hl=>(I4.ok.exf b hb).2 x c hl,λp hp=>absurd (show p ∈ ([]:List (Addr × Obj)) from hp) (by simp)⟩
 have L:=pN (Y:=cxC X own hs scope h.heap.objs.size v h H3) (c:=c) (gens:=⟨tg,iter,ifs,0⟩::rest) (d:=0) (scope:=scope) (pos:=pos) (acc:=s2.heap.objs.size) rfl hc rfl T I4 O f4 (hgt _ _ _ _) (hts _ _ _ _) (htl _ _ _ _ _) W;have C:=mQ (c:=c) (gens:=⟨tg,iter,ifs,0⟩::rest) (d:=0) (scope:=scope) (pos:=pos) rfl L (T.self _ 0 z _ _ O L);show codeAny (model X.prog X.w) X.A (.compStart (cmE c (⟨tg,iter,ifs,0⟩::rest) scope pos) 0 (.ref it) (.ref s2.heap.objs.size) { scope:=relabel scope X.env,locals:=h.heap.objs.size,globals:=X.env.globals,cells:=VM (h.heap.objs.size+1) scope.names (ci X.env.cells scope.names []),qual:=X.env.qual,func:=aD,code:=X.env.code,frame:=X.env.frame,builtins:=X.env.builtins }) (RR (.ref s2.heap.objs.size) h.heap.objs.size) z;rw[eE];refine VP C λr s' hr=>?_;obtain⟨rfl,σ',n,I,q⟩:=hr;obtain⟨mC,nC,_⟩:=id I.loc;have freeC:n h.heap.objs.size=aD:=I.free;refine hRR _ _ n s' ?_ (B.fpOk (Zd _) freeC) ⟨mC,nC⟩ q;exact B.call' (ch:=v) I.os I.base I.hok I.bare λb hb=>⟨(y b hb).2.2.2.1,(y b hb).2.1,(y b hb).2.2.2.2.1,(y b hb).2.2.2.2.2⟩
def Fx{env:Env}:eval (cmE c (⟨tg,iter,ifs,0⟩::rest) scope pos) env=VR (cmE c (⟨tg,iter,ifs,0⟩::rest) scope pos) scope env (firstIterPos (⟨tg,iter,ifs,0⟩::rest) pos) (cmN c) aT (eval iter env):=by
 cases c with
 |l e=>exact eval_ListComp ..
 |d k v=>unfold cmE;rw[eval];rfl
def xG(T:X.calm=aN)(S:CmScope own hs X.N scope X.env.scope)(O:PI X tg iter wi)
  (z:∀C ex s H,PG (cxC X own hs scope C ex s H) tg g) (u:∀C ex s H,PTs (cxC X own hs scope C ex s H) ifs ti)
  (n:∀C ex s H f,PTl (cxC X own hs scope C ex s H) c (⟨tg,iter,ifs,0⟩::rest) scope pos f 0 (t f))
  (hs:∀x,VW iter X.env x=pure x:=by intro _;rfl) :
  PE X (cmE c (⟨tg,iter,ifs,0⟩::rest) scope pos) (qV (cmO c) own.length wi g λf=>eY ti (t f)):=by
 intro p s J H Q I h;rw[Fx];refine Uw (use:=aD) (cl:=ci X.env.cells scope.names []) Bx hs (xz λy B E=>I.ok.has y.1 (S.fr y B E)) S.kind (λy B E=>dj S.uniq (by rw[<-E];exact B)) ?_;refine thn (O p s J H _ I h) λv s1 h1=>thn h1 λY s2 L=>?_;refine mR (c:=c) T S z u n L (RR:=λf C=>compPost (model X.prog X.w) X.A X.xe aD (EP X p J Q) f C) λf C H' s' U j Z q=>?_;obtain⟨m,nm⟩:=Z;refine⟨m,nm,λh' sb=>⟨.ref f,H',?_,rfl,q⟩⟩;exact U.turned (t':=s'.toks) (λb o hb e=>(sb.2 b hb).trans e) j.1 j.2.1 j.2.2.2.1 j.2.2.2.2.1 j.2.2.2.2.2
def KN{env:Env}{use:Value->Sem Unit}:evalThenUse (cmE c (⟨tg,iter,ifs,0⟩::rest) scope pos) env use=(do let _ <-VR (cmE c (⟨tg,iter,ifs,0⟩::rest) scope pos) scope env (firstIterPos (⟨tg,iter,ifs,0⟩::rest) pos) (cmN c) aT (eval iter env) (aa use)):=by
 cases c <;> rfl
def Fy{i:Nat}(hc:X.calm=aN)(S:CmScope own hs X.N scope X.env.scope)(hN:X.N.Nodup)(hix:X.N[i]?=aa x)(hx:X.env.scope.names.lookup x=aa .local)(hi:PI X tg iter wi)
  (hgt:∀C ex s H,PG (cxC X own hs scope C ex s H) tg g) (U:∀C ex s H,PTs (cxC X own hs scope C ex s H) ifs ti)
  (J:∀C ex s H f,PTl (cxC X own hs scope C ex s H) c (⟨tg,iter,ifs,0⟩::rest) scope pos f 0 (t f))
  (Z:Uj (cmE c (⟨tg,iter,ifs,0⟩::rest) scope pos) (aa (.Name x p)) B.line X.env=pure aN:=by rfl)
  (hs:∀x,VW iter X.env x=pure x:=by intro _;rfl) :
  PS X (.Assign [.Name x p] (cmE c (⟨tg,iter,ifs,0⟩::rest) scope pos) B) (uM (qV (cmO c) own.length wi g λf=>eY ti (t f)) (mB i)):=by
 intro j s σ H D I h;rw[exec_Assign_Name_used _ _ _ _ Z];rw[KN];refine Ut (US (Ut ?_));show wpAny _ X.A (do let _ <-VR (cmE c (⟨tg,iter,ifs,0⟩::rest) scope pos) scope X.env _ (cmN c) aT (eval iter X.env) (aa (assign (.Name x p) X.env))) _ _ s
 refine Ut (UH (Uw (use:=aa (assign (.Name x p) X.env)) (Q:=λ_ u=>SP X j D .next u) (cl:=ci X.env.cells scope.names []) Bx hs (xz λy hy hk=>I.ok.has y.1 (S.fr y hy hk)) S.kind (λy hy hk=>dj S.uniq (by rw[<-hk];exact hy))
  ?_) (λ_ u hq=>UL (UL hq)) λ_ _ e=>e)
 refine thn (hi j s σ H _ I h) λv s1 h1=>thn h1 λitv s2 h2=>?_;refine mR (c:=c) (Q:=λy Y=>mB i y σ Y D.nx) hc S hgt U J h2 (RR:=λf C=>compPost (model X.prog X.w) X.A X.xe (aa (assign (.Name x p) X.env)) (λ_ u=>SP X j D .next u) f C) λf C Y u I' n m' q=>?_;obtain⟨m,nm⟩:=m';show wpAny _ X.A (assign (.Name x p) X.env (.ref f)) _ _ _;refine wpAny_assign_Name (pA (v:=.ref f) I' hN hix (.inl hx) rfl (λE L O=>?_) (.inr hx));obtain⟨a,T,ha⟩:=O
 have ne:C ≠ a:=by
  rcases ha with e |e
  ·rw[e];exact n.2.1
  ·exactλz=>n.2.2.2.2.1 x a e z.symm
 refine⟨m,nm.sameBut T ne,λh' sb=>⟨_,Y,?_,q⟩⟩;exact L.turned (t':=E.toks) (λb o hb e=>(sb.2 b hb).trans e) n.1 n.2.1 n.2.2.2.1 n.2.2.2.2.1 n.2.2.2.2.2
end
end L2
namespace HT
open PySem PyProof.Rows
section
variable {prog:Program} {w:World} {A:Around} {E:Value->Shared->Prop} {s:Shared}
def BD{t b:Addr}{q:List Value}{Q:Value->Shared->Prop}(z:IsTup s.heap t ([]:List Value).toArray)(hb:IsTup s.heap b q.toArray)(h:Q (.ref b) s):wpAny (model prog w) A (VG .Add (.ref t) (.ref b)) Q E s:=by
 obtain⟨⟨cls,y,u,sl⟩,p,v,n,hd⟩:=id z;obtain⟨⟨C,o,data2,j⟩,g,c,B,f⟩:=id hb;simp only at v hd c f;subst v hd c f
 exact VS ⟨_,p,rfl⟩ ⟨_,g,rfl⟩ V5 Ud WY WO (WM _ _)
   (tuple_addW0 t b _ q.toArray n B y o sl j (by simp)) ⟨p,g,h⟩
def ij{t sl:Addr}{I:Array Value}{v q:Value}{lo f:Option Int}{Q:Value->Shared->Prop}(b:IsTup s.heap t I)(hs:s.heap.IsSliceOf sl v q .none)(pl:IsPart v lo)(z:IsPart q f)
  (u:sIx I.size 0 lo=0/\sIx I.size I.size f=I.size) (h:Q (.ref t) s):wpAny (model prog w) A (getItem (.ref t) (.ref sl)) Q E s:=by
 obtain⟨os,g,p,y⟩:=id hs;have j:s.TypeIs (.ref sl) "slice" := ⟨os,g,p⟩;obtain⟨o,B,C,n,hd⟩:=id b;unfold getItem
 try with_reducible refine UC ?_
 first |refine Ut (UL ?_) |skip
 refine Ut (wpAny_sequenceKey b.typeIs (by decide) ?_)
 refine Ut (wpAny_callSpecial?_slot (name:=Str.ofString "__getitem__") b.typeIs WI
  (Uv WI b.typeIs entry_tuple_getitem ?_ (args_tuple_getitem _ _)))
 show wpAny _ _ (Builtin.Tuple.tupleItemsOf (.ref t) >>= _) _ _ s;refine Ut (tupleItemsOf_ b ?_);refine Ut (UU j ?_);rw[if_pos (by decide)];refine Ut (eX hs pl z ?_)
 have c:((((sIx I.size 0 lo:Nat):Int) == 0 && (1:Int) == 1 && (sIx I.size I.size f - sIx I.size 0 lo) == I.size)=aN):=by
  rw[u.1,u.2];simp
 show wpAny _ _ (if (((sIx I.size 0 lo:Nat):Int) == 0 && (1:Int) == 1 && (sIx I.size I.size f - sIx I.size 0 lo) == I.size)=aN then _ else _) _ _ s;rw[if_pos c];have hT:s.TypeIs (.ref t) "tuple" := b.typeIs
 first
  | (refine Ut (m:=Builtin.Tuple.tupleIsExact _) ?_
     unfold Builtin.Tuple.tupleIsExact;refine Ut (UU hT (UL ?_));rw[if_pos (by decide)];exact Ut (UR (UL ⟨_,rfl,UL h⟩)))
end
end HT
namespace L2
open PySem PySem.Spec PyProof.Rows
def sM{s:Shared}{h:Heap}{o:Obj}(f:∀b x,b ∉ [s.heap.objs.size]->(s.heap.push o).get? b=aa x->h.get? b=aa x):∀b x,s.heap.get? b=aa x->h.get? b=aa x:=
 λb x e=>f b x (λc=>by rw[ZK.mp c] at e;exact ZQ _ (Zt e)) (Zk _ e)
section
variable {X:Cx}
abbrev PM(K:Vf):R2:=λx y H Q=>∃a b xs Y,x = .ref a/\y = .ref b/\SqT K H a xs/\SqT K H b Y/\xs.length+Y.length<=sizeLine ∧
 (xs=[]->Q (.ref b) H)/\(xs ≠ []->Y=[]->Q (.ref a) H)/\(xs ≠ []->Y ≠ []->∀p,H p=aD->Q (.ref p) (upd H p (.tup (xs++Y))))
def Fz:OpR X (VG .Add) (PM X.K):=by
 intro p s o H x y v u Q I j f h;obtain⟨a,b,xs,Y,rfl,rfl,n,hb,z,J,E,C⟩:=h;by_cases c:xs=[]
 ·subst c;cases j;cases f;obtain⟨L,r1,B,_⟩:=I.tuple n;obtain⟨g,r2,q,_⟩:=I.tuple hb;cases r1;exact HT.BD B q ⟨.ref b,H,I,rfl,J rfl⟩
 ·exact Fh p s o H _ _ v u Q I j f ⟨a,b,xs,Y,rfl,rfl,n,hb,c,z,E c,C c⟩
abbrev Ss(K:Vf):V->Option Int->Option Int->Hp->VK->Prop:=λx lo h H Q=>∃a xs,x = .ref a/\SqT K H a xs ∧
 ((HT.sIx xs.length 0 lo=0/\HT.sIx xs.length xs.length h=xs.length)->Q (.ref a) H) ∧
 (¬ (HT.sIx xs.length 0 lo=0/\HT.sIx xs.length xs.length h=xs.length)->∀p,H p=aD->Q (.ref p) (upd H p (.tup (mL xs lo h))))
def FA:SlR X (Ss X.K):=by
 intro p s u H x v C y lo g sl Q I o hs pl q h;obtain⟨a,xs,rfl,n,B,z⟩:=h;by_cases c:(HT.sIx xs.length 0 lo=0/\HT.sIx xs.length xs.length g=xs.length)
 ·cases o;obtain⟨f,r,j,E⟩:=I.tuple n;have b:f.toArray.size=xs.length:=by rw[Zm];exact r.length.symm
  refine⟨"tuple", _,PyProof.Rows.slot_tuple_getitem.lookup,j.typeIs,?_⟩;exact HT.ij j hs pl q (by rw[b];exact c) ⟨.ref a,H,I,rfl,B c⟩
 ·exact KD p s u H _ v C y lo g sl Q I o hs pl q ⟨a,xs,rfl,n,c,z c⟩
def sN:aV X (.builtin "isinstance") (λxs H Q=>∃x n t b,xs=[x,.ty n]/\TyOf X.K H x t/\Vt X.K t (.type n)=aa b/\Q (.bl b) H):=by
 intro p s g H xs U Q I r h;obtain⟨x,n,t,b,rfl,ty,e,q⟩:=h;obtain⟨u,j,rfl,c,f⟩:=xq r;cases f;exact ze I c ty e λT=>⟨.bl b,H,I.tok T,rfl,q⟩
def iP:∀ {bs:List Bool} {u:List Value},aO (bs.map V.bl) u->u=bs.map Value.bool
 |[],_,.nil=>rfl
 |_::_,_,.cons r t=>by rw[Zz,iP t];cases r;rfl
def zp(y:X.calm=aN):aV X (.builtin "all") (λxs H Q=>∃ (l:Addr) (bs:List Bool),xs=[.ref l]/\SqL X.K H l (bs.map V.bl)/\Q (.bl (bs.all id)) H):=by
 intro o s U H xs us Q I r h;obtain⟨l,bs,rfl,B,q⟩:=h;obtain⟨u,rfl,C⟩:=cI r;cases C;obtain⟨J,L,p,hz⟩:=I.list B;have e:=iP L;subst e;have j:=p.isList;have g:l < s.heap.objs.size:=by obtain⟨_,e,_⟩:=j;exact Zt e
 refine call_all_walk (UN j ?_)
 refine⟨s.heap.objs.size,[s.heap.objs.size,l],[s.heap.objs.size],_,_,_,λi=>(bs[i]?).getD aN,rfl,Walks.list (A:=X.A.in1) (I.ok.hd y) _ l (ZF g) _,
  ⟨⟨_,ZG _ rfl,rfl,rfl⟩,j.push _⟩,λi v s' Q' Z z n=>?_,λY T O=>?_⟩
 ·have c:(bs.map Value.bool)[i]?=aa v:=by simpa using z
  rw[Zj] at c;cases hb:bs[i]? with
  |none=>rw[hb] at c;cases c
  |some b=>
   rw[hb] at c;have E:Value.bool b=v:=Option.some.inj c;subst E;simp only[hb,ZT] at n;exact UT n
 ·have e:((Ze (bs.map Value.bool).toArray.size).all λi=>(bs[i]?).getD aN)=bs.all id:=by
   rw[Zm,Za,Yi];simp only[ZL,ZU,id];constructor
   ·intro h b hb;obtain⟨i,f,rfl⟩:=XD.mp hb;have:=h i f
    rwa [gEG f,ZT] at this
   ·intro h i f;rw[gEG f,ZT];exact h _ (ZI f)
  rw[e];exact⟨.bl (bs.all id),H,I.kept (t':=T) (sM O),rfl,q⟩
def zq(y:X.calm=aN):aV X (.builtin "any") (λxs H Q=>∃ (l:Addr) (bs:List Bool),xs=[.ref l]/\SqL X.K H l (bs.map V.bl)/\Q (.bl (bs.any id)) H):=by
 intro o s U H xs us Q I r h;obtain⟨l,bs,rfl,B,q⟩:=h;obtain⟨u,rfl,C⟩:=cI r;cases C;obtain⟨J,L,p,hz⟩:=I.list B;have e:=iP L;subst e;have j:=p.isList;have g:l < s.heap.objs.size:=by obtain⟨_,e,_⟩:=j;exact Zt e
 refine call_any_walk (UN j ?_)
 refine⟨s.heap.objs.size,[s.heap.objs.size,l],[s.heap.objs.size],_,_,_,λi=>(bs[i]?).getD aT,rfl,Walks.list (A:=X.A.in1) (I.ok.hd y) _ l (ZF g) _,
  ⟨⟨_,ZG _ rfl,rfl,rfl⟩,j.push _⟩,λi v s' Q' Z z n=>?_,λY T O=>?_⟩
 ·have c:(bs.map Value.bool)[i]?=aa v:=by simpa using z
  rw[Zj] at c;cases hb:bs[i]? with
  |none=>rw[hb] at c;cases c
  |some b=>
   rw[hb] at c;have E:Value.bool b=v:=Option.some.inj c;subst E;simp only[hb,ZT] at n;exact UT n
 ·have e:((Ze (bs.map Value.bool).toArray.size).any λi=>(bs[i]?).getD aT)=bs.any id:=by
   rw[Zm,Za,Yi];simp only[YZ,ZU,id];constructor
   ·rintro⟨i,f,h⟩;rw[gEG f,ZT] at h;exact⟨_,ZI f,h⟩
   ·rintro⟨b,hb,h⟩;obtain⟨i,f,rfl⟩:=XD.mp hb;exact⟨i,f,by rw[gEG f,ZT];exact h⟩
  rw[e];exact⟨.bl (bs.any id),H,I.kept (t':=T) (sM O),rfl,q⟩
def KO:OpR X (VQ .Is) (λx y H Q=>∃b c,x = .bl b/\y = .bl c/\Q (.bl (b == c)) H):=by
 intro p s j H x y v u Q I f g h;obtain⟨b,c,rfl,rfl,q⟩:=h;cases f;cases g;exact is_bool ⟨.bl _,H,I,rfl,q⟩
def zr:OpR X (VQ .IsNot) (λx y H Q=>∃b c,x = .bl b/\y = .bl c/\Q (.bl (b != c)) H):=by
 intro p s j H x y v u Q I f g h;obtain⟨b,c,rfl,rfl,q⟩:=h;cases f;cases g;exact isnot_bool ⟨.bl _,H,I,rfl,q⟩
def mS(J:X.calm=aN):∀ {p:List (Addr × Obj)} {s:Shared} {g:St} {H:Hp} {Q:VK} {r:Addr} {n:Nat} {t u v:Tok},Inv X p g H s->IsRange s.heap r 0 n 1 t u v->n<=1000->(∀l,H l=aD->Q (.ref l) (upd H l (.lst ((Ze n).map λ(i:Nat)=>V.int i)))) ->
  wpAny (model X.prog X.w) X.A (call (.type "list") [.ref r]) (EP X p g Q) X.xe s:=by
 intro p s g H Q r n t u v I Z O q;have E:Builtin.Range.small 0 n 1=aN:=small_one (by lia) (by lia) (by lia) (by lia);refine call_list_range (n:=n) (I.ok.hd J) Z E (by rw[Ua];split <;> lia) (by lia) λh' z b c' hk B h=>?_;refine⟨.ref s.heap.objs.size,_,I.laid (t':=z) (o:=.lst ((Ze n).map λ(i:Nat)=>V.int i)) hk (Zd _) ?_,rfl,q _ (I.hok.fresh (Zd _))⟩;have C:b.size=n:=h.1;refine⟨by rw[Za,Zx];exact Xo (zi O),b.toList,c',?_,by simpa using B⟩
 have go:∀ (m:Nat) (k:Nat) (l:List Value),l.length=m->(∀j x,l[j]?=aa x->∃z,x=Value.int (((k+j:Nat):Nat):Int) z)->aO ((List.range' k m).map λ(i:Nat)=>V.int i) l:=by
  intro m
  induction m with
  |zero=>intro k l c _;cases l with |nil=>exact .nil |cons _ _=>cases c
  |succ m U=>
   intro k l c f;cases l with
   |nil=>cases c
   |cons x l=>
    rw[List.range'_succ,Zz];obtain⟨t,e⟩:=f 0 x rfl;refine .cons ⟨t,by simpa using e⟩ (U (k+1) l (by simpa using c) λj y L=>?_);obtain⟨t',Y⟩:=f (j+1) y (by simpa using L);exact⟨t',by rw[Y,show((k+(j+1):Nat):Int)=((k+1+j:Nat):Int) from by lia]⟩
 rw[List.range_eq_range'];refine go n 0 b.toList (by simpa using C) λj x f=>?_;obtain⟨T,e⟩:=h.2 j x (by simpa using f);exact⟨T,by rw[e,show(0:Int)+(j:Nat) * 1=((0+j:Nat):Int) from by lia]⟩
end
end L2
namespace HT
open PySem PyProof.Rows
open AutoSeq1 (wpAny_loadPart')
section
variable {prog:Program} {w:World} {A:Around} {E:Value->Shared->Prop} {s:Shared}
def lu{i:Nat}(h:s.heap.IsTupleIter b t i)(p:s.heap.IsTuple t I)(q:I[i]?=aa x)
  (n:∀f,f.IsTupleIter b t (i+1)->Heap.SameBut b s.heap f->Q x { s with heap:=f }):wpAny (model prog w) A (Builtin.SmallTypes.nextOf (.ref b)) Q E s:=by
 obtain⟨o,c,u,hd⟩:=id h;obtain⟨O,g,_,v,j⟩:=p;unfold Builtin.SmallTypes.nextOf
 refine Ut (wpAny_callSpecial?_slot (name:=Str.ofString "__next__") h.typeIs W0
  (Uv W0 h.typeIs WQ ?_ (WN _)))
 show wpAny _ _ (field (.ref b) 0 >>= _) _ _ s;refine Ut (UA c hd (x:=.ref t) rfl ?_);show wpAny _ _ (if (Value.ref t == Value.none)=aN then _ else _) _ _ s;rw[if_neg (show ¬ ((Value.ref t == Value.none)=aN) from Zg)];show wpAny _ _ (field (.ref b) 1 >>= _) _ _ s;refine Ut (UA c hd (x:=.int i 0) rfl ?_);show wpAny _ _ (seqItems? (.ref t) >>= _) _ _ s;refine Ut (wpAny_seqItems g j ?_);simp only[Zo,q];refine Ut (wpAny_setField c hd (by simp) (UL ⟨x,rfl,UL (n _ ?_ (Heap.SameBut.update ..))⟩))
 exact⟨_,Xv _ c (Obj.isFreed_of_fields (Obj.data_mapFields hd _)),(Obj.cls_mapFields ..).trans u,by
  rw[Obj.data_mapFields hd];simp[rawInt]⟩
def mU{i:Nat}(n:A.handled=aD)(h:s.heap.IsTupleIter b t i)(p:s.heap.IsTuple t I)(q:I[i]?=aD)
  (u:∀c e,Heap.ExtBut b s.heap c->(∃o,c.get? e=aa o/\o.cls = .type "StopIteration")->E (.ref e) { s with heap:=c }):wpAny (model prog w) A (Builtin.SmallTypes.nextOf (.ref b)) Q E s:=by
 obtain⟨o,f,v,hd⟩:=id h;obtain⟨O,g,_,y,j⟩:=p;unfold Builtin.SmallTypes.nextOf
 refine Ut (wpAny_callSpecial?_slot (name:=Str.ofString "__next__") h.typeIs W0
  (Uv W0 h.typeIs WQ ?_ (WN _)))
 show wpAny _ _ (field (.ref b) 0 >>= _) _ _ s;refine Ut (UA f hd (x:=.ref t) rfl ?_);show wpAny _ _ (if (Value.ref t == Value.none)=aN then _ else _) _ _ s;rw[if_neg (show ¬ ((Value.ref t == Value.none)=aN) from Zg)];show wpAny _ _ (field (.ref b) 1 >>= _) _ _ s;refine Ut (UA f hd (x:=.int i 0) rfl ?_);show wpAny _ _ (seqItems? (.ref t) >>= _) _ _ s;refine Ut (wpAny_seqItems g j ?_);simp only[Zo,q];refine Ut (UR (Ut (wpAny_setField f hd (by simp) ?_)));show wpAny _ _ (newExc (.type "StopIteration") [] >>= _) _ _ _;refine Ut ?_;simp only[newExc,newTuple];refine Ut (UJ ?_ (by size_fits));refine Ut (m:=firstArgMember _ _) (wpAny_of_eq (a:=Value.none) (by first |rfl |(simp only[firstArgMember];rfl)) ?_);refine UJ ?_ (by size_fits);simp only[raiseNew];refine Ut (wpAny_handled ?_)
 first |rw[show A.in1.handled=aD from n] |rw[n]
 refine Ut (UL (wpAny_throw ?_));exact u _ _ (((Heap.SameBut.update ..).extBut.push _).push _) ⟨_,ZG _ rfl,rfl⟩
end
def BE(y:A.handled=aD)(c l:Addr)(g:l ≠ c)(I:Array Value) :
  Draws prog w A c [c,l] I.size (λi v=>I[i]?=aa v) (λi h=>h.IsTupleIter c l i/\h.IsTuple l I) where
 live:=λ_ _ st=>let ⟨o,ho,_⟩:=st.1;⟨o,ho⟩
 frame:=λ_ _ _ st n=>⟨st.1.at λo e=>n c (by simp) o e,let ⟨o,e,r⟩:=st.2;⟨o,n l (by simp) o e,r⟩⟩
 item:=λi s Q E j st p=>by
  refine lu st.1 st.2 (x:=I[i]) (by simp[j]) λq f b=>?_;exact p _ q s.toks (by simp[j]) ⟨f,let ⟨o,e,r⟩:=st.2;⟨o,b.extBut l o g e,r⟩⟩ b
 done:=λs Q E st u=>mU y st.1 st.2 (by simp) u
def sO(l:Addr)(items:Array Value)(n:Nat)(f:Option Addr)(sl:Array (Option Value)) :
  Meets (Builtin.«enumerate.__new__» ⟨[.type "enumerate", .ref l],[]⟩) (λ_ R s=>s.heap.get? l=aa { cls:=.type "tuple", dict:=f,data:=.seq items n,slots:=sl } ∧
   R (.ok (.ret (.ref (s.heap.push { cls:=.type "tuple_iterator", data:=.fields #[.ref l,.int 0 0] }).objs.size)))
    { s with heap:=(s.heap.push { cls:=.type "tuple_iterator", data:=.fields #[.ref l,.int 0 0] }).push { cls:=.type "enumerate", data:=.fields #[.none,.bool aT,.ref s.heap.objs.size,rawInt 0,.none,.none] } }):=
 .of_wp λprog w A R s h=>by
  obtain⟨p,g,d,T,os⟩:=s;obtain⟨b,h⟩:=h;have o:=sub_enumerate;have j:Heap.IsTuple (Shared.heap ⟨p,g,d,T,os⟩) l items:=⟨_,b,rfl,n,rfl⟩
  wp_walk using UF b
  refine wpAny_stack_any λst=>UL ?_;split
  ·rename_i c _ _ _ _ _;cases (c == Value.type "enumerate")
   ·wp_walk using UF b,UO j
    exact⟨_,rfl,h⟩
   ·wp_walk using UF b,UO j
    exact⟨_,rfl,h⟩
  ·wp_walk using UF b,UO j
   exact⟨_,rfl,h⟩
def uZ(u:IsTup s.heap l I)
  (h:∀f,IsEnum f (s.heap.objs.size+1) s.heap.objs.size 0 .none->f.IsTupleIter s.heap.objs.size l 0->f.objs.size=s.heap.objs.size+2 ->
   (∀b o,s.heap.get? b=aa o->f.get? b=aa o)->Q (.ref (s.heap.objs.size+1)) { s with heap:=f }) :
  wpAny (model prog w) A (call (.type "enumerate") [.ref l]) Q E s:=by
 obtain⟨⟨c,p,v,sl⟩,y,j,n,hd⟩:=u;replace j:c = .type "tuple" := j;replace hd:v = .seq I n:=hd;subst j hd
 refine callType_new PySem.F.called_enumerate (by decide) (PySem.F.typeCall_enumerate_1 _) (PySem.F.newCall_enumerate_1 _) (λobj=>PySem.F.args_object_init_2 obj _) PySem.F.entry_enumerate_new
  (sO l I n p sl) ⟨y,?_⟩
 have g:(s.heap.push { cls:=.type "tuple_iterator", data:=.fields #[.ref l,.int 0 0] }).objs.size=s.heap.objs.size+1:=YN ..;show _/\_;rw[g]
 have q:IsEnum ((s.heap.push { cls:=.type "tuple_iterator", data:=.fields #[.ref l,.int 0 0] }).push
   { cls:=.type "enumerate", data:=.fields #[.none,.bool aT,.ref s.heap.objs.size,rawInt 0,.none,.none] }) (s.heap.objs.size+1) s.heap.objs.size 0 .none:=by
  have:=ZG (s.heap.push { cls:=.type "tuple_iterator", data:=.fields #[.ref l,.int 0 0] })
   (o:={ cls:=.type "enumerate", data:=.fields #[.none,.bool aT,.ref s.heap.objs.size,rawInt 0,.none,.none] }) rfl
  rw[g] at this;exact this
 exact⟨⟨_,q,rfl⟩,h _ q ⟨_,Zk _ (ZG _ rfl),rfl,rfl⟩ (by rw[YN,g]) λb o x=>Zk _ (Zk _ x)⟩
end HT
namespace L2
open PySem PySem.Spec PyProof.Rows
abbrev Ite(K:Vf)(a:Addr)(b:Vf->Hp->Addr->List V->Prop):It:=
 ⟨λi H=>∃xs x,b K H a xs/\xs[i]?=aa x,λi H x h=>∃T,H T=aD/\x = .ref T/\∀xs v,b K H a xs->xs[i]?=aa v->h=upd H T (.tup [.int i,v]),λi H=>∃xs,b K H a xs/\xs.length=i⟩
def Inv.turnedLaid{X:Cx}{p:List (Addr × Obj)}{y:St}{H:Hp}{s:Shared}{g:Heap}{T:Addr}{o:HO}{t':Nat}{C:List Addr}(I:Inv X p y H s)(f:∀b ∈ C,ie X p H b)
  (k:∀b ob,b ∉ C->s.heap.get? b=aa ob->g.get? b=aa ob) (B:s.heap.objs.size<=T) (new:bv X.prog X.w (upd H T o) g T o):Inv X p y (upd H T o) { s with heap:=g,toks:=t' }:=by
 have fr:=I.hok.fresh B;have neT:∀b ob,s.heap.get? b=aa ob->b ≠ T:=λb ob e=>ZF (Zy (Zt e) B)
 refine I.step (g':=s.gens) (d':=s.drawn) (ch:=C) (λb hb=>⟨(f b hb).2.2.2.1,(f b hb).2.1,(f b hb).2.2.2.2.1,(f b hb).2.2.2.2.2⟩) (λb ob _ _ h e _=>k b ob h e) (λb ob _ _ h e _=>⟨ob.slots,k b ob h e⟩)
  (λb ob _ e n=>by rw[aG (neT b ob e)];exact n) (λb ob h e=>⟨ob,k b ob h e⟩) (λb xs q=>by rw[aG (aU q fr)];exact q) (λb u xs q=>by rw[aG (aU q fr)];exact q)
  (λb ps q=>⟨#[],by rw[aG (aU q fr),q];simp⟩) (λm J=>?_) (λb u q=>?_) I.bare
 ·obtain⟨ob,E,O,j,L⟩:=J;exact⟨ob,E,O,k _ ob (λz=>(f _ z).2.1 rfl) j,L⟩
 ·by_cases hb:b=T
  ·subst hb;rw[aH] at q;cases q;exact new
  ·rw[aG hb] at q;refine(I.hok b u q).stay (λc v h Q=>k c v (λz=>?_) Q) (λc q=>by rw[aG (aU q fr)];exact q) λc xs q=>by rw[aG (aU q fr)];exact q
   have n:=(f c z).1;rcases h with w |w
   ·rw[w,q] at n;cases n
   ·rw[w] at n;cases n
def Inv.turnedAll{X:Cx}{p:List (Addr × Obj)}{j:St}{H:Hp}{s:Shared}{o:Heap}{t':Nat}{C:List Addr}(I:Inv X p j H s)(f:∀b ∈ C,ie X p H b)
  (k:∀b ob,b ∉ C->s.heap.get? b=aa ob->o.get? b=aa ob):Inv X p j H { s with heap:=o,toks:=t' }:=by
 refine I.step (g':=s.gens) (d':=s.drawn) (ch:=C) (λb hb=>⟨(f b hb).2.2.2.1,(f b hb).2.1,(f b hb).2.2.2.2.1,(f b hb).2.2.2.2.2⟩) (λb ob _ _ h e _=>k b ob h e) (λb ob _ _ h e _=>⟨ob.slots,k b ob h e⟩)
  (λb ob _ e n=>n) (λb ob h e=>⟨ob,k b ob h e⟩) (λb xs q=>q) (λb u xs q=>q)
  (λb ps q=>⟨#[],by rw[q];simp⟩) (λm y=>?_) (λb u q=>?_) I.bare
 ·obtain⟨ob,E,J,g,B⟩:=y;exact⟨ob,E,J,k _ ob (λz=>(f _ z).2.1 rfl) g,B⟩
 ·refine(I.hok b u q).stay (λc v h Q=>k c v (λz=>?_) Q) (λc q=>q) λc xs q=>q;have n:=(f c z).1;rcases h with w |w
  ·rw[w,q] at n;cases n
  ·rw[w] at n;cases n
def u0{P:Program}{w:World}{K:Vf}{elts:List Expr}{x1:Nat}{tp:Pos}(a e it:Addr)(Y:e ≠ it) :
  Turn P w K (.Tuple elts x1 tp) (Ite K a SqL) [e,it] e (λi h=>(∃O,IsEnum h e it i O)/\h.IsListIter it a i) where
 mem:=by simp
 obj:=λi h st b hb=>by
  obtain⟨⟨O,B⟩,o,U,c,d⟩:=st;rcases Zl.mp hb with z |z
  ·subst z;exact⟨_,B,λv z=>by have z':Data.fields _=Data.cell v:=z;cases z'⟩
  ·have z':=ZK.mp z;subst z';exact⟨o,U,λv z=>by rw[d] at z;cases z⟩
 keep:=λi h h' st k=>⟨let ⟨O,B⟩:=st.1;⟨O,k e (by simp) _ B⟩,st.2.at λo U=>k it (by simp) o U⟩
 item:=by
  intro X Z hw hK hc i pins s σ H E I hf st hg;subst Z hw hK;obtain⟨xs,x,hq,hx⟩:=hg;obtain⟨f,rv,p,hz⟩:=I.list hq;obtain⟨u,hu,ru⟩:=rv.get hx;obtain⟨⟨O,B⟩,j⟩:=st;have hL:s.heap.IsList a f.toArray:=p.isList
  have hae:e ≠ a:=λz=>by
   subst z;obtain⟨o,C,hc',n,g⟩:=id hL;rw[B] at C;cases C;have z':Data.fields _=Data.seq f.toArray n:=g;cases z'
  have Q:a ≠ it:=λz=>by
   subst z;obtain⟨o,C,hc',n,g⟩:=id hL;obtain⟨o',T,c',d'⟩:=id j;rw[T] at C;cases C;rw[d'] at g;cases g
  have hi:i < f.toArray.size:=by
   have:=(Zb.mp hu).1
   simpa using this
  refine UQ (Draws.list (A:=X.A.in1) (I.ok.hd hc) it a Q f.toArray) B ⟨j,hL⟩ hi Y (by simp[Y,hae]) λy h' tk Z C hs' hT hsz hk=>?_
  have ey:y=u:=by
   have z:f.toArray[i]?=aa u:=by simpa using hu
   rw[z] at Z;exact(Option.some.inj Z).symm
  subst ey;refine⟨_,rfl,?_⟩;refine UE C λh2 he2 L=>?_;have J:e < s.heap.objs.size:=Zt B;have hilt:it < s.heap.objs.size:=by obtain⟨o,U,_⟩:=j;exact Zt U
  have hT2:h2.get? s.heap.objs.size=aa { cls:=.type "tuple", data:=.seq #[.int i tk,y] }:=(L.2 _ (X2 J)).trans hT;have fresh:=I.hok.fresh (Zd s.heap.objs.size);refine⟨.ref s.heap.objs.size,upd H s.heap.objs.size (.tup [.int i,x]),?_,rfl,⟨_,fresh,rfl,λys v hy hv=>?_⟩,⟨⟨y,by simpa using he2⟩,hs'.1.at λo U=>(L.2 it (Ne.symm Y)).trans U⟩,λb hb=>?_⟩
  ·exact I.turnedLaid (t':=tk+1) hf (λb ob hb eb=>(L.2 b λz=>hb (by simp[z])).trans (hk b ob (λz=>hb (by simp[z])) (λz=>hb (by simp[z])) eb)) (Zd _)
    ⟨by show 2<=sizeLine;decide,[.int i tk,y],.cons ⟨tk,rfl⟩ (.cons ru .nil),⟨_,hT2,rfl,_,rfl,rfl⟩⟩
  ·rw[I.list_inj hy hq,hx] at hv;cases hv;rfl
  ·rcases Zl.mp hb with z |z
   ·rw[z,aG (ZF J)];exact(hf e (by simp)).1
   ·rw[ZK.mp z,aG (ZF hilt)];exact(hf it (by simp)).1
 done:=by
  intro X Z hw hK hc i pins s σ H E I hf st hg;subst Z hw hK;obtain⟨xs,hq,hx⟩:=hg;obtain⟨f,rv,p,hz⟩:=I.list hq;obtain⟨⟨O,B⟩,j⟩:=st;have hL:s.heap.IsList a f.toArray:=p.isList
  have Q:a ≠ it:=λz=>by
   subst z;obtain⟨o,C,hc',n,g⟩:=id hL;obtain⟨o',T,c',d'⟩:=id j;rw[T] at C;cases C;rw[d'] at g;cases g
  have hn:f.toArray.size=i:=by rw[Zm,<-rv.length,hx]
  subst hn;refine UP (Draws.list (A:=X.A.in1) (I.ok.hd hc) it a Q f.toArray) B ⟨j,hL⟩ λh' eb=>⟨rfl,?_⟩;exact I.turnedAll (t':=s.toks) hf λb ob hb q=>eb b ob (λz=>hb (by simp[z])) q
 self:=λ_ _ _ _ _ st h=>let ⟨⟨O,B⟩,_⟩:=st;UM B h
def vf{P:Program}{w:World}{K:Vf}{elts:List Expr}{x1:Nat}{tp:Pos}(a e it:Addr)(Y:e ≠ it) :
  Turn P w K (.Tuple elts x1 tp) (Ite K a SqT) [e,it] e (λi h=>(∃O,IsEnum h e it i O)/\h.IsTupleIter it a i) where
 mem:=by simp
 obj:=λi h st b hb=>by
  obtain⟨⟨O,B⟩,o,U,c,d⟩:=st;rcases Zl.mp hb with z |z
  ·subst z;exact⟨_,B,λv z=>by have z':Data.fields _=Data.cell v:=z;cases z'⟩
  ·have z':=ZK.mp z;subst z';exact⟨o,U,λv z=>by rw[d] at z;cases z⟩
 keep:=λi h h' st k=>⟨let ⟨O,B⟩:=st.1;⟨O,k e (by simp) _ B⟩,st.2.at λo U=>k it (by simp) o U⟩
 item:=by
  intro X Z hw hK hc i pins s σ H E I hf st hg;subst Z hw hK;obtain⟨xs,x,hq,hx⟩:=hg;obtain⟨f,rv,p,hz⟩:=I.tuple hq;obtain⟨u,hu,ru⟩:=rv.get hx;obtain⟨⟨O,B⟩,j⟩:=st;have hL:s.heap.IsTuple a f.toArray:=p
  have hae:e ≠ a:=λz=>by
   subst z;obtain⟨o,C,hc',n,g⟩:=id hL;rw[B] at C;cases C;have z':Data.fields _=Data.seq f.toArray n:=g;cases z'
  have Q:a ≠ it:=λz=>by
   subst z;obtain⟨o,C,hc',n,g⟩:=id hL;obtain⟨o',T,c',d'⟩:=id j;rw[T] at C;cases C;rw[d'] at g;cases g
  have hi:i < f.toArray.size:=by
   have:=(Zb.mp hu).1
   simpa using this
  refine UQ (HT.BE (A:=X.A.in1) (I.ok.hd hc) it a Q f.toArray) B ⟨j,hL⟩ hi Y (by simp[Y,hae]) λy h' tk Z C hs' hT hsz hk=>?_
  have ey:y=u:=by
   have z:f.toArray[i]?=aa u:=by simpa using hu
   rw[z] at Z;exact(Option.some.inj Z).symm
  subst ey;refine⟨_,rfl,?_⟩;refine UE C λh2 he2 L=>?_;have J:e < s.heap.objs.size:=Zt B;have hilt:it < s.heap.objs.size:=by obtain⟨o,U,_⟩:=j;exact Zt U
  have hT2:h2.get? s.heap.objs.size=aa { cls:=.type "tuple", data:=.seq #[.int i tk,y] }:=(L.2 _ (X2 J)).trans hT;have fresh:=I.hok.fresh (Zd s.heap.objs.size);refine⟨.ref s.heap.objs.size,upd H s.heap.objs.size (.tup [.int i,x]),?_,rfl,⟨_,fresh,rfl,λys v hy hv=>?_⟩,⟨⟨y,by simpa using he2⟩,hs'.1.at λo U=>(L.2 it (Ne.symm Y)).trans U⟩,λb hb=>?_⟩
  ·exact I.turnedLaid (t':=tk+1) hf (λb ob hb eb=>(L.2 b λz=>hb (by simp[z])).trans (hk b ob (λz=>hb (by simp[z])) (λz=>hb (by simp[z])) eb)) (Zd _)
    ⟨by show 2<=sizeLine;decide,[.int i tk,y],.cons ⟨tk,rfl⟩ (.cons ru .nil),⟨_,hT2,rfl,_,rfl,rfl⟩⟩
  ·rw[I.tuple_inj hy hq,hx] at hv;cases hv;rfl
  ·rcases Zl.mp hb with z |z
   ·rw[z,aG (ZF J)];exact(hf e (by simp)).1
   ·rw[ZK.mp z,aG (ZF hilt)];exact(hf it (by simp)).1
 done:=by
  intro X Z hw hK hc i pins s σ H E I hf st hg;subst Z hw hK;obtain⟨xs,hq,hx⟩:=hg;obtain⟨f,rv,p,hz⟩:=I.tuple hq;obtain⟨⟨O,B⟩,j⟩:=st;have hL:s.heap.IsTuple a f.toArray:=p
  have Q:a ≠ it:=λz=>by
   subst z;obtain⟨o,C,hc',n,g⟩:=id hL;obtain⟨o',T,c',d'⟩:=id j;rw[T] at C;cases C;rw[d'] at g;cases g
  have hn:f.toArray.size=i:=by rw[Zm,<-rv.length,hx]
  subst hn;refine UP (HT.BE (A:=X.A.in1) (I.ok.hd hc) it a Q f.toArray) B ⟨j,hL⟩ λh' eb=>⟨rfl,?_⟩;exact I.turnedAll (t':=s.toks) hf λb ob hb q=>eb b ob (λz=>hb (by simp[z])) q
 self:=λ_ _ _ _ _ st h=>let ⟨⟨O,B⟩,_⟩:=st;UM B h
abbrev KP(K:Vf)(T:TA):TI:=λb H R=>T b H λv h=>∃a xs,v=[.ref a]/\SqL K h a xs/\R (Ite K a SqL) h
abbrev PN(K:Vf)(T:TA):TI:=λb H R=>T b H λv h=>∃a xs,v=[.ref a]/\SqT K h a xs/\R (Ite K a SqT) h
section
variable {X:Cx} {elts:List Expr} {x1:Nat} {tp:Pos}
def BF{a:Expr}{T:TA}{p f:Pos}(C:Gl X "enumerate")(O:X.mg "enumerate" = aD)(U:PA X [a] T)(hs:Ug [a] X.env=[(aT,eval a X.env)]:=by rfl):PI X (.Tuple elts x1 tp) (.Call (.Name "enumerate" p) [a] [] f) (KP X.K T):=by
 intro c s v H R I h;refine Call_ (iK I C O Wz (WH (thn (U f c s v H _ I h) λus g ⟨vs,o,j,r1,Q⟩=>?_) hs rfl));obtain⟨l,xs,e,J,q⟩:=Q;subst e;obtain⟨u,rfl,L⟩:=cI r1;cases L;obtain⟨Y,rv,pl,hz⟩:=j.list J;refine call_enumerate_list pl.isList λB y n Z hk=>UM y ?_;have E:Inv X c v o { g with heap:=B }:=j.kept (t':=g.toks) hk;have fr:∀b,g.heap.objs.size<=b->ie X c o b:=λb hb=>j.fpOk hb (j.hok.fresh hb);refine⟨_,[g.heap.objs.size+1,g.heap.objs.size],_,_,o,rfl,E,u0 l _ _ (Wb _),⟨⟨_,y⟩,n⟩,λb hb=>?_,q⟩;rcases Zl.mp hb with z |z
 ·rw[z];exact fr _ (YH _)
 ·rw[ZK.mp z];exact fr _ (Zd _)
def KQ{a:Expr}{T:TA}{p f:Pos}(C:Gl X "enumerate")(O:X.mg "enumerate" = aD)(U:PA X [a] T)(hs:Ug [a] X.env=[(aT,eval a X.env)]:=by rfl):PI X (.Tuple elts x1 tp) (.Call (.Name "enumerate" p) [a] [] f) (PN X.K T):=by
 intro c s v H R I h;refine Call_ (iK I C O Wz (WH (thn (U f c s v H _ I h) λus g ⟨vs,o,j,r1,Q⟩=>?_) hs rfl));obtain⟨l,xs,e,J,q⟩:=Q;subst e;obtain⟨u,rfl,L⟩:=cI r1;cases L;obtain⟨Y,rv,pl,hz⟩:=j.tuple J;refine HT.uZ pl λB y n Z hk=>UM y ?_;have E:Inv X c v o { g with heap:=B }:=j.kept (t':=g.toks) hk;have fr:∀b,g.heap.objs.size<=b->ie X c o b:=λb hb=>j.fpOk hb (j.hok.fresh hb);refine⟨_,[g.heap.objs.size+1,g.heap.objs.size],_,_,o,rfl,E,vf l _ _ (Wb _),⟨⟨_,y⟩,n⟩,λb hb=>?_,q⟩;rcases Zl.mp hb with z |z
 ·rw[z];exact fr _ (YH _)
 ·rw[ZK.mp z];exact fr _ (Zd _)
end
section
variable {X:Cx}
def sP:aV X (.type "range") (λxs H Q=>∃j:Int,xs=[.int j]/\∀p,H p=aD->Q (.ref p) (upd H p (.rng 0 j))):=by
 intro c s g H xs U Q I r h;obtain⟨j,rfl,q⟩:=h;obtain⟨u,rfl,f⟩:=cI r;obtain⟨t,rfl⟩:=f;exact call_range_1 ⟨.ref s.heap.objs.size,_,I.laid (t':=s.toks+1+1) (o:=.rng 0 j) (λb o e=>Zk _ e) (Zd _) ⟨_,_,_,ZG _ rfl⟩,rfl,q _ (I.hok.fresh (Zd _))⟩
def qW(g:X.calm=aN):aV X (.type "list") (λxs H Q=>∃ (p:Addr) (n:Nat),xs=[.ref p]/\H p=aa (.rng 0 n)/\n<=1000/\∀l,H l=aD->Q (.ref l) (upd H l (.lst ((Ze n).map λ(i:Nat)=>V.int i)))):=by
 intro b s o H xs U Q I r h;obtain⟨p,n,rfl,c,j,q⟩:=h;obtain⟨u,rfl,f⟩:=cI r;cases f;obtain⟨t,u,v,e⟩:=(show bv X.prog X.w H s.heap p (.rng 0 n) from I.hok p _ c);exact mS g I e j q
end
section
variable {X:Cx}
abbrev Jo(i j k:Nat)(T:TA):TS:=λD b H=>T b H λc h=>∃v w z,c=[v,w,z]/\D.nx (((b.set i (aa v)).set j (aa w)).set k (aa z)) h
def FC{i j k:Nat}{C E g}(hc:X.calm=aN)(hN:X.N.Nodup)(hi:X.N[i]?=aa x)(hj:X.N[j]?=aa y)(hk:X.N[k]?=aa z)(Z:i ≠ j)(O:i ≠ k)(hjk:j ≠ k)
  (hx:X.env.scope.names.lookup x=aa .local) (hy:X.env.scope.names.lookup y=aa .local) (hz:X.env.scope.names.lookup z=aa .local) (ha:PA X [a,b,c] ta)
  (hw:Ui [.Tuple [.Name x px,.Name y py,.Name z pz] C pt] (.Tuple [a,b,c] E g) X.env=pure (aa [x,y,z]))
  (hs:Uk [.Tuple [.Name x px,.Name y py,.Name z pz] C pt] (.Tuple [a,b,c] E g) J.line X.env=pure aT:=by rfl) :
  PS X (.Assign [.Tuple [.Name x px,.Name y py,.Name z pz] C pt] (.Tuple [a,b,c] E g) J) (Jo i j k ta):=by
 intro f s σ H D I h;rw[exec_Assign_arm];refine Ut (US ?_);rw[hs];refine Ut (UL ?_);rw[if_neg (by decide)];refine Ut (Tuple_ (thn (ha _ f s σ H _ I h) λus B ⟨vs,H1,I1,r1,Y⟩=>?_));obtain⟨v,w,z',e1,Y⟩:=Y;subst e1
 obtain⟨u,U,u3,rfl,rv,L,rz⟩:∃u U u3,us=[u,U,u3]/\aJ v u/\aJ w U/\aJ z' u3:=by
  cases r1 with
  |cons p q=>
   cases q with
   |cons p' q'=>
    cases q' with
    |cons p'' T=>
     cases T;exact⟨_,_,_,rfl,p,p',p''⟩
 refine UJ ?_ (by show 3<=sizeLine;decide);have I2:Inv X f σ H1 { B with heap:=B.heap.push { cls:=.type "tuple", data:=.seq [u,U,u3].toArray } }:=I1.kept (t':=B.toks) λb o e=>Zk _ e;rw[hw];refine Ut (UL ?_);show wpAny (model X.prog X.w) X.A (do rule "assign.swapped-stores"; let n <-unpackItems (.ref B.heap.objs.size) 3 aD;VE [λv=>VH X.env z v,λv=>VH X.env y v,λv=>VH X.env x v] n.reverse;pure Flow.next) _ _ _;refine Ut (UR (Ut (unpackItems_tuple (items:=#[u,U,u3]) (I.ok.hd hc) (IsTup.new B.heap _) λh' Q=>?_)));have I3:=I2.kept (h':=h') (t':=B.toks) λb o e=>Q b o (ZF (Zt e)) e;show wpAny _ _ (VE [λv=>VH X.env z v,λv=>VH X.env y v,λv=>VH X.env x v] [u3,U,u] >>= λ_=>pure Flow.next) _ _ _;refine Ut (assignInOrder_cons (Uu (cH I3 hN hk (.inl hz) rz (λs2 I4=>?_) (.inr hz))));refine assignInOrder_cons (Uu (cH I4 hN hj (.inl hy) L (λs3 I5=>?_) (.inr hy)));refine assignInOrder_cons (Uu (cH I5 hN hi (.inl hx) rv (λs4 I6=>assignInOrder_nil (UL ?_)) (.inr hx)));refine⟨_,H1,?_,Y⟩;rw[Xk _ _ (Ne.symm hjk),Xk _ _ (Ne.symm O),Xk (aa w) (aa v) (Ne.symm Z)] at I6;exact I6
end
abbrev iQ:List Str->Bool
 |[]=>aN
 |x::r=>!r.contains x && iQ r
def gm:∀ {l:List Str},iQ l=aN->l.Nodup
 |[],_=>Wn
 |x::r,h=>by
  unfold iQ at h;rw[bAE] at h;refine Yr.mpr ⟨λm=>?_,gm h.2⟩;have:=h.1;simp[m] at this
abbrev cmB(own:List Str)(hs:List Nat)(N:List Str)(b sc:Scope):Bool:=
 (b.kind == .function) && iQ (dr hs N++own) && iQ (b.names.map (·.1)) && ((dr hs N).all λx=>b.names.lookup x != aa .local && b.names.lookup x != aa .cell) &&
 (b.names.all λy=>y.2 != .free || (sc.names.lookup y.1 == aa .cell || sc.names.lookup y.1 == aa .free)) && hs.all λi=>(b.names.lookup (Bo i)).isNone
def vg(hs:List Nat)(h:cmB own hs N b sc=aN):CmScope own hs N b sc:=by
 unfold cmB at h;simp only[bAE,ZL] at h;obtain⟨⟨⟨⟨⟨p,f⟩,c⟩,h4⟩,n⟩,o⟩:=h;refine⟨by simpa using p,gm f,gm c,λx j=>?_,λy q u=>?_,λi g=>by simpa using o i g⟩
 ·have:=h4 x j
  simpa using this
 ·have:=n y q;rw[u] at this
  simpa using this
section
variable {X:Cx} {tg l a:Expr} {tl:TE} {ta:TA} {es:List Expr} {t:TGs} {p pos:Pos} {n k:Nat} {elts:List Expr} {x1:Nat} {tp:Pos} {o e:Expr} {to:TE} {tt:TA} {name:Str} {apos cpos:Pos}
abbrev Jp(K:Vf):List V->Hp->VK->Prop:=λxs H Q=>∃x n t b,xs=[x,.ty n]/\TyOf K H x t/\Vt K t (.type n)=aa b/\Q (.bl b) H
def qX(K:Vf)(h:X.K=K:=by rfl):aV X (.builtin "isinstance") (Jp K):=h ▸ sN
end
def BG(c:PE X k T)(h:PE X v b):PE X (.Dict [aa k] [v] p) (Bw [(T,b)]):=Fs (Bv c h Fq) rfl rfl (by simp) (by simp)
def iR:∀ {xs:List V} {U:List Value},aO xs U->xs.all bX=aN->U.countP (eqU x)=xs.countP λy=>eqV y x
 |_,_,.nil,_=>rfl
 |y::xs,u::U,.cons r t,f=>by
  rw[Yo,bAE] at f;rw[Y0,Y0,qQ r f.1,iR t f.2]
section
variable {X:Cx}
abbrev FD(K:Vf):V->List V->Hp->VK->Prop:=λx v H Q=>∃p xs y,x = .ref p/\v=[y]/\SqT K H p xs/\bX y=aN/\xs.all bX=aN/\Q (.int ((xs.countP λz=>eqV z y:Nat):Int)) H
def zt(K:Vf)(j:X.K=K:=by rfl):MtR X "tuple.count" (FD K):=by
 subst j;intro c s T H x U v Z Q I L O h;obtain⟨p,xs,y,rfl,rfl,B,C,fs,q⟩:=h;cases L;obtain⟨u,rfl,E⟩:=O.one;obtain⟨b,r,⟨⟨cls,J,f,sl⟩,e,g,n,hd⟩,Y⟩:=I.tuple B;simp only at g hd;subst g hd;refine VL WZ ⟨_,e,rfl⟩ F.entry_tuple_count (F.args_tuple_count_2 _ _) (SeqAt.tuple_countAt p b.toArray n J sl u (eqU y)) ⟨e,λw o=>cJ E C r fs w (by simpa using o),?_⟩;refine⟨.int _,H,I.tok _,⟨_,rfl⟩,?_⟩
 have z:(b.toArray.toList.countP (eqU y))=xs.countP λz=>eqV z y:=by
  rw[XH];exact iR r fs
 rw[z];exact q
end
end L2
namespace Dw
open PySem PySem.Spec PyProof.Rows L2
inductive D where
 |non |bl (b:Bool) |int (i:Int) |str (x:Str) |tup (ds:List D) |lst (ds:List D) |dic (ks:List Key) (ds:List D)
mutual
noncomputable def Br(N:List Addr)(H:Hp):D->V->Prop
 |.non,v=>v = .non
 |.bl b,v=>v = .bl b
 |.int i,v=>v = .int i
 |.str x,v=>v = .str x
 |.tup ds,v=>∃a xs,v = .ref a/\H a=aa (.tup xs)/\BrL N H ds xs
 |.lst ds,v=>∃a xs,v = .ref a/\a ∉ N/\H a=aa (.lst xs)/\BrL N H ds xs
 |.dic ks ds,v=>∃a xs,v = .ref a/\a ∉ N/\H a=aa (.dK (ks.zip xs))/\ks.length=ds.length/\BrL N H ds xs
noncomputable def BrL(N:List Addr)(H:Hp):List D->List V->Prop
 |[],xs=>xs=[]
 |d::ds,xs=>∃x r,xs=x::r/\Br N H d x/\BrL N H ds r
end
mutual
noncomputable def dep:D->Nat
 |.tup ds=>lv ds+1
 |.lst ds=>lv ds+1
 |.dic _ ds=>lv ds+1
 |_=>0
noncomputable def lv:List D->Nat
 |[]=>0
 |d::ds=>max (dep d) (lv ds)
end
mutual
noncomputable def wid:D->Nat
 |.tup ds=>max ds.length (vh ds)
 |.lst ds=>max ds.length (vh ds)
 |.dic _ ds=>max ds.length (vh ds)
 |_=>0
noncomputable def vh:List D->Nat
 |[]=>0
 |d::ds=>max (wid d) (vh ds)
end
abbrev isB:D->Bool |.bl _=>aN |_=>aT
abbrev isW(d:D):Bool:=match d with |.int _=>aN |_=>aT
abbrev iS(d:D)(a b:Int):Bool:=match d with |.int i=>decide (a<=i) && decide (i<=b) |_=>aT
abbrev isT(d:D)(a b:Int):Bool:=match d with |.tup ds=>decide (a<=(ds.length:Int)) && decide ((ds.length:Int)<=b) |_=>aT
def KR(b:List D)(n:Nat):isT (.tup b) n n=decide (b.length=n):=by
 unfold isT;rw[Yi];simp;omega
def pO{b:Type}(n:Nat)(f:Nat->List b):(Ze (n+1)).flatMap f=(Ze n).flatMap f++f n:=by
 rw[Yj,XJ];simp
def xH{b:Type}{n m:Nat}{f:Nat->List b}(h:∀i,i < n->(f i).length<=m):((Ze n).flatMap f).length<=n * m:=by
 induction n with
 |zero=>simp
 |succ n I=>
  rw[pO,Zn];have:=I λi c=>h i (by omega);have:=h n (by omega);rw[X4];omega
def KS(b:List D):isT (.tup b) 2 2=decide (b.length=2):=KR b 2
def BH(h:c.length=2):∃b e,c=[b,e]:=by
 match c,h with
 |[b,e],_=>exact⟨b,e,rfl⟩
abbrev il(b:List D)(lo h:Option Int):List D:=(b.drop (HT.sIx b.length 0 lo)).take (HT.sIx b.length b.length h - HT.sIx b.length 0 lo)
def xI{n:Nat}:∀ {ds:List D},(∀d ∈ ds,dep d<=n)->lv ds<=n
 |[],_=>by rw[lv];omega
 |e::ds,h=>by
  rw[lv];have:=h e Zh;have:=xI (ds:=ds) λd hd=>h d (Zf _ hd);omega
def xJ{n:Nat}:∀ {ds:List D},(∀d ∈ ds,wid d<=n)->vh ds<=n
 |[],_=>by rw[vh];omega
 |e::ds,h=>by
  rw[vh];have:=h e Zh;have:=xJ (ds:=ds) λd hd=>h d (Zf _ hd);omega
structure Fit(n m:Nat)(d:D):Prop where
 de:dep d<=n
 wi:wid d<=m
def Fit.tup{n m:Nat}(c:b.length<=m)(h:∀d ∈ b,Fit n m d):Fit (n+1) m (.tup b):=by
 refine⟨?_,?_⟩
 ·rw[dep];have:=xI (n:=n) λd hd=>(h d hd).de;omega
 ·rw[wid];have:=xJ (n:=m) λd hd=>(h d hd).wi;omega
def KU(n:Nat)(a:Int)(h:0<=a):HT.sIx n 0 (aa a)=min a.toNat n:=by
 show(if a < 0 then (a+(n:Int)).toNat else min a.toNat n)=_;rw[if_neg (by omega)]
def BI(n:Nat)(a:Int)(h:0<=a):HT.sIx n n (aa a)=min a.toNat n:=by
 show(if a < 0 then (a+(n:Int)).toNat else min a.toNat n)=_;rw[if_neg (by omega)]
def Fit.lst{n m:Nat}(h:Fit n m (.tup b)):Fit n m (.lst b):=⟨by have:=h.de;simp only[dep] at this ⊢;exact this,by have:=h.wi;simp only[wid] at this ⊢;exact this⟩
abbrev aY(q:Int × Int):D:=.tup [.int q.1,.int q.2]
abbrev mg2(M:List (List Int))(i j:Nat):Int:=(((M[i]?).getD [])[j]?).getD 0
structure Mat(n:Nat)(M:List (List Int)):Prop where
 len:M.length=n
 row:∀r ∈ M,r.length=n
 ent:∀r ∈ M,∀x ∈ r,1<=x/\x<=99
def Mat.at{n:Nat}(h:Mat n M){i j:Nat}(f:i < n)(p:j < n):∃r,M[i]?=aa r/\r.length=n/\r[j]?=aa (mg2 M i j)/\1<=mg2 M i j/\mg2 M i j<=99:=by
 have b:i < M.length:=by rw[h.len];exact f
 have E:M[i]?=aa M[i]:=gEG b;have o:=h.row _ (ZI b);have c:j < M[i].length:=by omega
 have g:mg2 M i j=M[i][j]:=by unfold mg2;rw[E,ZT,gEG c,ZT]
 have:=h.ent _ (ZI b) _ (ZI c);exact⟨M[i],E,o,by rw[g,gEG c],by omega,by omega⟩
abbrev pP(n k:Nat)(M:List (List Int)):Prop:=∀a b q,a < n->b < n->q < k->mg2 M a b<=mg2 M a q+mg2 M q b
def BJ{n k:Nat}(h:Mat n M)(f:k < n)(p:pP n k M)(u:∀i j,i < n->j < n->mg2 M' i j=min (mg2 M i j) (mg2 M i k+mg2 M k j)):pP n (k+1) M':=by
 intro a b q o hb L;have c:q < n:=by omega
 obtain⟨_,_,_,_,J,_⟩:=h.at o hb;obtain⟨_,_,_,_,y,_⟩:=h.at o f;obtain⟨_,_,_,_,v,_⟩:=h.at f hb;obtain⟨_,_,_,_,Q,_⟩:=h.at f f;obtain⟨_,_,_,_,B,_⟩:=h.at o c;obtain⟨_,_,_,_,E,_⟩:=h.at c hb;obtain⟨_,_,_,_,I,_⟩:=h.at f c;obtain⟨_,_,_,_,O,_⟩:=h.at c f;rw[u a b o hb,u a q o c,u q b c hb];by_cases e:q=k
 ·subst e;omega
 ·have g:q < k:=by omega
  have C:=p a b q o hb g;have T:=p k b q f hb g;have z:=p a k q o f g;omega
abbrev qY(M:List (List Int)):List D:=M.map λr=>.tup (r.map .int)
abbrev bO(M:List (List Int))(n c i:Nat):List Int:=(Ze n).map λj=>if mg2 M i c+mg2 M c j < mg2 M i j then mg2 M i c+mg2 M c j else mg2 M i j
def mV(M:List (List Int))(n c i:Nat):(bO M n c i).length=n:=by unfold bO;rw[Za,Zx]
def sQ(M:List (List Int)){n c i j:Nat}(h:j < n):(bO M n c i)[j]?=aa (if mg2 M i c+mg2 M c j < mg2 M i j then mg2 M i c+mg2 M c j else mg2 M i j):=by
 unfold bO;rw[Zj,Z1 h];rfl
def FE{n c:Nat}(h:Mat n M)(g:c < n):∀i j,i < n->j < n->mg2 ((Ze n).map (bO M n c)) i j=min (mg2 M i j) (mg2 M i c+mg2 M c j):=λi j b f=>by
 have e:mg2 ((Ze n).map (bO M n c)) i j=if mg2 M i c+mg2 M c j < mg2 M i j then mg2 M i c+mg2 M c j else mg2 M i j:=by
  show((((Ze n).map (bO M n c))[i]?.getD [])[j]?).getD 0=_;rw[Zj,Z1 b];show((bO M n c i)[j]?).getD 0=_;rw[sQ M f];rfl
 rw[e];split <;> omega
def BK{n c:Nat}(h:Mat n M)(p:c < n):Mat n ((Ze n).map (bO M n c)):=by
 refine⟨by rw[Za,Zx],λr f=>?_,λr f x o=>?_⟩
 ·obtain⟨u,_,rfl⟩:=Zw.mp f;exact mV M n c u
 ·obtain⟨u,g,rfl⟩:=Zw.mp f;rw[ZU] at g;unfold bO at o;obtain⟨j,b,rfl⟩:=Zw.mp o;rw[ZU] at b;obtain⟨_,_,_,_,z,B⟩:=h.at g b;obtain⟨_,_,_,_,y,v⟩:=h.at g p;obtain⟨_,_,_,_,q,Q⟩:=h.at p b;split <;> omega
def ce:∀ (n:Nat) (l:List Int),l.Nodup->(∀x ∈ l,0<=x/\x < (n:Int))->l.length<=n
 |0,l,_,h=>by
  cases l with
  |nil=>exact Zd _
  |cons x l=>have:=h x Zh;lia
 |n+1,l,nd,h=>by
  by_cases c:(n:Int) ∈ l
  ·have I:=ce n (l.erase n) (nd.erase _) λx b=>by
    have g:=h x (List.mem_of_mem_erase b);have f:x ≠ (n:Int):=λe=>(List.Nodup.not_mem_erase nd) (e ▸ b)
    lia
   rw[List.length_erase_of_mem c] at I;have:=List.length_pos_of_mem c
   lia
  ·have I:=ce n l nd λx b=>by
    have g:=h x b;have f:x ≠ (n:Int):=λe=>c (e ▸ b)
    lia
   lia
abbrev xK:Key->PyData
 |.inl i=>.int i
 |.inr x=>.str x
mutual
noncomputable def aW:D->PyData
 |.non=>.none
 |.bl b=>.bool b
 |.int i=>.int i
 |.str x=>.str x
 |.tup ds=>.tuple (bP ds)
 |.lst ds=>.list (bP ds)
 |.dic ks ds=>.dict ((ks.map xK).zip (bP ds))
noncomputable def bP:List D->List PyData
 |[]=>[]
 |d::ds=>aW d::bP ds
end
mutual
noncomputable def shw:D->Prop
 |.int i=>i.natAbs.log2 < 1920
 |.tup ds=>mW ds
 |.lst ds=>mW ds
 |.dic _ _=>False
 |_=>True
noncomputable def mW:List D->Prop
 |[]=>True
 |d::ds=>shw d/\mW ds
end
section
variable {P:Program} {w:World} {N:List Addr} {H:Hp} {h:Heap}
mutual
theorem gn(ok:HOk P w H h):∀ (d:D) {v:V} {u:Value},Br N H d v->aJ v u->shw d->∃j,Reads h u (aW d) j
 |.non,v,u,b,r,hs=>by simp only[Br] at b;subst b;cases r;exact⟨_,by simp only[aW];exact .none⟩
 |.bl x,v,u,b,r,hs=>by simp only[Br] at b;subst b;cases r;exact⟨_,by simp only[aW];exact .bool _⟩
 |.int i,v,u,b,r,hs=>by simp only[Br] at b;subst b;obtain⟨t,rfl⟩:=r;exact⟨_,by simp only[aW];exact .int _ _⟩
 |.str x,v,u,b,r,hs=>by simp only[Br] at b;subst b;obtain⟨t,rfl⟩:=r;exact⟨_,by simp only[aW];exact .str _ _⟩
 |.tup ds,v,u,b,r,hs=>by
  simp only[Br] at b;obtain⟨a,xs,rfl,f,g⟩:=b;cases r;obtain⟨_,I,p,o,e,c,n,q,_⟩:=ok a _ f;obtain⟨j,z⟩:=jW ok ds g p (by simpa only[shw] using hs);simp only[aW];exact⟨_,.tuple e c q (by simpa using z)⟩
 |.lst ds,v,u,b,r,hs=>by
  simp only[Br] at b;obtain⟨a,xs,rfl,_,f,g⟩:=b;cases r;obtain⟨_,I,n,p,e⟩:=ok a _ f;obtain⟨j,z⟩:=jW ok ds g p (by simpa only[shw] using hs);simp only[aW];exact⟨_,.list e rfl rfl (by simpa using z)⟩
 |.dic ks ds,v,u,b,r,hs=>by simp only[shw] at hs
theorem jW(ok:HOk P w H h):∀ (c:List D) {xs:List V} {u:List Value},BrL N H c xs->aO xs u->mW c->∃f,ReadsAll h u (bP c) f
 |[],xs,u,b,r,_=>by simp only[BrL] at b;subst b;cases r;exact⟨_,by simp only[bP];exact .nil⟩
 |d::c,xs,u,b,r,hs=>by
  simp only[BrL] at b;obtain⟨x,l,rfl,j,g⟩:=b;cases r with
  |cons r1 r2=>
   obtain⟨f,z⟩:=gn ok d j r1 (by simp only[mW] at hs;exact hs.1);obtain⟨bs,Z⟩:=jW ok c g r2 (by simp only[mW] at hs;exact hs.2);simp only[bP];exact⟨_,.cons z Z⟩
end
mutual
theorem FF(ok:HOk P w H h):∀ (d:D) {v:V} {u:Value},Br N H d v->aJ v u->shw d->(aW d).shown.length<=sizeLine->∃bs,ReadAtMost h (aW d).depth bs/\ReprK P w bs h (aW d).depth u (aW d).shown
 |.non,v,u,b,r,_,_=>by simp only[Br] at b;subst b;cases r;exact⟨[],(λ_ m=>nomatch m),by simp only[aW,W9];exact .of_is ReprIs.none _ _ _⟩
 |.bl x,v,u,b,r,_,_=>by simp only[Br] at b;subst b;cases r;exact⟨[],(λ_ m=>nomatch m),by simp only[aW,W9];exact .of_is (ReprIs.bool _) _ _ _⟩
 |.int i,v,u,b,r,hs,_=>by simp only[Br] at b;subst b;obtain⟨t,rfl⟩:=r;exact⟨[],(λ_ m=>nomatch m),by simp only[aW,W9];exact .of_is (ReprIs.int t (by simpa only[shw] using hs)) _ _ _⟩
 |.str x,v,u,b,r,_,hz=>by simp only[Br] at b;subst b;obtain⟨t,rfl⟩:=r;exact⟨[],(λ_ m=>nomatch m),by simp only[aW,W9] at hz ⊢;exact .of_is (ReprIs.str x t hz) _ _ _⟩
 |.tup ds,v,u,b,r,hs,hz=>by
  obtain⟨E,f⟩:=gn ok (.tup ds) b r hs;simp only[Br] at b;obtain⟨a,xs,rfl,z,p⟩:=b;cases r;obtain⟨_,I,B,o,e,c,n,q,_⟩:=ok a _ z;simp only[aW,W9,W6] at hz f ⊢;obtain⟨bs,m,k⟩:=gq ok ds p B (by simpa only[shw] using hs) λt j=>ZC (tupleText_mem_le j) hz;have out:a ∉ bs:=V6 f (by simp only[W6];lia) m;have g:=ReadAtMost.cons f (by simp only[W6];lia) m;simp only[W6] at g;exact⟨a::bs,g,ReprK.tuple e c q out (by simpa using k)⟩
 |.lst ds,v,u,b,r,hs,hz=>by
  obtain⟨E,f⟩:=gn ok (.lst ds) b r hs;simp only[Br] at b;obtain⟨a,xs,rfl,_,z,p⟩:=b;cases r;obtain⟨_,I,n,B,e⟩:=ok a _ z;simp only[aW,W9,W6] at hz f ⊢;obtain⟨bs,m,k⟩:=gq ok ds p B (by simpa only[shw] using hs) λt j=>ZC (listText_mem_le j) hz;have out:a ∉ bs:=V6 f (by simp only[W6];lia) m;have g:=ReadAtMost.cons f (by simp only[W6];lia) m;simp only[W6] at g;refine⟨a::bs,g,?_⟩;cases I with
  |nil=>
   cases C:Va (bP ds) with
   |nil=>simp only[listText_nil];exact ReprK.listEmpty e rfl rfl
   |cons _ _=>rw[C] at k;cases k
  |cons y l=>exact ReprK.list e rfl rfl out (by simpa using k.length_eq) (λi Y Q=>k.item i Y (by simpa using Q))
 |.dic ks ds,v,u,b,r,hs,hz=>by simp only[shw] at hs
theorem gq(ok:HOk P w H h):∀ (c:List D) {xs:List V} {u:List Value},BrL N H c xs->aO xs u->mW c->(∀t ∈ Va (bP c),t.length<=sizeLine)->∃bs,ReadAtMost h (W7 (bP c)) bs/\ReprAllK P w bs h (W7 (bP c)) u (Va (bP c))
 |[],xs,u,b,r,_,_=>by simp only[BrL] at b;subst b;cases r;exact⟨[],(λ_ m=>nomatch m),by simp only[bP,Va];exact .nil⟩
 |d::c,xs,u,b,r,hs,hz=>by
  simp only[BrL] at b;obtain⟨x,l,rfl,q,g⟩:=b;cases r with
  |cons r1 r2=>
   simp only[bP,Va,W7,mW] at hz hs ⊢;obtain⟨p,m1,o⟩:=FF ok d q r1 hs.1 (hz _ Zh);obtain⟨B,f,n⟩:=gq ok c g r2 hs.2 λt j=>hz t (Zf _ j);refine⟨p++B,(m1.mono (Wi _ _)).append (f.mono (Wc _ _)),?_⟩;exact .cons ((o.more λb z=>Yx _ z).level_le (Wi _ _)) (n.more_le (λb z=>ZA _ z) (Wc _ _))
end
end
section
variable {X:Cx}
structure Shn(d:D):Prop where
 sh:shw d
 sz:(aW d).shown.length<=sizeLine
 dp:(aW d).depth<=100
abbrev KW:List V->Hp->VK->Prop:=λxs H Q=>∃x N d,xs=[x]/\Br N H d x/\Shn d/\Q (.str (aW d).shown) H
def vj{k:Nat}(hr:Room k X.A):aV X (.builtin "repr") KW:=by
 intro C s σ H xs us Q I r h;obtain⟨x,N,d,rfl,b,⟨hs,p,hd⟩,q⟩:=h;obtain⟨u,rfl,g⟩:=cI r;have hun:=hr.un;have J:X.A.units+1 < cLine:=by lia
 have E:X.A.in1.guards=aa []:=hr.gd;have fin:∀j t T,(∀b o,s.heap.get? b=aa o->j.get? b=aa o)->∃x' t',Value.str (aW d).shown t=Value.str x' t'/\EP X C σ Q (Value.str (aW d).shown t) { s with heap:=j,toks:=T }:=λj t T O=>⟨_,_,rfl,.str _,H,I.kept (t':=T) O,⟨t,rfl⟩,q⟩;cases d with
 |non=>
  simp only[Br] at b;subst b;cases g;exact P.repr_of_none ⟨.str _,H,I.tok _,⟨_,rfl⟩,by simpa only[aW,W9] using q⟩
 |bl y=>
  simp only[Br] at b;subst b;cases g;exact P.repr_of_bool ⟨.str _,H,I.tok _,⟨_,rfl⟩,by simpa only[aW,W9] using q⟩
 |int i=>
  simp only[Br] at b;subst b;obtain⟨t,rfl⟩:=g;exact P.repr_of_int (by simpa only[shw] using hs) ⟨.str _,H,I.tok _,⟨_,rfl⟩,by simpa only[aW,W9] using q⟩
 |str y=>
  simp only[Br] at b;subst b;obtain⟨t,rfl⟩:=g;exact P.repr_of_str ⟨.str _,H,I.tok _,⟨_,rfl⟩,by simpa only[aW,W9] using q⟩ (by simpa only[aW,W9] using p)
 |tup v=>
  obtain⟨as,f⟩:=gn I.hok (.tup v) b g hs;simp only[Br] at b;obtain⟨a,ys,rfl,Z,Y⟩:=b;cases g;obtain⟨_,L,rv,o,e,c,n,q',_⟩:=I.hok a _ Z;simp only[aW,W9,W6] at p f hd fin;obtain⟨bs,m,B⟩:=gq I.hok v Y rv (by simpa only[shw] using hs) λt U=>ZC (tupleText_mem_le U) p;have out:a ∉ bs:=V6 f (by simp only[W6];lia) m;refine call_repr_slot J ⟨o,e,c⟩ F.slot_tuple_repr ?_;exact call_tuple_reprK e c q' out (by simpa using B) E (λb _=>Clear.nil b) (by show X.A.units+1+(_+1) < cLine;lia) (λ_ _ z=>z) (λj t T O=>fin j t T O) p
 |lst v=>
  obtain⟨as,f⟩:=gn I.hok (.lst v) b g hs;simp only[Br] at b;obtain⟨a,ys,rfl,_,Z,Y⟩:=b;cases g;obtain⟨_,L,n,rv,e⟩:=I.hok a _ Z;simp only[aW,W9,W6] at p f hd fin;obtain⟨bs,m,B⟩:=gq I.hok v Y rv (by simpa only[shw] using hs) λt U=>ZC (listText_mem_le U) p;have out:a ∉ bs:=V6 f (by simp only[W6];lia) m;refine call_repr_slot J ⟨_,e,rfl⟩ F.slot_list_repr.toG ?_;cases L with
  |nil=>
   cases k2:Va (bP v) with
   |nil=>
    rw[k2] at fin;simp only[listText_nil] at fin;exact call_list_repr_empty ⟨_,e,rfl⟩ e rfl (fin s.heap _ _ λ_ _ z=>z)
   |cons _ _=>rw[k2] at B;cases B
  |cons y l=>
   exact call_list_reprK e rfl rfl out (by simpa using B.length_eq) (λi y' q2=>B.item i y' (by simpa using q2)) E (λb _=>Clear.nil b) (by show X.A.units+1+(_+1) < cLine;lia) (λ_ _ z=>z) (λj t T O=>fin j t T O) p
 |dic ks v=>simp only[shw] at hs
end
mutual
noncomputable def sz:D->Nat
 |.non=>10
 |.bl _=>10
 |.int _=>60
 |.str x=>(reprText x).length
 |.tup ds=>szL ds+4
 |.lst ds=>szL ds+4
 |.dic ks ds=>szL ds+62 * ks.length+4
noncomputable def szL:List D->Nat
 |[]=>0
 |d::ds=>sz d+2+szL ds
end
mutual
noncomputable def bnd(B:Nat):D->Prop
 |.int i=>i.natAbs < B
 |.tup ds=>jj B ds
 |.lst ds=>jj B ds
 |.dic _ _=>False
 |_=>True
noncomputable def jj(B:Nat):List D->Prop
 |[]=>True
 |d::ds=>bnd B d/\jj B ds
end
def KY{i:Int}(h:i.natAbs < 10 ^ 50):i.natAbs.log2 < 1920:=by
 by_cases z:i.natAbs=0
 ·rw[z];decide
 ·have:i.natAbs.log2 < 167:=(Wx z).mpr (Zy h (by decide))
  lia
mutual
theorem xL:∀ (d:D),bnd (10 ^ 50) d->shw d
 |.non,_=>by simp only[shw]
 |.bl _,_=>by simp only[shw]
 |.str _,_=>by simp only[shw]
 |.int i,h=>by simp only[shw,bnd] at h ⊢;exact KY h
 |.tup ds,h=>by simp only[shw,bnd] at h ⊢;exact mX ds h
 |.lst ds,h=>by simp only[shw,bnd] at h ⊢;exact mX ds h
 |.dic ks ds,h=>by simp only[bnd] at h
theorem mX:∀ (b:List D),jj (10 ^ 50) b->mW b
 |[],_=>by simp only[mW]
 |d::b,h=>by simp only[mW,jj] at h ⊢;exact⟨xL d h.1,mX b h.2⟩
end
def xM:∀ (T:List Str) (k:Nat) (b:Str),(Um k b T).length<=b.length+piled T
 |[],k,b=>by show b.length<=_;lia
 |t::r,k,b=>by
  have I:=xM r (k+1) (b++(if k > 0 then ", " else "" : String)++t);show(Um (k+1) (b++(if k > 0 then ", " else "" : String)++t) r).length<=_;rw[piled_cons]
  have e:(b++(if k > 0 then ", " else "" : String)++t).length<=b.length+2+t.length:=by
   rw[Uh,Uh];have:(Str.ofString (if k > 0 then ", " else "" : String)).length<=2:=by split <;> decide
   lia
  lia
def FG(ts:List Str):(Str.join ", " ts).length<=piled ts:=by
 cases ts with
 |nil=>decide
 |cons t r=>have:=join_length_add (t::r) (by simp);lia
def FH(ts:List Str):(listText ts).length<=piled ts+4:=by
 unfold listText;rw[Uh];have h:=xM ts 0 "[";have c:(Str.ofString "[").length=1:=by decide
 have f:(Str.ofString "]").length=1:=by decide
 have b:(Um 0 (Str.ofString "[") ts).length<=(Str.ofString "[").length+piled ts:=h;show(Um 0 (Str.ofString "[") ts).length+(Str.ofString "]").length<=_
 lia
def BL(T:List Str):(tupleText T).length<=piled T+4:=by
 unfold tupleText;rw[Uh,Uh];have b:=FG T;have h:(Str.ofString "(").length=1:=by decide
 have c:(Str.ofString (if T.length == 1 then ",)" else ")" : String)).length<=2:=by split <;> decide
 show(Str.ofString "(").length+_+(Str.ofString (if T.length == 1 then ",)" else ")" : String)).length<=_
 lia
def KZ{i:Int}(h:i.natAbs < 10 ^ 50):(Str.ofString (toString i)).length<=51:=by
 rw[ofString_len];exact int_text_length_le10 (by decide) h
mutual
theorem sR:∀ (d:D),bnd (10 ^ 50) d->(aW d).shown.length<=sz d
 |.non,_=>by simp only[aW,W9,sz];decide
 |.bl b,_=>by simp only[aW,W9,sz];cases b <;> decide
 |.int i,h=>by
  simp only[aW,W9,sz,bnd] at h ⊢;have:=KZ h;show(Str.ofString (toString i)).length<=60
  lia
 |.str x,_=>by simp only[aW,W9,sz];exact Zd _
 |.tup ds,h=>by
  simp only[aW,W9,sz,bnd] at h ⊢;have:=jX ds h;have:=BL (Va (bP ds))
  lia
 |.lst ds,h=>by
  simp only[aW,W9,sz,bnd] at h ⊢;have:=jX ds h;have:=FH (Va (bP ds))
  lia
 |.dic ks ds,h=>by simp only[bnd] at h
theorem jX:∀ (b:List D),jj (10 ^ 50) b->piled (Va (bP b))<=szL b
 |[],_=>by simp[bP,Va,piled,szL]
 |d::b,h=>by
  simp only[bP,Va,szL,jj,piled_cons] at h ⊢;have f:=sR d h.1;have c:=jX b h.2
  lia
end
def sS:∀ (ks:List Key) (b:List PyData),W8 ((ks.map xK).zip b)<=W7 b
 |[],b=>by simp[W8]
 |k::ks,[]=>by simp[W8]
 |k::ks,d::b=>by
  have I:=sS ks b;simp only[Zz,Y6,W8,W7];have:(xK k).depth=0:=by cases k <;> simp[xK,W6]
  rw[this]
  lia
mutual
theorem sU:∀ (d:D),(aW d).depth<=dep d
 |.non=>by simp[aW,W6]
 |.bl _=>by simp[aW,W6]
 |.int _=>by simp[aW,W6]
 |.str _=>by simp[aW,W6]
 |.tup ds=>by simp only[aW,W6,dep];have:=g8 ds;lia
 |.lst ds=>by simp only[aW,W6,dep];have:=g8 ds;lia
 |.dic ks ds=>by
  simp only[aW,W6,dep];have:=g8 ds;have:=sS ks (bP ds)
  lia
theorem g8:∀ (b:List D),W7 (bP b)<=lv b
 |[]=>by simp[bP,W7,lv]
 |d::b=>by
  simp only[bP,W7,lv];have:=sU d;have:=g8 b
  lia
end
structure Bd(B s:Nat)(d:D):Prop where
 bn:bnd B d
 sz:sz d<=s
mutual
theorem BM{B b:Nat}(h:B<=b):∀ (d:D),bnd B d->bnd b d
 |.non,_=>by simp only[bnd]
 |.bl _,_=>by simp only[bnd]
 |.str _,_=>by simp only[bnd]
 |.int i,z=>by simp only[bnd] at z ⊢;lia
 |.tup ds,z=>by simp only[bnd] at z ⊢;exact qZ h ds z
 |.lst ds,z=>by simp only[bnd] at z ⊢;exact qZ h ds z
 |.dic ks ds,z=>by simp only[bnd] at z
theorem qZ{B c:Nat}(h:B<=c):∀ (b:List D),jj B b->jj c b
 |[],_=>by simp only[jj]
 |d::b,z=>by simp only[jj] at z ⊢;exact⟨BM h d z.1,qZ h b z.2⟩
end
def Bd.shn{B s:Nat}(h:Bd B s d)(c:B<=10 ^ 50)(hs:s<=sizeLine)(hd:dep d<=100):Shn d:=
 have b:=BM c d h.bn
 ⟨xL d b,ZC (sR d b) (ZC h.sz hs),ZC (sU d) hd⟩
def xN{B:Nat}:∀ {b:List D},(∀d ∈ b,bnd B d)->jj B b
 |[],_=>by simp only[jj]
 |d::b,h=>by simp only[jj];exact⟨h d Zh,xN λe m=>h e (Zf _ m)⟩
def K0{B s:Nat}(h:∀d ∈ b,bnd B d)(hs:szL b+4<=s):Bd B s (.tup b):=⟨by simp only[bnd];exact xN h,by simp only[sz];exact hs⟩
def K1{B s:Nat}(h:Bd B s (.tup f)):Bd B s (.lst f):=by
 have c:=h.bn;have b:=h.sz;exact⟨by simp only[bnd] at c ⊢;exact c,by simp only[sz] at b ⊢;exact b⟩
end Dw
namespace Ev
open PySem PySem.Spec PyProof.Rows L2
inductive D where
 |non |bl (b:Bool) |int (i:Int) |str (x:Str) |tup (ds:List D) |ref (n:Nat)
inductive Ob where
 |lst (ds:List D) |frz (ds:List D) |dic (ks:List Key) (ds:List D)
@[inline]abbrev Sto:=List Ob
@[inline]abbrev Rho:=List (Option D)
mutual
noncomputable def VD(K:Vf)(m:List Addr)(H:Hp):D->V->Prop
 |.non,v=>v = .non
 |.bl b,v=>v = .bl b
 |.int i,v=>v = .int i
 |.str x,v=>v = .str x
 |.tup ds,v=>∃a xs,v = .ref a/\H a=aa (.tup xs)/\VDs K m H ds xs
 |.ref n,v=>∃a,m[n]?=aa a/\v = .ref a
noncomputable def VDs(K:Vf)(m:List Addr)(H:Hp):List D->List V->Prop
 |[],xs=>xs=[]
 |d::ds,xs=>∃x r,xs=x::r/\VD K m H d x/\VDs K m H ds r
end
structure Ext(m:List Addr)(H:Hp)(m':List Addr)(H':Hp):Prop where
 pre:m <+: m'
 keep:∀a o,H a=aa o->a ∉ m->H' a=aa o
 new:∀a,a ∈ m'->a ∉ m->H a=aD
abbrev ObR(K:Vf)(m:List Addr)(H:Hp)(a:Addr):Ob->Prop
 |.lst ds=>∃v,H a=aa (.lst v)/\VDs K m H ds v
 |.frz ds=>∃o v,H a=aa (.frz o (.lst v))/\VDs K m H ds v
 |.dic ks ds=>∃v,H a=aa (.dK (ks.zip v))/\ks.length=ds.length/\VDs K m H ds v
structure Rel(K:Vf)(m:List Addr)(S:Sto)(H:Hp):Prop where
 len:m.length=S.length
 nd:m.Nodup
 ob:∀ (i:Nat) (o:Ob),S[i]?=aa o->∃a,m[i]?=aa a/\ObR K m H a o
structure EnvR(K:Vf)(m:List Addr)(H:Hp)(ρ:Rho)(σ:L2.St):Prop where
 len:ρ.length=σ.length
 at_:∀ (i:Nat) (d:D),ρ[i]?=aa (aa d)->∃v,σ[i]?=aa (aa v)/\VD K m H d v
def Ext.refl(m:List Addr)(H:Hp):Ext m H m H:=⟨Ym m,λ_ _ h _=>h,λ_ h n=>absurd h n⟩
def Ext.trans(x:Ext m H m1 g)(y:Ext m1 g c H2):Ext m H c H2:=by
 refine⟨x.pre.trans y.pre,λa o h n=>?_,λa h n=>?_⟩
 ·have f:a ∉ m1:=λz=>by have:=x.new a z n;rw[this] at h;cases h
  exact y.keep a o (x.keep a o h n) f
 ·by_cases b:a ∈ m1
  ·exact x.new a b n
  ·cases e:H a with
   |none=>rfl
   |some o=>
    have:=x.keep a o e n;rw[y.new a h b] at this;cases this
section
variable {K:Vf} {m m':List Addr} {S S':Sto} {H H':Hp} {a:Addr}
def Rel.ex(R:Rel K m S H)(n:a ∈ m):∃o ob,H a=aa o/\ObR K m H a ob:=by
 obtain⟨i,j,e⟩:=List.getElem_of_mem n;have f:i < S.length:=by rw[<-R.len];exact j
 obtain⟨b,hb,r⟩:=R.ob i S[i] (gEG f);have:b=a:=by rw[gEG j] at hb;rw[<-e];exact(Option.some.inj hb).symm
 subst this;cases g:S[i] with
 |lst c=>rw[g] at r;obtain⟨v,h,q⟩:=r;exact⟨_,.lst c,h,v,h,q⟩
 |frz c=>rw[g] at r;obtain⟨o,v,h,q⟩:=r;exact⟨_,.frz c,h,o,v,h,q⟩
 |dic p c=>rw[g] at r;obtain⟨v,h,q⟩:=r;exact⟨_,.dic p c,h,v,h,q⟩
def Rel.no(R:Rel K m S H)(h:H a=aD):a ∉ m:=λz=>by
 obtain⟨o,_,e,_⟩:=R.ex z;rw[h] at e;cases e
def Rel.notTup(R:Rel K m S H)(h:H a=aa (.tup xs)):a ∉ m:=λz=>by
 obtain⟨o,ob,e,r⟩:=R.ex z;cases ob with
 |lst b=>obtain⟨v,q,_⟩:=r;rw[q] at h;cases h
 |frz b=>obtain⟨o,v,q,_⟩:=r;rw[q] at h;cases h
 |dic c b=>obtain⟨v,q,_⟩:=r;rw[q] at h;cases h
def Tup.ext(R:Rel K m S H)(x:Ext m H m' H')(h:H a=aa (.tup xs)):H' a=aa (.tup xs):=x.keep _ _ h (R.notTup h)
def dS{i:Nat}(h:m <+: m')(e:m[i]?=aa a):m'[i]?=aa a:=by
 obtain⟨t,rfl⟩:=h;have b:i < m.length:=(Zb.mp e).1;rw[Zv b];exact e
mutual
theorem VD.mono0(pre:m <+: m')(T:∀a xs,H a=aa (.tup xs)->H' a=aa (.tup xs)):∀ {d:D} {v:V},VD K m H d v->VD K m' H' d v
 |.non,v,h=>by rw[VD] at h ⊢;exact h
 |.bl _,v,h=>by rw[VD] at h ⊢;exact h
 |.int _,v,h=>by rw[VD] at h ⊢;exact h
 |.str _,v,h=>by rw[VD] at h ⊢;exact h
 |.tup ds,v,h=>by
  rw[VD] at h ⊢;obtain⟨a,xs,e,q,r⟩:=h;exact⟨a,xs,e,T a xs q,VDs.mono0 pre T r⟩
 |.ref n,v,h=>by
  rw[VD] at h ⊢;obtain⟨a,q,e⟩:=h;exact⟨a,dS pre q,e⟩
theorem VDs.mono0(pre:m <+: m')(T:∀a xs,H a=aa (.tup xs)->H' a=aa (.tup xs)):∀ {b:List D} {vs:List V},VDs K m H b vs->VDs K m' H' b vs
 |[],vs,h=>by rw[VDs] at h ⊢;exact h
 |d::b,vs,h=>by
  rw[VDs] at h ⊢;obtain⟨y,r,e,p,q⟩:=h;exact⟨y,r,e,VD.mono0 pre T p,VDs.mono0 pre T q⟩
end
def VD.mono(R:Rel K m S H)(x:Ext m H m' H')(h:VD K m H d v):VD K m' H' d v:=VD.mono0 x.pre (λ_ _=>Tup.ext R x) h
def VDs.mono(R:Rel K m S H)(x:Ext m H m' H')(h:VDs K m H b vs):VDs K m' H' b vs:=VDs.mono0 x.pre (λ_ _=>Tup.ext R x) h
def EnvR.mono(R:Rel K m S H)(x:Ext m H m' H')(h:EnvR K m H b σ):EnvR K m' H' b σ:=
 ⟨h.len,λi d e=>let ⟨v,p,q⟩:=h.at_ i d e;⟨v,p,VD.mono R x q⟩⟩
def VDs.length:∀ {b:List D} {vs:List V},VDs K m H b vs->b.length=vs.length
 |[],vs,h=>by rw[VDs] at h;rw[h];rfl
 |d::b,vs,h=>by
  rw[VDs] at h;obtain⟨y,r,e,_,q⟩:=h;rw[e,ZB,ZB,VDs.length q]
def VDs.nil:VDs K m H [] []:=by rw[VDs]
def VDs.cons(h:VD K m H d v)(t:VDs K m H b vs):VDs K m H (d::b) (v::vs):=by rw[VDs];exact⟨v,vs,rfl,h,t⟩
def VDs.get:∀ {b:List D} {vs:List V} {i:Nat} {d:D},VDs K m H b vs->b[i]?=aa d->∃v,vs[i]?=aa v/\VD K m H d v
 |[],_,_,_,_,e=>by simp at e
 |d::b,vs,0,d',h,e=>by
  rw[VDs] at h;obtain⟨y,r,rfl,p,q⟩:=h;simp at e;subst e;exact⟨y,rfl,p⟩
 |d::b,vs,i+1,d',h,e=>by
  rw[VDs] at h;obtain⟨y,r,rfl,p,q⟩:=h;obtain⟨v,f,c⟩:=VDs.get (i:=i) q (by simpa using e);exact⟨v,by simpa using f,c⟩
def VDs.append:∀ {c E:List D} {vs b:List V},VDs K m H c vs->VDs K m H E b->VDs K m H (c++E) (vs++b)
 |[],_,vs,_,h,t=>by rw[VDs] at h;subst h;exact t
 |d::c,E,vs,b,h,t=>by
  rw[VDs] at h;obtain⟨y,r,rfl,p,q⟩:=h;exact .cons p (VDs.append q t)
def VDs.drop:∀ {b:List D} {vs:List V} (n:Nat),VDs K m H b vs->VDs K m H (b.drop n) (vs.drop n)
 |b,vs,0,h=>h
 |[],vs,n+1,h=>by rw[VDs] at h;subst h;exact .nil
 |d::b,vs,n+1,h=>by
  rw[VDs] at h;obtain⟨y,r,rfl,p,q⟩:=h;exact VDs.drop n q
def VDs.take:∀ {b:List D} {vs:List V} (n:Nat),VDs K m H b vs->VDs K m H (b.take n) (vs.take n)
 |b,vs,0,h=>by simp only[List.take_zero];exact .nil
 |[],vs,n+1,h=>by rw[VDs] at h;subst h;exact .nil
 |d::b,vs,n+1,h=>by
  rw[VDs] at h;obtain⟨y,r,rfl,p,q⟩:=h;exact .cons p (VDs.take n q)
def VDs.set:∀ {b:List D} {vs:List V} {i:Nat} {d:D} {v:V},VDs K m H b vs->VD K m H d v->VDs K m H (b.set i d) (vs.set i v)
 |[],vs,_,_,_,h,_=>by rw[VDs] at h;subst h;exact .nil
 |_::b,vs,0,d,v,h,p=>by
  rw[VDs] at h;obtain⟨y,r,rfl,_,q⟩:=h;exact .cons p q
 |_::b,vs,i+1,d,v,h,p=>by
  rw[VDs] at h;obtain⟨y,r,rfl,c,q⟩:=h;exact .cons c (VDs.set q p)
def Ext.beside(R:Rel K m S H)(h:H a=aD)(o:HO):Ext m H m (upd H a o):=
 ⟨Ym m,λb u e _=>by rw[aG (aU e h)];exact e,λb z n=>absurd z n⟩
def Rel.ext_keep(R:Rel K m S H)(x:Ext m H m H')(k:∀b ∈ m,H' b=H b):Rel K m S H':=by
 refine⟨R.len,R.nd,λi o e=>?_⟩;obtain⟨b,hb,r⟩:=R.ob i o e;have h:b ∈ m:=Zi hb;refine⟨b,hb,?_⟩;cases o with
 |lst c=>obtain⟨v,p,q⟩:=r;exact⟨v,(k b h).trans p,VDs.mono R x q⟩
 |frz c=>obtain⟨o,v,p,q⟩:=r;exact⟨o,v,(k b h).trans p,VDs.mono R x q⟩
 |dic f c=>obtain⟨v,p,l,q⟩:=r;exact⟨v,(k b h).trans p,l,VDs.mono R x q⟩
def Rel.beside(R:Rel K m S H)(h:H a=aD)(o:HO):Rel K m S (upd H a o):=
 R.ext_keep (Ext.beside R h o) λb hb=>aG λz=>R.no h (z ▸ hb)
def Rel.adopt(R:Rel K m S H)(n:a ∉ m)(h:H a=aa (.lst vs))(q:VDs K m H c vs):Rel K (m++[a]) (S++[.lst c]) H:=by
 have p:=YJ m [a];have g:∀ {E:List D} {ws:List V},VDs K m H E ws->VDs K (m++[a]) H E ws:=λz=>VDs.mono0 p (λ_ _ t=>t) z;refine⟨by simp[R.len],X5.mpr ⟨R.nd,by simp,λx B y j=>by simp at j;subst j;exactλz=>n (z ▸ B)⟩,λi o e=>?_⟩;by_cases v:i < S.length
 ·rw[Zv v] at e;obtain⟨b,hb,r⟩:=R.ob i o e;refine⟨b,dS p hb,?_⟩;cases o with
  |lst c=>obtain⟨vs,p,q⟩:=r;exact⟨vs,p,g q⟩
  |frz c=>obtain⟨o,vs,p,q⟩:=r;exact⟨o,vs,p,g q⟩
  |dic C c=>obtain⟨vs,p,l,q⟩:=r;exact⟨vs,p,l,g q⟩
 ·rw[Zp (by lia)] at e
  have f:i - S.length=0:=by
   have:=(Zb.mp e).1;simp at this;lia
  rw[f] at e;have u:Ob.lst c=o:=by simpa using e
  subst u;refine⟨a,?_,vs,h,g q⟩;rw[Zp (by rw[R.len];lia),R.len,f];rfl
def Ext.adopt(x:Ext m H m H')(h:H a=aD):Ext m H (m++[a]) H':=
 ⟨YJ m [a],x.keep,λb hb nb=>by
  rcases ZJ.mp hb with z |z
  ·exact absurd z nb
  ·simp at z;subst z;exact h⟩
def Rel.writeO(R:Rel K m S H){i:Nat}(h:m[i]?=aa a)(u:HO)(ob:Ob)(q:Ext m H m (upd H a u)->ObR K m (upd H a u) a ob):Ext m H m (upd H a u)/\Rel K m (S.set i ob) (upd H a u):=by
 have B:a ∈ m:=Zi h;have x:Ext m H m (upd H a u):=⟨Ym m,λb w e n=>by rw[aG (show b ≠ a fromλz=>n (by rw[z];exact B))];exact e,λb z n=>absurd z n⟩;refine⟨x,by simp[R.len],R.nd,λj o e=>?_⟩;rw[YL] at e;by_cases f:i=j
 ·subst f;rw[if_pos rfl] at e;split at e
  ·have g:=Option.some.inj e;subst g;exact⟨a,h,q x⟩
  ·cases e
 ·rw[if_neg f] at e;obtain⟨b,hb,r⟩:=R.ob j o e
  have ne:b ≠ a:=λz=>by
   subst z;have y:=Zb.mp h;have v:=Zb.mp hb;exact f ((Xl R.nd).mp (y.2.trans v.2.symm))
  refine⟨b,hb,?_⟩;cases o with
  |lst E=>obtain⟨c,p,q⟩:=r;exact⟨c,by rw[aG ne];exact p,VDs.mono R x q⟩
  |frz E=>obtain⟨o,c,p,q⟩:=r;exact⟨o,c,by rw[aG ne];exact p,VDs.mono R x q⟩
  |dic C E=>obtain⟨c,p,l,q⟩:=r;exact⟨c,by rw[aG ne];exact p,l,VDs.mono R x q⟩
def Rel.write(R:Rel K m S H){i:Nat}(h:m[i]?=aa a)(q:VDs K m H b vs):Ext m H m (upd H a (.lst vs))/\Rel K m (S.set i (.lst b)) (upd H a (.lst vs)):=
 R.writeO h (.lst vs) (.lst b) λx=>⟨vs,aH,VDs.mono R x q⟩
def Rel.lst(R:Rel K m S H){i:Nat}(e:S[i]?=aa (.lst b)):∃a vs,m[i]?=aa a/\H a=aa (.lst vs)/\VDs K m H b vs:=by
 obtain⟨a,h,vs,p,q⟩:=R.ob i _ e;exact⟨a,vs,h,p,q⟩
end
abbrev aP(S:Sto)(n:Nat):Option (List D):=match S[n]? with
 |some (.lst ds)=>aa ds
 |some (.frz ds)=>aa ds
 |_=>aD
def Rel.seq{K:Vf}{m:List Addr}{S:Sto}{H:Hp}(R:Rel K m S H){i:Nat}{c:List D}(e:aP S i=aa c):∃a vs,m[i]?=aa a/\SqL K H a vs/\VDs K m H c vs:=by
 unfold aP at e;cases h:S[i]? with
 |none=>rw[h] at e;cases e
 |some o=>
  rw[h] at e;cases o with
  |lst E=>cases e;obtain⟨a,b,vs,p,q⟩:=R.ob i _ h;exact⟨a,vs,b,.inl (.inl p),q⟩
  |frz E=>cases e;obtain⟨a,b,o,vs,p,q⟩:=R.ob i _ h;exact⟨a,vs,b,.inl (.inr ⟨o,p⟩),q⟩
  |dic f E=>cases e
@[inline]abbrev XE:=Rho->Sto->Option (D × Sto)
@[inline]abbrev XT:=Rho->Sto->Option (Bool × Sto)
@[inline]abbrev XA:=Rho->Sto->Option (List D × Sto)
abbrev bnd{c b:Type}(x:Option (c × Sto))(f:c->Sto->Option (b × Sto)):Option (b × Sto):=match x with
 |none=>aD
 |some (a,S)=>f a S
def aj{c b:Type}{x:Option (c × Sto)}{f:c->Sto->Option (b × Sto)}{r:b × Sto}(h:bnd x f=aa r):∃a S,x=aa (a,S)/\f a S=aa r:=by
 unfold bnd at h;cases x with
 |none=>cases h
 |some p=>exact⟨p.1,p.2,rfl,h⟩
structure Aft(K:Vf)(m:List Addr)(H:Hp)(S':Sto)(m':List Addr)(H':Hp):Prop where
 ext:Ext m H m' H'
 rel:Rel K m' S' H'
abbrev tE(K:Vf)(x:XE):TE:=λg H Q=>∃m c S d f,EnvR K m H c g/\Rel K m S H/\x c S=aa (d,f)/\∀b h v,Aft K m H f b h->VD K b h d v->Q v h
abbrev tT(K:Vf)(x:XT):TT:=λg H Q=>∃m c S b f,EnvR K m H c g/\Rel K m S H/\x c S=aa (b,f)/\∀j h,Aft K m H f j h->Q b h
abbrev tAr(K:Vf)(x:XA):TA:=λj H Q=>∃m c S f g,EnvR K m H c j/\Rel K m S H/\x c S=aa (f,g)/\∀b h v,Aft K m H g b h->VDs K b h f v->Q v h
abbrev SqB(K:Vf)(T:Bool)(H:Hp)(a:Addr)(vs:List V):Prop:=if T=aN then H a=aa (.tup vs) else SqL K H a vs
abbrev eZ(K:Vf)(x:XA):TE:=λn H Q=>∃m f S g j,EnvR K m H f n/\Rel K m S H/\x f S=aa (g,j)/\∀c h a v,Aft K m H j c h->h a=aa (.lst v)->a ∉ c->(∀b,b ∈ m->b ≠ a)->H a=aD->VDs K c h g v->Q (.ref a) h
section
variable {X:Cx} {e:Expr} {K:Vf} {m m1 m2:List Addr} {H H1 H2:Hp} {S S1 S2:Sto}
def PE.imp(h:PE X e t)(f:∀b H Q,t' b H Q->t b H Q):PE X e t':=λp s b H Q I q=>h p s b H Q I (f b H Q q)
def PT.imp(h:PT X e t)(f:∀b H Q,t' b H Q->t b H Q):PT X e t':=λp s b H Q I q=>h p s b H Q I (f b H Q q)
def PA.imp(h:PA X E t)(f:∀b H Q,t' b H Q->t b H Q):PA X E t':=λp c s b H Q I q=>h p c s b H Q I (f b H Q q)
def PS.imp{st:Stmt}{t t':TS}(h:PS X st t)(f:∀D b H,t' D b H->t D b H):PS X st t':=λp s b H D I q=>h p s b H D I (f D b H q)
def PSs.imp{st:List Stmt}{t t':TS}(h:PSs X st t)(f:∀D b H,t' D b H->t D b H):PSs X st t':=λp s b H D I q=>h p s b H D I (f D b H q)
def PI.imp(h:PI X T c t)(f:∀b H Q,t' b H Q->t b H Q):PI X T c t':=λp s b H Q I q=>h p s b H Q I (f b H Q q)
def PI.or(h:PI X T c t)(f:PI X T c g):PI X T c (λb H Q=>t b H Q\/g b H Q):=λp s b H Q I q=>q.elim (h p s b H Q I) (f p s b H Q I)
def OpR.imp(h:OpR X f r)(g:∀x y H Q,r' x y H Q->r x y H Q):OpR X f r':=λp s b H x y v u Q I c j q=>h p s b H x y v u Q I c j (g _ _ _ _ q)
def OpR.or(h:OpR X f r)(j:OpR X f n):OpR X f (λx y H Q=>r x y H Q\/n x y H Q):=λp s b H x y v u Q I c g q=>
 q.elim (h p s b H x y v u Q I c g) (j p s b H x y v u Q I c g)
def aV.imp(h:aV X f r)(g:∀x H Q,r' x H Q->r x H Q):aV X f r':=λp s b H xs u Q I c q=>h p s b H xs u Q I c (g _ _ _ q)
def aV.or(h:aV X f r)(g:aV X f j):aV X f (λx H Q=>r x H Q\/j x H Q):=λp s b H xs u Q I c q=>
 q.elim (h p s b H xs u Q I c) (g p s b H xs u Q I c)
def Aft.refl(R:Rel K m S H):Aft K m H S m H:=⟨Ext.refl m H,R⟩
def Aft.trans(x:Aft K m H S1 m1 H1)(y:Aft K m1 H1 S2 m2 H2):Aft K m H S2 m2 H2:=⟨x.ext.trans y.ext,y.rel⟩
abbrev rS(K:Vf)(f:D->D->Sto->Option (D × Sto)):R2:=λv w H Q=>∃m S a b d g,Rel K m S H/\VD K m H a v/\VD K m H b w/\f a b S=aa (d,g)/\∀c h u,Aft K m H g c h->VD K c h d u->Q u h
abbrev rS1(K:Vf)(f:D->Sto->Option (D × Sto)):V->Hp->VK->Prop:=λv H Q=>∃m S a d c,Rel K m S H/\VD K m H a v/\f a S=aa (d,c)/\∀b h u,Aft K m H c b h->VD K b h d u->Q u h
abbrev rSA(K:Vf)(f:List D->Sto->Option (D × Sto)):List V->Hp->VK->Prop:=λv H Q=>∃m S c d g,Rel K m S H/\VDs K m H c v/\f c S=aa (d,g)/\∀b h u,Aft K m H g b h->VD K b h d u->Q u h
abbrev rSq(K:Vf)(f:Bool->List D->Sto->Option (D × Sto)):V->Hp->VK->Prop:=λv H Q=>∃m S T g a c d j,Rel K m S H/\v = .ref a/\SqB K T H a c/\VDs K m H g c/\f T g S=aa (d,j)/\∀b h u,Aft K m H j b h->VD K b h d u->Q u h
abbrev sW(f:D->D->Sto->Option (D × Sto))(x y:XE):XE:=λc S=>bnd (x c S) λa S1=>bnd (y c S1) λb S2=>f a b S2
abbrev xUn(f:D->Sto->Option (D × Sto))(x:XE):XE:=λb S=>bnd (x b S) λa S1=>f a S1
abbrev lx(f:List D->Sto->Option (D × Sto))(x:XA):XE:=λb S=>bnd (x b S) λa S1=>f a S1
abbrev sX(f:Bool->List D->Sto->Option (D × Sto))(x:XA):XE:=λc S=>bnd (x c S) λb S1=>f aT b S1
abbrev av(d:D)(S:Sto):Option (Bool × List D):=match d with
 |.tup b=>aa (aN,b)
 |.ref n=>(aP S n).map λb=>(aT,b)
 |_=>aD
abbrev aw(f:Bool->List D->Sto->Option (D × Sto))(d:D)(S:Sto):Option (D × Sto):=match av d S with
 |some r=>f r.1 r.2 S
 |none=>aD
abbrev sY(f:Bool->List D->Sto->Option (D × Sto))(x:XE):XE:=λb S=>bnd (x b S) λd S1=>aw f d S1
def rd{f:D->D->Sto->Option (D × Sto)}{x y:XE}{j:L2.St}{H:Hp}{Q:VK}(h:tE K (sW f x y) j H Q):tOp (rS K f) (tE K x) (tE K y) j H Q:=by
 obtain⟨m,n,S,d,J,E,R,e,q⟩:=h;obtain⟨a,S1,o,e⟩:=aj e;obtain⟨b,S2,C,e⟩:=aj e;refine⟨m,n,S,a,S1,E,R,o,λm1 H1 v c I=>⟨m1,n,S1,b,S2,E.mono R c.ext,c.rel,C,λm2 H2 w g vb=>?_⟩⟩;exact⟨m2,S2,a,b,d,J,g.rel,I.mono c.rel g.ext,vb,e,λB z u p vd=>q B z u ((c.trans g).trans p) vd⟩
def xO{f:D->Sto->Option (D × Sto)}{x:XE}{b:L2.St}{H:Hp}{Q:VK}(h:tE K (xUn f x) b H Q):tUn (rS1 K f) (tE K x) b H Q:=by
 obtain⟨m,o,S,d,z,E,R,e,q⟩:=h;obtain⟨a,S1,g,e⟩:=aj e;exact⟨m,o,S,a,S1,E,R,g,λm1 H1 v c j=>⟨m1,S1,a,d,z,c.rel,j,e,λp y u n vd=>q p y u (c.trans n) vd⟩⟩
def BN{f:List D->Sto->Option (D × Sto)}{x:XA}{b:L2.St}{H:Hp}{Q:VK}(h:tE K (lx f x) b H Q):tCB (rSA K f) (tAr K x) b H Q:=by
 obtain⟨m,o,S,d,z,E,R,e,q⟩:=h;obtain⟨a,S1,g,e⟩:=aj e;exact⟨m,o,S,a,S1,E,R,g,λm1 H1 v c j=>⟨m1,S1,a,d,z,c.rel,j,e,λp y u n vd=>q p y u (c.trans n) vd⟩⟩
def K2{f:Bool->List D->Sto->Option (D × Sto)}{x:XA}{b:L2.St}{H:Hp}{Q:VK}(h:tE K (sX f x) b H Q):tUn (rSq K f) (eZ K x) b H Q:=by
 obtain⟨m,o,S,d,B,E,R,e,q⟩:=h;obtain⟨c,S1,j,e⟩:=aj e;exact⟨m,o,S,c,S1,E,R,j,λm1 H1 a v g z _ _ _ vd=>⟨m1,S1,aT,c,a,v,d,B,g.rel,rfl,show SqL K H1 a v from SqL.of z,vd,e,λp y u n vd=>q p y u (g.trans n) vd⟩⟩
abbrev zu(i:Nat):XE:=λb S=>match b[i]? with
 |some (aa d)=>aa (d,S)
 |_=>aD
abbrev xC(d:D):XE:=λ_ S=>aa (d,S)
def K3{i:Nat}(h:tE K (zu i) c H Q):Kf i c H Q:=by
 obtain⟨m,g,S,d,n,E,R,e,q⟩:=h;unfold zu at e;cases b:g[i]? with
 |none=>rw[b] at e;cases e
 |some o=>
  rw[b] at e;cases o with
  |none=>cases e
  |some j=>
   cases e;obtain⟨v,f,vd⟩:=E.at_ i d b;exact⟨v,f,q m H v (Aft.refl R) vd⟩
def BO(c:∀m H,VD K m H d v)(h:tE K (xC d) b H Q):tC v b H Q:=by
 obtain⟨m,f,S,g,j,E,R,e,q⟩:=h;cases e;exact q m H v (Aft.refl R) (c m H)
def mY:VD K m H .non .non:=by rw[VD]
def cK:VD K m H (.bl b) (.bl b):=by rw[VD]
def bx{i:Int}:VD K m H (.int i) (.int i):=by rw[VD]
def mZ:VD K m H (.str x) (.str x):=by rw[VD]
def re(h:H a=aa (.tup vs))(q:VDs K m H b vs):VD K m H (.tup b) (.ref a):=by rw[VD];exact⟨a,vs,rfl,h,q⟩
def VD.ints{i:Int}(h:VD K m H (.int i) v):v = .int i:=by rw[VD] at h;exact h
def VD.bls(h:VD K m H (.bl i) v):v = .bl i:=by rw[VD] at h;exact h
def VD.strs(h:VD K m H (.str i) v):v = .str i:=by rw[VD] at h;exact h
def VD.nons(h:VD K m H .non v):v = .non:=by rw[VD] at h;exact h
def VD.tups(h:VD K m H (.tup b) v):∃a vs,v = .ref a/\H a=aa (.tup vs)/\VDs K m H b vs:=by rw[VD] at h;exact h
def VD.refs{n:Nat}(h:VD K m H (.ref n) v):∃a,m[n]?=aa a/\v = .ref a:=by rw[VD] at h;exact h
abbrev FI:XA:=λ_ S=>aa ([],S)
abbrev xP(x:XE)(y:XA):XA:=λb S=>bnd (x b S) λa S1=>bnd (y b S1) λc S2=>aa (a::c,S2)
def K4(h:tAr K FI b H Q):mG b H Q:=by
 obtain⟨m,c,S,f,g,E,R,e,q⟩:=h;cases e;exact q m H [] (Aft.refl R) .nil
def FJ{x:XE}{y:XA}{f:L2.St}{H:Hp}{Q:List V->Hp->Prop}(h:tAr K (xP x y) f H Q):dQ (tE K x) (tAr K y) f H Q:=by
 obtain⟨m,j,S,u,z,E,R,e,q⟩:=h;obtain⟨a,S1,n,e⟩:=aj e;obtain⟨b,S2,p,e⟩:=aj e;cases e;refine⟨m,j,S,a,S1,E,R,n,λm1 H1 v c o=>⟨m1,j,S1,b,_,E.mono R c.ext,c.rel,p,λm2 H2 w g vb=>?_⟩⟩;exact q m2 H2 _ (c.trans g) (.cons (o.mono c.rel g.ext) vb)
abbrev lB(b:List D)(S:Sto):Option (D × Sto):=if b.length<=1000 then aa (.tup b,S) else aD
def m6{n:Nat}(h:n<=1000):n<=sizeLine:=by rw[Ue];lia
def lK{f:List D}{vs:List V}{Q:VK}(R:Rel K m S H)(vd:VDs K m H f vs)(q:∀c b u,Aft K m H S c b->VD K c b (.tup f) u->Q u b):∀p,H p=aD->Q (.ref p) (upd H p (.tup vs)):=λp h=>
 q m _ _ ⟨Ext.beside R h _,R.beside h _⟩ (re aH (vd.mono R (Ext.beside R h _)))
def lP{f:List D}{vs:List V}{Q:VK}(R:Rel K m S H)(vd:VDs K m H f vs)(q:∀c b u,Aft K m H (S++[.lst f]) c b->VD K c b (.ref S.length) u->Q u b):∀p,H p=aD->Q (.ref p) (upd H p (.lst vs)):=λp h=>by
 have x:=Ext.beside R h (.lst vs);refine q (m++[p]) _ _ ⟨x.adopt h,(R.beside h _).adopt (R.no h) aH (vd.mono R x)⟩ ?_;rw[VD];exact⟨p,by rw[Zp (by rw[R.len];exact Zd _),R.len,Yv];rfl,rfl⟩
def lQ{g:List D}{vs:List V}{Q:VK}(R:Rel K m S H)(vd:VDs K m H g vs)(q:∀f c a vs,Aft K m H S f c->c a=aa (.lst vs)->a ∉ f->(∀b,b ∈ m->b ≠ a)->H a=aD->VDs K f c g vs->Q (.ref a) c):∀p,H p=aD->Q (.ref p) (upd H p (.lst vs)):=λp h=>
 q m _ _ _ ⟨Ext.beside R h _,R.beside h _⟩ aH (R.no h) (λb hb z=>R.no h (z ▸ hb)) h (vd.mono R (Ext.beside R h _))
def K5{x:XA}{b:L2.St}{H:Hp}{Q:VK}(h:tE K (lx lB x) b H Q):Px (tAr K x) b H Q:=by
 obtain⟨m,n,S,B,C,E,R,e,q⟩:=h;obtain⟨a,S1,g,e⟩:=aj e;unfold lB at e;split at e
 ·rename_i y;cases e;exact⟨m,n,S,a,_,E,R,g,λm1 H1 z c v=>⟨m6 (by rw[<-v.length];exact y),lK c.rel v λj p u f o=>q j p u (c.trans f) o⟩⟩
 ·cases e
abbrev pQ(x:XA):XA:=λc S=>bnd (x c S) λb S1=>if b.length<=1000 then aa (b,S1) else aD
def FK{x:XA}{f:L2.St}{H:Hp}{Q:VK}(h:eZ K (pQ x) f H Q):Py (tAr K x) f H Q:=by
 obtain⟨m,T,S,Z,S',E,R,e,q⟩:=h;obtain⟨a,S1,p,e⟩:=aj e;split at e
 ·rename_i C;cases e;refine⟨m,T,S,_,_,E,R,p,λm1 H1 Y c v=>⟨m6 (by rw[<-v.length];exact C),lQ c.rel v λJ L u U I O y n j z=>?_⟩⟩
  have B:H u=aD:=by
   cases e:H u with
   |none=>rfl
   |some o=>
    by_cases g:u ∈ m
    ·exact absurd rfl (n u (c.ext.pre.subset g))
    ·have:=c.ext.keep u o e g;rw[this] at j;cases j
  exact q J L u U (c.trans I) O y (λb hb=>n b (c.ext.pre.subset hb)) B z
 ·cases e
def e8{d:D}{v:V}{tu:Bool}{ds:List D}(R:Rel K m S H)(vd:VD K m H d v)(e:av d S=aa (tu,ds)):∃a vs,v = .ref a/\SqB K tu H a vs/\VDs K m H ds vs:=by
 unfold av at e;cases d with
 |tup c=>
  cases e;obtain⟨a,vs,e,q,r⟩:=vd.tups;exact⟨a,vs,e,q,r⟩
 |ref n=>
  obtain⟨a,h,E⟩:=vd.refs;cases hs:aP S n with
  |none=>simp[hs] at e
  |some c=>
   simp[hs] at e;obtain⟨rfl,rfl⟩:=e;obtain⟨b,vs,hb,q,r⟩:=R.seq hs;rw[h] at hb;cases hb;exact⟨a,vs,E,q,r⟩
 |_=>cases e
def K6{f:Bool->List D->Sto->Option (D × Sto)}{x:XE}{j:L2.St}{H:Hp}{Q:VK}(h:tE K (sY f x) j H Q):tUn (rSq K f) (tE K x) j H Q:=by
 obtain⟨m,L,S,d,O,E,R,e,q⟩:=h;obtain⟨a,S1,n,e⟩:=aj e;refine⟨m,L,S,a,S1,E,R,n,λm1 H1 v g J=>?_⟩;unfold aw at e;split at e
 ·rename_i r y;obtain⟨b,B,o,I,c⟩:=e8 (tu:=r.1) (ds:=r.2) g.rel J y;exact⟨m1,S1,r.1,r.2,b,B,d,O,g.rel,o,I,c,e,λC z u p vd=>q C z u (g.trans p) vd⟩
 ·cases e
abbrev dz(x:XA):XE:=λc S=>bnd (x c S) λb S1=>aa (.ref S1.length,S1++[.lst b])
def sZ{x:XA}{f:L2.St}{H:Hp}{Q:VK}(h:tE K (dz x) f H Q):eZ K x f H Q:=by
 obtain⟨m,j,S,d,B,E,R,e,q⟩:=h;obtain⟨o,S1,g,e⟩:=aj e;cases e;refine⟨m,j,S,o,S1,E,R,g,λm1 H1 a v c p n y u vd=>?_⟩;refine q (m1++[a]) H1 _ ⟨⟨c.ext.pre.trans (YJ _ _),c.ext.keep,λb hb nb=>?_⟩,c.rel.adopt n p vd⟩ ?_
 ·rcases ZJ.mp hb with z |z
  ·exact c.ext.new b z nb
  ·simp at z;subst z;exact u
 ·rw[VD];exact⟨a,by rw[Zp (by rw[c.rel.len];exact Zd _),c.rel.len,Yv];rfl,rfl⟩
end
abbrev eqL(f:D->D->Option Bool):List D->List D->Option Bool
 |[],[]=>aa aN
 |x::xs,y::ys=>match f x y,eqL f xs ys with
  |some a,aa b=>aa (a && b)
  |_,_=>aD
 |_,_=>aa aT
abbrev eqB:D->D->Option Bool
 |.non,.non=>aa aN
 |.bl a,.bl b=>aa (a == b)
 |.int a,.int b=>aa (a == b)
 |.str a,.str b=>aa (a == b)
 |.bl a,.int b=>aa ((if a then 1 else 0) == b)
 |.int a,.bl b=>aa (a == (if b then 1 else 0))
 |_,_=>aD
abbrev eqD(_:Nat)(S:Sto)(x y:D):Option Bool:=match x,y with
 |.tup xs,.tup ys=>eqL eqB xs ys
 |.ref a,.ref b=>match aP S a,aP S b with
  |some xs,aa ys=>if a=b then aa aN else if xs.length=ys.length then eqL eqB xs ys else aa aT
  |_,_=>aD
 |x,y=>eqB x y
section
variable {X:Cx} {K:Vf} {m:List Addr} {H:Hp} {S:Sto}
def tf{f:D->D->Option Bool}:∀ {xs Y:List D} {b:Bool},eqL f xs Y=aa b->∃g:Nat->Bool,(∀j x y,xs[j]?=aa x->Y[j]?=aa y->f x y=aa (g j))/\b=((Ze (min xs.length Y.length)).all g && (xs.length == Y.length))
 |[],[],b,h=>by simp[eqL] at h;exact⟨λ_=>aN,λj x y e=>by simp at e,by simp[<-h]⟩
 |[],_::_,b,h=>by simp[eqL] at h;exact⟨λ_=>aN,λj x y e=>by simp at e,by simp[<-h]⟩
 |_::_,[],b,h=>by simp[eqL] at h;exact⟨λ_=>aN,λj x y _ e=>by simp at e,by simp[<-h]⟩
 |x::xs,y::Y,b,h=>by
  rw[eqL] at h;split at h
  ·rename_i a c v p;cases h;obtain⟨g,z,u⟩:=tf p;refine⟨λj=>match j with |0=>a |j+1=>g j,λj q o E n=>?_,?_⟩
   ·cases j with
    |zero=>cases E;cases n;exact v
    |succ j=>exact z j q o E n
   ·rw[u];simp only[ZB,Nat.succ_min_succ,List.range_succ_eq_map,Yo,Yz];rw[Bool.and_assoc,show(xs.length+1 == Y.length+1)=(xs.length == Y.length) by simp];rfl
  ·cases h
def xQ{vs:List V}{I:List Value}{xs:List D}(p:VDs K m H xs vs)(r:aO vs I){j:Nat}(c:j < I.toArray.size):∃x v,xs[j]?=aa x/\VD K m H x v/\aJ v I.toArray[j]:=by
 have h:j < I.length:=by simpa using c
 have l1:=p.length;have L:=r.length;obtain⟨v,g,vd⟩:=p.get (i:=j) (d:=xs[j]'(by lia)) (gEG _);obtain⟨u,b,f⟩:=r.get g;rw[gEG h] at b;cases b;exact⟨_,v,gEG (by lia),vd,f⟩
def BP{A:Around}{s:Shared}{x y:D}{v w:V}{u U:Value}{b:Bool}(f:VD K m H x v)(c:VD K m H y w)(r1:aJ v u)(r2:aJ w U)(h:eqB x y=aa b):Vb A s u U b/\SeqAt.RcAt A s u U b/\Vc A s u U (!b):=by
 unfold eqB at h;split at h
 ·cases h;cases f.nons;cases c.nons;cases r1;cases r2;exact⟨.same _,.none_none,.none_none⟩
 ·cases h;cases f.bls;cases c.bls;cases r1;cases r2;exact⟨.bool_bool _ _,.bool_bool _ _,.bool_bool _ _⟩
 ·cases h;cases f.ints;cases c.ints;obtain⟨t,rfl⟩:=r1;obtain⟨T,rfl⟩:=r2;exact⟨.int_int _ _ _ _,.int_int _ _ _ _,.int_int _ _ _ _⟩
 ·cases h;cases f.strs;cases c.strs;obtain⟨t,rfl⟩:=r1;obtain⟨T,rfl⟩:=r2;exact⟨.str_str _ _ _ _,.str_str _ _ _ _,.str_str _ _ _ _⟩
 ·cases h;cases f.bls;cases c.ints;cases r1;obtain⟨T,rfl⟩:=r2;exact⟨.bool_int _ _ _,.bool_int _ _ _,.bool_int _ _ _⟩
 ·cases h;cases f.ints;cases c.bls;obtain⟨t,rfl⟩:=r1;cases r2;exact⟨.int_bool _ _ _,.int_bool _ _ _,.int_bool _ _ _⟩
 ·cases h
def tj{s:Shared}{A:Around}{xs Y:List D}{vs u:List V}{I c:List Value}{b:Bool}(p:VDs K m H xs vs)(q:VDs K m H Y u)(r1:aO vs I)(r2:aO u c)(h:eqL eqB xs Y=aa b):∃g:Nat->Bool,(∀j (z:j < I.toArray.size) (o:j < c.toArray.size),Vb A.in1 s I.toArray[j] c.toArray[j] (g j))/\b=((Ze (min I.toArray.size c.toArray.size)).all g && (I.toArray.size == c.toArray.size)):=by
 obtain⟨g,J,hb⟩:=tf h;refine⟨g,λj z o=>?_,by rw[hb,Zm,Zm,<-r1.length,<-p.length,<-r2.length,<-q.length]⟩;obtain⟨x,v,E,B,f⟩:=xQ p r1 z;obtain⟨y,w,L,C,n⟩:=xQ q r2 o;exact(BP B C f n (J j x y E L)).1
def PP{A:Around}{J:List (Addr × Obj)}{σ:L2.St}{s:Shared}{x y:D}{v w:V}{u u':Value}{b:Bool}(I:Inv X J σ H s)(R:Rel X.K m S H)(n:Nat)(Y:VD X.K m H x v)(L:VD X.K m H y w)(r1:aJ v u)(r2:aJ w u')(h:eqD n S x y=aa b)(o:A.units < cLine) :
  SeqAt.RcAt A s u u' b/\Vc A s u u' (!b):=by
 unfold eqD at h;split at h
 ·obtain⟨a,vs,rfl,sq,p⟩:=Y.tups;obtain⟨a',ws,rfl,E,q⟩:=L.tups;cases r1;cases r2;obtain⟨U,k1,T,_⟩:=I.tuple (.of sq);obtain⟨i2,Z,B,_⟩:=I.tuple (.of E);obtain⟨g,Q,rfl⟩:=tj (s:=s) (A:=A) p q k1 Z h;exact⟨SeqAt.RcAt.tuples T B o Q,PySem.SeqAt.RcNeAt.tuples T B o Q⟩
 ·rename_i k k';obtain⟨c,hc,rfl⟩:=Y.refs;obtain⟨c',O,rfl⟩:=L.refs;cases r1;cases r2;split at h
  ·rename_i es es' hs hs';obtain⟨b1,vs,hb,sq,p⟩:=R.seq hs;rw[hb] at hc;cases hc;obtain⟨b2,ws,C,E,q⟩:=R.seq hs';rw[C] at O;cases O;obtain⟨U,k1,T,_⟩:=I.list sq;obtain⟨i2,Z,B,_⟩:=I.list E;split at h
   ·rename_i hk;subst hk;rw[hb] at C;cases C;cases h;have z:=SeqAt.RcAt.lists (A:=A) (e:=λ_=>aN) T.isList T.isList rfl o λj Y L=>SeqAt.EqAt.same _;have z':=PySem.SeqAt.RcNeAt.lists (A:=A) (e:=λ_=>aN) T.isList T.isList rfl o λj Y L=>SeqAt.EqAt.same _;rw[show(Ze U.toArray.size).all (λ_=>aN)=aN by simp] at z z';exact⟨z,z'⟩
   ·have l1:U.toArray.size=es.length:=by rw[Zm,<-k1.length,<-p.length]
    have l2:i2.toArray.size=es'.length:=by rw[Zm,<-Z.length,<-q.length]
    split at h
    ·rename_i hl;obtain⟨g,Q,rfl⟩:=tj (s:=s) (A:=A) p q k1 Z h;have f:U.toArray.size=i2.toArray.size:=by rw[l1,l2,hl]
     rw[<-f,Nat.min_self,beq_self_eq_true,Wr];exact⟨SeqAt.RcAt.lists T.isList B.isList f o Q,PySem.SeqAt.RcNeAt.lists T.isList B.isList f o Q⟩
    ·rename_i hl;cases h;have f:(U.toArray.size != i2.toArray.size)=aN:=by rw[l1,l2];simpa using hl
     exact⟨SeqAt.RcAt.lists_lengths T.isList B.isList f o,PySem.SeqAt.RcNeAt.lists_lengths T.isList B.isList f o⟩
  ·cases h
 ·exact(BP Y L r1 r2 h).2
abbrev eqS(x y:D)(S:Sto):Option (D × Sto):=(eqD 60 S x y).map λb=>(.bl b,S)
abbrev neS(x y:D)(S:Sto):Option (D × Sto):=(eqD 60 S x y).map λb=>(.bl (!b),S)
def xR{x y:D}{b:Bool}(h:eqD 60 S x y=aa b):neS x y S=aa (.bl (!b),S):=by unfold neS;rw[h];rfl
def K7(z:X.A.units+64 < cLine):OpR X (VQ .Eq) (rS X.K eqS):=by
 intro p s o H x y v u Q I f n h;obtain⟨m,S,a,b,d,B,R,g,vb,e,q⟩:=h;obtain⟨c,j,e⟩:=Yu.mp e;cases e;exact(PP I R 60 g vb f n j (by lia)).1 _ _ _ _ ⟨.bl c,H,I,rfl,q m H _ (Aft.refl R) cK⟩
def K8(z:X.A.units+64 < cLine):OpR X (VQ .NotEq) (rS X.K neS):=by
 intro p s o H x y v u Q I f n h;obtain⟨m,S,a,b,d,B,R,g,vb,e,q⟩:=h;obtain⟨c,j,e⟩:=Yu.mp e;cases e;exact(PP I R 60 g vb f n j (by lia)).2 _ _ _ _ ⟨.bl (!c),H,I,rfl,q m H _ (Aft.refl R) cK⟩
end
abbrev K9(a b:Nat)(S:Sto):Option (D × Sto):=match S[a]? with
 | some (.lst xs)=>(match S[b]? with
  |some (.lst ys)=>if xs.length+ys.length<=100000 then aa (.ref S.length,S++[.lst (xs++ys)]) else aD
  | _=>aD)
 |_=>aD
abbrev lH:D->D->Sto->Option (D × Sto)
 |.int i,.int j,S=>aa (.int (i+j),S)
 |.tup xs,.tup ys,S=>if xs.length+ys.length<=1000 then aa (.tup (xs++ys),S) else aD
 |.ref a,.ref b,S=>K9 a b S
 |.str x,.str y,S=>if x.length+y.length<=100000 then aa (.str (x++y),S) else aD
 |_,_,_=>aD
abbrev PQ:D->D->Sto->Option (D × Sto)
 |.int i,.int j,S=>aa (.int (i - j),S)
 |_,_,_=>aD
abbrev jk(i j:Int):Bool:=(decide (-(2 ^ 64) < i) && decide (i < 2 ^ 64)) || (decide (-(2 ^ 64) < j) && decide (j < 2 ^ 64))
abbrev tw:D->D->Sto->Option (D × Sto)
 |.int i,.int j,S=>if jk i j=aN then aa (.int (i * j),S) else aD
 | .ref n,.int k,S=>(match S[n]? with
  |some (.lst xs)=>if 0<=k/\xs.length * k.toNat<=1000/\k<=1000 then aa (.ref S.length,S++[.lst (Zq k.toNat xs).flatten]) else aD
  | _=>aD)
 |_,_,_=>aD
abbrev La:D->D->Sto->Option (D × Sto)
 |.int i,.int j,S=>if 0 < j then aa (.int (i % j),S) else aD
 |_,_,_=>aD
abbrev BQ:D->D->Sto->Option (D × Sto)
 |.int i,.int j,S=>if 0 < j/\j < 1298074214633706907132624082305024 then aa (.int (i / j),S) else aD
 |_,_,_=>aD
abbrev Lb:D->D->Sto->Option (D × Sto)
 |.int i,.int j,S=>if 0<=j/\j<=1000000/\i.natAbs < 2 ^ 64 then aa (.int (i ^ j.toNat),S) else aD
 |_,_,_=>aD
inductive BOp where |add |sub |mul |mod |fdiv |pow
abbrev b6:BOp->D->D->Sto->Option (D × Sto)
 |.add=>lH |.sub=>PQ |.mul=>tw |.mod=>La |.fdiv=>BQ |.pow=>Lb
abbrev BOp.op:BOp->W5
 |.add=>.Add |.sub=>.Sub |.mul=>.Mult |.mod=>.Mod |.fdiv=>.FloorDiv |.pow=>.Pow
section
variable {X:Cx} {K:Vf} {m:List Addr} {H:Hp} {S:Sto}
def g9{op:W5}{f:D->D->Sto->Option (D × Sto)}{C:Int->Int->Prop}{g:Int->Int->Int}(o:OpR X (VG op) (rI C λi j=>.int (g i j)))
  (p:∀a b S d n,f a b S=aa (d,n)->∃i j,a = .int i/\b = .int j/\C i j/\d = .int (g i j)/\n=S):OpR X (VG op) (rS X.K f):=by
 refine OpR.imp o λx y H Q h=>?_;obtain⟨m,S,a,b,d,n,R,v,vb,e,q⟩:=h;obtain⟨i,j,rfl,rfl,c,rfl,rfl⟩:=p _ _ _ _ _ e;exact⟨i,j,v.ints,vb.ints,c,q m H _ (Aft.refl R) bx⟩
def vm:OpR X (VG .Add) (λx y H Q=>∃m S xs Y,Rel X.K m S H/\VD X.K m H (.tup xs) x/\VD X.K m H (.tup Y) y/\xs.length+Y.length<=1000/\∀f c u,Aft X.K m H S f c->VD X.K f c (.tup (xs++Y)) u->Q u c):=by
 refine OpR.imp Fz λx y H Q h=>?_;obtain⟨m,S,xs,Y,R,v,vb,z,q⟩:=h;obtain⟨a,p,rfl,sa,g⟩:=v.tups;obtain⟨b,o,rfl,n,j⟩:=vb.tups;have l1:=g.length;have L:=j.length;refine⟨a,b,p,o,rfl,rfl,.of sa,.of n,m6 (by lia),λe=>?_,λ_ e=>?_,λ_ _=>lK R (g.append j) q⟩
 ·subst e;have e:xs=[]:=YD.mp (by simpa using l1);subst e;exact q m H _ (Aft.refl R) vb
 ·subst e;have e:Y=[]:=YD.mp (by simpa using L);subst e;rw[ZY] at q;exact q m H _ (Aft.refl R) v
def FL:OpR X (VG .Add) (rS X.K lH):=by
 refine OpR.imp (OpR.or Ks (OpR.or vm (OpR.or uS uW))) λx y H Q h=>?_;obtain⟨m,S,a,b,d,S',R,v,vb,e,q⟩:=h;cases a with
 |int i=>
  cases b with
  |int j=>cases e;exact .inl ⟨i,j,v.ints,vb.ints,q m H _ (Aft.refl R) bx⟩
  |_=>simp[lH] at e
 |tup xs=>
  cases b with
  |tup Y=>
   simp only[lH] at e;split at e
   ·rename_i n;cases e;exact .inr (.inl ⟨m,S,xs,Y,R,v,vb,n,q⟩)
   ·cases e
  |_=>simp[lH] at e
 |str i=>
  cases b with
  |str j=>
   simp only[lH] at e;split at e
   ·rename_i n;cases e;exact .inr (.inr (.inl ⟨i,j,v.strs,vb.strs,by rw[Ue];lia,q m H _ (Aft.refl R) mZ⟩))
   ·cases e
  |_=>simp[lH] at e
 |ref i=>
  cases b with
  |ref j=>
   simp only[lH,K9] at e;split at e
   ·rename_i xs I;split at e
    ·rename_i Y T;split at e
     ·rename_i n;cases e;obtain⟨a,C,O,u,p⟩:=R.lst I;obtain⟨c,J,B,z,o⟩:=R.lst T;obtain⟨U,g,E⟩:=v.refs;obtain⟨Z,f,L⟩:=vb.refs;rw[O] at g;cases g;rw[B] at f;cases f;exact .inr (.inr (.inr ⟨a,c,C,J,E,L,u,z,by rw[Ue,<-p.length,<-o.length];lia,lP R (p.append o) q⟩))
     ·cases e
    ·cases e
   ·cases e
  |_=>simp[lH] at e
 |_=>cases b <;> simp[lH] at e
def xS(h:VDs K m H b vs):∀n:Nat,VDs K m H (Zq n b).flatten (Zq n vs).flatten
 |0=>by rw[XM,XM,Wd,Wd,VDs]
 |n+1=>by rw[Yh,Yh,Yy,Yy];exact h.append (xS h n)
def FM:OpR X (VG .Mult) (rS X.K tw):=by
 refine OpR.imp (OpR.or KJ Ku) λx y H Q h=>?_;obtain⟨m,S,a,b,d,z,R,v,vb,e,q⟩:=h;cases a with
 |int i=>
  cases b with
  |int j=>
   simp only[tw] at e;split at e
   ·rename_i f;cases e;simp only[jk,Xr,bAE,decide_eq_true_eq] at f;exact .inr ⟨i,j,v.ints,vb.ints,f,q m H _ (Aft.refl R) bx⟩
   ·cases e
  |_=>simp[tw] at e
 |ref n=>
  cases b with
  |int k=>
   simp only[tw] at e;split at e
   ·rename_i xs o;split at e
    ·rename_i f;cases e;obtain⟨l,p,u,g,vd⟩:=R.lst o;obtain⟨L,c,E⟩:=v.refs;rw[u] at c;cases c;exact .inl ⟨l,k,p,E,vb.ints,g,by lia,by lia,by rw[Ue,<-vd.length];lia,lP R (xS vd k.toNat) q⟩
    ·cases e
   ·cases e
  |_=>simp[tw] at e
 |_=>cases b <;> simp[tw] at e
def BR:OpR X (VG .FloorDiv) (rI (λ_ j=>0 < j/\j < 1298074214633706907132624082305024) λi j=>.int (i / j)):=opI λi j _ _ _ _ _ h q=>by
 have f:(0:Int) < j:=h.1;have c:j < 1298074214633706907132624082305024:=h.2
 exact floordiv_int (by lia) (by rw[Int.fdiv_eq_ediv_of_nonneg i (by lia)];exact q) (.inl (PyProof.noPylong_of_log2 (by
  have b:j.natAbs ≠ 0:=by lia
  have:j.natAbs.log2 < 110:=(Wx b).mpr (by lia)
  lia)))
def FN(o:BOp):OpR X (VG o.op) (rS X.K (b6 o)):=by
 cases o with
 |add=>exact FL
 |sub=>
  refine g9 (C:=λ_ _=>True) (g:=λi j=>i - j) (OpR.imp Kt λx y H Q ⟨i,j,a,b,_,q⟩=>⟨i,j,a,b,q⟩) λa b S d c e=>?_;cases a <;> cases b <;> simp[b6,PQ] at e;exact⟨_,_,rfl,rfl,trivial,e.1.symm,e.2.symm⟩
 |mul=>exact FM
 |mod=>
  refine g9 Kv λa b S d c e=>?_;cases a <;> cases b <;> simp[b6,La] at e;rename_i i j;exact⟨i,j,rfl,rfl,e.1,e.2.1.symm,e.2.2.symm⟩
 |fdiv=>
  refine g9 BR λa b S d c e=>?_;cases a <;> cases b <;> simp[b6,BQ] at e;rename_i i j;exact⟨i,j,rfl,rfl,e.1,e.2.1.symm,e.2.2.symm⟩
 |pow=>
  refine g9 Kw λa b S d c e=>?_;cases a <;> cases b <;> simp[b6,Lb] at e;rename_i i j;exact⟨i,j,rfl,rfl,e.1,e.2.1.symm,e.2.2.symm⟩
abbrev zv(p:Int->Int->Bool):D->D->Sto->Option (D × Sto)
 |.int i,.int j,S=>aa (.bl (p i j),S)
 |_,_,_=>aD
abbrev bI:D->Bool
 |.non=>aN
 |_=>aT
abbrev isB(neg:Bool):D->D->Sto->Option (D × Sto)
 |d,.non,S=>aa (.bl (neg != bI d),S)
 |.bl a,.bl b,S=>aa (.bl (neg != (a == b)),S)
 |_,_,_=>aD
abbrev cL:D->Bool
 |.non=>aN |.bl _=>aN |.int _=>aN |.str _=>aN |_=>aT
abbrev eqF:D->D->Bool
 |.non,.non=>aN
 |.bl a,.bl b=>a == b
 |.bl a,.int b=>(if a then 1 else 0) == b
 |.int a,.bl b=>a == (if b then 1 else 0)
 |.int a,.int b=>a == b
 |.str a,.str b=>a == b
 |_,_=>aT
abbrev inF(x:D)(b:List D):Bool:=b.any λy=>eqF y x
abbrev inS(neg:Bool)(x y:D)(S:Sto):Option (D × Sto):=match av y S with
 |some (_,ds)=>if cL x=aN/\ds.all cL=aN then aa (.bl (neg != inF x ds),S) else aD
 |none=>aD
inductive COp where |eq |ne |lt |le |gt |ge |is |isnot |isin |notin
abbrev aC:COp->D->D->Sto->Option (D × Sto)
 |.eq=>eqS |.ne=>neS
 |.lt=>zv λi j=>decide (i < j) |.le=>zv λi j=>decide (i<=j) |.gt=>zv λi j=>decide (j < i) |.ge=>zv λi j=>decide (j<=i)
 |.is=>isB aT |.isnot=>isB aN |.isin=>inS aT |.notin=>inS aN
abbrev COp.op:COp->CmpOp
 |.eq=>.Eq |.ne=>.NotEq |.lt=>.Lt |.le=>.LtE |.gt=>.Gt |.ge=>.GtE |.is=>.Is |.isnot=>.IsNot |.isin=>.In |.notin=>.NotIn
def fv(c:OpR X (VQ op) (rI0 λi j=>.bl (p i j))):OpR X (VQ op) (rS X.K (zv p)):=by
 refine OpR.imp c λx y H Q h=>?_;obtain⟨m,S,a,b,d,f,R,v,vb,e,q⟩:=h;cases a <;> cases b <;> simp[zv] at e;obtain⟨rfl,rfl⟩:=e;exact⟨_,_,v.ints,vb.ints,q m H _ (Aft.refl R) cK⟩
def lU(h:VD K m H x v)(f:cL x=aN):bX v=aN:=by
 cases x <;> simp[cL] at f
 ·cases h.nons;rfl
 ·cases h.bls;rfl
 ·cases h.ints;rfl
 ·cases h.strs;rfl
def BS(h:VD K m H x v)(f:cL x=aN)(b:VD K m H y w)(c:cL y=aN):eqV v w=eqF x y:=by
 cases x <;> simp[cL] at f <;> cases y <;> simp[cL] at c <;> simp[VD] at h b <;> subst h <;> subst b <;> rfl
def jl:∀ {b:List D} {vs:List V},VDs K m H b vs->b.all cL=aN->vs.all bX=aN
 |[],vs,h,_=>by rw[VDs] at h;rw[h];rfl
 |d::b,vs,h,f=>by
  rw[VDs] at h;obtain⟨x,r,rfl,p,q⟩:=h;rw[Yo,bAE] at f;rw[Yo,lU p f.1,jl q f.2];rfl
def vn(h:VD K m H x v)(f:cL x=aN):∀ {b:List D} {vs:List V},VDs K m H b vs->b.all cL=aN->inV v vs=inF x b
 |[],vs,h,_=>by rw[VDs] at h;rw[h];rfl
 |d::b,vs,h',f'=>by
  rw[VDs] at h';obtain⟨y,r,rfl,p,q⟩:=h';rw[Yo,bAE] at f';have I:=vn h f q f'.2;unfold inV inF at I ⊢;rw[YB,YB,BS p f'.1 h f,I]
def pR(h:VD K m H x v)(f:cL x=aN):∀ {b:List D} {vs:List V},VDs K m H b vs->b.all cL=aN->(vs.countP λz=>eqV z v)=b.countP λz=>eqF z x
 |[],vs,h,_=>by rw[VDs] at h;rw[h];rfl
 |d::b,vs,h',f'=>by
  rw[VDs] at h';obtain⟨y,r,rfl,p,q⟩:=h';rw[Yo,bAE] at f';rw[Y0,Y0,BS p f'.1 h f,pR h f q f'.2]
def m7(h:SqB K T H a vs):SqL K H a vs\/SqT K H a vs:=by
 cases T with
 |false=>exact .inl h
 |true=>exact .inr (.of h)
def Lc(J:X.A.units+64 < cLine):OpR X (VQ .In) (rS X.K (inS aT)):=by
 intro c s n H x y v u Q I E B h;obtain⟨m,S,a,b,d,O,R,j,vb,e,q⟩:=h;unfold inS at e;split at e
 ·rename_i T L o;obtain⟨p,z,rfl,C,f⟩:=e8 R vb o;split at e
  ·rename_i g;cases e;refine zf c s n H x _ v u Q I E B ⟨p,z,rfl,m7 C,lU j g.1,jl f g.2,q m H _ (Aft.refl R) ?_⟩;rw[if_neg (by decide),vn j g.1 f g.2]
   simpa using cK
  ·cases e
 ·cases e
def zw(J:X.A.units+64 < cLine):OpR X (VQ .NotIn) (rS X.K (inS aN)):=by
 intro c s n H x y v u Q I E B h;obtain⟨m,S,a,b,d,O,R,j,vb,e,q⟩:=h;unfold inS at e;split at e
 ·rename_i T L o;obtain⟨p,z,rfl,C,f⟩:=e8 R vb o;split at e
  ·rename_i g;cases e;refine qR c s n H x _ v u Q I E B ⟨p,z,rfl,m7 C,lU j g.1,jl f g.2,q m H _ (Aft.refl R) ?_⟩;rw[if_pos rfl,vn j g.1 f g.2]
   simpa using cK
  ·cases e
 ·cases e
def BU(h:VD K m H d v):decide (v=V.non)=bI d:=by
 cases d with
 |non=>cases h.nons;rfl
 |bl _=>cases h.bls;rfl
 |int _=>cases h.ints;rfl
 |str _=>cases h.strs;rfl
 |tup _=>obtain⟨_,_,e,_⟩:=h.tups;subst e;rfl
 |ref _=>obtain⟨_,_,e⟩:=h.refs;subst e;rfl
def Lf:OpR X (VQ .Is) (rS X.K (isB aT)):=by
 refine OpR.imp (OpR.or Ky KO) λx y H Q h=>?_;obtain⟨m,S,a,b,d,c,R,v,vb,e,q⟩:=h;cases b with
 |non=>
  simp[isB] at e;obtain⟨rfl,rfl⟩:=e;exact .inl ⟨vb.nons,q m H _ (Aft.refl R) (by rw[BU v];exact cK)⟩
 |bl j=>
  cases a with
  |bl i=>
   simp[isB] at e;obtain⟨rfl,rfl⟩:=e;exact .inr ⟨i,j,v.bls,vb.bls,q m H _ (Aft.refl R) cK⟩
  |_=>simp[isB] at e
 |_=>cases a <;> simp[isB] at e
def zx:OpR X (VQ .IsNot) (rS X.K (isB aN)):=by
 refine OpR.imp (OpR.or Fa zr) λx y H Q h=>?_;obtain⟨m,S,a,b,d,c,R,v,vb,e,q⟩:=h;cases b with
 |non=>
  simp[isB] at e;obtain⟨rfl,rfl⟩:=e;exact .inl ⟨vb.nons,q m H _ (Aft.refl R) (by rw[BU v];exact cK)⟩
 |bl j=>
  cases a with
  |bl i=>
   simp[isB] at e;obtain⟨rfl,rfl⟩:=e;exact .inr ⟨i,j,v.bls,vb.bls,q m H _ (Aft.refl R) (by simpa[bne] using cK)⟩
  |_=>simp[isB] at e
 |_=>cases a <;> simp[isB] at e
def hU(h:X.A.units+64 < cLine)(o:COp):OpR X (VQ o.op) (rS X.K (aC o)):=by
 cases o with
 |eq=>exact K7 h
 |ne=>exact K8 h
 |lt=>exact fv Pt
 |le=>exact fv Pu
 |gt=>exact fv Pv
 |ge=>exact fv Pw
 |is=>exact Lf
 |isnot=>exact zx
 |isin=>exact Lc h
 |notin=>exact zw h
end
section
variable {X:Cx} {K:Vf} {m:List Addr} {H:Hp} {S:Sto}
abbrev jY:List Key->List D->Key->Option D
 |a::ks,d::ds,k=>if a=k then aa d else jY ks ds k
 |_,_,_=>aD
def xT{k:Key}:∀ {ks:List Key} {b:List D} {vs:List V},VDs K m H b vs->jY ks b k=aa d->∃v,jV (ks.zip vs) k=aa v/\VD K m H d v
 |[],_,_,_,e=>by simp[jY] at e
 |_::_,[],_,_,e=>by simp[jY] at e
 |a::ks,d'::b,vs,h,e=>by
  rw[VDs] at h;obtain⟨y,r,rfl,p,q⟩:=h;rw[jY] at e;rw[Y6];split at e
  ·rename_i z;cases e;exact⟨y,jh (p:=(a,y)) z,p⟩
  ·rename_i z;rw[ji (p:=(a,y)) z];exact xT q e
abbrev ixD(d:D)(k:Int)(S:Sto):Option (D × Sto):=match d with
 | .ref n=>(match S[n]? with
  |some (.dic ks ds)=>(jY ks ds (.inl k)).map λx=>(x,S)
  | _=>aD)
 |_=>aD
def BV{k:Int}(e:ixD a k S=aa (d,f)):∃n ks b,a = .ref n/\S[n]?=aa (.dic ks b)/\jY ks b (.inl k)=aa d/\f=S:=by
 unfold ixD at e;split at e
 ·rename_i n;split at e
  ·rename_i ks b c;cases h:jY ks b (.inl k) with
   |none=>rw[h] at e;cases e
   |some x=>rw[h] at e;cases e;exact⟨n,ks,b,rfl,c,h,rfl⟩
  ·cases e
 ·cases e
abbrev ixS(d i:D)(S:Sto):Option (D × Sto):=match i with
 | .int k=>(match d with
  |.str z=>if z.length<=100000 then (atI z.cps.toList k).map λc=>(.str ⟨#[c]⟩,S) else aD
  | d=>(match av d S with
   |some (_,ds)=>(atI ds k).map λx=>(x,S)
   | none=>ixD d k S))
 |_=>aD
def Lg{k:Int}(h:VDs K m H c vs)(e:atI c k=aa d):∃v,atI vs k=aa v/\VD K m H d v:=by
 unfold atI at e ⊢;rw[<-h.length];cases b:ixN c.length k with
 |none=>rw[b] at e;cases e
 |some j=>
  rw[b] at e;exact h.get e
def BW{k:Int}(c:SqB K tu H a vs)(vd:VDs K m H f vs)(e:atI f k=aa d)(q:∀v,VD K m H d v->Q v H):rIx K (.ref a) (.int k) H Q:=by
 obtain⟨v,E,b⟩:=Lg vd e;cases tu with
 |false=>exact .inl ⟨a,vs,k,v,rfl,rfl,c,E,q v b⟩
 |true=>exact .inr (.inl ⟨a,vs,k,v,rfl,rfl,.of c,E,q v b⟩)
def Su(hu:X.A.units+64 < cLine):IxR X (rS X.K ixS):=by
 intro j f o s L H x y v u Q I rx Z h hs;obtain⟨m,S,a,b,d,S',R,U,vb,e,q⟩:=h;cases b with
 |int k=>
  have J:ixD a k S=aa (d,S')->wpAny (model X.prog X.w) X.A (subscriptTail j f v u) (EP X o L Q) X.xe s:=λe=>by
   obtain⟨n,ks,ds,rfl,hn,hv,rfl⟩:=BV e;obtain⟨p,hp,vs,hH,hl,B⟩:=R.ob n _ hn;obtain⟨p',E,rfl⟩:=U.refs;rw[hp] at E;cases E;obtain⟨w,hw,vw⟩:=xT B hv;cases rx;have g:Fp H p y (aa w):=by rw[<-hw,show y=kV (.inl k) from vb.ints];exact Fp.k hH
   exact tail_any (sK I g) PySem.F.slot_dict_getitem.lookup (zk (show X.A.units+1 < cLine by lia) I g Z λw' s' I' T=>⟨w,H,I',T,q m H _ (Aft.refl R) vw⟩) hs
  have fin:rIx X.K x (.int k) H Q->wpAny (model X.prog X.w) X.A (subscriptTail j f v u) (EP X o L Q) X.xe s:=λh=>by
   refine Bj j f o s L H x y v u Q I rx Z ?_ hs;rw[vb.ints];exact h
  have main:∀r,av a S=aa r->(atI r.2 k).map (λx=>(x,S))=aa (d,S')->rIx X.K x (.int k) H Q:=by
   intro r C e;cases Y:atI r.2 k with
   |none=>rw[Y] at e;cases e
   |some z=>
    rw[Y] at e;cases e;obtain⟨p,vs,rfl,sq,B⟩:=e8 (tu:=r.1) (ds:=r.2) R U C;exact BW sq B Y λv vv=>q m H v (Aft.refl R) vv
  cases a with
  |str z=>
   simp only[ixS] at e;split at e
   ·rename_i hl;cases O:atI z.cps.toList k with
    |none=>rw[O] at e;cases e
    |some c=>
     rw[O] at e;cases e;exact fin (.inr (.inr ⟨z,k,c,U.strs,rfl,by rw[Ue];lia,O,q m H _ (Aft.refl R) mZ⟩))
   ·cases e
  |tup ds=>exact fin (main (aN,ds) rfl e)
  |ref n=>
   simp only[ixS] at e;cases C:av (.ref n) S with
   |none=>rw[C] at e;exact J e
   |some r=>rw[C] at e;exact fin (main r C e)
  |_=>simp[ixS,av,ixD] at e
 |_=>simp[ixS] at e
abbrev vo(x:XA)(y:XE):XE:=λb S=>bnd (x b S) λc f=>bnd (y b f) λi g=>match i with
 |.int k=>(atI c k).map λd=>(d,g)
 |_=>aD
def Lh(h:tE K (vo x y) p H Q):tOp (rIx K) (eZ K x) (tE K y) p H Q:=by
 obtain⟨m,o,S,d,Z,E,R,e,q⟩:=h;obtain⟨j,g,u,e⟩:=aj e;obtain⟨i,L,I,e⟩:=aj e;refine⟨m,o,S,j,g,E,R,u,λm1 U a C b J B Y n3 vd=>⟨m1,o,g,i,L,E.mono R b.ext,b.rel,I,λT n w c vb=>?_⟩⟩;cases i with
 |int k=>
  cases vb.ints;dsimp only at e;cases f:atI j k with
  |none=>rw[f] at e;cases e
  |some z=>
   rw[f] at e;cases e;exact BW (tu:=false) (show SqL K n a C from SqL.of (c.ext.keep _ _ J B)) (vd.mono b.rel c.ext) f λv O=>q T n v (b.trans c) O
 |_=>cases e
abbrev il(b:List D)(lo h:Option Int):List D:=(b.drop (HT.sIx b.length 0 lo)).take (HT.sIx b.length b.length h - HT.sIx b.length 0 lo)
def vp(h:VDs K m H c vs)(lo b:Option Int):VDs K m H (il c lo b) (mL vs lo b):=by
 unfold il mL;rw[<-h.length];exact(h.drop _).take _
abbrev slS(lo h:Option Int)(d:D)(S:Sto):Option (D × Sto):=match d with
 |.tup b=>aa (.tup (il b lo h),S)
 | .ref n=>(match aP S n with
  |some b=>aa (.ref S.length,S++[.lst (il b lo h)])
  | none=>aD)
 |_=>aD
abbrev rSl(K:Vf):V->Option Int->Option Int->Hp->VK->Prop:=λv lo f H Q=>∃m S a d c,Rel K m S H/\VD K m H a v/\slS lo f a S=aa (d,c)/\∀b h u,Aft K m H c b h->VD K b h d u->Q u h
def vq{vs:List V}{lo b:Option Int}(h:HT.sIx vs.length 0 lo=0/\HT.sIx vs.length vs.length b=vs.length):mL vs lo b=vs:=by
 unfold mL;rw[h.1,h.2];simp
def Sv:SlR X (rSl X.K):=by
 intro c s z H x v O B lo g sl Q I L hs pl T h;refine(SlR.or FA Fj) c s z H x v O B lo g sl Q I L hs pl T ?_;obtain⟨m,S,a,d,Y,R,y,e,q⟩:=h;cases a with
 |tup J=>
  cases e;obtain⟨p,o,rfl,j,b⟩:=y.tups;refine .inl ⟨p,o,rfl,.of j,λC=>?_,λ_=>lK R (vp b lo g) q⟩;have:=vp b lo g;rw[vq C] at this;exact q m H _ (Aft.refl R) (re j this)
 |ref n=>
  simp only[slS] at e;cases u:aP S n with
  |none=>rw[u] at e;cases e
  |some J=>
   rw[u] at e;cases e;obtain⟨p,o,E,j,b⟩:=R.seq u;obtain⟨U,f,rfl⟩:=y.refs;rw[E] at f;cases f;exact .inr ⟨p,o,rfl,j,lP R (vp b lo g) q⟩
 |_=>cases e
@[inline]abbrev XO:=Rho->Sto->Option (Option Int × Sto)
abbrev tOI(K:Vf)(x:XO):TO:=λf H Q=>∃m b S o c,EnvR K m H b f/\Rel K m S H/\x b S=aa (o,c)/\∀g h,Aft K m H c g h->Q o h
abbrev vt:XO:=λ_ S=>aa (aD,S)
abbrev vA(x:XE):XO:=λc S=>bnd (x c S) λd b=>match d with
 |.int i=>aa (aa i,b)
 |_=>aD
def FO(h:tOI K vt b H Q):xu b H Q:=by
 obtain⟨m,c,S,o,f,E,R,e,q⟩:=h;cases e;exact q m H (Aft.refl R)
def FP(h:tOI K (vA x) b H Q):Jj (tE K x) b H Q:=by
 obtain⟨m,f,S,o,p,E,R,e,q⟩:=h;obtain⟨d,g,c,e⟩:=aj e;refine⟨m,f,S,d,g,E,R,c,λm1 j v n vd=>?_⟩;cases d with
 |int i=>cases e;exact⟨i,vd.ints,q m1 j n⟩
 |_=>cases e
def PO.imp(h:PO X e t)(f:∀b H Q,t' b H Q->t b H Q):PO X e t':=λp s b H Q I q=>h p s b H Q I (f b H Q q)
abbrev xSl(x:XE)(lo f:XO):XE:=λb S=>bnd (x b S) λd g=>bnd (lo b g) λl j=>bnd (f b j) λh c=>slS l h d c
def PR{x:XE}{lo n:XO}{j:L2.St}{H:Hp}{Q:VK}(h:tE K (xSl x lo n) j H Q):tSl (rSl K) (tE K x) (tOI K lo) (tOI K n) j H Q:=by
 obtain⟨m,g,S,d,U,E,R,e,q⟩:=h;obtain⟨a,o,z,e⟩:=aj e;obtain⟨l,y,O,e⟩:=aj e;obtain⟨u,p,B,e⟩:=aj e;refine⟨m,g,S,a,o,E,R,z,λm1 H1 v b vd=>⟨m1,g,o,l,y,E.mono R b.ext,b.rel,O,λT Z c=>⟨T,g,y,u,p,E.mono R (b.trans c).ext,c.rel,B,λL Y f=>?_⟩⟩⟩;exact⟨L,p,a,d,U,f.rel,vd.mono b.rel (c.trans f).ext,e,λm4 J w I C=>q m4 J w (((b.trans c).trans f).trans I) C⟩
abbrev jZ(d:D)(S:Sto):Option (Bool × Sto):=match d with
 |.non=>aa (aT,S)
 |.bl b=>aa (b,S)
 |.int i=>aa (i != 0,S)
 |.str y=>if y.length<=100000 then aa ((y.length:Int) != 0,S) else aD
 |.tup c=>aa (!c.isEmpty,S)
 | .ref n=>(match aP S n with
  |some c=>aa (!c.isEmpty,S)
  | none=>aD)
def m8(h:VDs K m H b vs):b.isEmpty=vs.isEmpty:=by
 have:=h.length;cases b <;> cases vs <;> simp at this ⊢
def Li(R:Rel K m S H)(vd:VD K m H d v)(e:jZ d S=aa (b,u)):u=S/\Fc K v H b:=by
 cases d with
 |non=>cases e;cases vd.nons;exact⟨rfl,rfl⟩
 |bl _=>cases e;cases vd.bls;exact⟨rfl,rfl⟩
 |int _=>cases e;cases vd.ints;exact⟨rfl,rfl⟩
 |str y=>
  simp only[jZ] at e;split at e
  ·rename_i B;cases e;cases vd.strs;exact⟨rfl,by rw[Ue];lia,rfl⟩
  ·cases e
 |tup q=>
  cases e;obtain⟨a,f,rfl,g,c⟩:=vd.tups;exact⟨rfl,.inr (.inl ⟨f,.of g,by rw[m8 c]⟩)⟩
 |ref n=>
  simp only[jZ] at e;cases j:aP S n with
  |none=>rw[j] at e;cases e
  |some q=>
   rw[j] at e;cases e;obtain⟨p,f,o,g,c⟩:=R.seq j;obtain⟨z,h,rfl⟩:=vd.refs;rw[o] at h;cases h;exact⟨rfl,.inl ⟨f,g,by rw[m8 c]⟩⟩
abbrev FQ(x:XE):XT:=λc S=>bnd (x c S) λd b=>jZ d b
def Lj(h:tT K (FQ x) f H Q):(tE K x) f H λv H'=>∃k,Fc K v H' k/\Q k H':=by
 obtain⟨m,j,S,b,p,E,R,e,q⟩:=h;obtain⟨d,n,g,e⟩:=aj e;refine⟨m,j,S,d,n,E,R,g,λm1 o v c vd=>?_⟩;obtain⟨rfl,t⟩:=Li c.rel vd e;exact⟨b,t,q m1 o c⟩
abbrev xB(x:XE):XT:=λf S=>bnd (x f S) λd c=>match d with
 |.bl b=>aa (b,c)
 |_=>aD
def PU(h:tT K (xB x) c H Q):(tE K x) c H λv H'=>∃k,v = .bl k/\Q k H':=by
 obtain⟨m,g,S,b,p,E,R,e,q⟩:=h;obtain⟨d,j,f,e⟩:=aj e;refine⟨m,g,S,d,j,E,R,f,λm1 o v n vd=>?_⟩;cases d with
 |bl k=>cases e;exact⟨b,vd.bls,q m1 o n⟩
 |_=>cases e
abbrev b7(_:Bool)(b:List D)(S:Sto):Option (D × Sto):=aa (.int b.length,S)
abbrev j3(_:Bool)(b:List D)(S:Sto):Option (D × Sto):=aa (.tup b,S)
abbrev zy:D->Bool
 |.bl _=>aN
 |_=>aT
abbrev o8:D->Bool
 |.bl b=>b
 |_=>aT
abbrev lI(T:Bool)(b:List D)(S:Sto):Option (D × Sto):=if T=aT/\b.all zy=aN then aa (.bl (b.all o8),S) else aD
abbrev o9(T:Bool)(b:List D)(S:Sto):Option (D × Sto):=if T=aT/\b.all zy=aN then aa (.bl (b.any o8),S) else aD
abbrev r1(r:V->Hp->VK->Prop):List V->Hp->VK->Prop
 |[x],H,Q=>r x H Q
 |_,_,_=>False
def c9(h:r1 r xs H Q):∃x,xs=[x]/\r x H Q:=by
 match xs,h with
 |[x],h=>exact⟨x,rfl,h⟩
def zz:aV X (.builtin "len") (r1 (rSq X.K b7)):=by
 refine aV.imp qS λxs H Q h=>?_;obtain⟨_,rfl,m,S,T,c,a,v,d,f,R,rfl,b,vd,e,q⟩:=c9 h;cases e;exact⟨a,v,rfl,m7 b,q m H _ (Aft.refl R) (by rw[vd.length];exact bx)⟩
def zA:aV X (.type "tuple") (r1 (rSq X.K j3)):=by
 refine aV.imp o6 λxs H Q h=>?_;obtain⟨_,rfl,m,S,T,c,a,v,d,f,R,rfl,b,vd,e,q⟩:=c9 h;cases e;cases T with
 |false=>exact⟨a,v,rfl,.inl ⟨b,lK R vd q⟩⟩
 |true=>exact⟨a,v,rfl,.inr ⟨.of b,q m H _ (Aft.refl R) (re b vd)⟩⟩
def vB:∀ {c:List D} {vs:List V},VDs K m H c vs->c.all zy=aN->vs=(c.map o8).map V.bl
 |[],vs,h,_=>by rw[VDs] at h;rw[h];rfl
 |d::c,vs,h,f=>by
  rw[VDs] at h;obtain⟨x,r,rfl,p,q⟩:=h;rw[Yo,bAE] at f;cases d with
  |bl b=>rw[p.bls,vB q f.2];rfl
  |_=>simp[zy] at f
def Lk(b:List D):(b.map o8).all id=b.all o8:=by rw[Yz];rfl
def Ll(b:List D):(b.map o8).any id=b.any o8:=by rw[X6];rfl
def zB(c:X.calm=aN):aV X (.builtin "all") (r1 (rSq X.K lI)):=by
 refine aV.imp (zp c) λxs H Q h=>?_;obtain⟨_,rfl,m,S,T,f,a,v,d,j,R,rfl,g,vd,e,q⟩:=c9 h;unfold lI at e;split at e
 ·rename_i b;cases e;obtain⟨rfl,b⟩:=b;refine⟨a,f.map o8,rfl,?_,q m H _ (Aft.refl R) (by rw[Lk];exact cK)⟩;rw[<-vB vd b];exact g
 ·cases e
def zC(c:X.calm=aN):aV X (.builtin "any") (r1 (rSq X.K o9)):=by
 refine aV.imp (zq c) λxs H Q h=>?_;obtain⟨_,rfl,m,S,T,f,a,v,d,j,R,rfl,g,vd,e,q⟩:=c9 h;unfold o9 at e;split at e
 ·rename_i b;cases e;obtain⟨rfl,b⟩:=b;refine⟨a,f.map o8,rfl,?_,q m H _ (Aft.refl R) (by rw[Ll];exact cK)⟩;rw[<-vB vd b];exact g
 ·cases e
abbrev rTm(K:Vf)(f:Bool->List D->Option (List D)):V->Hp->VK->Prop:=λv H Q=>∃m S T n a g E,Rel K m S H/\v = .ref a/\SqB K T H a g/\VDs K m H n g/\f T n=aa E ∧
 ∀c h p j,Aft K m H S c h->h p=aa (.lst j)->p ∉ c->(∀b,b ∈ m->b ≠ p)->H p=aD->VDs K c h E j->Q (.ref p) h
def m9:aV X (.type "list") (r1 (rTm X.K λ_ b=>aa b)):=by
 refine aV.imp qT λxs H Q h=>?_;obtain⟨_,rfl,m,S,T,b,a,v,E,R,rfl,c,vd,e,q⟩:=c9 h;cases e;exact⟨a,v,rfl,m7 c,lQ R vd q⟩
abbrev BX:D->D->Sto->Option (D × Sto)
 |.int i,.int j,S=>aa (.int (if j > i then j else i),S)
 |_,_,_=>aD
abbrev BZ:D->D->Sto->Option (D × Sto)
 |.int i,.int j,S=>aa (.int (if j < i then j else i),S)
 |_,_,_=>aD
abbrev two(f:D->D->Sto->Option (D × Sto)):List D->Sto->Option (D × Sto)
 |[a,b],S=>f a b S
 |_,_=>aD
def vC(h:VDs K m H [a,b] vs):∃v w,vs=[v,w]/\VD K m H a v/\VD K m H b w:=by
 rw[VDs] at h;obtain⟨v,r,rfl,p,q⟩:=h;rw[VDs] at q;obtain⟨w,f,rfl,c,Q⟩:=q;rw[VDs] at Q;subst Q;exact⟨v,w,rfl,p,c⟩
def Lm(h:VDs K m H [a] vs):∃v,vs=[v]/\VD K m H a v:=by
 rw[VDs] at h;obtain⟨v,r,rfl,p,q⟩:=h;rw[VDs] at q;subst q;exact⟨v,rfl,p⟩
def tz(h:two f c S=aa r):∃a b,c=[a,b]/\f a b S=aa r:=by
 match c,h with
 |[a,b],h=>exact⟨a,b,rfl,h⟩
def vD(f:X.calm=aN):aV X (.builtin "max") (rSA X.K (two BX)):=by
 refine aV.imp (y8 f) λxs H Q h=>?_;obtain⟨m,S,g,d,j,R,vd,e,q⟩:=h;obtain⟨a,b,rfl,E⟩:=tz e;obtain⟨v,w,rfl,p,c⟩:=vC vd;cases a <;> cases b <;> simp[BX] at E;obtain⟨rfl,rfl⟩:=E;exact⟨_,_,by rw[p.ints,c.ints],q m H _ (Aft.refl R) bx⟩
def vE(f:X.calm=aN):aV X (.builtin "min") (rSA X.K (two BZ)):=by
 refine aV.imp (y9 f) λxs H Q h=>?_;obtain⟨m,S,g,d,j,R,vd,e,q⟩:=h;obtain⟨a,b,rfl,E⟩:=tz e;obtain⟨v,w,rfl,p,c⟩:=vC vd;cases a <;> cases b <;> simp[BZ] at E;obtain⟨rfl,rfl⟩:=E;exact⟨_,_,by rw[p.ints,c.ints],q m H _ (Aft.refl R) bx⟩
inductive Ty where |int |bool |tuple |list |str
abbrev Ty.nm:Ty->String
 |.int => "int" |.bool => "bool" |.tuple => "tuple" |.list => "list" |.str => "str"
abbrev tyN(d:D)(S:Sto):Option String:=match d with
 |.non=>aa "NoneType" |.bl _=>aa "bool" |.int _=>aa "int" |.str _=>aa "str" |.tup _=>aa "tuple"
 | .ref n=>(match S[n]? with
  |some (.lst _)=>aa "list"
  |some (.frz _)=>aa "list"
  |some (.dic _ _)=>aa "dict"
  | none=>aD)
abbrev dU(t:Ty)(n:String):Bool:=n == t.nm || (match t with |.int=>n == "bool" |_=>aT)
abbrev nc(t:Ty)(d:D)(S:Sto):Option (D × Sto):=(tyN d S).map λn=>(.bl (dU t n),S)
def FR(K:Vf)(t:Ty):(Vt K (.type "NoneType") (.type t.nm)=aa (dU t "NoneType"))/\(Vt K (.type "bool") (.type t.nm)=aa (dU t "bool"))/\(Vt K (.type "int") (.type t.nm)=aa (dU t "int")) ∧
  (Vt K (.type "str") (.type t.nm)=aa (dU t "str"))/\(Vt K (.type "tuple") (.type t.nm)=aa (dU t "tuple"))/\(Vt K (.type "list") (.type t.nm)=aa (dU t "list"))/\(Vt K (.type "dict") (.type t.nm)=aa (dU t "dict")):=by
 cases t <;> exact⟨by kernel_rfl,by kernel_rfl,by kernel_rfl,by kernel_rfl,by kernel_rfl,by kernel_rfl,by kernel_rfl⟩
def PV(R:Rel K m S H)(vd:VD K m H d v)(e:tyN d S=aa n):TyOf K H v (.type n):=by
 cases d with
 |non=>cases e;cases vd.nons;exact .non
 |bl _=>cases e;cases vd.bls;exact .bl _
 |int _=>cases e;cases vd.ints;exact .int _
 |str _=>cases e;cases vd.strs;exact .str _
 |tup f=>cases e;obtain⟨a,c,rfl,p,_⟩:=vd.tups;exact .tup p
 |ref k=>
  simp only[tyN] at e;obtain⟨a,j,rfl⟩:=vd.refs;cases g:S[k]? with
  |none=>rw[g] at e;cases e
  |some o=>
   rw[g] at e;obtain⟨q,b,r⟩:=R.ob k o g;rw[j] at b;cases b;cases o with
   |lst f=>cases e;obtain⟨c,h,_⟩:=r;exact .lst h
   |frz f=>cases e;obtain⟨o,c,h,_⟩:=r;exact .frz h
   |dic u f=>cases e;obtain⟨c,h,_⟩:=r;exact .dK h
def B0(e:tyN d S=aa n):n = "NoneType"\/n = "bool"\/n = "int"\/n = "str"\/n = "tuple"\/n = "list"\/n = "dict" := by
 cases d with
 |ref k=>
  simp only[tyN] at e;cases h:S[k]? with
  |none=>rw[h] at e;cases e
  |some o=>rw[h] at e;cases o <;> cases e <;> simp
 |_=>cases e <;> simp
def Ln(K:Vf)(t:Ty)(h:n = "NoneType"\/n = "bool"\/n = "int"\/n = "str"\/n = "tuple"\/n = "list"\/n = "dict"):Vt K (.type n) (.type t.nm)=aa (dU t n):=by
 obtain⟨a,b,c,d,e,f,g⟩:=FR K t;rcases h with rfl |rfl |rfl |rfl |rfl |rfl |rfl <;> assumption
abbrev PY(K:Vf)(t:Ty)(T:TE):TE:=tCB (Jp K) (dQ T (dQ (tC (.ty t.nm)) mG))
def FS(h:tE K (xUn (nc t) x) g H Q):PY K t (tE K x) g H Q:=by
 obtain⟨m,p,S,d,y,E,R,e,q⟩:=h;obtain⟨a,c,j,e⟩:=aj e;refine⟨m,p,S,a,c,E,R,j,λm1 u v f o=>?_⟩;unfold nc at e;cases b:tyN a c with
 |none=>rw[b] at e;cases e
 |some n=>
  rw[b] at e;cases e;exact⟨v,t.nm,_,_,rfl,PV f.rel o b,Ln K t (B0 b),q m1 u _ f cK⟩
end
end Ev
namespace Ev
open PySem PySem.Spec PyProof.Rows L2
open PySem.W (KasT kas_sort kas_asc kas_desc kas_tail3 kas_descPart kas_count kas_place kas_bin kas_rev kas_ask KatTups)
abbrev fA{b:Type}(lt:Nat->Nat->Bool):KasT b->b
 |.ret a=>a
 |.ask i j k=>fA lt (k (lt i j))
abbrev KT{c:Type}(n:Nat)(P:c->Prop):KasT c->Prop
 |.ret a=>P a
 |.ask i j k=>i < n/\j < n/\∀b,KT n P (k b)
def KT.bind{c g:Type}{n:Nat}{P:c->Prop}{R:g->Prop}{f:c->KasT g}(o:∀a,P a->KT n R (f a)):∀ {t:KasT c},KT n P t->KT n R (t.bind f)
 |.ret a,h=>o a h
 |.ask i j k,h=>⟨h.1,h.2.1,λb=>KT.bind o (h.2.2 b)⟩
def KT.run{b:Type}{n:Nat}{P:b->Prop}{lt:Nat->Nat->Bool}:∀ {t:KasT b},KT n P t->P (fA lt t)
 |.ret a,h=>h
 |.ask i j k,h=>KT.run (t:=k (lt i j)) (h.2.2 (lt i j))
def tD{b:Type}{n:Nat}{P:b->Prop}{lt:Nat->Nat->Bool}{cmp:Nat->Nat->(Bool->Shared->Prop)->Shared->Prop}{s:Shared}(c:∀i j,i < n->j < n->∀C:Bool->Shared->Prop,C (lt i j) s->cmp i j C s){Q:b->Shared->Prop} :
  ∀ {t:KasT b},KT n P t->Q (fA lt t) s->t.kasWp cmp Q s
 |.ret a,_,q=>q
 |.ask i j k,h,q=>c i j h.1 h.2.1 _ (tD c (h.2.2 (lt i j)) q)
abbrev Pm(n:Nat)(p:Array Nat):Prop:=p.Perm (Xq (Ze n))
def Pm.at{n i:Nat}(h:Pm n p)(f:0 < n):p.getD i 0 < n:=by
 by_cases b:i < p.size
 ·have e:p.getD i 0=p[i]:=by simp[Array.getD,b]
  rw[e];have c:p[i] ∈ p:=Array.getElem_mem b;have:=h.mem_iff.mp c
  simpa using this
 ·have e:p.getD i 0=0:=by simp[Array.getD,b]
  omega
def Pm.rev{n i j:Nat}(h:Pm n p):Pm n (kas_rev p i j):=(mirror_perm p i j _).trans h
def vF{n:Nat}(h:Pm n p)(c:0 < n):∀f m,KT n (λ_=>True) (kas_asc p f m)
 |0,_=>trivial
 | f+1,m=>⟨h.at c,h.at c,λb=>by
  cases b with
  |true=>exact trivial
  | false=>exact vF h c f (m+1)⟩
def lV{n:Nat}(c:0 < n):∀f (p:Array Nat) m q,Pm n p->KT n (λr:Array Nat × Nat × Nat=>Pm n r.1) (kas_desc f p m q)
 |0,p,m,q,h=>h
 | f+1,p,m,q,h=>⟨h.at c,h.at c,λb=>by
  cases b with
  |true=>
   show KT n _ (if q > 0 then kas_desc f (kas_rev p (m - (q+1)) m) (m+1) 0 else kas_desc f p (m+1) 0);split
   ·exact lV c f _ _ _ h.rev
   ·exact lV c f _ _ _ h
  | false=>exact⟨h.at c,h.at c,λd=>by
   cases d with
   |true=>exact h
   | false=>exact lV c f _ _ _ h⟩⟩
def tF{n:Nat}{p:Array Nat}(b:0 < n)(h:Pm n p)(m r:Nat):KT n (λr:Nat × Array Nat=>Pm n r.2) (kas_tail3 m r p):=KT.bind (P:=λ_=>True) (f:=λm=>KasT.ret (m,kas_rev p 0 _)) (λ_ _=>(show KT n (λr:Nat × Array Nat=>Pm n r.2) (KasT.ret (_,kas_rev p 0 _)) from h.rev)) (vF h.rev b _ _)
def kF{n:Nat}{p:Array Nat}(b:0 < n)(h:Pm n p)(m r:Nat):KT n (λr:Nat × Array Nat=>Pm n r.2) (kas_descPart m r p):=KT.bind (λa c=>by
 show KT n _ (if a.2.2 > 0 then _ else _);split
 ·exact tF b (Pm.rev c) _ _
 ·exact tF b c _ _) (lV b _ _ _ _ h)
def B1{n:Nat}{p:Array Nat}(c:0 < n)(h:Pm n p)(r:Nat):KT n (λr:Nat × Array Nat=>Pm n r.2) (kas_count r p):=KT.bind (λa _=>by
 show KT n _ (if (a == r)=aN then _ else if a > 1 then _ else _);split
 ·exact h
 ·split
  ·exact⟨h.at c,h.at c,λb=>by
    cases b with
    |true=>exact h
    | false=>exact kF c h.rev _ _⟩
  ·exact kF c h _ _) (vF h c _ _)
def ng{n:Nat}{p:Array Nat}(c:0 < n)(h:Pm n p)(m:Nat):∀f l r,KT n (λ_=>True) (kas_place p m f l r)
 |0,_,_=>trivial
 |f+1,l,r=>by
  show KT n _ (if l ≥ r then _ else _);split
  ·exact trivial
  ·exact⟨h.at c,h.at c,λb=>by
    cases b with
    |true=>exact ng c h m f _ _
    | false=>exact ng c h m f _ _⟩
def B2{n:Nat}(b:0 < n):∀f (p:Array Nat) m,Pm n p->KT n (Pm n) (kas_bin f p m)
 |0,p,_,h=>h
 |f+1,p,m,h=>KT.bind (λl _=>B2 b f _ _ ((bubble_perm p m _).trans h)) (ng b h m _ _ _)
def rf{n:Nat}(b:0 < n):KT n (Pm n) (kas_sort n):=KT.bind (λr h=>by
 show KT n _ (if r.1 < n then _ else _);split
 ·exact B2 b _ _ _ h
 ·exact h) (B1 b (Array.Perm.refl _) n)
section
variable {prog:Program} {w:World} {A:Around} {E:Value->Shared->Prop} {s:Shared}
def rh{a:Addr}{vs:List Value}{n:Nat}{P:PySem.Fin->Shared->Prop}(y:s.heap.get? a=aa (seqObj "list" vs.toArray n))(I:vs.length < 64)(J:SortKind)(lt:Nat->Nat->Bool)
  (hk:2<=vs.length->∀ (Q:SortKind->Shared->Prop),Q J { s with heap:=((s.heap.update a (Obj.mapSeq λ_=>#[])).push (seqObj "tuple" vs.toArray 0)).push (seqObj "list" #[] 0) }->wpAny (model prog w) A (keyKind' vs.toArray) Q E { s with heap:=((s.heap.update a (Obj.mapSeq λ_=>#[])).push (seqObj "tuple" vs.toArray 0)).push (seqObj "list" #[] 0) })
  (O:∀i j,i < vs.length->j < vs.length->∀C:Bool->Shared->Prop,C (lt i j) { s with heap:=((s.heap.update a (Obj.mapSeq λ_=>#[])).push (seqObj "tuple" vs.toArray 0)).push (seqObj "list" #[] 0) } ->
   kas_ask prog w A J vs i j C { s with heap:=((s.heap.update a (Obj.mapSeq λ_=>#[])).push (seqObj "tuple" vs.toArray 0)).push (seqObj "list" #[] 0) })
  (h:P (.done (.ret .none)) { s with heap:=sortedHeap s.heap a vs (if vs.length < 2 then vs.toArray else Xq ((fA lt (kas_sort vs.length)).toList.map λi=>vs.getD i Value.none)) }) :
  wpAny (model prog w) A (Builtin.«list.sort» ⟨[.ref a],[]⟩) P E s:=by
 rw[list_sort_plain];have U:a < s.heap.objs.size:=Zt y;refine Ut (listItems_at y rfl ?_);refine Ut (listUpdate_at y rfl ?_);obtain⟨z,u⟩:∃z,(s.heap.update a (Obj.mapSeq λ_=>#[])).get? a=aa (seqObj "list" #[] z):=⟨_,get?_update_seq y (λ_=>#[])⟩;refine Ut (seqEpoch_at u rfl ?_);refine Ut (wpAny_newTuple ?_);refine Ut (wpAny_newList ?_);refine UC ?_
 have c:(((s.heap.update a (Obj.mapSeq λ_=>#[])).push (seqObj "tuple" vs.toArray 0)).push (seqObj "list" #[] 0)).get? a=aa (seqObj "list" #[] z):=by
  rw[X7 _ _ _ (by rw[size_push',Xm];exact ZF (Xe U)),X7 _ _ _ (by rw[Xm];exact ZF U)];exact u
 show wpAny (model prog w) A _ P E { s with heap:=((s.heap.update a (Obj.mapSeq λ_=>#[])).push (seqObj "tuple" vs.toArray 0)).push (seqObj "list" #[] 0) };dsimp only;have T:vs.toArray.size=vs.length:=by simp
 by_cases f:vs.toArray.size < 2
 ·rw[if_pos f,if_pos f];refine Ut (UL ?_);rw[StateT.run_pure];refine Ut (UL ?_);dsimp only;refine Ut (seqEpoch_at c rfl ?_);refine Ut (listUpdate_at c rfl ?_ (hsz2:=by rw[Array.size_map];show(pairsOf vs).size<=_;rw[pairsOf_size,Ue];omega));simp only[bne_self_eq_false,Yl,if_false];rw[if_pos (by rw[<-T];exact f)] at h
  have e:Array.map (λx:Keyed=>x.2) (vs.toArray.zip vs.toArray)=vs.toArray:=by
   apply Array.toList_inj.mp;rw[Array.toList_map,Array.toList_zip,List.map_snd_zip (by simp)]
  refine UL ?_;show P _ { s with heap:=sortedHeap s.heap a vs (Array.map (λx:Keyed=>x.2) (vs.toArray.zip vs.toArray)) };rw[e];exact h
 ·have o:2<=vs.length:=by omega
  rw[if_neg f,if_neg f];rw[if_neg (by omega)] at h;refine Ut (hk o _ ?_)
  refine Ut (UH (PySem.W.kat_run (κ:=J) (ks:=vs) (Q:=λb q=>q={ s with heap:=((s.heap.update a (Obj.mapSeq λ_=>#[])).push (seqObj "tuple" vs.toArray 0)).push (seqObj "list" #[] 0) }/\arrOf b=(fA lt (kas_sort vs.length)).map (PySem.W.kas_item (vs.toArray.zip vs.toArray))/\(fA lt (kas_sort vs.length)).size=vs.length/\failedOf b=aD)
   (G:=λp q=>q={ s with heap:=((s.heap.update a (Obj.mapSeq λ_=>#[])).push (seqObj "tuple" vs.toArray 0)).push (seqObj "list" #[] 0) }/\p=fA lt (kas_sort vs.length)) rfl o I (λp b q X Z Y L=>⟨L.1,L.2 ▸ Z,L.2 ▸ X,Y⟩) (tD O (rf (by omega)) ⟨rfl,rfl⟩)) ?_ λ_ _ e=>e)
  rintro⟨⟨⟩,b⟩ q ⟨rfl,B,v,hf⟩;dsimp only;have g:=PySem.W.kat_snds rfl B;refine Ut (seqEpoch_at c rfl ?_);rw[g];refine Ut (listUpdate_at c rfl ?_ (hsz2:=by rw[Zm,Za,ZR,v,Ue];omega));rw[hf];simp only[bne_self_eq_false,Yl,if_false];exact UL h
end
section
variable {prog:Program} {w:World} {A:Around} {E:Value->Shared->Prop} {s:Shared}
def zD(I:s.heap.IsList l vs.toArray)(u:vs.length < 64)(v:SortKind)(lt:Nat->Nat->Bool)
  (L:2<=vs.length->∀ (A:Around) (g:Shared),(∀b o,s.heap.get? b=aa o->g.heap.get? b=aa o)->∀ (E:Value->Shared->Prop) (Q:SortKind->Shared->Prop),Q v g->wpAny (model prog w) A (keyKind' vs.toArray) Q E g)
  (f:∀ (A:Around) (g:Shared),(∀b o,s.heap.get? b=aa o->g.heap.get? b=aa o)->∀i j,i < vs.length->j < vs.length->∀C:Bool->Shared->Prop,C (lt i j) g->kas_ask prog w A v vs i j C g)
  (h:Q (.ref (s.heap.objs.size+1)) { s with heap:=sortedAll s.heap vs (if vs.length < 2 then vs.toArray else Xq ((fA lt (kas_sort vs.length)).toList.map λi=>vs.getD i Value.none)) }) :
  wpAny (model prog w) A (call (.builtin "sorted") [.ref l]) Q E s:=by
 refine Calls.call_function_entry kind_sorted plain_sorted entry_sorted (args_sorted1 _) ?_;unfold Builtin.«sorted»;refine Ut (m:=checkCount "sorted" 1 1 _) (UL ?_);refine Ut (collect_list I ?_);refine Ut (wpAny_newList ?_)
 have p:((s.heap.push (seqObj "list" #[] 0)).update s.heap.objs.size (Obj.mapSeq (·++vs.toArray))).objs.size=s.heap.objs.size+1:=by
  rw[Xm,size_push']
 have n:(((s.heap.push (seqObj "list" #[] 0)).update s.heap.objs.size (Obj.mapSeq (·++vs.toArray))).push (seqObj "list" vs.toArray 0)).get? (s.heap.objs.size+1)=aa (seqObj "list" vs.toArray 0):=by
  rw[<-p];exact ZG _ rfl
 have keep:∀b o,s.heap.get? b=aa o->(((((s.heap.push (seqObj "list" #[] 0)).update s.heap.objs.size (Obj.mapSeq (·++vs.toArray))).push (seqObj "list" vs.toArray 0)).update (s.heap.objs.size+1) (Obj.mapSeq λ_=>#[])).push (seqObj "tuple" vs.toArray 0)).get? b=aa o:=λb o q=>by
  have f:b < s.heap.objs.size:=Zt q;refine Zk _ ?_;rw[XN _ _ _ _ (ZF (Xe f))];refine Zk _ ?_;rw[XN _ _ _ _ (ZF f)];exact Zk _ q
 show wpAny _ _ _ _ _ { s with heap:=((s.heap.push (seqObj "list" #[] 0)).update s.heap.objs.size (Obj.mapSeq (·++vs.toArray))).push (seqObj "list" vs.toArray 0) };rw[p];refine Ut (UC (Uv slot_list_sort ⟨_,n,rfl⟩ entry_list_sort (rh n u v lt (λy Q q=>L y _ _ (λb o z=>Zk _ (keep b o z)) _ Q q) (λi j B J C c=>f _ _ (λb o z=>Zk _ (keep b o z)) i j B J C c) ⟨_,rfl,?_⟩) (args_list_sort _)));exact UL ⟨_,rfl,h⟩
abbrev vG(x y:Int × Int):Bool:=if x.1 == y.1 then (if x.2 == y.2 then aT else decide (x.2 < y.2)) else decide (x.1 < y.1)
def B3{a b c d:Int}{n k:Nat}(o:s.heap.get? x=aa v)(p:v.data = .seq #[.int a T,.int b j] n)(B:s.heap.get? y=aa O)(u:O.data = .seq #[.int c z,.int d q] k)
  (h:C (vG (a,b) (c,d)) s):wpAny (model prog w) A (keyLt' (tuples' aN) (.ref x) (.ref y)) C E s:=by
 refine PySem.W.kat_lt o p B u ?_;show PySem.W.KatLex prog w A aN _ C [(.int a T,.int c z),(.int b j,.int d q)] 0 s;unfold vG at h;refine Ux ?_;cases g:a == c with
 |true=>
  rw[if_pos rfl];simp only[g,if_true] at h;refine Ux ?_;cases f:b == d with
  |true=>rw[if_pos rfl];simp only[f,if_true] at h;exact h
  |false=>
   rw[if_neg Zg];simp only[f,Yl,if_false] at h;exact PySem.W.kat_one _ _ (lt_int h)
 |false=>
  rw[if_neg Zg];simp only[g,Yl,if_false] at h;exact oneLt_int h
end
end Ev
namespace Ev
open PySem PySem.Spec PyProof.Rows L2
open PySem.W (kas_sort KatTups)
section
variable {X:Cx} {K:Vf} {m:List Addr} {H:Hp} {S:Sto}
inductive PairsV(H:Hp):List V->List (Int × Int)->Prop where
 |nil:PairsV H [] []
 |cons {r:Addr} {x y:Int} {vs:List V} {ps:List (Int × Int)}:H r=aa (.tup [.int x,.int y])->PairsV H vs ps->PairsV H (.ref r::vs) ((x,y)::ps)
abbrev pb(ps:List (Int × Int))(i j:Nat):Bool:=vG (ps.getD i (0,0)) (ps.getD j (0,0))
abbrev dA{α:Type}(ps:List (Int × Int))(d:α)(vs:List α):List α:=if vs.length < 2 then vs else (fA (pb ps) (kas_sort vs.length)).toList.map λi=>vs.getD i d
def PairsV.len{vs:List V}{ps:List (Int × Int)}(h:PairsV H vs ps):vs.length=ps.length:=by
 induction h with
 |nil=>rfl
 |cons _ _ I=>simp[I]
abbrev Jq(h:Heap)(v:Value)(q:Int × Int):Prop:=∃r o T b n,v = .ref r/\h.get? r=aa o/\o.cls = .type "tuple"/\o.data = .seq #[.int q.1 T,.int q.2 b] n
def PairsV.heap{p:List (Addr × Obj)}{s:Shared}{g:L2.St}(I:Inv X p g H s){vs:List V}{ps:List (Int × Int)}(h:PairsV H vs ps):∀ {c:List Value},aO vs c->∀ (i:Nat),i < c.length->Jq s.heap (c.getD i Value.none) (ps.getD i (0,0)):=by
 induction h with
 |nil=>intro c r i f;cases r;simp at f
 |@cons r x y vs ps hr _ ih=>
  intro c B i f;cases B with
  |@cons _ u _ us r1 r2=>
   cases i with
   |zero=>
    cases r1;obtain⟨q,j,⟨o,e,z,n,hd⟩,_⟩:=I.tuple (SqT.of (K:=X.K) hr);obtain⟨a,b,rfl,⟨T,rfl⟩,⟨v,rfl⟩⟩:=xq j;exact⟨r,o,T,v,n,rfl,e,z,hd⟩
   |succ i=>
    have:=ih r2 i (by simpa using f)
    simpa using this
def xU{h:Heap}:∀ {its:List Value} {ps:List (Int × Int)},(∀i,i < its.length->Jq h (its.getD i Value.none) (ps.getD i (0,0)))->∃fs:List Value,KatTups h its fs/\fs.length=its.length/\∀v ∈ fs,∃i t,v = .int i t
 |[],_,_=>⟨[],KatTups.nil,rfl,λv g=>by simp at g⟩
 |v::its,ps,hp=>by
  obtain⟨r,o,T,p,n,c,e,f,hd⟩:=hp 0 (by simp)
  obtain⟨fs,k,j,b⟩:=xU (its:=its) (ps:=ps.tail) λi b=>by
   have:=hp (i+1) (by simpa using b);cases ps with
   |nil=>simpa using this
   |cons _ _=>simpa using this
  have E:v = .ref r:=by simpa using c
  subst E
  exact⟨.int (ps.getD 0 (0,0)).1 T::fs,KatTups.cons e f hd rfl k,by simp[j],λw hw=>by
   rcases Zl.mp hw with rfl |hw
   ·exact⟨_,_,rfl⟩
   ·exact b w hw⟩
def FT(r:aO vs I){i:Nat}(h:i < vs.length):aJ (vs.getD i .non) (I.getD i Value.none):=by
 obtain⟨u,e,b⟩:=r.get (gEG h);rw[Z2,Z2,gEG h,e];exact b
def pS{vs:List V}{I:List Value}(r:aO vs I):∀ (l:List Nat),(∀i ∈ l,i < vs.length)->aO (l.map λi=>vs.getD i .non) (l.map λi=>I.getD i Value.none)
 |[],_=>.nil
 |i::l,h=>.cons (FT r (h i Zh)) (pS r l λj b=>h j (Zf _ b))
def rj{n:Nat}{lt:Nat->Nat->Bool}(c:0 < n):(∀i ∈ (fA lt (kas_sort n)).toList,i < n)/\(fA lt (kas_sort n)).toList.length=n:=by
 have h:Pm n (fA lt (kas_sort n)):=(rf c).run;refine⟨λi b=>?_,?_⟩
 ·have:=h.mem_iff.mp (Xz.mp b)
  simpa using this
 ·have:=h.size_eq;rw[ZR,this];simp
def vH{b:Type}{ps:List (Int × Int)}{d:b}{vs:List b}:(dA ps d vs).length=vs.length:=by
 unfold dA;split
 ·rfl
 ·rw[Za,(rj (by lia)).2]
def vI:aV X (.builtin "sorted") (λxs H Q=>∃a vs ps,xs=[.ref a]/\SqL X.K H a vs/\PairsV H vs ps/\vs.length < 64/\∀p,H p=aD->Q (.ref p) (upd H p (.lst (dA ps .non vs)))):=by
 intro O s σ H xs us Q I r h;obtain⟨a,vs,ps,rfl,sq,U,h64,q⟩:=h;obtain⟨u,rfl,ru⟩:=cI r;cases ru;obtain⟨c,y,pl,hz⟩:=I.list sq;have f:=y.length;have J:=U.heap I y;have hl2:=U.len;refine zD pl.isList (by lia) (tuples' aN) (pb ps) (λh2 A B kp E Q' hq=>?_) (λA B kp i j g hj C hC=>?_) ?_
 ·obtain⟨fs,kt,hf,g⟩:=xU (h:=B.heap) λi g=>by
   obtain⟨r,o,Z,Y,n,e1,e2,e3,e4⟩:=J i g;exact⟨r,o,Z,Y,n,e1,kp _ _ e2,e3,e4⟩
  refine PySem.W.kat_kind (T:=.type "int") kt (by lia) (λv L=>?_) (by decide) hq;obtain⟨i,t,rfl⟩:=g v L;exact PySem.W.Looks.of_pure rfl
 ·obtain⟨r1,o1,Z,Y,n1,a1,a2,a3,a4⟩:=J i g;obtain⟨r2,o2,t3,t4,n2,b1,b2,b3,b4⟩:=J j hj;show wpAny _ A (keyLt' (tuples' aN) (c.getD i Value.none) (c.getD j Value.none)) C _ B;rw[a1,b1];exact B3 (kp _ _ a2) a4 (kp _ _ b2) b4 hC
 ·have L:aO (dA ps .non vs) (if c.length < 2 then c else (fA (pb ps) (kas_sort c.length)).toList.map λi=>c.getD i Value.none):=by
   unfold dA;rw[f];split
   ·exact y
   ·exact pS y _ λi g=>by rw[f];exact(rj (by lia)).1 i g
  have eo:(if c.length < 2 then c.toArray else Xq ((fA (pb ps) (kas_sort c.length)).toList.map λi=>c.getD i Value.none))=(if c.length < 2 then c else (fA (pb ps) (kas_sort c.length)).toList.map λi=>c.getD i Value.none).toArray:=by split <;> rfl
  rw[eo];obtain⟨e,he⟩:=sortedAll_at s.heap c (if c.length < 2 then c else (fA (pb ps) (kas_sort c.length)).toList.map λi=>c.getD i Value.none).toArray;exact⟨.ref (s.heap.objs.size+1),_,I.laid (t':=s.toks) (a:=s.heap.objs.size+1) (o:=.lst (dA ps .non vs)) (λb o z=>sortedAll_old z) (YH _) ⟨by rw[vH];exact hz,_,e,L,he⟩,rfl,q _ (I.hok.fresh (YH _))⟩
abbrev vJ(x:Int):List Int->List Int
 |[]=>[x]
 |y::l=>if x<=y then x::y::l else y::vJ x l
abbrev gr:List Int->List Int
 |[]=>[]
 |x::l=>vJ x (gr l)
def j4(x:Int):∀l,(vJ x l).Perm (x::l)
 |[]=>List.Perm.refl _
 |y::l=>by
  unfold vJ;split
  ·exact List.Perm.refl _
  ·exact((j4 x l).cons y).trans (List.Perm.swap x y l)
def cw:∀l,(gr l).Perm l
 |[]=>List.Perm.refl _
 |x::l=>(j4 x (gr l)).trans ((cw l).cons x)
def kG(x:Int):∀l:List Int,l.Pairwise (·<=·)->(vJ x l).Pairwise (·<=·)
 |[],_=>by unfold vJ;simp
 |y::l,h=>by
  unfold vJ;rw[Yc] at h;split
  ·rename_i c;refine Yc.mpr ⟨λz hz=>?_,Yc.mpr h⟩;rcases Zl.mp hz with rfl |hz
   ·exact c
   ·have:=h.1 z hz;lia
  ·rename_i c;refine Yc.mpr ⟨λz hz=>?_,kG x l h.2⟩;rcases Zl.mp ((j4 x l).mem_iff.mp hz) with rfl |hz
   ·lia
   ·exact h.1 z hz
def fB:∀l,(gr l).Pairwise (·<=·)
 |[]=>List.Pairwise.nil
 |x::l=>kG x _ (fB l)
def nh:∀ {a b:List Int},a.Perm b->a.Pairwise (·<=·)->b.Pairwise (·<=·)->a=b
 |[],b,p,_,_=>(List.Perm.nil_eq p)
 |x::a,[],p,_,_=>(List.Perm.nil_eq p.symm).symm
 |x::a,y::b,p,ha,hb=>by
  rw[Yc] at ha hb
  have e:x=y:=by
   have h1:=p.mem_iff.mp (Zh (a:=x) (l:=a));have h2:=p.mem_iff.mpr (Zh (a:=y) (l:=b));rcases Zl.mp h1 with rfl |h1
   ·rfl
   ·rcases Zl.mp h2 with h2 |h2
    ·exact h2.symm
    ·have:=ha.1 y h2;have:=hb.1 x h1
     lia
  subst e;rw[nh (List.Perm.cons_inv p) ha.2 hb.2]
def dc:∀ {ns:List Int} {u:List Value},aO (ns.map V.int) u->IntsAre u ns
 |[],_,h=>by cases h;exact .nil
 |n::ns,_,h=>by
  cases h with
  |cons r1 r2=>obtain⟨t,rfl⟩:=r1;exact .cons n t (dc r2)
def vK:aV X (.builtin "sorted") (λxs H Q=>∃a ns,xs=[.ref a]/\SqL X.K H a (ns.map V.int)/\ns.length < 64/\∀p,H p=aD->Q (.ref p) (upd H p (.lst ((gr ns).map V.int)))):=by
 intro g s T H xs U Q I r h;obtain⟨a,ns,rfl,L,B,q⟩:=h;obtain⟨u,rfl,J⟩:=cI r;cases J;obtain⟨f,v,pl,j⟩:=I.list L;have c:=v.length;rw[Za] at c j;refine sorted_ints pl.isList (dc v) (by lia) λout n O y C=>?_;have e:n=gr ns:=nh (y.trans (cw ns).symm) C (fB ns);subst e;obtain⟨e,E⟩:=sortedAll_at s.heap f out;refine⟨.ref (s.heap.objs.size+1),_,I.laid (t':=s.toks) (a:=s.heap.objs.size+1) (o:=.lst ((gr ns).map V.int)) (λb o z=>sortedAll_old z) (YH _) ⟨by rw[Za,(cw ns).length_eq];exact j,out.toList,e,jS O,by simpa using E⟩,rfl,q _ (I.hok.fresh (YH _))⟩
abbrev ni:D->Option (Int × Int)
 |.tup [.int a,.int b]=>aa (a,b)
 |_=>aD
abbrev eD:List D->Option (List (Int × Int))
 |[]=>aa []
 |d::ds=>match ni d,eD ds with
  |some p,aa ps=>aa (p::ps)
  |_,_=>aD
abbrev kH:List D->Option (List Int)
 |[]=>aa []
 |d::ds=>match d,kH ds with
  |.int i,aa ms=>aa (i::ms)
  |_,_=>aD
abbrev vL(_:Bool)(b:List D):Option (List D):=match eD b with
 |some ps=>if b.length < 64 then aa (dA ps .non b) else aD
 | none=>(match kH b with
  |some ns=>if ns.length < 64 then aa ((gr ns).map D.int) else aD
  | none=>aD)
def nj:∀ {b:List D} {ns:List Int},kH b=aa ns->b=ns.map D.int
 |[],_,e=>by cases e;rfl
 |d::b,ns,e=>by
  simp only[kH] at e;split at e
  ·rename_i i c h;cases e;rw[nj h];rfl
  ·cases e
def j5:∀ {ns:List Int} {vs:List V},VDs K m H (ns.map D.int) vs->vs=ns.map V.int
 |[],_,h=>by rw[Z4,VDs] at h;exact h
 |n::ns,_,h=>by
  rw[Zz,VDs] at h;obtain⟨v,r,rfl,c,b⟩:=h;rw[c.ints,j5 b];rfl
def pT:∀ (ns:List Int),VDs K m H (ns.map D.int) (ns.map V.int)
 |[]=>by rw[Z4,Z4,VDs]
 |n::ns=>by rw[Zz,Zz,VDs];exact⟨_,_,rfl,bx,pT ns⟩
def tG:∀ {b:List D} {vs:List V} {ps:List (Int × Int)},eD b=aa ps->VDs K m H b vs->PairsV H vs ps
 |[],vs,ps,e,h=>by rw[VDs] at h;subst h;cases e;exact .nil
 |d::b,vs,ps,e,h=>by
  rw[VDs] at h;obtain⟨v,r,rfl,o,g⟩:=h;simp only[eD] at e;cases hd:ni d with
  |none=>rw[hd] at e;cases e
  |some p=>
   cases c:eD b with
   |none=>rw[hd,c] at e;cases e
   |some Q=>
    rw[hd,c] at e;cases e;unfold ni at hd;split at hd
    ·cases hd;obtain⟨a,xs,rfl,j,q⟩:=o.tups;obtain⟨x,y,rfl,f,n⟩:=vC q;cases f.ints;cases n.ints;exact .cons j (tG c g)
    ·cases hd
def xV(h:VDs K m H b vs):∀ (l:List Nat),(∀i ∈ l,i < b.length)->VDs K m H (l.map λi=>b.getD i .non) (l.map λi=>vs.getD i .non)
 |[],_=>by rw[Z4,Z4,VDs]
 |i::l,hl=>by
  rw[Zz,Zz,VDs];obtain⟨v,e,c⟩:=h.get (gEG (hl i Zh));refine⟨_,_,rfl,?_,xV h l λj f=>hl j (Zf _ f)⟩;rw[Z2,Z2,gEG (hl i Zh),e];exact c
def pU:aV X (.builtin "sorted") (r1 (rTm X.K λT c=>if T=aT then vL T c else aD)):=by
 refine aV.imp (aV.or vI vK) λxs H Q h=>?_;obtain⟨_,rfl,m,S,T,c,a,v,es,R,rfl,j,vd,e,q⟩:=c9 h;cases T with
 |true=>cases e
 |false=>
  have e:vL aT c=aa es:=by simpa using e
  unfold vL at e;cases g:eD c with
  |none=>
   rw[g] at e;dsimp only at e;cases b:kH c with
   |none=>rw[b] at e;cases e
   |some ns=>
    rw[b] at e;dsimp only at e;split at e
    ·rename_i n;cases e;have o:=nj b;subst o;have E:=j5 vd;subst E;exact .inr ⟨a,ns,rfl,j,n,lQ R (pT _) q⟩
    ·cases e
  |some ps=>
   rw[g] at e;dsimp only at e;split at e
   ·rename_i n;cases e;have f:=vd.length;refine .inl ⟨a,v,ps,rfl,j,tG g vd,by lia,lQ R ?_ q⟩;unfold dA;rw[<-f];split
    ·exact vd
    ·exact xV vd _ λi b=>(rj (by lia)).1 i b
   ·cases e
end
end Ev
namespace Ev
open PySem PySem.Spec PyProof.Rows L2
abbrev fC:List Int->Int
 |[]=>0
 |n::ns=>ns.foldl (λa b=>if a < b then b else a) n
def jm:∀ (ns:List Int) (n:Int),(ns.foldl (λa b=>if a < b then b else a) n) ∈ n::ns/\∀x ∈ n::ns,x<=ns.foldl (λa b=>if a < b then b else a) n
 |[],n=>⟨Zh,λx hx=>by simp at hx;subst hx;exact ZV _⟩
 |m::ns,n=>by
  obtain⟨g,c⟩:=jm ns (if n < m then m else n);rw[Y1];refine⟨?_,λx hx=>?_⟩
  ·rcases Zl.mp g with h |h
   ·rw[h];split <;> simp
   ·exact Zf _ (Zf _ h)
  ·have f:=c _ Zh;rcases Zl.mp hx with rfl |hx
   ·split at f <;> split <;> omega
   ·rcases Zl.mp hx with rfl |hx
    ·split at f <;> split <;> omega
    ·exact c x (Zf _ hx)
def B4{M:Int}(h:M ∈ ns)(c:∀a,a ∈ ns->a<=M):M=fC ns:=by
 cases ns with
 |nil=>simp at h
 |cons n ns=>
  obtain⟨a,b⟩:=jm ns n;have:=c _ a;have:=b _ h;show M=ns.foldl _ n;omega
section
variable {X:Cx} {K:Vf} {m:List Addr} {H:Hp} {S:Sto}
def zE(T:X.calm=aN):aV X (.builtin "max") (λxs H Q=>∃a ns,xs=[.ref a]/\SqL X.K H a (ns.map V.int)/\ns ≠ []/\Q (.int (fC ns)) H):=by
 intro p s E H xs us Q I r h;obtain⟨a,ns,rfl,Z,g,q⟩:=h;obtain⟨u,rfl,Y⟩:=cI r;cases Y;obtain⟨its,rv,pl,hz⟩:=I.list Z;have o:=dc rv;have B:=pl.isList;obtain⟨y,e⟩:=o.allInts.items
 have b:ns=y.toList.map (·.1):=by
  have f:=o.numsOf;rw[<-nums_intItems,<-e];exact f.symm
 have n:0 < y.size:=by
  have z:0 < ns.length:=XQ.mpr g;rw[b,Za,ZR] at z;exact z
 rw[e] at B;refine max_intList (I.ok.hd T) B n λv J tk hv hk=>?_;obtain⟨t,rfl⟩:=VZ hv;obtain⟨b1,L⟩:=argBest_gt (numAt y) (y.size - 1);have c:∀M:Int,M ∈ ns->(∀a,a ∈ ns->a<=M)->∃x H',Inv X p E H' { s with heap:=J,toks:=tk }/\aJ x (.int M t)/\Q x H':=λM f O=>⟨.int (fC ns),H,I.kept hk,⟨t,by rw[B4 f O]⟩,q⟩;refine c _ ?_ λa C=>?_
 ·rw[b,V7];exact getD_mem (by rw[Za,ZR];omega)
 ·rw[b] at C;obtain⟨j,U,rfl⟩:=mem_getD C;rw[Za,ZR] at U;rw[<-V7];exact L j (by omega)
def rl(u:A.handled=aD)(n:s.heap.IsTuple l (VY xs))(p:0 < xs.size)
  (h:∀v g T,(VY xs)[argBest (λi j=>decide (numAt xs i > numAt xs j)) (xs.size - 1)]?=aa v->(∀b o,s.heap.get? b=aa o->g.get? b=aa o)->Q v { s with heap:=g,toks:=T }) :
  wpAny (model prog w) A (call (.builtin "max") [.ref l]) Q E s:=by
 have f:l < s.heap.objs.size:=by obtain⟨_,e,_⟩:=n;exact Zt e
 refine call_max_walk (UO n ?_);refine⟨_,[_,l],[_],_,_,_,_,rfl,Walks.tuple (A:=A.in1) u _ l (ZF f) (VY xs),⟨⟨_,ZG _ rfl,rfl,rfl⟩,n.push _⟩,λc hc=>?_,by simpa[VY] using p,CmpOf.ints_gt (numAt xs) (λ_ _=>VZ),λv g T y q=>?_⟩
 ·show c < (s.heap.push _).objs.size;rw[YN];rcases Zl.mp hc with rfl |hc
  ·exact Xn _
  ·rcases Zl.mp hc with rfl |hc
   ·exact Xe f
   ·cases hc
 ·refine h v g T (by simpa[VY] using y) λb o e=>q b o (λhm=>?_) (Zk _ e);rcases Zl.mp hm with e1 |hm
  ·exact absurd (e1 ▸ Zt e) (ZQ _)
  ·cases hm
def zF(U:X.calm=aN):aV X (.builtin "max") (λxs H Q=>∃a ns,xs=[.ref a]/\SqT X.K H a (ns.map V.int)/\ns ≠ []/\Q (.int (fC ns)) H):=by
 intro p s J H xs us Q I r h;obtain⟨a,ns,rfl,sq,n,q⟩:=h;obtain⟨u,rfl,Z⟩:=cI r;cases Z;obtain⟨g,rv,pl,hz⟩:=I.tuple sq;have z:=dc rv;have C:s.heap.IsTuple a g.toArray:=pl;obtain⟨y,e⟩:=z.allInts.items
 have b:ns=y.toList.map (·.1):=by
  have f:=z.numsOf;rw[<-nums_intItems,<-e];exact f.symm
 have o:0 < y.size:=by
  have B:0 < ns.length:=XQ.mpr n;rw[b,Za,ZR] at B;exact B
 rw[e] at C;refine rl (I.ok.hd U) C o λv L tk hv hk=>?_;obtain⟨t,rfl⟩:=VZ hv;obtain⟨b1,O⟩:=argBest_gt (numAt y) (y.size - 1);have c:∀M:Int,M ∈ ns->(∀a,a ∈ ns->a<=M)->∃x H',Inv X p J H' { s with heap:=L,toks:=tk }/\aJ x (.int M t)/\Q x H':=λM f T=>⟨.int (fC ns),H,I.kept hk,⟨t,by rw[B4 f T]⟩,q⟩;refine c _ ?_ λa E=>?_
 ·rw[b,V7];exact getD_mem (by rw[Za,ZR];omega)
 ·rw[b] at E;obtain⟨j,Y,rfl⟩:=mem_getD E;rw[Za,ZR] at Y;rw[<-V7];exact O j (by omega)
abbrev lJ(T:Bool)(b:List D)(S:Sto):Option (D × Sto):=match kH b with
 |some (n::ns)=>aa (.int (fC (n::ns)),S)
 |_=>aD
def zG(b:X.calm=aN):aV X (.builtin "max") (r1 (rSq X.K lJ)):=by
 refine aV.imp (aV.or (zE b) (zF b)) λxs H Q h=>?_;obtain⟨_,rfl,m,S,T,g,a,v,d,j,R,rfl,sq,vd,e,q⟩:=c9 h;unfold lJ at e;split at e
 ·rename_i n ns f;cases e;have c:=nj f;subst c;have E:=j5 vd;subst E;rcases m7 sq with sq |sq
  ·exact .inl ⟨a,n::ns,rfl,sq,by simp,q m H _ (Aft.refl R) bx⟩
  ·exact .inr ⟨a,n::ns,rfl,sq,by simp,q m H _ (Aft.refl R) bx⟩
 ·cases e
abbrev B5(d:D)(S:Sto):Option (D × Sto):=match d with
 |.int i=>aa (.int i,S)
 |.bl b=>aa (.int (if b then 1 else 0),S)
 |_=>aD
def zH:aV X (.type "int") (r1 (rS1 X.K B5)):=by
 refine aV.imp zc λxs H Q h=>?_;obtain⟨x,rfl,m,S,a,d,c,R,v,e,q⟩:=c9 h;cases a with
 |int i=>cases e;exact .inl ⟨i,by rw[v.ints],q m H _ (Aft.refl R) bx⟩
 |bl b=>cases e;exact .inr ⟨b,by rw[v.bls],q m H _ (Aft.refl R) bx⟩
 |_=>cases e
end
abbrev PZ(c:Int):List Int->Int
 |[]=>c
 |n::ns=>fC (n::ns)
section
variable {X:Cx} {K:Vf} {m:List Addr} {H:Hp} {S:Sto}
abbrev fb(d:D)(S:Sto):Bool:=match d with
 |.ref n=>(aP S n).isSome
 |_=>aT
abbrev isTup:D->Bool
 |.tup _=>aN
 |_=>aT
abbrev zI(c:D->Sto->Bool)(f:D->List D->Sto->Option (D × Sto))(x:XE)(y:XA):XE:=λb S=>bnd (x b S) λd g=>if c d g=aN then bnd (y b g) λh j=>f d h j else aD
abbrev rM(K:Vf)(f:D->List D->Sto->Option (D × Sto)):V->List V->Hp->VK->Prop:=λv j H Q=>∃m S a c d g,Rel K m S H/\VD K m H a v/\VDs K m H c j/\f a c S=aa (d,g)/\∀b h u,Aft K m H g b h->VD K b h d u->Q u h
def rm(hT:∀ {m H S d v},Rel K m S H->VD K m H d v->c d S=aN->tyV K T v H)(h:tE K (zI c f x y) B H Q):tBM K T (rM K f) (tE K x) (tAr K y) B H Q:=by
 obtain⟨m,p,S,d,Z,E,R,e,q⟩:=h;obtain⟨a,j,C,e⟩:=aj e;split at e
 ·rename_i J;obtain⟨z,n,U,e⟩:=aj e;refine⟨m,p,S,a,j,E,R,C,λm1 H1 v b o=>⟨hT b.rel o J,m1,p,j,z,n,E.mono R b.ext,b.rel,U,λY H2 vs g vb=>?_⟩⟩;exact⟨Y,n,a,z,d,Z,g.rel,o.mono b.rel g.ext,vb,e,λO L u I vd=>q O L u ((b.trans g).trans I) vd⟩
 ·cases e
def vM(R:Rel K m S H)(vd:VD K m H d v)(h:fb d S=aN):tyV K "list" v H:=by
 cases d with
 |ref n=>
  simp only[fb] at h;obtain⟨q,hs⟩:=Z9.mp h;obtain⟨p,f,c,j,g⟩:=R.seq hs;obtain⟨o,b,rfl⟩:=vd.refs;rw[c] at b;cases b;exact .inl ⟨rfl,f,j⟩
 |_=>cases h
def Lp(R:Rel K m S H)(vd:VD K m H d v)(h:(λd (_:Sto)=>isTup d) d S=aN):tyV K "tuple" v H:=by
 cases d with
 |tup f=>
  obtain⟨a,b,rfl,c,_⟩:=vd.tups;exact .inr (.inl ⟨rfl,.inr ⟨b,c⟩⟩)
 |_=>cases h
abbrev chg(n:Nat)(S:Sto)(f:List D->Option (D × List D)):Option (D × Sto):=match S[n]? with
 |some (.lst ds)=>(f ds).map λr=>(r.1,S.set n (.lst r.2))
 |_=>aD
def nq{n:Nat}(h:chg n S f=aa (d,j)):∃b E,S[n]?=aa (.lst b)/\f b=aa (d,E)/\j=S.set n (.lst E):=by
 unfold chg at h;cases g:S[n]? with
 |none=>rw[g] at h;cases h
 |some o=>
  rw[g] at h;cases o with
  |lst b=>
   dsimp only at h;cases c:f b with
   |none=>rw[c] at h;cases h
   |some r=>rw[c] at h;cases h;exact⟨b,r.2,rfl,c,rfl⟩
  |_=>cases h
abbrev vN(d:D)(c:List D)(S:Sto):Option (D × Sto):=match d,c with
 |.ref n,[e]=>chg n S λb=>if b.length < 100000 then aa (.non,b++[e]) else aD
 |_,_=>aD
abbrev fD(d:D)(c:List D)(S:Sto):Option (D × Sto):=match d,c with
 |.ref n,[.int i]=>chg n S λb=>match ixN b.length i with
  |some k=>(b[k]?).map λx=>(x,b.eraseIdx k)
  |none=>aD
 |_,_=>aD
def rq{n:Nat}(R:Rel K m S H)(vd:VD K m H (.ref n) v)(g:S[n]?=aa (.lst f)):∃a vs,v = .ref a/\m[n]?=aa a/\H a=aa (.lst vs)/\VDs K m H f vs:=by
 obtain⟨a,vs,b,c,q⟩:=R.lst g;obtain⟨j,h,e⟩:=vd.refs;rw[b] at h;cases h;exact⟨a,vs,e,b,c,q⟩
def hV{n:Nat}(R:Rel K m S H)(h:m[n]?=aa a)(vd:VDs K m H E b):Aft K m H (S.set n (.lst E)) m (upd H a (.lst b)):=let ⟨x,y⟩:=R.write h vd;⟨x,y⟩
def Lq:MtR X "list.append" (rM X.K vN):=by
 intro b s g H x xs v u Q I O C h;refine pK b s g H x xs v u Q I O C ?_;obtain⟨m,S,a,as,d,S',R,T,o,e,q⟩:=h;unfold vN at e;split at e
 ·rename_i n z;obtain⟨Z,U,B,f,rfl⟩:=nq e;split at f
  ·rename_i Y;cases f;obtain⟨p,J,rfl,E,j,c⟩:=rq R T B;obtain⟨y,rfl,L⟩:=Lm o;refine⟨p,J,y,rfl,rfl,j,by rw[Ue,<-c.length];lia,q m _ _ (hV R E (c.append (.cons L .nil))) mY⟩
  ·cases f
 ·cases e
def tH:∀ {b:List D} {vs:List V} (k:Nat),VDs K m H b vs->VDs K m H (b.eraseIdx k) (vs.eraseIdx k)
 |[],vs,k,h=>by rw[VDs] at h;subst h;exact .nil
 |d::b,vs,0,h=>by
  rw[VDs] at h;obtain⟨y,r,rfl,p,q⟩:=h;exact q
 |d::b,vs,k+1,h=>by
  rw[VDs] at h;obtain⟨y,r,rfl,p,q⟩:=h;exact .cons p (tH k q)
def zJ:MtR X "list.pop" (rM X.K fD):=by
 intro f s B H x xs v U Q I rx O h;refine Bm f s B H x xs v U Q I rx O ?_;obtain⟨m,S,a,as,d,S',R,va,E,e,q⟩:=h;unfold fD at e;split at e
 ·rename_i n i;obtain⟨u,es,L,c,rfl⟩:=nq e;cases j:ixN u.length i with
  |none=>rw[j] at c;cases c
  |some k=>
   rw[j] at c;dsimp only at c;cases g:u[k]? with
   |none=>rw[g] at c;cases c
   |some z=>
    rw[g] at c;cases c;obtain⟨p,Y,rfl,T,o,b⟩:=rq R va L;obtain⟨y,rfl,C⟩:=Lm E;cases C.ints;obtain⟨y,hy,vy⟩:=b.get g;have A:=hV R T (tH k b);obtain⟨Z,h2,h3,h4⟩:=qM j;have J:=(I.lst o).choose_spec.choose_spec.2.2;have hle:=b.length;rw[Ue] at J;exact⟨p,Y,i,k,y,rfl,rfl,o,by lia,by lia,by rw[<-b.length];exact Z,hy,q m _ _ A (vy.mono R A.ext)⟩
 ·cases e
abbrev vO(d:D)(b:List D)(S:Sto):Option (D × Sto):=match d,b with
 |.tup ds,[x]=>if cL x=aN/\ds.all cL=aN then aa (.int (ds.countP λz=>eqF z x:Nat),S) else aD
 |_,_=>aD
def FV:MtR X "tuple.count" (rM X.K vO):=by
 intro b s j H x xs v u Q I E o h;refine zt X.K rfl b s j H x xs v u Q I E o ?_;obtain⟨m,S,a,O,d,T,R,J,n,e,q⟩:=h;unfold vO at e;split at e
 ·rename_i L z;split at e
  ·rename_i f;cases e;obtain⟨p,B,rfl,C,c⟩:=J.tups;obtain⟨y,rfl,g⟩:=Lm n;exact⟨p,B,y,rfl,rfl,.of C,lU g f.1,jl c f.2,q m H _ (Aft.refl R) (by rw[pR g f.1 c f.2];exact bx)⟩
  ·cases e
 ·cases e
abbrev fc(o i v:D)(S:Sto):Option Sto:=match o,i with
 | .ref n,.int k=>(match S[n]? with
  |some (.lst ds)=>(ixN ds.length k).map λj=>S.set n (.lst (ds.set j v))
  | _=>aD)
 |_,_=>aD
abbrev B6(K:Vf):E5:=λo i v H Q=>∃m S a b c f,Rel K m S H/\VD K m H a o/\VD K m H b i/\VD K m H c v/\fc a b c S=aa f/\∀g h,Aft K m H f g h->Q h
def B7:Kk X (B6 X.K):=by
 intro f s B H o i v Z L u Q I E U rv h;refine Bk f s B H o i v Z L u Q I E U rv ?_;obtain⟨m,S,a,b,c,S',R,Y,vb,vc,e,q⟩:=h;unfold fc at e;split at e
 ·rename_i n k;cases y:S[n]? with
  |none=>rw[y] at e;cases e
  |some ob=>
   rw[y] at e;cases ob with
   |lst T=>
    dsimp only at e;cases z:ixN T.length k with
    |none=>rw[z] at e;cases e
    |some j=>
     rw[z] at e;cases e;obtain⟨p,O,rfl,J,C,g⟩:=rq R Y y;cases vb.ints;exact⟨p,O,k,j,rfl,rfl,C,by rw[<-g.length];exact z,q m _ (hV R J (g.set vc))⟩
   |_=>cases e
 ·cases e
mutual
noncomputable def cr(t:D->Option Dw.D):List D->Option (List Dw.D)
 |[]=>aa []
 |d::ds=>match t d,cr t ds with
  |some x,aa xs=>aa (x::xs)
  |_,_=>aD
end
abbrev cP:Nat->Sto->D->Option Dw.D
 |0,_,_=>aD
 |n+1,S,d=>match d with
  |.non=>aa .non
  |.bl b=>aa (.bl b)
  |.int i=>aa (.int i)
  |.str x=>aa (.str x)
  |.tup ds=>(cr (cP n S) ds).map .tup
  | .ref k=>(match S[k]? with
   |some (.lst ds)=>(cr (cP n S) ds).map .lst
   |some (.dic ks ds)=>(cr (cP n S) ds).map (.dic ks)
   | _=>aD)
def jp(g:∀d x v,t d=aa x->VD K m H d v->Dw.Br [] H x v):∀ {b:List D} {xs:List Dw.D} {vs:List V},cr t b=aa xs->VDs K m H b vs->Dw.BrL [] H xs vs
 |[],xs,vs,e,h=>by rw[VDs] at h;simp only[cr] at e;cases e;rw[h,Dw.BrL]
 |d::b,xs,vs,e,h=>by
  rw[VDs] at h;obtain⟨y,r,rfl,p,q⟩:=h;simp only[cr] at e;cases c:t d with
  |none=>rw[c] at e;cases e
  |some x=>
   cases f:cr t b with
   |none=>rw[c,f] at e;cases e
   |some Y=>
    rw[c,f] at e;cases e;rw[Dw.BrL];exact⟨y,r,rfl,g _ _ _ c p,jp g f q⟩
def pV:∀ {b:List D} {xs:List Dw.D},cr t b=aa xs->xs.length=b.length
 |[],xs,e=>by simp only[cr] at e;cases e;rfl
 |d::b,xs,e=>by
  simp only[cr] at e;cases c:t d with
  |none=>rw[c] at e;cases e
  |some x=>
   cases h:cr t b with
   |none=>rw[c,h] at e;cases e
   |some y=>rw[c,h] at e;cases e;simp[pV h]
def lW(R:Rel K m S H):∀ (n:Nat) (d:D) (x:Dw.D) (v:V),cP n S d=aa x->VD K m H d v->Dw.Br [] H x v
 |0,_,_,_,e,_=>by simp[cP] at e
 |n+1,d,x,v,e,h=>by
  cases d with
  |non=>simp only[cP] at e;cases e;rw[Dw.Br];exact h.nons
  |bl _=>simp only[cP] at e;cases e;rw[Dw.Br];exact h.bls
  |int _=>simp only[cP] at e;cases e;rw[Dw.Br];exact h.ints
  |str _=>simp only[cP] at e;cases e;rw[Dw.Br];exact h.strs
  |tup c=>
   simp only[cP] at e;cases b:cr (cP n S) c with
   |none=>rw[b] at e;cases e
   |some xs=>
    rw[b] at e;cases e;obtain⟨a,g,rfl,z,p⟩:=h.tups;rw[Dw.Br];exact⟨a,g,rfl,z,jp (lW R n) b p⟩
  |ref k=>
   simp only[cP] at e;obtain⟨a,u,rfl⟩:=h.refs;cases q:S[k]? with
   |none=>rw[q] at e;cases e
   |some o=>
    rw[q] at e;obtain⟨B,f,r⟩:=R.ob k o q;rw[u] at f;cases f;cases o with
    |lst c=>
     dsimp only at e;cases b:cr (cP n S) c with
     |none=>rw[b] at e;cases e
     |some xs=>
      rw[b] at e;cases e;obtain⟨g,j,p⟩:=r;rw[Dw.Br];exact⟨a,g,rfl,by simp,j,jp (lW R n) b p⟩
    |frz c=>cases e
    |dic C c=>
     dsimp only at e;cases b:cr (cP n S) c with
     |none=>rw[b] at e;cases e
     |some xs=>
      rw[b] at e;cases e;obtain⟨g,j,y,p⟩:=r;rw[Dw.Br];exact⟨a,g,rfl,by simp,j,by rw[pV b];exact y,jp (lW R n) b p⟩
open Classical in
abbrev ip(d:D)(S:Sto):Option (D × Sto):=match cP 100 S d with
 |some t=>if Dw.Shn t then aa (.str (Dw.aW t).shown,S) else aD
 |none=>aD
def vP{k:Nat}(c:Room k X.A):aV X (.builtin "repr") (r1 (rS1 X.K ip)):=by
 refine aV.imp (Dw.vj c) λxs H Q h=>?_;obtain⟨x,rfl,m,S,a,d,f,R,v,e,q⟩:=c9 h;unfold ip at e;cases b:cP 100 S a with
 |none=>rw[b] at e;cases e
 |some t=>
  rw[b] at e;dsimp only at e;split at e
  ·rename_i hs;cases e;exact⟨x,[],t,rfl,lW R 100 a t x b v,hs,q m H _ (Aft.refl R) mZ⟩
  ·cases e
end
section
variable {X:Cx} {K:Vf} {m:List Addr} {H:Hp} {S:Sto}
abbrev dX{α:Type}(xs:List α)(k:Nat)(y:α):List α:=xs.take k++y::xs.drop k
def Lr:MtM X "list.insert" (λx vs H Q=>∃l xs i y,x = .ref l/\vs=[.int i,y]/\H l=aa (.lst xs)/\0<=i/\i<=100000/\xs.length < sizeLine/\Q .non (upd H l (.lst (dX xs (min i.toNat xs.length) y)))):=by
 intro p s J H x vs v U Q I E g h;obtain⟨l,xs,i,y,rfl,rfl,j,O,T,L,q⟩:=h;cases E;cases g with
 |cons C g=>
  obtain⟨u,rfl,B⟩:=aO.one (show aO [y] _ from g);obtain⟨t,rfl⟩:=C;obtain⟨z,b,n,r,o,e⟩:=I.lstM j
  have f:¬ (!Builtin.List.listFitsIndex i)=aN:=by
   unfold Builtin.List.listFitsIndex;simp;omega
  refine VL WW ⟨_,e,rfl⟩ F.entry_list_insert (F.args_list_insert_3 _ _ _) (PySem.AutoListH.list_insert_list_int_val_1 l b.toArray n i t u f (by rw[Zm];omega)) ⟨e,?_⟩;have c:xs.length=b.length:=o;refine⟨.non,_,I.lset (its':=dX b (min i.toNat b.length) u) j e ?_ ?_ ?_,rfl,q⟩
  ·simp only[if_neg (show ¬ i < 0 by omega),Zm];unfold dX;simp[Z8];rw[Z5 (by rw[ZZ];omega)]
  ·rw[c];exact aO.append (aO.take _ r) (.cons B (aO.drop _ r))
  ·unfold dX;rw[Zn,ZB,Zs,ZZ];omega
abbrev vQ(d:D)(c:List D)(S:Sto):Option (D × Sto):=match d,c with
 |.ref n,[.int i,e]=>if 0<=i/\i<=100000 then chg n S λb=>if b.length < 100000 then aa (.non,dX b (min i.toNat b.length) e) else aD else aD
 |_,_=>aD
def Ls(k:Nat)(h:VDs K m H c vs)(b:VD K m H x y):VDs K m H (dX c k x) (dX vs k y):=(h.take k).append (.cons b (h.drop k))
def FY:MtR X "list.insert" (rM X.K vQ):=by
 intro c s j H x xs v U Q I O E h;refine Lr c s j H x xs v U Q I O E ?_;obtain⟨m,S,a,as,d,S',R,T,B,e,q⟩:=h;unfold vQ at e;split at e
 ·rename_i n i z;split at e
  ·rename_i g;obtain⟨ds,Z,C,f,rfl⟩:=nq e;split at f
   ·rename_i hl;cases f;obtain⟨p,L,rfl,J,u,b⟩:=rq R T C;obtain⟨y1,Y,rfl,o,y⟩:=vC B;cases o.ints;refine⟨p,L,i,Y,rfl,rfl,u,g.1,g.2,by rw[Ue,<-b.length];omega,?_⟩;rw[<-b.length];exact q m _ _ (hV R J (Ls _ b y)) mY
   ·cases f
  ·cases e
 ·cases e
end
@[inline]abbrev Nxt:=Nat->Sto->Option (Option D)
@[inline]abbrev XI:=Rho->Sto->Option (Nxt × Sto)
structure ExtB(B:List Addr)(m:List Addr)(H:Hp)(m':List Addr)(H':Hp):Prop where
 pre:m <+: m'
 keep:∀a o,H a=aa o->a ∉ m->a ∉ B->H' a=aa o
 new:∀a,a ∈ m'->a ∉ m->H a=aD
 nb:∀b,b ∈ B->b ∉ m'
abbrev AtB(B:List Addr)(m:List Addr)(H:Hp):Prop:=∀b,b ∈ B->(∃v,H b=aa (.lst v))/\b ∉ m
def Ext.toB(c:AtB B m H)(x:Ext m H f H'):ExtB B m H f H':=⟨x.pre,λa o h n _=>x.keep a o h n,x.new,λb hb z=>by
 obtain⟨⟨v,e⟩,n⟩:=c b hb;have:=x.new b z n;rw[e] at this;cases this⟩
def ExtB.trans(x:ExtB B m H m1 g)(y:ExtB B m1 g c H2):ExtB B m H c H2:=by
 refine⟨x.pre.trans y.pre,λa o h n nb=>?_,λa h n=>?_,y.nb⟩
 ·have f:a ∉ m1:=λz=>by have:=x.new a z n;rw[this] at h;cases h
  exact y.keep a o (x.keep a o h n nb) f nb
 ·by_cases b:a ∈ m1
  ·exact x.new a b n
  ·cases e:H a with
   |none=>rfl
   |some o=>
    by_cases hb:a ∈ B
    ·exact absurd h (y.nb a hb)
    ·have:=x.keep a o e n hb;rw[y.new a h b] at this;cases this
def AtB.ext(h:AtB B m H)(x:Ext m H c H'):AtB B c H':=λb hb=>by
 obtain⟨⟨v,e⟩,n⟩:=h b hb;exact⟨⟨v,x.keep _ _ e n⟩,(x.toB h).nb b hb⟩
abbrev IOk(K:Vf)(B:List Addr)(J:It)(nx:Nxt)(m0:List Addr)(b:Hp):Prop:=∀ (m:List Addr) (S:Sto) (H:Hp) (i:Nat),ExtB B m0 b m H->Rel K m S H ->
 (nx i S=aa aD->J.stop i H)/\(∀d,nx i S=aa (aa d)->J.go i H/\∀x h,J.yld i H x h->Aft K m H S m h/\VD K m h d x)
abbrev tIt(K:Vf)(B:List Addr)(x:XI):TI:=λg H R=>∃m c S nx f,EnvR K m H c g/\Rel K m S H/\AtB B m H/\x c S=aa (nx,f)/\∀b h J,Aft K m H f b h->IOk K B J nx b h->R J h
abbrev nxL(b:List D):Nxt:=λi _=>aa b[i]?
abbrev nxS(n:Nat):Nxt:=λi S=>(aP S n).map λb=>b[i]?
abbrev nxR(lo:Int)(n:Nat):Nxt:=λi _=>aa (if i < n then aa (.int (lo+i)) else aD)
abbrev aY(i:Nat)(d:D):D:=.tup [.int i,d]
abbrev enm(b:List D)(i:Nat):Option (Option D):=if i<=b.length then aa (b[i]?.map (aY i)) else aD
abbrev zK(b:List D):Nxt:=λi _=>enm b i
abbrev zL(n:Nat):Nxt:=λi S=>(aP S n).bind λb=>enm b i
section
variable {X:Cx} {K:Vf} {m B:List Addr} {H:Hp} {S:Sto}
def FZ(R:Rel K m0 f b)(c:AtB B m0 b)(x:ExtB B m0 b m H)(h:b a=aa (.tup xs)):H a=aa (.tup xs):=x.keep _ _ h (R.notTup h) λz=>by
 obtain⟨⟨v,e⟩,_⟩:=c a z;rw[e] at h;cases h
def VDs.monoB(R:Rel K m0 g b)(c:AtB B m0 b)(x:ExtB B m0 b m H)(h:VDs K m0 b f vs):VDs K m H f vs:=VDs.mono0 x.pre (λ_ _=>FZ R c x) h
def VD.monoB(R:Rel K m0 f b)(c:AtB B m0 b)(x:ExtB B m0 b m H)(h:VD K m0 b d v):VD K m H d v:=VD.mono0 x.pre (λ_ _=>FZ R c x) h
def EnvR.monoB(R:Rel K m0 g b)(c:AtB B m0 b)(x:ExtB B m0 b m H)(h:EnvR K m0 b f σ):EnvR K m H f σ:=
 ⟨h.len,λi d e=>let ⟨v,p,q⟩:=h.at_ i d e;⟨v,p,VD.monoB R c x q⟩⟩
def tI(h:∀m S H i o,ExtB B m0 H0 m H->Rel K m S H->nx i S=aa o->∃b vs,o=b[i]?/\SqL K H a vs/\VDs K m H b vs):IOk K B (Itl K a) nx m0 H0:=by
 intro m S H i x R;refine⟨λe=>?_,λd e=>?_⟩
 ·obtain⟨b,vs,E,c,vd⟩:=h m S H i _ x R e;exact⟨vs,c,by rw[<-vd.length];exact Yw.mp E.symm⟩
 ·obtain⟨b,vs,E,c,vd⟩:=h m S H i _ x R e;obtain⟨v,f,g⟩:=vd.get E.symm;refine⟨⟨vs,v,c,f⟩,λy p ⟨j,n⟩=>?_⟩;subst j;have:=n vs c;rw[f] at this;cases this;exact⟨Aft.refl R,g⟩
def F0(f:Rel K m0 u H0)(h:AtB B m0 H0)(o:H0 a=aa (.tup vs))(vd:VDs K m0 H0 n vs):IOk K B (Itt K a) (nxL n) m0 H0:=by
 intro m S H i x R;have b:SqT K H a vs:=.of (FZ f h x o);have c:=vd.monoB f h x;refine⟨λe=>⟨vs,b,?_⟩,λd e=>?_⟩
 ·rw[<-c.length];exact Yw.mp (Option.some.inj e)
 ·obtain⟨v,g,j⟩:=c.get (Option.some.inj e);refine⟨⟨vs,v,b,g⟩,λy q ⟨E,p⟩=>?_⟩;subst E;have:=p vs b;rw[g] at this;cases this;exact⟨Aft.refl R,j⟩
def xW{lo:Int}{n:Nat}:IOk K B (Itr lo n) (nxR lo n) m0 H0:=by
 intro m S H i x R;unfold nxR;refine⟨λe=>?_,λd e=>?_⟩
 ·split at e
  ·cases e
  ·show n<=i;lia
 ·split at e
  ·rename_i h;cases e;exact⟨h,λy c ⟨E,b⟩=>by subst E;subst b;exact⟨Aft.refl R,bx⟩⟩
  ·cases e
def rA(h:∀m S H i o,ExtB B m0 H0 m H->Rel K m S H->nx i S=aa o->∃b vs,enm b i=aa o/\f K H a vs/\VDs K m H b vs):IOk K B (Ite K a f) nx m0 H0:=by
 intro m S H i x R;refine⟨λe=>?_,λd e=>?_⟩
 ·obtain⟨b,vs,E,c,vd⟩:=h m S H i _ x R e;unfold enm at E;split at E
  ·rename_i I;refine⟨vs,c,?_⟩;rw[<-vd.length];cases hd:b[i]? with
   |none=>have:=Yw.mp hd;lia
   |some z=>rw[hd] at E;cases E
  ·cases E
 ·obtain⟨b,vs,E,c,vd⟩:=h m S H i _ x R e;unfold enm at E;split at E
  ·cases hd:b[i]? with
   |none=>rw[hd] at E;cases E
   |some z=>
    rw[hd] at E;cases E;obtain⟨v,j,n⟩:=vd.get hd;refine⟨⟨vs,v,c,j⟩,λy C ⟨T,hT,q,u⟩=>?_⟩;subst q;have p:=u vs v c j;subst p;have g:=Ext.beside R hT (.tup [.int i,v]);exact⟨⟨g,R.beside hT _⟩,re aH (.cons bx (.cons (n.mono R g) .nil))⟩
  ·cases E
abbrev Te(d:D):Option Nxt:=match d with
 |.tup ds=>aa (nxL ds)
 |.ref n=>aa (nxS n)
 |_=>aD
abbrev xIV(x:XE):XI:=λc S=>bnd (x c S) λd b=>match d with
 |.tup ds=>aa (nxL ds,b)
 |.ref n=>if (aP b n).isSome=aN then aa (nxS n,b) else aD
 |_=>aD
abbrev xIT(x:XA):XI:=λf S=>bnd (x f S) λb c=>aa (nxL b,c)
abbrev xEV(x:XE):XI:=λc S=>bnd (x c S) λd b=>match d with
 |.tup ds=>aa (zK ds,b)
 |.ref n=>if (aP b n).isSome=aN then aa (zL n,b) else aD
 |_=>aD
abbrev xET(x:XA):XI:=λf S=>bnd (x f S) λb c=>aa (zK b,c)
abbrev lim(i:Int):Bool:=decide (-(2 ^ 62)<=i) && decide (i < 2 ^ 62)
abbrev xR1(x:XE):XI:=λc S=>bnd (x c S) λd b=>match d with
 |.int j=>if lim j=aN then aa (nxR 0 j.toNat,b) else aD
 |_=>aD
abbrev xR2(x y:XE):XI:=λb S=>bnd (x b S) λd c=>bnd (y b c) λe f=>match d,e with
 |.int i,.int j=>if lim i=aN/\lim j=aN then aa (nxR i (j - i).toNat,f) else aD
 |_,_=>aD
def j6{i:Int}(h:lim i=aN):-(2 ^ 62)<=i/\i < 2 ^ 62:=by simpa[lim] using h
def lX{n:Nat}(b:m0[n]?=aa a)(x:m0 <+: m)(R:Rel K m S H)(hs:aP S n=aa c):∃vs,SqL K H a vs/\VDs K m H c vs:=by
 obtain⟨p,vs,h,f,vd⟩:=R.seq hs;have:=dS x b;rw[this] at h;cases h;exact⟨vs,f,vd⟩
def P0(b:AtB B m H)(h:H a=aD):a ∉ B:=λz=>by
 obtain⟨⟨v,e⟩,_⟩:=b a z;rw[h] at e;cases e
def Sw(h:tIt K B (xIV x) I H R):A7 K (tE K x) I H R\/Po K (tE K x) I H R:=by
 obtain⟨m,O,S,nx,S',E,L,U,e,q⟩:=h;obtain⟨d,S1,J,e⟩:=aj e;cases d with
 |tup Z=>
  cases e;refine .inr ⟨m,O,S,_,_,E,L,J,λm1 C v b vd=>?_⟩;obtain⟨a,y,rfl,g,c⟩:=vd.tups;exact⟨a,rfl,⟨y,.of g⟩,q m1 C _ b (F0 b.rel (U.ext b.ext) g c)⟩
 |ref n=>
  dsimp only at e;split at e
  ·rename_i hs;cases e;refine .inl ⟨m,O,S,_,_,E,L,J,λm1 C v b vd=>?_⟩;obtain⟨a,Q,rfl⟩:=vd.refs;obtain⟨Z,u⟩:=Z9.mp hs;obtain⟨y,g,c⟩:=lX Q (Ym _) b.rel u;refine⟨a,rfl,⟨y,g⟩,q m1 C _ b (tI λm2 S2 H2 i o x2 R2 f=>?_)⟩;unfold nxS at f;cases p:aP S2 n with
   |none=>rw[p] at f;cases f
   |some T=>
    rw[p] at f;cases f;obtain⟨Y,j,z⟩:=lX Q x2.pre R2 p;exact⟨T,Y,rfl,j,z⟩
  ·cases e
 |_=>cases e
def Sx(h:tIt K B (xIT x) j H R):A7 K (eZ K x) j H R:=by
 obtain⟨m,C,S,nx,Y,E,u,c,e,q⟩:=h;obtain⟨z,L,n,e⟩:=aj e;cases e;refine⟨m,C,S,_,_,E,u,n,λm1 I a v b g p U J vd=>⟨a,rfl,⟨v,.of g⟩,q m1 I _ b (tI λT O Q i o f R2 y=>?_)⟩⟩;cases y;exact⟨z,v,rfl,.of (f.keep _ _ g p (P0 c J)),vd.monoB b.rel (c.ext b.ext) f⟩
def P1(h:tIt K B (xEV x) J H R):KP K (dQ (tE K x) mG) J H R\/PN K (dQ (tE K x) mG) J H R:=by
 obtain⟨m,Y,S,nx,S',E,Q,O,e,q⟩:=h;obtain⟨d,S1,L,e⟩:=aj e;cases d with
 |tup T=>
  cases e;refine .inr ⟨m,Y,S,_,_,E,Q,L,λm1 I v b vd=>?_⟩;obtain⟨a,g,rfl,j,f⟩:=vd.tups;refine⟨a,g,rfl,.of j,q m1 I _ b (rA λm2 U H2 i o p R2 c=>⟨T,g,c,.of (FZ b.rel (O.ext b.ext) p j),f.monoB b.rel (O.ext b.ext) p⟩)⟩
 |ref n=>
  dsimp only at e;split at e
  ·rename_i hs;cases e;refine .inl ⟨m,Y,S,_,_,E,Q,L,λm1 I v b vd=>?_⟩;obtain⟨a,Z,rfl⟩:=vd.refs;obtain⟨T,z⟩:=Z9.mp hs;obtain⟨g,j,f⟩:=lX Z (Ym _) b.rel z;refine⟨a,g,rfl,j,q m1 I _ b (rA λm2 U H2 i o p R2 c=>?_)⟩;unfold zL at c;cases y:aP U n with
   |none=>rw[y] at c;cases c
   |some es=>
    rw[y] at c;obtain⟨ws,u,C⟩:=lX Z p.pre R2 y;exact⟨es,ws,c,u,C⟩
  ·cases e
 |_=>cases e
def P2(h:tIt K B (xET x) j H R):KP K (dQ (eZ K x) mG) j H R:=by
 obtain⟨m,C,S,nx,Y,E,u,c,e,q⟩:=h;obtain⟨z,L,n,e⟩:=aj e;cases e;exact⟨m,C,S,_,_,E,u,n,λm1 I a v b g p U J vd=>⟨a,v,rfl,.of g,q m1 I _ b (rA λT O Q i o f R2 y=>⟨z,v,y,.of (f.keep _ _ g p (P0 c J)),vd.monoB b.rel (c.ext b.ext) f⟩)⟩⟩
def P3(h:tIt K B (xR1 x) c H R):Je (dQ (tE K x) mG) c H R:=by
 obtain⟨m,n,S,nx,z,E,g,y,e,q⟩:=h;obtain⟨d,o,f,e⟩:=aj e;refine⟨m,n,S,d,o,E,g,f,λm1 p v u vd=>?_⟩;cases d with
 |int j=>
  dsimp only at e;split at e
  ·rename_i b;cases e;exact⟨j,by rw[vd.ints],(j6 b).1,(j6 b).2,q m1 p _ u xW⟩
  ·cases e
 |_=>cases e
def P4(h:tIt K B (xR2 x y) p H R):Jf (dQ (tE K x) (dQ (tE K y) mG)) p H R:=by
 obtain⟨m,o,S,nx,U,E,n,Q,e,q⟩:=h;obtain⟨d,g,u,e⟩:=aj e;obtain⟨c,I,C,e⟩:=aj e;refine⟨m,o,S,d,g,E,n,u,λm1 T v f vd=>⟨m1,o,g,c,I,E.mono n f.ext,f.rel,C,λL J w z O=>?_⟩⟩;cases d with
 |int i=>
  cases c with
  |int j=>
   dsimp only at e;split at e
   ·rename_i b;cases e;exact⟨i,j,by rw[vd.ints,O.ints],⟨(j6 b.1).1,(j6 b.1).2,(j6 b.2).1,(j6 b.2).2⟩,q L J _ (f.trans z) xW⟩
   ·cases e
  |_=>cases e
 |_=>cases e
inductive Tg where
 |name (i:Nat) |tup (ts:List Tg)
mutual
noncomputable def aB:Tg->D->Rho->Option Rho
 |.name i,d,ρ=>if i < ρ.length then aa (ρ.set i (aa d)) else aD
 |.tup ts,.tup ds,ρ=>aQ ts ds ρ
 |_,_,_=>aD
noncomputable def aQ:List Tg->List D->Rho->Option Rho
 |[],[],ρ=>aa ρ
 |t::ts,d::ds,ρ=>match aB t d ρ with
  |some b=>aQ ts ds b
  |none=>aD
 |_,_,_=>aD
end
abbrev tTg(K:Vf)(t:Tg):TG:=λx g H Q=>∃m S f d b,Rel K m S H/\EnvR K m H f g/\VD K m H d x/\aB t d f=aa b/\∀c,EnvR K m H b c->Q c H
abbrev B8(K:Vf)(T:List Tg):TGs:=λxs h H Q=>∃m S f g b,Rel K m S H/\EnvR K m H f h/\VDs K m H g xs/\aQ T g f=aa b/\∀c,EnvR K m H b c->Q c H
def EnvR.set{i:Nat}(E:EnvR K m H f c)(h:VD K m H d v):EnvR K m H (f.set i (aa d)) (c.set i (aa v)):=by
 refine⟨by simp[E.len],λj n e=>?_⟩;rw[YL] at e;rw[YL,<-E.len];by_cases b:i=j
 ·rw[if_pos b] at e ⊢;split at e
  ·rename_i g;rw[if_pos g];cases e;exact⟨v,rfl,h⟩
  ·cases e
 ·rw[if_neg b] at e ⊢;exact E.at_ j n e
def rB{i:Nat}(h:tTg K (.name i) x b H Q):mB i x b H Q:=by
 obtain⟨m,S,f,d,c,R,E,vd,e,q⟩:=h;simp only[aB] at e;split at e
 ·cases e;exact q _ (E.set vd)
 ·cases e
def Lu{n:Nat}(p:n=T.length)(h:tTg K (.tup T) x g H Q):Km K n (B8 K T) x g H Q:=by
 obtain⟨m,S,f,d,b,R,E,vd,e,q⟩:=h;cases d with
 |tup c=>
  simp only[aB] at e;obtain⟨a,j,rfl,o,v⟩:=vd.tups;refine⟨a,j,rfl,.of o,?_,m,S,f,c,b,R,E,v,e,q⟩
  have len:∀ (T:List Tg) (c:List D) (f b:Rho),aQ T c f=aa b->T.length=c.length:=by
   intro T
   induction T with
   |nil=>intro c f b e;cases c with |nil=>rfl |cons _ _=>simp[aQ] at e
   |cons t T I=>
    intro c f b e;cases c with
    |nil=>simp[aQ] at e
    |cons d c=>
     simp only[aQ] at e;split at e
     ·simp[I _ _ _ e]
     ·cases e
  rw[p,<-v.length];exact(len _ _ _ _ e).symm
 |_=>simp[aB] at e
def F1(h:B8 K [] xs b H Q):Kl xs b H Q:=by
 obtain⟨m,S,g,f,c,R,E,vd,e,q⟩:=h;cases f with
 |nil=>simp[aQ] at e;subst e;rw[VDs] at vd;exact⟨vd,q _ E⟩
 |cons _ _=>simp[aQ] at e
def B9(h:B8 K (t::T) xs j H Q):xl (tTg K t) (B8 K T) xs j H Q:=by
 obtain⟨m,S,g,f,c,R,E,vd,e,q⟩:=h;cases f with
 |nil=>simp[aQ] at e
 |cons d f=>
  simp only[aQ] at e;rw[VDs] at vd;obtain⟨y,r,rfl,p,u⟩:=vd;cases hb:aB t d g with
  |none=>rw[hb] at e;cases e
  |some b=>
   rw[hb] at e;exact⟨y,r,rfl,m,S,g,d,b,R,E,p,hb,λn o=>⟨m,S,b,f,c,R,o,u,e,q⟩⟩
def PG.imp(h:PG X e t)(f:∀x b H Q,t' x b H Q->t x b H Q):PG X e t':=λp s b H v u Q I r q=>h p s b H v u Q I r (f v b H Q q)
def PGs.imp(h:PGs X E t)(f:∀x b H Q,t' x b H Q->t x b H Q):PGs X E t':=λp s b H v u Q I r q=>h p s b H v u Q I r (f v b H Q q)
end
inductive Fl where
 |nx |bk |ct |rt (d:D)
@[inline]abbrev XS:=Rho->Sto->Option (Fl × Rho × Sto)
abbrev tJ(K:Vf)(m:List Addr)(H:Hp)(f:Fl)(c:Rho)(D:Ends):Prop:=match f with
 |.nx=>∀b,EnvR K m H c b->D.nx b H
 |.bk=>∀b,EnvR K m H c b->D.bk b H
 |.ct=>∀b,EnvR K m H c b->D.ct b H
 |.rt d=>∀v,VD K m H d v->D.rt v H
abbrev tSt(K:Vf)(x:XS):TS:=λD n H=>∃m f S g b j,EnvR K m H f n/\Rel K m S H/\x f S=aa (g,b,j)/\∀c h,Aft K m H j c h->tJ K c h g b D
section
variable {X:Cx} {K:Vf} {m:List Addr} {H:Hp} {S:Sto}
abbrev vR(x y:XS):XS:=λb S=>match x b S with
 |none=>aD
 |some (.nx,ρ1,S1)=>y ρ1 S1
 |some r=>aa r
abbrev Jr:XS:=λb S=>aa (.nx,b,S)
def F2{D:Ends}{b:L2.St}{H:Hp}(h:tSt K Jr D b H):Jb D b H:=by
 obtain⟨m,f,S,g,c,j,E,R,e,q⟩:=h;cases e;exact q m H (Aft.refl R) b E
def Lv{x y:XS}{D:Ends}{n:L2.St}{H:Hp}(h:tSt K (vR x y) D n H):Pj (tSt K x) (tSt K y) D n H:=by
 obtain⟨m,u,S,v,f,L,E,R,e,q⟩:=h;unfold vR at e;cases g:x u S with
 |none=>rw[g] at e;cases e
 |some r=>
  obtain⟨p,b,o⟩:=r;rw[g] at e;refine⟨m,u,S,p,b,o,E,R,g,λm1 j c=>?_⟩;cases p with
  |nx=>exactλz C=>⟨m1,b,o,v,f,L,C,c.rel,e,λJ I B=>q J I (c.trans B)⟩
  |bk=>cases e;exact q m1 j c
  |ct=>cases e;exact q m1 j c
  |rt d=>cases e;exact q m1 j c
abbrev tK(x:XE):XS:=λb S=>match x b S with
 |none=>aD
 |some (_,S1)=>aa (.nx,b,S1)
abbrev Ca(x:XE):XS:=λb S=>match x b S with
 |none=>aD
 |some (d,S1)=>aa (.rt d,b,S1)
abbrev P5:XS:=λb S=>aa (.ct,b,S)
def F3{x:XE}{D:Ends}{b:L2.St}{H:Hp}(h:tSt K (tK x) D b H):Jd (tE K x) D b H:=by
 obtain⟨m,f,S,o,j,u,E,R,e,q⟩:=h;unfold tK at e;cases c:x f S with
 |none=>rw[c] at e;cases e
 |some r=>
  obtain⟨d,p⟩:=r;rw[c] at e;cases e;exact⟨m,f,S,d,_,E,R,c,λm1 n v g _=>q m1 n g b (E.mono R g.ext)⟩
def Lx{x:XE}{D:Ends}{c:L2.St}{H:Hp}(h:tSt K (Ca x) D c H):Pk (tE K x) D c H:=by
 obtain⟨m,f,S,p,g,u,E,R,e,q⟩:=h;unfold Ca at e;cases b:x f S with
 |none=>rw[b] at e;cases e
 |some r=>
  obtain⟨d,o⟩:=r;rw[b] at e;cases e;exact⟨m,f,S,d,_,E,R,b,λm1 n v j vd=>q m1 n j v vd⟩
def Ly{D:Ends}{b:L2.St}{H:Hp}(h:tSt K P5 D b H):Jc D b H:=by
 obtain⟨m,f,S,g,c,j,E,R,e,q⟩:=h;cases e;exact q m H (Aft.refl R) b E
abbrev xIf(c:XT)(x y:XS):XS:=λf S=>match c f S with
 |none=>aD
 |some (b,S1)=>if b=aN then x f S1 else y f S1
def P6{c:XT}{x y:XS}{D:Ends}{z:L2.St}{H:Hp}(h:tSt K (xIf c x y) D z H):Pl (tT K c) (tSt K x) (tSt K y) D z H:=by
 obtain⟨m,j,S,B,g,C,E,R,e,q⟩:=h;unfold xIf at e;cases u:c j S with
 |none=>rw[u] at e;cases e
 |some r=>
  obtain⟨b,v⟩:=r;rw[u] at e;dsimp only at e;refine⟨m,j,S,b,v,E,R,u,λm1 I f=>?_⟩;dsimp only;split
  ·rename_i hb;rw[if_pos hb] at e;exact⟨m1,j,v,B,g,C,E.mono R f.ext,f.rel,e,λp o n=>q p o (f.trans n)⟩
  ·rename_i hb;rw[if_neg hb] at e;exact⟨m1,j,v,B,g,C,E.mono R f.ext,f.rel,e,λp o n=>q p o (f.trans n)⟩
abbrev nt(x:XE)(t:Tg):XS:=λc S=>match x c S with
 |none=>aD
 |some (d,S1)=>(aB t d c).map λb=>(.nx,b,S1)
def vS{x:XE}{t:Tg}{D:Ends}{j:L2.St}{H:Hp}(h:tSt K (nt x t) D j H):uM (tE K x) (tTg K t) D j H:=by
 obtain⟨m,b,S,y,n,B,E,R,e,q⟩:=h;unfold nt at e;cases c:x b S with
 |none=>rw[c] at e;cases e
 |some r=>
  obtain⟨d,z⟩:=r;rw[c] at e;dsimp only at e;cases hb:aB t d b with
  |none=>rw[hb] at e;cases e
  |some p=>
   rw[hb] at e;cases e;exact⟨m,b,S,d,_,E,R,c,λm1 u v g vd=>⟨m1,_,b,d,_,g.rel,E.mono R g.ext,vd,hb,λf o=>q m1 u g f o⟩⟩
abbrev tL(v o i:XE):XS:=λb S=>match v b S with
 |none=>aD
 |some (dv,S1)=>match o b S1 with
  |none=>aD
  |some (d_o,S2)=>match i b S2 with
   |none=>aD
   |some (di,S3)=>(fc d_o di dv S3).map λc=>(.nx,b,c)
def F4{v o i:XE}{D:Ends}{j:L2.St}{H:Hp}(h:tSt K (tL v o i) D j H):uM (tE K v) (AY (tE K o) (tE K i) (B6 K)) D j H:=by
 obtain⟨m,c,S,fl,U,S',E,R,e,q⟩:=h;unfold tL at e;cases O:v c S with
 |none=>rw[O] at e;cases e
 |some r1=>
  obtain⟨B,p⟩:=r1;rw[O] at e;dsimp only at e;cases n:o c p with
  |none=>rw[n] at e;cases e
  |some r2=>
   obtain⟨J,Q⟩:=r2;rw[n] at e;dsimp only at e;cases z:i c Q with
   |none=>rw[z] at e;cases e
   |some r3=>
    obtain⟨I,u⟩:=r3;rw[z] at e;dsimp only at e;cases h4:fc J I B u with
    |none=>rw[h4] at e;cases e
    |some S4=>
     rw[h4] at e;cases e;refine⟨m,c,S,B,p,E,R,O,λm1 H1 v1 f L=>⟨m1,c,p,J,Q,E.mono R f.ext,f.rel,n,λm2 H2 v2 b C=>⟨m2,c,Q,I,u,E.mono R (f.trans b).ext,b.rel,z,λZ H3 v3 g y=>?_⟩⟩⟩;exact⟨Z,u,J,I,B,_,g.rel,C.mono b.rel g.ext,y,L.mono f.rel (b.trans g).ext,h4,λm4 Y T=>q m4 Y (((f.trans b).trans g).trans T) j (E.mono R (((f.trans b).trans g).trans T).ext)⟩
abbrev nu(c:D)(o i:XE)(b:Rho)(S:Sto):Option Sto:=match o b S with
 |none=>aD
 | some r=>(match i b r.2 with
  |none=>aD
  | some u=>fc r.1 u.1 c u.2)
def zM(h:nu g o i b S=aa S4):∃r u,o b S=aa r/\i b r.2=aa u/\fc r.1 u.1 g u.2=aa S4:=by
 unfold nu at h;cases f:o b S with
 |none=>rw[f] at h;cases h
 |some r=>
  rw[f] at h;dsimp only at h;cases c:i b r.2 with
  |none=>rw[c] at h;cases h
  |some u=>rw[c] at h;exact⟨r,u,rfl,c,h⟩
abbrev F5:D->Option (D × D)
 |.tup [a,b]=>aa (a,b)
 |_=>aD
abbrev Cb(v o i q j:XE):XS:=λb S=>match v b S with
 |none=>aD
 | some r=>(match F5 r.1 with
  |none=>aD
  | some d=>(match nu d.1 o i b r.2 with
   |none=>aD
   | some f=>(nu d.2 q j b f).map λc=>(.nx,b,c)))
def Cc(E:EnvR K m H j n)(R:Rel K m S H)(vd:VD K m H p v)(h:nu p o i j S=aa z)(q:∀L y,Aft K m H z L y->Q n y):AY (tE K o) (tE K i) (B6 K) v n H Q:=by
 obtain⟨r,u,T,C,J⟩:=zM h;exact⟨m,j,S,r.1,r.2,E,R,T,λm1 H1 Y b g=>⟨m1,j,r.2,u.1,u.2,E.mono R b.ext,b.rel,C,λU H2 Z c f=>⟨U,u.2,r.1,u.1,p,z,c.rel,g.mono b.rel c.ext,f,vd.mono R (b.trans c).ext,J,λO I B=>q O I ((b.trans c).trans B)⟩⟩⟩
def Lz{v o i q j:XE}{D:Ends}{u:L2.St}{H:Hp}(h:tSt K (Cb v o i q j) D u H):uM (tE K v) (Km K 2 (xl (AY (tE K o) (tE K i) (B6 K)) (xl (AY (tE K q) (tE K j) (B6 K)) Kl))) D u H:=by
 obtain⟨m,n,S,fl,L,S',E,R,e,z⟩:=h;unfold Cb at e;cases I:v n S with
 |none=>rw[I] at e;cases e
 |some r=>
  rw[I] at e;dsimp only at e;cases c:F5 r.1 with
  |none=>rw[c] at e;cases e
  |some d=>
   rw[c] at e;dsimp only at e;cases C:nu d.1 o i n r.2 with
   |none=>rw[C] at e;cases e
   |some Y=>
    rw[C] at e;dsimp only at e;cases h4:nu d.2 q j n Y with
    |none=>rw[h4] at e;cases e
    |some S3=>
     rw[h4] at e;cases e
     have hd:r.1 = .tup [d.1,d.2]:=by
      unfold F5 at c;split at c
      ·rename_i a b e;rw[e];cases c;rfl
      ·cases c
     refine⟨m,n,S,r.1,r.2,E,R,I,λm1 H1 w f vd=>?_⟩;rw[hd] at vd;obtain⟨p,vs,rfl,U,B⟩:=vd.tups;obtain⟨x,y,rfl,Q,Z⟩:=vC B;refine⟨p,[x,y],rfl,.of U,rfl,x,[y],rfl,Cc (E.mono R f.ext) f.rel Q C λm2 H2 g=>⟨y,[],rfl,Cc (E.mono R (f.trans g).ext) g.rel (Z.mono f.rel g.ext) h4 λT O J=>⟨rfl,?_⟩⟩⟩;exact z T O ((f.trans g).trans J) u (E.mono R ((f.trans g).trans J).ext)
abbrev dM(nx:Nxt)(T:Tg)(b:XS):Nat->Nat->XS
 |0,_=>λ_ _=>aD
 |k+1,i=>λf S=>match nx i S with
  |none=>aD
  |some aD=>aa (.nx,f,S)
  |some (aa d)=>match aB T d f with
   |none=>aD
   |some c=>match b c S with
    |none=>aD
    |some (.nx,ρ2,S2)=>dM nx T b k (i+1) ρ2 S2
    |some (.ct,ρ2,S2)=>dM nx T b k (i+1) ρ2 S2
    |some (.bk,ρ2,S2)=>aa (.nx,ρ2,S2)
    |some (.rt d,ρ2,S2)=>aa (.rt d,ρ2,S2)
abbrev Cd(I:XI)(T:Tg)(b:XS)(k:Nat):XS:=λc S=>match I c S with
 |none=>aD
 |some (nx,S1)=>dM nx T b k 0 c S1
abbrev lpW(K:Vf)(nx:Nxt)(T:Tg)(b:XS)(m1:List Addr)(p:Hp)(D:Ends)(i k:Nat)(o:L2.St)(H:Hp):Prop:=∃m g S j c n,EnvR K m H g o/\Rel K m S H/\Ext m1 p m H/\dM nx T b k i g S=aa (j,c,n)/\∀f h,Aft K m H n f h->tJ K f h j c D
def xX{nx:Nxt}{T:Tg}{b:XS}{tb:TS}{J:It}{m1:List Addr}{U:Hp}{D:Ends}(hI:IOk K [] J nx m1 U)(hbd:∀ {m:List Addr} {j:Rho} {S:Sto} {g:Fl} {c:Rho} {n:Sto} {D:Ends} {f:L2.St} {H:Hp},Ext m1 U m H->EnvR K m H j f->Rel K m S H->b j S=aa (g,c,n)->(∀u h,Aft K m H n u h->tJ K u h g c D)->tb D f H)(k:Nat){m:List Addr}{j:Rho}{S:Sto}{f:L2.St}{H:Hp}{g:Fl}{c:Rho}{n:Sto}(E:EnvR K m H j f)(R:Rel K m S H)(x:Ext m1 U m H)(e:dM nx T b k 0 j S=aa (g,c,n))(q:∀u h,Aft K m H n u h->tJ K u h g c D) :
  ∃W:Nat->Nat->L2.St->Hp->Prop,(∃m,W 0 m f H)/\∀i m f H,W i m f H ->
   (J.stop i H/\D.nx f H)\/(J.go i H/\∃N:L2.St->Hp->Prop,(∀C h,N C h->∃u,u < m/\W (i+1) u C h)/\∀x h,J.yld i H x h->tTg K T x f h λQ H2=>tb { D with nx:=N,ct:=N,bk:=D.nx } Q H2):=by
 refine⟨lpW K nx T b m1 U D,⟨k,m,j,S,g,c,n,E,R,x,e,q⟩,?_⟩;intro i k f H z;obtain⟨m,j,S,g,c,n,E,R,x,e,q⟩:=z;cases k with
 |zero=>simp[dM] at e
 |succ k=>
  simp only[dM] at e;cases Y:nx i S with
  |none=>rw[Y] at e;cases e
  |some o=>
   rw[Y] at e;obtain⟨h1,h2⟩:=hI m S H i (x.toB λb hb=>absurd hb (by simp)) R;cases o with
   |none=>cases e;exact .inl ⟨h1 Y,q m H (Aft.refl R) f E⟩
   |some d=>
    obtain⟨go,hy⟩:=h2 d Y;dsimp only at e;cases hb:aB T d j with
    |none=>rw[hb] at e;cases e
    |some I=>
     rw[hb] at e;dsimp only at e;cases hx:b I S with
     |none=>rw[hx] at e;cases e
     |some r=>
      obtain⟨f2,L,S2⟩:=r;rw[hx] at e;refine .inr ⟨go,lpW K nx T b m1 U D (i+1) k,λC h z=>⟨k,Xn k,z⟩,λy h yl=>?_⟩;obtain⟨A,vd⟩:=hy y h yl;refine⟨m,S,j,d,I,A.rel,E.mono R A.ext,vd,hb,λQ E2=>hbd (x.trans A.ext) E2 A.rel hx λZ H3 p=>?_⟩;cases f2 with
      |nx=>exactλB O=>⟨Z,L,S2,g,c,n,O,p.rel,(x.trans A.ext).trans p.ext,e,λm4 H4 A4=>q m4 H4 ((A.trans p).trans A4)⟩
      |ct=>exactλB O=>⟨Z,L,S2,g,c,n,O,p.rel,(x.trans A.ext).trans p.ext,e,λm4 H4 A4=>q m4 H4 ((A.trans p).trans A4)⟩
      |bk=>cases e;exactλB O=>q Z H3 (A.trans p) B O
      |rt d=>cases e;exactλv vd=>q Z H3 (A.trans p) v vd
def LA{I:XI}{T:Tg}{b:XS}{k:Nat}{D:Ends}{g:L2.St}{H:Hp}(h:tSt K (Cd I T b k) D g H):Pp (tIt K [] I) (tTg K T) (tSt K b) D g H:=by
 obtain⟨m,j,S,z,n,C,E,R,e,q⟩:=h;unfold Cd at e;cases c:I j S with
 |none=>rw[c] at e;cases e
 |some r=>
  obtain⟨nx,o⟩:=r;rw[c] at e;exact⟨m,j,S,nx,o,E,R,λb hb=>absurd hb (by simp),c,λm1 B J f u=>xX u (λ_ E R e q=>⟨_,_,_,_,_,_,E,R,e,q⟩) k (E.mono R f.ext) f.rel (Ext.refl _ _) e λy v p=>q y v (f.trans p)⟩
noncomputable abbrev kI(i:Int):Key:=Sum.inl i
abbrev zN(p:Nat)(b c:D)(S:Sto):Option Sto:=match b with
 | .int i=>(match S[p]? with
  |some (.dic ks ds)=>if (ks.all λa=>decide (a ≠ kI i))=aN/\ks.length < 1000 then aa (S.set p (.dic (ks++[kI i]) (ds++[c]))) else aD
  | _=>aD)
 |_=>aD
abbrev vT(p:Nat)(k v:XE):XS:=λb S=>match k b S with
 |none=>aD
 |some (dk,S1)=>match v b S1 with
  |none=>aD
  |some (dv,S2)=>(zN p dk dv S2).map λc=>(.nx,b,c)
abbrev zO(i own:Nat)(I:XI)(T:Tg)(k v:XE)(n:Nat):XS:=λb S=>match I b S with
 |none=>aD
 |some (nx,S1)=>match dM nx T (vT S1.length k v) n 0 (b++Zq own aD) (S1++[.dic [] []]) with
  |some (.nx,_,S2)=>aa (.nx,b.set i (aa (.ref S1.length)),S2)
  |_=>aD
end
mutual
noncomputable def dY:Tg->Rho->Bool
 |.name i,ρ=>match ρ[i]? with
  |some aD=>aN
  |_=>aT
 |.tup ts,ρ=>gu ts ρ
noncomputable def gu:List Tg->Rho->Bool
 |[],_=>aN
 |t::ts,ρ=>dY t ρ && gu ts ρ
end
structure LeR(ρ ρ':Rho):Prop where
 len:ρ.length=ρ'.length
 at_:∀ (i:Nat) (d:D),ρ[i]?=aa (aa d)->ρ'[i]?=aa (aa d)
def LeR.refl(ρ:Rho):LeR ρ ρ:=⟨rfl,λ_ _ h=>h⟩
mutual
theorem tM:∀ {t:Tg} {d:D} {g b:Rho},LeR c g->dY t c=aN->aB t d g=aa b->LeR c b
 |.name i,d,g,b,l,f,e=>by
  simp only[aB] at e;split at e
  ·cases e;refine⟨by simp[l.len],λj o h=>?_⟩;rw[YL];by_cases n:i=j
   ·subst n;simp only[dY] at f;rw[h] at f;cases f
   ·rw[if_neg n];exact l.at_ j o h
  ·cases e
 |.tup ts,.tup ds,g,b,l,f,e=>by
  simp only[aB] at e;simp only[dY] at f;exact pW l f e
 |.tup ts,.non,_,_,_,_,e=>by simp[aB] at e
 |.tup ts,.bl _,_,_,_,_,e=>by simp[aB] at e
 |.tup ts,.int _,_,_,_,_,e=>by simp[aB] at e
 |.tup ts,.str _,_,_,_,_,e=>by simp[aB] at e
 |.tup ts,.ref _,_,_,_,_,e=>by simp[aB] at e
theorem pW:∀ {T:List Tg} {h:List D} {c b:Rho},LeR g c->gu T g=aN->aQ T h c=aa b->LeR g b
 |[],[],c,b,l,_,e=>by simp only[aQ] at e;cases e;exact l
 |[],_::_,_,_,_,_,e=>by simp[aQ] at e
 |_::_,[],_,_,_,_,e=>by simp[aQ] at e
 |t::T,d::h,c,b,l,f,e=>by
  simp only[aQ] at e;simp only[gu,bAE] at f;cases hb:aB t d c with
  |none=>rw[hb] at e;cases e
  |some j=>rw[hb] at e;exact pW (tM l f.1 hb) f.2 e
end
section
variable {X:Cx} {K:Vf} {m:List Addr} {H:Hp} {S:Sto}
def EnvR.weaken(E:EnvR K m H b σ)(l:LeR c b):EnvR K m H c σ:=⟨l.len.trans E.len,λi d h=>E.at_ i d (l.at_ i d h)⟩
abbrev bA(nx:Nxt)(T:Tg)(c:XA)(f:Rho):Nat->Nat->Sto->Option (List D × Sto)
 |0,_,_=>aD
 |k+1,i,S=>match nx i S with
  |none=>aD
  |some aD=>aa ([],S)
  |some (aa d)=>match aB T d f with
   |none=>aD
   |some b=>bnd (c b S) λE g=>bnd (bA nx T c f k (i+1) g) λh j=>aa (E++h,j)
abbrev Ce(t:XT)(c:XA):XA:=λg S=>bnd (t g S) λb f=>if b=aN then c g f else aa ([],f)
abbrev Js(x:XE):XA:=λc S=>bnd (x c S) λd b=>aa ([d],b)
abbrev j7(I:XI)(T:Tg)(c:XA)(k:Nat):XA:=λb S=>if dY T b=aN then bnd (I b S) λnx f=>bA nx T c b k 0 f else aD
abbrev nv(own:Nat)(I:XI)(T:Tg)(c:XA)(k:Nat):XA:=λb S=>bnd (I b S) λnx f=>if dY T (b++Zq own aD)=aN then
 (bnd (bA nx T c (b++Zq own aD) k 0 f) λE g=>if E.length<=100000 then aa (E,g) else aD) else aD
abbrev tCl(K:Vf)(b:Addr)(c:XA):TS:=λD p H=>∃m j S E o z n,EnvR K m H j p/\Rel K m S H/\b ∉ m/\H b=aa (.lst n)/\VDs K m H z n/\z.length+E.length<=100000/\c j S=aa (E,o) ∧
 ∀g h f v,ExtB [b] m H g h->Rel K g o h->h b=aa (.lst v)->VDs K g h (z++E) v->EnvR K g h j f->D.nx f h
def Cf(h:H c=aa (.lst vs))(n:c ∉ m):AtB [c] m H:=λb hb=>by simp at hb;subst hb;exact⟨⟨vs,h⟩,n⟩
def ExtB.refl(n:c ∉ m):ExtB [c] m H m H:=⟨Ym m,λ_ _ h _ _=>h,λ_ h n=>absurd h n,λb hb=>by simp at hb;subst hb;exact n⟩
def ExtB.put(n:c ∉ m)(o:HO):ExtB [c] m H m (upd H c o):=⟨Ym m,λa u h _ nb=>by
 rw[aG (λz=>nb (by simp[z]))];exact h,λ_ h n=>absurd h n,λb hb=>by simp at hb;subst hb;exact n⟩
def Rel.extB(R:Rel K m S H)(h:AtB [f] m H)(x:ExtB [f] m H m H')(k:∀b ∈ m,H' b=H b):Rel K m S H':=by
 refine⟨R.len,R.nd,λi o e=>?_⟩;obtain⟨b,hb,r⟩:=R.ob i o e;have c:b ∈ m:=Zi hb;refine⟨b,hb,?_⟩;cases o with
 |lst g=>obtain⟨v,p,q⟩:=r;exact⟨v,(k b c).trans p,VDs.monoB R h x q⟩
 |frz g=>obtain⟨o,v,p,q⟩:=r;exact⟨o,v,(k b c).trans p,VDs.monoB R h x q⟩
 |dic j g=>obtain⟨v,p,l,q⟩:=r;exact⟨v,(k b c).trans p,l,VDs.monoB R h x q⟩
def F6{c:Addr}{x:XE}{D:Ends}{u:L2.St}{H:Hp}(h:tCl K c (Js x) D u H):Jn c (tE K x) D u H:=by
 obtain⟨m,Q,S,T,S',Z,p,E,R,C,B,y,O,e,q⟩:=h;obtain⟨d,U,J,e⟩:=aj e;cases e;refine⟨m,Q,S,d,_,E,R,J,λm1 I v g vd=>?_⟩;have L:=Cf B C;have j:I c=aa (.lst p):=g.ext.keep _ _ B C;have xB:=g.ext.toB L;have n:c ∉ m1:=xB.nb c (by simp);have o:=ExtB.put (H:=I) n (.lst (p++[v]));have f:=Cf j n;have Y:=y.length;simp only[ZO] at O;refine⟨p,j,by rw[Ue];lia,q m1 _ u (p++[v]) (xB.trans o) (g.rel.extB f o λb hb=>aG λz=>n (z ▸ hb)) aH ?_ ((E.mono R g.ext).monoB g.rel f o)⟩;exact VDs.append ((y.mono R g.ext).monoB g.rel f o) (.cons (vd.monoB g.rel f o) .nil)
def F7{f:Addr}{t:XT}{c:XA}{D:Ends}{n:L2.St}{H:Hp}(h:tCl K f (Ce t c) D n H):eY (tT K t) (tCl K f c) D n H:=by
 obtain⟨m,B,S,Q,S',Z,v,E,R,I,C,y,hl,e,q⟩:=h;obtain⟨b,z,L,e⟩:=aj e;refine⟨m,B,S,b,z,E,R,L,λm1 J g=>?_⟩;have U:=Cf C I;have j:J f=aa (.lst v):=g.ext.keep _ _ C I;have xB:=g.ext.toB U;have p:f ∉ m1:=xB.nb f (by simp);dsimp only;split
 ·rename_i hb;rw[if_pos hb] at e;exact⟨m1,B,z,Q,S',Z,v,E.mono R g.ext,g.rel,p,j,y.mono R g.ext,hl,e,λm2 H2 o u x2 R2 O T Y=>q m2 H2 o u (xB.trans x2) R2 O T Y⟩
 ·rename_i hb;rw[if_neg hb] at e;cases e;refine q m1 J n v xB g.rel j ?_ (E.mono R g.ext);rw[ZY];exact y.mono R g.ext
def tN{t:TS}{D:Ends}{b:L2.St}{H:Hp}(h:t D b H):eY zm t D b H:=by
 show if aN=aN then t D b H else D.nx b H
 rw[if_pos rfl];exact h
def LB{b:Addr}{c:XA}{D:Ends}{f:L2.St}{H:Hp}(h:tCl K b c D f H):eY zm (tCl K b c) D f H:=by
 exact tN h
abbrev clW(K:Vf)(b:Addr)(nx:Nxt)(T:Tg)(c:XA)(j:Rho)(m1:List Addr)(q:Hp)(u:Ends)(i k:Nat)(p:L2.St)(H:Hp):Prop:=∃m S o E z n,EnvR K m H j p/\Rel K m S H/\ExtB [b] m1 q m H/\H b=aa (.lst n)/\VDs K m H z n/\z.length+E.length<=100000/\bA nx T c j k i S=aa (E,o)/\∀g h f v,ExtB [b] m H g h->Rel K g o h->h b=aa (.lst v)->VDs K g h (z++E) v->EnvR K g h j f->u.nx f h
def xY(hI:IOk K [b] J nx m1 H1)(Z:∀D j H,tCl K b c D j H->ts D j H)(k:Nat)
  (fr:dY T f=aN) (E:EnvR K m H f j) (R:Rel K m S H) (x:ExtB [b] m1 H1 m H) (p:H b=aa (.lst vs)) (u:VDs K m H zs vs) (Y:zs.length+B.length<=100000) (e:bA nx T c f k 0 S=aa (B,S'))
  (q:∀I h g v,ExtB [b] m H I h->Rel K I S' h->h b=aa (.lst v)->VDs K I h (zs++B) v->EnvR K I h f g->U.nx g h):sL J (tTg K T) ts U j H:=by
 refine⟨clW K b nx T c f m1 H1 U,⟨k,m,S,S',B,zs,vs,E,R,x,p,u,Y,e,q⟩,?_⟩;intro i k j H z;obtain⟨m,S,S',B,zs,vs,E,R,x,p,u,Y,e,q⟩:=z;have L:b ∉ m:=x.nb b (by simp);have hB:=Cf p L;cases k with
 |zero=>simp[bA] at e
 |succ k=>
  simp only[bA] at e;cases C:nx i S with
  |none=>rw[C] at e;cases e
  |some o=>
   rw[C] at e;obtain⟨h1,h2⟩:=hI m S H i x R;cases o with
   |none=>
    cases e;exact .inl ⟨h1 C,q m H j vs (ExtB.refl L) R p (by rw[ZY];exact u) E⟩
   |some d=>
    obtain⟨go,hy⟩:=h2 d C;dsimp only at e;cases hb:aB T d f with
    |none=>rw[hb] at e;cases e
    |some n=>
     rw[hb] at e;dsimp only at e;obtain⟨e1,S1,c1,e⟩:=aj e;obtain⟨rs,S2,c2,e⟩:=aj e;cases e;rw[Zn] at Y;refine .inr ⟨go,clW K b nx T c f m1 H1 U (i+1) k,λg h z=>⟨k,Xn k,z⟩,λy h yl=>?_⟩;obtain⟨A,vd⟩:=hy y h yl;have xA:=A.ext.toB hB;have ha':h b=aa (.lst vs):=A.ext.keep _ _ p L;refine⟨m,S,f,d,n,A.rel,E.mono R A.ext,vd,hb,λσ2 E2=>Z _ _ _ ⟨m,n,S,e1,S1,zs,vs,E2,A.rel,L,ha',u.mono R A.ext,by lia,c1,λm3 H3 σ3 O x3 R3 h3 v3 E3=>?_⟩⟩;refine⟨m3,S1,_,rs,zs++e1,O,E3.weaken (tM (LeR.refl f) fr hb),R3,(x.trans xA).trans x3,h3,v3,by rw[Zn];lia,c2,λm4 H4 Q vs4 x4 R4 h4 v4 E4=>?_⟩;refine q m4 H4 Q vs4 ((xA.trans x3).trans x4) R4 h4 ?_ E4;rw[<-Z8];exact v4
def Cg{b:Addr}{I:XI}{T:Tg}{t:TT}{c C:XA}{k:Nat}{D:Ends}{f:L2.St}{H:Hp}(j:∀D f H,tCl K b c D f H->eY t (tCl K b C) D f H)(h:tCl K b (j7 I T c k) D f H):BC (tIt K [b] I) (tTg K T) t (tCl K b C) D f H:=by
 obtain⟨m,ρ,S,es,S',zs,vs,E,R,y,u,L,Y,e,q⟩:=h;unfold j7 at e;split at e
 ·rename_i fr;obtain⟨nx,Q,z,e⟩:=aj e;have p:=Cf u y;refine⟨m,ρ,S,nx,Q,E,R,p,z,λm1 H1 J g Z=>?_⟩;have xB:=g.ext.toB p;have o:b ∉ m1:=xB.nb b (by simp);exact xY Z j k fr (E.mono R g.ext) g.rel (ExtB.refl o) (g.ext.keep _ _ u y) (L.mono R g.ext) Y e λm2 H2 n v x2 R2 B O U=>q m2 H2 n v (xB.trans x2) R2 B O U
 ·cases e
def EnvR.more(E:EnvR K m H b c)(n:Nat):EnvR K m H (b++Zq n aD) (c++Zq n aD):=by
 refine⟨by simp[E.len],λi d e=>?_⟩;by_cases h:i < b.length
 ·rw[Zv h] at e;rw[Zv (by rw[<-E.len];exact h)];exact E.at_ i d e
 ·rw[Zp (by lia),Yd] at e;split at e <;> cases e
def xZ{own:Nat}{k:Nat}(y:∀acc D u H,tCl K acc c D u H->eY t (tCl K acc c') D u H)(h:eZ K (nv own it tg c k) u H Q):PL own (tIt K [] it) (tTg K tg) (λacc=>eY t (tCl K acc c')) u H Q:=by
 obtain⟨m,ρ,S,es,S',E,R,e,q⟩:=h;obtain⟨nx,S1,U,e⟩:=aj e;split at e
 ·rename_i fr;obtain⟨es',O,e2,e⟩:=aj e;split at e
  ·rename_i hl;cases e;refine⟨m,ρ,S,nx,S1,E,R,λb hb=>absurd hb (by simp),U,λm1 T J g hI acc f=>?_⟩;have x0:=Ext.beside g.rel f (.lst []);have R0:=g.rel.beside f (.lst []);have C:=g.rel.no f
   have B:IOk K [acc] J nx m1 (upd T acc (.lst [])):=by
    intro v O H2 i j R2;refine hI v O H2 i ⟨j.pre,λa o h n _=>?_,λa h n=>?_,λb hb=>absurd hb (by simp)⟩ R2
    ·have ne:a ≠ acc:=aU h f;exact j.keep a o (by rw[aG ne];exact h) n (by simp[ne])
    ·have:=j.new a h n;by_cases p:a=acc
     ·subst p;exact f
     ·rw[aG p] at this;exact this
   refine xY (zs:=[]) (vs:=[]) B (y acc) k fr ((E.mono R g.ext |>.mono g.rel x0).more own) R0 (ExtB.refl C) aH .nil (by simpa using hl) e2 λv H2 σ2 I j R2 Y Z E2=>?_
   have xx:Ext m1 T v H2:=⟨j.pre,λa o h n=>by
    have ne:a ≠ acc:=aU h f;exact j.keep a o (by rw[aG ne];exact h) n (by simp[ne]),λa h n=>by
    have:=j.new a h n;by_cases p:a=acc
    ·subst p;exact f
    ·rw[aG p] at this;exact this⟩
   have hn:H acc=aD:=by
    cases eh:H acc with
    |none=>rfl
    |some o=>
     by_cases L:acc ∈ m
     ·exact absurd (g.ext.pre.subset L) C
     ·have:=g.ext.keep acc o eh L;rw[f] at this;cases this
   exact q v H2 acc I (g.trans ⟨xx,R2⟩) Y (j.nb acc (by simp)) (λb hb z=>C (g.ext.pre.subset (z ▸ hb))) hn (by simpa using Z)
  ·cases e
 ·cases e
end
section
variable {X:Cx} {K:Vf} {m:List Addr} {H:Hp} {S:Sto}
abbrev Ch(x y:XE):XE:=λc S=>bnd (x c S) λd b=>match d with
 |.bl aN=>y c b
 |.bl aT=>aa (.bl aT,b)
 |_=>aD
abbrev xOr(x y:XE):XE:=λc S=>bnd (x c S) λd b=>match d with
 |.bl aN=>aa (.bl aN,b)
 |.bl aT=>y c b
 |_=>aD
abbrev zP:D->Sto->Option (D × Sto)
 |.bl b,S=>aa (.bl (!b),S)
 |_,_=>aD
abbrev LC:D->Sto->Option (D × Sto)
 |.int i,S=>aa (.int (-i),S)
 |_,_=>aD
def Ci(h:tE K (Ch x y) j H Q):IY (tE K x) (tE K y) j H Q:=by
 obtain⟨m,f,S,d,C,E,R,e,q⟩:=h;obtain⟨a,g,p,e⟩:=aj e;refine⟨m,f,S,a,g,E,R,p,λm1 B v c u=>?_⟩;cases a with
 |bl b=>
  refine⟨b,u.bls,?_⟩;cases b with
  |true=>exact⟨m1,f,g,d,C,E.mono R c.ext,c.rel,e,λz o w n vd=>q z o w (c.trans n) vd⟩
  |false=>cases e;exact q m1 B _ c cK
 |_=>cases e
def Jt(h:tE K (xOr x y) j H Q):Ph (tE K x) (tE K y) j H Q:=by
 obtain⟨m,f,S,d,C,E,R,e,q⟩:=h;obtain⟨a,g,p,e⟩:=aj e;refine⟨m,f,S,a,g,E,R,p,λm1 B v c u=>?_⟩;cases a with
 |bl b=>
  refine⟨b,u.bls,?_⟩;cases b with
  |false=>exact⟨m1,f,g,d,C,E.mono R c.ext,c.rel,e,λz o w n vd=>q z o w (c.trans n) vd⟩
  |true=>cases e;exact q m1 B _ c cK
 |_=>cases e
def LG(h:tE K (xUn zP x) c H Q):IZ (tE K x) c H Q:=by
 obtain⟨m,j,S,d,u,E,R,e,q⟩:=h;obtain⟨a,n,f,e⟩:=aj e;refine⟨m,j,S,a,n,E,R,f,λm1 p v o g=>?_⟩;cases a with
 |bl b=>cases e;exact⟨b,g.bls,q m1 p _ o cK⟩
 |_=>cases e
def F8:UnR X (unaryOp .USub) (rS1 X.K LC):=by
 intro p s b H x v Q I c h;refine A9 p s b H x v Q I c ?_;obtain⟨m,S,a,d,g,R,f,e,q⟩:=h;cases a with
 |int i=>cases e;exact⟨i,f.ints,q m H _ (Aft.refl R) bx⟩
 |_=>cases e
abbrev zQ(f g:D->D->Sto->Option (D × Sto))(x y z:XE):XE:=λh S=>bnd (x h S) λa o=>bnd (y h o) λb p=>bnd (f a b p) λr j=>match r with
 |.bl aN=>bnd (z h j) λc n=>g b c n
 |.bl aT=>aa (.bl aT,j)
 |_=>aD
def Cj(h:tE K (zQ f g x y z) T H Q):uQ (rS K f) (rS K g) (tE K x) (tE K y) (tE K z) T H Q:=by
 obtain⟨m,B,S,d,S',E,R,e,q⟩:=h;obtain⟨a,C,U,e⟩:=aj e;obtain⟨b,L,e2,e⟩:=aj e;obtain⟨r,I,Z,e⟩:=aj e;refine⟨m,B,S,a,C,E,R,U,λm1 H1 v n va=>⟨m1,B,C,b,L,E.mono R n.ext,n.rel,e2,λm2 H2 w j vb=>?_⟩⟩;refine⟨m2,L,a,b,r,I,j.rel,va.mono n.rel j.ext,vb,Z,λJ H3 u o vr=>?_⟩;cases r with
 |bl k=>
  refine⟨k,vr.bls,?_⟩;cases k with
  |true=>
   dsimp only at e;obtain⟨c,O,Y,e⟩:=aj e;exact⟨J,B,I,c,O,E.mono R ((n.trans j).trans o).ext,o.rel,Y,λm4 H4 y p vc=>⟨m4,O,b,c,d,S',p.rel,vb.mono j.rel (o.trans p).ext,vc,e,λm5 H5 t A5 vd=>q m5 H5 t ((((n.trans j).trans o).trans p).trans A5) vd⟩⟩
  |false=>cases e;exact q J H3 _ ((n.trans j).trans o) cK
 |_=>cases e
abbrev Ck(x y:XT):XT:=λf S=>bnd (x f S) λb c=>if b=aN then y f c else aa (aT,c)
abbrev LH(x y:XT):XT:=λf S=>bnd (x f S) λb c=>if b=aN then aa (aN,c) else y f c
abbrev Cm(x:XT):XT:=λf S=>bnd (x f S) λb c=>aa (!b,c)
def Cn(h:tT K (Ck x y) j H Q):Pf (tT K x) (tT K y) j H Q:=by
 obtain⟨m,f,S,d,z,E,R,e,q⟩:=h;obtain⟨b,g,p,e⟩:=aj e;refine⟨m,f,S,b,g,E,R,p,λm1 v c=>?_⟩;dsimp only;split
 ·rename_i hb;rw[if_pos hb] at e;exact⟨m1,f,g,d,z,E.mono R c.ext,c.rel,e,λu o n=>q u o (c.trans n)⟩
 ·rename_i hb;rw[if_neg hb] at e;cases e;exact q m1 v c
def Ju(h:tT K (LH x y) j H Q):tOr (tT K x) (tT K y) j H Q:=by
 obtain⟨m,f,S,d,z,E,R,e,q⟩:=h;obtain⟨b,g,p,e⟩:=aj e;refine⟨m,f,S,b,g,E,R,p,λm1 v c=>?_⟩;dsimp only;split
 ·rename_i hb;rw[if_pos hb] at e;cases e;exact q m1 v c
 ·rename_i hb;rw[if_neg hb] at e;exact⟨m1,f,g,d,z,E.mono R c.ext,c.rel,e,λu o n=>q u o (c.trans n)⟩
def LI(h:tT K (Cm x) c H Q):Pg (tT K x) c H Q:=by
 obtain⟨m,g,S,d,p,E,R,e,q⟩:=h;obtain⟨b,o,f,e⟩:=aj e;cases e;exact⟨m,g,S,b,_,E,R,f,λm1 j n=>q m1 j n⟩
@[inline]abbrev Calls:=Nat->List D->Sto->Option (D × Sto)
abbrev spC(K:Vf)(g:List D->Sto->Option (D × Sto))(n:Nat):Sp:=λj H Q _=>∃m b S d f,VDs K m H b j/\Rel K m S H/\b.length=n/\g b S=aa (d,f)/\∀c h v,Aft K m H f c h->VD K c h d v->Q v h
abbrev tO(g:List D->Sto->Option (D × Sto))(n:Nat)(x:XA):XE:=λf S=>bnd (x f S) λb c=>if b.length=n then g b c else aD
def F9{n:Nat}(h:tE K (tO g n x) j H Q):Ji (spC K g n) [] E0 (tAr K x) j H Q:=by
 obtain⟨m,C,S,d,I,E,R,e,q⟩:=h;obtain⟨c,b,o,e⟩:=aj e;split at e
 ·rename_i p;refine⟨m,C,S,c,b,E,R,o,λm1 L J f vd=>⟨m1,c,b,d,I,by rw[ZY];exact vd,f.rel,p,e,λB y v u z=>q B y v (f.trans u) z⟩⟩
 ·cases e
end
abbrev rgV(a b:Int):List V:=(Ze (b - a).toNat).map λ(i:Nat)=>V.int (a+i)
section
variable {X:Cx}
def rC:aV X (.type "range") (λxs H Q=>∃i j:Int,xs=[.int i,.int j]/\∀p,H p=aD->Q (.ref p) (upd H p (.rng i j))):=by
 intro f s g H xs U Q I r h;obtain⟨i,j,rfl,q⟩:=h;cases r with
 |cons r1 c=>
  cases c with
  |cons r2 c=>
   cases c;obtain⟨t,rfl⟩:=r1;obtain⟨u,rfl⟩:=r2;exact call_range_2 ⟨.ref s.heap.objs.size,_,I.laid (t':=s.toks+1) (o:=.rng i j) (λb o e=>Zk _ e) (Zd _) ⟨_,_,_,ZG _ rfl⟩,rfl,q _ (I.hok.fresh (Zd _))⟩
def x8(lo:Int):∀ (m k:Nat) (l:List Value),l.length=m->(∀ (j:Nat) x,l[j]?=aa x->∃T,x=Value.int (lo+((k+j:Nat):Int)) T)->aO ((List.range' k m).map λ(i:Nat)=>V.int (lo+i)) l
 |0,k,l,hl,_=>by cases l with |nil=>exact .nil |cons _ _=>cases hl
 |m+1,k,l,hl,hx=>by
  cases l with
  |nil=>cases hl
  |cons x l=>
   rw[List.range'_succ,Zz];obtain⟨t,e⟩:=hx 0 x rfl;refine .cons ⟨t,by simpa using e⟩ (x8 lo m (k+1) l (by simpa using hl) λj y h=>?_);obtain⟨b,E⟩:=hx (j+1) y (by simpa using h);exact⟨b,by rw[E,show((k+(j+1):Nat):Int)=((k+1+j:Nat):Int) from by lia]⟩
def pc(C:X.calm=aN):aV X (.type "list") (λxs H Q=>∃ (p:Addr) (a b:Int),xs=[.ref p]/\H p=aa (.rng a b)/\-100000<=a/\a<=b/\b<=a+20000/\a<=100000/\∀l,H l=aD->Q (.ref l) (upd H l (.lst (rgV a b)))):=by
 intro B s Z H xs us Q I r h;obtain⟨p,a,b,rfl,E,h1,h2,h3,h4,q⟩:=h;obtain⟨u,rfl,L⟩:=cI r;cases L;obtain⟨t,u,v,e⟩:=(show bv X.prog X.w H s.heap p (.rng a b) from I.hok p _ E);have z:Builtin.Range.small a b 1=aN:=small_one (by lia) (by lia) (by lia) (by lia);refine call_list_range (n:=(b - a).toNat) (I.ok.hd C) e z (by rw[Ua];split <;> lia) (by lia) λh' O c U Y g f=>?_;refine⟨.ref s.heap.objs.size,_,I.laid (t':=O) (o:=.lst (rgV a b)) Y (Zd _) ?_,rfl,q _ (I.hok.fresh (Zd _))⟩;have y:c.size=(b - a).toNat:=f.1;refine⟨by unfold rgV;rw[Za,Zx];exact by rw[Ue];lia,c.toList,U,?_,by simpa using g⟩;unfold rgV;rw[List.range_eq_range'];refine x8 a _ 0 c.toList (by simpa using y) λj x J=>?_;obtain⟨T,e⟩:=f.2 j x (by simpa using J);exact⟨T,by rw[e,show a+(j:Nat) * 1=a+((0+j:Nat):Int) from by lia]⟩
end
section
variable {X:Cx} {e:Expr} {te:TE} {pos p2 p3 p4:Pos}
def aO.rev:∀ {xs:List V} {u:List Value},aO xs u->aO xs.reverse u.reverse
 |[],_,.nil=>.nil
 |_::_,_,.cons r t=>by rw[YW,YW];exact(aO.rev t).append (.cons r .nil)
def VDs.rev{K:Vf}:∀ {b:List D} {vs:List V},VDs K m H b vs->VDs K m H b.reverse vs.reverse
 |[],vs,h=>by rw[VDs] at h;subst h;exact .nil
 |d::b,vs,h=>by
  rw[VDs] at h;obtain⟨y,r,rfl,p,q⟩:=h;rw[YW,YW];exact(VDs.rev q).append (.cons p .nil)
abbrev vU(d:D)(S:Sto):Option (D × Sto):=match d with
 | .ref n=>(match aP S n with
  |some b=>aa (.ref S.length,S++[.lst b.reverse])
  | none=>aD)
 |_=>aD
def LJ{k:Nat}(he:PE X e te):PE X (.Subscript e (.Slice aD aD (aa (.UnaryOp .USub (.Constant (.int 1) k p3) p4)) p2) pos) (tUn (rS1 X.K vU) te):=by
 intro c s u H Q I h;refine Subscript_ (thn (he c s u H _ I h) λv s1 ⟨x,U,Y,r1,q1⟩=>?_);refine wpAny_Slice ?_;rw[VT];refine UL (UL ?_);refine thn (xv (Jg A9 mz) c s1 u U (λo C=>o=aa (-1)/\C=U) Y ⟨_,rfl,_,rfl,rfl,rfl⟩) λvk j ⟨o,C,I2,Z,ho,hH⟩=>?_;subst ho hH;cases Z with
 |int i T=>
  have y:L2.Inv X c u C { j with heap:=j.heap.push { cls:=.type "slice", data:=.fields #[.none,.none,.int (-1) T] } }:=I2.kept (t':=j.toks) λb ob q=>Zk _ q;obtain⟨m,S,a,d,S',R,va,E,q⟩:=q1;cases a with
  |ref n=>
   simp only[vU] at E;cases B:aP S n with
   |none=>rw[B] at E;cases E
   |some ds=>
    rw[B] at E;cases E;obtain⟨p,L,hp,sq,z⟩:=R.seq B;obtain⟨p',g,rfl⟩:=va.refs;rw[hp] at g;cases g;cases r1;obtain⟨J,r,pl,O⟩:=y.list sq;have f:J.toArray.size=L.length:=by rw[Zm];exact r.length.symm
    refine tail_any (ops:=[.ref p,.ref j.heap.objs.size]) pl.isList.typeIs PySem.slot_list_getitem.lookup (UB pl.isList (Heap.IsSliceOf.new ..) .none .none (.int (-1) T) (by decide) ?_ (by rw[f];exact O)) (by with_unfolding_all rfl);rw[PySem.W.krv_pick];refine⟨.ref _,_,y.laid (o:=.lst L.reverse) (λb ob q=>Zk _ q) (Zd _) ?_,rfl,lP R (VDs.rev z) q _ (y.hok.fresh (Zd _))⟩;exact⟨by rw[List.length_reverse];exact O,_,0,aO.rev r,ZG _ rfl⟩
  |_=>cases E
end
mutual
inductive CE where |non |bl (b:Bool) |int (i:Int) |str (x:Str) |var (i:Nat) |con (k:Nat)(v:Int) |tup (es:List CE) |lst (es:List CE) |dic0 |dic1 (i j:Int) |bin (o:BOp)(a b:CE) |neg (a:CE) |cmp (o:COp)(a b:CE) |chn (o p:COp)(a b c:CE) |and (a b:CE) |or (a b:CE) |not (a:CE) |ix (a b:CE) |sl (a:CE)(lo hi:Option CE) |call (f:Nat)(es:List CE) |inst (t:Ty)(a:CE) |len (a:CE) |all (a:CE) |any (a:CE) |tupOf (a:CE) |listOf (a:CE) |listR (a:CE) |listR2 (a b:CE) |srt (a:CE) |mxL (a:CE) |intOf (a:CE) |rev (a:CE) |mx (a b:CE) |mn (a b:CE) |rep (a:CE) |comp (own:List Str)(elt:CE)(cls:List Cl) |app (o e:CE) |popAt (o e:CE) |ins (o i e:CE) |cnt (o e:CE)
inductive CI where
 |val (a:CE) |r1 (a:CE) |r2 (a b:CE) |en (a:CE)
inductive Cl where
 |mk (tg:Tg) (it:CI) (cond:Option CE)
end
abbrev aq:CE->Bool
 |.lst _=>aN |.comp _ _ _=>aN |.listOf _=>aN |.listR _=>aN |.listR2 _ _=>aN |.srt _=>aN
 |_=>aT
abbrev LF:Nat:=1000000
abbrev xNo{b:Type}:Rho->Sto->Option (b × Sto):=λ_ _=>aD
abbrev nw(x:XE):XA:=λc S=>bnd (x c S) λd b=>(av d b).map λr=>(r.2,b)
abbrev df(T:Bool)(b:List D):Option (List D):=if T=aT then vL T b else aD
abbrev zR(f:Bool->List D->Option (List D))(x:XA):XA:=λb S=>bnd (x b S) λc g=>(f aT c).map λE=>(E,g)
abbrev zS(f:Bool->List D->Option (List D))(x:XE):XA:=λc S=>bnd (x c S) λd b=>match av d b with
 |some r=>(f r.1 r.2).map λE=>(E,b)
 |none=>aD
abbrev pd(i:Int):Key:=Sum.inl i
abbrev zT(x:XE):XA:=λc S=>bnd (x c S) λd b=>match d with
 |.int i=>if 0<=i/\i<=1000 then aa ((Ze i.toNat).map λj=>.int (Int.ofNat j),b) else aD
 |_=>aD
abbrev rgD(a b:Int):List D:=(Ze (b - a).toNat).map λ(i:Nat)=>D.int (a+i)
abbrev pX(x y:XE):XA:=λb S=>bnd (x b S) λd c=>bnd (y b c) λe f=>match d,e with
 |.int i,.int j=>if -100000<=i/\i<=j/\j<=i+20000/\i<=100000 then aa (rgD i j,f) else aD
 |_,_=>aD
abbrev Co:XE:=λ_ S=>aa (.ref S.length,S++[.dic [] []])
abbrev Cp(i j:Int):XE:=λ_ S=>aa (.ref S.length,S++[.dic [pd i] [.int j]])
abbrev cnd(t:CE->XT):Option CE->XA->XA
 |some c,x=>Ce (t c) x
 |none,x=>x
abbrev opt(t:CE->XE):Option CE->XO
 |some l=>vA (t l)
 |none=>vt
mutual
noncomputable def evE(C:Calls)(g:Nat->Nat):Nat->CE->XE
 |0,_=>xNo
 |n+1,e=>match e with
  |.non=>xC .non
  |.bl b=>xC (.bl b)
  |.int i=>xC (.int i)
  |.str x=>xC (.str x)
  |.var i=>zu i
  |.con _ v=>xC (.int v)
  |.tup es=>lx lB (evA C g n es)
  |.lst es=>dz (pQ (evA C g n es))
  |.dic0=>Co
  |.dic1 i j=>Cp i j
  |.bin o a b=>sW (b6 o) (evE C g n a) (evE C g n b)
  |.neg a=>xUn LC (evE C g n a)
  |.cmp o a b=>sW (aC o) (evE C g n a) (evE C g n b)
  |.chn o p a b c=>zQ (aC o) (aC p) (evE C g n a) (evE C g n b) (evE C g n c)
  |.and a b=>Ch (evE C g n a) (evE C g n b)
  |.or a b=>xOr (evE C g n a) (evE C g n b)
  |.not a=>xUn zP (evE C g n a)
  |.ix a b=>if aq a=aN then vo (cQ C g n a) (evE C g n b) else sW ixS (evE C g n a) (evE C g n b)
  |.sl a lo hi=>xSl (evE C g n a) (opt (evE C g n) lo) (opt (evE C g n) hi)
  |.call f es=>tO (C f) (g f) (evA C g n es)
  |.inst t a=>xUn (nc t) (evE C g n a)
  |.len a=>if aq a=aN then sX b7 (cQ C g n a) else sY b7 (evE C g n a)
  |.all a=>if aq a=aN then sX lI (cQ C g n a) else sY lI (evE C g n a)
  |.any a=>if aq a=aN then sX o9 (cQ C g n a) else sY o9 (evE C g n a)
  |.tupOf a=>if aq a=aN then sX j3 (cQ C g n a) else sY j3 (evE C g n a)
  |.listOf a=>dz (if aq a=aN then cQ C g n a else nw (evE C g n a))
  |.listR a=>dz (zT (evE C g n a))
  |.listR2 a b=>dz (pX (evE C g n a) (evE C g n b))
  |.srt a=>dz (if aq a=aN then zR df (cQ C g n a) else zS df (evE C g n a))
  |.mxL a=>if aq a=aN then sX lJ (cQ C g n a) else sY lJ (evE C g n a)
  |.intOf a=>xUn B5 (evE C g n a)
  |.rev a=>xUn vU (evE C g n a)
  |.mx a b=>lx (two BX) (evA C g n [a,b])
  |.mn a b=>lx (two BZ) (evA C g n [a,b])
  |.rep a=>xUn ip (evE C g n a)
  | .comp own elt cls=>dz (match cls with
   |[]=>xNo
   | ⟨tg,it,cond⟩::rest=>nv own.length (evI C g n it) tg (cnd (evT C g n) cond (im C g n elt rest)) LF)
  |.app o a=>zI fb vN (evE C g n o) (evA C g n [a])
  |.popAt o a=>zI fb fD (evE C g n o) (evA C g n [a])
  |.ins o i a=>zI fb vQ (evE C g n o) (evA C g n [i,a])
  |.cnt o a=>zI (λd _=>isTup d) vO (evE C g n o) (evA C g n [a])
noncomputable def evA(C:Calls)(b:Nat->Nat):Nat->List CE->XA
 |0,_=>xNo
 |n+1,es=>match es with
  |[]=>FI
  |e::es=>xP (evE C b n e) (evA C b n es)
noncomputable def cQ(C:Calls)(c:Nat->Nat):Nat->CE->XA
 |0,_=>xNo
 |n+1,e=>match e with
  |.lst es=>pQ (evA C c n es)
  |.listOf a=>if aq a=aN then cQ C c n a else nw (evE C c n a)
  |.listR a=>zT (evE C c n a)
  |.listR2 a b=>pX (evE C c n a) (evE C c n b)
  |.srt a=>if aq a=aN then zR df (cQ C c n a) else zS df (evE C c n a)
  |.comp own elt cls=>match cls with
   |[]=>xNo
   |⟨tg,it,cond⟩::rest=>nv own.length (evI C c n it) tg (cnd (evT C c n) cond (im C c n elt rest)) LF
  |_=>xNo
noncomputable def im(C:Calls)(b:Nat->Nat):Nat->CE->List Cl->XA
 |0,_,_=>xNo
 |n+1,elt,cls=>match cls with
  |[]=>Js (evE C b n elt)
  |⟨tg,it,cond⟩::rest=>j7 (evI C b n it) tg (cnd (evT C b n) cond (im C b n elt rest)) LF
noncomputable def evI(C:Calls)(c:Nat->Nat):Nat->CI->XI
 |0,_=>xNo
 |n+1,it=>match it with
  |.val a=>if aq a=aN then xIT (cQ C c n a) else xIV (evE C c n a)
  |.r1 a=>xR1 (evE C c n a)
  |.r2 a b=>xR2 (evE C c n a) (evE C c n b)
  |.en a=>if aq a=aN then xET (cQ C c n a) else xEV (evE C c n a)
noncomputable def evT(C:Calls)(f:Nat->Nat):Nat->CE->XT
 |0,_=>xNo
 |n+1,e=>match e with
  |.cmp o a b=>xB (sW (aC o) (evE C f n a) (evE C f n b))
  |.chn o p a b c=>xB (zQ (aC o) (aC p) (evE C f n a) (evE C f n b) (evE C f n c))
  |.and a b=>Ck (evT C f n a) (evT C f n b)
  |.or a b=>LH (evT C f n a) (evT C f n b)
  |.not a=>Cm (evT C f n a)
  |e=>FQ (evE C f n e)
end
structure Tab where
 con:List (Str × Int)
 fns:List (Str × Nat)
structure Blk where
 sc:Scope
 fs:Option Scope
 N:List Str
abbrev Blk.glo(b:Blk)(x:Str):Bool:=b.sc.names.lookup x == aa .globalImplicit && !(x == ("__debug__" : Str))
abbrev Blk.vis(b:Blk)(x:Str):Bool:=(match b.sc.names.lookup x with
 |some .local=>aN
 |some .cell=>aN
 |some .free=>aN
 | _=>aT) && !(x == ("__debug__" : Str)) && !(x == ("__classdict__" : Str))
abbrev Blk.own(b:Blk)(x:Str):Bool:=match b.sc.names.lookup x with
 |some .local=>aN
 | some .cell=>(match b.fs with
  |none=>aN
  | some sc=>sc.names.lookup x == aa .cell)
 |_=>aT
def bQ{P:Prop}[Decidable P]{f:P->Bool}(h:(if p:P then f p else aT)=aN):∃p,f p=aN:=by
 by_cases p:P
 ·rw[dif_pos p] at h;exact⟨p,h⟩
 ·rw[dif_neg p] at h;cases h
def an2{a b:Bool}(h:(a && b)=aN):a=aN/\b=aN:=by cases a;cases h;exact⟨rfl,h⟩
def an3{a b c:Bool}(h:(a && b && c)=aN):a=aN/\b=aN/\c=aN:=⟨(an2 (an2 h).1).1,(an2 (an2 h).1).2,(an2 h).2⟩
def an4{a b c d:Bool}(h:(a && b && c && d)=aN):a=aN/\b=aN/\c=aN/\d=aN:=⟨(an3 (an2 h).1).1,(an3 (an2 h).1).2.1,(an3 (an2 h).1).2.2,(an2 h).2⟩
def an5{a b c d e:Bool}(h:(a && b && c && d && e)=aN):a=aN/\b=aN/\c=aN/\d=aN/\e=aN:=⟨(an4 (an2 h).1).1,(an4 (an2 h).1).2.1,(an4 (an2 h).1).2.2.1,(an4 (an2 h).1).2.2.2,(an2 h).2⟩
def an6{a b c d e f:Bool}(h:(a && b && c && d && e && f)=aN):a=aN/\b=aN/\c=aN/\d=aN/\e=aN/\f=aN:=⟨(an5 (an2 h).1).1,(an5 (an2 h).1).2.1,(an5 (an2 h).1).2.2.1,(an5 (an2 h).1).2.2.2.1,(an5 (an2 h).1).2.2.2.2,(an2 h).2⟩
abbrev l1{b:Type}(l:List b)(k:b->Bool):Bool:=match l with
 |[]=>aT
 |x::t=>t.isEmpty && k x
abbrev lC{b:Type}(l:List b)(k:b->List b->Bool):Bool:=match l with
 |[]=>aT
 |x::t=>k x t
def cg{b:Type}{l:List b}{k:b->List b->Bool}(h:lC l k=aN):∃x t,l=x::t/\k x t=aN:=by
 cases l with
 |nil=>cases h
 |cons x t=>exact⟨x,t,rfl,h⟩
def cx{b:Type}{l:List b}(h:l.isEmpty=aN):l=[]:=by cases l;rfl;cases h
def cM{b:Type}{l:List b}{k:b->Bool}(h:l1 l k=aN):∃x,l=[x]/\k x=aN:=by
 cases l with
 |nil=>cases h
 |cons x t=>obtain⟨f,c⟩:=an2 h;cases cx f;exact⟨x,rfl,c⟩
abbrev aK(e:Expr):Bool:=!(e.ctorIdx == 22 || e.ctorIdx == 26 || e.ctorIdx == 7)
abbrev rD(e:Expr)(k:BoolOp->List Expr->Pos->Bool):Bool:=if h:e.ctorIdx=0 then @Expr.BoolOp.elim (λ_=>Bool) e h k else aT
def pY{e:Expr}{k:BoolOp->List Expr->Pos->Bool}(h:rD e k=aN):∃b X c,e = .BoolOp b X c/\k b X c=aN:=by
 obtain⟨f,h⟩:=bQ h;exact Expr.BoolOp.elim (motive_1:=λe=>∀g,@Expr.BoolOp.elim (λ_=>Bool) e g k=aN->∃b X c,e = .BoolOp b X c/\k b X c=aN) e f (λb X c _ j=>⟨b,X,c,rfl,j⟩) f h
abbrev Cq(e:Expr)(k:Expr->W5->Expr->Pos->Bool):Bool:=if h:e.ctorIdx=2 then @Expr.BinOp.elim (λ_=>Bool) e h k else aT
def Cr{e:Expr}{k:Expr->W5->Expr->Pos->Bool}(h:Cq e k=aN):∃b X f c,e = .BinOp b X f c/\k b X f c=aN:=by
 obtain⟨g,h⟩:=bQ h;exact Expr.BinOp.elim (motive_1:=λe=>∀j,@Expr.BinOp.elim (λ_=>Bool) e j k=aN->∃b X f c,e = .BinOp b X f c/\k b X f c=aN) e g (λb X f c _ n=>⟨b,X,f,c,rfl,n⟩) g h
abbrev jq(e:Expr)(k:UnaryOp->Expr->Pos->Bool):Bool:=if h:e.ctorIdx=3 then @Expr.UnaryOp.elim (λ_=>Bool) e h k else aT
def ny{e:Expr}{k:UnaryOp->Expr->Pos->Bool}(h:jq e k=aN):∃b X c,e = .UnaryOp b X c/\k b X c=aN:=by
 obtain⟨f,h⟩:=bQ h;exact Expr.UnaryOp.elim (motive_1:=λe=>∀g,@Expr.UnaryOp.elim (λ_=>Bool) e g k=aN->∃b X c,e = .UnaryOp b X c/\k b X c=aN) e f (λb X c _ j=>⟨b,X,c,rfl,j⟩) f h
abbrev Cs(e:Expr)(k:Expr->Expr->Expr->Pos->Bool):Bool:=if h:e.ctorIdx=5 then @Expr.IfExp.elim (λ_=>Bool) e h k else aT
def Ct{e:Expr}{k:Expr->Expr->Expr->Pos->Bool}(h:Cs e k=aN):∃b X f c,e = .IfExp b X f c/\k b X f c=aN:=by
 obtain⟨g,h⟩:=bQ h;exact Expr.IfExp.elim (motive_1:=λe=>∀j,@Expr.IfExp.elim (λ_=>Bool) e j k=aN->∃b X f c,e = .IfExp b X f c/\k b X f c=aN) e g (λb X f c _ n=>⟨b,X,f,c,rfl,n⟩) g h
abbrev Cu(e:Expr)(k:List (Option Expr)->List Expr->Pos->Bool):Bool:=if h:e.ctorIdx=6 then @Expr.Dict.elim (λ_=>Bool) e h k else aT
def x9{e:Expr}{k:List (Option Expr)->List Expr->Pos->Bool}(h:Cu e k=aN):∃b X c,e = .Dict b X c/\k b X c=aN:=by
 obtain⟨f,h⟩:=bQ h;exact Expr.Dict.elim (motive_1:=λe=>∀g,@Expr.Dict.elim (λ_=>Bool) e g k=aN->∃b X c,e = .Dict b X c/\k b X c=aN) e f (λb X c _ j=>⟨b,X,c,rfl,j⟩) f h
abbrev j8(e:Expr)(k:Expr->List WL->Scope->Pos->Bool):Bool:=if h:e.ctorIdx=8 then @Expr.ListComp.elim (λ_=>Bool) e h k else aT
def kJ{e:Expr}{k:Expr->List WL->Scope->Pos->Bool}(h:j8 e k=aN):∃b X f c,e = .ListComp b X f c/\k b X f c=aN:=by
 obtain⟨g,h⟩:=bQ h;exact Expr.ListComp.elim (motive_1:=λe=>∀j,@Expr.ListComp.elim (λ_=>Bool) e j k=aN->∃b X f c,e = .ListComp b X f c/\k b X f c=aN) e g (λb X f c _ n=>⟨b,X,f,c,rfl,n⟩) g h
abbrev pZ(e:Expr)(k:Expr->Expr->List WL->Scope->Pos->Bool):Bool:=if h:e.ctorIdx=10 then @Expr.DictComp.elim (λ_=>Bool) e h k else aT
def tP{e:Expr}{k:Expr->Expr->List WL->Scope->Pos->Bool}(h:pZ e k=aN):∃b X g f c,e = .DictComp b X g f c/\k b X g f c=aN:=by
 obtain⟨j,h⟩:=bQ h;exact Expr.DictComp.elim (motive_1:=λe=>∀n,@Expr.DictComp.elim (λ_=>Bool) e n k=aN->∃b X g f c,e = .DictComp b X g f c/\k b X g f c=aN) e j (λb X g f c _ o=>⟨b,X,g,f,c,rfl,o⟩) j h
abbrev nz(e:Expr)(k:Expr->List CmpOp->List Expr->Pos->Bool):Bool:=if h:e.ctorIdx=15 then @Expr.Compare.elim (λ_=>Bool) e h k else aT
def nB{e:Expr}{k:Expr->List CmpOp->List Expr->Pos->Bool}(h:nz e k=aN):∃b X f c,e = .Compare b X f c/\k b X f c=aN:=by
 obtain⟨g,h⟩:=bQ h;exact Expr.Compare.elim (motive_1:=λe=>∀j,@Expr.Compare.elim (λ_=>Bool) e j k=aN->∃b X f c,e = .Compare b X f c/\k b X f c=aN) e g (λb X f c _ n=>⟨b,X,f,c,rfl,n⟩) g h
abbrev ya(e:Expr)(k:Expr->List Expr->List Keyword->Pos->Bool):Bool:=if h:e.ctorIdx=16 then @Expr.Call.elim (λ_=>Bool) e h k else aT
def yb{e:Expr}{k:Expr->List Expr->List Keyword->Pos->Bool}(h:ya e k=aN):∃b X f c,e = .Call b X f c/\k b X f c=aN:=by
 obtain⟨g,h⟩:=bQ h;exact Expr.Call.elim (motive_1:=λe=>∀j,@Expr.Call.elim (λ_=>Bool) e j k=aN->∃b X f c,e = .Call b X f c/\k b X f c=aN) e g (λb X f c _ n=>⟨b,X,f,c,rfl,n⟩) g h
abbrev dm(e:Expr)(k:Const->Nat->Pos->Bool):Bool:=if h:e.ctorIdx=19 then @Expr.Constant.elim (λ_=>Bool) e h k else aT
def cN{e:Expr}{k:Const->Nat->Pos->Bool}(h:dm e k=aN):∃b X c,e = .Constant b X c/\k b X c=aN:=by
 obtain⟨f,h⟩:=bQ h;exact Expr.Constant.elim (motive_1:=λe=>∀g,@Expr.Constant.elim (λ_=>Bool) e g k=aN->∃b X c,e = .Constant b X c/\k b X c=aN) e f (λb X c _ j=>⟨b,X,c,rfl,j⟩) f h
abbrev nD(e:Expr)(k:Expr->Str->Pos->Bool):Bool:=if h:e.ctorIdx=20 then @Expr.Attribute.elim (λ_=>Bool) e h k else aT
def rE{e:Expr}{k:Expr->Str->Pos->Bool}(h:nD e k=aN):∃b X c,e = .Attribute b X c/\k b X c=aN:=by
 obtain⟨f,h⟩:=bQ h;exact Expr.Attribute.elim (motive_1:=λe=>∀g,@Expr.Attribute.elim (λ_=>Bool) e g k=aN->∃b X c,e = .Attribute b X c/\k b X c=aN) e f (λb X c _ j=>⟨b,X,c,rfl,j⟩) f h
abbrev cy(e:Expr)(k:Expr->Expr->Pos->Bool):Bool:=if h:e.ctorIdx=21 then @Expr.Subscript.elim (λ_=>Bool) e h k else aT
def cj{e:Expr}{k:Expr->Expr->Pos->Bool}(h:cy e k=aN):∃b X c,e = .Subscript b X c/\k b X c=aN:=by
 obtain⟨f,h⟩:=bQ h;exact Expr.Subscript.elim (motive_1:=λe=>∀g,@Expr.Subscript.elim (λ_=>Bool) e g k=aN->∃b X c,e = .Subscript b X c/\k b X c=aN) e f (λb X c _ j=>⟨b,X,c,rfl,j⟩) f h
abbrev Cv(e:Expr)(k:Str->Pos->Bool):Bool:=if h:e.ctorIdx=23 then @Expr.Name.elim (λ_=>Bool) e h k else aT
def yc{e:Expr}{k:Str->Pos->Bool}(h:Cv e k=aN):∃b X,e = .Name b X/\k b X=aN:=by
 obtain⟨c,h⟩:=bQ h;exact Expr.Name.elim (motive_1:=λe=>∀f,@Expr.Name.elim (λ_=>Bool) e f k=aN->∃b X,e = .Name b X/\k b X=aN) e c (λb X _ g=>⟨b,X,rfl,g⟩) c h
abbrev Jv(e:Expr)(k:List Expr->Pos->Bool):Bool:=if h:e.ctorIdx=24 then @Expr.List.elim (λ_=>Bool) e h k else aT
def Ga{e:Expr}{k:List Expr->Pos->Bool}(h:Jv e k=aN):∃b X,e = .List b X/\k b X=aN:=by
 obtain⟨c,h⟩:=bQ h;exact Expr.List.elim (motive_1:=λe=>∀f,@Expr.List.elim (λ_=>Bool) e f k=aN->∃b X,e = .List b X/\k b X=aN) e c (λb X _ g=>⟨b,X,rfl,g⟩) c h
abbrev Cw(e:Expr)(k:List Expr->Nat->Pos->Bool):Bool:=if h:e.ctorIdx=25 then @Expr.Tuple.elim (λ_=>Bool) e h k else aT
def Cy{e:Expr}{k:List Expr->Nat->Pos->Bool}(h:Cw e k=aN):∃b X c,e = .Tuple b X c/\k b X c=aN:=by
 obtain⟨f,h⟩:=bQ h;exact Expr.Tuple.elim (motive_1:=λe=>∀g,@Expr.Tuple.elim (λ_=>Bool) e g k=aN->∃b X c,e = .Tuple b X c/\k b X c=aN) e f (λb X c _ j=>⟨b,X,c,rfl,j⟩) f h
abbrev vV(e:Expr)(k:Option Expr->Option Expr->Option Expr->Pos->Bool):Bool:=if h:e.ctorIdx=26 then @Expr.Slice.elim (λ_=>Bool) e h k else aT
def tQ{e:Expr}{k:Option Expr->Option Expr->Option Expr->Pos->Bool}(h:vV e k=aN):∃b X f c,e = .Slice b X f c/\k b X f c=aN:=by
 obtain⟨g,h⟩:=bQ h;exact Expr.Slice.elim (motive_1:=λe=>∀j,@Expr.Slice.elim (λ_=>Bool) e j k=aN->∃b X f c,e = .Slice b X f c/\k b X f c=aN) e g (λb X f c _ n=>⟨b,X,f,c,rfl,n⟩) g h
abbrev vW(e:Expr):Bool:=!(e.ctorIdx == 22 || ya e λf E b _=>f.ctorIdx == 23 && E.isEmpty && b.isEmpty)
abbrev Gb(e:Expr):Bool:=!(e.ctorIdx == 0 || e.ctorIdx == 5 || e.ctorIdx == 15 || jq e λo _ _=>decide (o = .Not))
abbrev jr(own N:List Str):List Nat:=(Ze N.length).filter λi=>match N[i]? with
 |some x=>own.contains x
 |none=>aT
abbrev Blk.inner(b:Blk)(own:List Str)(c:Scope):Blk:=⟨gh c b.sc,aa c,dr (jr own b.N) b.N++own⟩
abbrev zU(e:Expr):Option (Str × Pos):=if h:e.ctorIdx=23 then aa (@Expr.Name.elim (λ_=>Str × Pos) e h λx p=>(x,p)) else aD
abbrev tR(e:Expr):Option (List Expr × Nat × Pos):=if h:e.ctorIdx=25 then aa (@Expr.Tuple.elim (λ_=>List Expr × Nat × Pos) e h λE k p=>(E,k,p)) else aD
def Jw{b:Type}{P:Prop}[Decidable P]{f:P->b}{r:b}(h:(if p:P then aa (f p) else aD)=aa r):∃p,f p=r:=by
 by_cases p:P
 ·rw[dif_pos p] at h;cases h;exact⟨p,rfl⟩
 ·rw[dif_neg p] at h;cases h
def lY{e:Expr}{x:Str}{p:Pos}(h:zU e=aa (x,p)):e = .Name x p:=by
 obtain⟨b,h⟩:=Jw h;exact Expr.Name.elim (motive_1:=λe=>∀c,Expr.Name.elim (motive_1:=λ_=>Str × Pos) e c (λx p=>(x,p))=(x,p)->e = .Name x p) e b (λ_ _ _ f=>by cases f;rfl) b h
def jt{e:Expr}{E:List Expr}{k:Nat}{p:Pos}(h:tR e=aa (E,k,p)):e = .Tuple E k p:=by
 obtain⟨b,h⟩:=Jw h;exact Expr.Tuple.elim (motive_1:=λe=>∀c,Expr.Tuple.elim (motive_1:=λ_=>List Expr × Nat × Pos) e c (λE k p=>(E,k,p))=(E,k,p)->e = .Tuple E k p) e b (λ_ _ _ _ f=>by cases f;rfl) b h
abbrev oA{b:Type}(o:Option b)(k:b->Bool):Bool:=match o with
 |some r=>k r
 |none=>aT
def ju{b:Type}{o:Option b}{k:b->Bool}(h:oA o k=aN):∃r,o=aa r/\k r=aN:=by
 cases o with
 |none=>cases h
 |some r=>exact⟨r,rfl,h⟩
def Gc{a b:Bool}(h:(a || b)=aN):a=aN\/b=aN:=by cases a;exact .inr h;exact .inl rfl
mutual
noncomputable def tS(b:Blk)(e:Expr):Tg->Bool
 |.name i=>oA (zU e) λr=>b.N[i]? == aa r.1 && b.own r.1
 |.tup ts=>oA (tR e) λr=>nI b r.1 ts
noncomputable def nI(b:Blk)(E:List Expr):List Tg->Bool
 |[]=>E.isEmpty
 |t::ts=>lC E λe E=>tS b e t && aK e && nI b E ts
end
abbrev P7(e:Expr):Bool:=dm e λc _ _=>decide (c = .none)
abbrev sBl(v:Bool)(e:Expr):Bool:=dm e λc _ _=>decide (c = .bool v)
abbrev zV(v:Int)(e:Expr):Bool:=dm e λc _ _=>decide (c = .int v)
abbrev zW(v:Str)(e:Expr):Bool:=dm e λc _ _=>decide (c = .str v)
abbrev iq(k:Str->Bool)(e:Expr):Bool:=Cv e λx _=>k x
abbrev LK(k:List Expr->Bool)(e:Expr):Bool:=Cw e λE _ _=>k E
abbrev zX(k:List Expr->Bool)(e:Expr):Bool:=Jv e λE _=>k E
abbrev Gd(o:W5)(k l:Expr->Bool)(e:Expr):Bool:=Cq e λx op y _=>decide (op=o) && k x && l y
abbrev LL(k:Expr->Bool)(e:Expr):Bool:=jq e λo x _=>decide (o = .USub) && k x
abbrev Gf(k:Expr->Bool)(e:Expr):Bool:=jq e λo x _=>decide (o = .Not) && k x
abbrev Gg(o:CmpOp)(k l:Expr->Bool)(e:Expr):Bool:=nz e λx os Y _=>l1 os λop=>l1 Y λy=>decide (op=o) && k x && l y && aK y
abbrev LM(o p:CmpOp)(k l m:Expr->Bool)(e:Expr):Bool:=nz e λx os Y _=>lC os λop os=>l1 os λO=>lC Y λy Y=>l1 Y λz=>decide (op=o) && decide (O=p) && k x && l y && m z && aK z
abbrev zY(o:BoolOp)(k l:Expr->Bool)(e:Expr):Bool:=rD e λop v _=>lC v λx v=>l1 v λy=>decide (op=o) && k x && l y
abbrev Cz(o:BoolOp)(k l:Expr->Bool)(e:Expr):Bool:=rD e λop v p=>lC v λx v=>lC v λy v=>lC v λz Y=>decide (op=o) && k x && l (.BoolOp o (y::z::Y) p)
abbrev P8(k l m:Expr->Bool)(e:Expr):Bool:=Cs e λx y z _=>k x && l y && m z
abbrev sIx(k l:Expr->Bool)(e:Expr):Bool:=cy e λx y _=>k x && l y && aK y
abbrev sSl(k:Expr->Bool)(l m:Option Expr->Bool)(e:Expr):Bool:=cy e λx s _=>vV s λy z w _=>w.isNone && k x && l y && m z
abbrev P9(k:Expr->Bool)(e:Expr):Bool:=cy e λx s _=>vV s λy z w _=>y.isNone && z.isNone && k x && oA w λe=>LL (zV 1) e
abbrev sCN(e:Expr)(k:Str->List Expr->List Keyword->Bool):Bool:=ya e λf E b _=>Cv f λx _=>k x E b
abbrev CA(k:Str->Bool)(l:List Expr->Bool)(e:Expr):Bool:=sCN e λx E b=>lC E λe E=>b.isEmpty && k x && l (e::E)
abbrev vX(b:Blk)(f:Str)(k:List Expr->Bool)(e:Expr):Bool:=sCN e λx E c=>lC E λe E=>c.isEmpty && x == f && b.glo x && k (e::E)
abbrev b9(b:Blk)(f:Str)(k:Expr->Bool)(e:Expr):Bool:=sCN e λx E c=>l1 E λe=>c.isEmpty && x == f && b.glo x && k e && aK e
abbrev nJ(b:Blk)(f:Str)(k l:Expr->Bool)(e:Expr):Bool:=sCN e λx E g=>lC E λe E=>l1 E λc=>g.isEmpty && (x == f && b.glo x && k e && aK e && l c && aK c)
abbrev zZ(m:Str)(k:Expr->Bool)(l:List Expr->Bool)(e:Expr):Bool:=ya e λf E c p=>nD f λx b g=>c.isEmpty && b == m && vW x && (g.endLine == p.line) && k x && l E
abbrev Jx(k:Expr->Expr->Expr->List Expr->List WL->Scope->Bool)(e:Expr):Bool:=j8 e λe c b _=>lC c λg c=>decide (g.is_async=0) && k e g.target g.iter g.ifs c b
abbrev Jy(e:Expr):Bool:=Cu e λb v _=>b.isEmpty && v.isEmpty
abbrev Jz(k l:Expr->Bool)(e:Expr):Bool:=Cu e λb v _=>l1 b λx=>l1 v λy=>match x with
 |some x=>k x && l y
 |none=>aT
def dZ{x y:Str}(h:(x == y)=aN):x=y:=eq_of_beq h
section
variable {e:Expr} {k l m:Expr->Bool}
def LN(h:P7 e=aN):∃a p,e = .Constant .none a p:=by
 obtain⟨c,a,p,rfl,h⟩:=cN h;cases of_decide_eq_true h;exact⟨a,p,rfl⟩
def CB{v:Bool}(h:sBl v e=aN):∃a p,e = .Constant (.bool v) a p:=by
 obtain⟨c,a,p,rfl,h⟩:=cN h;cases of_decide_eq_true h;exact⟨a,p,rfl⟩
def nK{v:Int}(h:zV v e=aN):∃a p,e = .Constant (.int v) a p:=by
 obtain⟨c,a,p,rfl,h⟩:=cN h;cases of_decide_eq_true h;exact⟨a,p,rfl⟩
def vY{v:Str}(h:zW v e=aN):∃a p,e = .Constant (.str v) a p:=by
 obtain⟨c,a,p,rfl,h⟩:=cN h;cases of_decide_eq_true h;exact⟨a,p,rfl⟩
def dg{k:Str->Bool}(h:iq k e=aN):∃x p,e = .Name x p/\k x=aN:=yc h
def CC{k:List Expr->Bool}(h:LK k e=aN):∃x a p,e = .Tuple x a p/\k x=aN:=Cy h
def nP{k:List Expr->Bool}(h:zX k e=aN):∃x p,e = .List x p/\k x=aN:=Ga h
def vZ{o:W5}(h:Gd o k l e=aN):∃x y p,e = .BinOp x o y p/\k x=aN/\l y=aN:=by
 obtain⟨x,op,y,p,rfl,h⟩:=Cr h;obtain⟨b,z⟩:=an3 h;cases of_decide_eq_true b;exact⟨x,y,p,rfl,z⟩
def CD(h:LL k e=aN):∃x p,e = .UnaryOp .USub x p/\k x=aN:=by
 obtain⟨op,x,p,rfl,h⟩:=ny h;obtain⟨b,z⟩:=an2 h;cases of_decide_eq_true b;exact⟨x,p,rfl,z⟩
def v0(h:Gf k e=aN):∃x p,e = .UnaryOp .Not x p/\k x=aN:=by
 obtain⟨op,x,p,rfl,h⟩:=ny h;obtain⟨b,z⟩:=an2 h;cases of_decide_eq_true b;exact⟨x,p,rfl,z⟩
def v5{o:CmpOp}(h:Gg o k l e=aN):∃x y p,e = .Compare x [o] [y] p/\k x=aN/\l y=aN/\aK y=aN:=by
 obtain⟨x,os,Y,p,rfl,h⟩:=nB h;obtain⟨op,rfl,h⟩:=cM h;obtain⟨y,rfl,h⟩:=cM h;obtain⟨b,z⟩:=an4 h;cases of_decide_eq_true b;exact⟨x,y,p,rfl,z⟩
def CF{o p:CmpOp}(h:LM o p k l m e=aN):∃x y z q,e = .Compare x [o,p] [y,z] q/\k x=aN/\l y=aN/\m z=aN/\aK z=aN:=by
 obtain⟨x,os,Y,q,rfl,h⟩:=nB h;obtain⟨op,os,rfl,h⟩:=cg h;obtain⟨O,rfl,h⟩:=cM h;obtain⟨y,Y,rfl,h⟩:=cg h;obtain⟨z,rfl,h⟩:=cM h;obtain⟨c,b,Z⟩:=an6 h;cases of_decide_eq_true c;cases of_decide_eq_true b;exact⟨x,y,z,q,rfl,Z⟩
def nQ{o:BoolOp}(h:zY o k l e=aN):∃x y p,e = .BoolOp o [x,y] p/\k x=aN/\l y=aN:=by
 obtain⟨op,v,p,rfl,h⟩:=pY h;obtain⟨x,v,rfl,h⟩:=cg h;obtain⟨y,rfl,h⟩:=cM h;obtain⟨b,z⟩:=an3 h;cases of_decide_eq_true b;exact⟨x,y,p,rfl,z⟩
def rF{o:BoolOp}(h:Cz o k l e=aN):∃x y z Y p,e = .BoolOp o (x::y::z::Y) p/\k x=aN/\l (.BoolOp o (y::z::Y) p)=aN:=by
 obtain⟨op,v,p,rfl,h⟩:=pY h;obtain⟨x,v,rfl,h⟩:=cg h;obtain⟨y,v,rfl,h⟩:=cg h;obtain⟨z,v,rfl,h⟩:=cg h;obtain⟨b,Z⟩:=an3 h;cases of_decide_eq_true b;exact⟨x,y,z,v,p,rfl,Z⟩
def LP(h:P8 k l m e=aN):∃x y z p,e = .IfExp x y z p/\k x=aN/\l y=aN/\m z=aN:=by
 obtain⟨x,y,z,p,rfl,h⟩:=Ct h;exact⟨x,y,z,p,rfl,an3 h⟩
def JA(h:sIx k l e=aN):∃x y p,e = .Subscript x y p/\k x=aN/\l y=aN/\aK y=aN:=by
 obtain⟨x,y,p,rfl,h⟩:=cj h;exact⟨x,y,p,rfl,an3 h⟩
def Qa{l m:Option Expr->Bool}(h:sSl k l m e=aN):∃x y z p q,e = .Subscript x (.Slice y z aD p) q/\k x=aN/\l y=aN/\m z=aN:=by
 obtain⟨x,s,q,rfl,h⟩:=cj h;obtain⟨y,z,w,p,rfl,h⟩:=tQ h;obtain⟨b,Z⟩:=an4 h;cases w;exact⟨x,y,z,p,q,rfl,Z⟩;cases b
def LQ(h:P9 k e=aN):∃x n p o b c,e = .Subscript x (.Slice aD aD (aa (.UnaryOp .USub (.Constant (.int 1) n b) c)) o) p/\k x=aN:=by
 obtain⟨x,s,q,rfl,h⟩:=cj h;obtain⟨y,z,w,p,rfl,h⟩:=tQ h;obtain⟨B,g,f,h4⟩:=an4 h;obtain⟨u,rfl,h4⟩:=ju h4;obtain⟨v,c,rfl,j⟩:=CD h4;obtain⟨n,b,rfl⟩:=nK j;cases y <;> cases z <;> first |exact⟨x,n,q,p,b,c,rfl,f⟩ |(cases B;done) |(cases g;done)
def p0{k:Str->List Expr->List Keyword->Bool}(h:sCN e k=aN):∃x p E ks q,e = .Call (.Name x p) E ks q/\k x E ks=aN:=by
 obtain⟨f,E,ks,q,rfl,h⟩:=yb h;obtain⟨x,p,rfl,h⟩:=yc h;exact⟨x,p,E,ks,q,rfl,h⟩
def rG{k:Str->Bool}{l:List Expr->Bool}(h:CA k l e=aN):∃x X E p q,e = .Call (.Name x p) (X::E) [] q/\k x=aN/\l (X::E)=aN:=by
 obtain⟨x,p,E,c,q,rfl,h⟩:=p0 h;obtain⟨X,E,rfl,h⟩:=cg h;obtain⟨b,z⟩:=an3 h;cases cx b;exact⟨x,X,E,p,q,rfl,z⟩
def tU{b:Blk}{f:Str}{k:List Expr->Bool}(h:vX b f k e=aN):∃x E p q,e = .Call (.Name f p) (x::E) [] q/\b.glo f=aN/\k (x::E)=aN:=by
 obtain⟨x,p,E,j,q,rfl,h⟩:=p0 h;obtain⟨X,E,rfl,h⟩:=cg h;obtain⟨g,c,z⟩:=an4 h;cases cx g;cases dZ c;exact⟨X,E,p,q,rfl,z⟩
def a8{b:Blk}{f:Str}(h:b9 b f k e=aN):∃x p q,e = .Call (.Name f p) [x] [] q/\b.glo f=aN/\k x=aN/\aK x=aN:=by
 obtain⟨x,p,E,j,q,rfl,h⟩:=p0 h;obtain⟨X,rfl,h⟩:=cM h;obtain⟨g,c,z⟩:=an5 h;cases cx g;cases dZ c;exact⟨X,p,q,rfl,z⟩
def dB{b:Blk}{f:Str}(h:nJ b f k l e=aN):∃x y p q,e = .Call (.Name f p) [x,y] [] q/\b.glo f=aN/\k x=aN/\aK x=aN/\l y=aN/\aK y=aN:=by
 obtain⟨x,p,E,j,q,rfl,h⟩:=p0 h;obtain⟨X,E,rfl,h⟩:=cg h;obtain⟨y,rfl,h⟩:=cM h;obtain⟨g,Y⟩:=an2 h;obtain⟨c,z⟩:=an6 Y;cases cx g;cases dZ c;exact⟨X,y,p,q,rfl,z⟩
def j9{m:Str}{l:List Expr->Bool}(h:zZ m k l e=aN):∃x b E p,e = .Call (.Attribute x m b) E [] p/\vW x=aN/\(b.endLine == p.line)=aN/\k x=aN/\l E=aN:=by
 obtain⟨f,E,n,p,rfl,h⟩:=yb h;obtain⟨x,j,b,rfl,h⟩:=rE h;obtain⟨g,c,z⟩:=an6 h;cases cx g;cases dZ c;exact⟨x,b,E,p,rfl,z⟩
def yd{k:Expr->Expr->Expr->List Expr->List WL->Scope->Bool}(h:Jx k e=aN):∃E t i ifs g b p,e = .ListComp E (⟨t,i,ifs,0⟩::g) b p/\k E t i ifs g b=aN:=by
 obtain⟨E,g,b,p,rfl,h⟩:=kJ h;obtain⟨⟨t,i,ifs,f⟩,g,rfl,h⟩:=cg h;obtain⟨c,z⟩:=an2 h;cases of_decide_eq_true c;exact⟨E,t,i,ifs,g,b,p,rfl,z⟩
def Gh(h:Jy e=aN):∃p,e = .Dict [] [] p:=by
 obtain⟨f,v,p,rfl,h⟩:=x9 h;obtain⟨c,b⟩:=an2 h;cases cx c;cases cx b;exact⟨p,rfl⟩
def Gi(h:Jz k l e=aN):∃x y p,e = .Dict [aa x] [y] p/\k x=aN/\l y=aN:=by
 obtain⟨b,v,p,rfl,h⟩:=x9 h;obtain⟨x,rfl,h⟩:=cM h;obtain⟨y,rfl,h⟩:=cM h;cases x with
 |none=>cases h
 |some x=>exact⟨x,y,p,rfl,an2 h⟩
end
abbrev CG(f:Expr->CE->Bool)(l:Option Expr):Option CE->Bool
 |none=>l.isNone
 |some c=>oA l λe=>f e c
abbrev CH(f:Expr->CE->Bool)(l:List Expr):Option CE->Bool
 |none=>l.isEmpty
 |some c=>l1 l λe=>f e c
abbrev clC(cls:List Cl)(k:Tg->CI->Option CE->List Cl->Bool):Bool:=match cls with
 |[]=>aT
 |⟨tg,it,cond⟩::rest=>k tg it cond rest
def JB{cls:List Cl}{k:Tg->CI->Option CE->List Cl->Bool}(h:clC cls k=aN):∃T I cond b,cls=⟨T,I,cond⟩::b/\k T I cond b=aN:=by
 cases cls with
 |nil=>cases h
 |cons g b=>obtain⟨T,I,cond⟩:=g;exact⟨T,I,cond,b,rfl,h⟩
mutual
noncomputable def aI(T:Tab):Nat->Blk->Expr->CE->Bool
 |0,_,_,_=>aT
 |n+1,b,e,c=>match c with
  |.non=>P7 e
  |.bl v=>sBl v e
  |.int i=>zV i e
  |.str x=>zW x e
  |.var i=>iq (λx=>b.N[i]? == aa x && b.vis x) e
  |.con k v=>iq (λx=>T.con[k]? == aa (x,v) && b.glo x) e
  |.tup cs=>LK (λE=>eF T n b E cs) e
  |.lst cs=>zX (λE=>eF T n b E cs) e
  |.dic0=>Jy e
  |.dic1 i j=>Jz (zV i) (zV j) e
  |.bin o a c=>Gd o.op (λx=>aI T n b x a) (λx=>aI T n b x c) e
  |.neg a=>LL (λx=>aI T n b x a) e
  |.cmp o a c=>Gg o.op (λx=>aI T n b x a) (λx=>aI T n b x c) e
  |.chn o p a c d=>LM o.op p.op (λx=>aI T n b x a) (λx=>aI T n b x c) (λx=>aI T n b x d) e
  |.and a c=>zY .And (λx=>aI T n b x a) (λx=>aI T n b x c) e || Cz .And (λx=>aI T n b x a) (λx=>aI T n b x c) e
  |.or a c=>zY .Or (λx=>aI T n b x a) (λx=>aI T n b x c) e || Cz .Or (λx=>aI T n b x a) (λx=>aI T n b x c) e
  |.not a=>Gf (λx=>aI T n b x a) e
  |.ix a c=>sIx (λx=>aI T n b x a) (λx=>aI T n b x c) e
  |.sl a lo hi=>sSl (λx=>aI T n b x a) (λl=>CG (aI T n b) l lo) (λl=>CG (aI T n b) l hi) e
  |.call f cs=>CA (λx=>oA T.fns[f]? (λy=>y.1 == x) && b.glo x) (λE=>eF T n b E cs) e
  |.inst t a=>nJ b "isinstance" (λx=>aI T n b x a) (iq λy=>y == Str.ofString t.nm && b.glo y) e
  |.len a=>b9 b "len" (λx=>aI T n b x a) e
  |.all a=>b9 b "all" (λx=>aI T n b x a) e
  |.any a=>b9 b "any" (λx=>aI T n b x a) e
  |.tupOf a=>b9 b "tuple" (λx=>aI T n b x a) e
  |.listOf a=>b9 b "list" (λx=>aI T n b x a) e
  |.listR a=>b9 b "list" (b9 b "range" λx=>aI T n b x a) e
  |.listR2 a c=>b9 b "list" (nJ b "range" (λx=>aI T n b x a) (λx=>aI T n b x c)) e
  |.srt a=>b9 b "sorted" (λx=>aI T n b x a) e
  |.mxL a=>b9 b "max" (λx=>aI T n b x a) e
  |.intOf a=>b9 b "int" (λx=>aI T n b x a) e
  |.rev a=>P9 (λx=>aI T n b x a) e
  |.mx a c=>vX b "max" (λE=>eF T n b E [a,c]) e
  |.mn a c=>vX b "min" (λE=>eF T n b E [a,c]) e
  |.rep a=>b9 b "repr" (λx=>aI T n b x a) e
  |.comp own elt cls=>clC cls λu I cond h=>Jx (λq t i ifs z g=>cmB own (jr own b.N) b.N g b.sc && rH T n b t i I && tS (b.inner own g) t u && CH (fE T n (b.inner own g)) ifs cond && p9 T n (b.inner own g) q z elt h) e
  |.app o a=>zZ "append" (λx=>aI T n b x o) (λE=>eF T n b E [a]) e
  |.popAt o a=>zZ "pop" (λx=>aI T n b x o) (λE=>eF T n b E [a]) e
  |.ins o i a=>zZ "insert" (λx=>aI T n b x o) (λE=>eF T n b E [i,a]) e
  |.cnt o a=>zZ "count" (λx=>aI T n b x o) (λE=>eF T n b E [a]) e
noncomputable def eF(T:Tab):Nat->Blk->List Expr->List CE->Bool
 |0,_,_,_=>aT
 |n+1,b,E,cs=>match cs with
  |[]=>E.isEmpty
  |c::cs=>lC E λe E=>aI T n b e c && aK e && eF T n b E cs
noncomputable def p9(T:Tab):Nat->Blk->Expr->List WL->CE->List Cl->Bool
 |0,_,_,_,_,_=>aT
 |n+1,b,e,c,elt,cls=>match cls with
  |[]=>c.isEmpty && aI T n b e elt
  |⟨tg,it,cond⟩::rest=>lC c λg c=>decide (g.is_async=0) && rH T n b g.target g.iter it && tS b g.target tg && CH (fE T n b) g.ifs cond && p9 T n b e c elt rest
noncomputable def rH(T:Tab):Nat->Blk->Expr->Expr->CI->Bool
 |0,_,_,_,_=>aT
 |n+1,b,t,e,c=>match c with
  |.val a=>aI T n b e a && aK e
  |.r1 a=>b9 b "range" (λx=>aI T n b x a) e
  |.r2 a c=>nJ b "range" (λx=>aI T n b x a) (λx=>aI T n b x c) e
  |.en a=>b9 b "enumerate" (λx=>aI T n b x a) e && LK (λ_=>aN) t
noncomputable def fE(T:Tab):Nat->Blk->Expr->CE->Bool
 |0,_,_,_=>aT
 |n+1,b,e,c=>match c with
  |.cmp o a c=>Gg o.op (λx=>aI T n b x a) (λx=>aI T n b x c) e
  |.chn o p a c d=>LM o.op p.op (λx=>aI T n b x a) (λx=>aI T n b x c) (λx=>aI T n b x d) e
  |.and a c=>zY .And (λx=>fE T n b x a) (λx=>fE T n b x c) e || Cz .And (λx=>fE T n b x a) (λx=>fE T n b x c) e
  |.or a c=>zY .Or (λx=>fE T n b x a) (λx=>fE T n b x c) e || Cz .Or (λx=>fE T n b x a) (λx=>fE T n b x c) e
  |.not a=>Gf (λx=>fE T n b x a) e
  |c=>aI T n b e c && Gb e
end
def fe{T:Tab}{n:Nat}{b:Blk}{t e:Expr}{c:CI}(h:rH T n b t e c=aN)(f:∀e,aK e=aN->∀env x,VW e env x=pure x):∀env x,VW e env x=pure x:=by
 cases n with
 |zero=>cases h
 |succ n=>
  cases c with
  |val a=>exact f e (an2 h).2
  |r1 a=>obtain⟨x,p,q,rfl,_⟩:=a8 h;intro _ _;rfl
  |r2 a c=>obtain⟨x,y,p,q,rfl,_⟩:=dB h;intro _ _;rfl
  |en a=>obtain⟨x,p,q,rfl,_⟩:=a8 (an2 h).1;intro _ _;rfl
abbrev bF(h:Heap)(C:Addr)(B:List Value):Prop:=∃N nm q bs b v sub p c g u o j y z f,h.get? C=aa (VU nm q C N bs B b v sub p c g u o j y z "ValueError.__new__")/\h.Ns N f/\∀n ∈ quN,f n=aD
def bF.keeps(x:bF h C bm)(k:∀b o,h.get? b=aa o->j.get? b=aa o):bF j C bm:=by
 obtain⟨N,nm,q,bs,c,B,sub,v,f,g,y,u,p,E,I,z,hC,hN,n⟩:=x;exact⟨N,nm,q,bs,c,B,sub,v,f,g,y,u,p,E,I,z,k _ _ hC,hN.keeps k,n⟩
section
variable {prog:Program} {w:World} {M:Model} {A:Around} {E:Value->Shared->Prop} {h:Heap} {g:Array W3} {d:Drawn} {t:Nat} {os:OsState} {a C R:Addr} {o:Obj} {vs:Array Value}
def v7(I:n ∈ quN)(hC:bF h C (.ref R::bmV))(hR:bF h R bmV)(v:Uq (.type "ValueError") n=pure y)(hq:Q y ⟨h,g,d,t,os⟩):wpAny M A (Uq (.ref C) n) Q E ⟨h,g,d,t,os⟩:=by
 obtain⟨N,nm,q,bs,z,sn,sub,ab,col,dd,k0,k1,k2,k3,k5,mN,hC,hN,f⟩:=hC;obtain⟨N',X,q',L,j,O,B,ab',u,dd',Z,Y,k2',J,U,T,hR,p,c⟩:=hR;have b:V1 bmV n=pure y:=by rw[typeLookup_eq,PySem.F.excBase_ValueError.mroIs] at v;exact v
 rw[typeLookup_eq];refine Ut (wpAny_mroOf_exc hC ?_);rw[lookupAlong_cons];refine Ut (wpAny_classOwn_exc hC hN ?_);rw[f n I];show wpAny M A (V1 (.ref R::bmV) n) Q E _;rw[lookupAlong_cons];refine Ut (wpAny_classOwn_exc hR p ?_);rw[c n I];show wpAny M A (V1 bmV n) Q E _;rw[b];exact UL hq
def tV:Uq (.type "ValueError") "__class__" = pure (aa (.builtin "object.__class__")):=by rw[typeLookup_type,builtinLookup_eq_fast];kernel_rfl
def LR(hC:bF h C (.ref R::bmV))(n:h.get? a=aa o)(f:o.cls = .ref C)(B:Q (.ok (.ret (.ref C))) ⟨h,g,d,t,os⟩) :
  codeAny (model prog w) A (.call (.builtin "getset_descriptor.__get__") ⟨[.builtin "object.__class__", .ref a,.ref C],[]⟩) Q ⟨h,g,d,t,os⟩:=by
 obtain⟨N,nm,q,bs,j,T,sub,y,u,L,O,I,v,U,J,z,hC,hN,p⟩:=hC;have c:(⟨h,g,d,t,os⟩:Shared).TypeIs (.builtin "object.__class__") "getset_descriptor" := W1
 have b:(Value.ref C :: .ref R::bmV).contains (.type (".".intercalate ("object.__class__".cutAt '.').dropLast))=aN:=by
  rw[PySem.F.owner_object_class,Z3,Z3];rfl
 refine VN PySem.F.slot_gs_get.plain PySem.F.entry_gs_get (PySem.F.slot_gs_get.check _ _ _ _ _ _ _ _ c (PySem.F.args_gs_get _ _ _) ?_)
 repeat (any_goals (first |assumption |(with_reducible refine UG n ?_;rw[f]) |(with_reducible refine UD hC ?_;rw[b]) |wp_step))
 refine⟨Code.quiet_builtin _ (by decide +kernel),codeAny_builtin PySem.F.entry_object_class ?_⟩
 repeat (any_goals (first |assumption |(with_reducible refine UG n ?_;rw[f]) |wp_step))
def CJ(hC:bF h C (.ref R::bmV))(hR:bF h R bmV)(b:h.get? a=aa o)(c:o.cls = .ref C)(p:Q (.done (.ret (.ref C))) ⟨h,g,d,t,os⟩) :
  wpAny (model prog w) A (Builtin.«object.__getattribute__» ⟨[.ref a,.str "__class__" T],[]⟩) Q E ⟨h,g,d,t,os⟩:=by
 have f:(⟨h,g,d,t,os⟩:Shared).TypeIs (.builtin "object.__class__") "getset_descriptor" := W1;have n:=W1;have u:=PySem.F.slot_gs_get.lookup;have q:=PySem.F.slot_gs_set.lookup;have j:("__class__" : Str) ∈ quN:=.tail _ (.tail _ (.tail _ (.head _)))
 repeat (any_goals (first |assumption |(with_reducible refine UG b ?_;rw[c]) |with_reducible refine v7 j hC hR tV ?_ |wp_step))
 refine LR hC b c ?_
 repeat (any_goals (first |assumption |wp_step))
def CK(hC:bF h C (.ref R::bmV))(v:h.get? a=aa o)(p:o.cls = .ref C)(u:Q () ⟨h,g,d,t,os⟩):wpAny M A (checkBuiltinCall "BaseException.__getattribute__" ⟨[.ref a,n],[]⟩) Q E ⟨h,g,d,t,os⟩:=by
 obtain⟨N,nm,q,bs,f,Y,sub,I,y,T,X,L,B,Z,O,J,hC,hN,j⟩:=hC;have z:builtinKind "BaseException.__getattribute__" = aa .slot:=by decide +kernel
 have b:splitId "BaseException.__getattribute__" = aa ("BaseException", "__getattribute__"):=by decide +kernel
 have c:(Value.ref C :: .ref R::bmV).contains (.type "BaseException")=aN:=by rw[Z3,Z3];rfl
 have U:=PySem.F.args_bexc_ga (.ref a) n;simp only[checkBuiltinCall,z,b];refine Ut ?_
 ·unfold isInstance
  repeat (first |(with_reducible refine UG v ?_;rw[p]) |(with_reducible refine UD hC ?_;rw[c]) |wp_step)
  exact u
def Qc(hC:bF h C (.ref R::bmV))(hR:bF h R bmV)(f:h.get? a=aa o)(j:o.cls = .ref C)(p:Q (.ref C) ⟨h,g,d,t,os⟩) :
  wpAny (model prog w) A (getAttrBy (.ref a) (.str "__class__" T) aT) Q E ⟨h,g,d,t,os⟩:=by
 have FB:=PySem.F.attrBase_ValueError;have q:=FB.ga.bind (.ref a);have n:(Value.builtin "BaseException.__getattribute__" == Value.builtin "object.__getattribute__")=aT:=by decide +kernel
 have b:("__getattribute__" : Str) ∈ quN:=.tail _ (.head _);have c:("__getattr__" : Str) ∈ quN:=.tail _ (.tail _ (.head _))
 repeat (any_goals (first |assumption |(with_reducible refine UG f ?_;rw[j]) |with_reducible refine v7 b hC hR FB.ga.lookup ?_ |with_reducible refine v7 c hC hR FB.noGetattr ?_ |wp_step))
 refine VN FB.ga.plain PySem.F.entry_bexc_ga (CK hC f j (CJ hC hR f j ?_))
 repeat (any_goals (first |assumption |wp_step))
def Gj(hC:bF h C (.ref R::bmV))(hR:bF h R bmV)(b:h.get? a=aa o)(c:o.cls = .ref C)(f:Q (aa (.ref C)) ⟨h,g,d,t+1,os⟩):wpAny (model prog w) A (getAttr? (.ref a) "__class__") Q E ⟨h,g,d,t,os⟩:=by
 unfold getAttr? getAttrBy?
 repeat (any_goals (first |assumption |with_reducible apply Qc hC hR b c |wp_step))
end
abbrev qa(h:Heap)(e C:Addr):Prop:=∃o v,h.get? e=aa o/\o.cls = .ref C/\o.data = .fields v
abbrev qb(h:Heap)(D:Addr):Prop:=∃b c sl,h.get? D=aa ⟨.type "type", b,.cls c,sl⟩
section
variable {prog:Program} {w:World} {M:Model} {A:Around} {E:Value->Shared->Prop} {s:Shared} {e C R D:Addr}
def ye{K:Vf}{O:Value}{j:Option Addr}{u:ClassData}{sl:Array (Option Value)}(y:K.lookup C=aa ⟨O,j,.cls u,sl⟩):PySem.W.KitX K (.ref e) (.ref C) (λh=>bF h C (.ref R::bmV)/\bF h R bmV/\qa h e C) where
 ty:=λM h _ ⟨_,_,o,_,f,c,_⟩=>c ▸ (PySem.W.Looks.ld f).andThen .now
 it:=λM h _ ⟨hC,_⟩=>by
  obtain⟨N,nm,q,bs,p,sn,sub,B,v,j,k0,Y,z,k3,Z,L,hC,_⟩:=hC;intro T Q J U k q;unfold isType loadHead;exact Ut (wpAny_loadPart (k _ _ hC) (UL q))
 ne:=λh tp j I n sl X b=>by
  refine Xf.mpr λq=>?_;have e:C=tp:=Value.ref.inj (beq_iff_eq.mp q);subst e;rw[X _ _ y] at b;cases b
 ca:=λ{_ _ _ _ _ s} _ ⟨hC,hR,o,_,f,c,_⟩ hq=>by
  obtain⟨h,g,d,t,os⟩:=s;exact Gj hC hR f c hq
def isx{D:Addr}{Q:Value->Shared->Prop}(hC:bF s.heap C (.ref R::bmV))(hR:bF s.heap R bmV)(he:qa s.heap e C)(T:qb s.heap D)(hr:D ≠ R)(h:∀tk,Q (.bool (C == D)) { s with toks:=tk }) :
  wpAny (model prog w) A (call (.builtin "isinstance") [.ref e,.ref D]) Q E s:=by
 have O:=hC;obtain⟨N,nm,q,bs,c,J,sub,u,n,B,I,v,p,L,y,mN,X,_⟩:=O;obtain⟨j,f,g,hd⟩:=T
 have U:PySem.W.Frag.In [(C,VU nm q C N bs (.ref R::bmV) c J sub u n B I v p L y "ValueError.__new__"),(D,⟨.type "type", j,.cls f,g⟩)] s.heap:=by
  intro b o hb;rw[ZS] at hb;split at hb
  ·rename_i z;cases hb;rw[show b=C from by simpa using z];exact X
  ·rw[ZS] at hb;split at hb
   ·rename_i z;cases hb;rw[show b=D from by simpa using z];exact hd
   ·cases hb
 have l1:XB C [(C,VU nm q C N bs (.ref R::bmV) c J sub u n B I v p L y "ValueError.__new__"),(D,(⟨.type "type", j,.cls f,g⟩:Obj))]=aa (VU nm q C N bs (.ref R::bmV) c J sub u n B I v p L y "ValueError.__new__"):=by
  rw[ZS,beq_self_eq_true]
 refine Vr (ye (R:=R) l1) U ⟨hC,hR,he⟩ ?_ (λz=>nomatch z) h;unfold Vt;by_cases z:C=D
 ·subst z;rw[if_pos (beq_self_eq_true _),beq_self_eq_true]
 ·have Z:(C == D)=aT:=by simpa using z
  rw[if_neg (by simpa using z),Z]
  have l2:XB D [(C,VU nm q C N bs (.ref R::bmV) c J sub u n B I v p L y "ValueError.__new__"),(D,(⟨.type "type", j,.cls f,g⟩:Obj))]=aa ⟨.type "type", j,.cls f,g⟩:=by
   rw[ZS,show(D == C)=aT from by simpa using Ne.symm z,ZS,beq_self_eq_true]
  unfold Vs;dsimp only;rw[if_pos (by unfold Vi PySem.W.typeIn;dsimp only;rw[l2];rfl)];unfold VB Vy Vi;dsimp only;rw[l1];show aa ((Value.ref C :: .ref R::bmV).contains (.ref D))=_;rw[Z3,Z3];have Y:((Value.ref D) == Value.ref C)=aT:=by simpa using Ne.symm z
  have z3:((Value.ref D) == Value.ref R)=aT:=by simpa using hr
  rw[Y,z3];rfl
def isv{Q:Value->Shared->Prop}(hC:bF s.heap C (.ref R::bmV))(hR:bF s.heap R bmV)(O:qa s.heap e C)(h:∀T,Q (.bool aN) { s with toks:=T }) :
  wpAny (model prog w) A (call (.builtin "isinstance") [.ref e,.type "ValueError"]) Q E s:=by
 have n:=hC;obtain⟨N,nm,q,bs,c,B,sub,j,f,v,y,p,g,I,u,U,L,_⟩:=n
 have J:PySem.W.Frag.In [(C,VU nm q C N bs (.ref R::bmV) c B sub j f v y p g I u "ValueError.__new__")] s.heap:=by
  intro b o hb;rw[ZS] at hb;split at hb
  ·rename_i z;cases hb;rw[show b=C from by simpa using z];exact L
  ·cases hb
 have l1:XB C [(C,VU nm q C N bs (.ref R::bmV) c B sub j f v y p g I u "ValueError.__new__")]=aa (VU nm q C N bs (.ref R::bmV) c B sub j f v y p g I u "ValueError.__new__"):=by
  rw[ZS,beq_self_eq_true]
 refine Vr (ye (R:=R) l1) J ⟨hC,hR,O⟩ ?_ (λz=>nomatch z) h;unfold Vt;rw[if_neg (by simp)];unfold Vs;dsimp only;rw[if_pos (by decide +kernel)];unfold VB Vy Vi;dsimp only;rw[l1];show aa ((Value.ref C :: .ref R::bmV).contains (.type "ValueError"))=_;rw[Z3,Z3];rfl
def LS{h:Heap}{g:Array W3}{d:Drawn}{t:Nat}{os:OsState}{Q:Bool->Shared->Prop}(hC:bF h C (.ref R::bmV))(hR:bF h R bmV)(j:qa h e C)(U:Q aN ⟨h,g,d,t,os⟩):wpAny M A (excMatches (.ref e) (.ref R)) Q E ⟨h,g,d,t,os⟩:=by
 obtain⟨N,nm,q,bs,u,sn,sub,ab,Z,dd,k0,k1,k2,k3,k5,mN,hC,_⟩:=hC;obtain⟨N',L,q',B,o,z,v,Y,p,X,T,O,k2',y,J,I,hR,_⟩:=hR;obtain⟨oe,vs,j,b,_⟩:=j;have n:(Value.ref R::bmV).contains (.type "BaseException")=aN:=by rw[Z3];rfl
 have c:(Value.ref C :: .ref R::bmV).contains (.ref R)=aN:=by simp
 have f:=tc_notTuple;unfold excMatches
 repeat (first |(with_reducible refine UG j ?_;rw[b]) |with_reducible refine UG hR ?_ |with_reducible refine UG hC ?_ |(with_reducible refine UD hR ?_;rw[n]) |(with_reducible refine UD hC ?_;rw[c]) |wp_step)
 exact U
end
structure XLeft(P:Program)(w:World)(outer:List Env)(H H':Hp)(s:Shared)(B:Heap)(s':Shared):Prop where
 os:s'.os=s.os
 bare:AllBare s'.gens
 un:Un (frs outer) [] H H' s.heap s'.heap
 keep:∀b o,s.heap.get? b=aa o->H b=aD->b ∉ frs outer->B.get? b=aa o
 there:∀b o,s.heap.get? b=aa o->b ∉ frs outer->∃o',B.get? b=aa o'
 hok:HOk P w H' B
abbrev CXE(P:Program)(w:World):CXT:=λouter H s E f b=>∃e c g h B,f = .ref e/\Heap.FlyingW B outer e c g b.heap/\XLeft P w outer H h s B b/\E c aD h
def Qe:mI (CXE P w) X E0:=λ_ _ _ _ _ _ _ ⟨_,_,_,_,_,_,_,_,h⟩=>h.elim
section
variable {P:Program} {w:World} {outer:List Env} {H H':Hp} {s s':Shared} {B:Heap} {e:Addr} {c a0:Value} {h':Heap}
def XLeft.later(x:XLeft P w outer H H' s B s')(C:Heap.FlyingW B outer e c a0 s'.heap)(f:B.StaysIn h')(v:h'.FunFrames B outer)(u:s'.heap.UpToSlots h'){t:Nat}(E:AllBare g):XLeft P w outer H H' s B ⟨h',g,d,t,s'.os⟩ where
 os:=x.os
 bare:=E
 un:=by
  have sl:∀b o,s'.heap.get? b=aa o->b ∈ frs outer->∃sl,h'.get? b=aa { o with slots:=sl }:=λb o q hb=>by
   obtain⟨_,O,Q,j⟩:=C.2.2.1.mem hb;rw[q] at Q;cases Q;exact u b o q j
  refine⟨λb o q n hb _=>f b o (x.keep b o q n hb),λb o q n hb h=>?_,x.un.free,λb o q h=>?_,x.un.tups,x.un.frzs,x.un.tbls⟩
  ·obtain⟨z,y⟩:=x.un.slot b o q n hb h;obtain⟨Z,p⟩:=sl b _ y hb;exact⟨Z,p⟩
  ·by_cases hb:b ∈ frs outer
   ·obtain⟨_,O,Q,_⟩:=v.mem hb;exact⟨O,Q⟩
   ·obtain⟨O,Q⟩:=x.there b o q hb;exact⟨O,f b O Q⟩
 keep:=x.keep
 there:=x.there
 hok:=x.hok
end
section
variable {P:Program} {w:World} {K:Vf} {mg:Str->Option Value} {base:Heap} {N:List Str} {qual:Str} {scope:Scope} {f:Addr} {cd:Value} {A:Around} {outer:List Env} {s0:Shared} {H0:Hp} {E:XK}
noncomputable abbrev cxE(P:Program)(w:World)(K:Vf)(mg:Str->Option Value)(base:Heap)(N:List Str)(qual:Str)(scope:Scope)(f:Addr)(cd:Value)(A:Around)(outer:List Env)(s0:Shared)(H0:Hp)(E:XK):Cx:=o4 (CXE P w) P w K mg base N qual scope f cd A outer s0 H0 E
def tW:frs (envOfC qual scope s0.heap.objs.size f cd::outer)=s0.heap.objs.size::frs outer:=rfl
def Qg:mI (CXE P w) (cxE P w K mg base N qual scope f cd A outer s0 H0 E) E:=by
 rintro J σ H s _ s' I ⟨e,c,a0,H',B,rfl,L,x,hE⟩;have C:(A.deeper (envOfC qual scope s0.heap.objs.size f cd)).frames=aa (envOfC qual scope s0.heap.objs.size f cd::outer):=I.ok.frames;show wpAny (model P w) (A.deeper (envOfC qual scope s0.heap.objs.size f cd)) (leaving (envOfC qual scope s0.heap.objs.size f cd) (.ref e)) _ _ s'
 have p:∀b o,s0.heap.get? b=aa o->b ∉ frs outer->b ∉ frs (envOfC qual scope s0.heap.objs.size f cd::outer):=λb o q hb T=>by
  rw[tW] at T;rcases Zl.mp T with z |z
  ·exact absurd (Zt q) (by rw[z];exact ZQ _)
  ·exact hb z
 have g:Un (frs outer) [] H0 H s0.heap s.heap:=I.base;refine wpAny_leaves_onW C rfl L λh' X x2=>⟨e,c,a0,H',B,rfl,X,?_,hE⟩;refine⟨x.os.trans I.os,x.bare,⟨λb o q n hb h=>?_,λb o q n hb h=>?_,λb o q n h=>?_,λb o q h=>?_,λb xs q=>x.un.tups b xs (g.tups b xs q),λb o u q=>x.un.frzs b o u (g.frzs b o u q),λb ps q=>?_⟩,λb o q n hb=>?_,λb o q hb=>?_,x.hok⟩
 ·exact X.1 b o (x.keep b o (g.keep b o q n hb h) (g.free b o q n h) (p b o q hb))
 ·obtain⟨z,Q⟩:=g.slot b o q n hb h;obtain⟨z2,j⟩:=x.un.slot b _ Q (g.free b o q n h) (show b ∈ s0.heap.objs.size::frs outer from Zf _ hb) h
  obtain⟨_,O,v,Z⟩:=L.2.2.1.mem (b:=b) (YI.mpr (by
   obtain⟨y,hy,hz⟩:=YI.mp hb;exact⟨y,Zf _ hy,hz⟩))
  rw[j] at v;cases v;obtain⟨z3,q3⟩:=x2 b _ j Z;exact⟨z3,q3⟩
 ·obtain⟨O,Q⟩:=g.there b o q h;exact x.un.free b O Q (g.free b o q n h) h
 ·by_cases hb:b ∈ frs outer
  ·obtain⟨_,O,v,_⟩:=X.2.2.1.mem hb;exact⟨O,v⟩
  ·obtain⟨O,Q⟩:=g.there b o q h;obtain⟨U,j⟩:=x.there b O Q (p b o q hb);exact⟨U,X.1 b U j⟩
 ·obtain⟨m1,Y⟩:=g.tbls b ps q;obtain⟨m2,e2⟩:=x.un.tbls b _ Y;exact⟨m1++m2,by rw[e2,XY]⟩
 ·exact x.keep b o (g.keep b o q n hb (by simp)) (g.free b o q n (by simp)) (p b o q hb)
 ·obtain⟨O,Q⟩:=g.there b o q (by simp);exact x.there b O Q (p b o q hb)
def Qh(I:Inv (cxE P w K mg base N qual scope f cd A outer s0 H0 E) J σ H s)(mk:Heap.MadeExcOf s.heap L e c Y)(hE:E c aD H) :
  (cxE P w K mg base N qual scope f cd A outer s0 H0 E).xe (.ref e) { s with heap:=L }:=by
 have v:(A.deeper (envOfC qual scope s0.heap.objs.size f cd)).frames=aa (envOfC qual scope s0.heap.objs.size f cd::outer):=I.ok.frames;show wpAny (model P w) (A.deeper (envOfC qual scope s0.heap.objs.size f cd)) (leaving (envOfC qual scope s0.heap.objs.size f cd) (.ref e)) _ _ { s with heap:=L };have stk:s.heap.FunFrames base (envOfC qual scope s0.heap.objs.size f cd::outer):=I.stack;have sf:∀b ∈ frs (envOfC qual scope s0.heap.objs.size f cd::outer),H b=aD:=I.stkFree
 have C:∀b o,s0.heap.get? b=aa o->b ∉ frs outer->b ∉ frs (envOfC qual scope s0.heap.objs.size f cd::outer):=λb o q hb p=>by
  rw[tW] at p;rcases Zl.mp p with z |z
  ·exact absurd (Zt q) (by rw[z];exact ZQ _)
  ·exact hb z
 have g:Un (frs outer) [] H0 H s0.heap s.heap:=I.base;have y:∀env ∈ (envOfC qual scope s0.heap.objs.size f cd::outer),∀b,env.frame=aa b->b ∈ frs (envOfC qual scope s0.heap.objs.size f cd::outer):=λenv he b hb=>YI.mpr ⟨env,he,hb⟩;refine wpAny_leaves_madeW v rfl (λb o q=>Vz _ q) (PySem.W.funFrames_hide stk y) mk λh' t X x2 x3 x4=>⟨e,c,.ref t,H,_,rfl,X,?_,hE⟩
 have U:∀b o,s.heap.get? b=aa o->b ∈ frs (envOfC qual scope s0.heap.objs.size f cd::outer)->∃sl,h'.get? b=aa { o with slots:=sl }:=λb o q hb=>by
  obtain⟨_,O,T,nf⟩:=stk.mem hb;rw[q] at T;cases T;exact x4 b o (mk.keeps b o q) nf
 refine⟨I.os,I.bare,⟨λb o q n hb h=>?_,λb o q n hb h=>?_,λb o q n h=>g.free b o q n h,λb o q h=>?_,g.tups,g.frzs,g.tbls⟩,λb o q n hb=>?_,λb o q hb=>?_,λa o q=>?_⟩
 ·exact X.1 b o (Vn _ (g.keep b o q n hb h) (C b o q hb))
 ·obtain⟨z,Q⟩:=g.slot b o q n hb h;obtain⟨Z,B⟩:=U b _ Q (show b ∈ s0.heap.objs.size::frs outer from Zf _ hb);exact⟨Z,B⟩
 ·obtain⟨O,Q⟩:=g.there b o q h;by_cases hb:b ∈ frs (envOfC qual scope s0.heap.objs.size f cd::outer)
  ·obtain⟨Z,B⟩:=U b _ Q hb;exact⟨_,B⟩
  ·exact⟨O,X.1 b O (Vn _ Q hb)⟩
 ·exact Vn _ (g.keep b o q n hb (by simp)) (C b o q hb)
 ·obtain⟨O,Q⟩:=g.there b o q (by simp);exact⟨O,Vn _ Q (C b o q hb)⟩
 ·refine(I.hok a o q).stay (λb u hb qu=>Vn _ qu λp=>?_) (λ_ z=>z) λ_ _ z=>z;have j:=sf b p;rcases hb with rfl |hb
  ·rw[q] at j;cases j
  ·rw[hb] at j;cases j
end
section
variable {X:Cx} {x:Str} {np cpos pos:Pos} {a:Expr} {C R:Addr} {v:V}
def CL{E:XK}(hx:∀p b H s U e g,Inv X p b H s->Heap.MadeExcOf s.heap U e (.ref C) g->E (.ref C) aD H->X.xe (.ref e) { s with heap:=U })(hc:X.calm=aN)(hg:Gl X x)(hm:X.mg x=aa (.ref C))(hC:bF X.base C (.ref R::bmV))(hR:bF X.base R bmV)
  (ha:PA X [a] (dQ (tC v) mG)) (O:Ug [a] X.env=[(aT,eval a X.env)]) (hd:(x == ("__debug__" : Str))=aT):PS X (.Raise (aa (.Call (.Name x np) [a] [] cpos)) aD pos) (λD b H=>E (.ref C) aD H):=by
 intro p s b H D I h;have h:dQ (tC v) mG b H λo H1=>o.length=1/\E (.ref C) aD H1:=⟨rfl,h⟩;obtain⟨N,nm,q,bs,f,sn,sub,ab,B,dd,k0,k1,k2,k3,k5,mN,hC,hN,n⟩:=hC;obtain⟨N',nm',q',bs',u,sn',L,ab',J,dd',k0',k1',k2',Y,k5',mN',hR,z,c⟩:=hR;have T:OwnTail X.base bmV (.ref R::bmV):=.own hR z (c _ (.head _)) .base
 refine wpAny_Raise_call_subT (C:=C) (nm:=nm) (q:=q) (N:=N) (bs:=bs) (bm:=.ref R::bmV) (hdct:=f) (sn:=sn) (sub:=sub) (ab:=ab) (col:=B) (dd:=dd) (k0:=k0) (k1:=k1) (k2:=k2) (k3:=k3) (k5:=k5)
  PySem.F.excBase_ValueError (mN:=mN) (T.hasType PySem.F.excBase_ValueError.hasBase) (I.ok.hd hc) (by rw[O];rfl) (n _ (.head _)) (gX I hg hm ⟨rfl,?_⟩ hd)
 have Q:=ha cpos p s b H _ I h;rw[O] at Q ⊢;exact WK (UH Q (λo s2 ⟨xs,H1,j,r,q⟩=>⟨rfl,by rw[<-r.length,q.1];decide,j.bk _ _ hC,hN.keeps j.bk,T.keeps j.bk,λZ e mk=>hx p b H1 s2 Z e o j mk q.2⟩) λ_ _ y=>y)
end
def tX(x:bv P w H h a o):∃u,h.get? a=aa u:=by
 cases o with
 |lst xs=>obtain⟨_,_,_,_,e⟩:=x;exact⟨_,e⟩
 |tup xs=>obtain⟨_,_,_,o,e,_⟩:=x;exact⟨_,e⟩
 |dK b=>obtain⟨_,_,_,_,o,_,_,e,_⟩:=x;exact⟨_,e⟩
 |dT b=>obtain⟨_,_,_,_,o,_,_,e,_⟩:=x;exact⟨_,e⟩
 |set S n=>obtain⟨o,_,_,_,e,_⟩:=x;exact⟨_,e⟩
 |ins C j fs=>obtain⟨_,_,_,e,_⟩:=x;exact⟨_,e⟩
 |own y=>exact x
 |xd fs=>obtain⟨_,⟨_,_,_,e,_⟩,_⟩:=x;exact⟨_,e⟩
 |rng lo c=>obtain⟨_,_,_,e⟩:=x;exact⟨_,e⟩
 |frz ob u=>obtain⟨e,_⟩:=x;exact⟨_,e⟩
 |tbl ps=>exact⟨_,x⟩
 |met f y=>exact⟨_,x⟩
 |ext g=>obtain⟨_,e,_⟩:=x;exact e
noncomputable abbrev exO(e C:Addr):HO:=.ext λh=>qa h e C
section
variable {P:Program} {w:World} {l:List Env} {H H':Hp} {s s':Shared} {B:Heap} {e C:Addr} {a0:Value} {h6:Heap}
def XLeft.got(x:XLeft P w l H H' s B s')(I:Heap.FlyingW B l e (.ref C) a0 s'.heap)(f:Heap.FlyingW B l e (.ref C) a0 h6)(u:s'.heap.UpToSlots h6):Un (frs l) [] H (upd H' e (exO e C)) s.heap h6/\HOk P w (upd H' e (exO e C)) h6:=by
 have un:=(x.later I f.1 f.2.2.1 u (g:=s'.gens) (d:=s'.drawn) (t:=s'.toks) x.bare).un
 have ne:H' e=aD:=by
  cases q:H' e with
  |none=>rfl
  |some o=>obtain⟨z,Q⟩:=tX (x.hok e o q);rw[f.2.1] at Q;cases Q
 obtain⟨O,h,j,y,hd,_⟩:=f.first
 have nb:∀b o,s.heap.get? b=aa o->H b=aD->b ≠ e:=λb o q n z=>by
  subst z;by_cases hb:b ∈ frs l
  ·obtain⟨_,X,Q,E⟩:=f.2.2.1.mem hb;rw[j] at Q;cases Q;exact E h hd
  ·have:=x.keep b o q n hb;rw[f.2.1] at this;cases this
 have U:∀b u,H' b=aa u->upd H' e (exO e C) b=aa u:=λb u q=>by rw[aG (aU q ne)];exact q
 refine⟨⟨un.keep,un.slot,λb o q n J=>by rw[aG (nb b o q n)];exact un.free b o q n J,un.there,λb xs q=>U b _ (un.tups b xs q),λb o v q=>U b _ (un.frzs b o v q),λb ps q=>?_⟩,λb o q=>?_⟩
 ·obtain⟨m,p⟩:=un.tbls b ps q;exact⟨m,U b _ p⟩
 ·by_cases hb:b=e
  ·subst hb;rw[aH] at q;cases q;exact⟨⟨O,h,j,y,hd⟩,⟨O,j⟩,λT L ⟨o,h,p,Q⟩ k=>⟨o,h,k o p,Q⟩⟩
  ·rw[aG hb] at q;exact(x.hok b o q).stay (λc v _ z=>f.1 c v z) (λc z=>U c _ z) λc xs z=>U c _ z
end
section
variable {X:Cx} {pins:List (Addr × Obj)} {σ:L2.St} {H:Hp} {s:Shared}
noncomputable abbrev Cx.mk(X:Cx)(e:Addr):Cx:={ X with A:=X.A.mark (aa (.ref e)),calm:=false,xe:=λ_ _=>False }
def CM(I:L2.Inv X pins σ H s)(e:Addr):L2.Inv (Cx.mk X e) pins σ H s:=
 ⟨⟨I.ok.mod,I.ok.kind,I.ok.glob,I.ok.blt,I.ok.above,I.ok.inj,I.ok.has,I.ok.cab,λz=>(nomatch z),I.ok.frames,I.ok.stk,I.ok.exf,I.ok.bs,I.ok.bsz,I.ok.noex,I.ok.exfs,I.ok.funs,I.ok.frf⟩,I.os,I.bare,I.base,I.loc,I.cell,I.free,I.freeC,I.pin,I.hok,I.len⟩
def LU(ok:X.Ok)(I:L2.Inv (Cx.mk X e) pins σ H s):L2.Inv X pins σ H s:=⟨ok,I.os,I.bare,I.base,I.loc,I.cell,I.free,I.freeC,I.pin,I.hok,I.len⟩
def Gk{i:Nat}(I:L2.Inv X pins σ H s)(hN:X.N.Nodup)(O:X.N[i]?=aa x)(hk:X.env.scope.names.lookup x=aa .local)
  (h:∀U,L2.Inv X pins (σ.set i aD) H U->Q () U):wpAny M A (do VH X.env x .none;unbindBehindTheSuite X.env x pos) Q E s:=by
 obtain⟨m,hn,hl⟩:=id I.loc;have g:(X.env.scope.kind == .class || (X.env.scope.kind == .module && X.env.locals != X.env.globals))=aT:=by rw[I.ok.kind];rfl
 have u:i < σ.length:=by rw[I.len];exact(Zb.mp O).1
 have cne:=I.cne;refine wpAny_nameGoes_keeps hk hn g λh' v L hs=>?_;refine h _ ⟨I.ok,I.os,I.bare,⟨λb o e n hb B=>?_,λb o e n hb B=>?_,I.base.free,λb o e B=>?_,I.base.tups,I.base.frzs,I.base.tbls⟩,⟨_,L,λj y Y f C Z=>?_⟩,λy c e=>?_,I.free,I.freeC,λp hp=>?_,λb ob e=>?_,by simpa using I.len⟩
 ·exact(hs.2 b (ZF (Zy (Zt e) I.ok.above))).trans (I.base.keep b o e n hb B)
 ·obtain⟨sl,f⟩:=I.base.slot b o e n hb B;exact⟨sl,(hs.2 b (ZF (Zy (Zt e) I.ok.above))).trans f⟩
 ·obtain⟨o',f⟩:=I.base.there b o e B;exact⟨o',(hs.2 b (ZF (Zy (Zt e) I.ok.above))).trans f⟩
 ·by_cases J:j=i
  ·subst J;rw[ZD u] at C;cases C
  ·rw[ZH (Ne.symm J)] at C;obtain⟨u',r',q⟩:=hl j y Y f C Z;refine⟨u',r',?_⟩;rcases q with ⟨k,e⟩ |⟨k,c,e,z⟩
   ·refine .inl ⟨k,?_⟩;have:y ≠ x:=λe=>J (my hN f (e ▸ O));simp[this,e]
   ·exact .inr ⟨k,c,e,z.sameBut hs (cne y c e)⟩
 ·obtain⟨T,z⟩:=I.cell y c e;exact⟨T,z.sameBut hs (cne y c e)⟩
 ·obtain⟨e,n,ne,nf,d⟩:=I.pin p hp;exact⟨(hs.2 p.1 ne).trans e,n,ne,nf,d⟩
 ·refine(I.hok b ob e).stay (λc T hc q=>(hs.2 c ?_).trans q) (λ_ q=>q) λ_ _ q=>q;rintro rfl;rcases hc with rfl |hc
  ·rw[I.free] at e;cases e
  ·rw[I.free] at hc;cases hc
def Gm{T:Hp}{s':Shared}{B:Heap}{e C R:Addr}{a0:Value}{i:Nat}{n ring:Str}{h:Stmt}{g:List Stmt}{np L:Pos}{D:Ends}(j:X.stack=X.env::X.outer)(hfm:X.env.frame=aa X.env.locals)(I:L2.Inv X pins σ H s)(Z:Heap.FlyingW B X.stack e (.ref C) a0 s'.heap)(x:XLeft X.prog X.w X.stack H T s B s')
  (hC:bF X.base C (.ref R::bmV)) (hR:bF X.base R bmV) (hg:Gl X ring) (hm:X.mg ring=aa (.ref R)) (hdb:(ring == ("__debug__" : Str))=aT) (hN:X.N.Nodup) (hi:X.N[i]?=aa n) (hl:X.env.scope.names.lookup n=aa .local)
  (hb:∀s6,L2.Inv (Cx.mk X e) pins (σ.set i (aa (.ref e))) (upd T e (exO e C)) s6->wpAny (model X.prog X.w) (Cx.mk X e).A (execs (h::g) X.env) (λf s7=>∃u v σ7 H7,f = .ret u/\L2.Inv (Cx.mk X e) pins σ7 H7 s7/\aJ v u/\D.rt v H7) (λ_ _=>False) s6) :
  wpAny (model X.prog X.w) X.A (noteFrame (.ref e) X.env) (λ_ y=>wpAny (model X.prog X.w) X.A (setFlight (.ref e) aD) (λ_ E=>wpAny (model X.prog X.w) X.A (handleBy (.ref e) X.env [.ExceptHandler (aa (.Name ring np)) (aa n) (h::g) L]) (SP X pins D) X.xe E) X.xe y) X.xe s':=by
 have Y:X.A.frames=aa (X.env::X.outer):=by rw[<-j];exact I.ok.frames
 have st:X.base.StaysIn B:=λb o q=>x.keep b o (I.bs b o q).1 (I.bs b o q).2 λhm=>by
  rw[(I.stack.mem hm).1] at q;cases q
 have O:=Z;rw[j] at Z;refine wpAny_looks_onW Y hfm Z λh4 J Q=>?_;refine wpAny_landsW J λh5 c p=>?_;rw[<-j] at c;obtain⟨un5,U⟩:=x.got O c (Q.trans p);have I5:L2.Inv X pins σ (upd T e (exO e C)) { s' with heap:=h5 }:=I.call' x.os un5 U x.bare (λb z=>absurd z (by simp));have I5m:=CM I5 e;refine wpAny_handleBy_cons (codeAny_handlers_test (gX (X:=Cx.mk X e) I5m hg hm ?_ hdb)) (by intro q;cases q);have hE:qa h5 e C:=by obtain⟨oe,vs,he,hc,hd,_⟩:=c.first;exact⟨oe,vs,he,hc,hd⟩
 have kb:∀b o,X.base.get? b=aa o->h5.get? b=aa o:=λb o q=>c.1 b o (st b o q);refine LS (hC.keeps kb) (hR.keeps kb) hE ?_;refine codeAny_handlers_suite_as ?_;refine lands_againW c λh6 fl6 sm6=>?_;obtain⟨un6,ok6⟩:=x.got O fl6 ((Q.trans p).trans sm6);have I6:L2.Inv X pins σ (upd T e (exO e C)) { s' with heap:=h6 }:=I.call' x.os un6 ok6 x.bare (λb z=>absurd z (by simp));refine cH (X:=Cx.mk X e) (CM I6 e) hN hi (.inl hl) (show aJ (.ref e) (.ref e) from rfl) (λs7 I7=>?_) (.inr hl);refine UH (hb s7 I7) (λf s8 ⟨u,v,σ8,H8,hf,I8,rv,q⟩=>?_) λ_ _ z=>z.elim;subst hf;exact Gk (LU I.ok I8) hN hi hl λs9 I9=>⟨v,_,H8,I9,rv,q⟩
end
structure CtxOk(T:Tab)(C:Calls)(ar:Nat->Nat)(k:Nat)(b:Blk)(X:Cx):Prop where
 calm:X.calm=aN
 xe:X.xe=λ_ _=>False
 hN:X.N=b.N
 hs:X.env.scope=b.sc
 nd:b.N.Nodup
 fn:∀x,(match b.fs with |none=>aN |some sc=>sc.names.lookup x == aa .cell)=aN->X.fn x=aN
 room:Room k X.A
 con:∀ (i:Nat) (x:Str) (v:Int),T.con[i]?=aa (x,v)->∃tk,X.mg x=aa (.int v tk)
 bl:∀x,x ∈ gf->X.mg x=aD
 fns:∀ (i:Nat) (y:Str × Nat),T.fns[i]?=aa y->ar i=y.2/\∃f fd ps,X.mg y.1=aa (.ref f)/\Vq X.K (.ref f)=aN/\fU X.K fd ps []/\FnOk X.prog X.w X.K X.mg X.base (CXE X.prog X.w) k f fd ps (spC X.K (C i) (ar i))
section
variable {T:Tab} {C:Calls} {ar:Nat->Nat} {k:Nat} {b:Blk} {X:Cx}
def au{e:Expr}{E:List Expr}{env:Env}(h:aK e=aN):Ug (e::E) env=(aT,eval e env)::Ug E env:=by
 cases e <;> first |rfl |(exact absurd h Zg)
def nR{e:Expr}(h:aK e=aN):xy e:=by
 intro o i;cases e <;> first |rfl |(exact absurd h Zg)
def fF{e:Expr}{op:CmpOp}(h:aK e=aN):VF op e=aT:=by
 cases e <;> first |rfl |(exact absurd h Zg)
def nS{e f:Expr}{op o:CmpOp}(h:aK e=aN):lastMarks [op,o] [f,e]=aT:=by
 show VF o e=aT;exact fF h
def dC{e:Expr}{env:Env}(h:aK e=aN):∀x,VW e env x=pure x:=by
 intro x;cases e <;> first |rfl |(exact absurd h Zg)
def cz{e:Expr}{m:Str}{env:Env}{w:Sem Value}(h:vW e=aN):attributeBase e m env w=w:=by
 cases e with
 |Call f c g p=>
  cases f with
  |Name x q=>
   cases c with
   |nil=>cases g with |nil=>exact absurd h Zg |cons _ _=>rfl
   |cons _ _=>rfl
  |_=>rfl
 |_=>first |rfl |(exact absurd h Zg)
def nT{e:Expr}{env:Env}(h:Gb e=aN):∀c,isTrue e env c=(do let v <-c;standAt e.pos;holding [v] (truthy v)):=by
 intro c;cases e with
 |UnaryOp op x p=>cases op <;> first |rfl |(exact absurd h Zg)
 |_=>first |rfl |(exact absurd h Zg)
def dn{E:List Expr}{env:Env}{p:Pos}(h:∀e ∈ E,aK e=aN):(backTo p (Ug E env)).any (·.1)=aT:=by
 induction E with
 |nil=>rfl
 |cons e E I=>
  rw[au (h e Zh)];show(aT || (backTo p (Ug E env)).any (·.1))=aT;rw[I λe c=>h e (Zf _ c)];rfl
def bf:∀ {n:Nat} {E:List Expr} {f:List CE},eF T n b E f=aN->∀e ∈ E,aK e=aN
 |0,_,_,h=>absurd h Zg
 |n+1,E,[],h=>λx hx=>by rw[cx h] at hx;cases hx
 |n+1,E,c::f,h=>by
  obtain⟨e,E,rfl,h⟩:=cg h;obtain⟨_,g,h⟩:=an3 h;intro x hx;rcases Zl.mp hx with rfl |hx
  ·exact g
  ·exact bf h x hx
def CtxOk.gl(G:CtxOk T C ar k b X){x:Str}(h:b.glo x=aN):Gl X x/\(x == ("__debug__" : Str))=aT:=by
 unfold Blk.glo at h;rw[bAE] at h;refine⟨?_,by simpa using h.2⟩;show X.env.scope.names.lookup x=_;rw[G.hs]
 simpa using h.1
def CtxOk.vis(G:CtxOk T C ar k b X){x:Str}(h:b.vis x=aN):Vis X.env.scope x/\(x == ("__debug__" : Str))=aT/\(x == ("__classdict__" : Str))=aT:=by
 unfold Blk.vis at h;rw[bAE,bAE] at h;refine⟨?_,by simpa using h.1.2,by simpa using h.2⟩;unfold Vis;rw[G.hs];have c:=h.1.1;split at c
 ·rename_i e;exact .inl e
 ·rename_i e;exact .inr (.inl e)
 ·rename_i e;exact .inr (.inr e)
 ·cases c
def CtxOk.own(G:CtxOk T C ar k b X){x:Str}(h:b.own x=aN):L2.Loc X.env.scope x/\(X.fn x=aN\/X.env.scope.names.lookup x=aa .local):=by
 unfold Blk.own at h;unfold L2.Loc;rw[G.hs];split at h
 ·rename_i e;exact⟨.inl e,.inr e⟩
 ·rename_i e;refine⟨.inr e,.inl (G.fn x ?_)⟩;cases c:b.fs with
  |none=>rfl
  |some sc=>rw[c] at h;exact h
 ·cases h
def CtxOk.inner(G:CtxOk T C ar k b X){own:List Str}{c:Scope}(S:CmScope own (jr own b.N) b.N c b.sc){C':Addr}{ex:List Addr}{s:Shared}{H:Hp}:CtxOk T C ar k (b.inner own c) (cxC X own (jr own b.N) c C' ex s H):=
 ⟨G.calm,rfl,by show dr (jr own b.N) X.N++own=_;rw[G.hN];rfl,by show gh c X.env.scope=_;rw[G.hs];rfl,S.nd,λx h=>h,G.room,G.con,G.bl,G.fns⟩
def qc{e:Expr}{E:List Expr}{env:Env}(h:aK e=aN):VC (e::E) env=(aT,assign e env)::VC E env:=by
 cases e <;> first |rfl |(exact absurd h Zg)
mutual
theorem fG(G:CtxOk T C ar k b X):∀ {e:Expr} {t:Tg},tS b e t=aN->PG X e (tTg X.K t)
 |e,.name i,h=>by
  obtain⟨r,c,h⟩:=ju h;obtain⟨n,j⟩:=an2 h;rw[lY c];have o:=G.own j;exact PG.imp (xk (i:=i) (x:=r.1) (by rw[G.hN];exact G.nd) (by rw[G.hN];exact eq_of_beq n) o.1 o.2) λx g H Q q=>rB q
 |e,.tup ts,h=>by
  obtain⟨r,c,h⟩:=ju h;rw[jt c];have f:=qd h;exact PG.imp (AX G.calm (tY G h) rfl f.2) λx g H Q q=>Lu f.1 q
theorem tY(G:CtxOk T C ar k b X):∀ {E:List Expr} {c:List Tg},nI b E c=aN->PGs X E (B8 X.K c)
 |E,[],h=>by
  rw[cx h];exact PGs.imp xm λx f H Q q=>F1 q
 |E,t::c,h=>by
  obtain⟨e,E,rfl,h⟩:=cg h;obtain⟨j,g,h⟩:=an3 h;exact PGs.imp (mD (fG G j) (tY G h) (by rw[qc g];rfl)) λx f H Q q=>B9 q
theorem qd:∀ {E:List Expr} {c:List Tg},nI b E c=aN->(VC E X.env).length=c.length/\(VC E X.env).findIdx? (·.1)=aD
 |E,[],h=>by
  rw[cx h];exact⟨rfl,rfl⟩
 |E,t::c,h=>by
  obtain⟨e,E,rfl,h⟩:=cg h;obtain⟨g,f,h⟩:=an3 h;have I:=qd h;rw[qc f];refine⟨congrArg (·+1) I.1,?_⟩;rw[List.findIdx?_cons];simp[I.2]
end
end
structure Snd(T:Tab)(C:Calls)(ar:Nat->Nat)(k n:Nat):Prop where
 e:∀ (b:Blk) (X:Cx) (e:Expr) (c:CE),CtxOk T C ar k b X->aI T n b e c=aN->PE X e (tE X.K (evE C ar n c))
 tm:∀ (b:Blk) (X:Cx) (e:Expr) (c:CE),CtxOk T C ar k b X->aq c=aN->aI T n b e c=aN->PE X e (eZ X.K (cQ C ar n c))
 a:∀ (b:Blk) (X:Cx) (es:List Expr) (cs:List CE),CtxOk T C ar k b X->eF T n b es cs=aN->PA X es (tAr X.K (evA C ar n cs))
 t:∀ (b:Blk) (X:Cx) (e:Expr) (c:CE),CtxOk T C ar k b X->fE T n b e c=aN->PT X e (tT X.K (evT C ar n c))
 i:∀ (B:List Addr) (b:Blk) (X:Cx) (t e:Expr) (c:CI),CtxOk T C ar k b X->rH T n b t e c=aN->PI X t e (tIt X.K B (evI C ar n c))
 cl:∀ (b:Blk) (X:Cx) (e:Expr) (gs:List WL) (elt:CE) (cls:List Cl),CtxOk T C ar k b X->p9 T n b e gs elt cls=aN ->
  ∀ (gens:List WL) (scope:Scope) (pos:Pos) (acc:Addr) (d:Nat),gens.drop (d+1)=gs->PTl X (.l e) gens scope pos acc d (tCl X.K acc (im C ar n elt cls))
section
variable {T:Tab} {C:Calls} {ar:Nat->Nat} {k n:Nat} {b:Blk} {X:Cx}
def cm{e:Expr}{E:List Expr}{c:TE}{t:TA}(f:PE X e c)(g:PA X E t)(h:aK e=aN):PA X (e::E) (dQ c t):=Fe f g (au h)
def Qj(I:Snd T C ar k n)(E:List Expr)(f:List CE)(G:CtxOk T C ar k b X)(h:eF T (n+1) b E f=aN):PA X E (tAr X.K (evA C ar (n+1) f)):=by
 cases f with
 |nil=>rw[cx h];exact PA.imp qL λg H Q q=>K4 q
 |cons c f=>
  obtain⟨e,E,rfl,h⟩:=cg h;obtain⟨o,j,h⟩:=an3 h;exact PA.imp (cm (I.e b X e c G o) (I.a b X E f G h) j) λg H Q q=>FJ q
def bN{e:Expr}{c:TE}(h:PE X e c)(f:aK e=aN):PA X [e] (dQ c mG):=cm h qL f
def fH{x:Str}{id:String}{e:Expr}{g:TE}{r:V->Hp->VK->Prop}{p c:Pos}(o:aV X (.builtin id) (r1 r))(G:CtxOk T C ar k b X)(j:b.glo x=aN)(hb:x ∈ gf)(v:VI x=aa (.builtin id))(u:x ≠ "__name__")(h:PE X e g)(f:aK e=aN) :
  PE X (.Call (.Name x p) [e] [] c) (tUn r g):=
 PE.imp (eV o (G.gl j).1 (G.bl x hb) v (bN h f) u (G.gl j).2 (au f) rfl) λy H Q q=>q
def lZ{x:Str}{id:String}{e:Expr}{g:TE}{r:V->Hp->VK->Prop}{p c:Pos}(o:aV X (.type id) (r1 r))(G:CtxOk T C ar k b X)(j:b.glo x=aN)(hb:x ∈ gf)(v:VI x=aa (.type id))(u:x ≠ "__name__")(h:PE X e g)(f:aK e=aN) :
  PE X (.Call (.Name x p) [e] [] c) (tUn r g):=
 PE.imp (eW o (G.gl j).1 (G.bl x hb) v (bN h f) u (G.gl j).2 (au f) rfl) λy H Q q=>q
def nU{x:Str}{e:Expr}{a:CE}{f:Bool->List D->Sto->Option (D × Sto)}{ks:List Keyword}{p c:Pos}(I:Snd T C ar k n)(G:CtxOk T C ar k b X)(g:∀j:TE,PE X e j->PE X (.Call (.Name x p) [e] ks c) (tUn (rSq X.K f) j))(h:aI T n b e a=aN) :
  PE X (.Call (.Name x p) [e] ks c) (tE X.K (if aq a=aN then sX f (cQ C ar n a) else sY f (evE C ar n a))):=by
 split
 ·rename_i u;exact PE.imp (g _ (I.tm b X e a G u h)) λo H Q q=>K2 q
 ·exact PE.imp (g _ (I.e b X e a G h)) λo H Q q=>K6 q
def l4{x y:Str}(h:(x == y)=aN):x=y:=eq_of_beq h
def jv{K:Vf}{x:XE}{g:L2.St}{H:Hp}{Q Q':VK}(h:tE K x g H Q)(f:∀v c,Q v c->Q' v c):tE K x g H Q':=by
 obtain⟨m,o,S,d,p,E,R,e,q⟩:=h;exact⟨m,o,S,d,p,E,R,e,λj c v A vd=>f _ _ (q j c v A vd)⟩
def CN{x:XE}{j:L2.St}{H:Hp}{Q:VK}{K:Vf}(h:eZ K (nw x) j H Q):tUn (rTm K λ_ u=>aa u) (tE K x) j H Q:=by
 obtain⟨m,ρ,S,u,S',E,R,e,q⟩:=h;obtain⟨d,O,B,e⟩:=aj e;cases f:av d O with
 |none=>rw[f] at e;cases e
 |some r=>
  rw[f] at e;cases e;refine⟨m,ρ,S,d,_,E,R,B,λm1 H1 v c vd=>?_⟩;obtain⟨a,U,I,sq,g⟩:=e8 (tu:=r.1) (ds:=r.2) c.rel vd f;refine⟨m1,_,r.1,r.2,a,U,r.2,c.rel,I,sq,g,rfl,λm2 H2 p ws A2 hp J z n3 L=>?_⟩
  have Y:H p=aD:=by
   cases Z:H p with
   |none=>rfl
   |some o=>
    by_cases y:p ∈ m
    ·exact absurd rfl (z p (c.ext.pre.subset y))
    ·have:=c.ext.keep p o Z y;rw[n3] at this;cases this
  exact q m2 H2 p ws (c.trans A2) hp J (λb hb=>z b (c.ext.pre.subset hb)) Y L
def CO{x:XA}{g:L2.St}{H:Hp}{Q:VK}{K:Vf}(h:eZ K x g H Q):tUn (rTm K λ_ c=>aa c) (eZ K x) g H Q:=by
 obtain⟨m,Z,S,c,S',E,R,e,q⟩:=h;refine⟨m,Z,S,c,S',E,R,e,λm1 H1 a v f ha na _ _ vd=>?_⟩;refine⟨m1,_,aT,c,a,v,c,f.rel,rfl,show SqL K H1 a v from SqL.of ha,vd,rfl,λY U p O J L y u n3 z=>?_⟩
 have B:H p=aD:=by
  cases I:H p with
  |none=>rfl
  |some o=>
   by_cases j:p ∈ m
   ·exact absurd rfl (u p (f.ext.pre.subset j))
   ·have:=f.ext.keep p o I j;rw[n3] at this;cases this
 exact q Y U p O (f.trans J) L y (λb hb=>u b (f.ext.pre.subset hb)) B z
abbrev ifT(C:Calls)(ar:Nat->Nat)(n:Nat)(K:Vf):Option CE->TT
 |none=>zm
 |some c=>tT K (evT C ar n c)
def nV(I:Snd T C ar k n)(G:CtxOk T C ar k b X){ifs:List Expr}{cond:Option CE}(h:CH (fE T n b) ifs cond=aN):PTs X ifs (ifT C ar n X.K cond):=by
 cases cond with
 |none=>rw[cx h];exact xF
 |some c=>obtain⟨e,rfl,h⟩:=cM h;exact Ft (I.t b X e c G h)
def v8{K:Vf}{cond:Option CE}{f:Addr}{c:XA}{D:Ends}{g:L2.St}{H:Hp}(q:tCl K f (cnd (evT C ar n) cond c) D g H):eY (ifT C ar n K cond) (tCl K f c) D g H:=by
 cases cond with
 |none=>exact LB q
 |some c=>exact F7 q
def tZ(I:Snd T C ar k n)(G:CtxOk T C ar k b X){l:Option Expr}{lo:Option CE}(h:CG (aI T n b) l lo=aN):PO X l (tOI X.K (opt (evE C ar n) lo)):=by
 cases lo with
 |none=>
  cases l with
  |none=>exact PO.imp Fg λf H Q q=>FO q
  |some _=>cases h
 |some c=>obtain⟨e,rfl,h⟩:=ju h;exact PO.imp (xv (I.e b X e c G h)) λf H Q q=>FP q
def LV(B:Snd T C ar k n)(e:Expr)(U:List WL)(E:CE)(cls:List Cl)(G:CtxOk T C ar k b X)(h:p9 T (n+1) b e U E cls=aN)(c:List WL)(j:Scope)(p:Pos)(o:Addr)(d:Nat)(hd:c.drop (d+1)=U) :
  PTl X (.l e) c j p o d (tCl X.K o (im C ar (n+1) E cls)):=by
 have imp:∀ {t t':TS},PTl X (.l e) c j p o d t->(∀D u H,t' D u H->t D u H)->PTl X (.l e) c j p o d t':=λh f v s u H D I q=>h v s u H D I (f D u H q);cases cls with
 |nil=>
  obtain⟨O,h⟩:=an2 h;cases cx O
  have J:c[d+1]?=aD:=by
   have:=congrArg Zc hd;simp at this;exact Yw.mpr (by omega)
  exact imp (Bz G.xe J (B.e b X e E G h)) λD u H q=>F6 q
 |cons g y=>
  obtain⟨tg,it,cond⟩:=g;obtain⟨⟨t,i,ifs,as⟩,gs',rfl,h⟩:=cg h;obtain⟨O,Y,Z,h3,h4⟩:=an5 h;cases of_decide_eq_true O
  have J:c[d+1]?=aa ⟨t,i,ifs,0⟩:=by
   have:=congrArg (·[0]?) hd
   simpa using this
  have L:c.drop (d+1+1)=gs':=by
   have:=congrArg (Yn 1) hd
   simpa[List.drop_drop] using this
  have Q:=fe Y (λe he env=>dC he) X.env;exact imp (Fw J (B.i [o] b X t i it G Y) (fG G Z) (nV B G h3) (B.cl b X e gs' E y G h4 c j p o (d+1) L) G.xe G.calm Q) λD u H q=>Cg (λD u H z=>v8 z) q
def Qk(I:Snd T C ar k n)(B:List Addr)(t e:Expr)(c:CI)(G:CtxOk T C ar k b X)(h:rH T (n+1) b t e c=aN):PI X t e (tIt X.K B (evI C ar (n+1) c)):=by
 cases c with
 |val a=>
  have h:=an2 h;show PI X t _ (tIt X.K B (if aq a=aN then xIT (cQ C ar n a) else xIV (evE C ar n a)));split
  ·rename_i o;exact PI.imp (xn (I.tm b X _ a G o h.1)) λj H R q=>Sx q
  ·exact PI.imp (PI.or (xn (I.e b X _ a G h.1)) (Ko (I.e b X _ a G h.1))) λj H R q=>Sw q
 |r1 a=>
  obtain⟨x,p,q,rfl,g,f,h4⟩:=a8 h;exact PI.imp (yY (G.gl g).1 (G.bl _ (by decide)) (bN (I.e b X x a G f) h4) (au h4)) λj H R q=>P3 q
 |r2 a c=>
  obtain⟨x,y,p,q,rfl,g,f,h4,v,u⟩:=dB h;exact PI.imp (yZ (G.gl g).1 (G.bl _ (by decide)) (cm (I.e b X x a G f) (bN (I.e b X y c G v) u) h4) (by rw[au h4,au u];rfl) (au u)) λj H R q=>P4 q
 |en a=>
  have h:=an2 h;obtain⟨x,p,q,rfl,g,f,h4⟩:=a8 h.1;obtain⟨E,z,J,rfl,_⟩:=CC h.2;show PI X _ _ (tIt X.K B (if aq a=aN then xET (cQ C ar n a) else xEV (evE C ar n a)));split
  ·rename_i o;exact PI.imp (BF (G.gl g).1 (G.bl _ (by decide)) (bN (I.tm b X x a G o f) h4) (au h4)) λj H R q=>P2 q
  ·exact PI.imp (PI.or (BF (G.gl g).1 (G.bl _ (by decide)) (bN (I.e b X x a G f) h4) (au h4)) (KQ (G.gl g).1 (G.bl _ (by decide)) (bN (I.e b X x a G f) h4) (au h4))) λj H R q=>P1 q
end
section
variable {T:Tab} {C:Calls} {ar:Nat->Nat} {k n:Nat} {b:Blk} {X:Cx}
def t5{k:Nat}{A:Around}(r:Room k A):A.units+64 < cLine:=r.units
def jw(K:Vf)(m:List Addr)(H:Hp):∀l:List Nat,VDs K m H (l.map λj=>D.int (Int.ofNat j)) (l.map λ(j:Nat)=>V.int j)
 |[]=>by rw[Z4,Z4,VDs]
 |a::l=>by rw[Zz,Zz,VDs];exact⟨_,_,rfl,bx,jw K m H l⟩
def xc{H:Hp}{p:Addr}{x y:HO}:upd (upd H p x) p y=upd H p y:=by
 funext b
 unfold upd;split <;> rfl
def Rel.adoptO{K:Vf}{m:List Addr}{S:Sto}{H:Hp}{a:Addr}(R:Rel K m S H)(n:a ∉ m){ob:Ob}(h:ObR K (m++[a]) H a ob):Rel K (m++[a]) (S++[ob]) H:=by
 have p:=YJ m [a];have g:∀ {E:List D} {ws:List V},VDs K m H E ws->VDs K (m++[a]) H E ws:=λz=>VDs.mono0 p (λ_ _ t=>t) z;refine⟨by simp[R.len],X5.mpr ⟨R.nd,by simp,λx I y j=>by simp at j;subst j;exactλz=>n (z ▸ I)⟩,λi o e=>?_⟩;by_cases B:i < S.length
 ·rw[Zv B] at e;obtain⟨b,hb,r⟩:=R.ob i o e;refine⟨b,dS p hb,?_⟩;cases o with
  |lst f=>obtain⟨v,p,q⟩:=r;exact⟨v,p,g q⟩
  |frz f=>obtain⟨o,v,p,q⟩:=r;exact⟨o,v,p,g q⟩
  |dic J f=>obtain⟨v,p,l,q⟩:=r;exact⟨v,p,l,g q⟩
 ·rw[Zp (by lia)] at e
  have c:i - S.length=0:=by
   have:=(Zb.mp e).1;simp at this;lia
  rw[c] at e;have u:ob=o:=by simpa using e
  subst u;refine⟨a,?_,h⟩;rw[Zp (by rw[R.len];lia),R.len,c];rfl
def yf{K:Vf}{m:List Addr}{H:Hp}{S:Sto}{p:Addr}{ks:List Key}{c:List D}{vs:List V}{Q:VK}(R:Rel K m S H)(h:H p=aD)(vd:VDs K m H c vs)(o:ks.length=c.length)(q:∀g f u,Aft K m H (S++[.dic ks c]) g f->VD K g f (.ref S.length) u->Q u f):Q (.ref p) (upd H p (.dK (ks.zip vs))):=by
 have x:=Ext.beside R h (.dK (ks.zip vs));have j:=R.beside h (.dK (ks.zip vs));refine q (m++[p]) _ _ ⟨x.adopt h,?_⟩ ?_
 ·exact j.adoptO (R.no h) (ob:=.dic ks c) ⟨vs,aH,o,VDs.mono0 (YJ m [p]) (λ_ _ t=>t) (vd.mono R x)⟩
 ·rw[VD];exact⟨p,by rw[Zp (by rw[R.len];exact Zd _),R.len,Yv];rfl,rfl⟩
def rJ{E:List Expr}{a:CE}(h:eF T n b E [a]=aN):∃y,E=[y]:=by
 cases n with
 |zero=>exact absurd h Zg
 |succ n=>
  obtain⟨e,E,rfl,h⟩:=cg h;have h:=(an2 h).2;cases n with
  |zero=>exact absurd h Zg
  |succ n=>cases cx h;exact⟨e,rfl⟩
def Gn(y:Snd T C ar k n){own:List Str}{E:CE}{v:Tg}{I:CI}{cond:Option CE}{h:List Cl}{e t i:Expr}{ifs:List Expr}{u:List WL}{f:Scope}{p:Pos}(G:CtxOk T C ar k b X)
  (Z:cmB own (jr own b.N) b.N f b.sc=aN) (J:rH T n b t i I=aN) (O:tS (b.inner own f) t v=aN) (U:CH (fE T n (b.inner own f)) ifs cond=aN) (h4:p9 T n (b.inner own f) e u E h=aN) :
  PE X (.ListComp e (⟨t,i,ifs,0⟩::u) f p) (eZ X.K (nv own.length (evI C ar n I) v (cnd (evT C ar n) cond (im C ar n E h)) LF)):=by
 have S:CmScope own (jr own b.N) b.N f b.sc:=vg _ Z;have S':CmScope own (jr own b.N) X.N f X.env.scope:=by rw[G.hN,G.hs];exact S
 have B:=fe J (λe Y env=>dC Y) X.env
 refine PE.imp (xG (c:=.l e) (g:=tTg X.K v) (ti:=ifT C ar n X.K cond) (t:=λj=>tCl X.K j (im C ar n E h)) G.calm S' (y.i [] b X t i I G J) (λo ex s H=>fG (G.inner S (C':=o) (ex:=ex) (s:=s) (H:=H)) O) (λo ex s H=>nV y (G.inner S (C':=o) (ex:=ex) (s:=s) (H:=H)) U)
  (λo ex s H j=>y.cl _ _ e u E h (G.inner S (C':=o) (ex:=ex) (s:=s) (H:=H)) h4 _ f p j 0 rfl) B) λL H Q q=>?_
 exact xZ (λj D L H z=>v8 z) q
def LW{x:XE}{J:L2.St}{H:Hp}{Q:VK}{K:Vf}(h:eZ K (zT x) J H Q):tE K x J H λv c=>∃i:Nat,v = .int i/\i<=1000/\∀p,c p=aD->∀l,upd c p (.rng 0 i) l=aD->Q (.ref l) (upd (upd c p (.rng 0 i)) l (.lst ((Ze i).map λ(j:Nat)=>V.int j))):=by
 obtain⟨m,ρ,S,ds,U,E,R,e,q⟩:=h;obtain⟨d,S1,Y,e⟩:=aj e;cases d with
 |int i=>
  dsimp only at e;split at e
  ·rename_i hi;cases e;refine⟨m,ρ,S,.int i,_,E,R,Y,λm1 c v f vd=>⟨i.toNat,by rw[vd.ints];congr 1;lia,by lia,λp I l g=>?_⟩⟩;have u:Aft K m1 c U m1 (upd c p (.rng 0 i.toNat)):=⟨Ext.beside f.rel I _,f.rel.beside I _⟩;have Z:Aft K m1 (upd c p (.rng 0 i.toNat)) U m1 (upd (upd c p (.rng 0 i.toNat)) l (.lst ((Ze i.toNat).map λ(j:Nat)=>V.int j))):=⟨Ext.beside u.rel g _,u.rel.beside g _⟩;have y:l ∉ m1:=u.rel.no g
   have L:c l=aD:=by
    cases B:c l with
    |none=>rfl
    |some o=>rw[(Ext.beside f.rel I (.rng 0 i.toNat)).keep l o B y] at g;cases g
   have nH:H l=aD:=by
    cases B:H l with
    |none=>rfl
    |some o=>
     by_cases O:l ∈ m
     ·exact absurd (f.ext.pre.subset O) y
     ·rw[f.ext.keep l o B O] at L;cases L
   refine q m1 _ l _ (f.trans (u.trans Z)) aH y (λb hb z=>y (z ▸ f.ext.pre.subset hb)) nH ?_;exact jw _ _ _ _
  ·cases e
 |_=>cases e
def CP{K:Vf}{m:List Addr}{H:Hp}(a:Int):∀l:List Nat,VDs K m H (l.map λ(i:Nat)=>D.int (a+i)) (l.map λ(i:Nat)=>V.int (a+i))
 |[]=>by rw[Z4,Z4,VDs]
 |i::l=>by rw[Zz,Zz,VDs];exact⟨_,_,rfl,bx,CP a l⟩
def Go{x y:XE}{O:L2.St}{H:Hp}{Q:VK}{K:Vf}(h:eZ K (pX x y) O H Q):tE K x O H λv H1=>tE K y O H1 λu c=>∃i j,v = .int i/\u = .int j/\-100000<=i/\i<=j/\j<=i+20000/\i<=100000/\∀p,c p=aD->∀l,upd c p (.rng i j) l=aD->Q (.ref l) (upd (upd c p (.rng i j)) l (.lst (rgV i j))):=by
 obtain⟨m,ρ,S,ds,S',E,R,e,q⟩:=h;obtain⟨d,S1,e1,e⟩:=aj e;obtain⟨d2,S2,e2,e⟩:=aj e;cases d with
 |int i=>
  cases d2 with
  |int j=>
   dsimp only at e;split at e
   ·rename_i I;cases e;refine⟨m,ρ,S,.int i,_,E,R,e1,λm1 H1 v Z vd=>⟨m1,ρ,S1,.int j,_,E.mono R Z.ext,Z.rel,e2,λm2 c u J vu=>⟨i,j,vd.ints,vu.ints,I.1,I.2.1,I.2.2.1,I.2.2.2,λp Y l g=>?_⟩⟩⟩;have f:=Z.trans J;have B:Aft K m2 c _ m2 (upd c p (.rng i j)):=⟨Ext.beside J.rel Y _,J.rel.beside Y _⟩;have A4:Aft K m2 (upd c p (.rng i j)) _ m2 (upd (upd c p (.rng i j)) l (.lst (rgV i j))):=⟨Ext.beside B.rel g _,B.rel.beside g _⟩;have L:l ∉ m2:=B.rel.no g
    have n1:c l=aD:=by
     cases U:c l with
     |none=>rfl
     |some o=>rw[(Ext.beside J.rel Y (.rng i j)).keep l o U L] at g;cases g
    have nH:H l=aD:=by
     cases U:H l with
     |none=>rfl
     |some o=>
      by_cases hm:l ∈ m
      ·exact absurd (f.ext.pre.subset hm) L
      ·rw[f.ext.keep l o U hm] at n1;cases n1
    refine q m2 _ l _ (f.trans (B.trans A4)) aH L (λb hb z=>L (z ▸ f.ext.pre.subset hb)) nH ?_;exact CP _ _
   ·cases e
  |_=>cases e
 |_=>cases e
def Gp{c:L2.St}{H:Hp}{Q:VK}{K:Vf}(h:tE K Co c H Q):Bt c H Q:=by
 obtain⟨m,g,S,d,j,E,R,e,q⟩:=h;cases e;exactλp f=>yf R f (show VDs K m H [] [] by rw[VDs]) rfl q
def Gq{c:L2.St}{H:Hp}{Q:VK}{K:Vf}{i j:Int}(h:tE K (Cp i j) c H Q):Bw [(tC (.int i),tC (.int j))] c H Q:=by
 obtain⟨m,g,S,d,o,E,R,e,q⟩:=h;cases e;intro p f;refine⟨aH,[(pd i,.int j)],rfl,by simp,?_⟩;rw[xc];exact yf R f (ks:=[pd i]) (vs:=[.int j]) (show VDs K m H [.int j] [.int j] by rw[VDs];exact⟨_,_,rfl,bx,by rw[VDs]⟩) rfl q
def LX{f:Bool->List D->Option (List D)}{x:XE}{y:L2.St}{H:Hp}{Q:VK}{K:Vf}(h:eZ K (zS f x) y H Q):tUn (rTm K f) (tE K x) y H Q:=by
 obtain⟨m,ρ,S,ds,S',E,R,e,q⟩:=h;obtain⟨d,U,I,e⟩:=aj e;cases g:av d U with
 |none=>rw[g] at e;cases e
 |some r=>
  rw[g] at e;dsimp only at e;cases u:f r.1 r.2 with
  |none=>rw[u] at e;cases e
  |some es=>
  rw[u] at e;cases e;refine⟨m,ρ,S,d,_,E,R,I,λm1 H1 v c vd=>?_⟩;obtain⟨a,Y,J,sq,j⟩:=e8 (tu:=r.1) (ds:=r.2) c.rel vd g;refine⟨m1,_,r.1,r.2,a,Y,ds,c.rel,J,sq,j,u,λm2 H2 p ws A2 hp L B n3 O=>?_⟩
  have Z:H p=aD:=by
   cases eh:H p with
   |none=>rfl
   |some o=>
    by_cases z:p ∈ m
    ·exact absurd rfl (B p (c.ext.pre.subset z))
    ·have:=c.ext.keep p o eh z;rw[n3] at this;cases this
  exact q m2 H2 p ws (c.trans A2) hp L (λb hb=>B b (c.ext.pre.subset hb)) Z O
def LY{f:Bool->List D->Option (List D)}{x:XA}{u:L2.St}{H:Hp}{Q:VK}{K:Vf}(h:eZ K (zR f x) u H Q):tUn (rTm K f) (eZ K x) u H Q:=by
 obtain⟨m,ρ,S,J,S',E,R,e,q⟩:=h;obtain⟨g,S1,B,e⟩:=aj e;cases j:f aT g with
 |none=>rw[j] at e;cases e
 |some O=>
 rw[j] at e;cases e;refine⟨m,ρ,S,g,_,E,R,B,λm1 H1 a v c ha na _ _ vd=>?_⟩;refine⟨m1,_,aT,g,a,v,J,c.rel,rfl,show SqL K H1 a v from SqL.of ha,vd,j,λm2 H2 p ws Z hp I z n3 L=>?_⟩
 have U:H p=aD:=by
  cases Y:H p with
  |none=>rfl
  |some o=>
   by_cases y:p ∈ m
   ·exact absurd rfl (z p (c.ext.pre.subset y))
   ·have:=c.ext.keep p o Y y;rw[n3] at this;cases this
 exact q m2 H2 p ws (c.trans Z) hp I (λb hb=>z b (c.ext.pre.subset hb)) U L
def CQ(I:Snd T C ar k n)(e:Expr)(c:CE)(G:CtxOk T C ar k b X)(E:aq c=aN)(h:aI T (n+1) b e c=aN):PE X e (eZ X.K (cQ C ar (n+1) c)):=by
 cases c with
 |lst cs=>
  obtain⟨es,p,rfl,U⟩:=nP h;exact PE.imp (mH (I.a b X es cs G U)) λB H Q q=>FK q
 |listOf a=>
  obtain⟨x,p,q,rfl,g,o,h4⟩:=a8 h;show PE X _ (eZ X.K (if aq a=aN then cQ C ar n a else nw (evE C ar n a)));split
  ·rename_i E;exact PE.imp (lZ m9 G g (by decide) WC (by decide) (I.tm b X x a G E o) h4) λB H Q q=>CO q
  ·exact PE.imp (lZ m9 G g (by decide) WC (by decide) (I.e b X x a G o) h4) λB H Q q=>CN q
 |listR a=>
  obtain⟨x,p,q,rfl,g,o,h4⟩:=a8 h;obtain⟨y,p',q',rfl,L,h6,J⟩:=a8 o
  exact PE.imp (eW (qW G.calm) (G.gl g).1 (G.bl _ (by decide)) WC (bN (eW sP (G.gl L).1 (G.bl _ (by decide)) WE (bN (I.e b X y a G h6) J) (by decide) (G.gl L).2 (au J) rfl) h4) (by decide) (G.gl g).2 (au h4) rfl) λB H Q q=>jv (LW q) λv H1 ⟨i,O,hi,z⟩=>by
    subst O;exact⟨i,rfl,λp hp=>⟨p,i,rfl,aH,hi,λl Z=>z p hp l Z⟩⟩
 |listR2 a c=>
  obtain⟨x,p,q,rfl,g,o,h4⟩:=a8 h;obtain⟨y,z,p',q',rfl,L,h6,J,h8,h9⟩:=dB o
  exact PE.imp (eW (pc G.calm) (G.gl g).1 (G.bl _ (by decide)) WC (bN (eW rC (G.gl L).1 (G.bl _ (by decide)) WE (cm (I.e b X y a G h6) (bN (I.e b X z c G h8) h9) J) (by decide) (G.gl L).2 (au J) (dn λe he=>by rw[ZK.mp he];exact h9)) h4) (by decide) (G.gl g).2 (au h4) rfl) λB H Q q=>jv (Go q) λv H1 q1=>jv q1 λu H2 ⟨i,j,O,eu,z1,z2,z3,z4,z5⟩=>by
    subst O eu;exact⟨i,j,rfl,λp hp=>⟨p,i,j,rfl,aH,z1,z2,z3,z4,λl Z=>z5 p hp l Z⟩⟩
 |srt a=>
  obtain⟨x,p,q,rfl,g,o,h4⟩:=a8 h;show PE X _ (eZ X.K (if aq a=aN then zR df (cQ C ar n a) else zS df (evE C ar n a)));split
  ·rename_i E;exact PE.imp (fH pU G g (by decide) WF (by decide) (I.tm b X x a G E o) h4) λB H Q q=>LY (f:=df) q
  ·exact PE.imp (fH pU G g (by decide) WF (by decide) (I.e b X x a G o) h4) λB H Q q=>LX (f:=df) q
 |comp own elt cls=>
  obtain⟨tg,it,cond,rest,rfl,hc⟩:=JB h;obtain⟨el,t,i,ifs,gs,Y,p,rfl,U⟩:=yd hc;obtain⟨h0,h1,g,o,h4⟩:=an5 U;exact Gn I G h0 h1 g o h4
 |_=>cases E
def jx{y:Expr}{p:Pos}(h:aK y=aN):((backTo p (Ug [y] X.env)).all (λx=>!x.1) && (backToKw p (keywordEach [] X.env)).all (λx=>x.1.isSome) && decide (([y]:List Expr).length+([]:List Keyword).length+(if ([]:List Keyword).isEmpty then 0 else 1) < 30))=aN:=by
 rw[au h];rfl
def LZ{E:List Expr}{a c:CE}(h:eF T n b E [a,c]=aN):∃y z,E=[y,z]:=by
 cases n with
 |zero=>exact absurd h Zg
 |succ n=>
  obtain⟨e,E,rfl,h⟩:=cg h;obtain⟨z,rfl⟩:=rJ (an2 h).2;exact⟨e,z,rfl⟩
def Qm(I:Snd T C ar k n)(e:Expr)(c:CE)(G:CtxOk T C ar k b X)(h:aI T (n+1) b e c=aN):PE X e (tE X.K (evE C ar (n+1) c)):=by
 have hu:=t5 G.room
 have tmp:aq c=aN->evE C ar (n+1) c=dz (cQ C ar (n+1) c)->PE X e (tE X.K (evE C ar (n+1) c)):=λht he=>by
  rw[he];exact PE.imp (CQ I e c G ht h) λJ H Q q=>sZ q
 cases c with
 |non=>obtain⟨_,_,rfl⟩:=LN h;exact PE.imp Kg λJ H Q q=>BO (λ_ _=>mY) q
 |bl v=>obtain⟨_,_,rfl⟩:=CB h;exact PE.imp AO λJ H Q q=>BO (λ_ _=>cK) q
 |int v=>obtain⟨_,_,rfl⟩:=nK h;exact PE.imp mz λJ H Q q=>BO (λ_ _=>bx) q
 |str v=>obtain⟨_,_,rfl⟩:=vY h;exact PE.imp qK λJ H Q q=>BO (λ_ _=>mZ) q
 |var i=>
  obtain⟨x,p,rfl,Z⟩:=dg h;have Z:=an2 Z;have v:=G.vis Z.2;exact PE.imp (uJ (i:=i) (by rw[G.hN];exact eq_of_beq Z.1) v.1 v.2.1 v.2.2) λJ H Q q=>K3 q
 |con k' v=>
  obtain⟨x,p,rfl,Z⟩:=dg h;have Z:=an2 Z;have g:=G.gl Z.2;obtain⟨tk,hm⟩:=G.con k' x v (eq_of_beq Z.1);exact PE.imp (xg (v:=.int v) g.1 hm ⟨tk,rfl⟩ g.2) λJ H Q q=>BO (λ_ _=>bx) q
 |tup cs=>obtain⟨Y,_,_,rfl,Z⟩:=CC h;exact PE.imp (KA (I.a b X Y cs G Z)) λJ H Q q=>K5 q
 |lst cs=>exact tmp rfl rfl
 |dic0=>obtain⟨p,rfl⟩:=Gh h;exact PE.imp Bu λJ H Q q=>Gp q
 |dic1 i j=>
  obtain⟨x,y,p,rfl,O,u⟩:=Gi h;obtain⟨_,_,rfl⟩:=nK O;obtain⟨_,_,rfl⟩:=nK u;exact PE.imp (BG mz mz) λJ H Q q=>Gq q
 |bin o a L=>obtain⟨l,r,p,rfl,u,B⟩:=vZ h;exact PE.imp (A8 (FN o) (I.e b X l a G u) (I.e b X r L G B)) λJ H Q q=>rd q
 |neg a=>obtain⟨x,p,rfl,Z⟩:=CD h;exact PE.imp (Jg F8 (I.e b X x a G Z)) λJ H Q q=>xO q
 |cmp o a L=>obtain⟨l,r,p,rfl,u,B,h4⟩:=v5 h;exact PE.imp (Fb (hU hu o) (I.e b X l a G u) (I.e b X r L G B) (fF h4)) λJ H Q q=>rd q
 |chn o p' a L d=>obtain⟨l,r,s,p,rfl,u,B,h4,U⟩:=CF h;exact PE.imp (Ba (hU hu o) (hU hu p') (I.e b X l a G u) (I.e b X r L G B) (I.e b X s d G h4) (nS U)) λJ H Q q=>Cj q
 |and a L=>
  rcases Gc h with h |h
  ·obtain⟨x,y,p,rfl,O,u⟩:=nQ h;exact PE.imp (AW (I.e b X x a G O) (AV (I.e b X y L G u))) λJ H Q q=>Ci q
  ·obtain⟨x,y,z,ys,p,rfl,O,u⟩:=rF h;exact PE.imp (AW (I.e b X x a G O) (I.e b X _ L G u)) λJ H Q q=>Ci q
 |or a L=>
  rcases Gc h with h |h
  ·obtain⟨x,y,p,rfl,O,u⟩:=nQ h;exact PE.imp (Ja (I.e b X x a G O) (AV (I.e b X y L G u))) λJ H Q q=>Jt q
  ·obtain⟨x,y,z,ys,p,rfl,O,u⟩:=rF h;exact PE.imp (Ja (I.e b X x a G O) (I.e b X _ L G u)) λJ H Q q=>Jt q
 |not a=>obtain⟨x,p,rfl,Z⟩:=v0 h;exact PE.imp (Ki (I.e b X x a G Z)) λJ H Q q=>LG q
 |ix a L=>
  obtain⟨x,y,p,rfl,O,u,B⟩:=JA h;show PE X _ (tE X.K (if aq a=aN then vo (cQ C ar n a) (evE C ar n L) else sW ixS (evE C ar n a) (evE C ar n L)));split
  ·rename_i ht;exact PE.imp (Bh Bj (I.tm b X x a G ht O) (I.e b X y L G u) (nR B)) λJ H Q q=>Lh q
  ·exact PE.imp (Bh (Su hu) (I.e b X x a G O) (I.e b X y L G u) (nR B)) λJ H Q q=>rd q
 |sl a lo hi=>obtain⟨x,y,z,p,p',rfl,O,u,B⟩:=Qa h;exact PE.imp (Bg Sv (I.e b X x a G O) (tZ I G u) (tZ I G B)) λJ H Q q=>PR q
 |call f cs=>
  obtain⟨x,e,Y,p,p',rfl,h12,B⟩:=rG (k:=λx=>oA T.fns[f]? (λy=>y.1 == x) && b.glo x) (l:=λY=>eF T n b Y cs) (e:=e) h;obtain⟨O,u⟩:=an2 h12
  ·obtain⟨y,hy,O⟩:=ju O;have hx:=l4 O;subst hx;obtain⟨ha,fa,fd,ps,hm,hk,hb,F⟩:=G.fns f y hy;have E:=bf B;have g:=G.gl u;exact PE.imp (xr F G.room g.1 hm hk hb .nil Qe (I.a b X (e::Y) cs G B) g.2 (au (E e Zh)) (dn λe he=>E e (Zf _ he))) λJ H Q q=>F9 q
 |inst t a=>
  obtain⟨x,y,p,p',rfl,u,U,h6,h7,_⟩:=dB h;obtain⟨y,p'',rfl,h8⟩:=dg h7;obtain⟨B,h4⟩:=an2 h8;have hy:=l4 B;subst hy
  have ty:PE X (.Name (Str.ofString t.nm) p'') (tC (.ty t.nm)):=by
   have g:=G.gl h4;cases t with
   |int=>exact gY g.1 (G.bl _ (by decide)) WA rfl (by decide) g.2
   |bool=>exact gY g.1 (G.bl _ (by decide)) PyProof.Rows.boot_bool rfl (by decide) g.2
   |tuple=>exact gY g.1 (G.bl _ (by decide)) WG rfl (by decide) g.2
   |list=>exact gY g.1 (G.bl _ (by decide)) WC rfl (by decide) g.2
   |str=>exact gY g.1 (G.bl _ (by decide)) PyProof.Rows.boot_str rfl (by decide) g.2
  exact PE.imp (eV (qX X.K) (G.gl u).1 (G.bl _ (by decide)) WB (cm (I.e b X x a G U) (bN ty rfl) h6) (by decide) (G.gl u).2 (au h6) rfl) λJ H Q q=>FS q
 |len a=>obtain⟨x,p,p',rfl,u,B,h4⟩:=a8 h;exact nU I G (λte z=>fH zz G u (by decide) PySem.boot_len (by decide) z h4) B
 |all a=>obtain⟨x,p,p',rfl,u,B,h4⟩:=a8 h;exact nU I G (λte z=>fH (zB G.calm) G u (by decide) PyProof.Rows.boot_all (by decide) z h4) B
 |any a=>obtain⟨x,p,p',rfl,u,B,h4⟩:=a8 h;exact nU I G (λte z=>fH (zC G.calm) G u (by decide) PyProof.Rows.boot_any (by decide) z h4) B
 |mxL a=>obtain⟨x,p,p',rfl,u,B,h4⟩:=a8 h;exact nU I G (λte z=>fH (zG G.calm) G u (by decide) WD (by decide) z h4) B
 |intOf a=>obtain⟨x,p,p',rfl,u,B,h4⟩:=a8 h;exact PE.imp (lZ zH G u (by decide) WA (by decide) (I.e b X x a G B) h4) λJ H Q q=>xO q
 |rev a=>obtain⟨x,k,p,p2,p3,p4,rfl,O⟩:=LQ h;exact PE.imp (LJ (I.e b X x a G O)) λJ H Q q=>xO q
 |tupOf a=>obtain⟨x,p,p',rfl,u,B,h4⟩:=a8 h;exact nU I G (λte z=>lZ zA G u (by decide) WG (by decide) z h4) B
 |listOf a=>exact tmp rfl rfl
 |listR a=>exact tmp rfl rfl
 |listR2 a c=>exact tmp rfl rfl
 |srt a=>exact tmp rfl rfl
 |mx a L=>
  obtain⟨x,Y,p,p',rfl,u,B⟩:=tU (b:=b) (f := "max") (k:=λY=>eF T n b Y [a,L]) (e:=e) h;have E:=bf B;exact PE.imp (eV (vD G.calm) (G.gl u).1 (G.bl _ (by decide)) WD (I.a b X (x::Y) [a,L] G B) (by decide) (G.gl u).2 (au (E x Zh)) (dn λe he=>E e (Zf _ he))) λJ H Q q=>BN q
 |mn a L=>
  obtain⟨x,Y,p,p',rfl,u,B⟩:=tU (b:=b) (f := "min") (k:=λY=>eF T n b Y [a,L]) (e:=e) h;have E:=bf B;exact PE.imp (eV (vE G.calm) (G.gl u).1 (G.bl _ (by decide)) PyProof.Rows.boot_min (I.a b X (x::Y) [a,L] G B) (by decide) (G.gl u).2 (au (E x Zh)) (dn λe he=>E e (Zf _ he))) λJ H Q q=>BN q
 |rep a=>obtain⟨x,p,p',rfl,u,B,h4⟩:=a8 h;exact PE.imp (fH (vP G.room) G u (by decide) PyProof.Rows.boot_repr (by decide) (I.e b X x a G B) h4) λJ H Q q=>xO q
 |comp own elt cls=>exact tmp rfl rfl
 |app o a=>
  obtain⟨x,ap,Y,p,rfl,u,B,h4,U⟩:=j9 h;obtain⟨y,rfl⟩:=rJ U;have E:=bf U y (by simp);exact PE.imp (pG WR WT PySem.F.type_list_append Lq (I.e b X x o G h4) (I.a b X [y] [a] G U) (cz u) (jx E) B (au E) rfl) λJ H Q q=>rm (λR vd c=>vM R vd c) q
 |popAt o a=>
  obtain⟨x,ap,Y,p,rfl,u,B,h4,U⟩:=j9 h;obtain⟨y,rfl⟩:=rJ U;have E:=bf U y (by simp);exact PE.imp (pG WR WX PySem.F.type_list_pop zJ (I.e b X x o G h4) (I.a b X [y] [a] G U) (cz u) (jx E) B (au E) rfl) λJ H Q q=>rm (λR vd c=>vM R vd c) q
 |ins o i a=>
  obtain⟨x,ap,Y,p,rfl,u,B,h4,U⟩:=j9 h;obtain⟨y,z,rfl⟩:=LZ U;have E:=bf U y (by simp);have hpz:=bf U z (by simp);exact PE.imp (pG WR WW PySem.F.type_list_insert FY (I.e b X x o G h4) (I.a b X [y,z] [i,a] G U) (cz u) (by rw[au E,au hpz];rfl) B (au E) (by rw[au hpz];rfl)) λJ H Q q=>rm (λR vd c=>vM R vd c) q
 |cnt o a=>
  obtain⟨x,ap,Y,p,rfl,u,B,h4,U⟩:=j9 h;obtain⟨y,rfl⟩:=rJ U;have E:=bf U y (by simp);exact PE.imp (pG PySem.F.plainAttrs_tuple WZ PySem.F.type_tuple_count FV (I.e b X x o G h4) (I.a b X [y] [a] G U) (cz u) (jx E) B (au E) rfl) λJ H Q q=>rm (λR vd c=>Lp R vd c) q
end
section
variable {T:Tab} {C:Calls} {ar:Nat->Nat} {k n:Nat} {b:Blk} {X:Cx}
def yg{op:BoolOp}{vs:List Expr}{p:Pos}{t:TT}(h:PT X (.BoolOp op vs p) t):PW X (.BoolOp op vs p) t:=λf c s g H Q I q=>h c s g H Q I q
def Qo(I:Snd T C ar k n)(e:Expr)(c:CE)(G:CtxOk T C ar k b X)(h:fE T (n+1) b e c=aN):PT X e (tT X.K (evT C ar (n+1) c)):=by
 have E:=t5 G.room
 have dflt:evT C ar (n+1) c=FQ (evE C ar n c)->(aI T n b e c && Gb e)=aN->PT X e (tT X.K (evT C ar (n+1) c)):=λJ v=>by
  rw[J];have v:=an2 v;exact PT.imp (Bc (I.e b X e c G v.1) (nT v.2)) λu H Q q=>Lj q
 cases c with
 |cmp o a j=>obtain⟨l,r,p,rfl,f,B,h4⟩:=v5 h;exact PT.imp (xo (hU E o) (I.e b X l a G f) (I.e b X r j G B) (fF h4)) λu H Q q=>rd (PU q)
 |chn o L a j d=>obtain⟨l,r,s,p,rfl,f,B,h4,O⟩:=CF h;exact PT.imp (Bb (hU E o) (hU E L) (I.e b X l a G f) (I.e b X r j G B) (I.e b X s d G h4) (nS O)) λu H Q q=>Cj (PU q)
 |and a j=>
  rcases Gc h with h |h
  ·obtain⟨x,y,p,rfl,g,f⟩:=nQ h;exact PT.imp (AR (I.t b X x a G g) (EZ (I.t b X y j G f))).pt λu H Q q=>Cn q
  ·obtain⟨x,y,z,Y,p,rfl,g,f⟩:=rF h;exact PT.imp (AR (I.t b X x a G g) (yg (I.t b X _ j G f))).pt λu H Q q=>Cn q
 |or a j=>
  rcases Gc h with h |h
  ·obtain⟨x,y,p,rfl,g,f⟩:=nQ h;exact PT.imp (AS (I.t b X x a G g) (AQ (I.t b X y j G f))).pt λu H Q q=>Ju q
  ·obtain⟨x,y,z,Y,p,rfl,g,f⟩:=rF h;exact PT.imp (AS (I.t b X x a G g) (yg (I.t b X _ j G f))).pt λu H Q q=>Ju q
 |not a=>obtain⟨x,p,rfl,g⟩:=v0 h;exact PT.imp (AU (I.t b X x a G g)) λu H Q q=>LI q
 |_=>exact dflt rfl h
def snd:∀n,Snd T C ar k n
 |0=>⟨λb X e c _ h=>absurd h Zg,λb X e c _ _ h=>absurd h Zg,λb X e c _ h=>absurd h Zg,λb X e c _ h=>absurd h Zg,λB b X t e c _ h=>absurd h Zg,λb X e g E cls _ h=>absurd h Zg⟩
 |n+1=>⟨λb X e c G h=>Qm (snd n) e c G h,λb X e c G f h=>CQ (snd n) e c G f h,λb X j o G h=>Qj (snd n) j o G h,λb X e c G h=>Qo (snd n) e c G h,λB b X t e c G h=>Qk (snd n) B t e c G h,λb X e g E cls G h=>LV (snd n) e g E cls G h⟩
end
inductive CS where |asg (t:Tg)(e:CE) |setI (v o i:CE) |swp (v o i q j:CE) |dcs (i:Nat)(own:List Str)(k v:CE)(t:Tg)(it:CI) |ex (e:CE) |ret (e:CE) |ifs (c:CE)(a b:List CS) |for_ (t:Tg)(it:CI)(b:List CS) |cnt |never
abbrev Gr:XS:=λ_ _=>aD
mutual
noncomputable def evS(C:Calls)(f:Nat->Nat):Nat->CS->XS
 |0,_=>Gr
 |n+1,s=>match s with
  |.asg t e=>nt (evE C f n e) t
  |.setI v o i=>tL (evE C f n v) (evE C f n o) (evE C f n i)
  |.swp v o i q j=>Cb (evE C f n v) (evE C f n o) (evE C f n i) (evE C f n q) (evE C f n j)
  |.dcs i own k v t it=>zO i own.length (evI C f n it) t (evE C f n k) (evE C f n v) LF
  |.ex e=>tK (evE C f n e)
  |.ret e=>Ca (evE C f n e)
  |.ifs c a b=>xIf (evT C f n c) (gc C f n a) (gc C f n b)
  |.for_ t it b=>Cd (evI C f n it) t (gc C f n b) LF
  |.cnt=>P5
  |.never=>Gr
noncomputable def gc(C:Calls)(b:Nat->Nat):Nat->List CS->XS
 |0,_=>Gr
 |n+1,ss=>match ss with
  |[]=>Jr
  |s::ss=>vR (evS C b n s) (gc C b n ss)
end
abbrev CT:Expr->Bool
 |.Starred _ _=>aN
 |_=>aT
abbrev hY(sc:Scope)(L:Nat)(T:List Expr):List Str:=T.filterMap λ
 |.Name id pos=>if sc.names.lookup id == aa .local && pos.line == L then aa id else aD
 |_=>aD
abbrev nW(sc:Scope)(ts vs:List Expr):Option (Option (List Str)):=
 if (!(ts.length == 2 || ts.length == 3) || vs.length != ts.length)=aN then aa aD
 else if (vs.any CT)=aN then aa aD
 else if ((hY sc ((ts.head?.map (·.pos.line)).getD 0) ts).length != ts.length || (hY sc ((ts.head?.map (·.pos.line)).getD 0) ts).eraseDups.length != (hY sc ((ts.head?.map (·.pos.line)).getD 0) ts).length)=aN then aa aD
 else if (vs.all (foldedForSure 8))=aN then aa aD
 else if (vs.all (constantsAlone 8))=aN then aD
 else aa (aa (hY sc ((ts.head?.map (·.pos.line)).getD 0) ts))
def JC{k k2:Nat}(o:env.blockKind = .function)(hs:env.scope=sc)(h:nW sc ts vs=aa r):Ui [.Tuple ts k p] (.Tuple vs k2 p2) env=pure r:=by
 unfold nW at h;unfold Ui
 have E:(vs.any λ|.Starred ..=>aN |_=>aT)=vs.any CT:=by
  congr 1
 have g:(ts.filterMap λ
   |.Name id pos=>if env.kindOf id == aa .local && pos.line == ((ts.head?.map (·.pos.line)).getD 0) then aa id else aD
   | _=>aD)=hY sc ((ts.head?.map (·.pos.line)).getD 0) ts:=by
  unfold hY Env.kindOf;rw[hs]
 have j:(env.blockKind != .function)=aT:=by rw[o];rfl
 simp only[j,Wp];split at h
 ·rename_i C;rw[if_pos C];cases h;rfl
 rename_i C;rw[if_neg C];split at h
 ·rename_i b;cases h;exact if_pos (E.trans b)
 rename_i b;refine Eq.trans (if_neg λz=>b (E.symm.trans z)) ?_;split at h
 ·rename_i c;cases h;rw[<-g] at c;exact if_pos c
 rename_i c;rw[<-g] at c h;refine Eq.trans (if_neg c) ?_;split at h
 ·rename_i f;cases h;exact if_pos f
 rename_i f;refine Eq.trans (if_neg f) ?_;split at h
 ·cases h
 rename_i n;cases h;exact if_neg n
abbrev v9:Expr->Option (Scope × Pos)
 |.ListComp _ _ s p=>aa (s,p)
 |.SetComp _ _ s p=>aa (s,p)
 |.DictComp _ _ _ s p=>aa (s,p)
 |_=>aD
abbrev swW(sc:Scope)(v:Expr)(t:Str)(b:Pos):Bool:=match v9 v with
 |none=>aT
 |some (s,p)=>sc.names.lookup t == aa .local && b.line == p.line && !(s.names.any λy=>y.1 == t && (y.2 == .local || y.2 == .cell))
def wa{line:Nat}(h:env.blockKind = .function)(hs:env.scope=sc):Uj v (aa (.Name t pos)) line env=pure (swW sc v t pos):=by
 unfold Uj swW v9;have E:(env.blockKind == .function)=aN:=by rw[h];rfl
 cases v <;> first |rfl |(simp only[E,XU,Env.kindOf,hs];rfl)
def nX{L:Nat}(h:∀x p,T ≠ .Name x p):Uk [T] v L env=pure aT:=by
 show Uj v (aa T) L env=pure aT;unfold Uj;cases v <;> first |rfl |(cases T <;> first |rfl |(exact absurd rfl (h _ _)))
def jy(h:(∀E k p,v ≠ .Tuple E k p)\/(∃x p,T = .Name x p)\/(∃o i p,T = .Subscript o i p)):Ui [T] v env=pure aD:=by
 unfold Ui;rcases h with h |⟨x,p,rfl⟩ |⟨o,i,p,rfl⟩
 ·split
  ·rename_i e;split at e
   ·exact absurd rfl (h _ _ _)
   ·exact absurd rfl (h _ _ _)
   ·cases e
  ·rfl
 ·rfl
 ·rfl
abbrev nmL:List Expr->Option (List Str)
 |[]=>aa []
 |e::es=>match zU e,nmL es with
  |some r,aa xs=>aa (r.1::xs)
  |_,_=>aD
def gw(h:nmL b=aa (x::xs)):∃p E,b = .Name x p::E/\nmL E=aa xs:=by
 cases b with
 |nil=>cases h
 |cons e b=>
  rw[nmL] at h;split at h
  ·rename_i r y f c;cases h;exact⟨_,b,by rw[lY f],c⟩
  ·cases h
def yh(h:nmL E=aa []):E=[]:=by
 cases E with
 |nil=>rfl
 |cons e E=>
  rw[nmL] at h;split at h <;> cases h
abbrev tgL:List Tg->Option (List Nat)
 |[]=>aa []
 |.name i::ts=>match tgL ts with
  |some is=>aa (i::is)
  |none=>aD
 |.tup _::_=>aD
def CU:∀ {T:List Tg} {is:List Nat},tgL T=aa is->T=is.map Tg.name
 |[],_,h=>by cases h;rfl
 |.name i::T,is,h=>by
  rw[tgL] at h;cases e:tgL T with
  |none=>rw[e] at h;cases h
  |some js=>rw[e] at h;cases h;rw[CU e];rfl
 |.tup _::_,_,h=>by cases h
abbrev Qp(b:Blk)(ns:List Str)(is:List Nat):Bool:=match ns with
 | [x,y]=>(match is with
  |[i,j]=>b.N[i]? == aa x && b.N[j]? == aa y && i != j && b.sc.names.lookup x == aa .local && b.sc.names.lookup y == aa .local
  | _=>aT)
 | [x,y,z]=>(match is with
  |[i,j,l]=>b.N[i]? == aa x && b.N[j]? == aa y && b.N[l]? == aa z && i != j && i != l && j != l && b.sc.names.lookup x == aa .local && b.sc.names.lookup y == aa .local && b.sc.names.lookup z == aa .local
  | _=>aT)
 |_=>aT
abbrev Sy(e:Expr):Bool:=j8 e λ_ _ _ _=>aN
abbrev Sz(e:Expr):Bool:=e.ctorIdx == 24
abbrev wb(T:Tab)(n:Nat)(b:Blk)(f e:Expr)(t:Tg)(c:CE):Bool:=match t with
 | .name i=>(match zU f with
  |some r=>aI T n b e c && b.N[i]? == aa r.1 && b.own r.1 && (!(swW b.sc e r.1 r.2) || (Sy e && b.sc.names.lookup r.1 == aa .local))
  | none=>aT)
 | .tup gs=>(match tR f with
  | some r=>aI T n b e c && (match tR e with
   | some q=>(match nW b.sc r.1 q.1 with
    |some aD=>nI b r.1 gs
    | some (aa ns)=>(match tgL gs with
     |some is=>nmL r.1 == aa ns && q.1.length == ns.length && Qp b ns is
     | none=>aT)
    | none=>aT)
   | none=>!(Sz e) && nI b r.1 gs)
  | none=>aT)
abbrev yi(e:Stmt)(k:Option Expr->Pos->Bool):Bool:=if h:e.ctorIdx=3 then @Stmt.Return.elim (λ_=>Bool) e h k else aT
def z8(h:yi e k=aN):∃b X,e = .Return b X/\k b X=aN:=by
 obtain⟨c,h⟩:=bQ h;exact Stmt.Return.elim (motive_2:=λe=>∀f,@Stmt.Return.elim (λ_=>Bool) e f k=aN->∃b X,e = .Return b X/\k b X=aN) e c (λb X _ g=>⟨b,X,rfl,g⟩) c h
abbrev ma(e:Stmt)(k:List Expr->Expr->Pos->Bool):Bool:=if h:e.ctorIdx=5 then @Stmt.Assign.elim (λ_=>Bool) e h k else aT
def kc(h:ma e k=aN):∃b X c,e = .Assign b X c/\k b X c=aN:=by
 obtain⟨f,h⟩:=bQ h;exact Stmt.Assign.elim (motive_2:=λe=>∀g,@Stmt.Assign.elim (λ_=>Bool) e g k=aN->∃b X c,e = .Assign b X c/\k b X c=aN) e f (λb X c _ j=>⟨b,X,c,rfl,j⟩) f h
abbrev Qq(e:Stmt)(k:Expr->Expr->List Stmt->List Stmt->Pos->Bool):Bool:=if h:e.ctorIdx=9 then @Stmt.For.elim (λ_=>Bool) e h k else aT
def L1(h:Qq e k=aN):∃b X g f c,e = .For b X g f c/\k b X g f c=aN:=by
 obtain⟨j,h⟩:=bQ h;exact Stmt.For.elim (motive_2:=λe=>∀n,@Stmt.For.elim (λ_=>Bool) e n k=aN->∃b X g f c,e = .For b X g f c/\k b X g f c=aN) e j (λb X g f c _ o=>⟨b,X,g,f,c,rfl,o⟩) j h
abbrev jIf(e:Stmt)(k:Expr->List Stmt->List Stmt->Pos->Bool):Bool:=if h:e.ctorIdx=12 then @Stmt.If.elim (λ_=>Bool) e h k else aT
def Qu(h:jIf e k=aN):∃b X f c,e = .If b X f c/\k b X f c=aN:=by
 obtain⟨g,h⟩:=bQ h;exact Stmt.If.elim (motive_2:=λe=>∀j,@Stmt.If.elim (λ_=>Bool) e j k=aN->∃b X f c,e = .If b X f c/\k b X f c=aN) e g (λb X f c _ n=>⟨b,X,f,c,rfl,n⟩) g h
abbrev JD(e:Stmt)(k:Expr->Pos->Bool):Bool:=if h:e.ctorIdx=24 then @Stmt.Expr.elim (λ_=>Bool) e h k else aT
def Gs(h:JD e k=aN):∃b X,e = .Expr b X/\k b X=aN:=by
 obtain⟨c,h⟩:=bQ h;exact Stmt.Expr.elim (motive_2:=λe=>∀f,@Stmt.Expr.elim (λ_=>Bool) e f k=aN->∃b X,e = .Expr b X/\k b X=aN) e c (λb X _ g=>⟨b,X,rfl,g⟩) c h
abbrev qe(e:Stmt)(k:Pos->Bool):Bool:=if h:e.ctorIdx=27 then @Stmt.Continue.elim (λ_=>Bool) e h k else aT
def t6(h:qe e k=aN):∃X,e = .Continue X/\k X=aN:=by
 obtain⟨b,h⟩:=bQ h;exact Stmt.Continue.elim (motive_2:=λe=>∀c,@Stmt.Continue.elim (λ_=>Bool) e c k=aN->∃X,e = .Continue X/\k X=aN) e b (λX _ f=>⟨X,rfl,f⟩) b h
abbrev rK(e:Expr):Bool:=e.ctorIdx == 8 || e.ctorIdx == 9 || e.ctorIdx == 10
abbrev CV(T:Tab)(n:Nat)(b:Blk)(h e:Expr)(i:Nat)(own:List Str)(k v:CE)(t:Tg)(I:CI):Bool:=oA (zU h) λr=>pZ e λf ve j c _=>l1 j λg=>
 decide (g.is_async=0) && g.ifs.isEmpty && cmB own (jr own b.N) b.N c b.sc && rH T n b g.target g.iter I && tS (b.inner own c) g.target t && aI T n (b.inner own c) f k && aI T n (b.inner own c) ve v &&
 b.N[i]? == aa r.1 && b.own r.1 && !(swW b.sc e r.1 r.2)
abbrev z9(k:Expr->Expr->Bool)(s:Stmt):Bool:=ma s λb v _=>l1 b λT=>k T v
abbrev JE(k l m:Expr->Bool)(s:Stmt):Bool:=ma s λT z _=>l1 T λb=>cy b λx y _=>k z && l x && m y && aK y
abbrev CW(e:Expr)(l m:Expr->Bool):Bool:=cy e λx y _=>l x && m y && aK y
abbrev Qv(k:Expr->Bool)(l m L c:Expr->Bool)(b:Blk)(s:Stmt):Bool:=ma s λT z _=>l1 T λh=>oA (tR h) λr=>lC r.1 λf t=>l1 t λg=>oA (tR z) λw=>k z && CW f l m && CW g L c && (match nW b.sc r.1 w.1 with |some aD=>aN |_=>aT)
abbrev zEx(k:Expr->Bool)(s:Stmt):Bool:=JD s λv _=>k v && !(rK v)
abbrev Aa(k:Expr->Bool)(s:Stmt):Bool:=yi s λv _=>oA v k
abbrev zIf(k:Expr->Bool)(l m:List Stmt->Bool)(s:Stmt):Bool:=jIf s λt p q _=>k t && l p && m q
abbrev Qw(k:Expr->Expr->Bool)(l:List Stmt->Bool)(s:Stmt):Bool:=Qq s λT i p q _=>q.isEmpty && k T i && l p
abbrev Qx(s:Stmt):Bool:=qe s λ_=>aN
section
variable {s:Stmt} {k l m:Expr->Bool}
def nY{k:Expr->Expr->Bool}(h:z9 k s=aN):∃T v p,s = .Assign [T] v p/\k T v=aN:=by
 obtain⟨b,v,p,rfl,h⟩:=kc h;obtain⟨T,rfl,h⟩:=cM h;exact⟨T,v,p,rfl,h⟩
def Gu(h:JE k l m s=aN):∃x y q z p,s = .Assign [.Subscript x y q] z p/\k z=aN/\l x=aN/\m y=aN/\aK y=aN:=by
 obtain⟨T,v,p,rfl,h⟩:=kc h;obtain⟨b,rfl,h⟩:=cM h;obtain⟨x,y,q,rfl,h⟩:=cj h;exact⟨x,y,q,v,p,rfl,an4 h⟩
def CY(h:CW e l m=aN):∃x y q,e = .Subscript x y q/\l x=aN/\m y=aN/\aK y=aN:=by
 obtain⟨x,y,q,rfl,h⟩:=cj h;exact⟨x,y,q,rfl,an3 h⟩
def L3(h:Qv k l m L B b s=aN):∃T c u pt f o g p,s = .Assign [.Tuple [T,c] u pt] (.Tuple f o g) p/\k (.Tuple f o g)=aN/\CW T l m=aN/\CW c L B=aN/\nW b.sc [T,c] f=aa aD:=by
 obtain⟨Q,z,p,rfl,h⟩:=kc h;obtain⟨U,rfl,h⟩:=cM h;obtain⟨⟨r1,r2,J⟩,I,h⟩:=ju h;obtain⟨T,t,E,h⟩:=cg h;obtain⟨c,C,h⟩:=cM h;obtain⟨⟨j,w2,O⟩,y,h⟩:=ju h;obtain⟨n,q,v,h4⟩:=an4 h;have E:r1=T::t:=E;subst C;subst E;rw[jt I];rw[jt y] at n ⊢;refine⟨T,c,r2,J,j,w2,O,p,rfl,n,q,v,?_⟩;have h4:(match nW b.sc [T,c] j with |some aD=>aN |_=>aT)=aN:=h4;split at h4
 ·rename_i e;exact e
 ·cases h4
def JF(h:zEx k s=aN):∃v p,s = .Expr v p/\k v=aN/\rK v=aT:=by
 obtain⟨v,p,rfl,h⟩:=Gs h;obtain⟨c,b⟩:=an2 h;exact⟨v,p,rfl,c,by cases e:rK v;rfl;rw[e] at b;cases b⟩
def nZ(h:Aa k s=aN):∃v p,s = .Return (aa v) p/\k v=aN:=by
 obtain⟨v,p,rfl,h⟩:=z8 h;obtain⟨v,rfl,h⟩:=ju h;exact⟨v,p,rfl,h⟩
def CZ{l m:List Stmt->Bool}(h:zIf k l m s=aN):∃t p q r,s = .If t p q r/\k t=aN/\l p=aN/\m q=aN:=by
 obtain⟨t,p,q,r,rfl,h⟩:=Qu h;exact⟨t,p,q,r,rfl,an3 h⟩
def L4{k:Expr->Expr->Bool}{l:List Stmt->Bool}(h:Qw k l s=aN):∃T i p q,s = .For T i p [] q/\k T i=aN/\l p=aN:=by
 obtain⟨T,i,p,q,r,rfl,h⟩:=L1 h;obtain⟨b,z⟩:=an3 h;cases cx b;exact⟨T,i,p,r,rfl,z⟩
def L5(h:Qx s=aN):∃p,s = .Continue p:=by obtain⟨p,rfl,_⟩:=t6 h;exact⟨p,rfl⟩
end
mutual
noncomputable def L6(T:Tab):Nat->Blk->Stmt->CS->Bool
 |0,_,_,_=>aT
 |n+1,b,s,c=>match c with
  |.asg t e=>z9 (λf v=>wb T n b f v t e) s
  |.setI v o i=>JE (λx=>aI T n b x v) (λx=>aI T n b x o) (λx=>aI T n b x i) s
  |.swp v o i q j=>Qv (λx=>aI T n b x v) (λx=>aI T n b x o) (λx=>aI T n b x i) (λx=>aI T n b x q) (λx=>aI T n b x j) b s
  |.dcs i own k v t it=>z9 (λf e=>CV T n b f e i own k v t it) s
  |.ex e=>zEx (λx=>aI T n b x e) s
  |.ret e=>Aa (λx=>aI T n b x e) s
  |.ifs c x y=>zIf (λe=>fE T n b e c) (λp=>qf T n b p x) (λp=>qf T n b p y) s
  |.for_ t it x=>Qw (λf i=>rH T n b f i it && tS b f t) (λp=>qf T n b p x) s
  |.cnt=>Qx s
  |.never=>aN
noncomputable def qf(T:Tab):Nat->Blk->List Stmt->List CS->Bool
 |0,_,_,_=>aT
 |n+1,b,ss,cs=>match cs with
  |[]=>ss.isEmpty
  |c::cs=>lC ss λs ss=>L6 T n b s c && qf T n b ss cs
end
section
variable {T:Tab} {C:Calls} {ar:Nat->Nat} {k n:Nat} {b:Blk} {X:Cx}
def Gv{c:Nat}(h:aI T (n+1) b (.Tuple E c p) (.tup f)=aN):eF T n b E f=aN:=h
def C0{j:Nat}(h:aI T (n+1) b (.Tuple o j p) c=aN):∃cs,c = .tup cs:=by
 cases c with
 |tup cs=>exact⟨cs,rfl⟩
 |comp own E cls=>
  cases cls with
  |nil=>exact absurd h Zg
  |cons g f=>obtain⟨q,I,cond⟩:=g;exact absurd h Zg
 |_=>exact absurd h Zg
def iT:∀ (f:List Tg) (g:List D) (h c:Rho),aQ f g h=aa c->f.length=g.length
 |[],[],_,_,_=>rfl
 |[],_::_,_,_,e=>by simp[aQ] at e
 |_::_,[],_,_,e=>by simp[aQ] at e
 |t::f,d::g,h,c,e=>by
  simp only[aQ] at e;split at e
  ·simp[iT _ _ _ _ e]
  ·cases e
def t7{K:Vf}{x:XA}{u:List Tg}{D:Ends}{p:L2.St}{H:Hp}(h:tSt K (nt (lx lB x) (.tup u)) D p H):tAr K x p H λvs H1=>∃m1 f g j,EnvR K m1 H1 f p/\VDs K m1 H1 j vs/\aQ u j f=aa g/\∀c,EnvR K m1 H1 g c->D.nx c H1:=by
 obtain⟨m,f,S,J,g,O,E,R,e,q⟩:=h;unfold nt at e;cases v:lx lB x f S with
 |none=>rw[v] at e;cases e
 |some r=>
  rw[v] at e;obtain⟨j,L,z,o⟩:=aj v;unfold lB at o;split at o
  ·cases o;dsimp only at e;simp only[aB] at e;cases hb:aQ u j f with
   |none=>rw[hb] at e;cases e
   |some I=>
    rw[hb] at e;cases e;exact⟨m,f,S,j,_,E,R,z,λm1 H1 vs y vd=>⟨m1,f,_,j,E.mono R y.ext,vd,hb,λc B=>q m1 H1 y c B⟩⟩
  ·cases o
def t8{K:Vf}{x:XA}{g:L2.St}{H:Hp}{Q Q':List V->Hp->Prop}(h:tAr K x g H Q)(f:∀v c,Q v c->Q' v c):tAr K x g H Q':=by
 obtain⟨m,o,S,d,p,E,R,e,q⟩:=h;exact⟨m,o,S,d,p,E,R,e,λj c v A vd=>f _ _ (q j c v A vd)⟩
def n8{f c:Rho}{i:Nat}{d:D}(h:(if i < f.length then aa (f.set i (aa d)) else aD)=aa c):c=f.set i (aa d):=by
 split at h
 ·cases h;rfl
 ·cases h
def Gw{K:Vf}{x:XA}{i j:Nat}{D:Ends}{f:L2.St}{H:Hp}(h:tSt K (nt (lx lB x) (.tup [.name i,.name j])) D f H):Pn i j (tAr K x) D f H:=by
 refine t8 (t7 h) λJ L ⟨m1,I,p,y,E,vd,e,q⟩=>?_;have u:=iT _ _ _ _ e
 match y,u with
 |[a,c],_=>
  obtain⟨v,w,rfl,g,z⟩:=vC vd;refine⟨v,w,rfl,q _ ?_⟩;simp only[aQ,aB] at e;split at e
  ·rename_i r1 B;have:=n8 B;subst this;split at e
   ·rename_i r2 o;have:=n8 o;subst this;cases e;exact(E.set g).set z
   ·cases e
  ·cases e
def SA{K:Vf}{m:List Addr}{H:Hp}{a b c:D}{vs:List V}(h:VDs K m H [a,b,c] vs):∃v w z,vs=[v,w,z]/\VD K m H a v/\VD K m H b w/\VD K m H c z:=by
 rw[VDs] at h;obtain⟨v,r,rfl,p,q⟩:=h;obtain⟨w,z,rfl,f,Q⟩:=vC q;exact⟨v,w,z,rfl,p,f,Q⟩
def Gx{K:Vf}{x:XA}{i j l:Nat}{D:Ends}{g:L2.St}{H:Hp}(h:tSt K (nt (lx lB x) (.tup [.name i,.name j,.name l])) D g H):Jo i j l (tAr K x) D g H:=by
 refine t8 (t7 h) λO Y ⟨m1,Q,p,B,E,vd,e,q⟩=>?_;have y:=iT _ _ _ _ e
 match B,y with
 |[a,c,d],_=>
  obtain⟨v,w,z,rfl,J,L,f⟩:=SA vd;refine⟨v,w,z,rfl,q _ ?_⟩;simp only[aQ,aB] at e;split at e
  ·rename_i r1 I;have:=n8 I;subst this;split at e
   ·rename_i r2 o;have:=n8 o;subst this;split at e
    ·rename_i U u;have:=n8 u;subst this;cases e;exact((E.set J).set L).set f
    ·cases e
   ·cases e
  ·cases e
def C1(h:aI T (n+1) b (.ListComp e z f p) c=aN):∃own E o I cond g t i ifs j,c = .comp own E (⟨o,I,cond⟩::g)/\z=⟨t,i,ifs,0⟩::j ∧
  cmB own (jr own b.N) b.N f b.sc=aN/\rH T n b t i I=aN/\tS (b.inner own f) t o=aN/\CH (fE T n (b.inner own f)) ifs cond=aN/\p9 T n (b.inner own f) e j E g=aN:=by
 cases c with
 |comp own E cls=>
  ·obtain⟨o,I,cond,g,rfl,v⟩:=JB h;obtain⟨Q,t,i,ifs,j,q,U,J,y⟩:=yd v;cases J;obtain⟨L,O,u,B,h4⟩:=an5 y;exact⟨own,E,o,I,cond,g,t,i,ifs,j,rfl,rfl,L,O,u,B,h4⟩
 |_=>exact absurd h Zg
end
section
variable {K:Vf} {m:List Addr} {H:Hp} {S:Sto}
def t9{c b:Type}(x:c)(y:b):∀ {ks:List c} {vs:List b},ks.length=vs.length->(ks++[x]).zip (vs++[y])=ks.zip vs++[(x,y)]
 |[],[],_=>rfl
 |_::ks,_::vs,h=>by
  rw[We,We,Y6,t9 x y (by simpa using h)];rfl
def Ab{p:Nat}(e:zN p c f S=aa j):∃i ks b,c = .int i/\S[p]?=aa (.dic ks b)/\kI i ∉ ks/\ks.length < 1000/\j=S.set p (.dic (ks++[kI i]) (b++[f])):=by
 unfold zN at e;split at e
 ·rename_i i;split at e
  ·rename_i ks b g;split at e
   ·rename_i h;cases e;exact⟨i,ks,b,rfl,g,λz=>of_decide_eq_true (ZL.mp h.1 _ z) rfl,h.2,rfl⟩
   ·cases e
  ·cases e
 ·cases e
def sJ{ks:List Key}{vs:List V}{k:Key}(v:V)(h:k ∉ ks)(f:ks.length=vs.length):iO (ks.zip vs) k v=(ks++[k]).zip (vs++[v]):=by
 unfold iO;rw[if_neg,t9 _ _ f];intro z;obtain⟨q,b,e⟩:=YZ.mp z;have e:q.1=k:=of_decide_eq_true e;have c:=(YU (show(q.1,q.2) ∈ ks.zip vs from b)).1;exact h (e ▸ c)
def L7{p:Nat}{g:Addr}{k v:XE}{D:Ends}{o:L2.St}{L:Fl}(U:m[p]?=aa g)(E:EnvR K m H h o)(R:Rel K m S H)(e:vT p k v h S=aa (L,z,S'))(q:∀O T,Aft K m H S' O T->tJ K O T L z D):Fu g (tE K k) (tE K v) D o H:=by
 unfold vT at e;cases J:k h S with
 |none=>rw[J] at e;cases e
 |some r1=>
  obtain⟨dk,B⟩:=r1;rw[J] at e;dsimp only at e;cases u:v h B with
  |none=>rw[u] at e;cases e
  |some r2=>
   obtain⟨I,X⟩:=r2;rw[u] at e;dsimp only at e;cases C:zN p dk I X with
   |none=>rw[C] at e;cases e
   |some S3=>
    rw[C] at e;cases e;obtain⟨i,j,ds,rfl,hn,hc,hl,rfl⟩:=Ab C;refine⟨m,h,S,_,B,E,R,J,λm1 H1 x c vk=>⟨m1,h,B,I,X,E.mono R c.ext,c.rel,u,λm2 H2 y b vv=>?_⟩⟩;obtain⟨a,Y,n,Z,Q,f⟩:=b.rel.ob p _ hn;rw[dS (c.trans b).ext.pre U] at Y;cases Y;have hz:j.length=n.length:=Q.trans f.length;refine⟨j.zip n,kI i,Z,vk.ints,by rw[Ue,List.length_zip];lia,?_⟩;rw[sJ y hc hz];have w:=b.rel.writeO (dS (c.trans b).ext.pre U) (.dK ((j++[kI i]).zip (n++[y]))) (.dic (j++[kI i]) (ds++[I])) λx=>⟨n++[y],aH,by simp[Q],VDs.mono b.rel x (f.append (.cons vv .nil))⟩;exact q _ _ ((c.trans b).trans ⟨w.1,w.2⟩) o (E.mono R ((c.trans b).trans ⟨w.1,w.2⟩).ext)
def EnvR.wide{n:Nat}(E:EnvR K m H b c):EnvR K m H (b++Zq n aD) (c++Zq n aD):=by
 refine⟨by simp[E.len],λi d e=>?_⟩;by_cases h:i < b.length
 ·rw[Zv h] at e;rw[Zv (by rw[<-E.len];exact h)];exact E.at_ i d e
 ·rw[Zp (by lia),Yd] at e;split at e <;> cases e
def L8{i own n:Nat}{I:XI}{T:Tg}{k v:XE}{D:Ends}{O:L2.St}(h:tSt K (zO i own I T k v n) D O H):uM (qV (.dK []) own (tIt K [] I) (tTg K T) λacc=>eY zm (Fu acc (tE K k) (tE K v))) (mB i) D O H:=by
 obtain⟨m,Y,S,fl,Z,S',E,R,e,q⟩:=h;unfold zO at e;cases u:I Y S with
 |none=>rw[u] at e;cases e
 |some r=>
  obtain⟨nx,y⟩:=r;rw[u] at e;dsimp only at e;refine⟨m,Y,S,nx,y,E,R,λb hb=>absurd hb (by simp),u,λm1 p J f hI acc c=>?_⟩;split at e
  ·rename_i ρ2 U hf;cases e;have x0:=Ext.beside f.rel c (.dK []);have X:Ext m1 p (m1++[acc]) (upd p acc (.dK [])):=x0.adopt c;have Q:Rel K (m1++[acc]) (y++[.dic [] []]) (upd p acc (.dK [])):=(f.rel.beside c (.dK [])).adoptO (f.rel.no c) (ob:=.dic [] []) ⟨[],aH,rfl,.nil⟩;have E1:=E.mono R (f.ext.trans X);have g:(m1++[acc])[y.length]?=aa acc:=by rw[Zp (by rw[f.rel.len];exact Zd _),f.rel.len,Yv];rfl
   have L:IOk K [] J nx (m1++[acc]) (upd p acc (.dK [])):=λC U B j x R2=>hI C U B j ((X.trans ⟨x.pre,λa o h n=>x.keep a o h n (by simp),x.new⟩).toB λb hb=>absurd hb (by simp)) R2;exact xX L (λx E R e q=>L7 (dS x.pre g) E R e q) n E1.wide Q (Ext.refl _ _) hf λC B z σ2 _=>q C B (f.trans (Aft.trans ⟨X,Q⟩ z)) _ ((E.mono R (f.ext.trans (X.trans z.ext))).set (by rw[VD];exact⟨acc,dS z.ext.pre g,rfl⟩))
  ·cases e
end
section
variable {T:Tab} {C:Calls} {ar:Nat->Nat} {k n:Nat} {b:Blk} {X:Cx}
def L9(G:CtxOk T C ar k b X)(hb:X.env.blockKind = .function){Q e:Expr}{i:Nat}{own:List Str}{ck y:CE}{t:Tg}{I:CI}{p:Pos}(h:CV T n b Q e i own ck y t I=aN):PS X (.Assign [Q] e p) (tSt X.K (zO i own.length (evI C ar n I) t (evE C ar n ck) (evE C ar n y) LF)):=by
 obtain⟨r,hx,h⟩:=ju h;obtain⟨z,ve,gs,f,O,rfl,h⟩:=tP h;obtain⟨⟨E,J,ifs,as⟩,rfl,h⟩:=cM h;simp only[bAE] at h;obtain⟨⟨⟨⟨⟨⟨⟨⟨⟨h1,U⟩,Z⟩,h4⟩,h5⟩,h6⟩,h7⟩,h8⟩,Y⟩,B⟩:=h;cases of_decide_eq_true h1;cases cx U;rw[lY hx];have S:CmScope own (jr own b.N) b.N f b.sc:=vg _ Z;have S':CmScope own (jr own b.N) X.N f X.env.scope:=by rw[G.hN,G.hs];exact S
 have L:=wa (sc:=b.sc) (v:=.DictComp z ve [⟨E,J,[],0⟩] f O) (t:=r.1) (pos:=r.2) (line:=p.line) hb G.hs;rw[show swW b.sc (.DictComp z ve [⟨E,J,[],0⟩] f O) r.1 r.2=aT by simpa using B] at L;have o:=G.own Y
 refine PS.imp (AZ (by rw[G.hN];exact G.nd) (by rw[G.hN];simpa using h8) o.1 (xG (c:=.d z ve) (g:=tTg X.K t) (ti:=zm) (t:=λj=>Fu j (tE X.K (evE C ar n ck)) (tE X.K (evE C ar n y))) G.calm S' ((snd n).i [] b X E J I G h4)
  (λu ex s H=>fG (G.inner S (C':=u) (ex:=ex) (s:=s) (H:=H)) h5) (λu ex s H=>xF) (λu ex s H j=>Fv rfl rfl ((snd n).e _ _ z ck (G.inner S (C':=u) (ex:=ex) (s:=s) (H:=H)) h6) ((snd n).e _ _ ve y (G.inner S (C':=u) (ex:=ex) (s:=s) (H:=H)) h7)) (fe h4 (λe he env=>dC he) X.env)) L o.2) λD σ H q=>L8 q
end
section
variable {T:Tab} {C:Calls} {ar:Nat->Nat} {k n:Nat} {b:Blk} {X:Cx}
def md(h:X.env.scope.kind = .function):X.env.blockKind = .function:=by
 unfold Env.blockKind;rw[h];rfl
def Gy{c:Type}{l:List c}(h:l.length=2):∃a b,l=[a,b]:=by
 match l,h with
 |[a,b],_=>exact⟨a,b,rfl⟩
def Ac{f:Type}{l:List f}(h:l.length=3):∃a b c,l=[a,b,c]:=by
 match l,h with
 |[a,b,c],_=>exact⟨a,b,c,rfl⟩
def Ma(G:CtxOk T C ar k b X)(hk:X.env.scope.kind = .function){tg e:Expr}{t:Tg}{c:CE}{p:Pos}(h:wb T n b tg e t c=aN):PS X (.Assign [tg] e p) (tSt X.K (nt (evE C ar n c) t)):=by
 have hb:=md hk;unfold wb at h;cases t with
 |name i=>
  dsimp only at h;cases I:zU tg with
  |none=>rw[I] at h;cases h
  |some r=>
  obtain⟨x,px⟩:=r;rw[I] at h;rw[lY I];simp only[bAE] at h;obtain⟨⟨⟨J,h2⟩,f⟩,h4⟩:=h;have hi:X.N[i]?=aa x:=by rw[G.hN];simpa using h2
  have nd:X.N.Nodup:=by rw[G.hN];exact G.nd
  have o:=G.own f;have sw:=wa (sc:=b.sc) (v:=e) (t:=x) (pos:=px) (line:=p.line) hb G.hs;cases B:swW b.sc e x px with
  |false=>
   rw[B] at sw;exact PS.imp (AZ nd hi o.1 ((snd n).e b X e c G J) sw o.2) λD σ H q=>jv (vS q) λv H' z=>rB z
  |true=>
   rw[B] at h4 sw;simp only[Bool.not_true,Wq,bAE] at h4;obtain⟨h5,h4⟩:=h4;obtain⟨el,gs,u,pp,rfl,_⟩:=kJ h5
   ·cases n with
    |zero=>exact absurd J Zg
    |succ n=>
     obtain⟨own,Z,tg',it,cond,L,tt,ii,ifs,gs',rfl,rfl,c0,c1,c2,c3,c4⟩:=C1 J;have S:CmScope own (jr own b.N) b.N u b.sc:=vg _ c0;have S':CmScope own (jr own b.N) X.N u X.env.scope:=by rw[G.hN,G.hs];exact S
     have hpl:=fe c1 (λe he env=>dC he) X.env;have I:X.env.scope.names.lookup x=aa .local:=by rw[G.hs];simpa using h4
     refine PS.imp (Fy (c:=.l el) (g:=tTg X.K tg') (ti:=ifT C ar n X.K cond) (t:=λE=>tCl X.K E (im C ar n Z L)) G.calm S' nd hi I ((snd n).i [] b X tt ii it G c1) (λC' ex s H=>fG (G.inner S (C':=C') (ex:=ex) (s:=s) (H:=H)) c2) (λC' ex s H=>nV (snd n) (G.inner S (C':=C') (ex:=ex) (s:=s) (H:=H)) c3)
      (λC' ex s H E=>(snd n).cl _ _ el gs' Z L (G.inner S (C':=C') (ex:=ex) (s:=s) (H:=H)) c4 _ u pp E 0 rfl) sw hpl) λD σ H q=>?_
     exact xZ (λE D σ H z=>v8 z) (sZ (jv (vS q) λv H' z=>rB z))
 |tup gs=>
  dsimp only at h;cases I:tR tg with
  |none=>rw[I] at h;cases h
  |some r=>
  obtain⟨U,kt,pt⟩:=r;rw[I] at h;rw[jt I];simp only[bAE] at h;obtain⟨J,f⟩:=h;have so:Uk [.Tuple U kt pt] e p.line X.env=pure aT:=nX λx p z=>nomatch z
  have plain:∀ (B:Ui [.Tuple U kt pt] e X.env=pure aD) (hg:nI b U gs=aN),PS X (.Assign [.Tuple U kt pt] e p) (tSt X.K (nt (evE C ar n c) (.tup gs))):=λB hg=>
   PS.imp (jQ ((snd n).e b X e c G J) (fG G (e:=.Tuple U kt pt) (t:=.tup gs) hg) so B rfl) λD σ H q=>vS q
  cases hy:tR e with
  |none=>
   rw[hy] at f;simp only[bAE] at f;exact plain (jy (.inl λes k p z=>by rw[z] at hy;cases hy)) f.2
  |some q=>
   obtain⟨es,ke,pe⟩:=q;rw[hy] at f;obtain rfl:=jt hy;cases n with
   |zero=>exact absurd J Zg
   |succ n=>
    obtain⟨cs,rfl⟩:=C0 J;have ha:=Gv J;dsimp only at f;cases hr:nW b.sc U es with
    |none=>rw[hr] at f;cases f
    |some w=>
     have B:=JC (k:=kt) (p:=pt) (k2:=ke) (p2:=pe) hb G.hs hr;rw[hr] at f;cases w with
     |none=>exact plain B f
     |some ns=>
      dsimp only at f;cases ht:tgL gs with
      |none=>rw[ht] at f;cases f
      |some is=>
       rw[ht] at f;simp only[bAE] at f;obtain⟨⟨Y,hl0⟩,f⟩:=f;have hn:nmL U=aa ns:=by simpa using Y
       have hl:es.length=ns.length:=by simpa using hl0
       clear Y hl0;obtain rfl:=CU ht;unfold Qp at f;split at f
       ·rename_i x y;split at f
        ·rename_i i j;obtain⟨p1,t1,rfl,O⟩:=gw hn;obtain⟨p2,t2,rfl,Q⟩:=gw O;obtain rfl:=yh Q;obtain⟨a1,a2,rfl⟩:=Gy hl;simp only[bAE] at f;obtain⟨⟨⟨⟨q2,q3⟩,q4⟩,q5⟩,q6⟩:=f;exact PS.imp (Kn (i:=i) (j:=j) G.calm (by rw[G.hN];exact G.nd) (by rw[G.hN];simpa using q2) (by rw[G.hN];simpa using q3) (by simpa using q4) (by rw[G.hs];simpa using q5) (by rw[G.hs];simpa using q6) ((snd n).a b X _ cs G ha) B so) λD σ H q=>Gw q
        ·cases f
       ·rename_i x y z;split at f
        ·rename_i i j l;obtain⟨p1,t1,rfl,O⟩:=gw hn;obtain⟨p2,t2,rfl,Q⟩:=gw O;obtain⟨p3,t3,rfl,hn3⟩:=gw Q;obtain rfl:=yh hn3;obtain⟨a1,a2,a3,rfl⟩:=Ac hl;simp only[bAE] at f;obtain⟨⟨⟨⟨⟨⟨⟨⟨q2,q3⟩,q3'⟩,q4⟩,q4'⟩,q4''⟩,q5⟩,q6⟩,q7⟩:=f;exact PS.imp (FC (i:=i) (j:=j) (k:=l) G.calm (by rw[G.hN];exact G.nd) (by rw[G.hN];simpa using q2) (by rw[G.hN];simpa using q3) (by rw[G.hN];simpa using q3') (by simpa using q4) (by simpa using q4') (by simpa using q4'') (by rw[G.hs];simpa using q5) (by rw[G.hs];simpa using q6) (by rw[G.hs];simpa using q7) ((snd n).a b X _ cs G ha) B so) λD σ H q=>Gx q
        ·cases f
       ·cases f
def ua{L:Nat}(h:rK v=aT):Uj v aD L X.env=pure aT:=by
 unfold Uj;cases v <;> first |rfl |(exact absurd h (λz=>Zg z.symm))
structure SndS(T:Tab)(C:Calls)(ar:Nat->Nat)(k n:Nat):Prop where
 s:∀ (b:Blk) (X:Cx) (s:Stmt) (c:CS),CtxOk T C ar k b X->X.env.scope.kind = .function->L6 T n b s c=aN->PS X s (tSt X.K (evS C ar n c))
 ss:∀ (b:Blk) (X:Cx) (s:List Stmt) (c:List CS),CtxOk T C ar k b X->X.env.scope.kind = .function->qf T n b s c=aN->PSs X s (tSt X.K (gc C ar n c))
def Qy{K:Vf}{D:Ends}{c:L2.St}{H:Hp}(h:tSt K Gr D c H):False:=by
 obtain⟨m,g,S,j,f,o,E,R,e,q⟩:=h;cases e
def Mb:∀n,SndS T C ar k n
 |0=>⟨λb X s c _ _ h=>absurd h Zg,λb X s c _ _ h=>absurd h Zg⟩
 |n+1=>by
  have I:=Mb n;refine⟨λb X s c G B h=>?_,λb X ss O G B h=>?_⟩
  ·have hp:PassesOwn (model X.prog X.w) X.A X.env X.xe:=by rw[G.xe];exact PassesOwn.never
   cases c with
   |asg t e=>obtain⟨Q,v,p,rfl,f⟩:=nY h;exact Ma G B f
   |setI v o i=>
    obtain⟨x,y,px,z,p,rfl,f,u,E,pl⟩:=Gu h
    exact PS.imp (jQ ((snd n).e b X z v G f) (uL ((snd n).e b X x o G u) ((snd n).e b X y i G E) B7 (λv=>by
     cases y <;> first | rfl | (exact absurd pl Zg))) (nX λx p z=>nomatch z) (jy (.inr (.inr ⟨_,_,_,rfl⟩))) rfl) λD g H q=>F4 q
   |dcs i own k v t it=>obtain⟨Q,e,p,rfl,h⟩:=nY h;exact L9 G (md B) h
   |swp v o i q j=>
    obtain⟨t1,t2,kt,pt,es,ke,pe,p,rfl,f,u,E,h4⟩:=L3 h;obtain⟨x1,Y,q1,rfl,a1,a2,J⟩:=CY u;obtain⟨x2,U,q2,rfl,b1,Z,L⟩:=CY E;have hb:=md B
    exact PS.imp (jQ ((snd n).e b X _ v G f) (AX G.calm (mD (uL ((snd n).e b X x1 o G a1) ((snd n).e b X Y i G a2) B7 (λv=>by
     cases Y <;> first | rfl | (exact absurd J Zg))) (mD (uL ((snd n).e b X x2 q G b1) ((snd n).e b X U j G Z) B7 (λv=>by
     cases U <;> first | rfl | (exact absurd L Zg))) xm))) (nX λx p z=>nomatch z) (JC hb G.hs h4) rfl) λD g H q=>Lz q
   |ex e=>obtain⟨v,p,rfl,f,u⟩:=JF h;exact PS.imp (xh ((snd n).e b X v e G f) (ua u)) λD g H q=>F3 q
   |ret e=>obtain⟨v,p,rfl,f⟩:=nZ h;exact PS.imp (uK ((snd n).e b X _ _ G f)) λD g H q=>Lx q
   |ifs c x y=>obtain⟨t,p,q,r,rfl,f,u,E⟩:=CZ h;exact PS.imp (xj ((snd n).t b X _ _ G f) (I.ss b X _ _ G B u) (I.ss b X _ _ G B E)) λD g H q=>P6 q
   |for_ t it x=>
    obtain⟨Q,i,p,pos,rfl,f,u⟩:=L4 h;have f:=an2 f;exact PS.imp (Kq hp G.calm ((snd n).i [] b X _ _ _ G f.1) (fG G f.2) (I.ss b X _ _ G B u) (fe f.1 (λe he env=>dC he) X.env)) λD g H q=>LA q
   |cnt=>obtain⟨p,rfl⟩:=L5 h;exact PS.imp sE λD g H q=>Ly q
   |never=>exact PS.imp sF λD g H q=>(Qy q).elim
  ·cases O with
   |nil=>rw[cx h];exact PSs.imp jd λD g H q=>F2 q
   |cons c O=>
    obtain⟨s,ss,rfl,h⟩:=cg h;have h:=an2 h;exact PSs.imp (bS (I.s b X s c G B h.1) (I.ss b X ss O G B h.2)) λD g H q=>Lv q
end
abbrev wIs(b:Blk)(x:Str)(e:Expr):Bool:=nJ b "isinstance" (iq λy=>b.N[0]? == aa y && b.vis y) (iq λy=>y == x && b.glo y) e
abbrev wc(k:Str->Expr->Bool):List Str->List Expr->Bool
 |[],E=>E.isEmpty
 |x::xs,E=>lC E λe E=>aK e && k x e && wc k xs E
abbrev wV(b:Blk)(i:Nat)(e:Expr):Bool:=iq (λy=>b.N[i]? == aa y && b.vis y) e
abbrev wTg(b:Blk)(i:Nat)(e:Expr):Bool:=iq (λy=>b.N[i]? == aa y && b.own y) e
abbrev wMt(b:Blk)(m:Str)(e:Expr):Bool:=zZ m (wV b 1) (λE=>l1 E λe=>sBl aN e) e
abbrev yj(b:Blk)(c:List Str)(s:Stmt):Bool:=z9 (λT v=>wTg b 1 T && Gd .Add (wV b 1) (zX (wc (wIs b) c)) v) s
abbrev Qz(b:Blk)(c:List Str)(s:Stmt):Bool:=z9 (λT v=>wTg b 1 T && zX (wc (wIs b) c) v) s
abbrev QA(b:Blk)(s:Stmt):Bool:=zIf (zY .Or (Gg .NotEq (wMt b "count") (zV 1)) (Gf (wIs b "ValueError"))) (λss=>l1 ss λs=>Aa (zW "other") s) (λss=>ss.isEmpty) s
abbrev QB(b:Blk)(c:List Str)(s:Stmt):Bool:=z9 (λT v=>wTg b 2 T && zX (wc zW c) v) s
abbrev QC(b:Blk)(c:List Str)(s:Stmt):Bool:=Aa (sIx (Gd .Add (wV b 2) (zX (wc zW c))) (wMt b "index")) s
abbrev wd(b:Blk)(c f:List Str)(ss:List Stmt):Bool:=
 iQ b.N && b.N.length == 3 && b.glo "isinstance" && lC ss λj ss=>lC ss λo ss=>lC ss λh ss=>lC ss λn ss=>lC ss λp ss=>lC ss λg ss=>l1 ss λq=>
  Qz b (c.take 4) j && yj b ((c.drop 4).take 4) o && yj b ((c.drop 8).take 4) h && yj b (c.drop 12) n && QA b p && (QB b (f.take 12) g && QC b (f.drop 12) q)
abbrev jz(H h:Hp):Prop:=∀p o,H p=aa o->h p=aa o
def jz.upd(h:H p=aD):jz H (L2.upd H p o):=λq u e=>by rw[aG (aU e h)];exact e
def jz.trans(a:jz H h)(b:jz h H2):jz H H2:=λp o e=>b p o (a p o e)
section
variable {X:Cx}
def Ae:MtR X "list.count" (λx vs H Q=>∃l xs y,x = .ref l/\vs=[y]/\H l=aa (.lst xs)/\bX y=aN/\xs.all bX=aN/\Q (.int ((xs.countP λz=>eqV z y:Nat):Int)) H):=by
 intro c s E H x vs v U Q I B C h;obtain⟨p,xs,y,rfl,rfl,g,j,fs,q⟩:=h;cases B;obtain⟨u,rfl,o⟩:=C.one;obtain⟨_,b,n,r,e⟩:=I.hok p _ g;refine VL WU ⟨_,e,rfl⟩ PySem.F.entry_list_count (PySem.F.args_list_count_2 _ _) (SeqAt.list_countAt p b.toArray n aD #[] u (eqU y)) ⟨e,λw f=>cJ o j r fs w (by simpa using f),?_⟩;refine⟨.int _,H,I.tok _,⟨_,rfl⟩,?_⟩
 have z:(b.toArray.toList.countP (eqU y))=xs.countP λz=>eqV z y:=by
  rw[XH];exact iR r fs
 rw[z];exact q
def Af:MtR X "list.index" (λx vs H Q=>∃l xs y,∃j:Nat,∃z,x = .ref l/\vs=[y]/\H l=aa (.lst xs)/\bX y=aN/\xs.all bX=aN/\j < 100/\xs[j]?=aa z/\eqV z y=aN/\(∀ (m:Nat) z,m < j->xs[m]?=aa z->eqV z y=aT)/\Q (.int (j:Int)) H):=by
 intro L s σ H x vs v us Q I rx rv h;obtain⟨p,xs,y,j,z,rfl,rfl,T,U,fs,hj,O,C,B,q⟩:=h;cases rx;obtain⟨u,rfl,Y⟩:=rv.one;obtain⟨_,b,n,r,e⟩:=I.hok p _ T
 have at_:∀m (o:m < b.toArray.size),∃w,xs[m]?=aa w/\eqU y b.toArray[m]=eqV w y:=λm o=>by
  have c:m < xs.length:=by rw[r.length];simpa using o
  obtain⟨u',Z,rr⟩:=r.get (i:=m) (gEG c);refine⟨xs[m],gEG c,?_⟩
  have E:b.toArray[m]=u':=by
   have:=Zb.mp Z;obtain⟨_,z⟩:=this
   simpa using z
  rw[E];exact qQ rr (ZL.mp fs _ (ZI c))
 have g:j < b.toArray.size:=by have:=(Zb.mp O).1;rw[r.length] at this;simpa using this
 refine VL WV ⟨_,e,rfl⟩ PySem.F.entry_list_index (PySem.F.args_list_index_2 _ _) (SeqAt.list_indexAt p b.toArray n aD #[] u (eqU y) j g (by lia) ?_ ?_) ⟨e,λw f=>cJ Y U r fs w (by simpa using f),?_⟩
 ·obtain⟨w,f,E⟩:=at_ j g;rw[O] at f;cases f;rw[E];exact C
 ·intro m o J;obtain⟨w,f,E⟩:=at_ m o;rw[E];exact B m w J f
 ·exact⟨.int _,H,I.tok _,⟨_,rfl⟩,q⟩
end
section
variable {X:Cx} {b:Blk} {a C R:Addr}
def ub(hs:X.env.scope=b.sc)(h:b.glo x=aN):Gl X x/\(x == ("__debug__" : Str))=aT:=by
 unfold Blk.glo at h;rw[bAE] at h;refine⟨?_,by simpa using h.2⟩;show X.env.scope.names.lookup x=_;rw[hs]
 simpa using h.1
def qg(hs:X.env.scope=b.sc)(hN:X.N=b.N){i:Nat}(h:wV b i e=aN):PE X e (Kf i):=by
 obtain⟨x,p,rfl,g⟩:=dg h;obtain⟨j,c⟩:=an2 g;unfold Blk.vis at c;rw[bAE,bAE] at c;refine uJ (i:=i) (by rw[hN];exact eq_of_beq j) ?_ (by simpa using c.1.2) (by simpa using c.2);unfold Vis;rw[hs];have f:=c.1.1;split at f
 ·rename_i e;exact .inl e
 ·rename_i e;exact .inr (.inl e)
 ·rename_i e;exact .inr (.inr e)
 ·cases f
def C2(hC:bF X.base C (.ref R::bmV))(hR:bF X.base R bmV):aV X (.builtin "isinstance") (λxs H Q=>∃D,xs=[.ref a,.ref D]/\H a=aa (exO a C)/\qb X.base D/\D ≠ R/\Q (.bl (C == D)) H):=by
 intro p s u H xs U Q I c h;obtain⟨D,rfl,j,⟨f,n,sl,g⟩,o,q⟩:=h;cases c with
 |cons r1 c=>
  cases c with
  |cons r2 c=>
   cases c;cases r1;cases r2;exact isx (hC.keeps I.bk) (hR.keeps I.bk) (I.hok a _ j).1 ⟨f,n,sl,I.bk _ _ g⟩ o λT=>⟨.bl _,H,I.tok _,rfl,q⟩
def C3(hC:bF X.base C (.ref R::bmV))(hR:bF X.base R bmV):aV X (.builtin "isinstance") (λxs H Q=>xs=[.ref a,.ty "ValueError"]/\H a=aa (exO a C)/\Q (.bl aN) H):=by
 intro p s g H xs u Q I c h;obtain⟨rfl,f,q⟩:=h;cases c with
 |cons r1 c=>
  cases c with
  |cons r2 c=>
   cases c;cases r1;cases r2;exact isv (hC.keeps I.bk) (hR.keeps I.bk) (I.hok a _ f).1 λT=>⟨.bl _,H,I.tok _,rfl,q⟩
def SB(hs:X.env.scope=b.sc)(hN:X.N=b.N)(hb:X.mg "isinstance" = aD)(hC:bF X.base C (.ref R::bmV))(hR:bF X.base R bmV){x:Str}{D:Addr}{e:Expr}(B:X.mg x=aa (.ref D))(h:wIs b x e=aN) :
  PE X e (λc H Q=>c[0]?=aa (aa (.ref a))/\H a=aa (exO a C)/\qb X.base D/\D ≠ R/\Q (.bl (C == D)) H):=by
 obtain⟨I,y,p,J,rfl,f,n,g,u,_⟩:=dB h;obtain⟨y,o,rfl,z⟩:=dg u;obtain⟨j,h4⟩:=an2 z;have E:=eq_of_beq j;subst E;exact PE.imp (eV (C2 (a:=a) hC hR) (ub hs f).1 hb WB (cm (qg hs hN n) (bN (xg (v:=.ref D) (ub hs h4).1 B rfl (ub hs h4).2) rfl) g) (by decide) (ub hs f).2 (au g) rfl) λc H Q q=>⟨_,q.1,D,rfl,q.2.1,q.2.2.1,q.2.2.2.1,q.2.2.2.2⟩
def QD(hs:X.env.scope=b.sc)(hN:X.N=b.N)(hb:X.mg "isinstance" = aD)(B:X.mg "ValueError" = aD)(hC:bF X.base C (.ref R::bmV))(hR:bF X.base R bmV)(h:wIs b "ValueError" e=aN) :
  PE X e (λc H Q=>c[0]?=aa (aa (.ref a))/\H a=aa (exO a C)/\Q (.bl aN) H):=by
 obtain⟨I,y,p,J,rfl,f,n,g,u,_⟩:=dB h;obtain⟨y,o,rfl,z⟩:=dg u;obtain⟨j,h4⟩:=an2 z;have E:=eq_of_beq j;subst E;exact PE.imp (eV (C3 (a:=a) hC hR) (ub hs f).1 hb WB (cm (qg hs hN n) (bN (gY (v:=.ty "ValueError") (ub hs h4).1 B PyProof.Rows.Boot.«ValueError» rfl (by decide) (ub hs h4).2) rfl) g) (by decide) (ub hs f).2 (au g) rfl) λc H Q q=>⟨_,q.1,rfl,q.2.1,q.2.2⟩
inductive Cls2(X:Cx)(R:Addr):List Str->List Addr->Prop
 |nil:Cls2 X R [] []
 |cons {x:Str} {D:Addr} {xs:List Str} {Ds:List Addr}:X.mg x=aa (.ref D)->qb X.base D->D ≠ R->Cls2 X R xs Ds->Cls2 X R (x::xs) (D::Ds)
def C4(hs:X.env.scope=b.sc)(hN:X.N=b.N)(hb:X.mg "isinstance" = aD)(hC:bF X.base C (.ref R::bmV))(hR:bF X.base R bmV):∀ {g:List Str} {f:List Addr} {E:List Expr},Cls2 X R g f->wc (wIs b) g E=aN ->
  PA X E (λc H Q=>c[0]?=aa (aa (.ref a))/\H a=aa (exO a C)/\Q (f.map λD=>.bl (C == D)) H)
 |_,_,E,.nil,h=>by rw[cx h];exact PA.imp qL λc H Q q=>q.2.2
 |_,_,E,.cons h1 h2 h3 t,h=>by
  obtain⟨e,E,rfl,h⟩:=cg h;obtain⟨j,n,p⟩:=an3 h;exact PA.imp (cm (SB hs hN hb hC hR h1 n) (C4 hs hN hb hC hR t p) j) λc H Q q=>⟨q.1,q.2.1,h2,h3,q.1,q.2.1,q.2.2⟩
def wg:∀ {c:List Str} {E:List Expr},wc zW c E=aN->PA X E (λf H Q=>Q (c.map V.str) H)
 |[],E,h=>by rw[cx h];exact PA.imp qL λf H Q q=>q
 |w::c,E,h=>by
  obtain⟨e,E,rfl,h⟩:=cg h;obtain⟨j,g,p⟩:=an3 h;obtain⟨_,_,rfl⟩:=vY g;exact PA.imp (cm qK (wg p) j) λf H Q q=>q
def Mc(hs:X.env.scope=b.sc)(hN:X.N=b.N)(g:X.fn=λ_=>aN)(f:b.N.Nodup){i:Nat}(h:wTg b i e=aN):∃x p,e = .Name x p/\PG X e (mB i):=by
 obtain⟨x,p,rfl,j⟩:=dg h;obtain⟨n,c⟩:=an2 j;refine⟨x,p,rfl,xk (by rw[hN];exact f) (by rw[hN];exact eq_of_beq n) ?_ (.inl (by rw[g]))⟩;unfold Blk.own at c;unfold L2.Loc;rw[hs];split at c
 ·rename_i e;exact .inl e
 ·rename_i e;exact .inr e
 ·cases c
def wj{L:Nat}(c:X.env.blockKind = .function)(hs:X.env.scope=b.sc)(h:v9 e=aD):Uk [.Name x p] e L X.env=pure aT:=by
 have z:=wa (sc:=b.sc) (v:=e) (t:=x) (pos:=p) (line:=L) c hs;unfold swW at z;rw[h] at z;exact z
abbrev Ag(a C:Addr)(c:L2.St)(H:Hp):Prop:=c.length=3/\c[0]?=aa (aa (.ref a))/\H a=aa (exO a C)
def gx{i:Nat}(x:Ag a C c H)(h:i ≠ 0)(e:jz H H2):Ag a C (c.set i (aa v)) H2:=⟨by simpa using x.1,by rw[ZH h];exact x.2.1,e _ _ x.2.2⟩
variable (hk:X.env.blockKind = .function) (hs:X.env.scope=b.sc) (hN:X.N=b.N) (hf:X.fn=λ_=>aN) (hnd:b.N.Nodup) (hb:X.mg "isinstance" = aD) (hv:X.mg "ValueError" = aD) (hC:bF X.base C (.ref R::bmV)) (hR:bF X.base R bmV)
include hk hs hN hf hnd hb hC hR in
def QE(u:Cls2 X R z n)(o:n.length<=100)(h:Qz b z s=aN):PS X s (λD c H=>Ag a C c H/\∀q f,jz H f->f q=aa (.lst (n.map λD=>.bl (C == D)))->D.nx (c.set 1 (aa (.ref q))) f):=by
 obtain⟨T,v,p,rfl,h⟩:=nY h;obtain⟨y,j⟩:=an2 h;obtain⟨x,B,rfl,g⟩:=Mc hs hN hf hnd y;obtain⟨E,I,rfl,j⟩:=nP j;refine PS.imp (jQ (mH (C4 (a:=a) hs hN hb hC hR u j)) g (wj hk hs rfl) (jy (.inr (.inl ⟨_,_,rfl⟩))) rfl) λD c H Q=>?_;obtain⟨e,q⟩:=Q;exact⟨e.2.1,e.2.2,by rw[Za,Ue];lia,λl o=>q l _ (jz.upd o) aH⟩
include hk hs hN hf hnd hb hC hR in
def wk(L:Cls2 X R T o)(hl:o.length<=100)(h:yj b T s=aN):PS X s (λD c H=>Ag a C c H/\∃l xs,c[1]?=aa (aa (.ref l))/\H l=aa (.lst xs)/\xs.length<=100/\∀q n,jz H n->n q=aa (.lst (xs++o.map λD=>.bl (C == D)))->D.nx (c.set 1 (aa (.ref q))) n):=by
 obtain⟨tg,v,p,rfl,h⟩:=nY h;obtain⟨O,B⟩:=an2 h;obtain⟨x,p1,rfl,g⟩:=Mc hs hN hf hnd O;obtain⟨y,z,U,rfl,E,h4⟩:=vZ B;obtain⟨Y,Z,rfl,h4⟩:=nP h4;refine PS.imp (jQ (A8 uW (qg hs hN E) (mH (C4 (a:=a) hs hN hb hC hR L h4))) g (wj hk hs rfl) (jy (.inr (.inl ⟨_,_,rfl⟩))) rfl) λD c H Q=>?_;obtain⟨e,l,xs,f,j,I,q⟩:=Q;refine⟨_,f,e.2.1,e.2.2,by rw[Za,Ue];lia,λp u=>?_⟩;refine⟨l,p,xs,_,rfl,rfl,jz.upd u _ _ j,aH,by rw[Za,Ue];lia,λr J=>?_⟩;exact q r _ ((jz.upd u).trans (jz.upd J)) aH
include hs hN in
def QF(h:wMt b "count" e=aN):PE X e (λj H Q=>∃l xs,j[1]?=aa (aa (.ref l))/\H l=aa (.lst xs)/\xs.all bX=aN/\Q (.int ((xs.countP λz=>eqV z (.bl aN):Nat):Int)) H):=by
 obtain⟨x,o,E,p,rfl,c,f,h4,g⟩:=j9 h;obtain⟨y,rfl,g⟩:=cM g;obtain⟨_,_,rfl⟩:=CB g;exact PE.imp (pG WR WU PySem.F.type_list_count Ae (qg hs hN h4) (bN AO rfl) (cz c) (jx rfl) f (au rfl) rfl) λj H Q ⟨l,xs,n,c,f,q⟩=>⟨_,n,.inl ⟨rfl,xs,SqL.of c⟩,l,xs,.bl aN,rfl,rfl,c,rfl,f,q⟩
include hs hN in
def QG(h:wMt b "index" e=aN):PE X e (λn H Q=>∃l xs,∃j:Nat,∃z,n[1]?=aa (aa (.ref l))/\H l=aa (.lst xs)/\xs.all bX=aN/\j < 100/\xs[j]?=aa z/\eqV z (.bl aN)=aN/\(∀ (m:Nat) z,m < j->xs[m]?=aa z->eqV z (.bl aN)=aT)/\Q (.int (j:Int)) H):=by
 obtain⟨x,u,E,p,rfl,c,f,h4,g⟩:=j9 h;obtain⟨y,rfl,g⟩:=cM g;obtain⟨_,_,rfl⟩:=CB g;exact PE.imp (pG WR WV PySem.F.type_list_index Af (qg hs hN h4) (bN AO rfl) (cz c) (jx rfl) f (au rfl) rfl) λn H Q ⟨l,xs,j,z,o,c,f,q⟩=>⟨_,o,.inl ⟨rfl,xs,SqL.of c⟩,l,xs,.bl aN,j,z,rfl,rfl,c,rfl,f,q⟩
include hs hN hb hv hC hR in
def QH(h:QA b s=aN):PS X s (λD f H=>Ag a C f H/\(∃l xs,f[1]?=aa (aa (.ref l))/\H l=aa (.lst xs)/\xs.all bX=aN/\(xs.countP λz=>eqV z (.bl aN))=1)/\D.nx f H):=by
 obtain⟨t,p,q,r,rfl,j,c,g⟩:=CZ h;obtain⟨s,rfl,c⟩:=cM c;obtain⟨v,L,rfl,c⟩:=nZ c;obtain⟨_,_,rfl⟩:=vY c;rw[cx g];obtain⟨x,y,J,rfl,h4,E⟩:=nQ j;obtain⟨l,z,I,rfl,B,u,T⟩:=v5 h4;obtain⟨_,_,rfl⟩:=nK u;obtain⟨w,O,rfl,n⟩:=v0 E
 have o:Gb w=aN:=by
  obtain⟨_,_,_,_,rfl,_⟩:=dB n;rfl
 refine PS.imp (xj (AS (xo Ps (QF hs hN B) mz (fF rfl)) (AQ (AU (Kh (QD (a:=a) hs hN hb hv hC hR n) (nT o))))).pt (je (uK qK)) jd) λD f H Q=>?_;obtain⟨e,⟨l,xs,j,c,g,h4⟩,q⟩:=Q;refine⟨l,xs,j,c,g,rfl,_,rfl,?_⟩;rw[h4];show if (!decide (V.int ((1:Nat):Int)=V.int 1))=aN then _ else _
 rw[if_neg (by decide)];refine⟨e.2.1,e.2.2,aN,rfl,?_⟩;show if (!aN)=aN then _ else _
 rw[if_neg (by decide)];exact q
include hk hs hN hf hnd in
def QI(n:o.length<=100)(h:QB b o s=aN):PS X s (λD j H=>∀q c,jz H c->c q=aa (.lst (o.map V.str))->D.nx (j.set 2 (aa (.ref q))) c):=by
 obtain⟨T,v,p,rfl,h⟩:=nY h;obtain⟨u,f⟩:=an2 h;obtain⟨x,z,rfl,g⟩:=Mc hs hN hf hnd u;obtain⟨E,y,rfl,f⟩:=nP f;refine PS.imp (jQ (mH (wg f)) g (wj hk hs rfl) (jy (.inr (.inl ⟨_,_,rfl⟩))) rfl) λD j H q=>?_;exact⟨by rw[Za,Ue];lia,λl n=>q l _ (jz.upd n) aH⟩
include hs hN in
def QJ(hl:n.length<=100)(h:QC b n s=aN):PS X s (λD c H=>∃l xs m Y,∃j:Nat,∃z w,c[1]?=aa (aa (.ref l))/\H l=aa (.lst xs)/\xs.all bX=aN/\j < 100/\xs[j]?=aa z/\eqV z (.bl aN)=aN/\(∀ (m:Nat) z,m < j->xs[m]?=aa z->eqV z (.bl aN)=aT) ∧
  c[2]?=aa (aa (.ref m))/\H m=aa (.lst Y)/\Y.length<=100/\(Y++n.map V.str)[j]?=aa w/\∀u,jz H u->D.rt w u):=by
 obtain⟨v,p,rfl,h⟩:=nZ h;obtain⟨x,y,p1,rfl,h1,I,O⟩:=JA h;obtain⟨x1,x2,p2,rfl,h4,g⟩:=vZ h1;obtain⟨es,p3,rfl,g⟩:=nP g;refine PS.imp (uK (Bh Fi (A8 uW (qg hs hN h4) (mH (wg g))) (QG hs hN I) (nR O))) λD c H Q=>?_;obtain⟨l,xs,m,Y,j,z,w,T,a2,Z,U,a5,a6,E,L,J,b3,B,q⟩:=Q;refine⟨_,L,by rw[Za,Ue];lia,λp f=>⟨m,p,Y,_,rfl,rfl,jz.upd f _ _ J,aH,by rw[Za,Ue];lia,λr o=>?_⟩⟩;refine⟨l,xs,j,z,T,jz.upd o _ _ (jz.upd f _ _ a2),Z,U,a5,a6,E,r,_,(j:Int),w,rfl,rfl,SqL.of aH,?_,q _ ((jz.upd f).trans (jz.upd o))⟩;have hj:=(Zb.mp B).1;unfold atI ixN;rw[if_pos (Int.natCast_nonneg j),if_pos (by lia)]
 simpa using B
include hk hs hN hf hb hv hC hR in
def Gz{j J:List Str}{c:List Addr}{i:Nat}{w:Str}{ss:List Stmt}(c1:Cls2 X R (j.take 4) (c.take 4))(c2:Cls2 X R ((j.drop 4).take 4) ((c.drop 4).take 4))(c3:Cls2 X R ((j.drop 8).take 4) ((c.drop 8).take 4))(c4:Cls2 X R (j.drop 12) (c.drop 12))
  (hl:c.length<=100) (hws:J.length<=100) (hnd:c.Nodup) (u:c[i]?=aa C) (hw:J[i]?=aa w) (h:wd b j J ss=aN) :
  PSs X ss (λD σ H=>Ag a C σ H/\∀L,jz H L->D.rt (.str w) L):=by
 unfold wd at h;obtain⟨h1,h2,_,k0⟩:=an4 h;clear h;obtain⟨s1,ss1,o,k1⟩:=cg k0;subst o;obtain⟨s2,ss2,p,k2⟩:=cg k1;subst p;obtain⟨s3,ss3,E,k3⟩:=cg k2;subst E;obtain⟨s4,ss4,n,k4⟩:=cg k3;subst n;obtain⟨s5,ss5,O,k5⟩:=cg k4;subst O;obtain⟨s6,ss6,e6,k6⟩:=cg k5;subst e6;obtain⟨s7,e7,k7⟩:=cM k6;subst e7;obtain⟨g1,g2,g3,g4,g5,B⟩:=an6 k7;obtain⟨B,g7⟩:=an2 B;have nd:=gm h1;have t1:(c.take 4).length<=100:=by rw[Zs];lia
 have t2:((c.drop 4).take 4).length<=100:=by rw[Zs];lia
 have t3:((c.drop 8).take 4).length<=100:=by rw[Zs];lia
 have t4:(c.drop 12).length<=100:=by rw[ZZ];lia
 refine PSs.imp (bS (QE (a:=a) hk hs hN hf nd hb hC hR c1 t1 g1) (bS (wk (a:=a) hk hs hN hf nd hb hC hR c2 t2 g2) (bS (wk (a:=a) hk hs hN hf nd hb hC hR c3 t3 g3) (bS (wk (a:=a) hk hs hN hf nd hb hC hR c4 t4 g4) (bS (QH (a:=a) hs hN hb hv hC hR g5)
  (bS (QI hk hs hN hf nd (by rw[Zs];lia) B) (je (QJ hs hN (by rw[ZZ];lia) g7))))))) ) λD σ H ⟨e,q⟩=>?_
 have el:=e.1;refine⟨e,λT H1 x1 y1=>?_⟩;have o:=gx (v:=.ref T) e (by decide:1 ≠ 0) x1;refine⟨o,T,_,by rw[ZD (by lia)],y1,by rw[Za];exact t1,λq2 L Y y2=>?_⟩;have p:=gx (v:=.ref q2) o (by decide:1 ≠ 0) Y;refine⟨p,q2,_,by rw[ZD (by have:=o.1;lia)],y2,by rw[Zn,Za,Za,Zs,Zs];lia,λq3 H3 U y3=>?_⟩;have E:=gx (v:=.ref q3) p (by decide:1 ≠ 0) U;refine⟨E,q3,_,by rw[ZD (by have:=p.1;lia)],y3,by rw[Zn,Zn,Za,Za,Za,Zs,Zs,Zs];lia,λQ H4 x4 y=>?_⟩;have n:=gx (v:=.ref Q) E (by decide:1 ≠ 0) x4
 have all:(((c.take 4).map (λD=>V.bl (C == D))++((c.drop 4).take 4).map (λD=>V.bl (C == D)))++((c.drop 8).take 4).map (λD=>V.bl (C == D)))++(c.drop 12).map (λD=>V.bl (C == D))=c.map λD=>V.bl (C == D):=by
  rw[<-Zr,<-Zr,<-Zr]
  congr 1
  have z1:c.take 4++(c.drop 4).take 4=c.take 8:=by rw[show 8=4+4 from rfl,Ws]
  have Z:c.take 8++(c.drop 8).take 4=c.take 12:=by rw[show 12=8+4 from rfl,Ws]
  rw[z1,Z,Xw]
 rw[all] at y;have fl:(c.map λD=>V.bl (C == D)).all bX=aN:=by rw[Yz];exact ZL.mpr λ_ _=>rfl
 have g:∀D:Addr,eqV (V.bl (C == D)) (.bl aN)=(C == D):=λD=>by cases C == D <;> rfl
 have at_:∀ (m:Nat) z,(c.map λD=>V.bl (C == D))[m]?=aa z->∃D,c[m]?=aa D/\z = .bl (C == D):=λm z f=>by
  rw[Zj] at f;cases hd:c[m]? with
  |none=>rw[hd] at f;cases f
  |some D=>rw[hd] at f;cases f;exact⟨D,rfl,rfl⟩
 refine⟨n,⟨Q,_,by rw[ZD (by have:=E.1;lia)],y,fl,?_⟩,λq5 H5 I y5=>?_⟩
 ·rw[Wj]
  have:((λz=>eqV z (V.bl aN)) ∘ λD=>V.bl (C == D))=λD=>D == C:=by
   funext D
   show eqV (V.bl (C == D)) (.bl aN)=_;rw[g,Bool.beq_comm]
  rw[this];show c.count C=1;rw[hnd.count,if_pos (Zi u)]
 ·have O:=gx (v:=.ref q5) n (by decide:2 ≠ 0) I;have hil:=(Zb.mp u).1;refine⟨Q,_,q5,_,i,.bl (C == C),.str w,?_,I _ _ y,fl,by lia,by rw[Zj,u];rfl,by rw[g,beq_self_eq_true],λm z hm f=>?_,?_,y5,by rw[Za,Zs];lia,?_,λH6 x6=>?_⟩
  ·rw[ZH (by decide),ZD (by have:=E.1;lia)]
  ·obtain⟨D,hD,rfl⟩:=at_ m z f;rw[g];refine Xf.mpr λq=>?_;have z:C=D:=by simpa using q
   subst z;obtain⟨i1,j1⟩:=Zb.mp hD;obtain⟨i2,j2⟩:=Zb.mp u;have Z:m=i:=(Xl hnd).mp (j1.trans j2.symm)
   lia
  ·rw[ZD (by have:=n.1;lia)]
  ·rw[<-Zr,Xw,Zj,hw];rfl
  ·exact q H6 ((((x1.trans Y).trans U).trans x4).trans (I.trans x6))
end
section
variable {X:Cx}
def Md(h:PA X.nox E t):PA X E t:=λb p s c H Q I j=>
 UH (h b p s c H Q (I.wish _) j) (λ_ _ ⟨v,f,g,r,q⟩=>⟨v,f,g.unwish,r,q⟩) λ_ _ z=>False.elim z
def Me(h:PS X.nox s t):PS X s t:=λp s b H D I c=>
 UH (h p s b H D (I.wish _) c) (λ_ _ z=>SP.unwish z) λ_ _ z=>False.elim z
end
noncomputable abbrev cxM(P:Program)(w:World)(K:Vf)(mg:Str->Option Value)(base:Heap)(N:List Str)(q:Str)(b:Scope)(f:Addr)(c:Value)(A:Around)(outer:List Env)(s:Shared)(H:Hp):Cx:=
 { o4 CX0 P w K mg base N q b f c { A with handled:=aD } outer s H E0 with A:=A.deeper (envOfC q b s.heap.objs.size f c),calm:=false,xe:=λ_ _=>False }
section
variable {P:Program} {w:World} {K:Vf} {mg:Str->Option Value} {base:Heap} {A:Around} {outer:List Env} {s:Shared} {H:Hp}
def C5{x g:Str}{st:Stmt}{f:Addr}{X:W2}{N ps:List Str}{U:List Value}{vs:List V}{Q:VK}(F:Fun K x g st f X)(S:FnScope N ps (ay st))(hd:A.depth < recursionLimit)(E:Env0 P w K mg base A outer s H)(hb:BindsTo s X ⟨U,[]⟩ (ps.zip U))(r:aO vs U)(hl:vs.length=ps.length)
  (B:∀C,∃t,PSs (cxM P w K mg base N g (ay st) f C A outer s H) (bt st) t/\t { nx:=λ_ j=>Q .non j,rt:=Q } (dR N vs) H) :
  codeAny (model P w) A (.call (.ref f) ⟨U,[]⟩) (λr s'=>match r with |.ok (.ret u)=>L2.CE outer P w H s Q u s' |_=>False) s:=by
 obtain⟨oc,od,kV,Z,pm,an,C,ct,osl,rfl,lk,L⟩:=F.ex;have T:K.In s.heap:=E.mod.kin.keeps λb o e=>(E.bs b o e).1;have lim:s.heap.NoLimit:=E.mod.nolimit.keeps λb o e=>(E.bs b o e).1
 have p:∀y ∈ ps.zip U,(ay st).names.lookup y.1=aa .local\/((ay st).names.lookup y.1=aa .cell/\((VM (s.heap.objs.size+1) (ay st).names []).lookup y.1).isSome=aN):=λ⟨n,v⟩ hy=>by
  rcases S.par n (YU hy).1 with q |q
  ·exact .inl q
  ·exact .inr ⟨q,Vh _ _ _ (.inl q)⟩
 refine VO hd (T _ _ lk) rfl S.co S.gen rfl (Vk T L) (hb _ _ _ _ ?_);refine UI S.kind p λenv he s1 x=>?_;subst he;refine⟨lim.keeps x.toInCall.keep,codeAny_func ?_⟩;obtain⟨t,ht,hq⟩:=B C;have Y:Env0 P w K mg base { A with handled:=aD } outer s H:=⟨E.frames,E.mod,E.bs,E.bsz,E.funs,E.frf,E.hok,E.bare⟩;have c:L2.Inv (o4 CX0 P w K mg base N g (ay st) f C { A with handled:=aD } outer s H E0) [] (dR N vs) H s1:=pF S rfl Y hl r x
 have I:L2.Inv (cxM P w K mg base N g (ay st) f C A outer s H) [] (dR N vs) H s1:=
  ⟨⟨c.ok.mod,c.ok.kind,c.ok.glob,c.ok.blt,c.ok.above,c.ok.inj,c.ok.has,c.ok.cab,λz=>(nomatch z),c.ok.frames,c.ok.stk,c.ok.exf,c.ok.bs,c.ok.bsz,c.ok.noex,c.ok.exfs,c.ok.funs,c.ok.frf⟩,c.os,c.bare,c.base,c.loc,c.cell,c.free,c.freeC,c.pin,c.hok,c.len⟩
 refine UH (ht [] s1 (dR N vs) H _ I hq) (λfl s' hs=>?_) λe s' hs=>hs.elim
 have fin:∀ {h:L2.St} {j:Hp} {v:V} {u:Value},L2.Inv (cxM P w K mg base N g (ay st) f C A outer s H) [] h j s'->aJ v u->Q v j->L2.CE outer P w H s Q u s':=
  λ{h j v u} J O q=>⟨v,j,J.os,J.bare,J.base,J.hok,O,q⟩
 cases fl with
 |ret u=>
  obtain⟨v,h,j,J,O,q⟩:=hs;exact fin J O q
 |next=>
  obtain⟨h,j,J,q⟩:=hs;exact fin (v:=V.non) (u:=Value.none) J rfl q
 |brk=>
  obtain⟨_,_,_,q⟩:=hs;exact False.elim q
 |cont=>
  obtain⟨_,_,_,q⟩:=hs;exact False.elim q
end
abbrev Ah:List Str:=["meadow", "sky", "landings", "order", "lot", "text", "name", "glider", "minute", "aim", "many", "bound", "deed", "row", "way"]
abbrev uc(i:Nat):Option Str:=if i < 14 then Ah[i]? else aD
structure XInf(K:Vf)(mg:Str->Option Value)(R:Addr)(Ds:List Addr):Prop where
 ring:mg "RingError" = aa (.ref R)
 ve:mg "ValueError" = aD
 isi:mg "isinstance" = aD
 hR:∀h,K.In h->bF h R bmV
 hC:∀h,K.In h->∀ (i:Nat) C,Ds[i]?=aa C->i < 14->bF h C (.ref R::bmV)
 hT:∀h,K.In h->∀D ∈ Ds,qb h D
 nd:Ds.Nodup
 nr:∀D ∈ Ds,D ≠ R
 nm:∀ (i:Nat) x,fq[i]?=aa x->∃D,Ds[i]?=aa D/\mg x=aa (.ref D)
 len:Ds.length=15
section
variable {X:Cx} {R:Addr}
def yk:∀ {xs:List Str} {b:List Addr},xs.length=b.length->(∀ (i:Nat) x,xs[i]?=aa x->∃D,b[i]?=aa D/\X.mg x=aa (.ref D))->(∀D ∈ b,qb X.base D/\D ≠ R)->Cls2 X R xs b
 |[],[],_,_,_=>.nil
 |x::xs,D::b,hl,h,g=>by
  obtain⟨n,e,f⟩:=h 0 x rfl;cases e;exact .cons f (g D Zh).1 (g D Zh).2 (yk (by simpa using hl) (λi y j=>h (i+1) y (by simpa using j)) λD c=>g D (Zf _ c))
def kf{n:Nat}(h:Cls2 X R xs f):Cls2 X R (xs.take n) (f.take n):=by
 induction h generalizing n with
 |nil=>rw[XV,XV];exact .nil
 |cons a b c _ I=>cases n with
  |zero=>exact .nil
  |succ n=>exact .cons a b c I
def kg{n:Nat}(h:Cls2 X R xs f):Cls2 X R (xs.drop n) (f.drop n):=by
 induction h generalizing n with
 |nil=>rw[Wt,Wt];exact .nil
 |cons a b c d I=>cases n with
  |zero=>exact .cons a b c d
  |succ n=>exact I
end
def noE(x:XLeft P w l H h s B b)(f:B.get? e=aD):h e=aD:=by
 cases q:h e with
 |none=>rfl
 |some o=>obtain⟨z,Q⟩:=tX (x.hok e o q);rw[f] at Q;cases Q
section
variable {X:Cx} {R:Addr} {Ds:List Addr} {k f fw:Nat} {fd fdw:W2} {ps psW NW:List Str} {sp:Sp} {xf xw n:Str} {stw:Stmt} {e:Expr} {es:List Expr} {t:TA} {p pos rp np wp p2 p3 p4 hp tp:Pos} {i:Nat}
abbrev PX(X:Cx)(e:Expr)(t:L2.St->Hp->VK->XK->Prop):Prop:=∀b s c H Q E,L2.Inv X b c H s->t c H Q E ->
 wpAny (model X.prog X.w) X.A (eval e X.env) (EP X b c Q) (λj o=>∃g h,L2.Inv X b c h g/\CXE X.prog X.w X.stack h g E j o) s
def GA(F:FnOk X.prog X.w X.K X.mg X.base (CXE X.prog X.w) k f fd ps sp)(Y:Room k X.A)(O:Gl X xf)(Z:X.mg xf=aa (.ref f))(hk:Vq X.K (.ref f)=aN)(hb:fU X.K fd ps [])(L:PA X.nox (e::es) t)
  (T:Ug (e::es) X.env=(aT,eval e X.env)::Ug es X.env) (C:(backTo pos (Ug es X.env)).any (·.1)=aT) (B:(xf == ("__debug__" : Str))=aT) :
  PX X (.Call (.Name xf p) (e::es) [] pos) (λy H Q E=>t y H λvs v=>sp vs v Q E):=by
 intro b s y H Q E I h;refine Ur (gX I O Z ?_ B);refine Vg (h₀:=X.base) I.ok.mod.kin hk (UH (L pos b s y H _ (I.wish _) h) (λU s1 ⟨vs,v,c,r,q⟩=>⟨c.unwish.kIn,?_⟩) λ_ _ z=>z.elim) T C;have c:L2.Inv X b y v s1:=c.unwish;have j:U.length=ps.length:=by rw[<-r.length];exact F.len _ _ _ _ q
 have g:=hb s1 U c.kIn (by rw[ZY];exact j);rw[ZY] at g;refine wpAny_call (VP (F.run X.A X.stack s1 v ⟨U,[]⟩ U vs _ _ Y c.env0 g r q) λr s' o=>?_);cases r with
 |ok J=>
  cases J with
  |ret u=>exact c.after o
  |next=>exact False.elim o
  |brk=>exact False.elim o
  |cont=>exact False.elim o
 |error ev=>exact⟨s1,v,c,o⟩
def Mf{c a b:Expr}{B:TT}{T u:L2.St->Hp->VK->XK->Prop}(C:PT X.nox c B)(J:PX X a T)(hb:PX X b u):PX X (.IfExp c a b pos) (λj H Q E=>B j H λk o=>if k=aN then T j o Q E else u j o Q E):=by
 intro g s j H Q E I h;refine wpAny_IfExp (UH (C g s j H _ (I.wish _) h) (λd v ⟨o,q,y⟩=>?_) λ_ _ z=>z.elim);cases d with
 |true=>exact J g v j o Q E q.unwish y
 |false=>exact hb g v j o Q E q.unwish y
def GC{ex:Expr}{tx:L2.St->Hp->VK->XK->Prop}(hst:X.stack=X.env::X.outer)(hfm:X.env.frame=aa X.env.locals)(xi:XInf X.K X.mg R Ds)(hr:Room k X.A)(hX:PX X ex tx)
  (FW:Fun X.K xw xw stw fw fdw) (SW:FnScope NW psW (ay stw)) (bW:fU X.K fdw psW []) (T:psW.length=1) (cW:wd ⟨ay stw,aD,NW⟩ fq Ah (bt stw)=aN) (hgW:Gl X xw) (hmW:X.mg xw=aa (.ref fw)) (hdw:(xw == ("__debug__" : Str))=aT)
  (hN:X.N.Nodup) (hi:X.N[i]?=aa n) (hl:X.env.scope.names.lookup n=aa .local) (hgr:Gl X "RingError") (hn1:(n == ("__debug__" : Str))=aT) (hn2:(n == ("__classdict__" : Str))=aT) :
  PS X (.Try [.Return (aa ex) rp] [.ExceptHandler (aa (.Name "RingError" np)) (aa n) [.Return (aa (.Call (.Name xw wp) [.Name n p2] [] p3)) p4] hp] [] [] tp)
   (λD L H=>tx L H D.rt λc _ H2=>∃j C w,c = .ref C/\Ds[j]?=aa C/\uc j=aa w/\∀H3,jz H2 H3->D.rt (.str w) H3):=by
 intro g s L H D I h;refine wpAny_Try_except ?_;refine Uy (Us (UH (hX g s L H _ _ I h) (λu s' ⟨v,J,I',rv,z⟩=>⟨v,L,J,I',rv,z⟩) λev s' E=>?_));obtain⟨s1,H1,I1,a,c,a0,J,B,rfl,fl,x,j,C,w,rfl,hj,y,q⟩:=E;have o:j < 14:=by unfold uc at y;split at y <;> first |assumption |cases y
 have y:Ah[j]?=aa w:=by rw[uc,if_pos o] at y;exact y
 have hC:=xi.hC _ I.ok.mod.kin j C hj o;have hR:=xi.hR _ I.ok.mod.kin;have hH':=noE x fl.2.1;refine Gm hst hfm I1 fl x hC hR hgr xi.ring (by decide) hN hi hl λs6 I6=>?_;refine Uy (Us (Ur (gX (X:=Cx.mk X a) I6 hgW hmW ?_ hdw)));have U:i < L.length:=by rw[I.len];exact(Zb.mp hi).1
 refine Vg (h₀:=X.base) I.ok.mod.kin FW.kp (UH ((bN (X:=Cx.mk X a) (uJ (i:=i) hi (.inl hl) hn1 hn2) rfl) p3 g s6 _ _ (λvs H7=>vs=[.ref a]/\H7=upd J a (exO a C)) I6 ⟨_,ZD U,rfl,rfl⟩) (λus s7 ⟨vs,H7,I7,r,hvs,hH7⟩=>⟨I7.kIn,?_⟩) λ_ _ z=>z.elim) rfl rfl;subst hvs hH7;have hlW:us.length=psW.length:=by rw[<-r.length,T];rfl
 have Y:=bW s7 us I7.kIn (by rw[ZY];exact hlW);rw[ZY] at Y;have Z:X.A.depth < recursionLimit:=hr.depth;refine wpAny_call (VP (C5 (Q:=λv H8=>v = .str w/\jz (upd J a (exO a C)) H8) FW SW Z I7.env0 Y r (by rw[T];rfl) λO=>?_) λr s8 E=>?_)
 ·have c2:Cls2 (cxM X.prog X.w X.K X.mg X.base NW xw (ay stw) fw O (Cx.mk X a).A X.stack s7 (upd J a (exO a C))) R fq Ds:=yk (by rw[xi.len];rfl) xi.nm λD hD=>⟨xi.hT _ I.ok.mod.kin D hD,xi.nr D hD⟩;refine⟨_,Gz (X:=cxM X.prog X.w X.K X.mg X.base NW xw (ay stw) fw O (Cx.mk X a).A X.stack s7 (upd J a (exO a C))) (b:=⟨ay stw,aD,NW⟩) (a:=a) (C:=C) (md SW.kind) rfl rfl rfl xi.isi xi.ve hC hR (kf c2) (kf (kg c2)) (kf (kg c2)) (kg c2) (by rw[xi.len];decide) (by decide) xi.nd hj y cW,⟨?_,?_,aH⟩,λH2 x2=>⟨rfl,x2⟩⟩
  ·unfold wd at cW;have:=(an4 cW).2.1;have hl3:NW.length=3:=by simpa using this
   unfold L2.dR;rw[Zn,Yk,Za,hl3];rfl
  ·rfl
 ·cases r with
  |ok fl=>
   cases fl with
   |ret u=>
    obtain⟨v,H8,I8,rv,rfl,z⟩:=I7.after E;exact⟨u,_,_,H8,rfl,I8,rv,q H8 ((jz.upd hH').trans z)⟩
   |next=>exact False.elim E
   |brk=>exact False.elim E
   |cont=>exact False.elim E
  |error ev=>exact False.elim E
end
inductive RS where
 |pl (s:CS) |ck (f:Nat) (es:List CE) |rz (c:CE) (i:Nat) |tr (c:CE) (f:Nat) (es:List CE) (f':Nat) (es':List CE)
inductive RR where
 |val (d:D) |exc (i:Nat)
structure DefE where
 x:Str
 st:Stmt
 N:List Str
 np:Nat
 body:List CS
 rb:Option (List RS)
abbrev DefE.ps(d:DefE):List Str:=d.N.take d.np
abbrev FU:Nat:=60
abbrev cA(af:List DefE)(f:Nat):Nat:=match af[f]? with
 |some d=>d.ps.length
 |none=>0
@[inline]abbrev gy:=Nat->List D->Sto->Option (RR × Sto)
abbrev toC(g:gy):Calls:=λf b S=>match g f b S with
 |some (.val d,S')=>aa (d,S')
 |_=>aD
abbrev GD(C:Calls)(c:Nat->Nat)(d:DefE)(b:List D)(S:Sto):Option (D × Sto):=
 match gc C c FU d.body (b.map aa++Zq (d.N.length - b.length) aD) S with
 |some (.rt v,_,S')=>aa (v,S')
 |some (.nx,_,S')=>aa (.non,S')
 |_=>aD
abbrev xck(g:gy)(n f:Nat)(o:Option (List D × Sto))(k:RR->Sto->Option (RR × Sto)):Option (RR × Sto):=match o with
 | some (ds,S1)=>if ds.length=n then (match g f ds S1 with
  |some (r,S2)=>k r S2
  | none=>aD) else aD
 |none=>aD
abbrev cq(g:gy)(h:Nat->Nat):List RS->Rho->Sto->Option (RR × Sto)
 |[],_,S=>aa (.val .non,S)
 | .pl s::r,ρ,S=>(match evS (toC g) h 59 s ρ S with
  |some (.nx,ρ',S')=>cq g h r ρ' S'
  |some (.rt v,_,S')=>aa (.val v,S')
  | _=>aD)
 | .ck f es::r,ρ,S=>xck g (h f) f (evA (toC g) h FU es ρ S) λv j=>(match v with
  |.val _=>cq g h r ρ j
  | .exc i=>aa (.exc i,j))
 | .rz c i::r,ρ,S=>(match evT (toC g) h FU c ρ S with
  |some (aN,S1)=>if i < 14 then aa (.exc i,S1) else aD
  |some (aT,S1)=>cq g h r ρ S1
  | none=>aD)
 | .tr c f es f' es'::_,ρ,S=>(match evT (toC g) h FU c ρ S with
  | some (b,S0)=>xck g (h (if b=aN then f else f')) (if b=aN then f else f') (evA (toC g) h FU (if b=aN then es else es') ρ S0) λv j=>(match v with
   |.val d=>aa (.val d,j)
   | .exc i=>(uc i).map λw=>(.val (.str w),j))
  | none=>aD)
abbrev evX(af:List DefE):Nat->gy
 |0=>λ_ _ _=>aD
 |k+1=>λf b S=>match af[f]? with
  | some d=>(match d.rb with
   |none=>(GD (toC (evX af k)) (cA af) d b S).map λr=>(.val r.1,r.2)
   | some c=>cq (evX af k) (cA af) c (b.map aa++Zq (d.N.length - b.length) aD) S)
  |none=>aD
abbrev evC(af:List DefE)(k:Nat):Calls:=toC (evX af k)
abbrev C6(N ps:List Str)(sc:Scope):Bool:=sc.kind == .function && sc.isCoroutine == aT && sc.isGenerator == aT && iQ N && N.take ps.length == ps && (ps.all λx=>sc.names.lookup x == aa .local || sc.names.lookup x == aa .cell) && sc.names.all λy=>y.2 != .free
def ym(h:C6 N ps sc=aN):FnScope N ps sc:=by
 unfold C6 at h;simp only[bAE,ZL] at h;obtain⟨⟨⟨⟨⟨⟨o,c⟩,b⟩,h4⟩,g⟩,n⟩,j⟩:=h;refine⟨by simpa using o,by simpa using c,by simpa using b,gm h4,by simpa using g,λx f=>?_,λy p=>by simpa using j y p⟩;have:=n x f
 simpa using this
abbrev C7(e:Stmt)(k:Option Expr->Option Expr->Pos->Bool):Bool:=if h:e.ctorIdx=16 then @Stmt.Raise.elim (λ_=>Bool) e h k else aT
def C8(h:C7 e k=aN):∃b X c,e = .Raise b X c/\k b X c=aN:=by
 obtain⟨f,h⟩:=bQ h;exact Stmt.Raise.elim (motive_2:=λe=>∀g,@Stmt.Raise.elim (λ_=>Bool) e g k=aN->∃b X c,e = .Raise b X c/\k b X c=aN) e f (λb X c _ j=>⟨b,X,c,rfl,j⟩) f h
abbrev QK(e:Stmt)(k:List Stmt->List ExceptHandler->List Stmt->List Stmt->Pos->Bool):Bool:=if h:e.ctorIdx=17 then @Stmt.Try.elim (λ_=>Bool) e h k else aT
def Mg(h:QK e k=aN):∃b X g f c,e = .Try b X g f c/\k b X g f c=aN:=by
 obtain⟨j,h⟩:=bQ h;exact Stmt.Try.elim (motive_2:=λe=>∀n,@Stmt.Try.elim (λ_=>Bool) e n k=aN->∃b X g f c,e = .Try b X g f c/\k b X g f c=aN) e j (λb X g f c _ o=>⟨b,X,g,f,c,rfl,o⟩) j h
abbrev ud(T:Tab)(b:Blk)(f:Nat)(E:List CE)(e:Expr):Bool:=CA (λx=>oA T.fns[f]? (λy=>y.1 == x) && b.glo x) (λa=>eF T FU b a E) e
abbrev QL(b:Blk)(i:Nat)(s:Stmt):Bool:=C7 s λv c _=>c.isNone && oA v λe=>sCN e λx E f=>l1 E λa=>f.isEmpty && fq[i]? == aa x && b.glo x && dm a λc _ _=>(match c with |.str _=>aN |_=>aT)
abbrev ir:Str := "_law_word"
abbrev Mh(b:Blk)(h:ExceptHandler):Bool:=match h with
 |.ExceptHandler t n body _=>(oA t λe=>iq (λx=>x == ("RingError" : Str) && b.glo x) e) && oA n λn=>b.sc.names.lookup n == aa .local && b.N.contains n && !(n == ("__debug__" : Str)) && !(n == ("__classdict__" : Str)) && l1 body λs=>Aa (λe=>sCN e λx E c=>l1 E λa=>c.isEmpty && x == ir && b.glo x && iq (λy=>y == n) a) s
abbrev SC(k:Expr->Bool)(b:Blk)(s:Stmt):Bool:=QK s λbody hs o f _=>o.isEmpty && f.isEmpty && (l1 body λr=>Aa k r) && l1 hs λh=>Mh b h
abbrev fg(T:Tab)(b:Blk):List RS->List Stmt->Bool
 |[],ss=>ss.isEmpty
 |.pl c::rs,ss=>lC ss λs ss=>L6 T 59 b s c && fg T b rs ss
 |.ck f es::rs,ss=>lC ss λs ss=>zEx (ud T b f es) s && fg T b rs ss
 |.rz c i::rs,ss=>lC ss λs ss=>zIf (λe=>fE T FU b e c) (λp=>l1 p λs=>QL b i s) (λq=>q.isEmpty) s && fg T b rs ss
 |.tr c f es f' es'::rs,ss=>l1 ss λs=>SC (P8 (λe=>fE T FU b e c) (ud T b f es) (ud T b f' es')) b s
abbrev C9(T:Tab)(d:DefE):Bool:=C6 d.N d.ps (ay d.st) && (match d.rb with
 |none=>qf T FU ⟨ay d.st,aD,d.N⟩ (bt d.st) d.body
 | some b=>fg T ⟨ay d.st,aD,d.N⟩ b (bt d.st))
abbrev qh(con:List (Str × Int))(af:List DefE):Tab:=⟨con,af.map λd=>(d.x,d.ps.length)⟩
abbrev yn(d:DefE):Bool:=d.x == ir && d.ps.length == 1 && wd ⟨ay d.st,aD,d.N⟩ fq Ah (bt d.st)
structure TextOk(K:Vf)(mg:Str->Option Value)(con:List (Str × Int))(af:List DefE):Prop where
 con:∀ (i:Nat) (x:Str) (v:Int),con[i]?=aa (x,v)->∃tk,mg x=aa (.int v tk)
 bl:∀x,x ∈ gf->mg x=aD
 fn:∀ (i:Nat) (d:DefE),af[i]?=aa d->∃f fd,mg d.x=aa (.ref f)/\Vq K (.ref f)=aN/\fU K fd d.ps []/\Fun K d.x d.x d.st f fd
 xs:∃R Ds,XInf K mg R Ds
abbrev spX(K:Vf)(j:List Addr)(g:List D->Sto->Option (RR × Sto))(n:Nat):Sp:=λo H Q E=>∃m b S r f,VDs K m H b o/\Rel K m S H/\b.length=n/\g b S=aa (r,f)/\∀c h,Aft K m H f c h->(match r with
 |.val d=>∀v,VD K c h d v->Q v h
 | .exc i=>∃C,j[i]?=aa C/\i < 14/\E (.ref C) aD h)
def Da{K:Vf}{j:List Addr}{g:gy}{f n:Nat}{vs:List V}{H:Hp}{Q:VK}{E:XK}(h:spC K (toC g f) n vs H Q E):spX K j (g f) n vs H Q E:=by
 obtain⟨m,p,S,d,y,vd,R,u,e,q⟩:=h;unfold toC at e;split at e
 ·rename_i B C z;cases e;exact⟨m,p,S,.val d,y,vd,R,u,z,λc o A v b=>q c o v A b⟩
 ·cases e
section
variable {P:Program} {w:World} {K:Vf} {mg:Str->Option Value} {base:Heap} {con:List (Str × Int)} {af:List DefE}
def qi(vd:VDs K m H b vs):EnvR K m H (b.map aa++Zq (N.length - b.length) aD) (L2.dR N vs):=by
 have j:=vd.length;unfold L2.dR;refine⟨by simp[j],λi d e=>?_⟩;by_cases c:i < b.length
 ·rw[Zv (by simpa using c),Zj] at e;cases h:b[i]? with
  |none=>rw[h] at e;cases e
  |some n=>
   rw[h] at e;cases e;obtain⟨v,g,f⟩:=vd.get h;exact⟨v,by rw[Zv (by simp;lia),Zj,g];rfl,f⟩
 ·rw[Zp (by simpa using c),Yd] at e;split at e <;> cases e
abbrev tRs(K:Vf)(n:List Addr)(E:XK)(g:gy)(p:Nat->Nat)(o:List RS):TS:=λD b H=>(∀b H,D.rt .non H->D.nx b H)/\∃m f S r j,EnvR K m H f b/\Rel K m S H/\cq g p o f S=aa (r,j)/\∀c h,Aft K m H j c h->(match r with
 |.val d=>∀v,VD K c h d v->D.rt v h
 | .exc i=>∃C,n[i]?=aa C/\i < 14/\E (.ref C) aD h)
def ue{n f:Nat}(h:xck g n f o k=aa z):∃b c v j,o=aa (b,c)/\b.length=n/\g f b c=aa (v,j)/\k v j=aa z:=by
 cases o with
 |none=>cases h
 |some p=>
  obtain⟨b,c⟩:=p;unfold xck at h;dsimp only at h;split at h
  ·rename_i u;cases q:g f b c with
   |none=>rw[q] at h;cases h
   |some p=>obtain⟨v,j⟩:=p;rw[q] at h;exact⟨b,c,v,j,rfl,u,q,h⟩
  ·cases h
def GF(A:Aft K m H j c f)(x:jz f H3):Aft K m H j c H3:=by
 have E:Ext c f c H3:=⟨Ym _,λa o h _=>x a o h,λ_ h n=>absurd h n⟩
 exact A.trans ⟨E,A.rel.ext_keep E λb hb=>by
  obtain⟨o,_,g,_⟩:=A.rel.ex hb;rw[g];exact x b o g⟩
structure RCx(T:Tab)(g:gy)(ar:Nat->Nat)(k:Nat)(b:Blk)(X:Cx)(E:XK)(R:Addr)(Ds:List Addr):Prop where
 G:CtxOk T (toC g) ar k b X.nox
 xi:XInf X.K X.mg R Ds
 kin:X.K.In X.base
 fns:∀ (i:Nat) (y:Str × Nat),T.fns[i]?=aa y->∃f fd ps,X.mg y.1=aa (.ref f)/\Vq X.K (.ref f)=aN/\fU X.K fd ps []/\FnOk X.prog X.w X.K X.mg X.base (CXE X.prog X.w) k f fd ps (spX X.K Ds (g i) (ar i))
 pass:mI (CXE X.prog X.w) X E
 made:∀pins σ H s h1 e c args,L2.Inv X pins σ H s->Heap.MadeExcOf s.heap h1 e c args->E c aD H->X.xe (.ref e) { s with heap:=h1 }
 stk:X.stack=X.env::X.outer
 frm:X.env.frame=aa X.env.locals
 kind:X.env.scope.kind = .function
 word:∃fw fdw psW NW stw,X.mg ir=aa (.ref fw)/\Fun X.K ir ir stw fw fdw/\FnScope NW psW (ay stw)/\fU X.K fdw psW []/\psW.length=1/\wd ⟨ay stw,aD,NW⟩ fq Ah (bt stw)=aN
def Mi{P:Prop}{f:Nat}(h:ud T b f E o=aN)(q:∀y g e c p,o = .Call (.Name y.1 g) (e::c) [] p->T.fns[f]?=aa y->b.glo y.1=aN->eF T FU b (e::c) E=aN->P):P:=by
 obtain⟨x,e,c,g,p,Q,j,z⟩:=rG h;obtain⟨v,u⟩:=an2 j;obtain⟨y,C,B⟩:=ju v;have n:=l4 B;exact q y g e c p (by rw[Q,n]) C (n ▸ u) z
def QM{P:Prop}(O:Mh b hd=aN)(q:∀np n E f p c y (i:Nat),hd = .ExceptHandler (aa (.Name "RingError" np)) (aa n) [.Return (aa (.Call (.Name ir E) [.Name n f] [] p)) c] y->b.glo "RingError" = aN->b.glo ir=aN->b.N[i]?=aa n->b.sc.names.lookup n=aa .local->(n == ("__debug__" : Str))=aT->(n == ("__classdict__" : Str))=aT->P):P:=by
 obtain⟨ty,nm,v,y⟩:=hd;unfold Mh at O;obtain⟨k1,Y⟩:=an2 O;obtain⟨e1,q1,k3⟩:=ju k1;obtain⟨rn,np,q2,k4⟩:=dg k3;obtain⟨k5,k6⟩:=an2 k4;have T:=eq_of_beq k5;obtain⟨n,q4,k7⟩:=ju Y;obtain⟨l5,l6,l7,l8,l9⟩:=an5 k7;obtain⟨s0,q5,L⟩:=cM l9;obtain⟨v2,c,U,z⟩:=nZ L;obtain⟨xw,E,es2,ks,p,q7,J⟩:=p0 z;obtain⟨a,Z,B⟩:=cM J;obtain⟨C,g,u,h⟩:=an4 B;have q9:=cx C;have Q:=eq_of_beq g;obtain⟨n2,f,o,I⟩:=dg h;have j:=eq_of_beq I;obtain⟨i,X⟩:=Ye (Xx.mp l6);exact q np n E f p c y i (by rw[q1,q2,T,q4,q5,U,q7,Z,q9,Q,o,j]) (T ▸ k6) (Q ▸ u) X (by simpa using l5) (by simpa using l7) (by simpa using l8)
def Mj{k:Nat}(u:RCx T g n k b X E R o)(h:fg T b ([]) ss=aN):PSs X ss (tRs X.K o E g n ([])):=by
 rw[cx h];refine PSs.imp jd λD c H Q=>?_;obtain⟨f,m,p,S,r,v,Ev,j,e,q⟩:=Q;cases e;exact f c H (q m H (Aft.refl j) _ mY)
def QN{k:Nat}(z:RCx T g B k b X E R y)(Y:∀ss,fg T b o ss=aN->PSs X ss (tRs X.K y E g B o))(h:fg T b (.pl c::o) ss=aN):PSs X ss (tRs X.K y E g B (.pl c::o)):=by
 obtain⟨s,ss,rfl,h⟩:=cg h;obtain⟨h1,L⟩:=an2 h;refine PSs.imp (bS (Me ((Mb 59).s b X.nox s c z.G z.kind h1)) (Y ss L)) λD σ H Q=>?_;obtain⟨J,m,C,S,r,S',Ev,p,e,q⟩:=Q;simp only[cq] at e;split at e
 ·rename_i f n hs;exact⟨m,C,S,.nx,f,n,Ev,p,hs,λm1 I j U E1=>⟨J,m1,f,n,r,S',E1,j.rel,e,λm2 H2 Z=>q m2 H2 (j.trans Z)⟩⟩
 ·rename_i v f n hs;cases e;exact⟨m,C,S,_,_,_,Ev,p,hs,λm1 I j u O=>q m1 I j u O⟩
 ·cases e
def QO{k:Nat}(j:RCx T g Y k b X E R O){f:Nat}(ih:∀ss,fg T b z ss=aN->PSs X ss (tRs X.K O E g Y z))(h:fg T b (.ck f I::z) ss=aN):PSs X ss (tRs X.K O E g Y (.ck f I::z)):=by
 obtain⟨s,ss,rfl,h⟩:=cg h;obtain⟨h1,h2⟩:=an2 h;obtain⟨v,p,rfl,h3,h4⟩:=JF h1;obtain⟨x,e,as,p',p'',rfl,B,h5⟩:=rG h3;obtain⟨C,h7⟩:=an2 B;obtain⟨y,hy,C⟩:=ju C;have hx:=l4 C;subst hx;obtain⟨fa,fd,ps,hm,hk,hb,F⟩:=j.fns f y hy;have c:=bf h5;have gl:=j.G.gl h7;refine PSs.imp (bS (xh (xr F j.G.room gl.1 hm hk hb .nil j.pass (Md ((snd FU).a b X.nox _ I j.G h5)) gl.2 (au (c e Zh)) (dn λe he=>c e (Zf _ he))) (ua h4)) (ih ss h2)) λD σ H Q=>?_;obtain⟨hD,m,ρ,S,r,S',Ev,L,e,q⟩:=Q;simp only[cq] at e;obtain⟨U,J,v,Z,e1,hl,eg,e⟩:=ue e;refine⟨m,ρ,S,U,J,Ev,L,e1,λm1 H1 vs n vd=>⟨m1,U,J,v,Z,by rw[ZY];exact vd,n.rel,hl,eg,λm2 H2 o=>?_⟩⟩;cases v with
 |val d=>exactλu _=>⟨hD,m2,ρ,Z,r,S',Ev.mono L (n.trans o).ext,o.rel,e,λm3 H3 A3=>q m3 H3 ((n.trans o).trans A3)⟩
 |exc i=>cases e;exact q m2 H2 (n.trans o)
def QP{P:Prop}{i:Nat}(h:QL b i s=aN)(q:∀x o n z j g p,s = .Raise (aa (.Call (.Name x o) [.Constant (.str z) j g] [] n)) aD p->fq[i]?=aa x->b.glo x=aN->P):P:=by
 obtain⟨v,y,p,Z,c⟩:=C8 h;obtain⟨L,c⟩:=an2 c;obtain⟨U,E,c⟩:=ju c;obtain⟨x,o,X,Y,n,O,c⟩:=p0 c;obtain⟨a,J,c⟩:=cM c;obtain⟨T,B,u,f⟩:=an4 c;obtain⟨C,j,g,Q,f⟩:=cN f;have I:y=aD:=by cases y <;> first |rfl |cases L
 have ⟨z,z7⟩:∃z,C = .str z:=by cases C <;> first |exact⟨_,rfl⟩ |cases f
 exact q x o n z j g p (by rw[Z,E,O,J,cx T,Q,I,z7]) (by simpa using B) u
def QQ{k:Nat}(f:RCx T g ar k b X E R Ds){i:Nat}(ih:∀ss,fg T b rs ss=aN->PSs X ss (tRs X.K Ds E g ar rs))(h:fg T b (.rz c i::rs) ss=aN):PSs X ss (tRs X.K Ds E g ar (.rz c i::rs)):=by
 obtain⟨s,L,z1,h⟩:=cg h;obtain⟨h1,h2⟩:=an2 h;obtain⟨t,p,q,r,z2,h3,h4,h5⟩:=CZ h1;obtain⟨s1,z3,h4⟩:=cM h4;refine QP h4 λx p1 p2 z j p3 pos z4 hx h10=>?_;rw[z1,z2,cx h5,z3,z4];obtain⟨C,hC,hm⟩:=f.xi.nm i x hx;have gl:=f.G.gl h10;by_cases o:i < 14
 ·refine PSs.imp (bS (xj (PT.nox ((snd FU).t b X.nox t c f.G h3)) (je (CL (E:=E) (v:=.str z) (λJ Z H s h1 e Y I mk hE=>f.made J Z H s h1 e _ Y I mk hE) f.G.calm gl.1 hm (f.xi.hC _ f.kin i C hC o) (f.xi.hR _ f.kin) (bN qK rfl) rfl gl.2)) jd) (ih L h2)) λD Z H Q=>?_;obtain⟨hD,m,B,S,r,S',Ev,u,e,q⟩:=Q;simp only[cq] at e;split at e
  ·rename_i O y;rw[if_pos o] at e;cases e;refine⟨m,B,S,aN,_,Ev,u,y,λm1 H1 n=>?_⟩;dsimp only;rw[if_pos rfl];obtain⟨C',U,_,z⟩:=q m1 H1 n;rw[hC] at U;cases U;exact z
  ·rename_i O y;refine⟨m,B,S,aT,_,Ev,u,y,λm1 H1 n=>?_⟩;dsimp only;rw[if_neg Zg];exact⟨hD,m1,B,O,r,S',Ev.mono u n.ext,n.rel,e,λm2 H2 A2=>q m2 H2 (n.trans A2)⟩
  ·cases e
 ·refine PSs.imp (bS (xj (PT.nox ((snd FU).t b X.nox t c f.G h3)) (je sF) jd) (ih L h2)) λD Z H Q=>?_;obtain⟨hD,m,B,S,r,S',Ev,u,e,q⟩:=Q;simp only[cq] at e;split at e
  ·rename_i O y;rw[if_neg o] at e;cases e
  ·rename_i O y;refine⟨m,B,S,aT,_,Ev,u,y,λm1 H1 n=>?_⟩;dsimp only;rw[if_neg Zg];exact⟨hD,m1,B,O,r,S',Ev.mono u n.ext,n.rel,e,λm2 H2 A2=>q m2 H2 (n.trans A2)⟩
  ·cases e
def JG{k:Nat}(j:RCx T g o k b X E R u){f:Nat}(h:ud T b f n e=aN):PX X e (λq H Q E=>tAr X.K (evA (toC g) o FU n) q H λvs L=>spX X.K u (g f) (o f) vs L Q E):=by
 refine Mi h λy U e as J z O C p=>?_;rw[z];obtain⟨Y,Z,ps,I,B,hb,F⟩:=j.fns f y O;have c:=bf p;have gl:=j.G.gl C;exact GA F j.G.room gl.1 I B hb ((snd FU).a b X.nox _ n j.G p) (au (c e Zh)) (dn λe v=>c e (Zf _ v)) gl.2
def QR{k:Nat}(z:RCx T g Y k b X E R I){c:CE}{f Q:Nat}(h:fg T b (.tr c f es Q L::rs) ss=aN):PSs X ss (tRs X.K I E g Y (.tr c f es Q L::rs)):=by
 obtain⟨s,z1,c0⟩:=cM h;obtain⟨body,hs,o,fi,tp,z2,c1⟩:=Mg c0;obtain⟨h1,h2,h3,h4⟩:=an4 c1;obtain⟨r0,z3,c2⟩:=cM h3;obtain⟨v,rp,z4,c3⟩:=nZ c2;obtain⟨hd,z5,c4⟩:=cM h4;obtain⟨t,x,y,p,z6,k1,k2,k3⟩:=LP c3;refine QM c4 λnp n wp p2 p3 rp2 hp i z7 k6 O hi l5 l7 l8=>?_;rw[z1,z2,cx h1,cx h2,z3,z4,z5,z6,z7];obtain⟨fw,fdw,psW,NW,stw,w1,w2,w3,w4,w5,w6⟩:=z.word;refine PSs.imp (je (GC (i:=i) z.stk z.frm z.xi z.G.room (Mf ((snd FU).t b X.nox _ c z.G k1) (JG z k2) (JG z k3)) w2 w3 w4 w5 w6 (z.G.gl O).1 w1 (z.G.gl O).2 (by rw[show X.N=b.N from z.G.hN];exact z.G.nd) (by rw[show X.N=b.N from z.G.hN];exact hi) (by rw[show X.env.scope=b.sc from z.G.hs];exact l5) (z.G.gl k6).1 l7 l8)) λD σ H q10=>?_;obtain⟨hD,m,ρ,S,r,S',Ev,Rl,e,q⟩:=q10;simp only[cq] at e;cases Z:evT (toC g) Y FU c ρ S with
 |none=>rw[Z] at e;cases e
 |some q0=>
 obtain⟨J,S0⟩:=q0;rw[Z] at e;refine⟨m,ρ,S,J,S0,Ev,Rl,Z,λm0 H0 U=>?_⟩;dsimp only at e;obtain⟨ds,S1,v,S2,e1,hl,eg,e⟩:=ue e
 have go:tAr X.K (evA (toC g) Y FU (if J=aN then es else L)) σ H0 λvs H1=>spX X.K I (g (if J=aN then f else Q)) (Y (if J=aN then f else Q)) vs H1 D.rt λc _ H2=>∃j C w,c = .ref C/\I[j]?=aa C/\uc j=aa w/\∀H3,jz H2 H3->D.rt (.str w) H3:=by
  refine⟨m0,ρ,S0,ds,S1,Ev.mono Rl U.ext,U.rel,e1,λm1 H1 vs A1 vd=>⟨m1,ds,S1,v,S2,vd,A1.rel,hl,eg,λm2 H2 A2=>?_⟩⟩;cases v with
  |val d=>cases e;exactλu vu=>q m2 H2 ((U.trans A1).trans A2) u vu
  |exc j=>
   dsimp only at e;cases B:uc j with
   |none=>rw[B] at e;cases e
   |some w=>
    rw[B] at e;cases e;have h14:j < 14:=by unfold uc at B;split at B <;> first |assumption |cases B
    have hj:j < I.length:=by rw[z.xi.len];lia
    exact⟨I[j],gEG hj,h14,j,I[j],w,rfl,gEG hj,B,λH3 x3=>q m2 H3 (GF ((U.trans A1).trans A2) x3) _ mZ⟩
 cases J with
 |true=>exact go
 |false=>exact go
def yo{k:Nat}(n:RCx T g p k b X E R o):∀ (j:List RS) (ss:List Stmt),fg T b j ss=aN->PSs X ss (tRs X.K o E g p j)
 |[],ss,h=>Mj n h
 |.pl c::j,ss,h=>QN n (yo n j) h
 |.ck f es::j,ss,h=>QO n (yo n j) h
 |.rz c i::j,ss,h=>QQ n (yo n j) h
 |.tr c f es f' es'::j,ss,h=>QR n h
def GG{i n:Nat}:FnOk P w K mg base (CXE P w) 0 f o ps (spX K j (evX af 0 i) n):=
 ⟨λv H Q E h=>(by obtain⟨m,c,S,d,g,_,_,_,e,_⟩:=h;cases e),λA outer s H b u v Q E _ _ _ _ h=>(by obtain⟨m,c,S,d,g,_,_,_,e,_⟩:=h;cases e)⟩
def yp(T:TextOk K mg con af)(xi:XInf K mg R Ds)(kin:K.In base)(hc:af.all (C9 (qh con af))=aN)(hw:af.any yn=aN):∀ (k i:Nat) (d:DefE),af[i]?=aa d->∀f C,mg d.x=aa (.ref f)->Fun K d.x d.x d.st f C->FnOk P w K mg base (CXE P w) k f C d.ps (spX K Ds (evX af k i) d.ps.length)
 |0,i,d,_,f,C,_,_=>GG
 |k+1,i,d,hd,f,C,hm,F=>by
  have ih:=yp T xi kin hc hw k;have ck:=ZL.mp hc d (Zi hd);unfold C9 at ck;rw[bAE] at ck;have S:=ym ck.1
  have word:∃fw o B NW n,mg ir=aa (.ref fw)/\Fun K ir ir n fw o/\FnScope NW B (ay n)/\fU K o B []/\B.length=1/\wd ⟨ay n,aD,NW⟩ fq Ah (bt n)=aN:=by
   obtain⟨X,p,hq⟩:=YZ.mp hw;obtain⟨j,L⟩:=Ye p;unfold yn at hq;obtain⟨q1,q2,q3⟩:=an3 hq;obtain⟨fw,o,m1,m2,m3,m4⟩:=T.fn j X L;have O:=ZL.mp hc X p;unfold C9 at O;rw[bAE] at O;rw[<-eq_of_beq q1];exact⟨fw,o,X.ps,X.N,X.st,m1,m4,ym O.1,m3,by simpa using q2,q3⟩
  obtain⟨oc,od,kV,doc,pm,an,U,ct,osl,rfl,lk,hcd⟩:=F.ex;refine Pz lk hcd S (λvs H Q E h=>?_) λA outer s H vs Q E hr h=>?_
  ·obtain⟨m,ds,S,d',S',vd,_,hl,_⟩:=h;rw[<-vd.length,hl]
  ·have FX:∀ (j:Nat) (y:Str × Nat),(qh con af).fns[j]?=aa y->cA af j=y.2/\∃f C ps,mg y.1=aa (.ref f)/\Vq K (.ref f)=aN/\fU K C ps []/\FnOk P w K mg base (CXE P w) k f C ps (spX K Ds (evX af k j) (cA af j)):=λj y Z=>by
    have b:(af.map λd=>(d.x,d.ps.length))[j]?=aa y:=Z;rw[Zj] at b;cases L:af[j]? with
    |none=>rw[L] at b;cases b
    |some e=>
     rw[L] at b;cases b;have ha:cA af j=e.ps.length:=by unfold cA;rw[L]
     obtain⟨f',g,J,k',b',F'⟩:=T.fn j e L;refine⟨ha,f',g,e.ps,J,k',b',?_⟩;rw[ha];exact ih j e L f' g J F'
   have G:CtxOk (qh con af) (toC (evX af k)) (cA af) k ⟨ay d.st,aD,d.N⟩ (o4 (CXE P w) P w K mg base d.N d.x (ay d.st) f U A outer s H E).nox:=by
    refine⟨rfl,rfl,rfl,rfl,S.nd,λ_ _=>rfl,hr,T.con,T.bl,λj y Z=>?_⟩;obtain⟨ha,f',g,ps',J,k',b',F'⟩:=FX j y Z;exact⟨ha,f',g,ps',J,k',b',F'.imp λvs H Q E q=>Da q⟩
   obtain⟨m,ds,S0,r,S',vd,Rl,hl,e,q⟩:=h;simp only[evX,hd] at e;cases Y:d.rb with
   |none=>
    rw[Y] at e ck;dsimp only at e ck;refine⟨_,((Mb FU).ss _ _ (bt d.st) d.body G S.kind ck.2).nox,?_⟩;unfold GD at e;cases hx:gc (toC (evX af k)) (cA af) FU d.body (ds.map aa++Zq (d.N.length - ds.length) aD) S0 with
    |none=>rw[hx] at e;cases e
    |some z=>
     obtain⟨fl,ρ',S1⟩:=z;rw[hx] at e;refine⟨m,_,S0,fl,ρ',S1,qi vd,Rl,hx,λJ H' A'=>?_⟩;cases fl with
     |nx=>cases e;exactλσ _=>q J H' A' .non mY
     |rt v=>cases e;exactλu vu=>q J H' A' u vu
     |bk=>cases e
     |ct=>cases e
   |some rs=>
    rw[Y] at e ck;dsimp only at e ck
    have rc:RCx (qh con af) (evX af k) (cA af) k ⟨ay d.st,aD,d.N⟩ (o4 (CXE P w) P w K mg base d.N d.x (ay d.st) f U A outer s H E) E R Ds:=
     ⟨G,xi,kin,λj y Z=>(FX j y Z).2,Qg,λpins σ H s h1 e c args I mk hE=>Qh I mk hE,rfl,rfl,S.kind,word⟩
    exact⟨_,yo rc rs (bt d.st) ck.2,λ_ _ z=>z,m,_,S0,r,S',qi vd,Rl,e,q⟩
end
abbrev yq(d:DefE):Option sx:=aa ((d.x,d.x),(dP d.st,bt d.st),(ay d.st,V2),([],.none),(VJ,aa d.x))
def yr:∀ {l:List Nat},J8 l=aN->l.Nodup
 |[],_=>Wn
 |a::l,h=>by
  obtain⟨b,c⟩:=an2 h;refine Yr.mpr ⟨λf=>?_,yr c⟩;rw[Xx.mpr f] at b;cases b
abbrev cu(h:Heap)(x:Str):Vf:=match h.nsMap V2 x with
 | some (.ref C)=>(match h.get? C with
  | some ⟨c0,dd,.cls cd,sl⟩=>(C,⟨c0,dd,.cls cd,sl⟩)::(match h.get? cd.ns with
   |some ⟨c1,d1,.dict es ep,s1⟩=>[(cd.ns,⟨c1,d1,.dict es ep,s1⟩)]
   | _=>[])
  | _=>[])
 |_=>[]
@[inline]abbrev uf:=Bool × List (Option sx) × List (Option Int) × List Bool × Bool
abbrev Ai(con:List (Str × Int))(af:List DefE)(h:Heap):uf:=(h.isNs V2,af.map (λd=>uI h d.x),con.map (λc=>EW h c.1),(gf.map λx=>(h.nsMap V2 x).isNone),AM h)
abbrev ug(con:List (Str × Int))(af:List DefE):uf:=(aN,af.map yq,con.map (λc=>aa c.2),(gf.map λ_=>aN),aN)
abbrev JH(d:DefE):Prop:=∀ (kV b p:Value) (an:Option Addr) (c ct:Value) (u:List Value),u.length=d.ps.length->bindArgs (Vm d.x d.x (dP d.st) (bt d.st) (ay d.st) .none kV b p an c ct) ⟨u,[]⟩=pure (d.ps.zip u)
abbrev Aj:List DefE->Prop
 |[]=>True
 |d::ds=>JH d/\Aj ds
def Aj.at:∀ {b:List DefE} {d:DefE},Aj b->d ∈ b->JH d
 |e::b,d,h,hd=>by
  rcases Zl.mp hd with rfl |hd
  ·exact h.1
  ·exact Aj.at h.2 hd
abbrev qj(h:Heap)(f:Addr):Vf:=match h.get? f with
 | some o=>(f,o)::(match o.data with
  | .func fd=>(match fd.code with
   |.ref c=>(match h.get? c with |some O=>[(c,O)] |none=>[])
   | _=>[])
  | _=>[])
 |none=>[]
abbrev ec(h:Heap)(d:DefE):Vf:=match h.nsMap V2 d.x with
 |some (.ref f)=>qj h f
 |_=>[]
abbrev QS(K:Vf):Prop:=∀a o,K.lookup a=aa o->∀I n,o.data ≠ .seq I n
structure Says(con:List (Str × Int))(af:List DefE)(h:Heap):Prop where
 ns:∃m,h.Ns V2 m
 frag:∃K:Vf,K.In h/\QS K/\∀mg,h.Ns V2 mg->TextOk K mg con af
def og{K:Vf}{a:Addr}{o:Obj}(h:K.lookup a=aa o):(a,o) ∈ K:=by
 induction K with
 |nil=>cases h
 |cons p K I=>
  obtain⟨b,q⟩:=p;rw[ZS] at h;cases hb:a == b with
  |true=>
   rw[hb] at h;cases h;have:a=b:=by simpa using hb
   subst this;exact Zh
  |false=>rw[hb] at h;exact Zf _ (I h)
def Db{K:Vf}{a:Addr}{o:Obj}(h:(a,o) ∈ K):∃o',K.lookup a=aa o':=by
 induction K with
 |nil=>cases h
 |cons p K I=>
  obtain⟨b,q⟩:=p;rw[ZS];cases hb:a == b with
  |true=>exact⟨_,rfl⟩
  |false=>
   rcases Zl.mp h with e |h
   ·cases e;simp at hb
   ·exact I h
def Dc(e:(a,o) ∈ qj h f):h.get? a=aa o:=by
 unfold qj at e;cases g:h.get? f with
 |none=>rw[g] at e;cases e
 |some of=>
  rw[g] at e;dsimp only at e;rcases Zl.mp e with q |e
  ·cases q;exact g
  ·split at e
   ·split at e
    ·rename_i c j;cases b:h.get? c with
     |none=>rw[b] at e;cases e
     |some O=>
      rw[b] at e;dsimp only at e;rcases Zl.mp e with q |e
      ·cases q;exact b
      ·cases e
    ·cases e
   ·cases e
def Ml{h:Heap}{a:Addr}{mg:Str->Option Value}(N:h.Ns a mg):h.nsMap a=mg:=by
 obtain⟨o,E,f,b,hd,_,c⟩:=N
 funext x
 unfold Heap.nsMap;rw[b];dsimp only;rw[hd];exact c x
def Dd(e:uI h d.x=yq d):∃f O q kV g p an c ct o C j vs a t r u,h.nsMap V2 d.x=aa (.ref f)/\h.get? f=aa ⟨O,q,.func (Vm d.x d.x (dP d.st) (bt d.st) (ay d.st) .none kV g p an (.ref c) ct),o⟩ ∧
  h.get? c=aa ⟨C,j,.fields vs,u⟩/\vs.toList=a :: .str d.x t::r:=by
 unfold uI yq at e;split at e
 ·rename_i f B;unfold Pe at e;split at e
  ·rename_i O q nm Q ps b sc gl cl J kV g p an v ct I o z;simp only[Option.some.injEq,Prod.mk.injEq] at e;obtain⟨⟨rfl,rfl⟩,⟨rfl,rfl⟩,⟨rfl,rfl⟩,⟨rfl,rfl⟩,rfl,e⟩:=e;unfold IX at e;split at e
   ·rename_i c;split at e
    ·rename_i C j vs u y;split at e
     ·rename_i a n t r E;cases e;exact⟨f,O,q,kV,g,p,an,c,ct,o,C,j,vs,a,t,r,u,B,z,y,E⟩
     ·cases e
    ·cases e
   ·cases e
  ·cases e
 ·cases e
def uh(e:(a,o) ∈ cu h x):h.get? a=aa o/\∀I n,o.data ≠ .seq I n:=by
 unfold cu at e;split at e
 ·split at e
  ·rename_i C _ c b j sl hC;rcases Zl.mp e with q |e
   ·cases q;exact⟨hC,λ_ _ z=>nomatch z⟩
   ·split at e
    ·rename_i g f E u p hN;rcases Zl.mp e with q |e
     ·cases q;exact⟨hN,λ_ _ z=>nomatch z⟩
     ·cases e
    ·cases e
  ·cases e
 ·cases e
def yt(e:J7 h x=aN):∃b c sl,h.nsMap V2 x=aa (.ref (adX h x))/\(adX h x,(⟨.type "type", b,.cls c,sl⟩:Obj)) ∈ cu h x:=by
 unfold J7 at e;split at e
 ·rename_i C f;split at e
  ·rename_i b c sl hC;have z:adX h x=C:=by unfold adX;rw[f]
   refine⟨b,c,sl,by rw[f,z],?_⟩;unfold cu;rw[f,z];dsimp only;rw[hC];exact Zh
  ·cases e
 ·cases e
def yu{h:Heap}{bm:List Value}{x:Str}(e:EX h bm x=aN){K:Vf}(Z:∀a o,(a,o) ∈ cu h x->K.lookup a=aa o):h.nsMap V2 x=aa (.ref (adX h x))/\∀g,K.In g->bF g (adX h x) bm:=by
 unfold EX at e;split at e
 ·rename_i C f;split at e
  ·rename_i T j sl hC;split at e
   ·rename_i C' bm' X J y k3 n Q L hs;simp only[bAE,beq_iff_eq,Bool.not_eq_true',ZL] at e;obtain⟨⟨⟨⟨⟨rfl,rfl⟩,rfl⟩,b⟩,c⟩,I⟩:=e;have z:adX h x=C':=by unfold adX;rw[f]
    refine⟨by rw[f,z],λg v=>?_⟩;rw[z];have N:=Heap.Ns.of_isNs c;obtain⟨oN,E,Y,hN,hd,r⟩:=id N;obtain⟨c1,d1,dat,s1⟩:=oN;dsimp only at hd;subst hd
    have m1:(C',(⟨.type "type", T,.cls j,sl⟩:Obj)) ∈ cu h x:=by
     unfold cu;rw[f];dsimp only;rw[hC];exact Zh
    have U:(j.ns,(⟨c1,d1,.dict E Y,s1⟩:Obj)) ∈ cu h x:=by
     unfold cu;rw[f];dsimp only;rw[hC];dsimp only;rw[hN];exact Zf _ Zh
    have B:=v _ _ (Z _ _ m1);have O:=v _ _ (Z _ _ U);obtain⟨nm,bs,mro,ns,qn,u,sn,sub,ab,q,del⟩:=j;dsimp only at L b c I N hN r m1 U B O;subst L b
    have p:sl=#[X,J,y,k3,aa (.builtin "ValueError.__new__"),Q]:=by
     obtain⟨l⟩:=sl;simp only at hs;rw[hs]
    subst p;exact⟨ns,nm,qn,bs,u,sn,sub,ab,q,T,X,J,y,k3,Q,h.nsMap ns,B,⟨_,E,Y,O,rfl,r⟩,λn hn=>by simpa using I n hn⟩
   ·cases e
  ·cases e
 ·cases e
def GH{h:Heap}(e:AM h=aN){K:Vf}{mg:Str->Option Value}(J:h.nsMap V2=mg)(hb:mg "isinstance" = aD)(L:∀x,x ∈ ("RingError" : Str)::fq->∀a o,(a,o) ∈ cu h x->K.lookup a=aa o):XInf K mg (adX h "RingError") (fq.map (adX h)):=by
 unfold AM at e;obtain⟨v,I,E,y,B⟩:=an5 e;subst J;have r1:=yu v (L _ Zh);have nd:=Yr.mp (yr y);refine⟨r1.1,by simpa using B,hb,r1.2,λp j i C c n=>?_,λp j D g=>?_,nd.2,λD g z=>nd.1 (z ▸ g),λi x b=>?_,by rw[Za];rfl⟩
 ·rw[Zj] at c;cases b:fq[i]? with
  |none=>rw[b] at c;cases c
  |some x=>
   rw[b] at c;cases c;have f:x ∈ fq.take 14:=Zi (i:=i) (by rw[YT n];exact b);exact(yu (ZL.mp I x f) (L x (Zf _ (Zi b)))).2 p j
 ·obtain⟨x,b,rfl⟩:=Zw.mp g;obtain⟨u,q,sl,_,m⟩:=yt (ZL.mp E x b);exact⟨u,q,sl,j _ _ (L x (Zf _ b) _ _ m)⟩
 ·obtain⟨u,q,sl,m,_⟩:=yt (ZL.mp E x (Zi b));exact⟨adX h x,by rw[Zj,b];rfl,m⟩
def GI{con:List (Str × Int)}{af:List DefE}(hb:Aj af){h:Heap}(e:Ai con af h=ug con af):Says con af h:=by
 unfold Ai ug at e;simp only[Prod.mk.injEq] at e;obtain⟨e0,e1,e2,e3,e4⟩:=e;have N:=Heap.Ns.of_isNs e0;have D:∀d ∈ af,uI h d.x=yq d:=λd hd=>Xg.mp e1 d hd
 have I:∀a o,(a,o) ∈ af.flatMap (ec h)++(("RingError" : Str)::fq).flatMap (cu h)->h.get? a=aa o:=λa o he=>by
  rcases ZJ.mp he with he |he
  rotate_left
  ·obtain⟨x,_,he⟩:=Z6.mp he;exact(uh he).1
  obtain⟨d,hd,he⟩:=Z6.mp he;obtain⟨f,U,od,kV,b,Q,an,c,ct,O,T,Z,Y,a',t,r,X,g,j,p,B⟩:=Dd (D d hd);unfold ec at he;rw[g] at he;exact Dc he
 have L:∀a o,(a,o) ∈ af.flatMap (ec h)++(("RingError" : Str)::fq).flatMap (cu h)->(af.flatMap (ec h)++(("RingError" : Str)::fq).flatMap (cu h)).lookup a=aa o:=λa o he=>by
  obtain⟨o',q⟩:=Db he;have z:=I a o' (og q);rw[I a o he] at z;cases z;exact q
 refine⟨⟨_,N⟩,af.flatMap (ec h)++(("RingError" : Str)::fq).flatMap (cu h),λa o q=>I a o (og q),λa o q J n hs=>?_,λmg G=>?_⟩
 ·rcases ZJ.mp (og q) with he |he
  rotate_left
  ·obtain⟨x,_,he⟩:=Z6.mp he;exact(uh he).2 J n hs
  obtain⟨d,hd,he⟩:=Z6.mp he;obtain⟨f,U,od,kV,b,Q,an,c,ct,O,T,Z,Y,a',t,r,X,g,j,p,B⟩:=Dd (D d hd);unfold ec at he;rw[g] at he;dsimp only at he;unfold qj at he;rw[j] at he;dsimp only at he;rw[p] at he;dsimp only at he;rcases Zl.mp he with z |he
  ·cases z;cases hs
  ·rcases Zl.mp he with z |he
   ·cases z;cases hs
   ·cases he
 ·have u:=Ml G
  have bl:∀x,x ∈ gf->mg x=aD:=λx C=>by
   have z:=Xg.mp e3 x C;rw[u] at z
   simpa using z
  refine⟨λi x v y=>?_,bl,λi d y=>?_,_,_,GH e4 u (bl _ (by decide)) λx C a o ho=>L a o (ZA _ (Z6.mpr ⟨x,C,ho⟩))⟩
  ·have z:=Xg.mp e2 (x,v) (Zi y);unfold EW at z;rw[u] at z;dsimp only at z;split at z
   ·rename_i v' t hv;cases z;exact⟨t,hv⟩
   ·cases z
  ·have hd:=Zi y;obtain⟨f,U,od,kV,b,Q,an,c,ct,O,T,Z,Y,a',t,r,X,g,j,p,B⟩:=Dd (D d hd)
   have m1:(f,_) ∈ af.flatMap (ec h)++(("RingError" : Str)::fq).flatMap (cu h):=Yx _ <| Z6.mpr ⟨d,hd,by
    show _ ∈ ec h d;unfold ec;rw[g];dsimp only;unfold qj;rw[j];exact Zh⟩
   have m2:(c,_) ∈ af.flatMap (ec h)++(("RingError" : Str)::fq).flatMap (cu h):=Yx _ <| Z6.mpr ⟨d,hd,by
    show _ ∈ ec h d;unfold ec;rw[g];dsimp only;unfold qj;rw[j];dsimp only;rw[p];exact Zf _ Zh⟩
   have l1:=L _ _ m1;have l2:=L _ _ m2;have kp:Vq (af.flatMap (ec h)++(("RingError" : Str)::fq).flatMap (cu h)) (.ref f)=aN:=by unfold Vq;dsimp only;rw[l1]
   have E:Vj (af.flatMap (ec h)++(("RingError" : Str)::fq).flatMap (cu h)) (.ref c) d.x=aN:=by
    unfold Vj;dsimp only;rw[l2];dsimp only;rw[B];simp
   have F:=KL (st:=d.st) (x:=d.x) (qual:=d.x) l1 E kp;refine⟨f,_,by rw[<-u];exact g,kp,F.binds (hb.at hd),F⟩
def wm(x:Says con af h)(k:∀b o,h.get? b=aa o->h'.get? b=aa o):Says con af h':=by
 obtain⟨⟨m,N⟩,K,n,ns,T⟩:=x
 have B:∀mg,h'.Ns V2 mg->h.Ns V2 mg:=λmg ⟨o,E,g,f,r⟩=>by
  obtain⟨O,p,j,c,u⟩:=N;have z:=k _ _ c;rw[f] at z;cases z;exact⟨o,E,g,c,r⟩
 refine⟨⟨m,let ⟨o,E,g,f,r⟩:=N;⟨o,E,g,k _ _ f,r⟩⟩,K,λa o q=>k _ _ (n a o q),ns,λmg G=>T mg (B mg G)⟩
abbrev kh(con:List (Str × Int))(af:List DefE)(hb:Aj af):PySem.W.Hook:=
 ⟨uf,λs=>Ai con af s.heap,λ_=>ug con af,λ_ h=>Says con af h,λ_ _ e=>GI hb e,λ_ _ _ x k=>wm x k⟩
def oh{K:Vf}{m:List Addr}{H:Hp}:∀ns:List Int,VDs K m H (ns.map D.int) (ns.map V.int)
 |[]=>by rw[Z4,Z4,VDs]
 |a::l=>by rw[Zz,Zz,VDs];exact⟨_,_,rfl,bx,oh l⟩
def GJ{l:PySem.W.OpenLaw}{n k i:Nat}{q:Program}{loose:List Str}{XP:(Str->Option Value)->Heap->Prop}{d:DefRec}{con:List (Str × Int)}{af:List DefE}{hb:Aj af}{dl:DefE}{x:Str}
  (hn:l.most=aa n) (Q:n<=sizeLine) (O:d.params.defaults=[]) (hr:Room k callerA) (hx:d.name=dl.x) (I:af[i]?=aa dl) (h:dl.ps=[x]) (hc:af.all (C9 (qh con af))=aN) (hw:af.any yn=aN)
  (main:∀ns:List Int,ns.length<=n->∃X,evC af k i [.ref 0] [.frz (ns.map D.int)]=aa (.bl aN,X)) :
  PySem.W.WalkO q loose XP (kh con af hb).says l.row.toRowW d [] (λf vs=>PySem.call f vs):=by
 refine Att.attach_call hn O λw s₀ B mg mb fa o Z cd p a vs ns G Y ho hd J c C g b hg=>?_;obtain⟨_,K,KX,U,T⟩:=(show Says con af B.heap from Y);have T:=T mg G.T.g;obtain⟨R,Ds,xi⟩:=T.xs;obtain⟨f,fd,hm,kp,_,F⟩:=T.fn i dl I;rw[hx] at c;rw[c] at hm;cases hm
 have bd:∀ (s:Shared) (u:Value),BindsTo s fd ⟨[u],[]⟩ [(x,u)]:=λs u=>by
  obtain⟨oc,od,kV,p,Z,an,E,ct,osl,rfl,lk,J⟩:=F.ex;have z:=(hb.at (Zi I)) kV p Z an E ct [u] (by rw[h];rfl);rw[h] at z;exact .of_eq z
 refine Bn (CX:=CXE l.row.toRowW.prog w) (sp:=spX K Ds (evX af k i) dl.ps.length) KX G.T.g G.T.b G.T.builtins G.T.nolimit hg C g (ZC b Q) hr (λbase kin _=>by
  have:=yp (P:=l.row.toRowW.prog) (w:=w) (base:=base) T xi kin hc hw k i dl I fa fd c F;rw[h] at this ⊢;exact this) bd (λH hO hS=>?_) λH e s' ⟨_,_,_,_,_,_,_,_,z⟩=>z
 have L:∃o,H a=aa (.frz o (.lst (ns.map V.int))):=by
  rcases hS with (z |⟨o,z⟩) |⟨o,its,n',hk,hc,hdd,hdt,_⟩
  ·rcases hO a with y |⟨o',xs,y⟩
   ·rw[y] at z;cases z
   ·rw[y] at z;cases z
  ·exact⟨o,z⟩
  ·exact absurd hdt (U a o hk its n')
 obtain⟨o,L⟩:=L;obtain⟨X,e⟩:=main ns b;refine Da ⟨[a],[.ref 0],[.frz (ns.map D.int)],.bl aN,X,?_,⟨rfl,by simp,λj ob ej=>?_⟩,by rw[h];rfl,e,λm' H' v A vv=>vv.bls⟩
 ·rw[VDs];exact⟨_,_,rfl,by rw[VD];exact⟨a,rfl,rfl⟩,by rw[VDs]⟩
 ·cases j with
  |zero=>cases ej;exact⟨a,rfl,o,_,L,oh ns⟩
  |succ j=>simp at ej
end Ev
namespace Lw
open PySem Ev
abbrev oi:List CS:=[.ret (.and (.inst .int (.var 0)) (.not (.inst .bool (.var 0))))]
abbrev kK:List CS:=[.ret (.and (.call 0 [.var 0]) (.chn .le .le (.var 1) (.var 0) (.var 2)))]
abbrev kL:List CS:=[.ret (.call 1 [.var 0,.int 0,.con 0 9999])]
abbrev oj:List CS:=[.ret (.and (.inst .tuple (.var 0)) (.chn .le .le (.var 1) (.len (.var 0)) (.var 2)))]
abbrev jA:List CS:=[.ifs (.or (.not (.call 3 [.var 0,.int 0,.var 1])) (.not (.all (.comp ["number"] (.call 1 [.var 2,.int 0,.bin .sub (.var 1) (.int 1)]) [⟨.name 2,.val (.var 0),aD⟩])))) [.ret (.bl aT)] [],.ret (.all (.comp ["number"] (.cmp .eq (.cnt (.var 0) (.var 2)) (.int 1)) [⟨.name 2,.val (.var 0),aD⟩]))]
abbrev kM:List CS:=[.ifs (.not (.call 3 [.var 0,.int 4,.int 4])) [.ret (.bl aT)] [],.asg (.tup [.name 1,.name 2,.name 3,.name 4]) (.var 0),.ret (.and (.call 1 [.var 1,.int 0,.con 1 8]) (.and (.call 1 [.var 2,.int 0,.con 2 60]) (.and (.call 6 [.var 3]) (.call 9 [.var 4]))))]
abbrev om:List CS:=[.ifs (.not (.call 3 [.var 0,.int 1,.con 3 4])) [.ret (.bl aT)] [],.ret (.and (.all (.comp ["row"] (.call 7 [.var 1,.len (.var 0)]) [⟨.name 1,.val (.var 0),aD⟩])) (.call 8 [.var 0]))]
abbrev jB:List CS:=[.ret (.and (.call 3 [.var 0,.var 1,.var 1]) (.all (.comp ["gap"] (.call 1 [.var 2,.int 1,.con 4 99]) [⟨.name 2,.val (.var 0),aD⟩])))]
abbrev bZ:List CS:=[.asg (.name 1) (.listR (.len (.var 0))),.ret (.all (.comp ["a", "b", "c"] (.cmp .le (.ix (.ix (.var 0) (.var 2)) (.var 3)) (.bin .add (.ix (.ix (.var 0) (.var 2)) (.var 4)) (.ix (.ix (.var 0) (.var 4)) (.var 3)))) [⟨.name 2,.val (.var 1),aD⟩,⟨.name 3,.val (.var 1),aD⟩,⟨.name 4,.val (.var 1),aD⟩]))]
abbrev kN:List CS:=[.ifs (.or (.not (.call 3 [.var 0,.int 0,.con 5 4])) (.not (.all (.comp ["part"] (.call 10 [.var 1]) [⟨.name 1,.val (.var 0),aD⟩])))) [.ret (.bl aT)] [],.ret (.all (.comp ["at"] (.cmp .gt (.ix (.ix (.var 0) (.var 1)) (.int 0)) (.ix (.ix (.var 0) (.bin .sub (.var 1) (.int 1))) (.int 1))) [⟨.name 1,.r2 (.int 1) (.len (.var 0)),aD⟩]))]
abbrev jC:List CS:=[.ret (.and (.call 3 [.var 0,.int 2,.int 2]) (.and (.call 2 [.ix (.var 0) (.int 0)]) (.and (.call 2 [.ix (.var 0) (.int 1)]) (.cmp .lt (.ix (.var 0) (.int 0)) (.ix (.var 0) (.int 1))))))]
abbrev qk:List CS:=[.ret (.call 1 [.var 1,.int 0,.bin .sub (.len (.ix (.var 0) (.int 2))) (.int 1)])]
abbrev ql:List CS:=[.ret (.any (.comp ["begin", "end"] (.chn .le .lt (.var 2) (.var 1) (.var 3)) [⟨.tup [.name 2,.name 3],.val (.ix (.var 0) (.int 3)),aD⟩]))]
abbrev ui:List CS:=[.ifs (.not (.call 3 [.var 0,.int 4,.int 4])) [.ret (.bl aT)] [],.asg (.tup [.name 1,.name 2,.name 3,.name 4]) (.var 0),.ret (.and (.call 5 [.var 1]) (.and (.call 14 [.var 1,.var 2]) (.and (.call 15 [.var 1,.var 3]) (.call 17 [.var 3,.var 4]))))]
abbrev oo:List CS:=[.ifs (.cmp .is (.var 1) .non) [.ret (.bl aN)] [],.ret (.and (.call 3 [.var 1,.int 2,.int 2]) (.and (.call 11 [.var 0,.ix (.var 1) (.int 0)]) (.call 2 [.ix (.var 1) (.int 1)])))]
abbrev iu:List CS:=[.ret (.and (.call 3 [.var 1,.int 0,.con 6 7]) (.all (.comp ["part"] (.call 16 [.var 0,.var 2]) [⟨.name 2,.val (.var 1),aD⟩])))]
abbrev kO:List CS:=[.ifs (.not (.call 3 [.var 1,.int 7,.int 7])) [.ret (.bl aT)] [],.asg (.tup [.name 2,.name 3,.name 4,.name 5,.name 6,.name 7,.name 8]) (.var 1),.ifs (.not (.all (.comp ["minute"] (.call 2 [.var 9]) [⟨.name 9,.val (.tup [.var 3,.var 4,.var 5,.var 6]),aD⟩]))) [.ret (.bl aT)] [],.ifs (.not (.chn .le .le (.bin .add (.var 3) (.ix (.var 0) (.int 1))) (.var 4) (.var 5))) [.ret (.bl aT)] [],.ret (.and (.call 11 [.var 0,.var 2]) (.and (.call 1 [.var 7,.int 0,.con 7 99]) (.call 1 [.var 8,.int 0,.ix (.var 0) (.int 0)])))]
abbrev kP:List CS:=[.ifs (.not (.call 4 [.var 1,.len (.var 0)])) [.ret (.bl aT)] [],.ret (.all (.comp ["number", "glider"] (.or (.cmp .eq (.ix (.var 3) (.int 6)) (.int 0)) (.cmp .isin (.var 2) (.var 1))) [⟨.tup [.name 2,.name 3],.en (.var 0),aD⟩]))]
abbrev gz:List RS:=[.rz (.not (.call 13 [.var 0])) 1]
abbrev eG:List RS:=[.ck 18 [.var 0],.rz (.not (.call 20 [.var 0,.var 1])) 2]
abbrev kQ:List CS:=[.ret (.and (.call 21 [.var 1]) (.cmp .is (.call 23 [.var 0,.var 1]) .non))]
abbrev kR:List CS:=[.ifs (.or (.not (.inst .list (.var 0))) (.cmp .gt (.len (.var 0)) (.con 8 20))) [.ret (.bl aT)] [],.ret (.all (.comp ["part"] (.call 22 [.var 1]) [⟨.name 1,.val (.var 0),aD⟩]))]
abbrev qm:List CS:=[.ret (.and (.call 3 [.var 0,.int 2,.int 2]) (.and (.call 0 [.ix (.var 0) (.int 0)]) (.call 0 [.ix (.var 0) (.int 1)])))]
abbrev iz:List CS:=[.for_ (.name 2) (.r1 (.len (.var 1))) [.asg (.name 3) (.call 24 [.var 0,.var 1,.var 2]),.ifs (.cmp .isnot (.var 3) .non) [.ret (.tup [.var 3,.ix (.ix (.var 1) (.var 2)) (.int 0)])] []],.asg (.name 4) (.call 28 [.var 0,.var 1]),.ifs (.cmp .isnot (.var 4) .non) [.ret (.tup [.str "lacks", .var 4])] [],.asg (.name 5) (.call 32 [.var 0,.var 1]),.ifs (.cmp .isnot (.var 5) .non) [.ret (.tup [.str "rings", .var 5])] [],.asg (.name 6) (.call 33 [.var 0,.var 1]),.ifs (.cmp .isnot (.var 6) .non) [.ret (.tup [.str "ring", .var 6])] [],.ret .non]
abbrev fV:List CS:=[.asg (.tup [.name 3,.name 4,.name 5,.name 6]) (.var 0),.asg (.name 7) (.ix (.ix (.var 1) (.var 2)) (.int 0)),.ifs (.not (.chn .le .lt (.int 0) (.var 7) (.len (.var 5)))) [.ret (.str "none")] [],.ifs (.cmp .isin (.var 7) (.comp ["other", "minute"] (.var 8) [⟨.tup [.name 8,.name 9],.val (.sl (.var 1) aD (aa (.var 2))),aD⟩])) [.ret (.str "twice")] [],.ifs (.and (.cmp .lt (.var 2) (.len (.var 6))) (.cmp .ne (.var 7) (.ix (.var 6) (.var 2)))) [.ret (.str "order")] [],.ret (.call 25 [.var 0,.var 1,.var 2])]
abbrev gA:List CS:=[.asg (.tup [.name 3,.name 4,.name 5,.name 6]) (.var 0),.asg (.tup [.name 7,.name 8]) (.ix (.var 1) (.var 2)),.asg (.tup [.name 9,.name 10,.name 11,.name 12,.name 13,.name 14,.name 15]) (.ix (.var 5) (.var 7)),.ifs (.cmp .lt (.var 8) (.var 11)) [.ret (.str "soon")] [],.ifs (.cmp .gt (.var 8) (.var 12)) [.ret (.str "late")] [],.ifs (.call 12 [.var 3,.var 8]) [.ret (.str "shut")] [],.ifs (.cmp .lt (.var 8) (.call 27 [.var 0,.call 26 [.var 0,.sl (.var 1) aD (aa (.var 2))],.var 9])) [.ret (.str "gap")] [],.ret .non]
abbrev fW:List CS:=[.ifs (.not (.var 1)) [.ret (.ix (.var 0) (.int 1))] [],.asg (.tup [.name 2,.name 3]) (.ix (.var 1) (.neg (.int 1))),.ret (.tup [.ix (.ix (.ix (.var 0) (.int 2)) (.var 2)) (.int 0),.var 3])]
abbrev qo:List CS:=[.ifs (.cmp .is (.var 1) .non) [.ret (.int 0)] [],.ret (.bin .add (.ix (.var 1) (.int 1)) (.ix (.ix (.ix (.ix (.var 0) (.int 0)) (.int 2)) (.ix (.var 1) (.int 0))) (.var 2)))]
abbrev fX:List CS:=[.asg (.name 2) (.comp ["glider", "minute"] (.var 4) [⟨.tup [.name 4,.name 5],.val (.var 1),aD⟩]),.for_ (.name 3) (.r1 (.len (.ix (.var 0) (.int 2)))) [.ifs (.cmp .notin (.var 3) (.var 2)) [.ret (.var 3)] []],.ret .non]
abbrev oq:List CS:=[.asg (.tup [.name 3,.name 4]) (.var 1),.ret (.chn .le .lt (.ix (.ix (.ix (.var 0) (.int 2)) (.var 3)) (.int 1)) (.var 2) (.bin .sub (.var 4) (.ix (.ix (.var 0) (.int 0)) (.int 1))))]
abbrev fY:List CS:=[.ret (.len (.comp ["landing"] (.var 3) [⟨.name 3,.val (.var 1),aa (.call 29 [.var 0,.var 3,.var 2])⟩]))]
abbrev ef:List CS:=[.ret (.srt (.comp ["glider"] (.ix (.var 1) (.int 1)) [⟨.name 1,.val (.ix (.var 0) (.int 2)),aD⟩]))]
abbrev fZ:List CS:=[.for_ (.name 2) (.val (.call 31 [.var 0])) [.ifs (.cmp .gt (.call 30 [.var 0,.var 1,.var 2]) (.ix (.ix (.var 0) (.int 0)) (.int 0))) [.ret (.var 2)] []],.ret .non]
abbrev fh:List CS:=[.for_ (.tup [.name 2,.name 3]) (.en (.var 1)) [.ifs (.call 34 [.var 0,.var 1,.var 2]) [.ret (.ix (.var 3) (.int 0))] []],.ret .non]
abbrev iA:List CS:=[.asg (.tup [.name 3,.name 4,.name 5,.name 6,.name 7,.name 8,.name 9]) (.ix (.ix (.var 0) (.int 2)) (.ix (.ix (.var 1) (.var 2)) (.int 0))),.ret (.and (.cmp .gt (.var 9) (.int 0)) (.and (.call 29 [.var 0,.ix (.var 1) (.var 2),.var 4]) (.cmp .gt (.call 35 [.var 0,.var 1,.var 2,.var 4]) (.var 9))))]
abbrev iB:List CS:=[.asg (.name 4) (.sl (.var 1) aD (aa (.var 2))),.asg (.name 5) (.comp ["when"] (.var 6) [⟨.name 6,.val (.call 31 [.var 0]),aa (.and (.cmp .gt (.var 6) (.var 3)) (.call 29 [.var 0,.ix (.var 1) (.var 2),.var 6]))⟩]),.ret (.mxL (.comp ["when"] (.bin .add (.int 1) (.call 30 [.var 0,.var 4,.var 6])) [⟨.name 6,.val (.bin .add (.lst [.var 3]) (.var 5)),aD⟩]))]
abbrev wn:List RS:=[.ck 19 [.var 0,.var 1],.pl (.dcs 2 ["place", "landing"] (.ix (.var 4) (.int 0)) (.var 3) (.tup [.name 3,.name 4]) (.en (.var 1))),.pl (.ret (.comp ["number"] (.call 39 [.var 0,.var 1,.ix (.var 2) (.var 3)]) [⟨.name 3,.r1 (.len (.ix (.var 0) (.int 2))),aD⟩]))]
abbrev ki:List RS:=[.ck 19 [.var 0,.var 1],.pl (.ret (.comp ["number", "ring"] (.var 3) [⟨.tup [.name 3,.name 4],.val (.call 38 [.var 0,.var 1,.var 2]),aD⟩]))]
abbrev ou:List CS:=[.asg (.name 3) (.comp ["place", "landing"] (.var 4) [⟨.tup [.name 4,.name 5],.en (.var 1),aa (.call 29 [.var 0,.var 5,.var 2])⟩]),.ret (.comp ["place"] (.tup [.ix (.ix (.var 1) (.var 4)) (.int 0),.call 35 [.var 0,.var 1,.var 4,.var 2]]) [⟨.name 4,.val (.var 3),aD⟩])]
abbrev jD:List CS:=[.asg (.name 3) (.lst []),.for_ (.name 4) (.val (.call 40 [.var 0,.var 1,.var 2])) [.asg (.name 5) (.call 35 [.var 0,.var 1,.var 2,.var 4]),.ifs (.or (.not (.var 3)) (.cmp .lt (.var 5) (.ix (.ix (.var 3) (.neg (.int 1))) (.int 1)))) [.ex (.app (.var 3) (.tup [.var 4,.var 5]))] []],.ret (.var 3)]
abbrev dD:List CS:=[.asg (.name 3) (.ix (.ix (.ix (.var 0) (.int 2)) (.ix (.ix (.var 1) (.var 2)) (.int 0))) (.int 1)),.asg (.name 4) (.comp ["number", "minute"] (.bin .sub (.var 6) (.ix (.ix (.var 0) (.int 0)) (.int 1))) [⟨.tup [.name 5,.name 6],.val (.sl (.var 1) aD (aa (.var 2))),aD⟩]),.ret (.comp ["minute"] (.var 5) [⟨.name 5,.val (.bin .add (.lst [.var 3]) (.var 4)),aa (.call 29 [.var 0,.ix (.var 1) (.var 2),.var 5])⟩])]
abbrev iC:List CS:=[.ifs (.cmp .lt (.var 1) (.len (.var 0))) [.ret (.ix (.var 0) (.var 1))] [],.ret (.int 0)]
abbrev qp:List CS:=[.ifs (.cmp .ge (.var 0) (.bin .pow (.int 10) (.int 18))) [.ret (.lst [.bin .sub (.var 0) (.bin .pow (.int 10) (.int 18))])] [],.asg (.name 1) (.int 0),.for_ (.name 2) (.r1 (.int 64)) [.asg (.name 3) (.bin .mod (.bin .mul (.bin .add (.bin .add (.bin .mod (.var 0) (.int 2147483629)) (.bin .mul (.int 7919) (.var 2))) (.int 1)) (.int 48271)) (.int 2147483647)),.asg (.name 3) (.bin .mod (.bin .add (.bin .add (.bin .mul (.var 3) (.var 3)) (.bin .mul (.int 69621) (.var 2))) (.int 7)) (.int 2147483587)),.asg (.name 1) (.bin .add (.bin .mul (.var 1) (.int 2147483587)) (.var 3))],.ret (.lst [.var 1])]
abbrev ow:List CS:=[.asg (.name 2) (.bin .mod (.ix (.var 0) (.int 0)) (.var 1)),.setI (.bin .fdiv (.ix (.var 0) (.int 0)) (.var 1)) (.var 0) (.int 0),.ret (.var 2)]
abbrev kS:List CS:=[.ret (.and (.inst .int (.var 0)) (.not (.inst .bool (.var 0))))]
abbrev dE:List CS:=[.asg (.name 1) (.bin .add (.int 1) (.call 43 [.var 0,.int 4])),.asg (.name 2) (.comp ["_law_a"] (.comp ["_law_b"] (.bin .add (.int 1) (.call 43 [.var 0,.int 9])) [⟨.name 5,.r1 (.var 1),aD⟩]) [⟨.name 4,.r1 (.var 1),aD⟩]),.ifs (.cmp .eq (.call 43 [.var 0,.int 8]) (.int 0)) [.asg (.name 2) (.comp ["_law_row"] (.comp ["_law_gap"] (.bin .sub (.int 99) (.call 43 [.var 0,.int 3])) [⟨.name 5,.val (.var 4),aD⟩]) [⟨.name 4,.val (.var 2),aD⟩])] [],.for_ (.name 3) (.r1 (.var 1)) [.asg (.name 2) (.comp ["_law_row"] (.comp ["_law_b", "_law_gap"] (.mn (.var 6) (.bin .add (.ix (.var 4) (.var 3)) (.ix (.ix (.var 2) (.var 3)) (.var 5)))) [⟨.tup [.name 5,.name 6],.en (.var 4),aD⟩]) [⟨.name 4,.val (.var 2),aD⟩])],.ret (.tupOf (.comp ["_law_row"] (.tupOf (.var 4)) [⟨.name 4,.val (.var 2),aD⟩]))]
abbrev kT:List CS:=[.asg (.tup [.name 2,.name 3]) (.tup [.lst [],.var 1]),.for_ (.name 4) (.r1 (.ix (.lst [.int 0,.int 1,.int 2,.int 3,.int 4]) (.call 43 [.var 0,.int 5]))) [.asg (.name 3) (.bin .add (.bin .add (.var 3) (.int 1)) (.call 43 [.var 0,.int 14])),.ex (.app (.var 2) (.tup [.var 3,.bin .add (.bin .add (.var 3) (.int 1)) (.call 43 [.var 0,.int 6])])),.asg (.name 3) (.ix (.ix (.var 2) (.neg (.int 1))) (.int 1))],.ret (.tupOf (.var 2))]
abbrev jE:List CS:=[.asg (.name 1) (.ix (.lst [.int 2,.int 1,.int 3,.int 8,.int 0]) (.call 43 [.var 0,.int 5])),.ret (.tup [.var 1,.ix (.lst [.int 2,.int 0,.int 1,.int 5,.int 60]) (.call 43 [.var 0,.int 5]),.call 45 [.var 0],.call 46 [.var 0,.int 0]])]
abbrev jF:List CS:=[.asg (.name 2) (.call 43 [.var 0,.int 40]),.asg (.name 3) (.bin .add (.bin .add (.var 2) (.ix (.var 1) (.int 1))) (.ix (.lst [.int 0,.int 0,.call 43 [.var 0,.int 9]]) (.call 43 [.var 0,.int 3]))),.asg (.name 4) (.bin .add (.var 3) (.ix (.lst [.call 43 [.var 0,.int 5],.bin .add (.int 5) (.call 43 [.var 0,.int 20]),.int 60,.int 200]) (.call 43 [.var 0,.int 4]))),.asg (.name 5) (.ix (.lst [.var 3,.bin .add (.var 2) (.call 43 [.var 0,.int 30]),.call 43 [.var 0,.int 90]]) (.call 43 [.var 0,.int 3])),.ret (.tup [.call 43 [.var 0,.len (.ix (.var 1) (.int 2))],.var 2,.var 3,.var 4,.var 5,.call 43 [.var 0,.int 10],.int 0])]
abbrev kU:List CS:=[.asg (.name 2) (.listOf (.var 1)),.ret (.comp ["_law_one"] (.popAt (.var 2) (.call 43 [.var 0,.len (.var 2)])) [⟨.name 3,.val (.var 1),aD⟩])]
abbrev kj:List CS:=[.asg (.name 2) (.call 47 [.var 0]),.asg (.name 3) (.comp ["_law_g"] (.call 48 [.var 0,.var 2]) [⟨.name 8,.r1 (.call 43 [.var 0,.bin .add (.var 1) (.int 1)]),aD⟩]),.asg (.name 4) (.listR (.len (.var 3))),.ifs (.cmp .eq (.call 43 [.var 0,.int 2]) (.int 0)) [.asg (.name 4) (.comp ["_law_pair"] (.ix (.var 8) (.int 1)) [⟨.name 8,.val (.srt (.comp ["_law_g", "_law_glider_here"] (.tup [.ix (.var 9) (.int 2),.var 8]) [⟨.tup [.name 8,.name 9],.en (.var 3),aD⟩])),aD⟩])] [.asg (.name 4) (.call 49 [.var 0,.var 4])],.asg (.name 5) (.sl (.var 4) aD (aa (.ix (.lst [.int 0,.int 1,.int 2,.int 3]) (.call 43 [.var 0,.int 4])))),.for_ (.name 6) (.val (.var 5)) [.ifs (.and (.cmp .eq (.call 43 [.var 0,.int 2]) (.int 0)) (.cmp .gt (.ix (.var 2) (.int 0)) (.int 0))) [.setI (.bin .add (.sl (.ix (.var 3) (.var 6)) aD (aa (.int 6))) (.tup [.bin .add (.int 1) (.call 43 [.var 0,.ix (.var 2) (.int 0)])])) (.var 3) (.var 6)] []],.asg (.name 7) .non,.ifs (.cmp .eq (.call 43 [.var 0,.int 2]) (.int 0)) [.asg (.name 7) (.tup [.call 43 [.var 0,.len (.ix (.var 2) (.int 2))],.call 43 [.var 0,.int 20]])] [],.ret (.tup [.var 2,.var 7,.tupOf (.var 3),.tupOf (.var 5)])]
abbrev kW:List CS:=[.ret (.bin .add (.ix (.var 1) (.int 3)) (.tupOf (.call 49 [.var 0,.comp ["_law_g"] (.var 2) [⟨.name 2,.r1 (.len (.ix (.var 1) (.int 2))),aa (.cmp .notin (.var 2) (.ix (.var 1) (.int 3)))⟩]])))]
abbrev oz:List CS:=[.asg (.name 2) (.var 1),.for_ (.name 3) (.r1 (.bin .add (.len (.var 0)) (.int 1))) [.for_ (.tup [.name 4,.name 5]) (.val (.var 0)) [.ifs (.chn .le .lt (.var 4) (.var 2) (.var 5)) [.asg (.name 2) (.var 5)] []]],.ret (.var 2)]
abbrev qq:List CS:=[.asg (.tup [.name 2,.name 3]) (.tup [.lst [],.ix (.var 0) (.int 1)]),.for_ (.name 4) (.val (.var 1)) [.asg (.name 5) (.ix (.ix (.ix (.var 0) (.int 2)) (.var 4)) (.int 2)),.ifs (.cmp .isnot (.var 3) .non) [.asg (.name 5) (.mx (.var 5) (.bin .add (.ix (.var 3) (.int 1)) (.ix (.ix (.ix (.ix (.var 0) (.int 0)) (.int 2)) (.ix (.var 3) (.int 0))) (.ix (.ix (.ix (.var 0) (.int 2)) (.var 4)) (.int 0)))))] [],.asg (.name 5) (.call 52 [.ix (.ix (.var 0) (.int 0)) (.int 3),.var 5]),.ex (.app (.var 2) (.tup [.var 4,.var 5])),.asg (.name 3) (.tup [.ix (.ix (.ix (.var 0) (.int 2)) (.var 4)) (.int 0),.var 5])],.ret (.var 2)]
abbrev kY:List CS:=[.ret (.chn .le .lt (.ix (.ix (.ix (.var 0) (.int 2)) (.ix (.var 1) (.int 0))) (.int 1)) (.var 2) (.bin .sub (.ix (.var 1) (.int 1)) (.ix (.ix (.var 0) (.int 0)) (.int 1))))]
abbrev oB:List CS:=[.asg (.name 4) (.int 0),.for_ (.name 5) (.r2 (.var 3) (.bin .sub (.ix (.ix (.var 1) (.var 2)) (.int 1)) (.ix (.ix (.var 0) (.int 0)) (.int 1)))) [.asg (.name 4) (.mx (.var 4) (.bin .add (.int 1) (.len (.comp ["_law_one"] (.var 6) [⟨.name 6,.val (.sl (.var 1) aD (aa (.var 2))),aa (.call 54 [.var 0,.var 6,.var 5])⟩]))))],.ret (.var 4)]
abbrev bq:List CS:=[.asg (.tup [.name 3,.name 4]) (.ix (.var 1) (.var 2)),.ifs (.not (.chn .le .lt (.int 0) (.var 3) (.len (.ix (.var 0) (.int 2))))) [.ret (.tup [.str "none", .var 3])] [],.ifs (.cmp .isin (.var 3) (.comp ["_law_one"] (.ix (.var 6) (.int 0)) [⟨.name 6,.val (.sl (.var 1) aD (aa (.var 2))),aD⟩])) [.ret (.tup [.str "twice", .var 3])] [],.ifs (.and (.cmp .lt (.var 2) (.len (.ix (.var 0) (.int 3)))) (.cmp .ne (.ix (.ix (.var 0) (.int 3)) (.var 2)) (.var 3))) [.ret (.tup [.str "order", .var 3])] [],.ifs (.cmp .lt (.var 4) (.ix (.ix (.ix (.var 0) (.int 2)) (.var 3)) (.int 2))) [.ret (.tup [.str "soon", .var 3])] [],.ifs (.cmp .gt (.var 4) (.ix (.ix (.ix (.var 0) (.int 2)) (.var 3)) (.int 3))) [.ret (.tup [.str "late", .var 3])] [],.ifs (.cmp .ne (.comp ["_law_begin", "_law_end"] (.var 6) [⟨.tup [.name 6,.name 7],.val (.ix (.ix (.var 0) (.int 0)) (.int 3)),aa (.chn .le .lt (.var 6) (.var 4) (.var 7))⟩]) (.lst [])) [.ret (.tup [.str "shut", .var 3])] [],.asg (.name 5) (.ix (.var 0) (.int 1)),.ifs (.cmp .gt (.var 2) (.int 0)) [.asg (.name 5) (.tup [.ix (.ix (.ix (.var 0) (.int 2)) (.ix (.ix (.var 1) (.bin .sub (.var 2) (.int 1))) (.int 0))) (.int 0),.ix (.ix (.var 1) (.bin .sub (.var 2) (.int 1))) (.int 1)])] [],.ifs (.and (.cmp .isnot (.var 5) .non) (.cmp .lt (.var 4) (.bin .add (.ix (.var 5) (.int 1)) (.ix (.ix (.ix (.ix (.var 0) (.int 0)) (.int 2)) (.ix (.var 5) (.int 0))) (.ix (.ix (.ix (.var 0) (.int 2)) (.var 3)) (.int 0)))))) [.ret (.tup [.str "gap", .var 3])] [],.ret .non]
abbrev kZ:List CS:=[.for_ (.name 2) (.r1 (.len (.var 1))) [.asg (.name 3) (.call 56 [.var 0,.var 1,.var 2]),.ifs (.cmp .isnot (.var 3) .non) [.ret (.var 3)] []],.asg (.name 4) (.comp ["_law_one"] (.ix (.var 9) (.int 0)) [⟨.name 9,.val (.var 1),aD⟩]),.asg (.name 5) (.comp ["_law_g"] (.var 9) [⟨.name 9,.r1 (.len (.ix (.var 0) (.int 2))),aa (.cmp .notin (.var 9) (.var 4))⟩]),.ifs (.cmp .ne (.var 5) (.lst [])) [.ret (.tup [.str "lacks", .ix (.var 5) (.int 0)])] [],.for_ (.name 6) (.r1 (.mxL (.bin .add (.lst [.int 0]) (.comp ["_law_glider_here"] (.bin .add (.ix (.var 9) (.int 1)) (.int 1)) [⟨.name 9,.val (.ix (.var 0) (.int 2)),aD⟩])))) [.ifs (.cmp .gt (.len (.comp ["_law_one"] (.var 9) [⟨.name 9,.val (.var 1),aa (.call 54 [.var 0,.var 9,.var 6])⟩])) (.ix (.ix (.var 0) (.int 0)) (.int 0))) [.ret (.tup [.str "rings", .var 6])] []],.for_ (.tup [.name 2,.name 7]) (.en (.var 1)) [.asg (.name 8) (.ix (.ix (.var 0) (.int 2)) (.ix (.var 7) (.int 0))),.ifs (.and (.cmp .gt (.ix (.var 8) (.int 6)) (.int 0)) (.cmp .gt (.call 55 [.var 0,.var 1,.var 2,.ix (.var 8) (.int 1)]) (.ix (.var 8) (.int 6)))) [.ret (.tup [.str "ring", .ix (.var 7) (.int 0)])] []],.ret .non]
abbrev eI:List CS:=[.asg (.name 2) .non,.for_ (.name 3) (.r1 (.int 8)) [.asg (.name 4) (.call 53 [.var 1,.call 51 [.var 0,.var 1]]),.ifs (.and (.cmp .is (.var 2) .non) (.cmp .is (.call 57 [.var 1,.var 4]) .non)) [.asg (.name 2) (.var 4)] []],.ifs (.cmp .is (.var 2) .non) [.ret .non] [],.asg (.name 5) (.comp ["_law_one"] (.ix (.var 10) (.int 0)) [⟨.name 10,.val (.var 2),aD⟩]),.asg (.tup [.name 6,.name 7]) (.tup [.call 43 [.var 0,.bin .add (.len (.var 5)) (.int 1)],.call 43 [.var 0,.int 7]]),.asg (.name 8) (.comp ["_law_g", "_law_glider_here"] (.bin .add (.bin .add (.sl (.var 11) aD (aa (.int 2))) (.tup [.bin .add (.ix (.var 11) (.int 2)) (.bin .mul (.var 7) (.intOf (.cmp .isin (.var 10) (.sl (.var 5) (aa (.var 6)) aD))))])) (.sl (.var 11) (aa (.int 3)) aD)) [⟨.tup [.name 10,.name 11],.en (.ix (.var 1) (.int 2)),aD⟩]),.asg (.name 9) (.call 53 [.tup [.ix (.var 1) (.int 0),.ix (.var 1) (.int 1),.var 8,.ix (.var 1) (.int 3)],.var 5]),.ifs (.cmp .is (.call 57 [.var 1,.var 9]) .non) [.ret (.var 9)] [],.ret (.var 2)]
abbrev jG:List CS:=[.asg (.name 3) (.listOf (.var 1)),.asg (.name 4) (.call 43 [.var 0,.int 8]),.ifs (.or (.cmp .eq (.var 3) (.lst [])) (.cmp .eq (.var 4) (.int 0))) [.ex (.ins (.var 3) (.call 43 [.var 0,.bin .add (.len (.var 3)) (.int 1)]) (.tup [.bin .sub (.call 43 [.var 0,.bin .add (.len (.ix (.var 2) (.int 2))) (.int 2)]) (.int 1),.call 43 [.var 0,.int 120]])),.ret (.var 3)] [],.asg (.tup [.name 5,.name 6]) (.tup [.call 43 [.var 0,.len (.var 3)],.call 43 [.var 0,.len (.var 3)]]),.asg (.tup [.name 7,.name 8]) (.ix (.var 3) (.var 5)),.ifs (.cmp .eq (.var 4) (.int 1)) [.ex (.popAt (.var 3) (.var 5))] [.ifs (.cmp .eq (.var 4) (.int 2)) [.swp (.tup [.ix (.var 3) (.var 6),.ix (.var 3) (.var 5)]) (.var 3) (.var 5) (.var 3) (.var 6)] [.ifs (.cmp .eq (.var 4) (.int 3)) [.setI (.tup [.ix (.ix (.var 3) (.var 6)) (.int 0),.var 8]) (.var 3) (.var 5)] [.ifs (.cmp .eq (.var 4) (.int 4)) [.setI (.tup [.ix (.lst [.neg (.int 1),.len (.ix (.var 2) (.int 2)),.bin .pow (.int 10) (.int 20)]) (.call 43 [.var 0,.int 3]),.var 8]) (.var 3) (.var 5)] [.ifs (.cmp .eq (.var 4) (.int 5)) [.setI (.tup [.var 7,.bin .add (.var 8) (.ix (.lst [.neg (.int 1),.int 1,.bin .pow (.int 10) (.int 20),.neg (.bin .pow (.int 10) (.int 20))]) (.call 43 [.var 0,.int 4]))]) (.var 3) (.var 5)] [.asg (.name 3) (.bin .add (.sl (.var 3) aD (aa (.var 5))) (.comp ["_law_h", "_law_when"] (.tup [.var 9,.bin .add (.var 10) (.int 1)]) [⟨.tup [.name 9,.name 10],.val (.sl (.var 3) (aa (.var 5)) aD),aD⟩]))]]]]],.ret (.var 3)]
abbrev qr:List CS:=[.asg (.name 1) (.lst [.non,.bl aN,.bl aT,.neg (.int 1),.bin .pow (.int 10) (.int 30),.str "", .str "a", .str "1", .tup [],.lst [],.dic0,.lst [.tup []],.tup [.tup []],.tup [.int 0],.lst [.int 0],.dic1 0 1,.tup [.bl aN,.bl aN]]),.ret (.ix (.var 1) (.call 43 [.var 0,.len (.var 1)]))]
abbrev wo:List CS:=[.never,.never,.never,.never,.never,.asg (.name 2) (.lst [.str "meadow", .str "sky", .str "landings", .str "order", .str "lot", .str "text", .str "name", .str "glider", .str "minute", .str "aim", .str "many", .str "bound"]),.never]
abbrev iE:List CS:=[.ifs (.not (.inst .list (.var 0))) [.ret (.bl aT)] [],.for_ (.name 1) (.val (.var 0)) [.ifs (.or (.not (.inst .tuple (.var 1))) (.or (.cmp .ne (.len (.var 1)) (.int 2)) (.or (.not (.call 44 [.ix (.var 1) (.int 0)])) (.not (.call 44 [.ix (.var 1) (.int 1)]))))) [.ret (.bl aT)] []],.ret (.bl aN)]
abbrev iG:List CS:=[.asg (.name 2) (.comp ["_law_glider_here"] (.lst []) [⟨.name 8,.val (.ix (.var 0) (.int 2)),aD⟩]),.for_ (.tup [.name 3,.name 4]) (.en (.var 1)) [.asg (.tup [.name 5,.name 6]) (.tup [.lst [],.int 0]),.for_ (.name 7) (.val (.rev (.listR2 (.ix (.ix (.ix (.var 0) (.int 2)) (.ix (.var 4) (.int 0))) (.int 1)) (.bin .sub (.ix (.var 4) (.int 1)) (.ix (.ix (.var 0) (.int 0)) (.int 1)))))) [.asg (.name 6) (.mx (.var 6) (.bin .add (.int 1) (.len (.comp ["_law_other"] (.var 8) [⟨.name 8,.val (.sl (.var 1) aD (aa (.var 3))),aa (.call 54 [.var 0,.var 8,.var 7])⟩])))),.ex (.app (.var 5) (.tup [.var 7,.var 6]))],.for_ (.tup [.name 7,.name 6]) (.val (.rev (.var 5))) [.ifs (.or (.cmp .eq (.ix (.var 2) (.ix (.var 4) (.int 0))) (.lst [])) (.cmp .ne (.ix (.ix (.ix (.var 2) (.ix (.var 4) (.int 0))) (.neg (.int 1))) (.int 1)) (.var 6))) [.ex (.app (.ix (.var 2) (.ix (.var 4) (.int 0))) (.tup [.var 7,.var 6]))] []]],.ret (.var 2)]
abbrev iU:List RS:=[.tr (.cmp .is (.var 2) .non) 36 [.var 0,.var 1] 37 [.var 0,.var 1,.var 2]]
abbrev lb:List CS:=[.asg (.tup [.name 3,.name 4]) (.tup [.rep (.call 63 [.var 1,.var 2]),.rep (.tup [.var 1,.var 2])]),.for_ (.name 5) (.r1 (.int 2)) [.asg (.name 6) (.call 36 [.var 1,.var 2]),.ifs (.cmp .ne (.rep (.var 6)) (.var 3)) [.ret (.bl aT)] [],.for_ (.name 7) (.val (.var 6)) [.ex (.app (.var 7) (.tup [.int 9,.int 9]))],.ex (.app (.var 6) (.lst []))],.asg (.name 8) (.bin .add (.lst [.neg (.int 1),.int 0,.bin .pow (.int 10) (.int 20),.neg (.bin .pow (.int 10) (.int 20))]) (.comp ["_law_turn"] (.call 43 [.var 0,.int 120]) [⟨.name 12,.r1 (.int 6),aD⟩])),.for_ (.tup [.name 9,.name 10]) (.val (.var 2)) [.asg (.name 8) (.bin .add (.var 8) (.lst [.ix (.ix (.ix (.var 1) (.int 2)) (.var 9)) (.int 1),.bin .sub (.bin .sub (.var 10) (.ix (.ix (.var 1) (.int 0)) (.int 1))) (.int 1),.bin .sub (.var 10) (.ix (.ix (.var 1) (.int 0)) (.int 1))]))],.for_ (.name 10) (.val (.var 8)) [.asg (.name 11) (.comp ["_law_one"] (.ix (.var 12) (.int 0)) [⟨.name 12,.val (.var 2),aa (.call 54 [.var 1,.var 12,.var 10])⟩]),.for_ (.name 5) (.r1 (.int 2)) [.asg (.name 6) (.call 37 [.var 1,.var 2,.var 10]),.ifs (.cmp .ne (.rep (.var 6)) (.rep (.var 11))) [.ret (.bl aT)] [],.ex (.app (.var 6) (.int 7))]],.ret (.cmp .eq (.rep (.tup [.var 1,.var 2])) (.var 4))]
abbrev oC:List CS:=[.for_ (.name 1) (.r1 (.mx (.int 1) (.mn (.len (.var 0)) (.int 10)))) [.asg (.name 2) (.call 42 [.call 41 [.var 0,.var 1]]),.asg (.name 3) (.call 50 [.var 2,.int 7]),.asg (.name 4) (.call 58 [.var 2,.var 3]),.asg (.name 5) (.lst [.call 53 [.var 3,.call 51 [.var 2,.var 3]],.lst [],.call 60 [.var 2]]),.ifs (.cmp .isnot (.var 4) .non) [.ifs (.not (.call 65 [.var 2,.var 3,.var 4])) [.ret (.bl aT)] [],.asg (.name 5) (.bin .add (.var 5) (.lst [.call 59 [.var 2,.var 4,.var 3],.tupOf (.var 4)]))] [],.for_ (.name 6) (.val (.var 5)) [.ifs (.or (.not (.call 62 [.var 6])) (.cmp .isnot (.call 57 [.var 3,.var 6]) .non)) [.ifs (.or (.cmp .ne (.call 64 [.var 3,.var 6,.non]) (.str "landings")) (.cmp .ne (.call 64 [.var 3,.var 6,.int 3]) (.str "landings"))) [.ret (.bl aT)] []] []]],.ret (.bl aN)]
abbrev iV:DefE:=⟨"is_whole", top 19,["thing"],1,oi,aD⟩
abbrev gB:DefE:=⟨"is_within", top 20,["thing", "least", "most"],3,kK,aD⟩
abbrev gC:DefE:=⟨"is_minute", top 21,["thing"],1,kL,aD⟩
abbrev iW:DefE:=⟨"is_tuple", top 22,["thing", "least", "most"],3,oj,aD⟩
abbrev fI:DefE:=⟨"are_unlike", top 23,["thing", "many"],2,jA,aD⟩
abbrev gD:DefE:=⟨"is_meadow", top 30,["thing", "rings", "sink", "gaps", "shuts"],1,kM,aD⟩
abbrev iX:DefE:=⟨"are_gaps", top 31,["thing"],1,om,aD⟩
abbrev fJ:DefE:=⟨"is_gap_row", top 32,["thing", "many"],2,jB,aD⟩
abbrev bj:DefE:=⟨"no_glider_between_helps", top 33,["gaps", "kinds"],1,bZ,aD⟩
abbrev gF:DefE:=⟨"are_shuts", top 34,["thing"],1,kN,aD⟩
abbrev fK:DefE:=⟨"is_stretch", top 35,["thing"],1,jC,aD⟩
abbrev kl:DefE:=⟨"is_kind", top 36,["meadow", "thing"],2,qk,aD⟩
abbrev km:DefE:=⟨"is_shut", top 37,["meadow", "minute"],2,ql,aD⟩
abbrev oD:DefE:=⟨"is_sky", top 41,["thing", "meadow", "ahead", "gliders", "fixed"],1,ui,aD⟩
abbrev iY:DefE:=⟨"is_ahead", top 42,["meadow", "thing"],2,oo,aD⟩
abbrev eJ:DefE:=⟨"are_gliders", top 43,["meadow", "thing"],2,iu,aD⟩
abbrev gG:DefE:=⟨"is_glider", top 44,["meadow", "thing", "kind", "joins", "first", "last", "due", "weight", "ring"],2,kO,aD⟩
abbrev gH:DefE:=⟨"are_fixed", top 45,["gliders", "thing"],2,kP,aD⟩
abbrev lc:DefE:=⟨"check_sky", top 46,["thing"],1,[],aa gz⟩
abbrev iH:DefE:=⟨"check_keeps", top 49,["sky", "thing"],2,[],aa eG⟩
abbrev gI:DefE:=⟨"keeps_sky", top 50,["sky", "thing"],2,kQ,aD⟩
abbrev gJ:DefE:=⟨"are_pairs", top 51,["thing"],1,kR,aD⟩
abbrev ko:DefE:=⟨"is_pair", top 52,["thing"],1,qm,aD⟩
abbrev eK:DefE:=⟨"first_amiss", top 53,["sky", "landings", "place", "word", "lacking", "crowded", "high"],2,iz,aD⟩
abbrev cR:DefE:=⟨"landing_amiss", top 54,["sky", "landings", "place", "meadow", "ahead", "gliders", "fixed", "glider"],3,fV,aD⟩
abbrev dF:DefE:=⟨"minute_amiss", top 55,["sky", "landings", "place", "meadow", "ahead", "gliders", "fixed", "number", "minute", "kind", "joins", "first", "last", "due", "weight", "ring"],3,gA,aD⟩
abbrev cS:DefE:=⟨"landing_ahead", top 56,["sky", "sooner", "number", "minute"],2,fW,aD⟩
abbrev kq:DefE:=⟨"gap_end", top 57,["sky", "ahead", "kind"],3,qo,aD⟩
abbrev cT:DefE:=⟨"first_lacking", top 58,["sky", "landings", "landed", "number"],2,fX,aD⟩
abbrev iZ:DefE:=⟨"waits_at", top 59,["sky", "landing", "minute", "number", "lands"],3,oq,aD⟩
abbrev cU:DefE:=⟨"how_many_wait", top 60,["sky", "landings", "minute"],3,fY,aD⟩
abbrev cp:DefE:=⟨"joining_minutes", top 61,["sky"],1,ef,aD⟩
abbrev cV:DefE:=⟨"first_crowded", top 62,["sky", "landings", "minute"],2,fZ,aD⟩
abbrev cB:DefE:=⟨"first_too_high", top 63,["sky", "landings", "place", "landing"],2,fh,aD⟩
abbrev eM:DefE:=⟨"is_too_high", top 64,["sky", "landings", "place", "kind", "joins", "first", "last", "due", "weight", "ring"],3,iA,aD⟩
abbrev eN:DefE:=⟨"ring_needed", top 65,["sky", "landings", "place", "minute", "sooner", "later"],4,iB,aD⟩
abbrev De:DefE:=⟨"held", top 67,["sky", "landings", "places"],2,[],aa wn⟩
abbrev qt:DefE:=⟨"waiting", top 68,["sky", "landings", "minute"],3,[],aa ki⟩
abbrev i5:DefE:=⟨"rings_at", top 69,["sky", "landings", "minute", "there"],3,ou,aD⟩
abbrev fL:DefE:=⟨"steps_down", top 70,["sky", "landings", "place", "steps", "minute", "ring"],3,jD,aD⟩
abbrev cb:DefE:=⟨"minutes_of_steps", top 71,["sky", "landings", "place", "joins", "leavings"],3,dD,aD⟩
abbrev eO:DefE:=⟨"_law_cell_at", top 73,["_law_script", "_law_k"],2,iC,aD⟩
abbrev kr:DefE:=⟨"_law_pot", top 74,["_law_cell", "_law_number", "_law_j", "_law_more"],1,qp,aD⟩
abbrev i6:DefE:=⟨"_law_take", top 75,["_law_pot_here", "_law_far", "_law_found"],2,ow,aD⟩
abbrev gK:DefE:=⟨"_law_whole", top 76,["_law_thing"],1,kS,aD⟩
abbrev i7:DefE:=⟨"_law_gaps", top 77,["_law_pot_here", "_law_many", "_law_rows", "_law_c"],1,dE,aD⟩
abbrev gL:DefE:=⟨"_law_shuts", top 78,["_law_pot_here", "_law_now", "_law_found", "_law_begin", "_law_turn"],2,kT,aD⟩
abbrev fM:DefE:=⟨"_law_meadow", top 79,["_law_pot_here", "_law_rings"],1,jE,aD⟩
abbrev fN:DefE:=⟨"_law_glider", top 80,["_law_pot_here", "_law_meadow_here", "_law_joins", "_law_first", "_law_last", "_law_due"],2,jF,aD⟩
abbrev gM:DefE:=⟨"_law_mixed", top 81,["_law_pot_here", "_law_some", "_law_left"],2,kU,aD⟩
abbrev ku:DefE:=⟨"_law_sky", top 82,["_law_pot_here", "_law_most", "_law_meadow_here", "_law_gliders", "_law_numbers", "_law_fixed", "_law_g", "_law_ahead"],2,kj,aD⟩
abbrev gN:DefE:=⟨"_law_order", top 83,["_law_pot_here", "_law_sky_here"],2,kW,aD⟩
abbrev i8:DefE:=⟨"_law_open", top 84,["_law_shuts_here", "_law_minute", "_law_found", "_law_turn", "_law_begin", "_law_end"],2,oz,aD⟩
abbrev kw:DefE:=⟨"_law_run", top 85,["_law_sky_here", "_law_order_here", "_law_found", "_law_ahead", "_law_g", "_law_minute"],2,qq,aD⟩
abbrev gO:DefE:=⟨"_law_waits", top 86,["_law_sky_here", "_law_one", "_law_minute"],3,kY,aD⟩
abbrev i9:DefE:=⟨"_law_need", top 87,["_law_sky_here", "_law_landings", "_law_k", "_law_minute", "_law_found", "_law_when"],4,oB,aD⟩
abbrev cX:DefE:=⟨"_law_one_amiss", top 88,["_law_sky_here", "_law_landings", "_law_k", "_law_g", "_law_minute", "_law_ahead"],3,bq,aD⟩
abbrev gP:DefE:=⟨"_law_amiss", top 89,["_law_sky_here", "_law_landings", "_law_k", "_law_found", "_law_landed", "_law_lacking", "_law_minute", "_law_one", "_law_glider_here"],2,kZ,aD⟩
abbrev eP:DefE:=⟨"_law_landing", top 90,["_law_pot_here", "_law_sky_here", "_law_found", "_law_turn", "_law_landings", "_law_later", "_law_at", "_law_more", "_law_gliders", "_law_slow"],2,eI,aD⟩
abbrev fO:DefE:=⟨"_law_turned", top 91,["_law_pot_here", "_law_landings", "_law_sky_here", "_law_found", "_law_way", "_law_at", "_law_other", "_law_g", "_law_minute"],3,jG,aD⟩
abbrev ky:DefE:=⟨"_law_odd", top 92,["_law_pot_here", "_law_some"],1,qr,aD⟩
abbrev wq:DefE:=⟨"_law_word", top 93,["_law_e", "_law_some", "_law_words"],1,wo,aD⟩
abbrev eR:DefE:=⟨"_law_is_list", top 94,["_law_thing", "_law_one"],1,iE,aD⟩
abbrev eS:DefE:=⟨"_law_holding", top 95,["_law_sky_here", "_law_landings", "_law_found", "_law_k", "_law_one", "_law_row", "_law_ring", "_law_minute"],2,iG,aD⟩
abbrev oE:DefE:=⟨"_law_told", top 96,["_law_sky_here", "_law_thing", "_law_minute", "_law_e"],3,[],aa iU⟩
abbrev gQ:DefE:=⟨"_law_right", top 97,["_law_pot_here", "_law_sky_here", "_law_landings", "_law_due", "_law_kept", "_law_turn", "_law_found", "_law_row", "_law_minutes", "_law_g", "_law_minute", "_law_wanted"],3,lb,aD⟩
abbrev yv:DefE:=⟨"law", top 98,["_law_script", "_law_k", "_law_pot_here", "_law_sky_here", "_law_right_here", "_law_rows", "_law_row"],1,oC,aD⟩
abbrev af:List DefE:=[iV,gB,gC,iW,fI,gD,iX,fJ,bj,gF,fK,kl,km,oD,iY,eJ,gG,gH,lc,iH,gI,gJ,ko,eK,cR,dF,cS,kq,cT,iZ,cU,cp,cV,cB,eM,eN,De,qt,i5,fL,cb,eO,kr,i6,gK,i7,gL,fM,fN,gM,ku,gN,i8,kw,gO,i9,cX,gP,eP,fO,ky,wq,eR,eS,oE,gQ,yv]
def chk:af.all (C9 (qh con af))=aN:=by kernel_rfl
def SD:af.any yn=aN:=by kernel_rfl
def us1:∀ {u:List Value},u.length=1->∃b,u=[b]
 |[b],_=>⟨b,rfl⟩
def us2:∀ {u:List Value},u.length=2->∃b c,u=[b,c]
 |[b,c],_=>⟨b,c,rfl⟩
def us3:∀ {u:List Value},u.length=3->∃b f c,u=[b,f,c]
 |[b,f,c],_=>⟨b,f,c,rfl⟩
def us4:∀ {u:List Value},u.length=4->∃c g f b,u=[c,g,f,b]
 |[c,g,f,b],_=>⟨c,g,f,b,rfl⟩
def bind:Aj af:=by
 repeat' apply And.intro
 all_goals first |trivial |(intro _ _ _ _ _ _ u h;first |(obtain⟨_,rfl⟩:=us1 h;rfl) |(obtain⟨_,_,rfl⟩:=us2 h;rfl) |(obtain⟨_,_,_,rfl⟩:=us3 h;rfl) |(obtain⟨_,_,_,_,rfl⟩:=us4 h;rfl))
end Lw
section
open PySem PySem.W PyProof.Rows
def Lw.eqs(h:Heap):Ev.Ai Lw.con Lw.af h=(h.isNs V2,(Lw.nx.take 44).map (λx=>Ev.uI h (.ofString x.1))++(Lw.nx.drop 44).map (λx=>Ev.uI h (.ofString x.1)),Lw.con.map (λc=>Ev.EW h c.1),(Ev.gf.map λx=>(h.nsMap V2 x).isNone),Ev.AM h):=by kernel_rfl
def Lw.eqv:Ev.ug Lw.con Lw.af=(aN,Lw.vb (Lw.nx.take 44)++Lw.vb (Lw.nx.drop 44),Lw.con.map (λc=>aa c.2),(Ev.gf.map λ_=>aN),aN):=by kernel_rfl
def Lw.partC:Cut.PartC PySem.Challenge.rw_downrings_k61_who_holds_which_ring.row.toRowW.prog (Hook.obs (Ev.kh Lw.con Lw.af Lw.bind)) (Hook.val (Ev.kh Lw.con Lw.af Lw.bind)):=λw=>by
 have z:=Cut.two (λa (b:Ev.uf)=>((b.1,a++b.2.1,b.2.2):Ev.uf)) Lw.J9 Lw.Ka w;show Wy (λs=>Ev.Ai Lw.con Lw.af s.heap) (Cut.fin _ w)=aa (Ev.ug Lw.con Lw.af);rw[Lw.eqv,show(λs:Shared=>Ev.Ai Lw.con Lw.af s.heap)=_ from funext λs=>Lw.eqs s.heap];exact z
set_option maxHeartbeats 0 in
def Lw.head(h:∀ns:List Int,ns.length<=63->∃b,Ev.evC Lw.af 40 66 [.ref 0] [.frz (ns.map Ev.D.int)]=aa (.bl aN,b)):PySem.Challenge.rw_downrings_k61_who_holds_which_ring.Holds:=by
 w_on;refine holds_law Lw.said λsaid=>?_
 refine holds_open (q:=Lw.view) (loose:=Lw.loose) (Xt:=(λs=>xlAt Lw.view [] s && recOk (RowW.records PySem.Challenge.rw_downrings_k61_who_holds_which_ring.row.toRowW) s)) (XP:=XL Lw.view []) (Yf:=(Hook.obs (Ev.kh Lw.con Lw.af Lw.bind))) (Ya:=(Hook.val (Ev.kh Lw.con Lw.af Lw.bind))) (YP:=Hook.says (Ev.kh Lw.con Lw.af Lw.bind)) (N:=20000) ?hl (Hook.of _) (Hook.keeps _) (λs e=>xl_of s (XF.mp e).1) XL.keeps (by rfl) (by rfl) (by rfl) (λs e=>recFacts_of (XF.mp e).2) (by rfl) (by first |assumption |decide +kernel) (by decide +kernel) ⟨rfl,rfl,rfl,rfl,rfl,by decide +kernel⟩ ?hw ?hc
 case hw=>w_witness2
 case hl=>exact Cut.left_cut Lw.opn Lw.partA Lw.partB Lw.partC
 case hc=>exact Ev.GJ (l:=PySem.Challenge.rw_downrings_k61_who_holds_which_ring) (n:=63) (k:=40) (i:=66) (dl:=Lw.yv) rfl (by decide) rfl ⟨rfl,by decide,by decide,rfl⟩ rfl rfl rfl Lw.chk Lw.SD h
end
namespace Ev
open PySem PySem.Spec PyProof.Rows L2
abbrev Ok{b:Type}(x:Option (b × Sto))(Q:b->Sto->Prop):Prop:=∃a S,x=aa (a,S)/\Q a S
abbrev OkS(x:Option (Fl × Rho × Sto))(Q:Fl->Rho->Sto->Prop):Prop:=∃f b S,x=aa (f,b,S)/\Q f b S
section
variable {α β:Type} {S S':Sto} {ρ ρ':Rho}
def aE{a:α}:Ok (aa (a,S)) Q=Q a S:=by
 apply propext;exact⟨λ⟨_,_,e,q⟩=>by cases e;exact q,λq=>⟨a,S,rfl,q⟩⟩
def bc:Ok aD Q=False:=propext ⟨λ⟨_,_,e,_⟩=>(nomatch e),λh=>h.elim⟩
def bG:Ok (bnd x f) Q=Ok x λa S=>Ok (f a S) Q:=by
 apply propext;constructor
 ·rintro⟨b,S',e,q⟩;obtain⟨a,S,E,c⟩:=aj e;exact⟨a,S,E,b,S',c,q⟩
 ·rintro⟨a,S,E,b,S',c,q⟩;exact⟨b,S',by rw[E];exact c,q⟩
def dG{c:Prop}[Decidable c]:Ok (if c then x else y) Q=if c then Ok x Q else Ok y Q:=by split <;> rfl
def Mm{x:Option β}{f:β->α × Sto}{Q:α->Sto->Prop}:Ok (x.map f) Q=∃b,x=aa b/\Q (f b).1 (f b).2:=by
 apply propext;cases x with
 |none=>exact⟨λ⟨_,_,e,_⟩=>(nomatch e),λ⟨_,e,_⟩=>(nomatch e)⟩
 |some b=>exact⟨λ⟨a,S,e,q⟩=>⟨b,rfl,by have E:=Option.some.inj e;rw[E];exact q⟩,λ⟨B,e,q⟩=>by cases e;exact⟨_,_,rfl,q⟩⟩
def Ok.mono(h:Ok x Q)(f:∀a S,Q a S->Q' a S):Ok x Q':=let ⟨a,S,e,q⟩:=h;⟨a,S,e,f a S q⟩
def OkS.mono(h:OkS x Q)(f:∀a ρ S,Q a ρ S->Q' a ρ S):OkS x Q':=let ⟨a,ρ,S,e,q⟩:=h;⟨a,ρ,S,e,f a ρ S q⟩
abbrev nxt(y:XS)(Q:Fl->Rho->Sto->Prop)(f:Fl)(ρ:Rho)(S:Sto):Prop:=match f with
 |.nx=>OkS (y ρ S) Q
 |f=>Q f ρ S
def GK:OkS (vR x y ρ S) Q=OkS (x ρ S) (nxt y Q):=by
 apply propext;unfold vR;constructor
 ·rintro⟨f,b,c,e,q⟩;split at e
  ·cases e
  ·rename_i g j h;exact⟨_,_,_,h,f,b,c,e,q⟩
  ·rename_i r n h;cases e;cases f with
   |nx=>exact absurd rfl (n b c)
   |_=>exact⟨_,_,_,h,q⟩
 ·rintro⟨f,b,c,e,q⟩;rw[e];cases f with
  |nx=>exact q
  |_=>exact⟨_,_,_,rfl,q⟩
def Mn:OkS (xIf c x y ρ S) Q=Ok (c ρ S) λb g=>if b=aN then OkS (x ρ g) Q else OkS (y ρ g) Q:=by
 apply propext;unfold xIf;constructor
 ·rintro⟨f,j,g,e,q⟩;cases h:c ρ S with
  |none=>rw[h] at e;cases e
  |some r=>
   obtain⟨b,n⟩:=r;rw[h] at e;refine⟨b,n,rfl,?_⟩;dsimp only at e ⊢;split
   ·rename_i hb;rw[if_pos hb] at e;exact⟨f,j,g,e,q⟩
   ·rename_i hb;rw[if_neg hb] at e;exact⟨f,j,g,e,q⟩
 ·rintro⟨b,n,e,q⟩;rw[e];dsimp only;split
  ·rename_i hb;rw[if_pos hb] at q;exact q
  ·rename_i hb;rw[if_neg hb] at q;exact q
def GL:OkS (nt x t ρ S) Q=Ok (x ρ S) λd S1=>∃b,aB t d ρ=aa b/\Q .nx b S1:=by
 apply propext;unfold nt;constructor
 ·rintro⟨f,b,S1,e,q⟩;cases h:x ρ S with
  |none=>rw[h] at e;cases e
  |some r=>
   obtain⟨d,j⟩:=r;rw[h] at e;dsimp only at e;cases c:aB t d ρ with
   |none=>rw[c] at e;cases e
   |some g=>rw[c] at e;cases e;exact⟨d,_,rfl,b,c,q⟩
 ·rintro⟨d,j,e,b,E,q⟩;rw[e];dsimp only;rw[E];exact⟨_,_,_,rfl,q⟩
def Df:OkS (tK x ρ S) Q=Ok (x ρ S) λ_ S1=>Q .nx ρ S1:=by
 apply propext;unfold tK;constructor
 ·rintro⟨f,b,S1,e,q⟩;cases h:x ρ S with
  |none=>rw[h] at e;cases e
  |some r=>rw[h] at e;cases e;exact⟨_,_,rfl,q⟩
 ·rintro⟨d,c,e,q⟩;rw[e];exact⟨_,_,_,rfl,q⟩
def GM:OkS (Ca x ρ S) Q=Ok (x ρ S) λd S1=>Q (.rt d) ρ S1:=by
 apply propext;unfold Ca;constructor
 ·rintro⟨f,b,S1,e,q⟩;cases h:x ρ S with
  |none=>rw[h] at e;cases e
  |some r=>rw[h] at e;cases e;exact⟨_,_,rfl,q⟩
 ·rintro⟨d,c,e,q⟩;rw[e];exact⟨_,_,_,rfl,q⟩
def Dg:OkS (tL v o i ρ S) Q=Ok (v ρ S) λa j=>Ok (o ρ j) λb u=>Ok (i ρ u) λc p=>∃S4,fc b c a p=aa S4/\Q .nx ρ S4:=by
 apply propext;unfold tL;constructor
 ·rintro⟨f,C,j,e,q⟩;cases h:v ρ S with
  |none=>rw[h] at e;cases e
  |some r=>
   rw[h] at e;dsimp only at e;cases g:o ρ r.2 with
   |none=>rw[g] at e;cases e
   |some r2=>
    rw[g] at e;dsimp only at e;cases n:i ρ r2.2 with
    |none=>rw[n] at e;cases e
    |some y=>
     rw[n] at e;dsimp only at e;cases h4:fc r2.1 y.1 r.1 y.2 with
     |none=>rw[h4] at e;cases e
     |some S4=>rw[h4] at e;cases e;exact⟨_,_,rfl,_,_,g,_,_,n,_,h4,q⟩
 ·rintro⟨a,j,E,b,u,I,c,p,B,S4,z,q⟩;rw[E];dsimp only;rw[I];dsimp only;rw[B];dsimp only;rw[z];exact⟨_,_,_,rfl,q⟩
def GN{k:Nat}:OkS (Cd I T b k ρ S) Q=Ok (I ρ S) λnx c=>OkS (dM nx T b k 0 ρ c) Q:=by
 apply propext;unfold Cd;constructor
 ·rintro⟨f,g,c,e,q⟩;cases h:I ρ S with
  |none=>rw[h] at e;cases e
  |some r=>rw[h] at e;exact⟨_,_,rfl,_,_,_,e,q⟩
 ·rintro⟨d,j,e,q⟩;rw[e];exact q
abbrev out(Q:D->Sto->Prop)(f:Fl)(_:Rho)(S:Sto):Prop:=match f with
 |.rt v=>Q v S
 |.nx=>Q .non S
 |_=>False
def Mo:out Q (.rt d) ρ S=Q d S:=rfl
def Mp:out Q .nx ρ S=Q .non S:=rfl
def aA{k f:Nat}(hd:af[f]?=aa d)(c:b.map aa++Zq (d.N.length - b.length) aD=ρ)(h:OkS (gc (evC af k) (cA af) 60 d.body ρ S) (out Q))(n:d.rb=aD:=by rfl):Ok (evC af (k+1) f b S) Q:=by
 subst c;obtain⟨j,g,o,e,q⟩:=h;have e:gc (toC (evX af k)) (cA af) FU d.body _ S=aa (j,g,o):=e;have z:evX af (k+1) f b S=(GD (toC (evX af k)) (cA af) d b S).map λr=>(.val r.1,r.2):=by simp only[evX,hd,n]
 unfold evC toC;rw[z];unfold GD;rw[e];cases j with
 |rt v=>exact⟨_,_,rfl,q⟩
 |nx=>exact⟨_,_,rfl,q⟩
 |bk=>exact q.elim
 |ct=>exact q.elim
def qv{N:Nat}(I:Nat->List D->Sto->Prop)
  (step:∀i b S,i < N->I i b S->∃d f,nx i S=aa (aa d)/\aB T d ρ=aa f/\Ok (c f S) λE g=>I (i+1) (b++E) g) (stop:∀b S,I N b S->nx N S=aa aD) :
  ∀ (n i k:Nat) (b:List D) (S:Sto),N=i+n->n < k->I i b S->Ok (bA nx T c ρ k i S) λE S'=>I N (b++E) S'
 |0,i,k+1,b,S,hN,hk,h=>by
  obtain rfl:N=i:=by lia
  simp only[bA,stop b S h];exact⟨_,_,rfl,by show I _ (b++[]) S;rw[ZY];exact h⟩
 |n+1,i,k+1,b,S,hN,hk,h=>by
  obtain⟨d,f,j,v,E,g,u,o⟩:=step i b S (by lia) h;simp only[bA,j,v,u,bnd];obtain⟨y,z,q,p⟩:=qv I step stop n (i+1) k (b++E) g (by lia) (by lia) o;simp only[q];exact⟨_,_,rfl,by show I _ (b++(E++y)) z;rw[<-Z8];exact p⟩
def gR{k:Nat}(N:Nat)(I:Nat->List D->Sto->Prop)(j:N < k)
  (step:∀i b S,i < N->I i b S->∃d f,nx i S=aa (aa d)/\aB T d ρ=aa f/\Ok (c f S) λE g=>I (i+1) (b++E) g) (stop:∀b S,I N b S->nx N S=aa aD) (h:I 0 [] S) :
  Ok (bA nx T c ρ k 0 S) (I N):=(qv I step stop N 0 k [] S (by lia) j h).mono λE S' z=>by rw[Y2] at z;exact z
def oG{N:Nat}(I:Nat->Rho->Sto->Prop)
  (step:∀i ρ S,i < N->I i ρ S->∃d f,nx i S=aa (aa d)/\aB T d ρ=aa f/\OkS (b f S) λo c g=>match o with |.nx=>I (i+1) c g |.ct=>I (i+1) c g |.bk=>Q .nx c g |.rt d=>Q (.rt d) c g)
  (stop:∀ρ S,I N ρ S->nx N S=aa aD/\Q .nx ρ S) :
  ∀ (n i k:Nat) (ρ:Rho) (S:Sto),N=i+n->n < k->I i ρ S->OkS (dM nx T b k i ρ S) Q
 |0,i,k+1,ρ,S,hN,hk,h=>by
  obtain rfl:N=i:=by lia
  simp only[dM,(stop ρ S h).1];exact⟨_,_,_,rfl,(stop ρ S h).2⟩
 |n+1,i,k+1,ρ,S,hN,hk,h=>by
  obtain⟨d,f,E,q,o,c,g,p,j⟩:=step i ρ S (by lia) h;simp only[dM,E,q,p];cases o with
  |nx=>exact oG I step stop n (i+1) k c g (by lia) (by lia) j
  |ct=>exact oG I step stop n (i+1) k c g (by lia) (by lia) j
  |bk=>exact⟨_,_,_,rfl,j⟩
  |rt d=>exact⟨_,_,_,rfl,j⟩
def jH{k:Nat}(N:Nat)(I:Nat->Rho->Sto->Prop)(n:N < k)
  (step:∀i ρ S,i < N->I i ρ S->∃d f,nx i S=aa (aa d)/\aB T d ρ=aa f/\OkS (b f S) λj c g=>match j with |.nx=>I (i+1) c g |.ct=>I (i+1) c g |.bk=>Q .nx c g |.rt d=>Q (.rt d) c g)
  (stop:∀ρ S,I N ρ S->nx N S=aa aD/\Q .nx ρ S) (h:I 0 ρ S):OkS (dM nx T b k 0 ρ S) Q:=oG I step stop N 0 k ρ S (by lia) n h
end
mutual
noncomputable def TD(p:Nat)(S:Sto):Dw.D->D->Prop
 |.non,d=>d = .non
 |.bl b,d=>d = .bl b
 |.int i,d=>d = .int i
 |.str x,d=>d = .str x
 |.tup ts,d=>∃c,d = .tup c/\TDs p S ts c
 |.lst ts,d=>∃n c,d = .ref n/\n ≠ p/\S[n]?=aa (.lst c)/\TDs p S ts c
 |.dic ks ts,d=>∃n c,d = .ref n/\n ≠ p/\S[n]?=aa (.dic ks c)/\TDs p S ts c
noncomputable def TDs(p:Nat)(S:Sto):List Dw.D->List D->Prop
 |[],ds=>ds=[]
 |t::ts,ds=>∃d r,ds=d::r/\TD p S t d/\TDs p S ts r
end
abbrev Kp(p:Nat)(S b:Sto):Prop:=∀i o,i ≠ p->S[i]?=aa o->b[i]?=aa o
abbrev Sm(S b:Sto):Prop:=∀ (i:Nat) (o:Ob),S[i]?=aa o->b[i]?=aa o
def Sm.kp{p:Nat}(h:Sm S S'):Kp p S S':=λi o _ e=>h i o e
def Sm.refl(S:Sto):Sm S S:=λ_ _ e=>e
def Sm.trans(a:Sm S c)(b:Sm c S2):Sm S S2:=λi o e=>b i o (a i o e)
def Sm.app(S X:Sto):Sm S (S++X):=λi o e=>by
 have h:=(Zb.mp e).1;rw[Zv h];exact e
def Kp.refl(p:Nat)(S:Sto):Kp p S S:=λ_ _ _ e=>e
def Kp.trans{p:Nat}(a:Kp p S c)(b:Kp p c S2):Kp p S S2:=λi o n e=>b i o n (a i o n e)
mutual
theorem TD.keep{p:Nat}(k:Kp p S c):∀ {t:Dw.D} {d:D},TD p S t d->TD p c t d
 |.non,_,h=>by rw[TD] at h ⊢;exact h
 |.bl _,_,h=>by rw[TD] at h ⊢;exact h
 |.int _,_,h=>by rw[TD] at h ⊢;exact h
 |.str _,_,h=>by rw[TD] at h ⊢;exact h
 |.tup ts,_,h=>by rw[TD] at h ⊢;obtain⟨b,e,q⟩:=h;exact⟨b,e,TDs.keep k q⟩
 |.lst ts,_,h=>by rw[TD] at h ⊢;obtain⟨n,b,e,ne,a,q⟩:=h;exact⟨n,b,e,ne,k _ _ ne a,TDs.keep k q⟩
 |.dic ks ts,_,h=>by rw[TD] at h ⊢;obtain⟨n,b,e,ne,a,q⟩:=h;exact⟨n,b,e,ne,k _ _ ne a,TDs.keep k q⟩
theorem TDs.keep{p:Nat}(k:Kp p S c):∀ {T:List Dw.D} {b:List D},TDs p S T b->TDs p c T b
 |[],_,h=>by rw[TDs] at h ⊢;exact h
 |t::T,_,h=>by rw[TDs] at h ⊢;obtain⟨d,r,e,a,q⟩:=h;exact⟨d,r,e,TD.keep k a,TDs.keep k q⟩
end
section
variable {p:Nat} {S S':Sto}
def Dh:TD p S .non .non:=by rw[TD]
def yw:TD p S (.bl b) (.bl b):=by rw[TD]
def bp{i:Int}:TD p S (.int i) (.int i):=by rw[TD]
def wr:TD p S (.str x) (.str x):=by rw[TD]
def aZ(h:TDs p S T b):TD p S (.tup T) (.tup b):=by rw[TD];exact⟨b,rfl,h⟩
def aM:TDs p S [] []:=by rw[TDs]
def ai(h:TD p S t d)(q:TDs p S T b):TDs p S (t::T) (d::b):=by rw[TDs];exact⟨d,b,rfl,h,q⟩
def TD.non(h:TD p S .non d):d = .non:=by rw[TD] at h;exact h
def TD.bl(h:TD p S (.bl b) d):d = .bl b:=by rw[TD] at h;exact h
def TD.int{i:Int}(h:TD p S (.int i) d):d = .int i:=by rw[TD] at h;exact h
def TD.str(h:TD p S (.str x) d):d = .str x:=by rw[TD] at h;exact h
def TD.tup(h:TD p S (.tup T) d):∃ds,d = .tup ds/\TDs p S T ds:=by rw[TD] at h;exact h
def TDs.cons(h:TDs p S (t::T) b):∃d r,b=d::r/\TD p S t d/\TDs p S T r:=by rw[TDs] at h;exact h
def TDs.nil(h:TDs p S [] b):b=[]:=by rw[TDs] at h;exact h
def TDs.len:∀ {T:List Dw.D} {b:List D},TDs p S T b->b.length=T.length
 |[],_,h=>by rw[h.nil];rfl
 |t::T,_,h=>by obtain⟨d,r,rfl,_,q⟩:=h.cons;simp[q.len]
def TDs.get:∀ {T:List Dw.D} {b:List D} {i:Nat} {t:Dw.D},TDs p S T b->T[i]?=aa t->∃d,b[i]?=aa d/\TD p S t d
 |[],_,_,_,_,e=>by simp at e
 |t::T,_,0,_,h,e=>by obtain⟨d,r,rfl,a,q⟩:=h.cons;simp at e;subst e;exact⟨d,rfl,a⟩
 |t::T,_,i+1,_,h,e=>by obtain⟨d,r,rfl,a,q⟩:=h.cons;simp at e;obtain⟨x,c,y⟩:=q.get e;exact⟨x,by simpa using c,y⟩
abbrev tyT:Dw.D->String
 |.non => "NoneType" |.bl _ => "bool" |.int _ => "int" |.str _ => "str" |.tup _ => "tuple" |.lst _ => "list" |.dic _ _ => "dict"
def QT(h:TD p S t d):tyN d S=aa (tyT t):=by
 cases t with
 |non=>rw[h.non];rfl
 |bl _=>rw[h.bl];rfl
 |int _=>rw[h.int];rfl
 |str _=>rw[h.str];rfl
 |tup _=>obtain⟨_,rfl,_⟩:=h.tup;rfl
 |lst _=>rw[TD] at h;obtain⟨n,b,rfl,_,e,_⟩:=h;simp only[tyN,e];rfl
 |dic _ _=>rw[TD] at h;obtain⟨n,b,rfl,_,e,_⟩:=h;simp only[tyN,e];rfl
def et(h:TD p S t d):nc ty d S=aa (.bl (dU ty (tyT t)),S):=by
 unfold nc;rw[QT h];rfl
end
def GO{n:Nat}:Ok (tO g n x f S) Q=Ok (x f S) λb c=>b.length=n/\Ok (g b c) Q:=by
 unfold tO;rw[bG]
 congr 1
 funext b c
 rw[dG,bc];apply propext;split
 ·rename_i h;exact⟨λz=>⟨h,z⟩,λz=>z.2⟩
 ·rename_i h;exact⟨λz=>z.elim,λz=>(h z.1).elim⟩
def Mq:Ok (Ch x y c S) Q=Ok (x c S) λd S1=>∃b,d = .bl b/\if b=aN then Ok (y c S1) Q else Q (.bl aT) S1:=by
 unfold Ch;rw[bG]
 congr 1
 funext d S1
 apply propext;cases d with
 |bl b=>cases b <;> simp[aE]
 |_=>simp[bc]
def QU:Ok (xOr x y f S) Q=Ok (x f S) λd c=>∃b,d = .bl b/\if b=aN then Q (.bl aN) c else Ok (y f c) Q:=by
 unfold xOr;rw[bG]
 congr 1
 funext d c
 apply propext;cases d with
 |bl b=>cases b <;> simp[aE]
 |_=>simp[bc]
def Mr:Ok (zP d S) Q=∃b,d = .bl b/\Q (.bl (!b)) S:=by
 apply propext;cases d with
 |bl b=>simp[zP,aE]
 |_=>simp[zP,bc]
def Ms:Ok (zQ f g x y z h S) Q=Ok (x h S) λa j=>Ok (y h j) λb n=>Ok (f a b n) λr S3=>∃c,r = .bl c/\if c=aN then Ok (z h S3) λe o=>Ok (g b e o) Q else Q (.bl aT) S3:=by
 unfold zQ;rw[bG]
 congr 1
 funext a j
 rw[bG]
 congr 1
 funext b n
 rw[bG]
 congr 1
 funext r S3
 apply propext;cases r with
 |bl c=>cases c <;> simp[aE,bG]
 |_=>simp[bc]
def Mu{i:Nat}:Ok (zu i b S) Q=∃d,b[i]?=aa (aa d)/\Q d S:=by
 apply propext;unfold zu;cases h:b[i]? with
 |none=>simp[bc]
 |some o=>cases o with
  |none=>simp[bc]
  |some d=>simp[aE]
def QV{i j:Int}:Ok (aC .le (.int i) (.int j) S) Q=Q (.bl (decide (i<=j))) S:=aE
def QW{i j:Int}:Ok (aC .lt (.int i) (.int j) S) Q=Q (.bl (decide (i < j))) S:=aE
def QX{i j:Int}:Ok (aC .gt (.int i) (.int j) S) Q=Q (.bl (decide (j < i))) S:=aE
def QY{i j:Int}:Ok (aC .ge (.int i) (.int j) S) Q=Q (.bl (decide (j<=i))) S:=aE
def Mv{i j:Int}:Ok (b6 .add (.int i) (.int j) S) Q=Q (.int (i+j)) S:=aE
def Mw{i j:Int}:Ok (b6 .sub (.int i) (.int j) S) Q=Q (.int (i - j)) S:=aE
def QZ:Ok (xB x c S) Q=Ok (x c S) λd S1=>∃b,d = .bl b/\Q b S1:=by
 unfold xB;rw[bG]
 congr 1
 funext d S1
 apply propext;cases d with
 |bl b=>simp[aE]
 |_=>simp[bc]
def GP{own k:Nat}:Ok (nv own I T c k b S) Q=Ok (I b S) λnx f=>dY T (b++Zq own aD)=aN/\Ok (bA nx T c (b++Zq own aD) k 0 f) λE S2=>E.length<=100000/\Q E S2:=by
 unfold nv;rw[bG]
 congr 1
 funext nx f
 rw[dG,bc];apply propext
 have e:Ok (bnd (bA nx T c (b++Zq own aD) k 0 f) λE S2=>if E.length<=100000 then aa (E,S2) else aD) Q=Ok (bA nx T c (b++Zq own aD) k 0 f) λE S2=>E.length<=100000/\Q E S2:=by
  rw[bG]
  congr 1
  funext E S2
  rw[dG,bc,aE];apply propext;split
  ·rename_i h;exact⟨λz=>⟨h,z⟩,λz=>z.2⟩
  ·rename_i h;exact⟨λz=>z.elim,λz=>(h z.1).elim⟩
 rw[e];split
 ·rename_i h;exact⟨λz=>⟨h,z⟩,λz=>z.2⟩
 ·rename_i h;exact⟨λz=>z.elim,λz=>(h z.1).elim⟩
def Di{k:Nat}:Ok (j7 I T c k b S) Q=(dY T b=aN/\Ok (I b S) λnx f=>Ok (bA nx T c b k 0 f) Q):=by
 unfold j7;rw[dG,bc,bG];apply propext;split
 ·rename_i h;exact⟨λz=>⟨h,z⟩,λz=>z.2⟩
 ·rename_i h;exact⟨λz=>z.elim,λz=>(h z.1).elim⟩
def GQ:Ok (pQ x c S) Q=Ok (x c S) λb S1=>b.length<=1000/\Q b S1:=by
 unfold pQ;rw[bG]
 congr 1
 funext b S1
 rw[dG,bc,aE];apply propext;split
 ·rename_i h;exact⟨λz=>⟨h,z⟩,λz=>z.2⟩
 ·rename_i h;exact⟨λz=>z.elim,λz=>(h z.1).elim⟩
def GR:Ok (lB b S) Q=(b.length<=1000/\Q (.tup b) S):=by
 unfold lB;rw[dG,bc,aE];apply propext;split
 ·rename_i h;exact⟨λz=>⟨h,z⟩,λz=>z.2⟩
 ·rename_i h;exact⟨λz=>z.elim,λz=>(h z.1).elim⟩
def mf{b:Type}(l:List b)(g:b->Bool)(S:Sto):lI aT (l.map λt=>D.bl (g t)) S=aa (.bl (l.all g),S):=by
 unfold lI;have c:(l.map λt=>D.bl (g t)).all zy=aN:=by rw[Yz];simp[Function.comp_def,zy]
 have h:(l.map λt=>D.bl (g t)).all o8=l.all g:=by rw[Yz];rfl
 rw[if_pos ⟨rfl,c⟩,h]
def GS{S:Sto}{n:Nat}{lo:Int}{T:Tg}{c:XA}{u:Rho}{Q:List D->Sto->Prop}(B:n<=100000)(g:Nat->Bool)
  (step:∀ (i:Nat) b,i < n->Sm S b->∃f,aB T (.int (lo+i)) u=aa f/\Ok (c f b) λE o=>E=[.bl (g i)]/\Sm b o) (q:∀b,Sm S b->Q ((Ze n).map λi=>.bl (g i)) b) :
  Ok (bA (nxR lo n) T c u LF 0 S) λE S2=>E.length<=100000/\Q E S2:=by
 refine(gR n (λi h b=>Sm S b/\h=(Ze i).map λt=>.bl (g t)) (by unfold LF;lia) (λi h b v ⟨sm,j⟩=>?_) (λh b ⟨sm,j⟩=>?_) ⟨Sm.refl S,by simp⟩).mono λE b ⟨sm,j⟩=>?_
 ·obtain⟨f,z,E,o,y,rfl,p⟩:=step i b v sm;refine⟨_,f,by show aa (if i < n then aa (D.int (lo+i)) else aD)=_;rw[if_pos v],z,_,o,y,sm.trans p,?_⟩;rw[j,Yj,Zr];rfl
 ·show aa (if n < n then aa (D.int (lo+n)) else aD)=_;rw[if_neg (ZQ n)]
 ·subst j;exact⟨by rw[Za,Zx];exact B,q b sm⟩
def wt{m n:Nat}(y:S[m]?=aa (.lst ((Ze n).map λj=>.int (Int.ofNat j))))(I:n<=1000)(f:Nat->List D)
  (step:∀ (i:Nat) b,i < n->Sm S b->∃g,aB T (.int i) C=aa g/\Ok (c g b) λE p=>E=f i/\Sm b p):Ok (bA (nxS m) T c C LF 0 S) λE S2=>E=(Ze n).flatMap f/\Sm S S2:=by
 refine(gR n (λi h b=>Sm S b/\h=(Ze i).flatMap f) (by unfold LF;lia) (λi h b v ⟨sm,o⟩=>?_) (λh b ⟨sm,o⟩=>?_) ⟨Sm.refl S,by simp⟩).mono λE b ⟨sm,o⟩=>⟨o,sm⟩
 ·obtain⟨g,B,E,p,z,rfl,u⟩:=step i b v sm;refine⟨.int i,g,?_,B,_,p,z,sm.trans u,?_⟩
  ·show(aP b m).map (λq=>q[i]?)=_;simp only[aP,sm _ _ y,Zu,Zj,Z1 v];rfl
  ·rw[o,Dw.pO]
 ·show(aP b m).map (λq=>q[n]?)=_;simp only[aP,sm _ _ y,Zu];rw[ZE (by simp)]
def Dj:Ok (dz x f S) Q=Ok (x f S) λc b=>Q (.ref b.length) (b++[.lst c]):=by
 unfold dz;rw[bG]
 congr 1
 funext c b
 rw[aE]
def Mx(h:Ok (x c S) λd b=>∃i:Nat,d = .int i/\i<=1000/\Q ((Ze i).map λj=>.int (Int.ofNat j)) b):Ok (zT x c S) Q:=by
 unfold zT;rw[bG];refine h.mono λd b ⟨i,e,f,q⟩=>?_;subst e;dsimp only;rw[if_pos (by lia),aE,Zo];exact q
def GU(h:Ok (x b S) λd c=>Ok (y b c) λe f=>∃i j,d = .int i/\e = .int j/\-100000<=i/\i<=j/\j<=i+20000/\i<=100000/\Q (rgD i j) f):Ok (pX x y b S) Q:=by
 unfold pX;rw[bG];refine h.mono λd c h=>?_;rw[bG];refine h.mono λe f ⟨i,j,E,o,p,g,n,h4,q⟩=>?_;subst E o;dsimp only;rw[if_pos ⟨p,g,n,h4⟩,aE];exact q
def uj(is:List Int):(is.map D.int).all cL=aN:=by rw[Yz];simp[Function.comp_def,cL]
def Dk(is:List Int)(i:Int)(S:Sto):vO (.tup (is.map D.int)) [.int i] S=aa (.int (is.count i:Nat),S):=by
 have e:((is.map D.int).countP λz=>eqF z (.int i))=is.count i:=by
  rw[Wj];unfold List.count
  congr 1
 simp only[vO];rw[if_pos ⟨rfl,uj is⟩,e]
def rL(neg:Bool)(is:List Int)(i:Int)(S:Sto):inS neg (.int i) (.tup (is.map D.int)) S=aa (.bl (neg != decide (i ∈ is)),S):=by
 have e:inF (.int i) (is.map D.int)=decide (i ∈ is):=by
  unfold inF;rw[X6,Yi,YZ];simp only[Function.comp_def,eqF,beq_iff_eq,decide_eq_true_eq];exact⟨λ⟨x,b,e⟩=>e ▸ b,λh=>⟨i,h,rfl⟩⟩
 simp only[inS,av];rw[if_pos ⟨rfl,uj is⟩,e]
def GV(i j:Int)(S:Sto):aC .eq (.int i) (.int j) S=aa (.bl (decide (i=j)),S):=by
 simp only[aC,eqS];have:eqD 60 S (.int i) (.int j)=aa (i == j):=rfl;rw[this];rfl
def GW(i j:Int)(S:Sto):aC .ne (.int i) (.int j) S=aa (.bl (!decide (i=j)),S):=xR (x:=.int i) (y:=.int j) (b:=decide (i=j)) rfl
def My{i j:Int}:Ok (aC .eq (.int i) (.int j) S) Q=Q (.bl (decide (i=j))) S:=by rw[GV,aE]
def Mz{i j:Int}:Ok (aC .ne (.int i) (.int j) S) Q=Q (.bl (!decide (i=j))) S:=by rw[GW,aE]
def GX{i:Nat}:aB (.name i) d b=if i < b.length then aa (b.set i (aa d)) else aD:=by simp only[aB]
def Dm:aB (.tup T) (.tup b) ρ=aQ T b ρ:=by simp only[aB]
def yx:aQ [] [] ρ=aa ρ:=by simp only[aQ]
def uk{i:Nat}:aQ (.name i::T) (d::g) c=if i < c.length then aQ T g (c.set i (aa d)) else aD:=by
 simp only[aQ,aB];split
 ·rename_i f h;split at h
  ·rename_i b;cases h;rw[if_pos b]
  ·cases h
 ·rename_i h;split at h
  ·cases h
  ·rename_i b;rw[if_neg b]
def bH{i j:Nat}(f:i < c.length)(h:j < c.length):aB (.tup [.name i,.name j]) (.tup [a,b]) c=aa ((c.set i (aa a)).set j (aa b)):=by
 rw[Dm,uk,if_pos f,uk,if_pos (by rw[Ys];exact h),yx]
def ao{a:Nat}(h:S[a]?=aa (.lst es)):aP S a=aa es:=by simp only[aP,h]
def yy{a b n:Nat}(f:S[a]?=aa (.lst E))(h:S[b]?=aa (.lst []))(c:a ≠ b):eqD (n+1) S (.ref a) (.ref b)=aa E.isEmpty:=by
 show(match aP S a,aP S b with |some xs,aa ys=>if a=b then aa aN else if xs.length=ys.length then eqL eqB xs ys else aa aT |_,_=>aD)=_;rw[ao f,ao h];show(if a=b then aa aN else if E.length=([]:List D).length then eqL eqB E [] else aa aT)=_;rw[if_neg c];cases E with
 |nil=>simp[eqL]
 |cons x xs=>simp
def ne_nil{a b:Nat}(f:S[a]?=aa (.lst E))(h:S[b]?=aa (.lst []))(c:a ≠ b):aC .ne (.ref a) (.ref b) S=aa (.bl (!E.isEmpty),S):=xR (yy f h c)
def Dn{a b:Nat}(f:S[a]?=aa (.lst E))(h:S[b]?=aa (.lst []))(c:a ≠ b):aC .eq (.ref a) (.ref b) S=aa (.bl E.isEmpty,S):=by
 simp only[aC,eqS,yy f h c,Zu]
def yz:aC .ne (.ref (Zc S)) (.ref (Zc (S++[Ob.lst E]))) (S++[Ob.lst E]++[Ob.lst []])=aa (.bl (!E.isEmpty),S++[Ob.lst E]++[Ob.lst []]):=
 ne_nil (by rw[Z8,Zp (Zd _),Yv];rfl) (by rw[Zp (Zd _),Yv];rfl) (by simp)
def Dp(b:List D)(k:Nat)(h:k<=b.length):il b aD (aa (k:Int))=b.take k:=by
 unfold il;rw[Dw.BI _ _ (by lia),Zo,Xs h];rfl
def MA{p:Nat}(h:TDs p S T b):aw b7 (.tup b) S=aa (.int T.length,S):=by
 simp only[aw,av,b7,h.len]
def yA{p:Nat}{i:Nat}(h:TDs p S T b)(e:T[i]?=aa t)(q:∀d,TD p S t d->Q d S):Ok (ixS (.tup b) (.int i) S) Q:=by
 obtain⟨d,E,f⟩:=h.get e;have g:=(Zb.mp E).1
 have c:atI b (i:Int)=aa d:=by
  unfold atI ixN;rw[if_pos (by lia),if_pos (by lia),Zo];exact E
 simp only[ixS,av,c,Zu];rw[aE];exact q d f
section
variable {S S' S1 S2:Sto} {p:Nat} {Q:D->Sto->Prop} {ρ:Rho}
def MB{i j:Int}:Ok (b6 .mod (.int i) (.int j) S) Q=(0 < j/\Q (.int (i % j)) S):=by
 simp only[b6,La,dG,aE,bc];apply propext;split
 ·rename_i h;exact⟨λz=>⟨h,z⟩,λz=>z.2⟩
 ·rename_i h;exact⟨λz=>z.elim,λz=>(h z.1).elim⟩
def GY{i j:Int}:Ok (b6 .fdiv (.int i) (.int j) S) Q=((0 < j/\j < 1298074214633706907132624082305024)/\Q (.int (i / j)) S):=by
 simp only[b6,BQ,dG,aE,bc];apply propext;split
 ·rename_i h;exact⟨λz=>⟨h,z⟩,λz=>z.2⟩
 ·rename_i h;exact⟨λz=>z.elim,λz=>(h z.1).elim⟩
def MC{i j:Int}:Ok (b6 .mul (.int i) (.int j) S) Q=(jk i j=aN/\Q (.int (i * j)) S):=by
 simp only[b6,tw,dG,aE,bc];apply propext;split
 ·rename_i h;exact⟨λz=>⟨h,z⟩,λz=>z.2⟩
 ·rename_i h;exact⟨λz=>z.elim,λz=>(h z.1).elim⟩
def MD{i j:Int}:Ok (b6 .pow (.int i) (.int j) S) Q=((0<=j/\j<=1000000/\i.natAbs < 2 ^ 64)/\Q (.int (i ^ j.toNat)) S):=by
 simp only[b6,Lb,dG,aE,bc];apply propext;split
 ·rename_i h;exact⟨λz=>⟨h,z⟩,λz=>z.2⟩
 ·rename_i h;exact⟨λz=>z.elim,λz=>(h z.1).elim⟩
def yB{i j:Int}(b:-(2 ^ 64) < j)(h:j < 2 ^ 64):jk i j=aN:=by simp only[jk,Xr,bAE,decide_eq_true_eq];exact .inr ⟨b,h⟩
def mh{i j:Int}(b:-(2 ^ 64) < i)(h:i < 2 ^ 64):jk i j=aN:=by simp only[jk,Xr,bAE,decide_eq_true_eq];exact .inl ⟨b,h⟩
abbrev Pot(p:Nat)(S:Sto):Prop:=∃n:Int,S[p]?=aa (.lst [.int n])
structure Dr(p:Nat)(S S':Sto):Prop where
 kp:Kp p S S'
 pot:Pot p S'
def Dr.refl(h:Pot p S):Dr p S S:=⟨Kp.refl p S,h⟩
def Dr.trans(a:Dr p S S1)(b:Dr p S1 S2):Dr p S S2:=⟨a.kp.trans b.kp,b.pot⟩
def Dr.sm(h:Pot p S)(s:Sm S S'):Dr p S S':=⟨s.kp,let ⟨n,e⟩:=h;⟨n,s _ _ e⟩⟩
def Dr.thenSm(a:Dr p S S1)(s:Sm S1 S2):Dr p S S2:=a.trans (Dr.sm a.pot s)
def Pot.lt(h:Pot p S):p < S.length:=let ⟨_,e⟩:=h;(Zb.mp e).1
def ME:Kp p S (S.set p o):=λi u n e=>by rw[ZH (Ne.symm n)];exact e
def ja(h:p < S.length):(S.set p o)[p]?=aa o:=by rw[ZD h]
def fj{n:Nat}{lo:Int}{T:Tg}{b:XS}{Q:Fl->Rho->Sto->Prop}(u:n<=100000)(I:Nat->Rho->Sto->Prop)
  (step:∀ (i:Nat) ρ S,i < n->I i ρ S->∃c,aB T (.int (lo+i)) ρ=aa c/\OkS (b c S) λj f S2=>match j with |.nx=>I (i+1) f S2 |.ct=>I (i+1) f S2 |.bk=>Q .nx f S2 |.rt d=>Q (.rt d) f S2)
  (q:∀ρ S',I n ρ S'->Q .nx ρ S') (o:I 0 ρ S):OkS (dM (nxR lo n) T b LF 0 ρ S) Q:=by
 refine jH n I (by unfold LF;lia) (λi ρ S' h g=>?_) (λρ S' g=>⟨?_,q ρ S' g⟩) o
 ·obtain⟨c,E,z⟩:=step i ρ S' h g;exact⟨_,c,by show aa (if i < n then aa (D.int (lo+i)) else aD)=_;rw[if_pos h],E,z⟩
 ·show aa (if n < n then aa (D.int (lo+n)) else aD)=_;rw[if_neg (ZQ n)]
def oH{n:Nat}{lo:Int}{T:Tg}{c:XA}{Q:List D->Sto->Prop}(u:n<=100000)(I:Nat->List D->Sto->Prop)
  (step:∀ (i:Nat) b S',i < n->I i b S'->∃f,aB T (.int (lo+i)) ρ=aa f/\Ok (c f S') λE S1=>I (i+1) (b++E) S1) (q:∀E S',I n E S'->E.length<=100000/\Q E S') (o:I 0 [] S) :
  Ok (bA (nxR lo n) T c ρ LF 0 S) λE S2=>E.length<=100000/\Q E S2:=by
 refine(gR n I (by unfold LF;lia) (λi b S' h g=>?_) (λb S' g=>?_) o).mono q
 ·obtain⟨f,j,z⟩:=step i b S' h g;exact⟨_,f,by show aa (if i < n then aa (D.int (lo+i)) else aD)=_;rw[if_pos h],j,z⟩
 ·show aa (if n < n then aa (D.int (lo+n)) else aD)=_;rw[if_neg (ZQ n)]
def MF:Ok (vo x y ρ S) Q=Ok (x ρ S) λb S1=>Ok (y ρ S1) λi S2=>∃k,i = .int k/\∃d,atI b k=aa d/\Q d S2:=by
 unfold vo;rw[bG]
 congr 1
 funext b S1
 rw[bG]
 congr 1
 funext i S2
 apply propext;cases i with
 |int k=>simp[Mm]
 |_=>simp[bc]
def MG{i:Int}(b:0<=i)(c:i < ds.length):∃d,atI ds i=aa d/\ds[i.toNat]?=aa d:=by
 have h:i.toNat < ds.length:=by lia
 refine⟨ds[i.toNat],?_,gEG h⟩;unfold atI ixN;rw[if_pos b,if_pos (by lia)];exact gEG h
def cY{nx:Nxt}{T:Tg}{c:XA}{Q:List D->Sto->Prop}(n:Nat)(o:Nat->D)(I:Nat->List D->Sto->Prop)(h:∀i b S',i<=n->I i b S'->nx i S'=aa (if i < n then aa (o i) else aD))(y:n<=100000)
  (step:∀ (i:Nat) b S',i < n->I i b S'->∃f,aB T (o i) ρ=aa f/\Ok (c f S') λE S1=>I (i+1) (b++E) S1) (q:∀E S',I n E S'->E.length<=100000/\Q E S') (v:I 0 [] S) :
  Ok (bA nx T c ρ LF 0 S) λE S2=>E.length<=100000/\Q E S2:=by
 refine(gR n I (by unfold LF;lia) (λi b S' j g=>?_) (λb S' g=>?_) v).mono q
 ·obtain⟨f,u,z⟩:=step i b S' j g;exact⟨_,f,by rw[h i b S' (by lia) g,if_pos j],u,z⟩
 ·rw[h n b S' (Zd _) g,if_neg (ZQ n)]
def kz{m i:Nat}(h:S[m]?=aa (.lst b))(E:Nat->D)(f:∀i d,b[i]?=aa d->E i=d):nxS m i S=aa (if i < b.length then aa (E i) else aD):=by
 show(aP S m).map (λb=>b[i]?)=_;rw[ao h,Zu];split
 ·rename_i c;rw[gEG c,f i _ (gEG c)]
 ·rename_i c;rw[ZE (by lia)]
def rO{m i:Nat}(h:S[m]?=aa (.lst b))(c:i<=b.length)(E:Nat->D)(g:∀i d,b[i]?=aa d->E i = .tup [.int i,d]):zL m i S=aa (if i < b.length then aa (E i) else aD):=by
 show(aP S m).bind (λb=>enm b i)=_;rw[ao h];show enm b i=_;unfold enm;rw[if_pos c];split
 ·rename_i f;rw[gEG f,g i _ (gEG f)];rfl
 ·rename_i f;rw[ZE (by lia)];rfl
structure RowsS(p:Nat)(S:Sto)(rs:List D)(M:List (List Int)):Prop where
 len:rs.length=M.length
 row:∀ (i:Nat) r,M[i]?=aa r->∃a,rs[i]?=aa (.ref a)/\a ≠ p/\S[a]?=aa (.lst (r.map D.int))
def RowsS.keep(h:RowsS p S c M)(k:Kp p S S'):RowsS p S' c M:=⟨h.len,λi r b=>let ⟨a,e,n,z⟩:=h.row i r b;⟨a,e,n,k _ _ n z⟩⟩
def RowsS.nil:RowsS p S [] []:=⟨rfl,λi r h=>by simp at h⟩
def RowsS.snoc{a:Nat}(h:RowsS p S o M)(n:a ≠ p)(z:S[a]?=aa (.lst (r.map D.int))):RowsS p S (o++[.ref a]) (M++[r]):=by
 refine⟨by simp[h.len],λi j c=>?_⟩;by_cases f:i < M.length
 ·rw[Zv f] at c;obtain⟨b,e,nb,Z⟩:=h.row i j c;exact⟨b,by rw[Zv (by rw[h.len];exact f)];exact e,nb,Z⟩
 ·rw[Zp (by lia)] at c
  have g:i - M.length=0:=by
   have:=(Zb.mp c).1;simp at this;lia
  rw[g] at c;cases c;exact⟨a,by rw[Zp (by rw[h.len];lia),h.len,g];rfl,n,z⟩
def al:(S++[o])[S.length]?=aa o:=by rw[Zp (Zd _),Yv];rfl
def Kp.setNew{f:Nat}(h:Kp p S S')(c:S.length<=f):Kp p S (S'.set f o):=λi u n e=>by
 have b:=(Zb.mp e).1;rw[ZH (by lia)];exact h i u n e
def Pot.setNe{f:Nat}(h:Pot p S)(b:f ≠ p):Pot p (S.set f o):=by
 obtain⟨n,e⟩:=h;exact⟨n,by rw[ZH b];exact e⟩
abbrev ae(q:Int × Int):D:=.tup [.int q.1,.int q.2]
def bJ:∀ (E:List (Int × Int)),TDs p S (E.map Dw.aY) (E.map ae)
 |[]=>aM
 |e::E=>ai (aZ (ai bp (ai bp aM))) (bJ E)
def eT{f:Nat}(h:S[f]?=aa (.lst b))(c:b.length < 100000):Ok (vN (.ref f) [e] S) Q=Q .non (S.set f (.lst (b++[e]))):=by
 simp only[vN,chg,h];rw[if_pos c];exact aE
def bB{f:Nat}(h:S[f]?=aa (.lst b)):fb (.ref f) S=aN:=by simp only[fb,ao h];rfl
def mi{f:Nat}(h:S[f]?=aa (.lst (ds++[e]))):ixS (.ref f) (.int (-1)) S=aa (e,S):=by
 have:atI (ds++[e]) (-1:Int)=aa e:=by
  unfold atI ixN;rw[if_neg (by decide),if_pos (by rw[Zn,ZO];lia)];show(ds++[e])[((-1:Int)+((ds++[e]).length:Int)).toNat]?=aa e;have:((-1:Int)+((ds++[e]).length:Int)).toNat=ds.length:=by rw[Zn,ZO];lia
  rw[this,Zp (Zd _),Yv];rfl
 simp only[ixS,av,ao h,Zu,this]
def Bi{i:Nat}(h:b[i]?=aa d):ixS (.tup b) (.int i) S=aa (d,S):=by
 have c:=(Zb.mp h).1
 have E:atI b (i:Int)=aa d:=by
  unfold atI ixN;rw[if_pos (by lia),if_pos (by lia),Zo];exact h
 simp only[ixS,av,E,Zu]
def qO{i:Nat}(h:b[i]?=aa d):atI b (i:Int)=aa d:=by
 have c:=(Zb.mp h).1;unfold atI ixN;rw[if_pos (by lia),if_pos (by lia),Zo];exact h
def cZ{n:Nat}(c:n ≠ p)(h:S[n]?=aa (.lst b))(q:TDs p S T b):TD p S (.lst T) (.ref n):=by rw[TD];exact⟨n,b,rfl,c,h,q⟩
def Dq{n:Nat}(c:n ≠ p)(h:S[n]?=aa (.dic ks b))(q:TDs p S T b):TD p S (.dic ks T) (.ref n):=by rw[TD];exact⟨n,b,rfl,c,h,q⟩
def GZ:aC .eq (.tup b) (.tup []) S=aa (.bl b.isEmpty,S):=by
 simp only[aC,eqS]
 have:eqD 60 S (.tup b) (.tup [])=aa b.isEmpty:=by
  cases b <;> rfl
 rw[this];rfl
def G0:aC .ne (.tup c) (.tup []) S=aa (.bl (!c.isEmpty),S):=xR (x:=.tup c) (y:=.tup []) (b:=c.isEmpty) (by cases c <;> rfl)
def MH:Ok (b6 .add (.tup xs) (.tup y) S) Q=(xs.length+y.length<=1000/\Q (.tup (xs++y)) S):=by
 simp only[b6,lH,dG,aE,bc];apply propext;split
 ·rename_i h;exact⟨λz=>⟨h,z⟩,λz=>z.2⟩
 ·rename_i h;exact⟨λz=>z.elim,λz=>(h z.1).elim⟩
end
@[inline]abbrev WP(b:Type):=Rho->Sto->(b->Sto->Prop)->Prop
abbrev Sd{b:Type}(w:WP b)(x:Rho->Sto->Option (b × Sto)):Prop:=∀c S Q,w c S Q->Ok (x c S) Q
def bg{c b:Type}{x:Option (c × Sto)}{f:c->Sto->Option (b × Sto)}{Q:b->Sto->Prop}(h:Ok x λa S=>Ok (f a S) Q):Ok (bnd x f) Q:=bG ▸ h
def bK{b:Type}{a:b}{S:Sto}{Q:b->Sto->Prop}(h:Q a S):Ok (aa (a,S)) Q:=⟨_,_,rfl,h⟩
abbrev wIf(b:Bool)(A B:Prop):Prop:=match b with
 |true=>A
 |false=>B
abbrev wBl(d:D)(Q:Bool->Prop):Prop:=match d with
 |.bl b=>Q b
 |.non=>False |.int _=>False |.str _=>False |.tup _=>False |.ref _=>False
abbrev dN(d:D)(Q:Int->Prop):Prop:=match d with
 |.int i=>Q i
 |.non=>False |.bl _=>False |.str _=>False |.tup _=>False |.ref _=>False
def oI{d:D}{Q:Bool->Prop}(h:wBl d Q):∃b,d = .bl b/\Q b:=by cases d <;> first |exact h.elim |exact⟨_,rfl,h⟩
def cG{d:D}{Q:Int->Prop}(h:dN d Q):∃b,d = .int b/\Q b:=by cases d <;> first |exact h.elim |exact⟨_,rfl,h⟩
abbrev SE(o:Option D)(Q:D->Prop):Prop:=match o with
 |some d=>Q d
 |none=>False
abbrev wu:Rho->Nat->(D->Prop)->Prop
 |[],_,_=>False
 |o::_,0,Q=>SE o Q
 |_::ρ,i+1,Q=>wu ρ i Q
def yC:∀ {ρ:Rho} {i:Nat} {Q:D->Prop},wu ρ i Q->∃d,ρ[i]?=aa (aa d)/\Q d
 |[],_,_,h=>h.elim
 |some d::_,0,_,h=>⟨d,rfl,h⟩
 |none::_,0,_,h=>h.elim
 |o::ρ,i+1,_,h=>by rw[YE];exact yC (ρ:=ρ) h
abbrev Q0(i:Nat):WP D:=λb S Q=>wu b i λd=>Q d S
def Q1{i:Nat}:Sd (Q0 i) (zu i):=λb S Q h=>by
 rw[Mu];exact yC h
abbrev wC(d:D):WP D:=λ_ S Q=>Q d S
def s_c{d:D}:Sd (wC d) (xC d):=λ_ _ _ h=>bK h
abbrev G1(g:D->D->Sto->(D->Sto->Prop)->Prop)(x y:WP D):WP D:=λc S Q=>x c S λa f=>y c f λb h=>g a b h Q
def Dt{g:D->D->Sto->(D->Sto->Prop)->Prop}{f:D->D->Sto->Option (D × Sto)}{w v:WP D}{x y:XE}(n:Sd w x)(j:Sd v y)(c:∀ {a b S Q},g a b S Q->Ok (f a b S) Q):Sd (G1 g w v) (sW f x y):=
 λ_ _ _ h=>bg ((n _ _ _ h).mono λ_ _ h=>bg ((j _ _ _ h).mono λ_ _ h=>c h))
abbrev wUn{b β:Type}(g:b->Sto->(β->Sto->Prop)->Prop)(x:WP b):WP β:=λf S Q=>x f S λa c=>g a c Q
def G2{b c:Type}{g:b->Sto->(c->Sto->Prop)->Prop}{f:b->Sto->Option (c × Sto)}{w:WP b}{x:Rho->Sto->Option (b × Sto)}(n:Sd w x)(o:∀ {a S Q},g a S Q->Ok (f a S) Q):Sd (wUn g w) (λj S=>bnd (x j S) f):=
 λ_ _ _ h=>bg ((n _ _ _ h).mono λ_ _ h=>o h)
abbrev wOk{c b:Type}(f:c->Sto->Option (b × Sto))(a:c)(S:Sto)(Q:b->Sto->Prop):Prop:=Ok (f a S) Q
abbrev wII:BOp->Int->Int->Sto->(D->Sto->Prop)->Prop
 |.add,i,j,S,Q=>Q (.int (i+j)) S
 |.sub,i,j,S,Q=>Q (.int (i - j)) S
 |.mul,i,j,S,Q=>jk i j=aN/\Q (.int (i * j)) S
 |.mod,i,j,S,Q=>0 < j/\Q (.int (i % j)) S
 |.fdiv,i,j,S,Q=>(0 < j/\j < 1298074214633706907132624082305024)/\Q (.int (i / j)) S
 |.pow,i,j,S,Q=>(0<=j/\j<=1000000/\i.natAbs < 2 ^ 64)/\Q (.int (i ^ j.toNat)) S
def MI{o:BOp}{i j:Int}{S:Sto}{Q:D->Sto->Prop}(h:wII o i j S Q):Ok (b6 o (.int i) (.int j) S) Q:=by
 cases o with
 |add=>rw[Mv];exact h
 |sub=>rw[Mw];exact h
 |mul=>rw[MC];exact h
 |mod=>rw[MB];exact h
 |fdiv=>rw[GY];exact h
 |pow=>rw[MD];exact h
abbrev wTT:BOp->List D->List D->Sto->(D->Sto->Prop)->Prop
 |.add,xs,ys,S,Q=>xs.length+ys.length<=1000/\Q (.tup (xs++ys)) S
 |.sub,_,_,_,_=>False
 |.mul,_,_,_,_=>False
 |.mod,_,_,_,_=>False
 |.fdiv,_,_,_,_=>False
 |.pow,_,_,_,_=>False
def MJ{o:BOp}{i j:List D}{S:Sto}{Q:D->Sto->Prop}(h:wTT o i j S Q):Ok (b6 o (.tup i) (.tup j) S) Q:=by
 cases o with
 |add=>rw[MH];exact h
 |_=>exact h.elim
abbrev Du(o:BOp)(i:Int)(y:D)(S:Sto)(Q:D->Sto->Prop):Prop:=match y with
 |.int j=>wII o i j S Q
 |.non=>False |.bl _=>False |.str _=>False |.ref _=>False
 |.tup ys=>Ok (b6 o (.int i) (.tup ys) S) Q
abbrev yD(o:BOp)(xs:List D)(y:D)(S:Sto)(Q:D->Sto->Prop):Prop:=match y with
 |.tup ys=>wTT o xs ys S Q
 |.non=>False |.bl _=>False |.str _=>False |.ref _=>False
 |.int j=>Ok (b6 o (.tup xs) (.int j) S) Q
abbrev ww(o:BOp)(x y:D)(S:Sto)(Q:D->Sto->Prop):Prop:=match x with
 |.int i=>Du o i y S Q
 |.tup xs=>yD o xs y S Q
 |.non=>Ok (b6 o .non y S) Q
 |.bl b=>Ok (b6 o (.bl b) y S) Q
 |.str b=>Ok (b6 o (.str b) y S) Q
 |.ref b=>Ok (b6 o (.ref b) y S) Q
def G3{o:BOp}{x y:D}{S:Sto}{Q:D->Sto->Prop}(h:ww o x y S Q):Ok (b6 o x y S) Q:=by
 cases x with
 |int i=>cases y with
  |int j=>exact MI h
  |tup Y=>exact h
  |_=>exact h.elim
 |tup xs=>cases y with
  |int j=>exact h
  |tup Y=>exact MJ h
  |_=>exact h.elim
 |_=>exact h
abbrev wCI:COp->Int->Int->Sto->(D->Sto->Prop)->Prop
 |.eq,i,j,S,Q=>Q (.bl (decide (i=j))) S
 |.ne,i,j,S,Q=>Q (.bl (!decide (i=j))) S
 |.lt,i,j,S,Q=>Q (.bl (decide (i < j))) S
 |.le,i,j,S,Q=>Q (.bl (decide (i<=j))) S
 |.gt,i,j,S,Q=>Q (.bl (decide (j < i))) S
 |.ge,i,j,S,Q=>Q (.bl (decide (j<=i))) S
 |.is,_,_,_,_=>False
 |.isnot,_,_,_,_=>False
 |.isin,_,_,_,_=>False
 |.notin,_,_,_,_=>False
def ML{o:COp}{i j:Int}{S:Sto}{Q:D->Sto->Prop}(h:wCI o i j S Q):Ok (aC o (.int i) (.int j) S) Q:=by
 cases o with
 |eq=>rw[My];exact h
 |ne=>rw[Mz];exact h
 |lt=>rw[QW];exact h
 |le=>rw[QV];exact h
 |gt=>rw[QX];exact h
 |ge=>rw[QY];exact h
 |_=>exact h.elim
abbrev MM(o:COp)(i:Int)(y:D)(S:Sto)(Q:D->Sto->Prop):Prop:=match y with
 |.int j=>wCI o i j S Q
 |.non=>Ok (aC o (.int i) .non S) Q
 |.bl b=>Ok (aC o (.int i) (.bl b) S) Q
 |.str b=>Ok (aC o (.int i) (.str b) S) Q
 |.ref b=>Ok (aC o (.int i) (.ref b) S) Q
 |.tup b=>Ok (aC o (.int i) (.tup b) S) Q
abbrev Ak(o:COp)(xs:List D)(y:D)(S:Sto)(Q:D->Sto->Prop):Prop:=match o with
 |.eq=>match y with
  |.tup ys=>match ys with
   |[]=>Q (.bl xs.isEmpty) S
   |y::ys=>Ok (aC .eq (.tup xs) (.tup (y::ys)) S) Q
  |.non=>Ok (aC .eq (.tup xs) .non S) Q
  |.bl b=>Ok (aC .eq (.tup xs) (.bl b) S) Q
  |.str b=>Ok (aC .eq (.tup xs) (.str b) S) Q
  |.ref b=>Ok (aC .eq (.tup xs) (.ref b) S) Q
  |.int b=>Ok (aC .eq (.tup xs) (.int b) S) Q
 |.ne=>match y with
  |.tup ys=>match ys with
   |[]=>Q (.bl (!xs.isEmpty)) S
   |y::ys=>Ok (aC .ne (.tup xs) (.tup (y::ys)) S) Q
  |.non=>Ok (aC .ne (.tup xs) .non S) Q
  |.bl b=>Ok (aC .ne (.tup xs) (.bl b) S) Q
  |.str b=>Ok (aC .ne (.tup xs) (.str b) S) Q
  |.ref b=>Ok (aC .ne (.tup xs) (.ref b) S) Q
  |.int b=>Ok (aC .ne (.tup xs) (.int b) S) Q
 |.is=>Ok (aC .is (.tup xs) y S) Q
 |.isnot=>Ok (aC .isnot (.tup xs) y S) Q
 |.isin=>Ok (aC .isin (.tup xs) y S) Q
 |.notin=>Ok (aC .notin (.tup xs) y S) Q
 |.lt=>False |.le=>False |.gt=>False |.ge=>False
abbrev wCx(o:COp)(x y:D)(S:Sto)(Q:D->Sto->Prop):Prop:=match x with
 |.int i=>MM o i y S Q
 |.tup xs=>Ak o xs y S Q
 |.non=>Ok (aC o .non y S) Q
 |.bl b=>Ok (aC o (.bl b) y S) Q
 |.str b=>Ok (aC o (.str b) y S) Q
 |.ref b=>Ok (aC o (.ref b) y S) Q
def MN{o:COp}{x y:D}{S:Sto}{Q:D->Sto->Prop}(h:wCx o x y S Q):Ok (aC o x y S) Q:=by
 cases x with
 |int i=>cases y with
  |int j=>exact ML h
  |_=>exact h
 |tup xs=>cases o with
  |eq=>cases y with
   |tup Y=>cases Y with
    |nil=>rw[GZ,aE];exact h
    |cons y Y=>exact h
   |_=>exact h
  |ne=>cases y with
   |tup Y=>cases Y with
    |nil=>rw[G0,aE];exact h
    |cons y Y=>exact h
   |_=>exact h
  |lt=>exact h.elim
  |le=>exact h.elim
  |gt=>exact h.elim
  |ge=>exact h.elim
  |_=>exact h
 |_=>exact h
abbrev wCm(o:COp)(x y:D)(S:Sto)(Q:D->Sto->Prop):Prop:=match o with
 |.is=>Ok (aC .is x y S) Q
 |.isnot=>Ok (aC .isnot x y S) Q
 |.isin=>Ok (aC .isin x y S) Q
 |.notin=>Ok (aC .notin x y S) Q
 |.eq=>wCx .eq x y S Q
 |.ne=>wCx .ne x y S Q
 |.lt=>wCx .lt x y S Q
 |.le=>wCx .le x y S Q
 |.gt=>wCx .gt x y S Q
 |.ge=>wCx .ge x y S Q
def rP{o:COp}{x y:D}{S:Sto}{Q:D->Sto->Prop}(h:wCm o x y S Q):Ok (aC o x y S) Q:=by
 cases o <;> first |exact MN h |exact h
abbrev MO(o p:COp)(x y z:WP D):WP D:=λf S Q=>x f S λa j=>y f j λb n=>wCm o a b n λr g=>wBl r λc=>wIf c (z f g λe h=>wCm p b e h Q) (Q (.bl aT) g)
def JI{o p:COp}{w v u:WP D}{x y z:XE}(j:Sd w x)(g:Sd v y)(f:Sd u z):Sd (MO o p w v u) (zQ (aC o) (aC p) x y z):=λ_ _ _ h=>by
 rw[Ms];refine(j _ _ _ h).mono λa B h=>(g _ _ _ h).mono λb q h=>(rP h).mono λr C h=>?_;obtain⟨c,e,h⟩:=oI h;refine⟨c,e,?_⟩;cases c with
 |true=>exact(f _ _ _ h).mono λe n h=>rP h
 |false=>exact h
abbrev Q2(x y:WP D):WP D:=λc S Q=>x c S λd f=>wBl d λb=>wIf b (y c f Q) (Q (.bl aT) f)
def Q3{w v:WP D}{x y:XE}(f:Sd w x)(b:Sd v y):Sd (Q2 w v) (Ch x y):=λ_ _ _ h=>by
 rw[Mq];refine(f _ _ _ h).mono λa g h=>?_;obtain⟨c,e,h⟩:=oI h;refine⟨c,e,?_⟩;cases c with
 |true=>exact b _ _ _ h
 |false=>exact h
abbrev wOr(x y:WP D):WP D:=λc S Q=>x c S λd f=>wBl d λb=>wIf b (Q (.bl aN) f) (y c f Q)
def SF{w v:WP D}{x y:XE}(f:Sd w x)(b:Sd v y):Sd (wOr w v) (xOr x y):=λ_ _ _ h=>by
 rw[QU];refine(f _ _ _ h).mono λa g h=>?_;obtain⟨c,e,h⟩:=oI h;refine⟨c,e,?_⟩;cases c with
 |false=>exact b _ _ _ h
 |true=>exact h
abbrev Q4(x:WP D):WP D:=λf S Q=>x f S λd c=>wBl d λb=>Q (.bl (!b)) c
def Q5{w:WP D}{x:XE}(b:Sd w x):Sd (Q4 w) (xUn zP x):=λ_ _ _ h=>bg ((b _ _ _ h).mono λa c h=>by
 rw[Mr];exact oI h)
abbrev Q6(x:WP D):WP D:=λc S Q=>x c S λd b=>dN d λi=>Q (.int (-i)) b
def Q7{w:WP D}{x:XE}(b:Sd w x):Sd (Q6 w) (xUn LC x):=λ_ _ _ h=>bg ((b _ _ _ h).mono λa c h=>by
 obtain⟨i,rfl,h⟩:=cG h;exact bK h)
abbrev wO:Option (WP D)->WP (Option Int)
 |none=>λ_ S Q=>Q aD S
 |some w=>λc S Q=>w c S λd b=>dN d λi=>Q (aa i) b
abbrev wx(lo h:Option Int)(d:D)(S:Sto)(Q:D->Sto->Prop):Prop:=match d with
 |.tup ds=>Q (.tup (il ds lo h)) S
 |.ref n=>Ok (slS lo h (.ref n) S) Q
 |.non=>False |.bl _=>False |.str _=>False |.int _=>False
abbrev wSl(x:WP D)(lo f:WP (Option Int)):WP D:=λb S Q=>x b S λd g=>lo b g λl j=>f b j λh c=>wx l h d c Q
def SG:Sd (wO aD) vt:=λ_ _ _ h=>bK h
def SH{w:WP D}{x:XE}(b:Sd w x):Sd (wO (aa w)) (vA x):=λ_ _ _ h=>bg ((b _ _ _ h).mono λd c h=>by
 obtain⟨i,rfl,h⟩:=cG h;exact bK h)
def SI{w:WP D}{l u:WP (Option Int)}{x:XE}{lo c:XO}(g:Sd w x)(j:Sd l lo)(f:Sd u c):Sd (wSl w l u) (xSl x lo c):=λ_ _ _ h=>bg ((g _ _ _ h).mono λd q h=>bg ((j _ _ _ h).mono λa v h=>bg ((f _ _ _ h).mono λb o h=>by
 cases d with
 |tup p=>exact bK h
 |ref n=>exact h
 | _=>exact h.elim)))
abbrev JJ(g:List D->Sto->Option (D × Sto))(n:Nat)(x:WP (List D)):WP D:=λc S Q=>x c S λb f=>b.length=n/\Ok (g b f) Q
def MP{g:List D->Sto->Option (D × Sto)}{n:Nat}{w:WP (List D)}{x:XA}(b:Sd w x):Sd (JJ g n w) (tO g n x):=λ_ _ _ h=>by
 rw[GO];exact b _ _ _ h
abbrev jc(x:WP (List D)):WP D:=λf S Q=>x f S λc b=>Q (.ref b.length) (b++[.lst c])
def fP{w:WP (List D)}{x:XA}(b:Sd w x):Sd (jc w) (dz x):=λ_ _ _ h=>by rw[Dj];exact b _ _ _ h
abbrev fQ:Nat->List CE->Prop->Prop
 |_,[],A=>A
 |0,_::_,_=>False
 |n+1,_::es,A=>fQ n es A
def jI:∀ {n:Nat} {es:List CE} {A:Prop},fQ n es A->es.length<=n/\A
 |n,[],_,h=>⟨XC _,by cases n <;> exact h⟩
 |0,_::_,_,h=>h.elim
 |n+1,_::es,_,h=>by rw[ZB];exact⟨Wa (jI (es:=es) h).1,(jI (es:=es) h).2⟩
abbrev wSh{α:Type}(E:List CE)(x:WP α):WP α:=λb S Q=>fQ 60 E (x b S Q)
abbrev Dv(c:D->Sto->Bool)(f:D->List D->Sto->Option (D × Sto))(x:WP D)(y:WP (List D)):WP D:=λb S Q=>x b S λd g=>c d g=aN/\y b g λh j=>Ok (f d h j) Q
def yE{c:D->Sto->Bool}{f:D->List D->Sto->Option (D × Sto)}{w:WP D}{v:WP (List D)}{x:XE}{y:XA}(g:Sd w x)(b:Sd v y):Sd (Dv c f w v) (zI c f x y):=λ_ _ _ h=>bg ((g _ _ _ h).mono λd j h=>by
 rw[if_pos h.1];exact bg (b _ _ _ h.2))
abbrev MQ(x:WP D):WP (List D):=λc S Q=>x c S λd b=>∃i:Nat,d = .int i/\i<=1000/\Q ((Ze i).map λj=>.int (Int.ofNat j)) b
abbrev Dx(x y:WP D):WP (List D):=λb S Q=>x b S λd c=>y b c λe f=>∃i j,d = .int i/\e = .int j/\-100000<=i/\i<=j/\j<=i+20000/\i<=100000/\Q (rgD i j) f
def Dy{w c:WP D}{x y:XE}(f:Sd w x)(b:Sd c y):Sd (Dx w c) (pX x y):=λ_ _ _ h=>GU ((f _ _ _ h).mono λ_ _ h=>b _ _ _ h)
def JK{w:WP D}{x:XE}(b:Sd w x):Sd (MQ w) (zT x):=λ_ _ _ h=>Mx (b _ _ _ h)
abbrev Q8:WP (List D):=λ_ S Q=>Q [] S
def Q9:Sd Q8 FI:=λ_ _ _ h=>bK h
abbrev JL(x:WP D)(y:WP (List D)):WP (List D):=λb S Q=>x b S λa f=>y b f λc g=>Q (a::c) g
def MR{w:WP D}{v:WP (List D)}{x:XE}{y:XA}(c:Sd w x)(b:Sd v y):Sd (JL w v) (xP x y):=λ_ _ _ h=>bg ((c _ _ _ h).mono λd g h=>bg ((b _ _ _ h).mono λf j h=>bK h))
abbrev SJ(o:Option D)(A:Prop):Prop:=match o with
 |none=>A
 |some _=>False
abbrev wFr:Rho->Nat->Prop->Prop
 |[],_,_=>False
 |o::_,0,A=>SJ o A
 |_::ρ,i+1,A=>wFr ρ i A
def rQ:∀ {ρ:Rho} {i:Nat} {A:Prop},wFr ρ i A->ρ[i]?=aa aD/\A
 |[],_,_,h=>h.elim
 |none::_,0,_,h=>⟨rfl,h⟩
 |some _::_,0,_,h=>h.elim
 |o::ρ,i+1,_,h=>by rw[YE];exact rQ (ρ:=ρ) h
abbrev ul:List Tg->Rho->Prop->Prop
 |[],_,A=>A
 |.name i::ts,ρ,A=>wFr ρ i (ul ts ρ A)
 |.tup us::ts,ρ,A=>dY (.tup us) ρ=aN/\ul ts ρ A
abbrev wFt:Tg->Rho->Prop->Prop
 |.name i,ρ,A=>wFr ρ i A
 |.tup ts,ρ,A=>ul ts ρ A
def qw{i:Nat}{b:Rho}(h:b[i]?=aa aD):dY (.name i) b=aN:=by rw[dY,h]
def rR:∀ {T:List Tg} {b:Rho} {A:Prop},ul T b A->gu T b=aN/\A
 |[],_,_,h=>⟨by rw[gu],h⟩
 |.name i::T,b,_,h=>by
  obtain⟨e,h⟩:=rQ h;obtain⟨E,h⟩:=rR h;exact⟨by rw[gu,qw e,E];rfl,h⟩
 |.tup us::T,b,_,h=>by
  obtain⟨e,h⟩:=h;obtain⟨E,h⟩:=rR h;exact⟨by rw[gu,e,E];rfl,h⟩
def wy{t:Tg}{b:Rho}{A:Prop}(h:wFt t b A):dY t b=aN/\A:=by
 cases t with
 |name i=>exact⟨qw (rQ h).1,(rQ h).2⟩
 |tup T=>rw[dY];exact rR h
abbrev um:List Str->Rho->(Rho->Prop)->Prop
 |[],r,Q=>Q r
 |_::own,r,Q=>um own (aD::r) Q
abbrev uo:Rho->Rho->(Rho->Prop)->Prop
 |[],r,Q=>Q r
 |o::ρ,r,Q=>uo ρ r λb=>Q (o::b)
def yF:∀ {ρ r:Rho} {Q:Rho->Prop},uo ρ r Q->Q (ρ++r)
 |[],_,_,h=>h
 |o::ρ,r,Q,h=>yF (ρ:=ρ) (Q:=λb=>Q (o::b)) h
def yG:∀ {own:List Str} {k:Nat} {Q:Rho->Prop},um own (Zq k aD) Q->Q (Zq (own.length+k) aD)
 |[],k,_,h=>by rw[Y3,Wu];exact h
 |_::own,k,Q,h=>by
  have:=yG (own:=own) (k:=k+1) h;rw[ZB,show own.length+1+k=own.length+(k+1) by lia];exact this
abbrev JM(own:List Str)(I:WP Nxt)(T:Tg)(c:XA)(k:Nat):WP (List D):=λf S Q=>I f S λnx g=>um own [] λr=>uo f r λb=>wFt T b (Ok (bA nx T c b k 0 g) λE h=>E.length<=100000/\Q E h)
def Dz{own:List Str}{k:Nat}{w:WP Nxt}{I:XI}{T:Tg}{c:XA}(b:Sd w I):Sd (JM own w T c k) (nv own.length I T c k):=λ_ _ _ h=>by
 rw[GP]
 exact(b _ _ _ h).mono λnx f h=>by
  have h:=yF (yG (own:=own) (k:=0) h);exact wy h
abbrev DA(I:WP Nxt)(T:Tg)(c:XA)(k:Nat):WP (List D):=λb S Q=>wFt T b (I b S λnx f=>Ok (bA nx T c b k 0 f) Q)
def G4{k:Nat}{w:WP Nxt}{I:XI}{T:Tg}{c:XA}(b:Sd w I):Sd (DA w T c k) (j7 I T c k):=λ_ _ _ h=>by
 rw[Di];exact⟨(wy h).1,b _ _ _ (wy h).2⟩
abbrev DB(d:D)(b:Sto)(Q:Nxt->Sto->Prop):Prop:=match d with
 |.tup ds=>Q (nxL ds) b
 |.ref n=>(aP b n).isSome=aN/\Q (nxS n) b
 |.non=>False |.bl _=>False |.str _=>False |.int _=>False
def SK{w:WP D}{x:XE}(f:Sd w x):Sd (λc S Q=>w c S λd b=>DB d b Q) (xIV x):=λ_ _ _ h=>bg ((f _ _ _ h).mono λd b h=>by
 cases d with
 |tup g=>exact bK h
 |ref n=>dsimp only;rw[if_pos h.1];exact bK h.2
 | _=>exact h.elim)
abbrev DC(d:D)(b:Sto)(Q:Nxt->Sto->Prop):Prop:=match d with
 |.tup ds=>Q (zK ds) b
 |.ref n=>(aP b n).isSome=aN/\Q (zL n) b
 |.non=>False |.bl _=>False |.str _=>False |.int _=>False
def SL{w:WP D}{x:XE}(f:Sd w x):Sd (λc S Q=>w c S λd b=>DC d b Q) (xEV x):=λ_ _ _ h=>bg ((f _ _ _ h).mono λd b h=>by
 cases d with
 |tup g=>exact bK h
 |ref n=>dsimp only;rw[if_pos h.1];exact bK h.2
 | _=>exact h.elim)
abbrev wOn{b β:Type}(f:b->β)(x:WP b):WP β:=λc S Q=>x c S λa g=>Q (f a) g
def DD{b j:Type}{f:b->j}{w:WP b}{x:Rho->Sto->Option (b × Sto)}(n:Sd w x):Sd (wOn f w) (λg S=>bnd (x g S) λa c=>aa (f a,c)):=λ_ _ _ h=>bg ((n _ _ _ h).mono λd c h=>bK h)
abbrev wR1(x:WP D):WP Nxt:=λc S Q=>x c S λd b=>dN d λj=>lim j=aN/\Q (nxR 0 j.toNat) b
def SM{w:WP D}{x:XE}(b:Sd w x):Sd (wR1 w) (xR1 x):=λ_ _ _ h=>bg ((b _ _ _ h).mono λd c h=>by
 obtain⟨i,rfl,h⟩:=cG h;dsimp only;rw[if_pos h.1];exact bK h.2)
abbrev wR2(x y:WP D):WP Nxt:=λb S Q=>x b S λd c=>y b c λe f=>dN d λi=>dN e λj=>(lim i=aN/\lim j=aN)/\Q (nxR i (j - i).toNat) f
def SN{w v:WP D}{x y:XE}(g:Sd w x)(f:Sd v y):Sd (wR2 w v) (xR2 x y):=λ_ _ _ h=>bg ((g _ _ _ h).mono λd n h=>bg ((f _ _ _ h).mono λe o h=>by
 obtain⟨i,rfl,c⟩:=cG h;obtain⟨j,rfl,b⟩:=cG c;dsimp only;rw[if_pos b.1];exact bK b.2))
abbrev cO(d:D)(S:Sto)(Q:Bool->Sto->Prop):Prop:=match d with
 |.bl b=>Q b S
 |.tup ds=>Q (!ds.isEmpty) S
 |.int i=>Q (i != 0) S
 |.non=>Q aT S
 |.str y=>Ok (jZ (.str y) S) Q
 |.ref y=>Ok (jZ (.ref y) S) Q
def DE{d:D}{S:Sto}{Q:Bool->Sto->Prop}(h:cO d S Q):Ok (jZ d S) Q:=by cases d <;> first |exact bK h |exact h
abbrev wB(x:WP D):WP Bool:=λf S Q=>x f S λd c=>wBl d λb=>Q b c
def s_b{w:WP D}{x:XE}(b:Sd w x):Sd (wB w) (xB x):=λ_ _ _ h=>by
 rw[QZ];exact(b _ _ _ h).mono λd c h=>oI h
abbrev JN(x y:WP Bool):WP Bool:=λc S Q=>x c S λb f=>wIf b (y c f Q) (Q aT f)
abbrev Ra(x y:WP Bool):WP Bool:=λc S Q=>x c S λb f=>wIf b (Q aN f) (y c f Q)
abbrev JO(x:WP Bool):WP Bool:=λf S Q=>x f S λb c=>Q (!b) c
def MS{w v:WP Bool}{x y:XT}(f:Sd w x)(c:Sd v y):Sd (JN w v) (Ck x y):=λ_ _ _ h=>bg ((f _ _ _ h).mono λb g h=>by
 cases b with
 |true=>exact c _ _ _ h
 | false=>exact bK h)
def Rb{w v:WP Bool}{x y:XT}(f:Sd w x)(c:Sd v y):Sd (Ra w v) (LH x y):=λ_ _ _ h=>bg ((f _ _ _ h).mono λb g h=>by
 cases b with
 |false=>exact c _ _ _ h
 | true=>exact bK h)
def MU{w:WP Bool}{x:XT}(c:Sd w x):Sd (JO w) (Cm x):=λ_ _ _ h=>bg ((c _ _ _ h).mono λb f h=>bK h)
abbrev JP(t:WP Bool)(c:WP (List D)):WP (List D):=λf S Q=>t f S λb g=>wIf b (c f g Q) (Q [] g)
def MV{t:WP Bool}{c:WP (List D)}{x:XT}{y:XA}(f:Sd t x)(g:Sd c y):Sd (JP t c) (Ce x y):=λ_ _ _ h=>bg ((f _ _ _ h).mono λb j h=>by
 cases b with
 |true=>exact g _ _ _ h
 | false=>exact bK h)
abbrev G5(f:Bool->List D->Option (List D))(b:List D)(S:Sto)(Q:List D->Sto->Prop):Prop:=∃E,f aT b=aa E/\Q E S
abbrev G6(f:Bool->List D->Option (List D))(d:D)(S:Sto)(Q:List D->Sto->Prop):Prop:=∃r E,av d S=aa r/\f r.1 r.2=aa E/\Q E S
abbrev wD(d:D)(S:Sto)(Q:List D->Sto->Prop):Prop:=Ok ((av d S).map λr=>(r.2,S)) Q
def Rc{f:Bool->List D->Option (List D)}{w:WP (List D)}{x:XA}(j:Sd w x):Sd (λg S Q=>w g S λb c=>G5 f b c Q) (zR f x):=λ_ _ _ h=>bg ((j _ _ _ h).mono λb c ⟨E,e,h⟩=>by rw[e];exact bK h)
def Re{f:Bool->List D->Option (List D)}{w:WP D}{x:XE}(j:Sd w x):Sd (λg S Q=>w g S λb c=>G6 f b c Q) (zS f x):=λ_ _ _ h=>bg ((j _ _ _ h).mono λb c ⟨r,n,E,e,h⟩=>by
 rw[E];dsimp only;rw[e];exact bK h)
abbrev wNo{α:Type}:WP α:=λ_ _ _=>False
def uq{b:Type}{x:Rho->Sto->Option (b × Sto)}:Sd wNo x:=λ_ _ _ h=>h.elim
abbrev aX(b:Bool)(x:WP (List D))(y:WP D)(c:Rho)(S:Sto)(KT:List D->Sto->Prop)(KV:D->Sto->Prop):Prop:=match b with
 |true=>x c S KT
 |false=>y c S KV
abbrev wOf{α:Type}(b:Bool)(x:WP (List D))(y:WP D)(gt:List D->Sto->(α->Sto->Prop)->Prop)(g:D->Sto->(α->Sto->Prop)->Prop):WP α:=λf S Q=>aX b x y f S (λh c=>gt h c Q) (λd c=>g d c Q)
def s_of{g:Type}{b:Bool}{w:WP (List D)}{v:WP D}{gt:List D->Sto->(g->Sto->Prop)->Prop}{h:D->Sto->(g->Sto->Prop)->Prop}{x y:Rho->Sto->Option (g × Sto)}(o:Sd (λc S Q=>w c S λj f=>gt j f Q) x)(n:Sd (λc S Q=>v c S λd f=>h d f Q) y):Sd (wOf b w v gt h) (if b=aN then x else y):=by
 cases b with
 |true=>exact o
 |false=>exact n
def SO{b:Bool}{w:WP (List D)}{v u:WP D}{x:XA}{y z:XE}(p:Sd w x)(o:Sd u z)(n:Sd v y):Sd (λc S Q=>aX b w u c S (λj f=>v c f λi g=>dN i λk=>∃d,atI j k=aa d/\Q d g) (λd f=>v c f λi g=>Ok (ixS d i g) Q)) (if b=aN then vo x y else sW ixS z y):=λc S Q h=>by
 cases b with
 |true=>
  show Ok (vo x y c S) Q;rw[MF];exact(p _ _ _ h).mono λj f h=>(n _ _ _ h).mono λi g h=>cG h
 |false=>exact bg ((o _ _ _ h).mono λj f h=>bg (n _ _ _ h))
abbrev wO2(t:CE->WP D):Option CE->Option (WP D)
 |none=>aD
 |some e=>aa (t e)
abbrev G7(t:CE->WP Bool):Option CE->WP (List D)->WP (List D)
 |some c,x=>JP (t c) x
 |none,x=>x
abbrev DF(x y:D)(S:Sto)(Q:D->Sto->Prop):Prop:=dN x λi=>dN y λj=>Q (.int (if j > i then j else i)) S
abbrev DG(x y:D)(S:Sto)(Q:D->Sto->Prop):Prop:=dN x λi=>dN y λj=>Q (.int (if j < i then j else i)) S
abbrev w2(g:D->D->Sto->(D->Sto->Prop)->Prop):List D->Sto->(D->Sto->Prop)->Prop
 |[],_,_=>False
 |[_],_,_=>False
 |[x,y],S,Q=>g x y S Q
 |_::_::_::_,_,_=>False
def JQ{g:D->D->Sto->(D->Sto->Prop)->Prop}{f:D->D->Sto->Option (D × Sto)}(j:∀ {a b S Q},g a b S Q->Ok (f a b S) Q):∀ {c:List D} {S:Sto} {Q:D->Sto->Prop},w2 g c S Q->Ok (two f c S) Q
 |[],_,_,h=>h.elim
 |[_],_,_,h=>h.elim
 |[x,y],_,_,h=>j h
 |_::_::_::_,_,_,h=>h.elim
abbrev JR:WP D:=λ_ S Q=>Q (.ref (Zc S)) (S++[.dic [] []])
abbrev JS(i j:Int):WP D:=λ_ S Q=>Q (.ref (Zc S)) (S++[.dic [pd i] [.int j]])
abbrev wCf(i:CI->WP Nxt)(own:List Str)(t:CE->XT)(e:List Cl->XA):List Cl->WP (List D)
 |[]=>wNo
 |⟨tg,it,cond⟩::rest=>JM own (i it) tg (cnd t cond (e rest)) LF
mutual
noncomputable def wE(C:Calls)(g:Nat->Nat):Nat->CE->WP D
 |0,_=>wNo
 |n+1,e=>match e with
  |.non=>wC .non
  |.bl b=>wC (.bl b)
  |.int i=>wC (.int i)
  |.str x=>wC (.str x)
  |.var i=>Q0 i
  |.con _ v=>wC (.int v)
  |.tup es=>wSh es (wOn D.tup (wA C g n es))
  |.lst es=>jc (wSh es (wA C g n es))
  |.dic0=>JR
  |.dic1 i j=>JS i j
  |.bin o a b=>G1 (ww o) (wE C g n a) (wE C g n b)
  |.neg a=>Q6 (wE C g n a)
  |.cmp o a b=>G1 (wCm o) (wE C g n a) (wE C g n b)
  |.chn o p a b c=>MO o p (wE C g n a) (wE C g n b) (wE C g n c)
  |.and a b=>Q2 (wE C g n a) (wE C g n b)
  |.or a b=>wOr (wE C g n a) (wE C g n b)
  |.not a=>Q4 (wE C g n a)
  |.ix a b=>λh S Q=>aX (aq a) (wTm C g n a) (wE C g n a) h S (λq u=>wE C g n b h u λi y=>dN i λk=>∃d,atI q k=aa d/\Q d y) (λd u=>wE C g n b h u λi y=>Ok (ixS d i y) Q)
  |.sl a lo hi=>wSl (wE C g n a) (wO (wO2 (wE C g n) lo)) (wO (wO2 (wE C g n) hi))
  |.call f es=>JJ (C f) (g f) (wA C g n es)
  |.inst t a=>wUn (wOk (nc t)) (wE C g n a)
  |.len a=>wOf (aq a) (wTm C g n a) (wE C g n a) (wOk (b7 aT)) (wOk (aw b7))
  |.all a=>wOf (aq a) (wTm C g n a) (wE C g n a) (wOk (lI aT)) (wOk (aw lI))
  |.any a=>wOf (aq a) (wTm C g n a) (wE C g n a) (wOk (o9 aT)) (wOk (aw o9))
  |.tupOf a=>wOf (aq a) (wTm C g n a) (wE C g n a) (wOk (j3 aT)) (wOk (aw j3))
  |.listOf a=>jc (wOf (aq a) (wTm C g n a) (wE C g n a) (λq S Q=>Q q S) wD)
  |.listR a=>jc (MQ (wE C g n a))
  |.listR2 a b=>jc (Dx (wE C g n a) (wE C g n b))
  |.srt a=>jc (wOf (aq a) (wTm C g n a) (wE C g n a) (G5 df) (G6 df))
  |.mxL a=>wOf (aq a) (wTm C g n a) (wE C g n a) (wOk (lJ aT)) (wOk (aw lJ))
  |.intOf a=>wUn (wOk B5) (wE C g n a)
  |.rev a=>wUn (wOk vU) (wE C g n a)
  |.mx a b=>wUn (w2 DF) (wA C g n [a,b])
  |.mn a b=>wUn (w2 DG) (wA C g n [a,b])
  |.rep a=>wUn (wOk ip) (wE C g n a)
  |.comp own elt cls=>jc (wCf (wI C g n) own (evT C g n) (im C g n elt) cls)
  |.app o a=>Dv fb vN (wE C g n o) (wA C g n [a])
  |.popAt o a=>Dv fb fD (wE C g n o) (wA C g n [a])
  |.ins o i a=>Dv fb vQ (wE C g n o) (wA C g n [i,a])
  |.cnt o a=>Dv (λd _=>isTup d) vO (wE C g n o) (wA C g n [a])
noncomputable def wA(C:Calls)(b:Nat->Nat):Nat->List CE->WP (List D)
 |0,_=>wNo
 |n+1,es=>match es with
  |[]=>Q8
  |e::es=>JL (wE C b n e) (wA C b n es)
noncomputable def wTm(C:Calls)(c:Nat->Nat):Nat->CE->WP (List D)
 |0,_=>wNo
 |n+1,e=>match e with
  |.lst es=>wSh es (wA C c n es)
  |.listOf a=>wOf (aq a) (wTm C c n a) (wE C c n a) (λf S Q=>Q f S) wD
  |.listR a=>MQ (wE C c n a)
  |.listR2 a b=>Dx (wE C c n a) (wE C c n b)
  |.srt a=>wOf (aq a) (wTm C c n a) (wE C c n a) (G5 df) (G6 df)
  |.comp own elt cls=>wCf (wI C c n) own (evT C c n) (im C c n elt) cls
  |_=>wNo
noncomputable def wI(C:Calls)(c:Nat->Nat):Nat->CI->WP Nxt
 |0,_=>wNo
 |n+1,it=>match it with
  |.val a=>wOf (aq a) (wTm C c n a) (wE C c n a) (λf S Q=>Q (nxL f) S) DB
  |.r1 a=>wR1 (wE C c n a)
  |.r2 a b=>wR2 (wE C c n a) (wE C c n b)
  |.en a=>wOf (aq a) (wTm C c n a) (wE C c n a) (λf S Q=>Q (zK f) S) DC
noncomputable def wT(C:Calls)(f:Nat->Nat):Nat->CE->WP Bool
 |0,_=>wNo
 |n+1,e=>match e with
  |.cmp o a b=>wB (G1 (wCm o) (wE C f n a) (wE C f n b))
  |.chn o p a b c=>wB (MO o p (wE C f n a) (wE C f n b) (wE C f n c))
  |.and a b=>JN (wT C f n a) (wT C f n b)
  |.or a b=>Ra (wT C f n a) (wT C f n b)
  |.not a=>JO (wT C f n a)
  |e=>wUn cO (wE C f n e)
end
abbrev wCl(C:Calls)(b:Nat->Nat)(n:Nat)(E:CE):List Cl->WP (List D)
 |[]=>wOn (λd=>[d]) (wE C b n E)
 |⟨tg,it,cond⟩::rest=>DA (wI C b n it) tg (cnd (evT C b n) cond (im C b n E rest)) LF
def rT{C:Calls}{j:Nat->Nat}:∀ {n:Nat} {E:List CE} {c:Rho} {S g:Sto} {b:List D},evA C j n E c S=aa (b,g)->b.length=E.length
 |0,_,_,_,_,_,h=>by simp only[evA,xNo] at h;cases h
 |n+1,[],_,_,_,_,h=>by simp only[evA,FI] at h;cases h;rfl
 |n+1,e::E,_,_,_,_,h=>by
  simp only[evA,xP] at h;obtain⟨a,q,o,h⟩:=aj h;obtain⟨p,u,f,h⟩:=aj h;cases h;rw[ZB,ZB,rT f]
structure SndW(C:Calls)(ar:Nat->Nat)(n:Nat):Prop where
 e:∀ {e:CE},Sd (wE C ar n e) (evE C ar n e)
 a:∀ {es:List CE},Sd (wA C ar n es) (evA C ar n es)
 m:∀ {e:CE},Sd (wTm C ar n e) (cQ C ar n e)
 i:∀ {i:CI},Sd (wI C ar n i) (evI C ar n i)
 t:∀ {e:CE},Sd (wT C ar n e) (evT C ar n e)
section
variable {C:Calls} {ar:Nat->Nat} {n:Nat}
def Rf(h:SndW C ar n){E:List CE}:Sd (wSh E (wOn D.tup (wA C ar n E))) (lx lB (evA C ar n E)):=λg S Q w=>by
 obtain⟨le,w⟩:=jI w;obtain⟨c,f,b,q⟩:=h.a _ _ _ w;refine bg ⟨c,f,b,?_⟩;have l:=rT b;show Ok (lB c f) Q;rw[GR];exact⟨by lia,q⟩
def DH(h:SndW C ar n){E:List CE}:Sd (wSh E (wA C ar n E)) (pQ (evA C ar n E)):=λg S Q w=>by
 obtain⟨le,w⟩:=jI w;obtain⟨c,f,b,q⟩:=h.a _ _ _ w;rw[GQ];have l:=rT b;exact⟨c,f,b,by lia,q⟩
def JT(h:SndW C ar n){o:Option CE}:Sd (wO (wO2 (wE C ar n) o)) (opt (evE C ar n) o):=by
 cases o with
 |none=>exact SG
 |some e=>exact SH h.e
def G8{a b:D}{S:Sto}{Q:D->Sto->Prop}(h:DF a b S Q):Ok (BX a b S) Q:=by
 obtain⟨i,rfl,f⟩:=cG h;obtain⟨j,rfl,c⟩:=cG f;exact bK c
def G9{a b:D}{S:Sto}{Q:D->Sto->Prop}(h:DG a b S Q):Ok (BZ a b S) Q:=by
 obtain⟨i,rfl,f⟩:=cG h;obtain⟨j,rfl,c⟩:=cG f;exact bK c
end
section
variable {C:Calls} {ar:Nat->Nat} {n:Nat}
def Rg(h:SndW C ar n){o:Option CE}{w:WP (List D)}{x:XA}(b:Sd w x):Sd (G7 (wT C ar n) o w) (cnd (evT C ar n) o x):=by
 cases o with
 |none=>exact b
 |some c=>exact MV h.t b
def DI{c b:Type}{f:c->Sto->Option (b × Sto)}{a:c}{S:Sto}{Q:b->Sto->Prop}(h:wOk f a S Q):Ok (f a S) Q:=h
def s_q(h:SndW C ar n){f:Bool->List D->Sto->Option (D × Sto)}{a:CE}:Sd (wOf (aq a) (wTm C ar n a) (wE C ar n a) (wOk (f aT)) (wOk (aw f))) (if aq a=aN then sX f (cQ C ar n a) else sY f (evE C ar n a)):=
 s_of (G2 (f:=f aT) h.m DI) (G2 (f:=aw f) h.e DI)
def JU(h:SndW C ar n){a:CE}:Sd (wOf (aq a) (wTm C ar n a) (wE C ar n a) (λb S Q=>Q b S) wD) (if aq a=aN then cQ C ar n a else nw (evE C ar n a)):=s_of h.m (λ_ _ _ w=>bg (h.e _ _ _ w))
def JV(h:SndW C ar n){a:CE}:Sd (wOf (aq a) (wTm C ar n a) (wE C ar n a) (G5 df) (G6 df)) (if aq a=aN then zR df (cQ C ar n a) else zS df (evE C ar n a)):=s_of (Rc h.m) (Re h.e)
def s_u{g:D->Sto->Option (D × Sto)}{w:WP D}{x:XE}(h:Sd w x):Sd (wUn (wOk g) w) (xUn g x):=G2 (f:=g) h DI
def SQ{w:WP (List D)}{x:XA}(b:Sd w x):Sd (wUn (w2 DF) w) (lx (two BX) x):=λ_ _ _ h=>bg ((b _ _ _ h).mono λ_ _ h=>JQ (λz=>G8 z) h)
def SR{w:WP (List D)}{x:XA}(b:Sd w x):Sd (wUn (w2 DG) w) (lx (two BZ) x):=λ_ _ _ h=>bg ((b _ _ _ h).mono λ_ _ h=>JQ (λz=>G9 z) h)
def MW:Sd JR Co:=λ_ _ _ h=>bK h
def MX{i j:Int}:Sd (JS i j) (Cp i j):=λ_ _ _ h=>bK h
def Rh{w:WP D}{x:XE}(h:Sd w x):Sd (wUn cO w) (FQ x):=G2 (f:=jZ) h DE
def qx:∀n,SndW C ar n
 |0=>⟨uq,uq,uq,uq,uq⟩
 |n+1=>by
  have h:=qx n;refine⟨λ{e}=>?_,λ{E}=>?_,λ{e}=>?_,λ{i}=>?_,λ{e}=>?_⟩
  ·cases e with
   |non=>exact s_c
   |bl b=>exact s_c
   |int b=>exact s_c
   |str b=>exact s_c
   |var b=>exact Q1
   |con b v=>exact s_c
   |tup E=>exact Rf h
   |lst E=>exact fP (DH h)
   |dic0=>exact MW
   |dic1 i j=>exact MX
   |bin o a b=>exact Dt h.e h.e G3
   |neg a=>exact Q7 h.e
   |cmp o a b=>exact Dt h.e h.e rP
   |chn o p a b c=>exact JI h.e h.e h.e
   |and a b=>exact Q3 h.e h.e
   |or a b=>exact SF h.e h.e
   |not a=>exact Q5 h.e
   |ix a b=>exact SO h.m h.e h.e
   |sl a lo u=>exact SI h.e (JT h) (JT h)
   |call f E=>exact MP h.a
   |inst t a=>exact s_u h.e
   |len a=>exact s_q h
   |all a=>exact s_q h
   |any a=>exact s_q h
   |tupOf a=>exact s_q h
   |listOf a=>exact fP (JU h)
   |listR a=>exact fP (JK h.e)
   |listR2 a b=>exact fP (Dy h.e h.e)
   |srt a=>exact fP (JV h)
   |mxL a=>exact s_q h
   |intOf a=>exact s_u h.e
   |rev a=>exact s_u h.e
   |mx a b=>exact SQ h.a
   |mn a b=>exact SR h.a
   |rep a=>exact s_u h.e
   |comp own q cls=>cases cls with
    |nil=>exact fP uq
    |cons c g=>cases c with |mk T I cond=>exact fP (Dz h.i)
   |app o a=>exact yE h.e h.a
   |popAt o a=>exact yE h.e h.a
   |ins o i a=>exact yE h.e h.a
   |cnt o a=>exact yE h.e h.a
  ·cases E with
   |nil=>exact Q9
   |cons e E=>exact MR h.e h.a
  ·cases e with
   |lst E=>exact DH h
   |listOf a=>exact JU h
   |listR a=>exact JK h.e
   |listR2 a b=>exact Dy h.e h.e
   |srt a=>exact JV h
   |comp own q cls=>cases cls with
    |nil=>exact uq
    |cons c g=>cases c with |mk T I cond=>exact Dz h.i
   |_=>exact uq
  ·cases i with
   |val a=>exact s_of (DD h.m) (SK h.e)
   |r1 a=>exact SM h.e
   |r2 a b=>exact SN h.e h.e
   |en a=>exact s_of (DD h.m) (SL h.e)
  ·cases e with
   |cmp o a b=>exact s_b (Dt h.e h.e rP)
   |chn o p a b c=>exact s_b (JI h.e h.e h.e)
   |and a b=>exact MS h.t h.t
   |or a b=>exact Rb h.t h.t
   |not a=>exact MU h.t
   |_=>exact Rh h.e
def SS{E:CE}{cls:List Cl}:Sd (wCl C ar n E cls) (im C ar (n+1) E cls):=by
 cases cls with
 |nil=>exact DD (qx n).e
 |cons c b=>cases c with |mk T I cond=>exact G4 (qx n).i
def MY{E:CE}{cls:List Cl}{o:Option CE}{b:Rho}{S:Sto}{Q:List D->Sto->Prop}(h:G7 (wT C ar (n+1)) o (wCl C ar n E cls) b S Q):Ok (cnd (evT C ar (n+1)) o (im C ar (n+1) E cls) b S) Q:=Rg (qx (n+1)) SS _ _ _ h
abbrev wNm:Nat->D->Rho->(Rho->Prop)->Prop
 |_,_,[],_=>False
 |0,d,_::ρ,Q=>Q (aa d::ρ)
 |i+1,d,o::ρ,Q=>wNm i d ρ λb=>Q (o::b)
def rV:∀ {i:Nat} {d:D} {ρ:Rho} {Q:Rho->Prop},wNm i d ρ Q->i < ρ.length/\Q (ρ.set i (aa d))
 |i,_,[],_,h=>by cases i <;> exact h.elim
 |0,d,_::ρ,Q,h=>⟨by simp,h⟩
 |i+1,d,o::ρ,Q,h=>by
  have:=rV (ρ:=ρ) (Q:=λb=>Q (o::b)) h;exact⟨by rw[ZB];lia,this.2⟩
abbrev wBs:List Tg->List D->Rho->(Rho->Prop)->Prop
 |[],[],ρ,Q=>Q ρ
 |[],_::_,_,_=>False
 |.name _::_,[],_,_=>False
 |.tup _::_,[],_,_=>False
 |.name i::ts,d::ds,ρ,Q=>wNm i d ρ λb=>wBs ts ds b Q
 |.tup us::ts,d::ds,ρ,Q=>∃b,aB (.tup us) d ρ=aa b/\wBs ts ds b Q
abbrev wTp(T:List Tg)(d:D)(b:Rho)(Q:Rho->Prop):Prop:=match d with
 |.tup ds=>wBs T ds b Q
 |.non=>False |.bl _=>False |.str _=>False |.int _=>False |.ref _=>False
abbrev wBd:Tg->D->Rho->(Rho->Prop)->Prop
 |.name i,d,ρ,Q=>wNm i d ρ Q
 |.tup ts,d,ρ,Q=>wTp ts d ρ Q
def DJ{i:Nat}{d:D}{b:Rho}{Q:Rho->Prop}(h:wNm i d b Q):∃ρ1,aB (.name i) d b=aa ρ1/\Q ρ1:=⟨_,by rw[GX,if_pos (rV h).1],(rV h).2⟩
def wG:∀ {T:List Tg} {g:List D} {f:Rho} {Q:Rho->Prop},wBs T g f Q->∃b,aQ T g f=aa b/\Q b
 |[],[],f,Q,h=>⟨f,yx,h⟩
 |[],_::_,_,_,h=>h.elim
 |.name _::_,[],_,_,h=>h.elim
 |.tup _::_,[],_,_,h=>h.elim
 |.name i::T,d::g,f,Q,h=>by
  obtain⟨b,e,q⟩:=DJ h;obtain⟨c,E,q⟩:=wG q;exact⟨c,by rw[aQ,e];exact E,q⟩
 |.tup us::T,d::g,f,Q,h=>by
  obtain⟨b,e,q⟩:=h;obtain⟨c,E,q⟩:=wG q;exact⟨c,by rw[aQ,e];exact E,q⟩
def MZ{t:Tg}{d:D}{b:Rho}{Q:Rho->Prop}(h:wBd t d b Q):∃ρ1,aB t d b=aa ρ1/\Q ρ1:=by
 cases t with
 |name i=>exact DJ h
 |tup T=>cases d with
  |tup c=>rw[Dm];exact wG h
  |_=>exact h.elim
@[inline]abbrev WS:=Rho->Sto->(Fl->Rho->Sto->Prop)->Prop
abbrev rW(y:WS)(b:Rho)(S:Sto)(Q:Fl->Rho->Sto->Prop):Prop:=y b S Q
abbrev wNx(y:WS)(Q:Fl->Rho->Sto->Prop)(f:Fl)(b:Rho)(S:Sto):Prop:=match f with
 |.nx=>rW y b S Q
 |.rt d=>Q (.rt d) b S
 |.bk=>Q .bk b S
 |.ct=>Q .ct b S
mutual
noncomputable def wS(C:Calls)(ar:Nat->Nat):Nat->CS->WS
 |0,_=>λ_ _ _=>False
 |n+1,s=>match s with
  |.asg t e=>λg S Q=>wE C ar n e g S λd h=>wBd t d g λE=>Q .nx E h
  |.setI v o i=>λg S Q=>wE C ar n v g S λa h=>wE C ar n o g h λb u=>wE C ar n i g u λc B=>∃p,fc b c a B=aa p/\Q .nx g p
  |.swp v o i q j=>λg S Q=>wE C ar n v g S λd h=>∃a b,d = .tup [a,b]/\wE C ar n o g h λx u=>wE C ar n i g u λy B=>∃p,fc x y a B=aa p/\wE C ar n q g p λz J=>wE C ar n j g J λw L=>∃I,fc z w b L=aa I/\Q .nx g I
  |.dcs i own k v t it=>λg S Q=>wI C ar n it g S λnx h=>OkS (dM nx t (vT h.length (evE C ar n k) (evE C ar n v)) LF 0 (g++Zq own.length aD) (h++[.dic [] []])) λf _ u=>f = .nx/\Q .nx (g.set i (aa (.ref h.length))) u
  |.ex e=>λg S Q=>wE C ar n e g S λ_ h=>Q .nx g h
  |.ret e=>λg S Q=>wE C ar n e g S λd h=>Q (.rt d) g h
  |.ifs c a b=>λg S Q=>wT C ar n c g S λt h=>wIf t (rW (wSs C ar n a) g h Q) (rW (wSs C ar n b) g h Q)
  |.for_ t it b=>λg S Q=>wI C ar n it g S λnx h=>OkS (dM nx t (gc C ar n b) LF 0 g h) Q
  |.cnt=>λg S Q=>Q .ct g S
  |.never=>λ_ _ _=>False
noncomputable def wSs(C:Calls)(ar:Nat->Nat):Nat->List CS->WS
 |0,_=>λ_ _ _=>False
 |n+1,ss=>match ss with
  |[]=>λb S Q=>Q .nx b S
  |s::ss=>λb S Q=>wS C ar n s b S (wNx (wSs C ar n ss) Q)
end
structure SdS(C:Calls)(ar:Nat->Nat)(n:Nat):Prop where
 s:∀ {s:CS} {ρ S Q},wS C ar n s ρ S Q->OkS (evS C ar n s ρ S) Q
 ss:∀ {ss:List CS} {ρ S Q},wSs C ar n ss ρ S Q->OkS (gc C ar n ss ρ S) Q
def DK:∀n,SdS C ar n
 |0=>⟨λh=>by simp only[wS] at h,λh=>by simp only[wSs] at h⟩
 |n+1=>by
  have h:=DK n;have g:SndW C ar n:=qx n;refine⟨λ{s ρ S Q} w=>?_,λ{ss ρ S Q} w=>?_⟩
  ·cases s with
   |asg t e=>simp only[evS,GL];simp only[wS] at w;exact(g.e _ _ _ w).mono λd p w=>MZ w
   |setI v o i=>simp only[evS,Dg];simp only[wS] at w;exact(g.e _ _ _ w).mono λa p w=>(g.e _ _ _ w).mono λb J w=>g.e _ _ _ w
   |swp v o i q j=>
    obtain⟨d,p,E,a,b,rfl,w⟩:=g.e _ _ _ w;obtain⟨x,J,B,w⟩:=g.e _ _ _ w;obtain⟨y,S3,T,S4,O,w⟩:=g.e _ _ _ w;obtain⟨z,S5,Z,w⟩:=g.e _ _ _ w;obtain⟨u,S6,e6,S7,Y,w⟩:=g.e _ _ _ w;refine⟨.nx,ρ,S7,?_,w⟩;show Cb (evE C ar n v) (evE C ar n o) (evE C ar n i) (evE C ar n q) (evE C ar n j) ρ S=_;unfold Cb;rw[E];have h1:nu a (evE C ar n o) (evE C ar n i) ρ p=aa S4:=by unfold nu;rw[B];dsimp only;rw[T];exact O
    have L:nu b (evE C ar n q) (evE C ar n j) ρ S4=aa S7:=by unfold nu;rw[Z];dsimp only;rw[e6];exact Y
    dsimp only[F5];rw[h1];dsimp only;rw[L];rfl
   |dcs i own k v t I=>
    simp only[wS] at w;obtain⟨nx,p,E,f,U,J,B,rfl,w⟩:=g.i _ _ _ w;refine⟨_,_,_,?_,w⟩;show zO i own.length (evI C ar n I) t (evE C ar n k) (evE C ar n v) LF ρ S=_;unfold zO;rw[E];dsimp only;rw[B]
   |ex e=>simp only[evS,Df];simp only[wS] at w;exact g.e _ _ _ w
   |ret e=>simp only[evS,GM];simp only[wS] at w;exact g.e _ _ _ w
   |ifs c a b=>
    simp only[evS,Mn];simp only[wS] at w;refine(g.t _ _ _ w).mono λt p w=>?_;cases t with
    |true=>exact h.ss w
    |false=>exact h.ss w
   |for_ t I b=>simp only[evS,GN];simp only[wS] at w;exact g.i _ _ _ w
   |cnt=>simp only[wS] at w;simp only[evS];exact⟨_,_,_,rfl,w⟩
   |never=>simp only[wS] at w
  ·cases ss with
   |nil=>simp only[wSs] at w;simp only[gc];exact⟨_,_,_,rfl,w⟩
   |cons s ss=>
    simp only[wSs] at w;simp only[gc,GK];refine(h.s w).mono λf X p w=>?_;cases f with
    |nx=>exact h.ss w
    |_=>exact w
def DM{ss:List CS}{b:Rho}{S:Sto}{Q:Fl->Rho->Sto->Prop}(h:rW (wSs C ar n ss) b S Q):OkS (gc C ar n ss b S) Q:=(DK n).ss h
def DN{s:CS}{ss:List CS}{b:Rho}{S:Sto}{Q:Fl->Rho->Sto->Prop}(h:wS C ar n s b S (wNx (wSs C ar n ss) Q)):rW (wSs C ar (n+1) (s::ss)) b S Q:=h
def Ha{b:Rho}{S:Sto}{Q:Fl->Rho->Sto->Prop}(h:Q .nx b S):rW (wSs C ar (n+1) []) b S Q:=h
end
section
variable {C:Calls} {ar:Nat->Nat} {A B:Prop} {S S1:Sto} {Q:D->Sto->Prop} {Ql:List D->Sto->Prop} {Qn:Nxt->Sto->Prop} {Qb:Bool->Prop} {Qi:Int->Prop} {Qd:D->Prop} {Qr:Rho->Prop} {Qt:Bool->Sto->Prop} {Qs:Fl->Rho->Sto->Prop} {t:Bool} {d x y:D} {i j:Int} {n m f:Nat} {s:Str} {o:BOp} {c p:COp} {ds xs ys:List D} {l h:Option Int} {tg:Tg} {ts:List Tg} {ρ ρ2:Rho} {es:List CE} {a b e:CE} {oa ob cd:Option CE} {own:List Str} {it:CI} {rest:List Cl} {ty:Ty} {w wl:WP (List D)} {wv:WP D} {sa sb:List CS} {ws:WS} {od:Option D} {g:D->D->Sto->(D->Sto->Prop)->Prop}
def M0:wE C ar (n+1) (.non) ρ S Q=(Q .non S):=rfl
def Ri:wE C ar (n+1) (.bl t) ρ S Q=(Q (.bl t) S):=rfl
def M1:wE C ar (n+1) (.int i) ρ S Q=(Q (.int i) S):=rfl
def M2:wE C ar (n+1) (.str s) ρ S Q=(Q (.str s) S):=rfl
def M3:wE C ar (n+1) (.con m i) ρ S Q=(Q (.int i) S):=rfl
def M4:wE C ar (n+1) (.var m) ρ S Q=(wu ρ m λd=>Q d S):=rfl
def M5:wE C ar (n+1) (.tup es) ρ S Q=(fQ 60 es (wA C ar n es ρ S λds S1=>Q (.tup ds) S1)):=rfl
def M6:wE C ar (n+1) (.lst es) ρ S Q=(fQ 60 es (wA C ar n es ρ S λds S1=>Q (.ref S1.length) (S1++[.lst ds]))):=rfl
def Hb:wE C ar (n+1) (.dic0) ρ S Q=(Q (.ref (Zc S)) (S++[.dic [] []])):=rfl
def Hc:wE C ar (n+1) (.dic1 i j) ρ S Q=(Q (.ref (Zc S)) (S++[.dic [pd i] [.int j]])):=rfl
def M7:wE C ar (n+1) (.bin o a b) ρ S Q=(wE C ar n a ρ S λx S1=>wE C ar n b ρ S1 λy q=>ww o x y q Q):=rfl
def M8:wE C ar (n+1) (.neg a) ρ S Q=(wE C ar n a ρ S λd S1=>dN d λi=>Q (.int (-i)) S1):=rfl
def M9:wE C ar (n+1) (.cmp c a b) ρ S Q=(wE C ar n a ρ S λx S1=>wE C ar n b ρ S1 λy q=>wCm c x y q Q):=rfl
def Na:wE C ar (n+1) (.chn c p a b e) ρ S Q=(wE C ar n a ρ S λx S1=>wE C ar n b ρ S1 λy v=>wCm c x y v λr q=>wBl r λt=>wIf t (wE C ar n e ρ q λz u=>wCm p y z u Q) (Q (.bl aT) q)):=rfl
def Nb:wE C ar (n+1) (.and a b) ρ S Q=(wE C ar n a ρ S λd S1=>wBl d λt=>wIf t (wE C ar n b ρ S1 Q) (Q (.bl aT) S1)):=rfl
def Rj:wE C ar (n+1) (.or a b) ρ S Q=(wE C ar n a ρ S λd S1=>wBl d λt=>wIf t (Q (.bl aN) S1) (wE C ar n b ρ S1 Q)):=rfl
def Nc:wE C ar (n+1) (.not a) ρ S Q=(wE C ar n a ρ S λd S1=>wBl d λt=>Q (.bl (!t)) S1):=rfl
def Rk:wE C ar (n+1) (.ix a b) ρ S Q=(aX (aq a) (wTm C ar n a) (wE C ar n a) ρ S (λds S1=>wE C ar n b ρ S1 λi q=>dN i λk=>∃d,atI ds k=aa d/\Q d q) (λd S1=>wE C ar n b ρ S1 λi q=>Ok (ixS d i q) Q)):=rfl
def Hd:wE C ar (n+1) (.sl a aD aD) ρ S Q=(wE C ar n a ρ S λd S1=>wx aD aD d S1 Q):=rfl
def He:wE C ar (n+1) (.sl a aD (aa b)) ρ S Q=(wE C ar n a ρ S λd S1=>wE C ar n b ρ S1 λy q=>dN y λj=>wx aD (aa j) d q Q):=rfl
def Hf:wE C ar (n+1) (.sl a (aa b) aD) ρ S Q=(wE C ar n a ρ S λd S1=>wE C ar n b ρ S1 λy q=>dN y λj=>wx (aa j) aD d q Q):=rfl
def Hg:wE C ar (n+1) (.sl a (aa b) (aa e)) ρ S Q=(wE C ar n a ρ S λd S1=>wE C ar n b ρ S1 λy q=>dN y λj=>wE C ar n e ρ q λz u=>dN z λk=>wx (aa j) (aa k) d u Q):=rfl
def Hh:wE C ar (n+1) (.call f es) ρ S Q=(wA C ar n es ρ S λds S1=>ds.length=ar f/\Ok (C f ds S1) Q):=rfl
def Hi:wE C ar (n+1) (.inst ty a) ρ S Q=(wE C ar n a ρ S λd S1=>Ok (nc ty d S1) Q):=rfl
def Nd:wE C ar (n+1) (.len a) ρ S Q=(aX (aq a) (wTm C ar n a) (wE C ar n a) ρ S (λds S1=>Ok (b7 aT ds S1) Q) (λd S1=>Ok (aw b7 d S1) Q)):=rfl
def Nf:wE C ar (n+1) (.all a) ρ S Q=(aX (aq a) (wTm C ar n a) (wE C ar n a) ρ S (λds S1=>Ok (lI aT ds S1) Q) (λd S1=>Ok (aw lI d S1) Q)):=rfl
def Nh:wE C ar (n+1) (.any a) ρ S Q=(aX (aq a) (wTm C ar n a) (wE C ar n a) ρ S (λds S1=>Ok (o9 aT ds S1) Q) (λd S1=>Ok (aw o9 d S1) Q)):=rfl
def DP:wE C ar (n+1) (.tupOf a) ρ S Q=(aX (aq a) (wTm C ar n a) (wE C ar n a) ρ S (λds S1=>Ok (j3 aT ds S1) Q) (λd S1=>Ok (aw j3 d S1) Q)):=rfl
def Ni:wE C ar (n+1) (.mxL a) ρ S Q=(aX (aq a) (wTm C ar n a) (wE C ar n a) ρ S (λds S1=>Ok (lJ aT ds S1) Q) (λd S1=>Ok (aw lJ d S1) Q)):=rfl
def Al:wE C ar (n+1) (.listOf a) ρ S Q=(aX (aq a) (wTm C ar n a) (wE C ar n a) ρ S (λds S1=>Q (.ref S1.length) (S1++[.lst ds])) (λd S1=>Ok ((av d S1).map λr=>(r.2,S1)) λds S1=>Q (.ref S1.length) (S1++[.lst ds]))):=rfl
def DQ:wE C ar (n+1) (.listR a) ρ S Q=(wE C ar n a ρ S λd S1=>∃i:Nat,d = .int i/\i<=1000/\Q (.ref S1.length) (S1++[.lst ((Ze i).map λj=>.int (Int.ofNat j))])):=rfl
def Am:wE C ar (n+1) (.listR2 a b) ρ S Q=(wE C ar n a ρ S λd S1=>wE C ar n b ρ S1 λe q=>∃i j,d = .int i/\e = .int j/\-100000<=i/\i<=j/\j<=i+20000/\i<=100000/\Q (.ref q.length) (q++[.lst (rgD i j)])):=rfl
def Nj:wE C ar (n+1) (.srt a) ρ S Q=(aX (aq a) (wTm C ar n a) (wE C ar n a) ρ S (λds S1=>∃es,df aT ds=aa es/\Q (.ref S1.length) (S1++[.lst es])) (λd S1=>∃r es,av d S1=aa r/\df r.1 r.2=aa es/\Q (.ref S1.length) (S1++[.lst es]))):=rfl
def DR:wE C ar (n+1) (.intOf a) ρ S Q=(wE C ar n a ρ S λd S1=>Ok (B5 d S1) Q):=rfl
def Nk:wE C ar (n+1) (.rev a) ρ S Q=(wE C ar n a ρ S λd S1=>Ok (vU d S1) Q):=rfl
def Rm:wE C ar (n+1) (.mx a b) ρ S Q=(wA C ar n [a,b] ρ S λds S1=>w2 DF ds S1 Q):=rfl
def Rn:wE C ar (n+1) (.mn a b) ρ S Q=(wA C ar n [a,b] ρ S λds S1=>w2 DG ds S1 Q):=rfl
def Nl:wE C ar (n+1) (.rep a) ρ S Q=(wE C ar n a ρ S λd S1=>Ok (ip d S1) Q):=rfl
def Hj:wE C ar (n+1) (.comp own a (⟨tg,it,cd⟩::rest)) ρ S Q=(wI C ar n it ρ S λnx S1=>um own [] λr=>uo ρ r λq=>wFt tg q (Ok (bA nx tg (cnd (evT C ar n) cd (im C ar n a rest)) q LF 0 S1) λes u=>es.length<=100000/\Q (.ref u.length) (u++[.lst es]))):=rfl
def Nm:wE C ar (n+1) (.app a b) ρ S Q=(wE C ar n a ρ S λd S1=>fb d S1=aN/\wA C ar n [b] ρ S1 λq u=>Ok (vN d q u) Q):=rfl
def DS:wE C ar (n+1) (.popAt a b) ρ S Q=(wE C ar n a ρ S λd S1=>fb d S1=aN/\wA C ar n [b] ρ S1 λq u=>Ok (fD d q u) Q):=rfl
def Nn:wE C ar (n+1) (.ins a b e) ρ S Q=(wE C ar n a ρ S λd S1=>fb d S1=aN/\wA C ar n [b,e] ρ S1 λq u=>Ok (vQ d q u) Q):=rfl
def Np:wE C ar (n+1) (.cnt a b) ρ S Q=(wE C ar n a ρ S λd S1=>isTup d=aN/\wA C ar n [b] ρ S1 λq u=>Ok (vO d q u) Q):=rfl
def SU:wA C ar (n+1) [] ρ S Ql=Ql [] S:=rfl
def SV:wA C ar (n+1) (a::es) ρ S Ql=(wE C ar n a ρ S λd S1=>wA C ar n es ρ S1 λds q=>Ql (d::ds) q):=rfl
def Nq:wTm C ar (n+1) (.lst es) ρ S Ql=fQ 60 es (wA C ar n es ρ S Ql):=rfl
def An:wTm C ar (n+1) (.listOf a) ρ S Ql=(aX (aq a) (wTm C ar n a) (wE C ar n a) ρ S (λds S1=>Ql ds S1) (λd S1=>Ok ((av d S1).map λr=>(r.2,S1)) Ql)):=rfl
def DT:wTm C ar (n+1) (.listR a) ρ S Ql=(wE C ar n a ρ S λd S1=>∃i:Nat,d = .int i/\i<=1000/\Ql ((Ze i).map λj=>.int (Int.ofNat j)) S1):=rfl
def Ao:wTm C ar (n+1) (.listR2 a b) ρ S Ql=(wE C ar n a ρ S λd S1=>wE C ar n b ρ S1 λe q=>∃i j,d = .int i/\e = .int j/\-100000<=i/\i<=j/\j<=i+20000/\i<=100000/\Ql (rgD i j) q):=rfl
def Nt:wTm C ar (n+1) (.srt a) ρ S Ql=(aX (aq a) (wTm C ar n a) (wE C ar n a) ρ S (λds S1=>∃es,df aT ds=aa es/\Ql es S1) (λd S1=>∃r es,av d S1=aa r/\df r.1 r.2=aa es/\Ql es S1)):=rfl
def Hk:wTm C ar (n+1) (.comp own a (⟨tg,it,cd⟩::rest)) ρ S Ql=(wI C ar n it ρ S λnx S1=>um own [] λr=>uo ρ r λq=>wFt tg q (Ok (bA nx tg (cnd (evT C ar n) cd (im C ar n a rest)) q LF 0 S1) λes u=>es.length<=100000/\Ql es u)):=rfl
def Nu:wI C ar (n+1) (.val a) ρ S Qn=(aX (aq a) (wTm C ar n a) (wE C ar n a) ρ S (λds S1=>Qn (nxL ds) S1) (λd S1=>DB d S1 Qn)):=rfl
def Ro:wI C ar (n+1) (.en a) ρ S Qn=(aX (aq a) (wTm C ar n a) (wE C ar n a) ρ S (λds S1=>Qn (zK ds) S1) (λd S1=>DC d S1 Qn)):=rfl
def Rp:wI C ar (n+1) (.r1 a) ρ S Qn=(wE C ar n a ρ S λd S1=>dN d λj=>lim j=aN/\Qn (nxR 0 j.toNat) S1):=rfl
def Rq:wI C ar (n+1) (.r2 a b) ρ S Qn=(wE C ar n a ρ S λd S1=>wE C ar n b ρ S1 λe q=>dN d λi=>dN e λj=>(lim i=aN/\lim j=aN)/\Qn (nxR i (j - i).toNat) q):=rfl
def Nv:wT C ar (n+1) (.cmp c a b) ρ S Qt=(wE C ar n a ρ S λx S1=>wE C ar n b ρ S1 λy q=>wCm c x y q λd u=>wBl d λt=>Qt t u):=rfl
def Nw:wT C ar (n+1) (.chn c p a b e) ρ S Qt=(wE C ar n a ρ S λx S1=>wE C ar n b ρ S1 λy E=>wCm c x y E λr q=>wBl r λt=>wIf t (wE C ar n e ρ q λz u=>wCm p y z u λd v=>wBl d λt=>Qt t v) (wBl (.bl aT) λt=>Qt t q)):=rfl
def Nx:wT C ar (n+1) (.and a b) ρ S Qt=(wT C ar n a ρ S λt S1=>wIf t (wT C ar n b ρ S1 Qt) (Qt aT S1)):=rfl
def Rr:wT C ar (n+1) (.or a b) ρ S Qt=(wT C ar n a ρ S λt S1=>wIf t (Qt aN S1) (wT C ar n b ρ S1 Qt)):=rfl
def Ny:wT C ar (n+1) (.not a) ρ S Qt=(wT C ar n a ρ S λt S1=>Qt (!t) S1):=rfl
def Rs:wT C ar (n+1) (.bl t) ρ S Qt=(wE C ar n (.bl t) ρ S λd S1=>cO d S1 Qt):=rfl
def Nz:wT C ar (n+1) (.var m) ρ S Qt=(wE C ar n (.var m) ρ S λd S1=>cO d S1 Qt):=rfl
def Hl:wT C ar (n+1) (.call f es) ρ S Qt=(wE C ar n (.call f es) ρ S λd S1=>cO d S1 Qt):=rfl
def Hm:wT C ar (n+1) (.inst ty a) ρ S Qt=(wE C ar n (.inst ty a) ρ S λd S1=>cO d S1 Qt):=rfl
def NA:wT C ar (n+1) (.all a) ρ S Qt=(wE C ar n (.all a) ρ S λd S1=>cO d S1 Qt):=rfl
def NC:wT C ar (n+1) (.any a) ρ S Qt=(wE C ar n (.any a) ρ S λd S1=>cO d S1 Qt):=rfl
def ND:wT C ar (n+1) (.len a) ρ S Qt=(wE C ar n (.len a) ρ S λd S1=>cO d S1 Qt):=rfl
def Rt:wT C ar (n+1) (.ix a b) ρ S Qt=(wE C ar n (.ix a b) ρ S λd S1=>cO d S1 Qt):=rfl
def NF:wT C ar (n+1) (.lst es) ρ S Qt=(wE C ar n (.lst es) ρ S λd S1=>cO d S1 Qt):=rfl
def NG:wT C ar (n+1) (.tup es) ρ S Qt=(wE C ar n (.tup es) ρ S λd S1=>cO d S1 Qt):=rfl
def SX:wCl C ar n a [] ρ S Ql=(wE C ar n a ρ S λd S1=>Ql [d] S1):=rfl
def SY:wCl C ar n a (⟨tg,it,cd⟩::rest) ρ S Ql=(wFt tg ρ (wI C ar n it ρ S λnx S1=>Ok (bA nx tg (cnd (evT C ar n) cd (im C ar n a rest)) ρ LF 0 S1) Ql)):=rfl
def SZ:G7 (wT C ar n) aD w ρ S Ql=w ρ S Ql:=rfl
def Ta:G7 (wT C ar n) (aa a) w ρ S Ql=(wT C ar n a ρ S λt S1=>wIf t (w ρ S1 Ql) (Ql [] S1)):=rfl
def NH:wS C ar (n+1) (.asg tg a) ρ S Qs=(wE C ar n a ρ S λd S1=>wBd tg d ρ λq=>Qs .nx q S1):=rfl
def Hn:wS C ar (n+1) (.setI a b e) ρ S Qs=(wE C ar n a ρ S λx S1=>wE C ar n b ρ S1 λy u=>wE C ar n e ρ u λz v=>∃q,fc y z x v=aa q/\Qs .nx ρ q):=rfl
def NI{f g:CE}:wS C ar (n+1) (.swp e a b f g) ρ S Qs=(wE C ar n e ρ S λd S1=>∃s t,d = .tup [s,t]/\wE C ar n a ρ S1 λx I=>wE C ar n b ρ I λy J=>∃q,fc x y s J=aa q/\wE C ar n f ρ q λz v=>wE C ar n g ρ v λw E=>∃u,fc z w t E=aa u/\Qs .nx ρ u):=rfl
def Ru:wS C ar (n+1) (.ex a) ρ S Qs=(wE C ar n a ρ S λ_ S1=>Qs .nx ρ S1):=rfl
def NJ:wS C ar (n+1) (.ret a) ρ S Qs=(wE C ar n a ρ S λd S1=>Qs (.rt d) ρ S1):=rfl
def NK:wS C ar (n+1) (.ifs a sa sb) ρ S Qs=(wT C ar n a ρ S λt S1=>wIf t (rW (wSs C ar n sa) ρ S1 Qs) (rW (wSs C ar n sb) ρ S1 Qs)):=rfl
def NL:wS C ar (n+1) (.for_ tg it sa) ρ S Qs=(wI C ar n it ρ S λnx S1=>OkS (dM nx tg (gc C ar n sa) LF 0 ρ S1) Qs):=rfl
def NM{i:Nat}{own:List Str}:wS C ar (n+1) (.dcs i own a b tg it) ρ S Qs=(wI C ar n it ρ S λnx S1=>OkS (dM nx tg (vT S1.length (evE C ar n a) (evE C ar n b)) LF 0 (ρ++Zq own.length aD) (S1++[.dic [] []])) λf _ q=>f = .nx/\Qs .nx (ρ.set i (aa (.ref S1.length))) q):=rfl
def NN:wS C ar (n+1) .cnt ρ S Qs=Qs .ct ρ S:=rfl
def Rv:wNx ws Qs .nx ρ S=rW ws ρ S Qs:=rfl
def Rx:wNx ws Qs (.rt d) ρ S=Qs (.rt d) ρ S:=rfl
def Ry:wNx ws Qs .bk ρ S=Qs .bk ρ S:=rfl
def Rz:wNx ws Qs .ct ρ S=Qs .ct ρ S:=rfl
def NP:wIf (aN && t) A B=wIf t A B:=rfl
def NQ:wIf (aT && t) A B=B:=rfl
def NR:wIf (aN || t) A B=A:=rfl
def Ho:wIf (aT || t) A B=wIf t A B:=rfl
def Hq:wIf (!(aN && t)) A B=wIf (!t) A B:=rfl
def Hr:wIf (!(aT && t)) A B=A:=rfl
def Ht:wIf (!(aN || t)) A B=B:=rfl
def Hu:wIf (!(aT || t)) A B=wIf (!t) A B:=rfl
def RA:wIf aN A B=A:=rfl
def RB:wIf aT A B=B:=rfl
def NS:wIf (!aN) A B=B:=rfl
def NT:wIf (!aT) A B=A:=rfl
def RC:wBl (.bl t) Qb=Qb t:=rfl
def NU:dN (.int i) Qi=Qi i:=rfl
def NV:wu (aa d::ρ) 0 Qd=Qd d:=rfl
def NX:wu (od::ρ) (n+1) Qd=wu ρ n Qd:=rfl
def RD:wFr (aD::ρ) 0 A=A:=rfl
def RE:wFr (od::ρ) (n+1) A=wFr ρ n A:=rfl
def NY:ul [] ρ A=A:=rfl
def NZ:ul (.name m::ts) ρ A=wFr ρ m (ul ts ρ A):=rfl
def RF:wFt (.name m) ρ A=wFr ρ m A:=rfl
def RG:wFt (.tup ts) ρ A=ul ts ρ A:=rfl
def N2:um [] ρ Qr=Qr ρ:=rfl
def Oa:um (s::own) ρ Qr=um own (aD::ρ) Qr:=rfl
def Oc:uo [] ρ Qr=Qr ρ:=rfl
def Od:uo (od::ρ) ρ2 Qr=uo ρ ρ2 λr=>Qr (od::r):=rfl
def RH:fQ (n+1) [] A=A:=rfl
def RI:fQ (n+1) (a::es) A=fQ n es A:=rfl
def RJ:wNm 0 d (od::ρ) Qr=Qr (aa d::ρ):=rfl
def RK:wNm (n+1) d (od::ρ) Qr=wNm n d ρ λr=>Qr (od::r):=rfl
def RL:wBs [] [] ρ Qr=Qr ρ:=rfl
def RM:wBs (.name m::ts) (d::ds) ρ Qr=wNm m d ρ λr=>wBs ts ds r Qr:=rfl
def RN:wBd (.name m) d ρ Qr=wNm m d ρ Qr:=rfl
def RO:wBd (.tup ts) d ρ Qr=wTp ts d ρ Qr:=rfl
def RP:wTp ts (.tup ds) ρ Qr=wBs ts ds ρ Qr:=rfl
def Hv:wII .add i j S Q=Q (.int (i+j)) S:=rfl
def Hw:wII .sub i j S Q=Q (.int (i - j)) S:=rfl
def Hx:wII .mul i j S Q=(jk i j=aN/\Q (.int (i * j)) S):=rfl
def Hy:wII .mod i j S Q=(0 < j/\Q (.int (i % j)) S):=rfl
def DU:wII .fdiv i j S Q=((0 < j/\j < 1298074214633706907132624082305024)/\Q (.int (i / j)) S):=rfl
def Hz:wII .pow i j S Q=((0<=j/\j<=1000000/\i.natAbs < 2 ^ 64)/\Q (.int (i ^ j.toNat)) S):=rfl
def HA:wTT .add xs ys S Q=(xs.length+ys.length<=1000/\Q (.tup (xs++ys)) S):=rfl
def HB:Du o i (.int j) S Q=wII o i j S Q:=rfl
def HC:yD o xs (.tup ys) S Q=wTT o xs ys S Q:=rfl
def HD:yD o xs (.int j) S Q=Ok (b6 o (.tup xs) (.int j) S) Q:=rfl
def Oe:ww o (.int i) y S Q=Du o i y S Q:=rfl
def Og:ww o (.tup xs) y S Q=yD o xs y S Q:=rfl
def Oh:ww o (.ref n) y S Q=Ok (b6 o (.ref n) y S) Q:=rfl
def Oi:ww o (.str s) y S Q=Ok (b6 o (.str s) y S) Q:=rfl
def Oj:wCI .eq i j S Q=Q (.bl (decide (i=j))) S:=rfl
def Ol:wCm .eq x y S Q=wCx .eq x y S Q:=rfl
def Om:wCI .ne i j S Q=Q (.bl (!decide (i=j))) S:=rfl
def Oo:wCm .ne x y S Q=wCx .ne x y S Q:=rfl
def Op:wCI .lt i j S Q=Q (.bl (decide (i < j))) S:=rfl
def Oq:wCm .lt x y S Q=wCx .lt x y S Q:=rfl
def Ot:wCI .le i j S Q=Q (.bl (decide (i<=j))) S:=rfl
def Ou:wCm .le x y S Q=wCx .le x y S Q:=rfl
def Ov:wCI .gt i j S Q=Q (.bl (decide (j < i))) S:=rfl
def Ow:wCm .gt x y S Q=wCx .gt x y S Q:=rfl
def Ox:wCI .ge i j S Q=Q (.bl (decide (j<=i))) S:=rfl
def Oy:wCm .ge x y S Q=wCx .ge x y S Q:=rfl
def Oz:wCm .is x y S Q=Ok (aC .is x y S) Q:=rfl
def Ap:wCm .isnot x y S Q=Ok (aC .isnot x y S) Q:=rfl
def DV:wCm .isin x y S Q=Ok (aC .isin x y S) Q:=rfl
def Aq:wCm .notin x y S Q=Ok (aC .notin x y S) Q:=rfl
def RQ:wCx c (.int i) y S Q=MM c i y S Q:=rfl
def RT:wCx c (.tup xs) y S Q=Ak c xs y S Q:=rfl
def RU:wCx c .non y S Q=Ok (aC c .non y S) Q:=rfl
def RV:wCx c (.bl t) y S Q=Ok (aC c (.bl t) y S) Q:=rfl
def RX:wCx c (.str s) y S Q=Ok (aC c (.str s) y S) Q:=rfl
def RY:wCx c (.ref n) y S Q=Ok (aC c (.ref n) y S) Q:=rfl
def OA:MM c i (.int j) S Q=wCI c i j S Q:=rfl
def OB:Ak .eq xs (.tup []) S Q=Q (.bl xs.isEmpty) S:=rfl
def OC:Ak .ne xs (.tup []) S Q=Q (.bl (!xs.isEmpty)) S:=rfl
def HE:Ak .eq xs (.tup (y::ys)) S Q=Ok (aC .eq (.tup xs) (.tup (y::ys)) S) Q:=rfl
def HF:Ak .ne xs (.tup (y::ys)) S Q=Ok (aC .ne (.tup xs) (.tup (y::ys)) S) Q:=rfl
def OD:wx l h (.tup ds) S Q=Q (.tup (il ds l h)) S:=rfl
def OE:wx l h (.ref n) S Q=Ok (slS l h (.ref n) S) Q:=rfl
def OG:DB (.tup ds) S Qn=Qn (nxL ds) S:=rfl
def OH:DB (.ref n) S Qn=((aP S n).isSome=aN/\Qn (nxS n) S):=rfl
def OI:DC (.tup ds) S Qn=Qn (zK ds) S:=rfl
def OJ:DC (.ref n) S Qn=((aP S n).isSome=aN/\Qn (zL n) S):=rfl
def HG:cO (.bl t) S Qt=Qt t S:=rfl
def HH:cO (.tup ds) S Qt=Qt (!ds.isEmpty) S:=rfl
def HI:cO (.int i) S Qt=Qt (i != 0) S:=rfl
def HJ:cO (.ref n) S Qt=Ok (jZ (.ref n) S) Qt:=rfl
def Tb:w2 g [x,y] S Q=g x y S Q:=rfl
def OK:DF (.int i) (.int j) S Q=Q (.int (if j > i then j else i)) S:=rfl
def OL:DG (.int i) (.int j) S Q=Q (.int (if j < i then j else i)) S:=rfl
def HK:aX (aq (.lst es)) wl wv ρ S Ql Q=wl ρ S Ql:=rfl
def wH:aX (aq (.listOf a)) wl wv ρ S Ql Q=wl ρ S Ql:=rfl
def Ar:aX (aq (.listR a)) wl wv ρ S Ql Q=wl ρ S Ql:=rfl
def wJ:aX (aq (.listR2 a b)) wl wv ρ S Ql Q=wl ρ S Ql:=rfl
def HL:aX (aq (.srt a)) wl wv ρ S Ql Q=wl ρ S Ql:=rfl
def DW:aX (aq (.comp own a rest)) wl wv ρ S Ql Q=wl ρ S Ql:=rfl
def HM:aX (aq (.non)) wl wv ρ S Ql Q=wv ρ S Q:=rfl
def OM:aX (aq (.bl t)) wl wv ρ S Ql Q=wv ρ S Q:=rfl
def HN:aX (aq (.int i)) wl wv ρ S Ql Q=wv ρ S Q:=rfl
def HP:aX (aq (.str s)) wl wv ρ S Ql Q=wv ρ S Q:=rfl
def HQ:aX (aq (.var m)) wl wv ρ S Ql Q=wv ρ S Q:=rfl
def HR:aX (aq (.con m i)) wl wv ρ S Ql Q=wv ρ S Q:=rfl
def HS:aX (aq (.tup es)) wl wv ρ S Ql Q=wv ρ S Q:=rfl
def DX:aX (aq (.dic0)) wl wv ρ S Ql Q=wv ρ S Q:=rfl
def DY:aX (aq (.dic1 i j)) wl wv ρ S Ql Q=wv ρ S Q:=rfl
def HU:aX (aq (.bin o a b)) wl wv ρ S Ql Q=wv ρ S Q:=rfl
def HV:aX (aq (.neg a)) wl wv ρ S Ql Q=wv ρ S Q:=rfl
def HW:aX (aq (.cmp c a b)) wl wv ρ S Ql Q=wv ρ S Q:=rfl
def HX:aX (aq (.chn c p a b e)) wl wv ρ S Ql Q=wv ρ S Q:=rfl
def HY:aX (aq (.and a b)) wl wv ρ S Ql Q=wv ρ S Q:=rfl
def OO:aX (aq (.or a b)) wl wv ρ S Ql Q=wv ρ S Q:=rfl
def HZ:aX (aq (.not a)) wl wv ρ S Ql Q=wv ρ S Q:=rfl
def OP:aX (aq (.ix a b)) wl wv ρ S Ql Q=wv ρ S Q:=rfl
def OQ:aX (aq (.sl a oa ob)) wl wv ρ S Ql Q=wv ρ S Q:=rfl
def DZ:aX (aq (.call f es)) wl wv ρ S Ql Q=wv ρ S Q:=rfl
def D0:aX (aq (.inst ty a)) wl wv ρ S Ql Q=wv ρ S Q:=rfl
def Ia:aX (aq (.len a)) wl wv ρ S Ql Q=wv ρ S Q:=rfl
def Ib:aX (aq (.all a)) wl wv ρ S Ql Q=wv ρ S Q:=rfl
def Ic:aX (aq (.any a)) wl wv ρ S Ql Q=wv ρ S Q:=rfl
def As:aX (aq (.tupOf a)) wl wv ρ S Ql Q=wv ρ S Q:=rfl
def Ie:aX (aq (.mxL a)) wl wv ρ S Ql Q=wv ρ S Q:=rfl
def Au:aX (aq (.intOf a)) wl wv ρ S Ql Q=wv ρ S Q:=rfl
def Ig:aX (aq (.rev a)) wl wv ρ S Ql Q=wv ρ S Q:=rfl
def OT:aX (aq (.mx a b)) wl wv ρ S Ql Q=wv ρ S Q:=rfl
def OU:aX (aq (.mn a b)) wl wv ρ S Ql Q=wv ρ S Q:=rfl
def Ih:aX (aq (.rep a)) wl wv ρ S Ql Q=wv ρ S Q:=rfl
def Ii:aX (aq (.app a b)) wl wv ρ S Ql Q=wv ρ S Q:=rfl
def Av:aX (aq (.popAt a b)) wl wv ρ S Ql Q=wv ρ S Q:=rfl
def Ij:aX (aq (.ins a b e)) wl wv ρ S Ql Q=wv ρ S Q:=rfl
def Ik:aX (aq (.cnt a b)) wl wv ρ S Ql Q=wv ρ S Q:=rfl
def ac{u:Type}{z:Option (u × Sto)}{r:u}{v:Sto}{K:u->Sto->Prop}(e:z=aa (r,v))(q:K r v):Ok z K:=⟨r,v,e,q⟩
def fk(u:t=aN->A)(q:t=aT->B):wIf t A B:=by
 cases t with
 |true=>exact u rfl
 |false=>exact q rfl
end
end Ev
local macro_rules |`(tactic|k_go)=>`(tactic|dsimp only[↓Ev.M0,↓Ev.Ri,↓Ev.M1,↓Ev.M2,↓Ev.M3,↓Ev.M4,↓Ev.M5,↓Ev.M6,↓Ev.Hb,↓Ev.Hc,↓Ev.M7,↓Ev.M8,↓Ev.M9,↓Ev.Na,↓Ev.Nb,↓Ev.Rj,↓Ev.Nc,↓Ev.Rk,↓Ev.Hd,↓Ev.He,↓Ev.Hf,↓Ev.Hg,↓Ev.Hh,↓Ev.Hi,↓Ev.Nd,↓Ev.Nf,↓Ev.Nh,↓Ev.DP,↓Ev.Ni,↓Ev.Al,↓Ev.DQ,↓Ev.Am,↓Ev.Nj,↓Ev.DR,↓Ev.Nk,↓Ev.Rm,↓Ev.Rn,↓Ev.Nl,↓Ev.Hj,↓Ev.Nm,↓Ev.DS,↓Ev.Nn,↓Ev.Np,↓Ev.SU,↓Ev.SV,↓Ev.Nq,↓Ev.An,↓Ev.DT,↓Ev.Ao,↓Ev.Nt,↓Ev.Hk,↓Ev.Nu,↓Ev.Ro,↓Ev.Rp,↓Ev.Rq,↓Ev.Nv,↓Ev.Nw,↓Ev.Nx,↓Ev.Rr,↓Ev.Ny,↓Ev.Rs,↓Ev.Nz,↓Ev.Hl,↓Ev.Hm,↓Ev.NA,↓Ev.NC,↓Ev.ND,↓Ev.Rt,↓Ev.NF,↓Ev.NG,↓Ev.SX,↓Ev.SY,↓Ev.SZ,↓Ev.Ta,↓Ev.NH,↓Ev.Hn,↓Ev.NI,↓Ev.Ru,↓Ev.NJ,↓Ev.NK,↓Ev.NL,↓Ev.NM,↓Ev.NN,↓Ev.Rv,↓Ev.Rx,↓Ev.Ry,↓Ev.Rz,↓Ev.NP,↓Ev.NQ,↓Ev.NR,↓Ev.Ho,↓Ev.Hq,↓Ev.Hr,↓Ev.Ht,↓Ev.Hu,↓Ev.RA,↓Ev.RB,↓Ev.NS,↓Ev.NT,↓Ev.RC,↓Ev.NU,↓Ev.NV,↓Ev.NX,↓Ev.RD,↓Ev.RE,↓Ev.NY,↓Ev.NZ,↓Ev.RF,↓Ev.RG,↓Ev.N2,↓Ev.Oa,↓Ev.Oc,↓Ev.Od,↓Ev.RH,↓Ev.RI,↓Ev.RJ,↓Ev.RK,↓Ev.RL,↓Ev.RM,↓Ev.RN,↓Ev.RO,↓Ev.RP,↓Ev.Hv,↓Ev.Hw,↓Ev.Hx,↓Ev.Hy,↓Ev.DU,↓Ev.Hz,↓Ev.HA,↓Ev.HB,↓Ev.HC,↓Ev.HD,↓Ev.Oe,↓Ev.Og,↓Ev.Oh,↓Ev.Oi,↓Ev.Oj,↓Ev.Ol,↓Ev.Om,↓Ev.Oo,↓Ev.Op,↓Ev.Oq,↓Ev.Ot,↓Ev.Ou,↓Ev.Ov,↓Ev.Ow,↓Ev.Ox,↓Ev.Oy,↓Ev.Oz,↓Ev.Ap,↓Ev.DV,↓Ev.Aq,↓Ev.RQ,↓Ev.RT,↓Ev.RU,↓Ev.RV,↓Ev.RX,↓Ev.RY,↓Ev.OA,↓Ev.OB,↓Ev.OC,↓Ev.HE,↓Ev.HF,↓Ev.OD,↓Ev.OE,↓Ev.OG,↓Ev.OH,↓Ev.OI,↓Ev.OJ,↓Ev.HG,↓Ev.HH,↓Ev.HI,↓Ev.HJ,↓Ev.Tb,↓Ev.OK,↓Ev.OL,↓Ev.HK,↓Ev.wH,↓Ev.Ar,↓Ev.wJ,↓Ev.HL,↓Ev.DW,↓Ev.HM,↓Ev.OM,↓Ev.HN,↓Ev.HP,↓Ev.HQ,↓Ev.HR,↓Ev.HS,↓Ev.DX,↓Ev.DY,↓Ev.HU,↓Ev.HV,↓Ev.HW,↓Ev.HX,↓Ev.HY,↓Ev.OO,↓Ev.HZ,↓Ev.OP,↓Ev.OQ,↓Ev.DZ,↓Ev.D0,↓Ev.Ia,↓Ev.Ib,↓Ev.Ic,↓Ev.As,↓Ev.Ie,↓Ev.Au,↓Ev.Ig,↓Ev.OT,↓Ev.OU,↓Ev.Ih,↓Ev.Ii,↓Ev.Av,↓Ev.Ij,↓Ev.Ik,↓Ev.Mo,↓Ev.Mp])
local macro_rules |`(tactic|k_is)=>`(tactic|((with_reducible first |refine Ev.DM ?_ |refine Ev.MY ?_ |refine Ev.wcl_ok ?_ |skip);(try dsimp only[List.set_cons_zero,List.set_cons_succ]);(try k_go);(repeat ((with_reducible first |refine Ev.DN ?_ |refine Ev.Ha ?_);(try k_go)))))
namespace Lw
open PySem Ev
variable {p:Nat} {S:Sto} {k:Nat} {Q:D->Sto->Prop}
def oJ(h:TD p S t d)(q:Q (.bl (Dw.isW t)) S):Ok (evC af (k+1) 0 [d] S) Q:=by
 refine aA (d:=iV) (ρ:=[aa d]) rfl rfl ?_;dsimp only[iV,oi];k_is;refine ac (et h) ?_;k_is;cases t <;> first |exact q |(k_is;rw[et h,aE];exact q)
def qy{a b:Int}(h:TD p S t d)(q:Q (.bl (Dw.iS t a b)) S):Ok (evC af (k+2) 1 [d,.int a,.int b] S) Q:=by
 refine aA (d:=gB) (ρ:=[aa d,aa (.int a),aa (.int b)]) rfl rfl ?_;dsimp only[gB,kK];k_is;refine⟨rfl,oJ h ?_⟩;k_is;cases t with
 |int i=>
  obtain rfl:=h.int;dsimp only[Dw.isW];k_is;dsimp only[Dw.iS] at q;cases c:decide (a<=i) with
  |true=>rw[c] at q;exact q
  |false=>rw[c] at q;exact q
 |_=>exact q
def Aw(h:TD p S t d)(q:Q (.bl (Dw.iS t 0 9999)) S):Ok (evC af (k+3) 2 [d] S) Q:=by
 refine aA (d:=gC) (ρ:=[aa d]) rfl rfl ?_;dsimp only[gC,kL];k_is;exact⟨rfl,qy h q⟩
def ur{a b:Int}(h:TD p S t d)(q:Q (.bl (Dw.isT t a b)) S):Ok (evC af (k+1) 3 [d,.int a,.int b] S) Q:=by
 refine aA (d:=iW) (ρ:=[aa d,aa (.int a),aa (.int b)]) rfl rfl ?_;dsimp only[iW,oj];k_is;refine ac (et h) ?_;k_is;cases t with
 |tup T=>
  obtain⟨f,rfl,hs⟩:=h.tup;rw[show dU Ty.tuple (tyT (Dw.D.tup T))=aN from rfl];k_is;refine ac (MA hs) ?_;k_is;dsimp only[Dw.isT] at q;cases c:decide (a<=(T.length:Int)) with
  |true=>rw[c] at q;exact q
  |false=>rw[c] at q;exact q
 |_=>exact q
def ax{f:Int}(h:Pot p S)(b:0 < f)(g:f < 1298074214633706907132624082305024)(q:∀ (r:Int) c,0<=r->r < f->Dr p S c->Q (.int r) c):Ok (evC af (k+1) 43 [.ref p,.int f] S) Q:=by
 obtain⟨n,e⟩:=h;have lt:p < S.length:=(Zb.mp e).1;refine aA (d:=i6) (ρ:=[aa (.ref p),aa (.int f),aD]) rfl rfl ?_;dsimp only[i6,ow];k_is;have ix:ixS (.ref p) (.int 0) S=aa (.int n,S):=by simp only[ixS,av,aP,e];rfl
 refine ac ix ?_;k_is;refine⟨b,?_⟩;k_is;refine ac ix ?_;k_is;refine⟨⟨b,g⟩,?_⟩;k_is;refine⟨S.set p (.lst [.int (n / f)]),by simp only[fc,e];rfl,?_⟩;exact q _ _ (Wk _ (by omega)) (X0 _ b) ⟨ME,_,ja lt⟩
def Il{c:Nat}{ns:List Int}(h:S[0]?=aa (.frz (ns.map D.int)))(q:∀i:Int,Q (.int i) S):Ok (evC af (k+1) 41 [.ref 0,.int c] S) Q:=by
 refine aA (d:=eO) (ρ:=[aa (.ref 0),aa (.int c)]) rfl rfl ?_;dsimp only[eO,iC];k_is;have L:aw b7 (.ref 0) S=aa (.int ns.length,S):=by simp only[aw,av,aP,h,Zu,b7,Za]
 refine ac L ?_;k_is;refine fk (λb=>?_) λb=>?_
 ·k_is;have j:=of_decide_eq_true b;obtain⟨d,g,E⟩:=MG (ds:=ns.map D.int) (i:=c) (by omega) (by rw[Za];omega);have ix:ixS (.ref 0) (.int c) S=aa (d,S):=by simp only[ixS,av,aP,h,Zu,g]
  refine ac ix ?_;rw[Zj] at E;cases f:ns[(c:Int).toNat]? with
  |none=>rw[f] at E;cases E
  |some i=>rw[f] at E;cases E;exact q i
 ·k_is;exact q 0
def OV{c:Int}(q:∀n:Int,Q (.ref S.length) (S++[.lst [.int n]])):Ok (evC af (k+1) 42 [.int c] S) Q:=by
 refine aA (d:=kr) (ρ:=[aa (.int c),aD,aD,aD]) rfl rfl ?_;dsimp only[kr,qp];k_is;refine⟨⟨by decide,by decide,by decide⟩,?_⟩;k_is;refine fk (λ_=>?_) λ_=>?_
 ·k_is;refine⟨⟨by decide,by decide,by decide⟩,?_⟩;k_is;exact q _
 ·k_is;refine⟨by decide,?_⟩;refine fj (by decide) (λi b g=>g=S/\∃n:Int,∃u v,b=[aa (.int c),aa (.int n),u,v]) (λi b g h ⟨f,n,u,v,E⟩=>?_) (λb g ⟨f,n,u,v,E⟩=>?_) ⟨rfl,0,aD,aD,rfl⟩
  ·subst f E;refine⟨_,rfl,?_⟩;k_is;refine⟨by decide,?_⟩;k_is;refine⟨mh (by decide) (by decide),?_⟩;k_is;refine⟨yB (by decide) (by decide),by decide,?_⟩;k_is;have o:=Wk ((c % 2147483629+7919 * (0+(i:Int))+1) * 48271) (show(2147483647:Int) ≠ 0 by decide);have j:=X0 ((c % 2147483629+7919 * (0+(i:Int))+1) * 48271) (show(0:Int) < 2147483647 by decide);refine⟨mh (by omega) (by omega),?_⟩;k_is;refine⟨mh (by decide) (by decide),?_⟩;k_is;refine⟨by decide,?_⟩;k_is;refine⟨yB (by decide) (by decide),?_⟩;k_is;exact⟨rfl,_,_,_,rfl⟩
  ·subst f E;k_is;exact q n
end Lw
namespace Sn
open Ev
structure Sky where
 r:Int
 s:Int
 M:List (List Int)
 H:List (Int × Int)
 ah:Option (Int × Int)
 G:List (List Int)
 F:List Int
abbrev gi(G:List (List Int))(i:Int)(k:Nat):Int:=((G[i.toNat]?).getD []).getD k 0
abbrev Ris:Int->List (Int × Int)->Prop
 |_,[]=>True
 |lo,p::l=>lo < p.1/\p.1 < p.2/\Ris p.2 l
section
variable (K:Sky)
abbrev jn(g:Int):Int:=gi K.G g 1
abbrev gp(a b:Int):Int:=Dw.mg2 K.M a.toNat b.toNat
abbrev wK(ah:Option (Int × Int))(k:Int):Int:=match ah with
 |none=>0
 |some p=>p.2+gp K p.1 k
abbrev js:List Int:=gr (K.G.map λg=>g.getD 1 0)
abbrev ak(t:Int)(p:Int × Int):Bool:=decide (jn K p.1<=t) && decide (t < p.2 - K.s)
abbrev wts(L:List (Int × Int))(t:Int):Nat:=(L.filter (ak K t)).length
abbrev fm(L:List (Int × Int))(g m:Int):List Int:=((jn K g::L.map λp=>jn K p.1).filter λt=>decide (jn K g<=t) && decide (t < m - K.s))
abbrev wL(L:List (Int × Int))(g m:Int):Int:=PZ 0 ((fm K L g m).map λt=>1+(wts K L t:Int))
abbrev cD(z:Int × Int)(u:Int):List Int:=u::(js K).filter λt=>decide (u < t) && ak K t z
abbrev aS(L:List (Int × Int))(z:Int × Int)(u:Int):Int:=fC ((cD K z u).map λt=>1+(wts K L t:Int))
noncomputable abbrev yH(L:List (Int × Int))(g m:Int):Int:=aS K L (g,m) (jn K g)
abbrev ut(L:List (Int × Int))(g m:Int):Bool:=decide (0 < gi K.G g 6) && (ak K (jn K g) (g,m) && decide (gi K.G g 6 < yH K L g m))
abbrev f8(L:List (Int × Int))(g m:Int):Bool:=decide (0 < gi K.G g 6) && decide (gi K.G g 6 < wL K L g m)
end
variable {K:Sky}
def mj(h:ns ≠ []):fC ns ∈ ns:=by
 cases ns with
 |nil=>exact absurd rfl h
 |cons n ns=>exact(jm ns n).1
def oK{x:Int}(h:x ∈ ns):x<=fC ns:=by
 cases ns with
 |nil=>simp at h
 |cons n ns=>exact(jm ns n).2 x h
def D1(c:A ≠ [])(h:∀x ∈ A,∃y ∈ B,x<=y):fC A<=fC B:=by
 obtain⟨y,f,b⟩:=h _ (mj c);exact Int.le_trans b (oK f)
def oM{c:Int}(h:ns ≠ []):PZ c ns=fC ns:=by
 cases ns with
 |nil=>exact absurd rfl h
 |cons n ns=>rfl
def hZ{b:Type}{p q:b->Bool}:∀ {l:List b},(∀x ∈ l,p x=aN->q x=aN)->(l.filter p).length<=(l.filter q).length
 |[],_=>Zd _
 |a::l,h=>by
  have I:=hZ (l:=l) λx f=>h x (Zf _ f);have g:=h a Zh;rw[YR,YR];split
  ·rename_i c;rw[if_pos (g c),ZB,ZB]
   lia
  ·split
   ·rw[ZB];lia
   ·exact I
def oO{j t:Int}(f:j<=t):∀ (L:List (Int × Int)),∃u,(u=j\/∃p ∈ L,u=jn K p.1)/\j<=u/\u<=t/\∀p ∈ L,ak K t p=aN->jn K p.1<=u
 |[]=>⟨j,.inl rfl,ZV _,f,λp n=>by simp at n⟩
 |p::L=>by
  obtain⟨u,b,v,o,h4⟩:=oO f L;by_cases g:ak K t p=aN/\u < jn K p.1
  ·refine⟨jn K p.1,.inr ⟨p,Zh,rfl⟩,by lia,?_,λq hq h=>?_⟩
   ·have:=g.1;simp only[ak,bAE,decide_eq_true_eq] at this;exact this.1
   ·rcases Zl.mp hq with rfl |hq
    ·exact ZV _
    ·have:=h4 q hq h;lia
  ·refine⟨u,?_,v,o,λq hq h=>?_⟩
   ·rcases b with b |⟨q,hq,b⟩
    ·exact .inl b
    ·exact .inr ⟨q,Zf _ hq,b⟩
   ·rcases Zl.mp hq with rfl |hq
    ·by_cases c:u < jn K q.1
     ·exact absurd ⟨h,c⟩ g
     ·lia
    ·exact h4 q hq h
def Im{L:List (Int × Int)}{g m:Int}(h:jn K g < m - K.s)(v:∀p ∈ L,jn K p.1 ∈ js K):yH K L g m=wL K L g m:=by
 have o:jn K g ∈ fm K L g m:=by
  unfold fm;rw[ZM];exact⟨Zh,by simp[h]⟩
 have n:(fm K L g m).map (λt=>1+(wts K L t:Int)) ≠ []:=λz=>by
  rw[List.map_eq_nil_iff] at z;rw[z] at o;simp at o
 unfold wL yH aS;rw[oM n];refine Wl (D1 (by simp[cD]) λx c=>?_) (D1 n λx c=>?_)
 ·obtain⟨t,ht,rfl⟩:=Zw.mp c
  have f:jn K g<=t/\t < m - K.s:=by
   rcases Zl.mp ht with rfl |ht
   ·exact⟨ZV _,h⟩
   ·have:=(ZM.mp ht).2;simp only[ak,bAE,decide_eq_true_eq] at this;exact⟨this.2.1,this.2.2⟩
  obtain⟨u,h1,j,y,h4⟩:=oO (K:=K) f.1 L;refine⟨1+(wts K L u:Int),Zw.mpr ⟨u,?_,rfl⟩,?_⟩
  ·unfold fm;refine ZM.mpr ⟨?_,by simp only[bAE,decide_eq_true_eq];lia⟩;rcases h1 with rfl |⟨p,b,rfl⟩
   ·exact Zh
   ·exact Zf _ (Zw.mpr ⟨p,b,rfl⟩)
  ·have:wts K L t<=wts K L u:=hZ λp b q=>by
    have a:=h4 p b q;simp only[ak,bAE,decide_eq_true_eq] at q ⊢
    lia
   lia
 ·obtain⟨t,ht,rfl⟩:=Zw.mp c;refine⟨1+(wts K L t:Int),Zw.mpr ⟨t,?_,rfl⟩,ZV _⟩;unfold fm at ht;obtain⟨h1,j⟩:=ZM.mp ht;simp only[bAE,decide_eq_true_eq] at j;unfold cD;by_cases e:t=jn K g
  ·rw[e];exact Zh
  ·refine Zf _ (ZM.mpr ⟨?_,by simp only[ak,bAE,decide_eq_true_eq];lia⟩);rcases Zl.mp h1 with rfl |h1
   ·exact absurd rfl e
   ·obtain⟨p,b,rfl⟩:=Zw.mp h1;exact v p b
def Ax{g m:Int}(h:¬ jn K g < m - K.s):wL K L g m=0:=by
 have:fm K L g m=[]:=by
  unfold fm;rw[Yg];intro t _;simp only[bAE,decide_eq_true_eq]
  lia
 unfold wL;rw[this];rfl
def Io{g m:Int}(b:∀p ∈ L,jn K p.1 ∈ js K):ut K L g m=f8 K L g m:=by
 unfold ut f8;by_cases h:jn K g < m - K.s
 ·rw[Im h b];have:ak K (jn K g) (g,m)=aN:=by simp only[ak,bAE,decide_eq_true_eq];exact⟨ZV _,h⟩
  rw[this,XU]
 ·rw[Ax h];have:ak K (jn K g) (g,m)=aT:=by simp[ak,h]
  rw[this,Xy];by_cases c:0 < gi K.G g 6
  ·have e:decide (gi K.G g 6 < 0)=aT:=by simp;lia
   rw[e]
  ·rw[decide_eq_false c];rfl
end Sn
namespace Lw
open PySem Ev Sn
variable {p:Nat} {S:Sto} {k:Nat} {Q:D->Sto->Prop}
def RZ{f:List D}{T:Tg}{b:XS}{c:Rho}{Q:Fl->Rho->Sto->Prop}(B:f.length<=100000)(I:Nat->Rho->Sto->Prop)
  (step:∀ (i:Nat) d c j,f[i]?=aa d->I i c j->∃g,aB T d c=aa g/\OkS (b g j) λv h n=>match v with |.nx=>I (i+1) h n |.ct=>I (i+1) h n |.bk=>Q .nx h n |.rt d=>Q (.rt d) h n)
  (q:∀c j,I f.length c j->Q .nx c j) (y:I 0 c S):OkS (dM (nxL f) T b LF 0 c S) Q:=by
 refine jH f.length I (by unfold LF;lia) (λi c j u o=>?_) (λc j o=>⟨?_,q c j o⟩) y
 ·obtain⟨g,E,z⟩:=step i f[i] c j (gEG u) o;exact⟨f[i],g,by show aa f[i]?=_;rw[gEG u],E,z⟩
 ·show aa f[f.length]?=_;rw[ZE (Zd _)]
def bh{y:Type}{nx:Nxt}{T:Tg}{c:XA}{I:Rho}{Q:List D->Sto->Prop}(l:List y)(E:y->D)(f:y->List D)(Y:l.length<=1000)(X:∀a ∈ l,(f a).length<=1)
  (u:∀i g,Sm S g->nx i g=aa ((l[i]?).map E))
  (step:∀ (i:Nat) a g,l[i]?=aa a->Sm S g->∃j,aB T (E a) I=aa j/\Ok (c j g) λn B=>n=f a/\Sm g B) (q:∀g,Sm S g->Q (l.flatMap f) g) :
  Ok (bA nx T c I LF 0 S) λn S2=>n.length<=100000/\Q n S2:=by
 refine(gR l.length (λi o g=>Sm S g/\o=(l.take i).flatMap f) (by unfold LF;lia) (λi o g z ⟨sm,v⟩=>?_) (λo g ⟨sm,v⟩=>?_) ⟨Sm.refl S,by simp⟩).mono λn g ⟨sm,v⟩=>?_
 ·obtain⟨j,U,n,B,L,J,C⟩:=step i l[i] g (gEG z) sm;refine⟨E l[i],j,by rw[u i g sm,gEG z];rfl,U,n,B,L,sm.trans C,?_⟩;rw[v,J,ZN z,XJ];simp
 ·rw[u _ g sm,ZE (Zd _)];rfl
 ·rw[Z7] at v;subst v;refine⟨?_,q g sm⟩
  have:∀m:List y,(∀a ∈ m,(f a).length<=1)->(m.flatMap f).length<=m.length:=λm=>by
   induction m with
   |nil=>intro _;simp
   |cons a m O=>
    intro h;rw[Xh,Zn,ZB];have:=h a Zh;have:=O λb hb=>h b (Zf _ hb)
    lia
  have:=this l X
  lia
def cE{c:Type}{l:List c}{E:c->D}:∀i b,Sm S b->nxL (l.map E) i b=aa ((l[i]?).map E):=λi b _=>by
 show aa (l.map E)[i]?=_;rw[Zj]
def b5{c:Type}{n:Nat}{l:List c}{E:c->D}(h:S[n]?=aa (.lst (l.map E))):∀i b,Sm S b->nxS n i b=aa ((l[i]?).map E):=λi b sm=>by
 show(aP b n).map (λf=>f[i]?)=_;rw[ao (sm _ _ h),Zu,Zj]
def ba{b:Type}(l:List b)(f:b->D):(l.flatMap λa=>[f a])=l.map f:=by
 induction l with
 |nil=>rfl
 |cons a l I=>rw[Xh,I];rfl
def bD{b:Type}(l:List b)(c:b->Bool)(f:b->D):(l.flatMap λa=>if c a=aN then [f a] else [])=(l.filter c).map f:=by
 induction l with
 |nil=>rfl
 |cons a l I=>
  rw[Xh,I,YR];split <;> rfl
abbrev az(r:List Int):D:=.tup (r.map D.int)
abbrev ahE:Option (Int × Int)->D
 |none=>.non
 |some q=>.tup [.int q.1,.int q.2]
abbrev meE(K:Sky):D:=.tup [.int K.r,.int K.s,.tup (K.M.map az),.tup (K.H.map ae)]
abbrev skE(K:Sky):D:=.tup [meE K,ahE K.ah,.tup (K.G.map az),.tup (K.F.map D.int)]
structure Vd(K:Sky):Prop where
 r0:0<=K.r
 r8:K.r<=8
 s0:0<=K.s
 s60:K.s<=60
 m0:1<=K.M.length
 m4:K.M.length<=4
 row:∀r ∈ K.M,r.length=K.M.length
 ris:Ris (-1) K.H
 h4:K.H.length<=4
 ah0:∀q,K.ah=aa q->0<=q.1/\q.1 < K.M.length
 g7:K.G.length<=7
 gl:∀g ∈ K.G,g.length=7/\0<=g.getD 0 0/\g.getD 0 0 < K.M.length/\0<=g.getD 2 0
variable {K:Sky}
def sk0:ixS (skE K) (.int 0) S=aa (meE K,S):=rfl
def sk1:ixS (skE K) (.int 1) S=aa (ahE K.ah,S):=rfl
def sk2:ixS (skE K) (.int 2) S=aa (.tup (K.G.map az),S):=rfl
def sk3:ixS (skE K) (.int 3) S=aa (.tup (K.F.map D.int),S):=rfl
def me0:ixS (meE K) (.int 0) S=aa (.int K.r,S):=rfl
def me1:ixS (meE K) (.int 1) S=aa (.int K.s,S):=rfl
def me2:ixS (meE K) (.int 2) S=aa (.tup (K.M.map az),S):=rfl
def me3:ixS (meE K) (.int 3) S=aa (.tup (K.H.map ae),S):=rfl
def gl7(V:Vd K){g:Int}(v:0<=g)(u:g < K.G.length):∃a b c d e f h,K.G[g.toNat]?=aa [a,b,c,d,e,f,h]/\gi K.G g 0=a/\gi K.G g 1=b/\gi K.G g 2=c/\gi K.G g 3=d/\gi K.G g 6=h/\0<=a/\a < K.M.length/\0<=c:=by
 have n:g.toNat < K.G.length:=by lia
 obtain⟨L,j,q,C⟩:=V.gl K.G[g.toNat] (ZI n)
 match o:K.G[g.toNat],L with
 |[a,b,c,d,e,f,h],_=>
  have eq:K.G[g.toNat]?=aa [a,b,c,d,e,f,h]:=by rw[gEG n,o]
  rw[o] at j q C;refine⟨a,b,c,d,e,f,h,eq,?_,?_,?_,?_,?_,j,q,C⟩ <;> (unfold gi;rw[eq];rfl)
def oP{i:Int}(b:0<=i)(h:ds[i.toNat]?=aa d):ixS (.tup ds) (.int i) S=aa (d,S):=by
 obtain⟨n,rfl⟩:∃n:Nat,i=(n:Int):=⟨i.toNat,by lia⟩;exact Bi h
def eA{g:Int}(b:0<=g)(h:K.G[g.toNat]?=aa r):ixS (.tup (K.G.map az)) (.int g) S=aa (az r,S):=oP b (by rw[Zj,h];rfl)
def kA(V:Vd K){a b:Int}(f:0<=a)(j:a < K.M.length)(B:0<=b)(n:b < K.M.length):∃r,ixS (.tup (K.M.map az)) (.int a) S=aa (az r,S)/\ixS (az r) (.int b) S=aa (.int (gp K a b),S):=by
 have h:a.toNat < K.M.length:=by lia
 have g:=V.row K.M[a.toNat] (ZI h);have c:b.toNat < K.M[a.toNat].length:=by lia
 refine⟨K.M[a.toNat],oP f (by rw[Zj,gEG h];rfl),oP B ?_⟩;rw[Zj,gEG c];have:gp K a b=K.M[a.toNat][b.toNat]:=by unfold gp Dw.mg2;rw[gEG h,ZT,gEG c];rfl
 rw[this];rfl
end Lw
namespace Lw
open PySem Ev Sn L2
variable {p:Nat} {S S':Sto} {k:Nat} {Q:D->Sto->Prop} {K:Sky}
def D2{A B:Prop}(h:t=aN->u=aN->A)(hb:(t && u)=aT->B):wIf t (wIf u A B) B:=by
 cases t with
 |false=>exact hb rfl
 |true=>cases u with
  |true=>exact h rfl rfl
  |false=>exact hb rfl
def dH{b:Type}{l:List b}{E:b->D}{i:Nat}{d:D}(h:(l.map E)[i]?=aa d):∃a,l[i]?=aa a/\d=E a:=by
 rw[Zj] at h;cases e:l[i]? with
 |none=>rw[e] at h;cases h
 |some a=>rw[e] at h;cases h;exact⟨a,rfl,rfl⟩
abbrev fo(K:Sky)(L:List (Int × Int)):Option (Int × Int):=match L.getLast? with
 |none=>K.ah
 |some p=>aa (gi K.G p.1 0,p.2)
abbrev InG(K:Sky)(L:List (Int × Int)):Prop:=∀p ∈ L,0<=p.1/\p.1 < K.G.length
def D3(V:Vd K){n:Nat}(j:S[n]?=aa (.lst (L.map ae)))(o:InG K L)(q:Q (ahE (fo K L)) S):Ok (evC af (k+1) 26 [skE K,.ref n] S) Q:=by
 refine aA (d:=cS) (ρ:=[aa (skE K),aa (.ref n),aD,aD]) rfl rfl ?_;dsimp only[cS,fW];k_is;have tr:jZ (.ref n) S=aa (!(L.map ae).isEmpty,S):=by simp only[jZ,ao j]
 refine ac tr ?_;k_is;rcases YX L with rfl |⟨L',z,rfl⟩
 ·k_is;exact ac sk1 q
 ·rw[YY] at j o q ⊢;rw[show(!!((L'++[z]).map ae).isEmpty)=aT by simp];k_is;have g:=o z (by simp);refine ac (mi (ds:=L'.map ae) (e:=ae z) (by rw[j,Zr];rfl)) ?_;rw[show ae z = .tup [.int z.1,.int z.2] from rfl];k_is;refine ac sk2 ?_;obtain⟨a,b,c,d,e,f,h,u,E,_⟩:=gl7 V g.1 g.2;refine ac (eA g.1 u) (ac (show ixS (az [a,b,c,d,e,f,h]) (.int 0) S=aa (.int a,S) from rfl) ?_);k_is
  have:fo K (L'++[z])=aa (a,z.2):=by
   unfold fo;rw[YO];simp[E]
  rw[this] at q;exact q
def Ip(V:Vd K){a:Option (Int × Int)}{b:Int}(h:∀q,a=aa q->0<=q.1/\q.1 < K.M.length)(f:0<=b)(c:b < K.M.length)(q:Q (.int (wK K a b)) S):Ok (evC af (k+1) 27 [skE K,ahE a,.int b] S) Q:=by
 refine aA (d:=kq) (ρ:=[aa (skE K),aa (ahE a),aa (.int b)]) rfl rfl ?_;dsimp only[kq,qo];k_is;cases a with
 |none=>exact ac (show aC .is (ahE aD) .non S=aa (.bl aN,S) from rfl) (by k_is;exact q)
 |some z=>
  refine ac (show aC .is (ahE (aa z)) .non S=aa (.bl aT,S) from rfl) ?_;k_is;obtain⟨o,j⟩:=h z rfl;refine ac (show ixS (ahE (aa z)) (.int 1) S=aa (.int z.2,S) from rfl) ?_;refine ac sk0 (ac me2 (ac (show ixS (ahE (aa z)) (.int 0) S=aa (.int z.1,S) from rfl) ?_));obtain⟨r,g,n⟩:=kA (S:=S) V o j f c;refine ac g (ac n ?_);k_is;exact q
def gS(V:Vd K){z:Int × Int}{t:Int}(g:0<=z.1)(n:z.1 < K.G.length)(q:Q (.bl (ak K t z)) S):Ok (evC af (k+1) 29 [skE K,ae z,.int t] S) Q:=by
 refine aA (d:=iZ) (ρ:=[aa (skE K),aa (ae z),aa (.int t),aD,aD]) rfl rfl ?_;dsimp only[iZ,oq];rw[show ae z = .tup [.int z.1,.int z.2] from rfl];k_is;refine ac sk2 ?_;obtain⟨a,b,c,d,e,f,h,j,_,E,_⟩:=gl7 V g n;refine ac (eA g j) (ac (show ixS (az [a,b,c,d,e,f,h]) (.int 1) S=aa (.int b,S) from rfl) ?_);k_is;have o:ak K t z=(decide (b<=t) && decide (t < z.2 - K.s)):=by unfold ak jn;rw[E]
 rw[o] at q;cases C:decide (b<=t) with
 |false=>rw[C] at q;k_is;exact q
 |true=>
  rw[C] at q;k_is;refine ac sk0 (ac me1 ?_);k_is;exact q
def D4(V:Vd K){L:List (Int × Int)}{n:Nat}{t:Int}(h:S[n]?=aa (.lst (L.map ae)))(c:InG K L)(f:L.length<=1000)(q:∀S',Sm S S'->Q (.int (wts K L t)) S'):Ok (evC af (k+2) 30 [skE K,.ref n,.int t] S) Q:=by
 refine aA (d:=cU) (ρ:=[aa (skE K),aa (.ref n),aa (.int t)]) rfl rfl ?_;dsimp only[cU,fY];k_is;refine⟨by rw[ao h];rfl,?_⟩;refine bh L ae (λz=>if ak K t z=aN then [ae z] else []) f (λz _=>by split <;> simp) (b5 h) (λi z S' b sm=>⟨_,rfl,?_⟩) λS' sm=>?_
 ·have:=c z (Zi b);k_is;refine⟨rfl,gS V this.1 this.2 ?_⟩;k_is;cases ak K t z with
  |true=>k_is;exact⟨rfl,Sm.refl _⟩
  |false=>k_is;exact⟨rfl,Sm.refl _⟩
 ·rw[bD];refine ac (show b7 aT ((L.filter (ak K t)).map ae) S'=aa (.int (wts K L t),S') by unfold b7 wts;rw[Za]) ?_;k_is;exact q S' sm
def Ay{x:Int}:eD ((x::xs).map D.int)=aD:=by simp only[Zz,eD,ni]
def ml:∀ (xs:List Int),kH (xs.map D.int)=aa xs
 |[]=>rfl
 |x::xs=>by simp only[Zz,kH,ml xs]
def D5(h:xs.length < 64):df aT (xs.map D.int)=aa ((gr xs).map D.int):=by
 unfold df;rw[if_pos rfl];cases xs with
 |nil=>rfl
 |cons x xs=>
  simp only[vL,Ay,ml];rw[if_pos h]
def D6:(js K).length=K.G.length:=by unfold js;rw[(cw _).length_eq,Za]
def uu(V:Vd K)(q:∀S',Sm S S'->S'[Zc S' - 1]?=aa (.lst ((js K).map D.int))->Zc S<=Zc S' - 1->Q (.ref (Zc S' - 1)) S'):Ok (evC af (k+1) 31 [skE K] S) Q:=by
 refine aA (d:=cp) (ρ:=[aa (skE K)]) rfl rfl ?_;dsimp only[cp,ef];k_is;refine ac sk2 ?_;k_is;refine bh K.G az (λg=>[.int (g.getD 1 0)]) (by have:=V.g7;lia) (λ_ _=>Zd _) cE (λi g S' o sm=>⟨_,rfl,?_⟩) λS' sm=>?_
 ·obtain⟨L,_⟩:=V.gl g (Zi o)
  match g,L with
  |[a,b,c,d,e,f,h],_=>
   k_is;exact ac (show ixS (az [a,b,c,d,e,f,h]) (.int 1) S'=aa (.int b,S') from rfl) ⟨rfl,Sm.refl _⟩
 ·rw[ba];refine⟨_,show df aT (K.G.map λg=>D.int (g.getD 1 0))=aa ((js K).map D.int) from ?_,?_⟩
  ·have:=D5 (xs:=K.G.map λg=>g.getD 1 0) (by rw[Za];have:=V.g7;lia);rw[ZP] at this;exact this
  ·have e:Zc (S'++[Ob.lst ((js K).map D.int)]) - 1=Zc S':=by simp
   have sl:Zc S<=Zc S':=by
    cases n:decide (Zc S<=Zc S') with
    |true=>exact of_decide_eq_true n
    |false=>
     exfalso;have j:Zc S' < Zc S:=by have:=of_decide_eq_false n;lia
     have:=sm (Zc S') S[Zc S'] (gEG j);rw[ZE (Zd _)] at this;cases this
   have:=q (S'++[Ob.lst ((js K).map D.int)]) (sm.trans (Sm.app _ _)) (by rw[e];exact al) (by rw[e];exact sl);rw[e] at this;exact this
def bU{n:Nat}{i:Int}(c:S[n]?=aa (.lst b))(f:0<=i)(h:b[i.toNat]?=aa d):ixS (.ref n) (.int i) S=aa (d,S):=by
 obtain⟨j,rfl⟩:∃j:Nat,i=(j:Int):=⟨i.toNat,by lia⟩;rw[Zo] at h;simp only[ixS,av,ao c,Zu,Ev.qO h]
def dh{n:Nat}{j:Nat}(c:S[n]?=aa (.lst b)):slS aD (aa (j:Int)) (.ref n) S=aa (.ref (Zc S),S++[.lst (b.take j)]):=by
 have:il b aD (aa (j:Int))=b.take j:=by
  by_cases h:j<=b.length
  ·exact Dp b j h
  ·unfold il;rw[Dw.BI _ _ (by lia),Zo,Wf (by lia)];show(b.drop 0).take (b.length - 0)=b.take j;rw[List.drop_zero,Z5 (by lia),Z5 (by lia)]
 simp only[slS,ao c,this]
def fR{a b:Nat}(h:S[a]?=aa (.lst xs))(hb:S[b]?=aa (.lst y))(c:xs.length+y.length<=100000):b6 .add (.ref a) (.ref b) S=aa (.ref (Zc S),S++[.lst (xs++y)]):=by
 simp only[b6,lH,K9,h,hb];rw[if_pos c]
def eB{n:Nat}(h:S[n]?=aa (.lst b)):aw b7 (.ref n) S=aa (.int b.length,S):=by simp only[aw,av,ao h,Zu,b7]
def D7(h:xs ≠ []):lJ aT (xs.map D.int) S=aa (.int (fC xs),S):=by
 cases xs with
 |nil=>exact absurd rfl h
 |cons x xs=>unfold lJ;rw[ml]
def rX(V:Vd K){L:List (Int × Int)}{n j:Nat}{z:Int × Int}(u:Int)(J:S[n]?=aa (.lst (L.map ae)))(C:L[j]?=aa z)(Y:InG K L)(hl:L.length<=100)(q:∀S',Sm S S'->Q (.int (aS K (L.take j) z u)) S'):Ok (evC af (k+3) 35 [skE K,.ref n,.int j,.int (u)] S) Q:=by
 refine aA (d:=eN) (ρ:=[aa (skE K),aa (.ref n),aa (.int j),aa (.int (u)),aD,aD]) rfl rfl ?_;dsimp only[eN,iB];have h:=Y z (Zi C);k_is;refine ac (dh J) ?_;k_is;have I:Sm S (S++[Ob.lst ((L.map ae).take j)]):=Sm.app _ _;have a1:(S++[Ob.lst ((L.map ae).take j)])[Zc S]?=aa (Ob.lst ((L.take j).map ae)):=by rw[al,Yp]
 generalize Zc S=N1 at *;generalize S++[Ob.lst ((L.map ae).take j)]=S1 at *;refine⟨rfl,uu V λS2 g T _=>?_⟩;k_is;refine⟨by rw[ao T];rfl,?_⟩;have v:(js K).length<=7:=by rw[D6];exact V.g7
 refine bh (js K) D.int (λt=>if (decide (u < t) && ak K t z)=aN then [D.int t] else []) (by lia) (λ_ _=>by split <;> simp) (b5 T) (λi t S' ht sm=>⟨_,rfl,?_⟩) λb O=>?_
 ·k_is;cases c:decide (u < t) with
  |false=>k_is;exact⟨rfl,Sm.refl _⟩
  |true=>
   k_is;have o:=sm _ _ (g _ _ (I _ _ J));refine ac (bU o (by lia) (show(L.map ae)[((j:Nat):Int).toNat]?=aa (ae z) by rw[Zo,Zj,C];rfl)) ?_;refine⟨rfl,gS V h.1 h.2 ?_⟩;k_is;cases ak K t z with
   |true=>k_is;exact⟨rfl,Sm.refl _⟩
   |false=>k_is;exact⟨rfl,Sm.refl _⟩
 ·rw[bD];k_is;have Z:Zc b < Zc (b++[Ob.lst (((js K).filter λt=>decide (u < t) && ak K t z).map D.int)]):=by simp
  have a3:(b++[Ob.lst (((js K).filter λt=>decide (u < t) && ak K t z).map D.int)])[Zc b]?=aa (Ob.lst (((js K).filter λt=>decide (u < t) && ak K t z).map D.int)):=al;have y:Sm b (b++[Ob.lst (((js K).filter λt=>decide (u < t) && ak K t z).map D.int)]):=Sm.app _ _;have lf:((js K).filter λt=>decide (u < t) && ak K t z).length<=7:=ZC (ZW _ _) v;generalize Zc b=N3 at *;generalize b++[Ob.lst (((js K).filter λt=>decide (u < t) && ak K t z).map D.int)]=S4 at *;have f:Sm S4 (S4++[Ob.lst [D.int (u)]]):=Sm.app _ _;refine ac (fR (xs:=[D.int (u)]) al (f _ _ a3) (by rw[Za,ZO];lia)) ?_;k_is;have U:Sm (S4++[Ob.lst [D.int (u)]]) (S4++[Ob.lst [D.int (u)]]++[Ob.lst ([D.int (u)]++((js K).filter λt=>decide (u < t) && ak K t z).map D.int)]):=Sm.app _ _;have X:(S4++[Ob.lst [D.int (u)]]++[Ob.lst ([D.int (u)]++((js K).filter λt=>decide (u < t) && ak K t z).map D.int)])[Zc (S4++[Ob.lst [D.int (u)]])]?=aa (Ob.lst ((cD K z u).map D.int)):=al;refine⟨by rw[ao X];rfl,?_⟩;have sA:=((((I.trans g).trans O).trans y).trans f).trans U;have aL:=(((((g.trans O).trans y).trans f).trans U)) _ _ a1;refine bh (cD K z u) D.int (λt=>[D.int (1+(wts K (L.take j) t:Int))]) (by show((js K).filter λt=>decide (u < t) && ak K t z).length+1<=1000;lia) (λ_ _=>Zd _) (b5 X) (λi t S' ht sm=>⟨_,rfl,?_⟩) λB s7=>?_
  ·k_is;refine⟨rfl,D4 V (sm _ _ aL) (λw hw=>Y w (ZX hw)) (by rw[Zs];lia) λS8 s8=>?_⟩;k_is;exact⟨rfl,s8⟩
  ·rw[ba];have E:=D7 (S:=B) (xs:=(cD K z u).map λt=>1+(wts K (L.take j) t:Int)) (by unfold cD;simp);rw[ZP] at E;exact ac E (by k_is;exact q B (sA.trans s7))
def Iq(V:Vd K){L:List (Int × Int)}{n j:Nat}{z:Int × Int}(v:S[n]?=aa (.lst (L.map ae)))(o:L[j]?=aa z)(I:InG K L)(U:L.length<=100)(q:∀S',Sm S S'->Q (.bl (ut K (L.take j) z.1 z.2)) S'):Ok (evC af (k+4) 34 [skE K,.ref n,.int j] S) Q:=by
 refine aA (d:=eM) (ρ:=[aa (skE K),aa (.ref n),aa (.int j),aD,aD,aD,aD,aD,aD,aD]) rfl rfl ?_;dsimp only[eM,iA];have g:=I z (Zi o);obtain⟨a,b,c,d,e,f,h,Z,e0,J,e2,e3,X,_⟩:=gl7 V g.1 g.2;have u:=bU v (show(0:Int)<=(j:Int) by lia) (show(L.map ae)[((j:Nat):Int).toNat]?=aa (ae z) by rw[Zo,Zj,o];rfl);k_is;refine ac sk2 (ac u (ac (show ixS (ae z) (.int 0) S=aa (.int z.1,S) from rfl) (ac (eA g.1 Z) ?_)));rw[show az [a,b,c,d,e,f,h] = .tup [.int a,.int b,.int c,.int d,.int e,.int f,.int h] from rfl];k_is;have E:jn K z.1=b:=J;have T:ut K (L.take j) z.1 z.2=(decide (0 < h) && (ak K b z && decide (h < yH K (L.take j) z.1 z.2))):=by unfold ut;rw[X,E]
 rw[T] at q;cases C:decide (0 < h) with
 |false=>rw[C] at q;k_is;exact q S (Sm.refl S)
 |true=>
  rw[C] at q;k_is;refine ac u ?_;refine⟨rfl,gS V g.1 g.2 ?_⟩;k_is;cases B:ak K b z with
  |false=>rw[B] at q;k_is;exact q S (Sm.refl S)
  |true=>
   rw[B] at q;k_is
   have rg:=rX (k:=k) (Q:=λy Y=>wCx .gt y (.int h) Y λd O=>Q d O) V (jn K z.1) v o I U λS' sm=>by
    k_is;exact q S' sm
   rw[E] at rg;exact⟨rfl,rg⟩
def Sm.setNew{f:Nat}(h:Sm S S')(c:S.length<=f):Sm S (S'.set f o):=λi u e=>by
 have b:=(Zb.mp e).1;rw[ZH (by lia)];exact h i u e
def rY{g:Int}(c:0<=g)(b:g < K.G.length):jn K g ∈ js K:=by
 have h:g.toNat < K.G.length:=by lia
 refine(cw _).mem_iff.mpr (Zw.mpr ⟨K.G[g.toNat],ZI h,?_⟩);unfold jn gi;rw[gEG h];rfl
def jJ(V:Vd K)(o:InG K L):∀q,fo K L=aa q->0<=q.1/\q.1 < K.M.length:=λq e=>by
 unfold fo at e;cases h:L.getLast? with
 |none=>rw[h] at e;exact V.ah0 q e
 |some z=>
  rw[h] at e;cases e;have g:=o z (List.mem_of_getLast? h);obtain⟨a,b,c,d,e,f,h,I,E,u,y,v,B,n,j,C⟩:=gl7 V g.1 g.2;show 0<=gi K.G z.1 0/\gi K.G z.1 0 < K.M.length;rw[E];exact⟨n,j⟩
def fS:fo K (L++[z])=aa (gi K.G z.1 0,z.2):=by
 unfold fo;rw[YO];rfl
end Lw
namespace Ev
open PySem
abbrev OkX(o:Option (RR × Sto))(Q:RR->Sto->Prop):Prop:=∃r b,o=aa (r,b)/\Q r b
section
variable {af:List DefE} {k f:Nat} {d:DefE} {ds:List D} {ρ:Rho} {S:Sto} {g:gy} {ar:Nat->Nat} {r:List RS} {Q:RR->Sto->Prop}
def D8(hd:af[f]?=aa d)(c:d.rb=aa rs)(b:ds.map aa++Zq (d.N.length - ds.length) aD=ρ)(h:OkX (cq (evX af k) (cA af) rs ρ S) Q):OkX (evX af (k+1) f ds S) Q:=by
 subst b;have z:evX af (k+1) f ds S=cq (evX af k) (cA af) rs (ds.map aa++Zq (d.N.length - ds.length) aD) S:=by simp only[evX,hd,c]
 rw[z];exact h
def wM{Q:D->Sto->Prop}(h:OkX (evX af k f ds S) λr b=>match r with |.val d=>Q d b |.exc _=>False):Ok (evC af k f ds S) Q:=by
 obtain⟨r,b,e,q⟩:=h;cases r with
 |val d=>exact⟨d,b,by unfold evC toC;rw[e],q⟩
 |exc i=>exact q.elim
def D9(q:Q (.val .non) S):OkX (cq g ar [] ρ S) Q:=⟨_,_,rfl,q⟩
def Ir{n:Nat}:gc C ar (n+2) [s] ρ S=evS C ar (n+1) s ρ S:=by
 show vR (evS C ar (n+1) s) (gc C ar (n+1) []) ρ S=_;unfold vR;cases evS C ar (n+1) s ρ S with
 |none=>rfl
 |some z=>
  obtain⟨b,c,h⟩:=z;cases b <;> rfl
def Ea(h:rW (wSs (toC g) ar 60 [s]) ρ S λb c o=>match b with |.nx=>OkX (cq g ar r c o) Q |.rt v=>Q (.val v) o |_=>False):OkX (cq g ar (.pl s::r) ρ S) Q:=by
 obtain⟨b,j,n,e,q⟩:=DM h;rw[Ir] at e;have z:evS (toC g) ar 59 s ρ S=aa (b,j,n):=e;cases b with
 |nx=>obtain⟨v,u,E,p⟩:=q;exact⟨v,u,by simp only[cq,z];exact E,p⟩
 |rt v=>exact⟨.val v,n,by simp only[cq,z],q⟩
 |bk=>exact q.elim
 |ct=>exact q.elim
def Eb(h:evA (toC g) ar FU E ρ S=aa (ds,S1))(c:ds.length=ar f)(q:OkX (g f ds S1) λv b=>match v with |.val _=>OkX (cq g ar r ρ b) Q |.exc i=>Q (.exc i) b):OkX (cq g ar (.ck f E::r) ρ S) Q:=by
 obtain⟨v,b,e,q⟩:=q;cases v with
 |val d=>
  obtain⟨v,o,n,j⟩:=q;exact⟨v,o,by simp only[cq,xck,h,c,if_true,e];exact n,j⟩
 |exc i=>exact⟨.exc i,b,by simp only[cq,xck,h,c,if_true,e],q⟩
def JW{i:Nat}(h:wT (toC g) ar 60 c ρ S λb j=>if b=aN then i < 14/\Q (.exc i) j else OkX (cq g ar r ρ j) Q):OkX (cq g ar (.rz c i::r) ρ S) Q:=by
 obtain⟨b,j,e,q⟩:=(qx 60).t _ _ _ h;have z:evT (toC g) ar FU c ρ S=aa (b,j):=e;cases b with
 |true=>
  rw[if_pos rfl] at q;exact⟨.exc i,j,by simp only[cq,z];rw[if_pos q.1],q.2⟩
 |false=>
  rw[if_neg Zg] at q;obtain⟨v,o,E,n⟩:=q;exact⟨v,o,by simp only[cq,z];exact E,n⟩
def JX{c:CE}{f j:Nat}{bb:Bool}(o:evT (toC g) ar FU c ρ S=aa (bb,S0))(h:evA (toC g) ar FU (if bb=aN then p else E) ρ S0=aa (ds,S1))(n:ds.length=ar (if bb=aN then f else j))(q:OkX (g (if bb=aN then f else j) ds S1) λv b=>match v with |.val d=>Q (.val d) b |.exc i=>∃w,uc i=aa w/\Q (.val (.str w)) b):OkX (cq g ar (.tr c f p j E::r) ρ S) Q:=by
 obtain⟨v,b,e,q⟩:=q;cases v with
 |val d=>exact⟨.val d,b,by simp only[cq,xck,o,h,n,if_true,e],q⟩
 |exc i=>
  obtain⟨w,u,q⟩:=q;exact⟨.val (.str w),b,by simp only[cq,xck,o,h,n,if_true,e,u];rfl,q⟩
end
end Ev
namespace Lw
open PySem Ev Sn L2
variable {p:Nat} {S S':Sto} {k:Nat} {Q:D->Sto->Prop} {K:Sky}
def fT(r:List Int):TDs p S (r.map Dw.D.int) (r.map D.int):=by
 induction r with
 |nil=>exact aM
 |cons a r I=>exact ai bp I
def gU:∀ (M:List (List Int)),TDs p S (Dw.qY M) (M.map az)
 |[]=>aM
 |r::M=>ai (aZ (fT r)) (gU M)
abbrev ahT:Option (Int × Int)->Dw.D
 |none=>.non
 |some q=>.tup [.int q.1,.int q.2]
abbrev skT(K:Sky):Dw.D:=.tup [.tup [.int K.r,.int K.s,.tup (Dw.qY K.M),.tup (K.H.map Dw.aY)],ahT K.ah,.tup (Dw.qY K.G),.tup (K.F.map Dw.D.int)]
def JY:∀ (a:Option (Int × Int)),TD p S (ahT a) (ahE a)
 |none=>Dh
 |some q=>aZ (ai bp (ai bp aM))
def R5:TD p S (skT K) (skE K):=aZ (ai (aZ (ai bp (ai bp (ai (aZ (gU K.M)) (ai (aZ (bJ K.H)) aM))))) (ai (JY K.ah) (ai (aZ (gU K.G)) (ai (aZ (fT K.F)) aM))))
def qz{b:List D}(i:Nat)(d:D)(h:b[i]?=aa d):(λi=>(b[i]?).getD .non) i=d:=by
 show(b[i]?).getD .non=d;rw[h];rfl
def eU{i:Int}(b:0<=i)(h:i < 1000):lim i=aN:=by simp only[lim,bAE,decide_eq_true_eq];lia
def Kp.len{p:Nat}(h:Ev.Kp p S S')(f:p < S'.length):S.length<=S'.length:=by
 by_cases c:S.length<=S'.length
 ·exact c
 ·exfalso;have b:S'.length < S.length:=by lia
  have:=h S'.length S[S'.length] (by lia) (gEG b);rw[ZE (Zd _)] at this;cases this
def uv:∀ {H:List (Int × Int)} {lo x y:Int},Ris lo H->lo < x->(∀q ∈ H,q.2 < x)->x < y->Ris lo (H++[(x,y)])
 |[],lo,x,y,_,h1,_,h3=>⟨h1,h3,trivial⟩
 |q::H,lo,x,y,h,h1,h2,h3=>by
  rw[Ris] at h;exact⟨h.1,h.2.1,uv h.2.2 (h2 q Zh) (λr b=>h2 r (Zf _ b)) h3⟩
def mo:∀ {H:List (Int × Int)} {lo:Int} {q:Int × Int},Ris lo H->q ∈ H->lo < q.1/\q.1 < q.2
 |q'::H,lo,q,h,hq=>by
  rw[Ris] at h;rcases Zl.mp hq with rfl |hq
  ·exact⟨h.1,h.2.1⟩
  ·have:=mo h.2.2 hq
   lia
def uw:∀ {H:List (Int × Int)} {lo:Int},Ris lo H->∀ (i:Nat) q b,H[i]?=aa q->H[i+1]?=aa b->q.2 < b.1
 |q0::H,lo,h,0,q,b,e1,e2=>by
  rw[Ris] at h;cases e1;rw[YE] at e2;exact(mo h.2.2 (Zi e2)).1
 |q0::H,lo,h,i+1,q,b,e1,e2=>by
  rw[Ris] at h;rw[YE] at e1 e2;exact uw h.2.2 i q b e1 e2
structure MeOk(r s:Int)(M:List (List Int))(H:List (Int × Int)):Prop where
 r0:0<=r
 r8:r<=8
 s0:0<=s
 s60:s<=60
 mat:Dw.Mat M.length M
 m1:1<=M.length
 m4:M.length<=4
 tri:Dw.pP M.length M.length M
 ris:Ris (-1) H
 h4:H.length<=4
 hb:∀q ∈ H,q.2<=9999
abbrev GB(n:Nat)(r s:Int)(g:List Int):Prop:=∃h j f L b o c:Int,g=[h,j,f,L,b,o,c]/\0<=h/\h < n/\0<=j/\j+s<=f/\f<=L/\L<=9999/\0<=b/\b<=9999/\0<=o/\o<=99/\0<=c/\c<=r
structure SkOk(K:Sky):Prop where
 me:MeOk K.r K.s K.M K.H
 g7:K.G.length<=7
 gb:∀g ∈ K.G,GB K.M.length K.r K.s g
 nd:K.F.Nodup
 bd:∀x ∈ K.F,0<=x/\x < K.G.length
 rg:∀ (j:Nat) g,K.G[j]?=aa g->g.getD 6 0=0\/(j:Int) ∈ K.F
 ah:∀q,K.ah=aa q->0<=q.1/\q.1 < K.M.length/\0<=q.2/\q.2<=9999
def SkOk.vd(h:SkOk K):Vd K:=by
 refine⟨h.me.r0,h.me.r8,h.me.s0,h.me.s60,h.me.m1,h.me.m4,h.me.mat.row,h.me.ris,h.me.h4,λq e=>⟨(h.ah q e).1,(h.ah q e).2.1⟩,h.g7,λg j=>?_⟩;obtain⟨y,J,f,L,n,v,o,rfl,c,b,u,h4,_⟩:=h.gb g j;have:=h.me.s0;refine⟨rfl,c,b,?_⟩;show 0<=f
 lia
abbrev meL(r s:Int)(M:List (List Int))(H:List (Int × Int)):D:=.tup [.int r,.int s,.tup (M.map az),.tup (H.map ae)]
def wN{n:Nat}{l:List Int}(h:l.Perm ((Ze n).map λi=>Int.ofNat i)):l.Nodup/\(∀x ∈ l,0<=x/\x < n)/\l.length=n:=by
 refine⟨h.nodup_iff.mpr (Xi.mpr (List.nodup_range.imp λh z=>h (Int.ofNat.inj z))),λx c=>?_,by rw[h.length_eq,Za,Zx]⟩;obtain⟨i,b,rfl⟩:=Zw.mp (h.mem_iff.mp c);have:=ZU.mp b;show 0<=(i:Int)/\(i:Int) < n
 lia
def Ec{n:Nat}:∀i S',Sm S S'->nxR 0 n i S'=aa (((Ze n)[i]?).map λ(j:Nat)=>D.int (0+(j:Int))):=λi S' _=>by
 show aa (if i < n then aa (D.int (0+(i:Int))) else aD)=_;split
 ·rename_i h;rw[Z1 h];rfl
 ·rename_i h;rw[ZE (by rw[Zx];lia)];rfl
def rZ{b c:Type}(f:b->c):∀ (l:List b) (j:Nat),(l.map f).eraseIdx j=(l.eraseIdx j).map f
 |[],_=>rfl
 |_::_,0=>rfl
 |a::l,j+1=>by rw[Zz,YV,YV,Zz,rZ f l j]
def ux{b:Type}:∀ (l:List b) (j:Nat) (h:j < l.length),(l[j]::l.eraseIdx j).Perm l
 |a::l,0,_=>List.Perm.refl _
 |a::l,j+1,h=>by
  rw[YV,List.getElem_cons_succ];exact(List.Perm.swap _ _ _).trans ((ux l j (by simpa using h)).cons a)
def qA{L:Nat}{I:List Int}(h:Pot p S)(g:S[L]?=aa (.lst (I.map D.int)))(O:L ≠ p)(hn:I.length<=1000)
  (q:∀ (is:List Int) S',Dr p S S'->is.Perm I->Q (.ref (Zc S')) (S'++[.lst (is.map D.int)])):Ok (evC af (k+2) 49 [.ref p,.ref L] S) Q:=by
 refine aA (d:=gM) (ρ:=[aa (.ref p),aa (.ref L),aD]) rfl rfl ?_;dsimp only[gM,kU];k_is;have J:av (.ref L) S=aa (aT,I.map D.int):=by simp only[av,ao g,Zu]
 rw[J];show Ok (aa (I.map D.int,S)) _;rw[aE];k_is;have lt:=h.lt;have C:Dr p S (S++[Ob.lst (I.map D.int)]):=Dr.sm h (Sm.app _ _);have o:=Sm.app S [Ob.lst (I.map D.int)] _ _ g;have U:L < Zc S:=(Zb.mp g).1;k_is;refine⟨(by rw[ao o];rfl),?_⟩;have X:(I.map D.int).length=I.length:=Za _;refine cY I.length (λi=>((I.map D.int)[i]?).getD .non) (λi b S'=>Ev.Kp p S S'/\Pot p S'/\∃left as:List Int,S'[Zc S]?=aa (.lst (left.map D.int))/\b=as.map D.int/\(as++left).Perm I/\left.length+i=I.length) (λi b S' E ⟨kp,_⟩=>by rw[<-X];exact kz (kp _ _ O g) _ qz) (by lia) (λi b f E ⟨kp,pt,left,as,hf,ea,pm,ll⟩=>⟨_,rfl,?_⟩) (λZ f ⟨kp,pt,left,as,hf,ea,pm,ll⟩=>⟨by rw[ea,Za];have:=pm.length_eq;rw[Zn] at this;lia,?_⟩) ⟨C.kp,C.pot,I,[],al,rfl,by simp,by lia⟩
 ·k_is;refine⟨bB hf,?_⟩;k_is;have Y:aw b7 (D.ref (Zc S)) f=aa (.int left.length,f):=by simp only[aw,av,ao hf,Zu,b7,Za]
  refine ac Y ?_;k_is;refine⟨rfl,ax pt (by lia) (by lia) λr z r1 r2 y=>?_⟩;k_is;obtain⟨j,rfl⟩:∃n:Nat,r=(n:Int):=⟨r.toNat,by lia⟩;have v:j < left.length:=by lia
  have c:=y.kp _ _ (show Zc S ≠ p by lia) hf;have u:Zc S < z.length:=(Zb.mp c).1
  have T:fD (.ref (Zc S)) [.int (j:Int)] z=aa (.int left[j],z.set (Zc S) (.lst ((left.map D.int).eraseIdx j))):=by
   have B:ixN (left.map D.int).length (j:Int)=aa j:=by
    unfold ixN;rw[if_pos (by lia),if_pos (by rw[Za];lia),Zo]
   simp only[fD,chg,c,B,Zj,gEG v,Zu]
  refine ac T ?_;k_is;refine⟨(kp.trans y.kp).setNew (Zd _),y.pot.setNe (by lia),left.eraseIdx j,as++[left[j]],by rw[ja u,rZ],by rw[ea,Zr];rfl,?_,by rw[Y7 v];lia⟩;refine List.Perm.trans ?_ pm;rw[Z8];exact List.Perm.append_left as (ux left j v)
 ·subst ea;k_is;have:left=[]:=YD.mp (by lia);subst this;rw[ZY] at pm;exact q as f ⟨kp,pt⟩ pm
def qB:∀ (ps:List (Int × Int)),eD (ps.map ae)=aa ps
 |[]=>rfl
 |q::ps=>by
  rw[Zz];simp only[eD,qB ps,ae,ni]
def oQ{b:Type}(d:b)(l:List b):(Ze l.length).map (λi=>l.getD i d)=l:=by
 apply Wg
 ·simp
 ·intro i h c;simp at h;simp[h]
def Az(ps:List (Int × Int)):∃q:List (Int × Int),dA ps .non (ps.map ae)=q.map ae/\q.Perm ps:=by
 by_cases h:ps.length < 2
 ·exact⟨ps,by unfold dA;rw[if_pos (by rw[Za];exact h)],List.Perm.refl _⟩
 ·have c:0 < ps.length:=by lia
  have f:Pm ps.length (fA (pb ps) (Vp ps.length)):=(rf c).run;refine⟨(fA (pb ps) (Vp ps.length)).toList.map λi=>ps.getD i (0,0),?_,?_⟩
  ·unfold dA;rw[if_neg (by rw[Za];exact h),Za,ZP];refine YC λi g=>?_;have b:=(rj (lt:=pb ps) c).1 i g;simp[b]
  ·have e:(fA (pb ps) (Vp ps.length)).toList.Perm (Ze ps.length):=by
    have:=Array.perm_iff_toList_perm.mp f
    simpa using this
   have:=e.map λi=>ps.getD i (0,0)
   rwa [oQ] at this
def AA(h:ps.length < 64):∃q:List (Int × Int),df aT (ps.map ae)=aa (q.map ae)/\q.Perm ps:=by
 obtain⟨q,e,b⟩:=Az ps;refine⟨q,?_,b⟩;show(if aT=aT then vL aT (ps.map ae) else aD)=_;rw[if_pos rfl];simp only[vL,qB];rw[if_pos (by rw[Za];exact h),e]
def bz{b:Type}{l:List b}{E:b->D}{S:Sto}:aw b7 (.tup (l.map E)) S=aa (.int l.length,S):=by simp only[aw,av,b7,Za]
def wP{b:Type}{l:List b}:l.all (λ_=>aN)=aN:=ZL.mpr λ_ _=>rfl
def wQ{j:Type}{nx:Nxt}{T:Tg}{c:XA}{g:Rho}(l:List j)(E:j->D)(v:l.length<=1000)(h:∀i S',Sm S S'->nx i S'=aa ((l[i]?).map E))
  (step:∀ (i:Nat) a S',l[i]?=aa a->Sm S S'->∃b,aB T (E a) g=aa b/\Ok (c b S') λf o=>f=[.bl aN]/\Sm S' o) (q:∀S',Sm S S'->Q (.bl aN) S') :
  Ok (bA nx T c g LF 0 S) λf u=>f.length<=100000/\Ok (lI aT f u) Q:=by
 refine bh l E (λ_=>[.bl aN]) v (λ_ _=>Zd _) h step λS' n=>?_;rw[ba];refine ac (mf l (λ_=>aN) S') ?_;rw[wP];exact q S' n
def wR{i a b:Int}(c:a<=i)(h:i<=b)(q:Q (.bl aN) S):Ok (evC af (k+2) 1 [.int i,.int a,.int b] S) Q:=qy (p:=0) bp (by
 rw[show Dw.iS (.int i) a b=aN by simp only[Dw.iS,decide_eq_true c,decide_eq_true h,XW]];exact q)
def Iu{i:Int}(b:0<=i)(h:i<=9999)(q:Q (.bl aN) S):Ok (evC af (k+3) 2 [.int i] S) Q:=Aw (p:=0) bp (by
 rw[show Dw.iS (.int i) 0 9999=aN by simp only[Dw.iS,decide_eq_true b,decide_eq_true h,XW]];exact q)
def pj{ts:List Dw.D}{c:List D}{a b:Int}(h:TDs 0 S ts c)(g:a<=ts.length)(f:(ts.length:Int)<=b)(q:Q (.bl aN) S):Ok (evC af (k+1) 3 [.tup c,.int a,.int b] S) Q:=ur (aZ h) (by
 rw[show Dw.isT (.tup ts) a b=aN by simp only[Dw.isT,decide_eq_true g,decide_eq_true f,XW]];exact q)
def mq{M:List (List Int)}:(Dw.qY M).length=M.length:=by unfold Dw.qY;rw[Za]
def R6{r:List Int}{n:Nat}(f:r.length=n)(c:n<=4)(b:∀x ∈ r,1<=x/\x<=99)(q:∀S',Sm S S'->Q (.bl aN) S'):Ok (evC af (k+3) 7 [az r,.int n] S) Q:=by
 refine aA (d:=fJ) (ρ:=[aa (az r),aa (.int n)]) rfl rfl ?_;dsimp only[fJ,jB];rw[show az r = .tup (r.map D.int) from rfl];k_is;refine⟨rfl,pj (fT r) (by rw[Za];lia) (by rw[Za];lia) ?_⟩;k_is;refine wQ r D.int (by lia) cE (λi x S' h sm=>⟨_,rfl,?_⟩) q;k_is;have:=b x (Zi h);exact⟨rfl,wR this.1 this.2 ⟨rfl,Sm.refl _⟩⟩
def Ed{es:List D}(h:∀e ∈ es,e = .bl aN)(S:Sto):lI aT es S=aa (.bl aN,S):=by
 have e:es.map (λ_=>D.bl aN)=es:=by
  conv=>rhs;rw[<-List.map_id es]
  exact YC λx b=>(h x b).symm
 rw[<-e];exact(mf es (λ_=>aN) S).trans (by rw[wP])
def R7(y:SkOk K)(q:∀S',Sm S S'->Q (.bl aN) S'):Ok (evC af (k+1) 8 [.tup (K.M.map az)] S) Q:=by
 refine aA (d:=bj) (ρ:=[aa (.tup (K.M.map az)),aD]) rfl rfl ?_;dsimp only[bj,bZ];have V:=y.vd;have m4:=y.me.m4;k_is;refine ac bz ?_;refine⟨_,rfl,by lia,?_⟩;k_is;have u:(S++[Ob.lst ((Ze K.M.length).map λj=>D.int (Int.ofNat j))])[S.length]?=aa (.lst ((Ze K.M.length).map λj=>D.int (Int.ofNat j))):=al;have z:∀S',Sm (S++[Ob.lst ((Ze K.M.length).map λj=>D.int (Int.ofNat j))]) S'->(aP S' S.length).isSome=aN:=λS' sm=>by rw[ao (sm _ _ u)];rfl
 refine⟨z _ (Sm.refl _),?_⟩;refine(wt u (by lia) (λa=>(Ze K.M.length).flatMap λb=>(Ze K.M.length).flatMap λc=>[.bl aN]) λa S1 X g=>⟨_,rfl,?_⟩).mono λes U ⟨ee,sm⟩=>?_
 ·k_is;refine⟨z _ g,?_⟩;refine wt (g _ _ u) (by lia) _ λb U hb o=>⟨_,rfl,?_⟩;k_is;refine⟨z _ (g.trans o),?_⟩;refine wt (o _ _ (g _ _ u)) (by lia) _ λc v I Z=>⟨_,rfl,?_⟩;k_is;obtain⟨r1,E,O⟩:=kA (S:=v) V (a:=a) (b:=b) (by lia) (by lia) (by lia) (by lia);obtain⟨r2,C,B⟩:=kA (S:=v) V (a:=a) (b:=c) (by lia) (by lia) (by lia) (by lia);obtain⟨r3,L,T⟩:=kA (S:=v) V (a:=c) (b:=b) (by lia) (by lia) (by lia) (by lia);refine ac E (ac O (ac C (ac B (ac L (ac T ?_)))));k_is;refine⟨?_,Sm.refl _⟩;have t:=y.me.tri a b c X hb I;rw[decide_eq_true (show gp K a b<=gp K a c+gp K c b from t)]
 ·subst ee
  have all:∀e ∈ (Ze K.M.length).flatMap λa=>(Ze K.M.length).flatMap λb=>(Ze K.M.length).flatMap λc=>[D.bl aN],e = .bl aN:=λe h=>by
   obtain⟨a,_,h⟩:=Z6.mp h;obtain⟨b,_,h⟩:=Z6.mp h;obtain⟨c,_,h⟩:=Z6.mp h;exact ZK.mp h
  refine⟨?_,ac (Ed all _) (q _ ((Sm.app S _).trans sm))⟩;have Y:∀a b:Nat,((Ze K.M.length).flatMap λc=>[D.bl aN]).length<=4:=λ_ _=>by rw[ba (Ze K.M.length) (λ_=>D.bl aN),Za,Zx];exact m4
  have J:∀a:Nat,((Ze K.M.length).flatMap λb=>(Ze K.M.length).flatMap λc=>[D.bl aN]).length<=K.M.length * 4:=λa=>Dw.xH λb _=>Y a b;have f1:=Dw.xH (n:=K.M.length) (m:=K.M.length * 4) (f:=λa=>(Ze K.M.length).flatMap λb=>(Ze K.M.length).flatMap λc=>[D.bl aN]) λa _=>J a;have:K.M.length * (K.M.length * 4)<=4 * (4 * 4):=Wo m4 (Wo m4 (Zd _))
  lia
def OW(b:SkOk K)(q:∀S',Sm S S'->Q (.bl aN) S'):Ok (evC af (k+4) 6 [.tup (K.M.map az)] S) Q:=by
 refine aA (d:=iX) (ρ:=[aa (.tup (K.M.map az))]) rfl rfl ?_;dsimp only[iX,om];have m1:=b.me.m1;have m4:=b.me.m4;k_is;refine⟨rfl,pj (gU K.M) (by rw[mq];lia) (by rw[mq];lia) ?_⟩;k_is;refine wQ K.M az (by lia) cE (λi r S' g sm=>⟨_,rfl,?_⟩) λS' sm=>?_
 ·k_is;refine ac bz ?_;have h:=Zi g;exact⟨rfl,R6 (b.me.mat.row r h) m4 (b.me.mat.ent r h) λf c=>⟨rfl,c⟩⟩
 ·k_is;exact⟨rfl,R7 b λf c=>q f (sm.trans c)⟩
def AB{z:Int × Int}(f:0<=z.1)(c:z.1 < z.2)(h:z.2<=9999)(q:Q (.bl aN) S):Ok (evC af (k+4) 10 [ae z] S) Q:=by
 refine aA (d:=fK) (ρ:=[aa (ae z)]) rfl rfl ?_;dsimp only[fK,jC];rw[show ae z = .tup [.int z.1,.int z.2] from rfl];have b:ixS (.tup [D.int z.1,.int z.2]) (.int 0) S=aa (.int z.1,S):=rfl;have X:ixS (.tup [D.int z.1,.int z.2]) (.int 1) S=aa (.int z.2,S):=rfl;k_is;refine⟨rfl,pj (ai bp (ai bp aM)) (ZV _) (ZV _) ?_⟩;k_is;refine ac b ⟨rfl,Iu f (by lia) ?_⟩;k_is;refine ac X ⟨rfl,Iu (by lia) h ?_⟩;k_is;refine ac b (ac X ?_);k_is;rw[decide_eq_true c];exact q
def Iv(f:SkOk K)(q:∀S',Sm S S'->Q (.bl aN) S'):Ok (evC af (k+5) 9 [.tup (K.H.map ae)] S) Q:=by
 refine aA (d:=gF) (ρ:=[aa (.tup (K.H.map ae))]) rfl rfl ?_;dsimp only[gF,kN];have h4:=f.me.h4;k_is;refine⟨rfl,pj (bJ K.H) (by rw[Za];lia) (by rw[Za];lia) ?_⟩;k_is;refine wQ K.H ae (by lia) cE (λi z S' g sm=>⟨_,rfl,?_⟩) λS' sm=>?_
 ·k_is;have a:=mo f.me.ris (Zi g);exact⟨rfl,AB (by lia) a.2 (f.me.hb z (Zi g)) ⟨rfl,Sm.refl _⟩⟩
 ·k_is;refine ac bz ?_;k_is;refine⟨⟨by decide,eU (by lia) (by lia)⟩,?_⟩;refine GS (by lia) (λ_=>aN) (λi b n c=>⟨_,rfl,?_⟩) λb c=>?_
  ·k_is;have h:i+1 < K.H.length:=by lia
   have Z:(1:Int)+i=((i+1:Nat):Int):=by lia
   have j:((i+1:Nat):Int) - 1=((i:Nat):Int):=by lia
   rw[Z,j];refine ac (oP (d:=ae K.H[i+1]) (by lia) (by rw[Zo,Zj,gEG h];rfl)) (ac (show ixS (ae K.H[i+1]) (.int 0) b=aa (.int K.H[i+1].1,b) from rfl) ?_);refine ac (oP (d:=ae K.H[i]) (by lia) (by rw[Zo,Zj,gEG (by lia)];rfl)) (ac (show ixS (ae K.H[i]) (.int 1) b=aa (.int K.H[i].2,b) from rfl) ?_);k_is;rw[decide_eq_true (uw f.me.ris i _ _ (gEG (by lia)) (gEG h))];exact⟨rfl,Sm.refl _⟩
  ·refine ac (mf _ (λ_=>aN) _) ?_;rw[wP];exact q b (sm.trans c)
def Ee(b:SkOk K)(q:∀S',Sm S S'->Q (.bl aN) S'):Ok (evC af (k+6) 5 [meE K] S) Q:=by
 refine aA (d:=gD) (ρ:=[aa (meE K),aD,aD,aD,aD]) rfl rfl ?_;dsimp only[gD,kM];rw[show meE K = .tup [.int K.r,.int K.s,.tup (K.M.map az),.tup (K.H.map ae)] from rfl];k_is;refine⟨rfl,pj (ai bp (ai bp (ai (aZ (gU K.M)) (ai (aZ (bJ K.H)) aM)))) (ZV _) (ZV _) ?_⟩;k_is;refine⟨rfl,wR b.me.r0 b.me.r8 ?_⟩;k_is;refine⟨rfl,wR b.me.s0 b.me.s60 ?_⟩;k_is;refine⟨rfl,OW b λh c=>?_⟩;k_is;exact⟨rfl,Iv b λg f=>q g (c.trans f)⟩
def Ef{i:Int}(h:0<=i)(b:i < K.M.length)(q:Q (.bl aN) S):Ok (evC af (k+3) 11 [meE K,.int i] S) Q:=by
 refine aA (d:=kl) (ρ:=[aa (meE K),aa (.int i)]) rfl rfl ?_;dsimp only[kl,qk];k_is;refine ac me2 (ac bz ?_);k_is;exact⟨rfl,wR h (by lia) q⟩
def Iw(f:SkOk K)(q:Q (.bl aN) S):Ok (evC af (k+4) 14 [meE K,ahE K.ah] S) Q:=by
 refine aA (d:=iY) (ρ:=[aa (meE K),aa (ahE K.ah)]) rfl rfl ?_;dsimp only[iY,oo];cases h:K.ah with
 |none=>k_is;exact ac (show aC .is (ahE aD) .non S=aa (.bl aN,S) from rfl) q
 |some z=>
  obtain⟨c,j,B,g⟩:=f.ah z h;have b:ixS (.tup [D.int z.1,.int z.2]) (.int 0) S=aa (.int z.1,S):=rfl;have X:ixS (.tup [D.int z.1,.int z.2]) (.int 1) S=aa (.int z.2,S):=rfl;rw[show ahE (aa z) = .tup [.int z.1,.int z.2] from rfl];k_is;refine ac (show aC .is (.tup [D.int z.1,.int z.2]) .non S=aa (.bl aT,S) from rfl) ?_;k_is;refine⟨rfl,pj (ai bp (ai bp aM)) (ZV _) (ZV _) ?_⟩;k_is;refine ac b ⟨rfl,Ef c j ?_⟩;k_is;exact ac X ⟨rfl,Iu B g q⟩
def Eg(u:SkOk K){g:List Int}(z:g ∈ K.G)(q:∀S',Sm S S'->Q (.bl aN) S'):Ok (evC af (k+4) 16 [meE K,az g] S) Q:=by
 obtain⟨c,j,f,L,b,n,h,rfl,I,J,Y,y,B,b3,Z,X,U,O,C,v⟩:=u.gb g z;have s0:=u.me.s0;refine aA (d:=gG) (ρ:=[aa (meE K),aa (az [c,j,f,L,b,n,h]),aD,aD,aD,aD,aD,aD,aD]) rfl rfl ?_;dsimp only[gG,kO];rw[show az [c,j,f,L,b,n,h] = .tup [.int c,.int j,.int f,.int L,.int b,.int n,.int h] from rfl];k_is;refine⟨rfl,pj (fT [c,j,f,L,b,n,h]) (ZV _) (ZV _) ?_⟩;k_is;refine wQ [j,f,L,b] D.int (by show 4<=1000;decide) (cE (l:=[j,f,L,b]) (E:=D.int)) (λi x S' T sm=>⟨_,rfl,?_⟩) λS' sm=>?_
 ·k_is;have o:=Zi T;simp only[Zl,Z0,or_false] at o;refine⟨rfl,Iu ?_ ?_ ⟨rfl,Sm.refl _⟩⟩
  ·rcases o with rfl |rfl |rfl |rfl <;> lia
  ·rcases o with rfl |rfl |rfl |rfl <;> lia
 ·k_is;refine ac me1 ?_;k_is;rw[decide_eq_true y];k_is;rw[decide_eq_true B];k_is;refine⟨rfl,Ef I J ?_⟩;k_is;refine⟨rfl,wR U O ?_⟩;k_is;refine ac me0 ⟨rfl,wR C v (q S' sm)⟩
def AC(b:SkOk K)(q:∀S',Sm S S'->Q (.bl aN) S'):Ok (evC af (k+5) 15 [meE K,.tup (K.G.map az)] S) Q:=by
 refine aA (d:=eJ) (ρ:=[aa (meE K),aa (.tup (K.G.map az))]) rfl rfl ?_;dsimp only[eJ,iu];have g7:=b.g7;k_is;refine⟨rfl,pj (gU K.G) (by rw[mq];lia) (by rw[mq];lia) ?_⟩;k_is;refine wQ K.G az (by lia) cE (λi g S' h sm=>⟨_,rfl,?_⟩) q;k_is;exact⟨rfl,Eg b (Zi h) λf c=>⟨rfl,c⟩⟩
def Eh(c:SkOk K)(q:∀S',Sm S S'->Q (.bl aN) S'):Ok (evC af (k+3) 4 [.tup (K.F.map D.int),.int K.G.length] S) Q:=by
 refine aA (d:=fI) (ρ:=[aa (.tup (K.F.map D.int)),aa (.int K.G.length)]) rfl rfl ?_;dsimp only[fI,jA];have g7:=c.g7;have L:=Dw.ce K.G.length K.F c.nd c.bd;k_is;refine⟨rfl,pj (fT K.F) (by rw[Za];lia) (by rw[Za];lia) ?_⟩;k_is;refine wQ K.F D.int (by lia) cE (λi x S' h sm=>⟨_,rfl,?_⟩) λS' sm=>?_
 ·k_is;have:=c.bd x (Zi h);exact⟨rfl,wR this.1 (by lia) ⟨rfl,Sm.refl _⟩⟩
 ·k_is;refine wQ K.F D.int (by lia) cE (λi x f h b=>⟨_,rfl,?_⟩) λf b=>q f (sm.trans b);k_is;refine⟨rfl,ac (Dk K.F x f) ?_⟩;k_is;rw[show((K.F.count x:Nat):Int)=1 by rw[List.Nodup.count c.nd,if_pos (Zi h)];rfl];exact⟨rfl,Sm.refl _⟩
def Ix(j:SkOk K)(q:∀S',Sm S S'->Q (.bl aN) S'):Ok (evC af (k+4) 17 [.tup (K.G.map az),.tup (K.F.map D.int)] S) Q:=by
 refine aA (d:=gH) (ρ:=[aa (.tup (K.G.map az)),aa (.tup (K.F.map D.int))]) rfl rfl ?_;dsimp only[gH,kP];have g7:=j.g7;k_is;refine ac bz ?_;refine⟨rfl,Eh j λo X=>?_⟩;k_is;refine cY K.G.length (λi=>.tup [.int i,((K.G.map az)[i]?).getD .non]) (λi b S'=>Sm o S'/\b.length=i/\∀e ∈ b,e = .bl aN) (λi b S' h _=>?_) (by lia) (λi b S' h B=>?_) (λZ S' n=>by obtain⟨f,Y,y⟩:=n;exact⟨by lia,ac (Ed y _) (q S' (X.trans f))⟩) ⟨Sm.refl _,rfl,λe u=>by cases u⟩
 ·show enm (K.G.map az) i=_;unfold enm;rw[if_pos (by rw[Za];exact h)];split
  ·rename_i v;rw[gEG (by rw[Za];exact v)];rfl
  ·rw[ZE (by rw[Za];lia)];rfl
 ·obtain⟨f,Y,y⟩:=B;obtain⟨E,J,C,L,I,O,g,T,_⟩:=j.gb K.G[i] (ZI h);have rg:=j.rg i _ (gEG h);have U:((K.G.map az)[i]?).getD .non = .tup [.int E,.int J,.int C,.int L,.int I,.int O,.int g]:=by rw[Zj,gEG h,T];rfl
  rw[T] at rg;have rg:g=0\/(i:Int) ∈ K.F:=rg;rw[U];have fin:∀S',Sm o S'->Sm o S'/\(b++[D.bl aN]).length=i+1/\∀e ∈ b++[D.bl aN],e = .bl aN:=λS' f=>⟨f,by rw[Zn,ZO];lia,λe u=>(ZJ.mp u).elim (y e) λz=>ZK.mp z⟩;refine⟨_,bH (by simp) (by simp),?_⟩;k_is;refine ac (show ixS (.tup [D.int E,.int J,.int C,.int L,.int I,.int O,.int g]) (.int 6) S'=aa (.int g,S') from rfl) ?_;k_is;cases c:decide (g=0) with
  |true=>k_is;exact fin S' f
  |false=>
   k_is;refine ac (show aC .isin (.int (i:Int)) (.tup (K.F.map D.int)) S'=aa (.bl (aT != decide ((i:Int) ∈ K.F)),S') from rL aT K.F i S') ?_;rw[decide_eq_true (rg.resolve_left (of_decide_eq_false c))];exact fin S' f
def R8(b:SkOk K)(q:∀S',Sm S S'->Q (.bl aN) S'):Ok (evC af (k+7) 13 [skE K] S) Q:=by
 refine aA (d:=oD) (ρ:=[aa (skE K),aD,aD,aD,aD]) rfl rfl ?_;dsimp only[oD,ui];rw[show skE K = .tup [meE K,ahE K.ah,.tup (K.G.map az),.tup (K.F.map D.int)] from rfl];k_is;refine⟨rfl,pj (ts:=[.tup [.int K.r,.int K.s,.tup (Dw.qY K.M),.tup (K.H.map Dw.aY)],ahT K.ah,.tup (Dw.qY K.G),.tup (K.F.map Dw.D.int)]) (ai (aZ (ai bp (ai bp (ai (aZ (gU K.M)) (ai (aZ (bJ K.H)) aM))))) (ai (JY K.ah) (ai (aZ (gU K.G)) (ai (aZ (fT K.F)) aM)))) (ZV _) (ZV _) ?_⟩;k_is;refine⟨rfl,Ee b λj g=>?_⟩;k_is;refine⟨rfl,Iw b ?_⟩;k_is;refine⟨rfl,AC b λn h=>?_⟩;k_is;exact⟨rfl,Ix b λc f=>q c ((g.trans h).trans f)⟩
def Ei{Q:RR->Sto->Prop}(b:SkOk K)(q:∀S',Sm S S'->Q (.val .non) S'):OkX (evX af (k+8) 18 [skE K] S) Q:=by
 refine D8 (d:=lc) (rs:=gz) (ρ:=[aa (skE K)]) rfl rfl rfl ?_;unfold gz;refine JW ?_;k_is;refine⟨rfl,R8 b λS' sm=>?_⟩;k_is;exact D9 (q S' sm)
def oT{L n:Nat}(h:Pot p S)(B:S[L]?=aa (.lst es))(nL:L ≠ p)(y:RowsS p S es M)(g:Dw.Mat (n+1) M)(hn:n < 4)
  (q:∀n M S',Dr p S S'->Dw.Mat n M->1<=n->n<=4->Dw.pP n n M->Q (.tup (M.map az)) S') :
  rW (wSs (evC af (k+1)) (cA af) 57 (dE.drop 3)) [aa (.ref p),aa (.int (1+(n:Int))),aa (.ref L),aD] S (out Q):=by
 dsimp only[dE,Yn];k_is;have e1:((1:Int)+n).toNat=n+1:=by lia
 refine⟨(by simp only[lim,bAE,decide_eq_true_eq];lia),?_⟩;rw[e1];refine fj (by lia) (λc ρ S'=>Dr p S S'/\∃L es M u,ρ=[aa (.ref p),aa (.int (1+(n:Int))),aa (.ref L),u]/\L ≠ p/\S'[L]?=aa (.lst es)/\RowsS p S' es M/\Dw.Mat (n+1) M/\Dw.pP (n+1) c M) (λc ρ S1 o ⟨O,L,es,M,u,Y,nL,B,y,g,tr⟩=>?_) (λρ S1 ⟨O,L,es,M,u,Y,nL,B,y,g,tr⟩=>?_) ⟨Dr.refl h,L,es,M,aD,rfl,nL,B,y,g,λa b q _ _ hq=>absurd hq (Yb q)⟩
 ·subst Y;refine⟨_,rfl,?_⟩;k_is;refine⟨(by rw[ao B];rfl),?_⟩;have le:es.length=n+1:=by rw[y.len,g.len]
  refine cY (n+1) (λi=>(es[i]?).getD .non) (λi f S'=>Sm S1 S'/\RowsS p S' f ((Ze i).map (Dw.bO M (n+1) c))) (λi f S' C ⟨sm,_⟩=>by rw[<-le];exact kz (sm _ _ B) _ qz) (by lia) (λi f z C ⟨sm,X⟩=>?_) (λes' z ⟨sm,X⟩=>⟨by rw[X.len,Za,Zx];lia,?_⟩) ⟨Sm.refl _,RowsS.nil⟩
  ·obtain⟨r,m1,lr,_⟩:=g.at C o;obtain⟨a,J,na,za⟩:=y.row i r m1;obtain⟨rc,m2,lrc,_⟩:=g.at o o;obtain⟨b,eb,nb,zb⟩:=y.row c rc m2;have Z:=sm _ _ za;have zb2:=sm _ _ zb;simp only[J,ZT];refine⟨_,rfl,?_⟩;k_is;refine⟨(by rw[ao Z];rfl),?_⟩;have lm:(r.map D.int).length=n+1:=by rw[Za];exact lr
   refine cY (n+1) (λj=>.tup [.int j,((r.map D.int)[j]?).getD .non]) (λj f S'=>S'=z/\f=((Dw.bO M (n+1) c i).take j).map D.int) (λj f S' T ⟨e,_⟩=>by subst e;rw[<-lm];exact rO (i:=j) Z (by lia) (λj=>.tup [.int j,((r.map D.int)[j]?).getD .non]) λj d hd=>by show D.tup [.int j,((r.map D.int)[j]?).getD .non]=_;rw[hd];rfl) (by lia) (λj f I T ⟨e3,E⟩=>?_) (λes3 I ⟨e3,E⟩=>⟨by rw[E,Za,Zs];lia,?_⟩) ⟨rfl,rfl⟩
   ·subst e3;obtain⟨r',v,_,e4,_⟩:=g.at C T;rw[m1] at v;cases v;have g1:((r.map D.int)[j]?).getD .non = .int (Dw.mg2 M i j):=by rw[Zj,e4];rfl
    rw[g1];refine⟨_,bH (by simp) (by simp),?_⟩;k_is;obtain⟨r',v,_,e5,_⟩:=g.at C o;rw[m1] at v;cases v;obtain⟨rc',v,_,e6,_⟩:=g.at o T;rw[m2] at v;cases v;have z0:(0:Int)+(c:Int)=(c:Int):=by lia
    have U:∀ (l:List Int) (m:Nat) (x:Int),l[m]?=aa x->atI (l.map D.int) (m:Int)=aa (.int x):=λl m x hx=>by
     have hlt:=(Zb.mp hx).1;unfold atI ixN;rw[if_pos (by lia),if_pos (by rw[Za];lia),Zo];show(l.map D.int)[m]?=_;rw[Zj,hx];rfl
    have i1:ixS (.ref a) (.int (0+(c:Int))) I=aa (.int (Dw.mg2 M i c),I):=by
     simp only[ixS,av,ao Z,Zu,z0,U r c _ e5]
    have i2:ixS (.ref L) (.int (0+(c:Int))) I=aa (.ref b,I):=by
     have:atI es (c:Int)=aa (.ref b):=by
      unfold atI ixN;rw[if_pos (by lia),if_pos (by lia),Zo];exact eb
     simp only[ixS,av,ao (sm _ _ B),Zu,z0,this]
    have i3:ixS (.ref b) (.int (j:Int)) I=aa (.int (Dw.mg2 M c j),I):=by
     simp only[ixS,av,ao zb2,Zu,U rc j _ e6]
    refine ac i1 (ac i2 (ac i3 ?_));k_is;have lj:j < (Dw.bO M (n+1) c i).length:=by rw[Dw.mV];exact T
    have gj:=Dw.sQ M (c:=c) (i:=i) T;rw[gEG lj] at gj;rw[E,ZN lj,Zr,Option.some.inj gj];exact⟨rfl,rfl⟩
   ·subst e3;rw[Z5 (by rw[Dw.mV];exact Zd _)] at E;subst E;k_is;have lt:=(Dr.sm O.pot sm).pot.lt;refine⟨sm.trans (Sm.app _ _),?_⟩;rw[Yj,Zr];exact(X.keep (Sm.app _ _).kp).snoc (by lia) al
  ·k_is;have lt:=(Dr.sm O.pot sm).pot.lt;have st:Dw.Mat (n+1) ((Ze (n+1)).map (Dw.bO M (n+1) c)):=Dw.BK g o;exact⟨(O.thenSm sm).thenSm (Sm.app _ _),_,_,_,_,rfl,by lia,al,X.keep (Sm.app _ _).kp,st,Dw.BJ g o tr (Dw.FE g o)⟩
 ·subst Y;k_is;refine⟨(by rw[ao B];rfl),?_⟩;have le:es.length=n+1:=by rw[y.len,g.len]
  refine cY (n+1) (λi=>(es[i]?).getD .non) (λi f S'=>S'=S1/\f=(M.take i).map az) (λi f S' C ⟨e,_⟩=>by subst e;rw[<-le];exact kz B _ qz) (by lia) (λi f z C ⟨e2,J⟩=>?_) (λes' z ⟨e2,J⟩=>⟨by rw[J,Za,Zs];lia,?_⟩) ⟨rfl,rfl⟩
  ·subst e2;have li:i < M.length:=by rw[g.len];exact C
   obtain⟨a,eb,na,za⟩:=y.row i M[i] (gEG li);simp only[eb,ZT];refine⟨_,rfl,?_⟩;k_is;have tq:aw j3 (.ref a) z=aa (.tup (M[i].map D.int),z):=by simp only[aw,av,ao za,Zu,j3]
   refine ac tq ?_;refine⟨rfl,?_⟩;rw[J,ZN li,Zr];rfl
  ·subst e2;rw[Z5 (by rw[g.len];exact Zd _)] at J;subst J;show Ok (aa (D.tup _,z)) _;rw[aE];exact q (n+1) M z O g (by lia) (by lia) tr
def Ej(h:Pot p S)(q:∀n M S',Dr p S S'->Dw.Mat n M->1<=n->n<=4->Dw.pP n n M->Q (.tup (M.map az)) S'):Ok (evC af (k+2) 45 [.ref p] S) Q:=by
 refine aA (d:=i7) (ρ:=[aa (.ref p),aD,aD,aD]) rfl rfl ?_;dsimp only[i7,dE];k_is;refine⟨rfl,ax h (by decide) (by decide) λr0 S1 r1 r2 d1=>?_⟩;k_is;obtain⟨n,rfl⟩:∃n:Nat,r0=(n:Int):=⟨r0.toNat,by lia⟩;have e1:((1:Int)+n).toNat=n+1:=by lia
 refine⟨(by simp only[lim,bAE,decide_eq_true_eq];lia),?_⟩;rw[e1];refine oH (by lia) (λi b S'=>Dr p S1 S'/\∃M:List (List Int),M.length=i/\RowsS p S' b M/\∀r ∈ M,r.length=n+1/\∀x ∈ r,1<=x/\x<=99) (λi b u hi ⟨d2,M,lM,rM,bM⟩=>⟨_,rfl,?_⟩) (λE u ⟨d2,M,lM,rM,bM⟩=>⟨by rw[rM.len];lia,?_⟩) ⟨Dr.refl d1.pot,[],rfl,RowsS.nil,λr f=>by simp at f⟩
 ·k_is;refine⟨(by simp only[lim,bAE,decide_eq_true_eq];lia),?_⟩;rw[e1];refine oH (by lia) (λj b S'=>Dr p u S'/\∃r:List Int,b=r.map D.int/\r.length=j/\∀x ∈ r,1<=x/\x<=99) (λj b S3 hj ⟨c,r,Z,lr,I⟩=>⟨_,rfl,?_⟩) (λE S3 ⟨c,r,Z,lr,I⟩=>⟨by rw[Z,Za];lia,?_⟩) ⟨Dr.refl d2.pot,[],rfl,rfl,λx hx=>by simp at hx⟩
  ·k_is;refine⟨rfl,ax c.pot (by decide) (by decide) λx S4 x1 x2 X=>?_⟩;k_is;refine⟨c.trans X,r++[1+x],by rw[Z,Zr];rfl,by simp[lr],λy hy=>?_⟩;rcases ZJ.mp hy with hy |hy
   ·exact I y hy
   ·simp at hy;lia
  ·subst Z;k_is;have lt:=c.pot.lt;refine⟨(d2.trans c).thenSm (Sm.app _ _),M++[r],by simp[lM],((rM.keep c.kp).keep (Sm.app _ _).kp).snoc (by lia) al,λr' hr'=>?_⟩;rcases ZJ.mp hr' with hr' |hr'
   ·exact bM r' hr'
   ·simp at hr';subst hr';exact⟨lr,I⟩
 ·have lt2:=d2.pot.lt;have c:Dr p S1 (u++[Ob.lst E]):=d2.thenSm (Sm.app _ _);have r3:RowsS p (u++[Ob.lst E]) E M:=rM.keep (Sm.app _ _).kp;have a3:(u++[Ob.lst E])[u.length]?=aa (Ob.lst E):=al;have m3:Dw.Mat (n+1) M:=⟨lM,λr f=>(bM r f).1,λr f=>(bM r f).2⟩;have C:u.length ≠ p:=by lia
  revert a3 r3 c;generalize u++[Ob.lst E]=S3;intro c r3 a3;k_is;refine⟨rfl,ax c.pot (by decide) (by decide) λx S4 x1 x2 X=>?_⟩;k_is;have a4:=X.kp _ _ C a3;have r4:=r3.keep X.kp;have d5:Dr p S S4:=(d1.trans c).trans X;have hlim:lim (1+(n:Int))=aN:=by simp only[lim,bAE,decide_eq_true_eq];lia
  refine fk (λ_=>?_) λ_=>?_
  ·k_is;refine⟨(by rw[ao a4];rfl),?_⟩;have le:E.length=n+1:=by rw[r4.len,lM]
   refine cY (n+1) (λi=>(E[i]?).getD .non) (λi b S'=>Dr p S4 S'/\∃J:List (List Int),J.length=i/\RowsS p S' b J/\∀r ∈ J,r.length=n+1/\∀x ∈ r,1<=x/\x<=99) (λi b S' hi ⟨v,_⟩=>by rw[<-le];exact kz (v.kp _ _ C a4) _ qz) (by lia) (λi b S5 hi ⟨v,J,Y,g,B⟩=>?_) (λes' S5 ⟨v,J,Y,g,B⟩=>⟨by rw[g.len];lia,?_⟩) ⟨Dr.refl X.pot,[],rfl,RowsS.nil,λr f=>by simp at f⟩
   ·obtain⟨r,m1,lr,_⟩:=m3.at hi hi;obtain⟨a,Z,na,za⟩:=r4.row i r m1;simp only[Z,ZT];refine⟨_,rfl,?_⟩;k_is;have za5:=v.kp _ _ na za;refine⟨(by rw[ao za5];rfl),?_⟩;have lm:(r.map D.int).length=n+1:=by rw[Za];exact lr
    refine cY (n+1) (λi=>((r.map D.int)[i]?).getD .non) (λj b S'=>Dr p S5 S'/\∃r:List Int,b=r.map D.int/\r.length=j/\∀x ∈ r,1<=x/\x<=99) (λj b S' hj ⟨de,_⟩=>by rw[<-lm];exact kz (de.kp _ _ na za5) _ qz) (by lia) (λj b S6 hj ⟨de,r',o,U,I⟩=>⟨_,rfl,?_⟩) (λes6 S6 ⟨de,r',o,U,I⟩=>⟨by rw[o,Za];lia,?_⟩) ⟨Dr.refl v.pot,[],rfl,rfl,λx hx=>by simp at hx⟩
    ·k_is;refine⟨rfl,ax de.pot (by decide) (by decide) λy S7 y1 y2 d7=>?_⟩;k_is;refine⟨de.trans d7,r'++[99 - y],by rw[o,Zr];rfl,by simp[U],λz hz=>?_⟩;rcases ZJ.mp hz with hz |hz
     ·exact I z hz
     ·simp at hz;lia
    ·subst o;k_is;have lt:=de.pot.lt;refine⟨(v.trans de).thenSm (Sm.app _ _),J++[r'],by simp[Y],((g.keep de.kp).keep (Sm.app _ _).kp).snoc (by lia) al,λr'' hr''=>?_⟩;rcases ZJ.mp hr'' with hr'' |hr''
     ·exact B r'' hr''
     ·simp at hr'';subst hr'';exact⟨U,I⟩
   ·have lt:=v.pot.lt;have d6:Dr p S4 (S5++[Ob.lst es']):=v.thenSm (Sm.app _ _);have T:=oT (k:=k) (Q:=Q) (n:=n) (L:=S5.length) (es:=es') (M:=J) d6.pot al (by lia) (g.keep (Sm.app _ _).kp) ⟨Y,λr f=>(B r f).1,λr f=>(B r f).2⟩ (by lia) λn' M S' O h1 h2 h3 h4=>q n' M S' ((d5.trans d6).trans O) h1 h2 h3 h4;dsimp only[dE,Yn] at T;k_is;exact T
  ·have T:=oT (k:=k) (Q:=Q) (n:=n) X.pot a4 C r4 m3 (by lia) λn' M S' O h1 h2 h3 h4=>q n' M S' (d5.trans O) h1 h2 h3 h4;dsimp only[dE,Yn] at T;k_is;exact T
def AE(h:Pot p S)(q:∀H S',Dr p S S'->Ris (-1) H->H.length<=4->(∀z ∈ H,z.2<=9999)->Q (.tup (H.map ae)) S'):Ok (evC af (k+2) 46 [.ref p,.int 0] S) Q:=by
 refine aA (d:=gL) (ρ:=[aa (.ref p),aa (.int 0),aD,aD,aD]) rfl rfl ?_;dsimp only[gL,kT];k_is;have d0:Dr p S (S++[Ob.lst []]):=Dr.sm h (Sm.app _ _);refine⟨rfl,ax d0.pot (by decide) (by decide) λr0 S1 r1 r2 B=>?_⟩;obtain⟨n,rfl⟩:∃n:Nat,r0=(n:Int):=⟨r0.toNat,by lia⟩;have lt:=h.lt;have a1:S1[S.length]?=aa (Ob.lst []):=B.kp _ _ (by lia) al
 have I:atI [D.int 0,D.int 1,D.int 2,D.int 3,D.int 4] (n:Int)=aa (D.int n):=by
  have:n=0\/n=1\/n=2\/n=3\/n=4:=by lia
  rcases this with rfl |rfl |rfl |rfl |rfl <;> rfl
 refine⟨_,I,?_⟩;k_is;refine⟨(by simp only[lim,bAE,decide_eq_true_eq];lia),?_⟩;rw[Zo];refine fj (by lia) (λi O S'=>Kp p S S'/\Pot p S'/\∃ (E:List (Int × Int)) (b:Int) (u:Option D),O=[aa (.ref p),aa (.int 0),aa (.ref S.length),aa (.int b),u]/\S'[S.length]?=aa (.lst (E.map ae))/\(Ris (-1) E/\∀z ∈ E,z.2<=b)/\E.length=i/\0<=b/\b<=20 * i) (λi O f hi U=>?_) (λO f j=>?_) ⟨d0.kp.trans B.kp,B.pot,[],0,aD,rfl,a1,⟨trivial,λz hz=>by cases hz⟩,rfl,by lia,by lia⟩
 ·obtain⟨v,o,E,b,u,g,J,c,le,b0,b1⟩:=U;subst g;refine⟨_,rfl,?_⟩;k_is;refine⟨rfl,ax o (by decide) (by decide) λx S3 x1 x2 C=>?_⟩;k_is;have Z:=C.kp _ _ (show S.length ≠ p by lia) J;refine⟨bB Z,?_⟩;k_is;refine⟨rfl,ax C.pot (by decide) (by decide) λy Y y1 y2 T=>?_⟩;k_is;have f4:=T.kp _ _ (show S.length ≠ p by lia) Z;rw[eT f4 (by rw[Za];lia)];k_is;have L:S.length < Y.length:=(Zb.mp f4).1;have X:(Y.set S.length (Ob.lst (E.map ae++[D.tup [D.int (b+1+x),D.int (b+1+x+1+y)]])))[S.length]?=aa (Ob.lst (E.map ae++[D.tup [D.int (b+1+x),D.int (b+1+x+1+y)]])):=ja L;refine ac (mi X) ?_;k_is;show Ok (aa (D.int (b+1+x+1+y),_)) _;rw[aE];k_is;refine⟨((v.trans C.kp).trans T.kp).setNew (Zd _),T.pot.setNe (by lia),E++[(b+1+x,b+1+x+1+y)],_,_,rfl,by rw[Zr];exact X,⟨uv c.1 (by lia) (λz hz=>by have:=c.2 z hz;lia) (by lia),λz hz=>?_⟩,by simp[le],by lia,by lia⟩;rcases ZJ.mp hz with hz |hz
  ·have:=c.2 z hz;lia
  ·rw[ZK.mp hz];exact ZV _
 ·obtain⟨v,o,E,b,u,g,J,c,le,b0,b1⟩:=j;subst g;k_is;have tq:aw j3 (.ref S.length) f=aa (.tup (E.map ae),f):=by simp only[aw,av,ao J,Zu,j3]
  refine ac tq ?_;k_is;exact q E f ⟨v,o⟩ c.1 (by lia) λz hz=>by have:=c.2 z hz;lia
def Ek(h:Pot p S)(q:∀r s M H S',Dr p S S'->MeOk r s M H->Q (meL r s M H) S'):Ok (evC af (k+3) 47 [.ref p] S) Q:=by
 refine aA (d:=fM) (ρ:=[aa (.ref p),aD]) rfl rfl ?_;dsimp only[fM,jE];k_is;refine⟨rfl,ax h (by decide) (by decide) λr0 C r1 r2 g=>?_⟩;obtain⟨n,rfl⟩:∃n:Nat,r0=(n:Int):=⟨r0.toNat,by lia⟩
 obtain⟨r,c,o⟩:∃r:Int,atI [D.int 2,D.int 1,D.int 3,D.int 8,D.int 0] (n:Int)=aa (D.int r)/\0<=r/\r<=8:=by
  have:n=0\/n=1\/n=2\/n=3\/n=4:=by lia
  rcases this with rfl |rfl |rfl |rfl |rfl
  ·exact⟨2,rfl,by decide,by decide⟩
  ·exact⟨1,rfl,by decide,by decide⟩
  ·exact⟨3,rfl,by decide,by decide⟩
  ·exact⟨8,rfl,by decide,by decide⟩
  ·exact⟨0,rfl,by decide,by decide⟩
 refine⟨_,c,?_⟩;k_is;refine⟨rfl,ax g.pot (by decide) (by decide) λs0 L I J u=>?_⟩;obtain⟨m,rfl⟩:∃n:Nat,s0=(n:Int):=⟨s0.toNat,by lia⟩
 obtain⟨s,b,hs⟩:∃r:Int,atI [D.int 2,D.int 0,D.int 1,D.int 5,D.int 60] (m:Int)=aa (D.int r)/\0<=r/\r<=60:=by
  have:m=0\/m=1\/m=2\/m=3\/m=4:=by lia
  rcases this with rfl |rfl |rfl |rfl |rfl
  ·exact⟨2,rfl,by decide,by decide⟩
  ·exact⟨0,rfl,by decide,by decide⟩
  ·exact⟨1,rfl,by decide,by decide⟩
  ·exact⟨5,rfl,by decide,by decide⟩
  ·exact⟨60,rfl,by decide,by decide⟩
 refine⟨_,b,?_⟩;k_is;refine⟨rfl,Ej u.pot λB M E j f m1 m4 tr=>?_⟩;k_is;refine⟨rfl,AE j.pot λH v z y h4 hb=>?_⟩;k_is;obtain rfl:=f.len;exact q r s M H v (((g.trans u).trans j).trans z) ⟨o.1,o.2,hs.1,hs.2,f,m1,m4,tr,y,h4,hb⟩
def El{r s:Int}(h:Pot p S)(me:MeOk r s M o)
  (q:∀ (a j f l u w:Int) S',Dr p S S'->GB M.length r s [a,j,f,l,u,w,0]->Q (az [a,j,f,l,u,w,0]) S'):Ok (evC af (k+2) 48 [.ref p,meL r s M o] S) Q:=by
 have m1:=me.m1;have m4:=me.m4;have s0:=me.s0;have s60:=me.s60;have r0:=me.r0;refine aA (d:=fN) (ρ:=[aa (.ref p),aa (meL r s M o),aD,aD,aD,aD]) rfl rfl ?_;dsimp only[fN,jF];k_is;refine⟨rfl,ax h (by decide) (by decide) λj S1 j1 j2 d1=>?_⟩;k_is;refine ac (show ixS (meL r s M o) (.int 1) S1=aa (.int s,S1) from rfl) ?_;k_is;refine⟨rfl,ax d1.pot (by decide) (by decide) λx S2 x1 x2 d2=>?_⟩;k_is;refine⟨rfl,ax d2.pot (by decide) (by decide) λy S3 y1 y2 d3=>?_⟩;obtain⟨n,rfl⟩:∃n:Nat,y=(n:Int):=⟨y.toNat,by lia⟩
 obtain⟨e,I,he⟩:∃e:Int,atI [D.int 0,D.int 0,D.int x] (n:Int)=aa (D.int e)/\0<=e/\e<=9:=by
  have:n=0\/n=1\/n=2:=by lia
  rcases this with rfl |rfl |rfl
  ·exact⟨0,rfl,by decide,by decide⟩
  ·exact⟨0,rfl,by decide,by decide⟩
  ·exact⟨x,rfl,by lia,by lia⟩
 refine⟨_,I,?_⟩;k_is;refine⟨rfl,ax d3.pot (by decide) (by decide) λU S4 a1 a2 d4=>?_⟩;k_is;refine⟨rfl,ax d4.pot (by decide) (by decide) λX S5 b1 b2 Z=>?_⟩;k_is;refine⟨rfl,ax Z.pot (by decide) (by decide) λL S6 c1 c2 O=>?_⟩;obtain⟨c,rfl⟩:∃n:Nat,L=(n:Int):=⟨L.toNat,by lia⟩
 obtain⟨g,C,hg⟩:∃e:Int,atI [D.int U,D.int (5+X),D.int 60,D.int 200] (c:Int)=aa (D.int e)/\0<=e/\e<=200:=by
  have:c=0\/c=1\/c=2\/c=3:=by lia
  rcases this with rfl |rfl |rfl |rfl
  ·exact⟨U,rfl,by lia,by lia⟩
  ·exact⟨5+X,rfl,by lia,by lia⟩
  ·exact⟨60,rfl,by decide,by decide⟩
  ·exact⟨200,rfl,by decide,by decide⟩
 refine⟨_,C,?_⟩;k_is;refine⟨rfl,ax O.pot (by decide) (by decide) λz S7 z1 z2 J=>?_⟩;k_is;refine⟨rfl,ax J.pot (by decide) (by decide) λz' S8 z3 z4 d8=>?_⟩;k_is;refine⟨rfl,ax d8.pot (by decide) (by decide) λY S9 y3 y4 d9=>?_⟩;obtain⟨b,rfl⟩:∃n:Nat,Y=(n:Int):=⟨Y.toNat,by lia⟩
 obtain⟨u,E,hu⟩:∃v:Int,atI [D.int (j+s+e),D.int (j+z),D.int z'] (b:Int)=aa (D.int v)/\0<=v/\v<=300:=by
  have:b=0\/b=1\/b=2:=by lia
  rcases this with rfl |rfl |rfl
  ·exact⟨j+s+e,rfl,by lia,by lia⟩
  ·exact⟨j+z,rfl,by lia,by lia⟩
  ·exact⟨z',rfl,by lia,by lia⟩
 refine⟨_,E,?_⟩;k_is;have B:=(((((((d1.trans d2).trans d3).trans d4).trans Z).trans O).trans J).trans d8).trans d9;refine ac (show ixS (meL r s M o) (.int 2) _=aa (.tup (M.map az),_) from rfl) ?_;refine ac (show aw b7 (.tup (M.map az)) S9=aa (.int M.length,S9) by simp only[aw,av,b7,Za]) ?_;k_is;refine⟨rfl,ax d9.pot (by lia) (by lia) λkd Sa ka kb T=>?_⟩;k_is;refine⟨rfl,ax T.pot (by decide) (by decide) λw Sb w1 w2 db=>?_⟩;k_is;exact q kd j (j+s+e) (j+s+e+g) u w Sb ((B.trans T).trans db) ⟨_,_,_,_,_,_,_,rfl,by omega⟩
def iI{n:Nat}{ds:List D}{T:Tg}{b:XS}{c:Rho}{Q:Fl->Rho->Sto->Prop}(C:ds.length<=100000)(I:Nat->Rho->Sto->Prop)(u:∀i c S',I i c S'->S'[n]?=aa (.lst ds))
  (step:∀ (i:Nat) d c S',ds[i]?=aa d->I i c S'->∃f,aB T d c=aa f/\OkS (b f S') λy g j=>match y with |.nx=>I (i+1) g j |.ct=>I (i+1) g j |.bk=>Q .nx g j |.rt d=>Q (.rt d) g j)
  (q:∀c S',I ds.length c S'->Q .nx c S') (B:I 0 c S):OkS (dM (nxS n) T b LF 0 c S) Q:=by
 refine jH ds.length I (by unfold LF;lia) (λi c S' v h=>?_) (λc S' h=>⟨?_,q c S' h⟩) B
 ·obtain⟨f,E,z⟩:=step i ds[i] c S' (gEG v) h;refine⟨ds[i],f,?_,E,z⟩;show(aP S' n).map (λds=>ds[i]?)=_;rw[ao (u i c S' h),Zu,gEG v]
 ·show(aP S' n).map (λo=>o[ds.length]?)=_;rw[ao (u _ c S' h),Zu,ZE (Zd _)]
def ia{n:Nat}(h:S[n]?=aa (.lst b)):aw j3 (.ref n) S=aa (.tup b,S):=by simp only[aw,av,ao h,Zu,j3]
def Iy{n j:Nat}{G:List (List Int)}{g:List Int}(h:S[n]?=aa (.lst (G.map az)))(c:j < G.length):fc (.ref n) (.int (j:Int)) (az g) S=aa (S.set n (.lst ((G.set j g).map az))):=by
 have b:ixN (G.map az).length (j:Int)=aa j:=by
  unfold ixN;rw[if_pos (by lia),if_pos (by rw[Za];lia),Zo]
 simp only[fc,h,b,Zu,Wv]
def Em{r s:Int}{M G:List (List Int)}{T:List (Int × Int)}{N Ng:Nat}{is:List Int}{S0:Sto}(h:Pot p S)(k0:Ev.Kp p S0 S)(l0:S0.length<=Ng)(me:MeOk r s M T)(hG:S[Ng]?=aa (.lst (G.map az)))(U:Ng ≠ p)(hN:S[N]?=aa (.lst (is.map D.int)))(nN:N ≠ p)(gb:∀g ∈ G,GB M.length r s g)(h0:∀g ∈ G,g.getD 6 0=0)(l6:G.length<=7)(pm:is.Perm ((Ze G.length).map λi=>Int.ofNat i))
  (q:∀K S',Ev.Kp p S0 S'->Pot p S'->SkOk K->K.G.length<=7->Q (skE K) S') :
  rW (wSs (evC af (k+1)) (cA af) 56 (kj.drop 4)) [aa (.ref p),aa (.int 7),aa (meL r s M T),aa (.ref Ng),aa (.ref N),aD,aD,aD] S (out Q):=by
 dsimp only[kj,Yn];have m1:=me.m1;have m4:=me.m4;have r8:=me.r8;k_is;refine⟨rfl,ax h (by decide) (by decide) λx I x1 x2 d1=>?_⟩;obtain⟨c,rfl⟩:∃n:Nat,x=(n:Int):=⟨x.toNat,by lia⟩
 have at4:atI [D.int 0,D.int 1,D.int 2,D.int 3] (c:Int)=aa (D.int c):=by
  have:c=0\/c=1\/c=2\/c=3:=by lia
  rcases this with rfl |rfl |rfl |rfl <;> rfl
 refine⟨_,at4,?_⟩;k_is;have hN1:=d1.kp _ _ nN hN;have hG1:=d1.kp _ _ U hG;refine ac (dh hN1) ?_;k_is;rw[<-Yp];have d2:Dr p I (I++[Ob.lst ((is.take c).map D.int)]):=Dr.sm d1.pot (Sm.app _ _);have hF2:(I++[Ob.lst ((is.take c).map D.int)])[Zc I]?=aa (Ob.lst ((is.take c).map D.int)):=al;have hG2:=d2.kp _ _ U hG1;have k2:=(k0.trans d1.kp).trans d2.kp;have lt1:=d1.pot.lt;have nF:Zc I ≠ p:=by lia
 have nFG:Zc I ≠ Ng:=by have:=(Zb.mp hG1).1;lia
 refine⟨(by rw[ao hF2];rfl),?_⟩;generalize I++[Ob.lst ((is.take c).map D.int)]=S2 at *;generalize Zc I=F at *;have pr:=wN pm;have pf:∀x ∈ is.take c,0<=x/\x < (G.length:Int):=λx hx=>pr.2.1 x (ZX hx);have ndf:(is.take c).Nodup:=pr.1.sublist (X3 c is);have lf:(is.take c).length<=7:=by rw[Zs];have:=pr.2.2;lia
 generalize is.take c=fx at *
 have fin:∀ (f:List (List Int)) (a:Option (Int × Int)) S3,Ev.Kp p S0 S3->Pot p S3->f.length=G.length->(∀g ∈ f,GB M.length r s g)->(∀ (j:Nat) g,f[j]?=aa g->g.getD 6 0=0\/(j:Int) ∈ fx)->(∀z:Int × Int,a=aa z->0<=z.1/\z.1 < M.length/\0<=z.2/\z.2<=9999)->Q (skE ⟨r,s,M,T,a,f,fx⟩) S3:=λf a S3 Z p3 L g3 r3 ha=>
  q ⟨r,s,M,T,a,f,fx⟩ S3 Z p3 ⟨me,by show f.length<=7;lia,g3,ndf,λx hx=>by show 0<=x/\x < (f.length:Int);rw[L];exact pf x hx,r3,ha⟩ (by show f.length<=7;lia)
 refine iI (by rw[Za];lia) (λi ρ S'=>Ev.Kp p S0 S'/\Pot p S'/\S'[F]?=aa (Ob.lst (fx.map D.int))/\∃ (f:List (List Int)) (u:Option D),ρ=[aa (.ref p),aa (.int 7),aa (meL r s M T),aa (.ref Ng),aa (.ref N),aa (.ref F),u,aD]/\S'[Ng]?=aa (Ob.lst (f.map az))/\f.length=G.length/\(∀g ∈ f,GB M.length r s g)/\∀ (j:Nat) g,f[j]?=aa g->g.getD 6 0=0\/(j:Int) ∈ fx) (λi ρ S' iv=>iv.2.2.1) (λi d ρ S3 hd hq1=>?_) (λρ S3 hq2=>?_) ⟨k2,d2.pot,hF2,G,aD,rfl,hG2,rfl,gb,λj g e=>.inl (h0 g (Zi e))⟩
 ·obtain⟨Z,p3,f3,f,u,er,g3,L,o,B⟩:=hq1;subst er;obtain⟨x,hx,rfl⟩:=dH hd;have hxf:=Zi hx;have hxb:=pf x hxf;obtain⟨j,rfl⟩:∃n:Nat,x=(n:Int):=⟨x.toNat,by lia⟩;have hj:j < f.length:=by lia
  refine⟨_,rfl,?_⟩;k_is;refine⟨rfl,ax p3 (by decide) (by decide) λy S4 y1 y2 v=>?_⟩;k_is;have O:=v.kp _ _ U g3;have Y:=v.kp _ _ nF f3;have k4:=Z.trans v.kp;have mt:∀S,ixS (meL r s M T) (.int 0) S=aa (.int r,S):=λS=>rfl;cases ey:decide (y=0) with
  |false=>k_is;exact⟨k4,v.pot,Y,f,_,rfl,O,L,o,B⟩
  |true=>
   k_is;refine ac (mt S4) ?_;k_is;cases er0:decide (0 < r) with
   |false=>k_is;exact⟨k4,v.pot,Y,f,_,rfl,O,L,o,B⟩
   |true=>
    have hr0:=of_decide_eq_true er0;k_is;obtain⟨J,E,a3,a4,a5,X,a7,eg,hb⟩:=o f[j] (ZI hj);refine ac (bU O (by lia) (show(f.map az)[((j:Nat):Int).toNat]?=aa (az f[j]) by rw[Zo,Zj,gEG hj];rfl)) ?_;rw[eg,show az [J,E,a3,a4,a5,X,a7]=D.tup [.int J,.int E,.int a3,.int a4,.int a5,.int X,.int a7] from rfl];k_is;rw[show il [D.int J,.int E,.int a3,.int a4,.int a5,.int X,.int a7] aD (aa 6)=[.int J,.int E,.int a3,.int a4,.int a5,.int X] from rfl];refine ac (mt S4) ?_;refine⟨rfl,ax v.pot hr0 (by lia) λz S5 z1 z2 C=>?_⟩;k_is;have g5:=C.kp _ _ U O;have f5:=C.kp _ _ nF Y;have lt5:Ng < S5.length:=(Zb.mp g5).1;refine⟨by show 7<=1000;decide,?_⟩;refine⟨_,Iy (g:=[J,E,a3,a4,a5,X,1+z]) g5 hj,?_⟩;k_is;refine⟨(k4.trans C.kp).setNew l0,C.pot.setNe U,by rw[ZH (Ne.symm nFG)];exact f5,f.set j [J,E,a3,a4,a5,X,1+z],_,rfl,ja lt5,by rw[Ys];exact L,λg hg=>?_,λj' g e=>?_⟩
    ·rcases Xb hg with hg |rfl
     ·exact o g hg
     ·exact⟨_,_,_,_,_,_,_,rfl,by omega⟩
    ·by_cases hjj:j'=j
     ·subst hjj;exact .inr hxf
     ·rw[ZH (Ne.symm hjj)] at e;exact B j' g e
 ·obtain⟨Z,p3,f3,f,u,er,g3,L,o,B⟩:=hq2;subst er;k_is;refine⟨rfl,ax p3 (by decide) (by decide) λy S4 y1 y2 v=>?_⟩;k_is;have O:=v.kp _ _ U g3;have Y:=v.kp _ _ nF f3;refine fk (λ_=>?_) λ_=>?_
  ·k_is;refine ac (show ixS (meL r s M T) (.int 2) S4=aa (.tup (M.map az),S4) from rfl) (ac bz ?_);k_is;refine⟨rfl,ax v.pot (by lia) (by lia) λa S5 J E C=>?_⟩;k_is;refine⟨rfl,ax C.pot (by decide) (by decide) λb S6 b1 b2 d6=>?_⟩;k_is;have g6:=(C.trans d6).kp _ _ U O;have f6:=(C.trans d6).kp _ _ nF Y;refine ac (ia g6) (ac (ia f6) ?_);k_is;exact fin f (aa (a,b)) S6 ((Z.trans v.kp).trans (C.trans d6).kp) d6.pot L o B λz e=>by cases e;exact⟨J,E,b1,by lia⟩
  ·k_is;refine ac (ia O) (ac (ia Y) ?_);k_is;exact fin f aD S4 (Z.trans v.kp) v.pot L o B λz e=>by cases e
def Iz(h:Pot p S)(q:∀K S',Dr p S S'->SkOk K->K.G.length<=7->Q (skE K) S'):Ok (evC af (k+4) 50 [.ref p,.int 7] S) Q:=by
 refine aA (d:=ku) (ρ:=[aa (.ref p),aa (.int 7),aD,aD,aD,aD,aD,aD]) rfl rfl ?_;have T:=@Em p;dsimp only[ku];dsimp only[kj,Yn] at T ⊢;k_is;refine⟨rfl,Ek h λr s M Hs S1 d1 me=>?_⟩;k_is;refine⟨rfl,ax d1.pot (by decide) (by decide) λx S2 x1 x2 d2=>?_⟩;obtain⟨n,rfl⟩:∃n:Nat,x=(n:Int):=⟨x.toNat,by lia⟩;k_is;refine⟨eU (by lia) (by lia),?_⟩;rw[Zo];refine oH (by lia) (λi b S'=>Dr p S2 S'/\∃G:List (List Int),b=G.map az/\G.length=i/\∀g ∈ G,GB M.length r s g/\g.getD 6 0=0) (λi b S3 O ⟨I,G,E,lG,B⟩=>⟨_,rfl,?_⟩) (λes S3 ⟨I,G,E,lG,B⟩=>⟨by rw[E,Za];lia,?_⟩) ⟨Dr.refl d2.pot,[],rfl,rfl,λg c=>by cases c⟩
 ·k_is;refine⟨rfl,El (k:=k+1) I.pot me λa j f l u w o Z c=>?_⟩;refine⟨I.trans Z,G++[[a,j,f,l,u,w,0]],by rw[E,Zr];rfl,by simp[lG],λg hg'=>?_⟩;rcases ZJ.mp hg' with hg' |hg'
  ·exact B g hg'
  ·rw[ZK.mp hg'];exact⟨c,rfl⟩
 ·subst E;have lt3:=I.pot.lt;have k3:=(d1.trans d2).trans I;have lS:S.length<=Zc S3:=Kp.len k3.kp lt3;k_is;have Z:Dr p S3 (S3++[Ob.lst (G.map az)]):=Dr.sm I.pot (Sm.app _ _);have g4:(S3++[Ob.lst (G.map az)])[Zc S3]?=aa (Ob.lst (G.map az)):=al;refine ac (eB g4) ?_;k_is;rw[Za];refine⟨_,rfl,by lia,?_⟩;k_is;have J:Zc S3 ≠ p:=by lia
  have lG4:Zc S3 < Zc (S3++[Ob.lst (G.map az)]):=by simp
  generalize S3++[Ob.lst (G.map az)]=o at *;have d5:Dr p o (o++[Ob.lst ((Ze G.length).map λj=>D.int (Int.ofNat j))]):=Dr.sm Z.pot (Sm.app _ _);have n5:(o++[Ob.lst ((Ze G.length).map λj=>D.int (Int.ofNat j))])[Zc o]?=aa (Ob.lst (((Ze G.length).map λj=>Int.ofNat j).map D.int)):=by rw[ZP];exact al
  have g5:=d5.kp _ _ J g4;have nN:Zc o ≠ p:=by lia
  generalize o++[Ob.lst ((Ze G.length).map λj=>D.int (Int.ofNat j))]=S5 at *;generalize Zc S3=Ng at *;generalize Zc o=N at *;have k5:=(k3.trans Z).trans d5;refine⟨rfl,ax d5.pot (by decide) (by decide) λy S6 y1 y2 v=>?_⟩;k_is;have n6:=v.kp _ _ nN n5;have Y:=v.kp _ _ J g5;have k6:=k5.trans v;refine fk (λ_=>?_) λ_=>?_
  ·k_is;refine⟨by rw[ao Y];rfl,?_⟩;refine cY G.length (λi=>.tup [.int i,((G.map az)[i]?).getD .non]) (λi b S'=>S'=S6/\b=((G.take i).zipIdx.map λz=>ae (z.1.getD 2 0,(z.2:Int)))) (λi b S' O ⟨e,_⟩=>by subst e;rw[<-Za (f:=az)];exact rO (i:=i) Y (by rw[Za];lia) (λj=>.tup [.int j,((G.map az)[j]?).getD .non]) λj d hd=>by show D.tup [.int j,((G.map az)[j]?).getD .non]=_;rw[hd];rfl) (by lia) (λi b S7 O ⟨U,E⟩=>?_) (λes S7 ⟨U,E⟩=>⟨by rw[E,Za,Y8,Zs];lia,?_⟩) ⟨rfl,rfl⟩
   ·subst U;obtain⟨a1,a2,X,a4,a5,a6,a7,eg,_⟩:=(B G[i] (ZI O)).1;have ez:((G.map az)[i]?).getD .non=az [a1,a2,X,a4,a5,a6,a7]:=by rw[Zj,gEG O,eg];rfl
    rw[ez];refine⟨_,bH (by simp) (by simp),?_⟩;k_is;refine ac (show ixS (az [a1,a2,X,a4,a5,a6,a7]) (.int 2) S7=aa (.int X,S7) from rfl) ?_;k_is;refine⟨rfl,?_⟩;rw[E,ZN O,List.zipIdx_append,Zr,Zs,Xs (by lia),eg];show _=_++[ae (X,((0+i:Nat):Int))];rw[Wu];rfl
   ·subst U;rw[Z5 (Zd _)] at E;have ep:(G.zipIdx.map λz=>ae (z.1.getD 2 0,(z.2:Int)))=(G.zipIdx.map λz=>(z.1.getD 2 0,(z.2:Int))).map ae:=by rw[ZP];rfl
    rw[ep] at E;subst E;obtain⟨L,es,pq⟩:=AA (ps:=G.zipIdx.map λz=>(z.1.getD 2 0,(z.2:Int))) (by rw[Za,Y8];lia);refine⟨_,es,?_⟩;have lq:L.length<=7:=by rw[pq.length_eq,Za,Y8];lia
    refine bh L ae (λz=>[D.int z.2]) (by lia) (λ_ _=>Zd _) cE (λi z S' hz sm=>⟨_,rfl,?_⟩) λS8 s8=>?_
    ·k_is;refine ac (show ixS (ae z) (.int 1) S'=aa (.int z.2,S') from rfl) ?_;exact⟨rfl,Sm.refl _⟩
    ·rw[ba];k_is;have U:(L.map λz=>D.int z.2)=(L.map (·.2)).map D.int:=by rw[ZP];rfl
     have pm7:(L.map (·.2)).Perm ((Ze G.length).map λi=>Int.ofNat i):=by
      refine(pq.map (·.2)).trans ?_;rw[ZP];have:((·.2) ∘ λz:List Int × Nat=>(z.1.getD 2 0,(z.2:Int)))=(λi:Nat=>Int.ofNat i) ∘ Prod.snd:=rfl;rw[this,<-ZP,List.zipIdx_map_snd,List.range_eq_range']
     have C:Dr p S7 (S8++[Ob.lst (L.map λz=>D.int z.2)]):=Dr.sm v.pot (s8.trans (Sm.app _ _));have lt8:Zc S7<=Zc S8:=Kp.len s8.kp (Dr.sm v.pot s8).pot.lt;have l7:p < Zc S7:=v.pot.lt;exact T (k:=k+2) C.pot (k6.trans C).kp lS me (C.kp _ _ J Y) J (by rw[<-U];exact al) (by lia) (λg c=>(B g c).1) (λg c=>(B g c).2) (by lia) pm7 λK S' k' p' sk l'=>q K S' ⟨k',p'⟩ sk l'
  ·k_is;refine⟨rfl,qA (k:=k+1) v.pot n6 nN (by rw[Za,Zx];lia) λis S7 d7 pm=>?_⟩;k_is;have C:Dr p S6 (S7++[Ob.lst (is.map D.int)]):=d7.thenSm (Sm.app _ _);have l7:=d7.pot.lt;exact T (k:=k+2) C.pot (k6.trans C).kp lS me (C.kp _ _ J Y) J al (by lia) (λg c=>(B g c).1) (λg c=>(B g c).2) (by lia) pm λK S' k' p' sk l'=>q K S' ⟨k',p'⟩ sk l'
abbrev qC(H:List (Int × Int))(m:Int):Bool:=H.any λz=>decide (z.1<=m) && decide (m < z.2)
abbrev wU(K:Sky)(A:List (Int × Int))(z:Int × Int):Option Str:=
 bif decide (z.2 < gi K.G z.1 2) then aa "soon" else bif decide (gi K.G z.1 3 < z.2) then aa "late" else bif qC K.H z.2 then aa "shut" else bif decide (z.2 < wK K (fo K A) (gi K.G z.1 0)) then aa "gap" else aD
abbrev b8(K:Sky)(A:List (Int × Int))(j:Nat)(z:Int × Int):Option Str:=
 bif decide (0<=z.1) && decide (z.1 < (K.G.length:Int)) then (bif decide (z.1 ∈ A.map (·.1)) then aa "twice" else bif (K.F[j]?).any (λf=>!decide (z.1=f)) then aa "order" else wU K A z) else aa "none"
abbrev jK(K:Sky)(L:List (Int × Int))(j:Nat):Option D:=(L[j]?).bind λz=>(b8 K (L.take j) j z).map λw=>.tup [.str w,.int z.1]
abbrev jL(K:Sky)(L:List (Int × Int))(j:Nat):Option D:=(L[j]?).bind λz=>bif f8 K (L.take j) z.1 z.2 then aa (.int z.1) else aD
abbrev amF(K:Sky)(L:List (Int × Int)):D:=match (Ze L.length).findSome? (jK K L) with
 |some d=>d
 |none=>match (Ze K.G.length).find? λ(g:Nat)=>!decide ((g:Int) ∈ L.map (·.1)) with
  |some g=>.tup [.str "lacks", .int g]
  |none=>match (js K).find? λt=>decide (K.r < (wts K L t:Int)) with
   |some t=>.tup [.str "rings", .int t]
   |none=>match (Ze L.length).findSome? (jL K L) with
    |some d=>.tup [.str "ring", d]
    |none=>.non
def JZ{c g:Type}{f:c->Option g}:∀ {l:List c} {i:Nat} {a:c} {b:g},l[i]?=aa a->f a=aa b->(∀ (j:Nat) x,j < i->l[j]?=aa x->f x=aD)->l.findSome? f=aa b
 |x::l,0,a,b,h,hp,_=>by cases h;rw[XR,hp]
 |x::l,i+1,a,b,h,hp,ih=>by
  rw[XR,ih 0 x (by lia) rfl];exact JZ (i:=i) (by simpa using h) hp λj y o n=>ih (j+1) y (by lia) (by simpa using n)
def R9{b c:Type}{f:b->Option c}{l:List b}(h:∀x ∈ l,f x=aD):l.findSome? f=aD:=Y9.mpr h
def En{b:Type}{f:b->Bool}:∀ {l:List b} {i:Nat} {a:b},l[i]?=aa a->f a=aN->(∀ (j:Nat) x,j < i->l[j]?=aa x->f x=aT)->l.find? f=aa a
 |x::l,0,a,h,hp,_=>by cases h;rw[Yt,hp]
 |x::l,i+1,a,h,hp,ih=>by
  rw[Yt,ih 0 x (by lia) rfl];exact En (i:=i) (by simpa using h) hp λj y g c=>ih (j+1) y (by lia) (by simpa using c)
def Eo{b:Type}{f:b->Bool}{l:List b}(h:∀x ∈ l,f x=aT):l.find? f=aD:=Xa.mpr λx c=>by rw[h x c];exact Zg
def J0{n j x:Nat}(h:(Ze n)[j]?=aa x):x=j/\j < n:=by
 obtain⟨c,b⟩:=Zb.mp h;rw[X1] at b;rw[Zx] at c;exact⟨b.symm,c⟩
def J1{n j:Nat}(h:j < n):(Ze n)[j]?=aa j:=by rw[gEG (by rw[Zx];exact h),X1]
def r9{c:Type}{f:Nat->Option c}{n i:Nat}{b:c}(g:i < n)(h:f i=aa b)(I:∀j,j < i->f j=aD):(Ze n).findSome? f=aa b:=JZ (J1 g) h λj x q o=>by rw[(J0 o).1];exact I j q
def se{b:Type}{f:Nat->Option b}{n:Nat}(I:∀j,j < n->f j=aD):(Ze n).findSome? f=aD:=R9 λx h=>I x (ZU.mp h)
def mr{j:Nat}(h:b8 K A j z=aD):0<=z.1/\z.1 < K.G.length:=by
 unfold b8 at h;cases c:decide (0<=z.1) && decide (z.1 < (K.G.length:Int)) with
 |false=>rw[c] at h;cases h
 |true=>rw[bAE,decide_eq_true_eq,decide_eq_true_eq] at c;exact c
def uy{j:Nat}(h:b8 K A j z=aD):gi K.G z.1 2<=z.2/\z.2<=gi K.G z.1 3:=by
 unfold b8 at h;cases c:decide (0<=z.1) && decide (z.1 < (K.G.length:Int)) with
 |false=>rw[c] at h;cases h
 |true=>
  rw[c,cond_true] at h;cases b:decide (z.1 ∈ A.map (·.1)) with
  |true=>rw[b] at h;cases h
  |false=>
   rw[b,cond_false] at h;cases g:(K.F[j]?).any (λf=>!decide (z.1=f)) with
   |true=>rw[g] at h;cases h
   |false=>
    rw[g,cond_false] at h;unfold wU at h;cases C:decide (z.2 < gi K.G z.1 2) with
    |true=>rw[C] at h;cases h
    |false=>
     rw[C,cond_false] at h;cases n:decide (gi K.G z.1 3 < z.2) with
     |true=>rw[n] at h;cases h
     |false=>
      have:=of_decide_eq_false C;have:=of_decide_eq_false n
      lia
def OX{A:List (Int × Int)}{z:Int × Int}:f8 K A z.1 z.2=aN ↔ 0 < gi K.G z.1 6/\∃t,jn K z.1<=t/\t < z.2 - K.s/\gi K.G z.1 6 < 1+(wts K A t:Int):=by
 unfold f8;rw[bAE,decide_eq_true_eq,decide_eq_true_eq];constructor
 ·rintro⟨j,h⟩;refine⟨j,?_⟩;unfold wL at h;have ne:(fm K A z.1 z.2).map (λt=>1+(wts K A t:Int)) ≠ []:=λe=>by rw[e] at h;exact absurd h (by show ¬ gi K.G z.1 6 < 0;lia)
  rw[oM ne] at h;obtain⟨t,n,e⟩:=Zw.mp (mj ne);rw[<-e] at h;unfold fm at n;have b:=(ZM.mp n).2;simp only[bAE,decide_eq_true_eq] at b;exact⟨t,b.1,b.2,h⟩
 ·rintro⟨j,t,o,b,E⟩;refine⟨j,?_⟩;obtain⟨u,y,I,C,B⟩:=oO (K:=K) o A
  have v:u ∈ fm K A z.1 z.2:=by
   unfold fm;refine ZM.mpr ⟨?_,by simp only[bAE,decide_eq_true_eq];lia⟩;rcases y with rfl |⟨q,c,rfl⟩
   ·exact Zh
   ·exact Zf _ (Zw.mpr ⟨q,c,rfl⟩)
  have g:wts K A t<=wts K A u:=hZ λq c g=>by
   have a:=B q c g;simp only[ak,bAE,decide_eq_true_eq] at g ⊢
   lia
  unfold wL;have f:1+(wts K A u:Int) ∈ (fm K A z.1 z.2).map (λt=>1+(wts K A t:Int)):=Zw.mpr ⟨u,v,rfl⟩;rw[oM (λz=>by rw[z] at f;cases f)];have:=oK f
  lia
def Ep(g:InG K L)(r0:0<=K.r){t:Int}(h:K.r < (wts K L t:Int)):∃u ∈ js K,u<=t/\K.r < (wts K L u:Int):=by
 cases f:L.filter (ak K t) with
 |nil=>unfold wts at h;rw[f] at h;exact absurd h (by show ¬ K.r < ((0:Nat):Int);lia)
 |cons q r=>
  have b:=ZM.mp (by rw[f];exact Zh:q ∈ L.filter (ak K t));have c:=b.2;simp only[ak,bAE,decide_eq_true_eq] at c;obtain⟨u,o,z,j,v⟩:=oO (K:=K) c.1 L
  have n:u ∈ js K:=by
   rcases o with rfl |⟨q',hq',rfl⟩
   ·exact rY (g q b.1).1 (g q b.1).2
   ·exact rY (g q' hq').1 (g q' hq').2
  have y:wts K L t<=wts K L u:=hZ λq b f=>by
   have a:=v q b f;simp only[ak,bAE,decide_eq_true_eq] at f ⊢
   lia
  exact⟨u,n,j,by lia⟩
def Er(C:InG K L)(r0:0<=K.r)(J:∀u ∈ js K,0<=u){i:Nat}(h:K.r < (wts K L i:Int))(I:∀t:Nat,t < i->(wts K L t:Int)<=K.r):(js K).find? (λt=>decide (K.r < (wts K L t:Int)))=aa (i:Int):=by
 have b:∀u ∈ js K,K.r < (wts K L u:Int)->(i:Int)<=u:=λu c j=>Int.not_lt.mp λq=>by
  have O:=J u c;have:=I u.toNat (by lia);rw[show((u.toNat:Nat):Int)=u by lia] at this
  lia
 obtain⟨u,c,z,j⟩:=Ep C r0 h;have e:u=(i:Int):=by have:=b u c j;lia
 subst e;cases o:(js K).find? (λt=>decide (K.r < (wts K L t:Int))) with
 |none=>exact absurd (Xa.mp o _ c) (λx=>x (decide_eq_true j))
 |some v=>
  obtain⟨B,T,bs,E,hb⟩:=List.find?_eq_some_iff_append.mp o;have n:=fB (K.G.map λg=>g.getD 1 0);rw[show gr (K.G.map λg=>g.getD 1 0)=js K from rfl,E] at n;have y:=b v (by rw[E];exact ZA _ Zh) (of_decide_eq_true B);have f:=c;rw[E] at f;rcases ZJ.mp f with x |x
  ·have:=hb _ x;rw[decide_eq_true j] at this;cases this
  ·rcases Zl.mp x with x |x
   ·rw[x]
   ·have:=(Yc.mp (List.pairwise_append.mp n).2.1).1 _ x;rw[Wl this y]
def IA{b:Type}(l:List b)(g:b->Bool)(S:Sto):o9 aT (l.map λt=>D.bl (g t)) S=aa (.bl (l.any g),S):=by
 unfold o9;rw[if_pos ⟨rfl,by rw[Yz,ZL];intro x _;rfl⟩,X6];rfl
def IB(f:K.H.length<=4){m:Int}(q:∀S',Sm S S'->Q (.bl (qC K.H m)) S'):Ok (evC af (k+1) 12 [meE K,.int m] S) Q:=by
 refine aA (d:=km) (ρ:=[aa (meE K),aa (.int m)]) rfl rfl ?_;dsimp only[km,ql];k_is;refine ac me3 ?_;k_is;refine bh K.H ae (λz=>[.bl (decide (z.1<=m) && decide (m < z.2))]) (by lia) (λ_ _=>Zd _) cE (λi z S' h sm=>⟨_,show aB (.tup [.name 2,.name 3]) (.tup [.int z.1,.int z.2]) _=_ from bH (by simp) (by simp),?_⟩) λc b=>?_
 ·k_is;cases decide (z.1<=m) with
  |true=>k_is;exact⟨rfl,Sm.refl _⟩
  |false=>k_is;exact⟨rfl,Sm.refl _⟩
 ·rw[ba];refine ac (IA _ _ _) ?_;k_is;exact q c b
abbrev AF:Option Str->D
 |none=>.non
 |some w=>.str w
def Es(V:Vd K){L:List (Int × Int)}{n j:Nat}{z:Int × Int}(y:S[n]?=aa (.lst (L.map ae)))(X:L[j]?=aa z)(J:InG K (L.take j))(Z:0<=z.1)(T:z.1 < K.G.length)(q:∀S',Sm S S'->Q (AF (wU K (L.take j) z)) S'):Ok (evC af (k+2) 25 [skE K,.ref n,.int j] S) Q:=by
 refine aA (d:=dF) (ρ:=[aa (skE K),aa (.ref n),aa (.int j),aD,aD,aD,aD,aD,aD,aD,aD,aD,aD,aD,aD,aD]) rfl rfl ?_;dsimp only[dF,gA];obtain⟨u,b,c,d,e,f,h,eg,U,e1,e2,O,e6,k0,k1,c0⟩:=gl7 V Z T;have no:∀ (w:Option Str) S',Sm S S'->wU K (L.take j) z=w->Q (AF w) S':=λw S' s' Y=>by rw[<-Y];exact q S' s'
 rw[show skE K = .tup [meE K,ahE K.ah,.tup (K.G.map az),.tup (K.F.map D.int)] from rfl];unfold wU at no;rw[U,e2,O] at no;k_is;refine ac (bU y (by lia) (show(L.map ae)[((j:Nat):Int).toNat]?=aa (ae z) by rw[Zo,Zj,X];rfl)) ?_;rw[show ae z = .tup [.int z.1,.int z.2] from rfl];k_is;refine ac (eA Z eg) ?_;rw[show az [u,b,c,d,e,f,h] = .tup [.int u,.int b,.int c,.int d,.int e,.int f,.int h] from rfl];k_is;cases v:decide (z.2 < c) with
 |true=>rw[v] at no;k_is;exact no _ S (Sm.refl _) rfl
 |false=>
 rw[v] at no;k_is;cases I:decide (d < z.2) with
 |true=>rw[I] at no;k_is;exact no _ S (Sm.refl _) rfl
 |false=>
 rw[I] at no;k_is;refine⟨rfl,IB V.h4 λg o=>?_⟩;k_is;cases B:qC K.H z.2 with
 |true=>rw[B] at no;k_is;exact no _ g o rfl
 |false=>
 rw[B] at no;k_is;rw[show D.tup [meE K,ahE K.ah,.tup (K.G.map az),.tup (K.F.map D.int)]=skE K from rfl];refine ac (dh (o _ _ y)) ?_;have E:Sm g (g++[Ob.lst ((L.map ae).take j)]):=Sm.app _ _;have a2:(g++[Ob.lst ((L.map ae).take j)])[Zc g]?=aa (Ob.lst ((L.take j).map ae)):=by rw[al,Yp]
 generalize Zc g=N at *;generalize g++[Ob.lst ((L.map ae).take j)]=S2 at *;refine⟨rfl,D3 V a2 J ?_⟩;refine⟨rfl,Ip V (jJ V J) k0 k1 ?_⟩;k_is;cases C:decide (z.2 < wK K (fo K (L.take j)) u) with
 |true=>rw[C] at no;k_is;exact no _ S2 (o.trans E) rfl
 |false=>rw[C] at no;k_is;exact no _ S2 (o.trans E) rfl
def oU(neg:Bool){n:Nat}{is:List Int}(h:S[n]?=aa (.lst (is.map D.int)))(i:Int):inS neg (.int i) (.ref n) S=aa (.bl (neg != decide (i ∈ is)),S):=by
 have:=rL neg is i S;unfold inS at this ⊢;have e:av (.ref n) S=aa (aT,is.map D.int):=by simp only[av,ao h,Zu]
 rw[e];exact this
def sg{n:Nat}{ds:List D}{T:Tg}{b:XS}{c:Rho}{Q:Fl->Rho->Sto->Prop}(C:ds.length<=100000)(I:Nat->Rho->Sto->Prop)(u:∀i c S',I i c S'->S'[n]?=aa (.lst ds))
  (step:∀ (i:Nat) d c S',ds[i]?=aa d->I i c S'->∃f,aB T (.tup [.int i,d]) c=aa f/\OkS (b f S') λy g j=>match y with |.nx=>I (i+1) g j |.ct=>I (i+1) g j |.bk=>Q .nx g j |.rt d=>Q (.rt d) g j)
  (q:∀c S',I ds.length c S'->Q .nx c S') (B:I 0 c S):OkS (dM (zL n) T b LF 0 c S) Q:=by
 refine jH ds.length I (by unfold LF;lia) (λi c S' v h=>?_) (λc S' h=>⟨?_,q c S' h⟩) B
 ·obtain⟨f,E,z⟩:=step i ds[i] c S' (gEG v) h;refine⟨.tup [.int i,ds[i]],f,?_,E,z⟩;show(aP S' n).bind (λds=>enm ds i)=_;rw[ao (u i c S' h)];show enm ds i=_;unfold enm;rw[if_pos (by lia),gEG v];rfl
 ·show(aP S' n).bind (λo=>enm o ds.length)=_;rw[ao (u _ c S' h)];show enm ds ds.length=_;unfold enm;rw[if_pos (Zd _),ZE (Zd _)];rfl
def iJ{L:List (Int × Int)}{j:Nat}{z:Int × Int}(h:L[j]?=aa z):(L.map ae)[((j:Nat):Int).toNat]?=aa (ae z):=by rw[Zo,Zj,h];rfl
def bC:aC .isnot d .non S=aa (.bl (!bI d),S):=by
 show isB aN d .non S=_;unfold isB;cases d <;> rfl
def oV:aC .is d .non S=aa (.bl (bI d),S):=by
 show isB aT d .non S=_;unfold isB;cases d <;> rfl
abbrev OY:Option Nat->D
 |none=>.non
 |some g=>.int g
abbrev OZ:Option Int->D
 |none=>.non
 |some g=>.int g
def wW{j:Nat}(b:L[j]?=aa z)(h:jK K L j=aD):b8 K (L.take j) j z=aD:=by
 unfold jK at h;rw[b,YF,Option.map_eq_none_iff] at h;exact h
def IC{j:Nat}(h:jL K L j=aa d):∃g,d = .int g:=by
 unfold jL at h;cases b:L[j]? with
 |none=>rw[b] at h;cases h
 |some z=>
  rw[b,YF] at h;cases c:f8 K (L.take j) z.1 z.2 with
  |false=>rw[c] at h;cases h
  |true=>rw[c] at h;cases h;exact⟨_,rfl⟩
def jM{L:List (Int × Int)}:(L.map λz=>D.int z.1)=(L.map (·.1)).map D.int:=by rw[ZP];rfl
def IE(V:Vd K){L:List (Int × Int)}{n j:Nat}{z:Int × Int}(h:S[n]?=aa (.lst (L.map ae)))(hl:L.length<=20)(B:L[j]?=aa z)(hL:InG K (L.take j))(q:∀S',Sm S S'->Q (AF (b8 K (L.take j) j z)) S'):Ok (evC af (k+3) 24 [skE K,.ref n,.int j] S) Q:=by
 refine aA (d:=cR) (ρ:=[aa (skE K),aa (.ref n),aa (.int j),aD,aD,aD,aD,aD]) rfl rfl ?_;dsimp only[cR,fV];have no:∀ (w:Option Str) S',Sm S S'->b8 K (L.take j) j z=w->Q (AF w) S':=λw S' Y T=>by rw[<-T];exact q S' Y
 unfold b8 at no;rw[show skE K = .tup [meE K,ahE K.ah,.tup (K.G.map az),.tup (K.F.map D.int)] from rfl];k_is;refine ac (bU h (by lia) (iJ B)) (ac (show ixS (ae z) (.int 0) S=aa (.int z.1,S) from rfl) ?_);k_is;cases C:decide (0<=z.1) with
 |false=>rw[C] at no;k_is;exact no _ S (Sm.refl _) rfl
 |true=>
 rw[C] at no;k_is;refine ac bz ?_;k_is;cases u:decide (z.1 < (K.G.length:Int)) with
 |false=>rw[u] at no;k_is;exact no _ S (Sm.refl _) rfl
 |true=>
 rw[u] at no;k_is;refine ac (dh h) ?_;have O:Sm S (S++[Ob.lst ((L.map ae).take j)]):=Sm.app _ _;have E:(S++[Ob.lst ((L.map ae).take j)])[Zc S]?=aa (Ob.lst ((L.take j).map ae)):=by rw[al,Yp]
 generalize Zc S=N at *;generalize S++[Ob.lst ((L.map ae).take j)]=S1 at *;k_is;refine⟨by rw[ao E];rfl,?_⟩;have lt:(L.take j).length<=20:=by rw[Zs];lia
 refine bh (L.take j) ae (λz=>[.int z.1]) (by lia) (λ_ _=>Zd _) (b5 E) (λi y S' hy sm=>⟨_,show aB (.tup [.name 8,.name 9]) (.tup [.int y.1,.int y.2]) _=_ from bH (by simp) (by simp),?_⟩) λc U=>?_
 ·k_is;exact⟨rfl,Sm.refl _⟩
 ·rw[ba,jM];k_is;have X:Sm c (c++[Ob.lst (((L.take j).map (·.1)).map D.int)]):=Sm.app _ _;refine ac (show aC .isin (.int z.1) (.ref (Zc c)) (c++[Ob.lst (((L.take j).map (·.1)).map D.int)])=aa (.bl (aT != decide (z.1 ∈ (L.take j).map (·.1))),_) from oU aT al z.1) ?_;have g:=(O.trans U).trans X;generalize c++[Ob.lst (((L.take j).map (·.1)).map D.int)]=S3 at *;k_is;cases I:decide (z.1 ∈ (L.take j).map (·.1)) with
  |true=>rw[I] at no;k_is;exact no _ S3 g rfl
  |false=>
  rw[I] at no;k_is
  have b:(K.F[j]?).any (λf=>!decide (z.1=f))=aT->Ok (evC af (k+2) 25 [skE K,.ref n,.int j] S3) Q:=λZ=>
   Es V (g _ _ h) B hL (of_decide_eq_true C) (of_decide_eq_true u) λS4 J=>no _ S4 (g.trans J) (by rw[Z];rfl)
  refine ac bz ?_;k_is;by_cases o:j < K.F.length
  ·rw[decide_eq_true (show(j:Int) < K.F.length by lia)];k_is;refine ac (oP (ds:=K.F.map D.int) (i:=(j:Int)) (d:=.int K.F[j]) (by lia) (by rw[Zo,Zj,gEG o];rfl)) ?_;k_is;cases v:decide (z.1=K.F[j]) with
   |false=>k_is;exact no (aa "order") S3 g (by rw[gEG o,Xu,v];rfl)
   |true=>k_is;exact⟨rfl,b (by rw[gEG o,Xu,v];rfl)⟩
  ·rw[decide_eq_false (show ¬ (j:Int) < K.F.length by lia)];k_is;exact⟨rfl,b (by rw[ZE (by lia)];rfl)⟩
def IG(V:Vd K){L:List (Int × Int)}{n:Nat}(J:S[n]?=aa (.lst (L.map ae)))(hl:L.length<=20)(q:∀S',Sm S S'->Q (OY ((Ze K.G.length).find? λ(g:Nat)=>!decide ((g:Int) ∈ L.map (·.1)))) S'):Ok (evC af (k+1) 28 [skE K,.ref n] S) Q:=by
 refine aA (d:=cT) (ρ:=[aa (skE K),aa (.ref n),aD,aD]) rfl rfl ?_;dsimp only[cT,fX];have g7:=V.g7;k_is;refine⟨by rw[ao J];rfl,?_⟩;refine bh L ae (λz=>[.int z.1]) (by lia) (λ_ _=>Zd _) (b5 J) (λi y S' hy sm=>⟨_,show aB (.tup [.name 4,.name 5]) (.tup [.int y.1,.int y.2]) _=_ from bH (by simp) (by simp),?_⟩) λb U=>?_
 ·k_is;exact⟨rfl,Sm.refl _⟩
 ·rw[ba,jM];k_is;have Y:Sm b (b++[Ob.lst ((L.map (·.1)).map D.int)]):=Sm.app _ _;have X:(b++[Ob.lst ((L.map (·.1)).map D.int)])[Zc b]?=aa (.lst ((L.map (·.1)).map D.int)):=al;have O:=U.trans Y;generalize b++[Ob.lst ((L.map (·.1)).map D.int)]=S3 at *;generalize Zc b=N at *;refine ac sk2 (ac bz ?_);k_is;refine⟨eU (by lia) (by lia),?_⟩;rw[Zo];refine fj (by lia) (λi v S'=>S'=S3/\(∃u,v=[aa (skE K),aa (.ref n),aa (.ref N),u])/\∀g:Nat,g < i->(g:Int) ∈ L.map (·.1)) (λi v S' T B=>?_) (λv S' h=>?_) ⟨rfl,⟨_,rfl⟩,λg C=>absurd C (Yb g)⟩
  ·obtain⟨e,⟨u,E⟩,I⟩:=B;subst e E;refine⟨_,rfl,?_⟩;k_is;rw[YK];refine ac (show aC .notin (.int (i:Int)) (.ref N) S'=aa (.bl (aN != decide ((i:Int) ∈ L.map (·.1))),S') from oU aN X (i:Int)) ?_;k_is;cases c:decide ((i:Int) ∈ L.map (·.1)) with
   |true=>
    k_is;refine⟨rfl,⟨_,rfl⟩,λg C=>?_⟩;by_cases e:g=i
    ·rw[e];exact of_decide_eq_true c
    ·exact I g (by lia)
   |false=>
    k_is;have o:((Ze K.G.length).find? λ(g:Nat)=>!decide ((g:Int) ∈ L.map (·.1)))=aa i:=En (J1 T) (by rw[c];rfl) λj x Z f=>by rw[(J0 f).1,decide_eq_true (I j Z)];rfl
    have q:=q S' O;rw[o] at q;exact q
  ·obtain⟨e,⟨u,E⟩,I⟩:=h;subst e E;k_is;have o:((Ze K.G.length).find? λ(g:Nat)=>!decide ((g:Int) ∈ L.map (·.1)))=aD:=Eo λx f=>by rw[decide_eq_true (I x (ZU.mp f))];rfl
   have q:=q S' O;rw[o] at q;exact q
def Et(V:Vd K){n:Nat}(U:S[n]?=aa (.lst (L.map ae)))(hl:L.length<=20)(Z:InG K L)(q:∀S',Sm S S'->Q (OZ ((js K).find? λt=>decide (K.r < (wts K L t:Int)))) S'):Ok (evC af (k+3) 32 [skE K,.ref n] S) Q:=by
 refine aA (d:=cV) (ρ:=[aa (skE K),aa (.ref n),aD]) rfl rfl ?_;dsimp only[cV,fZ];k_is;refine⟨rfl,uu V λB y C _=>?_⟩;k_is;generalize Zc B - 1=N at *;refine⟨by rw[ao C];rfl,?_⟩;have lj:(js K).length<=7:=by rw[D6];exact V.g7
 refine iI (by rw[Za];lia) (λi o S'=>Sm B S'/\(∃u,o=[aa (skE K),aa (.ref n),u])/\∀ (j:Nat) t,j < i->(js K)[j]?=aa t->decide (K.r < (wts K L t:Int))=aT) (λi o S' X=>X.1 _ _ C) (λi d o O hd z=>?_) (λo O v=>?_) ⟨Sm.refl _,⟨_,rfl⟩,λj t f=>absurd f (Yb j)⟩
 ·obtain⟨b,⟨u,E⟩,I⟩:=z;subst E;obtain⟨t,g,rfl⟩:=dH hd;refine⟨_,rfl,?_⟩;k_is;refine⟨rfl,D4 V (b _ _ (y _ _ U)) Z (by lia) λT J=>?_⟩;refine ac sk0 (ac me0 ?_);k_is;cases c:decide (K.r < (wts K L t:Int)) with
  |true=>k_is;have q:=q T ((y.trans b).trans J);rw[En g c I] at q;exact q
  |false=>
   k_is;refine⟨b.trans J,⟨_,rfl⟩,λj Y f h=>?_⟩;by_cases e:j=i
   ·subst e;rw[g] at h;cases h;exact c
   ·exact I j Y (by lia) h
 ·obtain⟨b,⟨u,E⟩,I⟩:=v;subst E;k_is;have q:=q O (y.trans b)
  rw[Eo λt g=>by
   obtain⟨j,f⟩:=Ye g;exact I j t (by rw[Za];exact(Zb.mp f).1) f] at q
  exact q
def Eu(V:Vd K){n:Nat}(J:S[n]?=aa (.lst (L.map ae)))(hl:L.length<=20)(T:InG K L)(q:∀S',Sm S S'->Q (((Ze L.length).findSome? (jL K L)).getD .non) S'):Ok (evC af (k+5) 33 [skE K,.ref n] S) Q:=by
 refine aA (d:=cB) (ρ:=[aa (skE K),aa (.ref n),aD,aD]) rfl rfl ?_;dsimp only[cB,fh];k_is;refine⟨by rw[ao J];rfl,?_⟩;refine sg (by rw[Za];lia) (λi o S'=>Sm S S'/\(∃u v,o=[aa (skE K),aa (.ref n),u,v])/\∀j:Nat,j < i->jL K L j=aD) (λi o S' Z=>Z.1 _ _ J) (λi d o X hd O=>?_) (λo X B=>?_) ⟨Sm.refl _,⟨_,_,rfl⟩,λj g=>absurd g (Yb j)⟩
 ·obtain⟨b,⟨u,v,E⟩,I⟩:=O;subst E;obtain⟨z,h,rfl⟩:=dH hd;refine⟨_,bH (by simp) (by simp),?_⟩;k_is;refine⟨rfl,Iq (k:=k) V (b _ _ J) h T (by lia) λC U=>?_⟩;rw[Io λy Y=>rY (T y (ZX Y)).1 (T y (ZX Y)).2];k_is;cases c:f8 K (L.take i) z.1 z.2 with
  |true=>
   k_is;refine ac (show ixS (ae z) (.int 0) C=aa (.int z.1,C) from rfl) ?_;have q:=q C (b.trans U);rw[r9 (f:=jL K L) (Zb.mp h).1 (by unfold jL;rw[h,YF,c];rfl) I] at q;exact q
  |false=>
   k_is;refine⟨b.trans U,⟨_,_,rfl⟩,λj g=>?_⟩;by_cases e:j=i
   ·subst e;unfold jL;rw[h,YF,c];rfl
   ·exact I j (by lia)
 ·obtain⟨b,⟨u,v,E⟩,I⟩:=B;subst E;k_is;have q:=q X b;rw[se (f:=jL K L) λj g=>I j (by rw[Za];exact g)] at q;exact q
def jN{i:Nat}(h:∀j:Nat,j < i->jK K L j=aD):InG K (L.take i):=λz c=>by
 obtain⟨j,b⟩:=Ye c;have f:=(Zb.mp b).1;rw[Zs] at f;rw[YT (by lia)] at b;exact mr (wW b (h j (by lia)))
def Ew(V:Vd K){L:List (Int × Int)}{n:Nat}(h:S[n]?=aa (.lst (L.map ae)))(y:L.length<=20)(q:∀S',Sm S S'->Q (amF K L) S'):Ok (evC af (k+6) 23 [skE K,.ref n] S) Q:=by
 refine aA (d:=eK) (ρ:=[aa (skE K),aa (.ref n),aD,aD,aD,aD,aD]) rfl rfl ?_;dsimp only[eK,iz];unfold amF at q;k_is;refine ac (eB h) ?_;k_is;rw[Za];refine⟨eU (by lia) (by lia),?_⟩;rw[Zo];refine fj (by lia) (λi T S'=>Sm S S'/\(∃u v,T=[aa (skE K),aa (.ref n),u,v,aD,aD,aD])/\∀j:Nat,j < i->jK K L j=aD) (λi T S1 Y U=>?_) (λT S1 C=>?_) ⟨Sm.refl _,⟨_,_,rfl⟩,λj B=>absurd B (Yb j)⟩
 ·obtain⟨b,⟨u,v,E⟩,I⟩:=U;subst E;have O:L[i]?=aa L[i]:=gEG Y;refine⟨_,rfl,?_⟩;k_is;rw[YK];refine⟨rfl,IE (k:=k+2) V (b _ _ h) y O (jN I) λo f=>?_⟩;have X:jK K L i=(b8 K (L.take i) i L[i]).map λw=>.tup [.str w,.int L[i].1]:=by unfold jK;rw[O];rfl
  cases c:b8 K (L.take i) i L[i] with
  |some w=>
   k_is;refine ac bC ?_;rw[show bI (AF (aa w))=aT from rfl];k_is;refine ac (bU (f _ _ (b _ _ h)) (by lia) (iJ O)) (ac (show ixS (ae L[i]) (.int 0) o=aa (.int L[i].1,o) from rfl) ?_);k_is;have q:=q o (b.trans f);rw[c] at X;rw[r9 Y X I] at q;exact q
  |none=>
   k_is;refine ac bC ?_;rw[show bI (AF aD)=aN from rfl];k_is;refine⟨b.trans f,⟨_,_,rfl⟩,λj B=>?_⟩;by_cases e:j=i
   ·rw[e,X,c];rfl
   ·exact I j (by lia)
 ·obtain⟨b,⟨u,v,E⟩,I⟩:=C;subst E;have hL:InG K L:=by have:=jN I;rw[Z7] at this;exact this
  rw[se I] at q;dsimp only at q;k_is;refine⟨rfl,IG (k:=k+4) V (b _ _ h) y λo f=>?_⟩;cases c2:(Ze K.G.length).find? λ(g:Nat)=>!decide ((g:Int) ∈ L.map (·.1)) with
  |some g=>
   rw[c2] at q;k_is;refine ac bC ?_;rw[show bI (OY (aa g))=aT from rfl];k_is;exact q o (b.trans f)
  |none=>
  rw[c2] at q;dsimp only at q;k_is;refine ac bC ?_;rw[show bI (OY aD)=aN from rfl];k_is;refine⟨rfl,Et (k:=k+2) V (f _ _ (b _ _ h)) y hL λS3 z=>?_⟩;cases c3:(js K).find? λt=>decide (K.r < (wts K L t:Int)) with
  |some t=>
   rw[c3] at q;k_is;refine ac bC ?_;rw[show bI (OZ (aa t))=aT from rfl];k_is;exact q S3 ((b.trans f).trans z)
  |none=>
  rw[c3] at q;dsimp only at q;k_is;refine ac bC ?_;rw[show bI (OZ aD)=aN from rfl];k_is;refine⟨rfl,Eu (k:=k) V (z _ _ (f _ _ (b _ _ h))) y hL λS4 Z=>?_⟩;k_is;refine ac bC ?_;cases J:(Ze L.length).findSome? (jL K L) with
  |some d=>
   rw[J] at q;obtain⟨j,_,B⟩:=YA J;obtain⟨g,rfl⟩:=IC B;rw[show bI ((aa (D.int g)).getD .non)=aT from rfl];k_is;exact q S4 (((b.trans f).trans z).trans Z)
  |none=>
   rw[J] at q;rw[show bI ((aD:Option D).getD .non)=aN from rfl];k_is;exact q S4 (((b.trans f).trans z).trans Z)
abbrev prT:Dw.D->Bool
 |.tup [a,b]=>Dw.isW a && Dw.isW b
 |_=>aT
def Ex(h:T.length ≠ 2):prT (.tup T)=aT:=by
 unfold prT;split
 ·rename_i e;cases e;exact absurd rfl h
 ·rfl
def TD.lst(h:TD p S (.lst T) d):∃n ds,d = .ref n/\n ≠ p/\S[n]?=aa (.lst ds)/\TDs p S T ds:=by rw[TD] at h;exact h
def IH(h:TD p S t d)(q:Q (.bl (prT t)) S):Ok (evC af (k+2) 22 [d] S) Q:=by
 refine aA (d:=ko) (ρ:=[aa d]) rfl rfl ?_;dsimp only[ko,qm];k_is;refine⟨rfl,ur h ?_⟩;k_is;cases t with
 |tup g=>
  obtain⟨u,rfl,hs⟩:=h.tup;rw[Dw.KS];by_cases f:g.length=2
  ·obtain⟨b,e,rfl⟩:=Dw.BH f;rw[decide_eq_true f];k_is;refine yA (i:=0) hs rfl λn T=>⟨rfl,oJ T ?_⟩;k_is;have eq:prT (.tup [b,e])=(Dw.isW b && Dw.isW e):=rfl;rw[eq] at q;cases c:Dw.isW b with
   |false=>rw[c] at q;k_is;exact q
   |true=>
    rw[c] at q;k_is;exact yA (i:=1) hs rfl λo j=>⟨rfl,oJ j q⟩
  ·rw[decide_eq_false f];k_is;rw[Ex f] at q;exact q
 |_=>exact q
abbrev psT:Dw.D->Bool
 |.lst ts=>decide (ts.length<=20) && ts.all prT
 |_=>aT
def Ey(h:TD p S t d)(v:∀T,t = .lst T->T.length<=1000)(q:∀S',Sm S S'->Q (.bl (psT t)) S'):Ok (evC af (k+3) 21 [d] S) Q:=by
 refine aA (d:=gJ) (ρ:=[aa d]) rfl rfl ?_;dsimp only[gJ,kR];k_is;refine ac (et h) ?_;k_is;cases t with
 |lst T=>
  have lt:=v T rfl;obtain⟨n,o,rfl,z,g,hs⟩:=TD.lst h;rw[show(dU .list (tyT (.lst T)))=aN from rfl];k_is;refine ac (eB g) ?_;k_is;rw[hs.len];have eq:psT (.lst T)=(decide (T.length<=20) && T.all prT):=rfl;rw[eq] at q;by_cases c:T.length<=20
  ·rw[decide_eq_false (show ¬ (20:Int) < T.length by lia)];rw[decide_eq_true c,XU] at q;k_is;refine⟨by rw[ao g];rfl,?_⟩;refine cY T.length (λi=>(o[i]?).getD .non) (λi b S'=>S'=S/\b=(T.take i).map λt=>D.bl (prT t)) (λi b S' f ⟨e,_⟩=>by subst e;rw[<-hs.len];exact kz g _ qz) (by lia) (λi b j f ⟨e,E⟩=>?_) (λy j ⟨e,E⟩=>⟨by rw[E,Za,Zs];lia,?_⟩) ⟨rfl,rfl⟩
   ·subst e;obtain⟨d,hd,u⟩:=hs.get (gEG f);simp only[hd,ZT];refine⟨_,rfl,?_⟩;k_is;refine⟨rfl,IH u ⟨rfl,?_⟩⟩;rw[E,ZN f,Zr];rfl
   ·subst e;rw[Z7] at E;subst E;refine ac (mf _ _ _) ?_;k_is;exact q j (Sm.refl _)
  ·rw[decide_eq_true (show(20:Int) < T.length by lia)];rw[decide_eq_false c,Xy] at q;k_is;exact q S (Sm.refl _)
 |_=>exact q S (Sm.refl _)
def si:∀ {T:List Dw.D},T.all prT=aN->∃L:List (Int × Int),T=L.map Dw.aY
 |[],_=>⟨[],rfl⟩
 |t::T,h=>by
  rw[Yo,bAE] at h;obtain⟨L,e⟩:=si h.2;have c:=h.1;unfold prT at c;split at c
  ·rename_i a b;rw[bAE] at c;cases a <;> simp[Dw.isW] at c;cases b <;> simp[Dw.isW] at c;rename_i i j;exact⟨(i,j)::L,by rw[e];rfl⟩
  ·cases c
def kB:∀ {L:List (Int × Int)} {b:List D},TDs p S (L.map Dw.aY) b->b=L.map ae
 |[],b,h=>h.nil
 |z::L,b,h=>by
  obtain⟨d,r,rfl,o,f⟩:=TDs.cons h;obtain⟨E,rfl,c⟩:=o.tup;obtain⟨q,r1,rfl,n,h4⟩:=c.cons;obtain⟨u,r2,rfl,j,g⟩:=h4.cons;rw[g.nil,n.int,j.int,kB f];rfl
def O0{i:Int}(b:-1000<=i)(h:i < 100000):lim i=aN:=by simp only[lim,bAE,decide_eq_true_eq];omega
def ic(V:Vd K){z:Int × Int}{t:Int}(g:0<=z.1)(n:z.1 < K.G.length)(q:Q (.bl (ak K t z)) S):Ok (evC af (k+1) 54 [skE K,ae z,.int t] S) Q:=by
 refine aA (d:=gO) (ρ:=[aa (skE K),aa (ae z),aa (.int t)]) rfl rfl ?_;dsimp only[gO,kY];k_is;obtain⟨a,b,c,d,e,f,h,j,_,E,_⟩:=gl7 V g n;refine ac sk2 (ac (show ixS (ae z) (.int 0) S=aa (.int z.1,S) from rfl) (ac (eA g j) (ac (show ixS (az [a,b,c,d,e,f,h]) (.int 1) S=aa (.int b,S) from rfl) ?_)));k_is;have o:ak K t z=(decide (b<=t) && decide (t < z.2 - K.s)):=by unfold ak jn;rw[E]
 rw[o] at q;cases C:decide (b<=t) with
 |false=>rw[C] at q;k_is;exact q
 |true=>
  rw[C] at q;k_is;refine ac (show ixS (ae z) (.int 1) S=aa (.int z.2,S) from rfl) (ac sk0 (ac me1 ?_));k_is;exact q
def Ez{A:List (Int × Int)}{n:Nat}{t:Int}{c:Rho}{C:XA}{i:Nat}{Q:List D->Sto->Prop}(j:S[n]?=aa (.lst (A.map ae)))(o:A.length<=20)
  (step:∀z S',z ∈ A->Sm S S'->∃b,aB (.name i) (ae z) c=aa b/\Ok (C b S') λE g=>E=(if ak K t z=aN then [ae z] else [])/\Sm S' g)
  (q:∀f S',Sm S S'->f.length=wts K A t->Q f S'):Ok (bA (nxS n) (.name i) C c LF 0 S) λE S2=>E.length<=100000/\Q E S2:=by
 refine bh A ae (λz=>if ak K t z=aN then [ae z] else []) (by omega) (λz _=>by split <;> simp) (b5 j) (λi z S' h sm=>step z S' (Zi h) sm) λS' sm=>?_;rw[bD];exact q _ S' sm (by rw[Za];rfl)
def EA(V:Vd K){L:List (Int × Int)}{n j:Nat}{z:Int × Int}(U:S[n]?=aa (.lst (L.map ae)))(hl:L.length<=20)(hz:L[j]?=aa z)(Z:InG K (L.take j))(j0:0<=jn K z.1)(j1:jn K z.1<=9999)(m1:z.2<=9999)(m0:0<=z.2)
  (q:∀v S',Sm S S'->(∀r:Int,0<=r->(r < v ↔ ∃t,jn K z.1<=t/\t < z.2 - K.s/\r < 1+(wts K (L.take j) t:Int)))->Q (.int v) S'):Ok (evC af (k+2) 55 [skE K,.ref n,.int j,.int (jn K z.1)] S) Q:=by
 refine aA (d:=i9) (ρ:=[aa (skE K),aa (.ref n),aa (.int j),aa (.int (jn K z.1)),aD,aD]) rfl rfl ?_;dsimp only[i9,oB];have s0:=V.s0;have s60:=V.s60;k_is;refine ac (bU U (by omega) (iJ hz)) (ac (show ixS (ae z) (.int 1) S=aa (.int z.2,S) from rfl) (ac sk0 (ac me1 ?_)));k_is;refine⟨⟨O0 (by omega) (by omega),O0 (by omega) (by omega)⟩,?_⟩;generalize hJ:jn K z.1=J at *;refine fj (by omega) (λi C S'=>Sm S S'/\∃ (v:Int) (u:Option D),C=[aa (skE K),aa (.ref n),aa (.int j),aa (.int J),aa (.int v),u]/\∀r:Int,0<=r->(r < v ↔ ∃t,J<=t/\t < J+(i:Int)/\r < 1+(wts K (L.take j) t:Int))) (λi C b hi O=>?_) (λC b B=>?_) ⟨Sm.refl _,0,aD,rfl,λr r0=>⟨λh=>by omega,λ⟨t,f,g,_⟩=>by omega⟩⟩
 ·obtain⟨o,v,u,E,I⟩:=O;subst E;refine⟨_,rfl,?_⟩;k_is;refine ac (dh (o _ _ U)) ?_;have s2:Sm b (b++[Ob.lst ((L.map ae).take j)]):=Sm.app _ _;have X:(b++[Ob.lst ((L.map ae).take j)])[Zc b]?=aa (Ob.lst ((L.take j).map ae)):=by rw[al,Yp]
  generalize Zc b=N at *;generalize b++[Ob.lst ((L.map ae).take j)]=S2 at *;k_is;refine⟨by rw[ao X];rfl,?_⟩;refine Ez (K:=K) (t:=J+(i:Int)) X (by rw[Zs];omega) (λy S' hy sm=>⟨_,rfl,?_⟩) λY T s3 ld=>?_
  ·k_is;refine⟨rfl,ic V (Z y hy).1 (Z y hy).2 ?_⟩;k_is;cases ak K (J+(i:Int)) y with
   |true=>k_is;exact⟨rfl,Sm.refl _⟩
   |false=>k_is;exact⟨rfl,Sm.refl _⟩
  ·refine ac (show b7 aT Y T=aa (.int Y.length,T) from rfl) ?_;k_is;rw[ld];refine⟨(o.trans s2).trans s3,_,_,rfl,λr r0=>?_⟩;have I:=I r r0;have e:(r < if (1+(wts K (L.take j) (J+(i:Int)):Int)) > v then (1+(wts K (L.take j) (J+(i:Int)):Int)) else v) ↔ (r < v\/r < 1+(wts K (L.take j) (J+(i:Int)):Int)):=by split <;> omega
   rw[e,I];constructor
   ·rintro(⟨t,f,g,c⟩ |h)
    ·exact⟨t,f,by omega,c⟩
    ·exact⟨J+(i:Int),by omega,by omega,h⟩
   ·rintro⟨t,f,g,c⟩;by_cases ht:t=J+(i:Int)
    ·exact .inr (by rw[<-ht];exact c)
    ·exact .inl ⟨t,f,by omega,c⟩
 ·obtain⟨o,v,u,E,I⟩:=B;subst E;k_is;refine q v b o λr r0=>(I r r0).trans ⟨λ⟨t,f,g,c⟩=>⟨t,f,?_,c⟩,λ⟨t,f,g,c⟩=>⟨t,f,?_,c⟩⟩
  ·by_cases hh:0<=z.2 - K.s - J
   ·omega
   ·omega
  ·omega
def EB{m:Int}:((K.H.filter λz=>decide (z.1<=m) && decide (m < z.2)).map λz=>D.int z.1).isEmpty = !qC K.H m:=by
 unfold qC;generalize K.H=H
 induction H with
 |nil=>rfl
 |cons a H I=>
  rw[YR,YB];cases decide (a.1<=m) && decide (m < a.2) with
  |true=>rfl
  |false=>exact I
abbrev dW(z:Int × Int):Option Str->D
 |none=>.non
 |some w=>.tup [.str w,.int z.1]
def II(V:Vd K){L:List (Int × Int)}{n j:Nat}{z:Int × Int}(U:S[n]?=aa (.lst (L.map ae)))(hl:L.length<=20)(hz:L[j]?=aa z)(hL:InG K (L.take j))(q:∀S',Sm S S'->Q (dW z (b8 K (L.take j) j z)) S'):Ok (evC af (k+1) 56 [skE K,.ref n,.int j] S) Q:=by
 refine aA (d:=cX) (ρ:=[aa (skE K),aa (.ref n),aa (.int j),aD,aD,aD]) rfl rfl ?_;dsimp only[cX,bq];have no:∀ (w:Option Str) S',Sm S S'->b8 K (L.take j) j z=w->Q (dW z w) S':=λw S' s' nk=>by rw[<-nk];exact q S' s'
 unfold b8 at no;k_is;refine ac (bU U (by omega) (iJ hz)) ?_;rw[show ae z = .tup [.int z.1,.int z.2] from rfl];k_is;cases T:decide (0<=z.1) with
 |false=>rw[T] at no;k_is;exact no _ S (Sm.refl _) rfl
 |true=>
 rw[T] at no;k_is;refine ac sk2 (ac bz ?_);k_is;cases Y:decide (z.1 < (K.G.length:Int)) with
 |false=>rw[Y] at no;k_is;exact no _ S (Sm.refl _) rfl
 |true=>
 rw[Y] at no;have Z:=of_decide_eq_true T;have z1:=of_decide_eq_true Y;obtain⟨u,b,c,d,e,f,h,eg,e0,e1,e2,e3,e6,k0,k1,c0⟩:=gl7 V Z z1;unfold wU at no;rw[e0,e2,e3] at no;k_is;refine ac (dh U) ?_;have s1:Sm S (S++[Ob.lst ((L.map ae).take j)]):=Sm.app _ _;have a1:(S++[Ob.lst ((L.map ae).take j)])[Zc S]?=aa (Ob.lst ((L.take j).map ae)):=by rw[al,Yp]
 generalize Zc S=N at *;generalize S++[Ob.lst ((L.map ae).take j)]=S1 at *;k_is;refine⟨by rw[ao a1];rfl,?_⟩;have lt:(L.take j).length<=20:=by rw[Zs];omega
 refine bh (L.take j) ae (λz=>[.int z.1]) (by omega) (λ_ _=>Zd _) (b5 a1) (λi y S' hy sm=>⟨_,rfl,?_⟩) λI s2=>?_
 ·k_is;exact ac (show ixS (ae y) (.int 0) S'=aa (.int y.1,S') from rfl) ⟨rfl,Sm.refl _⟩
 rw[ba,jM];k_is;have s3:Sm I (I++[Ob.lst (((L.take j).map (·.1)).map D.int)]):=Sm.app _ _;refine ac (show aC .isin (.int z.1) (.ref (Zc I)) (I++[Ob.lst (((L.take j).map (·.1)).map D.int)])=aa (.bl (aT != decide (z.1 ∈ (L.take j).map (·.1))),_) from oU aT al z.1) ?_;have J:=(s1.trans s2).trans s3;generalize I++[Ob.lst (((L.take j).map (·.1)).map D.int)]=S3 at *;k_is;cases c3:decide (z.1 ∈ (L.take j).map (·.1)) with
 |true=>rw[c3] at no;k_is;exact no _ S3 J rfl
 |false=>
 rw[c3] at no;k_is;refine ac sk3 (ac bz ?_);k_is
 have o:(K.F[j]?).any (λf=>!decide (z.1=f))=aT->rW (wSs (evC af k) (cA af) 56 (bq.drop 4)) [aa (skE K),aa (.ref n),aa (.int j),aa (.int z.1),aa (.int z.2),aD] S3 (out Q):=λhf=>by
  rw[hf] at no;dsimp only[bq,Yn];k_is;have g2:∀S,ixS (az [u,b,c,d,e,f,h]) (.int 2) S=aa (.int c,S):=λ_=>rfl;have g3:∀S,ixS (az [u,b,c,d,e,f,h]) (.int 3) S=aa (.int d,S):=λ_=>rfl;have g0:∀S,ixS (az [u,b,c,d,e,f,h]) (.int 0) S=aa (.int u,S):=λ_=>rfl;refine ac sk2 (ac (eA Z eg) (ac (g2 _) ?_));k_is;cases C:decide (z.2 < c) with
  |true=>rw[C] at no;k_is;exact no _ S3 J rfl
  |false=>
  rw[C] at no;k_is;refine ac sk2 (ac (eA Z eg) (ac (g3 _) ?_));k_is;cases c5:decide (d < z.2) with
  |true=>rw[c5] at no;k_is;exact no _ S3 J rfl
  |false=>
  rw[c5] at no;k_is;refine ac sk0 (ac me3 ?_);k_is;refine bh K.H ae (λy=>if (decide (y.1<=z.2) && decide (z.2 < y.2))=aN then [.int y.1] else []) (by have:=V.h4;omega) (λy _=>by split <;> simp) cE (λi y S' hy sm=>⟨_,show aB (.tup [.name 6,.name 7]) (.tup [.int y.1,.int y.2]) _=_ from bH (by simp) (by simp),?_⟩) λS4 s4=>?_
  ·k_is;cases decide (y.1<=z.2) with
   |false=>k_is;exact⟨rfl,Sm.refl _⟩
   |true=>
    k_is;cases decide (z.2 < y.2) with
    |true=>k_is;exact⟨rfl,Sm.refl _⟩
    |false=>k_is;exact⟨rfl,Sm.refl _⟩
  rw[bD];k_is;refine ac yz ?_;rw[EB,Bool.not_not];have s5:Sm S4 (S4++[Ob.lst ((K.H.filter λy=>decide (y.1<=z.2) && decide (z.2 < y.2)).map λy=>D.int y.1)]++[Ob.lst []]):=(Sm.app _ _).trans (Sm.app _ _);generalize S4++[Ob.lst ((K.H.filter λy=>decide (y.1<=z.2) && decide (z.2 < y.2)).map λy=>D.int y.1)]++[Ob.lst []]=S5 at *;have E:=(J.trans s4).trans s5;k_is;cases c6:qC K.H z.2 with
  |true=>rw[c6] at no;k_is;exact no _ S5 E rfl
  |false=>
  rw[c6] at no;k_is;refine ac sk1 ?_;k_is
  have g:rW (wSs (evC af k) (cA af) 51 (bq.drop 9)) [aa (skE K),aa (.ref n),aa (.int j),aa (.int z.1),aa (.int z.2),aa (ahE (fo K (L.take j)))] S5 (out Q):=by
   dsimp only[bq,Yn];k_is;cases O:fo K (L.take j) with
   |none=>
    refine ac (show aC .isnot (ahE aD) .non S5=aa (.bl aT,S5) from rfl) ?_;k_is;have cn:decide (z.2 < wK K aD u)=aT:=decide_eq_false (by show ¬ z.2 < 0;have:=of_decide_eq_false C;omega);rw[O,cn] at no;exact no aD S5 E rfl
   |some y=>
    obtain⟨y0,y1⟩:=jJ V hL y O;refine ac (show aC .isnot (ahE (aa y)) .non S5=aa (.bl aN,S5) from rfl) ?_;k_is;refine ac (show ixS (ahE (aa y)) (.int 1) S5=aa (.int y.2,S5) from rfl) ?_;refine ac sk0 (ac me2 (ac (show ixS (ahE (aa y)) (.int 0) S5=aa (.int y.1,S5) from rfl) ?_));obtain⟨r,h1,h2⟩:=kA (S:=S5) V y0 y1 k0 k1;refine ac h1 (ac sk2 (ac (eA Z eg) (ac (g0 _) (ac h2 ?_))));k_is;cases c7:decide (z.2 < y.2+gp K y.1 u) with
    |true=>rw[O,show decide (z.2 < wK K (aa y) u)=aN from c7] at no;k_is;exact no _ S5 E rfl
    |false=>rw[O,show decide (z.2 < wK K (aa y) u)=aT from c7] at no;k_is;exact no aD S5 E rfl
  dsimp only[bq,Yn] at g;cases j with
  |zero=>
   rw[decide_eq_false (show ¬ (0:Int) < ((0:Nat):Int) by decide)];k_is;exact g
  |succ i=>
   rw[decide_eq_true (show(0:Int) < ((i+1:Nat):Int) by omega)];k_is;have hi:i < L.length:=by have:=(Zb.mp hz).1;omega
   have hy:L[i]?=aa L[i]:=gEG hi;have ht:L.take (i+1)=L.take i++[L[i]]:=ZN hi;have B:=hL L[i] (by rw[ht];exact ZA _ (ZK.mpr rfl));obtain⟨v,b',c',d',e',f',h',X,e0',_⟩:=gl7 V B.1 B.2
   have ix:∀S',Sm S S'->ixS (.ref n) (.int (((i+1:Nat):Int) - 1)) S'=aa (ae L[i],S'):=λS' sm=>by
    rw[show((i+1:Nat):Int) - 1=(i:Int) by omega];exact bU (sm _ _ U) (by omega) (iJ hy)
   refine ac sk2 (ac (ix S5 E) (ac (show ixS (ae L[i]) (.int 0) S5=aa (.int L[i].1,S5) from rfl) (ac (eA B.1 X) (ac (show ixS (az [v,b',c',d',e',f',h']) (.int 0) S5=aa (.int v,S5) from rfl) ?_))));refine ac (ix S5 E) (ac (show ixS (ae L[i]) (.int 1) S5=aa (.int L[i].2,S5) from rfl) ?_);k_is;have el:fo K (L.take (i+1))=aa (v,L[i].2):=by rw[ht,fS,e0']
   rw[el] at g;exact g
 dsimp only[bq,Yn] at o;by_cases hj:j < K.F.length
 ·rw[decide_eq_true (show(j:Int) < K.F.length by omega)];k_is;refine ac sk3 (ac (oP (ds:=K.F.map D.int) (i:=(j:Int)) (d:=.int K.F[j]) (by omega) (by rw[Zo,Zj,gEG hj];rfl)) ?_);k_is;have cf:(K.F[j]?).any (λf=>!decide (z.1=f)) = !decide (K.F[j]=z.1):=by rw[gEG hj,Xu,decide_eq_decide.mpr (show z.1=K.F[j] ↔ K.F[j]=z.1 from eq_comm)]
  cases C:decide (K.F[j]=z.1) with
  |false=>k_is;exact no (aa "order") S3 J (by rw[cf,C];rfl)
  |true=>
   k_is;exact o (by rw[cf,C];rfl)
 ·rw[decide_eq_false (show ¬ (j:Int) < K.F.length by omega)];k_is;exact o (by rw[ZE (by omega)];rfl)
def yI(b:SkOk K){g:Int}(q:0<=g)(y:g < K.G.length):0<=jn K g/\jn K g<=9999/\gi K.G g 3<=9999/\0<=gi K.G g 2:=by
 have h:g.toNat < K.G.length:=by omega
 have s0:=b.me.s0;obtain⟨v,jo,fi,la,n,u,o,E,hb⟩:=b.gb K.G[g.toNat] (ZI h);have c:jn K g=jo:=by unfold jn gi;rw[gEG h,E];rfl
 have j:gi K.G g 2=fi:=by unfold gi;rw[gEG h,E];rfl
 have f:gi K.G g 3=la:=by unfold gi;rw[gEG h,E];rfl
 rw[c,j,f];omega
def IJ{n:Nat}(h:S[n]?=aa (.lst (xs.map D.int)))(b:xs ≠ []):aw lJ (.ref n) S=aa (.int (fC xs),S):=by
 cases xs with
 |nil=>exact absurd rfl b
 |cons x xs=>simp only[aw,av,ao h,Zu,lJ,ml]
def kC(sk:SkOk K){n:Nat}(O:S[n]?=aa (.lst (L.map ae)))(hl:L.length<=20)(q:∀S',Sm S S'->Q (amF K L) S'):Ok (evC af (k+3) 57 [skE K,.ref n] S) Q:=by
 refine aA (d:=gP) (ρ:=[aa (skE K),aa (.ref n),aD,aD,aD,aD,aD,aD,aD]) rfl rfl ?_;dsimp only[gP,kZ];have V:=sk.vd;have g7:=sk.g7;unfold amF at q;k_is;refine ac (eB O) ?_;k_is;rw[Za];refine⟨eU (by omega) (by omega),?_⟩;rw[Zo];refine fj (by omega) (λi B S'=>Sm S S'/\(∃u v,B=[aa (skE K),aa (.ref n),u,v,aD,aD,aD,aD,aD])/\∀j:Nat,j < i->jK K L j=aD) (λi B S1 hi hq1=>?_) (λB S1 hq2=>?_) ⟨Sm.refl _,⟨_,_,rfl⟩,λj X=>absurd X (Yb j)⟩
 ·obtain⟨s1,⟨u,v,E⟩,ih⟩:=hq1;subst E;have Z:L[i]?=aa L[i]:=gEG hi;refine⟨_,rfl,?_⟩;k_is;rw[YK];refine⟨rfl,II (k:=k+1) V (s1 _ _ O) hl Z (jN ih) λS2 s2=>?_⟩;have ew:jK K L i=(b8 K (L.take i) i L[i]).map λw=>.tup [.str w,.int L[i].1]:=by unfold jK;rw[Z];rfl
  cases c:b8 K (L.take i) i L[i] with
  |some w=>
   k_is;refine ac bC ?_;rw[show bI (dW L[i] (aa w))=aT from rfl];k_is;have q:=q S2 (s1.trans s2);rw[c] at ew;rw[r9 hi ew ih] at q;exact q
  |none=>
   k_is;refine ac bC ?_;rw[show bI (dW L[i] aD)=aN from rfl];k_is;refine⟨s1.trans s2,⟨_,_,rfl⟩,λj X=>?_⟩;by_cases e:j=i
   ·rw[e,ew,c];rfl
   ·exact ih j (by omega)
 ·obtain⟨s1,⟨u,v,E⟩,ih⟩:=hq2;subst E;have hL:InG K L:=by have:=jN ih;rw[Z7] at this;exact this
  rw[se ih] at q;dsimp only at q;have hn1:=s1 _ _ O;k_is;refine⟨by rw[ao hn1];rfl,?_⟩;refine bh L ae (λz=>[.int z.1]) (by omega) (λ_ _=>Zd _) (b5 hn1) (λi y S' hy sm=>⟨_,rfl,?_⟩) λS2 s2=>?_
  ·k_is;exact ac (show ixS (ae y) (.int 0) S'=aa (.int y.1,S') from rfl) ⟨rfl,Sm.refl _⟩
  rw[ba,jM];k_is;have s3:Sm S2 (S2++[Ob.lst ((L.map (·.1)).map D.int)]):=Sm.app _ _;have a3:(S2++[Ob.lst ((L.map (·.1)).map D.int)])[Zc S2]?=aa (.lst ((L.map (·.1)).map D.int)):=al;have sA:=(s1.trans s2).trans s3;generalize S2++[Ob.lst ((L.map (·.1)).map D.int)]=S3 at *;generalize Zc S2=N at *;refine ac sk2 (ac bz ?_);k_is;refine⟨eU (by omega) (by omega),?_⟩;rw[Zo];refine bh (Ze K.G.length) (λ(j:Nat)=>D.int (0+(j:Int))) (λ(j:Nat)=>if (!decide ((j:Int) ∈ L.map (·.1)))=aN then [D.int (j:Int)] else []) (by rw[Zx];omega) (λ_ _=>by split <;> simp) Ec (λi j S' X sm=>⟨_,rfl,?_⟩) λS4 s4=>?_
  ·k_is;rw[YK];refine ac (show aC .notin (.int (j:Int)) (.ref N) S'=aa (.bl (aN != decide ((j:Int) ∈ L.map (·.1))),S') from oU aN (sm _ _ a3) (j:Int)) ?_;k_is;cases c:decide ((j:Int) ∈ L.map (·.1)) with
   |true=>k_is;exact⟨rfl,Sm.refl _⟩
   |false=>k_is;exact⟨rfl,Sm.refl _⟩
  rw[bD];k_is;rw[<-List.head?_filter] at q;generalize (Ze K.G.length).filter (λ(j:Nat)=>!decide ((j:Int) ∈ L.map (·.1)))=o at *;refine ac yz ?_;have s5:Sm S4 (S4++[Ob.lst (o.map λ(j:Nat)=>D.int (j:Int))]++[Ob.lst []]):=(Sm.app _ _).trans (Sm.app _ _);have a5:(S4++[Ob.lst (o.map λ(j:Nat)=>D.int (j:Int))]++[Ob.lst []])[Zc S4]?=aa (.lst (o.map λ(j:Nat)=>D.int (j:Int))):=Sm.app _ _ _ _ al;generalize S4++[Ob.lst (o.map λ(j:Nat)=>D.int (j:Int))]++[Ob.lst []]=S5 at *;have sB:=(sA.trans s4).trans s5;k_is;cases o with
  |cons j o=>
   rw[show(!((j::o).map λ(j:Nat)=>D.int (j:Int)).isEmpty)=aN from rfl];k_is;refine ac (bU (i:=0) a5 (by omega) rfl) ?_;k_is;exact q S5 sB
  |nil=>
  rw[show(!(([]:List Nat).map λ(j:Nat)=>D.int (j:Int)).isEmpty)=aT from rfl];k_is;rw[show([]:List Nat).head?=aD from rfl] at q;dsimp only at q;have s6:Sm S5 (S5++[Ob.lst [D.int 0]]):=Sm.app _ _;have a6:(S5++[Ob.lst [D.int 0]])[Zc S5]?=aa (.lst [D.int 0]):=al;generalize S5++[Ob.lst [D.int 0]]=S6 at *;generalize Zc S5=N6 at *;refine ac sk2 ?_;k_is;refine bh K.G az (λg=>[.int (g.getD 1 0+1)]) (by omega) (λ_ _=>Zd _) cE (λi g S' hg sm=>⟨_,rfl,?_⟩) λS7 s7=>?_
  ·obtain⟨l7,_⟩:=V.gl g (Zi hg)
   match g,l7 with
   |[a,b,c,d,e,f,h],_=>
    k_is;refine ac (show ixS (az [a,b,c,d,e,f,h]) (.int 1) S'=aa (.int b,S') from rfl) ?_;k_is;exact⟨rfl,Sm.refl _⟩
  rw[ba];have s8:Sm S7 (S7++[Ob.lst (K.G.map λg=>D.int (g.getD 1 0+1))]):=Sm.app _ _;refine ac (fR (s8 _ _ (s7 _ _ a6)) al (by rw[Za,ZO];omega)) ?_;k_is;have e9:([D.int 0]++K.G.map λg=>D.int (g.getD 1 0+1))=(0::K.G.map λg=>g.getD 1 0+1).map D.int:=by rw[Zz,ZP];rfl
  rw[e9];have s9:Sm (S7++[Ob.lst (K.G.map λg=>D.int (g.getD 1 0+1))]) (S7++[Ob.lst (K.G.map λg=>D.int (g.getD 1 0+1))]++[Ob.lst ((0::K.G.map λg=>g.getD 1 0+1).map D.int)]):=Sm.app _ _;refine ac (IJ al (by simp)) ?_;have sC:=(((sB.trans s6).trans s7).trans s8).trans s9;generalize S7++[Ob.lst (K.G.map λg=>D.int (g.getD 1 0+1))]++[Ob.lst ((0::K.G.map λg=>g.getD 1 0+1).map D.int)]=S9 at *
  have jb:∀x ∈ js K,0<=x/\x < fC (0::K.G.map λg=>g.getD 1 0+1):=λx hx=>by
   have hx':x ∈ K.G.map λg=>g.getD 1 0:=(cw _).mem_iff.mp hx;obtain⟨g,hg,rfl⟩:=Zw.mp hx';obtain⟨kd,jo,fi,la,du,we,ri,rfl,hb⟩:=sk.gb g hg;have:=oK (Zf 0 (Zw.mpr ⟨_,hg,rfl⟩):jo+1 ∈ 0::K.G.map λg=>g.getD 1 0+1);show 0<=jo/\jo < _;omega
  have tb:0<=fC (0::K.G.map λg=>g.getD 1 0+1)/\fC (0::K.G.map λg=>g.getD 1 0+1)<=10000:=by
   refine⟨oK Zh,?_⟩;rcases Zl.mp (mj (ns:=0::K.G.map λg=>g.getD 1 0+1) (by simp)) with h |h
   ·omega
   ·obtain⟨g,hg,e⟩:=Zw.mp h;obtain⟨kd,jo,fi,la,du,we,ri,rfl,hb⟩:=sk.gb g hg;have e:jo+1=_:=e;have s0:=sk.me.s0;omega
  generalize fC (0::K.G.map λg=>g.getD 1 0+1)=T at *;k_is;refine⟨O0 (by omega) (by omega),?_⟩;refine fj (by omega) (λi B S'=>Sm S S'/\(∃u2 u3 u4 U Y,B=[aa (skE K),aa (.ref n),u2,u3,u4,U,Y,aD,aD])/\∀t:Nat,t < i->(wts K L t:Int)<=K.r) (λi B Sa hi hq3=>?_) (λB Sa hq4=>?_) ⟨sC,⟨_,_,_,_,_,rfl⟩,λt ht=>absurd ht (Yb t)⟩
  ·obtain⟨sa,⟨u2,u3,u4,U,Y,E⟩,iw⟩:=hq3;subst E;refine⟨_,rfl,?_⟩;k_is;refine⟨by rw[ao (sa _ _ O)];rfl,?_⟩;refine Ez (K:=K) (t:=0+(i:Int)) (sa _ _ O) hl (λy S' hy sm=>⟨_,rfl,?_⟩) λds I C ld=>?_
   ·k_is;refine⟨rfl,ic V (hL y hy).1 (hL y hy).2 ?_⟩;k_is;cases ak K (0+(i:Int)) y with
    |true=>k_is;exact⟨rfl,Sm.refl _⟩
    |false=>k_is;exact⟨rfl,Sm.refl _⟩
   ·refine ac (show b7 aT ds I=aa (.int ds.length,I) from rfl) (ac sk0 (ac me0 ?_));k_is;rw[ld,YK];cases c:decide (K.r < (wts K L (i:Int):Int)) with
    |true=>
     k_is;have q:=q I (sa.trans C);rw[Er hL sk.me.r0 (λu hu=>(jb u hu).1) (of_decide_eq_true c) iw] at q;exact q
    |false=>
     k_is;refine⟨sa.trans C,⟨_,_,_,_,_,rfl⟩,λt ht=>?_⟩;by_cases e:t=i
     ·rw[e];have:=of_decide_eq_false c;omega
     ·exact iw t (by omega)
  ·obtain⟨sa,⟨u2,u3,u4,U,Y,E⟩,iw⟩:=hq4;subst E
   rw[Eo (l:=js K) (f:=λt=>decide (K.r < (wts K L t:Int))) λt ht=>by
    have:=jb t ht;have:=iw t.toNat (by omega);rw[show((t.toNat:Nat):Int)=t by omega] at this;exact decide_eq_false (by omega)] at q
   dsimp only at q;k_is;refine⟨by rw[ao (sa _ _ O)];rfl,?_⟩;refine sg (by rw[Za];omega) (λi B S'=>Sm S S'/\(∃u2 u3 u4 U Y u7 u8,B=[aa (skE K),aa (.ref n),u2,u3,u4,U,Y,u7,u8])/\∀j:Nat,j < i->jL K L j=aD) (λi B S' iv=>iv.1 _ _ O) (λi d B I hd hq5=>?_) (λB I hq6=>?_) ⟨sa,⟨_,_,_,_,_,_,_,rfl⟩,λj X=>absurd X (Yb j)⟩
   ·obtain⟨C,⟨u2,u3,u4,U,Y,u7,u8,E⟩,J⟩:=hq5;subst E;obtain⟨z,Z,rfl⟩:=dH hd;have wz:=wW Z (ih i (Zb.mp Z).1);obtain⟨z0,z1⟩:=mr wz;obtain⟨a,b,c,d,e,f,h,eg,e0,e1,e2,e3,e6,k0,k1,c0⟩:=gl7 V z0 z1;obtain⟨b0,b1,b2,b3⟩:=yI sk z0 z1;obtain⟨lo,hi⟩:=uy wz;have eh:jL K L i=bif f8 K (L.take i) z.1 z.2 then aa (.int z.1) else aD:=by unfold jL;rw[Z];rfl
    refine⟨_,bH (by simp) (by simp),?_⟩;k_is;refine ac sk2 (ac (show ixS (ae z) (.int 0) I=aa (.int z.1,I) from rfl) (ac (eA z0 eg) ?_));k_is;have r6:∀S,ixS (az [a,b,c,d,e,f,h]) (.int 6) S=aa (.int h,S):=λ_=>rfl;have r1:∀S,ixS (az [a,b,c,d,e,f,h]) (.int 1) S=aa (.int b,S):=λ_=>rfl;refine ac (r6 _) ?_;k_is
    have next:∀ (w:Option D) Sd,Sm S Sd->f8 K (L.take i) z.1 z.2=aT->Sm S Sd/\(∃w2 w3 w4 w5 w6 w7 w8,[aa (skE K),aa (D.ref n),aa (D.int i),u3,u4,U,Y,aa (ae z),w]=[aa (skE K),aa (.ref n),w2,w3,w4,w5,w6,w7,w8])/\∀j:Nat,j < i+1->jL K L j=aD:=λw Sd sd hh=>⟨sd,⟨_,_,_,_,_,_,_,rfl⟩,λj X=>by
     by_cases e:j=i
     ·rw[e,eh,hh];rfl
     ·exact J j (by omega)⟩
    cases c1:decide (0 < h) with
    |false=>
     k_is;exact next _ I C (by unfold f8;rw[e6,c1];rfl)
    |true=>
     k_is;refine ac (r1 _) ?_;rw[<-(show jn K z.1=b from e1)];refine⟨rfl,EA (k:=k) V (C _ _ O) hl Z (λy hy=>hL y (ZX hy)) b0 b1 (by omega) (by omega) λv Sd sd hv=>?_⟩;refine ac (r6 _) ?_;k_is
     have key:decide (h < v)=f8 K (L.take i) z.1 z.2:=by
      have h0:=of_decide_eq_true c1;rw[Yi,OX,decide_eq_true_eq,hv h (by omega),e6];exact⟨λx=>⟨h0,x⟩,λx=>x.2⟩
     rw[key];cases c2:f8 K (L.take i) z.1 z.2 with
     |true=>
      k_is;refine ac (show ixS (ae z) (.int 0) Sd=aa (.int z.1,Sd) from rfl) ?_;k_is;have q:=q Sd (C.trans sd);rw[c2] at eh;rw[r9 (Zb.mp Z).1 eh J] at q;exact q
     |false=>
      k_is;exact next _ Sd (C.trans sd) c2
   ·obtain⟨C,⟨u2,u3,u4,U,Y,u7,u8,E⟩,J⟩:=hq6;subst E;k_is;have q:=q I C;rw[se λj X=>J j (by rw[Za];exact X)] at q;exact q
abbrev InR(K:Sky)(os:List Int):Prop:=∀g ∈ os,0<=g/\g < K.G.length
def qD(h:Pot p S)(b:SkOk K)(C:K.G.length<=7)(q:∀os S',Dr p S S'->InR K os->os.length<=14->Q (.tup (os.map D.int)) S'):Ok (evC af (k+3) 51 [.ref p,skE K] S) Q:=by
 refine aA (d:=gN) (ρ:=[aa (.ref p),aa (skE K)]) rfl rfl ?_;dsimp only[gN,kW];k_is;refine ac sk3 (ac sk2 (ac bz ?_));k_is;refine⟨eU (by omega) (by omega),?_⟩;rw[Zo];refine bh (Ze K.G.length) (λ(j:Nat)=>D.int (0+(j:Int))) (λ(j:Nat)=>if (!decide ((j:Int) ∈ K.F))=aN then [D.int (j:Int)] else []) (by rw[Zx];omega) (λ_ _=>by split <;> simp) Ec (λi j S' o sm=>⟨_,rfl,?_⟩) λv n=>?_
 ·k_is;refine ac sk3 ?_;rw[YK];refine ac (show aC .notin (.int (j:Int)) (.tup (K.F.map D.int)) S'=aa (.bl (aN != decide ((j:Int) ∈ K.F)),S') from rL aN K.F j S') ?_;k_is;cases c:decide ((j:Int) ∈ K.F) with
  |true=>k_is;exact⟨rfl,Sm.refl _⟩
  |false=>k_is;exact⟨rfl,Sm.refl _⟩
 ·rw[bD];have E:(((Ze K.G.length).filter λ(j:Nat)=>!decide ((j:Int) ∈ K.F)).map λ(j:Nat)=>D.int (j:Int))=(((Ze K.G.length).filter λ(j:Nat)=>!decide ((j:Int) ∈ K.F)).map λ(j:Nat)=>(j:Int)).map D.int:=by rw[ZP];rfl
  have B:∀x ∈ ((Ze K.G.length).filter λ(j:Nat)=>!decide ((j:Int) ∈ K.F)).map λ(j:Nat)=>(j:Int),0<=x/\x < K.G.length:=λx z=>by
   obtain⟨j,o,rfl⟩:=Zw.mp z;have:=ZU.mp (ZM.mp o).1;omega
  have lo:(((Ze K.G.length).filter λ(j:Nat)=>!decide ((j:Int) ∈ K.F)).map λ(j:Nat)=>(j:Int)).length<=7:=by rw[Za];exact ZC (ZW _ _) (by rw[Zx];exact C)
  rw[E];generalize (((Ze K.G.length).filter λ(j:Nat)=>!decide ((j:Int) ∈ K.F)).map λ(j:Nat)=>(j:Int))=ot at *;k_is;have L:=(Dr.sm h n).pot.lt;have u:Dr p S (v++[Ob.lst (ot.map D.int)]):=Dr.sm h (n.trans (Sm.app _ _));refine⟨rfl,qA (k:=k) u.pot al (by omega) (by omega) λl J y f=>?_⟩;k_is;refine ac (ia al) ?_;k_is;have I:=Dw.ce K.G.length K.F b.nd b.bd;have O:l.length<=7:=by rw[f.length_eq];exact lo
  refine⟨by rw[Za,Za];omega,?_⟩;rw[<-Zr];refine q _ _ ((u.trans y).thenSm (Sm.app _ _)) (λg hg=>?_) (by rw[Zn];omega);rcases ZJ.mp hg with hg |hg
  ·exact b.bd g hg
  ·exact B g (f.mem_iff.mp hg)
def EC{H:List (Int × Int)}{m:Int}(C:H.length<=4)(q:∀b,Q (.int b) S):Ok (evC af (k+1) 52 [.tup (H.map ae),.int m] S) Q:=by
 refine aA (d:=i8) (ρ:=[aa (.tup (H.map ae)),aa (.int m),aD,aD,aD,aD]) rfl rfl ?_;dsimp only[i8,oz];k_is;refine ac bz ?_;k_is;refine⟨eU (by omega) (by omega),?_⟩;refine fj (by omega) (λi c S'=>S'=S/\∃ (b:Int) (u v w:Option D),c=[aa (.tup (H.map ae)),aa (.int m),aa (.int b),u,v,w]) (λi c o B n=>?_) (λc o f=>?_) ⟨rfl,m,aD,aD,aD,rfl⟩
 ·obtain⟨e,b,u,v,w,E⟩:=n;subst e E;refine⟨_,rfl,?_⟩;k_is;refine RZ (by rw[Za];omega) (λI c S'=>S'=o/\∃ (b:Int) (u v w:Option D),c=[aa (.tup (H.map ae)),aa (.int m),aa (.int b),u,v,w]) (λI d c S' hd j=>?_) (λc S' g=>by obtain⟨e,b,u,v,w,E⟩:=g;exact⟨e,b,u,v,w,E⟩) ⟨rfl,_,_,_,_,rfl⟩;obtain⟨e,b,u,v,w,E⟩:=j;subst e E;obtain⟨y,J,rfl⟩:=dH hd;refine⟨_,show aB (.tup [.name 4,.name 5]) (.tup [.int y.1,.int y.2]) _=_ from bH (by simp) (by simp),?_⟩;k_is;refine D2 (λL z=>?_) λh=>?_
  ·k_is;exact⟨rfl,_,_,_,_,rfl⟩
  ·k_is;exact⟨rfl,_,_,_,_,rfl⟩
 ·obtain⟨e,b,u,v,w,E⟩:=f;subst e E;k_is;exact q b
def run_ok(V:Vd K){gv fx o:D}{os:List Int}(hv:o = .tup (os.map D.int)\/∃m,o = .ref m/\S[m]?=aa (.lst (os.map D.int)))(ho:InR K os)(lo:os.length<=20)
  (hg:∀S',Sm S S'->∀g:Int,0<=g->g < K.G.length->∃a b c d e f h:Int,0<=a/\a < K.M.length/\ixS gv (.int g) S'=aa (az [a,b,c,d,e,f,h],S'))
  (q:∀ (L:List (Int × Int)) N S',Sm S S'->S'[N]?=aa (.lst (L.map ae))->S.length<=N->L.map (·.1)=os->Q (.ref N) S'):Ok (evC af (k+2) 53 [.tup [meE K,ahE K.ah,gv,fx],o] S) Q:=by
 refine aA (d:=kw) (ρ:=[aa (.tup [meE K,ahE K.ah,gv,fx]),aa o,aD,aD,aD,aD]) rfl rfl ?_;dsimp only[kw,qq];k_is;have t0:∀S,ixS (.tup [meE K,ahE K.ah,gv,fx]) (.int 0) S=aa (meE K,S):=λ_=>rfl;have t1:∀S,ixS (.tup [meE K,ahE K.ah,gv,fx]) (.int 1) S=aa (ahE K.ah,S):=λ_=>rfl;have t2:∀S,ixS (.tup [meE K,ahE K.ah,gv,fx]) (.int 2) S=aa (gv,S):=λ_=>rfl;refine ac (t1 _) ?_;k_is
 have B:∀ (nx:Nxt) (I:Sto),Sm S I->I[Zc S]?=aa (.lst (([]:List (Int × Int)).map ae))->(∀i S',Sm S S'->nx i S'=aa ((os[i]?).map D.int))->OkS (dM nx (.name 4) (gc (evC af (k+1)) (cA af) 58 [.asg (.name 5) (.ix (.ix (.ix (.var 0) (.int 2)) (.var 4)) (.int 2)),.ifs (.cmp .isnot (.var 3) .non) [.asg (.name 5) (.mx (.var 5) (.bin .add (.ix (.var 3) (.int 1)) (.ix (.ix (.ix (.ix (.var 0) (.int 0)) (.int 2)) (.ix (.var 3) (.int 0))) (.ix (.ix (.ix (.var 0) (.int 2)) (.var 4)) (.int 0)))))] [],.asg (.name 5) (.call 52 [(.ix (.ix (.var 0) (.int 0)) (.int 3)),(.var 5)]),.ex (.app (.var 2) (.tup [(.var 4),(.var 5)])),.asg (.name 3) (.tup [(.ix (.ix (.ix (.var 0) (.int 2)) (.var 4)) (.int 0)),(.var 5)])]) LF 0 [aa (.tup [meE K,ahE K.ah,gv,fx]),aa o,aa (.ref (Zc S)),aa (ahE K.ah),aD,aD] I)
   λJ T S'=>match J with
    |.nx=>∃ (L:List (Int × Int)) (a:Option (Int × Int)) (u v:Option D),T=[aa (.tup [meE K,ahE K.ah,gv,fx]),aa o,aa (.ref (Zc S)),aa (ahE a),u,v]/\Sm S S'/\S'[Zc S]?=aa (.lst (L.map ae))/\L.map (·.1)=os
    |_=>False:=λnx I Y Z X=>by
  refine jH os.length (λi T S'=>∃ (L:List (Int × Int)) (a:Option (Int × Int)) (u v:Option D),T=[aa (.tup [meE K,ahE K.ah,gv,fx]),aa o,aa (.ref (Zc S)),aa (ahE a),u,v]/\Sm S S'/\S'[Zc S]?=aa (.lst (L.map ae))/\L.map (·.1)=os.take i/\∀z,a=aa z->0<=z.1/\z.1 < K.M.length) (by unfold LF;omega) (λi T j hi hq1=>?_) (λT j hq2=>by obtain⟨L,a,u,v,er,n,y,E,ha⟩:=hq2;exact⟨by rw[X _ j n,ZE (Zd _)];rfl,L,a,u,v,er,n,y,by rw[E,Z7]⟩) ⟨[],K.ah,aD,aD,rfl,Y,Z,rfl,V.ah0⟩;obtain⟨L,a,u,v,er,n,y,E,ha⟩:=hq1;subst er;have hgi:os[i]?=aa os[i]:=gEG hi;obtain⟨g0,g1⟩:=ho os[i] (ZI hi);have hlen:L.length<=20:=by have:=congrArg Zc E;rw[Za,Zs] at this;omega
  refine⟨.int os[i],_,by rw[X i j n,hgi];rfl,rfl,?_⟩;obtain⟨x0,x1,x2,x3,x4,x5,x6,k0,k1,ix⟩:=hg j n os[i] g0 g1;have lt2:Zc S < j.length:=(Zb.mp y).1
  have C:∀m:Int,rW (wSs (evC af (k+1)) (cA af) 56 [.asg (.name 5) (.call 52 [(.ix (.ix (.var 0) (.int 0)) (.int 3)),(.var 5)]),.ex (.app (.var 2) (.tup [(.var 4),(.var 5)])),.asg (.name 3) (.tup [(.ix (.ix (.ix (.var 0) (.int 2)) (.var 4)) (.int 0)),(.var 5)])]) [aa (.tup [meE K,ahE K.ah,gv,fx]),aa o,aa (.ref (Zc S)),aa (ahE a),aa (.int os[i]),aa (.int m)] j (λJ O j=>match J with
    |.nx=>∃ (L:List (Int × Int)) (a:Option (Int × Int)) (u v:Option D),O=[aa (.tup [meE K,ahE K.ah,gv,fx]),aa o,aa (.ref (Zc S)),aa (ahE a),u,v]/\Sm S j/\j[Zc S]?=aa (.lst (L.map ae))/\L.map (·.1)=os.take (i+1)/\∀z,a=aa z->0<=z.1/\z.1 < K.M.length
    |.ct=>∃ (L:List (Int × Int)) (a:Option (Int × Int)) (u v:Option D),O=[aa (.tup [meE K,ahE K.ah,gv,fx]),aa o,aa (.ref (Zc S)),aa (ahE a),u,v]/\Sm S j/\j[Zc S]?=aa (.lst (L.map ae))/\L.map (·.1)=os.take (i+1)/\∀z,a=aa z->0<=z.1/\z.1 < K.M.length
    |.bk=>∃ (L:List (Int × Int)) (a:Option (Int × Int)) (u v:Option D),O=[aa (.tup [meE K,ahE K.ah,gv,fx]),aa o,aa (.ref (Zc S)),aa (ahE a),u,v]/\Sm S j/\j[Zc S]?=aa (.lst (L.map ae))/\L.map (·.1)=os
    | .rt d=>False):=λm=>by
   k_is;refine ac (t0 _) (ac me3 ?_);refine⟨rfl,EC V.h4 λU=>?_⟩;k_is;refine⟨bB y,?_⟩;rw[eT y (by rw[Za];omega)];k_is;have s3:Sm S (j.set (Zc S) (.lst (L.map ae++[.tup [.int os[i],.int U]]))):=Sm.setNew n (Zd _);have a3:(j.set (Zc S) (.lst (L.map ae++[.tup [.int os[i],.int U]])))[Zc S]?=aa (.lst ((L++[(os[i],U)]).map ae)):=by rw[ja lt2,Zr];rfl
   generalize j.set (Zc S) (.lst (L.map ae++[.tup [.int os[i],.int U]]))=S3 at *;obtain⟨y0,y1,y2,y3,y4,y5,y6,l0,l1,iy⟩:=hg S3 s3 os[i] g0 g1;refine ac (t2 _) (ac iy (ac (show ixS (az [y0,y1,y2,y3,y4,y5,y6]) (.int 0) S3=aa (.int y0,S3) from rfl) ?_));k_is;exact⟨L++[(os[i],U)],aa (y0,U),_,_,rfl,s3,a3,by rw[Zr,E,ZN hi];rfl,λz e=>by cases e;exact⟨l0,l1⟩⟩
  k_is;refine ac (t2 _) (ac ix (ac (show ixS (az [x0,x1,x2,x3,x4,x5,x6]) (.int 2) j=aa (.int x2,j) from rfl) ?_));k_is;cases a with
  |none=>
   refine ac (show aC .isnot (ahE aD) .non j=aa (.bl aT,j) from rfl) ?_;k_is;exact C x2
  |some z=>
   obtain⟨z0,z1⟩:=ha z rfl;refine ac (show aC .isnot (ahE (aa z)) .non j=aa (.bl aN,j) from rfl) ?_;k_is;refine ac (show ixS (ahE (aa z)) (.int 1) j=aa (.int z.2,j) from rfl) ?_;refine ac (t0 _) (ac me2 (ac (show ixS (ahE (aa z)) (.int 0) j=aa (.int z.1,j) from rfl) ?_));obtain⟨r,h1,h2⟩:=kA (S:=j) V z0 z1 k0 k1;refine ac h1 (ac (t2 _) (ac ix (ac (show ixS (az [x0,x1,x2,x3,x4,x5,x6]) (.int 0) j=aa (.int x0,j) from rfl) (ac h2 ?_))));k_is;exact C _
 have fin:∀ (nx:Nxt) (I:Sto),Sm S I->I[Zc S]?=aa (.lst (([]:List (Int × Int)).map ae))->(∀i S',Sm S S'->nx i S'=aa ((os[i]?).map D.int))->True:=λ_ _ _ _ _=>trivial;have Y:Sm S (S++[Ob.lst []]):=Sm.app _ _;have Z:(S++[Ob.lst []])[Zc S]?=aa (.lst (([]:List (Int × Int)).map ae)):=al;rcases hv with rfl |⟨m,rfl,hm⟩
 ·k_is;refine(B _ _ Y Z cE).mono λJ T S' z=>?_;cases J with
  |nx=>
   obtain⟨L,a,u,v,rfl,n,y,E⟩:=z;k_is;exact q L _ S' n y (Zd _) E
  |_=>cases z
 ·k_is;refine⟨by rw[ao (Y _ _ hm)];rfl,?_⟩;refine(B _ _ Y Z (b5 hm)).mono λJ T S' z=>?_;cases J with
  |nx=>
   obtain⟨L,a,u,v,rfl,n,y,E⟩:=z;k_is;exact q L _ S' n y (Zd _) E
  |_=>cases z
def ED{i:Int}(c:0<=i):il b (aa i) aD=b.drop i.toNat:=by
 unfold il;rw[Dw.KU _ _ c,HT.Be];by_cases h:i.toNat<=b.length
 ·rw[Xs h,Z5 (by rw[ZZ];lia)]
 ·rw[Wf (by lia),List.drop_length,XV,List.drop_eq_nil_of_le (by lia)]
def uz{n:Nat}{i:Int}(h:S[n]?=aa (.lst b))(c:0<=i):slS (aa i) aD (.ref n) S=aa (.ref (Zc S),S++[.lst (b.drop i.toNat)]):=by
 simp only[slS,ao h,ED c]
abbrev NB(L:List (Int × Int)):Prop:=∀z ∈ L,z.1.natAbs<=10 ^ 20
def J2(g:K.G.length<=7)(h:InR K (L.map (·.1))):NB L:=λz b=>by
 have:=h z.1 (Zw.mpr ⟨z,b,rfl⟩)
 lia
abbrev Lnd(p:Nat)(S:Sto)(m:Nat)(K:Sky)(d:D):Prop:=∃ (N:Nat) (L:List (Int × Int)),d = .ref N/\N ≠ p/\S[N]?=aa (.lst (L.map ae))/\L.length<=m/\NB L
def oW(h:bI d=aN):d = .non:=by cases d <;> first |rfl |cases h
abbrev Sc(p:Nat)(S:Sto)(K:Sky)(d:D):Prop:=∃ (N:Nat) (L:List (Int × Int)),d = .ref N/\N ≠ p/\S[N]?=aa (.lst (L.map ae))/\L.length<=14/\NB L/\amF K L = .non
def Tc(V:Vd K):∀S',Sm S S'->∀g:Int,0<=g->g < K.G.length->∃a b c d e f h:Int,0<=a/\a < K.M.length/\ixS (.tup (K.G.map az)) (.int g) S'=aa (az [a,b,c,d,e,f,h],S'):=λS' _ g j q=>by
 obtain⟨a,b,c,d,e,f,h,E,v,u,z,y,B,o,n,C⟩:=gl7 V j q;exact⟨a,b,c,d,e,f,h,o,n,eA j E⟩
def yJ(V:Vd K){os:List Int}(h:InR K os)(lo:os.length<=20)
  (q:∀ (L:List (Int × Int)) N S',Sm S S'->S'[N]?=aa (.lst (L.map ae))->S.length<=N->L.map (·.1)=os->Q (.ref N) S'):Ok (evC af (k+2) 53 [skE K,.tup (os.map D.int)] S) Q:=
 run_ok (fx:=.tup (K.F.map D.int)) V (.inl rfl) h lo (Tc V) q
def uA(h:Pot p S)(sk:SkOk K)(g6:K.G.length<=7){N:Nat}{L:List (Int × Int)}{u3 u4:Option D}(nN:N ≠ p)(hN:S[N]?=aa (.lst (L.map ae)))(lL:L.length<=14)(X:InR K (L.map (·.1)))(aL:amF K L = .non)
  (q:∀d S',Dr p S S'->Sc p S' K d->Q d S') :
  rW (wSs (evC af (k+4)) (cA af) 57 (eI.drop 3)) [aa (.ref p),aa (skE K),aa (.ref N),u3,u4,aD,aD,aD,aD,aD] S (out Q):=by
 dsimp only[eI,Yn];have V:=sk.vd;k_is;refine⟨by rw[ao hN];rfl,?_⟩;refine bh L ae (λz=>[.int z.1]) (by lia) (λ_ _=>Zd _) (b5 hN) (λi y S' hy sm=>⟨_,rfl,?_⟩) λv s2=>?_
 ·k_is;exact ac (show ixS (ae y) (.int 0) S'=aa (.int y.1,S') from rfl) ⟨rfl,Sm.refl _⟩
 rw[ba,jM];k_is;have lt2:=(Dr.sm h s2).pot.lt;have d3:Dr p S (v++[Ob.lst ((L.map (·.1)).map D.int)]):=Dr.sm h (s2.trans (Sm.app _ _));have a3:(v++[Ob.lst ((L.map (·.1)).map D.int)])[Zc v]?=aa (.lst ((L.map (·.1)).map D.int)):=al;have n3:Zc v ≠ p:=by lia
 generalize v++[Ob.lst ((L.map (·.1)).map D.int)]=S3 at *;generalize Zc v=N3 at *;refine ac (eB a3) ?_;k_is;rw[Za,Za];refine⟨rfl,ax d3.pot (by lia) (by lia) λx S4 x1 x2 d4=>?_⟩;refine⟨rfl,ax d4.pot (by decide) (by decide) λy S5 y1 y2 d5=>?_⟩;k_is;have B:=d4.trans d5;have a5:=B.kp _ _ n3 a3;have d5':=d3.trans B;refine ac sk2 ?_;k_is;refine cY K.G.length (λi=>.tup [.int i,((K.G.map az)[i]?).getD .non]) (λi u S'=>Sm S5 S'/\∃R:List (List Int),u=R.map az/\R.length=i/\∀ (j:Nat) r,R[j]?=aa r->∃a b c d e f h:Int,r=[a,b,c,d,e,f,h]/\0<=a/\a < K.M.length) (λi u S' hi _=>?_) (by lia) (λi u n hi ⟨O,R,T,lR,U⟩=>?_) (λes n ⟨O,R,T,lR,U⟩=>⟨by rw[T,Za];lia,?_⟩) ⟨Sm.refl _,[],rfl,rfl,λj r e=>by cases e⟩
 ·show enm (K.G.map az) i=_;unfold enm;rw[if_pos (by rw[Za];exact hi)];split
  ·rename_i hlt;rw[gEG (by rw[Za];exact hlt)];rfl
  ·rw[ZE (by rw[Za];lia)];rfl
 ·obtain⟨a,b,c,d,e,f,o,eg,e0,e1,e2,e3,e6,k0,Z,c0⟩:=gl7 V (g:=(i:Int)) (by lia) (by lia);rw[Zo] at eg;have ez:((K.G.map az)[i]?).getD .non = .tup [.int a,.int b,.int c,.int d,.int e,.int f,.int o]:=by rw[Zj,eg];rfl
  rw[ez];refine⟨_,bH (by simp) (by simp),?_⟩;k_is;rw[show il [D.int a,.int b,.int c,.int d,.int e,.int f,.int o] aD (aa 2)=[.int a,.int b] from rfl];k_is;refine ac (show ixS (.tup [D.int a,.int b,.int c,.int d,.int e,.int f,.int o]) (.int 2) n=aa (.int c,n) from rfl) ?_;k_is;refine ac (uz (O _ _ a5) x1) ?_;have s7:Sm n (n++[Ob.lst (((L.map (·.1)).map D.int).drop x.toNat)]):=Sm.app _ _;have a7:(n++[Ob.lst (((L.map (·.1)).map D.int).drop x.toNat)])[Zc n]?=aa (.lst (((L.map (·.1)).drop x.toNat).map D.int)):=by rw[al,XX]
  generalize n++[Ob.lst (((L.map (·.1)).map D.int).drop x.toNat)]=S7 at *;k_is;refine ac (show aC .isin (.int (i:Int)) (.ref (Zc n)) S7=aa (.bl (aT != decide ((i:Int) ∈ (L.map (·.1)).drop x.toNat)),S7) from oU aT a7 (i:Int)) ?_;k_is;refine ac (show B5 (.bl (aT != decide ((i:Int) ∈ (L.map (·.1)).drop x.toNat))) S7=aa (.int (if (aT != decide ((i:Int) ∈ (L.map (·.1)).drop x.toNat)) then 1 else 0),S7) from rfl) ?_;k_is;refine⟨mh (by lia) (by lia),?_⟩;refine⟨by show 3<=1000;decide,?_⟩;rw[show il [D.int a,.int b,.int c,.int d,.int e,.int f,.int o] (aa 3) aD=[.int d,.int e,.int f,.int o] from rfl];k_is;refine⟨by show 7<=1000;decide,?_⟩;refine⟨O.trans s7,R++[[a,b,c+y * (if (aT != decide ((i:Int) ∈ (L.map (·.1)).drop x.toNat)) then 1 else 0),d,e,f,o]],by rw[T,Zr];rfl,by rw[Zn,ZO];lia,λj r E=>?_⟩;by_cases hjl:j < R.length
  ·rw[Zv hjl] at E;exact U j r E
  ·have Y:=(Zb.mp E).1;rw[Zn,ZO] at Y;obtain rfl:j=R.length:=by lia
   rw[Zp (Zd _),Yv] at E;cases E;exact⟨_,_,_,_,_,_,_,rfl,k0,Z⟩
 ·subst T;k_is;have s7:Sm n (n++[Ob.lst (R.map az)]):=Sm.app _ _;have a7:(n++[Ob.lst (R.map az)])[Zc n]?=aa (.lst (R.map az)):=al;have C:=O.trans s7;generalize n++[Ob.lst (R.map az)]=S7 at *;generalize Zc n=N7 at *;have d7:=d5'.thenSm C;refine ac sk0 (ac sk1 (ac sk3 ?_));k_is;refine⟨rfl,run_ok (k:=k+2) (gv:=.ref N7) (fx:=.tup (K.F.map D.int)) V (.inr ⟨N3,rfl,C _ _ a5⟩) X (by rw[Za];lia) (λS' sm g g0 g1=>?_) λL' N8 S8 s8 I l8 J=>?_⟩
  ·have hg:g.toNat < R.length:=by lia
   obtain⟨a,b,c,d,e,f,o,er,k0,Z⟩:=U g.toNat R[g.toNat] (gEG hg);exact⟨a,b,c,d,e,f,o,k0,Z,bU (sm _ _ a7) g0 (by rw[Zj,gEG hg,er];rfl)⟩
  ·have lL':L'.length<=14:=by have:=congrArg Zc J;rw[Za,Za] at this;lia
   k_is;refine⟨rfl,kC (k:=k+1) sk I (by lia) λS9 s9=>?_⟩;k_is;refine ac oV ?_;k_is;have lt7:=d7.pot.lt;have d9:=(d7.thenSm s8).thenSm s9;cases cn:bI (amF K L') with
   |true=>k_is;exact q _ S9 d9 ⟨N8,L',rfl,by lia,s9 _ _ I,lL',J2 g6 (by rw[J];exact X),oW cn⟩
   |false=>k_is;exact q _ S9 d9 ⟨N,L,rfl,nN,d9.kp _ _ nN hN,lL,J2 g6 X,aL⟩
def wX(h:Pot p S)(c:SkOk K)(J:K.G.length<=7)(q:∀d S',Dr p S S'->(d = .non\/Sc p S' K d)->Q d S'):Ok (evC af (k+5) 58 [.ref p,skE K] S) Q:=by
 refine aA (d:=eP) (ρ:=[aa (.ref p),aa (skE K),aD,aD,aD,aD,aD,aD,aD,aD]) rfl rfl ?_;have T:=@uA p;dsimp only[eP];dsimp only[eI,Yn] at T ⊢;have V:=c.vd;k_is;refine⟨by decide,?_⟩;refine fj (by decide) (λi o S'=>Dr p S S'/\∃ (d:D) (u v:Option D),o=[aa (.ref p),aa (skE K),aa d,u,v,aD,aD,aD,aD,aD]/\(d = .non\/∃ (N:Nat) (L:List (Int × Int)),d = .ref N/\N ≠ p/\S'[N]?=aa (.lst (L.map ae))/\L.length<=14/\InR K (L.map (·.1))/\amF K L = .non)) (λi o B hi y=>?_) (λo B f=>?_) ⟨Dr.refl h,.non,aD,aD,rfl,.inl rfl⟩
 ·obtain⟨b,d,u,v,E,hd⟩:=y;subst E;refine⟨_,rfl,?_⟩;k_is;refine⟨rfl,qD (k:=k+1) b.pot c J λos S2 n C lo=>?_⟩;refine⟨rfl,yJ (k:=k+2) V C (by lia) λL N S3 I hN lN z=>?_⟩;k_is;have X:L.length<=14:=by have:=congrArg Zc z;rw[Za] at this;lia
  have j:=(b.trans n).thenSm I;have U:=n.pot.lt;have Y:N ≠ p:=by lia
  refine ac oV ?_;k_is;rcases hd with rfl |⟨N0,L0,rfl,n0,h0,l0,i0,c0⟩
  ·rw[show bI .non=aN from rfl];k_is;refine⟨rfl,kC (k:=k+1) c hN (by lia) λS4 g=>?_⟩;k_is;refine ac oV ?_;k_is;cases Z:bI (amF K L) with
   |true=>k_is;exact⟨j.thenSm g,_,_,_,rfl,.inr ⟨N,L,rfl,Y,g _ _ hN,X,by rw[z];exact C,oW Z⟩⟩
   |false=>k_is;exact⟨j.thenSm g,_,_,_,rfl,.inl rfl⟩
  ·rw[show bI (.ref N0)=aT from rfl];k_is;exact⟨j,_,_,_,rfl,.inr ⟨N0,L0,rfl,n0,(n.thenSm I).kp _ _ n0 h0,l0,i0,c0⟩⟩
 ·obtain⟨b,d,u,v,E,hd⟩:=f;subst E;k_is;refine ac oV ?_;k_is;rcases hd with rfl |⟨N0,L0,rfl,n0,h0,l0,i0,c0⟩
  ·rw[show bI .non=aN from rfl];k_is;exact q _ B b (.inl rfl)
  ·rw[show bI (.ref N0)=aT from rfl];k_is;exact T (k:=k) b.pot c J n0 h0 l0 i0 c0 λd S' O hd=>q d S' (b.trans O) (.inr hd)
def IK{n:Nat}{i:Int}(c:S[n]?=aa (.lst b))(f:0<=i)(g:i.toNat < b.length):fc (.ref n) (.int i) v S=aa (S.set n (.lst (b.set i.toNat v))):=by
 have h:ixN b.length i=aa i.toNat:=by
  unfold ixN;rw[if_pos (by lia),if_pos (by lia)]
 simp only[fc,c,h,Zu]
def AG{n:Nat}{L:List (Int × Int)}{j:Nat}(c:S[n]?=aa (.lst (L.map ae)))(b:j < L.length):fD (.ref n) [.int (j:Int)] S=aa (ae L[j],S.set n (.lst ((L.eraseIdx j).map ae))):=by
 have h:ixN (L.map ae).length (j:Int)=aa j:=by
  unfold ixN;rw[if_pos (by lia),if_pos (by rw[Za];lia),Zo]
 have f:(L.map ae)[j]?=aa (ae L[j]):=by rw[Zj,gEG b];rfl
 simp only[fD,chg,c,h,f,Zu,rZ]
def AH{n:Nat}{i:Int}(h:S[n]?=aa (.lst (L.map ae)))(b:0<=i)(f:i<=1000)(c:L.length<=1000):vQ (.ref n) [.int i,ae z] S=aa (.non,S.set n (.lst ((dX L (min i.toNat L.length) z).map ae))):=by
 have e:dX (L.map ae) (min i.toNat (L.map ae).length) (ae z)=(dX L (min i.toNat L.length) z).map ae:=by
  unfold dX;rw[Za,Zr,Zz,Yp,XX]
 simp only[vQ,chg,h];rw[if_pos ⟨b,by lia⟩,if_pos (by rw[Za];lia),e];rfl
def gV{n:Nat}{L:List (Int × Int)}{i:Int}{z:Int × Int}(h:S[n]?=aa (.lst (L.map ae)))(c:0<=i)(b:i.toNat < L.length):fc (.ref n) (.int i) (ae z) S=aa (S.set n (.lst ((L.set i.toNat z).map ae))):=by
 rw[IK h c (by rw[Za];exact b),Wv]
def oX{i:Nat}(h:NB L)(b:z.1.natAbs<=10 ^ 20):NB (L.set i z):=λy c=>by
 rcases Xb c with h' |rfl
 ·exact h y h'
 ·exact b
def O1{i:Nat}(h:NB L)(b:z.1.natAbs<=10 ^ 20):NB (dX L i z):=λy hy=>by
 unfold dX at hy;rcases ZJ.mp hy with hy |hy
 ·exact h y (ZX hy)
 ·rcases Zl.mp hy with rfl |hy
  ·exact b
  ·exact h y (XG hy)
def AI(h:Pot p S)(sk:SkOk K){N:Nat}{L:List (Int × Int)}(hN:S[N]?=aa (.lst (L.map ae)))(lL:L.length<=100)(B:NB L)(q:∀d S',Dr p S S'->Lnd p S' (L.length+1) K d->Q d S'):Ok (evC af (k+2) 59 [.ref p,.ref N,skE K] S) Q:=by
 refine aA (d:=fO) (ρ:=[aa (.ref p),aa (.ref N),aa (skE K),aD,aD,aD,aD,aD,aD]) rfl rfl ?_;dsimp only[fO,jG];have g7:=sk.g7;k_is;have it:av (.ref N) S=aa (aT,L.map ae):=by simp only[av,ao hN,Zu]
 rw[it];show Ok (aa (L.map ae,S)) _;rw[aE];k_is;have lt:=h.lt;have d0:Dr p S (S++[Ob.lst (L.map ae)]):=Dr.sm h (Sm.app _ _);have a0:(S++[Ob.lst (L.map ae)])[Zc S]?=aa (.lst (L.map ae)):=al;have I:Zc S ≠ p:=by lia
 have lA:S.length<=Zc S:=Zd _;generalize S++[Ob.lst (L.map ae)]=S0 at *;generalize hAA:Zc S=A at *;refine⟨rfl,ax d0.pot (by decide) (by decide) λw S1 w1 w2 d1=>?_⟩;k_is;have d01:=d0.trans d1;have a1:=d1.kp _ _ I a0
 have f:∀ (L':List (Int × Int)) (j:Sto) (o:Ob),Dr p S j->j[A]?=aa o->L'.length<=L.length+1->NB L'->Q (.ref A) (j.set A (.lst (L'.map ae))):=λL' j o C h2 l2 b2=>by
  have lt2:A < j.length:=(Zb.mp h2).1;exact q _ _ ⟨C.kp.setNew (by lia),C.pot.setNe I⟩ ⟨A,L',rfl,I,ja lt2,l2,b2⟩
 have T:∀ (Qf:Fl->Rho->Sto->Prop),(∀d ρ S',Q d S'->Qf (.rt d) ρ S')->∀ (j:Sto),Dr p S j->j[A]?=aa (.lst (L.map ae))->rW (wSs (evC af (k+1)) (cA af) 56 [.ex (.ins (.var 3) (.call 43 [(.var 0),(.bin .add (.len (.var 3)) (.int 1))]) (.tup [(.bin .sub (.call 43 [(.var 0),(.bin .add (.len (.ix (.var 2) (.int 2))) (.int 2))]) (.int 1)),(.call 43 [(.var 0),(.int 120)])])),.ret (.var 3)]) [aa (.ref p),aa (.ref N),aa (skE K),aa (.ref A),aa (.int w),aD,aD,aD,aD] j Qf:=λQf hq j C h2=>by
  k_is;refine⟨bB h2,?_⟩;refine ac (eB h2) ?_;k_is;rw[Za];refine⟨rfl,ax C.pot (by lia) (by lia) λx S3 x1 x2 Y=>?_⟩;refine ac sk2 (ac bz ?_);k_is;refine⟨rfl,ax Y.pot (by lia) (by lia) λy g y1 y2 U=>?_⟩;k_is;refine⟨rfl,ax U.pot (by decide) (by decide) λm u m1 m2 O=>?_⟩;k_is;have d25:=(Y.trans U).trans O;have h5:=d25.kp _ _ I h2;refine ac (AH (z:=(y - 1,m)) h5 x1 (by lia) (by lia)) ?_;k_is;refine hq _ _ _ (f _ u _ (C.trans d25) h5 ?_ (O1 B (by show(y - 1).natAbs<=_;lia)));unfold dX;rw[Zn,ZB,Zs,ZZ]
  lia
 have s2:Sm S1 (S1++[Ob.lst []]):=Sm.app _ _;have lt1:A < S1.length:=(Zb.mp a1).1;refine ac (Dn (Sm.app _ _ _ _ a1) al (by lia)) ?_;have C:=d01.thenSm s2;have a2:=s2 _ _ a1;generalize S1++[Ob.lst []]=j at *;k_is;cases hE:L with
 |nil=>
  rw[show(([]:List (Int × Int)).map ae).isEmpty=aN from rfl];k_is;exact T _ (λd ρ S' z=>z) j C a2
 |cons z0 L0=>
  rw[show((z0::L0).map ae).isEmpty=aT from rfl];k_is;have l1:1<=L.length:=by rw[hE,ZB];lia
  clear hE z0 L0;cases c0:decide (w=0) with
  |true=>
   k_is;exact T _ (λd ρ S' z=>z) j C a2
  |false=>
  k_is;refine ac (eB a2) ?_;rw[Za];refine⟨rfl,ax C.pot (by lia) (by lia) λx0 S3 x1 x2 Y=>?_⟩;have a3:=Y.kp _ _ I a2;refine ac (eB a3) ?_;rw[Za];refine⟨rfl,ax Y.pot (by lia) (by lia) λy0 g y1 y2 U=>?_⟩;k_is;obtain⟨x,rfl⟩:∃n:Nat,x0=(n:Int):=⟨x0.toNat,by lia⟩;obtain⟨y,rfl⟩:∃n:Nat,y0=(n:Int):=⟨y0.toNat,by lia⟩;have Z:x < L.length:=by lia
  have hy:y < L.length:=by lia
  have c:=U.kp _ _ I a3;have b:=(C.trans Y).trans U;have ix:∀ {S':Sto},S'[A]?=aa (.lst (L.map ae))->ixS (.ref A) (.int (x:Int)) S'=aa (ae L[x],S'):=λhh=>bU hh (by lia) (iJ (gEG Z));have iy:∀ {S':Sto},S'[A]?=aa (.lst (L.map ae))->ixS (.ref A) (.int (y:Int)) S'=aa (ae L[y],S'):=λhh=>bU hh (by lia) (iJ (gEG hy));refine ac (ix c) ?_;rw[show ae L[x] = .tup [.int L[x].1,.int L[x].2] from rfl];k_is;have v:∀z:Int × Int,(L.set ((x:Nat):Int).toNat z).length<=L.length+1:=λz=>by rw[Ys];lia
  have J:((x:Nat):Int).toNat < L.length:=by rw[Zo];exact Z
  cases c1:decide (w=1) with
  |true=>
   k_is;refine⟨bB c,?_⟩;refine ac (AG c Z) ?_;k_is;exact f _ g _ b c (by rw[Y7 Z];lia) λz hz=>B z (List.mem_of_mem_eraseIdx hz)
  |false=>
  k_is;cases c2:decide (w=2) with
  |true=>
   k_is;refine ac (iy c) (ac (ix c) ?_);k_is;refine⟨_,_,rfl,?_⟩;refine⟨_,gV c (by lia) J,?_⟩;have lt4:A < g.length:=(Zb.mp c).1;have E:(g.set A (.lst ((L.set ((x:Nat):Int).toNat L[y]).map ae)))[A]?=aa (.lst ((L.set ((x:Nat):Int).toNat L[y]).map ae)):=ja lt4;have O:Dr p S (g.set A (.lst ((L.set ((x:Nat):Int).toNat L[y]).map ae))):=⟨b.kp.setNew (by lia),b.pot.setNe I⟩;refine⟨_,gV E (by lia) (by rw[Ys,Zo];exact hy),?_⟩;k_is;exact f _ _ _ O E (by rw[Ys,Ys];lia) (oX (oX B (B _ (ZI hy))) (B _ (ZI Z)))
  |false=>
  k_is;cases c3:decide (w=3) with
  |true=>
   k_is;refine ac (iy c) (ac (show ixS (ae L[y]) (.int 0) g=aa (.int L[y].1,g) from rfl) ?_);k_is;refine⟨_,gV (z:=(L[y].1,L[x].2)) c (by lia) J,?_⟩;k_is;exact f _ g _ b c (v _) (oX B (B L[y] (ZI hy)))
  |false=>
  k_is;cases c4:decide (w=4) with
  |true=>
   k_is;refine ac sk2 (ac bz ?_);k_is;refine⟨⟨by decide,by decide,by decide⟩,?_⟩;refine⟨rfl,ax U.pot (by decide) (by decide) λi u i1 i2 O=>?_⟩;k_is
   obtain⟨e,X,be⟩:∃e:Int,atI [D.int (-1),D.int (K.G.length:Int),D.int (10 ^ Int.toNat 20)] i=aa (D.int e)/\e.natAbs<=10 ^ 20:=by
    have:i=0\/i=1\/i=2:=by lia
    rcases this with rfl |rfl |rfl
    ·exact⟨_,rfl,by decide⟩
    ·exact⟨_,rfl,by lia⟩
    ·exact⟨_,rfl,by decide⟩
   refine⟨_,X,?_⟩;k_is;have E:=O.kp _ _ I c;refine⟨_,gV (z:=(e,L[x].2)) E (by lia) J,?_⟩;k_is;exact f _ u _ (b.trans O) E (v _) (oX B be)
  |false=>
  k_is;cases c5:decide (w=5) with
  |true=>
   k_is;refine⟨⟨by decide,by decide,by decide⟩,?_⟩;refine⟨⟨by decide,by decide,by decide⟩,?_⟩;refine⟨rfl,ax U.pot (by decide) (by decide) λi u i1 i2 O=>?_⟩;k_is
   obtain⟨e,X⟩:∃e:Int,atI [D.int (-1),D.int 1,D.int (10 ^ Int.toNat 20),D.int (-(10 ^ Int.toNat 20))] i=aa (D.int e):=by
    have:i=0\/i=1\/i=2\/i=3:=by lia
    rcases this with rfl |rfl |rfl |rfl
    ·exact⟨_,rfl⟩
    ·exact⟨_,rfl⟩
    ·exact⟨_,rfl⟩
    ·exact⟨_,rfl⟩
   refine⟨_,X,?_⟩;k_is;have E:=O.kp _ _ I c;refine⟨_,gV (z:=(L[x].1,L[x].2+e)) E (by lia) J,?_⟩;k_is;exact f _ u _ (b.trans O) E (v _) (oX B (B L[x] (ZI Z)))
  |false=>
  k_is;refine ac (dh c) ?_;have s5:Sm g (g++[Ob.lst ((L.map ae).take x)]):=Sm.app _ _;have E:(g++[Ob.lst ((L.map ae).take x)])[Zc g]?=aa (.lst ((L.take x).map ae)):=by rw[al,Yp]
  generalize g++[Ob.lst ((L.map ae).take x)]=u at *;generalize hN4:Zc g=N4 at *;refine ac (uz (s5 _ _ c) (by lia)) ?_;have s6:Sm u (u++[Ob.lst ((L.map ae).drop ((x:Nat):Int).toNat)]):=Sm.app _ _;have a6:(u++[Ob.lst ((L.map ae).drop ((x:Nat):Int).toNat)])[Zc u]?=aa (.lst ((L.drop x).map ae)):=by rw[al,XX,Zo]
  generalize u++[Ob.lst ((L.map ae).drop ((x:Nat):Int).toNat)]=S6 at *;generalize Zc u=N5 at *;k_is;refine⟨by rw[ao a6];rfl,?_⟩;refine bh (L.drop x) ae (λz=>[ae (z.1,z.2+1)]) (by rw[ZZ];lia) (λ_ _=>Zd _) (b5 a6) (λi z S' hz sm=>⟨_,show aB (.tup [.name 9,.name 10]) (.tup [.int z.1,.int z.2]) _=_ from bH (by simp) (by simp),?_⟩) λS7 s7=>?_
  ·k_is;exact⟨rfl,Sm.refl _⟩
  rw[ba];have em:((L.drop x).map λz=>ae (z.1,z.2+1))=((L.drop x).map λz=>(z.1,z.2+1)).map ae:=by rw[ZP];rfl
  rw[em];have s8:Sm S7 (S7++[Ob.lst (((L.drop x).map λz=>(z.1,z.2+1)).map ae)]):=Sm.app _ _;refine ac (fR (s8 _ _ (s7 _ _ (s6 _ _ E))) al (by rw[Za,Za,Za,Zs,ZZ];lia)) ?_;k_is;rw[<-Zr];have d8:=b.thenSm (((s5.trans s6).trans s7).trans s8);have lt8:=d8.pot.lt;refine q _ _ (d8.thenSm (Sm.app _ _)) ⟨_,L.take x++(L.drop x).map λz=>(z.1,z.2+1),rfl,by lia,al,?_,λz hz=>?_⟩
  ·rw[Zn,Za,Zs,ZZ]
   lia
  ·rcases ZJ.mp hz with hz |hz
   ·exact B z (ZX hz)
   ·obtain⟨y,hy,rfl⟩:=Zw.mp hz;exact B y (XG hy)
end Lw
namespace Lw
open PySem Ev L2
variable {p:Nat} {S:Sto} {k:Nat} {Q:D->Sto->Prop}
structure Shw(t:Dw.D):Prop where
 sh:Dw.Shn t
 de:Dw.dep t<=50
 wi:Dw.wid t<=1000
def wY{n m B s:Nat}(f:Dw.Fit n m t)(b:Dw.Bd B s t)(c:n<=50)(g:m<=1000)(h:B<=10 ^ 50)(hs:s<=16000000):Shw t:=
 ⟨b.shn h (by rw[Ue];lia) (ZC f.de (by lia)),ZC f.de c,ZC f.wi g⟩
mutual
theorem yK:∀ (n:Nat) {t:Dw.D} {d:D},Dw.dep t < n->TD p S t d->cP n S d=aa t
 |n+1,.non,_,_,h=>by rw[h.non];simp only[cP]
 |n+1,.bl _,_,_,h=>by rw[h.bl];simp only[cP]
 |n+1,.int _,_,_,h=>by rw[h.int];simp only[cP]
 |n+1,.str _,_,_,h=>by rw[h.str];simp only[cP]
 |n+1,.tup ts,_,hd,h=>by
  obtain⟨b,rfl,q⟩:=h.tup;rw[Dw.dep] at hd;simp only[cP,jO n (by lia) q,Zu]
 |n+1,.lst ts,_,hd,h=>by
  rw[TD] at h;obtain⟨m,b,rfl,_,e,q⟩:=h;rw[Dw.dep] at hd;simp only[cP,e,jO n (by lia) q,Zu]
 |n+1,.dic ks ts,_,hd,h=>by
  rw[TD] at h;obtain⟨m,b,rfl,_,e,q⟩:=h;rw[Dw.dep] at hd;simp only[cP,e,jO n (by lia) q,Zu]
theorem jO:∀ (n:Nat) {T:List Dw.D} {b:List D},Dw.lv T < n->TDs p S T b->cr (cP n S) b=aa T
 |n,[],_,_,h=>by rw[h.nil];simp only[cr]
 |n,t::T,_,hd,h=>by
  obtain⟨d,r,rfl,a,q⟩:=h.cons;rw[Dw.lv] at hd;simp only[cr,yK n (by lia) a,jO n (by lia) q]
end
def repr_td(h:TD p S t d)(s:Shw t):ip d S=aa (.str (Dw.aW t).shown,S):=by
 unfold ip;rw[yK 100 (by have:=s.de;lia) h];dsimp only;rw[if_pos s.sh]
def mv(x y:Str)(S:Sto):aC .ne (.str x) (.str y) S=aa (.bl (!(x == y)),S):=xR (x:=.str x) (y:=.str y) (b:=x == y) rfl
end Lw
namespace Lw
open PySem Ev Sn L2
variable {p:Nat} {S S':Sto} {k:Nat} {Q:D->Sto->Prop} {K:Sky}
abbrev AJ:List Dw.D:=[.non,.bl aN,.bl aT,.int (-1),.int (10 ^ 30),.str "", .str "a", .str "1", .tup [],.lst [],.dic [] [],.lst [.tup []],.tup [.tup []],.tup [.int 0],.lst [.int 0],.dic [pd 0] [.int 1],.tup [.bl aN,.bl aN]]
def IL(h:Pot p S)(q:∀t d S',Dr p S S'->TD p S' t d->t ∈ AJ->Q d S'):Ok (evC af (k+2) 60 [.ref p] S) Q:=by
 refine aA (d:=ky) (ρ:=[aa (.ref p),aD]) rfl rfl ?_;dsimp only[ky,qr];k_is;refine⟨⟨by decide,by decide,by decide⟩,?_⟩;have lt:=h.lt;have O:=@al S (Ob.lst []);have g1:=@al (S++[Ob.lst []]) (Ob.dic [] []);have g2:=@al (S++[Ob.lst []]++[Ob.dic [] []]) (Ob.lst [D.tup []]);have g3:=@al (S++[Ob.lst []]++[Ob.dic [] []]++[Ob.lst [D.tup []]]) (Ob.lst [D.int 0]);have U:=@al (S++[Ob.lst []]++[Ob.dic [] []]++[Ob.lst [D.tup []]]++[Ob.lst [D.int 0]]) (Ob.dic [pd 0] [D.int 1]);have n0:Zc S ≠ p:=by lia
 have J:Zc (S++[Ob.lst []]) ≠ p:=by simp;lia
 have n2:Zc (S++[Ob.lst []]++[Ob.dic [] []]) ≠ p:=by simp;lia
 have n3:Zc (S++[Ob.lst []]++[Ob.dic [] []]++[Ob.lst [D.tup []]]) ≠ p:=by simp;lia
 have n4:Zc (S++[Ob.lst []]++[Ob.dic [] []]++[Ob.lst [D.tup []]]++[Ob.lst [D.int 0]]) ≠ p:=by simp;lia
 have Z:Zc (S++[Ob.lst []]++[Ob.dic [] []]++[Ob.lst [D.tup []]]++[Ob.lst [D.int 0]]++[Ob.dic [pd 0] [D.int 1]]) ≠ p:=by simp;lia
 have X:=Sm.app S [Ob.lst []];have z:=Sm.app (S++[Ob.lst []]) [Ob.dic [] []];have j:=Sm.app (S++[Ob.lst []]++[Ob.dic [] []]) [Ob.lst [D.tup []]];have f:=Sm.app (S++[Ob.lst []]++[Ob.dic [] []]++[Ob.lst [D.tup []]]) [Ob.lst [D.int 0]];have c:=Sm.app (S++[Ob.lst []]++[Ob.dic [] []]++[Ob.lst [D.tup []]]++[Ob.lst [D.int 0]]) [Ob.dic [pd 0] [D.int 1]];generalize hE:(S++[Ob.lst []]++[Ob.dic [] []]++[Ob.lst [D.tup []]]++[Ob.lst [D.int 0]]++[Ob.dic [pd 0] [D.int 1]])=E at *;have b:=λo=>Sm.app E [o];have y:=λo=>@al E o;generalize Zc (S++[Ob.lst []]++[Ob.dic [] []]++[Ob.lst [D.tup []]]++[Ob.lst [D.int 0]])=i4 at *;generalize Zc (S++[Ob.lst []]++[Ob.dic [] []]++[Ob.lst [D.tup []]])=i3 at *;generalize Zc (S++[Ob.lst []]++[Ob.dic [] []])=i2 at *;generalize Zc (S++[Ob.lst []])=i1 at *
 have v:∀o,TDs p (E++[o]) AJ [D.non,D.bl aN,D.bl aT,D.int (-1),D.int (10 ^ Int.toNat 30),D.str (Str.ofString ""),D.str (Str.ofString "a"),D.str (Str.ofString "1"),D.tup [],D.ref (Zc S),D.ref i1,D.ref i2,D.tup [D.tup []],D.tup [D.int 0],D.ref i3,D.ref i4,D.tup [D.bl aN,D.bl aN]]:=λo=>by
  refine ai Dh (ai yw (ai yw (ai bp (ai bp (ai wr (ai wr (ai wr (ai (aZ aM) (ai (cZ n0 (b o _ _ (c _ _ (f _ _ (j _ _ (z _ _ O))))) aM) (ai (Dq J (b o _ _ (c _ _ (f _ _ (j _ _ g1)))) aM) (ai (cZ n2 (b o _ _ (c _ _ (f _ _ g2))) (ai (aZ aM) aM)) (ai (aZ (ai (aZ aM) aM)) (ai (aZ (ai bp aM)) (ai (cZ n3 (b o _ _ (c _ _ g3)) (ai bp aM)) (ai (Dq n4 (b o _ _ U) (ai bp aM)) (ai (aZ (ai yw (ai yw aM))) aM))))))))))))))))
 have C:∀o,Dr p S (E++[o]):=λo=>Dr.sm h ((((X.trans z).trans j).trans f).trans (c.trans (b o)));generalize [D.non,D.bl aN,D.bl aT,D.int (-1),D.int (10 ^ Int.toNat 30),D.str (Str.ofString ""),D.str (Str.ofString "a"),D.str (Str.ofString "1"),D.tup [],D.ref (Zc S),D.ref i1,D.ref i2,D.tup [D.tup []],D.tup [D.int 0],D.ref i3,D.ref i4,D.tup [D.bl aN,D.bl aN]]=L at *;have ll:L.length=17:=(v (Ob.lst [])).len;have lq:aw b7 (D.ref (Zc E)) (E++[Ob.lst L])=aa (.int 17,E++[Ob.lst L]):=by simp only[aw,av,ao (y _),Zu,b7,ll];rfl
 k_is;refine ac lq ?_;k_is;refine⟨rfl,ax (C _).pot (by decide) (by decide) λr u r1 r2 g=>?_⟩;obtain⟨n,rfl⟩:∃n:Nat,r=(n:Int):=⟨r.toNat,by lia⟩;have Y:=g.kp _ _ Z (y (Ob.lst L));have B:n < AJ.length:=by show n < 17;lia
 obtain⟨d,I,T⟩:=((v (Ob.lst L)).keep g.kp).get (gEG B);have ix:ixS (.ref (Zc E)) (.int (n:Int)) u=aa (d,u):=by simp only[ixS,av,ao Y,Zu,Ev.qO I]
 refine ac ix ?_;k_is;exact q _ _ _ ((C _).trans g) T (ZI B)
def uB(h:amF K L = .non){j:Nat}(b:L[j]?=aa z):b8 K (L.take j) j z=aD:=by
 have n:(Ze L.length).findSome? (jK K L)=aD:=by
  cases c:(Ze L.length).findSome? (jK K L) with
  |none=>rfl
  |some d=>
   unfold amF at h;rw[c] at h;dsimp only at h;subst h;obtain⟨j,_,b⟩:=YA c;unfold jK at b;cases f:L[j]? with
   |none=>rw[f] at b;cases b
   |some z=>
    rw[f,YF] at b;cases g:b8 K (L.take j) j z with
    |none=>rw[g] at b;cases b
    |some w=>rw[g] at b;cases b
 exact wW b (Y9.mp n j (ZU.mpr (Zb.mp b).1))
def f9(h:amF K L = .non):∀z ∈ L,0<=z.1/\z.1 < K.G.length/\gi K.G z.1 2<=z.2/\z.2<=gi K.G z.1 3:=λz c=>by
 obtain⟨j,b⟩:=Ye c;have a:=mr (uB h b);exact⟨a.1,a.2,uy (uB h b)⟩
def EF{L:List (Int × Int)}:psT (.lst (L.map Dw.aY))=decide (L.length<=20):=by
 show(decide ((L.map Dw.aY).length<=20) && (L.map Dw.aY).all prT)=_;have:(L.map Dw.aY).all prT=aN:=by rw[Yz,ZL];intro x _;rfl
 rw[this,Wr,Za]
def gW:∀ {L b:List (Int × Int)},L.map Dw.aY=b.map Dw.aY->L=b
 |[],[],_=>rfl
 |[],_::_,e=>by cases e
 |_::_,[],e=>by cases e
 |z::L,z'::b,e=>by
  rw[Zz,Zz] at e;injection e with e1 e2;rw[gW e2];cases z;cases z';cases e1;rfl
def yL{Q:RR->Sto->Prop}(v:SkOk K)(h:TD p S t d)(B:∀T,t = .lst T->T.length<=1000)(y:(∀L:List (Int × Int),t = .lst (L.map Dw.aY)->L.length<=20->amF K L ≠ .non)->∀S',Sm S S'->Q (.exc 2) S')
  (J:∀ (L:List (Int × Int)) (n:Nat),t = .lst (L.map Dw.aY)->L.length<=20->amF K L = .non->d = .ref n->S[n]?=aa (.lst (L.map ae))->∀S',Sm S S'->Q (.val .non) S'):OkX (evX af (k+10) 19 [skE K,d] S) Q:=by
 refine D8 (d:=iH) (rs:=eG) (ρ:=[aa (skE K),aa d]) rfl rfl rfl ?_;unfold eG;refine Eb (ds:=[skE K]) (S1:=S) rfl rfl (Ei (k:=k+1) v λY g=>?_);refine JW ?_;have U:=h.keep g.kp;k_is;refine⟨rfl,?_⟩;refine aA (k:=k+8) (d:=gI) (ρ:=[aa (skE K),aa d]) rfl rfl ?_;dsimp only[gI,kQ];k_is;refine⟨rfl,Ey (k:=k+5) U B λX o=>?_⟩;k_is;cases c:psT t with
 |false=>
  k_is;refine⟨by decide,y (λL e b z=>?_) X (g.trans o)⟩;subst e;rw[EF,decide_eq_true b] at c;cases c
 |true=>
  cases t with
  |lst T=>
   have j:(decide (T.length<=20) && T.all prT)=aN:=c;rw[bAE] at j;obtain⟨L,rfl⟩:=si j.2;obtain⟨n,ds,rfl,Z,q,hs⟩:=TD.lst h;rw[kB hs] at q;have b:=of_decide_eq_true j.1;rw[Za] at b;k_is;refine⟨rfl,Ew (k:=k+2) v.vd (o _ _ (g _ _ q)) b λu I=>?_⟩;k_is;have f:=(g.trans o).trans I;refine ac oV ?_;k_is;cases C:bI (amF K L) with
   |true=>
    k_is;exact D9 (J L n rfl b (oW C) rfl q u f)
   |false=>
    k_is;refine⟨by decide,y (λO e _ z=>?_) u f⟩;have E:L.map Dw.aY=O.map Dw.aY:=by injection e
    rw[gW E,z] at C;cases C
  |_=>cases c
def Td:∀t ∈ AJ,t = .lst []\/psT t=aT:=by
 intro t h;simp only[AJ,Zl,Z0,or_false] at h;rcases h with rfl |rfl |rfl |rfl |rfl |rfl |rfl |rfl |rfl |rfl |rfl |rfl |rfl |rfl |rfl |rfl |rfl <;> first |exact .inr rfl |exact .inl rfl
def O2:∀t ∈ AJ,∀u,t = .lst u->u.length<=20:=by
 intro t h u e;subst e;simp only[AJ,Zl,Z0,or_false,reduceCtorEq,false_or] at h;rcases h with e |e |e <;> cases e <;> decide
end Lw
namespace Lw
open PySem Ev Sn L2
variable {K:Sky} {A:List (Int × Int)} {z:Int × Int}
def yM(j:∀q ∈ A,jn K q.1 ∈ js K)(p:jn K z.1<=t){u:Int}(n:t<=u)(B:u < z.2 - K.s):1+(wts K A u:Int)<=aS K A z t:=by
 obtain⟨v,c,y,o,g⟩:=oO (K:=K) n A
 have b:wts K A u<=wts K A v:=hZ λq h b=>by
  have a:=g q h b;simp only[ak,bAE,decide_eq_true_eq] at b ⊢
  lia
 have f:v ∈ cD K z t:=by
  unfold cD;by_cases e:v=t
  ·rw[e];exact Zh
  ·refine Zf _ (ZM.mpr ⟨?_,by simp only[ak,bAE,decide_eq_true_eq];lia⟩);rcases c with rfl |⟨q,h,rfl⟩
   ·exact absurd rfl e
   ·exact j q h
 have:=oK (Zw.mpr ⟨v,f,rfl⟩:1+(wts K A v:Int) ∈ (cD K z t).map λt=>1+(wts K A t:Int));unfold aS
 lia
def yN(t:Int)(b:t < z.2 - K.s):∃u,t<=u/\u < z.2 - K.s/\aS K A z t=1+(wts K A u:Int):=by
 obtain⟨u,hu,e⟩:=Zw.mp (mj (ns:=(cD K z t).map λt=>1+(wts K A t:Int)) (by unfold cD;simp));refine⟨u,?_⟩;unfold cD at hu;rcases Zl.mp hu with rfl |hu
 ·exact⟨ZV _,b,e.symm⟩
 ·have h:=(ZM.mp hu).2;simp only[ak,bAE,decide_eq_true_eq] at h;exact⟨by lia,h.2.2,e.symm⟩
def IM(f:∀q ∈ A,jn K q.1 ∈ js K)(c:jn K z.1<=t)(e:t+1=z.2 - K.s):aS K A z t=1+(wts K A t:Int):=by
 obtain⟨u,g,b,h⟩:=yN (K:=K) (A:=A) (z:=z) t (by lia);rw[h,show u=t by lia]
def sj(b:∀q ∈ A,jn K q.1 ∈ js K)(c:jn K z.1<=t)(h:t+1 < z.2 - K.s):aS K A z t=if 1+(wts K A t:Int) > aS K A z (t+1) then 1+(wts K A t:Int) else aS K A z (t+1):=by
 obtain⟨u,B,f,n⟩:=yN (K:=K) (A:=A) (z:=z) t (by lia);obtain⟨v,o,g,C⟩:=yN (K:=K) (A:=A) (z:=z) (t+1) h;have y:=yM b c (ZV t) (by lia);have p:=yM b c (show t<=v by lia) g;by_cases e:u=t
 ·subst e;split <;> lia
 ·have j:=yM b (show jn K z.1<=t+1 by lia) (show t+1<=u by lia) f;split <;> lia
def IP(b:∀q ∈ A,jn K q.1 ∈ js K)(f:jn K z.1<=t)(h:t+1 < z.2 - K.s)(j:∀q ∈ A,q.2 - K.s ≠ t+1):aS K A z (t+1)=aS K A z t:=by
 rw[sj b f h,if_neg]
 have:wts K A t<=wts K A (t+1):=hZ λq c g=>by
  have:=j q c;simp only[ak,bAE,decide_eq_true_eq] at g ⊢
  lia
 have a:=yM b (show jn K z.1<=t+1 by lia) (ZV (t+1)) h
 lia
def IQ(c:∀q ∈ A,jn K q.1 ∈ js K)(b:jn K z.1<=t)(h:t+1 < z.2 - K.s):aS K A z (t+1)<=aS K A z t:=by
 rw[sj c b h];split <;> lia
abbrev dI(b:List (Int × Int))(x:Int × Int):List (Int × Int):=match b.getLast? with
 |none=>b++[x]
 |some y=>if y.2=x.2 then b else b++[x]
abbrev bV(b:List (Int × Int))(x:Int × Int):List (Int × Int):=match b.getLast? with
 |none=>b++[x]
 |some y=>if x.2 < y.2 then b++[x] else b
def EG(acc:List (Int × Int))(x:Int × Int):bV (bV acc x) x=bV acc x:=by
 cases h:acc.getLast? with
 |none=>
  have e:bV acc x=acc++[x]:=by unfold bV;rw[h]
  rw[e];unfold bV;rw[YO];simp
 |some y=>
  by_cases c:x.2 < y.2
  ·have e:bV acc x=acc++[x]:=by unfold bV;rw[h];exact if_pos c
   rw[e];unfold bV;rw[YO];simp
  ·have e:bV acc x=acc:=by unfold bV;rw[h];exact if_neg c
   rw[e,e]
def uC{f:Int->Int}{t:Int}(b:List (Int × Int)):∀ (l:List Int),(∀x ∈ l,x=t)->(l.map λx=>(x,f x)).foldl bV b=if l=[] then b else bV b (t,f t)
 |[],_=>rfl
 |x::l,h=>by
  have I:=uC (f:=f) (bV b (t,f t)) l λy c=>h y (Zf _ c);rw[h x Zh,Zz,Y1,I];show _=bV b (t,f t);split
  ·rfl
  ·exact EG ..
def qE(t:Int):∀ {l:List Int},l.Pairwise (·<=·)->(l.filter λx=>decide (x < t+1))=(l.filter λx=>decide (x < t))++l.filter λx=>decide (x=t)
 |[],_=>rfl
 |a::l,h=>by
  rw[Yc] at h;have I:=qE t h.2;by_cases c:a < t
  ·rw[Yq (by simp;lia),Yq (by simpa using c),YG (by simp;lia),I];rfl
  ·have e:(l.filter λx=>decide (x < t))=[]:=by
    rw[Yg];intro x b;have:=h.1 x b;simp;lia
   rw[e] at I;rw[YG (l:=l) (p:=λx=>decide (x < t)) (by simpa using c),e];by_cases d:a=t
   ·rw[Yq (by simp;lia),Yq (by simpa using d),I];rfl
   ·rw[YG (by simp;lia),YG (by simpa using d),I]
def AK(b:List (Int × Int))(x:Int × Int):∃y,(dI b x).getLast?=aa y/\y.2=x.2:=by
 unfold dI;cases h:b.getLast? with
 |none=>exact⟨x,by simp,rfl⟩
 |some y=>
  dsimp only;split
  ·exact⟨y,h,by assumption⟩
  ·exact⟨x,by simp,rfl⟩
def J3(f:Int->Int){J:Int}{ms:List Int}(hs:ms.Pairwise (·<=·))(o:∀x ∈ ms,J<=x)(j:J ∈ ms):∀ (n:Nat),(∀i:Nat,i+1 < n->f (J+i+1)<=f (J+i)/\(J+i+1 ∉ ms->f (J+i+1)=f (J+i))) ->
  ((Ze n).map λ(i:Nat)=>(J+i,f (J+i))).foldl dI []=((ms.filter λx=>decide (x < J+n)).map λx=>(x,f x)).foldl bV []
 |0,_=>by
  have e:(ms.filter λx=>decide (x < J+((0:Nat):Int)))=[]:=by
   rw[Yg];intro x b;have:=o x b;simp;lia
  rw[e];rfl
 |n+1,h=>by
  have I:=J3 f hs o j n λi B=>h i (by lia);rw[Yj,Zr,YM,show J+((n+1:Nat):Int)=(J+n)+1 by lia,qE _ hs,Zr,YM,<-I,uC (t:=J+n) _ _ λx b=>by simpa using(ZM.mp b).2];show dI _ (J+n,f (J+n))=_;cases n with
  |zero=>
   rw[if_neg]
   ·rfl
   ·intro z;have:=Yg.mp z J j;simp at this
  |succ m=>
   obtain⟨C,q⟩:=h m (by lia);rw[show J+((m+1:Nat):Int)=J+m+1 by lia];rw[Yj,Zr,YM];obtain⟨y,g,u⟩:=AK (((Ze m).map λ(i:Nat)=>(J+i,f (J+i))).foldl dI []) (J+m,f (J+m));show dI (dI _ (J+m,f (J+m))) _=if _ then dI _ (J+m,f (J+m)) else bV (dI _ (J+m,f (J+m))) _
   generalize dI (((Ze m).map λ(i:Nat)=>(J+i,f (J+i))).foldl dI []) (J+m,f (J+m))=acc at g ⊢;have E:dI acc (J+m+1,f (J+m+1))=if y.2=f (J+m+1) then acc else acc++[(J+m+1,f (J+m+1))]:=by unfold dI;rw[g]
   have p:bV acc (J+m+1,f (J+m+1))=if f (J+m+1) < y.2 then acc++[(J+m+1,f (J+m+1))] else acc:=by unfold bV;rw[g]
   rw[E,p,u];split
   ·rename_i c;split
    ·rfl
    ·rw[if_neg (by show ¬ _ < (J+m,f (J+m)).2;rw[c];lia)]
   ·rename_i c;rw[if_neg,if_pos]
    ·show _ < f (J+m);have:¬ f (J+m)=f (J+m+1):=c
     lia
    ·intro z
     have v:J+m+1 ∉ ms:=λw=>by
      have:=Yg.mp z _ w;simp at this
     exact c (q v).symm
end Lw
namespace Lw
open PySem Ev Sn L2
variable {p:Nat} {S S':Sto} {k:Nat} {Q:D->Sto->Prop} {K:Sky}
def Sm.len(h:Sm S S'):S.length<=S'.length:=by
 cases c:S.length with
 |zero=>exact XC _
 |succ n=>
  have:=h n _ (gEG (by lia));exact(Zb.mp this).1
abbrev dJ(K:Sky)(A:List (Int × Int))(z:Int × Int):List Int:=(jn K z.1::A.map λq=>q.2 - K.s).filter λt=>ak K t z
def IR(V:Vd K){n j:Nat}(v:S[n]?=aa (.lst (L.map ae)))(u:L[j]?=aa z)(hL:InG K L)(hl:L.length<=20)(q:∀S' m,Sm S S'->S.length<=m->S'[m]?=aa (.lst ((dJ K (L.take j) z).map D.int))->Q (.ref m) S'):Ok (evC af (k+2) 40 [skE K,.ref n,.int j] S) Q:=by
 refine aA (d:=cb) (ρ:=[aa (skE K),aa (.ref n),aa (.int j),aD,aD]) rfl rfl ?_;dsimp only[cb,dD];have g:=hL z (Zi u);obtain⟨a,b,c,d,e,f,h,eg,_,T,_⟩:=gl7 V g.1 g.2;k_is;refine ac sk2 (ac (bU v (by lia) (iJ u)) ?_);refine ac (show ixS (ae z) (.int 0) S=aa (.int z.1,S) from rfl) ?_;refine ac (eA g.1 eg) (ac (show ixS (az [a,b,c,d,e,f,h]) (.int 1) S=aa (.int b,S) from rfl) ?_);k_is;refine ac (dh v) ?_;have Y:Sm S (S++[Ob.lst ((L.map ae).take j)]):=Sm.app _ _;have I:(S++[Ob.lst ((L.map ae).take j)])[Zc S]?=aa (Ob.lst ((L.take j).map ae)):=by rw[al,Yp]
 have B:∀S6,Sm S S6->Zc S<=Zc S6:=λ_ h=>Sm.len h;generalize Zc S=N1 at *;generalize S++[Ob.lst ((L.map ae).take j)]=S1 at *;have lt:(L.take j).length<=20:=by rw[Zs];lia
 refine⟨by rw[ao I];rfl,?_⟩;refine bh (L.take j) ae (λq=>[D.int (q.2 - K.s)]) (by lia) (λ_ _=>Zd _) (b5 I) (λi y S' hy sm=>⟨_,show aB (.tup [.name 5,.name 6]) (.tup [.int y.1,.int y.2]) _=_ from bH (by simp) (by simp),?_⟩) λo Z=>?_
 ·k_is;refine ac sk0 (ac me1 ?_);k_is;exact⟨rfl,Sm.refl _⟩
 ·rw[ba];have s3:Sm o (o++[Ob.lst ((L.take j).map λq=>D.int (q.2 - K.s))]):=Sm.app _ _;have a3:(o++[Ob.lst ((L.take j).map λq=>D.int (q.2 - K.s))])[Zc o]?=aa (Ob.lst ((L.take j).map λq=>D.int (q.2 - K.s))):=al;generalize Zc o=N3 at *;generalize o++[Ob.lst ((L.take j).map λq=>D.int (q.2 - K.s))]=S3 at *;k_is;have E:Sm S3 (S3++[Ob.lst [D.int b]]):=Sm.app _ _;refine ac (fR (xs:=[D.int b]) al (E _ _ a3) (by rw[Za,ZO];lia)) ?_
  have X:[D.int b]++((L.take j).map λq=>D.int (q.2 - K.s))=(jn K z.1::(L.take j).map λq=>q.2 - K.s).map D.int:=by
   rw[Zz,ZP,show jn K z.1=b from T];rfl
  rw[X];have U:Sm (S3++[Ob.lst [D.int b]]) (S3++[Ob.lst [D.int b]]++[Ob.lst ((jn K z.1::(L.take j).map λq=>q.2 - K.s).map D.int)]):=Sm.app _ _;have O:(S3++[Ob.lst [D.int b]]++[Ob.lst ((jn K z.1::(L.take j).map λq=>q.2 - K.s).map D.int)])[Zc (S3++[Ob.lst [D.int b]])]?=aa (Ob.lst ((jn K z.1::(L.take j).map λq=>q.2 - K.s).map D.int)):=al;have C:=(((Y.trans Z).trans s3).trans E).trans U;generalize Zc (S3++[Ob.lst [D.int b]])=N5 at *;generalize S3++[Ob.lst [D.int b]]++[Ob.lst ((jn K z.1::(L.take j).map λq=>q.2 - K.s).map D.int)]=S5 at *;refine⟨by rw[ao O];rfl,?_⟩;refine bh (jn K z.1::(L.take j).map λq=>q.2 - K.s) D.int (λt=>if ak K t z=aN then [D.int t] else []) (by rw[ZB,Za];lia) (λ_ _=>by split <;> simp) (b5 O) (λi t S' ht sm=>⟨_,rfl,?_⟩) λS6 J=>?_
  ·k_is;refine ac (bU (sm _ _ (C _ _ v)) (by lia) (iJ u)) ⟨rfl,gS V g.1 g.2 ?_⟩;k_is;cases ak K t z with
   |true=>k_is;exact⟨rfl,Sm.refl _⟩
   |false=>k_is;exact⟨rfl,Sm.refl _⟩
  ·rw[bD];k_is;exact q _ _ ((C.trans J).trans (Sm.app _ _)) (B _ (C.trans J)) al
abbrev stp(K:Sky)(L:List (Int × Int))(j:Nat):List (Int × Int):=match L[j]? with
 |none=>[]
 |some z=>((dJ K (L.take j) z).map λt=>(t,aS K (L.take j) z t)).foldl bV []
def uD(b:List (Int × Int))(x:Int × Int):(bV b x).length<=b.length+1:=by
 unfold bV;split
 ·simp
 ·split <;> simp
def O3(V:Vd K){n j:Nat}(hn:S[n]?=aa (.lst (L.map ae)))(J:L[j]?=aa z)(hL:InG K L)(hl:L.length<=20)(q:∀S' m,Sm S S'->S.length<=m->S'[m]?=aa (.lst ((stp K L j).map ae))->Q (.ref m) S'):Ok (evC af (k+4) 39 [skE K,.ref n,.int j] S) Q:=by
 refine aA (d:=fL) (ρ:=[aa (skE K),aa (.ref n),aa (.int j),aD,aD,aD]) rfl rfl ?_;dsimp only[fL,jD];k_is;have s1:Sm S (S++[Ob.lst []]):=Sm.app _ _;have a1:(S++[Ob.lst []])[Zc S]?=aa (Ob.lst []):=al;refine⟨rfl,IR (k:=k+1) V (s1 _ _ hn) J hL hl λS2 m s2 lm am=>?_⟩;have lS:(S++[Ob.lst []]).length=S.length+1:=by simp
 refine⟨by rw[ao am];rfl,?_⟩;have e0:stp K L j=((dJ K (L.take j) z).map λt=>(t,aS K (L.take j) z t)).foldl bV []:=by unfold stp;rw[J]
 have l0:(dJ K (L.take j) z).length<=21:=by
  unfold dJ;refine ZC (ZW _ _) ?_;rw[ZB,Za,Zs];lia
 generalize dJ K (L.take j) z=ms at *;refine iI (ds:=ms.map D.int) (by rw[Za];lia) (λi I S'=>Sm S S'/\S'[m]?=aa (.lst (ms.map D.int))/\(∃b:List (Int × Int),b=((ms.take i).map λt=>(t,aS K (L.take j) z t)).foldl bV []/\b.length<=i/\S'[S.length]?=aa (.lst (b.map ae)))/\∃u v,I=[aa (skE K),aa (.ref n),aa (.int j),aa (.ref S.length),u,v]) (λi I S' h=>h.2.1) (λi d I S' hd O=>?_) (λI S' O=>?_) ⟨s1.trans s2,am,⟨[],rfl,Zd _,s2 _ _ a1⟩,_,_,rfl⟩
 ·obtain⟨sm,B,⟨b,E,la,T⟩,u,v,rfl⟩:=O;obtain⟨t,ht,rfl⟩:=dH hd;refine⟨_,rfl,?_⟩
  have e1:((ms.take (i+1)).map λt=>(t,aS K (L.take j) z t)).foldl bV []=bV b (t,aS K (L.take j) z t):=by
   rw[YQ,ht,Zr,YM,<-E];rfl
  have l1:=uD b (t,aS K (L.take j) z t);rw[e1];k_is;refine⟨rfl,rX (k:=k) V t (sm _ _ hn) J hL (by lia) λo C=>?_⟩;k_is;have g:=C _ _ T;have tr:jZ (.ref S.length) o=aa (!(b.map ae).isEmpty,o):=by simp only[jZ,ao g]
  have nm:m ≠ S.length:=by lia
  have hi:=(Zb.mp ht).1;refine ac tr ?_
  have add:bV b (t,aS K (L.take j) z t)=b++[(t,aS K (L.take j) z t)]->Sm S (o.set S.length (.lst ((b.map ae)++[.tup [.int t,.int (aS K (L.take j) z t)]])))/\(o.set S.length (.lst ((b.map ae)++[.tup [.int t,.int (aS K (L.take j) z t)]])))[m]?=aa (.lst (ms.map D.int))/\(∃f:List (Int × Int),f=bV b (t,aS K (L.take j) z t)/\f.length<=i+1/\(o.set S.length (.lst ((b.map ae)++[.tup [.int t,.int (aS K (L.take j) z t)]])))[S.length]?=aa (.lst (f.map ae))):=λe=>
   ⟨Sm.setNew (sm.trans C) (Zd _),by rw[ZH (Ne.symm nm)];exact C _ _ B,_,rfl,by lia,by rw[ZD (Zb.mp g).1,e,Zr];rfl⟩
  rcases YX b with c |⟨f,y,c⟩
  ·rw[show(!!(b.map ae).isEmpty)=aN by rw[c];rfl];k_is;refine⟨bB g,?_⟩;rw[eT g (by rw[Za];lia)];k_is;obtain⟨X,Y,U⟩:=add (by rw[c];rfl);exact⟨X,Y,U,_,_,rfl⟩
  ·rw[YY] at c;rw[show(!!(b.map ae).isEmpty)=aT by rw[c];simp];k_is;refine ac (mi (ds:=f.map ae) (e:=ae y) (by rw[g,c,Zr];rfl)) ?_;refine ac (show ixS (ae y) (.int 1) o=aa (.int y.2,o) from rfl) ?_;k_is;have ey:b.getLast?=aa y:=by rw[c];simp
   cases Z:decide (aS K (L.take j) z t < y.2) with
   |true=>
    k_is;refine⟨bB g,?_⟩;rw[eT g (by rw[Za];lia)];k_is;obtain⟨X,Y,U⟩:=add (by unfold bV;rw[ey];exact if_pos (of_decide_eq_true Z));exact⟨X,Y,U,_,_,rfl⟩
   |false=>
    k_is;exact⟨sm.trans C,C _ _ B,⟨_,rfl,by lia,by rw[show bV b (t,aS K (L.take j) z t)=b by unfold bV;rw[ey];exact if_neg (of_decide_eq_false Z)];exact g⟩,_,_,rfl⟩
 ·obtain⟨sm,B,⟨b,E,la,T⟩,u,v,rfl⟩:=O;rw[Za,Z7,<-e0] at E;subst E;k_is;exact q S' _ sm (Zd _) T
end Lw
namespace Lw
open PySem Ev Sn L2
variable {p:Nat} {S S':Sto} {k:Nat} {Q:D->Sto->Prop} {K:Sky} {L:List (Int × Int)}
def dq{j:Nat}(h:b8 K A j z=aD):z.1 ∉ A.map (·.1)/\wK K (fo K A) (gi K.G z.1 0)<=z.2:=by
 have bn:∀ {c:Bool} {a:Str} {o:Option Str},(bif c then aa a else o)=aD->c=aT/\o=aD:=λ{c} {a} {o} e=>by
  cases c with
  |true=>cases e
  |false=>exact⟨rfl,e⟩
 have i:=mr h;unfold b8 at h;rw[decide_eq_true i.1,decide_eq_true i.2] at h;obtain⟨b,h⟩:=bn (show(bif decide (z.1 ∈ A.map (·.1)) then aa ("twice" : Str) else _)=aD from h);obtain⟨_,h⟩:=bn h;unfold wU at h;have g:=(bn (bn (bn (bn h).2).2).2).1;exact⟨of_decide_eq_false b,by have:=of_decide_eq_false g;lia⟩
def EH(b:SkOk K)(h:amF K L = .non):∀ (j:Nat) z,L[j]?=aa z->∀ (i:Nat) q,i < j->L[i]?=aa q->q.2<=z.2
 |0,_,_,_,_,hi,_=>absurd hi (Yb _)
 |j+1,z,hz,i,q,hi,hq=>by
  have n:j < L.length:=by have:=(Zb.mp hz).1;lia
  have c:L[j]?=aa L[j]:=gEG n;have g:=(dq (uB h hz)).2;rw[YQ,c] at g;rw[show(aa L[j]).toList=[L[j]] from rfl,fS] at g;have y:=f9 h _ (Zi c);have Z:=f9 h _ (Zi hz);have u:=jJ (L:=[L[j]]) b.vd (λw f=>by rw[ZK.mp f];exact⟨y.1,y.2.1⟩) _ (by rw[<-Y2 [L[j]]];exact fS);have o:=jJ (L:=[z]) b.vd (λw f=>by rw[ZK.mp f];exact⟨Z.1,Z.2.1⟩) _ (by rw[<-Y2 [z]];exact fS);obtain⟨_,_,_,_,m1,_⟩:=b.me.mat.at (i:=(gi K.G L[j].1 0).toNat) (j:=(gi K.G z.1 0).toNat) (by lia) (by lia);have g:L[j].2+Dw.mg2 K.M (gi K.G L[j].1 0).toNat (gi K.G z.1 0).toNat<=z.2:=g;by_cases e:i=j
  ·subst e;rw[c] at hq;cases hq
   lia
  ·have:=EH b h j _ c i q (by lia) hq
   lia
def J4(c:amF K L = .non){j:Nat}:∀q ∈ L.take j,jn K q.1 ∈ js K:=λq b=>by
 have h:=f9 c q (ZX b);exact rY h.1 h.2.1
def IS(v:SkOk K)(g:amF K L = .non){j:Nat}(u:L[j]?=aa z):stp K L j=((Ze (z.2 - K.s - jn K z.1).toNat).map λ(i:Nat)=>(jn K z.1+i,aS K (L.take j) z (jn K z.1+i))).foldl dI []:=by
 have f:=J4 (j:=j) g;unfold stp;rw[u];dsimp only;by_cases c:jn K z.1 < z.2 - K.s
 ·have w:ak K (jn K z.1) z=aN:=by simp only[ak,bAE,decide_eq_true_eq];lia
  have E:dJ K (L.take j) z=jn K z.1::(((L.take j).map λq=>q.2 - K.s).filter λt=>ak K t z):=by unfold dJ;rw[Yq (p:=λt=>ak K t z) w]
  have ge:∀x ∈ dJ K (L.take j) z,jn K z.1<=x/\x < z.2 - K.s:=λx h=>by
   have:=(ZM.mp h).2
   simpa only[ak,bAE,decide_eq_true_eq] using this
  have hs:(dJ K (L.take j) z).Pairwise (·<=·):=by
   rw[E,Yc];refine⟨λx h=>(ge x (by rw[E];exact Zf _ h)).1,List.Pairwise.filter _ ?_⟩;rw[Xi,Xc];intro a b O I o;have n:L[a]?=aa (L.take j)[a]:=by rw[X8];exact gEG _
   have B:L[b]?=aa (L.take j)[b]:=by rw[X8];exact gEG _
   have:=EH v g b _ B a _ o n
   lia
  rw[J3 (aS K (L.take j) z) hs (λx h=>(ge x h).1) (by rw[E];exact Zh) _ λi J=>⟨IQ f (by lia) (by lia),λC=>IP f (by lia) (by lia) λq y e=>C ?_⟩]
  ·rw[List.filter_eq_self.mpr λx h=>by have:=ge x h;simp;lia]
  ·unfold dJ;refine ZM.mpr ⟨Zf _ (Zw.mpr ⟨q,y,e⟩),by simp only[ak,bAE,decide_eq_true_eq];lia⟩
 ·have E:dJ K (L.take j) z=[]:=by
   unfold dJ;rw[Yg];intro x _;simp only[ak,bAE,decide_eq_true_eq]
   lia
  rw[E,show(z.2 - K.s - jn K z.1).toNat=0 by lia];rfl
abbrev stG(K:Sky)(L:List (Int × Int))(g:Int):List (Int × Int):=stp K L (L.findIdx λz=>decide (z.1=g))
def su(b:amF K L = .non){j:Nat}(h:L[j]?=aa z):(L.findIdx λy=>decide (y.1=z.1))=j:=by
 obtain⟨f,e⟩:=Zb.mp h;refine(List.findIdx_eq f).mpr ⟨by rw[e];simp,λi g=>?_⟩;refine decide_eq_false λc=>(dq (uB b h)).1 ?_;rw[<-c];exact Zw.mpr ⟨_,YS.mpr ⟨i,by lia,rfl⟩,rfl⟩
def wZ(c:amF K L = .non){g:Nat}(o:g < K.G.length):∃ (j:Nat) (z:Int × Int),L[j]?=aa z/\z.1=g:=by
 have h:(Ze K.G.length).find? (λ(g:Nat)=>!decide ((g:Int) ∈ L.map (·.1)))=aD:=by
  unfold amF at c;split at c
  ·rename_i d hd;subst c;obtain⟨j,_,b⟩:=YA hd;unfold jK at b;cases f:L[j]? with
   |none=>rw[f] at b;cases b
   |some z=>
    rw[f,YF] at b;cases n:b8 K (L.take j) j z with
    |none=>rw[n] at b;cases b
    |some w=>rw[n] at b;cases b
  ·split at c
   ·cases c
   ·assumption
 have:=Xa.mp h g (ZU.mpr o);obtain⟨z,f,e⟩:=Zw.mp (by simpa using this:(g:Int) ∈ L.map (·.1));obtain⟨j,b⟩:=Ye f;exact⟨j,z,b,e⟩
abbrev Rws(S S':Sto)(n:Nat)(f:Nat->List (Int × Int))(b:List D):Prop:=b.length=n/\∀g,g < n->∃r,b[g]?=aa (.ref r)/\S.length<=r/\S'[r]?=aa (.lst ((f g).map ae))
def EI{n r:Nat}(h:Rws b S n f y)(s:Sm S S')(v:b.length<=r)(a:S'[r]?=aa (.lst ((f n).map ae))):Rws b S' (n+1) f (y++[.ref r]):=by
 obtain⟨j,h⟩:=h;refine⟨by simp[j],λg B=>?_⟩;by_cases c:g < n
 ·obtain⟨u,z,q,o⟩:=h g c;exact⟨u,by rw[Zv (by lia)];exact z,q,s _ _ o⟩
 ·cases (show g=n by lia);exact⟨r,by rw[Zp (by lia),j,Yv];rfl,v,a⟩
def O4{n:Nat}{i:Int}(h:S[n]?=aa (.dic ks c))(b:jY ks c (kI i)=aa d):ixS (.ref n) (.int i) S=aa (d,S):=by
 have e:av (.ref n) S=aD:=by simp only[av,aP,h,Option.map_none]
 simp only[ixS,e,ixD,h];rw[b];rfl
def IT{b:Nat}{g v:XE}{c:Rho}{Q:Fl->Rho->Sto->Prop}{i:Int}{ks:List Key}{f:List D}{dv:D}(u:g c S=aa (.int i,S))(j:v c S=aa (dv,S))(h:S[b]?=aa (.dic ks f))(h4:∀x ∈ ks,x ≠ kI i)(o:ks.length < 1000)(q:Q .nx c (S.set b (.dic (ks++[kI i]) (f++[dv])))):OkS (vT b g v c S) Q:=by
 refine⟨.nx,c,_,?_,q⟩
 have e:zN b (.int i) dv S=aa (S.set b (.dic (ks++[kI i]) (f++[dv]))):=by
  unfold zN;simp only[h];rw[if_pos ⟨ZL.mpr λx n=>decide_eq_true (h4 x n),o⟩]
 unfold vT;rw[u];dsimp only;rw[j];dsimp only;rw[e];rfl
def yO:∀ {ks:List Key} {c:List D} {j:Nat} {k:Key} {d:D},ks[j]?=aa k->c[j]?=aa d->(∀i x,i < j->ks[i]?=aa x->x ≠ k)->jY ks c k=aa d
 |[],_,_,_,_,h,_,_=>by simp at h
 |_::_,[],_,_,_,_,h,_=>by simp at h
 |a::ks,b::c,0,k,d,h1,h2,_=>by
  simp at h1 h2;rw[jY,if_pos h1,h2]
 |a::ks,b::c,j+1,k,d,h1,h2,h3=>by
  rw[jY,if_neg (h3 0 a (by lia) rfl)];exact yO (by simpa using h1) (by simpa using h2) λi x g f=>h3 (i+1) x (by lia) (by simpa using f)
def EJ{Q:RR->Sto->Prop}(sk:SkOk K)(h:TD p S t d)(hl:∀ts,t = .lst ts->ts.length<=1000)(q1:(∀L:List (Int × Int),t = .lst (L.map Dw.aY)->L.length<=20->amF K L ≠ .non)->∀S',Sm S S'->Q (.exc 2) S')
  (q2:∀ (L:List (Int × Int)) (n:Nat),t = .lst (L.map Dw.aY)->amF K L = .non->∀S' N ds,Sm S S'->S.length<=N->S'[N]?=aa (.lst ds)->Rws S S' K.G.length (λg=>stG K L g) ds->Q (.val (.ref N)) S'):OkX (evX af (k+11) 36 [skE K,d] S) Q:=by
 refine D8 (d:=De) (rs:=wn) (ρ:=[aa (skE K),aa d,aD]) rfl rfl rfl ?_;unfold wn;refine Eb (ds:=[skE K,d]) (S1:=S) rfl rfl (yL (k:=k) sk h hl (λhn o J=>q1 hn o J) λL n e l20 C ed hn o J=>?_);subst ed;have q:=J _ _ hn;refine Ea ?_;k_is;refine⟨by rw[ao q];rfl,?_⟩;have a1:(o++[Ob.dic [] []])[Zc o]?=aa (.dic [] []):=al;have s2:Sm o (o++[Ob.dic [] []]):=Sm.app _ _;have lS:=Sm.len J;refine sg (ds:=L.map ae) (by rw[Za];lia) (λi X S'=>Sm o S'/\S'[o.length]?=aa (.dic ((L.take i).map λz=>kI z.1) ((Ze i).map λ(j:Nat)=>.int j))/\∃u v,X=[aa (skE K),aa (.ref n),aD,u,v]) (λi X S' h=>h.1 _ _ q) (λi d X S' hd f=>?_) (λX S2 f=>?_) ⟨s2,a1,_,_,rfl⟩
 ·obtain⟨sm,O,u,v,rfl⟩:=f;obtain⟨z,b,rfl⟩:=dH hd;refine⟨_,bH (by simp) (by simp),?_⟩;have hi:=(Zb.mp b).1;refine IT (i:=z.1) (dv:=.int i) rfl rfl O (λx B=>?_) (by rw[Za,Zs];lia) ⟨?_,?_,_,_,rfl⟩
  ·obtain⟨y,T,rfl⟩:=Zw.mp B;intro c;have c:y.1=z.1:=by injection c
   exact(dq (uB C b)).1 (c ▸ Zw.mpr ⟨y,T,rfl⟩)
  ·exact Sm.setNew sm (Zd _)
  ·rw[ZD (Zb.mp O).1,YQ,b,Yj,Zr,Zr];rfl
 ·obtain⟨sm,O,u,v,rfl⟩:=f;rw[Za,Z7] at O;refine⟨rfl,?_⟩;k_is;refine Ea ?_;k_is;refine ac sk2 ?_;refine ac (show aw b7 (.tup (K.G.map az)) S2=aa (.int (K.G.length:Int),S2) by simp only[aw,av,b7,Za]) ?_;have hG:=sk.g7;refine⟨eU (by lia) (by lia),?_⟩;rw[Zo];refine oH (by lia) (λi I S'=>Sm S2 S'/\Rws S S' i (λg=>stG K L g) I) (λi I S' hi f=>?_) (λes S' f=>?_) ⟨Sm.refl _,rfl,λg Z=>absurd Z (Yb _)⟩
  ·obtain⟨U,E,hr⟩:=f;refine⟨_,rfl,?_⟩;obtain⟨j,z,b,ez⟩:=wZ C hi;have hj:=(Zb.mp b).1
   have hv:jY (L.map λz=>kI z.1) ((Ze L.length).map λ(j:Nat)=>D.int j) (kI (0+(i:Int)))=aa (.int j):=by
    refine yO (j:=j) (by rw[Zj,b,YK,<-ez];rfl) (by rw[Zj,Z1 hj];rfl) λm x hm B=>?_;rw[Zj] at B;cases T:L[m]? with
    |none=>rw[T] at B;cases B
    |some y=>
     rw[T] at B;cases B;intro c;have c:y.1=0+(i:Int):=by injection c
     refine(dq (uB C b)).1 (Zw.mpr ⟨y,?_,by lia⟩);obtain⟨h1,Y⟩:=Zb.mp T;exact YS.mpr ⟨m,by lia,Y⟩
   k_is;refine ac (O4 (U _ _ O) hv) ⟨rfl,O3 (k:=k+6) sk.vd (U _ _ (sm _ _ q)) b (λz b=>let x:=f9 C z b;⟨x.1,x.2.1⟩) l20 λS4 m s4 lm am=>?_⟩;k_is;refine⟨U.trans s4,EI ⟨E,hr⟩ s4 (by have:=Sm.len sm;have:=Sm.len U;lia) ?_⟩;show _=aa (Ob.lst ((stG K L (i:Int)).map ae));rw[<-ez,stG,su C b];exact am
  ·refine⟨by rw[f.2.1];lia,q2 L n e C _ _ es ((J.trans (sm.trans f.1)).trans (Sm.app _ _)) (by have:=Sm.len sm;have:=Sm.len f.1;lia) al ⟨f.2.1,λg Z=>?_⟩⟩;obtain⟨r,h1,Y,h3⟩:=f.2.2 g Z;exact⟨r,h1,Y,Sm.app _ _ _ _ h3⟩
abbrev plc(K:Sky)(L:List (Int × Int))(t:Int)(n:Nat):List Nat:=(Ze n).filter λj=>(L[j]?).any (ak K t)
def O5{t:Int}{n j:Nat}(h:j ∈ plc K L t n):∃z,L[j]?=aa z:=by
 have h:=(ZM.mp h).2;cases b:L[j]? with
 |none=>rw[b] at h;cases h
 |some z=>exact⟨z,rfl⟩
def IU{t:Int}:((plc K L t L.length).map λj=>(L.getD j (0,0)).1)=(L.filter (ak K t)).map (·.1):=by
 have e:=oQ (0,0) L
 have E:L.filter (ak K t)=(plc K L t L.length).map λj=>L.getD j (0,0):=by
  conv=>lhs;rw[<-e,List.filter_map]
  congr 1
  unfold plc;refine List.filter_congr λj h=>?_;have h:=ZU.mp h;rw[gEG h];show ak K t (L.getD j (0,0))=_;rw[Z2,gEG h];rfl
 rw[E,ZP];rfl
def EK(B:Vd K){n:Nat}{t:Int}(u:S[n]?=aa (.lst (L.map ae)))(J:InG K L)(U:L.length<=20)(q:∀S' m (l:List (Int × Int)),Sm S S'->S'[m]?=aa (.lst (l.map ae))->l.map (·.1)=(L.filter (ak K t)).map (·.1)->Q (.ref m) S'):Ok (evC af (k+4) 38 [skE K,.ref n,.int t] S) Q:=by
 refine aA (d:=i5) (ρ:=[aa (skE K),aa (.ref n),aa (.int t),aD]) rfl rfl ?_;dsimp only[i5,ou];k_is;refine⟨by rw[ao u];rfl,?_⟩;refine cY L.length (λi=>.tup [.int i,((L.map ae)[i]?).getD .non]) (λi b S'=>S'=S/\b=(plc K L t i).map λ(j:Nat)=>D.int j) (λi b S' o ⟨e,_⟩=>by subst e;rw[<-Za (f:=ae)];exact rO u (by rw[Za];exact o) (λi=>.tup [.int i,((L.map ae)[i]?).getD .non]) λi d h=>by rw[h];rfl) (by lia) (λi b S' o ⟨e,E⟩=>?_) (λZ S' ⟨e,E⟩=>?_) ⟨rfl,rfl⟩
 ·subst e;have c:L[i]?=aa L[i]:=gEG o;have y:=J _ (Zi c);rw[show((L.map ae)[i]?).getD .non=ae L[i] by rw[Zj,c];rfl];refine⟨_,bH (by simp) (by simp),?_⟩
  have O:plc K L t (i+1)=plc K L t i++if ak K t L[i]=aN then [i] else []:=by
   unfold plc;rw[Yj,List.filter_append]
   congr 1
   rw[YR,c];rfl
  rw[O,E];k_is;refine⟨rfl,gS B y.1 y.2 ?_⟩;k_is;cases ak K t L[i] with
  |true=>k_is;exact⟨rfl,by simp⟩
  |false=>k_is;exact⟨rfl,by simp⟩
 ·subst e E;have lp:(plc K L t L.length).length<=20:=by unfold plc;exact ZC (ZW _ _) (by rw[Zx];exact U)
  refine⟨by rw[Za];lia,?_⟩;k_is;have I:(S'++[Ob.lst ((plc K L t L.length).map λ(j:Nat)=>D.int j)])[Zc S']?=aa (.lst ((plc K L t L.length).map λ(j:Nat)=>D.int j)):=al;have C:Sm S' (S'++[Ob.lst ((plc K L t L.length).map λ(j:Nat)=>D.int j)]):=Sm.app _ _;generalize Zc S'=N1 at *;generalize S'++[Ob.lst ((plc K L t L.length).map λ(j:Nat)=>D.int j)]=S1 at *;refine⟨by rw[ao I];rfl,?_⟩;refine bh (plc K L t L.length) (λ(j:Nat)=>D.int j) (λj=>[ae ((L.getD j (0,0)).1,aS K (L.take j) (L.getD j (0,0)) t)]) (by lia) (λ_ _=>Zd _) (b5 I) (λi j v Y sm=>⟨_,rfl,?_⟩) λv T=>?_
  ·obtain⟨z,c⟩:=O5 (Zi Y);rw[show L.getD j (0,0)=z by rw[Z2,c];rfl];have g:=sm _ _ (C _ _ u);k_is;refine ac (bU g (by lia) (iJ c)) (ac (show ixS (ae z) (.int 0) v=aa (.int z.1,v) from rfl) ⟨rfl,rX (k:=k) B t g c J (by lia) λS3 X=>?_⟩);k_is;exact⟨rfl,X⟩
  ·rw[ba];k_is;refine q _ _ ((plc K L t L.length).map λj=>((L.getD j (0,0)).1,aS K (L.take j) (L.getD j (0,0)) t)) ((C.trans T).trans (Sm.app _ _)) (by rw[al,ZP];rfl) ?_;rw[ZP];exact IU
def qF{Q:RR->Sto->Prop}{m:Int}(o:SkOk K)(h:TD p S t d)(C:∀T,t = .lst T->T.length<=1000)(J:(∀L:List (Int × Int),t = .lst (L.map Dw.aY)->L.length<=20->amF K L ≠ .non)->∀S',Sm S S'->Q (.exc 2) S')
  (I:∀ (L:List (Int × Int)),t = .lst (L.map Dw.aY)->amF K L = .non->∀S' N,Sm S S'->S.length<=N->S'[N]?=aa (.lst (((L.filter (ak K m)).map (·.1)).map D.int))->Q (.val (.ref N)) S'):OkX (evX af (k+11) 37 [skE K,d,.int m] S) Q:=by
 refine D8 (d:=qt) (rs:=ki) (ρ:=[aa (skE K),aa d,aa (.int m)]) rfl rfl rfl ?_;unfold ki;refine Eb (ds:=[skE K,d]) (S1:=S) rfl rfl (yL (k:=k) o h C (λf j c=>J f j c) λL n e b v O f j c=>?_);subst O;refine Ea ?_;k_is;refine⟨rfl,EK (k:=k+6) o.vd (c _ _ f) (λz B=>let x:=f9 v z B;⟨x.1,x.2.1⟩) b λY N l q g E=>?_⟩;k_is;refine⟨by rw[ao g];rfl,?_⟩
 have X:l.length<=20:=by
  have:=congrArg Zc E;rw[Za,Za] at this;rw[this];exact ZC (ZW _ _) b
 refine bh l ae (λz=>[.int z.1]) (by lia) (λ_ _=>Zd _) (b5 g) (λi y S' Z sm=>⟨_,show aB (.tup [.name 3,.name 4]) (.tup [.int y.1,.int y.2]) _=_ from bH (by simp) (by simp),?_⟩) λU u=>?_
 ·k_is;exact⟨rfl,Sm.refl _⟩
 ·rw[ba];k_is;refine I L e v _ _ ((c.trans (q.trans u)).trans (Sm.app _ _)) (Sm.len (c.trans (q.trans u))) ?_;rw[al,<-E,ZP];rfl
def yP(o:SkOk K)(h:TD p S t d)(j:∀T,t = .lst T->T.length<=1000)(u:∀L:List (Int × Int),t = .lst (L.map Dw.aY)->amF K L ≠ .non)(c:Bool)(q:∀S',Sm S S'->Q (.str "landings") S'):Ok (evC af (k+12) 64 [skE K,d,if c then .non else .int 3] S) Q:=by
 refine wM (D8 (d:=oE) (rs:=iU) (ρ:=[aa (skE K),aa d,aa (if c then .non else .int 3),aD]) rfl rfl rfl ?_);unfold iU;cases c with
 |true=>exact JX (bb:=true) (ds:=[skE K,d]) (S0:=S) (S1:=S) rfl rfl rfl (EJ (k:=k) o h j (λ_ f b=>⟨_,rfl,q f b⟩) λL n e g f N B b v y z=>absurd g (u L e))
 |false=>exact JX (bb:=false) (ds:=[skE K,d,.int 3]) (S0:=S) (S1:=S) rfl rfl rfl (qF (k:=k) o h j (λ_ f b=>⟨_,rfl,q f b⟩) λL e g f N b v y=>absurd g (u L e))
def yQ{n:Nat}(h:S[n]?=aa (.lst b)):vU (.ref n) S=aa (.ref S.length,S++[.lst b.reverse]):=by simp only[vU,ao h]
def qG{b:Type}(f:Nat->b)(n:Nat):((Ze n).map f).reverse=(Ze n).map λi=>f (n - 1 - i):=by
 apply Wg
 ·simp
 ·intro i c h;simp
def EL(sk:SkOk K){n:Nat}(hn:S[n]?=aa (.lst (L.map ae)))(hl:L.length<=20)(ha:amF K L = .non)
  (q:∀S' N ds,Sm S S'->S.length<=N->S'[N]?=aa (.lst ds)->Rws S S' K.G.length (λg=>stG K L g) ds->Q (.ref N) S'):Ok (evC af (k+2) 63 [skE K,.ref n] S) Q:=by
 refine aA (d:=eS) (ρ:=[aa (skE K),aa (.ref n),aD,aD,aD,aD,aD,aD]) rfl rfl ?_;dsimp only[eS,iG];have hG:=sk.g7;k_is;refine ac sk2 ?_;refine cY K.G.length (λi=>((K.G.map az)[i]?).getD .non) (λi B S'=>S'=S++Zq i (.lst [])/\B=(Ze i).map λg=>D.ref (S.length+g)) (λi B S' hi _=>?_) (by lia) (λi B S' hi ⟨e,ea⟩=>⟨_,rfl,?_⟩) (λes S1 ⟨e,ea⟩=>?_) ⟨by simp,rfl⟩
 ·show aa (K.G.map az)[i]?=_;split
  ·rename_i c;rw[Zj,gEG c];rfl
  ·rw[ZE (by rw[Za];lia)]
 ·subst e ea;k_is;exact⟨by rw[Z8,<-List.replicate_succ'],by rw[Yj,Zr,Zn,Yk];rfl⟩
 ·subst ea;refine⟨by rw[Za,Zx];lia,?_⟩;k_is;have s1:Sm S (S1++[Ob.lst ((Ze K.G.length).map λg=>D.ref (S.length+g))]):=by rw[e];exact(Sm.app _ _).trans (Sm.app _ _)
  have aF:(S1++[Ob.lst ((Ze K.G.length).map λg=>D.ref (S.length+g))])[Zc S1]?=aa (.lst ((Ze K.G.length).map λg=>D.ref (S.length+g))):=al
  have a0:∀g,g < K.G.length->(S1++[Ob.lst ((Ze K.G.length).map λg=>D.ref (S.length+g))])[S.length+g]?=aa (.lst []):=λg hg=>by
   rw[e,Z8,Zp (by lia),Zv (by rw[Yk];lia),Yd,if_pos (by lia)]
  have lF:Zc S1=S.length+K.G.length:=by rw[e,Zn,Yk]
  clear e;generalize Zc S1=F at *;generalize S1++[Ob.lst ((Ze K.G.length).map λg=>D.ref (S.length+g))]=S2 at *;refine⟨by rw[ao (s1 _ _ hn)];rfl,?_⟩;refine sg (ds:=L.map ae) (by rw[Za];lia) (λi T S'=>Sm S S'/\S'[F]?=aa (.lst ((Ze K.G.length).map λg=>D.ref (S.length+g)))/\(∀g,g < K.G.length->S'[S.length+g]?=aa (.lst ((if (g:Int) ∈ (L.take i).map (·.1) then stG K L g else []).map ae)))/\∃u v w x y,T=[aa (skE K),aa (.ref n),aa (.ref F),u,v,w,x,y]) (λi T S' h=>h.1 _ _ hn) (λi d T S' hd U=>?_) (λT S' U=>?_) ⟨s1,aF,λg hg=>by rw[if_neg (by simp)];exact a0 g hg,_,_,_,_,_,rfl⟩
  ·obtain⟨sm,aF,ag,u,v,w,x,y,rfl⟩:=U;obtain⟨z,hz,rfl⟩:=dH hd;refine⟨_,bH (by simp) (by simp),?_⟩;have O:=f9 ha z (Zi hz);obtain⟨a,b,c,d,e,f,h,eg,_,e1,e2,_⟩:=gl7 sk.vd O.1 O.2.1;k_is;have s3:Sm S' (S'++[Ob.lst []]):=Sm.app _ _;have a3:(S'++[Ob.lst []])[Zc S']?=aa (.lst []):=al;refine ac sk2 (ac (show ixS (ae z) (.int 0) _=aa (.int z.1,_) from rfl) (ac (eA O.1 eg) (ac (show ixS (az [a,b,c,d,e,f,h]) (.int 1) _=aa (.int b,_) from rfl) ?_)));refine ac (show ixS (ae z) (.int 1) _=aa (.int z.2,_) from rfl) (ac sk0 (ac me1 ?_));have gb:=sk.gb _ (Zi eg);obtain⟨kd,jo,fi,la,du,we,ri,er,_,_,g1,g2,_,g3,_⟩:=gb;cases er;have g4:=(yI sk O.1 O.2.1).2.2.1;have g5:=O.2.2;have s0:=sk.me.s0;have s60:=sk.me.s60;rw[e2] at g5;k_is;refine⟨b,z.2 - K.s,rfl,rfl,by lia,by lia,by lia,by lia,?_⟩;have a4:(S'++[Ob.lst []]++[Ob.lst (rgD b (z.2 - K.s))])[Zc (S'++[Ob.lst []])]?=aa (.lst (rgD b (z.2 - K.s))):=al;refine ac (yQ a4) ?_;generalize hN:(z.2 - K.s - b).toNat=N at *
   have er:(rgD b (z.2 - K.s)).reverse=(Ze N).map λ(x:Nat)=>D.int (z.2 - K.s - 1 - x):=by
    unfold rgD;rw[hN,qG];refine YC λx hx=>?_;have:=ZU.mp hx
    congr 1
    lia
   rw[er];have s5:Sm S' (S'++[Ob.lst []]++[Ob.lst (rgD b (z.2 - K.s))]++[Ob.lst ((Ze N).map λ(x:Nat)=>D.int (z.2 - K.s - 1 - x))]):=(s3.trans (Sm.app _ _)).trans (Sm.app _ _);have a5:(S'++[Ob.lst []]++[Ob.lst (rgD b (z.2 - K.s))]++[Ob.lst ((Ze N).map λ(x:Nat)=>D.int (z.2 - K.s - 1 - x))])[Zc (S'++[Ob.lst []]++[Ob.lst (rgD b (z.2 - K.s))])]?=aa (.lst ((Ze N).map λ(x:Nat)=>D.int (z.2 - K.s - 1 - x))):=al;have a6:(S'++[Ob.lst []]++[Ob.lst (rgD b (z.2 - K.s))]++[Ob.lst ((Ze N).map λ(x:Nat)=>D.int (z.2 - K.s - 1 - x))])[Zc S']?=aa (.lst []):=Sm.app _ _ _ _ (Sm.app _ _ _ _ a3);have lm:Zc S' < Zc (S'++[Ob.lst []]++[Ob.lst (rgD b (z.2 - K.s))]):=by simp
   clear a4 a3 s3;generalize Zc (S'++[Ob.lst []]++[Ob.lst (rgD b (z.2 - K.s))])=m at *;generalize S'++[Ob.lst []]++[Ob.lst (rgD b (z.2 - K.s))]++[Ob.lst ((Ze N).map λ(x:Nat)=>D.int (z.2 - K.s - 1 - x))]=S5 at *;refine⟨by rw[ao a5];rfl,?_⟩;have hA:=J4 (j:=i) ha;have hj:jn K z.1=b:=e1;have hAG:InG K (L.take i):=λy hy=>let x:=f9 ha y (ZX hy);⟨x.1,x.2.1⟩;refine iI (ds:=(Ze N).map λ(x:Nat)=>D.int (z.2 - K.s - 1 - x)) (by rw[Za,Zx];lia) (λx T E=>Sm S' E/\E[m]?=aa (.lst ((Ze N).map λ(x:Nat)=>D.int (z.2 - K.s - 1 - x)))/\E[Zc S']?=aa (.lst ((Ze x).map λ(x:Nat)=>ae (z.2 - K.s - 1 - x,aS K (L.take i) z (z.2 - K.s - 1 - x))))/\∃u,T=[aa (skE K),aa (.ref n),aa (.ref F),aa (.int i),aa (ae z),aa (.ref (Zc S')),aa (.int (if x=0 then 0 else aS K (L.take i) z (z.2 - K.s - x))),u]) (λx T E h=>h.2.1) (λx d T E hd U=>?_) (λT E U=>?_) ⟨s5,a5,a6,_,rfl⟩
   ·obtain⟨s6,am,ar,u,rfl⟩:=U;have hx:x < N:=by have:=(Zb.mp hd).1;rw[Za,Zx] at this;exact this
    rw[Zj,Z1 hx] at hd;cases hd;refine⟨_,rfl,?_⟩;k_is;refine ac (dh (s6 _ _ (sm _ _ hn))) ?_;have Z:Sm E (E++[Ob.lst ((L.map ae).take i)]):=Sm.app _ _;have a7:(E++[Ob.lst ((L.map ae).take i)])[Zc E]?=aa (Ob.lst ((L.take i).map ae)):=by rw[al,Yp]
    generalize Zc E=N7 at *;generalize E++[Ob.lst ((L.map ae).take i)]=S7 at *;refine⟨by rw[ao a7];rfl,?_⟩;refine Ez (K:=K) (t:=z.2 - K.s - 1 - x) a7 (by rw[Zs];lia) (λy C hy sm=>⟨_,rfl,?_⟩) λds C s8 ld=>?_
    ·k_is;refine⟨rfl,ic sk.vd (hAG y hy).1 (hAG y hy).2 ?_⟩;k_is;cases ak K (z.2 - K.s - 1 - x) y with
     |true=>k_is;exact⟨rfl,Sm.refl _⟩
     |false=>k_is;exact⟨rfl,Sm.refl _⟩
    ·refine ac (show b7 aT ds C=aa (.int ds.length,C) from rfl) ?_;k_is;rw[ld];have ar8:=s8 _ _ (Z _ _ ar);refine⟨bB ar8,?_⟩;rw[eT ar8 (by rw[Za,Zx];lia)];k_is
     have en:(if 1+(wts K (L.take i) (z.2 - K.s - 1 - x):Int) > (if x=0 then 0 else aS K (L.take i) z (z.2 - K.s - x)) then 1+(wts K (L.take i) (z.2 - K.s - 1 - x):Int) else if x=0 then 0 else aS K (L.take i) z (z.2 - K.s - x))=aS K (L.take i) z (z.2 - K.s - 1 - x):=by
      by_cases c:x=0
      ·rw[if_pos c,if_pos (by lia),IM hA (by lia) (by lia)]
      ·rw[if_neg c,sj (t:=z.2 - K.s - 1 - x) hA (by lia) (by lia),show z.2 - K.s - 1 - (x:Int)+1=z.2 - K.s - x by lia]
     rw[en];refine⟨Sm.setNew ((s6.trans Z).trans s8) (Zd _),by rw[ZH (by lia)];exact s8 _ _ (Z _ _ am),by rw[ZD (Zb.mp ar8).1,Yj,Zr];rfl,_,by rw[if_neg (Nat.succ_ne_zero x),show z.2 - K.s - ((x+1:Nat):Int)=z.2 - K.s - 1 - x by lia]⟩
   ·obtain⟨s6,am,ar,u,rfl⟩:=U;rw[Za,Zx] at ar ⊢;k_is;refine ac (yQ ar) ?_
    have ew:((Ze N).map λ(x:Nat)=>ae (z.2 - K.s - 1 - x,aS K (L.take i) z (z.2 - K.s - 1 - x))).reverse=((Ze N).map λ(x:Nat)=>(b+(x:Int),aS K (L.take i) z (b+x))).map ae:=by
     rw[qG,ZP];refine YC λx hx=>?_;have:=ZU.mp hx;show ae (z.2 - K.s - 1 - ((N - 1 - x:Nat):Int),_)=ae (b+(x:Int),_);rw[show z.2 - K.s - 1 - ((N - 1 - x:Nat):Int)=b+x by lia]
    rw[ew]
    have es:stG K L z.1=((Ze N).map λ(x:Nat)=>(b+(x:Int),aS K (L.take i) z (b+x))).foldl dI []:=by
     rw[stG,su ha hz,IS sk ha hz,hj,hN]
    generalize hM:((Ze N).map λ(x:Nat)=>(b+(x:Int),aS K (L.take i) z (b+x)))=M at *;have Z:Sm E (E++[Ob.lst (M.map ae)]):=Sm.app _ _;have a7:(E++[Ob.lst (M.map ae)])[Zc E]?=aa (.lst (M.map ae)):=al;have l7:=Sm.len s6;have l8:=Sm.len sm;have lM:M.length=N:=by rw[<-hM,Za,Zx]
    have lFS:=(Zb.mp aF).1;generalize Zc E=N7 at *;generalize E++[Ob.lst (M.map ae)]=S7 at *;refine⟨by rw[ao a7];rfl,?_⟩;have hg:z.1.toNat < K.G.length:=by lia
    have hne:(z.1.toNat:Int)=z.1:=by lia
    have ig:∀C,C[F]?=aa (.lst ((Ze K.G.length).map λg=>D.ref (S.length+g)))->ixS (.ref F) (.int z.1) C=aa (.ref (S.length+z.1.toNat),C):=λC h8=>bU h8 O.1 (by rw[Zj,Z1 hg];rfl);have ag0:=Z _ _ (s6 _ _ (ag _ hg));rw[if_neg (by rw[hne];exact(dq (uB ha hz)).1)] at ag0;refine iI (ds:=M.map ae) (by rw[Za];lia) (λx T C=>Ev.Kp (S.length+z.1.toNat) S7 C/\(∃B:List (Int × Int),B=(M.take x).foldl dI []/\B.length<=x/\C[S.length+z.1.toNat]?=aa (.lst (B.map ae)))/\∃u v,T=[aa (skE K),aa (.ref n),aa (.ref F),aa (.int i),aa (ae z),aa (.ref (Zc S')),u,v]) (λx T C h=>h.1 _ _ (by lia) a7) (λx d T C hd U=>?_) (λT C U=>?_) ⟨Ev.Kp.refl _ _,⟨[],rfl,Zd _,ag0⟩,_,_,rfl⟩
    ·obtain⟨k8,⟨B,ea,la,X⟩,u,v,rfl⟩:=U;obtain⟨y,hy,rfl⟩:=dH hd;refine⟨_,show aB (.tup [.name 7,.name 6]) (.tup [.int y.1,.int y.2]) _=_ from bH (by simp) (by simp),?_⟩;have hx:=(Zb.mp hy).1;have e3:(M.take (x+1)).foldl dI []=dI B y:=by rw[YQ,hy,YM,<-ea];rfl
     rw[e3];have Y:=k8 _ _ (show F ≠ S.length+z.1.toNat by lia) (Z _ _ (s6 _ _ aF));have lg:=(Zb.mp X).1
     have app9:∀S9,Sm C S9->dI B y=B++[y]->Ev.Kp (S.length+z.1.toNat) S7 (S9.set (S.length+z.1.toNat) (.lst (B.map ae++[.tup [.int y.1,.int y.2]])))/\∃I:List (Int × Int),I=dI B y/\I.length<=x+1/\(S9.set (S.length+z.1.toNat) (.lst (B.map ae++[.tup [.int y.1,.int y.2]])))[S.length+z.1.toNat]?=aa (.lst (I.map ae)):=λS9 J ey=>
      ⟨λw o hw ho=>by rw[ZH (Ne.symm hw)];exact J _ _ (k8 w o hw ho),_,rfl,by rw[ey,Zn];simp;lia,by rw[ZD (Zb.mp (J _ _ X)).1,ey,Zr];rfl⟩
     k_is;refine ac (show ixS (ae z) (.int 0) C=aa (.int z.1,C) from rfl) (ac (ig _ Y) ?_);have J:Sm C (C++[Ob.lst []]):=Sm.app _ _;refine ac (Dn (J _ _ X) al (by lia)) ?_;rcases YX B with c |⟨I,y',c⟩
     ·rw[show(B.map ae).isEmpty=aN by rw[c];rfl];k_is;refine ac (show ixS (ae z) (.int 0) _=aa (.int z.1,_) from rfl) (ac (ig _ (J _ _ Y)) ⟨bB (J _ _ X),?_⟩);rw[eT (J _ _ X) (by rw[Za];lia)];k_is;obtain⟨x1,x2⟩:=app9 _ J (by rw[c];rfl);exact⟨x1,x2,_,_,rfl⟩
     ·rw[YY] at c;rw[show(B.map ae).isEmpty=aT by rw[c];simp];k_is;refine ac (show ixS (ae z) (.int 0) _=aa (.int z.1,_) from rfl) (ac (ig _ (J _ _ Y)) ?_);refine ac (mi (ds:=I.map ae) (e:=ae y') (by rw[J _ _ X,c,Zr];rfl)) ?_;refine ac (show ixS (ae y') (.int 1) _=aa (.int y'.2,_) from rfl) ?_;have ey:B.getLast?=aa y':=by rw[c];simp
      k_is;cases cc:decide (y'.2=y.2) with
      |false=>
       k_is;refine ac (show ixS (ae z) (.int 0) _=aa (.int z.1,_) from rfl) (ac (ig _ (J _ _ Y)) ⟨bB (J _ _ X),?_⟩);rw[eT (J _ _ X) (by rw[Za];lia)];k_is;obtain⟨x1,x2⟩:=app9 _ J (by unfold dI;rw[ey];exact if_neg (of_decide_eq_false cc));exact⟨x1,x2,_,_,rfl⟩
      |true=>
       k_is;exact⟨λw o hw ho=>J _ _ (k8 w o hw ho),⟨B,(show dI B y=B by unfold dI;rw[ey];exact if_pos (of_decide_eq_true cc)).symm,by lia,J _ _ X⟩,_,_,rfl⟩
    ·obtain⟨k8,⟨B,ea,la,X⟩,u,v,rfl⟩:=U;rw[Za,Z7,<-es] at ea;k_is;refine⟨λw o ho=>?_,k8 _ _ (by lia) (Z _ _ (s6 _ _ aF)),λg hg2=>?_,_,_,_,_,_,rfl⟩
     ·have:=(Zb.mp ho).1;exact k8 _ _ (by lia) (Z _ _ (s6 _ _ (sm _ _ ho)))
     ·by_cases c:g=z.1.toNat
      ·rw[if_pos,c,hne,<-ea]
       ·exact X
       ·rw[YQ,hz,Zr];exact ZA _ (by rw[c,hne];exact ZK.mpr rfl)
      ·have e4:((g:Int) ∈ (L.take (i+1)).map (·.1))=((g:Int) ∈ (L.take i).map (·.1)):=by
        rw[YQ,hz,Zr,ZJ];refine propext ⟨λh=>h.elim id λh=>?_,.inl⟩;have:(g:Int)=z.1:=by simpa using h
        exact absurd this (by lia)
       simp only[e4];exact k8 _ _ (by lia) (Z _ _ (s6 _ _ (ag g hg2)))
  ·obtain⟨sm,aF,ag,u,v,w,x,y,rfl⟩:=U;k_is;refine q S' F _ sm (by lia) aF ⟨by rw[Za,Zx],λg hg=>⟨S.length+g,by rw[Zj,Z1 hg];rfl,by lia,?_⟩⟩;have:=ag g hg;rw[Za,Z7,if_pos] at this
   ·exact this
   ·obtain⟨j,z,hz,ez⟩:=wZ ha hg;exact Zw.mpr ⟨z,Zi hz,ez⟩
abbrev cC:Nat->Nat
 |0=>100
 |n+1=>8 * (cC n+2)+100
def EM:∀n,100<=cC n
 |0=>Zd _
 |n+1=>by rw[cC];lia
structure PB(n:Nat)(t:Dw.D):Prop where
 ft:Dw.Fit n 8 t
 bd:Dw.Bd (10 ^ 31) (cC n) t
def EN{c:Nat}:∀ {ts:List Dw.D},(∀t ∈ ts,Dw.sz t<=c)->Dw.szL ts<=ts.length * (c+2)
 |[],_=>by simp[Dw.szL]
 |t::ts,h=>by
  have g:=h t Zh;have f:=EN (ts:=ts) λT b=>h T (Zf _ b);rw[Dw.szL,ZB,X4]
  lia
def PB.tup{n:Nat}{T:List Dw.D}(f:T.length<=8)(h:∀t ∈ T,PB n t):PB (n+1) (.tup T):=by
 refine⟨Dw.Fit.tup f λt b=>(h t b).ft,Dw.K0 (λt b=>(h t b).bd.bn) ?_⟩;have:=EN (c:=cC n) λt b=>(h t b).bd.sz;have g:T.length * (cC n+2)<=8 * (cC n+2):=Nat.mul_le_mul_right _ f;rw[cC]
 lia
def PB.lst{n:Nat}{T:List Dw.D}(h:PB n (.tup T)):PB n (.lst T):=⟨h.ft.lst,Dw.K1 h.bd⟩
def w9{n:Nat}{i:Int}(h:i.natAbs < 10 ^ 31):PB n (.int i):=⟨⟨by simp[Dw.dep],by simp[Dw.wid]⟩,by simp only[Dw.bnd];exact h,by rw[Dw.sz];have:=EM n;lia⟩
def O6{n:Nat}:PB n .non:=⟨⟨by simp[Dw.dep],by simp[Dw.wid]⟩,by simp only[Dw.bnd],by rw[Dw.sz];have:=EM n;lia⟩
def jP{n:Nat}{xs:List Int}(f:xs.length<=8)(h:∀x ∈ xs,x.natAbs < 10 ^ 31):PB (n+1) (.tup (xs.map Dw.D.int)):=PB.tup (by rw[Za];exact f) λt b=>by
 obtain⟨x,c,rfl⟩:=Zw.mp b;exact w9 (h x c)
def oY{n:Nat}{H:List (Int × Int)}(g:H.length<=8)(h:∀z ∈ H,z.1.natAbs < 10 ^ 31/\z.2.natAbs < 10 ^ 31):PB (n+2) (.tup (H.map Dw.aY)):=PB.tup (by rw[Za];exact g) λt c=>by
 obtain⟨z,f,rfl⟩:=Zw.mp c
 exact jP (xs:=[z.1,z.2]) (by simp) λx b=>by
  have:=h z f;simp only[Zl,Z0,or_false] at b;rcases b with rfl |rfl
  ·exact this.1
  ·exact this.2
def yR{n:Nat}{M:List (List Int)}(f:M.length<=8)(h:∀r ∈ M,r.length<=8/\∀x ∈ r,x.natAbs < 10 ^ 31):PB (n+2) (.tup (Dw.qY M)):=PB.tup (by unfold Dw.qY;rw[Za];exact f) λt c=>by
 obtain⟨r,b,rfl⟩:=Zw.mp c;exact jP (h r b).1 (h r b).2
def O7(h:SkOk K):PB 4 (skT K):=by
 have g7:=h.g7;have m:=h.me;have m4:=m.m4;have r0:=m.r0;have r8:=m.r8;have s0:=m.s0;have s60:=m.s60;have h4:=m.h4;refine PB.tup (n:=3) (by simp) λt f=>?_;simp only[Zl,Z0,or_false] at f;rcases f with rfl |rfl |rfl |rfl
 ·refine PB.tup (n:=2) (by simp) λt f=>?_;simp only[Zl,Z0,or_false] at f;rcases f with rfl |rfl |rfl |rfl
  ·exact w9 (by lia)
  ·exact w9 (by lia)
  ·exact yR (by lia) λr g=>⟨by rw[m.mat.row r g];lia,λx c=>by have:=m.mat.ent r g x c;lia⟩
  ·exact oY (by lia) λz j=>by have a:=mo m.ris j;have b:=m.hb z j;constructor <;> lia
 ·cases o:K.ah with
  |none=>exact O6
  |some z=>
   refine jP (n:=2) (xs:=[z.1,z.2]) (by simp) λx c=>?_;have:=h.ah z o;simp only[Zl,Z0,or_false] at c;rcases c with rfl |rfl <;> lia
 ·refine yR (by lia) λr g=>?_;obtain⟨y,J,v,C,q,B,u,rfl,hb⟩:=h.gb r g;refine⟨by simp,λx c=>?_⟩;simp only[Zl,Z0,or_false] at c;have:=r8;rcases c with rfl |rfl |rfl |rfl |rfl |rfl |rfl <;> lia
 ·refine jP ?_ λx c=>by have:=h.bd x c;lia
  have:=Dw.ce K.G.length K.F h.nd h.bd
  lia
def xa(n:SkOk K)(h:amF K L = .non):L.length<=7:=by
 have nd:(L.map (·.1)).Nodup:=by
  rw[List.nodup_iff_pairwise_ne,Xi,Xc];intro a b q f o c;refine(dq (uB h (gEG f))).1 (c ▸ Zw.mpr ⟨L[a],YS.mpr ⟨a,by lia,rfl⟩,rfl⟩)
 have:=Dw.ce K.G.length _ nd λx g=>by
  obtain⟨z,j,rfl⟩:=Zw.mp g;have:=f9 h z j;exact⟨this.1,this.2.1⟩
 rw[Za] at this;have:=n.g7
 lia
def J5(c:SkOk K)(h:amF K L = .non):∀z ∈ L,z.1.natAbs < 10 ^ 31/\z.2.natAbs < 10 ^ 31:=λz f=>by
 have a:=f9 h z f;have b:=yI c a.1 a.2.1;have:=c.g7;constructor <;> lia
abbrev lh(K:Sky)(L:List (Int × Int)):Dw.D:=.tup [skT K,.lst (L.map Dw.aY)]
def EO(b:SkOk K)(f:amF K L = .non):Shw (lh K L):=by
 have h:PB 5 (lh K L):=PB.tup (by simp) λt c=>by
  simp only[Zl,Z0,or_false] at c;rcases c with rfl |rfl
  ·exact O7 b
  ·exact(oY (by have:=xa b f;lia) (J5 b f)).lst
 exact wY h.ft h.bd (by decide) (by decide) (by decide) (by decide)
def uE:∀ {l b:List (Int × Int)} {x:Int × Int},x ∈ l.foldl bV b->x ∈ b\/x ∈ l
 |[],_,_,h=>.inl h
 |y::l,b,x,h=>by
  rcases uE (l:=l) h with h |h
  ·have:x ∈ b\/x=y:=by
    unfold bV at h;split at h
    ·simpa using h
    ·split at h
     ·simpa using h
     ·exact .inl h
   rcases this with e |rfl
   ·exact .inl e
   ·exact .inr Zh
  ·exact .inr (Zf _ h)
def oZ:∀ {l acc:List (Int × Int)},(l.foldl bV acc).length<=acc.length+l.length
 |[],_=>Zd _
 |y::l,acc=>by
  have a:=oZ (l:=l) (acc:=bV acc y);have b:=uD acc y;rw[Y1,ZB]
  lia
abbrev uF(K:Sky)(L:List (Int × Int)):Dw.D:=.lst ((Ze K.G.length).map λ(g:Nat)=>.lst ((stG K L g).map Dw.aY))
def IV(o:SkOk K)(n:amF K L = .non):Shw (uF K L):=by
 have g7:=o.g7;have y:=xa o n
 have h:PB 3 (uF K L):=(PB.tup (by rw[Za,Zx];lia) λt c=>by
  obtain⟨g,v,rfl⟩:=Zw.mp c;obtain⟨j,z,f,E⟩:=wZ n (ZU.mp v);have B:=(Zb.mp f).1;have a:=f9 n z (Zi f);have b:=yI o a.1 a.2.1;have s0:=o.me.s0;refine(oY ?_ λx hx=>?_).lst
  ·rw[<-E,stG,su n f,stp,f];refine ZC oZ ?_;rw[Za,dJ];have:=ZW (λt=>ak K t z) (jn K z.1::(L.take j).map λq=>q.2 - K.s);rw[ZB,Za,Zs] at this;show 0+_<=8
   lia
  ·rw[<-E,stG,su n f,stp,f] at hx;rcases uE hx with hx |hx
   ·cases hx
   obtain⟨t,c,rfl⟩:=Zw.mp hx;have c:=(ZM.mp c).2;simp only[ak,bAE,decide_eq_true_eq] at c;obtain⟨u,_,_,e⟩:=yN (K:=K) (A:=L.take j) (z:=z) t c.2;have:wts K (L.take j) u<=7:=ZC (ZW _ _) (by rw[Zs];lia);show t.natAbs < 10 ^ 31/\(aS K (L.take j) z t).natAbs < 10 ^ 31;rw[e];constructor <;> lia:PB 3 (.tup _)).lst
 exact wY h.ft h.bd (by decide) (by decide) (by decide) (by decide)
def ER:∀ {T:List Dw.D} {b:List D},T.length=b.length->(∀ (i:Nat) t d,T[i]?=aa t->b[i]?=aa d->TD p S t d)->TDs p S T b
 |[],[],_,_=>aM
 |t::T,d::b,hl,h=>ai (h 0 t d rfl rfl) (ER (by simpa using hl) λi t d f c=>h (i+1) t d (by simpa using f) (by simpa using c))
def yS(v:SkOk K)(o:amF K L = .non){b:Sto}{N:Nat}{n:List D}(y:p < b.length)(hN:b.length<=N)(u:S[N]?=aa (.lst n))(j:Rws b S K.G.length (λg=>stG K L g) n):ip (.ref N) S=aa (.str (Dw.aW (uF K L)).shown,S):=by
 refine repr_td (p:=p) (cZ (by lia) u (ER (by rw[Za,Zx,j.1]) λi t d c f=>?_)) (IV v o);have h:=(Zb.mp c).1;rw[Za,Zx] at h;rw[Zj,Z1 h] at c;cases c;obtain⟨r,E,z,q⟩:=j.2 i h;rw[E] at f;cases f;exact cZ (by lia) q (bJ _)
def uG(b:SkOk K)(h:amF K L = .non){N:Nat}(n:N ≠ p)(hN:S[N]?=aa (.lst (L.map ae))):ip (.tup [skE K,.ref N]) S=aa (.str (Dw.aW (lh K L)).shown,S):=
 repr_td (p:=p) (aZ (ai R5 (ai (cZ n hN (bJ L)) aM))) (EO b h)
def ES{xs:List Int}(b:xs.length<=8)(h:∀x ∈ xs,x.natAbs < 10 ^ 31):Shw (.lst (xs.map Dw.D.int)):=by
 have h:PB 1 (.lst (xs.map Dw.D.int)):=(jP b h).lst;exact wY h.ft h.bd (by decide) (by decide) (by decide) (by decide)
def uH{xs:List Int}{n:Nat}(b:n ≠ p)(c:xs.length<=8)(h:∀x ∈ xs,x.natAbs < 10 ^ 31)(a:S[n]?=aa (.lst (xs.map D.int))):ip (.ref n) S=aa (.str (Dw.aW (.lst (xs.map Dw.D.int))).shown,S):=
 repr_td (p:=p) (cZ b a (fT xs)) (ES c h)
def O8(x:Str):aC .eq (.str x) (.str x) S=aa (.bl aN,S):=by
 simp only[aC,eqS];rw[show eqD 60 S (.str x) (.str x)=aa (x == x) from rfl,beq_self_eq_true];rfl
def ET(h:Pot p S)(J:SkOk K){N:Nat}(nN:N ≠ p)(hN:S[N]?=aa (.lst (L.map ae)))(T:amF K L = .non)(q:∀S',Dr p S S'->Q (.bl aN) S'):Ok (evC af (k+12) 65 [.ref p,skE K,.ref N] S) Q:=by
 refine aA (d:=gQ) (ρ:=[aa (.ref p),aa (skE K),aa (.ref N),aD,aD,aD,aD,aD,aD,aD,aD,aD]) rfl rfl ?_;dsimp only[gQ,lb];have l7:=xa J T;have lt:=h.lt;k_is;refine⟨rfl,EL (k:=k+9) J hN (by lia) T λS1 F ds s1 lF aF hr=>?_⟩;refine ac (yS J T lt lF aF hr) ?_;k_is;refine ac (uG J T nN (s1 _ _ hN)) ?_;k_is;refine⟨by decide,?_⟩;refine fj (by decide) (λi j S'=>Sm S S'/\∃C E Z,j=[aa (.ref p),aa (skE K),aa (.ref N),aa (.str (Dw.aW (uF K L)).shown),aa (.str (Dw.aW (lh K L)).shown),C,E,Z,aD,aD,aD,aD]) (λi j I hi o=>?_) (λj I o=>?_) ⟨s1,_,_,_,rfl⟩
 ·obtain⟨s2,C,E,Z,rfl⟩:=o;refine⟨_,rfl,?_⟩;k_is;refine⟨rfl,wM (EJ (k:=k) (p:=p) J (cZ nN (s2 _ _ hN) (bJ L)) (λts e=>by cases e;rw[Za];lia) (λhn=>absurd T (hn L rfl (by lia))) λL' n e ha' S3 N3 ds s3 l3 a3 hr=>?_)⟩;cases gW (show L.map Dw.aY=L'.map Dw.aY by injection e);have lt2:=Sm.len s2;dsimp only;k_is;refine ac (yS J T (show p < I.length by lia) l3 a3 hr) ?_;refine ac (mv _ _ _) ?_;rw[beq_self_eq_true];k_is;refine⟨by rw[ao a3];rfl,?_⟩
  have dif:∀ (g r:Nat),ds[g]?=aa (.ref r)->S3[r]?=aa (.lst ((stG K L g).map ae))->r ≠ N3:=λg r h1 h2 z=>by
   rw[z,a3] at h2;cases h2;rw[Zj] at h1;cases c:(stG K L g)[g]? with
   |none=>rw[c] at h1;cases h1
   |some y=>rw[c] at h1;cases h1
  have rw0:∀d ∈ ds,∃r l,d = .ref r/\I.length<=r/\r ≠ N3/\S3[r]?=aa (.lst l)/\l.length<=100:=λd hd=>by
   obtain⟨g,hg⟩:=Ye hd;have lg:=(Zb.mp hg).1;obtain⟨r,e1,e2,e3⟩:=hr.2 g (by rw[<-hr.1];exact lg);rw[e1] at hg;cases hg;refine⟨r,_,rfl,e2,dif g r e1 e3,e3,?_⟩;show((stG K L (g:Int)).map ae).length<=100;rw[Za,stG,stp];split
   ·simp
   ·refine ZC oZ ?_;rw[Za,dJ];refine ZC (Nat.add_le_add_left (ZW _ _) _) ?_;rw[ZB,Za,Zs,Y3]
    lia
  have ld:ds.length<=7:=by rw[hr.1];exact J.g7
  refine iI (ds:=ds) (by lia) (λx j v=>Sm I v/\v[N3]?=aa (.lst ds)/\(∀d ∈ ds,∃r l,d = .ref r/\I.length<=r/\r ≠ N3/\v[r]?=aa (.lst l)/\l.length<=100+x)/\∃Z,j=[aa (.ref p),aa (skE K),aa (.ref N),aa (.str (Dw.aW (uF K L)).shown),aa (.str (Dw.aW (lh K L)).shown),aa (.int (0+(i:Int))),aa (.ref N3),Z,aD,aD,aD,aD]) (λx j v h=>h.2.1) (λx d j v hd o=>?_) (λj v o=>?_) ⟨s3,a3,rw0,_,rfl⟩
  ·obtain⟨s4,a4,rw4,u,rfl⟩:=o;refine⟨_,rfl,?_⟩;obtain⟨r,l,rfl,lr,nr,ar,ll⟩:=rw4 d (Zi hd);have hx:=(Zb.mp hd).1;k_is;refine⟨bB ar,?_⟩;rw[eT ar (by lia)];k_is;refine⟨Sm.setNew s4 lr,by rw[ZH nr];exact a4,λd' hd'=>?_,_,rfl⟩;obtain⟨r',l',rfl,lr',nr',ar',ll'⟩:=rw4 d' hd';by_cases c:r=r'
   ·subst c;exact⟨r,_,rfl,lr,nr,ZD (Zb.mp ar).1,by rw[Zn,ZO];lia⟩
   ·exact⟨r',l',rfl,lr',nr',by rw[ZH c];exact ar',by lia⟩
  ·obtain⟨s4,a4,rw4,u,rfl⟩:=o;k_is;have s5:Sm v (v++[Ob.lst []]):=Sm.app _ _;refine⟨bB a4,?_⟩;rw[eT (s5 _ _ a4) (by lia)];k_is;exact⟨Sm.setNew (s2.trans (s4.trans s5)) (by lia),_,_,_,rfl⟩
 ·obtain⟨s2,C,E,Z,rfl⟩:=o;have d2:=Dr.sm h s2;have hN2:=s2 _ _ hN;k_is;refine⟨by decide,by decide,by decide,?_⟩;have s3:Sm I (I++[Ob.lst ([-1,0,10 ^ Int.toNat 20,-10 ^ Int.toNat 20].map D.int)]):=Sm.app _ _;have a3:(I++[Ob.lst ([-1,0,10 ^ Int.toNat 20,-10 ^ Int.toNat 20].map D.int)])[Zc I]?=aa (.lst ([-1,0,10 ^ Int.toNat 20,-10 ^ Int.toNat 20].map D.int)):=al;rw[show[D.int (-1),D.int 0,D.int (10 ^ Int.toNat 20),D.int (-10 ^ Int.toNat 20)]=[-1,0,10 ^ Int.toNat 20,-10 ^ Int.toNat 20].map D.int from rfl];have l3:([-1,0,10 ^ Int.toNat 20,-10 ^ Int.toNat 20]:List Int).length=4:=rfl;have d3:=d2.thenSm s3;have n3:Zc I ≠ p:=by have:=d2.pot.lt;lia
  have hN3:=s3 _ _ hN2;generalize ([-1,0,10 ^ Int.toNat 20,-10 ^ Int.toNat 20]:List Int)=xs at *;generalize I++[Ob.lst (xs.map D.int)]=S3 at *;generalize Zc I=N3 at *;refine oH (by decide) (λi acc S'=>Dr p S3 S'/\∃Y:List Int,acc=Y.map D.int/\Y.length=i) (λi acc v hi ⟨d4,Y,ea,ly⟩=>⟨_,rfl,?_⟩) (λes v ⟨d4,Y,ea,ly⟩=>?_) ⟨Dr.refl d3.pot,[],rfl,rfl⟩
  ·k_is;refine⟨rfl,ax (k:=k+10) d4.pot (by decide) (by decide) λr S5 _ _ d5=>?_⟩;k_is;exact⟨d4.trans d5,Y++[r],by rw[ea,Zr];rfl,by rw[Zn,ly];rfl⟩
  ·subst ea;have ly:Y.length=6:=ly;refine⟨by rw[Za];lia,?_⟩;have s5:Sm v (v++[Ob.lst (Y.map D.int)]):=Sm.app _ _;refine ac (fR (s5 _ _ (d4.kp _ _ n3 a3)) al (by rw[Za,Za];lia)) ?_;rw[<-Zr];have s6:Sm v (v++[Ob.lst (Y.map D.int)]++[Ob.lst ((xs++Y).map D.int)]):=s5.trans (Sm.app _ _);have a6:(v++[Ob.lst (Y.map D.int)]++[Ob.lst ((xs++Y).map D.int)])[Zc (v++[Ob.lst (Y.map D.int)])]?=aa (.lst ((xs++Y).map D.int)):=al;have d6:Dr p S _:=(d3.trans d4).thenSm s6;have l6:(xs++Y).length<=10:=by rw[Zn];lia
   have n6:Zc (v++[Ob.lst (Y.map D.int)]) ≠ p:=by have:=d4.pot.lt;rw[Zn];lia
   generalize xs++Y=O at *;generalize v++[Ob.lst (Y.map D.int)]++[Ob.lst (O.map D.int)]=S6 at *;generalize Zc (v++[Ob.lst (Y.map D.int)])=N6 at *;k_is;have hN6:=d6.kp _ _ nN hN;refine⟨by rw[ao hN6];rfl,?_⟩;refine iI (ds:=L.map ae) (by rw[Za];lia) (λi j S'=>Sm S6 S'/\∃ (m:Nat) (O:List Int) (u9 U:Option D),j=[aa (.ref p),aa (skE K),aa (.ref N),aa (.str (Dw.aW (uF K L)).shown),aa (.str (Dw.aW (lh K L)).shown),C,E,Z,aa (.ref m),u9,U,aD]/\S'[m]?=aa (.lst (O.map D.int))/\O.length<=10+3 * i) (λi j S' h=>h.1 _ _ hN6) (λi d j S7 hd o=>?_) (λj S7 o=>?_) ⟨Sm.refl _,N6,O,aD,aD,rfl,a6,l6⟩
   ·obtain⟨s7,m,O,u9,U,rfl,am,lm⟩:=o;obtain⟨z,hz,rfl⟩:=dH hd;have hi:=(Zb.mp hz).1;have hzG:=f9 T z (Zi hz);obtain⟨a,b,c,d,e,f,h',eg,_⟩:=gl7 J.vd hzG.1 hzG.2.1;refine⟨_,show aB (.tup [.name 9,.name 10]) (.tup [.int z.1,.int z.2]) _=_ from bH (by simp) (by simp),?_⟩;k_is;refine ac sk2 (ac (eA hzG.1 eg) (ac (show ixS (az [a,b,c,d,e,f,h']) (.int 1) S7=aa (.int b,S7) from rfl) (ac sk0 (ac me1 ?_))));k_is;refine ac sk0 (ac me1 ?_);k_is;have X:Sm S7 (S7++[Ob.lst [D.int b,D.int (z.2 - K.s - 1),D.int (z.2 - K.s)]]):=Sm.app _ _;refine ac (fR (X _ _ am) al (by rw[Za];show O.length+3<=100000;lia)) ?_;k_is;exact⟨s7.trans (X.trans (Sm.app _ _)),_,O++[b,z.2 - K.s - 1,z.2 - K.s],_,_,rfl,by rw[al,Zr];rfl,by rw[Zn];show O.length+3<=_;lia⟩
   ·obtain⟨s7,m,O,u9,U,rfl,am,lm⟩:=o;rw[Za] at lm;k_is;refine⟨by rw[ao am];rfl,?_⟩;have d7:=d6.thenSm s7;have hN7:=s7 _ _ hN6;refine iI (ds:=O.map D.int) (by rw[Za];lia) (λi j S'=>Sm S7 S'/\∃C E U u11,j=[aa (.ref p),aa (skE K),aa (.ref N),aa (.str (Dw.aW (uF K L)).shown),aa (.str (Dw.aW (lh K L)).shown),C,E,Z,aa (.ref m),u9,U,u11]) (λi j S' h=>h.1 _ _ am) (λi d j S8 hd o=>?_) (λj S8 o=>?_) ⟨Sm.refl _,_,_,_,_,rfl⟩
    ·obtain⟨X,C,E,U,u11,rfl⟩:=o;obtain⟨t,ht,rfl⟩:=dH hd;have hN8:=X _ _ hN7;refine⟨_,rfl,?_⟩;k_is;refine⟨by rw[ao hN8];rfl,?_⟩;refine bh L ae (λz=>if ak K t z=aN then [D.int z.1] else []) (by lia) (λz _=>by split <;> simp) (b5 hN8) (λi z S' hz sm=>⟨_,rfl,?_⟩) λS9 s9=>?_
     ·have:=f9 T z (Zi hz);k_is;refine⟨rfl,ic J.vd this.1 this.2.1 ?_⟩;k_is;cases ak K t z with
      |true=>k_is;exact ac (show ixS (ae z) (.int 0) S'=aa (.int z.1,S') from rfl) ⟨rfl,Sm.refl _⟩
      |false=>k_is;exact⟨rfl,Sm.refl _⟩
     ·rw[bD,show((L.filter (ak K t)).map λz=>D.int z.1)=((L.filter (ak K t)).map (·.1)).map D.int by rw[ZP];rfl];have lw:((L.filter (ak K t)).map (·.1)).length<=8:=by rw[Za];exact ZC (ZW _ _) (by lia)
      have bw:∀x ∈ (L.filter (ak K t)).map (·.1),x.natAbs < 10 ^ 31:=λx hx=>by
       obtain⟨z,hz,rfl⟩:=Zw.mp hx;exact(J5 J T z (ZM.mp hz).1).1
      have a10:(S9++[Ob.lst (((L.filter (ak K t)).map (·.1)).map D.int)])[Zc S9]?=aa (.lst (((L.filter (ak K t)).map (·.1)).map D.int)):=al;have s10:Sm S7 (S9++[Ob.lst (((L.filter (ak K t)).map (·.1)).map D.int)]):=(X.trans s9).trans (Sm.app _ _);have n10:Zc S9 ≠ p:=by have:=d7.pot.lt;have:=Sm.len (X.trans s9);lia
      generalize S9++[Ob.lst (((L.filter (ak K t)).map (·.1)).map D.int)]=S10 at *;generalize Zc S9=N10 at *;k_is;refine⟨by decide,?_⟩;have lp:=d7.pot.lt;have l10:=Sm.len s10;refine fj (by decide) (λi j S'=>Sm S10 S'/\∃C E,j=[aa (.ref p),aa (skE K),aa (.ref N),aa (.str (Dw.aW (uF K L)).shown),aa (.str (Dw.aW (lh K L)).shown),C,E,Z,aa (.ref m),u9,aa (.int t),aa (.ref N10)]) (λi j S11 hi o=>?_) (λj S11 o=>?_) ⟨Sm.refl _,_,_,rfl⟩
      ·obtain⟨B,C,E,rfl⟩:=o;refine⟨_,rfl,?_⟩;k_is;have l11:=Sm.len B;refine⟨rfl,wM (qF (k:=k) (p:=p) J (cZ nN (B _ _ (s10 _ _ hN7)) (bJ L)) (λts e=>by cases e;rw[Za];lia) (λhn=>absurd T (hn L rfl (by lia))) λL' e ha' S12 N12 s12 l12 a12=>?_)⟩;cases gW (show L.map Dw.aY=L'.map Dw.aY by injection e);dsimp only;k_is;refine ac (uH (p:=p) (by lia) lw bw a12) (ac (uH n10 lw bw (s12 _ _ (B _ _ a10))) (ac (mv _ _ _) ?_));rw[beq_self_eq_true];k_is;refine⟨bB a12,?_⟩;rw[eT a12 (by rw[Za];lia)];k_is;exact⟨Sm.setNew (B.trans s12) (by lia),_,_,rfl⟩
      ·obtain⟨B,C,E,rfl⟩:=o;k_is;exact⟨s10.trans B,_,_,_,_,rfl⟩
    ·obtain⟨X,C,E,U,u11,rfl⟩:=o;k_is;refine ac (uG J T nN (X _ _ hN7)) ?_;k_is;exact ac (O8 _) (q S8 (d7.thenSm X))
def qH(h:TD p S t d)(q:Q (.bl (Dw.isW t)) S):Ok (evC af (k+1) 44 [d] S) Q:=by
 refine aA (d:=gK) (ρ:=[aa d]) rfl rfl ?_;dsimp only[gK,kS];k_is;refine ac (et h) ?_;k_is;cases t <;> first |exact q |(k_is;refine ac (et h) ?_;k_is;exact q)
abbrev lsT:Dw.D->Bool
 |.lst ts=>ts.all prT
 |_=>aT
def IW(h:TD p S t d)(hl:∀T,t = .lst T->T.length<=1000)(q:Q (.bl (lsT t)) S):Ok (evC af (k+2) 62 [d] S) Q:=by
 refine aA (d:=eR) (ρ:=[aa d,aD]) rfl rfl ?_;dsimp only[eR,iE];k_is;refine ac (et h) ?_;k_is;cases t with
 |lst T=>
  have lt:=hl T rfl;obtain⟨n,ds,rfl,nn,O,hs⟩:=TD.lst h;rw[show(dU .list (tyT (.lst T)))=aN from rfl];k_is;refine⟨by rw[ao O];rfl,?_⟩;refine iI (ds:=ds) (by rw[hs.len];lia) (λi o S'=>S'=S/\(T.take i).all prT=aN/\∃u,o=[aa (.ref n),u]) (λi o S' h=>by rw[h.1];exact O) (λi d o S' hd y=>?_) (λo S' y=>?_) ⟨rfl,rfl,_,rfl⟩
  ·obtain⟨rfl,I,u,rfl⟩:=y;refine⟨_,rfl,?_⟩;have v:i < T.length:=by rw[<-hs.len];exact(Zb.mp hd).1
   obtain⟨d',g,J⟩:=hs.get (gEG v);rw[hd] at g;cases g;have ea:(T.take (i+1)).all prT=prT T[i]:=by rw[ZN v,List.all_append,I];simp
   have no:prT T[i]=aT->lsT (.lst T)=aT:=λh=>by
    refine Xf.mpr λz=>?_;have:=ZL.mp (show T.all prT=aN from z) _ (ZI v);rw[h] at this;cases this
   generalize T[i]=t at *;k_is;refine ac (et J) ?_;k_is
   have B:prT t=aT->rW (wSs (evC af (k+1)) (cA af) 55 [CS.ret (CE.bl aT)]) [aa (D.ref n),aa d] S' (wNx (wSs (evC af (k+1)) (cA af) 56 []) λfl f j=>
    match fl with
    |Fl.nx=>j=S'/\(T.take (i+1)).all prT=aN/\∃u,f=[aa (D.ref n),u]
    |Fl.ct=>j=S'/\(T.take (i+1)).all prT=aN/\∃u,f=[aa (D.ref n),u]
    |Fl.bk=>rW (wSs (evC af (k+1)) (cA af) 58 [CS.ret (CE.bl aN)]) f j (out Q)
    | Fl.rt d=>Q d j):=λz=>by
    k_is;rw[no z] at q;exact q
   cases t with
   |tup U=>
    obtain⟨Z,rfl,C⟩:=J.tup;rw[show(dU .tuple (tyT (.tup U)))=aN from rfl];k_is;refine ac (show aw b7 (.tup Z) S'=aa (.int (U.length:Int),S') by simp only[aw,av,b7,C.len]) ?_;k_is;by_cases E:U.length=2
    ·obtain⟨b,e,rfl⟩:=Dw.BH E;k_is;refine yA (i:=0) C rfl λd1 t1=>⟨rfl,qH t1 ?_⟩;k_is;have eq:prT (.tup [b,e])=(Dw.isW b && Dw.isW e):=rfl;cases c:Dw.isW b with
     |false=>k_is;exact B (by rw[eq,c];rfl)
     |true=>
      k_is;refine yA (i:=1) C rfl λd2 Y=>⟨rfl,qH Y ?_⟩;k_is;cases X:Dw.isW e with
      |false=>k_is;exact B (by rw[eq,c,X];rfl)
      |true=>k_is;exact⟨rfl,by rw[ea,eq,c,X];rfl,_,rfl⟩
    ·rw[show decide ((U.length:Int)=2)=aT from decide_eq_false (by lia)];k_is;exact B (Ex E)
   |_=>exact B rfl
  ·obtain⟨rfl,I,u,rfl⟩:=y;rw[hs.len,Z7] at I;k_is;rw[show lsT (.lst T)=aN from I] at q;exact q
 |_=>k_is;exact q
abbrev Rw(p:Nat)(S:Sto)(d:D):Prop:=∃t,TD p S t d/\∀T,t = .lst T->T.length<=20
def Rw.keep(h:Rw p S d)(kp:Ev.Kp p S S'):Rw p S' d:=let ⟨t,a,b⟩:=h;⟨t,a.keep kp,b⟩
def O9{n:Nat}(h:Lnd p S n K d)(f:n<=20):Rw p S d:=by
 obtain⟨N,L,rfl,b,hN,c,_⟩:=h;exact⟨_,cZ b hN (bJ L),λT e=>by cases e;rw[Za];lia⟩
abbrev mw:List CS:=match oC with
 |.for_ _ _ b::_=>b
 |_=>[]
abbrev o3:List CS:=match mw.drop 5 with
 |[.for_ _ _ [.ifs _ b _]]=>b
 |_=>[]
def EU(j:SkOk K)(n:TD p S t d)(o:∀T,t = .lst T->T.length<=1000)(h:∀L:List (Int × Int),t = .lst (L.map Dw.aY)->amF K L ≠ .non)
  (q:∀S',Sm S S'->Qf .nx [a,b,c,aa (skE K),e,f,aa d] S'):rW (wSs (evC af 39) (cA af) 49 o3) [a,b,c,aa (skE K),e,f,aa d] S Qf:=by
 dsimp only[o3,mw,oC,Yn];k_is;refine⟨rfl,yP (k:=27) j n o h aN λy g=>?_⟩;refine ac (mv _ _ _) ?_;rw[beq_self_eq_true];k_is;refine⟨rfl,yP (k:=27) j (n.keep g.kp) o h aT λv u=>?_⟩;refine ac (mv _ _ _) ?_;rw[beq_self_eq_true];k_is;exact q v (g.trans u)
def EV(h:Pot p S)(I:SkOk K){j:Nat}(nr:j ≠ p)(Z:S[j]?=aa (.lst J))(hl:J.length<=100)(hd:∀d ∈ J,Rw p S d)
  (q:∀u S',Dr p S S'->Qf .nx [aa (.ref 0),aa ik,aa (.ref p),aa (skE K),aa rt,aa (.ref j),u] S') :
  rW (wSs (evC af 39) (cA af) 53 (mw.drop 5)) [aa (.ref 0),aa ik,aa (.ref p),aa (skE K),aa rt,aa (.ref j),u] S Qf:=by
 dsimp only[mw,oC,Yn];k_is;refine⟨by rw[ao Z];rfl,?_⟩;refine iI (ds:=J) (by lia) (λi B S'=>Sm S S'/\∃u,B=[aa (.ref 0),aa ik,aa (.ref p),aa (skE K),aa rt,aa (.ref j),u]) (λi B S' iv=>iv.1 _ _ Z) (λi d B U E O=>?_) (λB U C=>?_) ⟨Sm.refl _,_,rfl⟩
 ·obtain⟨g,u,rfl⟩:=O;obtain⟨t,y,X⟩:=(hd d (Zi E)).keep g.kp;have b:∀f,t = .lst f->f.length<=1000:=λf e=>by have:=X f e;lia
  refine⟨_,rfl,?_⟩;k_is;refine⟨rfl,IW (k:=37) y b ?_⟩;k_is;have T:=@EU p;dsimp only[o3,mw,oC,Yn] at T;cases c:lsT t with
  |false=>
   refine T I y b (λL e _=>?_) λS2 v=>?_
   ·rw[e] at c;have:(L.map Dw.aY).all prT=aN:=by rw[Yz,ZL];intro x _;rfl
    rw[show lsT (.lst (L.map Dw.aY))=(L.map Dw.aY).all prT from rfl,this] at c;cases c
   ·k_is;exact⟨g.trans v,_,rfl⟩
  |true=>
   cases t with
   |lst f=>
    obtain⟨L,rfl⟩:=si (show f.all prT=aN from c);obtain⟨n,ds',rfl,nn,Y,hs⟩:=TD.lst y;rw[kB hs] at Y;have o:=X _ rfl;rw[Za] at o;k_is;refine⟨rfl,kC (k:=36) I Y o λS2 v=>?_⟩;refine ac bC ?_;k_is;cases cn:bI (amF K L) with
    |true=>
     k_is;exact⟨g.trans v,_,rfl⟩
    |false=>
     refine T I (y.keep v.kp) b (λL' e z=>?_) λS3 s3=>?_
     ·rw[<-gW (show L.map Dw.aY=L'.map Dw.aY by injection e)] at z;rw[z] at cn;cases cn
     ·k_is;exact⟨g.trans (v.trans s3),_,rfl⟩
   |_=>cases c
 ·obtain⟨g,u,rfl⟩:=C;k_is;exact q _ U (Dr.sm h g)
def main(ns:List Int)(hn:ns.length<=63):∃S',evC af 40 66 [.ref 0] [.frz (ns.map D.int)]=aa (.bl aN,S'):=by
 have key:Ok (evC af (39+1) 66 [.ref 0] [.frz (ns.map D.int)]) λd _=>d = .bl aN:=by
  refine aA (d:=yv) (ρ:=[aa (.ref 0),aD,aD,aD,aD,aD,aD]) rfl rfl ?_;dsimp only[yv,oC];k_is;have lq:aw b7 (.ref 0) [Ob.frz (ns.map D.int)]=aa (.int ns.length,[Ob.frz (ns.map D.int)]):=by simp only[aw,av,aP,List.getElem?_cons_zero,Zu,b7,Za]
  refine ac lq ?_;k_is
  obtain⟨c,hc,c8⟩:∃c:Nat,(if (if (10:Int) < ns.length then (10:Int) else ns.length) > 1 then (if (10:Int) < ns.length then (10:Int) else ns.length) else 1)=(c:Int)/\c<=10:=by
   refine⟨(if (if (10:Int) < ns.length then (10:Int) else ns.length) > 1 then (if (10:Int) < ns.length then (10:Int) else ns.length) else 1).toNat,?_,?_⟩
   ·split <;> split <;> lia
   ·split <;> split <;> lia
  rw[hc];refine⟨eU (by lia) (by lia),?_⟩;rw[Zo];refine fj (by lia) (λi ρ S'=>S'[0]?=aa (Ob.frz (ns.map D.int))/\∃a b c d e f,ρ=[aa (.ref 0),a,b,c,d,e,f]) (λi ρ S1 hi hq=>?_) (λρ S1 hq=>?_) ⟨rfl,aD,aD,aD,aD,aD,aD,rfl⟩
  ·obtain⟨J,a,b,c',d,e,f,Z⟩:=hq;subst Z;refine⟨_,rfl,?_⟩;k_is;rw[YK];refine⟨rfl,Il (k:=38) J λx=>?_⟩;refine⟨rfl,OV (k:=38) λY=>?_⟩;k_is;have pt:Pot (Zc S1) (S1++[Ob.lst [D.int Y]]):=⟨Y,al⟩;have n0:0 ≠ Zc S1:=λz=>by rw[YD.mp z.symm] at J;simp at J
   have h1:(S1++[Ob.lst [D.int Y]])[0]?=aa (Ob.frz (ns.map D.int)):=Sm.app _ _ _ _ J;generalize S1++[Ob.lst [D.int Y]]=S2 at *;generalize Zc S1=p at *;refine⟨rfl,Iz (k:=35) pt λK S3 d3 y g6=>?_⟩;k_is;have V:=y.vd;refine⟨rfl,wX (k:=34) d3.pot y g6 λrt S4 d4 hrt=>?_⟩;k_is;refine⟨rfl,qD (k:=36) d4.pot y g6 λos S5 d5 ho lo=>?_⟩;refine⟨rfl,yJ (k:=37) V ho (by lia) λL N j s6 hN lN eL=>?_⟩;have d6:=(d3.trans (d4.trans d5)).thenSm s6;have lt5:=d5.pot.lt;have lt6:=d6.pot.lt;have rN:Rw p j (.ref N):=⟨_,cZ (by lia) hN (bJ L),λts e=>by cases e;have:=congrArg Zc eL;rw[Za] at this ⊢;lia⟩;have s7:Sm j (j++[Ob.lst []]):=Sm.app _ _;have a7:(j++[Ob.lst []])[Zc j]?=aa (.lst []):=al;have d7:=d6.thenSm s7;have r7:Rw p (j++[Ob.lst []]) (.ref (Zc j)):=⟨.lst [],cZ (by lia) a7 aM,λts e=>by cases e;decide⟩;have rN:=rN.keep s7.kp;have k7:Ev.Kp p S4 (j++[Ob.lst []]):=(d5.thenSm (s6.trans s7)).kp;generalize j++[Ob.lst []]=S7 at *;generalize Zc j=N7 at *;refine⟨rfl,IL (k:=37) d7.pot λt0 v n O td0 o0=>?_⟩;have lt8:=O.pot.lt;have I:Sm n (n++[Ob.lst [D.ref N,.ref N7,v]]):=Sm.app _ _;have a9:(n++[Ob.lst [D.ref N,.ref N7,v]])[Zc n]?=aa (.lst [.ref N,.ref N7,v]):=al;have X:=(d7.trans O).thenSm I;have k9:=k7.trans (O.thenSm I).kp
   have rs:∀d ∈ [D.ref N,.ref N7,v],Rw p (n++[Ob.lst [D.ref N,.ref N7,v]]) d:=λd hd=>by
    simp only[Zl,Z0,or_false] at hd;rcases hd with rfl |rfl |rfl
    ·exact rN.keep (O.thenSm I).kp
    ·exact r7.keep (O.thenSm I).kp
    ·exact⟨t0,td0.keep I.kp,O2 _ o0⟩
   have l9:[D.ref N,.ref N7,v].length=3:=rfl;have n9:Zc n ≠ p:=by lia
   generalize [D.ref N,.ref N7,v]=ds at *;generalize n++[Ob.lst ds]=S9 at *;generalize Zc n=N9 at *;have h:=@EV p;dsimp only[mw,oC,Yn] at h;k_is;refine ac bC ?_;k_is;rcases hrt with rfl |⟨M,R,rfl,nM,hM,lR,bR,aR⟩
   ·rw[show bI .non=aN from rfl];k_is;exact h X.pot y n9 a9 (by lia) rs λu6 S' d'=>⟨(X.trans d').kp _ _ n0 h1,_,_,_,_,_,_,rfl⟩
   ·rw[show bI (.ref M)=aT from rfl];k_is;refine⟨rfl,ET (k:=27) X.pot y nM (k9 _ _ nM hM) aR λS10 u=>?_⟩;k_is;have q:=u.kp _ _ nM (k9 _ _ nM hM);refine⟨rfl,AI (k:=37) u.pot y q (by lia) bR λE g B l1=>?_⟩;refine ac (ia (B.kp _ _ nM q)) ?_;k_is;have o:=u.trans B;have lt11:=B.pot.lt;have U:Sm g (g++[Ob.lst [E,.tup (R.map ae)]]):=Sm.app _ _;have a12:(g++[Ob.lst [E,.tup (R.map ae)]])[Zc g]?=aa (.lst [E,.tup (R.map ae)]):=al;refine ac (fR (U _ _ (o.kp _ _ n9 a9)) a12 (by rw[l9];show 3+2<=100000;decide)) ?_;have T:Sm g (g++[Ob.lst [E,.tup (R.map ae)]]++[Ob.lst (ds++[E,.tup (R.map ae)])]):=U.trans (Sm.app _ _);have a13:(g++[Ob.lst [E,.tup (R.map ae)]]++[Ob.lst (ds++[E,.tup (R.map ae)])])[Zc (g++[Ob.lst [E,.tup (R.map ae)]])]?=aa (.lst (ds++[E,.tup (R.map ae)])):=al;have C:=o.thenSm T;have n13:Zc (g++[Ob.lst [E,.tup (R.map ae)]]) ≠ p:=by rw[Zn];lia
    k_is;refine h C.pot y n13 a13 (by rw[Zn,l9];show 5<=100;decide) (λd hd=>?_) λu6 S' d'=>⟨((X.trans C).trans d').kp _ _ n0 h1,_,_,_,_,_,_,rfl⟩;rcases ZJ.mp hd with hd |hd
    ·exact(rs d hd).keep C.kp
    ·simp only[Zl,Z0,or_false] at hd;rcases hd with rfl |rfl
     ·exact(O9 l1 (by lia)).keep T.kp
     ·exact⟨_,aZ (bJ R),λts e=>by cases e⟩
  ·obtain⟨J,a,b,c',d,e,f,Z⟩:=hq;subst Z;k_is
 obtain⟨d,S',e,rfl⟩:=key;exact⟨S',e⟩
end Lw
theorem PySem.Challenge.cw_downrings_k61_who_holds_which_ring_holds : PySem.Challenge.rw_downrings_k61_who_holds_which_ring.Holds :=
 Lw.head Lw.main
