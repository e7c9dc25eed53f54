import PyProof.Rows.All
import KE.KIsAll
import KE.KSortTup
import PySem.Challenge.RW_downrings_k12_what_is_amiss
set_option Elab.async false
set_option linter.all false
set_option maxRecDepth 100000
set_option maxHeartbeats 4000000
open List renaming length_map → Za, length → Zb, getElem?_eq_some_iff → Zc, mem_of_getElem? → Zf, mem_cons_of_mem → Zg, length_append → Zh, mem_cons_self → Zi, range → Zj, size_toArray → Zl, mem_cons → Zm, getElem?_map → Zn, replicate → Zo, length_take → Zs, getElem?_append_right → Zt, map_append → Zv, getElem?_append_left → Zw, map_cons → Zx, mem_append → Zy, mem_append_right → Zz, getElem?_eq_none → ZB, getElem_mem → ZC, length_cons → ZD, mem_singleton → ZG, mem_map → ZH, getElem?_set_self → ZI, all_eq_true → ZJ, length_range → ZK, take_succ_eq_append_getElem → ZL, length_singleton → ZM, getElem?_set_ne → ZN, lookup_cons → ZQ, mem_of_mem_take → ZS, append_nil → ZT, length_drop → ZV, contains_cons → ZX, mem_filter → ZY, take_of_length_le → ZZ, mem_flatMap → Z0, mem_range → Z2, map_map → Z3, replicate_succ → Z4, drop → Z5, prefix_refl → Z7, all_cons → Z8, map_nil → Z9, map_take → Yb, getElem?_of_mem → Yc, append_assoc → Yd, nodup_cons → Ye, length_set → Yg, getD_eq_getElem?_getD → Yi, pairwise_cons → Yj, getElem?_eq_none_iff → Yk, mem_append_left → Yl, flatten_cons → Ym, exists_of_findSome?_eq_some → Yn, getElem?_replicate → Yo, length_eq_zero_iff → Yp, getElem?_cons_succ → Yq, not_mem_nil → Yr, mem_filterMap → Yu, prefix_append → Yv, all_map → Yx, any_cons → Yy, getElem?_set → Yz, any_eq_true → YB, take_length → YC, getElem?_range → YE, getElem?_take_of_lt → YF, eraseIdx_cons_succ → YG, length_replicate → YH, getElem_inj → YI, countP_cons → YJ, filter_cons → YK, of_mem_zip → YL, filterMap_cons → YM, map_congr_left → YN, forIn_nil → YO, length_eraseIdx_of_lt → YQ, length_zipIdx → YR, mem_or_eq_of_mem_set → YS, mem_of_find?_eq_some → YT, map_inj_left → YW, flatMap_cons → YX, set_comm → YZ, toArray → Y4, length_nil → Y5, range_succ → Y6, take_append_drop → Xb, contains_iff_mem → Xc, length_filter_le → Xd, lookup → Xg, mem_iff_getElem → Xh, getLast?_append → Xj, mem_of_mem_drop → Xk, toList_toArray → Xl, flatMap_append → Xm, replicate_zero → Xn, length_pos_iff → Xp, findSome?_cons → Xq, take_nil → Xs, map_drop → Xv, find?_eq_none → Xy, getElem_range → Xz, take_sublist → XC, nodup_append → XD, any_map → XF, flatten_nil → XR, foldl_cons → XW, nil_append → XX, forIn_cons → XY, countP_map → X0, find?_cons → X3, foldl → X4, nodup_nil → X5, take_add → X9, drop_nil → Wa, map_set → Wd
open Bool renaming false_ne_true → Zd, eq_iff_iff → Z1, false_eq_true → Z6, and_comm → YY, or_eq_true → Y7, false_and → Xe, and_eq_true_iff → Xi, true_and → Xr, and_self → Xu, eq_false_iff → XH, or_false → X7, and_true → X8
open Nat renaming le_refl → Ze, lt_of_lt_of_le → Zu, ne_of_lt → ZA, le_trans → ZF, lt_irrefl → ZO, not_lt_zero → Yh, le_succ → Yt, sub_self → Yw, le_of_succ_le → YU, lt_succ_of_lt → YV, lt_succ_self → Y1, le_of_lt → Y2, min_eq_left → Y8, ne_of_gt → XB, succ_le_succ → XM, succ_ne_self → XN, le_max_right → XQ, min_eq_right → XU, zero_le → XV, le_max_left → XZ, mul_le_mul → X6, succ_mul → Wb, zero_add → Wc, log2_lt → Wf
open PySem.Heap renaming get?_push_of_some → Zk, lt_size → Zq, get?_push_size → ZE, size_push → YA, size_update → Y0, get?_update_other → Y3, get?_update_self → Xa, get?_update_ne → Xo, get?_push_ne → XG
open Int renaming toNat_natCast → Zp, le_refl → ZW, zero_add → YD, emod_lt_of_pos → Xx, emod_nonneg → X1, le_antisymm → X2
open Option renaming map_some → Zr, getD_some → ZR, isSome_iff_exists → ZU, bind_some → Ys, any_some → Y9, getD_none → XJ, bind → We
open Array renaming length_toList → ZP, mem_toList_iff → Xf, append_assoc → Xw
open PyProof.Rows renaming boot_enumerate → Wg, boot_int → Wh, boot_isinstance → Wi, boot_list → Wj, boot_max → Wk, boot_sorted → Wl, boot_tuple → Wm, callWith_type1 → Wn, slot_tuple_getitem → Wo
open PySem.Calls renaming Name_function_global → Wp, evalArgs_plain → Wq
open PySem renaming Comprehension → Wr, FuncData → WH, GenState → WI, NameKind → WJ, Operator → WK, Spec → WZ, assignEach → Vo, assignInOrder → Vp, behindInMarks → Vq, binaryOp → Vr, bindName → Vs, bootBuiltins → Vt, builtinsNs → Vu, call_meets → Vv, cellsFrom → Vw, codeAny_call_builtin → Vx, codeAny_call_function → Vy, codeAny_mono → Vz, compareOp → VA, concat_meets → VB, excClassObj → VC, foldedSetIterable → VE, importedModules → VF, intItems → VG, intItems_at → VH, letOwnedTupleGo → VI, lookupAlong → VJ, mainGlobals → VL, mem_of_lookup → VM, newFunctionEnv → VN, noFill_tuple_add → VO, not_mem_of_deeper → VP, numAt_eq → VQ, pushCells → VR, pushCells_keeps → VS, seqIndex_neg → VT, seqIndex_of → VU, seq_tuple_add → VW, sizeLine_eq → VX, sliceBounds → VY, starEach → VZ, strLen_append → V0, swappedStores → V1, swapsWith → V2, swapsWithSole → V3, sysModules → V4, textFrom → V5, treeTable → V6, typeLookup → V7, wpAny_Call_Name_kw → V8, wpAny_Return_some → V9, wpAny_bind → Ua, wpAny_bindName → Ub, wpAny_call_entry → Uc, wpAny_comprehension_free → Ud, wpAny_eqBool_int → Ue, wpAny_execs_cons → Uf, wpAny_execs_nil → Ug, wpAny_field → Uh, wpAny_holding → Ui, wpAny_isSubtype_exc → Uj, wpAny_letOwnedTupleGo_enum → Uk, wpAny_loadPart' → Ul, wpAny_loadPart_at → Um, wpAny_mono → Uo, wpAny_newFunctionEnv_cells → Up, wpAny_newObj_type → Uq, wpAny_passesOwn → Ur, wpAny_pure → Us, wpAny_pyIter_enum → Ut, wpAny_pyIter_list → Uu, wpAny_pyIter_tuple → Uv, wpAny_pyNext_enum_endD → Uw, wpAny_pyNext_enum_itemD → Ux, wpAny_rule → Uy, wpAny_standAt → Uz, wpAny_truthy_bool → UA, wpAny_typeOf → UB
open PySem.F renaming args_tuple_add_2 → Ws, args_tuple_iterator_next_1 → Wt, entry_tuple_add → Wu, entry_tuple_iterator_next → Wv, plainAttrs_list → Ww, slot_list_append → Wx, slot_list_count → Wy, slot_list_index → Wz, slot_list_insert → WA, slot_list_ne_refl → WB, slot_list_pop → WC, slot_tuple_add → WD, slot_tuple_count → WE, slot_tuple_iterator_next → WF, typeOf_object_class → WG
open PySem.PyData renaming depth → WL, depthAll → WM, depthKv → WN, shown → WO, shownAll → WQ
open PySem.SeqAt renaming EqAt → WR, RcAt → WT, RcNeAt → WU, in_listAt → WV, in_tupleAt → WW, notIn_listAt → WX, notIn_tupleAt → WY
open PySem.W renaming Frag → W0, callWith_K → W1, cellsFrom_some → W2, clsIn → W3, codeIn → W4, codeRec_of → W5, findIn → W6, fnOf → W7, hideAll_get → W8, instObj → W9, kas_sort → Va, keepIn → Vb, kia_one → Vc, kitCls → Ve, kitOne → Vf, kitx_dict → Vg, kitx_list → Vh, lookIn → Vi, methodObj → Vj, mroIn → Vk, of_hideAll → Vl, plainGet → Vm, subIn → Vn
namespace Cut
open PySem PySem.W
noncomputable def qc(tb:String->Option Builtin)(p:Program)(w:World)(n₀:Nat)(ann:Option Value):Nat->Shared->Thread->Option (Shared × Thread)
 |0,s,t=>some (s,t)
 |n+1,s,t=>match through t with
  |true=>none
  |false=>match stepOk n₀ ann t with
   |false=>none
   |true=>match step (denote tb) p w s t with
    |.go s' t'=>qc tb p w n₀ ann n s' t'
    |.halt _ _=>none
theorem ye{tb:String->Option Builtin}{p:Program}{w:World}{n₀:Nat}{ann:Option Value}{m:Nat}:∀ {n:Nat} {s s':Shared} {t t':Thread},qc tb p w n₀ ann n s t=some (s',t')->topRun tb p w n₀ ann (m+n) s t=topRun tb p w n₀ ann m s' t'
 |0,s,s',t,t',h=>by cases h;rfl
 |n+1,s,s',t,t',h=>by
  rw[<-Nat.add_assoc];unfold qc at h
  conv=>lhs;unfold topRun
  cases e1:through t with
  |true=>rw[e1] at h;cases h
  |false=>
   rw[e1] at h;dsimp only at h ⊢;cases e2:stepOk n₀ ann t with
   |false=>rw[e2] at h;cases h
   |true=>
    rw[e2] at h;dsimp only at h ⊢;cases e3:step (denote tb) p w s t with
    |halt o s1=>rw[e3] at h;cases h
    |go s1 t1=>
     rw[e3] at h;exact ye h
section
variable (p:Program) (w:World)
noncomputable def s0:Shared:=(fencedOpening V6 p w 20000).getD {}
noncomputable def n0:Nat:=(s0 p w).heap.objs.size
noncomputable def an:Option Value:=(s0 p w).heap.nsMap VL "__annotations__"
noncomputable def st(n:Nat):Shared × Thread:=(qc V6 p w (n0 p w) (an p w) n (s0 p w) (topStub p)).getD (s0 p w,topStub p)
noncomputable def ent(n:String)(t:Nat)(v:Value):DictEntry:=⟨reduceHash (w.params.strHash (Str.ofString n).cps),.str (Str.ofString n) t,v⟩
noncomputable def nm:List String:=["NoMeadow", "NoSky", "NoLandings", "NoOrder", "NoLot", "NoText", "NoName", "NoGlider", "NoMinute", "NoAim", "TooMany", "Bound", "NoDeed", "NoRow"]
noncomputable def cls(x:String × Nat):List Obj:=
 let n:=Str.ofString x.1;let b:=28+12 * x.2;let t:=207+16 * x.2;let l:Int:=4+2 * x.2
 let m:=Value.str (Str.ofString "downrings.errors") 187
 let f:=fun t=>Value.str p.main.file t
 [⟨.type "tuple", none,.seq #[.ref 24] 0,#[]⟩,
   ⟨.type "builtin_function_or_method", none,.fields #[.builtin "type.__prepare__", .type "type"],#[]⟩,
   ⟨.type "dict", none,.dict #[ent w "__module__" (t+7) m,ent w "__qualname__" (t+9) (.str n (t+8)),ent w "__firstlineno__" (t+11) (.int l (t+10)),ent w "__static_attributes__" (t+12) (.ref (b+7))] 4,#[]⟩,
   ⟨.type "tuple", none,.seq #[] 0,#[]⟩,
   ⟨.none,none,.fields #[],#[]⟩,
   ⟨.type "code", none,.fields #[.str n (t+2),.str n (t+3),f (t+4),.int l 0,.int 0 0,.int 0 0,.int 0 0,.int 0 0,.ref (b+3),.bool false,.int 181 0,.ref (b+4),.none,.none,.none,.none,.int (t+5:Nat) 0,.int l 0,f (t+6)],#[]⟩,
   ⟨.type "frame", none,.plain,#[some (.ref (b+5)),some (.ref 3),some (.ref (b+2)),none,some m,none,some (.ref 0)]⟩,
   ⟨.type "tuple", none,.seq #[] 0,#[]⟩,
   ⟨.type "dict", none,.dict #[ent w "__module__" (t+7) m,ent w "__firstlineno__" (t+11) (.int l (t+10)),ent w "__static_attributes__" (t+12) (.ref (b+7)),ent w "__doc__" (t+13) .none] 2,#[]⟩,
   ⟨.type "type", none,.cls { name:=n,bases:=[.ref 24],mro:=[.ref (b+9),.ref 24,.type "ValueError", .type "Exception", .type "BaseException", .type "object"],ns:=b+8,qualname:=n },#[some (.ref b),none,some (.str n t),some (.str n (t+8)),some (.builtin "ValueError.__new__"),some (.bool true)]⟩,
   ⟨.type "super", none,.fields #[.ref (b+9),.ref (b+9),.ref (b+9)],#[]⟩,
   ⟨.type "builtin_function_or_method", none,.fields #[.builtin "object.__init_subclass__", .ref (b+9)],#[]⟩]
noncomputable def OD(o:Obj):Obj:=match o with
 |⟨c,d,.dict es n,s⟩=>⟨c,d,.dict (es++(nm.zipIdx.map fun x=>ent w x.1 (222+16 * x.2) (.ref (37+12 * x.2))).toArray) (n+14),s⟩
 |o=>o
noncomputable def LA(o:Obj):Obj:=match o with
 |⟨c,d,.fields vs,s⟩=>⟨c,d,.fields (vs++(nm.zipIdx.flatMap fun x=>[Value.int (4+2 * x.2:Nat) 0,.int 0 0,.ref (33+12 * x.2)]).toArray),s⟩
 |o=>o
noncomputable def LB(o:Obj):Obj:=match o with
 |⟨c,d,.cls k,s⟩=>⟨c,d,.cls { k with subclasses:=nm.zipIdx.map fun x=>.ref (37+12 * x.2) },s⟩
 |o=>o
noncomputable def mid:Shared:=match (st p w 208).1 with
 |⟨⟨os,l⟩,g,d,_,o⟩=>⟨⟨((((os.toList.modify 3 (OD w)).modify 12 LA).modify 24 LB)++(nm.zipIdx.flatMap (cls p w))).toArray,l⟩,g,d,431,o⟩
noncomputable def LC:Thread:=match (st p w 208).2 with
 |⟨_,.body ss env,_,k⟩=>⟨do return .done (<-(execs (ss.drop 16) env).onRaise (leaving env)),.body ss env,⟨30,0,31,8⟩,k⟩
 |t=>t
noncomputable def GL(s:Shared)(o:Option Shared):Option Shared:=bif s.gens.size == 0 && s.heap.isNs VL then (o.bind fun u=>bif laidKept s.heap u.heap && (gensDone u && (namesBound p u.heap && staticsOk (VF p.main.body) s.heap u.heap)) then some u else none) else none
end
theorem LD{tb:String->Option Builtin}{p:Program}{w:World}{N:Nat}{s:Shared}:topFrom tb p w N s=GL p s (topRun tb p w s.heap.objs.size (s.heap.nsMap VL "__annotations__") N s (topStub p)):=by
 unfold topFrom GL;rw[YY];cases s.gens.size == 0 && s.heap.isNs VL with
 |false=>rfl
 |true=>
  show We _ _=We _ _
  congr 1
  funext u
  rw[YY,YY (_ && _) (gensDone u),YY _ (namesBound p u.heap)];cases laidKept s.heap u.heap && (gensDone u && (namesBound p u.heap && staticsOk (VF p.main.body) s.heap u.heap)) <;> rfl
abbrev PartA(p:Program):Prop:=∀w,qc V6 p w (n0 p w) (an p w) 3189 (s0 p w) (topStub p)=some (mid p w,LC p w)
noncomputable def fin(p:Program)(w:World):Option Shared:=GL p (s0 p w) (topRun V6 p w (n0 p w) (an p w) 16811 (mid p w) (LC p w))
abbrev PartB(p q:Program)(loose:List Str)(Xt:Shared->Bool):Prop:=∀w,(fin p w).map (openSeen q loose (VF p.main.body) Xt true)=some (openGood q loose)
abbrev PartC(p:Program){α:Type}(Yf:Shared->α)(Ya:World->α):Prop:=∀w,(fin p w).map Yf=some (Ya w)
theorem left_cut{p q:Program}{loose:List Str}{Xt:Shared->Bool}{α:Type}{Yf:Shared->α}{Ya:World->α}(h0:∀w,(fencedOpening V6 p w 20000).isSome=true)(hA:PartA p)(hB:PartB p q loose Xt)(hC:PartC p Yf Ya):LeftO p q loose Xt Yf Ya 20000:=fun w=>by
 obtain⟨s,hs⟩:=ZU.mp (h0 w);have e0:s0 p w=s:=by unfold s0;rw[hs];rfl
 obtain⟨u,hu,e1⟩:=Option.map_eq_some_iff.mp (hB w);have e2:=hC w;rw[hu] at e2;have e2:Yf u=Ya w:=Option.some.inj e2;have a:=ye (m:=16811) (hA w);unfold fin at hu;unfold n0 an at a hu;rw[<-a,e0] at hu;unfold openEnds;rw[hs];show Option.map _ (topFrom V6 p w 20000 s)=_;rw[LD];refine(congrArg _ hu).trans ?_;show some (openSeen q loose (VF p.main.body) Xt true u,Yf u)=_;rw[e1,e2]
end Cut
namespace Lw
open PySem
noncomputable def top(i:Nat):Stmt:=PySem.Challenge.pw_downrings_k12_what_is_amiss.main.body.getD i (.Pass ⟨0,0,0,0⟩)
end Lw
section
open PySem PySem.W PyProof.Rows
noncomputable abbrev Lw.view:Program:={ PySem.Challenge.pw_downrings_k12_what_is_amiss with main:={ PySem.Challenge.pw_downrings_k12_what_is_amiss.main with body:=[Lw.top 88] } }
noncomputable abbrev Lw.loose:List PySem.Str:=List.map PySem.Str.ofString ["is_whole", "is_within", "is_minute", "is_tuple", "are_unlike", "is_meadow", "are_gaps", "is_gap_row", "no_glider_between_helps", "are_shuts", "is_stretch", "is_kind", "is_shut", "is_sky", "is_ahead", "are_gliders", "is_glider", "are_fixed", "check_sky", "amiss", "are_pairs", "is_pair", "first_amiss", "landing_amiss", "minute_amiss", "landing_ahead", "gap_end", "first_lacking", "waits_at", "how_many_wait", "joining_minutes", "first_crowded", "first_too_high", "is_too_high", "ring_needed", "_law_cell_at", "_law_pot", "_law_take", "_law_gaps", "_law_shuts", "_law_meadow", "_law_glider", "_law_mixed", "_law_sky", "_law_order", "_law_open", "_law_run", "_law_waits", "_law_need", "_law_one_amiss", "_law_amiss", "_law_landing", "_law_turned", "_law_odd", "_law_word", "_law_told", "_law_long", "LAST_MINUTE", "MOST_RINGS", "MOST_SINK", "MOST_KINDS", "MOST_GAP", "MOST_SHUTS", "MOST_GLIDERS", "MOST_WEIGHT", "MOST_LANDINGS", "RingError", "NoMeadow", "NoSky", "NoLandings", "NoOrder", "NoLot", "NoText", "NoName", "NoGlider", "NoMinute", "NoAim", "TooMany", "Bound", "NoDeed", "NoRow", "NoWay"]
set_option maxHeartbeats 0 in
theorem Lw.said:PySem.Challenge.rw_downrings_k12_what_is_amiss.wellSaid=true:=by kernel_rfl
set_option maxHeartbeats 0 in
theorem Lw.opn:∀w,(fencedOpening V6 PySem.Challenge.rw_downrings_k12_what_is_amiss.row.toRowW.prog w 20000).isSome=true:=fun w=>by kernel_rfl
set_option maxHeartbeats 0 in
theorem Lw.partA:Cut.PartA PySem.Challenge.rw_downrings_k12_what_is_amiss.row.toRowW.prog:=fun w=>by kernel_rfl
set_option maxHeartbeats 0 in
theorem Lw.partB:Cut.PartB PySem.Challenge.rw_downrings_k12_what_is_amiss.row.toRowW.prog Lw.view Lw.loose (fun s=>xlAt Lw.view [] s && recOk (RowW.records PySem.Challenge.rw_downrings_k12_what_is_amiss.row.toRowW) s):=fun w=>by kernel_rfl
end
theorem Cut.two{p:PySem.Program}{α β γ:Type}{f:PySem.Shared->α}{g:PySem.Shared->β}{a:PySem.World->α}{b:PySem.World->β}(k:α->β->γ)(h:PartC p f a)(i:PartC p g b):PartC p (fun s=>k (f s) (g s)) (fun w=>k (a w) (b w)):=fun w=>by
 obtain⟨u,hu,e1⟩:=Option.map_eq_some_iff.mp (h w);have e2:=i w;rw[hu] at e2 ⊢;have e2:=Option.some.inj e2;show some (k (f u) (g u))=_;rw[e1,e2]
namespace L2
open PySem PySem.Spec PyProof.Rows
noncomputable def ei(s:Stmt):Arguments:=match s with
 |.FunctionDef _ a _ _ _ _ _ _ _ _=>a
 |_=>{ posonlyargs:=[],args:=[],vararg:=none,kwonlyargs:=[],kw_defaults:=[],kwarg:=none,defaults:=[] }
noncomputable def bc(s:Stmt):List Stmt:=match s with
 |.FunctionDef _ _ b _ _ _ _ _ _ _=>b
 |_=>[]
noncomputable def aq(s:Stmt):Scope:=match s with
 |.FunctionDef _ _ _ _ _ _ sc _ _ _=>sc
 |_=>{ kind:=.function,names:=[],isGenerator:=false,isCoroutine:=false }
end L2
namespace Ev
open PySem PySem.Spec PyProof.Rows L2
noncomputable def fu:List Str:=["len", "isinstance", "all", "any", "tuple", "list", "max", "min", "repr", "range", "enumerate", "int", "bool", "str", "sorted", "zip"]
noncomputable def bmV:List Value:=[.type "ValueError", .type "Exception", .type "BaseException", .type "object"]
noncomputable def quN:List Str:=["__init__", "__getattribute__", "__getattr__", "__class__"]
noncomputable def fe:List Str:=["NoMeadow", "NoSky", "NoLandings", "NoOrder", "NoLot", "NoText", "NoName", "NoGlider", "NoMinute", "NoAim", "TooMany", "Bound", "NoDeed", "NoRow", "NoWay"]
abbrev vC:=(Str × Str) × (Arguments × List Stmt) × (Scope × Addr) × (List (Str × Addr) × Value) × (Addr × Option Str)
noncomputable def Gk(h:Heap):Value->Option Str
 | .ref c=>(match h.get? c with
  |some ⟨_,_,.fields vs,_⟩=>(match vs.toList with |_ :: .str n _::_=>some n |_=>none)
  | _=>none)
 |_=>none
noncomputable def MZ(h:Heap):Option Obj->Option vC
 |some ⟨_,_,.func ⟨nm,qn,ps,.stmts b,sc,gl,cl,dv,_,_,_,_,cd,_,bi⟩,_⟩=>some ((nm,qn),(ps,b),(sc,gl),(cl,dv),(bi,Gk h cd))
 |_=>none
noncomputable def DJ(h:Heap)(x:Str):Option vC:=match h.nsMap VL x with
 |some (.ref f)=>MZ h (h.get? f)
 |_=>none
noncomputable def M0(h:Heap)(x:Str):Option Int:=match h.nsMap VL x with
 |some (.int v _)=>some v
 |_=>none
noncomputable def adX(h:Heap)(x:Str):Addr:=match h.nsMap VL x with
 |some (.ref C)=>C
 |_=>0
noncomputable def DK(h:Heap)(bm:List Value)(x:Str):Bool:=match h.nsMap VL x with
 | some (.ref C)=>(match h.get? C with
  | some ⟨.type "type", _,.cls cd,sl⟩=>(match cd.mro,sl.toList with
   |.ref C'::bm',[_,_,_,_,some (.builtin n),_]=>C' == C && bm' == bm && n == "ValueError.__new__" && !cd.hasDel && h.isNs cd.ns && quN.all fun q=>(h.nsMap cd.ns q).isNone
   | _,_=>false)
  | _=>false)
 |_=>false
noncomputable def IS(h:Heap)(x:Str):Bool:=match h.nsMap VL x with
 | some (.ref C)=>(match h.get? C with
  |some ⟨.type "type", _,.cls _,_⟩=>true
  | _=>false)
 |_=>false
noncomputable def IT:List Nat->Bool
 |[]=>true
 |a::l=>!(l.contains a) && IT l
noncomputable def IU(h:Heap):Bool:=DK h bmV "RingError" && (fe.take 14).all (DK h (.ref (adX h "RingError")::bmV)) && fe.all (IS h) && IT (adX h "RingError" :: fe.map (adX h)) && (h.nsMap VL "ValueError").isNone
end Ev
namespace Lw
open PySem
noncomputable def con:List (Str × Int):=[("LAST_MINUTE", 9999),("MOST_RINGS", 8),("MOST_SINK", 60),("MOST_KINDS", 4),("MOST_GAP", 99),("MOST_SHUTS", 4),("MOST_GLIDERS", 7),("MOST_WEIGHT", 99),("MOST_LANDINGS", 20)]
noncomputable def nx:List (String × Nat):=[("is_whole", 19),("is_within", 20),("is_minute", 21),("is_tuple", 22),("are_unlike", 23),("is_meadow", 30),("are_gaps", 31),("is_gap_row", 32),("no_glider_between_helps", 33),("are_shuts", 34),("is_stretch", 35),("is_kind", 36),("is_shut", 37),("is_sky", 41),("is_ahead", 42),("are_gliders", 43),("is_glider", 44),("are_fixed", 45),("check_sky", 46),("amiss", 49),("are_pairs", 50),("is_pair", 51),("first_amiss", 52),("landing_amiss", 53),("minute_amiss", 54),("landing_ahead", 55),("gap_end", 56),("first_lacking", 57),("waits_at", 58),("how_many_wait", 59),("joining_minutes", 60),("first_crowded", 61),("first_too_high", 62),("is_too_high", 63),("ring_needed", 64),("_law_cell_at", 66),("_law_pot", 67),("_law_take", 68),("_law_gaps", 69),("_law_shuts", 70),("_law_meadow", 71),("_law_glider", 72),("_law_mixed", 73),("_law_sky", 74),("_law_order", 75),("_law_open", 76),("_law_run", 77),("_law_waits", 78),("_law_need", 79),("_law_one_amiss", 80),("_law_amiss", 81),("_law_landing", 82),("_law_turned", 83),("_law_odd", 84),("_law_word", 85),("_law_told", 86),("_law_long", 87),("law", 88)]
noncomputable def ob(l:List (String × Nat))(s:Shared):=l.map fun x=>Ev.DJ s.heap (.ofString x.1)
noncomputable def vb(l:List (String × Nat)):List (Option Ev.vC):=l.map fun x=>let n:=Str.ofString x.1;some ((n,n),(L2.ei (top x.2),L2.bc (top x.2)),(L2.aq (top x.2),VL),([],.none),(Vu,some n))
set_option maxHeartbeats 0 in
theorem partC1:Cut.PartC PySem.Challenge.rw_downrings_k12_what_is_amiss.row.toRowW.prog (ob (nx.take 40)) (fun _=>vb (nx.take 40)):=fun w=>by kernel_rfl
set_option maxHeartbeats 0 in
theorem partC2:Cut.PartC PySem.Challenge.rw_downrings_k12_what_is_amiss.row.toRowW.prog (fun s=>(s.heap.isNs VL,ob (nx.drop 40) s,con.map (fun c=>Ev.M0 s.heap c.1),(Ev.fu.map fun x=>(s.heap.nsMap VL x).isNone),Ev.IU s.heap)) (fun _=>(true,vb (nx.drop 40),con.map (fun c=>some c.2),(Ev.fu.map fun _=>true),true)):=fun w=>by kernel_rfl
end Lw
theorem gEG{α:Type _}{l:List α}{i:Nat}(h:i < l.length):l[i]?=some l[i]:=List.getElem?_eq_getElem h
theorem bAE(a b:Bool):((a && b)=true)=(a=true/\b=true):=Bool.and_eq_true a b
namespace L2
open PySem PySem.Spec PyProof.Rows
abbrev Key:=Sum Int Str
noncomputable def mP:Key->Value->Bool
 |.inl k,v=>Value.isInt k v
 |.inr x,v=>Value.isStrOf x v
noncomputable def OE(w:World):Key->Int
 |.inl k=>hashInt k
 |.inr x=>hashStr w x
theorem aX:∀ {k:Key} {v:Value},mP k v=true->(∃i t,k=Sum.inl i/\v=Value.int i t)\/(∃x t,k=Sum.inr x/\v=Value.str x t)
 |.inl i,v,h=>by
  obtain⟨t,e⟩:=Value.isInt_shape (k:=i) (v:=v) h;exact .inl ⟨i,t,rfl,e⟩
 |.inr x,v,h=>by
  obtain⟨t,e⟩:=Value.isStrOf_shape (x:=x) (v:=v) h;exact .inr ⟨x,t,rfl,e⟩
theorem v5(i:Int)(t:Tok):mP (.inl i) (.int i t)=true:=by simp[mP,Value.isInt]
theorem v7(x:Str)(t:Tok):mP (.inr x) (.str x t)=true:=by simp[mP,Value.isStrOf]
theorem GM(a b:Int):decide ((Sum.inl a:Key)=Sum.inl b)=(a == b):=by
 by_cases e:a=b
 ·subst e;simp
 ·have h:¬ (Sum.inl a:Key)=Sum.inl b:=fun q=>e (Sum.inl.inj q);rw[decide_eq_false h];exact(beq_eq_false_iff_ne.mpr e).symm
theorem GN(a b:Str):decide ((Sum.inr a:Key)=Sum.inr b)=decide (a=b):=by
 by_cases e:a=b
 ·subst e;simp
 ·have h:¬ (Sum.inr a:Key)=Sum.inr b:=fun q=>e (Sum.inr.inj q);rw[decide_eq_false h,decide_eq_false e]
theorem GO(a:Int)(b:Str):decide ((Sum.inl a:Key)=Sum.inr b)=false:=decide_eq_false (fun q=>nomatch q)
theorem GP(a:Str)(b:Int):decide ((Sum.inr a:Key)=Sum.inl b)=false:=decide_eq_false (fun q=>nomatch q)
noncomputable def bP(prog:Program)(w:World):PySem.KeyKind prog w Key where
 is:=mP
 hash:=OE w
 inj:=fun v a b ha hb=>by
  rcases aX ha with ⟨i,t,rfl,rfl⟩ |⟨x,t,rfl,rfl⟩
  ·rcases aX hb with ⟨j,u,rfl,e⟩ |⟨y,u,rfl,e⟩
   ·injection e with e1 _;rw[e1]
   ·exact nomatch e
  ·rcases aX hb with ⟨j,u,rfl,e⟩ |⟨y,u,rfl,e⟩
   ·exact nomatch e
   ·injection e with e1 _;rw[e1]
 byValue:=fun k v h=>by
  rcases aX h with ⟨i,t,rfl,rfl⟩ |⟨x,t,rfl,rfl⟩ <;> rfl
 pyHash:=fun hv h=>by
  rcases aX hv with ⟨i,t,rfl,rfl⟩ |⟨x,t,rfl,rfl⟩
  ·exact wpAny_pyHash_int h
  ·exact wpAny_pyHash_str h
 eqBool:=fun hu hv h=>by
  rcases aX hu with ⟨i,t,rfl,rfl⟩ |⟨x,t,rfl,rfl⟩
  ·rcases aX hv with ⟨j,u,rfl,rfl⟩ |⟨y,u,rfl,rfl⟩
   ·rw[GM] at h;exact Ue h
   ·rw[GO] at h;exact SeqAt.EqAt.int_str i t y u _ _ _ _ h
  ·rcases aX hv with ⟨j,u,rfl,rfl⟩ |⟨y,u,rfl,rfl⟩
   ·rw[GP] at h;exact SeqAt.EqAt.str_int x t j u _ _ _ _ h
   ·rw[GN] at h;exact wpAny_eqBool_str h
 «strs»:=fun k x t v h=>by
  rcases aX h with ⟨i,u,rfl,e⟩ |⟨y,u,rfl,e⟩
  ·exact nomatch e
  ·injection e with e1 _;subst e1;cases v <;> rfl
theorem qd(prog:Program)(w:World)(i:Int)(t:Tok):(bP prog w).is (.inl i) (.int i t)=true:=v5 i t
theorem qe(prog:Program)(w:World)(x:Str)(t:Tok):(bP prog w).is (.inr x) (.str x t)=true:=v7 x t
inductive V where
 |non |bl (b:Bool) |int (i:Int) |str (x:Str) |byt (b:Array UInt8) |flt (b:UInt64) |ref (a:Addr) |ty (n:String)
 deriving DecidableEq
def aF:V->Value->Prop
 |.non,u=>u=Value.none
 |.bl b,u=>u=Value.bool b
 |.int i,u=>∃t,u=Value.int i t
 |.str x,u=>∃t,u=Value.str x t
 |.byt b,u=>∃t,u=Value.bytes b t
 |.flt b,u=>∃t,u=Value.float b t
 |.ref a,u=>u=Value.ref a
 |.ty n,u=>u=Value.type n
abbrev aJ:List V->List Value->Prop:=Paired aF
theorem aJ.length{xs:List V}{us:List Value}(r:aJ xs us):xs.length=us.length:=Paired.length r
theorem aJ.get:∀ {xs:List V} {us:List Value} {i:Nat} {x:V},aJ xs us->xs[i]?=some x->∃u,us[i]?=some u/\aF x u
 |_,_,_,_,.nil,e=>by simp at e
 |_,_,0,_,.cons r _,e=>by simp at e;subst e;exact⟨_,rfl,r⟩
 |_,_,i+1,x,.cons _ t,e=>by
  obtain⟨u,h1,h2⟩:=aJ.get (i:=i) (x:=x) t (by simpa using e);exact⟨u,by simpa using h1,h2⟩
theorem aJ.set{x:V}{u:Value}(r:aF x u):∀ {xs:List V} {us:List Value} (i:Nat),aJ xs us->aJ (xs.set i x) (us.set i u)
 |_,_,_,.nil=>.nil
 |_,_,0,.cons _ t=>.cons r t
 |_,_,i+1,.cons q t=>.cons q (aJ.set r i t)
theorem aJ.append:∀ {xs ys:List V} {us ws:List Value},aJ xs us->aJ ys ws->aJ (xs++ys) (us++ws)
 |_,_,_,_,.nil,s=>s
 |_,_,_,_,.cons r t,s=>.cons r (aJ.append t s)
theorem aJ.take:∀ {xs:List V} {us:List Value} (n:Nat),aJ xs us->aJ (xs.take n) (us.take n)
 |_,_,0,_=>.nil
 |_,_,_+1,.nil=>.nil
 |_,_,n+1,.cons r t=>.cons r (aJ.take n t)
theorem aJ.drop:∀ {xs:List V} {us:List Value} (n:Nat),aJ xs us->aJ (xs.drop n) (us.drop n)
 |_,_,0,r=>r
 |_,_,_+1,.nil=>.nil
 |_,_,n+1,.cons _ t=>aJ.drop n t
def GQ:Option V->Option Value->Prop
 |some v,some u=>aF v u
 |none,none=>True
 |_,_=>False
def KV{κ:Type}:List (κ × V)->List (κ × Value)->Prop:=Paired fun(p:κ × V) (q:κ × Value)=>p.1=q.1/\aF p.2 q.2
noncomputable def kV:Key->V
 |.inl i=>.int i
 |.inr x=>.str x
def oC(h:Heap)(a:Addr)(items:Array Value):Prop:=∃o,h.get? a=some o/\o.cls = .type "tuple"/\∃n,o.data = .seq items n/\o.dict=none
theorem oC.isTup(x:oC h a items):IsTup h a items:=let ⟨o,e,c,n,d,_⟩:=x;⟨o,e,c,n,d⟩
theorem oC.lt(x:oC h a items):a < h.objs.size:=x.isTup.lt
theorem oC.new(h:Heap)(items:Array Value):oC (h.push { cls:=.type "tuple", data:=.seq items }) h.objs.size items:=⟨_,ZE _ rfl,rfl,_,rfl,rfl⟩
inductive HO where
  |lst (xs:List V)
  |tup (xs:List V)
  |dK (kvs:List (Key × V)) |dT (kvs:List (List Key × V))
  |set (S:Int->Bool) (n:Nat)
  |ins (C dx:Addr) (fs:List (Str × V))
  |own (x:Addr)
  |xd (fs:List (Str × V))
  |met (f x:Addr)
  |rng (lo hi:Int)
  |frz (o:Obj) (u:HO)
  |tbl (ps:Array Value)
  |ext (φ:Heap->Prop)
abbrev Hp:=Addr->Option HO
noncomputable def upd(H:Hp)(a:Addr)(o:HO):Hp:=fun b=>if b=a then some o else H b
theorem aH{H:Hp}{a:Addr}{o:HO}:upd H a o a=some o:=by unfold upd;rw[if_pos rfl]
theorem az{H:Hp}{a b:Addr}{o:HO}(h:b ≠ a):upd H a o b=H b:=by unfold upd;rw[if_neg h]
theorem ux:upd (upd H a o) a u=upd H a u:=by
 funext b;unfold upd;split <;> rfl
theorem aK{H:Hp}{a b:Addr}{o:HO}(h:H a=some o)(h':H b=none):a ≠ b:=by
 intro e;subst e;rw[h] at h';cases h'
section
variable (P:Program) (w:World)
def bf(H:Hp)(h:Heap)(a:Addr):HO->Prop
 |.lst xs=>xs.length<=sizeLine/\∃ (its:List Value) (n:Nat),aJ xs its/\h.get? a=some { cls:=.type "list", data:=.seq its.toArray n }
 |.tup xs=>xs.length<=sizeLine/\∃its:List Value,aJ xs its/\oC h a its.toArray
 |.dK kvs=>kvs.length<=sizeLine/\(a == V4)=false/\∃vs,KV kvs vs/\h.DictOf (bP P w) a vs
 |.dT kvs=>kvs.length<=sizeLine/\(a == V4)=false/\∃xs:List (List Key × Addr × Value),
   Paired (fun(p:List Key × V) (q:List Key × Addr × Value)=>p.1=q.1/\H q.2.1=some (.tup (p.1.map kV))/\aF p.2 q.2.2) kvs xs ∧
   ∃o es ep,h.get? a=some o/\o.ExactDict/\o.data = .dict es ep/\es.toList=xs.map (entryOfKey (tupleKind (bP P w)))/\(xs.map (·.1)).Nodup
 |.set S n=>h.SetOf (intKind P w) a S n
 |.ins C dx fs=>H dx=some (.own a)/\fs.length<=1000/\dx ≠ a/\h.get? a=some (W9 C dx) ∧
   ∃mA,h.Ns1 dx mA/\(∀f,GQ (fs.lookup f) (mA f))/\PySem.Within mA (fs.map (·.1))
 |.own _=>∃o,h.get? a=some o
 |.xd fs=>∃mA,h.Ns1 a mA/\∀f,GQ (fs.lookup f) (mA f)
 |.rng lo hi=>∃t u v,h.get? a=some { cls:=.type "range", data:=.fields #[.int lo t,.int hi u,.int 1 v] }
 |.frz o u=>h.get? a=some o/\bf H h a u
 |.tbl ps=>h.get? a=some { cls:=.none,data:=.fields ps }
 |.met f x=>h.get? a=some (Vj (.ref f) (.ref x))
 |.ext φ=>φ h/\(∃o,h.get? a=some o)/\∀h1 h2:Heap,φ h1->(∀o,h1.get? a=some o->h2.get? a=some o)->φ h2
def HOk(H:Hp)(h:Heap):Prop:=∀a o,H a=some o->bf P w H h a o
end
section
variable {P:Program} {w:World} {H H':Hp} {h h':Heap} {a:Addr} {o:HO}
theorem bf.lt(x:bf P w H h a o):a < h.objs.size:=by
 cases o with
 |lst xs=>obtain⟨_,_,_,_,e⟩:=x;exact Zq e
 |tup xs=>obtain⟨_,_,_,p⟩:=x;exact p.lt
 |dK kvs=>obtain⟨_,_,_,_,o,_,_,e,_⟩:=x;exact Zq e
 |dT kvs=>obtain⟨_,_,_,_,o,_,_,e,_⟩:=x;exact Zq e
 |set S n=>obtain⟨o,_,_,_,e,_⟩:=x;exact Zq e
 |ins C dx fs=>obtain⟨_,_,_,e,_⟩:=x;exact Zq e
 |own y=>obtain⟨_,e⟩:=x;exact Zq e
 |xd fs=>obtain⟨_,⟨_,_,_,e,_⟩,_⟩:=x;exact Zq e
 |rng lo hi=>obtain⟨_,_,_,e⟩:=x;exact Zq e
 |frz ob u=>obtain⟨e,_⟩:=x;exact Zq e
 |tbl ps=>exact Zq (show h.get? a=some _ from x)
 |met f y=>exact Zq (show h.get? a=some _ from x)
 |ext φ=>obtain⟨_,⟨_,e⟩,_⟩:=x;exact Zq e
theorem Paired.mapP{α β:Type}{F G:α->β->Prop}:∀ {l₁:List α} {l₂:List β},Paired F l₁ l₂->(∀a b,F a b->G a b)->Paired G l₁ l₂
 |_,_,.nil,_=>.nil
 |_,_,.cons r t,f=>.cons (f _ _ r) (Paired.mapP t f)
theorem bf.stay(x:bf P w H h a o)(k:∀b u,(b=a\/H b=some (.own a))->h.get? b=some u->h'.get? b=some u)
  (ho:∀b,H b=some (.own a)->H' b=some (.own a)) (ht:∀b xs,H b=some (.tup xs)->H' b=some (.tup xs)):bf P w H' h' a o:=by
 induction o with
 |lst xs=>obtain⟨z,its,n,r,e⟩:=x;exact⟨z,its,n,r,k _ _ (.inl rfl) e⟩
 |tup xs=>obtain⟨z,its,r,ob,e,c⟩:=x;exact⟨z,its,r,ob,k _ _ (.inl rfl) e,c⟩
 |dK kvs=>obtain⟨z,y,vs,r,ob,es,ep,e,c⟩:=x;exact⟨z,y,vs,r,ob,es,ep,k _ _ (.inl rfl) e,c⟩
 |dT kvs=>
  obtain⟨z,y,xs,r,ob,es,ep,e,c⟩:=x;exact⟨z,y,xs,Paired.mapP r fun p q z=>⟨z.1,ht _ _ z.2.1,z.2.2⟩,ob,es,ep,k _ _ (.inl rfl) e,c⟩
 |set S n=>obtain⟨ob,es,ep,t,e,c⟩:=x;exact⟨ob,es,ep,t,k _ _ (.inl rfl) e,c⟩
 |ins C dx fs=>
  obtain⟨d,z,ne,e,mA,⟨od,es,ep,e2,c⟩,r⟩:=x;exact⟨ho _ d,z,ne,k _ _ (.inl rfl) e,mA,⟨od,es,ep,k _ _ (.inr d) e2,c⟩,r⟩
 |own y=>obtain⟨ob,e⟩:=x;exact⟨ob,k _ _ (.inl rfl) e⟩
 |xd fs=>obtain⟨mA,⟨od,es,ep,e,c⟩,r⟩:=x;exact⟨mA,⟨od,es,ep,k _ _ (.inl rfl) e,c⟩,r⟩
 |rng lo hi=>obtain⟨t,u,v,e⟩:=x;exact⟨t,u,v,k _ _ (.inl rfl) e⟩
 |frz ob u ih=>obtain⟨e,q⟩:=x;exact⟨k _ _ (.inl rfl) e,ih q⟩
 |tbl ps=>
  have e:h.get? a=some { cls:=.none,data:=.fields ps }:=x;show h'.get? a=some { cls:=.none,data:=.fields ps };exact k a _ (.inl rfl) e
 |met f y=>
  have e:h.get? a=some (Vj (.ref f) (.ref y)):=x;show h'.get? a=some (Vj (.ref f) (.ref y));exact k a _ (.inl rfl) e
 |ext φ=>obtain⟨p,⟨o,e⟩,st⟩:=x;exact⟨st _ _ p fun o q=>k _ _ (.inl rfl) q,⟨o,k _ _ (.inl rfl) e⟩,st⟩
theorem HOk.lt(x:HOk P w H h)(e:H a=some o):a < h.objs.size:=(x a o e).lt
theorem HOk.fresh(x:HOk P w H h)(e:h.objs.size<=a):H a=none:=by
 cases q:H a with
 |none=>rfl
 |some u=>exact absurd (Zu (x.lt q) e) (ZO _)
theorem HOk.kept(x:HOk P w H h)(k:∀b u,h.get? b=some u->h'.get? b=some u):HOk P w H h':=fun a o e=>
 (x a o e).stay (fun b u _ q=>k b u q) (fun _ q=>q) fun _ _ q=>q
theorem HOk.laid(x:HOk P w H h)(k:∀b u,h.get? b=some u->h'.get? b=some u)(hp:h.objs.size<=a)(new:bf P w (upd H a o) h' a o):HOk P w (upd H a o) h':=fun b u e=>by
 have hn:=x.fresh hp;by_cases hb:b=a
 ·subst hb;rw[aH] at e;cases e;exact new
 ·rw[az hb] at e;exact(x b u e).stay (fun c v _ q=>k c v q) (fun c q=>by rw[az (aK q hn)];exact q) fun c xs q=>by rw[az (aK q hn)];exact q
end
def Rd(H:Hp)(a:Addr)(u:HO):Prop:=H a=some u\/∃o,H a=some (.frz o u)
theorem Rd.ok{P:Program}{w:World}{H:Hp}{h:Heap}{a:Addr}{u:HO}(r:Rd H a u)(x:HOk P w H h):bf P w H h a u:=by
 rcases r with r |⟨o,r⟩
 ·exact x a u r
 ·obtain⟨_,q⟩:=x a _ r;exact q
def Mut:Option HO->Prop
 |some (.lst _)=>True
 |some (.dK _)=>True
 |some (.dT _)=>True
 |some (.set _ _)=>True
 |some (.ins _ _ _)=>True
 |some (.ext _)=>True
 |_=>False
section
variable {P:Program} {w:World} {H:Hp} {h h':Heap} {x e:Addr} {o':HO}
theorem HOk.write(ok:HOk P w H h)(mu:Mut (H x))(he:e=x\/H e=some (.own x))(k:∀b u,b ≠ e->h.get? b=some u->h'.get? b=some u)(heo:∃u,h'.get? e=some u)
  (new:bf P w (upd H x o') h' x o'):HOk P w (upd H x o') h':=fun b u q=>by
 have nown:∀c y,H c=some (.own y)->c ≠ x:=fun c y r z=>by subst z;rw[r] at mu;exact mu
 have ntup:∀c xs,H c=some (.tup xs)->c ≠ x:=fun c xs r z=>by subst z;rw[r] at mu;exact mu
 by_cases hb:b=x
 ·subst hb;rw[aH] at q;cases q;exact new
 ·rw[az hb] at q;by_cases hbe:b=e
  ·have q':H b=some (.own x):=by
    rcases he with z |z
    ·exact absurd (hbe.trans z) hb
    ·rw[hbe];exact z
   rw[q] at q';cases q';obtain⟨v,hv⟩:=heo;exact⟨v,by rw[hbe];exact hv⟩
  ·refine(ok b u q).stay (fun c v hc r=>k c v ?_ r) (fun c r=>by rw[az (nown c b r)];exact r) fun c xs r=>by rw[az (ntup c xs r)];exact r
   rcases hc with rfl |hc
   ·exact hbe
   ·rintro rfl;rcases he with z |z
    ·exact nown c b hc z
    ·rw[hc] at z;cases z;exact hb rfl
end
structure Un(fs ex:List Addr)(H H':Hp)(h h':Heap):Prop where
 keep:∀b o,h.get? b=some o->H b=none->b ∉ fs->b ∉ ex->h'.get? b=some o
 slot:∀b o,h.get? b=some o->H b=none->b ∈ fs->b ∉ ex->∃sl,h'.get? b=some { o with slots:=sl }
 free:∀b o,h.get? b=some o->H b=none->b ∉ ex->H' b=none
 there:∀b o,h.get? b=some o->b ∉ ex->∃o',h'.get? b=some o'
 tups:∀b xs,H b=some (.tup xs)->H' b=some (.tup xs)
 frzs:∀b o u,H b=some (.frz o u)->H' b=some (.frz o u)
 tbls:∀b ps,H b=some (.tbl ps)->∃more,H' b=some (.tbl (ps++more))
section
variable {fs fs' ex ex':List Addr} {H H1 H2:Hp} {h h1 h2 h':Heap} {a x e:Addr} {o:HO}
theorem Un.any(u:Un fs ex H H1 h h1){b:Addr}{ob:Obj}(q:h.get? b=some ob)(n:H b=none)(hx:b ∉ ex):∃sl,h1.get? b=some { ob with slots:=sl }:=by
 by_cases hb:b ∈ fs
 ·exact u.slot b ob q n hb hx
 ·exact⟨ob.slots,u.keep b ob q n hb hx⟩
theorem Un.kept(k:∀b u,h.get? b=some u->h'.get? b=some u):Un fs ex H H h h':=
 ⟨fun b ob q _ _ _=>k b ob q,fun b ob q _ _ _=>⟨ob.slots,k b ob q⟩,fun _ _ _ n _=>n,fun b ob q _=>⟨ob,k b ob q⟩,fun _ _ q=>q,fun _ _ _ q=>q,fun _ ps q=>⟨#[],by rw[q];simp⟩⟩
theorem Un.refl:Un fs ex H H h h:=Un.kept fun _ _ q=>q
theorem Un.laid(k:∀b u,h.get? b=some u->h'.get? b=some u)(hp:h.objs.size<=a)(hn:H a=none):Un fs ex H (upd H a o) h h' where
 keep:=fun b u q _ _ _=>k b u q
 slot:=fun b u q _ _ _=>⟨u.slots,k b u q⟩
 free:=fun b u q n _=>by rw[az (ZA (Zu (Zq q) hp))];exact n
 there:=fun b u q _=>⟨u,k b u q⟩
 tups:=fun b xs q=>by rw[az (aK q hn)];exact q
 frzs:=fun b u xs q=>by rw[az (aK q hn)];exact q
 tbls:=fun b ps q=>⟨#[],by rw[az (aK q hn),q];simp⟩
theorem Un.write(mu:Mut (H x))(he:e=x\/H e=some (.own x))(k:∀b u,b ≠ e->h.get? b=some u->h'.get? b=some u)(heo:∃u,h'.get? e=some u):Un fs ex H (upd H x o) h h':=by
 have hx:∀b,H b=none->b ≠ x:=fun b n z=>by subst z;rw[n] at mu;exact mu
 have hb:∀b,H b=none->b ≠ e:=fun b n z=>by
  subst z;rcases he with r |r
  ·exact hx b n r
  ·rw[n] at r;cases r
 have hm:∀b u,H b=some u->¬ Mut (some u)->b ≠ x:=fun b u q nm z=>by subst z;rw[q] at mu;exact nm mu
 refine⟨fun b u q n _ _=>k b u (hb b n) q,fun b u q n _ _=>⟨u.slots,k b u (hb b n) q⟩,fun b u q n _=>by rw[az (hx b n)];exact n,fun b u q _=>?_,
  fun b xs q=>by rw[az (hm b _ q fun z=>z)];exact q,fun b u xs q=>by rw[az (hm b _ q fun z=>z)];exact q,fun b ps q=>⟨#[],by rw[az (hm b _ q fun z=>z),q];simp⟩⟩
 by_cases hbe:b=e
 ·subst hbe;exact heo
 ·exact⟨u,k b u hbe q⟩
end
noncomputable def trk(h:Heap)(H:Hp):List Addr:=(Zj h.objs.size).filter fun a=>(H a).isSome
noncomputable def oD(h:Heap)(H:Hp):Heap:=PySem.W.hideAll h (trk h H)
theorem v8(h:Heap)(H:Hp):(oD h H).objs.size=h.objs.size:=PySem.W.hideAll_size _ _
theorem yf(e:h.get? b=some o)(n:H b=none):(oD h H).get? b=some o:=
 W8 _ e fun hm=>by
  have q:(H b).isSome=true:=(ZY.mp hm).2;rw[n] at q;simp at q
theorem B4(e:(oD h H).get? b=some o):h.get? b=some o/\H b=none:=by
 have e':h.get? b=some o:=Vl (trk h H) e;refine⟨e',?_⟩;cases q:H b with
 |none=>rfl
 |some x=>
  have hm:b ∈ trk h H:=ZY.mpr ⟨Z2.mpr (Zq e'),by simp[q]⟩;have z:(oD h H).get? b=none:=PySem.W.hideAll_none (trk h H) hm;rw[z] at e;cases e
structure Mod(K:W0)(mg:Str->Option Value)(base:Heap):Prop where
 kin:K.In base
 glob:base.Ns VL mg
 blt:∃mb,base.Ns Vu mb/\∀x:Str,x ≠ "__name__"->mb x=Vt x
 nolimit:base.NoLimit
structure Cx where
 prog:Program
 w:World
 K:W0
 mg:Str->Option Value
 base:Heap
 A:Around
 N:List Str
 s₀:Shared
 H₀:Hp
 env:Env
 outer:List Env
 stack:List Env
 ex:List Addr
 fn:Str->Bool
 calm:Bool
 pn:List (Addr × Obj)
 xe:Value->Shared->Prop
noncomputable def frs(l:List Env):List Addr:=l.filterMap (·.frame)
noncomputable abbrev Cx.fs(X:Cx):List Addr:=frs X.outer
def Vis(sc:Scope)(x:Str):Prop:=sc.names.lookup x=some .local\/sc.names.lookup x=some .cell\/sc.names.lookup x=some .free
def Loc(sc:Scope)(x:Str):Prop:=sc.names.lookup x=some .local\/sc.names.lookup x=some .cell
def OG(env:Env)(h:Heap)(m:Str->Option Value)(x:Str)(u:Value):Prop:=
 (env.kindOf x=some .local/\m x=some u)\/((env.kindOf x=some .cell\/env.kindOf x=some .free)/\∃c,env.cells.lookup x=some c/\h.IsCell c (some u))
structure Cx.Ok(X:Cx):Prop where
 mod:Mod X.K X.mg X.base
 kind:X.env.scope.kind = .function
 glob:X.env.globals=VL
 blt:X.env.builtins=Vu
 above:X.s₀.heap.objs.size<=X.env.locals
 inj:∀x y c,X.env.cells.lookup x=some c->X.env.cells.lookup y=some c->x=y
 has:∀x,(X.env.kindOf x=some .cell\/X.env.kindOf x=some .free)->∃c,X.env.cells.lookup x=some c
 cab:∀x c,X.fn x=true->X.env.cells.lookup x=some c->X.s₀.heap.objs.size<=c
 hd:X.calm=true->X.A.handled=none
 frames:X.A.frames=some X.stack
 stk:X.stack=X.outer\/(X.stack=X.env::X.outer/\X.env.frame=some X.env.locals)
 exf:∀b ∈ X.ex,b ≠ X.env.locals/\∀x c,X.env.cells.lookup x=some c->c ≠ b
 bs:∀b o,X.base.get? b=some o->X.s₀.heap.get? b=some o/\X.H₀ b=none
 bsz:X.base.objs.size<=X.s₀.heap.objs.size
 noex:∀b o,X.base.get? b=some o->b ∉ X.ex
 exfs:∀b ∈ X.ex,b ∉ X.fs
 funs:X.s₀.heap.FunFrames X.base X.outer
 frf:∀b ∈ X.fs,X.H₀ b=none
structure Inv(X:Cx)(pins:List (Addr × Obj))(σ:List (Option V))(H:Hp)(s:Shared):Prop where
 ok:X.Ok
 os:s.os=X.s₀.os
 bare:AllBare s.gens
 base:Un X.fs X.ex X.H₀ H X.s₀.heap s.heap
 loc:∃m,s.heap.Ns X.env.locals m/\∀ (i:Nat) (x:Str) (v:V),X.N[i]?=some x->σ[i]?=some (some v)->Vis X.env.scope x->∃u,aF v u/\OG X.env s.heap m x u
 cell:∀x c,X.env.cells.lookup x=some c->∃v,s.heap.IsCell c v
 free:H X.env.locals=none
 freeC:∀x c,X.env.cells.lookup x=some c->H c=none
 pin:∀p ∈ X.pn++pins,s.heap.get? p.1=some p.2/\H p.1=none/\p.1 ≠ X.env.locals/\p.1 ∉ X.fs/\∀v,p.2.data ≠ .cell v
 hok:HOk X.prog X.w H s.heap
 len:σ.length=X.N.length
section
variable {X:Cx} {pins:List (Addr × Obj)} {σ:List (Option V)} {H H':Hp} {s:Shared} {h':Heap}
theorem Cx.Ok.nofr(ok:X.Ok)(e:X.base.get? b=some o):b ∉ X.fs:=fun hb=>by
 have:=(ok.funs.mem hb).1;rw[e] at this;cases this
theorem Inv.bs(I:Inv X pins σ H s):∀b o,X.base.get? b=some o->s.heap.get? b=some o/\H b=none:=fun b o e=>
 ⟨I.base.keep b o (I.ok.bs b o e).1 (I.ok.bs b o e).2 (I.ok.nofr e) (I.ok.noex b o e),I.base.free b o (I.ok.bs b o e).1 (I.ok.bs b o e).2 (I.ok.noex b o e)⟩
theorem Inv.bk(I:Inv X pins σ H s):∀b o,X.base.get? b=some o->s.heap.get? b=some o:=fun b o e=>(I.bs b o e).1
theorem Inv.mod(I:Inv X pins σ H s):Mod X.K X.mg X.base:=I.ok.mod
theorem Inv.kIn(I:Inv X pins σ H s):X.K.In s.heap:=I.ok.mod.kin.keeps I.bk
theorem Inv.lt(I:Inv X pins σ H s):X.env.locals < s.heap.objs.size:=let ⟨_,hn,_⟩:=I.loc;hn.lt
theorem Inv.sz(I:Inv X pins σ H s):X.s₀.heap.objs.size<=s.heap.objs.size:=ZF I.ok.above (Y2 I.lt)
theorem Inv.nofs(I:Inv X pins σ H s)(h:s.heap.objs.size<=a):a ∉ X.fs:=fun hb=>by
 obtain⟨_,o,ho,_⟩:=I.ok.funs.mem hb;exact absurd (Zu (Zq ho) (ZF I.sz h)) (ZO _)
theorem Inv.cne(I:Inv X pins σ H s):∀x c,X.env.cells.lookup x=some c->c ≠ X.env.locals:=fun x c e z=>by
 obtain⟨v,o,ho,hd⟩:=I.cell x c e;obtain⟨m,⟨o',es,ep,ho',hd',_⟩,_⟩:=I.loc;rw[z,ho'] at ho;cases ho;rw[hd'] at hd;cases hd
theorem Inv.funs(I:Inv X pins σ H s):s.heap.FunFrames X.base X.outer:=by
 have all:∀ (l:List Env),(∀b ∈ frs l,b ∈ X.fs)->X.s₀.heap.FunFrames X.base l->s.heap.FunFrames X.base l:=by
  intro l
  induction l with
  |nil=>intro _ _;trivial
  |cons env r ih=>
   intro hs hl;obtain⟨hk,⟨L,o,hf,hn,ho,hd⟩,hr⟩:=hl;have hL:L ∈ X.fs:=hs L (by unfold frs;rw[YM,hf];exact Zi);obtain⟨sl,e⟩:=I.base.slot L o ho (I.ok.frf L hL) hL fun z=>I.ok.exfs L z hL;exact⟨hk,⟨L,_,hf,hn,e,hd⟩,ih (fun b hb=>hs b (by unfold frs;rw[YM,hf];exact Zg _ hb)) hr⟩
 exact all X.outer (fun _ hb=>hb) I.ok.funs
theorem Inv.stack(I:Inv X pins σ H s):s.heap.FunFrames X.base X.stack:=by
 rcases I.ok.stk with e |⟨e,hf⟩
 ·rw[e];exact I.funs
 ·rw[e];obtain⟨m,hn,_⟩:=I.loc;refine .cons (by rw[I.ok.kind];decide) hf hn ?_ I.funs;exact Heap.get?_none_of_le (ZF I.ok.bsz I.ok.above)
theorem Inv.stkSub(I:Inv X pins σ H s):∀b ∈ frs X.stack,b ∈ X.env.locals::X.fs:=fun b hb=>by
 rcases I.ok.stk with e |⟨e,hf⟩
 ·rw[e] at hb;exact Zg _ hb
 ·rw[e] at hb;unfold frs at hb;rw[YM,hf] at hb;exact hb
theorem Inv.stkFree(I:Inv X pins σ H s):∀b ∈ frs X.stack,H b=none:=fun b hb=>by
 rcases Zm.mp (I.stkSub b hb) with e |hb
 ·rw[e];exact I.free
 ·obtain⟨_,o,ho,_⟩:=I.ok.funs.mem hb;exact I.base.free b o ho (I.ok.frf b hb) fun z=>I.ok.exfs b z hb
theorem Inv.step{g':Array WI}{t':Nat}{d':Drawn}{ch:List Addr}(I:Inv X pins σ H s)
  (hch:∀b ∈ ch,(b ∈ X.ex\/X.s₀.heap.objs.size<=b)/\b ≠ X.env.locals/\(∀x c,X.env.cells.lookup x=some c->c ≠ b)/\∀p ∈ X.pn++pins,p.1 ≠ b)
  (keep:∀b o,b ≠ X.env.locals->b ∉ X.fs->b ∉ ch->s.heap.get? b=some o->H b=none->h'.get? b=some o)
  (slot:∀b o,b ≠ X.env.locals->b ∈ X.fs->b ∉ ch->s.heap.get? b=some o->H b=none->∃sl,h'.get? b=some { o with slots:=sl }) (free:∀b o,b ∉ ch->s.heap.get? b=some o->H b=none->H' b=none)
  (there:∀b o,b ∉ ch->s.heap.get? b=some o->∃o',h'.get? b=some o')
  (tups:∀b xs,H b=some (.tup xs)->H' b=some (.tup xs)) (frzs:∀b o u,H b=some (.frz o u)->H' b=some (.frz o u)) (tbls:∀b ps,H b=some (.tbl ps)->∃more,H' b=some (.tbl (ps++more)))
  (ns:∀m,s.heap.Ns X.env.locals m->h'.Ns X.env.locals m) (hok:HOk X.prog X.w H' h') (hg:AllBare g') :
  Inv X pins σ H' { s with heap:=h',gens:=g',drawn:=d',toks:=t' }:=by
 have neL:∀b o,X.s₀.heap.get? b=some o->b ≠ X.env.locals:=fun b o e=>ZA (Zu (Zq e) I.ok.above)
 have neC:∀b o,X.s₀.heap.get? b=some o->b ∉ X.ex->b ∉ ch:=fun b o e hx hb=>by
  rcases (hch b hb).1 with z |z
  ·exact hx z
  ·exact absurd (Zu (Zq e) z) (ZO _)
 have cellK:∀x c,X.env.cells.lookup x=some c->∀v,s.heap.IsCell c v->h'.IsCell c v:=fun x c e v ⟨o,ho,hd⟩=>by
  have nch:c ∉ ch:=fun z=>(hch c z).2.2.1 x c e rfl;by_cases hc:c ∈ X.fs
  ·obtain⟨sl,q⟩:=slot c o (I.cne x c e) hc nch ho (I.freeC x c e);exact⟨_,q,hd⟩
  ·exact⟨o,keep c o (I.cne x c e) hc nch ho (I.freeC x c e),hd⟩
 refine⟨I.ok,I.os,hg,⟨fun b o e n hb hx=>?_,fun b o e n hb hx=>?_,fun b o e n hx=>?_,fun b o e hx=>?_,fun b xs e=>tups b xs (I.base.tups b xs e),fun b o xs e=>frzs b o xs (I.base.frzs b o xs e),fun b ps e=>?_⟩,?_,fun x c e=>?_,?_,fun x c e=>?_,fun p hp=>?_,hok,I.len⟩
 ·exact keep b o (neL b o e) hb (neC b o e hx) (I.base.keep b o e n hb hx) (I.base.free b o e n hx)
 ·obtain⟨sl,e1⟩:=I.base.slot b o e n hb hx;obtain⟨sl',e2⟩:=slot b _ (neL b o e) hb (neC b o e hx) e1 (I.base.free b o e n hx);exact⟨sl',e2⟩
 ·obtain⟨o',e1⟩:=I.base.there b o e hx;exact free b o' (neC b o e hx) e1 (I.base.free b o e n hx)
 ·obtain⟨o',e1⟩:=I.base.there b o e hx;exact there b o' (neC b o e hx) e1
 ·obtain⟨m1,e1⟩:=I.base.tbls b ps e;obtain⟨m2,e2⟩:=tbls b _ e1;exact⟨m1++m2,by rw[e2,Xw]⟩
 ·obtain⟨m,hn,hl⟩:=I.loc;refine⟨m,ns m hn,fun i x v e1 e2 e3=>?_⟩;obtain⟨u,r,l⟩:=hl i x v e1 e2 e3;refine⟨u,r,?_⟩;rcases l with l |⟨k,c,e,z⟩
  ·exact .inl l
  ·exact .inr ⟨k,c,e,cellK x c e _ z⟩
 ·obtain⟨v,z⟩:=I.cell x c e;exact⟨v,cellK x c e v z⟩
 ·obtain⟨m,⟨o,_,_,ho,_⟩,_⟩:=I.loc;exact free _ o (fun z=>(hch _ z).2.1 rfl) ho I.free
 ·obtain⟨v,o,ho,hd⟩:=I.cell x c e;exact free c o (fun z=>(hch c z).2.2.1 x c e rfl) ho (I.freeC x c e)
 ·obtain⟨e,n,ne,nf,d⟩:=I.pin p hp;have nch:p.1 ∉ ch:=fun z=>(hch p.1 z).2.2.2 p hp rfl;exact⟨keep p.1 p.2 ne nf nch e n,free p.1 p.2 nch e n,ne,nf,d⟩
theorem Inv.un{t':Nat}(I:Inv X pins σ H s)(u:Un X.fs [] H H' s.heap h')(hok:HOk X.prog X.w H' h'):Inv X pins σ H' { s with heap:=h',toks:=t' }:=by
 obtain⟨m,⟨o,es,ep,ho,r⟩,_⟩:=id I.loc;obtain⟨sl,hL⟩:=u.any ho I.free (by simp)
 exact I.step (g':=s.gens) (d':=s.drawn) (ch:=[]) (fun _ z=>nomatch z) (fun b o _ hb _ e n=>u.keep b o e n hb (by simp)) (fun b o _ hb _ e n=>u.slot b o e n hb (by simp)) (fun b o _ e n=>u.free b o e n (by simp)) (fun b o _ e=>u.there b o e (by simp)) u.tups u.frzs u.tbls (fun m' hm=>by
  obtain⟨o',es',ep',ho',r'⟩:=hm;rw[ho] at ho';cases ho';exact⟨_,es',ep',hL,r'⟩) hok I.bare
theorem Inv.call{g':Array WI}{t':Nat}{d':Drawn}{ch:List Addr}(I:Inv X pins σ H s)(u:Un (frs X.stack) ch H H' s.heap h')(hok:HOk X.prog X.w H' h')(hg:AllBare g')
  (hch:∀b ∈ ch,(b ∈ X.ex\/X.s₀.heap.objs.size<=b)/\b ≠ X.env.locals/\(∀x c,X.env.cells.lookup x=some c->c ≠ b)/\∀p ∈ X.pn++pins,p.1 ≠ b) :
  Inv X pins σ H' { s with heap:=h',gens:=g',drawn:=d',toks:=t' }:=by
 obtain⟨m,⟨o,es,ep,ho,r⟩,_⟩:=id I.loc;obtain⟨sl,hL⟩:=u.any ho I.free fun z=>(hch _ z).2.1 rfl
 exact I.step (ch:=ch) hch (fun b o hL hb hc e n=>u.keep b o e n (fun z=>(Zm.mp (I.stkSub b z)).elim hL hb) hc) (fun b o _ _ hc e n=>u.any e n hc) (fun b o hc e n=>u.free b o e n hc) (fun b o hc e=>u.there b o e hc) u.tups u.frzs u.tbls (fun m' hm=>by
  obtain⟨o',es',ep',ho',r'⟩:=hm;rw[ho] at ho';cases ho';exact⟨_,es',ep',hL,r'⟩) hok hg
theorem Inv.turned{t':Nat}{it:Addr}(I:Inv X pins σ H s)(k:∀b o,b ≠ it->s.heap.get? b=some o->h'.get? b=some o)(hn:H it=none)(hL:it ≠ X.env.locals)
  (h1:it ∈ X.ex\/X.s₀.heap.objs.size<=it) (h2:∀x c,X.env.cells.lookup x=some c->c ≠ it) (h3:∀p ∈ X.pn++pins,p.1 ≠ it):Inv X pins σ H { s with heap:=h',toks:=t' }:=by
 have nit:∀b u,H b=some u->b ≠ it:=fun b u e z=>by rw[z,hn] at e;cases e
 refine I.step (g':=s.gens) (d':=s.drawn) (ch:=[it]) (fun b hb=>?_) (fun b o _ _ hc e _=>k b o (fun z=>hc (by simp[z])) e) (fun b o _ _ hc e _=>⟨o.slots,k b o (fun z=>hc (by simp[z])) e⟩) (fun _ _ _ _ n=>n)
  (fun b o hc e=>⟨o,k b o (fun z=>hc (by simp[z])) e⟩) (fun _ _ e=>e) (fun _ _ _ e=>e) (fun b ps e=>⟨#[],by rw[e];simp⟩) (fun m hm=>?_) (fun b u e=>?_) I.bare
 ·have e:b=it:=by simpa using hb
  subst e;exact⟨h1,hL,h2,h3⟩
 ·obtain⟨o,es,ep,ho,r⟩:=hm;exact⟨o,es,ep,k _ o (Ne.symm hL) ho,r⟩
 ·refine(I.hok b u e).stay (fun c v hc q=>k c v ?_ q) (fun _ q=>q) fun _ _ q=>q;rcases hc with z |z
  ·rw[z];exact nit b u e
  ·exact nit c _ z
theorem Inv.tok(I:Inv X pins σ H s)(t:Nat):Inv X pins σ H { s with toks:=t }:=I.un (h':=s.heap) (t':=t) Un.refl I.hok
theorem Inv.kept{t':Nat}(I:Inv X pins σ H s)(k:∀b u,s.heap.get? b=some u->h'.get? b=some u):Inv X pins σ H { s with heap:=h',toks:=t' }:=I.un (Un.kept k) (I.hok.kept k)
theorem Inv.laid{a:Addr}{o:HO}{t':Nat}(I:Inv X pins σ H s)(k:∀b u,s.heap.get? b=some u->h'.get? b=some u)(hp:s.heap.objs.size<=a)(new:bf X.prog X.w (upd H a o) h' a o) :
  Inv X pins σ (upd H a o) { s with heap:=h',toks:=t' }:=I.un (Un.laid k hp (I.hok.fresh hp)) (I.hok.laid k hp new)
theorem Inv.write{t':Nat}(I:Inv X pins σ H s)(mu:Mut (H x))(he:e=x\/H e=some (.own x))(k:∀b u,b ≠ e->s.heap.get? b=some u->h'.get? b=some u)(heo:∃u,h'.get? e=some u)
  (new:bf X.prog X.w (upd H x o) h' x o):Inv X pins σ (upd H x o) { s with heap:=h',toks:=t' }:=I.un (Un.write mu he k heo) (I.hok.write mu he k heo new)
theorem Inv.pins_of(I:Inv X pins σ H s)(h:∀p ∈ pins',s.heap.get? p.1=some p.2/\H p.1=none/\p.1 ≠ X.env.locals/\p.1 ∉ X.fs/\∀v,p.2.data ≠ .cell v):Inv X pins' σ H s:=
 ⟨I.ok,I.os,I.bare,I.base,I.loc,I.cell,I.free,I.freeC,fun p hp=>(Zy.mp hp).elim (fun z=>I.pin p (Yl _ z)) (h p),I.hok,I.len⟩
theorem kl{N:List Str}(hN:N.Nodup){i j:Nat}{x:Str}(a:N[i]?=some x)(b:N[j]?=some x):i=j:=by
 obtain⟨h1,e1⟩:=Zc.mp a;obtain⟨h2,e2⟩:=Zc.mp b;exact(YI hN).mp (e1.trans e2.symm)
theorem mQ{M:Model}{A:Around}{E:Value->Shared->Prop}{i:Nat}{x:Str}{v:V}{u:Value}{Q:Unit->Shared->Prop}(I:Inv X pins σ H s)(hN:X.N.Nodup)(hi:X.N[i]?=some x)(hx:Loc X.env.scope x)(r:aF v u)
  (h:∀s',Inv X pins (σ.set i (some v)) H s'->(∃a,Heap.SameBut a s.heap s'.heap/\(a=X.env.locals\/X.env.cells.lookup x=some a))->Q () s') (hf:X.fn x=true\/X.env.scope.names.lookup x=some .local:=by first |exact .inl rfl |exact .inr rfl |assumption):wpAny M A (storeName X.env x u) Q E s:=by
 obtain⟨m,hn,hl⟩:=id I.loc;have hcls:(X.env.scope.kind == .class || (X.env.scope.kind == .module && X.env.locals != X.env.globals))=false:=by rw[I.ok.kind];rfl
 have hiσ:i < σ.length:=by rw[I.len];exact(Zc.mp hi).1
 have cne:=I.cne
 have tracked:∀ {a:Addr} {h':Heap},(∃o,s.heap.get? a=some o/\H a=none)->Heap.SameBut a s.heap h'->HOk X.prog X.w H h':=fun {a h'} ha hs b ob e=>by
  obtain⟨_,_,hfree⟩:=ha;refine(I.hok b ob e).stay (fun c w' hc q=>(hs.2 c ?_).trans q) (fun _ q=>q) fun _ _ q=>q;rintro rfl;rcases hc with rfl |hc
  ·rw[hfree] at e;cases e
  ·rw[hfree] at hc;cases hc
 rcases hx with hk |hk
 ·refine wpAny_storeName_local hk hn (fun h' hn' hs=>?_) hcls;obtain⟨oL,_,_,hoL,_⟩:=id hn;refine h _ ⟨I.ok,I.os,I.bare,⟨fun b o e n hb hx=>?_,fun b o e n hb hx=>?_,I.base.free,fun b o e hx=>?_,I.base.tups,I.base.frzs,I.base.tbls⟩,⟨_,hn',fun j y v' e1 e2 e3=>?_⟩,fun y c e=>?_,I.free,I.freeC,fun p hp=>?_,tracked ⟨oL,hoL,I.free⟩ hs,by simpa using I.len⟩ ⟨_,hs,.inl rfl⟩
  ·exact(hs.2 b (ZA (Zu (Zq e) I.ok.above))).trans (I.base.keep b o e n hb hx)
  ·obtain⟨sl,e1⟩:=I.base.slot b o e n hb hx;exact⟨sl,(hs.2 b (ZA (Zu (Zq e) I.ok.above))).trans e1⟩
  ·obtain⟨o',e1⟩:=I.base.there b o e hx;exact⟨o',(hs.2 b (ZA (Zu (Zq e) I.ok.above))).trans e1⟩
  ·by_cases hj:j=i
   ·subst hj;rw[hi] at e1;cases e1;rw[ZI hiσ] at e2;cases e2;exact⟨u,r,.inl ⟨hk,by simp⟩⟩
   ·rw[ZN (Ne.symm hj)] at e2;obtain⟨u',r',q⟩:=hl j y v' e1 e2 e3;refine⟨u',r',?_⟩;rcases q with ⟨k,e⟩ |⟨k,c,e,z⟩
    ·refine .inl ⟨k,?_⟩;have:y ≠ x:=fun e=>hj (kl hN e1 (e ▸ hi));simp[this,e]
    ·exact .inr ⟨k,c,e,z.sameBut hs (cne y c e)⟩
  ·obtain⟨w',z⟩:=I.cell y c e;exact⟨w',z.sameBut hs (cne y c e)⟩
  ·obtain⟨e,n,ne,nf,d⟩:=I.pin p hp;exact⟨(hs.2 p.1 ne).trans e,n,ne,nf,d⟩
 ·have hfn:X.fn x=true:=by
   rcases hf with z |z
   ·exact z
   ·rw[z] at hk;cases hk
  obtain⟨c,hc⟩:=I.ok.has x (.inl hk);obtain⟨w',z⟩:=I.cell x c hc;refine wpAny_storeName_cell I.ok.kind hk hc z (fun h' hc' hs=>?_);obtain⟨oc,hoc,hocd⟩:=id z;refine h { s with heap:=h' } ⟨I.ok,I.os,I.bare,⟨fun b o e n hb hx=>?_,fun b o e n hb hx=>?_,I.base.free,fun b o e hx=>?_,I.base.tups,I.base.frzs,I.base.tbls⟩,⟨m,hn.sameBut hs (Ne.symm (cne x c hc)),fun j y v' e1 e2 e3=>?_⟩,fun y c' e=>?_,I.free,I.freeC,fun p hp=>?_,tracked ⟨oc,hoc,I.freeC x c hc⟩ hs,by simpa using I.len⟩ ⟨c,hs,.inr hc⟩
  ·exact(hs.2 b (ZA (Zu (Zq e) (I.ok.cab x c hfn hc)))).trans (I.base.keep b o e n hb hx)
  ·obtain⟨sl,e1⟩:=I.base.slot b o e n hb hx;exact⟨sl,(hs.2 b (ZA (Zu (Zq e) (I.ok.cab x c hfn hc)))).trans e1⟩
  ·obtain⟨o',e1⟩:=I.base.there b o e hx;exact⟨o',(hs.2 b (ZA (Zu (Zq e) (I.ok.cab x c hfn hc)))).trans e1⟩
  ·by_cases hj:j=i
   ·subst hj;rw[hi] at e1;cases e1;rw[ZI hiσ] at e2;cases e2;exact⟨u,r,.inr ⟨.inl hk,c,hc,hc'⟩⟩
   ·rw[ZN (Ne.symm hj)] at e2;obtain⟨u',r',q⟩:=hl j y v' e1 e2 e3;refine⟨u',r',?_⟩;rcases q with q |⟨k,c',e,z'⟩
    ·exact .inl q
    ·refine .inr ⟨k,c',e,z'.sameBut hs ?_⟩;rintro rfl;exact hj (kl hN e1 (I.ok.inj _ _ _ e hc ▸ hi))
  ·by_cases hcc:c'=c
   ·subst hcc;exact⟨_,hc'⟩
   ·obtain⟨w2,z2⟩:=I.cell y c' e;exact⟨w2,z2.sameBut hs hcc⟩
  ·obtain⟨e,n,ne,nf,d⟩:=I.pin p hp;refine⟨(hs.2 p.1 ?_).trans e,n,ne,nf,d⟩;intro q;rw[q,hoc] at e;have q':oc=p.2:=Option.some.inj e;exact d w' (by rw[<-q'];exact hocd)
theorem ci{i:Nat}(I:Inv X pins σ H s)(hN:X.N.Nodup)(hi:X.N[i]?=some x)(hx:Loc X.env.scope x)(r:aF v u)
  (h:∀s',Inv X pins (σ.set i (some v)) H s'->Q () s') (hf:X.fn x=true\/X.env.scope.names.lookup x=some .local:=by first |exact .inl rfl |exact .inr rfl |assumption):wpAny M A (storeName X.env x u) Q E s:=
 mQ I hN hi hx r (fun s' I' _=>h s' I') hf
theorem Inv.call'(I:Inv X pins σ H s)(ho:s'.os=s.os)(u:Un (frs X.stack) ch H H' s.heap s'.heap)(hok:HOk X.prog X.w H' s'.heap)(hg:AllBare s'.gens)
  (hch:∀b ∈ ch,(b ∈ X.ex\/X.s₀.heap.objs.size<=b)/\b ≠ X.env.locals/\(∀x c,X.env.cells.lookup x=some c->c ≠ b)/\∀p ∈ X.pn++pins,p.1 ≠ b):Inv X pins σ H' s':=by
 obtain⟨h',g',d',t',o'⟩:=s';have e:o'=s.os:=ho;subst e;exact I.call (g':=g') (t':=t') (d':=d') u hok hg hch
end
abbrev XK:=Value->Option Addr->Hp->Prop
abbrev St:=List (Option V)
abbrev VK:=V->Hp->Prop
abbrev TE:=St->Hp->VK->Prop
abbrev TT:=St->Hp->(Bool->Hp->Prop)->Prop
abbrev TA:=St->Hp->(List V->Hp->Prop)->Prop
structure Ends where
 nx:St->Hp->Prop
 rt:VK
 bk:St->Hp->Prop:=fun _ _=>False
 ct:St->Hp->Prop:=fun _ _=>False
abbrev TS:=Ends->St->Hp->Prop
def EP(X:Cx)(pins:List (Addr × Obj))(σ:St)(Q:VK)(u:Value)(s':Shared):Prop:=∃v H',Inv X pins σ H' s'/\aF v u/\Q v H'
def TP(X:Cx)(pins:List (Addr × Obj))(σ:St)(Q:Bool->Hp->Prop)(b:Bool)(s':Shared):Prop:=∃H',Inv X pins σ H' s'/\Q b H'
def AP(X:Cx)(pins:List (Addr × Obj))(σ:St)(Q:List V->Hp->Prop)(us:List Value)(s':Shared):Prop:=∃vs H',Inv X pins σ H' s'/\aJ vs us/\Q vs H'
def SP(X:Cx)(pins:List (Addr × Obj))(D:Ends)(f:Flow)(s':Shared):Prop:=
 match f with
 |.next=>∃σ' H',Inv X pins σ' H' s'/\D.nx σ' H'
 |.brk=>∃σ' H',Inv X pins σ' H' s'/\D.bk σ' H'
 |.cont=>∃σ' H',Inv X pins σ' H' s'/\D.ct σ' H'
 |.ret u=>∃v σ' H',Inv X pins σ' H' s'/\aF v u/\D.rt v H'
def PE(X:Cx)(e:Expr)(t:TE):Prop:=
 ∀ (pins:List (Addr × Obj)) (s:Shared) (σ:St) (H:Hp) (Q:VK),Inv X pins σ H s->t σ H Q->wpAny (model X.prog X.w) X.A (eval e X.env) (EP X pins σ Q) X.xe s
def PT(X:Cx)(e:Expr)(t:TT):Prop:=
 ∀ (pins:List (Addr × Obj)) (s:Shared) (σ:St) (H:Hp) (Q:Bool->Hp->Prop),Inv X pins σ H s->t σ H Q->wpAny (model X.prog X.w) X.A (isTrue e X.env (eval e X.env)) (TP X pins σ Q) X.xe s
def PW(X:Cx)(e:Expr)(t:TT):Prop:=
 ∀ (whole:Sem Value) (pins:List (Addr × Obj)) (s:Shared) (σ:St) (H:Hp) (Q:Bool->Hp->Prop),Inv X pins σ H s->t σ H Q->wpAny (model X.prog X.w) X.A (isTrue e X.env whole) (TP X pins σ Q) X.xe s
theorem PW.pt(h:PW X e t):PT X e t:=h _
def PA(X:Cx)(es:List Expr)(t:TA):Prop:=
 ∀ (pos:Pos) (pins:List (Addr × Obj)) (s:Shared) (σ:St) (H:Hp) (Q:List V->Hp->Prop),Inv X pins σ H s->t σ H Q->wpAny (model X.prog X.w) X.A (spliced (backTo pos (VZ es X.env))) (AP X pins σ Q) X.xe s
def PS(X:Cx)(st:Stmt)(t:TS):Prop:=
 ∀ (pins:List (Addr × Obj)) (s:Shared) (σ:St) (H:Hp) (D:Ends),Inv X pins σ H s->t D σ H->wpAny (model X.prog X.w) X.A (exec st X.env) (SP X pins D) X.xe s
def PSs(X:Cx)(st:List Stmt)(t:TS):Prop:=
 ∀ (pins:List (Addr × Obj)) (s:Shared) (σ:St) (H:Hp) (D:Ends),Inv X pins σ H s->t D σ H->wpAny (model X.prog X.w) X.A (execs st X.env) (SP X pins D) X.xe s
theorem thn{α:Type}{t:Sem α}{Q Q':α->Shared->Prop}{M:Model}{A:Around}{E:Value->Shared->Prop}{s:Shared}(h:wpAny M A t Q E s)(hQ:∀a s,Q a s->Q' a s):wpAny M A t Q' E s:=Uo h hQ fun _ _ x=>x
section
variable {X:Cx}
def GR(i:Nat):TE:=fun σ H Q=>∃v,σ[i]?=some (some v)/\Q v H
def tC(v:V):TE:=fun _ H Q=>Q v H
theorem rZ{i:Nat}(hN:X.N[i]?=some x)(hv:Vis X.env.scope x)(hd:(x == ("__debug__" : Str))=false:=by decide)(hcd:(x == ("__classdict__" : Str))=false:=by decide):PE X (.Name x pos) (GR i):=by
 intro pins s σ H Q I h;obtain⟨v,e,h⟩:=h;obtain⟨m,hn,hl⟩:=I.loc;obtain⟨u,r,l⟩:=hl i x v hN e hv;have fin:EP X pins σ Q u s:=⟨v,H,I,r,h⟩;rcases l with ⟨hk,hm⟩ |⟨hk,c,hc,hcell⟩
 ·exact wpAny_Name (wpAny_loadName_local I.ok.kind hk hn hm fin) hd
 ·rcases hk with hk |hk
  ·exact wpAny_Name (wpAny_loadName_cell I.ok.kind hk hc hcell fin) hd
  ·exact wpAny_Name (wpAny_loadName_free I.ok.kind hk hc hcell fin hcd) hd
theorem oE{i j pos}:PE X (.Constant (.int i) j pos) (tC (.int i)):=fun _ _ _ H _ I h=>wpAny_Constant_int ⟨.int i,H,I.tok _,⟨_,rfl⟩,h⟩
theorem yg{b j pos}:PE X (.Constant (.bool b) j pos) (tC (.bl b)):=fun _ _ _ H _ I h=>Constant_bool ⟨.bl b,H,I,rfl,h⟩
theorem GS{j pos}:PE X (.Constant .none j pos) (tC .non):=fun _ _ _ H _ I h=>Constant_none ⟨.non,H,I,rfl,h⟩
theorem oG{x j pos}:PE X (.Constant (.str x) j pos) (tC (.str x)):=fun _ _ _ H _ I h=>Calls.Constant_str ⟨.str x,H,I.tok _,⟨_,rfl⟩,h⟩
def Gl(X:Cx)(x:Str):Prop:=X.env.kindOf x=some .globalImplicit
theorem fW(I:Inv X pins σ H s)(hg:Gl X x)(hm:X.mg x=some u)(h:Q u s)
  (hd:(x == ("__debug__" : Str))=false:=by decide):wpAny (model X.prog X.w) X.A (eval (.Name x pos) X.env) Q E s:=
 Wp I.ok.kind hg (Calls.loadGlobal_global (by rw[I.ok.glob];exact I.mod.glob.keeps I.bk) hm h) hd
theorem gF(I:Inv X pins σ H s)(hg:Gl X x)(hm:X.mg x=none)(hv:Vt x=some u)(h:Q u s)
  (hn:x ≠ "__name__" := by decide) (hd:(x == ("__debug__" : Str))=false:=by decide):wpAny (model X.prog X.w) X.A (eval (.Name x pos) X.env) Q E s:=by
 obtain⟨mb,h1,h2⟩:=I.mod.blt;exact Wp I.ok.kind hg (Calls.loadGlobal_builtin (by rw[I.ok.glob];exact I.mod.glob.keeps I.bk) hm (by rw[I.ok.blt];exact h1.keeps I.bk) ((h2 x hn).trans hv) h) hd
theorem uy(hg:Gl X x)(hm:X.mg x=some u)(r:aF v u)(hd:(x == ("__debug__" : Str))=false:=by decide):PE X (.Name x pos) (tC v):=
 fun _ _ _ H _ I h=>fW I hg hm ⟨v,H,I,r,h⟩ hd
theorem fX(hg:Gl X x)(hm:X.mg x=none)(hv:Vt x=some u)(r:aF v u)(hn:x ≠ "__name__" := by decide)(hd:(x == ("__debug__" : Str))=false:=by decide):PE X (.Name x pos) (tC v):=
 fun _ _ _ H _ I h=>gF I hg hm hv ⟨v,H,I,r,h⟩ hn hd
variable {a b:Expr} {ta tb:TE} {pos:Pos}
def tB(t:TE):TT:=fun σ H Q=>t σ H fun x H1=>∃c,x = .bl c/\Q c H1
theorem GU{e:Expr}{t:TE}(h:PE X e t)(he:∀whole,isTrue e X.env whole=(do let v <-whole;standAt e.pos;holding [v] (truthy v)):=by intro _;rfl):PT X e (tB t):=by
 intro pins s σ H Q I hw;refine isTrue_plain (thn (h pins s σ H _ I hw) fun v s1 ⟨x,H1,I1,r1,q1⟩=>?_) (he _);obtain⟨d,rfl,q⟩:=q1;cases r1;exact UA ⟨H1,I1,q⟩
variable {tA tB':TT} {rest:List Expr}
def LG(t u:TT):TT:=fun σ H Q=>t σ H fun c H1=>if c=true then u σ H1 Q else Q false H1
def tOr(t u:TT):TT:=fun σ H Q=>t σ H fun c H1=>if c=true then Q true H1 else u σ H1 Q
def LH(t:TT):TT:=fun σ H Q=>t σ H fun c H1=>Q (!c) H1
theorem B5(ha:PT X a tA):PW X (.BoolOp .And [a] pos) tA:=by
 intro wh pins s σ H Q I h;refine isTrue_and (thn (ha pins s σ H Q I h) fun c s1 e=>?_);cases c with
 |true=>exact isTrue_and_nil e
 |false=>exact e
theorem yh(ha:PT X a tA):PW X (.BoolOp .Or [a] pos) tA:=by
 intro wh pins s σ H Q I h;refine isTrue_or (thn (ha pins s σ H Q I h) fun c s1 e=>?_);cases c with
 |false=>exact isTrue_or_nil e
 |true=>exact e
theorem yi(ha:PT X a tA)(hb:PW X (.BoolOp .And (b::rest) pos) tB'):PW X (.BoolOp .And (a::b::rest) pos) (LG tA tB'):=by
 intro wh pins s σ H Q I h;refine isTrue_and (thn (ha pins s σ H _ I h) fun c s1 ⟨H1,I1,q1⟩=>?_);cases c with
 |true=>exact hb wh pins s1 σ H1 Q I1 q1
 |false=>exact⟨H1,I1,q1⟩
theorem yj(ha:PT X a tA)(hb:PW X (.BoolOp .Or (b::rest) pos) tB'):PW X (.BoolOp .Or (a::b::rest) pos) (tOr tA tB'):=by
 intro wh pins s σ H Q I h;refine isTrue_or (thn (ha pins s σ H _ I h) fun c s1 ⟨H1,I1,q1⟩=>?_);cases c with
 |true=>exact⟨H1,I1,q1⟩
 |false=>exact hb wh pins s1 σ H1 Q I1 q1
theorem yk(ha:PT X a tA):PT X (.UnaryOp .Not a pos) (LH tA):=by
 intro pins s σ H Q I h;exact isTrue_not (ha pins s σ H (fun c H1=>Q (!c) H1) I h)
def FL(ta tb:TE):TE:=fun σ H Q=>ta σ H fun x H1=>∃c,x = .bl c/\if c=true then tb σ H1 Q else Q (.bl false) H1
def LI(ta tb:TE):TE:=fun σ H Q=>ta σ H fun x H1=>∃c,x = .bl c/\if c=true then Q (.bl true) H1 else tb σ H1 Q
def FM(ta:TE):TE:=fun σ H Q=>ta σ H fun x H1=>∃c,x = .bl c/\Q (.bl (!c)) H1
theorem ym{op}(h:PE X a t):PE X (.BoolOp op [a] pos) t:=fun pins s σ H Q I hw=>BoolOp_one (h pins s σ H Q I hw)
theorem yn(ha:PE X a ta)(hb:PE X (.BoolOp .And (b::rest) pos) tb):PE X (.BoolOp .And (a::b::rest) pos) (FL ta tb):=by
 intro pins s σ H Q I h;refine BoolOp_and (thn (ha pins s σ H _ I h) fun v s1 ⟨x,H1,I1,r1,q1⟩=>?_);obtain⟨c,rfl,q1⟩:=q1;cases r1;refine UA ?_;cases c with
 |true=>exact hb pins s1 σ H1 Q I1 q1
 |false=>exact⟨.bl false,H1,I1,rfl,q1⟩
theorem FN(ha:PE X a ta)(hb:PE X (.BoolOp .Or (b::rest) pos) tb):PE X (.BoolOp .Or (a::b::rest) pos) (LI ta tb):=by
 intro pins s σ H Q I h;refine BoolOp_or (thn (ha pins s σ H _ I h) fun v s1 ⟨x,H1,I1,r1,q1⟩=>?_);obtain⟨c,rfl,q1⟩:=q1;cases r1;refine UA ?_;cases c with
 |false=>exact hb pins s1 σ H1 Q I1 q1
 |true=>exact⟨.bl true,H1,I1,rfl,q1⟩
theorem GV(ha:PE X a ta):PE X (.UnaryOp .Not a pos) (FM ta):=by
 intro pins s σ H Q I h;refine UnaryOp_ (thn (ha pins s σ H _ I h) fun v s1 ⟨x,H1,I1,r1,q1⟩=>?_);obtain⟨c,rfl,q1⟩:=q1;cases r1;exact not_of (UA ⟨.bl (!c),H1,I1,rfl,q1⟩)
end
def SqL(K:W0)(H:Hp)(a:Addr)(xs:List V):Prop:=
 Rd H a (.lst xs) ∨
  ∃ (o:Obj) (its:Array Value) (n:Nat),K.lookup a=some o/\o.cls = .type "list"/\o.dict=none/\o.data = .seq its n/\its.size<=sizeLine/\aJ xs its.toList
def SqT(K:W0)(H:Hp)(a:Addr)(xs:List V):Prop:=
 Rd H a (.tup xs) ∨
  ∃ (o:Obj) (its:Array Value) (n:Nat),K.lookup a=some o/\o.cls = .type "tuple"/\o.data = .seq its n/\its.size<=sizeLine/\aJ xs its.toList
noncomputable def OH:Value->Option V
 |.none=>some .non
 |.bool b=>some (.bl b)
 |.int i _=>some (.int i)
 |.str x _=>some (.str x)
 |.bytes b _=>some (.byt b)
 |.float b _=>some (.flt b)
 |.ref a=>some (.ref a)
 |.type n=>some (.ty n)
 |_=>none
theorem aF.abs(r:aF x u):OH u=some x:=by
 cases x with
 |non=>cases r;rfl
 |bl _=>cases r;rfl
 |int _=>obtain⟨t,rfl⟩:=r;rfl
 |str _=>obtain⟨t,rfl⟩:=r;rfl
 |byt _=>obtain⟨t,rfl⟩:=r;rfl
 |flt _=>obtain⟨t,rfl⟩:=r;rfl
 |ref _=>cases r;rfl
 |ty _=>cases r;rfl
theorem aF.inj{x y:V}{u:Value}(r:aF x u)(q:aF y u):x=y:=Option.some.inj (r.abs.symm.trans q.abs)
theorem aJ.inj:∀ {xs ys:List V} {us:List Value},aJ xs us->aJ ys us->xs=ys
 |_,_,_,.nil,.nil=>rfl
 |_,_,_,.cons r t,.cons r' t'=>by rw[r.inj r',aJ.inj t t']
section
variable {X:Cx} {pins:List (Addr × Obj)} {σ:St} {H:Hp} {s:Shared} {a:Addr} {xs ys:List V}
theorem SqL.of{K:W0}(h:H a=some (.lst xs)):SqL K H a xs:=.inl (.inl h)
theorem SqT.of{K:W0}(h:H a=some (.tup xs)):SqT K H a xs:=.inl (.inl h)
theorem Inv.list(I:Inv X pins σ H s)(h:SqL X.K H a xs):∃its:List Value,aJ xs its/\PlainL s.heap a its.toArray/\xs.length<=sizeLine:=by
 rcases h with h |⟨o,its,n,hk,hc,hd,hs,hz,r⟩
 ·obtain⟨z,its,n,r,e⟩:=h.ok I.hok;exact⟨its,r,⟨_,n,e,rfl,rfl,rfl⟩,z⟩
 ·refine⟨its.toList,r,⟨o,n,I.kIn a o hk,hc,hd,by simpa using hs⟩,?_⟩;have e:=r.length;simp only[ZP] at e
  lia
theorem Inv.tuple(I:Inv X pins σ H s)(h:SqT X.K H a xs):∃its:List Value,aJ xs its/\IsTup s.heap a its.toArray/\xs.length<=sizeLine:=by
 rcases h with h |⟨o,its,n,hk,hc,hs,hz,r⟩
 ·obtain⟨z,its,r,p⟩:=h.ok I.hok;exact⟨its,r,p.isTup,z⟩
 ·refine⟨its.toList,r,⟨o,I.kIn a o hk,hc,n,by simpa using hs⟩,?_⟩;have e:=r.length;simp only[ZP] at e
  lia
theorem Inv.list_inj(I:Inv X pins σ H s)(h:SqL X.K H a xs)(h':SqL X.K H a ys):xs=ys:=by
 obtain⟨its,r,⟨o,n,e,_,_,d⟩,_⟩:=I.list h;obtain⟨its',r',⟨o',n',e',_,_,d'⟩,_⟩:=I.list h';rw[e] at e';cases e';rw[d] at d';injection d' with d1 _;have:its=its':=by simpa using congrArg Array.toList d1
 subst this;exact r.inj r'
theorem Inv.tuple_inj(I:Inv X pins σ H s)(h:SqT X.K H a xs)(h':SqT X.K H a ys):xs=ys:=by
 obtain⟨its,r,⟨o,e,_,n,d⟩,_⟩:=I.tuple h;obtain⟨its',r',⟨o',e',_,n',d'⟩,_⟩:=I.tuple h';rw[e] at e';cases e';rw[d] at d';injection d' with d1 _;have:its=its':=by simpa using congrArg Array.toList d1
 subst this;exact r.inj r'
end
noncomputable abbrev Cx.wish(X:Cx)(E:Value->Shared->Prop):Cx:={ X with xe:=E }
noncomputable abbrev Cx.nox(X:Cx):Cx:=X.wish fun _ _=>False
theorem Cx.Ok.wish{X:Cx}(ok:X.Ok)(E:Value->Shared->Prop):(X.wish E).Ok:=
 ⟨ok.mod,ok.kind,ok.glob,ok.blt,ok.above,ok.inj,ok.has,ok.cab,ok.hd,ok.frames,ok.stk,ok.exf,ok.bs,ok.bsz,ok.noex,ok.exfs,ok.funs,ok.frf⟩
theorem Cx.Ok.unwish{X:Cx}{E:Value->Shared->Prop}(ok:(X.wish E).Ok):X.Ok:=
 ⟨ok.mod,ok.kind,ok.glob,ok.blt,ok.above,ok.inj,ok.has,ok.cab,ok.hd,ok.frames,ok.stk,ok.exf,ok.bs,ok.bsz,ok.noex,ok.exfs,ok.funs,ok.frf⟩
section
variable {X:Cx} {pins:List (Addr × Obj)} {σ:St} {H:Hp} {s:Shared} {E:Value->Shared->Prop}
theorem Inv.wish(I:Inv X pins σ H s)(E:Value->Shared->Prop):Inv (X.wish E) pins σ H s:=⟨I.ok.wish E,I.os,I.bare,I.base,I.loc,I.cell,I.free,I.freeC,I.pin,I.hok,I.len⟩
theorem Inv.unwish(I:Inv (X.wish E) pins σ H s):Inv X pins σ H s:=⟨I.ok.unwish,I.os,I.bare,I.base,I.loc,I.cell,I.free,I.freeC,I.pin,I.hok,I.len⟩
theorem SP.unwish{D:Ends}{f:Flow}{s':Shared}(h:SP (X.wish E) pins D f s'):SP X pins D f s':=by
 cases f with
 |next=>obtain⟨σ',H',I,q⟩:=h;exact⟨σ',H',I.unwish,q⟩
 |brk=>obtain⟨σ',H',I,q⟩:=h;exact⟨σ',H',I.unwish,q⟩
 |cont=>obtain⟨σ',H',I,q⟩:=h;exact⟨σ',H',I.unwish,q⟩
 |ret u=>obtain⟨v,σ',H',I,r,q⟩:=h;exact⟨v,σ',H',I.unwish,r,q⟩
theorem PT.nox(h:PT X.nox e t):PT X e t:=fun pins s σ H Q I hw=>
 Uo (h pins s σ H Q (I.wish _) hw) (fun _ _ ⟨H',I',q⟩=>⟨H',I'.unwish,q⟩) fun _ _ z=>False.elim z
theorem PSs.nox{st:List Stmt}{t:TS}(h:PSs X.nox st t):PSs X st t:=fun pins s σ H D I hw=>
 Uo (h pins s σ H D (I.wish _) hw) (fun _ _ q=>q.unwish) fun _ _ z=>False.elim z
end
section
variable {X:Cx} {st:Stmt} {rest:List Stmt} {t u:TS} {e:Expr} {te:TE} {pos:Pos}
def FO:TS:=fun D σ H=>D.nx σ H
def LJ(t u:TS):TS:=fun D σ H=>t { D with nx:=u D } σ H
theorem g9:PSs X [] FO:=fun _ _ σ H _ I h=>Ug ⟨σ,H,I,h⟩
theorem bx(h1:PS X st t)(h2:PSs X rest u):PSs X (st::rest) (LJ t u):=by
 intro pins s σ H D I h;refine Uf (thn (h1 pins s σ H { D with nx:=u D } I h) fun f s1 q=>?_);cases f with
 |next=>
  obtain⟨σ',H',I',q⟩:=q;exact h2 pins s1 σ' H' D I' q
 |ret v=>exact q
 |brk=>exact q
 |cont=>exact q
theorem hF(h1:PS X st t):PSs X [st] t:=by
 intro pins s σ H D I h;refine Uf (thn (h1 pins s σ H D I h) fun f s1 q=>?_);cases f with
 |next=>exact Ug q
 |ret v=>exact q
 |brk=>exact q
 |cont=>exact q
def FP:TS:=fun D σ H=>D.ct σ H
theorem qf:PS X (.Continue pos) FP:=fun _ _ σ H _ I h=>wpAny_Continue ⟨σ,H,I,h⟩
theorem Inv.quiet{pins:List (Addr × Obj)}{σ:St}{H:Hp}{s:Shared}(I:Inv X pins σ H s):interactive X.env=false:=by simp[interactive,I.ok.kind]
def FQ(te:TE):TS:=fun D σ H=>te σ H fun _ H1=>D.nx σ H1
theorem uz(he:PE X e te)(hs:V2 e none pos.line X.env=pure false:=by rfl):PS X (.Expr e pos) (FQ te):=by
 intro pins s σ H D I h;exact wpAny_Expr_any (thn (he pins s σ H _ I h) fun v s1 ⟨x,H1,I1,r1,q1⟩=>⟨σ,H1,I1,q1⟩) I.quiet hs
def LK(te:TE):TS:=fun D σ H=>te σ H D.rt
theorem r9(he:PE X e te):PS X (.Return (some e) pos) (LK te):=by
 intro pins s σ H D I h;exact V9 (thn (he pins s σ H _ I h) fun v s1 ⟨x,H1,I1,r1,q1⟩=>⟨x,σ,H1,I1,r1,q1⟩)
def LL(c:TT)(t u:TS):TS:=fun D σ H=>c σ H fun b H1=>if b=true then t D σ H1 else u D σ H1
theorem uA{c:Expr}{a b:List Stmt}{tc:TT}(hc:PT X c tc)(ha:PSs X a t)(hb:PSs X b u):PS X (.If c a b pos) (LL tc t u):=by
 intro pins s σ H D I h;refine wpAny_If (thn (hc pins s σ H _ I h) fun d s1 ⟨H1,I1,q1⟩=>?_);cases d with
 |true=>exact ha pins s1 σ H1 D I1 q1
 |false=>exact hb pins s1 σ H1 D I1 q1
def GW:TS:=fun _ _ _=>False
theorem qg:PS X st GW:=fun _ _ _ _ _ _ h=>h.elim
end
abbrev TG:=V->St->Hp->(St->Hp->Prop)->Prop
abbrev TGs:=List V->St->Hp->(St->Hp->Prop)->Prop
def PG(X:Cx)(target:Expr)(t:TG):Prop:=
 ∀ (pins:List (Addr × Obj)) (s:Shared) (σ:St) (H:Hp) (v:V) (u:Value) (Q:St->Hp->Prop),Inv X pins σ H s->aF v u->t v σ H Q ->
  wpAny (model X.prog X.w) X.A (assign target X.env u) (fun _ s'=>∃σ' H',Inv X pins σ' H' s'/\Q σ' H') X.xe s
def PGs(X:Cx)(ts:List Expr)(t:TGs):Prop:=
 ∀ (pins:List (Addr × Obj)) (s:Shared) (σ:St) (H:Hp) (vs:List V) (us:List Value) (Q:St->Hp->Prop),Inv X pins σ H s->aJ vs us->t vs σ H Q ->
  wpAny (model X.prog X.w) X.A (Vp ((Vo ts X.env).map (·.2)) us) (fun _ s'=>∃σ' H',Inv X pins σ' H' s'/\Q σ' H') X.xe s
abbrev B6:=V->V->V->Hp->(Hp->Prop)->Prop
def GX(X:Cx)(t:B6):Prop:=
 ∀ (pins:List (Addr × Obj)) (s:Shared) (σ:St) (H:Hp) (o i v:V) (ov iv u:Value) (Q:Hp->Prop),Inv X pins σ H s->aF o ov->aF i iv->aF v u->t o i v H Q ->
  wpAny (model X.prog X.w) X.A (setItem ov iv u) (fun _ s'=>∃H',Inv X pins σ H' s'/\Q H') X.xe s
section
variable {X:Cx} {pos:Pos}
def mR(i:Nat):TG:=fun v σ H Q=>Q (σ.set i (some v)) H
theorem uB{i:Nat}(hN:X.N.Nodup)(hi:X.N[i]?=some x)(hx:Loc X.env.scope x)(hf:X.fn x=true\/X.env.scope.names.lookup x=some .local:=by first |exact .inl rfl |exact .inr rfl |assumption):PG X (.Name x pos) (mR i):=by
 intro pins s σ H v u Q I r h;exact wpAny_assign_Name (ci I hN hi hx r (fun s' I'=>⟨_,H,I',h⟩) hf)
def GY:TGs:=fun vs σ H Q=>vs=[]/\Q σ H
def uC(t:TG)(u:TGs):TGs:=fun vs σ H Q=>∃v r,vs=v::r/\t v σ H fun σ' H'=>u r σ' H' Q
theorem uD:PGs X [] GY:=by
 intro pins s σ H vs us Q I r h;obtain⟨e,h⟩:=h;subst e;cases r;exact assignInOrder_nil ⟨σ,H,I,h⟩
theorem km{e:Expr}{es:List Expr}{t:TG}{u:TGs}(h1:PG X e t)(h2:PGs X es u)
  (hs:(Vo (e::es) X.env).map (·.2)=assign e X.env::(Vo es X.env).map (·.2):=by rfl):PGs X (e::es) (uC t u):=by
 intro pins s σ H vs us Q I r h;obtain⟨v,vr,e1,h⟩:=h;subst e1;cases r with
 |cons r rr=>
  rw[hs];refine assignInOrder_cons (thn (h1 pins s σ H _ _ _ I r h) fun _ s1 ⟨σ1,H1,I1,q1⟩=>?_);exact h2 pins s1 σ1 H1 _ _ Q I1 rr q1
def GZ(K:W0)(n:Nat)(t:TGs):TG:=fun v σ H Q=>∃a xs,v = .ref a/\SqT K H a xs/\xs.length=n/\t xs σ H Q
theorem yo{k:Nat}{n:Nat}(hc:X.calm=true)(h:PGs X es t)
  (hn:(Vo es X.env).length=n:=by rfl) (hst:(Vo es X.env).findIdx? (·.1)=none:=by rfl):PG X (.Tuple es k pos) (GZ X.K n t):=by
 intro pins s σ H v u Q I r hw;obtain⟨a,xs,e1,hq,hl,hw⟩:=hw;subst e1;cases r;obtain⟨its,rv,ht,hz⟩:=I.tuple hq;refine assign_Tuple_tuple (I.ok.hd hc) ht (by simp[hn,<-hl,rv.length]) hst fun h' hx=>?_;have I1:Inv X pins σ H { s with heap:=h' }:=I.kept (t':=s.toks) fun b o e=>hx b o (ZA (Zq e)) e;exact h pins _ σ H xs _ Q I1 (by simpa using rv) hw
def yp(to ti:TE)(t:B6):TG:=fun v σ H Q=>to σ H fun o H1=>ti σ H1 fun i H2=>t o i v H2 fun H3=>Q σ H3
theorem se{o i:Expr}{to ti:TE}{t:B6}(ho:PE X o to)(hi:PE X i ti)(hs:GX X t)
  (ha:∀v,assign (.Subscript o i pos) X.env v=(do
   let ov <-holding [v] (eval o X.env)
   let iv <-holding [v,ov] (eval i X.env)
   standAt pos
   holding [v,ov,iv] (setItem ov iv v)
   release [v,ov,iv] []):=by intro _;rfl):PG X (.Subscript o i pos) (yp to ti t):=by
 intro pins s σ H v u Q I r h;rw[ha];refine Ua (Ui (thn (ho pins s σ H _ I h) fun ov s1 ⟨x,H1,I1,r1,q1⟩=>?_));refine Ua (Ui (thn (hi pins s1 σ H1 _ I1 q1) fun iv s2 ⟨y,H2,I2,r2,q2⟩=>?_));refine Ua (Uz (Ua (Ui (thn (hs pins s2 σ H2 x y v ov iv u _ I2 r1 r2 r q2) fun _ s3 ⟨H3,I3,q3⟩=>?_))));exact wpAny_release ⟨σ,H3,I3,q3⟩
def v9(te:TE)(g:TG):TS:=fun D σ H=>te σ H fun x H1=>g x σ H1 D.nx
theorem iI{tg e:Expr}{te:TE}{g:TG}(he:PE X e te)(hg:PG X tg g)(hs:V3 [tg] e pos.line X.env=pure false:=by rfl)(hw:V1 [tg] e X.env=pure none:=by rfl)
  (h1:(Vo [tg] X.env).map (·.2)=[assign tg X.env]:=by rfl):PS X (.Assign [tg] e pos) (v9 te g):=by
 intro pins s σ H D I h;refine wpAny_Assign_stores (thn (he pins s σ H _ I h) fun v s1 ⟨x,H1,I1,r1,q1⟩=>?_) hs hw;rw[h1];exact thn (hg pins s1 σ H1 x v _ I1 r1 q1) fun _ s2 q=>q
theorem G0{i:Nat}{x:Str}{e:Expr}{te:TE}{pos':Pos}(hN:X.N.Nodup)(hi:X.N[i]?=some x)(hx:Loc X.env.scope x)(he:PE X e te)(hs:V2 e (some (.Name x pos')) pos.line X.env=pure false:=by rfl)(hf:X.fn x=true\/X.env.scope.names.lookup x=some .local:=by first |exact .inl rfl |exact .inr rfl |assumption) :
  PS X (.Assign [.Name x pos'] e pos) (v9 te (mR i)):=by
 intro pins s σ H D I h;refine wpAny_Assign_Name (thn (he pins s σ H _ I h) fun v s1 ⟨y,H1,I1,r1,q1⟩=>?_) hs;exact ci I1 hN hi hx r1 (fun s2 I2=>⟨_,H1,I2,q1⟩) hf
def LM(i j:Nat)(ta:TA):TS:=fun D σ H=>ta σ H fun vs H1=>∃v w,vs=[v,w]/\D.nx ((σ.set i (some v)).set j (some w)) H1
theorem G1{i j:Nat}{x y:Str}{a b:Expr}{ta:TA}{px py pt:Pos}{kt k2 pt2}(hc:X.calm=true)(hN:X.N.Nodup)(hi:X.N[i]?=some x)(hj:X.N[j]?=some y)(hij:i ≠ j)
  (hx:X.env.scope.names.lookup x=some .local) (hy:X.env.scope.names.lookup y=some .local) (ha:PA X [a,b] ta)
  (hw:V1 [.Tuple [.Name x px,.Name y py] kt pt] (.Tuple [a,b] k2 pt2) X.env=pure (some [x,y]))
  (hs:V3 [.Tuple [.Name x px,.Name y py] kt pt] (.Tuple [a,b] k2 pt2) pos.line X.env=pure false:=by rfl) :
  PS X (.Assign [.Tuple [.Name x px,.Name y py] kt pt] (.Tuple [a,b] k2 pt2) pos) (LM i j ta):=by
 intro pins s σ H D I h;rw[exec_Assign_arm];refine Ua (Uz ?_);rw[hs];refine Ua (Us ?_);rw[if_neg (by decide)];refine Ua (Tuple_ (thn (ha _ pins s σ H _ I h) fun us s1 ⟨vs,H1,I1,r1,q1⟩=>?_));obtain⟨v,w,e1,q1⟩:=q1;subst e1
 obtain⟨u1,u2,rfl,rv,rw'⟩:∃u1 u2,us=[u1,u2]/\aF v u1/\aF w u2:=by
  cases r1 with
  |cons p q=>
   cases q with
   |cons p' q'=>
    cases q';exact⟨_,_,rfl,p,p'⟩
 refine Uq ?_ (by show 2<=sizeLine;decide);have I2:Inv X pins σ H1 { s1 with heap:=s1.heap.push { cls:=.type "tuple", data:=.seq [u1,u2].toArray } }:=I1.kept (t':=s1.toks) fun b o e=>Zk _ e;rw[hw];refine Ua (Us ?_);show wpAny (model X.prog X.w) X.A (do rule "assign.swapped-stores"; let items <-unpackItems (.ref s1.heap.objs.size) 2 none;Vp [fun v=>Vs X.env y v,fun v=>Vs X.env x v] items.reverse;pure Flow.next) _ _ _;refine Ua (Uy (Ua (unpackItems_tuple (items:=#[u1,u2]) (I.ok.hd hc) (IsTup.new s1.heap _) fun h' hx'=>?_)));have I3:=I2.kept (h':=h') (t':=s1.toks) fun b o e=>hx' b o (ZA (Zq e)) e;show wpAny _ _ (Vp [fun v=>Vs X.env y v,fun v=>Vs X.env x v] [u2,u1] >>= fun _=>pure Flow.next) _ _ _;refine Ua (assignInOrder_cons (Ub (ci I3 hN hj (.inl hy) rw' (fun s2 I4=>?_) (.inr hy))));refine assignInOrder_cons (Ub (ci I4 hN hi (.inl hx) rv (fun s3 I5=>assignInOrder_nil (Us ?_)) (.inr hx)));rw[YZ _ _ (Ne.symm hij)] at I5;exact⟨_,H1,I5,q1⟩
end
structure It where
 go:Nat->Hp->Prop
 yld:Nat->Hp->V->Hp->Prop
 stop:Nat->Hp->Prop
def gq(X:Cx)(pins:List (Addr × Obj))(H:Hp)(b:Addr):Prop:=
 H b=none/\b ≠ X.env.locals/\b ∉ X.fs/\(b ∈ X.ex\/X.s₀.heap.objs.size<=b)/\(∀x c,X.env.cells.lookup x=some c->c ≠ b)/\∀p ∈ X.pn++pins,p.1 ≠ b
theorem Inv.fpOk(I:Inv X pins σ H s)(hb:s.heap.objs.size<=b)(hn:H' b=none):gq X pins H' b:=by
 refine⟨hn,XB (Zu I.lt hb),I.nofs hb,.inr (ZF I.sz hb),fun x c e z=>?_,fun p hp z=>?_⟩
 ·obtain⟨v,q⟩:=I.cell x c e;exact absurd (Zu q.lt (by rw[z];exact hb)) (ZO _)
 ·exact absurd (Zu (Zq (I.pin p hp).1) (by rw[z];exact hb)) (ZO _)
structure Turn(P:Program)(w:World)(K:W0)(tg:Expr)(J:It)(fp:List Addr)(it:Addr)(tn:Nat->Heap->Prop):Prop where
 mem:it ∈ fp
 obj:∀i h,tn i h->∀b ∈ fp,∃o,h.get? b=some o/\∀v,o.data ≠ .cell v
 keep:∀i h h',tn i h->(∀b ∈ fp,∀o,h.get? b=some o->h'.get? b=some o)->tn i h'
 item:∀ (X:Cx),X.prog=P->X.w=w->X.K=K->X.calm=true->∀ (i:Nat) (pins:List (Addr × Obj)) (s:Shared) (σ:St) (H:Hp) (E:Value->Shared->Prop),Inv X pins σ H s->(∀b ∈ fp,gq X pins H b)->tn i s.heap->J.go i H ->
  wpAny (model P w) X.A (pyNext (.ref it)) (fun r s1=>∃u,r=some u ∧
   wpAny (model P w) X.A (VI tg (.ref it) u) (fun _ s2=>∃x H',Inv X pins σ H' s2/\aF x u/\J.yld i H x H'/\tn (i+1) s2.heap/\∀b ∈ fp,H' b=none) E s1) E s
 done:∀ (X:Cx),X.prog=P->X.w=w->X.K=K->X.calm=true->∀ (i:Nat) (pins:List (Addr × Obj)) (s:Shared) (σ:St) (H:Hp) (E:Value->Shared->Prop),Inv X pins σ H s->(∀b ∈ fp,gq X pins H b)->tn i s.heap->J.stop i H ->
  wpAny (model P w) X.A (pyNext (.ref it)) (fun r s1=>r=none/\Inv X pins σ H s1) E s
 self:∀ (A:Around) (i:Nat) (s:Shared) (Q:Value->Shared->Prop) (E:Value->Shared->Prop),tn i s.heap->Q (.ref it) s->wpAny (model P w) A (pyIter (.ref it)) Q E s
abbrev TI:=St->Hp->(It->Hp->Prop)->Prop
def PIE(X:Cx)(pins:List (Addr × Obj))(σ:St)(tg:Expr)(R:It->Hp->Prop)(itv:Value)(s2:Shared):Prop:=
 ∃ (it:Addr) (fp:List Addr) (tn:Nat->Heap->Prop) (J:It) (H':Hp),itv = .ref it/\Inv X pins σ H' s2/\Turn X.prog X.w X.K tg J fp it tn/\tn 0 s2.heap/\(∀b ∈ fp,gq X pins H' b)/\R J H'
def PI(X:Cx)(tg iter:Expr)(wi:TI):Prop:=
 ∀ (pins:List (Addr × Obj)) (s:Shared) (σ:St) (H:Hp) (R:It->Hp->Prop),Inv X pins σ H s->wi σ H R ->
  wpAny (model X.prog X.w) X.A (eval iter X.env) (fun v s1=>wpAny (model X.prog X.w) X.A (pyIter v) (PIE X pins σ tg R) X.xe s1) X.xe s
theorem yq(ho:s.heap.get? it=some o)(hc:o.cls = .type n)(hd:o.data = .fields vs)
  (hn:["enumerate", "zip", "dict_itemiterator", "dict_reverseitemiterator", "odict_iterator", "itertools.zip_longest", "itertools.pairwise"].contains n=false) (hQ:Q () s):wpAny M A (VI tg (.ref it) u) Q E s:=by
 unfold VI
 cases tg <;> first
  |exact Us hQ
  | (cases u <;> first
    |exact Us hQ
    | (refine Ua (wpAny_load ho ?_)
       rw[hc,hd];show wpAny M A (if (["enumerate", "zip", "dict_itemiterator", "dict_reverseitemiterator", "odict_iterator", "itertools.zip_longest", "itertools.pairwise"].contains n && vs[0]? == some (rawInt _))=true then _ else _) Q E s;rw[if_neg (by intro h;rw[hn,Xe] at h;cases h)];exact Us hQ))
noncomputable def Itl(K:W0)(a:Addr):It:=
 ⟨fun i H=>∃xs x,SqL K H a xs/\xs[i]?=some x,fun i H x H'=>H'=H/\∀xs,SqL K H a xs->xs[i]?=some x,fun i H=>∃xs,SqL K H a xs/\xs.length<=i⟩
noncomputable def Itt(K:W0)(a:Addr):It:=
 ⟨fun i H=>∃xs x,SqT K H a xs/\xs[i]?=some x,fun i H x H'=>H'=H/\∀xs,SqT K H a xs->xs[i]?=some x,fun i H=>∃xs,SqT K H a xs/\xs.length<=i⟩
noncomputable def Itr(lo:Int)(n:Nat):It:=⟨fun i _=>i < n,fun i H x H'=>H'=H/\x = .int (lo+i),fun i _=>n<=i⟩
theorem wa{P:Program}{w:World}{K:W0}{tg:Expr}(a it:Addr):Turn P w K tg (Itl K a) [it] it (fun i h=>h.IsListIter it a i) where
 mem:=by simp
 obj:=fun i h st b hb=>by
  have e:b=it:=by simpa using hb
  subst e;obtain⟨o,e,c,d⟩:=st;exact⟨o,e,fun v z=>by rw[d] at z;cases z⟩
 keep:=fun i h h' st k=>st.at fun o e=>k it (by simp) o e
 item:=by
  intro X hP hw hK hc i pins s σ H E I hf st hg;subst hP hw hK;obtain⟨xs,x,hq,hx⟩:=hg;obtain⟨its,rv,p,hz⟩:=I.list hq;obtain⟨u,hu,ru⟩:=rv.get hx;obtain⟨f0,f1,f2,f3,f4,f5⟩:=hf it (by simp);refine wpAny_pyNext_list_item st p.isList (x:=u) (by simpa using hu) fun h' st' sb=>?_;have I1:Inv X pins σ H { s with heap:=h' }:=I.turned (t':=s.toks) (fun b o hb e=>(sb.2 b hb).trans e) f0 f1 f3 f4 f5;obtain⟨o,e,c,d⟩:=id st';exact⟨u,rfl,yq (s:={ s with heap:=h' }) e c d (by decide) ⟨x,H,I1,ru,⟨rfl,fun ys hy=>by rw[I.list_inj hy hq];exact hx⟩,st',fun b hb=>(hf b hb).1⟩⟩
 done:=by
  intro X hP hw hK hc i pins s σ H E I hf st hg;subst hP hw hK;obtain⟨xs,hq,hx⟩:=hg;obtain⟨its,rv,p,hz⟩:=I.list hq;obtain⟨f0,f1,f2,f3,f4,f5⟩:=hf it (by simp);have hl:=rv.length;exact wpAny_pyNext_list_end (I.ok.hd hc) st p.isList (by simp;lia) fun h' eb=>⟨rfl,I.turned (t':=s.toks) (fun b o hb e=>eb b o hb e) f0 f1 f3 f4 f5⟩
 self:=fun _ _ _ _ _ st h=>wpAny_pyIter_listiter st h
theorem sg{P:Program}{w:World}{K:W0}{tg:Expr}(a it:Addr):Turn P w K tg (Itt K a) [it] it (fun i h=>h.IsTupleIter it a i) where
 mem:=by simp
 obj:=fun i h st b hb=>by
  have e:b=it:=by simpa using hb
  subst e;obtain⟨o,e,c,d⟩:=st;exact⟨o,e,fun v z=>by rw[d] at z;cases z⟩
 keep:=fun i h h' st k=>st.at fun o e=>k it (by simp) o e
 item:=by
  intro X hP hw hK hc i pins s σ H E I hf st hg;subst hP hw hK;obtain⟨xs,x,hq,hx⟩:=hg;obtain⟨its,rv,p,hz⟩:=I.tuple hq;obtain⟨u,hu,ru⟩:=rv.get hx;obtain⟨f0,f1,f2,f3,f4,f5⟩:=hf it (by simp);refine wpAny_pyNext_tuple_item st (show s.heap.IsTuple a its.toArray from p) (x:=u) (by simpa using hu) fun h' st' sb=>?_;have I1:Inv X pins σ H { s with heap:=h' }:=I.turned (t':=s.toks) (fun b o hb e=>(sb.2 b hb).trans e) f0 f1 f3 f4 f5;obtain⟨o,e,c,d⟩:=id st';exact⟨u,rfl,yq (s:={ s with heap:=h' }) e c d (by decide) ⟨x,H,I1,ru,⟨rfl,fun ys hy=>by rw[I.tuple_inj hy hq];exact hx⟩,st',fun b hb=>(hf b hb).1⟩⟩
 done:=by
  intro X hP hw hK hc i pins s σ H E I hf st hg;subst hP hw hK;obtain⟨xs,hq,hx⟩:=hg;obtain⟨its,rv,p,hz⟩:=I.tuple hq;obtain⟨f0,f1,f2,f3,f4,f5⟩:=hf it (by simp);have hl:=rv.length;exact wpAny_pyNext_tuple_end (I.ok.hd hc) st (show s.heap.IsTuple a its.toArray from p) (by simp;lia) fun h' eb=>⟨rfl,I.turned (t':=s.toks) (fun b o hb e=>eb b o hb e) f0 f1 f3 f4 f5⟩
 self:=fun _ _ _ _ _ st h=>wpAny_pyIter_tupleiter st h
theorem si{P:Program}{w:World}{K:W0}{tg:Expr}(it:Addr)(lo:Int)(n:Nat):Turn P w K tg (Itr lo n) [it] it (fun i h=>IsRangeIter h it (lo+(i:Nat) * 1) ((n:Int) - (i:Nat)) 1) where
 mem:=by simp
 obj:=fun i h st b hb=>by
  have e:b=it:=by simpa using hb
  subst e
  exact⟨_,st,fun v z=>by
   have z':Data.fields _=Data.cell v:=z;cases z'⟩
 keep:=fun i h h' st k=>k it (by simp) _ st
 item:=by
  intro X hP hw hK hc i pins s σ H E I hf st hg;subst hP hw hK;obtain⟨f0,f1,f2,f3,f4,f5⟩:=hf it (by simp);have W:=Walks.range (prog:=X.prog) (w:=X.w) (I.ok.hd hc) it lo 1 n;refine W.item i s _ _ hg st fun v h' tk hv st' kk=>?_;obtain⟨t,rfl⟩:=hv;have I1:Inv X pins σ H { s with heap:=h',toks:=tk }:=I.turned (fun b o hb e=>kk b o (by simpa using hb) e) f0 f1 f3 f4 f5;refine⟨_,rfl,yq (s:={ s with heap:=h',toks:=tk }) (n := "range_iterator") st' rfl rfl (by decide) ⟨.int (lo+i),H,I1,⟨t,?_⟩,⟨rfl,rfl⟩,st',fun b hb=>(hf b hb).1⟩⟩;rw[Int.mul_one]
 done:=by
  intro X hP hw hK hc i pins s σ H E I hf st hg;subst hP hw hK;obtain⟨f0,f1,f2,f3,f4,f5⟩:=hf it (by simp);exact wpAny_pyNext_range_end (I.ok.hd hc) st (by have:n<=i:=hg;lia) fun h' eb=>⟨rfl,I.turned (t':=s.toks) (fun b o hb e=>eb b o hb e) f0 f1 f3 f4 f5⟩
 self:=fun _ _ _ _ _ st h=>wpAny_pyIter_rangeiter st h
section
variable {X:Cx} {tg:Expr}
def yr(K:W0)(tl:TE):TI:=fun σ H R=>tl σ H fun x H1=>∃a,x = .ref a/\(∃xs,SqL K H1 a xs)/\R (Itl K a) H1
def LN(K:W0)(tl:TE):TI:=fun σ H R=>tl σ H fun x H1=>∃a,x = .ref a/\(∃xs,SqT K H1 a xs)/\R (Itt K a) H1
theorem uE{l:Expr}{tl:TE}(hl:PE X l tl):PI X tg l (yr X.K tl):=by
 intro pins s σ H R I h;refine thn (hl pins s σ H _ I h) fun v s1 ⟨x,H1,I1,r1,q1⟩=>?_;obtain⟨a,e,⟨xs,hq⟩,q⟩:=q1;subst e;cases r1;obtain⟨its,rv,p,hz⟩:=I1.list hq;refine Uu p.isList ?_;refine⟨s1.heap.objs.size,[s1.heap.objs.size],_,_,H1,rfl,I1.kept (t':=s1.toks) fun b o e=>Zk _ e,wa a _,⟨_,ZE _ rfl,rfl,rfl⟩,fun b hb=>?_,q⟩;have e:b=s1.heap.objs.size:=by simpa using hb
 subst e;exact I1.fpOk (Ze _) (I1.hok.fresh (Ze _))
theorem G2{l:Expr}{tl:TE}(hl:PE X l tl):PI X tg l (LN X.K tl):=by
 intro pins s σ H R I h;refine thn (hl pins s σ H _ I h) fun v s1 ⟨x,H1,I1,r1,q1⟩=>?_;obtain⟨a,e,⟨xs,hq⟩,q⟩:=q1;subst e;cases r1;obtain⟨its,rv,p,hz⟩:=I1.tuple hq;refine Uv (show s1.heap.IsTuple a its.toArray from p) ?_;refine⟨s1.heap.objs.size,[s1.heap.objs.size],_,_,H1,rfl,I1.kept (t':=s1.toks) fun b o e=>Zk _ e,sg a _,⟨_,ZE _ rfl,rfl,rfl⟩,fun b hb=>?_,q⟩;have e:b=s1.heap.objs.size:=by simpa using hb
 subst e;exact I1.fpOk (Ze _) (I1.hok.fresh (Ze _))
theorem qh{lo hi:Int}{tk:Nat}(I:Inv X pins σ H s)(h1:-(2 ^ 62)<=lo)(h2:lo < 2 ^ 62)(h3:-(2 ^ 62)<=hi)(h4:hi < 2 ^ 62)
  (q:R (Itr lo (hi - lo).toNat) H):wpAny (model X.prog X.w) X.A (pyIter (.ref s.heap.objs.size)) (PIE X pins σ tg R) E { s with heap:=s.heap.push { cls:=.type "range", data:=.fields #[.int lo t,.int hi u,.int 1 v] },toks:=tk }:=by
 refine wpAny_pyIter_range (IsRange.new ..) (small_one h1 h2 h3 h4) ?_;have I1:Inv X pins σ H { s with heap:=s.heap.push { cls:=.type "range", data:=.fields #[.int lo t,.int hi u,.int 1 v] },toks:=tk }:=I.kept fun b o e=>Zk _ e
 refine⟨(s.heap.push { cls:=.type "range", data:=.fields #[.int lo t,.int hi u,.int 1 v] }).objs.size,[(s.heap.push { cls:=.type "range", data:=.fields #[.int lo t,.int hi u,.int 1 v] }).objs.size],_,_,H,rfl,
  I1.kept (t':=tk) fun b o e=>Zk _ e,si _ lo (hi - lo).toNat,?_,fun b hb=>?_,q⟩
 ·have e1:lo+((0:Nat):Int) * 1=lo:=by simp
  have e2:(((hi - lo).toNat:Nat):Int) - ((0:Nat):Int)=Builtin.Range.rangeSize lo hi 1:=by rw[rangeSize_one];split <;> lia
  show IsRangeIter _ _ (lo+((0:Nat):Int) * 1) ((((hi - lo).toNat:Nat):Int) - ((0:Nat):Int)) 1;rw[e1,e2];exact ZE _ rfl
 ·have e:b=(s.heap.push { cls:=.type "range", data:=.fields #[.int lo t,.int hi u,.int 1 v] }).objs.size:=by simpa using hb
  subst e;exact I1.fpOk (Ze _) (I1.hok.fresh (Ze _))
def FR(ta:TA):TI:=fun σ H R=>ta σ H fun vs H1=>∃j:Int,vs=[.int j]/\-(2 ^ 62)<=j/\j < 2 ^ 62/\R (Itr 0 j.toNat) H1
def FS(ta:TA):TI:=fun σ H R=>ta σ H fun vs H1=>∃i j:Int,vs=[.int i,.int j]/\(-(2 ^ 62)<=i/\i < 2 ^ 62/\-(2 ^ 62)<=j/\j < 2 ^ 62)/\R (Itr i (j - i).toNat) H1
theorem wb(hg:Gl X "range")(hm:X.mg "range" = none)(ha:PA X [a] ta)(hs:VZ [a] X.env=[(false,eval a X.env)]:=by rfl):PI X tg (.Call (.Name "range" p) [a] [] pos) (FR ta):=by
 intro pins s σ H R I h;refine Call_ (gF I hg hm boot_range (Wn (thn (ha pos pins s σ H _ I h) fun us s1 ⟨vs,H1,I1,r1,q1⟩=>?_) hs rfl));obtain⟨j,e,q1,q2,q⟩:=q1;subst e;cases r1 with
 |cons r rr=>
  cases rr;obtain⟨t,rfl⟩:=r;exact call_range_1 (qh I1 (by lia) (by lia) q1 q2 (by simpa using q))
theorem wc(hg:Gl X "range")(hm:X.mg "range" = none)(ha:PA X [a,b] ta)(hs:VZ [a,b] X.env=[(false,eval a X.env),(false,eval b X.env)]:=by rfl)(hs2:VZ [b] X.env=[(false,eval b X.env)]:=by rfl) :
  PI X tg (.Call (.Name "range" p) [a,b] [] pos) (FS ta):=by
 intro pins s σ H R I h;refine Call_ (gF I hg hm boot_range (Wn (thn (ha pos pins s σ H _ I h) fun us s1 ⟨vs,H1,I1,r1,q1⟩=>?_) (by rw[hs,hs2]) (by rw[hs2];rfl)));obtain⟨i,j,e,⟨q1,q2,q3,q4⟩,q⟩:=q1;subst e;cases r1 with
 |cons r rr=>
  cases rr with
  |cons r' rr=>
   cases rr;obtain⟨t,rfl⟩:=r;obtain⟨t',rfl⟩:=r';exact call_range_2 (qh I1 q1 q2 q3 q4 q)
def LO(wi:TI)(g:TG)(tb:TS):TS:=fun D σ H=>wi σ H fun J H1=>∃W:Nat->Nat->St->Hp->Prop,(∃m,W 0 m σ H1)/\∀i m σ H,W i m σ H ->
 (J.stop i H/\D.nx σ H)\/(J.go i H/\∃N:St->Hp->Prop,(∀σ' H',N σ' H'->∃m',m' < m/\W (i+1) m' σ' H')/\∀x H',J.yld i H x H'->g x σ H' fun σ2 H2=>tb { D with nx:=N,ct:=N,bk:=D.nx } σ2 H2)
noncomputable def ko(fp:List Addr)(h:Heap):List (Addr × Obj):=fp.filterMap fun b=>(h.get? b).map fun o=>(b,o)
theorem ef(hb:b ∈ fp)(e:h.get? b=some o):(b,o) ∈ ko fp h:=Yu.mpr ⟨b,hb,by rw[e];rfl⟩
theorem wd(hp:p ∈ ko fp h):p.1 ∈ fp/\h.get? p.1=some p.2:=by
 obtain⟨b,hb,e⟩:=Yu.mp hp;cases q:h.get? b with
 |none=>rw[q] at e;cases e
 |some o=>
  rw[q] at e;have e':(b,o)=p:=Option.some.inj e;subst e';exact⟨hb,q⟩
theorem Inv.pinned(I:Inv X pins σ H s)(hf:∀b ∈ fp,gq X pins H b)(ho:∀b ∈ fp,∃o,s.heap.get? b=some o/\∀v,o.data ≠ .cell v):Inv X (pins++ko fp s.heap) σ H s:=
 I.pins_of fun p hp=>(Zy.mp hp).elim (fun z=>I.pin p (Zz _ z)) fun z=>by
  obtain⟨hb,e⟩:=wd z;obtain⟨f0,f1,f2,_⟩:=hf p.1 hb;obtain⟨o,e',d⟩:=ho p.1 hb;rw[e] at e';cases e';exact⟨e,f0,f1,f2,d⟩
theorem Inv.unpinned(I:Inv X (pins++pl) σ H s):Inv X pins σ H s:=I.pins_of fun p hp=>I.pin p (Zz _ (Yl _ hp))
theorem G3(hp:PassesOwn (model X.prog X.w) X.A X.env X.xe)(hc:X.calm=true)(hi:PI X tg iter wi)(hg:PG X tg g)(hb:PSs X body tb)
  (hs:∀x,VE iter X.env x=pure x:=by intro _;rfl):PS X (.For tg iter body [] pos) (LO wi g tb):=by
 intro pins s σ H D I h;refine wpAny_For (thn (hi pins s σ H _ I h) fun v s1 h1=>thn h1 fun itv s2 h2=>?_) hs;obtain⟨it,fp,tn,J,H2,e,I2,T,st2,f2,W,⟨m0,w0⟩,turn⟩:=h2;subst e;have stat:∀ {H':Hp},(∀b ∈ fp,H' b=none)->∀b ∈ fp,gq X pins H' b:=fun hn b hb=>⟨hn b hb,(f2 b hb).2⟩;refine codeAny_forLoop_any (fun n s'=>∃i σ' H',Inv X pins σ' H' s'/\tn i s'.heap/\(∀b ∈ fp,H' b=none)/\W i n σ' H') ?_ m0 ⟨0,σ,H2,I2,st2,fun b hb=>(f2 b hb).1,w0⟩;rintro n s3 ⟨i,σ3,H3,I3,st3,fr3,w3⟩;rcases turn i n σ3 H3 w3 with ⟨stop,qn⟩ |⟨go,N,hN,step⟩
 ·refine Ur hp (thn (T.done X rfl rfl rfl hc i pins s3 σ3 H3 X.xe I3 (stat fr3) st3 stop) fun r s4 ⟨hr,I4⟩=>?_);subst hr;exact Ug ⟨σ3,H3,I4,qn⟩
 ·refine Ur hp (thn (T.item X rfl rfl rfl hc i pins s3 σ3 H3 X.xe I3 (stat fr3) st3 go) fun r s4 ⟨u,hr,h4⟩=>?_);subst hr;refine Ur hp (thn h4 fun _ s5 ⟨x,H5,I5,r5,y5,st5,fr5⟩=>?_);have I5':=I5.pinned (stat fr5) (T.obj _ _ st5);refine Ur hp (thn (hg _ s5 σ3 H5 x u _ I5' r5 (step x H5 y5)) fun _ s6 ⟨σ6,H6,I6,q6⟩=>?_);refine Ur hp (thn (hb _ s6 σ6 H6 _ I6 q6) fun f s7 q7=>?_)
  have again:∀ {σ7:St} {H7:Hp},Inv X (pins++ko fp s5.heap) σ7 H7 s7->N σ7 H7->∃m,m < n/\∃i σ' H',Inv X pins σ' H' s7/\tn i s7.heap/\(∀b ∈ fp,H' b=none)/\W i m σ' H':=fun {σ7 H7} I7 n7=>by
   obtain⟨m',hm,w7⟩:=hN σ7 H7 n7;refine⟨m',hm,i+1,σ7,H7,I7.unpinned,T.keep _ _ _ st5 fun b hb o e=>(I7.pin (b,o) (Zz _ (Zz _ (ef hb e)))).1,fun b hb=>?_,w7⟩;obtain⟨o,e,d⟩:=T.obj _ _ st5 b hb;exact(I7.pin (b,o) (Zz _ (Zz _ (ef hb e)))).2.1
  cases f with
  |next=>obtain⟨σ7,H7,I7,n7⟩:=q7;exact again I7 n7
  |cont=>obtain⟨σ7,H7,I7,n7⟩:=q7;exact again I7 n7
  |brk=>obtain⟨σ7,H7,I7,q7⟩:=q7;exact⟨σ7,H7,I7.unpinned,q7⟩
  |ret v=>obtain⟨x7,σ7,H7,I7,r7,q7⟩:=q7;exact⟨x7,σ7,H7,I7.unpinned,r7,q7⟩
end
abbrev R2:=V->V->Hp->VK->Prop
def OpR(X:Cx)(f:Value->Value->Sem Value)(r:R2):Prop:=
 ∀ (pins:List (Addr × Obj)) (s:Shared) (σ:St) (H:Hp) (x y:V) (v u:Value) (Q:VK),Inv X pins σ H s->aF x v->aF y u->r x y H Q ->
  wpAny (model X.prog X.w) X.A (f v u) (EP X pins σ Q) X.xe s
def UnR(X:Cx)(f:Value->Sem Value)(r:V->Hp->VK->Prop):Prop:=
 ∀ (pins:List (Addr × Obj)) (s:Shared) (σ:St) (H:Hp) (x:V) (v:Value) (Q:VK),Inv X pins σ H s->aF x v->r x H Q ->
  wpAny (model X.prog X.w) X.A (f v) (EP X pins σ Q) X.xe s
def aM(X:Cx)(f:Value)(r:List V->Hp->VK->Prop):Prop:=
 ∀ (pins:List (Addr × Obj)) (s:Shared) (σ:St) (H:Hp) (xs:List V) (us:List Value) (Q:VK),Inv X pins σ H s->aJ xs us->r xs H Q ->
  wpAny (model X.prog X.w) X.A (call f us) (EP X pins σ Q) X.xe s
def OI(X:Cx)(r:V->Hp->(Bool->Hp->Prop)->Prop):Prop:=
 ∀ (pins:List (Addr × Obj)) (s:Shared) (σ:St) (H:Hp) (x:V) (v:Value) (Q:Bool->Hp->Prop),Inv X pins σ H s->aF x v->r x H Q ->
  wpAny (model X.prog X.w) X.A (truthy v) (TP X pins σ Q) X.xe s
def tOp(r:R2)(ta tb:TE):TE:=fun σ H Q=>ta σ H fun x H1=>tb σ H1 fun y H2=>r x y H2 Q
def tUn(r:V->Hp->VK->Prop)(ta:TE):TE:=fun σ H Q=>ta σ H fun x H1=>r x H1 Q
def rI(C:Int->Int->Prop)(g:Int->Int->V):R2:=fun x y H Q=>∃i j,x = .int i/\y = .int j/\C i j/\Q (g i j) H
def rI0(g:Int->Int->V):R2:=fun x y H Q=>∃i j,x = .int i/\y = .int j/\Q (g i j) H
def rU(g:Int->V):V->Hp->VK->Prop:=fun x H Q=>∃i,x = .int i/\Q (g i) H
section
variable {X:Cx} {a b c:Expr} {ta tb tc:TE} {pos:Pos}
theorem G4(ha:PE X a ta)(hb:PE X b tb){pins:List (Addr × Obj)}{s:Shared}{σ:St}{H:Hp}{R:V->V->Hp->Prop}(I:Inv X pins σ H s)
  (h:ta σ H fun x H1=>tb σ H1 fun y H2=>R x y H2) {Q:Value->Shared->Prop} {f:Value->Value->Sem Value}
  (hf:∀v u s2 x y H2,Inv X pins σ H2 s2->aF x v->aF y u->R x y H2->wpAny (model X.prog X.w) X.A (f v u) Q X.xe s2) :
  wpAny (model X.prog X.w) X.A (eval a X.env) (fun v s₁=>wpAny (model X.prog X.w) X.A (eval b X.env) (fun u s₂=>wpAny (model X.prog X.w) X.A (f v u) Q X.xe s₂) X.xe s₁) X.xe s:=by
 refine thn (ha pins s σ H _ I h) fun v s1 ⟨x,H1,I1,r1,q1⟩=>?_;refine thn (hb pins s1 σ H1 _ I1 q1) fun u s2 ⟨y,H2,I2,r2,q2⟩=>?_;exact hf v u s2 x y H2 I2 r1 r2 q2
theorem yt{op:WK}{r:R2}(ho:OpR X (Vr op) r)(ha:PE X a ta)(hb:PE X b tb):PE X (.BinOp a op b pos) (tOp r ta tb):=by
 intro pins s σ H Q I h;exact wpAny_BinOp (G4 ha hb I h fun v u s2 x y H2 I2 rx ry q=>ho pins s2 σ H2 x y v u Q I2 rx ry q)
theorem LP(ho:UnR X (unaryOp op) r)(ha:PE X a ta):PE X (.UnaryOp op a pos) (tUn r ta):=by
 intro pins s σ H Q I h;exact UnaryOp_ (thn (ha pins s σ H _ I h) fun v s1 ⟨x,H1,I1,r1,q1⟩=>ho pins s1 σ H1 x v Q I1 r1 q1)
theorem opI{f:Value->Value->Sem Value}{C:Int->Int->Prop}{g:Int->Int->Int}
  (rule:∀ (i j:Int) (t u:Tok) (s:Shared) (Q:Value->Shared->Prop) (E:Value->Shared->Prop),C i j->Q (.int (g i j) s.toks) { s with toks:=s.toks+1 }->wpAny (model X.prog X.w) X.A (f (.int i t) (.int j u)) Q E s) :
  OpR X f (rI C fun i j=>.int (g i j)):=by
 intro pins s σ H x y v u Q I rx ry h;obtain⟨i,j,rfl,rfl,hc,q⟩:=h;obtain⟨t,rfl⟩:=rx;obtain⟨t',rfl⟩:=ry;exact rule i j t t' s _ _ hc ⟨.int (g i j),H,I.tok _,⟨_,rfl⟩,q⟩
theorem LQ{f:Value->Value->Sem Value}{g:Int->Int->Int}
  (rule:∀ (i j:Int) (t u:Tok) (s:Shared) (Q:Value->Shared->Prop) (E:Value->Shared->Prop),Q (.int (g i j) s.toks) { s with toks:=s.toks+1 }->wpAny (model X.prog X.w) X.A (f (.int i t) (.int j u)) Q E s) :
  OpR X f (rI0 fun i j=>.int (g i j)):=by
 intro pins s σ H x y v u Q I rx ry h;obtain⟨i,j,rfl,rfl,q⟩:=h;obtain⟨t,rfl⟩:=rx;obtain⟨t',rfl⟩:=ry;exact rule i j t t' s _ _ ⟨.int (g i j),H,I.tok _,⟨_,rfl⟩,q⟩
theorem B7{f:Value->Value->Sem Value}{g:Int->Int->Bool}
  (rule:∀ (i j:Int) (t u:Tok) (s:Shared) (Q:Value->Shared->Prop) (E:Value->Shared->Prop),Q (.bool (g i j)) s->wpAny (model X.prog X.w) X.A (f (.int i t) (.int j u)) Q E s) :
  OpR X f (rI0 fun i j=>.bl (g i j)):=by
 intro pins s σ H x y v u Q I rx ry h;obtain⟨i,j,rfl,rfl,q⟩:=h;obtain⟨t,rfl⟩:=rx;obtain⟨t',rfl⟩:=ry;exact rule i j t t' s _ _ ⟨.bl (g i j),H,I,rfl,q⟩
def OJ(i j:Int):Prop:=0<=j/\j<=1000000/\i.natAbs < 2 ^ 64
def LR(i j:Int):Prop:=(-(2 ^ 64) < i/\i < 2 ^ 64)\/(-(2 ^ 64) < j/\j < 2 ^ 64)
theorem LR.ok{i j:Int}(h:LR i j):IntMulOk i j:=by
 rcases h with ⟨h1,h2⟩ |⟨h1,h2⟩
 ·exact .of_left (intBits_le_64 h1 h2)
 ·exact .of_right (intBits_le_64 h1 h2)
theorem G5:OpR X (Vr .Add) (rI0 fun i j=>.int (i+j)):=LQ fun _ _ _ _ _ _ _ q=>add_int q
theorem G6:OpR X (Vr .Sub) (rI0 fun i j=>.int (i - j)):=LQ fun _ _ _ _ _ _ _ q=>sub_int q
theorem G7:OpR X (Vr .Mult) (rI LR fun i j=>.int (i * j)):=opI fun _ _ _ _ _ _ _ hc q=>mul_int q hc.ok
theorem G8:OpR X (Vr .Mod) (rI (fun _ j=>0 < j) fun i j=>.int (i % j)):=opI fun i j _ _ _ _ _ hc q=>by
 have h1:(0:Int) < j:=hc;exact mod_int' (by lia) (by rw[Int.fmod_eq_emod_of_nonneg i (by lia)];exact q)
theorem G9:OpR X (Vr .Pow) (rI OJ fun i j=>.int (i ^ j.toNat)):=opI fun _ _ _ _ _ _ _ hc q=>pow_int_small hc.1 hc.2.1 hc.2.2 q
theorem unI{f:Value->Sem Value}{g:Int->Int}
  (rule:∀ (i:Int) (t:Tok) (s:Shared) (Q:Value->Shared->Prop) (E:Value->Shared->Prop),Q (.int (g i) s.toks) { s with toks:=s.toks+1 }->wpAny (model X.prog X.w) X.A (f (.int i t)) Q E s) :
  UnR X f (rU fun i=>.int (g i)):=by
 intro pins s σ H x v Q I rx h;obtain⟨i,rfl,q⟩:=h;obtain⟨t,rfl⟩:=rx;exact rule i t s _ _ ⟨.int (g i),H,I.tok _,⟨_,rfl⟩,q⟩
theorem Ha:UnR X (unaryOp .USub) (rU fun i=>.int (-i)):=unI fun _ _ _ _ _ q=>neg_int q
end
noncomputable def OK:V->V->Bool
 |.non,.non=>true |.non,.int _=>true |.int _,.non=>true |.non,.bl _=>true |.bl _,.non=>true |.non,.str _=>true |.str _,.non=>true
 |.int _,.int _=>true |.bl _,.bl _=>true |.str _,.str _=>true |.byt _,.byt _=>true
 |.int _,.str _=>true |.str _,.int _=>true |.bl _,.str _=>true |.str _,.bl _=>true
 |_,_=>false
def rNe:R2:=fun x y H Q=>OK x y=true/\Q (.bl (!decide (x=y))) H
theorem B8{i j:Int}:decide (V.int i=V.int j)=(i == j):=by
 rw[Z1];simp
theorem Hb:decide (V.bl i=V.bl j)=(i == j):=by
 rw[Z1];simp
theorem B9:decide (V.str i=V.str j)=(i == j):=by
 rw[Z1];simp
theorem Ca:decide (V.byt i=V.byt j)=(i.toList == j.toList):=by
 rw[Z1];cases i;cases j;simp
section
variable {X:Cx} {a b c:Expr} {ta tb tc:TE} {pos:Pos}
theorem bz(I:Inv X pins σ H s)(q:Q (.bl k) H)(e:k=k'):EP X pins σ Q (.bool k') s:=by
 subst e;exact⟨.bl k,H,I,rfl,q⟩
theorem LS:OpR X (VA .NotEq) rNe:=by
 intro pins s σ H x y v u Q I rx ry h;obtain⟨hs,q⟩:=h;cases x with
 |non=>
  cases rx;cases y with
  |non=>cases ry;exact PySem.EqNone.ne_none_none (bz I q (by simp))
  |bl j=>cases ry;exact PySem.EqNone.ne_none_bool (bz I q (by simp))
  |int j=>obtain⟨t',rfl⟩:=ry;exact PySem.EqNone.ne_none_int (bz I q (by simp))
  |str j=>obtain⟨t',rfl⟩:=ry;exact PySem.EqNone.ne_none_str (bz I q (by simp))
  |_=>exact absurd (show false=true from hs) Zd
 |bl i=>
  cases rx;cases y with
  |non=>cases ry;exact PySem.EqNone.ne_bool_none (bz I q (by simp))
  |bl j=>cases ry;exact ne_bool (bz I q (congrArg not Hb))
  |str j=>obtain⟨t',rfl⟩:=ry;exact PySem.EqMixed.ne_bool_str (bz I q (by simp))
  |_=>exact absurd (show false=true from hs) Zd
 |int i=>
  obtain⟨t,rfl⟩:=rx;cases y with
  |non=>cases ry;exact PySem.EqNone.ne_int_none (bz I q (by simp))
  |int j=>obtain⟨t',rfl⟩:=ry;exact ne_int (bz I q (congrArg not B8))
  |str j=>obtain⟨t',rfl⟩:=ry;exact PySem.EqMixed.ne_int_str (bz I q (by simp))
  |_=>exact absurd (show false=true from hs) Zd
 |str i=>
  obtain⟨t,rfl⟩:=rx;cases y with
  |non=>cases ry;exact PySem.EqNone.ne_str_none (bz I q (by simp))
  |bl j=>cases ry;exact PySem.EqMixed.ne_str_bool (bz I q (by simp))
  |int j=>obtain⟨t',rfl⟩:=ry;exact PySem.EqMixed.ne_str_int (bz I q (by simp))
  |str j=>obtain⟨t',rfl⟩:=ry;exact ne_str (bz I q (congrArg not B9))
  |_=>exact absurd (show false=true from hs) Zd
 |byt i=>
  obtain⟨t,rfl⟩:=rx;cases y with
  |byt j=>obtain⟨t',rfl⟩:=ry;exact PySem.W.ne_bytes (bz I q (congrArg not Ca))
  |_=>exact absurd (show false=true from hs) Zd
 |_=>cases y <;> exact absurd (show false=true from hs) Zd
theorem LU:OpR X (VA .Lt) (rI0 fun i j=>.bl (decide (i < j))):=B7 fun _ _ _ _ _ _ _ q=>lt_int q
theorem LV:OpR X (VA .LtE) (rI0 fun i j=>.bl (decide (i<=j))):=B7 fun _ _ _ _ _ _ _ q=>le_int q
theorem LW:OpR X (VA .Gt) (rI0 fun i j=>.bl (decide (j < i))):=B7 fun _ _ _ _ _ _ _ q=>gt_int q
theorem LX:OpR X (VA .GtE) (rI0 fun i j=>.bl (decide (j<=i))):=B7 fun _ _ _ _ _ _ _ q=>ge_int q
theorem Hc:OpR X (VA .Is) (fun x y H Q=>y = .non/\Q (.bl (decide (x = .non))) H):=by
 intro pins s σ H x y v u Q I rx ry h;obtain⟨rfl,q⟩:=h;cases ry;refine is_none_gen (bz I q ?_)
 cases x <;> first
  |(cases rx;rfl)
  |(obtain⟨t,rfl⟩:=rx;rfl)
theorem Cb:OpR X (VA .IsNot) (fun x y H Q=>y = .non/\Q (.bl (!decide (x = .non))) H):=by
 intro pins s σ H x y v u Q I rx ry h;obtain⟨rfl,q⟩:=h;cases ry;refine isnot_none_gen (bz I q ?_)
 cases x <;> first
  |(cases rx;rfl)
  |(obtain⟨t,rfl⟩:=rx;rfl)
theorem Cc{op:CmpOp}{r:R2}(ho:OpR X (VA op) r)(ha:PE X a ta)(hb:PE X b tb)(hm:Vq op b=false):PE X (.Compare a [op] [b] pos) (tOp r ta tb):=by
 intro pins s σ H Q I h;exact wpAny_Compare1 (G4 ha hb I h fun v u s2 x y H2 I2 rx ry q=>ho pins s2 σ H2 x y v u Q I2 rx ry q) hm
def FT(t:TE):TT:=fun σ H Q=>t σ H fun x H'=>∃k,x = .bl k/\Q k H'
theorem uF(ho:OpR X (VA op) r)(ha:PE X a ta)(hb:PE X b tb)(hm:Vq op b=false):PT X (.Compare a [op] [b] pos) (FT (tOp r ta tb)):=by
 intro pins s σ H Q I h
 refine wpAny_isTrue_Compare1 (thn (ha pins s σ H _ I h) fun v s1 ⟨x,H1,I1,r1,q1⟩=>thn (hb pins s1 σ H1 _ I1 q1) fun u s2 ⟨y,H2,I2,r2,q2⟩=>
  thn (ho pins s2 σ H2 x y v u _ I2 r1 r2 q2) fun c s3 ⟨z,H3,I3,r3,k,e,q3⟩=>?_) hm
 subst e;cases r3;exact UA ⟨H3,I3,q3⟩
def sj(r r':R2)(ta tb tc:TE):TE:=fun σ H Q=>ta σ H fun x H1=>tb σ H1 fun y H2=>r x y H2 fun z H3=>∃k,z = .bl k ∧
 (if k=true then tc σ H3 fun w' H4=>r' y w' H4 Q else Q (.bl false) H3)
theorem yu(ho:OpR X (VA op) r)(ho':OpR X (VA op') r')(ha:PE X a ta)(hb:PE X b tb)(hc:PE X c tc)
  (hm:lastMarks [op,op'] [b,c]=false:=by with_unfolding_all rfl):PE X (.Compare a [op,op'] [b,c] pos) (sj r r' ta tb tc):=by
 intro pins s σ H Q I h
 refine Compare_chain (thn (ha pins s σ H _ I h) fun v s1 ⟨x,H1,I1,r1,q1⟩=>chain_link (thn (hb pins s1 σ H1 _ I1 q1) fun u s2 ⟨y,H2,I2,r2,q2⟩=>
  thn (ho pins s2 σ H2 x y v u _ I2 r1 r2 q2) fun d s3 ⟨z,H3,I3,r3,k,e,q3⟩=>?_)) hm
 subst e;cases r3;refine UA ?_;cases k with
 |false=>exact ite_ff ⟨.bl false,H3,I3,rfl,q3⟩
 |true=>exact ite_tt (chain_last (thn (hc pins s3 σ H3 _ I3 q3) fun w' s4 ⟨z',H4,I4,r4,q4⟩=>ho' pins s4 σ H4 y z' u w' Q I4 r2 r4 q4))
theorem yv(ho:OpR X (VA op) r)(ho':OpR X (VA op') r')(ha:PE X a ta)(hb:PE X b tb)(hc:PE X c tc)
  (hm:lastMarks [op,op'] [b,c]=false:=by with_unfolding_all rfl):PT X (.Compare a [op,op'] [b,c] pos) (FT (sj r r' ta tb tc)):=by
 intro pins s σ H Q I h
 refine isTrue_chain (thn (ha pins s σ H _ I h) fun v s1 ⟨x,H1,I1,r1,q1⟩=>test_link (thn (hb pins s1 σ H1 _ I1 q1) fun u s2 ⟨y,H2,I2,r2,q2⟩=>
  thn (ho pins s2 σ H2 x y v u _ I2 r1 r2 q2) fun d s3 ⟨z,H3,I3,r3,k,e,q3⟩=>?_)) hm
 subst e;cases r3;refine UA ?_;cases k with
 |false=>
  obtain⟨k',e',q'⟩:=q3;cases e';exact ite_ff ⟨H3,I3,q'⟩
 |true=>
  refine ite_tt (test_last (thn (hc pins s3 σ H3 _ I3 q3) fun w' s4 ⟨z',H4,I4,r4,q4⟩=>thn (ho' pins s4 σ H4 y z' u w' _ I4 r2 r4 q4) fun d' s5 ⟨z2,H5,I5,r5,k2,e2,q5⟩=>?_));subst e2;cases r5;exact UA ⟨H5,I5,q5⟩
def Cd(K:W0)(x:V)(H:Hp)(k:Bool):Prop:=
 match x with
 |.non=>k=false
 |.bl b=>k=b
 |.int i=>k=(i != 0)
 |.str y=>y.length<=sizeLine/\k=((y.length:Int) != 0)
 |.byt y=>y.size<=sizeLine/\k=((y.size:Int) != 0)
 |.ref p=>(∃xs,SqL K H p xs/\k = !xs.isEmpty)\/(∃xs,SqT K H p xs/\k = !xs.isEmpty)\/∃kvs,H p=some (.dK kvs)/\k = !kvs.isEmpty
 |_=>False
theorem su{κ:Type}{kvs:List (κ × V)}{vs:List (κ × Value)}(r:KV kvs vs):(!vs.isEmpty) = !kvs.isEmpty:=by
 cases r <;> rfl
theorem kq{xs:List V}{its:List Value}(r:aJ xs its):(!its.toArray.isEmpty) = !xs.isEmpty:=by
 cases r <;> simp
theorem iJ:(sizeLine:Nat) < 2 ^ 63:=by rw[VX];decide
theorem Hd:OI X (fun x H Q=>∃k,Cd X.K x H k/\Q k H):=by
 intro pins s σ H x v Q I rx h;obtain⟨k,e,q⟩:=h;have hl:=iJ;have hs:sizeLine=16777216:=VX;cases x with
 |non=>
  cases rx;have e':k=false:=e;subst e';exact truthy_none ⟨H,I,q⟩
 |bl b=>
  cases rx;have e':k=b:=e;subst e';exact UA ⟨H,I,q⟩
 |int i=>
  obtain⟨t,rfl⟩:=rx;have e':k=(i != 0):=e;subst e';exact PySem.P.truthy_int ⟨H,I,q⟩
 |str y=>
  obtain⟨t,rfl⟩:=rx;obtain⟨hy,e'⟩:y.length<=sizeLine/\k=((y.length:Int) != 0):=e;subst e';exact PySem.P.truthy_str (by lia) ⟨H,I.tok _,q⟩
 |byt y=>
  obtain⟨t,rfl⟩:=rx;obtain⟨hy,e'⟩:y.size<=sizeLine/\k=((y.size:Int) != 0):=e;subst e';exact PySem.W.truthy_bytes (by lia) ⟨H,I.tok _,q⟩
 |ref p=>
  cases rx;have e':(∃xs,SqL X.K H p xs/\k = !xs.isEmpty)\/(∃xs,SqT X.K H p xs/\k = !xs.isEmpty)\/∃kvs,H p=some (.dK kvs)/\k = !kvs.isEmpty:=e;rcases e' with ⟨xs,hx,e'⟩ |⟨xs,hx,e'⟩ |⟨kvs,hx,e'⟩
  ·subst e';obtain⟨its,r,pl,hz⟩:=I.list hx;have hlen:=r.length;exact wpAny_truthy_list pl.isList (by simp only[Zl];lia) ⟨H,I.tok _,by rw[kq r];exact q⟩
  ·subst e';obtain⟨its,r,pl,hz⟩:=I.tuple hx;have hlen:=r.length;exact truthy_tuple pl (by simp only[Zl];lia) ⟨H,I.tok _,by rw[kq r];exact q⟩
  ·subst e';obtain⟨hz,hS,vs,r,m⟩:kvs.length<=sizeLine/\(p == V4)=false/\∃vs,KV kvs vs/\s.heap.DictOf (bP X.prog X.w) p vs:=I.hok p _ hx;have hlen:kvs.length=vs.length:=Paired.length r;exact wpAny_truthy_dict hS m (by lia) ⟨H,I.tok _,by rw[su r];exact q⟩
 |_=>exact(show False from e).elim
theorem yw(ha:PE X a ta)(he:∀whole,isTrue a X.env whole=(do let v <-whole;standAt a.pos;holding [v] (truthy v))) :
  PT X a (fun σ H Q=>ta σ H fun x H'=>∃k,Cd X.K x H' k/\Q k H'):=by
 intro pins s σ H Q I h;exact isTrue_plain (thn (ha pins s σ H _ I h) fun v s1 ⟨x,H1,I1,r1,q1⟩=>Hd pins s1 σ H1 x v Q I1 r1 q1) (he _)
theorem sv:OpR X (Vr .Add) (fun x y H Q=>∃i j,x = .str i/\y = .str j/\i.length+j.length<=sizeLine/\Q (.str (i++j)) H):=by
 intro pins s σ H x y v u Q I rx ry h;obtain⟨i,j,rfl,rfl,hz,q⟩:=h;obtain⟨t,rfl⟩:=rx;obtain⟨t',rfl⟩:=ry;exact add_str (fun t' tk=>⟨.str (i++j),H,I.tok _,⟨_,rfl⟩,q⟩) hz
theorem cF(r:aJ [x] us):∃u,us=[u]/\aF x u:=by
 cases r with
 |cons r1 r2=>cases r2;exact⟨_,rfl,r1⟩
theorem uG(r:aJ [x,y] us):∃u w',us=[u,w']/\aF x u/\aF y w':=by
 cases r with
 |cons r1 r2=>
  cases r2 with
  |cons r3 r4=>cases r4;exact⟨_,_,rfl,r1,r3⟩
theorem wg(hc:X.calm=true):aM X (.builtin "max") (fun xs H Q=>∃i j,xs=[.int i,.int j]/\Q (.int (if j > i then j else i)) H):=by
 intro pins s σ H xs us Q I r h;obtain⟨i,j,rfl,q⟩:=h;obtain⟨u,w',rfl,⟨t,rfl⟩,⟨t',rfl⟩⟩:=uG r;refine max_two_ints (I.ok.hd hc) fun h' tk k=>⟨_,H,I.kept k,?_,q⟩;by_cases hj:j > i
 ·rw[if_pos hj,if_pos hj];exact⟨_,rfl⟩
 ·rw[if_neg hj,if_neg hj];exact⟨_,rfl⟩
theorem wj(hc:X.calm=true):aM X (.builtin "min") (fun xs H Q=>∃i j,xs=[.int i,.int j]/\Q (.int (if j < i then j else i)) H):=by
 intro pins s σ H xs us Q I r h;obtain⟨i,j,rfl,q⟩:=h;obtain⟨u,w',rfl,⟨t,rfl⟩,⟨t',rfl⟩⟩:=uG r;refine min_two_ints (I.ok.hd hc) fun h' tk k=>⟨_,H,I.kept k,?_,q⟩;by_cases hj:j < i
 ·rw[if_pos hj,if_pos hj];exact⟨_,rfl⟩
 ·rw[if_neg hj,if_neg hj];exact⟨_,rfl⟩
theorem wk:aM X (.type "int") (fun xs H Q=>(∃i,xs=[.int i]/\Q (.int i) H)\/∃k,xs=[.bl k]/\Q (.int (if k then 1 else 0)) H):=by
 intro pins s σ H xs us Q I r h;rcases h with ⟨i,rfl,q⟩ |⟨k,rfl,q⟩
 ·obtain⟨u,rfl,t,rfl⟩:=cF r;exact call_int_int ⟨.int i,H,I,⟨_,rfl⟩,q⟩
 ·obtain⟨u,rfl,r1⟩:=cF r;cases r1;exact call_int_bool ⟨.int (if k then 1 else 0),H,I.tok _,⟨_,rfl⟩,q⟩
end
structure ObjM(h:Heap)(x dx C:Addr)(mA:Str->Option Value):Prop where
 obj:h.get? x=some (W9 C dx)
 ns:h.Ns1 dx mA
 ne:dx ≠ x
theorem wm{h:Heap}{dx:Addr}{mA:Str->Option Value}(n:h.Ns1 dx mA):∃od,h.get? dx=some od/\∀name,Vi name od=some (mA name):=by
 obtain⟨o,es,ep,ho,hd,hk,_,hm⟩:=n;refine⟨o,ho,fun name=>?_⟩;have e:=hm name;unfold nsFind findBy at e;rw[<-Array.find?_toList] at e;unfold Vi;rw[hd];dsimp only;split
 ·rename_i y q;rw[q] at e;exact congrArg some e
 ·rename_i q;rw[q] at e
  have a:es.toList.any (·.refKey)=false:=by
   rw[List.any_eq_false];intro y hy;obtain⟨z,t,hkey⟩:=hk y (Xf.mp hy);simp[DictEntry.refKey,hkey]
  have a':¬ es.toList.any (·.refKey)=true:=by rw[a];exact Zd
  rw[if_neg a'];exact congrArg some e
theorem ObjM.look(I:ObjM h x dx C mA):∃od,PySem.W.InstAt h x (W9 C dx) C (some od)/\∀name,Vi name od=some (mA name):=
 let ⟨od,ho,hl⟩:=wm I.ns
 ⟨od,⟨I.obj,rfl,rfl,ho⟩,hl⟩
section
variable {P:Program} {w:World} {H H':Hp} {h h':Heap} {a C dx:Addr} {fs fs':List (Str × V)}
theorem Ce(hok:HOk P w H h)(e:H a=some (.ins C dx fs)):∃mA,ObjM h a dx C mA/\(∀f,GQ (fs.lookup f) (mA f))/\PySem.Within mA (fs.map (·.1))/\fs.length<=1000/\H dx=some (.own a):=by
 obtain⟨d,z,ne,ob,mA,n,r,q⟩:=(show bf P w H h a (.ins C dx fs) from hok a _ e);exact⟨mA,⟨ob,n,ne⟩,r,q,z,d⟩
end
structure Cls(K:W0)(C:Addr):Prop where
 pg:Vm K C Str.empty=true
 hd:PySem.W.hasDictIn K C=true
 po:PySem.W.plainOver K C=true
 sa:W6 K (.ref C) "__setattr__" = some (some (.builtin "object.__setattr__"))
theorem Cls.get{K:W0}{C:Addr}(c:Cls K C)(f:Str):Vm K C f=true:=c.pg
section
variable {X:Cx} {pins:List (Addr × Obj)} {σ:St} {H:Hp} {s:Shared} {A:Around} {E:Value->Shared->Prop} {Q:Value->Shared->Prop} {c:Value} {b:Bool}
inductive TyOf(K:W0)(H:Hp):V->Value->Prop where
 |non:TyOf K H .non (.type "NoneType")
 |bl (x:Bool):TyOf K H (.bl x) (.type "bool")
 |int (i:Int):TyOf K H (.int i) (.type "int")
 |str (x:Str):TyOf K H (.str x) (.type "str")
 |flt (x:UInt64):TyOf K H (.flt x) (.type "float")
 |lst {a:Addr} {xs:List V} (e:H a=some (.lst xs)):TyOf K H (.ref a) (.type "list")
 |frz {a:Addr} {o:Obj} {xs:List V} (e:H a=some (.frz o (.lst xs))):TyOf K H (.ref a) (.type "list")
 |tup {a:Addr} {xs:List V} (e:H a=some (.tup xs)):TyOf K H (.ref a) (.type "tuple")
 |dK {a:Addr} {kvs:List (Key × V)} (e:H a=some (.dK kvs)):TyOf K H (.ref a) (.type "dict")
 |dT {a:Addr} {kvs:List (List Key × V)} (e:H a=some (.dT kvs)):TyOf K H (.ref a) (.type "dict")
 |ins {a C dx:Addr} {fs:List (Str × V)} (e:H a=some (.ins C dx fs)) (cl:Cls K C) (ha:W6 K (.ref C) "__class__" = some (some (.builtin "object.__class__")))
   (hn:PySem.W.specialIn K (.builtin "object.__class__") "__get__" = some (some (.builtin "getset_descriptor.__get__"))) (htk:PySem.W.takesIn K (.builtin "object.__class__")=some true)
   (hm:Vk K C (.type "object")=some true):TyOf K H (.ref a) (.ref C)
theorem wn(I:Inv X pins σ H s)(rx:aF x u)(ty:TyOf X.K H x t)(e:Vf X.K t c=some b)(h:∀tk,Q (.bool b) { s with toks:=tk }) :
  wpAny (model X.prog X.w) A (call (.builtin "isinstance") [u,c]) Q E s:=by
 cases ty with
 |non=>cases (show u=Value.none from rx);exact Vc PySem.W.kitx_none I.kIn True.intro e (fun z=>nomatch z) h
 |bl y=>cases (show u=Value.bool y from rx);exact Vc PySem.W.kitx_bool I.kIn True.intro e (fun z=>nomatch z) h
 |int i=>obtain⟨t,q⟩:=(show ∃t,u=Value.int i t from rx);cases q;exact Vc PySem.W.kitx_int I.kIn True.intro e (fun z=>nomatch z) h
 |str y=>obtain⟨t,q⟩:=(show ∃t,u=Value.str y t from rx);cases q;exact Vc PySem.W.kitx_str I.kIn True.intro e (fun z=>nomatch z) h
 |flt y=>obtain⟨t,q⟩:=(show ∃t,u=Value.float y t from rx);cases q;exact Vc PySem.W.kitx_float I.kIn True.intro e (fun z=>nomatch z) h
 |@lst a xs ea=>
  cases (show u=Value.ref a from rx);obtain⟨_,_,n,_,h1⟩:=(show bf X.prog X.w H s.heap a (.lst xs) from I.hok a _ ea);exact Vc Vh I.kIn ⟨_,h1,rfl⟩ e (fun z=>nomatch z) h
 |@frz a ob xs ea=>
  cases (show u=Value.ref a from rx);obtain⟨_,_,_,n,_,h1⟩:=(show bf X.prog X.w H s.heap a (.frz ob (.lst xs)) from I.hok a _ ea);exact Vc Vh I.kIn ⟨_,h1,rfl⟩ e (fun z=>nomatch z) h
 |@tup a xs ea=>
  cases (show u=Value.ref a from rx);obtain⟨_,_,_,p⟩:=(show bf X.prog X.w H s.heap a (.tup xs) from I.hok a _ ea);obtain⟨o,h1,h2,_⟩:=p;exact Vc PySem.W.kitx_tuple I.kIn ⟨o,h1,h2⟩ e (fun z=>nomatch z) h
 |@dK a kvs ea=>
  cases (show u=Value.ref a from rx);obtain⟨_,_,vs,_,p⟩:=(show bf X.prog X.w H s.heap a (.dK kvs) from I.hok a _ ea);obtain⟨o,es,ep,h1,h2,_⟩:=p;exact Vc Vg I.kIn ⟨o,h1,h2.1⟩ e (fun z=>nomatch z) h
 |@dT a kvs ea=>
  cases (show u=Value.ref a from rx);obtain⟨_,_,xs,_,o,es,ep,h1,h2,_⟩:=(show bf X.prog X.w H s.heap a (.dT kvs) from I.hok a _ ea);exact Vc Vg I.kIn ⟨o,h1,h2.1⟩ e (fun z=>nomatch z) h
 |@ins a C dx fs ea cl ha hn htk hm=>
  cases (show u=Value.ref a from rx);obtain⟨mA,O,_⟩:=Ce I.hok ea;obtain⟨od,J,_⟩:=O.look;exact Vc (PySem.W.kitx_own (cl.get _) cl.hd ha hn htk hm) I.kIn J e (fun z=>nomatch z) h
end
structure Room(k:Nat)(A:Around):Prop where
 hd:A.handled=none
 dp:A.depth+3 * k+5 < recursionLimit
 un:A.units+16 * k+200 < cLine
 gd:A.guards=some []
theorem Room.deeper{k:Nat}(r:Room (k+1) A)(env:Env):Room k (A.deeper env):=
 ⟨r.hd,by have:=r.dp;show A.depth+1+3 * k+5 < _;lia,by have:=r.un;show A.units+3+16 * k+200 < _;lia,r.gd⟩
theorem Room.depth{k:Nat}(r:Room k A):A.depth < recursionLimit:=by have:=r.dp;lia
theorem Room.units{k:Nat}(r:Room k A):A.units+64 < cLine:=by have:=r.un;lia
def kr:TA:=fun _ H Q=>Q [] H
def cY(ta:TE)(tr:TA):TA:=fun σ H Q=>ta σ H fun x H1=>tr σ H1 fun xs H2=>Q (x::xs) H2
section
variable {X:Cx} {e:Expr} {es:List Expr} {te:TE} {t:TA} {pos:Pos}
theorem oH:PA X [] kr:=fun _ _ _ _ H Q I h=>Calls.spliced_nil ⟨[],H,I,.nil,h⟩
theorem Cf(ha:PE X e te)(hr:PA X es t)(hs:VZ (e::es) X.env=(false,eval e X.env)::VZ es X.env:=by rfl):PA X (e::es) (cY te t):=by
 intro pos pins s σ H Q I h;rw[hs];show wpAny _ _ (spliced ((false,eval e X.env)::backTo pos (VZ es X.env))) _ _ s;refine Calls.spliced_cons (thn (ha pins s σ H _ I h) fun u s1 ⟨x,H1,I1,r1,q1⟩=>?_);exact thn (hr pos pins s1 σ H1 _ I1 q1) fun us s2 ⟨xs,H2,I2,r2,q2⟩=>⟨x::xs,H2,I2,.cons r1 r2,q2⟩
def LY(t:TA):TE:=fun σ H Q=>t σ H fun xs H1=>xs.length<=sizeLine/\∀p,H1 p=none->Q (.ref p) (upd H1 p (.tup xs))
def LZ(t:TA):TE:=fun σ H Q=>t σ H fun xs H1=>xs.length<=sizeLine/\∀p,H1 p=none->Q (.ref p) (upd H1 p (.lst xs))
theorem He{x1}(h:PA X es t):PE X (.Tuple es x1 pos) (LY t):=by
 intro pins s σ H Q I hq;refine wpAny_Tuple_spliced (thn (h pos pins s σ H _ I hq) fun us s1 ⟨xs,H1,I1,r,z,q⟩=>⟨by rw[<-r.length];exact z,?_⟩);have hf:H1 s1.heap.objs.size=none:=I1.hok.fresh (Ze _);refine⟨.ref s1.heap.objs.size,upd H1 s1.heap.objs.size (.tup xs),I1.laid (t':=s1.toks) (fun b u e=>Zk _ e) (Ze _) ?_,rfl,q _ hf⟩;exact⟨z,us,r,oC.new _ _⟩
theorem ku(h:PA X es t):PE X (.List es pos) (LZ t):=by
 intro pins s σ H Q I hq;refine wpAny_List_spliced (thn (h pos pins s σ H _ I hq) fun us s1 ⟨xs,H1,I1,r,z,q⟩=>⟨by rw[<-r.length];exact z,?_⟩);have hf:H1 s1.heap.objs.size=none:=I1.hok.fresh (Ze _);refine⟨.ref s1.heap.objs.size,upd H1 s1.heap.objs.size (.lst xs),I1.laid (t':=s1.toks) (fun b u e=>Zk _ e) (Ze _) ?_,rfl,q _ hf⟩;exact⟨z,us,0,r,ZE _ rfl⟩
end
abbrev Sp:=List V->Hp->VK->XK->Prop
abbrev CXT:=List Env->Hp->Shared->XK->Value->Shared->Prop
structure Env0(P:Program)(w:World)(K:W0)(mg:Str->Option Value)(base:Heap)(A:Around)(outer:List Env)(s:Shared)(H:Hp):Prop where
 frames:A.frames=some outer
 mod:Mod K mg base
 bs:∀b o,base.get? b=some o->s.heap.get? b=some o/\H b=none
 bsz:base.objs.size<=s.heap.objs.size
 funs:s.heap.FunFrames base outer
 frf:∀b ∈ frs outer,H b=none
 hok:HOk P w H s.heap
 bare:AllBare s.gens
def CE(outer:List Env)(P:Program)(w:World)(H:Hp)(s:Shared)(Q:VK)(u:Value)(s':Shared):Prop:=
 ∃v H',s'.os=s.os/\AllBare s'.gens/\Un (frs outer) [] H H' s.heap s'.heap/\HOk P w H' s'.heap/\aF v u/\Q v H'
def CR(CX:CXT)(outer:List Env)(P:Program)(w:World)(H:Hp)(s:Shared)(Q:VK)(E:XK)(r:Result)(s':Shared):Prop:=
 match r with
 |.ok (.ret u)=>CE outer P w H s Q u s'
 |.ok _=>False
 |.error e=>CX outer H s E e s'
structure FnOk(P:Program)(w:World)(K:W0)(mg:Str->Option Value)(base:Heap)(CX:CXT)(k:Nat)(f:Addr)(fd:WH)(ps:List Str)(sp:Sp):Prop where
 len:∀vs H Q E,sp vs H Q E->vs.length=ps.length
 run:∀ (A:Around) (outer:List Env) (s:Shared) (H:Hp) (args:Args) (us:List Value) (vs:List V) (Q:VK) (E:XK),Room k A->Env0 P w K mg base A outer s H->BindsTo s fd args (ps.zip us)->aJ vs us->sp vs H Q E ->
  codeAny (model P w) A (.call (.ref f) args) (CR CX outer P w H s Q E) s
theorem FnOk.imp{P:Program}{w:World}{K:W0}{mg:Str->Option Value}{base:Heap}{CX:CXT}{k:Nat}{f:Addr}{fd:WH}{ps:List Str}{sp sp':Sp}(F:FnOk P w K mg base CX k f fd ps sp)
  (h:∀vs H Q E,sp' vs H Q E->sp vs H Q E):FnOk P w K mg base CX k f fd ps sp':=
 ⟨fun vs H Q E q=>F.len vs H Q E (h _ _ _ _ q),fun A outer s H args us vs Q E hr he hb hv hs=>F.run A outer s H args us vs Q E hr he hb hv (h _ _ _ _ hs)⟩
section
variable {X:Cx} {pins:List (Addr × Obj)} {σ:St} {H:Hp} {s s':Shared}
theorem Inv.env0(I:Inv X pins σ H s):Env0 X.prog X.w X.K X.mg X.base X.A X.stack s H:=
 ⟨I.ok.frames,I.ok.mod,I.bs,ZF I.ok.bsz I.sz,I.stack,I.stkFree,I.hok,I.bare⟩
theorem Inv.after(I:Inv X pins σ H s)(h:CE X.stack X.prog X.w H s Q u s'):EP X pins σ Q u s':=by
 obtain⟨v,H',os,bare,un,hok,r,q⟩:=h;obtain⟨hh,g,d,t,os'⟩:=s';obtain rfl:os'=s.os:=os;exact⟨v,H',I.call (h':=hh) (g':=g) (d':=d) (t':=t) (ch:=[]) un hok bare (fun b z=>absurd z (by simp)),r,q⟩
end
def FV(sp:Sp)(dvs:List V)(E:XK)(t:TA):TE:=fun σ H Q=>t σ H fun vs H1=>sp (vs++dvs) H1 Q E
def eR(K:W0)(fd:WH)(ps:List Str)(ds:List Value):Prop:=
 ∀ (s:Shared) (us:List Value),K.In s.heap->(us++ds).length=ps.length->BindsTo s fd ⟨us,[]⟩ (ps.zip (us++ds))
theorem eR.all{K:W0}{fd:WH}{ps:List Str}(h:∀us:List Value,us.length=ps.length->bindArgs fd ⟨us,[]⟩=pure (ps.zip us)):eR K fd ps []:=fun s us _ hl=>by
 rw[ZT] at hl ⊢;exact .of_eq (h us hl)
def kw(CX:CXT)(X:Cx)(E:XK):Prop:=∀ (pins:List (Addr × Obj)) (σ:St) (H:Hp) (s:Shared) (e:Value) (s':Shared),Inv X pins σ H s->CX X.stack H s E e s'->X.xe e s'
section
variable {X:Cx} {CX:CXT} {k:Nat} {f C:Addr} {fd:WH} {ps:List Str} {sp:Sp} {dvs:List V} {ds:List Value} {E:XK} {x m:Str} {p pos apos:Pos} {e o:Expr} {es:List Expr} {ta:TE} {t:TA}
theorem Hf(F:FnOk X.prog X.w X.K X.mg X.base CX k f fd ps sp)(hr:Room k X.A)(hb:eR X.K fd ps ds)(hd:aJ dvs ds)(hx:kw CX X E)
  (I:Inv X pins σ H s) (r:aJ vs us) (h:sp (vs++dvs) H Q E):wpAny (model X.prog X.w) X.A (call (.ref f) us) (EP X pins σ Q) X.xe s:=by
 have r2:aJ (vs++dvs) (us++ds):=r.append hd;have hl:(us++ds).length=ps.length:=by rw[<-r2.length];exact F.len _ _ _ _ h
 refine wpAny_call (Vz (F.run X.A X.stack s H ⟨us,[]⟩ (us++ds) (vs++dvs) Q E hr I.env0 (hb s us I.kIn hl) r2 h) fun r s' hq=>?_);cases r with
 |error e=>exact hx pins σ H s e s' I hq
 |ok fl=>
  cases fl with
  |ret u=>exact I.after hq
  |next=>exact False.elim hq
  |brk=>exact False.elim hq
  |cont=>exact False.elim hq
theorem uH(F:FnOk X.prog X.w X.K X.mg X.base CX k f fd ps sp)(hr:Room k X.A)(hg:Gl X x)(hm:X.mg x=some (.ref f))(hk:Vb X.K (.ref f)=true)(hb:eR X.K fd ps ds)(hd:aJ dvs ds)(hx:kw CX X E)
  (ha:PA X (e::es) t) (hdb:(x == ("__debug__" : Str))=false:=by decide) (he:VZ (e::es) X.env=(false,eval e X.env)::VZ es X.env:=by rfl) (hpl:(backTo pos (VZ es X.env)).any (·.1)=false:=by rfl) :
  PE X (.Call (.Name x p) (e::es) [] pos) (FV sp dvs E t):=by
 intro pins s σ H Q I h;refine V8 (fW I hg hm ?_ hdb);refine W1 (h₀:=X.base) I.ok.mod.kin hk (thn (ha pos pins s σ H _ I h) fun us s1 ⟨vs,H1,I1,r,q⟩=>⟨I1.kIn,?_⟩) he hpl;exact Hf F hr hb hd hx I1 r q
end
structure FnScope(N P:List Str)(sc:Scope):Prop where
 kind:sc.kind = .function
 co:sc.isCoroutine=false
 gen:sc.isGenerator=false
 nd:N.Nodup
 pre:N.take P.length=P
 par:∀x ∈ P,sc.names.lookup x=some .local\/sc.names.lookup x=some .cell
 nofree:∀y ∈ sc.names,y.2 ≠ .free
theorem mS{kindOf:Str->Option WJ}{x:Str}:∀ {binds:List (Str × Value)} {m:Str->Option Value},(∀v,(x,v) ∉ binds)->bindL kindOf binds m x=m x
 |[],_,_=>rfl
 |(n,v)::r,m,h=>by
  unfold bindL;rw[mS fun w hw=>h w (Zg _ hw)];split
  ·have:x ≠ n:=by rintro rfl;exact h v Zi
   simp[this]
  ·rfl
theorem mT{kindOf:Str->Option WJ}{x:Str}:∀ {binds:List (Str × Value)} {m:Str->Option Value},(∀v,(x,v) ∉ binds)->bindC kindOf binds m x=m x
 |[],_,_=>rfl
 |(n,v)::r,m,h=>by
  unfold bindC;rw[mT fun w hw=>h w (Zg _ hw)];split
  ·rfl
  ·have:x ≠ n:=by rintro rfl;exact h v Zi
   simp[this]
theorem mU{kindOf:Str->Option WJ}{x:Str}{v:Value}:∀ {P:List Str} {vs:List Value} {i:Nat} {m:Str->Option Value},P.Nodup->P[i]?=some x->vs[i]?=some v->kindOf x=some .local ->
  bindL kindOf (P.zip vs) m x=some v
 |[],_,_,_,_,h,_,_=>by simp at h
 |_::_,[],_,_,_,_,h,_=>by simp at h
 |p::P,w::vs,0,m,nd,h1,h2,hk=>by
  simp at h1 h2;subst h1;subst h2;show bindL kindOf ((p,w)::P.zip vs) m p=_;unfold bindL;rw[mS fun v hv=>(Ye.mp nd).1 (YL hv).1,if_pos hk];simp
 |p::P,w::vs,i+1,m,nd,h1,h2,hk=>by
  show bindL kindOf ((p,w)::P.zip vs) m x=_;unfold bindL;exact mU (i:=i) (Ye.mp nd).2 (by simpa using h1) (by simpa using h2) hk
theorem mV{kindOf:Str->Option WJ}{x:Str}{v:Value}:∀ {P:List Str} {vs:List Value} {i:Nat} {m:Str->Option Value},P.Nodup->P[i]?=some x->vs[i]?=some v->kindOf x ≠ some .local ->
  bindC kindOf (P.zip vs) m x=some v
 |[],_,_,_,_,h,_,_=>by simp at h
 |_::_,[],_,_,_,_,h,_=>by simp at h
 |p::P,w::vs,0,m,nd,h1,h2,hk=>by
  simp at h1 h2;subst h1;subst h2;show bindC kindOf ((p,w)::P.zip vs) m p=_;unfold bindC;rw[mT fun v hv=>(Ye.mp nd).1 (YL hv).1,if_neg hk];simp
 |p::P,w::vs,i+1,m,nd,h1,h2,hk=>by
  show bindC kindOf ((p,w)::P.zip vs) m x=_;unfold bindC;exact mV (i:=i) (Ye.mp nd).2 (by simpa using h1) (by simpa using h2) hk
noncomputable def cZ(N:List Str)(vs:List V):St:=vs.map some++Zo (N.length - vs.length) none
noncomputable def mE(CX:CXT)(P:Program)(w:World)(K:W0)(mg:Str->Option Value)(base:Heap)(N:List Str)(qual:Str)(scope:Scope)(f:Addr)(cd:Value)(A:Around)(outer:List Env)(s:Shared)(H:Hp)(E:XK):Cx where
 prog:=P
 w:=w
 K:=K
 mg:=mg
 base:=base
 A:=A.deeper (envOfC qual scope s.heap.objs.size f cd)
 N:=N
 s₀:=s
 H₀:=H
 env:=envOfC qual scope s.heap.objs.size f cd
 outer:=outer
 stack:=envOfC qual scope s.heap.objs.size f cd::outer
 ex:=[]
 calm:=true
 fn:=fun _=>true
 pn:=[]
 xe:=fun e s'=>wpAny (model P w) (A.deeper (envOfC qual scope s.heap.objs.size f cd)) (leaving (envOfC qual scope s.heap.objs.size f cd) e) (fun _ s''=>CX outer H s E e s'') (fun e' s''=>CX outer H s E e' s'') s'
theorem qi{sc:Scope}{n:Nat}{x:Str}(h:sc.names.lookup x=some .cell):∃c,(Vw n sc.names []).lookup x=some c:=by
 have q:=W2 sc.names n [] (.inl h);exact ZU.mp q
theorem mW{CX:CXT}{P:Program}{w:World}{K:W0}{mg:Str->Option Value}{base:Heap}{N ps:List Str}{qual:Str}{scope:Scope}{f:Addr}{cd:Value}{A:Around}{outer:List Env}{s s1:Shared}{H:Hp}{E:XK}{us:List Value}{vs:List V}
  (S:FnScope N ps scope) (hd:A.handled=none) (e0:Env0 P w K mg base A outer s H) (hl:vs.length=ps.length) (r:aJ vs us)
  (x:InCallC s s.heap.objs.size (bindL (envOfC qual scope s.heap.objs.size f cd).kindOf (ps.zip us) fun _=>none) (Vw (s.heap.objs.size+1) scope.names []) (bindC (envOfC qual scope s.heap.objs.size f cd).kindOf (ps.zip us) fun _=>none) s1) :
  Inv (mE CX P w K mg base N qual scope f cd A outer s H E) [] (cZ N vs) H s1:=by
 have hpl:ps.length<=N.length:=by have:=congrArg Zb S.pre;rw[Zs] at this;lia
 obtain⟨h1,tk,rfl,hk⟩:=x.done;have noA:∀b:Addr,b ∉ (mE CX P w K mg base N qual scope f cd A outer s H E).ex:=fun b z=>absurd (show b ∈ ([]:List Addr) from z) (by simp)
 refine⟨⟨e0.mod,S.kind,rfl,rfl,Ze _,fun y z c h1 h2=>?_,fun y hy=>?_,fun y c _ h=>?_,fun _=>hd,Around.frames_deeper e0.frames,.inr ⟨rfl,rfl⟩,fun b z=>absurd z (noA b),e0.bs,e0.bsz,fun b _ _=>noA b,fun b z=>absurd z (noA b),e0.funs,e0.frf⟩,
  rfl,e0.bare,Un.kept hk,⟨_,x.toInCall.ns,fun i y v h1 h2 h3=>?_⟩,fun y c h=>⟨_,x.cell y c h⟩,e0.hok.fresh (Ze _),fun y c h=>?_,fun p hp=>absurd (show p ∈ ([]:List (Addr × Obj)) from hp) (by simp),e0.hok.kept hk,?_⟩
 ·exact name_of_addr x.apart (VM h1) (VM h2)
 ·have hy:scope.names.lookup y=some .cell\/scope.names.lookup y=some .free:=hy;rcases hy with hy |hy
  ·exact qi hy
  ·exact absurd rfl (S.nofree _ (VM hy))
 ·exact Y2 (x.above y c (VM h))
 ·have hi:i < vs.length:=by
   unfold cZ at h2;by_cases hi:i < vs.length
   ·exact hi
   ·rw[Zt (by simpa using hi)] at h2;rw[Yo] at h2;split at h2 <;> cases h2
  have ha:vs[i]?=some v:=by
   unfold cZ at h2;rw[Zw (by simpa using hi),Zn] at h2;cases e:vs[i]? with
   |none=>rw[e] at h2;cases h2
   |some a=>rw[e] at h2;cases h2;rfl
  obtain⟨u,hu,rv⟩:=r.get ha
  have hp:ps[i]?=some y:=by
   rw[<-S.pre,YF (by lia)];exact h1
  have ndP:ps.Nodup:=by rw[<-S.pre];exact S.nd.sublist (XC _ _)
  refine⟨u,rv,?_⟩;rcases S.par y (Zf hp) with k |k
  ·exact .inl ⟨k,mU ndP hp hu k⟩
  ·obtain⟨c,e⟩:=qi (n:=s.heap.objs.size+1) k;refine .inr ⟨.inl k,c,e,?_⟩;have q:=x.cell y c e;rw[mV ndP hp hu (by show scope.names.lookup y ≠ _;rw[k];decide)] at q;exact q
 ·exact e0.hok.fresh (Y2 (x.above y c (VM h)))
 ·unfold cZ;show _=N.length;rw[Zh,Za,YH]
  lia
theorem L1{CX:CXT}{P:Program}{w:World}{K:W0}{mg:Str->Option Value}{base:Heap}{k:Nat}{f:Addr}{name qual:Str}{params:Arguments}{body:List Stmt}{scope:Scope}{dV kV doc pm cdv ct oc:Value}{an od:Option Addr}
  {osl:Array (Option Value)} {N ps:List Str} {sp:Sp} (lk:K.lookup f=some ⟨oc,od,.func (W7 name qual params body scope dV kV doc pm an cdv ct),osl⟩) (hcd:W4 K cdv qual=true) (S:FnScope N ps scope)
  (len:∀vs H Q E,sp vs H Q E->vs.length=ps.length)
  (hbody:∀ (A:Around) (outer:List Env) (s:Shared) (H:Hp) (vs:List V) (Q:VK) (E:XK),Room k (A.deeper (envOfC qual scope s.heap.objs.size f cdv))->sp vs H Q E ->
   ∃t,PSs (mE CX P w K mg base N qual scope f cdv A outer s H E) body t/\t { nx:=fun _ H'=>Q .non H',rt:=Q } (cZ N vs) H) :
  FnOk P w K mg base CX (k+1) f (W7 name qual params body scope dV kV doc pm an cdv ct) ps sp:=by
 refine⟨len,fun A outer s H args us vs Q E hr e0 hb r hsp=>?_⟩;have hl:=len _ _ _ _ hsp;have KX:K.In s.heap:=e0.mod.kin.keeps fun b o e=>(e0.bs b o e).1;have lim:s.heap.NoLimit:=e0.mod.nolimit.keeps fun b o e=>(e0.bs b o e).1
 have hkind:∀y ∈ ps.zip us,scope.names.lookup y.1=some .local\/(scope.names.lookup y.1=some .cell/\((Vw (s.heap.objs.size+1) scope.names []).lookup y.1).isSome=true):=fun⟨n,v⟩ hy=>by
  rcases S.par n (YL hy).1 with q |q
  ·exact .inl q
  ·exact .inr ⟨q,W2 _ _ _ (.inl q)⟩
 refine Vy hr.depth (KX _ _ lk) rfl S.co S.gen rfl (W5 KX hcd) (hb _ _ _ _ ?_);refine Up S.kind hkind fun env he s1 x=>?_;subst he;refine⟨lim.keeps x.toInCall.keep,codeAny_func ?_⟩;obtain⟨t,ht,hq⟩:=hbody A outer s H vs Q E (hr.deeper _) hsp;have I:Inv (mE CX P w K mg base N qual scope f cdv A outer s H E) [] (cZ N vs) H s1:=mW S hr.hd e0 hl r x;refine Uo (ht [] s1 (cZ N vs) H _ I hq) (fun fl s' hs=>?_) fun e s' hs=>hs
 have fin:∀ {σ':St} {H':Hp} {v:V} {u:Value},Inv (mE CX P w K mg base N qual scope f cdv A outer s H E) [] σ' H' s'->aF v u->Q v H'->CE outer P w H s Q u s':=
  fun {σ' H' v u} J rv q=>⟨v,H',J.os,J.bare,J.base,J.hok,rv,q⟩
 cases fl with
 |ret u=>
  obtain⟨v,σ',H',J,rv,q⟩:=hs;exact fin J rv q
 |next=>
  obtain⟨σ',H',J,q⟩:=hs;exact fin (v:=V.non) (u:=Value.none) J rfl q
 |brk=>
  obtain⟨_,_,_,q⟩:=hs;exact False.elim q
 |cont=>
  obtain⟨_,_,_,q⟩:=hs;exact False.elim q
section
variable {X:Cx} {x:Str} {p pos:Pos} {e:Expr} {es:List Expr} {t:TA} {id T:String} {r:List V->Hp->VK->Prop}
def tCB(r:List V->Hp->VK->Prop)(t:TA):TE:=fun σ H Q=>t σ H fun vs H1=>r vs H1 Q
theorem dH(hc:aM X (.builtin id) r)(hg:Gl X x)(hm:X.mg x=none)(hv:Vt x=some (.builtin id))(ha:PA X (e::es) t)(hn:x ≠ "__name__" := by decide)(hdb:(x == ("__debug__" : Str))=false:=by decide)
  (he:VZ (e::es) X.env=(false,eval e X.env)::VZ es X.env:=by rfl) (hpl:(backTo pos (VZ es X.env)).any (·.1)=false:=by rfl):PE X (.Call (.Name x p) (e::es) [] pos) (tCB r t):=by
 intro pins s σ H Q I h;refine V8 (gF I hg hm hv ?_ hn hdb);exact PyProof.Rows.callWith_builtin1 (thn (ha pos pins s σ H _ I h) fun us s1 ⟨vs,H1,I1,r1,q1⟩=>hc pins s1 σ H1 vs us Q I1 r1 q1) he hpl
theorem iK(hc:aM X (.type T) r)(hg:Gl X x)(hm:X.mg x=none)(hv:Vt x=some (.type T))(ha:PA X (e::es) t)(hn:x ≠ "__name__" := by decide)(hdb:(x == ("__debug__" : Str))=false:=by decide)
  (he:VZ (e::es) X.env=(false,eval e X.env)::VZ es X.env:=by rfl) (hpl:(backTo pos (VZ es X.env)).any (·.1)=false:=by rfl):PE X (.Call (.Name x p) (e::es) [] pos) (tCB r t):=by
 intro pins s σ H Q I h;refine V8 (gF I hg hm hv ?_ hn hdb);exact Wn (thn (ha pos pins s σ H _ I h) fun us s1 ⟨vs,H1,I1,r1,q1⟩=>hc pins s1 σ H1 vs us Q I1 r1 q1) he hpl
end
end L2
namespace HT
open PySem PyProof.Rows
section
open PySem.SeqAt
open PySem.AutoSeq1 (wpAny_loadPart')
open PySem.MeetsSeq PySem.MeetsSeq2 PySem.MeetsSeq3
end
section
variable {prog:Program} {w:World} {A:Around} {E:Value->Shared->Prop} {s:Shared}
theorem Cg(ht:IsTup s.heap t vs.toArray)(hb:IsTup s.heap b ws.toArray)(hv:vs ≠ [])
  (h1:ws=[]->Q (.ref t) s) (h2:ws ≠ []->Q (.ref s.heap.objs.size) { s with heap:=s.heap.push { cls:=.type "tuple", data:=.seq (vs++ws).toArray } })
  (hsz:vs.length+ws.length<=sizeLine):wpAny (model prog w) A (Vr .Add (.ref t) (.ref b)) Q E s:=by
 obtain⟨⟨cls,dd,data,sl⟩,ho,hc,n,hd⟩:=id ht;obtain⟨⟨cls2,dd2,data2,sl2⟩,ho2,hc2,n2,hd2⟩:=id hb;simp only at hc hd hc2 hd2;subst hc hd hc2 hd2;have e:vs.toArray++ws.toArray=(vs++ws).toArray:=by simp
 by_cases hw:ws=[]
 ·exact VB ⟨_,ho,rfl⟩ ⟨_,ho2,rfl⟩ VO VW WD Wu (Ws _ _)
   (tuple_addW1 t b vs.toArray ws.toArray n n2 dd dd2 sl sl2 (by simpa using hv) (by simp[hw])) ⟨ho,ho2,h1 hw⟩
 ·refine VB ⟨_,ho,rfl⟩ ⟨_,ho2,rfl⟩ VO VW WD Wu (Ws _ _)
   (tuple_addW2 t b vs.toArray ws.toArray n n2 dd dd2 sl sl2 (by simpa using hv) (by simpa using hw) (by rw[Zl,Zl];exact hsz)) ⟨ho,ho2,?_⟩
  rw[e];exact h2 hw
noncomputable def sIx(n d:Nat):Option Int->Nat
 |none=>d
 |some v=>if v < 0 then (v+(n:Int)).toNat else min v.toNat n
theorem yx(n d:Nat):sIx n d none=d:=rfl
theorem Hg(n d:Nat)(hd:d<=n)(o:Option Int):sIx n d o<=n:=by
 cases o with
 |none=>exact hd
 |some v=>
  show(if v < 0 then (v+(n:Int)).toNat else min v.toNat n)<=n;by_cases hv:v < 0
  ·rw[if_pos hv];lia
  ·rw[if_neg hv];exact Nat.min_le_right _ _
theorem uI(v:Int)(n d:Nat):(if v < 0 then max (v+(n:Int)) 0 else min v (n:Int))=((sIx n d (some v):Nat):Int):=by
 show(if v < 0 then max (v+(n:Int)) 0 else min v (n:Int))=(((if v < 0 then (v+(n:Int)).toNat else min v.toNat n):Nat):Int);by_cases hv:v < 0
 ·simp only[if_pos hv];lia
 ·simp only[if_neg hv];lia
theorem sx(lo hi:Option Int)(n:Nat):Builtin.Slice.sliceAdjust lo hi 1 (n:Int)=(((sIx n 0 lo:Nat):Int),((sIx n n hi:Nat):Int)):=by
 have h1:¬ ((1:Int) < 0):=by lia
 unfold Builtin.Slice.sliceAdjust;simp only[h1,if_false];refine Prod.ext ?_ ?_
 ·cases lo with
  |none=>rfl
  |some v=>exact uI v n 0
 ·cases hi with
  |none=>rfl
  |some v=>exact uI v n n
theorem sy(i j:Nat):Builtin.Slice.slicePlaces (i:Int) (j:Int) 1=j - i:=by
 unfold Builtin.Slice.slicePlaces;have h1:(1:Int) > 0:=by lia
 simp only[h1,if_true,Int.ediv_one];split <;> lia
theorem kx(p:IsPart v o)(h:Q o s):wpAny (model prog w) A (Builtin.Slice.slicePartIndex v) Q E s:=by
 cases p with
 |none=>exact slicePart_none h
 |int i t=>exact slicePart_int h
theorem dI{sl:Addr}{vl vu:Value}{lo hi:Option Int}{n:Nat}{Q:Int × Int × Nat->Shared->Prop}(hs:s.heap.IsSliceOf sl vl vu .none)(pl:IsPart vl lo)(pu:IsPart vu hi)
  (h:Q (((sIx n 0 lo:Nat):Int),1,sIx n n hi - sIx n 0 lo) s):wpAny (model prog w) A (Builtin.Slice.sliceApplied (.ref sl) (pure (n:Int))) Q E s:=by
 obtain⟨os,hos,hcs,hds⟩:=id hs;unfold Builtin.Slice.sliceApplied Builtin.Slice.sliceFields;refine Ua (Ua (Uh hos hds (x:=vl) rfl (Ua (Uh hos hds (x:=vu) rfl (Ua (Uh hos hds (x:=.none) rfl (Us ?_)))))));refine Ua (slicePart_none ?_);show wpAny _ _ (if ((1:Int) == 0)=true then _ else _) _ _ s;rw[if_neg (by decide)];refine Ua (kx pl (Ua (kx pu (Ua (Us ?_)))));show wpAny _ _ (match Builtin.Slice.sliceAdjust lo hi 1 (n:Int) with |(lo,hi)=>pure (lo,(1:Int),Builtin.Slice.slicePlaces lo hi 1)) _ _ s;rw[sx lo hi n];show wpAny _ _ (pure (((sIx n 0 lo:Nat):Int),(1:Int),Builtin.Slice.slicePlaces ((sIx n 0 lo:Nat):Int) ((sIx n n hi:Nat):Int) 1)) _ _ s;rw[sy];exact Us h
theorem yy(xs:Array Value)(i k:Nat):((Zj k).filterMap fun(m:Nat)=>xs[((i:Int)+(m:Int) * 1).toNat]?).toArray=((xs.toList.drop i).take k).toArray:=by
 have e:(fun(m:Nat)=>xs[((i:Int)+(m:Int) * 1).toNat]?)=fun m=>xs[i+m]?:=by
  funext m
  have:((i:Int)+(m:Int) * 1).toNat=i+m:=by lia
  rw[this]
 rw[e];have:=pick_run xs i k;rw[List.filterMap_map] at this;have e2:((fun x=>xs[x]?) ∘ fun x=>i+x)=fun m=>xs[i+m]?:=rfl;rw[e2] at this;rw[this]
theorem hU{t sl:Addr}{items:Array Value}{vl vu:Value}{lo hi:Option Int}{Q:Value->Shared->Prop}(ht:IsTup s.heap t items)(hs:s.heap.IsSliceOf sl vl vu .none)(pl:IsPart vl lo)(pu:IsPart vu hi)
  (hw:¬ (sIx items.size 0 lo=0/\sIx items.size items.size hi=items.size))
  (h:Q (.ref s.heap.objs.size) { s with heap:=s.heap.push { cls:=.type "tuple", data:=.seq ((items.toList.drop (sIx items.size 0 lo)).take (sIx items.size items.size hi - sIx items.size 0 lo)).toArray } })
  (hsz:items.size<=sizeLine):wpAny (model prog w) A (getItem (.ref t) (.ref sl)) Q E s:=by
 have htake:sizeOk (.seq ((items.toList.drop (sIx items.size 0 lo)).take (sIx items.size items.size hi - sIx items.size 0 lo)).toArray):=by
  show((items.toList.drop (sIx items.size 0 lo)).take (sIx items.size items.size hi - sIx items.size 0 lo)).toArray.size<=sizeLine;rw[Zl,Zs,ZV,ZP]
  lia
 have hj:sIx items.size items.size hi<=items.size:=Hg _ _ (Ze _) hi;obtain⟨os,hos,hcs,hds⟩:=id hs;have hTs:s.TypeIs (.ref sl) "slice" := ⟨os,hos,hcs⟩;unfold getItem
 try with_reducible refine Ui ?_
 first |refine Ua (Us ?_) |skip
 refine Ua (wpAny_sequenceKey ht.typeIs (by decide) ?_)
 refine Ua (wpAny_callSpecial?_slot (name:=Str.ofString "__getitem__") ht.typeIs Wo
  (Uc Wo ht.typeIs entry_tuple_getitem ?_ (args_tuple_getitem _ _)))
 show wpAny _ _ (Builtin.Tuple.tupleItemsOf (.ref t) >>= _) _ _ s;refine Ua (tupleItemsOf_ ht ?_);refine Ua (UB hTs ?_);rw[if_pos (by decide)];refine Ua (dI hs pl pu ?_)
 have hno:¬ ((((sIx items.size 0 lo:Nat):Int) == 0 && (1:Int) == 1 && (sIx items.size items.size hi - sIx items.size 0 lo) == items.size)=true):=by
  intro q;rw[bAE,bAE] at q;have q1:((sIx items.size 0 lo:Nat):Int)=0:=eq_of_beq q.1.1;have q2:sIx items.size items.size hi - sIx items.size 0 lo=items.size:=eq_of_beq q.2;exact hw ⟨by lia,by lia⟩
 show wpAny _ _ (if (((sIx items.size 0 lo:Nat):Int) == 0 && (1:Int) == 1 && (sIx items.size items.size hi - sIx items.size 0 lo) == items.size)=true then _ else _) _ _ s;rw[if_neg hno,yy]
 first
  |exact Ua (m:=Builtin.Tuple.tupleExact _) (Uq (Us ⟨_,rfl,Us h⟩) htake)
  |exact Ua (m:=Builtin.Tuple.tupleExact _) (Uq (Ua (Us (Us ⟨_,rfl,Us h⟩))) htake)
  |exact Ua (Ua (m:=Builtin.Tuple.tupleExact _) (Uq (Us (Us ⟨_,rfl,Us h⟩)) htake))
  |exact Ua (Ua (m:=Builtin.Tuple.tupleExact _) (Uq (Us ⟨_,rfl,Us h⟩) htake))
end
end HT
namespace L2
open PySem PySem.Spec PyProof.Rows
abbrev TO:=St->Hp->(Option Int->Hp->Prop)->Prop
def PO(X:Cx)(e:Option Expr)(t:TO):Prop:=
 ∀ (pins:List (Addr × Obj)) (s:Shared) (σ:St) (H:Hp) (Q:Option Int->Hp->Prop),Inv X pins σ H s->t σ H Q ->
  wpAny (model X.prog X.w) X.A (evalPart e X.env) (fun u s'=>∃o H',Inv X pins σ H' s'/\IsPart u o/\Q o H') X.xe s
def uJ:TO:=fun _ H Q=>Q none H
def FY(t:TE):TO:=fun σ H Q=>t σ H fun x H1=>∃i,x = .int i/\Q (some i) H1
section
variable {X:Cx} {e:Expr} {te:TE} {lo hi:Option Expr} {tl th:TO} {pos p2:Pos}
theorem Ch:PO X none uJ:=by
 intro pins s σ H Q I h;rw[evalPart_none];exact Us ⟨none,H,I,.none,h⟩
theorem Ci(h:PE X e te):PO X (some e) (FY te):=by
 intro pins s σ H Q I hw;rw[evalPart_some];refine thn (h pins s σ H _ I hw) fun u s1 ⟨x,H1,I1,r1,q1⟩=>?_;obtain⟨i,rfl,q⟩:=q1;obtain⟨t,rfl⟩:=r1;exact⟨some i,H1,I1,.int i t,q⟩
def SlR(X:Cx)(r:V->Option Int->Option Int->Hp->VK->Prop):Prop:=
 ∀ (pins:List (Addr × Obj)) (s:Shared) (σ:St) (H:Hp) (x:V) (v vl vu:Value) (lo hi:Option Int) (sl:Addr) (Q:VK),Inv X pins σ H s->aF x v->s.heap.IsSliceOf sl vl vu .none->IsPart vl lo->IsPart vu hi->r x lo hi H Q ->
  ∃T id,V7 (.type T) "__getitem__" = pure (some (.builtin id))/\s.TypeIs v T/\wpAny (model X.prog X.w) X.A (getItem v (.ref sl)) (EP X pins σ Q) X.xe s
theorem SlR.or{r r':V->Option Int->Option Int->Hp->VK->Prop}(h:SlR X r)(h':SlR X r'):SlR X (fun x lo hi H Q=>r x lo hi H Q\/r' x lo hi H Q):=by
 intro pins s σ H x v vl vu lo hi sl Q I rx hs pl pu q;rcases q with q |q
 ·exact h pins s σ H x v vl vu lo hi sl Q I rx hs pl pu q
 ·exact h' pins s σ H x v vl vu lo hi sl Q I rx hs pl pu q
def tSl(r:V->Option Int->Option Int->Hp->VK->Prop)(te:TE)(tl th:TO):TE:=fun σ H Q=>te σ H fun x H1=>tl σ H1 fun l H2=>th σ H2 fun u H3=>r x l u H3 Q
theorem yz(hr:SlR X r)(he:PE X e te)(hl:PO X lo tl)(hu:PO X hi th):PE X (.Subscript e (.Slice lo hi none p2) pos) (tSl r te tl th):=by
 intro pins s σ H Q I h;refine Subscript_ (thn (he pins s σ H _ I h) fun v s1 ⟨x,H1,I1,r1,q1⟩=>?_);refine wpAny_Slice (thn (hl pins s1 σ H1 _ I1 q1) fun vl s2 ⟨l,H2,I2,pl,q2⟩=>thn (hu pins s2 σ H2 _ I2 q2) fun vu s3 ⟨u,H3,I3,pu,q3⟩=>?_);rw[evalPart_none];refine Us ?_;have I4:Inv X pins σ H3 { s3 with heap:=s3.heap.push { cls:=.type "slice", data:=.fields #[vl,vu,.none] } }:=I3.kept (t':=s3.toks) fun b ob q=>Zk _ q;obtain⟨T,id,hT,ht,hg⟩:=hr pins { s3 with heap:=s3.heap.push { cls:=.type "slice", data:=.fields #[vl,vu,.none] } } σ H3 x v vl vu l u s3.heap.objs.size Q I4 r1 (Heap.IsSliceOf.new ..) pl pu q3;show wpAny (model X.prog X.w) X.A (subscriptTail e (.Slice lo hi none p2) v (.ref s3.heap.objs.size)) (EP X pins σ Q) X.xe { s3 with heap:=s3.heap.push { cls:=.type "slice", data:=.fields #[vl,vu,.none] } };exact tail_any (ops:=[.ref s3.heap.objs.size,v]) ht hT hg (by with_unfolding_all rfl)
noncomputable def ky(xs:List V)(lo hi:Option Int):List V:=(xs.drop (HT.sIx xs.length 0 lo)).take (HT.sIx xs.length xs.length hi - HT.sIx xs.length 0 lo)
theorem jt(xs:List V)(lo hi:Option Int):(ky xs lo hi).length<=xs.length:=by
 unfold ky;rw[Zs,ZV]
 lia
def OL(K:W0):V->Option Int->Option Int->Hp->VK->Prop:=fun x lo hi H Q=>∃a xs,x = .ref a/\SqT K H a xs ∧
 ¬ (HT.sIx xs.length 0 lo=0/\HT.sIx xs.length xs.length hi=xs.length)/\∀p,H p=none->Q (.ref p) (upd H p (.tup (ky xs lo hi)))
theorem Hh:SlR X (OL X.K):=by
 intro pins s σ H x v vl vu lo hi sl Q I rx hs pl pu h;obtain⟨a,xs,rfl,hx,hw,q⟩:=h;cases rx;obtain⟨its,r,ht,hz⟩:=I.tuple hx;have hlen:its.toArray.size=xs.length:=by rw[Zl];exact r.length.symm
 refine⟨"tuple", _,PyProof.Rows.slot_tuple_getitem.lookup,ht.typeIs,?_⟩;refine HT.hU ht hs pl pu (by rw[hlen];exact hw) ?_ (by rw[hlen];exact hz);rw[hlen];refine⟨.ref s.heap.objs.size,_,I.laid (t':=s.toks) (o:=.tup (ky xs lo hi)) (fun b ob q=>Zk _ q) (Ze _) ?_,rfl,q _ (I.hok.fresh (Ze _))⟩;exact⟨ZF (jt xs lo hi) hz,_,(r.drop (HT.sIx xs.length 0 lo)).take (HT.sIx xs.length xs.length hi - HT.sIx xs.length 0 lo),oC.new _ _⟩
def L3(K:W0):R2:=fun x y H Q=>∃a b xs ys,x = .ref a/\y = .ref b/\SqT K H a xs/\SqT K H b ys/\xs ≠ []/\xs.length+ys.length<=sizeLine ∧
 (ys=[]->Q (.ref a) H)/\(ys ≠ []->∀p,H p=none->Q (.ref p) (upd H p (.tup (xs++ys))))
theorem aJ.nil_iff(r:aJ xs us):us=[] ↔ xs=[]:=by
 cases r with
 |nil=>simp
 |cons _ _=>simp
theorem Cj:OpR X (Vr .Add) (L3 X.K):=by
 intro pins s σ H x y v u Q I rx ry h;obtain⟨a,b,xs,ys,rfl,rfl,ha,hb,hx,hz,q1,q2⟩:=h;cases rx;cases ry;obtain⟨its,r1,p1,_⟩:=I.tuple ha;obtain⟨its2,r2,p2,_⟩:=I.tuple hb;refine HT.Cg p1 p2 (fun z=>hx (r1.nil_iff.mp z)) (fun z=>⟨.ref a,H,I,rfl,q1 (r2.nil_iff.mp z)⟩) (fun z=>?_) (by rw[<-r1.length,<-r2.length];exact hz);refine⟨.ref s.heap.objs.size,_,I.laid (t':=s.toks) (o:=.tup (xs++ys)) (fun b ob q=>Zk _ q) (Ze _) ?_,rfl,q2 (fun w=>z (r2.nil_iff.mpr w)) _ (I.hok.fresh (Ze _))⟩;exact⟨by rw[Zh];exact hz,_,r1.append r2,oC.new _ _⟩
end
noncomputable def ixN(n:Nat)(i:Int):Option Nat:=if 0<=i then (if i < n then some i.toNat else none) else if -(n:Int)<=i then some (i+n).toNat else none
noncomputable def atI{α:Type}(xs:List α)(i:Int):Option α:=(ixN xs.length i).bind fun j=>xs[j]?
theorem oI{n:Nat}{i:Int}{j:Nat}(h:ixN n i=some j):seqIndex? i n=some j/\j < n/\-(n:Int)<=i/\i < n:=by
 unfold ixN at h;by_cases h0:0<=i
 ·rw[if_pos h0] at h;by_cases h1:i < n
  ·rw[if_pos h1] at h;have e:i.toNat=j:=Option.some.inj h;exact⟨by rw[VU h0 h1,e],by lia,by lia,h1⟩
  ·rw[if_neg h1] at h;cases h
 ·rw[if_neg h0] at h;by_cases h1:-(n:Int)<=i
  ·rw[if_pos h1] at h;have e:(i+n).toNat=j:=Option.some.inj h;exact⟨by rw[VT (by lia) h1,e],by lia,h1,by lia⟩
  ·rw[if_neg h1] at h;cases h
theorem oJ{α:Type}{xs:List α}{i:Int}{v:α}(h:atI xs i=some v):∃j,seqIndex? i xs.length=some j/\xs[j]?=some v/\j < xs.length/\-(xs.length:Int)<=i/\i < xs.length:=by
 unfold atI at h;cases e:ixN xs.length i with
 |none=>rw[e] at h;cases h
 |some j=>
  rw[e] at h;obtain⟨h1,h2,h3,h4⟩:=oI e;exact⟨j,h1,h,h2,h3,h4⟩
theorem oK{α:Type}{xs:List α}{j:Nat}{v:α}(h:xs[j]?=some v):atI xs (j:Int)=some v:=by
 have hj:j < xs.length:=(Zc.mp h).1
 have e:ixN xs.length (j:Int)=some j:=by
  unfold ixN;rw[if_pos (by lia),if_pos (by lia)];simp
 unfold atI;rw[e];exact h
def uK(b:Expr):Prop:=∀o i,subscripted b false o i=operate [o,i] (getItem o i)
def IxR(X:Cx)(r:R2):Prop:=
 ∀ (value slice:Expr) (pins:List (Addr × Obj)) (s:Shared) (σ:St) (H:Hp) (x y:V) (v u:Value) (Q:VK),Inv X pins σ H s->aF x v->aF y u->r x y H Q ->
  subscripted slice false v u=operate [v,u] (getItem v u)->wpAny (model X.prog X.w) X.A (subscriptTail value slice v u) (EP X pins σ Q) X.xe s
def MtR(X:Cx)(id:String)(r:V->List V->Hp->VK->Prop):Prop:=
 ∀ (pins:List (Addr × Obj)) (s:Shared) (σ:St) (H:Hp) (x:V) (xs:List V) (v:Value) (us:List Value) (Q:VK),Inv X pins σ H s->aF x v->aJ xs us->r x xs H Q ->
  wpAny (model X.prog X.w) X.A (call (.builtin id) (v::us)) (EP X pins σ Q) X.xe s
section
variable {X:Cx} {a b:Expr} {ta tb:TE} {pos:Pos}
theorem IxR.or{r r':R2}(h:IxR X r)(h':IxR X r'):IxR X (fun x y H Q=>r x y H Q\/r' x y H Q):=by
 intro value slice pins s σ H x y v u Q I rx ry q hs;rcases q with q |q
 ·exact h value slice pins s σ H x y v u Q I rx ry q hs
 ·exact h' value slice pins s σ H x y v u Q I rx ry q hs
theorem yA(hr:IxR X r)(ha:PE X a ta)(hb:PE X b tb)(hs:uK b):PE X (.Subscript a b pos) (tOp r ta tb):=by
 intro pins s σ H Q I h;exact Subscript_ (G4 ha hb I h fun v u s2 x y H2 I2 rx ry q=>hr a b pins s2 σ H2 x y v u Q I2 rx ry q (hs _ _))
def L4(K:W0):R2:=fun x y H Q=>∃p xs i v,x = .ref p/\y = .int i/\SqL K H p xs/\atI xs i=some v/\Q v H
def L5(K:W0):R2:=fun x y H Q=>∃p xs i v,x = .ref p/\y = .int i/\SqT K H p xs/\atI xs i=some v/\Q v H
def L6:R2:=fun x y H Q=>∃z i c,x = .str z/\y = .int i/\z.length<=sizeLine/\atI z.cps.toList i=some c/\Q (.str ⟨#[c]⟩) H
theorem Ck:IxR X (L4 X.K):=by
 intro value slice pins s σ H x y v u Q I rx ry h hs;obtain⟨p,xs,i,z,rfl,rfl,hq,he,q⟩:=h;cases rx;obtain⟨t,rfl⟩:=ry;obtain⟨its,r,pl,hz⟩:=I.list hq;obtain⟨j,h1,h2,h3,h4,h5⟩:=oJ he;obtain⟨w,ew,rw'⟩:=r.get h2;have hl:=r.length;have hn:=iJ;have fin:EP X pins σ Q w s:=⟨z,H,I,rw',q⟩;by_cases h0:0<=i
 ·have hj:i.toNat=j:=by
   rw[VU h0 h5] at h1;exact Option.some.inj h1
  exact item_listR pl.isList h0 (by lia) (by rw[hj];simpa using ew) fin hs
 ·have hj:(i+(its.toArray.size:Int)).toNat=j:=by
   rw[VT (by lia) h4] at h1;rw[Zl,<-hl];exact Option.some.inj h1
  exact subscriptTail_builtinR (x:=w) pl.isList.typeIs slot_list_getitem.lookup
   (wpAny_getItem_list_neg (Q:=fun r s'=>r=w/\EP X pins σ Q r s') pl.isList (by lia) (by rw[Zl] <;> lia) (by lia) (by rw[hj];simpa using ew) ⟨rfl,fin⟩) hs
theorem yB:IxR X (L5 X.K):=by
 intro value slice pins s σ H x y v u Q I rx ry h hs;obtain⟨p,xs,i,z,rfl,rfl,hq,he,q⟩:=h;cases rx;obtain⟨t,rfl⟩:=ry;obtain⟨its,r,pl,hz⟩:=I.tuple hq;obtain⟨j,h1,h2,h3,h4,h5⟩:=oJ he;obtain⟨w,ew,rw'⟩:=r.get h2;have hl:=r.length;have hn:=iJ;have fin:EP X pins σ Q w s:=⟨z,H,I,rw',q⟩
 exact subscriptTail_builtinR (x:=w) pl.typeIs slot_tuple_getitem.lookup
  (getItem_tuple (j:=j) (Q:=fun r s'=>r=w/\EP X pins σ Q r s') pl (by lia) (by lia) (by rw[Zl,<-hl];exact h1) (by simpa using ew) ⟨rfl,fin⟩) hs
theorem Hi:IxR X L6:=by
 intro value slice pins s σ H x y v u Q I rx ry h hs;obtain⟨z,i,c,rfl,rfl,hz,he,q⟩:=h;obtain⟨t,rfl⟩:=rx;obtain⟨t',rfl⟩:=ry;obtain⟨j,h1,h2,h3,h4,h5⟩:=oJ he;have hl:z.cps.toList.length=z.length:=by simp[Str.length]
 rw[hl] at h1 h4 h5;have hn:=iJ
 exact tail_any (typeIs_str s z t) slot_str_getitem.lookup (getItem_str (c:=c) (by
  have e1:decide (i < -(2 ^ 63:Int))=false:=decide_eq_false (by lia);have e2:decide (i ≥ 2 ^ 63)=false:=decide_eq_false (by lia);rw[e1,e2,X7]) (by rw[h1];simpa using h2) ⟨.str ⟨#[c]⟩,H,I.tok _,⟨_,rfl⟩,q⟩) hs
def rIx(K:W0):R2:=fun x y H Q=>L4 K x y H Q\/L5 K x y H Q\/L6 x y H Q
theorem yC:IxR X (rIx X.K):=Ck.or (yB.or Hi)
theorem sD(its:List Value)(n j:Nat)(u:Value):Obj.mapSeq (·.setIfInBounds j u) { cls:=.type "list", data:=.seq its.toArray n }={ cls:=.type "list", data:=.seq (its.set j u).toArray n }:=by
 simp[Obj.mapSeq]
theorem Inv.lst{pins:List (Addr × Obj)}{σ:St}{H:Hp}{s:Shared}{p:Addr}{xs:List V}(I:Inv X pins σ H s)(h:H p=some (.lst xs)) :
  ∃ (its:List Value) (n:Nat),aJ xs its/\s.heap.get? p=some { cls:=.type "list", data:=.seq its.toArray n }/\xs.length<=sizeLine:=by
 obtain⟨z,its,n,r,e⟩:=I.hok p _ h;exact⟨its,n,r,e,z⟩
theorem Inv.lstUpd{pins:List (Addr × Obj)}{σ:St}{H:Hp}{s:Shared}{p:Addr}{xs ys:List V}{its its':List Value}{n n':Nat}{f:Obj->Obj}(I:Inv X pins σ H s)(h:H p=some (.lst xs))
  (ho:s.heap.get? p=some { cls:=.type "list", data:=.seq its.toArray n }) (hf:f { cls:=.type "list", data:=.seq its.toArray n }={ cls:=.type "list", data:=.seq its'.toArray n' }) (r:aJ ys its') (hz:ys.length<=sizeLine) (t:Nat) :
  Inv X pins σ (upd H p (.lst ys)) { s with heap:=s.heap.update p f,toks:=t }:=by
 have e:(s.heap.update p f).get? p=some { cls:=.type "list", data:=.seq its'.toArray n' }:=by
  rw[Xa f ho (by rw[hf] <;> rfl),hf]
 refine I.write (x:=p) (e:=p) (by rw[h];trivial) (.inl rfl) (fun b u hb q=>(Y3 _ _ (Ne.symm hb)).trans q) ⟨_,e⟩ ?_;exact⟨hz,its',n',r,e⟩
def L7:V->V->V->Hp->(Hp->Prop)->Prop:=fun o i v H Q=>∃p xs k j,o = .ref p/\i = .int k/\H p=some (.lst xs)/\ixN xs.length k=some j/\Q (upd H p (.lst (xs.set j v)))
theorem yD:GX X L7:=by
 intro pins s σ H o i v ov iv u Q I ro ri rv h;obtain⟨p,xs,k,j,rfl,rfl,hp,hj,q⟩:=h;cases ro;obtain⟨t,rfl⟩:=ri;obtain⟨its,n,r,ho,hz⟩:=I.lst hp;obtain⟨h1,h2,h3,h4⟩:=oI hj;have hl:=r.length;have hn:=iJ
 have I':Inv X pins σ (upd H p (.lst (xs.set j v))) { s with heap:=s.heap.update p (Obj.mapSeq (·.setIfInBounds j u)) }:=
  I.lstUpd hp ho (sD its n j u) (r.set rv j) (by rw[Yg];exact hz) s.toks
 by_cases h0:0<=k
 ·have hk:k.toNat=j:=by
   rw[VU h0 h4] at h1;exact Option.some.inj h1
  exact PySem.W.ki_setAt ho h0 (by lia) (by rw[Zl,<-hl];exact h4) (by rw[hk];exact⟨_,I',q⟩)
 ·have hk:(k+(its.toArray.size:Int)).toNat=j:=by
   rw[VT (by lia) h3] at h1;rw[Zl,<-hl];exact Option.some.inj h1
  exact PySem.W.ki_setBack ho (by lia) (by rw[Zl,<-hl];exact h3) (by lia) (by rw[hk];exact⟨_,I',q⟩)
theorem oM(lo hi:Option Int)(n:Nat):(VY lo hi none n).1=((HT.sIx n 0 lo:Nat):Int)/\(VY lo hi none n).2.1=((HT.sIx n n hi:Nat):Int)/\(VY lo hi none n).2.2=1:=by
 refine⟨?_,?_,rfl⟩
 ·cases lo with
  |none=>simp[VY,HT.sIx]
  |some i=>
   simp only[VY,HT.sIx,XJ,show(1:Int) > 0 by decide,if_true];by_cases h:i < 0
   ·simp only[h,if_true] <;> lia
   ·simp only[h,if_false] <;> lia
 ·cases hi with
  |none=>simp[VY,HT.sIx]
  |some i=>
   simp only[VY,HT.sIx,XJ,show(1:Int) > 0 by decide,if_true];by_cases h:i < 0
   ·simp only[h,if_true] <;> lia
   ·simp only[h,if_false] <;> lia
theorem mF(its:List Value)(lo hi:Option Int):slicePick its.toArray lo hi none=((its.drop (HT.sIx its.length 0 lo)).take (HT.sIx its.length its.length hi - HT.sIx its.length 0 lo)).toArray:=by
 obtain⟨h1,h2,h3⟩:=oM lo hi its.toArray.size;unfold slicePick;rw[h1,h2,h3];simp only[sliceRange_one,pick_run,Zl] <;> rfl
def OM(K:W0):V->Option Int->Option Int->Hp->VK->Prop:=fun x lo hi H Q=>∃a xs,x = .ref a/\SqL K H a xs/\∀p,H p=none->Q (.ref p) (upd H p (.lst (ky xs lo hi)))
theorem Cm:SlR X (OM X.K):=by
 intro pins s σ H x v vl vu lo hi sl Q I rx hs pl pu h;obtain⟨a,xs,rfl,hx,q⟩:=h;cases rx;obtain⟨its,r,ht,hz⟩:=I.list hx;have hlen:=r.length;refine⟨"list", _,slot_list_getitem.lookup,ht.isList.typeIs,?_⟩;refine wpAny_getItem_list_slice ht.isList hs pl pu .none (by simp) ?_ (by rw[Zl] <;> lia);rw[mF,<-hlen];refine⟨.ref s.heap.objs.size,_,I.laid (t':=s.toks) (o:=.lst (ky xs lo hi)) (fun b ob q=>Zk _ q) (Ze _) ?_,rfl,q _ (I.hok.fresh (Ze _))⟩;exact⟨ZF (jt xs lo hi) hz,_,0,(r.drop (HT.sIx xs.length 0 lo)).take (HT.sIx xs.length xs.length hi - HT.sIx xs.length 0 lo),ZE _ rfl⟩
noncomputable def bD:V->Bool
 |.non=>true
 |.bl _=>true
 |.int _=>true
 |.str _=>true
 |_=>false
noncomputable def eqV:V->V->Bool
 |.non,.non=>true
 |.bl a,.bl b=>a == b
 |.bl a,.int b=>(if a then 1 else 0) == b
 |.int a,.bl b=>a == (if b then 1 else 0)
 |.int a,.int b=>a == b
 |.str a,.str b=>a == b
 |_,_=>false
theorem Hj(ry:aF y u)(rx:aF x v)(fy:bD y=true)(fx:bD x=true):WR A s u v (eqV y x):=by
 cases y with
 |non=>
  cases ry;cases x with
  |non=>cases rx;exact SeqAt.EqAt.same _
  |bl b=>cases rx;exact SeqAt.EqAt.none_bool b
  |int b=>obtain⟨t,rfl⟩:=rx;exact SeqAt.EqAt.none_int b t
  |str b=>obtain⟨t,rfl⟩:=rx;exact SeqAt.EqAt.none_str b t
  |_=>exact absurd (show false=true from fx) Zd
 |bl a=>
  cases ry;cases x with
  |non=>cases rx;exact SeqAt.EqAt.bool_none a
  |bl b=>cases rx;exact SeqAt.EqAt.bool_bool a b
  |int b=>obtain⟨t,rfl⟩:=rx;exact SeqAt.EqAt.bool_int a b t
  |str b=>obtain⟨t,rfl⟩:=rx;exact SeqAt.EqAt.bool_str a b t
  |_=>exact absurd (show false=true from fx) Zd
 |int a=>
  obtain⟨t',rfl⟩:=ry;cases x with
  |non=>cases rx;exact SeqAt.EqAt.int_none a t'
  |bl b=>cases rx;exact SeqAt.EqAt.int_bool a t' b
  |int b=>obtain⟨t,rfl⟩:=rx;exact SeqAt.EqAt.int_int a t' b t
  |str b=>obtain⟨t,rfl⟩:=rx;exact SeqAt.EqAt.int_str a t' b t
  |_=>exact absurd (show false=true from fx) Zd
 |str a=>
  obtain⟨t',rfl⟩:=ry;cases x with
  |non=>cases rx;exact SeqAt.EqAt.str_none a t'
  |bl b=>cases rx;exact SeqAt.EqAt.str_bool a t' b
  |int b=>obtain⟨t,rfl⟩:=rx;exact SeqAt.EqAt.str_int a t' b t
  |str b=>obtain⟨t,rfl⟩:=rx;exact SeqAt.EqAt.str_str a t' b t
  |_=>exact absurd (show false=true from fx) Zd
 |_=>exact absurd (show false=true from fy) Zd
noncomputable def eqU(x:V)(u:Value):Bool:=match u with
 |.none=>eqV .non x
 |.bool b=>eqV (.bl b) x
 |.int i _=>eqV (.int i) x
 |.str z _=>eqV (.str z) x
 |_=>false
theorem oO(r:aF y u)(f:bD y=true):eqU x u=eqV y x:=by
 cases y with
 |non=>cases r;rfl
 |bl b=>cases r;rfl
 |int i=>obtain⟨t,rfl⟩:=r;rfl
 |str z=>obtain⟨t,rfl⟩:=r;rfl
 |_=>exact absurd (show false=true from f) Zd
theorem hV:∀ {xs:List V} {us:List Value},aJ xs us->xs.all bD=true->us.any (eqU x)=xs.any fun y=>eqV y x
 |_,_,.nil,_=>rfl
 |y::xs,u::us,.cons r t,f=>by
  rw[Z8,bAE] at f;rw[Yy,Yy,oO r f.1,hV t f.2]
theorem cj(rx:aF x v)(fx:bD x=true):∀ {xs:List V} {us:List Value},aJ xs us->xs.all bD=true->∀u ∈ us,WR A s u v (eqU x u)
 |_,_,.nil,_=>fun u hu=>by cases hu
 |y::xs,u::us,.cons r t,f=>fun u' hu=>by
  rw[Z8,bAE] at f;rcases Zm.mp hu with rfl |hu
  ·rw[oO r f.1];exact Hj r rx f.1 fx
  ·exact cj rx fx t f.2 u' hu
noncomputable def inV(x:V)(xs:List V):Bool:=xs.any fun y=>eqV y x
def rIn(K:W0)(neg:Bool):R2:=fun x y H Q=>∃p xs,y = .ref p/\(SqL K H p xs\/SqT K H p xs)/\bD x=true/\xs.all bD=true/\Q (.bl (if neg then !inV x xs else inV x xs)) H
theorem wo:OpR X (VA .In) (rIn X.K false):=by
 intro pins s σ H x y v u Q I rx ry h;obtain⟨p,xs,rfl,hq,fx,fs,q⟩:=h;cases ry;rcases hq with hq |hq
 ·obtain⟨its,r,pl,hz⟩:=I.list hq;refine WV (eqU x) pl.isList (fun w hw=>cj rx fx r fs w (by simpa using hw)) ⟨.bl _,H,I,rfl,?_⟩;rw[show its.toArray.any (eqU x)=its.any (eqU x) by simp,hV r fs];exact q
 ·obtain⟨its,r,pl,hz⟩:=I.tuple hq;refine WW (eqU x) pl (fun w hw=>cj rx fx r fs w (by simpa using hw)) ⟨.bl _,H,I,rfl,?_⟩;rw[show its.toArray.any (eqU x)=its.any (eqU x) by simp,hV r fs];exact q
theorem oP:OpR X (VA .NotIn) (rIn X.K true):=by
 intro pins s σ H x y v u Q I rx ry h;obtain⟨p,xs,rfl,hq,fx,fs,q⟩:=h;cases ry;rcases hq with hq |hq
 ·obtain⟨its,r,pl,hz⟩:=I.list hq;refine WX (eqU x) pl.isList (fun w hw=>cj rx fx r fs w (by simpa using hw)) ⟨.bl _,H,I,rfl,?_⟩;rw[show its.toArray.any (eqU x)=its.any (eqU x) by simp,hV r fs];exact q
 ·obtain⟨its,r,pl,hz⟩:=I.tuple hq;refine WY (eqU x) pl (fun w hw=>cj rx fx r fs w (by simpa using hw)) ⟨.bl _,H,I,rfl,?_⟩;rw[show its.toArray.any (eqU x)=its.any (eqU x) by simp,hV r fs];exact q
theorem oQ:aM X (.builtin "len") (fun xs H Q=>∃p ys,xs=[.ref p]/\(SqL X.K H p ys\/SqT X.K H p ys)/\Q (.int ys.length) H):=by
 intro pins s σ H xs us Q I r h;obtain⟨p,ys,rfl,hq,q⟩:=h;obtain⟨u,rfl,rx⟩:=cF r;cases rx;have hn:=iJ;rcases hq with hq |hq
 ·obtain⟨its,r',pl,hz⟩:=I.list hq;have hlen:=r'.length;exact Calls.call_len_list pl.isList (by simp only[Zl] <;> lia) ⟨.int ys.length,H,I.tok _,⟨s.toks+1,by rw[Zl,hlen]⟩,q⟩
 ·obtain⟨its,r',pl,hz⟩:=I.tuple hq;have hlen:=r'.length;exact len_tuple pl (by simp only[Zl] <;> lia) ⟨.int ys.length,H,I.tok _,⟨s.toks+1,by rw[Zl,hlen]⟩,q⟩
theorem oS:aM X (.type "list") (fun xs H Q=>∃p ys,xs=[.ref p]/\(SqL X.K H p ys\/SqT X.K H p ys)/\∀l,H l=none->Q (.ref l) (upd H l (.lst ys))):=by
 intro pins s σ H xs us Q I r h;obtain⟨p,ys,rfl,hq,q⟩:=h;obtain⟨u,rfl,rx⟩:=cF r;cases rx
 have fin:∀ (its:List Value),aJ ys its->ys.length<=sizeLine->∀ (h':Heap) (c':Nat),(∀b o',s.heap.get? b=some o'->h'.get? b=some o') ->
   h'.get? s.heap.objs.size=some { cls:=.type "list", dict:=none,data:=.seq its.toArray c',slots:=#[] }->EP X pins σ Q (.ref s.heap.objs.size) { s with heap:=h' }:=fun its r' hz h' c' kp e=>
  ⟨.ref s.heap.objs.size,_,I.laid (t':=s.toks) kp (Ze _) (show bf X.prog X.w _ h' _ (.lst ys) from ⟨hz,its,c',r',e⟩),rfl,q _ (I.hok.fresh (Ze _))⟩
 rcases hq with hq |hq
 ·obtain⟨its,r',pl,hz⟩:=I.list hq;have hlen:=r'.length;obtain⟨o,ho,hc,n,hd⟩:=pl.isList;exact call_list_seq p (.inl rfl) ho hc hd (fun h' c' kp e=>fin its r' hz h' c' kp e) (by simp only[Zl] <;> lia)
 ·obtain⟨its,r',pl,hz⟩:=I.tuple hq;have hlen:=r'.length;obtain⟨o,ho,hc,n,hd⟩:=pl;exact call_list_seq p (.inr rfl) ho hc hd (fun h' c' kp e=>fin its r' hz h' c' kp e) (by simp only[Zl] <;> lia)
theorem mG:aM X (.type "tuple") (fun xs H Q=>∃p ys,xs=[.ref p]/\((SqL X.K H p ys/\∀l,H l=none->Q (.ref l) (upd H l (.tup ys)))\/(SqT X.K H p ys/\Q (.ref p) H))):=by
 intro pins s σ H xs us Q I r h;obtain⟨p,ys,rfl,h⟩:=h;obtain⟨u,rfl,rx⟩:=cF r;cases rx;rcases h with ⟨hq,q⟩ |⟨hq,q⟩
 ·obtain⟨its,r',pl,hz⟩:=I.list hq;have hlen:=r'.length;refine call_tuple_list pl.isList (fun h' kp=>?_) (by simp only[Zl] <;> lia);have I1:Inv X pins σ H { s with heap:=h' }:=I.kept (t':=s.toks) kp
  have I2:Inv X pins σ (upd H h'.objs.size (.tup ys)) { s with heap:=h'.push { cls:=.type "tuple", data:=.seq its.toArray } }:=
   I1.laid (t':=s.toks) (fun b o e=>Zk _ e) (Ze _) (show bf X.prog X.w _ _ _ (.tup ys) from ⟨hz,its,r',oC.new _ _⟩)
  exact⟨.ref h'.objs.size,_,I2,rfl,q _ (I1.hok.fresh (Ze _))⟩
 ·obtain⟨its,r',pl,hz⟩:=I.tuple hq;exact call_tuple_same pl ⟨.ref p,H,I,rfl,q⟩
def tyV(K:W0)(T:String)(x:V)(H:Hp):Prop:=match x with
 |.str _=>T = "str"
 |.int _=>T = "int"
 |.ref p=>(T = "list"/\∃xs,SqL K H p xs)\/(T = "tuple"/\((∃o,K.lookup p=some o/\o.cls = .type "tuple"/\o.dict=none)\/∃xs,H p=some (.tup xs))) ∨
   (T = "dict"/\((∃kvs,H p=some (.dK kvs))\/∃kvs,H p=some (.dT kvs)))\/(T = "set"/\∃S n,H p=some (.set S n))
 |_=>False
theorem Hk(I:Inv X pins σ H s)(r:aF x v)(ty:tyV X.K T x H) :
  s.TypeIs v T/\∀a,v = .ref a->∃ob,s.heap.get? a=some ob/\ob.dict=none:=by
 cases x with
 |str z=>
  obtain⟨t,rfl⟩:=r;cases (show T = "str" from ty);exact⟨typeIs_str s z t,fun _ e=>nomatch e⟩
 |int i=>
  obtain⟨t,rfl⟩:=r;cases (show T = "int" from ty);exact⟨typeIs_int s i t,fun _ e=>nomatch e⟩
 |ref p=>
  cases r;rcases ty with ⟨rfl,xs,hq⟩ |⟨rfl,⟨o,hk,hc,hd⟩ |⟨xs,hk⟩⟩ |⟨rfl,hk⟩ |⟨rfl,S,n,hk⟩
  ·obtain⟨its,_,pl,_⟩:=I.list hq;refine⟨pl.isList.typeIs,fun a e=>?_⟩;cases e;obtain⟨o,n,e,c,hd,_⟩:=pl;exact⟨o,e,hd⟩
  ·refine⟨⟨o,I.kIn p o hk,hc⟩,fun a e=>?_⟩;cases e;exact⟨o,I.kIn _ o hk,hd⟩
  ·obtain⟨_,its,_,o,e,hc,_,_,hd⟩:=I.hok p _ hk;refine⟨⟨o,e,hc⟩,fun a e2=>?_⟩;cases e2;exact⟨o,e,hd⟩
  ·have z:∃o,s.heap.get? p=some o/\o.ExactDict:=by
    rcases hk with ⟨kvs,hk⟩ |⟨kvs,hk⟩
    ·obtain⟨_,_,_,_,o,_,_,e,ex,_⟩:=I.hok p _ hk;exact⟨o,e,ex⟩
    ·obtain⟨_,_,_,_,o,_,_,e,ex,_⟩:=I.hok p _ hk;exact⟨o,e,ex⟩
   obtain⟨o,e,ex⟩:=z;refine⟨⟨o,e,ex.1⟩,fun a e2=>?_⟩;cases e2;exact⟨o,e,ex.2.1⟩
  ·obtain⟨o,_,_,_,e,ex,_⟩:=I.hok p _ hk;refine⟨⟨o,e,ex.1⟩,fun a e2=>?_⟩;cases e2;exact⟨o,e,ex.2.1⟩
 |_=>exact False.elim ty
def tBM(K:W0)(T:String)(r:V->List V->Hp->VK->Prop)(to:TE)(t:TA):TE:=fun σ H Q=>to σ H fun x H1=>tyV K T x H1/\t σ H1 fun xs H2=>r x xs H2 Q
variable {o e:Expr} {es:List Expr} {to:TE} {t:TA} {name:Str} {apos cpos:Pos} {T id:String} {r:V->List V->Hp->VK->Prop}
theorem mX(pa:PlainAttrs T)(slot:Slot T name id)(hty:typeOf (.builtin id)=pure (.type "method_descriptor"))(hm:MtR X id r)(ho:PE X o to)(ha:PA X (e::es) t)
  (hbase:attributeBase o name X.env (eval o X.env)=eval o X.env:=by rfl)
  (hfew:((backTo cpos (VZ (e::es) X.env)).all (fun x=>!x.1) && (backToKw cpos (keywordEach [] X.env)).all (fun x=>x.1.isSome)
   && decide ((e::es).length+([]:List Keyword).length+(if ([]:List Keyword).isEmpty then 0 else 1) < 30))=true:=by rfl)
  (hline:(apos.endLine == cpos.line)=true:=by rfl) (hs:VZ (e::es) X.env=(false,eval e X.env)::VZ es X.env:=by rfl) (hplain:(backTo cpos (VZ es X.env)).any (·.1)=false:=by rfl) :
  PE X (.Call (.Attribute o name apos) (e::es) [] cpos) (tBM X.K T r to t):=by
 intro pins s σ H Q I h;refine wpAny_Call_method_late hbase hfew hline rfl (thn (ho pins s σ H _ I h) fun v s1 ⟨x,H1,I1,r1,ty,q1⟩=>?_);obtain⟨h1,h2⟩:=Hk I1 r1 ty;refine⟨T,id,pa,slot,hty,h1,h2,?_⟩;have hA:=ha cpos pins s1 σ H1 _ I1 q1;rw[hs] at hA ⊢;refine Calls.callWith_builtin (by show(false || (backTo cpos (VZ es X.env)).any (·.1))=false;rw[hplain] <;> rfl) (Wq ?_);exact thn hA fun us s2 ⟨vs,H2,I2,r2,q2⟩=>hm pins s2 σ H2 x vs v us Q I2 r1 r2 q2
end
def MtM(X:Cx)(id:String)(r:V->List V->Hp->VK->Prop):Prop:=
 ∀ (pins:List (Addr × Obj)) (s:Shared) (σ:St) (H:Hp) (x:V) (xs:List V) (v:Value) (us:List Value) (Q:VK),Inv X pins σ H s->aF x v->aJ xs us->r x xs H Q ->
  wpAny (model X.prog X.w) X.A (call (.builtin id) (v::us)) (EP X pins σ Q) X.xe s
theorem aJ.one:∀ {x:V} {us:List Value},aJ [x] us->∃u,us=[u]/\aF x u
 |_,_,.cons r .nil=>⟨_,rfl,r⟩
theorem aJ.eraseIdx:∀ {xs:List V} {us:List Value} (i:Nat),aJ xs us->aJ (xs.eraseIdx i) (us.eraseIdx i)
 |_,_,_,.nil=>.nil
 |_,_,0,.cons _ t=>t
 |_,_,i+1,.cons r t=>.cons r (aJ.eraseIdx i t)
theorem aJ.rep(h:aJ xs us):∀k:Nat,aJ (Zo k xs).flatten (Zo k us).flatten
 |0=>.nil
 |k+1=>by
  rw[Z4,Z4,Ym,Ym];exact aJ.append h (aJ.rep h k)
theorem mY{α:Type}:∀ (l:List α) (i:Nat),(l.eraseIdx i).length<=l.length
 |[],_=>Ze _
 |_::_,0=>Yt _
 |_::r,i+1=>XM (mY r i)
theorem mZ(its:List Value):∀ (k:Nat) (acc:List Value),
  X4 (fun x1 x2=>x1++x2) acc.toArray (Zo k its.toArray)=(acc++(Zo k its).flatten).toArray
 |0,acc=>by simp
 |k+1,acc=>by
  have e:acc.toArray++its.toArray=(acc++its).toArray:=by simp
  have e2:(acc++its)++(Zo k its).flatten=acc++(Zo (k+1) its).flatten:=by
   rw[Z4,Ym,Yd]
  rw[<-e2,<-mZ its k (acc++its),<-e,Z4,XW]
section
variable {X:Cx} {pins:List (Addr × Obj)} {σ:St} {H:Hp} {s:Shared} {l b:Addr} {xs ys zs:List V}
theorem Inv.lset{its its':List Value}{n:Nat}{f:Array Value->Array Value}{t':Nat}(I:Inv X pins σ H s)(hH:H l=some (.lst xs))
  (e:s.heap.get? l=some { cls:=.type "list", data:=.seq its.toArray n }) (hf:f its.toArray=its'.toArray) (hv:aJ ys its') (hz:ys.length<=sizeLine) :
  Inv X pins σ (upd H l (.lst ys)) { s with heap:=s.heap.update l (Obj.mapSeq f),toks:=t' }:=by
 have q:=PySem.IsL.update e f;rw[hf] at q;refine I.write (x:=l) (e:=l) (by rw[hH];exact trivial) (.inl rfl) (fun b' u hb hu=>(Y3 s.heap (Obj.mapSeq f) (Ne.symm hb)).trans hu) ⟨_,q⟩ ?_;exact⟨hz,its',_,hv,q⟩
theorem Inv.lnew{t':Nat}(I:Inv X pins σ H s)(hv:aJ ys its)(hz:ys.length<=sizeLine) :
  Inv X pins σ (upd H s.heap.objs.size (.lst ys)) { s with heap:=s.heap.push { cls:=.type "list", data:=.seq its.toArray },toks:=t' }:=
 I.laid (fun _ _ q=>Zk _ q) (Ze _) ⟨hz,its,0,hv,ZE _ rfl⟩
theorem Inv.fresh(I:Inv X pins σ H s):H s.heap.objs.size=none:=I.hok.fresh (Ze _)
theorem Inv.lstM(I:Inv X pins σ H s)(hH:H l=some (.lst xs)):xs.length<=sizeLine/\∃ (its:List Value) (n:Nat),aJ xs its/\xs.length=its.length/\s.heap.get? l=some { cls:=.type "list", data:=.seq its.toArray n }:=by
 obtain⟨z,its,n,r,e⟩:=I.hok l _ hH;exact⟨z,its,n,r,r.length,e⟩
theorem yE{n:Nat}(h:n<=sizeLine):Builtin.List.listTooLong n=false:=by
 unfold Builtin.List.listTooLong;exact decide_eq_false (by lia)
end
section
variable {X:Cx}
def Cn:V->List V->Hp->VK->Prop:=fun x vs H Q=>∃l xs y,x = .ref l/\vs=[y]/\H l=some (.lst xs)/\xs.length < sizeLine/\Q .non (upd H l (.lst (xs++[y])))
theorem m6:MtM X "list.append" Cn:=by
 intro pins s σ H x vs v us Q I rx rv h;obtain⟨l,xs,y,rfl,rfl,hH,hz,q⟩:=h;cases rx;obtain⟨u,rfl,ru⟩:=rv.one;obtain⟨z,its,n,r,hl,e⟩:=I.lstM hH;refine Vv Wx ⟨_,e,rfl⟩ F.entry_list_append (F.args_list_append_2 _ _) (PySem.list_append l its.toArray n u (by rw[Zl];lia)) ⟨e,?_⟩;refine⟨.non,_,I.lset (its':=its++[u]) hH e (by simp) (r.append (.cons ru .nil)) ?_,rfl,q⟩;rw[Zh,ZM]
 lia
def Hl:V->List V->Hp->VK->Prop:=fun x vs H Q=>∃l xs i k y,x = .ref l/\vs=[.int i]/\H l=some (.lst xs)/\-(2 ^ 63)<=i/\i < 2 ^ 63/\seqIndex? i xs.length=some k/\xs[k]?=some y/\Q y (upd H l (.lst (xs.eraseIdx k)))
theorem yF:MtM X "list.pop" Hl:=by
 intro pins s σ H x vs v us Q I rx rv h;obtain⟨l,xs,i,k,y,rfl,rfl,hH,h1,h2,hk,hy,q⟩:=h;cases rx;obtain⟨u,rfl,ru⟩:=rv.one;obtain⟨t,rfl⟩:=ru;obtain⟨z,its,n,r,hl,e⟩:=I.lstM hH;obtain⟨w,hw,rw'⟩:=r.get hy
 refine Vv WC ⟨_,e,rfl⟩ F.entry_list_pop (F.args_list_pop_2 _ _)
  (MeetsSeq.list_pop_at l its.toArray n i t k w (fitsIndex_both h1 h2) (by rw[Zl,<-hl];exact hk) (by rw[<-Array.getElem?_toList];exact hw) (by rw[Zl];lia)) ⟨e,?_⟩
 refine⟨y,_,I.lset (its':=its.eraseIdx k) hH e ?_ (r.eraseIdx k) ?_,rw',q⟩
 ·show its.toArray.eraseIdxIfInBounds k=(its.eraseIdx k).toArray;rw[List.eraseIdxIfInBounds_toArray]
 ·have:=mY xs k
  lia
def OO:R2:=fun x y H Q=>∃l b xs zs,x = .ref l/\y = .ref b/\H l=some (.lst xs)/\H b=some (.lst zs)/\xs.length+zs.length<=sizeLine/\∀p,H p=none->Q (.ref p) (upd H p (.lst (xs++zs)))
theorem sE:OpR X (Vr .Add) OO:=by
 intro pins s σ H x y v u Q I rx ry h;obtain⟨l,b,xs,zs,rfl,rfl,hH,hB,hz,q⟩:=h;cases rx;cases ry;obtain⟨z,its,n,r,hl,e⟩:=I.lstM hH;obtain⟨z2,its2,n2,r2,hl2,e2⟩:=I.lstM hB;refine PySem.P.add_list e e2 ?_ (by rw[Zl,Zl];lia);have ea:its.toArray++its2.toArray=(its++its2).toArray:=by simp
 rw[ea];exact⟨.ref _,_,I.lnew (t':=s.toks) (r.append r2) (by rw[Zh];lia),rfl,q _ I.fresh⟩
def OP:R2:=fun x y H Q=>∃l k xs,x = .ref l/\y = .int k/\H l=some (.lst xs)/\-(2 ^ 63)<=k/\k < 2 ^ 63/\xs.length * k.toNat<=sizeLine ∧
 ∀p,H p=none->Q (.ref p) (upd H p (.lst (Zo k.toNat xs).flatten))
theorem Co{α:Type}(xs:List α)(k:Nat):(Zo k xs).flatten.length=k * xs.length:=by
 induction k with
 |zero=>simp
 |succ k ih=>rw[Z4,Ym,Zh,ih,Wb,Nat.add_comm]
theorem Hm:OpR X (Vr .Mult) OP:=by
 intro pins s σ H x y v u Q I rx ry h;obtain⟨l,k,xs,rfl,rfl,hH,h1,h2,hz,q⟩:=h;cases rx;obtain⟨t,rfl⟩:=ry;obtain⟨z,its,n,r,hl,e⟩:=I.lstM hH;have hlen:its.toArray.size * k.toNat<=sizeLine:=by rw[Zl,<-hl];exact hz
 have hcap:¬ its.toArray.size * k.toNat > (2 ^ 63 - 1) / 8:=by
  have:(sizeLine:Nat)<=(2 ^ 63 - 1) / 8:=by decide
  lia
 have hfit:¬ (!Builtin.List.listFitsIndex k)=true:=by
  rw[fitsIndex_both h1 h2];exact Zd
 have hlong:¬ Builtin.List.listTooLong (its.toArray.size * k.toNat)=true:=by
  rw[yE hlen];exact Zd
 have hnew:X4 (fun x1 x2=>x1++x2) #[] (Zo (if its.toArray.isEmpty=true then 0 else k.toNat) its.toArray)=(Zo k.toNat its).flatten.toArray:=by
  have f0:∀m:Nat,X4 (fun x1 x2=>x1++x2) #[] (Zo m its.toArray)=(Zo m its).flatten.toArray:=fun m=>by
   have:=mZ its m [];rw[XX] at this;exact this
  rw[f0];cases its with
  |nil=>simp
  |cons a r'=>rw[if_neg (by simp)]
 refine wpAny_binaryOp_repeat_ref (T := "list") (U := "int") (by decide) ⟨_,e,rfl⟩ (fun s'=>typeIs_int s' k t) noFill_list_mul F.fills_int_mul F.slot_int_rmul repeat_list F.slot_int_index.lookup
  (Vv F.slot_int_rmul (typeIs_int s k t) F.entry_int_rmul (F.args_int_rmul_2 _ _) (int___rmul___int_list k t l its.toArray n)
   ⟨e,rfl,⟨_,e,rfl⟩,Vv F.slot_list_mul ⟨_,e,rfl⟩ F.entry_list_mul (F.args_list_mul_2 _ _) (AutoListH.list___mul___list_int_3 l its.toArray n k t hfit hcap hlong) ⟨e,?_⟩⟩)
 rw[hnew];exact⟨.ref _,_,I.lnew (t':=s.toks) (r.rep k.toNat) (by rw[Co,Nat.mul_comm];exact hz),rfl,q _ I.fresh⟩
end
end L2
namespace Att
open PySem PySem.W PySem.Calls PyProof.Rows
theorem jO:∀ (ns:List Int) (vs:List Value),WellAll P h vs (ns.map WData.int)->IntsAre vs ns:=by
 intro ns
 induction ns with
 |nil=>
  intro vs w;rw[Z9] at w;cases w;exact .nil
 |cons n ns ih=>
  intro vs w;rw[Zx] at w;cases w with
  |cons a b=>
   cases a;exact .cons _ _ (ih _ b)
theorem wq{l:OpenLaw}{n:Nat}(hn:l.most=some n){P:Params}{h:Heap}{args:List WData}{vals:List Value}
  (hpre:l.row.toRowW.claim.pre args=true) (hwl:WellAll P h vals args) :
  ∃a vs ns,vals=[Value.ref a]/\args=[WData.list (ns.map WData.int)]/\h.get? a=some { cls:=.type "list", data:=.seq vs.toArray }/\IntsAre vs ns/\ns.length<=n:=by
 have hsh:WShape.hasAll [] args [.list .int]=true:=(pre_splitW hpre).1;have hc:l.pre.holds [] { args:=args }=true:=(pre_splitW hpre).2;obtain⟨d,r,rfl,h1,h2⟩:=hasAllW_cons hsh;obtain rfl:=hasAllW_nil h2;obtain⟨xs,rfl,h3⟩:=hasW_list h1;obtain⟨ns,rfl⟩:=items_int h3
 have hlen:ns.length<=n:=by
  unfold OpenLaw.pre at hc
  have h4:(WTm.not (.lt (.lit (.int (n:Int))) (.len (.arg 0)))).holds [] { args:=[.list (ns.map .int)] }=true:=by
   have h4:=(holds_andW hc).1;rw[hn] at h4;exact h4
  have h5:=condW_of h4 (w_not (w_lt w_lit (w_len_list (w_arg rfl))));rw[Za] at h5;refine Nat.le_of_not_lt fun q=>?_;have q':(n:Int) < ((ns.length:Nat):Int):=by lia
  first
   |(rw[decide_eq_true q'] at h5;exact absurd h5 (by decide))
   |(simp at h5;lia)
 cases hwl with
 |cons w1 w2=>
  cases w2;cases w1 with
  |list ho hall=>exact⟨_,_,ns,rfl,rfl,ho,jO ns _ hall,hlen⟩
theorem wr(l:OpenLaw)(args:List WData):l.row.toRowW.claim.post args (.bool true) args=true:=
 postW_of (r:=l.row.toRowW) (X:=(true == true))
  (show WShape.has [] (.bool true) .bool=true by first |rfl |decide |simp[WShape.has,WShape.arms,WShape.armsAll])
  (show(WTm.eq .res (.lit (.bool true))).value [] { args:=args,res:=some (.bool true),after:=args }=some (.bool (true == true)) from w_eq_bool (w_res rfl) w_lit) rfl
theorem attach_call{l:OpenLaw}{n:Nat}{q:Program}{loose:List Str}{XP:(Str->Option Value)->Heap->Prop}{YP:World->Heap->Prop}{d:DefRec}
  (hn:l.most=some n) (hdf:d.params.defaults=[])
  (call:∀ (w:World) (s₀ s₁:Shared) (mg mb:Str->Option Value) (fa:Addr) (o:Obj) (pm cd doc:Value) (a:Addr) (vs:List Value) (ns:List Int),
   Ground q loose [] XP w s₀ mg mb s₁.heap->YP w s₁.heap ->
   s₁.heap.get? fa=some o->o.data = .func (docDef d.name d.params d.body d.scope pm cd doc)->s₁.heap.CodeRec cd d.name->mg d.name=some (.ref fa) ->
   s₁.heap.get? a=some { cls:=.type "list", data:=.seq vs.toArray }->IntsAre vs ns->ns.length<=n->s₁.gens=#[] ->
   codeAny (model l.prog w) callerA (.call (.ref fa) ⟨[.ref a],[]⟩) (fun r s'=>r = .ok (.ret (.bool true))/\OldK s₁.heap s'.heap/\s'.os=s₁.os/\AllBare s'.gens) s₁) :
  WalkO q loose XP YP l.row.toRowW d [] (fun f vs=>PySem.call f vs):=by
 intro w s₀ s₁ mg mb G Y fa o pm cd doc dV kV ho hd hcd hD hmg hg args vals as hpre hlay hrd hwl hlo;obtain rfl:dV = .none:=Dflts.none hD hdf;obtain rfl:kV = .none:=Dflts.noKw hD;obtain⟨a,vs,ns,rfl,rfl,hobj,hints,hlen⟩:=wq hn hpre hwl;refine enter_call (Vz (call w s₀ s₁ mg mb fa o pm cd doc a vs ns G Y ho (fd_plain hd) hcd hmg hobj hints hlen hg) fun r s' hq=>?_);obtain⟨rfl,h2,h3,h4⟩:=hq;exact⟨.inl ⟨.bool true,.bool true,[],rfl,fun _=>rfl,.bool true,wr l _,fun _=>⟨List.Pairwise.nil,fun _ hm=>(nomatch hm)⟩⟩,h2,h3,h4⟩
end Att
namespace L2
open PySem PySem.Spec PyProof.Rows
theorem iM:∀ {vs:List Value} {ns:List Int},IntsAre vs ns->aJ (ns.map V.int) vs
 |_,_,.nil=>.nil
 |_,_,.cons n t h=>.cons ⟨t,rfl⟩ (iM h)
def L8(H:Hp):Prop:=∀b,H b=none\/∃o xs,H b=some (.frz o (.lst xs))
theorem yG{P:Program}{w:World}{K:W0}{mg mb:Str->Option Value}{CX:CXT}{k:Nat}{fa a:Addr}{fd:WH}{x:Str}{sp:Sp}{s₁:Shared}{vs:List Value}{ns:List Int}
  (KX:K.In s₁.heap) (hns:s₁.heap.Ns VL mg) (hb:s₁.heap.Ns Vu mb) (hbb:∀x:Str,x ≠ "__name__"->mb x=Vt x) (hlim:s₁.heap.NoLimit) (hg:s₁.gens=#[])
  (ha:s₁.heap.get? a=some { cls:=.type "list", data:=.seq vs.toArray }) (hi:IntsAre vs ns) (hl:ns.length<=sizeLine) (hr:Room k callerA)
  (F:∀base:Heap,K.In base->base.Ns VL mg->FnOk P w K mg base CX k fa fd [x] sp) (hbind:∀ (s:Shared) (u:Value),BindsTo s fd ⟨[u],[]⟩ [(x,u)])
  (hsp:∀H:Hp,L8 H->SqL K H a (ns.map V.int)->sp [.ref a] H (fun v _=>v = .bl true) fun _ _ _=>False)
  (hCX:∀H e s',CX [] H s₁ (fun _ _ _=>False) e s'->False) :
  codeAny (model P w) callerA (.call (.ref fa) ⟨[.ref a],[]⟩) (fun r s'=>r = .ok (.ret (.bool true))/\OldK s₁.heap s'.heap/\s'.os=s₁.os/\AllBare s'.gens) s₁:=by
 have rv:=iM hi;have lenV:=hi.length
 have core:∀H:Hp,L8 H->SqL K H a (ns.map V.int)->HOk P w H s₁.heap->(∀b,H b ≠ none->b=a)->(H a ≠ none->K.lookup a=none) ->
   codeAny (model P w) callerA (.call (.ref fa) ⟨[.ref a],[]⟩) (fun r s'=>r = .ok (.ret (.bool true))/\OldK s₁.heap s'.heap/\s'.os=s₁.os/\AllBare s'.gens) s₁:=by
  intro H hO hS hok hA hK;have base_of:∀ {b:Addr} {o:Obj},s₁.heap.get? b=some o->H b=none->(oD s₁.heap H).get? b=some o:=fun e n=>yf e n
  have noA:∀ {b:Addr} {o:Obj} {es:Array DictEntry} {ep:Nat},s₁.heap.get? b=some o->o.data = .dict es ep->H b=none:=fun {b o es ep} e d=>by
   cases q:H b with
   |none=>rfl
   |some u=>
    have e':b=a:=hA b (by rw[q];simp);subst e';rw[ha] at e;cases e;have d':Data.seq vs.toArray _=Data.dict es ep:=d;cases d'
  have nsK:∀ {b:Addr} {m:Str->Option Value},s₁.heap.Ns b m->(oD s₁.heap H).Ns b m:=fun {b m} ⟨o,es,ep,e,d,r⟩=>⟨o,es,ep,base_of e (noA e d),d,r⟩
  have hKb:K.In (oD s₁.heap H):=fun b o e=>base_of (KX b o e) (by
   cases q:H b with
   |none=>rfl
   |some u=>
    have e':b=a:=hA b (by rw[q];simp);subst e';rw[hK (by rw[q];simp)] at e;cases e)
  have hM:Mod K mg (oD s₁.heap H):=⟨hKb,nsK hns,⟨mb,nsK hb,hbb⟩,let ⟨mc,h1,h2⟩:=hlim;⟨mc,nsK h1,h2⟩⟩;have e0:Env0 P w K mg (oD s₁.heap H) callerA [] s₁ H:=⟨rfl,hM,fun b o e=>B4 e,Nat.le_of_eq (v8 _ _),trivial,fun b hb=>absurd (show b ∈ ([]:List Addr) from hb) (by simp),hok,.of_eq hg⟩;refine Vz ((F _ hKb (nsK hns)).run callerA [] s₁ H ⟨[.ref a],[]⟩ [.ref a] [.ref a] _ _ hr e0 (hbind s₁ (.ref a)) (.cons rfl .nil) (hsp H hO hS)) fun r s' h=>?_;cases r with
  |error e=>exact(hCX H e s' h).elim
  |ok fl=>
   cases fl with
   |next=>exact False.elim h
   |brk=>exact False.elim h
   |cont=>exact False.elim h
   |ret u=>
    obtain⟨v,H',os,bare,un,hok',r',q⟩:=h;have q':v = .bl true:=q;subst q';obtain rfl:u=Value.bool true:=r';refine⟨rfl,OldK.of_keep fun b o e=>?_,os,bare⟩;cases q:H b with
    |none=>exact un.keep b o e q (by intro z;exact absurd (show b ∈ ([]:List Addr) from z) (by simp)) (by simp)
    |some u=>
     rcases hO b with z |⟨ob,xs,z⟩
     ·rw[q] at z;cases z
     ·have z2:=un.frzs b ob _ z;obtain⟨e1,_⟩:=hok b _ z;obtain⟨e2,_⟩:=hok' b _ z2;rw[e] at e1;cases e1;exact e2
 cases hk:K.lookup a with
 |some o=>
  have e:=KX a o hk;rw[ha] at e;cases e;refine core (fun _=>none) (fun _=>.inl rfl) (.inr ⟨_,vs.toArray,_,hk,rfl,rfl,rfl,by rw[Zl,lenV];exact hl,by simpa using rv⟩) (fun b u z=>by have z':(none:Option HO)=some u:=z;cases z') (fun b z=>absurd rfl z) fun z=>absurd rfl z
 |none=>
  refine core (fun b=>if b=a then some (.frz { cls:=.type "list", data:=.seq vs.toArray } (.lst (ns.map V.int))) else none) (fun b=>?_) (.inl (.inr ⟨{ cls:=.type "list", data:=.seq vs.toArray },if_pos rfl⟩)) (fun b u z=>?_) (fun b z=>?_) fun _=>hk
  ·by_cases hb:b=a
   ·exact .inr ⟨_,_,if_pos hb⟩
   ·exact .inl (if_neg hb)
  ·by_cases hb:b=a
   ·have z':=(if_pos hb).symm.trans z;cases z';subst hb;exact⟨ha,by rw[Za];exact hl,vs,_,rv,ha⟩
   ·have z':=(if_neg hb).symm.trans z;cases z'
  ·by_cases hb:b=a
   ·exact hb
   ·exact absurd (if_neg hb) z
abbrev CX0:CXT:=fun _ _ _ _ _ _=>False
abbrev E0:XK:=fun _ _ _=>False
structure Fun(K:W0)(x qual:Str)(st:Stmt)(f:Addr)(fd:WH):Prop where
 ex:∃ (oc:Value) (od:Option Addr) (kV doc pm:Value) (an:Option Addr) (cdv ct:Value) (osl:Array (Option Value)),
  fd=W7 x qual (ei st) (bc st) (aq st) .none kV doc pm an cdv ct/\K.lookup f=some ⟨oc,od,.func fd,osl⟩/\W4 K cdv qual=true
 kp:Vb K (.ref f)=true
section
variable {P:Program} {w:World} {K:W0} {mg:Str->Option Value} {base:Heap}
theorem Fun.binds{x qual:Str}{st:Stmt}{f:Addr}{fd:WH}{ps:List Str}(F:Fun K x qual st f fd)
  (h:∀ (kV doc pm:Value) (an:Option Addr) (cdv ct:Value) (us:List Value),us.length=ps.length->bindArgs (W7 x qual (ei st) (bc st) (aq st) .none kV doc pm an cdv ct) ⟨us,[]⟩=pure (ps.zip us)):eR K fd ps []:=by
 obtain⟨oc,od,kV,doc,pm,an,cdv,ct,osl,rfl,lk,hcd⟩:=F.ex;exact .all (h kV doc pm an cdv ct)
theorem Hn{x qual:Str}{st:Stmt}{f:Addr}{oc:Value}{od an:Option Addr}{osl:Array (Option Value)}{kV doc pm cdv ct:Value}(l:K.lookup f=some ⟨oc,od,.func (W7 x qual (ei st) (bc st) (aq st) .none kV doc pm an cdv ct),osl⟩)
  (c:W4 K cdv qual=true) (k:Vb K (.ref f)=true):Fun K x qual st f (W7 x qual (ei st) (bc st) (aq st) .none kV doc pm an cdv ct):=⟨⟨oc,od,kV,doc,pm,an,cdv,ct,osl,rfl,l,c⟩,k⟩
end
theorem wt{n:Nat}(h:n<=1000):n < sizeLine:=Nat.lt_of_le_of_lt h (by decide)
noncomputable def oT(ifs:List Expr)(env:Env):Sem Bool:=
 forIn ifs true fun c r=>if r=true then do let ok <-isTrue c env (eval c env);pure (ForInStep.yield ok) else pure (ForInStep.yield r)
theorem Cp{d:Nat}
  (hg:gens[d]?=some ⟨tg,iter,ifs,0⟩)
  (h:wpAny M A (pyNext it) (fun r s1=>match r with
   |none=>Q (.done .next) s1
   | some v=>wpAny M A (VI tg it v) (fun _ s2=>wpAny M A (assign tg env v) (fun _ s3=>wpAny M A (oT ifs env) (fun ok s4=>if ok=true then (match gens[d+1]? with
     |none=>wpAny M A (eval elt env) (fun x s5=>wpAny M A (call (.builtin "list.append") [acc,x]) (fun _ s6=>Q (.again (.compLoop (.ListComp elt gens scope pos) d it acc env)) s6) E s5) E s4
     | some g'=>g'.is_async=0/\wpAny M A (eval g'.iter env) (fun x s5=>wpAny M A (VE g'.iter env x) (fun x' s6=>wpAny M A (pyIter x') (fun it' s7=>
       wpAny M A (runOwn (.compStart (.ListComp elt gens scope pos) (d+1) it' acc env) env) (fun _ s8=>Q (.again (.compLoop (.ListComp elt gens scope pos) d it acc env)) s8) E s7) E s6) E s5) E s4)
    else Q (.again (.compLoop (.ListComp elt gens scope pos) d it acc env)) s4) E s3) E s2) E s1) E s) :
  wpAny M A (compTurn (.ListComp elt gens scope pos) d it acc env) Q E s:=by
 unfold compTurn;simp only[hg];refine Ua (Uz ?_);show wpAny M A (pyNext it >>= _) Q E s;refine Ua (Uo h (fun r s1 h1=>?_) fun _ _ x=>x);cases r with
 |none=>exact Us h1
 |some v=>
  refine Ua (Uo h1 (fun _ s2 h2=>?_) fun _ _ x=>x);refine Ua (Uo h2 (fun _ s3 h3=>?_) fun _ _ x=>x);refine Ua (Uo h3 (fun ok s4 h4=>?_) fun _ _ x=>x);cases ok with
  |false=>exact Us h4
  |true=>
   simp only[if_true] at h4 ⊢;cases hn:gens[d+1]? with
   |none=>
    rw[hn] at h4;refine Ua (Ua (Uo h4 (fun x s5 h5=>?_) fun _ _ x=>x));exact Ua (Uo h5 (fun _ s6 h6=>Us (Us h6)) fun _ _ x=>x)
   |some g'=>
    rw[hn] at h4;obtain⟨ha,h4⟩:=h4;refine Ua (Uo h4 (fun x s5 h5=>Ua (Uz ?_)) fun _ _ x=>x);rw[ha];show wpAny M A (VE g'.iter env x >>= _) Q E s5;refine Ua (Uo h5 (fun x' s6 h6=>?_) fun _ _ x=>x);refine Ua (Ui (Uo h6 (fun it' s7 h7=>?_) fun _ _ x=>x));exact Ua (Uo h7 (fun _ s8 h8=>Us h8) fun _ _ x=>x)
noncomputable def bQ(cells:List (Str × Addr)):List (Str × WJ)->List (Str × Addr)->List (Str × Addr)
 |[],acc=>acc
 |(n,k)::r,acc=>if k == .free then bQ cells r ((n,(cells.lookup n).getD 0)::acc) else bQ cells r acc
theorem gG:∀ (names:List (Str × WJ)) (acc:List (Str × Addr)),(∀y ∈ names,y.2 = .free->∃c,env.cells.lookup y.1=some c) ->
  (forIn names acc fun(x:Str × WJ) (cs:List (Str × Addr))=>(match x with |(name,kind)=>if kind == .free then (do let a <-cellOf env name;pure (ForInStep.yield ((name,a)::cs))) else pure (ForInStep.yield cs):Sem (ForInStep (List (Str × Addr)))))
   = (pure (bQ env.cells names acc):Sem (List (Str × Addr)))
 |[],acc,_=>by rw[YO];rfl
 |(n,k)::r,acc,h=>by
  rw[XY];have hr:∀y ∈ r,y.2 = .free->∃c,env.cells.lookup y.1=some c:=fun y hy=>h y (Zg _ hy);cases hk:(k == NameKind.free) with
  |true=>
   obtain⟨c,hc⟩:=h (n,k) Zi (by simpa using hk);have e:cellOf env n=pure c:=by unfold cellOf;rw[show env.cells.lookup n=some c from hc]
   simp only[hk,if_true,e,pure_bind];rw[gG r _ hr]
   conv=>rhs;rw[bQ]
   simp only[hk,if_true];rw[show env.cells.lookup n=some c from hc];rfl
  |false=>
   simp only[hk,Z6,if_false,pure_bind];rw[gG r _ hr]
   conv=>rhs;rw[bQ]
   simp only[hk,Z6,if_false]
theorem uL(h:∀y ∈ scope.names,y.2 = .free->∃c,env.cells.lookup y.1=some c):closureFor scope env=pure (bQ env.cells scope.names []):=by
 have e:=gG (env:=env) scope.names [] h;unfold closureFor;refine Eq.trans ?_ e
 first
  |rfl
  |(rw[bind_pure])
  |(simp only[bind_pure])
theorem iO:∀ {names:List (Str × WJ)} {acc:List (Str × Addr)} {x:Str} {c:Addr},(x,c) ∈ bQ cells names acc->(x,c) ∈ acc\/((x,NameKind.free) ∈ names/\c=(cells.lookup x).getD 0)
 |[],_,_,_,h=>.inl h
 |(n,k)::r,acc,x,c,h=>by
  unfold bQ at h;split at h
  ·rename_i hk;have hk':k = .free:=by simpa using hk
   rcases iO h with e |⟨e,q⟩
   ·rcases Zm.mp e with e |e
    ·cases e;exact .inr ⟨by rw[hk'];exact Zi,rfl⟩
    ·exact .inl e
   ·exact .inr ⟨Zg _ e,q⟩
  ·rcases iO h with e |⟨e,q⟩
   ·exact .inl e
   ·exact .inr ⟨Zg _ e,q⟩
theorem fg:∀ {l:List (Str × Addr)},(∃c,(x,c) ∈ l)->∃c,l.lookup x=some c
 |[],⟨_,h⟩=>nomatch h
 |(n,c)::r,⟨c',h⟩=>by
  rw[ZQ];cases hb:x == n with
  |true=>exact⟨c,rfl⟩
  |false=>
   rcases Zm.mp h with e |e
   ·cases e;simp at hb
   ·exact fg ⟨c',e⟩
theorem fY:∀ {names:List (Str × WJ)} {acc:List (Str × Addr)},(x,NameKind.free) ∈ names\/(∃c,(x,c) ∈ acc)->∃c,(x,c) ∈ bQ cells names acc
 |[],_,h=>h.elim (fun e=>nomatch e) id
 |(n,k)::r,acc,h=>by
  unfold bQ;split
  ·rename_i hk;refine fY ?_;rcases h with h |⟨c,h⟩
   ·rcases Zm.mp h with e |e
    ·cases e;exact .inr ⟨_,Zi⟩
    ·exact .inl e
   ·exact .inr ⟨c,Zg _ h⟩
  ·rename_i hk;refine fY ?_;rcases h with h |⟨c,h⟩
   ·rcases Zm.mp h with e |e
    ·cases e;exact absurd rfl hk
    ·exact .inl e
   ·exact .inr ⟨c,h⟩
theorem ce:∀ (names:List (Str × WJ)) (n:Nat) (acc:List (Str × Addr)),Vw n names acc=Vw n names []++acc
 |[],_,_=>rfl
 |(y,k)::r,n,acc=>by
  unfold Vw;split
  ·rw[ce r (n+1) ((y,n)::acc),ce r (n+1) [(y,n)],Yd];rfl
  ·exact ce r n acc
theorem dk:∀ (names:List (Str × WJ)) (n:Nat) (acc:List (Str × Addr)) (x:Str) (c:Addr),(x,c) ∈ Vw n names acc->(x,c) ∈ acc\/(x,NameKind.cell) ∈ names
 |[],_,_,_,_,h=>.inl h
 |(y,k)::r,n,acc,x,c,h=>by
  unfold Vw at h;split at h
  ·rename_i hk;have hk':k = .cell:=by simpa using hk
   rcases dk r _ _ x c h with e |e
   ·rcases Zm.mp e with e |e
    ·cases e;exact .inr (by rw[hk'];exact Zi)
    ·exact .inl e
   ·exact .inr (Zg _ e)
  ·rcases dk r _ _ x c h with e |e
   ·exact .inl e
   ·exact .inr (Zg _ e)
noncomputable def mH(sc:Scope)(n:Str)(k:WJ):WJ:=if (k == .free && sc.kind == .function && sc.names.lookup n == some .cell) then .cell else k
noncomputable def fh(scope sc:Scope):Scope:={ scope with names:=scope.names.map fun y=>(y.1,mH sc y.1 y.2) }
theorem Cq(scope:Scope)(env:Env):relabel scope env=fh scope env.scope:=by
 unfold relabel fh
 congr 1
 refine YN fun y _=>?_;obtain⟨n,k⟩:=y;unfold mH;dsimp only;show(if (k == NameKind.free && env.scope.kind == ScopeKind.function && Xg n env.scope.names == some NameKind.cell)=true then (n,NameKind.cell) else (n,k))=_;split <;> rfl
theorem fj(sc:Scope)(x:Str):∀names:List (Str × WJ),(names.map fun y=>(y.1,mH sc y.1 y.2)).lookup x=(names.lookup x).map (mH sc x)
 |[]=>rfl
 |(n,k)::r=>by
  rw[Zx,ZQ,ZQ];dsimp only;cases hb:x == n with
  |true=>
   have q:x=n:=by simpa using hb
   subst q;rfl
  |false=>exact fj sc x r
noncomputable def sF(scope:Scope)(C:Addr)(env:Env):Env:=
 { scope:=fh scope env.scope,locals:=C,globals:=env.globals,cells:=Vw (C+1) scope.names (bQ env.cells scope.names []),qual:=env.qual,func:=none,code:=env.code,frame:=env.frame,builtins:=env.builtins }
theorem wu
  (h:Q { scope:=scope,locals:=s.heap.objs.size,globals:=env.globals,cells:=Vw (s.heap.objs.size+1) scope.names cl,qual:=env.qual,func:=none,code:=env.code,frame:=env.frame,builtins:=env.builtins }
   { s with heap:=VR (s.heap.push { cls:=.type "dict", data:=.dict #[] }) scope.names }) :
  wpAny M A (VN scope env.globals cl [] env.qual none .none (some env)) Q E s:=by
 simp only[VN,Option.isSome_some,if_true];refine Ua (wpAny_alloc ?_);refine Ua (wpAny_layCells _ (fun name kind cells=>by cases hkc:kind == NameKind.cell <;> simp[hkc]) _ _ _ _ ?_);rw[show({ s with heap:=s.heap.push { cls:=.type "dict", data:=.dict #[] } }:Shared).heap.objs.size=s.heap.objs.size+1 from YA ..];simp only[YO]
 first
  |exact Ua (Us (Us h))
  |exact Us h
noncomputable def yH(i:Nat):Str:=⟨#[i]⟩
noncomputable def cP:List Nat->List Str->List Str
 |[],N=>N
 |i::hs,N=>cP hs (N.set i (yH i))
theorem iP:∀ (hs:List Nat) (N:List Str),(cP hs N).length=N.length
 |[],_=>rfl
 |i::hs,N=>by rw[cP,iP hs,Yg]
theorem m7:∀ (hs:List Nat) (N:List Str) {i:Nat} {x:Str},(cP hs N)[i]?=some x->N[i]?=some x\/∃j ∈ hs,x=yH j
 |[],_,_,_,h=>.inl h
 |k::hs,N,i,x,h=>by
  rw[cP] at h;rcases m7 hs (N.set k (yH k)) h with e |⟨j,hj,e⟩
  ·rw[Yz] at e;split at e
   ·split at e
    ·exact .inr ⟨k,Zi,(Option.some.inj e).symm⟩
    ·cases e
   ·exact .inl e
  ·exact .inr ⟨j,Zg _ hj,e⟩
structure CmScope(own:List Str)(hs:List Nat)(N:List Str)(scope sc:Scope):Prop where
 kind:scope.kind = .function
 nd:(cP hs N++own).Nodup
 uniq:(scope.names.map (·.1)).Nodup
 dis:∀x ∈ cP hs N,scope.names.lookup x ≠ some .local/\scope.names.lookup x ≠ some .cell
 fr:∀y ∈ scope.names,y.2 = .free->sc.names.lookup y.1=some .cell\/sc.names.lookup y.1=some .free
 hd:∀i ∈ hs,scope.names.lookup (yH i)=none
theorem cN:∀ {l:List (Str × WJ)} {x:Str} {k:WJ},(l.map (·.1)).Nodup->(x,k) ∈ l->l.lookup x=some k
 |(n,k')::r,x,k,nd,h=>by
  rw[Zx,Ye] at nd;rw[ZQ];rcases Zm.mp h with e |e
  ·cases e;simp
  ·have ne:(x == n)=false:=by
    cases hb:x == n with
    |false=>rfl
    |true=>
     have q:x=n:=by simpa using hb
     subst q;exact absurd (ZH.mpr ⟨(x,k),e,rfl⟩) nd.1
   rw[ne];exact cN nd.2 e
noncomputable def cxC(X:Cx)(own:List Str)(hs:List Nat)(scope:Scope)(C:Addr)(ex:List Addr)(s:Shared)(H:Hp):Cx where
 prog:=X.prog
 w:=X.w
 K:=X.K
 mg:=X.mg
 base:=X.base
 A:=X.A
 N:=cP hs X.N++own
 s₀:=s
 H₀:=H
 env:=sF scope C X.env
 outer:=X.stack
 stack:=X.stack
 ex:=ex
 fn:=fun x=>scope.names.lookup x == some .cell
 calm:=X.calm
 pn:=[]
 xe:=fun _ _=>False
section
variable {X:Cx} {pins:List (Addr × Obj)} {σ:St} {H:Hp} {s:Shared} {own:List Str} {hs:List Nat} {scope:Scope} {fp:List Addr}
theorem Inv.compStart(I:Inv X pins σ H s)(S:CmScope own hs X.N scope X.env.scope)(hf:∀b ∈ fp,gq X pins H b)(hfo:∀b ∈ fp,b < s.heap.objs.size) :
  Inv (cxC X own hs scope s.heap.objs.size fp s H) [] (σ++Zo own.length none) H { s with heap:=VR (s.heap.push { cls:=.type "dict", data:=.dict #[] }) scope.names }:=by
 have keep:∀b o,s.heap.get? b=some o->(VR (s.heap.push { cls:=.type "dict", data:=.dict #[] }) scope.names).get? b=some o:=fun b o e=>VS _ _ b o (Zk _ e);have ok:=cellsFrom_ok scope.names (s.heap.push { cls:=.type "dict", data:=.dict #[] }) (s.heap.objs.size+1) [] ⟨fun _ _ hm=>(nomatch hm),List.Pairwise.nil⟩ (by rw[YA];exact Ze _);rw[YA] at ok;have cells:(sF scope s.heap.objs.size X.env).cells=Vw (s.heap.objs.size+1) scope.names []++bQ X.env.cells scope.names []:=ce _ _ _;have hasX:∀x,(x,NameKind.free) ∈ scope.names->∃c,X.env.cells.lookup x=some c:=fun x h=>I.ok.has x (S.fr (x,.free) h rfl)
 have old:∀x c,(x,c) ∈ bQ X.env.cells scope.names []->X.env.cells.lookup x=some c/\(x,NameKind.free) ∈ scope.names:=fun x c h=>by
  rcases iO h with e |⟨e,q⟩
  ·exact nomatch e
  ·obtain⟨c',hc⟩:=hasX x e;rw[hc] at q;exact⟨by rw[hc,q];rfl,e⟩
 have oldlt:∀x c,X.env.cells.lookup x=some c->c < s.heap.objs.size:=fun x c h=>let ⟨_,z⟩:=I.cell x c h;z.lt
 have which:∀x c,(sF scope s.heap.objs.size X.env).cells.lookup x=some c->((x,c) ∈ Vw (s.heap.objs.size+1) scope.names [])\/(X.env.cells.lookup x=some c/\(x,NameKind.free) ∈ scope.names):=fun x c h=>by
  have m:=VM h;rw[cells] at m;rcases Zy.mp m with e |e
  ·exact .inl e
  ·exact .inr (old x c e)
 have neu:∀x c,(x,c) ∈ Vw (s.heap.objs.size+1) scope.names []->s.heap.objs.size+1<=c:=fun x c h=>(ok.empty x c h).2
 have noFs:∀b ∈ fp,b ∉ frs X.stack:=fun b hb z=>by
  rcases Zm.mp (I.stkSub b z) with e |e
  ·exact(hf b hb).2.1 e
  ·exact(hf b hb).2.2.1 e
 have xok:(cxC X own hs scope s.heap.objs.size fp s H).Ok:=by
  refine⟨I.ok.mod,S.kind,I.ok.glob,I.ok.blt,Ze _,?_,?_,?_,I.ok.hd,I.ok.frames,.inl rfl,?_,I.bs,ZF I.ok.bsz I.sz,?_,noFs,I.stack,I.stkFree⟩
  ·intro x y c h1 h2;rcases which x c h1 with a |⟨a,_⟩ <;> rcases which y c h2 with b |⟨b,_⟩
   ·exact name_of_addr ok.apart a b
   ·exact absurd (Zu (oldlt y c b) (YU (neu x c a))) (ZO _)
   ·exact absurd (Zu (oldlt x c a) (YU (neu y c b))) (ZO _)
   ·exact I.ok.inj x y c a b
  ·intro x hx;have hx':(fh scope X.env.scope).names.lookup x=some .cell\/(fh scope X.env.scope).names.lookup x=some .free:=hx;have e:=fj X.env.scope x scope.names
   have key:(x,NameKind.cell) ∈ scope.names\/(x,NameKind.free) ∈ scope.names:=by
    cases hl:scope.names.lookup x with
    |none=>rw[hl] at e;rcases hx' with z |z <;> (rw[show(fh scope X.env.scope).names.lookup x=none from e] at z;cases z)
    |some k=>
     have m:=VM hl;rw[hl] at e;cases k with
     |cell=>exact .inl m
     |free=>exact .inr m
     |_=>rcases hx' with z |z <;> (rw[show(fh scope X.env.scope).names.lookup x=_ from e] at z;simp[mH] at z)
   rcases key with h |h
   ·have q:=W2 scope.names (s.heap.objs.size+1) (bQ X.env.cells scope.names []) (x:=x) (.inl (cN S.uniq h));exact ZU.mp q
   ·obtain⟨c,hc⟩:=fY (cells:=X.env.cells) (acc:=[]) (.inl h);have q:∃c,(x,c) ∈ (sF scope s.heap.objs.size X.env).cells:=⟨c,by rw[cells];exact Zz _ hc⟩;exact fg q
  ·intro x c hfn hl
   have hfn':scope.names.lookup x=some .cell:=by
    have z:(scope.names.lookup x == some NameKind.cell)=true:=hfn
    simpa using z
   rcases which x c hl with a |⟨_,b⟩
   ·exact ZF (Yt _) (neu x c a)
   ·rw[cN S.uniq b] at hfn';cases hfn'
  ·intro b hb;refine⟨ZA (hfo b hb),fun x c h z=>?_⟩;rcases which x c h with a |⟨a,_⟩
   ·exact absurd (Zu (z ▸ hfo b hb) (YU (neu x c a))) (ZO _)
   ·exact(hf b hb).2.2.2.2.1 x c a z
  ·intro b o e hb;rcases (hf b hb).2.2.2.1 with z |z
   ·exact I.ok.noex b o e z
   ·have h1:=Zq e;exact absurd (Zu h1 (ZF I.ok.bsz z)) (ZO _)
 have m0:(VR (s.heap.push { cls:=.type "dict", data:=.dict #[] }) scope.names).Ns s.heap.objs.size (fun _=>none):=(Heap.Ns.new s.heap (.type "dict")).keeps (VS _ _);refine⟨xok,rfl,I.bare,Un.kept keep,⟨_,m0,?_⟩,?_,I.hok.fresh (Ze _),?_,fun p hp=>absurd (show p ∈ ([]:List (Addr × Obj)) from hp) (by simp),I.hok.kept keep,?_⟩
 ·intro i x v h1 h2 h3
  have hi:i < σ.length:=by
   by_cases hi:i < σ.length
   ·exact hi
   ·rw[Zt (by lia),Yo] at h2;split at h2 <;> cases h2
  rw[Zw hi] at h2;have hN:i < X.N.length:=by rw[<-I.len];exact hi
  have h1h:(cP hs X.N)[i]?=some x:=by
   have h1:(cP hs X.N++own)[i]?=some x:=h1
   rwa [Zw (by rw[iP];exact hN)] at h1
  have dx:=S.dis x (Zf h1h);have e:=fj X.env.scope x scope.names;have h3':(fh scope X.env.scope).names.lookup x=some .local\/(fh scope X.env.scope).names.lookup x=some .cell\/(fh scope X.env.scope).names.lookup x=some .free:=h3
  have hfree:scope.names.lookup x=some .free:=by
   cases hl:scope.names.lookup x with
   |none=>rw[hl] at e;rcases h3' with z |z |z <;> (rw[show(fh scope X.env.scope).names.lookup x=none from e] at z;cases z)
   |some k=>
    rw[hl] at e dx;cases k with
    |free=>rfl
    |«local»=>exact absurd rfl dx.1
    |cell=>exact absurd rfl dx.2
    |_=>rcases h3' with z |z |z <;> (rw[show(fh scope X.env.scope).names.lookup x=_ from e] at z;simp[mH] at z)
  have h1':X.N[i]?=some x:=by
   rcases m7 hs X.N h1h with z |⟨j,hj,z⟩
   ·exact z
   ·rw[z,S.hd j hj] at hfree;cases hfree
  have mfree:=VM hfree;have kX:=S.fr (x,.free) mfree rfl;obtain⟨m,hn,hl⟩:=I.loc;obtain⟨u,r,l⟩:=hl i x v h1' h2 (kX.elim (fun z=>.inr (.inl z)) fun z=>.inr (.inr z));refine⟨u,r,.inr ⟨?_,?_⟩⟩
  ·have k3:(fh scope X.env.scope).names.lookup x=some (mH X.env.scope x .free):=by rw[hfree] at e;exact e
   have k4:mH X.env.scope x .free = .cell\/mH X.env.scope x .free = .free:=by unfold mH;split <;> simp
   rcases k4 with z |z
   ·exact .inl (by show(fh scope X.env.scope).names.lookup x=_;rw[k3,z])
   ·exact .inr (by show(fh scope X.env.scope).names.lookup x=_;rw[k3,z])
  ·rcases l with ⟨lk,_⟩ |⟨_,c,hc,z⟩
   ·have lk':X.env.scope.names.lookup x=some .local:=lk;rcases kX with q |q <;> (rw[q] at lk';cases lk')
   ·refine⟨c,?_,z.keeps keep⟩;obtain⟨c',hc'⟩:=fY (cells:=X.env.cells) (acc:=[]) (.inl mfree);obtain⟨c2,hl2⟩:=fg (l:=(sF scope s.heap.objs.size X.env).cells) ⟨c',by rw[cells];exact Zz _ hc'⟩;rcases which x c2 hl2 with a |⟨a,_⟩
    ·rcases dk _ _ _ _ _ a with q |q
     ·exact nomatch q
     ·rw[cN S.uniq q] at hfree;cases hfree
    ·rw[hc] at a;cases a;exact hl2
 ·intro x c h;rcases which x c h with a |⟨a,_⟩
  ·exact⟨_,(ok.empty x c a).1⟩
  ·obtain⟨v,z⟩:=I.cell x c a;exact⟨v,z.keeps keep⟩
 ·intro x c h;rcases which x c h with a |⟨a,_⟩
  ·exact I.hok.fresh (ZF (Yt _) (neu x c a))
  ·exact I.freeC x c a
 ·show(σ++Zo own.length none).length=(cP hs X.N++own).length;rw[Zh,Zh,YH,iP,I.len]
end
def qj(J:It)(g:TG)(tb:TS)(D:Ends)(σ:St)(H:Hp):Prop:=∃W:Nat->Nat->St->Hp->Prop,(∃m,W 0 m σ H)/\∀i m σ H,W i m σ H ->
 (J.stop i H/\D.nx σ H)\/(J.go i H/\∃N:St->Hp->Prop,(∀σ' H',N σ' H'->∃m',m' < m/\W (i+1) m' σ' H')/\∀x H',J.yld i H x H'->g x σ H' fun σ2 H2=>tb { D with nx:=N,ct:=N,bk:=D.nx } σ2 H2)
def PTs(Y:Cx)(ifs:List Expr)(t:TT):Prop:=
 ∀ (pins:List (Addr × Obj)) (s:Shared) (σ:St) (H:Hp) (Q:Bool->Hp->Prop),Inv Y pins σ H s->t σ H Q->wpAny (model Y.prog Y.w) Y.A (oT ifs Y.env) (TP Y pins σ Q) Y.xe s
def Cr:TT:=fun _ H Q=>Q true H
theorem Cs:PTs Y [] Cr:=fun _ _ _ H _ I h=>by
 unfold oT;rw[YO];exact Us ⟨H,I,h⟩
theorem Ct(hc:PT Y c t):PTs Y [c] t:=fun pins s σ H Q I h=>by
 unfold oT;rw[XY];simp only[if_true,YO];refine Ua (Ua (thn (hc pins s σ H Q I h) fun b s1 q=>Us ?_));exact Us q
def PTl(Y:Cx)(elt:Expr)(gens:List Wr)(scope:Scope)(pos:Pos)(acc:Addr)(d:Nat)(t:TS):Prop:=
 ∀ (pins:List (Addr × Obj)) (s:Shared) (σ:St) (H:Hp) (D:Ends),Inv Y pins σ H s->t D σ H ->
  match gens[d+1]? with
  |none=>wpAny (model Y.prog Y.w) Y.A (eval elt Y.env) (fun x s5=>wpAny (model Y.prog Y.w) Y.A (call (.builtin "list.append") [.ref acc,x]) (fun _ s6=>∃σ' H',Inv Y pins σ' H' s6/\D.nx σ' H') (fun _ _=>False) s5) (fun _ _=>False) s
  | some g'=>g'.is_async=0/\wpAny (model Y.prog Y.w) Y.A (eval g'.iter Y.env) (fun x s5=>wpAny (model Y.prog Y.w) Y.A (VE g'.iter Y.env x) (fun x' s6=>wpAny (model Y.prog Y.w) Y.A (pyIter x') (fun it' s7=>
    wpAny (model Y.prog Y.w) Y.A (runOwn (.compStart (.ListComp elt gens scope pos) (d+1) it' (.ref acc) Y.env) Y.env) (fun _ s8=>∃σ' H',Inv Y pins σ' H' s8/\D.nx σ' H') (fun _ _=>False) s7) (fun _ _=>False) s6) (fun _ _=>False) s5) (fun _ _=>False) s
def eS(ti:TT)(t:TS):TS:=fun D σ H=>ti σ H fun c H'=>if c=true then t D σ H' else D.nx σ H'
def FZ(acc:Addr)(te:TE):TS:=fun D σ H=>te σ H fun x H1=>∃xs,H1 acc=some (.lst xs)/\xs.length < sizeLine/\D.nx σ (upd H1 acc (.lst (xs++[x])))
section
variable {Y:Cx} {elt:Expr} {gens:List Wr} {scope:Scope} {pos:Pos} {acc:Addr} {d:Nat}
theorem yI(hx:Y.xe=fun _ _=>False)(hn:gens[d+1]?=none)(he:PE Y elt te):PTl Y elt gens scope pos acc d (FZ acc te):=by
 intro pins s σ H D I h;rw[hn];have hE:=he pins s σ H _ I h;rw[hx] at hE;refine thn hE fun x s5 ⟨v,H5,I5,r5,xs,h1,h2,q⟩=>?_;have z:=m6 pins s5 σ H5 (.ref acc) [v] (.ref acc) [x] (fun y H'=>y = .non/\D.nx σ H') I5 rfl (.cons r5 .nil) ⟨acc,xs,v,rfl,rfl,h1,h2,rfl,q⟩;rw[hx] at z;exact thn z fun y s6 ⟨v6,H6,I6,r6,e6,q6⟩=>⟨σ,H6,I6,q6⟩
theorem kz{A:Around}{R:Result->Shared->Prop}{prog:Program}{w:World}{s:Shared}{tg iter:Expr}{ifs:List Expr}{it acc:Value}{env:Env}(hg:gens[d]?=some ⟨tg,iter,ifs,0⟩)
  (h0:codeAny (model prog w) A (.compLoop (.ListComp elt gens scope pos) d it acc env) R s)
  (h:wpAny (model prog w) A (pyIter it) (fun it' s'=>codeAny (model prog w) A (.compLoop (.ListComp elt gens scope pos) d it' acc env) R s') (notedBy (model prog w) A env fun x s'=>R (.error x) s') s) :
  codeAny (model prog w) A (.compStart (.ListComp elt gens scope pos) d it acc env) R s:=by
 refine codeAny_of_tree ?_;show wpAny _ _ ((compStart (.ListComp elt gens scope pos) d it acc env).onRaise (fun x=>do noteFrame x env;standAt theWindowsPlace)) _ _ s;refine wpAny_notedAt ?_;unfold compStart;have hcl:(clausesOf (.ListComp elt gens scope pos))[d]?=some ⟨tg,iter,ifs,0⟩:=hg;simp only[hcl,Option.elim];show wpAny _ _ (ask >>= _) _ _ s;refine Ua (wpAny_askSetting (wpAny_ite ?_));split
 ·first
   |exact Ua (Us (Us (And.intro rfl h0)))
   |exact Us (And.intro rfl h0)
 ·first
   |exact Ua (Uy (Ua (Uz (Ua (Uo h (fun it' s' h'=>Us (And.intro rfl h')) fun _ _ x=>x)))))
   |(refine Ua (Uy ?_);show wpAny _ _ (standAt iter.pos >>= _) _ _ s;exact Ua (Uz (Ua (Uo h (fun it' s' h'=>Us (And.intro rfl h')) fun _ _ x=>x))))
theorem m8
  (hx:Y.xe=fun _ _=>False) (hc:Y.calm=true) (hg:gens[d]?=some ⟨tg,iter,ifs,0⟩) (T:Turn Y.prog Y.w Y.K tg J fp it tn) (I2:Inv Y pins σ H s) (st2:tn 0 s.heap) (f2:∀b ∈ fp,gq Y pins H b)
  (hgt:PG Y tg g) (hts:PTs Y ifs ti) (htl:PTl Y elt gens scope pos acc d t) (hW:qj J g (eS ti t) D σ H) :
  codeAny (model Y.prog Y.w) Y.A (.compLoop (.ListComp elt gens scope pos) d (.ref it) (.ref acc) Y.env) (fun r s'=>r = .ok .next/\∃σ' H',Inv Y pins σ' H' s'/\D.nx σ' H') s:=by
 obtain⟨W,⟨m0,w0⟩,turn⟩:=hW;have stat:∀ {H':Hp},(∀b ∈ fp,H' b=none)->∀b ∈ fp,gq Y pins H' b:=fun hn b hb=>⟨hn b hb,(f2 b hb).2⟩;refine codeAny_loop rfl (fun n s'=>∃i σ' H',Inv Y pins σ' H' s'/\tn i s'.heap/\(∀b ∈ fp,H' b=none)/\W i n σ' H') (fun n s3 hI=>?_) m0 ⟨0,σ,H,I2,st2,fun b hb=>(f2 b hb).1,w0⟩;obtain⟨i,σ3,H3,I3,st3,fr3,w3⟩:=hI;show wpAny _ _ ((compTurn (.ListComp elt gens scope pos) d (.ref it) (.ref acc) Y.env).onRaise (fun x=>do noteFrame x Y.env;theTreesLotGoes x)) _ _ s3;refine wpAny_noted (Uo (E:=fun _ _=>False) ?_ (fun _ _ q=>q) fun _ _ z=>z.elim);refine Cp hg ?_;rcases turn i n σ3 H3 w3 with ⟨stop,qn⟩ |⟨go,N,hN,step⟩
 ·refine thn (T.done Y rfl rfl rfl hc i pins s3 σ3 H3 _ I3 (stat fr3) st3 stop) fun r s4 ⟨hr,I4⟩=>?_;subst hr;exact⟨rfl,σ3,H3,I4,qn⟩
 ·refine thn (T.item Y rfl rfl rfl hc i pins s3 σ3 H3 _ I3 (stat fr3) st3 go) fun r s4 ⟨u,hr,h4⟩=>?_;subst hr;refine thn h4 fun _ s5 ⟨x,H5,I5,r5,y5,st5,fr5⟩=>?_;have I5':=I5.pinned (stat fr5) (T.obj _ _ st5)
  have again:∀ {σ7:St} {H7:Hp} {s7:Shared},Inv Y (pins++ko fp s5.heap) σ7 H7 s7->N σ7 H7->∃m,m < n/\∃i σ' H',Inv Y pins σ' H' s7/\tn i s7.heap/\(∀b ∈ fp,H' b=none)/\W i m σ' H':=fun {σ7 H7 s7} I7 n7=>by
   obtain⟨m',hm,w7⟩:=hN σ7 H7 n7;refine⟨m',hm,i+1,σ7,H7,I7.unpinned,T.keep _ _ _ st5 fun b hb o e=>(I7.pin (b,o) (Zz _ (Zz _ (ef hb e)))).1,fun b hb=>?_,w7⟩;obtain⟨o,e,dd⟩:=T.obj _ _ st5 b hb;exact(I7.pin (b,o) (Zz _ (Zz _ (ef hb e)))).2.1
  have hG:=hgt _ s5 σ3 H5 x u _ I5' r5 (step x H5 y5);rw[hx] at hG;refine thn hG fun _ s6 ⟨σ6,H6,I6,q6⟩=>?_;have hT:=hts _ s6 σ6 H6 _ I6 q6;rw[hx] at hT;refine thn hT fun ok s7 ⟨H7,I7,q7⟩=>?_;cases ok with
  |false=>
   simp only[Z6,if_false] at q7 ⊢;exact⟨by trivial,again I7 q7⟩
  |true=>
   simp only[if_true] at q7 ⊢;have hL:=htl _ s7 σ6 H7 _ I7 q7;cases hn:gens[d+1]? with
   |none=>
    rw[hn] at hL;exact thn hL fun x s8 h8=>thn h8 fun _ s9 ⟨σ9,H9,I9,q9⟩=>⟨by trivial,again I9 q9⟩
   |some g'=>
    rw[hn] at hL;obtain⟨ha,hL⟩:=hL;exact⟨ha,thn hL fun x s8 h8=>thn h8 fun x' s9 h9=>thn h9 fun it' s10 h10=>thn h10 fun _ s11 ⟨σ9,H9,I9,q9⟩=>⟨by trivial,again I9 q9⟩⟩
def yJ(wi:TI)(g:TG)(ti:TT)(t:TS):TS:=fun D σ H=>wi σ H fun J H1=>qj J g (eS ti t) D σ H1
theorem Cu(hn:gens[d+1]?=some ⟨tg,iter,ifs,0⟩)
  (hi:PI Y tg iter wi) (hgt:PG Y tg g) (hts:PTs Y ifs ti) (htl:PTl Y elt gens scope pos acc (d+1) t) (hx:Y.xe=fun _ _=>False:=by rfl) (hc:Y.calm=true:=by rfl) (hs:∀x,VE iter Y.env x=pure x:=by intro _;rfl) :
  PTl Y elt gens scope pos acc d (yJ wi g ti t):=by
 intro pins s σ H D I h;rw[hn];refine⟨rfl,?_⟩;have hI:=hi pins s σ H _ I h;rw[hx] at hI;refine thn hI fun v s5 h5=>wpAny_of_eq (hs v) (thn h5 fun itv s6 h6=>?_);obtain⟨it,fp,tn,J,H6,e,I6,T,st6,f6,W⟩:=h6;subst e;have L:=m8 (elt:=elt) (gens:=gens) (scope:=scope) (pos:=pos) (acc:=acc) hx hc hn T I6 st6 f6 hgt hts htl W;refine wpAny_runOwn (Vz (kz hn L (T.self _ 0 s6 _ _ st6 L)) fun r s8 hr=>?_);obtain⟨rfl,q⟩:=hr;exact q
end
def yK(own:Nat)(wi:TI)(g:TG)(tb:Addr->TS):TE:=fun σ H Q=>wi σ H fun J H1=>∀acc,H1 acc=none ->
 qj J g (tb acc) { nx:=fun _ H'=>Q (.ref acc) H',rt:=fun _ _=>False } (σ++Zo own none) (upd H1 acc (.lst []))
section
variable {X:Cx} {elt tg iter:Expr} {ifs:List Expr} {rest:List Wr} {scope:Scope} {pos:Pos} {own:List Str} {hs:List Nat} {wi:TI} {g:TG} {ti:TT} {t:Addr->TS}
theorem kA{pins:List (Addr × Obj)}{σ:St}{Q:VK}{itv:Value}{s2:Shared}{E:Value->Shared->Prop}(hc:X.calm=true)(S:CmScope own hs X.N scope X.env.scope)
  (hgt:∀C ex s H,PG (cxC X own hs scope C ex s H) tg g) (hts:∀C ex s H,PTs (cxC X own hs scope C ex s H) ifs ti)
  (htl:∀C ex s H acc,PTl (cxC X own hs scope C ex s H) elt (⟨tg,iter,ifs,0⟩::rest) scope pos acc 0 (t acc))
  (h2:PIE X pins σ tg (fun J H1=>∀acc,H1 acc=none->qj J g (eS ti (t acc)) { nx:=fun _ H'=>Q (.ref acc) H',rt:=fun _ _=>False } (σ++Zo own.length none) (upd H1 acc (.lst []))) itv s2)
  {RR:Value->Addr->Result->Shared->Prop} (hRR:∀acc C H' s',Inv X pins σ H' s'->gq X pins H' C->(∃m,s'.heap.Ns C m)->Q (.ref acc) H'->RR (.ref acc) C (.ok .next) s') :
  wpAny (model X.prog X.w) X.A (newList []) (fun acc s3=>wpAny (model X.prog X.w) X.A (VN scope X.env.globals (bQ X.env.cells scope.names []) [] X.env.qual none .none (some X.env)) (fun cenv s4=>
   codeAny (model X.prog X.w) X.A (.compStart (.ListComp elt (⟨tg,iter,ifs,0⟩::rest) scope pos) 0 itv acc { cenv with scope:=relabel scope X.env }) (RR acc cenv.locals) s4) E s3) E s2:=by
 obtain⟨it,fp,tn,J,H2,e,I2,T,st2,f2,R⟩:=h2;subst e;refine Uq ?_;have I3:Inv X pins σ (upd H2 s2.heap.objs.size (.lst [])) { s2 with heap:=s2.heap.push { cls:=.type "list", dict:=none,data:=.seq ([]:List Value).toArray } }:=I2.lnew (its:=[]) (t':=s2.toks) .nil (XV _);have W:=R s2.heap.objs.size (I2.hok.fresh (Ze _));generalize hs3:({ s2 with heap:=s2.heap.push { cls:=.type "list", dict:=none,data:=.seq ([]:List Value).toArray } }:Shared)=s3 at I3 ⊢;have e3:s3.heap=s2.heap.push { cls:=.type "list", dict:=none,data:=.seq ([]:List Value).toArray }:=by rw[<-hs3]
 have k3:∀b o,s2.heap.get? b=some o->s3.heap.get? b=some o:=fun b o e=>by rw[e3];exact Zk _ e
 have st3:tn 0 s3.heap:=T.keep _ _ _ st2 fun b _ o e=>k3 b o e;have fne:∀b ∈ fp,b < s2.heap.objs.size:=fun b hb=>let ⟨o,e,_⟩:=T.obj _ _ st2 b hb;Zq e;have f3:∀b ∈ fp,gq X pins (upd H2 s2.heap.objs.size (.lst [])) b:=fun b hb=>⟨by rw[az (ZA (fne b hb))];exact(f2 b hb).1,(f2 b hb).2⟩;have fo3:∀b ∈ fp,b < s3.heap.objs.size:=fun b hb=>let ⟨o,e,_⟩:=T.obj _ _ st3 b hb;Zq e;refine wu ?_;have I4:=I3.compStart S f3 fo3;generalize hH3:upd H2 s2.heap.objs.size (.lst [])=H3 at I3 I4 f3 W
 have eE:({ scope:=relabel scope X.env,locals:=s3.heap.objs.size,globals:=X.env.globals,cells:=Vw (s3.heap.objs.size+1) scope.names (bQ X.env.cells scope.names []),qual:=X.env.qual,func:=none,code:=X.env.code,frame:=X.env.frame,builtins:=X.env.builtins }:Env)=sF scope s3.heap.objs.size X.env:=by
  unfold sF;rw[Cq]
 generalize hs4:({ s3 with heap:=VR (s3.heap.push { cls:=.type "dict", data:=.dict #[] }) scope.names }:Shared)=s4 at I4 ⊢;have k4:∀b o,s3.heap.get? b=some o->s4.heap.get? b=some o:=fun b o e=>by rw[<-hs4];exact VS _ _ b o (Zk _ e)
 have st4:tn 0 s4.heap:=T.keep _ _ _ st3 fun b _ o e=>k4 b o e
 have f4:∀b ∈ fp,gq (cxC X own hs scope s3.heap.objs.size fp s3 H3) [] H3 b:=fun b hb=>by
  refine⟨(f3 b hb).1,ZA (fo3 b hb),I4.ok.exfs b hb,.inl hb,fun x c hl=>(I4.ok.exf b hb).2 x c hl,fun p hp=>absurd (show p ∈ ([]:List (Addr × Obj)) from hp) (by simp)⟩
 have L:=m8 (Y:=cxC X own hs scope s3.heap.objs.size fp s3 H3) (elt:=elt) (gens:=⟨tg,iter,ifs,0⟩::rest) (d:=0) (scope:=scope) (pos:=pos) (acc:=s2.heap.objs.size) rfl hc rfl T I4 st4 f4 (hgt _ _ _ _) (hts _ _ _ _) (htl _ _ _ _ _) W;have C:=kz (elt:=elt) (gens:=⟨tg,iter,ifs,0⟩::rest) (d:=0) (scope:=scope) (pos:=pos) rfl L (T.self _ 0 s4 _ _ st4 L);show codeAny (model X.prog X.w) X.A (.compStart (.ListComp elt (⟨tg,iter,ifs,0⟩::rest) scope pos) 0 (.ref it) (.ref s2.heap.objs.size) { scope:=relabel scope X.env,locals:=s3.heap.objs.size,globals:=X.env.globals,cells:=Vw (s3.heap.objs.size+1) scope.names (bQ X.env.cells scope.names []),qual:=X.env.qual,func:=none,code:=X.env.code,frame:=X.env.frame,builtins:=X.env.builtins }) (RR (.ref s2.heap.objs.size) s3.heap.objs.size) s4;rw[eE];refine Vz C fun r s' hr=>?_;obtain⟨rfl,σ',H',I',q⟩:=hr;obtain⟨mC,nC,_⟩:=id I'.loc;have freeC:H' s3.heap.objs.size=none:=I'.free;refine hRR _ _ H' s' ?_ (I3.fpOk (Ze _) freeC) ⟨mC,nC⟩ q;exact I3.call' (ch:=fp) I'.os I'.base I'.hok I'.bare fun b hb=>⟨(f3 b hb).2.2.2.1,(f3 b hb).2.1,(f3 b hb).2.2.2.2.1,(f3 b hb).2.2.2.2.2⟩
theorem Cv(hc:X.calm=true)(S:CmScope own hs X.N scope X.env.scope)(hi:PI X tg iter wi)
  (hgt:∀C ex s H,PG (cxC X own hs scope C ex s H) tg g) (hts:∀C ex s H,PTs (cxC X own hs scope C ex s H) ifs ti)
  (htl:∀C ex s H acc,PTl (cxC X own hs scope C ex s H) elt (⟨tg,iter,ifs,0⟩::rest) scope pos acc 0 (t acc))
  (hs:∀x,VE iter X.env x=pure x:=by intro _;rfl) :
  PE X (.ListComp elt (⟨tg,iter,ifs,0⟩::rest) scope pos) (yK own.length wi g fun acc=>eS ti (t acc)):=by
 intro pins s σ H Q I h;rw[eval_ListComp];refine Ud (use:=none) (cl:=bQ X.env.cells scope.names []) rfl hs (uL fun y hy hk=>I.ok.has y.1 (S.fr y hy hk)) S.kind (fun y hy hk=>cN S.uniq (by rw[<-hk];exact hy)) ?_;refine thn (hi pins s σ H _ I h) fun v s1 h1=>thn h1 fun itv s2 h2=>?_;refine kA hc S hgt hts htl h2 (RR:=fun acc C=>compPost (model X.prog X.w) X.A X.xe none (EP X pins σ Q) acc C) fun acc C H' s' I' f' m' q=>?_;obtain⟨m,nm⟩:=m';refine⟨m,nm,fun h' sb=>⟨.ref acc,H',?_,rfl,q⟩⟩;exact I'.turned (t':=s'.toks) (fun b o hb e=>(sb.2 b hb).trans e) f'.1 f'.2.1 f'.2.2.2.1 f'.2.2.2.2.1 f'.2.2.2.2.2
theorem Cw{i:Nat}(hc:X.calm=true)(S:CmScope own hs X.N scope X.env.scope)(hN:X.N.Nodup)(hix:X.N[i]?=some x)(hx:X.env.scope.names.lookup x=some .local)(hi:PI X tg iter wi)
  (hgt:∀C ex s H,PG (cxC X own hs scope C ex s H) tg g) (hts:∀C ex s H,PTs (cxC X own hs scope C ex s H) ifs ti)
  (htl:∀C ex s H acc,PTl (cxC X own hs scope C ex s H) elt (⟨tg,iter,ifs,0⟩::rest) scope pos acc 0 (t acc))
  (hsw:V2 (.ListComp elt (⟨tg,iter,ifs,0⟩::rest) scope pos) (some (.Name x pos')) spos.line X.env=pure true:=by rfl)
  (hs:∀x,VE iter X.env x=pure x:=by intro _;rfl) :
  PS X (.Assign [.Name x pos'] (.ListComp elt (⟨tg,iter,ifs,0⟩::rest) scope pos) spos) (v9 (yK own.length wi g fun acc=>eS ti (t acc)) (mR i)):=by
 intro pins s σ H D I h;rw[exec_Assign_Name_used _ _ _ _ hsw];refine Ua (Uz (Ua ?_));show wpAny _ X.A (do let _ <-comprehension (.ListComp elt (⟨tg,iter,ifs,0⟩::rest) scope pos) scope X.env _ (newList []) false (eval iter X.env) (some (assign (.Name x pos') X.env))) _ _ s
 refine Ua (Uo (Ud (use:=some (assign (.Name x pos') X.env)) (Q:=fun _ s'=>SP X pins D .next s') (cl:=bQ X.env.cells scope.names []) rfl hs (uL fun y hy hk=>I.ok.has y.1 (S.fr y hy hk)) S.kind (fun y hy hk=>cN S.uniq (by rw[<-hk];exact hy))
  ?_) (fun _ s' hq=>Us (Us hq)) fun _ _ e=>e)
 refine thn (hi pins s σ H _ I h) fun v s1 h1=>thn h1 fun itv s2 h2=>?_;refine kA (Q:=fun y H'=>mR i y σ H' D.nx) hc S hgt hts htl h2 (RR:=fun acc C=>compPost (model X.prog X.w) X.A X.xe (some (assign (.Name x pos') X.env)) (fun _ s'=>SP X pins D .next s') acc C) fun acc C H' s' I' f' m' q=>?_;obtain⟨m,nm⟩:=m';show wpAny _ X.A (assign (.Name x pos') X.env (.ref acc)) _ _ _;refine wpAny_assign_Name (mQ (v:=.ref acc) I' hN hix (.inl hx) rfl (fun s'' I'' hch=>?_) (.inr hx));obtain⟨a,sb1,ha⟩:=hch
 have ne:C ≠ a:=by
  rcases ha with e |e
  ·rw[e];exact f'.2.1
  ·exact fun z=>f'.2.2.2.2.1 x a e z.symm
 refine⟨m,nm.sameBut sb1 ne,fun h' sb=>⟨_,H',?_,q⟩⟩;exact I''.turned (t':=s''.toks) (fun b o hb e=>(sb.2 b hb).trans e) f'.1 f'.2.1 f'.2.2.2.1 f'.2.2.2.2.1 f'.2.2.2.2.2
end
end L2
namespace HT
open PySem PyProof.Rows
section
variable {prog:Program} {w:World} {A:Around} {E:Value->Shared->Prop} {s:Shared}
theorem yL{t b:Addr}{ws:List Value}{Q:Value->Shared->Prop}(ht:IsTup s.heap t ([]:List Value).toArray)(hb:IsTup s.heap b ws.toArray)(h:Q (.ref b) s):wpAny (model prog w) A (Vr .Add (.ref t) (.ref b)) Q E s:=by
 obtain⟨⟨cls,dd,data,sl⟩,ho,hc,n,hd⟩:=id ht;obtain⟨⟨cls2,dd2,data2,sl2⟩,ho2,hc2,n2,hd2⟩:=id hb;simp only at hc hd hc2 hd2;subst hc hd hc2 hd2
 exact VB ⟨_,ho,rfl⟩ ⟨_,ho2,rfl⟩ VO VW WD Wu (Ws _ _)
   (tuple_addW0 t b _ ws.toArray n n2 dd dd2 sl sl2 (by simp)) ⟨ho,ho2,h⟩
theorem gr{t sl:Addr}{items:Array Value}{vl vu:Value}{lo hi:Option Int}{Q:Value->Shared->Prop}(ht:IsTup s.heap t items)(hs:s.heap.IsSliceOf sl vl vu .none)(pl:IsPart vl lo)(pu:IsPart vu hi)
  (hw:sIx items.size 0 lo=0/\sIx items.size items.size hi=items.size) (h:Q (.ref t) s):wpAny (model prog w) A (getItem (.ref t) (.ref sl)) Q E s:=by
 obtain⟨os,hos,hcs,hds⟩:=id hs;have hTs:s.TypeIs (.ref sl) "slice" := ⟨os,hos,hcs⟩;obtain⟨o,ho,hc,n,hd⟩:=id ht;unfold getItem
 try with_reducible refine Ui ?_
 first |refine Ua (Us ?_) |skip
 refine Ua (wpAny_sequenceKey ht.typeIs (by decide) ?_)
 refine Ua (wpAny_callSpecial?_slot (name:=Str.ofString "__getitem__") ht.typeIs Wo
  (Uc Wo ht.typeIs entry_tuple_getitem ?_ (args_tuple_getitem _ _)))
 show wpAny _ _ (Builtin.Tuple.tupleItemsOf (.ref t) >>= _) _ _ s;refine Ua (tupleItemsOf_ ht ?_);refine Ua (UB hTs ?_);rw[if_pos (by decide)];refine Ua (dI hs pl pu ?_)
 have hyes:((((sIx items.size 0 lo:Nat):Int) == 0 && (1:Int) == 1 && (sIx items.size items.size hi - sIx items.size 0 lo) == items.size)=true):=by
  rw[hw.1,hw.2];simp
 show wpAny _ _ (if (((sIx items.size 0 lo:Nat):Int) == 0 && (1:Int) == 1 && (sIx items.size items.size hi - sIx items.size 0 lo) == items.size)=true then _ else _) _ _ s;rw[if_pos hyes];have hT:s.TypeIs (.ref t) "tuple" := ht.typeIs
 first
  | (refine Ua (m:=Builtin.Tuple.tupleIsExact _) ?_
     unfold Builtin.Tuple.tupleIsExact;refine Ua (UB hT (Us ?_));rw[if_pos (by decide)];exact Ua (Uy (Us ⟨_,rfl,Us h⟩)))
end
end HT
namespace L2
open PySem PySem.Spec PyProof.Rows
theorem qk{s:Shared}{h':Heap}{o:Obj}(hk:∀b x,b ∉ [s.heap.objs.size]->(s.heap.push o).get? b=some x->h'.get? b=some x):∀b x,s.heap.get? b=some x->h'.get? b=some x:=
 fun b x e=>hk b x (fun hm=>by rw[ZG.mp hm] at e;exact ZO _ (Zq e)) (Zk _ e)
section
variable {X:Cx}
def L9(K:W0):R2:=fun x y H Q=>∃a b xs ys,x = .ref a/\y = .ref b/\SqT K H a xs/\SqT K H b ys/\xs.length+ys.length<=sizeLine ∧
 (xs=[]->Q (.ref b) H)/\(xs ≠ []->ys=[]->Q (.ref a) H)/\(xs ≠ []->ys ≠ []->∀p,H p=none->Q (.ref p) (upd H p (.tup (xs++ys))))
theorem Cy:OpR X (Vr .Add) (L9 X.K):=by
 intro pins s σ H x y v u Q I rx ry h;obtain⟨a,b,xs,ys,rfl,rfl,ha,hb,hz,q0,q1,q2⟩:=h;by_cases hx:xs=[]
 ·subst hx;cases rx;cases ry;obtain⟨its,r1,p1,_⟩:=I.tuple ha;obtain⟨its2,r2,p2,_⟩:=I.tuple hb;cases r1;exact HT.yL p1 p2 ⟨.ref b,H,I,rfl,q0 rfl⟩
 ·exact Cj pins s σ H _ _ v u Q I rx ry ⟨a,b,xs,ys,rfl,rfl,ha,hb,hx,hz,q1 hx,q2 hx⟩
def OQ(K:W0):V->Option Int->Option Int->Hp->VK->Prop:=fun x lo hi H Q=>∃a xs,x = .ref a/\SqT K H a xs ∧
 ((HT.sIx xs.length 0 lo=0/\HT.sIx xs.length xs.length hi=xs.length)->Q (.ref a) H) ∧
 (¬ (HT.sIx xs.length 0 lo=0/\HT.sIx xs.length xs.length hi=xs.length)->∀p,H p=none->Q (.ref p) (upd H p (.tup (ky xs lo hi))))
theorem Cz:SlR X (OQ X.K):=by
 intro pins s σ H x v vl vu lo hi sl Q I rx hs pl pu h;obtain⟨a,xs,rfl,hx,q1,q2⟩:=h;by_cases hw:(HT.sIx xs.length 0 lo=0/\HT.sIx xs.length xs.length hi=xs.length)
 ·cases rx;obtain⟨its,r,ht,hz⟩:=I.tuple hx;have hlen:its.toArray.size=xs.length:=by rw[Zl];exact r.length.symm
  refine⟨"tuple", _,PyProof.Rows.slot_tuple_getitem.lookup,ht.typeIs,?_⟩;exact HT.gr ht hs pl pu (by rw[hlen];exact hw) ⟨.ref a,H,I,rfl,q1 hw⟩
 ·exact Hh pins s σ H _ v vl vu lo hi sl Q I rx hs pl pu ⟨a,xs,rfl,hx,hw,q2 hw⟩
theorem ql:aM X (.builtin "isinstance") (fun xs H Q=>∃x n t b,xs=[x,.ty n]/\TyOf X.K H x t/\Vf X.K t (.type n)=some b/\Q (.bl b) H):=by
 intro pins s σ H xs us Q I r h;obtain⟨x,n,t,b,rfl,ty,e,q⟩:=h;obtain⟨u,w',rfl,rx,ry⟩:=uG r;cases ry;exact wn I rx ty e fun tk=>⟨.bl b,H,I.tok tk,rfl,q⟩
theorem gH:∀ {bs:List Bool} {us:List Value},aJ (bs.map V.bl) us->us=bs.map Value.bool
 |[],_,.nil=>rfl
 |_::_,_,.cons r t=>by rw[Zx,gH t];cases r;rfl
theorem ww(hc:X.calm=true):aM X (.builtin "all") (fun xs H Q=>∃ (l:Addr) (bs:List Bool),xs=[.ref l]/\SqL X.K H l (bs.map V.bl)/\Q (.bl (bs.all id)) H):=by
 intro pins s σ H xs us Q I r h;obtain⟨l,bs,rfl,hl,q⟩:=h;obtain⟨u,rfl,ru⟩:=cF r;cases ru;obtain⟨its,rv,p,hz⟩:=I.list hl;have e:=gH rv;subst e;have hL:=p.isList;have hlt:l < s.heap.objs.size:=by obtain⟨_,e,_⟩:=hL;exact Zq e
 refine call_all_walk (Uu hL ?_)
 refine⟨s.heap.objs.size,[s.heap.objs.size,l],[s.heap.objs.size],_,_,_,fun i=>(bs[i]?).getD true,rfl,Walks.list (A:=X.A.in1) (I.ok.hd hc) _ l (ZA hlt) _,
  ⟨⟨_,ZE _ rfl,rfl,rfl⟩,hL.push _⟩,fun i v s' Q' E' hP hQ=>?_,fun h' tk hk=>?_⟩
 ·have hP':(bs.map Value.bool)[i]?=some v:=by simpa using hP
  rw[Zn] at hP';cases hb:bs[i]? with
  |none=>rw[hb] at hP';cases hP'
  |some b=>
   rw[hb] at hP';have ev:Value.bool b=v:=Option.some.inj hP';subst ev;simp only[hb,ZR] at hQ;exact UA hQ
 ·have e:((Zj (bs.map Value.bool).toArray.size).all fun i=>(bs[i]?).getD true)=bs.all id:=by
   rw[Zl,Za,Z1];simp only[ZJ,Z2,id];constructor
   ·intro h b hb;obtain⟨i,hi,rfl⟩:=Xh.mp hb;have:=h i hi
    rwa [gEG hi,ZR] at this
   ·intro h i hi;rw[gEG hi,ZR];exact h _ (ZC hi)
  rw[e];exact⟨.bl (bs.all id),H,I.kept (t':=tk) (qk hk),rfl,q⟩
theorem wx(hc:X.calm=true):aM X (.builtin "any") (fun xs H Q=>∃ (l:Addr) (bs:List Bool),xs=[.ref l]/\SqL X.K H l (bs.map V.bl)/\Q (.bl (bs.any id)) H):=by
 intro pins s σ H xs us Q I r h;obtain⟨l,bs,rfl,hl,q⟩:=h;obtain⟨u,rfl,ru⟩:=cF r;cases ru;obtain⟨its,rv,p,hz⟩:=I.list hl;have e:=gH rv;subst e;have hL:=p.isList;have hlt:l < s.heap.objs.size:=by obtain⟨_,e,_⟩:=hL;exact Zq e
 refine call_any_walk (Uu hL ?_)
 refine⟨s.heap.objs.size,[s.heap.objs.size,l],[s.heap.objs.size],_,_,_,fun i=>(bs[i]?).getD false,rfl,Walks.list (A:=X.A.in1) (I.ok.hd hc) _ l (ZA hlt) _,
  ⟨⟨_,ZE _ rfl,rfl,rfl⟩,hL.push _⟩,fun i v s' Q' E' hP hQ=>?_,fun h' tk hk=>?_⟩
 ·have hP':(bs.map Value.bool)[i]?=some v:=by simpa using hP
  rw[Zn] at hP';cases hb:bs[i]? with
  |none=>rw[hb] at hP';cases hP'
  |some b=>
   rw[hb] at hP';have ev:Value.bool b=v:=Option.some.inj hP';subst ev;simp only[hb,ZR] at hQ;exact UA hQ
 ·have e:((Zj (bs.map Value.bool).toArray.size).any fun i=>(bs[i]?).getD false)=bs.any id:=by
   rw[Zl,Za,Z1];simp only[YB,Z2,id];constructor
   ·rintro⟨i,hi,h⟩;rw[gEG hi,ZR] at h;exact⟨_,ZC hi,h⟩
   ·rintro⟨b,hb,h⟩;obtain⟨i,hi,rfl⟩:=Xh.mp hb;exact⟨i,hi,by rw[gEG hi,ZR];exact h⟩
  rw[e];exact⟨.bl (bs.any id),H,I.kept (t':=tk) (qk hk),rfl,q⟩
theorem Ho:OpR X (VA .Is) (fun x y H Q=>∃b c,x = .bl b/\y = .bl c/\Q (.bl (b == c)) H):=by
 intro pins s σ H x y v u Q I rx ry h;obtain⟨b,c,rfl,rfl,q⟩:=h;cases rx;cases ry;exact is_bool ⟨.bl _,H,I,rfl,q⟩
theorem wy:OpR X (VA .IsNot) (fun x y H Q=>∃b c,x = .bl b/\y = .bl c/\Q (.bl (b != c)) H):=by
 intro pins s σ H x y v u Q I rx ry h;obtain⟨b,c,rfl,rfl,q⟩:=h;cases rx;cases ry;exact isnot_bool ⟨.bl _,H,I,rfl,q⟩
theorem kB(hc:X.calm=true):∀ {pins:List (Addr × Obj)} {s:Shared} {σ:St} {H:Hp} {Q:VK} {r:Addr} {n:Nat} {t u v:Tok},Inv X pins σ H s->IsRange s.heap r 0 n 1 t u v->n<=1000->(∀l,H l=none->Q (.ref l) (upd H l (.lst ((Zj n).map fun(i:Nat)=>V.int i)))) ->
  wpAny (model X.prog X.w) X.A (call (.type "list") [.ref r]) (EP X pins σ Q) X.xe s:=by
 intro pins s σ H Q r n t u v I hr hn q;have hsm:Builtin.Range.small 0 n 1=true:=small_one (by lia) (by lia) (by lia) (by lia);refine call_list_range (n:=n) (I.ok.hd hc) hr hsm (by rw[rangeSize_one];split <;> lia) (by lia) fun h' tk acc' c' hk hS' hacc=>?_;refine⟨.ref s.heap.objs.size,_,I.laid (t':=tk) (o:=.lst ((Zj n).map fun(i:Nat)=>V.int i)) hk (Ze _) ?_,rfl,q _ (I.hok.fresh (Ze _))⟩;have hsz:acc'.size=n:=hacc.1;refine⟨by rw[Za,ZK];exact Y2 (wt hn),acc'.toList,c',?_,by simpa using hS'⟩
 have go:∀ (m:Nat) (k:Nat) (l:List Value),l.length=m->(∀j x,l[j]?=some x->∃tk,x=Value.int (((k+j:Nat):Nat):Int) tk)->aJ ((List.range' k m).map fun(i:Nat)=>V.int i) l:=by
  intro m
  induction m with
  |zero=>intro k l hl _;cases l with |nil=>exact .nil |cons _ _=>cases hl
  |succ m ih=>
   intro k l hl hx;cases l with
   |nil=>cases hl
   |cons x l=>
    rw[List.range'_succ,Zx];obtain⟨t,e⟩:=hx 0 x rfl;refine .cons ⟨t,by simpa using e⟩ (ih (k+1) l (by simpa using hl) fun j y hy=>?_);obtain⟨t',e'⟩:=hx (j+1) y (by simpa using hy);exact⟨t',by rw[e',show((k+(j+1):Nat):Int)=((k+1+j:Nat):Int) from by lia]⟩
 rw[List.range_eq_range'];refine go n 0 acc'.toList (by simpa using hsz) fun j x hx=>?_;obtain⟨tk',e⟩:=hacc.2 j x (by simpa using hx);exact⟨tk',by rw[e,show(0:Int)+(j:Nat) * 1=((0+j:Nat):Int) from by lia]⟩
end
section
variable {κ:Type} [DecidableEq κ]
noncomputable def qm(kvs:List (κ × V))(k:κ)(v:V):List (κ × V):=
 if (kvs.any fun kv=>decide (kv.1=k))=true then kvs.map (fun kv=>if kv.1=k then (kv.1,v) else kv) else kvs++[(k,v)]
theorem qo(kvs:List (κ × V))(k:κ)(v:V):(qm kvs k v).length<=kvs.length+1:=by
 unfold qm;split
 ·rw[Za];lia
 ·rw[Zh,ZD,Y5];lia
theorem KV.any{kvs:List (κ × V)}{vs:List (κ × Value)}(r:KV kvs vs)(k:κ):(kvs.any fun kv=>decide (kv.1=k))=vs.any fun kv=>decide (kv.1=k):=by
 unfold KV at r
 induction r with
 |nil=>rfl
 |cons h t ih=>rw[Yy,Yy,ih,h.1]
theorem KV.repl(r:KV kvs vs)(k:κ)(ry:aF y u) :
  KV (kvs.map fun kv=>if kv.1=k then (kv.1,y) else kv) (vs.map fun kv=>if kv.1=k then (kv.1,u) else kv):=by
 unfold KV at r ⊢
 induction r with
 |nil=>exact .nil
 |@cons p q ps qs h t ih=>
  rw[Zx,Zx];refine .cons ?_ ih;obtain⟨h1,h2⟩:=h;by_cases e:p.1=k
  ·rw[if_pos e,if_pos (h1.symm.trans e)];exact⟨h1,ry⟩
  ·rw[if_neg e,if_neg (fun z=>e (h1.trans z))];exact⟨h1,h2⟩
theorem KV.put(r:KV kvs vs)(k:κ)(ry:aF y u):KV (qm kvs k y) (stored vs k u):=by
 unfold qm stored;rw[r.any k];by_cases e:(vs.any fun kv=>decide (kv.1=k))=true
 ·rw[if_pos e,if_pos e];exact r.repl k ry
 ·rw[if_neg e,if_neg e];exact Paired.snoc r ⟨rfl,ry⟩
end
theorem Ma(r:aF (kV k) u):(bP P w).is k u=true:=by
 cases k with
 |inl i=>obtain⟨t,e⟩:=(show ∃t,u=Value.int i t from r);subst e;exact qd P w i t
 |inr x=>obtain⟨t,e⟩:=(show ∃t,u=Value.str x t from r);subst e;exact qe P w x t
section
variable {P:Program} {w:World} {H:Hp} {h:Heap} {a:Addr}
theorem Mb(ok:HOk P w H h)(e:Rd H a u):bf P w H h a u:=e.ok ok
theorem Mc(ok:HOk P w H h)(e:Rd H a (.dK kvs)):kvs.length<=sizeLine/\(a == V4)=false/\∃vs,KV kvs vs/\h.DictOf (bP P w) a vs:=
 show bf P w H h a (.dK kvs) from Mb ok e
theorem Md(ok:HOk P w H h)(e:H a=some (.dK kvs)):kvs.length<=sizeLine/\(a == V4)=false/\∃vs,KV kvs vs/\h.DictOf (bP P w) a vs:=Mc ok (.inl e)
end
section
variable {X:Cx} {pins:List (Addr × Obj)} {σ:St} {H:Hp} {s:Shared} {a:Addr} {y v:V} {u r:Value} {o:Option V} {A:Around} {E:Value->Shared->Prop}
theorem Inv.big(I:Inv X pins σ H s):V4 < s.heap.objs.size:=by
 have h:VL < s.heap.objs.size:=(I.mod.glob.keeps I.bk).lt;exact Nat.lt_trans (by decide) h
theorem CA{t':Nat}(I:Inv X pins σ H s)(mu:Mut (H a))(hs:Heap.SameBut a s.heap h')(he:∃q,h'.get? a=some q)(new:bf X.prog X.w (upd H a ob) h' a ob) :
  Inv X pins σ (upd H a ob) { s with heap:=h',toks:=t' }:=
 I.write (x:=a) (e:=a) mu (.inl rfl) (fun b q hb z=>(hs.2 b hb).trans z) he new
theorem Hq(z:kvs.length<=sizeLine)(hd:(a == V4)=false)(rel:KV kvs vs)(dd:h'.DictOf (bP P w) a vs) :
  bf P w H' h' a (.dK kvs):=⟨z,hd,vs,rel,dd⟩
end
theorem qp(h:Heap)(hb:V4 < h.objs.size):bf P w H (h.push { cls:=.type "dict", data:=.dict #[] }) h.objs.size (.dK []):=
 ⟨XV _,beq_eq_false_iff_ne.mpr (Ne.symm (ZA hb)),[],.nil,Heap.DictOf.new h⟩
def yM:TE:=fun _ H Q=>∀p,H p=none->Q (.ref p) (upd H p (.dK []))
section
variable {X:Cx} {pos:Pos}
theorem yN:PE X (.Dict [] [] pos) yM:=fun pins s σ H Q I h=>
 wpAny_Dict_empty ⟨.ref s.heap.objs.size,_,I.laid (a:=s.heap.objs.size) (o:=.dK []) (t':=s.toks) (fun _ _ q=>Zk _ q) (Ze _) (qp s.heap I.big),rfl,h _ (I.hok.fresh (Ze _))⟩
end
def sG:List (TE × TE)->St->Hp->(List (V × V)->Hp->Prop)->Prop
 |[],_,H,Q=>Q [] H
 |(tk,tv)::r,σ,H,Q=>tk σ H fun x H1=>tv σ H1 fun y H2=>sG r σ H2 fun ps H3=>Q ((x,y)::ps) H3
abbrev VV:List (V × V)->List (Value × Value)->Prop:=Paired fun p q=>aF p.1 q.1/\aF p.2 q.2
def PPs(X:Cx)(pos:Pos)(keys:List (Option Expr))(values:List Expr)(trs:List (TE × TE)):Prop:=
 ∀ (pins:List (Addr × Obj)) (s:Shared) (σ:St) (H:Hp) (Q:List (V × V)->Hp->Prop),Inv X pins σ H s->sG trs σ H Q ->
  wpAny (model X.prog X.w) X.A (evalPairs (pairTrees keys values X.env pos)) (fun vs s'=>∃ps H',Inv X pins σ H' s'/\VV ps vs/\Q ps H') X.xe s
theorem CB:PPs X pos [] [] []:=fun pins s σ H Q I h=>pairTrees_nil_walk ⟨[],H,I,.nil,h⟩
theorem yO(hk:PE X k tk)(hv:PE X v tv)(hr:PPs X pos ks vs trs) :
  PPs X pos (some k::ks) (v::vs) ((tk,tv)::trs):=fun pins s σ H Q I h=>
 pairTrees_cons_walk (thn (hk pins s σ H _ I h) fun u s1 ⟨x,H1,I1,rx,q1⟩=>thn (hv pins s1 σ H1 _ I1 q1) fun w2 s2 ⟨y,H2,I2,ry,q2⟩=>
  thn (hr pins s2 σ H2 _ I2 q2) fun ws s3 ⟨ps,H3,I3,rel,q3⟩=>⟨(x,y)::ps,H3,I3,.cons ⟨rx,ry⟩ rel,q3⟩)
noncomputable def kC(kvs more:List (Key × V)):List (Key × V):=more.foldl (fun acc kv=>qm acc kv.1 kv.2) kvs
theorem KV.merge:∀ {more:List (Key × V)} {rs:List (Key × Value)} {kvs:List (Key × V)} {vs:List (Key × Value)},KV more rs->KV kvs vs->KV (kC kvs more) (merged vs rs):=by
 intro more rs kvs vs r;unfold KV at r
 induction r generalizing kvs vs with
 |nil=>intro q;exact q
 |@cons p q ps qs h t ih=>
  intro r0
  have e:KV (qm kvs p.1 p.2) (stored vs q.1 q.2):=by
   have:=r0.put p.1 h.2;rw[<-h.1];exact this
  exact ih e
theorem gx:∀ (more kvs:List (Key × V)),(kC kvs more).length<=kvs.length+more.length
 |[],kvs=>by show kvs.length<=kvs.length+0;lia
 |p::r,kvs=>by
  have h1:=gx r (qm kvs p.1 p.2);have h2:=qo kvs p.1 p.2;show(kC (qm kvs p.1 p.2) r).length<=_;rw[ZD];lia
theorem kD:∀ {kvs:List (Key × V)} {ws:List (Value × Value)},VV (kvs.map fun kv=>(kV kv.1,kv.2)) ws->∃rs,Carries (bP P w) ws rs/\KV kvs rs
 |[],_,r=>by rw[Z9] at r;cases r;exact⟨[],True.intro,.nil⟩
 |p::kvs,_,r=>by
  rw[Zx] at r;cases r with
  |@cons a b as bs h t=>
   obtain⟨rs,c,q⟩:=kD (P:=P) (w:=w) t;obtain⟨b1,b2⟩:=b;exact⟨(p.1,b2)::rs,⟨Ma h.1,rfl,c⟩,.cons ⟨rfl,h.2⟩ q⟩
def yP(trs:List (TE × TE)):TE:=fun σ H Q=>∀p,H p=none->sG trs σ (upd H p (.dK [])) fun ps H2=>H2 p=some (.dK [])/\∃kvs:List (Key × V),ps=kvs.map (fun kv=>(kV kv.1,kv.2))/\kvs.length<=15/\Q (.ref p) (upd H2 p (.dK (kC [] kvs)))
theorem CC(h:PPs X pos keys values trs)(hall:keys.all (·.isSome)=true)(hl:keys.length=values.length)(h0:keys ≠ [])
  (h15:keys.length<=15):PE X (.Dict keys values pos) (yP trs):=by
 intro pins s σ H Q I q;have hn:=I.hok.fresh (Ze s.heap.objs.size);have I1:=I.laid (a:=s.heap.objs.size) (o:=.dK []) (h':=s.heap.push { cls:=.type "dict", data:=.dict #[] }) (t':=s.toks) (fun _ _ q=>Zk _ q) (Ze _) (qp s.heap I.big);refine wpAny_Dict_walk (knd:=bP X.prog X.w) hall hl h0 h15 (thn (h pins _ σ _ _ I1 (q _ hn)) fun ws s2 ⟨ps,H2,I2,rel,e,kvs,ep,lk,q2⟩=>?_);subst ep;obtain⟨rs,c,rk⟩:=kD (P:=X.prog) (w:=X.w) rel;obtain⟨z,hd,vs0,r0,dd⟩:=Md I2.hok e;cases r0;refine⟨rs,c,dd,fun h' dd' hs=>⟨.ref s.heap.objs.size,_,?_,rfl,q2⟩⟩
 have hz:(kC [] kvs).length<=sizeLine:=by
  have h1:=gx kvs [];rw[Y5] at h1;rw[VX];lia
 have he:∃q,h'.get? s.heap.objs.size=some q:=let ⟨q,_,_,hq,_⟩:=dd';⟨q,hq⟩;exact CA I2 (by rw[e];exact True.intro) hs he (Hq hz hd (rk.merge .nil) dd')
end L2
namespace HT
open PySem PyProof.Rows
open AutoSeq1 (wpAny_loadPart')
section
variable {prog:Program} {w:World} {A:Around} {E:Value->Shared->Prop} {s:Shared}
theorem jP{i:Nat}(hit:s.heap.IsTupleIter it t i)(ht:s.heap.IsTuple t items)(hx:items[i]?=some x)
  (hQ:∀h',h'.IsTupleIter it t (i+1)->Heap.SameBut it s.heap h'->Q x { s with heap:=h' }):wpAny (model prog w) A (Builtin.SmallTypes.nextOf (.ref it)) Q E s:=by
 obtain⟨o,ho,hc,hd⟩:=id hit;obtain⟨ol,hol,_,nl,hdl⟩:=ht;unfold Builtin.SmallTypes.nextOf
 refine Ua (wpAny_callSpecial?_slot (name:=Str.ofString "__next__") hit.typeIs WF
  (Uc WF hit.typeIs Wv ?_ (Wt _)))
 show wpAny _ _ (field (.ref it) 0 >>= _) _ _ s;refine Ua (Uh ho hd (x:=.ref t) rfl ?_);show wpAny _ _ (if (Value.ref t == Value.none)=true then _ else _) _ _ s;rw[if_neg (show ¬ ((Value.ref t == Value.none)=true) from Zd)];show wpAny _ _ (field (.ref it) 1 >>= _) _ _ s;refine Ua (Uh ho hd (x:=.int i 0) rfl ?_);show wpAny _ _ (seqItems? (.ref t) >>= _) _ _ s;refine Ua (wpAny_seqItems hol hdl ?_);simp only[Zp,hx];refine Ua (wpAny_setField ho hd (by simp) (Us ⟨x,rfl,Us (hQ _ ?_ (Heap.SameBut.update ..))⟩))
 exact⟨_,Xa _ ho (Obj.isFreed_of_fields (Obj.data_mapFields hd _)),(Obj.cls_mapFields ..).trans hc,by
  rw[Obj.data_mapFields hd];simp[rawInt]⟩
theorem kE{i:Nat}(hh:A.handled=none)(hit:s.heap.IsTupleIter it t i)(ht:s.heap.IsTuple t items)(hx:items[i]?=none)
  (hE:∀h' e,Heap.ExtBut it s.heap h'->(∃o,h'.get? e=some o/\o.cls = .type "StopIteration")->E (.ref e) { s with heap:=h' }):wpAny (model prog w) A (Builtin.SmallTypes.nextOf (.ref it)) Q E s:=by
 obtain⟨o,ho,hc,hd⟩:=id hit;obtain⟨ol,hol,_,nl,hdl⟩:=ht;unfold Builtin.SmallTypes.nextOf
 refine Ua (wpAny_callSpecial?_slot (name:=Str.ofString "__next__") hit.typeIs WF
  (Uc WF hit.typeIs Wv ?_ (Wt _)))
 show wpAny _ _ (field (.ref it) 0 >>= _) _ _ s;refine Ua (Uh ho hd (x:=.ref t) rfl ?_);show wpAny _ _ (if (Value.ref t == Value.none)=true then _ else _) _ _ s;rw[if_neg (show ¬ ((Value.ref t == Value.none)=true) from Zd)];show wpAny _ _ (field (.ref it) 1 >>= _) _ _ s;refine Ua (Uh ho hd (x:=.int i 0) rfl ?_);show wpAny _ _ (seqItems? (.ref t) >>= _) _ _ s;refine Ua (wpAny_seqItems hol hdl ?_);simp only[Zp,hx];refine Ua (Uy (Ua (wpAny_setField ho hd (by simp) ?_)));show wpAny _ _ (newExc (.type "StopIteration") [] >>= _) _ _ _;refine Ua ?_;simp only[newExc,newTuple];refine Ua (Uq ?_ (by size_fits));refine Ua (m:=firstArgMember _ _) (wpAny_of_eq (a:=Value.none) (by first |rfl |(simp only[firstArgMember];rfl)) ?_);refine Uq ?_ (by size_fits);simp only[raiseNew];refine Ua (wpAny_handled ?_)
 first |rw[show A.in1.handled=none from hh] |rw[hh]
 refine Ua (Us (wpAny_throw ?_));exact hE _ _ (((Heap.SameBut.update ..).extBut.push _).push _) ⟨_,ZE _ rfl,rfl⟩
end
theorem yQ(hh:A.handled=none)(it l:Addr)(hne:l ≠ it)(items:Array Value) :
  Draws prog w A it [it,l] items.size (fun i v=>items[i]?=some v) (fun i h=>h.IsTupleIter it l i/\h.IsTuple l items) where
 live:=fun _ _ st=>let ⟨o,ho,_⟩:=st.1;⟨o,ho⟩
 frame:=fun _ _ _ st hk=>⟨st.1.at fun o e=>hk it (by simp) o e,let ⟨o,e,r⟩:=st.2;⟨o,hk l (by simp) o e,r⟩⟩
 item:=fun i s Q E hi st hQ=>by
  refine jP st.1 st.2 (x:=items[i]) (by simp[hi]) fun h' hit' hs'=>?_;exact hQ _ h' s.toks (by simp[hi]) ⟨hit',let ⟨o,e,r⟩:=st.2;⟨o,hs'.extBut l o hne e,r⟩⟩ hs'
 done:=fun s Q E st hE=>kE hh st.1 st.2 (by simp) hE
theorem qq(l:Addr)(items:Array Value)(n:Nat)(dct:Option Addr)(sl:Array (Option Value)) :
  Meets (Builtin.«enumerate.__new__» ⟨[.type "enumerate", .ref l],[]⟩) (fun _ R s=>s.heap.get? l=some { cls:=.type "tuple", dict:=dct,data:=.seq items n,slots:=sl } ∧
   R (.ok (.ret (.ref (s.heap.push { cls:=.type "tuple_iterator", data:=.fields #[.ref l,.int 0 0] }).objs.size)))
    { s with heap:=(s.heap.push { cls:=.type "tuple_iterator", data:=.fields #[.ref l,.int 0 0] }).push { cls:=.type "enumerate", data:=.fields #[.none,.bool false,.ref s.heap.objs.size,rawInt 0,.none,.none] } }):=
 .of_wp fun prog w A R s h=>by
  obtain⟨hp,g,d,tk,os⟩:=s;obtain⟨hl,h⟩:=h;have hsub:=sub_enumerate;have hL:Heap.IsTuple (Shared.heap ⟨hp,g,d,tk,os⟩) l items:=⟨_,hl,rfl,n,rfl⟩
  wp_walk using Ul hl
  refine wpAny_stack_any fun st=>Us ?_;split
  ·rename_i c _ _ _ _ _;cases (c == Value.type "enumerate")
   ·wp_walk using Ul hl,Uv hL
    exact⟨_,rfl,h⟩
   ·wp_walk using Ul hl,Uv hL
    exact⟨_,rfl,h⟩
  ·wp_walk using Ul hl,Uv hL
   exact⟨_,rfl,h⟩
theorem sH(hL:IsTup s.heap l items)
  (h:∀h',IsEnum h' (s.heap.objs.size+1) s.heap.objs.size 0 .none->h'.IsTupleIter s.heap.objs.size l 0->h'.objs.size=s.heap.objs.size+2 ->
   (∀b o,s.heap.get? b=some o->h'.get? b=some o)->Q (.ref (s.heap.objs.size+1)) { s with heap:=h' }) :
  wpAny (model prog w) A (call (.type "enumerate") [.ref l]) Q E s:=by
 obtain⟨⟨c,dct,dt,sl⟩,hl,hc,n,hd⟩:=hL;replace hc:c = .type "tuple" := hc;replace hd:dt = .seq items n:=hd;subst hc hd
 refine callType_new PySem.F.called_enumerate (by decide) (PySem.F.typeCall_enumerate_1 _) (PySem.F.newCall_enumerate_1 _) (fun obj=>PySem.F.args_object_init_2 obj _) PySem.F.entry_enumerate_new
  (qq l items n dct sl) ⟨hl,?_⟩
 have hz:(s.heap.push { cls:=.type "tuple_iterator", data:=.fields #[.ref l,.int 0 0] }).objs.size=s.heap.objs.size+1:=YA ..;show _/\_;rw[hz]
 have he:IsEnum ((s.heap.push { cls:=.type "tuple_iterator", data:=.fields #[.ref l,.int 0 0] }).push
   { cls:=.type "enumerate", data:=.fields #[.none,.bool false,.ref s.heap.objs.size,rawInt 0,.none,.none] }) (s.heap.objs.size+1) s.heap.objs.size 0 .none:=by
  have:=ZE (s.heap.push { cls:=.type "tuple_iterator", data:=.fields #[.ref l,.int 0 0] })
   (o:={ cls:=.type "enumerate", data:=.fields #[.none,.bool false,.ref s.heap.objs.size,rawInt 0,.none,.none] }) rfl
  rw[hz] at this;exact this
 exact⟨⟨_,he,rfl⟩,h _ he ⟨_,Zk _ (ZE _ rfl),rfl,rfl⟩ (by rw[YA,hz]) fun b o x=>Zk _ (Zk _ x)⟩
end HT
namespace L2
open PySem PySem.Spec PyProof.Rows
noncomputable def Ite(K:W0)(a:Addr)(sq:W0->Hp->Addr->List V->Prop):It:=
 ⟨fun i H=>∃xs x,sq K H a xs/\xs[i]?=some x,fun i H x H'=>∃T,H T=none/\x = .ref T/\∀xs v,sq K H a xs->xs[i]?=some v->H'=upd H T (.tup [.int i,v]),fun i H=>∃xs,sq K H a xs/\xs.length=i⟩
theorem Inv.turnedLaid{X:Cx}{pins:List (Addr × Obj)}{σ:St}{H:Hp}{s:Shared}{h':Heap}{T:Addr}{o:HO}{t':Nat}{ch:List Addr}(I:Inv X pins σ H s)(hf:∀b ∈ ch,gq X pins H b)
  (k:∀b ob,b ∉ ch->s.heap.get? b=some ob->h'.get? b=some ob) (hp:s.heap.objs.size<=T) (new:bf X.prog X.w (upd H T o) h' T o):Inv X pins σ (upd H T o) { s with heap:=h',toks:=t' }:=by
 have fr:=I.hok.fresh hp;have neT:∀b ob,s.heap.get? b=some ob->b ≠ T:=fun b ob e=>ZA (Zu (Zq e) hp)
 refine I.step (g':=s.gens) (d':=s.drawn) (ch:=ch) (fun b hb=>⟨(hf b hb).2.2.2.1,(hf b hb).2.1,(hf b hb).2.2.2.2.1,(hf b hb).2.2.2.2.2⟩) (fun b ob _ _ hc e _=>k b ob hc e) (fun b ob _ _ hc e _=>⟨ob.slots,k b ob hc e⟩)
  (fun b ob _ e n=>by rw[az (neT b ob e)];exact n) (fun b ob hc e=>⟨ob,k b ob hc e⟩) (fun b xs q=>by rw[az (aK q fr)];exact q) (fun b u xs q=>by rw[az (aK q fr)];exact q)
  (fun b ps q=>⟨#[],by rw[az (aK q fr),q];simp⟩) (fun m hm=>?_) (fun b u q=>?_) I.bare
 ·obtain⟨ob,es,ep,ho',r'⟩:=hm;exact⟨ob,es,ep,k _ ob (fun z=>(hf _ z).2.1 rfl) ho',r'⟩
 ·by_cases hb:b=T
  ·subst hb;rw[aH] at q;cases q;exact new
  ·rw[az hb] at q;refine(I.hok b u q).stay (fun c v hc q'=>k c v (fun z=>?_) q') (fun c q=>by rw[az (aK q fr)];exact q) fun c xs q=>by rw[az (aK q fr)];exact q
   have n:=(hf c z).1;rcases hc with w |w
   ·rw[w,q] at n;cases n
   ·rw[w] at n;cases n
theorem Inv.turnedAll{X:Cx}{pins:List (Addr × Obj)}{σ:St}{H:Hp}{s:Shared}{h':Heap}{t':Nat}{ch:List Addr}(I:Inv X pins σ H s)(hf:∀b ∈ ch,gq X pins H b)
  (k:∀b ob,b ∉ ch->s.heap.get? b=some ob->h'.get? b=some ob):Inv X pins σ H { s with heap:=h',toks:=t' }:=by
 refine I.step (g':=s.gens) (d':=s.drawn) (ch:=ch) (fun b hb=>⟨(hf b hb).2.2.2.1,(hf b hb).2.1,(hf b hb).2.2.2.2.1,(hf b hb).2.2.2.2.2⟩) (fun b ob _ _ hc e _=>k b ob hc e) (fun b ob _ _ hc e _=>⟨ob.slots,k b ob hc e⟩)
  (fun b ob _ e n=>n) (fun b ob hc e=>⟨ob,k b ob hc e⟩) (fun b xs q=>q) (fun b u xs q=>q)
  (fun b ps q=>⟨#[],by rw[q];simp⟩) (fun m hm=>?_) (fun b u q=>?_) I.bare
 ·obtain⟨ob,es,ep,ho',r'⟩:=hm;exact⟨ob,es,ep,k _ ob (fun z=>(hf _ z).2.1 rfl) ho',r'⟩
 ·refine(I.hok b u q).stay (fun c v hc q'=>k c v (fun z=>?_) q') (fun c q=>q) fun c xs q=>q;have n:=(hf c z).1;rcases hc with w |w
  ·rw[w,q] at n;cases n
  ·rw[w] at n;cases n
theorem sI{P:Program}{w:World}{K:W0}{elts:List Expr}{x1:Nat}{tp:Pos}(a e it:Addr)(hei:e ≠ it) :
  Turn P w K (.Tuple elts x1 tp) (Ite K a SqL) [e,it] e (fun i h=>(∃old,IsEnum h e it i old)/\h.IsListIter it a i) where
 mem:=by simp
 obj:=fun i h st b hb=>by
  obtain⟨⟨old,he⟩,o,eo,c,d⟩:=st;rcases Zm.mp hb with z |z
  ·subst z;exact⟨_,he,fun v z=>by have z':Data.fields _=Data.cell v:=z;cases z'⟩
  ·have z':=ZG.mp z;subst z';exact⟨o,eo,fun v z=>by rw[d] at z;cases z⟩
 keep:=fun i h h' st k=>⟨let ⟨old,he⟩:=st.1;⟨old,k e (by simp) _ he⟩,st.2.at fun o eo=>k it (by simp) o eo⟩
 item:=by
  intro X hP hw hK hc i pins s σ H E I hf st hg;subst hP hw hK;obtain⟨xs,x,hq,hx⟩:=hg;obtain⟨its,rv,p,hz⟩:=I.list hq;obtain⟨u,hu,ru⟩:=rv.get hx;obtain⟨⟨old,he⟩,hit⟩:=st;have hL:s.heap.IsList a its.toArray:=p.isList
  have hae:e ≠ a:=fun z=>by
   subst z;obtain⟨o,ho,hc',n,hd'⟩:=id hL;rw[he] at ho;cases ho;have z':Data.fields _=Data.seq its.toArray n:=hd';cases z'
  have hai:a ≠ it:=fun z=>by
   subst z;obtain⟨o,ho,hc',n,hd'⟩:=id hL;obtain⟨o',ho',c',d'⟩:=id hit;rw[ho'] at ho;cases ho;rw[d'] at hd';cases hd'
  have hi:i < its.toArray.size:=by
   have:=(Zc.mp hu).1
   simpa using this
  refine Ux (Draws.list (A:=X.A.in1) (I.ok.hd hc) it a hai its.toArray) he ⟨hit,hL⟩ hi hei (by simp[hei,hae]) fun y h' tk hP ho hs' hT hsz hk=>?_
  have ey:y=u:=by
   have z:its.toArray[i]?=some u:=by simpa using hu
   rw[z] at hP;exact(Option.some.inj hP).symm
  subst ey;refine⟨_,rfl,?_⟩;refine Uk ho fun h2 he2 hs2=>?_;have helt:e < s.heap.objs.size:=Zq he;have hilt:it < s.heap.objs.size:=by obtain⟨o,eo,_⟩:=hit;exact Zq eo
  have hT2:h2.get? s.heap.objs.size=some { cls:=.type "tuple", data:=.seq #[.int i tk,y] }:=(hs2.2 _ (XB helt)).trans hT;have fresh:=I.hok.fresh (Ze s.heap.objs.size);refine⟨.ref s.heap.objs.size,upd H s.heap.objs.size (.tup [.int i,x]),?_,rfl,⟨_,fresh,rfl,fun ys v hy hv=>?_⟩,⟨⟨y,by simpa using he2⟩,hs'.1.at fun o eo=>(hs2.2 it (Ne.symm hei)).trans eo⟩,fun b hb=>?_⟩
  ·exact I.turnedLaid (t':=tk+1) hf (fun b ob hb eb=>(hs2.2 b fun z=>hb (by simp[z])).trans (hk b ob (fun z=>hb (by simp[z])) (fun z=>hb (by simp[z])) eb)) (Ze _)
    ⟨by show 2<=sizeLine;decide,[.int i tk,y],.cons ⟨tk,rfl⟩ (.cons ru .nil),⟨_,hT2,rfl,_,rfl,rfl⟩⟩
  ·rw[I.list_inj hy hq,hx] at hv;cases hv;rfl
  ·rcases Zm.mp hb with z |z
   ·rw[z,az (ZA helt)];exact(hf e (by simp)).1
   ·rw[ZG.mp z,az (ZA hilt)];exact(hf it (by simp)).1
 done:=by
  intro X hP hw hK hc i pins s σ H E I hf st hg;subst hP hw hK;obtain⟨xs,hq,hx⟩:=hg;obtain⟨its,rv,p,hz⟩:=I.list hq;obtain⟨⟨old,he⟩,hit⟩:=st;have hL:s.heap.IsList a its.toArray:=p.isList
  have hai:a ≠ it:=fun z=>by
   subst z;obtain⟨o,ho,hc',n,hd'⟩:=id hL;obtain⟨o',ho',c',d'⟩:=id hit;rw[ho'] at ho;cases ho;rw[d'] at hd';cases hd'
  have hn:its.toArray.size=i:=by rw[Zl,<-rv.length,hx]
  subst hn;refine Uw (Draws.list (A:=X.A.in1) (I.ok.hd hc) it a hai its.toArray) he ⟨hit,hL⟩ fun h' eb=>⟨rfl,?_⟩;exact I.turnedAll (t':=s.toks) hf fun b ob hb q=>eb b ob (fun z=>hb (by simp[z])) q
 self:=fun _ _ _ _ _ st h=>let ⟨⟨old,he⟩,_⟩:=st;Ut he h
theorem sJ{P:Program}{w:World}{K:W0}{elts:List Expr}{x1:Nat}{tp:Pos}(a e it:Addr)(hei:e ≠ it) :
  Turn P w K (.Tuple elts x1 tp) (Ite K a SqT) [e,it] e (fun i h=>(∃old,IsEnum h e it i old)/\h.IsTupleIter it a i) where
 mem:=by simp
 obj:=fun i h st b hb=>by
  obtain⟨⟨old,he⟩,o,eo,c,d⟩:=st;rcases Zm.mp hb with z |z
  ·subst z;exact⟨_,he,fun v z=>by have z':Data.fields _=Data.cell v:=z;cases z'⟩
  ·have z':=ZG.mp z;subst z';exact⟨o,eo,fun v z=>by rw[d] at z;cases z⟩
 keep:=fun i h h' st k=>⟨let ⟨old,he⟩:=st.1;⟨old,k e (by simp) _ he⟩,st.2.at fun o eo=>k it (by simp) o eo⟩
 item:=by
  intro X hP hw hK hc i pins s σ H E I hf st hg;subst hP hw hK;obtain⟨xs,x,hq,hx⟩:=hg;obtain⟨its,rv,p,hz⟩:=I.tuple hq;obtain⟨u,hu,ru⟩:=rv.get hx;obtain⟨⟨old,he⟩,hit⟩:=st;have hL:s.heap.IsTuple a its.toArray:=p
  have hae:e ≠ a:=fun z=>by
   subst z;obtain⟨o,ho,hc',n,hd'⟩:=id hL;rw[he] at ho;cases ho;have z':Data.fields _=Data.seq its.toArray n:=hd';cases z'
  have hai:a ≠ it:=fun z=>by
   subst z;obtain⟨o,ho,hc',n,hd'⟩:=id hL;obtain⟨o',ho',c',d'⟩:=id hit;rw[ho'] at ho;cases ho;rw[d'] at hd';cases hd'
  have hi:i < its.toArray.size:=by
   have:=(Zc.mp hu).1
   simpa using this
  refine Ux (HT.yQ (A:=X.A.in1) (I.ok.hd hc) it a hai its.toArray) he ⟨hit,hL⟩ hi hei (by simp[hei,hae]) fun y h' tk hP ho hs' hT hsz hk=>?_
  have ey:y=u:=by
   have z:its.toArray[i]?=some u:=by simpa using hu
   rw[z] at hP;exact(Option.some.inj hP).symm
  subst ey;refine⟨_,rfl,?_⟩;refine Uk ho fun h2 he2 hs2=>?_;have helt:e < s.heap.objs.size:=Zq he;have hilt:it < s.heap.objs.size:=by obtain⟨o,eo,_⟩:=hit;exact Zq eo
  have hT2:h2.get? s.heap.objs.size=some { cls:=.type "tuple", data:=.seq #[.int i tk,y] }:=(hs2.2 _ (XB helt)).trans hT;have fresh:=I.hok.fresh (Ze s.heap.objs.size);refine⟨.ref s.heap.objs.size,upd H s.heap.objs.size (.tup [.int i,x]),?_,rfl,⟨_,fresh,rfl,fun ys v hy hv=>?_⟩,⟨⟨y,by simpa using he2⟩,hs'.1.at fun o eo=>(hs2.2 it (Ne.symm hei)).trans eo⟩,fun b hb=>?_⟩
  ·exact I.turnedLaid (t':=tk+1) hf (fun b ob hb eb=>(hs2.2 b fun z=>hb (by simp[z])).trans (hk b ob (fun z=>hb (by simp[z])) (fun z=>hb (by simp[z])) eb)) (Ze _)
    ⟨by show 2<=sizeLine;decide,[.int i tk,y],.cons ⟨tk,rfl⟩ (.cons ru .nil),⟨_,hT2,rfl,_,rfl,rfl⟩⟩
  ·rw[I.tuple_inj hy hq,hx] at hv;cases hv;rfl
  ·rcases Zm.mp hb with z |z
   ·rw[z,az (ZA helt)];exact(hf e (by simp)).1
   ·rw[ZG.mp z,az (ZA hilt)];exact(hf it (by simp)).1
 done:=by
  intro X hP hw hK hc i pins s σ H E I hf st hg;subst hP hw hK;obtain⟨xs,hq,hx⟩:=hg;obtain⟨its,rv,p,hz⟩:=I.tuple hq;obtain⟨⟨old,he⟩,hit⟩:=st;have hL:s.heap.IsTuple a its.toArray:=p
  have hai:a ≠ it:=fun z=>by
   subst z;obtain⟨o,ho,hc',n,hd'⟩:=id hL;obtain⟨o',ho',c',d'⟩:=id hit;rw[ho'] at ho;cases ho;rw[d'] at hd';cases hd'
  have hn:its.toArray.size=i:=by rw[Zl,<-rv.length,hx]
  subst hn;refine Uw (HT.yQ (A:=X.A.in1) (I.ok.hd hc) it a hai its.toArray) he ⟨hit,hL⟩ fun h' eb=>⟨rfl,?_⟩;exact I.turnedAll (t':=s.toks) hf fun b ob hb q=>eb b ob (fun z=>hb (by simp[z])) q
 self:=fun _ _ _ _ _ st h=>let ⟨⟨old,he⟩,_⟩:=st;Ut he h
def Hr(K:W0)(ta:TA):TI:=fun σ H R=>ta σ H fun vs H1=>∃a xs,vs=[.ref a]/\SqL K H1 a xs/\R (Ite K a SqL) H1
def Me(K:W0)(ta:TA):TI:=fun σ H R=>ta σ H fun vs H1=>∃a xs,vs=[.ref a]/\SqT K H1 a xs/\R (Ite K a SqT) H1
section
variable {X:Cx} {elts:List Expr} {x1:Nat} {tp:Pos}
theorem yR{a:Expr}{ta:TA}{p pos:Pos}(hg:Gl X "enumerate")(hm:X.mg "enumerate" = none)(ha:PA X [a] ta)(hs:VZ [a] X.env=[(false,eval a X.env)]:=by rfl):PI X (.Tuple elts x1 tp) (.Call (.Name "enumerate" p) [a] [] pos) (Hr X.K ta):=by
 intro pins s σ H R I h;refine Call_ (gF I hg hm Wg (Wn (thn (ha pos pins s σ H _ I h) fun us s1 ⟨vs,H1,I1,r1,q1⟩=>?_) hs rfl));obtain⟨l,xs,e,hl,q⟩:=q1;subst e;obtain⟨u,rfl,ru⟩:=cF r1;cases ru;obtain⟨its,rv,pl,hz⟩:=I1.list hl;refine call_enumerate_list pl.isList fun h' he hit hsz hk=>Ut he ?_;have I2:Inv X pins σ H1 { s1 with heap:=h' }:=I1.kept (t':=s1.toks) hk;have fr:∀b,s1.heap.objs.size<=b->gq X pins H1 b:=fun b hb=>I1.fpOk hb (I1.hok.fresh hb);refine⟨_,[s1.heap.objs.size+1,s1.heap.objs.size],_,_,H1,rfl,I2,sI l _ _ (XN _),⟨⟨_,he⟩,hit⟩,fun b hb=>?_,q⟩;rcases Zm.mp hb with z |z
 ·rw[z];exact fr _ (Yt _)
 ·rw[ZG.mp z];exact fr _ (Ze _)
theorem Ht{a:Expr}{ta:TA}{p pos:Pos}(hg:Gl X "enumerate")(hm:X.mg "enumerate" = none)(ha:PA X [a] ta)(hs:VZ [a] X.env=[(false,eval a X.env)]:=by rfl):PI X (.Tuple elts x1 tp) (.Call (.Name "enumerate" p) [a] [] pos) (Me X.K ta):=by
 intro pins s σ H R I h;refine Call_ (gF I hg hm Wg (Wn (thn (ha pos pins s σ H _ I h) fun us s1 ⟨vs,H1,I1,r1,q1⟩=>?_) hs rfl));obtain⟨l,xs,e,hl,q⟩:=q1;subst e;obtain⟨u,rfl,ru⟩:=cF r1;cases ru;obtain⟨its,rv,pl,hz⟩:=I1.tuple hl;refine HT.sH pl fun h' he hit hsz hk=>Ut he ?_;have I2:Inv X pins σ H1 { s1 with heap:=h' }:=I1.kept (t':=s1.toks) hk;have fr:∀b,s1.heap.objs.size<=b->gq X pins H1 b:=fun b hb=>I1.fpOk hb (I1.hok.fresh hb);refine⟨_,[s1.heap.objs.size+1,s1.heap.objs.size],_,_,H1,rfl,I2,sJ l _ _ (XN _),⟨⟨_,he⟩,hit⟩,fun b hb=>?_,q⟩;rcases Zm.mp hb with z |z
 ·rw[z];exact fr _ (Yt _)
 ·rw[ZG.mp z];exact fr _ (Ze _)
end
section
variable {X:Cx}
theorem qr:aM X (.type "range") (fun xs H Q=>∃j:Int,xs=[.int j]/\∀p,H p=none->Q (.ref p) (upd H p (.rng 0 j))):=by
 intro pins s σ H xs us Q I r h;obtain⟨j,rfl,q⟩:=h;obtain⟨u,rfl,ru⟩:=cF r;obtain⟨t,rfl⟩:=ru;exact call_range_1 ⟨.ref s.heap.objs.size,_,I.laid (t':=s.toks+1+1) (o:=.rng 0 j) (fun b o e=>Zk _ e) (Ze _) ⟨_,_,_,ZE _ rfl⟩,rfl,q _ (I.hok.fresh (Ze _))⟩
theorem oU(hc:X.calm=true):aM X (.type "list") (fun xs H Q=>∃ (p:Addr) (n:Nat),xs=[.ref p]/\H p=some (.rng 0 n)/\n<=1000/\∀l,H l=none->Q (.ref l) (upd H l (.lst ((Zj n).map fun(i:Nat)=>V.int i)))):=by
 intro pins s σ H xs us Q I r h;obtain⟨p,n,rfl,hp,hn,q⟩:=h;obtain⟨u,rfl,ru⟩:=cF r;cases ru;obtain⟨t,u,v,e⟩:=(show bf X.prog X.w H s.heap p (.rng 0 n) from I.hok p _ hp);exact kB hc I e hn q
end
section
variable {X:Cx}
def F0(i j k:Nat)(ta:TA):TS:=fun D σ H=>ta σ H fun vs H1=>∃v w z,vs=[v,w,z]/\D.nx (((σ.set i (some v)).set j (some w)).set k (some z)) H1
theorem CD{i j k:Nat}{kt k2 pt2}(hc:X.calm=true)(hN:X.N.Nodup)(hi:X.N[i]?=some x)(hj:X.N[j]?=some y)(hk:X.N[k]?=some z)(hij:i ≠ j)(hik:i ≠ k)(hjk:j ≠ k)
  (hx:X.env.scope.names.lookup x=some .local) (hy:X.env.scope.names.lookup y=some .local) (hz:X.env.scope.names.lookup z=some .local) (ha:PA X [a,b,c] ta)
  (hw:V1 [.Tuple [.Name x px,.Name y py,.Name z pz] kt pt] (.Tuple [a,b,c] k2 pt2) X.env=pure (some [x,y,z]))
  (hs:V3 [.Tuple [.Name x px,.Name y py,.Name z pz] kt pt] (.Tuple [a,b,c] k2 pt2) pos.line X.env=pure false:=by rfl) :
  PS X (.Assign [.Tuple [.Name x px,.Name y py,.Name z pz] kt pt] (.Tuple [a,b,c] k2 pt2) pos) (F0 i j k ta):=by
 intro pins s σ H D I h;rw[exec_Assign_arm];refine Ua (Uz ?_);rw[hs];refine Ua (Us ?_);rw[if_neg (by decide)];refine Ua (Tuple_ (thn (ha _ pins s σ H _ I h) fun us s1 ⟨vs,H1,I1,r1,q1⟩=>?_));obtain⟨v,w,z',e1,q1⟩:=q1;subst e1
 obtain⟨u1,u2,u3,rfl,rv,rw',rz⟩:∃u1 u2 u3,us=[u1,u2,u3]/\aF v u1/\aF w u2/\aF z' u3:=by
  cases r1 with
  |cons p q=>
   cases q with
   |cons p' q'=>
    cases q' with
    |cons p'' q''=>
     cases q'';exact⟨_,_,_,rfl,p,p',p''⟩
 refine Uq ?_ (by show 3<=sizeLine;decide);have I2:Inv X pins σ H1 { s1 with heap:=s1.heap.push { cls:=.type "tuple", data:=.seq [u1,u2,u3].toArray } }:=I1.kept (t':=s1.toks) fun b o e=>Zk _ e;rw[hw];refine Ua (Us ?_);show wpAny (model X.prog X.w) X.A (do rule "assign.swapped-stores"; let items <-unpackItems (.ref s1.heap.objs.size) 3 none;Vp [fun v=>Vs X.env z v,fun v=>Vs X.env y v,fun v=>Vs X.env x v] items.reverse;pure Flow.next) _ _ _;refine Ua (Uy (Ua (unpackItems_tuple (items:=#[u1,u2,u3]) (I.ok.hd hc) (IsTup.new s1.heap _) fun h' hx'=>?_)));have I3:=I2.kept (h':=h') (t':=s1.toks) fun b o e=>hx' b o (ZA (Zq e)) e;show wpAny _ _ (Vp [fun v=>Vs X.env z v,fun v=>Vs X.env y v,fun v=>Vs X.env x v] [u3,u2,u1] >>= fun _=>pure Flow.next) _ _ _;refine Ua (assignInOrder_cons (Ub (ci I3 hN hk (.inl hz) rz (fun s2 I4=>?_) (.inr hz))));refine assignInOrder_cons (Ub (ci I4 hN hj (.inl hy) rw' (fun s3 I5=>?_) (.inr hy)));refine assignInOrder_cons (Ub (ci I5 hN hi (.inl hx) rv (fun s4 I6=>assignInOrder_nil (Us ?_)) (.inr hx)));refine⟨_,H1,?_,q1⟩;rw[YZ _ _ (Ne.symm hjk),YZ _ _ (Ne.symm hik),YZ (some w) (some v) (Ne.symm hij)] at I6;exact I6
end
noncomputable def gI:List Str->Bool
 |[]=>true
 |x::r=>!r.contains x && gI r
theorem fk:∀ {l:List Str},gI l=true->l.Nodup
 |[],_=>X5
 |x::r,h=>by
  unfold gI at h;rw[bAE] at h;refine Ye.mpr ⟨fun m=>?_,fk h.2⟩;have:=h.1;simp[m] at this
noncomputable def cmB(own:List Str)(hs:List Nat)(N:List Str)(scope sc:Scope):Bool:=
 (scope.kind == .function) && gI (cP hs N++own) && gI (scope.names.map (·.1)) && ((cP hs N).all fun x=>scope.names.lookup x != some .local && scope.names.lookup x != some .cell) &&
 (scope.names.all fun y=>y.2 != .free || (sc.names.lookup y.1 == some .cell || sc.names.lookup y.1 == some .free)) && hs.all fun i=>(scope.names.lookup (yH i)).isNone
theorem yS(hs:List Nat)(h:cmB own hs N scope sc=true):CmScope own hs N scope sc:=by
 unfold cmB at h;simp only[bAE,ZJ] at h;obtain⟨⟨⟨⟨⟨h1,h2⟩,h3⟩,h4⟩,h5⟩,h6⟩:=h;refine⟨by simpa using h1,fk h2,fk h3,fun x hx=>?_,fun y hy hk=>?_,fun i hi=>by simpa using h6 i hi⟩
 ·have:=h4 x hx
  simpa using this
 ·have:=h5 y hy;rw[hk] at this
  simpa using this
section
variable {X:Cx} {tg l a:Expr} {tl:TE} {ta:TA} {es:List Expr} {t:TGs} {p pos:Pos} {n k:Nat} {elts:List Expr} {x1:Nat} {tp:Pos} {o e:Expr} {to:TE} {tt:TA} {name:Str} {apos cpos:Pos}
def F1(K:W0):List V->Hp->VK->Prop:=fun xs H Q=>∃x n t b,xs=[x,.ty n]/\TyOf K H x t/\Vf K t (.type n)=some b/\Q (.bl b) H
theorem oV(K:W0)(hK:X.K=K:=by rfl):aM X (.builtin "isinstance") (F1 K):=hK ▸ ql
end
theorem yT(hk:PE X k tk)(hv:PE X v tv):PE X (.Dict [some k] [v] pos) (yP [(tk,tv)]):=CC (yO hk hv CB) rfl rfl (by simp) (by simp)
theorem gJ:∀ {xs:List V} {us:List Value},aJ xs us->xs.all bD=true->us.countP (eqU x)=xs.countP fun y=>eqV y x
 |_,_,.nil,_=>rfl
 |y::xs,u::us,.cons r t,f=>by
  rw[Z8,bAE] at f;rw[YJ,YJ,oO r f.1,gJ t f.2]
section
variable {X:Cx}
def CF(K:W0):V->List V->Hp->VK->Prop:=fun x vs H Q=>∃p xs y,x = .ref p/\vs=[y]/\SqT K H p xs/\bD y=true/\xs.all bD=true/\Q (.int ((xs.countP fun z=>eqV z y:Nat):Int)) H
theorem wD(K:W0)(hK:X.K=K:=by rfl):MtR X "tuple.count" (CF K):=by
 subst hK;intro pins s σ H x vs v us Q I rx rv h;obtain⟨p,xs,y,rfl,rfl,hq,fy,fs,q⟩:=h;cases rx;obtain⟨u,rfl,ru⟩:=rv.one;obtain⟨its,r,⟨⟨cls,dd,data,sl⟩,e,hc,n,hd⟩,hz⟩:=I.tuple hq;simp only at hc hd;subst hc hd;refine Vv WE ⟨_,e,rfl⟩ F.entry_tuple_count (F.args_tuple_count_2 _ _) (SeqAt.tuple_countAt p its.toArray n dd sl u (eqU y)) ⟨e,fun w hw=>cj ru fy r fs w (by simpa using hw),?_⟩;refine⟨.int _,H,I.tok _,⟨_,rfl⟩,?_⟩
 have z:(its.toArray.toList.countP (eqU y))=xs.countP fun z=>eqV z y:=by
  rw[Xl];exact gJ r fs
 rw[z];exact q
end
end L2
namespace Dw
open PySem PySem.Spec PyProof.Rows L2
inductive D where
 |non |bl (b:Bool) |int (i:Int) |str (x:Str) |tup (ds:List D) |lst (ds:List D) |dic (ks:List Key) (ds:List D)
mutual
def Br(N:List Addr)(H:Hp):D->V->Prop
 |.non,v=>v = .non
 |.bl b,v=>v = .bl b
 |.int i,v=>v = .int i
 |.str x,v=>v = .str x
 |.tup ds,v=>∃a xs,v = .ref a/\H a=some (.tup xs)/\BrL N H ds xs
 |.lst ds,v=>∃a xs,v = .ref a/\a ∉ N/\H a=some (.lst xs)/\BrL N H ds xs
 |.dic ks ds,v=>∃a xs,v = .ref a/\a ∉ N/\H a=some (.dK (ks.zip xs))/\ks.length=ds.length/\BrL N H ds xs
def BrL(N:List Addr)(H:Hp):List D->List V->Prop
 |[],xs=>xs=[]
 |d::ds,xs=>∃x r,xs=x::r/\Br N H d x/\BrL N H ds r
end
mutual
noncomputable def dep:D->Nat
 |.tup ds=>mI ds+1
 |.lst ds=>mI ds+1
 |.dic _ ds=>mI ds+1
 |_=>0
noncomputable def mI:List D->Nat
 |[]=>0
 |d::ds=>max (dep d) (mI ds)
end
mutual
noncomputable def wid:D->Nat
 |.tup ds=>max ds.length (yU ds)
 |.lst ds=>max ds.length (yU ds)
 |.dic _ ds=>max ds.length (yU ds)
 |_=>0
noncomputable def yU:List D->Nat
 |[]=>0
 |d::ds=>max (wid d) (yU ds)
end
theorem BrL.len:∀ {ds:List D} {xs:List V},BrL N H ds xs->xs.length=ds.length
 |[],_,h=>by simp only[BrL] at h;rw[h];rfl
 |d::ds,_,h=>by
  simp only[BrL] at h;obtain⟨x,r,rfl,_,h2⟩:=h;rw[ZD,ZD,BrL.len h2]
noncomputable def isB:D->Bool |.bl _=>true |_=>false
noncomputable def isW(d:D):Bool:=match d with |.int _=>true |_=>false
noncomputable def gK(d:D)(a b:Int):Bool:=match d with |.int i=>decide (a<=i) && decide (i<=b) |_=>false
noncomputable def isT(d:D)(a b:Int):Bool:=match d with |.tup ds=>decide (a<=(ds.length:Int)) && decide ((ds.length:Int)<=b) |_=>false
theorem Hu(ds:List D)(n:Nat):isT (.tup ds) n n=decide (ds.length=n):=by
 unfold isT;rw[Z1];simp;omega
theorem m9{α:Type}(n:Nat)(f:Nat->List α):(Zj (n+1)).flatMap f=(Zj n).flatMap f++f n:=by
 rw[Y6,Xm];simp
theorem uM{α:Type}{n m:Nat}{f:Nat->List α}(h:∀i,i < n->(f i).length<=m):((Zj n).flatMap f).length<=n * m:=by
 induction n with
 |zero=>simp
 |succ n ih=>
  rw[m9,Zh];have:=ih fun i hi=>h i (by omega);have:=h n (by omega);rw[Wb];omega
theorem Hv(ds:List D):isT (.tup ds) 2 2=decide (ds.length=2):=Hu ds 2
theorem Hw(h:ds.length=2):∃b e,ds=[b,e]:=by
 match ds,h with
 |[b,e],_=>exact⟨b,e,rfl⟩
noncomputable def gu(ds:List D)(lo hi:Option Int):List D:=(ds.drop (HT.sIx ds.length 0 lo)).take (HT.sIx ds.length ds.length hi - HT.sIx ds.length 0 lo)
structure Fit(n m:Nat)(d:D):Prop where
 de:dep d<=n
 wi:wid d<=m
theorem Hx(n:Nat)(a:Int)(h0:0<=a):HT.sIx n 0 (some a)=min a.toNat n:=by
 show(if a < 0 then (a+(n:Int)).toNat else min a.toNat n)=_;rw[if_neg (by omega)]
theorem yV(n:Nat)(a:Int)(h0:0<=a):HT.sIx n n (some a)=min a.toNat n:=by
 show(if a < 0 then (a+(n:Int)).toNat else min a.toNat n)=_;rw[if_neg (by omega)]
noncomputable def bZ(q:Int × Int):D:=.tup [.int q.1,.int q.2]
noncomputable def mg2(M:List (List Int))(i j:Nat):Int:=(((M[i]?).getD [])[j]?).getD 0
structure Mat(n:Nat)(M:List (List Int)):Prop where
 len:M.length=n
 row:∀r ∈ M,r.length=n
 ent:∀r ∈ M,∀x ∈ r,1<=x/\x<=99
theorem Mat.at{n:Nat}(h:Mat n M){i j:Nat}(hi:i < n)(hj:j < n):∃r,M[i]?=some r/\r.length=n/\r[j]?=some (mg2 M i j)/\1<=mg2 M i j/\mg2 M i j<=99:=by
 have hi':i < M.length:=by rw[h.len];exact hi
 have e1:M[i]?=some M[i]:=gEG hi';have hr:=h.row _ (ZC hi');have hj':j < M[i].length:=by omega
 have e2:mg2 M i j=M[i][j]:=by unfold mg2;rw[e1,ZR,gEG hj',ZR]
 have:=h.ent _ (ZC hi') _ (ZC hj');exact⟨M[i],e1,hr,by rw[e2,gEG hj'],by omega,by omega⟩
def nc(n k:Nat)(M:List (List Int)):Prop:=∀a b q,a < n->b < n->q < k->mg2 M a b<=mg2 M a q+mg2 M q b
theorem yW{n k:Nat}(h:Mat n M)(hk:k < n)(ht:nc n k M)(hm:∀i j,i < n->j < n->mg2 M' i j=min (mg2 M i j) (mg2 M i k+mg2 M k j)):nc n (k+1) M':=by
 intro a b q ha hb hq;have hqn:q < n:=by omega
 obtain⟨_,_,_,_,p1,_⟩:=h.at ha hb;obtain⟨_,_,_,_,p2,_⟩:=h.at ha hk;obtain⟨_,_,_,_,p3,_⟩:=h.at hk hb;obtain⟨_,_,_,_,p4,_⟩:=h.at hk hk;obtain⟨_,_,_,_,p5,_⟩:=h.at ha hqn;obtain⟨_,_,_,_,p6,_⟩:=h.at hqn hb;obtain⟨_,_,_,_,p7,_⟩:=h.at hk hqn;obtain⟨_,_,_,_,p8,_⟩:=h.at hqn hk;rw[hm a b ha hb,hm a q ha hqn,hm q b hqn hb];by_cases e:q=k
 ·subst e;omega
 ·have hq':q < k:=by omega
  have t1:=ht a b q ha hb hq';have t2:=ht k b q hk hb hq';have t3:=ht a k q ha hk hq';omega
noncomputable def yX(M:List (List Int)):List D:=M.map fun r=>.tup (r.map .int)
noncomputable def bv(M:List (List Int))(n c i:Nat):List Int:=(Zj n).map fun j=>if mg2 M i c+mg2 M c j < mg2 M i j then mg2 M i c+mg2 M c j else mg2 M i j
theorem kF(M:List (List Int))(n c i:Nat):(bv M n c i).length=n:=by unfold bv;rw[Za,ZK]
theorem qt(M:List (List Int)){n c i j:Nat}(hj:j < n):(bv M n c i)[j]?=some (if mg2 M i c+mg2 M c j < mg2 M i j then mg2 M i c+mg2 M c j else mg2 M i j):=by
 unfold bv;rw[Zn,YE hj];rfl
theorem CG{n c:Nat}(h:Mat n M)(hc:c < n):∀i j,i < n->j < n->mg2 ((Zj n).map (bv M n c)) i j=min (mg2 M i j) (mg2 M i c+mg2 M c j):=fun i j hi hj=>by
 have e:mg2 ((Zj n).map (bv M n c)) i j=if mg2 M i c+mg2 M c j < mg2 M i j then mg2 M i c+mg2 M c j else mg2 M i j:=by
  show((((Zj n).map (bv M n c))[i]?.getD [])[j]?).getD 0=_;rw[Zn,YE hi];show((bv M n c i)[j]?).getD 0=_;rw[qt M hj];rfl
 rw[e];split <;> omega
theorem yY{n c:Nat}(h:Mat n M)(hc:c < n):Mat n ((Zj n).map (bv M n c)):=by
 refine⟨by rw[Za,ZK],fun r hr=>?_,fun r hr x hx=>?_⟩
 ·obtain⟨u,_,rfl⟩:=ZH.mp hr;exact kF M n c u
 ·obtain⟨u,hu,rfl⟩:=ZH.mp hr;rw[Z2] at hu;unfold bv at hx;obtain⟨j,hj,rfl⟩:=ZH.mp hx;rw[Z2] at hj;obtain⟨_,_,_,_,p1,q1⟩:=h.at hu hj;obtain⟨_,_,_,_,p2,q2⟩:=h.at hu hc;obtain⟨_,_,_,_,p3,q3⟩:=h.at hc hj;split <;> omega
theorem c9:∀ (n:Nat) (l:List Int),l.Nodup->(∀x ∈ l,0<=x/\x < (n:Int))->l.length<=n
 |0,l,_,h=>by
  cases l with
  |nil=>exact Ze _
  |cons x l=>have:=h x Zi;lia
 |n+1,l,nd,h=>by
  by_cases hm:(n:Int) ∈ l
  ·have ih:=c9 n (l.erase n) (nd.erase _) fun x hx=>by
    have h1:=h x (List.mem_of_mem_erase hx);have h2:x ≠ (n:Int):=fun e=>(List.Nodup.not_mem_erase nd) (e ▸ hx)
    lia
   rw[List.length_erase_of_mem hm] at ih;have:=List.length_pos_of_mem hm
   lia
  ·have ih:=c9 n l nd fun x hx=>by
    have h1:=h x hx;have h2:x ≠ (n:Int):=fun e=>hm (e ▸ hx)
    lia
   lia
noncomputable def uN:Key->PyData
 |.inl i=>.int i
 |.inr x=>.str x
mutual
noncomputable def aQ:D->PyData
 |.non=>.none
 |.bl b=>.bool b
 |.int i=>.int i
 |.str x=>.str x
 |.tup ds=>.tuple (bg ds)
 |.lst ds=>.list (bg ds)
 |.dic ks ds=>.dict ((ks.map uN).zip (bg ds))
noncomputable def bg:List D->List PyData
 |[]=>[]
 |d::ds=>aQ d::bg ds
end
theorem wG:∀ds:List D,(bg ds).length=ds.length
 |[]=>by simp[bg]
 |d::ds=>by simp[bg,wG ds]
mutual
def shw:D->Prop
 |.int i=>i.natAbs.log2 < 1920
 |.tup ds=>kG ds
 |.lst ds=>kG ds
 |.dic _ _=>False
 |_=>True
def kG:List D->Prop
 |[]=>True
 |d::ds=>shw d/\kG ds
end
section
variable {P:Program} {w:World} {N:List Addr} {H:Hp} {h:Heap}
mutual
theorem fm(ok:HOk P w H h):∀ (d:D) {v:V} {u:Value},Br N H d v->aF v u->shw d->∃as,Reads h u (aQ d) as
 |.non,v,u,b,r,hs=>by simp only[Br] at b;subst b;cases r;exact⟨_,by simp only[aQ];exact .none⟩
 |.bl x,v,u,b,r,hs=>by simp only[Br] at b;subst b;cases r;exact⟨_,by simp only[aQ];exact .bool _⟩
 |.int i,v,u,b,r,hs=>by simp only[Br] at b;subst b;obtain⟨t,rfl⟩:=r;exact⟨_,by simp only[aQ];exact .int _ _⟩
 |.str x,v,u,b,r,hs=>by simp only[Br] at b;subst b;obtain⟨t,rfl⟩:=r;exact⟨_,by simp only[aQ];exact .str _ _⟩
 |.tup ds,v,u,b,r,hs=>by
  simp only[Br] at b;obtain⟨a,xs,rfl,ha,hx⟩:=b;cases r;obtain⟨_,its,rv,o,e,c,n,q,_⟩:=ok a _ ha;obtain⟨as,z⟩:=iQ ok ds hx rv (by simpa only[shw] using hs);simp only[aQ];exact⟨_,.tuple e c q (by simpa using z)⟩
 |.lst ds,v,u,b,r,hs=>by
  simp only[Br] at b;obtain⟨a,xs,rfl,_,ha,hx⟩:=b;cases r;obtain⟨_,its,n,rv,e⟩:=ok a _ ha;obtain⟨as,z⟩:=iQ ok ds hx rv (by simpa only[shw] using hs);simp only[aQ];exact⟨_,.list e rfl rfl (by simpa using z)⟩
 |.dic ks ds,v,u,b,r,hs=>by simp only[shw] at hs
theorem iQ(ok:HOk P w H h):∀ (ds:List D) {xs:List V} {us:List Value},BrL N H ds xs->aJ xs us->kG ds->∃as,ReadsAll h us (bg ds) as
 |[],xs,us,b,r,_=>by simp only[BrL] at b;subst b;cases r;exact⟨_,by simp only[bg];exact .nil⟩
 |d::ds,xs,us,b,r,hs=>by
  simp only[BrL] at b;obtain⟨x,l,rfl,h1,h2⟩:=b;cases r with
  |cons r1 r2=>
   obtain⟨as,z1⟩:=fm ok d h1 r1 (by simp only[kG] at hs;exact hs.1);obtain⟨bs,z2⟩:=iQ ok ds h2 r2 (by simp only[kG] at hs;exact hs.2);simp only[bg];exact⟨_,.cons z1 z2⟩
end
mutual
theorem CH(ok:HOk P w H h):∀ (d:D) {v:V} {u:Value},Br N H d v->aF v u->shw d->(aQ d).shown.length<=sizeLine->∃bs,ReadAtMost h (aQ d).depth bs/\ReprK P w bs h (aQ d).depth u (aQ d).shown
 |.non,v,u,b,r,_,_=>by simp only[Br] at b;subst b;cases r;exact⟨[],(fun _ m=>nomatch m),by simp only[aQ,WO];exact .of_is ReprIs.none _ _ _⟩
 |.bl x,v,u,b,r,_,_=>by simp only[Br] at b;subst b;cases r;exact⟨[],(fun _ m=>nomatch m),by simp only[aQ,WO];exact .of_is (ReprIs.bool _) _ _ _⟩
 |.int i,v,u,b,r,hs,_=>by simp only[Br] at b;subst b;obtain⟨t,rfl⟩:=r;exact⟨[],(fun _ m=>nomatch m),by simp only[aQ,WO];exact .of_is (ReprIs.int t (by simpa only[shw] using hs)) _ _ _⟩
 |.str x,v,u,b,r,_,hz=>by simp only[Br] at b;subst b;obtain⟨t,rfl⟩:=r;exact⟨[],(fun _ m=>nomatch m),by simp only[aQ,WO] at hz ⊢;exact .of_is (ReprIs.str x t hz) _ _ _⟩
 |.tup ds,v,u,b,r,hs,hz=>by
  obtain⟨as,whole⟩:=fm ok (.tup ds) b r hs;simp only[Br] at b;obtain⟨a,xs,rfl,ha,hx⟩:=b;cases r;obtain⟨_,its,rv,o,e,c,n,q,_⟩:=ok a _ ha;simp only[aQ,WO,WL] at hz whole ⊢;obtain⟨bs,m,k⟩:=fo ok ds hx rv (by simpa only[shw] using hs) fun t ht=>ZF (tupleText_mem_le ht) hz;have out:a ∉ bs:=VP whole (by simp only[WL];lia) m;have mm:=ReadAtMost.cons whole (by simp only[WL];lia) m;simp only[WL] at mm;exact⟨a::bs,mm,ReprK.tuple e c q out (by simpa using k)⟩
 |.lst ds,v,u,b,r,hs,hz=>by
  obtain⟨as,whole⟩:=fm ok (.lst ds) b r hs;simp only[Br] at b;obtain⟨a,xs,rfl,_,ha,hx⟩:=b;cases r;obtain⟨_,its,n,rv,e⟩:=ok a _ ha;simp only[aQ,WO,WL] at hz whole ⊢;obtain⟨bs,m,k⟩:=fo ok ds hx rv (by simpa only[shw] using hs) fun t ht=>ZF (listText_mem_le ht) hz;have out:a ∉ bs:=VP whole (by simp only[WL];lia) m;have mm:=ReadAtMost.cons whole (by simp only[WL];lia) m;simp only[WL] at mm;refine⟨a::bs,mm,?_⟩;cases its with
  |nil=>
   cases k':WQ (bg ds) with
   |nil=>simp only[listText_nil];exact ReprK.listEmpty e rfl rfl
   |cons _ _=>rw[k'] at k;cases k
  |cons y l=>exact ReprK.list e rfl rfl out (by simpa using k.length_eq) (fun i y' q'=>k.item i y' (by simpa using q'))
 |.dic ks ds,v,u,b,r,hs,hz=>by simp only[shw] at hs
theorem fo(ok:HOk P w H h):∀ (ds:List D) {xs:List V} {us:List Value},BrL N H ds xs->aJ xs us->kG ds->(∀t ∈ WQ (bg ds),t.length<=sizeLine)->∃bs,ReadAtMost h (WM (bg ds)) bs/\ReprAllK P w bs h (WM (bg ds)) us (WQ (bg ds))
 |[],xs,us,b,r,_,_=>by simp only[BrL] at b;subst b;cases r;exact⟨[],(fun _ m=>nomatch m),by simp only[bg,WQ];exact .nil⟩
 |d::ds,xs,us,b,r,hs,hz=>by
  simp only[BrL] at b;obtain⟨x,l,rfl,h1,h2⟩:=b;cases r with
  |cons r1 r2=>
   simp only[bg,WQ,WM,kG] at hz hs ⊢;obtain⟨b1,m1,k1⟩:=CH ok d h1 r1 hs.1 (hz _ Zi);obtain⟨b2,m2,k2⟩:=fo ok ds h2 r2 hs.2 fun t ht=>hz t (Zg _ ht);refine⟨b1++b2,(m1.mono (XZ _ _)).append (m2.mono (XQ _ _)),?_⟩;exact .cons ((k1.more fun b z=>Yl _ z).level_le (XZ _ _)) (k2.more_le (fun b z=>Zz _ z) (XQ _ _))
end
end
section
variable {X:Cx}
structure Shn(d:D):Prop where
 sh:shw d
 sz:(aQ d).shown.length<=sizeLine
 dp:(aQ d).depth<=100
def Hy:List V->Hp->VK->Prop:=fun xs H Q=>∃x N d,xs=[x]/\Br N H d x/\Shn d/\Q (.str (aQ d).shown) H
theorem sK{k:Nat}(hr:Room k X.A):aM X (.builtin "repr") Hy:=by
 intro pins s σ H xs us Q I r h;obtain⟨x,N,d,rfl,b,⟨hs,hz,hd⟩,q⟩:=h;obtain⟨u,rfl,ru⟩:=cF r;have hun:=hr.un;have hu1:X.A.units+1 < cLine:=by lia
 have gd1:X.A.in1.guards=some []:=hr.gd;have fin:∀h' t tk,(∀b o,s.heap.get? b=some o->h'.get? b=some o)->∃x' t',Value.str (aQ d).shown t=Value.str x' t'/\EP X pins σ Q (Value.str (aQ d).shown t) { s with heap:=h',toks:=tk }:=fun h' t tk hk=>⟨_,_,rfl,.str _,H,I.kept (t':=tk) hk,⟨t,rfl⟩,q⟩;cases d with
 |non=>
  simp only[Br] at b;subst b;cases ru;exact P.repr_of_none ⟨.str _,H,I.tok _,⟨_,rfl⟩,by simpa only[aQ,WO] using q⟩
 |bl y=>
  simp only[Br] at b;subst b;cases ru;exact P.repr_of_bool ⟨.str _,H,I.tok _,⟨_,rfl⟩,by simpa only[aQ,WO] using q⟩
 |int i=>
  simp only[Br] at b;subst b;obtain⟨t,rfl⟩:=ru;exact P.repr_of_int (by simpa only[shw] using hs) ⟨.str _,H,I.tok _,⟨_,rfl⟩,by simpa only[aQ,WO] using q⟩
 |str y=>
  simp only[Br] at b;subst b;obtain⟨t,rfl⟩:=ru;exact P.repr_of_str ⟨.str _,H,I.tok _,⟨_,rfl⟩,by simpa only[aQ,WO] using q⟩ (by simpa only[aQ,WO] using hz)
 |tup ds=>
  obtain⟨as,whole⟩:=fm I.hok (.tup ds) b ru hs;simp only[Br] at b;obtain⟨a,ys,rfl,ha,hx⟩:=b;cases ru;obtain⟨_,its,rv,o,e,c,n,q',_⟩:=I.hok a _ ha;simp only[aQ,WO,WL] at hz whole hd fin;obtain⟨bs,m,k'⟩:=fo I.hok ds hx rv (by simpa only[shw] using hs) fun t ht=>ZF (tupleText_mem_le ht) hz;have out:a ∉ bs:=VP whole (by simp only[WL];lia) m;refine call_repr_slot hu1 ⟨o,e,c⟩ F.slot_tuple_repr ?_;exact call_tuple_reprK e c q' out (by simpa using k') gd1 (fun b _=>Clear.nil b) (by show X.A.units+1+(_+1) < cLine;lia) (fun _ _ z=>z) (fun h' t tk hk=>fin h' t tk hk) hz
 |lst ds=>
  obtain⟨as,whole⟩:=fm I.hok (.lst ds) b ru hs;simp only[Br] at b;obtain⟨a,ys,rfl,_,ha,hx⟩:=b;cases ru;obtain⟨_,its,n,rv,e⟩:=I.hok a _ ha;simp only[aQ,WO,WL] at hz whole hd fin;obtain⟨bs,m,k'⟩:=fo I.hok ds hx rv (by simpa only[shw] using hs) fun t ht=>ZF (listText_mem_le ht) hz;have out:a ∉ bs:=VP whole (by simp only[WL];lia) m;refine call_repr_slot hu1 ⟨_,e,rfl⟩ F.slot_list_repr.toG ?_;cases its with
  |nil=>
   cases k2:WQ (bg ds) with
   |nil=>
    rw[k2] at fin;simp only[listText_nil] at fin;exact call_list_repr_empty ⟨_,e,rfl⟩ e rfl (fin s.heap _ _ fun _ _ z=>z)
   |cons _ _=>rw[k2] at k';cases k'
  |cons y l=>
   exact call_list_reprK e rfl rfl out (by simpa using k'.length_eq) (fun i y' q2=>k'.item i y' (by simpa using q2)) gd1 (fun b _=>Clear.nil b) (by show X.A.units+1+(_+1) < cLine;lia) (fun _ _ z=>z) (fun h' t tk hk=>fin h' t tk hk) hz
 |dic ks ds=>simp only[shw] at hs
end
mutual
noncomputable def sz:D->Nat
 |.non=>10
 |.bl _=>10
 |.int _=>60
 |.str x=>(reprText x).length
 |.tup ds=>szL ds+4
 |.lst ds=>szL ds+4
 |.dic ks ds=>szL ds+62 * ks.length+4
noncomputable def szL:List D->Nat
 |[]=>0
 |d::ds=>sz d+2+szL ds
end
mutual
def bnd(B:Nat):D->Prop
 |.int i=>i.natAbs < B
 |.tup ds=>jQ B ds
 |.lst ds=>jQ B ds
 |.dic _ _=>False
 |_=>True
def jQ(B:Nat):List D->Prop
 |[]=>True
 |d::ds=>bnd B d/\jQ B ds
end
theorem Hz{i:Int}(h:i.natAbs < 10 ^ 50):i.natAbs.log2 < 1920:=by
 by_cases z:i.natAbs=0
 ·rw[z];decide
 ·have:i.natAbs.log2 < 167:=(Wf z).mpr (Zu h (by decide))
  lia
mutual
theorem uO:∀ (d:D),bnd (10 ^ 50) d->shw d
 |.non,_=>by simp only[shw]
 |.bl _,_=>by simp only[shw]
 |.str _,_=>by simp only[shw]
 |.int i,h=>by simp only[shw,bnd] at h ⊢;exact Hz h
 |.tup ds,h=>by simp only[shw,bnd] at h ⊢;exact kH ds h
 |.lst ds,h=>by simp only[shw,bnd] at h ⊢;exact kH ds h
 |.dic ks ds,h=>by simp only[bnd] at h
theorem kH:∀ (ds:List D),jQ (10 ^ 50) ds->kG ds
 |[],_=>by simp only[kG]
 |d::ds,h=>by simp only[kG,jQ] at h ⊢;exact⟨uO d h.1,kH ds h.2⟩
end
theorem uQ:∀ (ts:List Str) (k:Nat) (acc:Str),(V5 k acc ts).length<=acc.length+piled ts
 |[],k,acc=>by show acc.length<=_;lia
 |t::r,k,acc=>by
  have ih:=uQ r (k+1) (acc++(if k > 0 then ", " else "" : String)++t);show(V5 (k+1) (acc++(if k > 0 then ", " else "" : String)++t) r).length<=_;rw[piled_cons]
  have e:(acc++(if k > 0 then ", " else "" : String)++t).length<=acc.length+2+t.length:=by
   rw[V0,V0];have:(Str.ofString (if k > 0 then ", " else "" : String)).length<=2:=by split <;> decide
   lia
  lia
theorem CJ(ts:List Str):(Str.join ", " ts).length<=piled ts:=by
 cases ts with
 |nil=>decide
 |cons t r=>have:=join_length_add (t::r) (by simp);lia
theorem CK(ts:List Str):(listText ts).length<=piled ts+4:=by
 unfold listText;rw[V0];have h1:=uQ ts 0 "[";have h2:(Str.ofString "[").length=1:=by decide
 have h3:(Str.ofString "]").length=1:=by decide
 have h1':(V5 0 (Str.ofString "[") ts).length<=(Str.ofString "[").length+piled ts:=h1;show(V5 0 (Str.ofString "[") ts).length+(Str.ofString "]").length<=_
 lia
theorem yZ(ts:List Str):(tupleText ts).length<=piled ts+4:=by
 unfold tupleText;rw[V0,V0];have h1:=CJ ts;have h2:(Str.ofString "(").length=1:=by decide
 have h3:(Str.ofString (if ts.length == 1 then ",)" else ")" : String)).length<=2:=by split <;> decide
 show(Str.ofString "(").length+_+(Str.ofString (if ts.length == 1 then ",)" else ")" : String)).length<=_
 lia
theorem HA{i:Int}(h:i.natAbs < 10 ^ 50):(Str.ofString (toString i)).length<=51:=by
 rw[ofString_len];exact int_text_length_le10 (by decide) h
theorem oW:∀ds:List PyData,(WQ ds).length=ds.length
 |[]=>by simp[WQ]
 |d::ds=>by simp[WQ,oW ds]
mutual
theorem qv:∀ (d:D),bnd (10 ^ 50) d->(aQ d).shown.length<=sz d
 |.non,_=>by simp only[aQ,WO,sz];decide
 |.bl b,_=>by simp only[aQ,WO,sz];cases b <;> decide
 |.int i,h=>by
  simp only[aQ,WO,sz,bnd] at h ⊢;have:=HA h;show(Str.ofString (toString i)).length<=60
  lia
 |.str x,_=>by simp only[aQ,WO,sz];exact Ze _
 |.tup ds,h=>by
  simp only[aQ,WO,sz,bnd] at h ⊢;have:=iR ds h;have:=yZ (WQ (bg ds))
  lia
 |.lst ds,h=>by
  simp only[aQ,WO,sz,bnd] at h ⊢;have:=iR ds h;have:=CK (WQ (bg ds))
  lia
 |.dic ks ds,h=>by simp only[bnd] at h
theorem iR:∀ (ds:List D),jQ (10 ^ 50) ds->piled (WQ (bg ds))<=szL ds
 |[],_=>by simp[bg,WQ,piled,szL]
 |d::ds,h=>by
  simp only[bg,WQ,szL,jQ,piled_cons] at h ⊢;have h1:=qv d h.1;have h2:=iR ds h.2
  lia
end
theorem qw:∀ (ks:List Key) (ds:List PyData),WN ((ks.map uN).zip ds)<=WM ds
 |[],ds=>by simp[WN]
 |k::ks,[]=>by simp[WN]
 |k::ks,d::ds=>by
  have ih:=qw ks ds;simp only[Zx,List.zip_cons_cons,WN,WM];have:(uN k).depth=0:=by cases k <;> simp[uN,WL]
  rw[this]
  lia
mutual
theorem qx:∀ (d:D),(aQ d).depth<=dep d
 |.non=>by simp[aQ,WL]
 |.bl _=>by simp[aQ,WL]
 |.int _=>by simp[aQ,WL]
 |.str _=>by simp[aQ,WL]
 |.tup ds=>by simp only[aQ,WL,dep];have:=fZ ds;lia
 |.lst ds=>by simp only[aQ,WL,dep];have:=fZ ds;lia
 |.dic ks ds=>by
  simp only[aQ,WL,dep];have:=fZ ds;have:=qw ks (bg ds)
  lia
theorem fZ:∀ (ds:List D),WM (bg ds)<=mI ds
 |[]=>by simp[bg,WM,mI]
 |d::ds=>by
  simp only[bg,WM,mI];have:=qx d;have:=fZ ds
  lia
end
structure Bd(B s:Nat)(d:D):Prop where
 bn:bnd B d
 sz:sz d<=s
mutual
theorem y7{B B':Nat}(h:B<=B'):∀ (d:D),bnd B d->bnd B' d
 |.non,_=>by simp only[bnd]
 |.bl _,_=>by simp only[bnd]
 |.str _,_=>by simp only[bnd]
 |.int i,z=>by simp only[bnd] at z ⊢;lia
 |.tup ds,z=>by simp only[bnd] at z ⊢;exact oX h ds z
 |.lst ds,z=>by simp only[bnd] at z ⊢;exact oX h ds z
 |.dic ks ds,z=>by simp only[bnd] at z
theorem oX{B B':Nat}(h:B<=B'):∀ (ds:List D),jQ B ds->jQ B' ds
 |[],_=>by simp only[jQ]
 |d::ds,z=>by simp only[jQ] at z ⊢;exact⟨y7 h d z.1,oX h ds z.2⟩
end
theorem Bd.shn{B s:Nat}(h:Bd B s d)(hB:B<=10 ^ 50)(hs:s<=sizeLine)(hd:dep d<=100):Shn d:=
 have b:=y7 hB d h.bn
 ⟨uO d b,ZF (qv d b) (ZF h.sz hs),ZF (qx d) hd⟩
end Dw
namespace Ev
open PySem PySem.Spec PyProof.Rows L2
inductive D where
 |non |bl (b:Bool) |int (i:Int) |str (x:Str) |tup (ds:List D) |ref (n:Nat)
inductive Ob where
 |lst (ds:List D) |frz (ds:List D) |dic (ks:List Key) (ds:List D)
abbrev Sto:=List Ob
abbrev Rho:=List (Option D)
mutual
def VD(K:W0)(m:List Addr)(H:Hp):D->V->Prop
 |.non,v=>v = .non
 |.bl b,v=>v = .bl b
 |.int i,v=>v = .int i
 |.str x,v=>v = .str x
 |.tup ds,v=>∃a xs,v = .ref a/\H a=some (.tup xs)/\VDs K m H ds xs
 |.ref n,v=>∃a,m[n]?=some a/\v = .ref a
def VDs(K:W0)(m:List Addr)(H:Hp):List D->List V->Prop
 |[],xs=>xs=[]
 |d::ds,xs=>∃x r,xs=x::r/\VD K m H d x/\VDs K m H ds r
end
structure Ext(m:List Addr)(H:Hp)(m':List Addr)(H':Hp):Prop where
 pre:m <+: m'
 keep:∀a o,H a=some o->a ∉ m->H' a=some o
 new:∀a,a ∈ m'->a ∉ m->H a=none
def ObR(K:W0)(m:List Addr)(H:Hp)(a:Addr):Ob->Prop
 |.lst ds=>∃vs,H a=some (.lst vs)/\VDs K m H ds vs
 |.frz ds=>∃o vs,H a=some (.frz o (.lst vs))/\VDs K m H ds vs
 |.dic ks ds=>∃vs,H a=some (.dK (ks.zip vs))/\ks.length=ds.length/\VDs K m H ds vs
structure Rel(K:W0)(m:List Addr)(S:Sto)(H:Hp):Prop where
 len:m.length=S.length
 nd:m.Nodup
 ob:∀ (i:Nat) (o:Ob),S[i]?=some o->∃a,m[i]?=some a/\ObR K m H a o
structure EnvR(K:W0)(m:List Addr)(H:Hp)(ρ:Rho)(σ:L2.St):Prop where
 len:ρ.length=σ.length
 at_:∀ (i:Nat) (d:D),ρ[i]?=some (some d)->∃v,σ[i]?=some (some v)/\VD K m H d v
theorem Ext.refl(m:List Addr)(H:Hp):Ext m H m H:=⟨Z7 m,fun _ _ h _=>h,fun _ h n=>absurd h n⟩
theorem Ext.trans(x:Ext m H m1 H1)(y:Ext m1 H1 m2 H2):Ext m H m2 H2:=by
 refine⟨x.pre.trans y.pre,fun a o h n=>?_,fun a h n=>?_⟩
 ·have n1:a ∉ m1:=fun z=>by have:=x.new a z n;rw[this] at h;cases h
  exact y.keep a o (x.keep a o h n) n1
 ·by_cases h1:a ∈ m1
  ·exact x.new a h1 n
  ·cases e:H a with
   |none=>rfl
   |some o=>
    have:=x.keep a o e n;rw[y.new a h h1] at this;cases this
section
variable {K:W0} {m m':List Addr} {S S':Sto} {H H':Hp} {a:Addr}
theorem Rel.ex(R:Rel K m S H)(ha:a ∈ m):∃o ob,H a=some o/\ObR K m H a ob:=by
 obtain⟨i,hi,e⟩:=List.getElem_of_mem ha;have hi':i < S.length:=by rw[<-R.len];exact hi
 obtain⟨b,hb,r⟩:=R.ob i S[i] (gEG hi');have:b=a:=by rw[gEG hi] at hb;rw[<-e];exact(Option.some.inj hb).symm
 subst this;cases hS:S[i] with
 |lst ds=>rw[hS] at r;obtain⟨vs,h,q⟩:=r;exact⟨_,.lst ds,h,vs,h,q⟩
 |frz ds=>rw[hS] at r;obtain⟨o,vs,h,q⟩:=r;exact⟨_,.frz ds,h,o,vs,h,q⟩
 |dic ks ds=>rw[hS] at r;obtain⟨vs,h,q⟩:=r;exact⟨_,.dic ks ds,h,vs,h,q⟩
theorem Rel.no(R:Rel K m S H)(h:H a=none):a ∉ m:=fun z=>by
 obtain⟨o,_,e,_⟩:=R.ex z;rw[h] at e;cases e
theorem Rel.notTup(R:Rel K m S H)(h:H a=some (.tup xs)):a ∉ m:=fun z=>by
 obtain⟨o,ob,e,r⟩:=R.ex z;cases ob with
 |lst ds=>obtain⟨vs,q,_⟩:=r;rw[q] at h;cases h
 |frz ds=>obtain⟨o,vs,q,_⟩:=r;rw[q] at h;cases h
 |dic ks ds=>obtain⟨vs,q,_⟩:=r;rw[q] at h;cases h
theorem Tup.ext(R:Rel K m S H)(x:Ext m H m' H')(h:H a=some (.tup xs)):H' a=some (.tup xs):=x.keep _ _ h (R.notTup h)
theorem jX{i:Nat}(h:m <+: m')(e:m[i]?=some a):m'[i]?=some a:=by
 obtain⟨t,rfl⟩:=h;have hi:i < m.length:=(Zc.mp e).1;rw[Zw hi];exact e
mutual
theorem VD.mono0(pre:m <+: m')(tk:∀a xs,H a=some (.tup xs)->H' a=some (.tup xs)):∀ {d:D} {v:V},VD K m H d v->VD K m' H' d v
 |.non,v,h=>by rw[VD] at h ⊢;exact h
 |.bl _,v,h=>by rw[VD] at h ⊢;exact h
 |.int _,v,h=>by rw[VD] at h ⊢;exact h
 |.str _,v,h=>by rw[VD] at h ⊢;exact h
 |.tup ds,v,h=>by
  rw[VD] at h ⊢;obtain⟨a,xs,e,q,r⟩:=h;exact⟨a,xs,e,tk a xs q,VDs.mono0 pre tk r⟩
 |.ref n,v,h=>by
  rw[VD] at h ⊢;obtain⟨a,q,e⟩:=h;exact⟨a,jX pre q,e⟩
theorem VDs.mono0(pre:m <+: m')(tk:∀a xs,H a=some (.tup xs)->H' a=some (.tup xs)):∀ {ds:List D} {vs:List V},VDs K m H ds vs->VDs K m' H' ds vs
 |[],vs,h=>by rw[VDs] at h ⊢;exact h
 |d::ds,vs,h=>by
  rw[VDs] at h ⊢;obtain⟨y,r,e,p,q⟩:=h;exact⟨y,r,e,VD.mono0 pre tk p,VDs.mono0 pre tk q⟩
end
theorem VD.mono(R:Rel K m S H)(x:Ext m H m' H')(h:VD K m H d v):VD K m' H' d v:=VD.mono0 x.pre (fun _ _=>Tup.ext R x) h
theorem VDs.mono(R:Rel K m S H)(x:Ext m H m' H')(h:VDs K m H ds vs):VDs K m' H' ds vs:=VDs.mono0 x.pre (fun _ _=>Tup.ext R x) h
theorem EnvR.mono(R:Rel K m S H)(x:Ext m H m' H')(h:EnvR K m H ρ σ):EnvR K m' H' ρ σ:=
 ⟨h.len,fun i d e=>let ⟨v,p,q⟩:=h.at_ i d e;⟨v,p,VD.mono R x q⟩⟩
theorem VDs.length:∀ {ds:List D} {vs:List V},VDs K m H ds vs->ds.length=vs.length
 |[],vs,h=>by rw[VDs] at h;rw[h];rfl
 |d::ds,vs,h=>by
  rw[VDs] at h;obtain⟨y,r,e,_,q⟩:=h;rw[e,ZD,ZD,VDs.length q]
theorem VDs.nil:VDs K m H [] []:=by rw[VDs]
theorem VDs.cons(h:VD K m H d v)(t:VDs K m H ds vs):VDs K m H (d::ds) (v::vs):=by rw[VDs];exact⟨v,vs,rfl,h,t⟩
theorem VDs.get:∀ {ds:List D} {vs:List V} {i:Nat} {d:D},VDs K m H ds vs->ds[i]?=some d->∃v,vs[i]?=some v/\VD K m H d v
 |[],_,_,_,_,e=>by simp at e
 |d::ds,vs,0,d',h,e=>by
  rw[VDs] at h;obtain⟨y,r,rfl,p,q⟩:=h;simp at e;subst e;exact⟨y,rfl,p⟩
 |d::ds,vs,i+1,d',h,e=>by
  rw[VDs] at h;obtain⟨y,r,rfl,p,q⟩:=h;obtain⟨v,p1,p2⟩:=VDs.get (i:=i) q (by simpa using e);exact⟨v,by simpa using p1,p2⟩
theorem VDs.append:∀ {ds es:List D} {vs ws:List V},VDs K m H ds vs->VDs K m H es ws->VDs K m H (ds++es) (vs++ws)
 |[],_,vs,_,h,t=>by rw[VDs] at h;subst h;exact t
 |d::ds,es,vs,ws,h,t=>by
  rw[VDs] at h;obtain⟨y,r,rfl,p,q⟩:=h;exact .cons p (VDs.append q t)
theorem VDs.drop:∀ {ds:List D} {vs:List V} (n:Nat),VDs K m H ds vs->VDs K m H (ds.drop n) (vs.drop n)
 |ds,vs,0,h=>h
 |[],vs,n+1,h=>by rw[VDs] at h;subst h;exact .nil
 |d::ds,vs,n+1,h=>by
  rw[VDs] at h;obtain⟨y,r,rfl,p,q⟩:=h;exact VDs.drop n q
theorem VDs.take:∀ {ds:List D} {vs:List V} (n:Nat),VDs K m H ds vs->VDs K m H (ds.take n) (vs.take n)
 |ds,vs,0,h=>by simp only[List.take_zero];exact .nil
 |[],vs,n+1,h=>by rw[VDs] at h;subst h;exact .nil
 |d::ds,vs,n+1,h=>by
  rw[VDs] at h;obtain⟨y,r,rfl,p,q⟩:=h;exact .cons p (VDs.take n q)
theorem VDs.set:∀ {ds:List D} {vs:List V} {i:Nat} {d:D} {v:V},VDs K m H ds vs->VD K m H d v->VDs K m H (ds.set i d) (vs.set i v)
 |[],vs,_,_,_,h,_=>by rw[VDs] at h;subst h;exact .nil
 |_::ds,vs,0,d,v,h,p=>by
  rw[VDs] at h;obtain⟨y,r,rfl,_,q⟩:=h;exact .cons p q
 |_::ds,vs,i+1,d,v,h,p=>by
  rw[VDs] at h;obtain⟨y,r,rfl,p',q⟩:=h;exact .cons p' (VDs.set q p)
theorem Ext.beside(R:Rel K m S H)(h:H a=none)(o:HO):Ext m H m (upd H a o):=
 ⟨Z7 m,fun b u e _=>by rw[az (aK e h)];exact e,fun b z n=>absurd z n⟩
theorem Rel.ext_keep(R:Rel K m S H)(x:Ext m H m H')(k:∀b ∈ m,H' b=H b):Rel K m S H':=by
 refine⟨R.len,R.nd,fun i o e=>?_⟩;obtain⟨b,hb,r⟩:=R.ob i o e;have hm:b ∈ m:=Zf hb;refine⟨b,hb,?_⟩;cases o with
 |lst ds=>obtain⟨vs,p,q⟩:=r;exact⟨vs,(k b hm).trans p,VDs.mono R x q⟩
 |frz ds=>obtain⟨o,vs,p,q⟩:=r;exact⟨o,vs,(k b hm).trans p,VDs.mono R x q⟩
 |dic ks ds=>obtain⟨vs,p,l,q⟩:=r;exact⟨vs,(k b hm).trans p,l,VDs.mono R x q⟩
theorem Rel.beside(R:Rel K m S H)(h:H a=none)(o:HO):Rel K m S (upd H a o):=
 R.ext_keep (Ext.beside R h o) fun b hb=>az fun z=>R.no h (z ▸ hb)
theorem Rel.adopt(R:Rel K m S H)(n:a ∉ m)(h:H a=some (.lst vs))(q:VDs K m H ds vs):Rel K (m++[a]) (S++[.lst ds]) H:=by
 have p:=Yv m [a];have g:∀ {es:List D} {ws:List V},VDs K m H es ws->VDs K (m++[a]) H es ws:=fun z=>VDs.mono0 p (fun _ _ t=>t) z;refine⟨by simp[R.len],XD.mpr ⟨R.nd,by simp,fun x hx y hy=>by simp at hy;subst hy;exact fun z=>n (z ▸ hx)⟩,fun i o e=>?_⟩;by_cases hi:i < S.length
 ·rw[Zw hi] at e;obtain⟨b,hb,r⟩:=R.ob i o e;refine⟨b,jX p hb,?_⟩;cases o with
  |lst ds=>obtain⟨vs,p,q⟩:=r;exact⟨vs,p,g q⟩
  |frz ds=>obtain⟨o,vs,p,q⟩:=r;exact⟨o,vs,p,g q⟩
  |dic ks ds=>obtain⟨vs,p,l,q⟩:=r;exact⟨vs,p,l,g q⟩
 ·rw[Zt (by lia)] at e
  have hz:i - S.length=0:=by
   have:=(Zc.mp e).1;simp at this;lia
  rw[hz] at e;have e':Ob.lst ds=o:=by simpa using e
  subst e';refine⟨a,?_,vs,h,g q⟩;rw[Zt (by rw[R.len];lia),R.len,hz];rfl
theorem Ext.adopt(x:Ext m H m H')(h:H a=none):Ext m H (m++[a]) H':=
 ⟨Yv m [a],x.keep,fun b hb nb=>by
  rcases Zy.mp hb with z |z
  ·exact absurd z nb
  ·simp at z;subst z;exact h⟩
theorem Rel.write(R:Rel K m S H){i:Nat}(hi:m[i]?=some a)(q:VDs K m H ds vs):Ext m H m (upd H a (.lst vs))/\Rel K m (S.set i (.lst ds)) (upd H a (.lst vs)):=by
 have hm:a ∈ m:=Zf hi;have x:Ext m H m (upd H a (.lst vs)):=⟨Z7 m,fun b u e n=>by rw[az (show b ≠ a from fun z=>n (by rw[z];exact hm))];exact e,fun b z n=>absurd z n⟩;refine⟨x,by simp[R.len],R.nd,fun j o e=>?_⟩;rw[Yz] at e;by_cases hj:i=j
 ·subst hj;rw[if_pos rfl] at e;split at e
  ·have e':=Option.some.inj e;subst e';exact⟨a,hi,vs,aH,VDs.mono R x q⟩
  ·cases e
 ·rw[if_neg hj] at e;obtain⟨b,hb,r⟩:=R.ob j o e
  have ne:b ≠ a:=fun z=>by
   subst z;have h1:=Zc.mp hi;have h2:=Zc.mp hb;exact hj ((YI R.nd).mp (h1.2.trans h2.2.symm))
  refine⟨b,hb,?_⟩;cases o with
  |lst es=>obtain⟨ws,p,q⟩:=r;exact⟨ws,by rw[az ne];exact p,VDs.mono R x q⟩
  |frz es=>obtain⟨o,ws,p,q⟩:=r;exact⟨o,ws,by rw[az ne];exact p,VDs.mono R x q⟩
  |dic ks es=>obtain⟨ws,p,l,q⟩:=r;exact⟨ws,by rw[az ne];exact p,l,VDs.mono R x q⟩
theorem Rel.lst(R:Rel K m S H){i:Nat}(e:S[i]?=some (.lst ds)):∃a vs,m[i]?=some a/\H a=some (.lst vs)/\VDs K m H ds vs:=by
 obtain⟨a,ha,vs,p,q⟩:=R.ob i _ e;exact⟨a,vs,ha,p,q⟩
end
noncomputable def am(S:Sto)(n:Nat):Option (List D):=match S[n]? with
 |some (.lst ds)=>some ds
 |some (.frz ds)=>some ds
 |_=>none
theorem Rel.seq{K:W0}{m:List Addr}{S:Sto}{H:Hp}(R:Rel K m S H){i:Nat}{ds:List D}(e:am S i=some ds):∃a vs,m[i]?=some a/\SqL K H a vs/\VDs K m H ds vs:=by
 unfold am at e;cases h:S[i]? with
 |none=>rw[h] at e;cases e
 |some o=>
  rw[h] at e;cases o with
  |lst es=>cases e;obtain⟨a,ha,vs,p,q⟩:=R.ob i _ h;exact⟨a,vs,ha,.inl (.inl p),q⟩
  |frz es=>cases e;obtain⟨a,ha,o,vs,p,q⟩:=R.ob i _ h;exact⟨a,vs,ha,.inl (.inr ⟨o,p⟩),q⟩
  |dic ks es=>cases e
abbrev XE:=Rho->Sto->Option (D × Sto)
abbrev XT:=Rho->Sto->Option (Bool × Sto)
abbrev XA:=Rho->Sto->Option (List D × Sto)
def bnd{α β:Type}(x:Option (α × Sto))(f:α->Sto->Option (β × Sto)):Option (β × Sto):=match x with
 |none=>none
 |some (a,S)=>f a S
theorem af{α β:Type}{x:Option (α × Sto)}{f:α->Sto->Option (β × Sto)}{r:β × Sto}(h:bnd x f=some r):∃a S,x=some (a,S)/\f a S=some r:=by
 unfold bnd at h;cases x with
 |none=>cases h
 |some p=>exact⟨p.1,p.2,rfl,h⟩
structure Aft(K:W0)(m:List Addr)(H:Hp)(S':Sto)(m':List Addr)(H':Hp):Prop where
 ext:Ext m H m' H'
 rel:Rel K m' S' H'
def tE(K:W0)(x:XE):TE:=fun σ H Q=>∃m ρ S d S',EnvR K m H ρ σ/\Rel K m S H/\x ρ S=some (d,S')/\∀m' H' v,Aft K m H S' m' H'->VD K m' H' d v->Q v H'
def tT(K:W0)(x:XT):TT:=fun σ H Q=>∃m ρ S b S',EnvR K m H ρ σ/\Rel K m S H/\x ρ S=some (b,S')/\∀m' H',Aft K m H S' m' H'->Q b H'
def tAr(K:W0)(x:XA):TA:=fun σ H Q=>∃m ρ S ds S',EnvR K m H ρ σ/\Rel K m S H/\x ρ S=some (ds,S')/\∀m' H' vs,Aft K m H S' m' H'->VDs K m' H' ds vs->Q vs H'
def SqB(K:W0)(tu:Bool)(H:Hp)(a:Addr)(vs:List V):Prop:=if tu=true then H a=some (.tup vs) else SqL K H a vs
def ek(K:W0)(x:XA):TE:=fun σ H Q=>∃m ρ S ds S',EnvR K m H ρ σ/\Rel K m S H/\x ρ S=some (ds,S')/\∀m' H' a vs,Aft K m H S' m' H'->H' a=some (.lst vs)->a ∉ m'->(∀b,b ∈ m->b ≠ a)->H a=none->VDs K m' H' ds vs->Q (.ref a) H'
section
variable {X:Cx} {e:Expr} {K:W0} {m m1 m2:List Addr} {H H1 H2:Hp} {S S1 S2:Sto}
theorem PE.imp(h:PE X e t)(f:∀σ H Q,t' σ H Q->t σ H Q):PE X e t':=fun pins s σ H Q I q=>h pins s σ H Q I (f σ H Q q)
theorem PT.imp(h:PT X e t)(f:∀σ H Q,t' σ H Q->t σ H Q):PT X e t':=fun pins s σ H Q I q=>h pins s σ H Q I (f σ H Q q)
theorem PA.imp(h:PA X es t)(f:∀σ H Q,t' σ H Q->t σ H Q):PA X es t':=fun p pins s σ H Q I q=>h p pins s σ H Q I (f σ H Q q)
theorem PS.imp{st:Stmt}{t t':TS}(h:PS X st t)(f:∀D σ H,t' D σ H->t D σ H):PS X st t':=fun pins s σ H D I q=>h pins s σ H D I (f D σ H q)
theorem PSs.imp{st:List Stmt}{t t':TS}(h:PSs X st t)(f:∀D σ H,t' D σ H->t D σ H):PSs X st t':=fun pins s σ H D I q=>h pins s σ H D I (f D σ H q)
theorem PI.imp(h:PI X tg it t)(f:∀σ H Q,t' σ H Q->t σ H Q):PI X tg it t':=fun pins s σ H Q I q=>h pins s σ H Q I (f σ H Q q)
theorem PI.or(h:PI X tg it t)(h':PI X tg it t'):PI X tg it (fun σ H Q=>t σ H Q\/t' σ H Q):=fun pins s σ H Q I q=>q.elim (h pins s σ H Q I) (h' pins s σ H Q I)
theorem OpR.imp(h:OpR X f r)(g:∀x y H Q,r' x y H Q->r x y H Q):OpR X f r':=fun pins s σ H x y v u Q I rx ry q=>h pins s σ H x y v u Q I rx ry (g _ _ _ _ q)
theorem OpR.or(h:OpR X f r)(h':OpR X f r'):OpR X f (fun x y H Q=>r x y H Q\/r' x y H Q):=fun pins s σ H x y v u Q I rx ry q=>
 q.elim (h pins s σ H x y v u Q I rx ry) (h' pins s σ H x y v u Q I rx ry)
theorem aM.imp(h:aM X f r)(g:∀x H Q,r' x H Q->r x H Q):aM X f r':=fun pins s σ H xs us Q I rx q=>h pins s σ H xs us Q I rx (g _ _ _ q)
theorem aM.or(h:aM X f r)(h':aM X f r'):aM X f (fun x H Q=>r x H Q\/r' x H Q):=fun pins s σ H xs us Q I rx q=>
 q.elim (h pins s σ H xs us Q I rx) (h' pins s σ H xs us Q I rx)
theorem Aft.refl(R:Rel K m S H):Aft K m H S m H:=⟨Ext.refl m H,R⟩
theorem Aft.trans(x:Aft K m H S1 m1 H1)(y:Aft K m1 H1 S2 m2 H2):Aft K m H S2 m2 H2:=⟨x.ext.trans y.ext,y.rel⟩
def rS(K:W0)(f:D->D->Sto->Option (D × Sto)):R2:=fun v w H Q=>∃m S a b d S',Rel K m S H/\VD K m H a v/\VD K m H b w/\f a b S=some (d,S')/\∀m' H' u,Aft K m H S' m' H'->VD K m' H' d u->Q u H'
def rS1(K:W0)(f:D->Sto->Option (D × Sto)):V->Hp->VK->Prop:=fun v H Q=>∃m S a d S',Rel K m S H/\VD K m H a v/\f a S=some (d,S')/\∀m' H' u,Aft K m H S' m' H'->VD K m' H' d u->Q u H'
def rSA(K:W0)(f:List D->Sto->Option (D × Sto)):List V->Hp->VK->Prop:=fun vs H Q=>∃m S as d S',Rel K m S H/\VDs K m H as vs/\f as S=some (d,S')/\∀m' H' u,Aft K m H S' m' H'->VD K m' H' d u->Q u H'
def rSq(K:W0)(f:Bool->List D->Sto->Option (D × Sto)):V->Hp->VK->Prop:=fun v H Q=>∃m S tu ds a vs d S',Rel K m S H/\v = .ref a/\SqB K tu H a vs/\VDs K m H ds vs/\f tu ds S=some (d,S')/\∀m' H' u,Aft K m H S' m' H'->VD K m' H' d u->Q u H'
noncomputable def qy(f:D->D->Sto->Option (D × Sto))(x y:XE):XE:=fun ρ S=>bnd (x ρ S) fun a S1=>bnd (y ρ S1) fun b S2=>f a b S2
noncomputable def xUn(f:D->Sto->Option (D × Sto))(x:XE):XE:=fun ρ S=>bnd (x ρ S) fun a S1=>f a S1
noncomputable def jR(f:List D->Sto->Option (D × Sto))(x:XA):XE:=fun ρ S=>bnd (x ρ S) fun a S1=>f a S1
noncomputable def qz(f:Bool->List D->Sto->Option (D × Sto))(x:XA):XE:=fun ρ S=>bnd (x ρ S) fun ds S1=>f false ds S1
noncomputable def al(d:D)(S:Sto):Option (Bool × List D):=match d with
 |.tup ds=>some (true,ds)
 |.ref n=>(am S n).map fun ds=>(false,ds)
 |_=>none
noncomputable def au(f:Bool->List D->Sto->Option (D × Sto))(d:D)(S:Sto):Option (D × Sto):=match al d S with
 |some r=>f r.1 r.2 S
 |none=>none
noncomputable def qA(f:Bool->List D->Sto->Option (D × Sto))(x:XE):XE:=fun ρ S=>bnd (x ρ S) fun d S1=>au f d S1
theorem oY{f:D->D->Sto->Option (D × Sto)}{x y:XE}{σ:L2.St}{H:Hp}{Q:VK}(h:tE K (qy f x y) σ H Q):tOp (rS K f) (tE K x) (tE K y) σ H Q:=by
 obtain⟨m,ρ,S,d,S',E,R,e,q⟩:=h;obtain⟨a,S1,e1,e⟩:=af e;obtain⟨b,S2,e2,e⟩:=af e;refine⟨m,ρ,S,a,S1,E,R,e1,fun m1 H1 v A1 va=>⟨m1,ρ,S1,b,S2,E.mono R A1.ext,A1.rel,e2,fun m2 H2 w A2 vb=>?_⟩⟩;exact⟨m2,S2,a,b,d,S',A2.rel,va.mono A1.rel A2.ext,vb,e,fun m3 H3 u A3 vd=>q m3 H3 u ((A1.trans A2).trans A3) vd⟩
theorem y8{f:D->Sto->Option (D × Sto)}{x:XE}{σ:L2.St}{H:Hp}{Q:VK}(h:tE K (xUn f x) σ H Q):tUn (rS1 K f) (tE K x) σ H Q:=by
 obtain⟨m,ρ,S,d,S',E,R,e,q⟩:=h;obtain⟨a,S1,e1,e⟩:=af e;exact⟨m,ρ,S,a,S1,E,R,e1,fun m1 H1 v A1 va=>⟨m1,S1,a,d,S',A1.rel,va,e,fun m3 H3 u A3 vd=>q m3 H3 u (A1.trans A3) vd⟩⟩
theorem y9{f:List D->Sto->Option (D × Sto)}{x:XA}{σ:L2.St}{H:Hp}{Q:VK}(h:tE K (jR f x) σ H Q):tCB (rSA K f) (tAr K x) σ H Q:=by
 obtain⟨m,ρ,S,d,S',E,R,e,q⟩:=h;obtain⟨a,S1,e1,e⟩:=af e;exact⟨m,ρ,S,a,S1,E,R,e1,fun m1 H1 v A1 va=>⟨m1,S1,a,d,S',A1.rel,va,e,fun m3 H3 u A3 vd=>q m3 H3 u (A1.trans A3) vd⟩⟩
theorem HB{f:Bool->List D->Sto->Option (D × Sto)}{x:XA}{σ:L2.St}{H:Hp}{Q:VK}(h:tE K (qz f x) σ H Q):tUn (rSq K f) (ek K x) σ H Q:=by
 obtain⟨m,ρ,S,d,S',E,R,e,q⟩:=h;obtain⟨ds,S1,e1,e⟩:=af e;exact⟨m,ρ,S,ds,S1,E,R,e1,fun m1 H1 a vs A1 sq _ _ _ vd=>⟨m1,S1,false,ds,a,vs,d,S',A1.rel,rfl,show SqL K H1 a vs from SqL.of sq,vd,e,fun m3 H3 u A3 vd=>q m3 H3 u (A1.trans A3) vd⟩⟩
noncomputable def wH(i:Nat):XE:=fun ρ S=>match ρ[i]? with
 |some (some d)=>some (d,S)
 |_=>none
noncomputable def xC(d:D):XE:=fun _ S=>some (d,S)
theorem HC{i:Nat}(h:tE K (wH i) σ H Q):GR i σ H Q:=by
 obtain⟨m,ρ,S,d,S',E,R,e,q⟩:=h;unfold wH at e;cases hr:ρ[i]? with
 |none=>rw[hr] at e;cases e
 |some o=>
  rw[hr] at e;cases o with
  |none=>cases e
  |some d'=>
   cases e;obtain⟨v,e1,vd⟩:=E.at_ i d hr;exact⟨v,e1,q m H v (Aft.refl R) vd⟩
theorem zc(hv:∀m H,VD K m H d v)(h:tE K (xC d) σ H Q):tC v σ H Q:=by
 obtain⟨m,ρ,S,d',S',E,R,e,q⟩:=h;cases e;exact q m H v (Aft.refl R) (hv m H)
theorem kI:VD K m H .non .non:=by rw[VD]
theorem bE:VD K m H (.bl b) (.bl b):=by rw[VD]
theorem bh{i:Int}:VD K m H (.int i) (.int i):=by rw[VD]
theorem kJ:VD K m H (.str x) (.str x):=by rw[VD]
theorem oZ(h:H a=some (.tup vs))(q:VDs K m H ds vs):VD K m H (.tup ds) (.ref a):=by rw[VD];exact⟨a,vs,rfl,h,q⟩
theorem VD.ints{i:Int}(h:VD K m H (.int i) v):v = .int i:=by rw[VD] at h;exact h
theorem VD.bls(h:VD K m H (.bl i) v):v = .bl i:=by rw[VD] at h;exact h
theorem VD.strs(h:VD K m H (.str i) v):v = .str i:=by rw[VD] at h;exact h
theorem VD.nons(h:VD K m H .non v):v = .non:=by rw[VD] at h;exact h
theorem VD.tups(h:VD K m H (.tup ds) v):∃a vs,v = .ref a/\H a=some (.tup vs)/\VDs K m H ds vs:=by rw[VD] at h;exact h
theorem VD.refs{n:Nat}(h:VD K m H (.ref n) v):∃a,m[n]?=some a/\v = .ref a:=by rw[VD] at h;exact h
noncomputable def CL:XA:=fun _ S=>some ([],S)
noncomputable def uR(x:XE)(y:XA):XA:=fun ρ S=>bnd (x ρ S) fun a S1=>bnd (y ρ S1) fun as S2=>some (a::as,S2)
theorem HD(h:tAr K CL σ H Q):kr σ H Q:=by
 obtain⟨m,ρ,S,d',S',E,R,e,q⟩:=h;cases e;exact q m H [] (Aft.refl R) .nil
theorem CM{x:XE}{y:XA}{σ:L2.St}{H:Hp}{Q:List V->Hp->Prop}(h:tAr K (uR x y) σ H Q):cY (tE K x) (tAr K y) σ H Q:=by
 obtain⟨m,ρ,S,d',S',E,R,e,q⟩:=h;obtain⟨a,S1,e1,e⟩:=af e;obtain⟨b,S2,e2,e⟩:=af e;cases e;refine⟨m,ρ,S,a,S1,E,R,e1,fun m1 H1 v A1 va=>⟨m1,ρ,S1,b,_,E.mono R A1.ext,A1.rel,e2,fun m2 H2 w A2 vb=>?_⟩⟩;exact q m2 H2 _ (A1.trans A2) (.cons (va.mono A1.rel A2.ext) vb)
noncomputable def jS(ds:List D)(S:Sto):Option (D × Sto):=if ds.length<=1000 then some (.tup ds,S) else none
theorem kK{n:Nat}(h:n<=1000):n<=sizeLine:=by rw[VX];lia
theorem jY{ds:List D}{vs:List V}{Q:VK}(R:Rel K m S H)(vd:VDs K m H ds vs)(q:∀m' H' u,Aft K m H S m' H'->VD K m' H' (.tup ds) u->Q u H'):∀p,H p=none->Q (.ref p) (upd H p (.tup vs)):=fun p hp=>
 q m _ _ ⟨Ext.beside R hp _,R.beside hp _⟩ (oZ aH (vd.mono R (Ext.beside R hp _)))
theorem o3{ds:List D}{vs:List V}{Q:VK}(R:Rel K m S H)(vd:VDs K m H ds vs)(q:∀m' H' u,Aft K m H (S++[.lst ds]) m' H'->VD K m' H' (.ref S.length) u->Q u H'):∀p,H p=none->Q (.ref p) (upd H p (.lst vs)):=fun p hp=>by
 have x:=Ext.beside R hp (.lst vs);refine q (m++[p]) _ _ ⟨x.adopt hp,(R.beside hp _).adopt (R.no hp) aH (vd.mono R x)⟩ ?_;rw[VD];exact⟨p,by rw[Zt (by rw[R.len];exact Ze _),R.len,Yw];rfl,rfl⟩
theorem jZ{ds:List D}{vs:List V}{Q:VK}(R:Rel K m S H)(vd:VDs K m H ds vs)(q:∀m' H' a vs,Aft K m H S m' H'->H' a=some (.lst vs)->a ∉ m'->(∀b,b ∈ m->b ≠ a)->H a=none->VDs K m' H' ds vs->Q (.ref a) H'):∀p,H p=none->Q (.ref p) (upd H p (.lst vs)):=fun p hp=>
 q m _ _ _ ⟨Ext.beside R hp _,R.beside hp _⟩ aH (R.no hp) (fun b hb z=>R.no hp (z ▸ hb)) hp (vd.mono R (Ext.beside R hp _))
theorem HE{x:XA}{σ:L2.St}{H:Hp}{Q:VK}(h:tE K (jR jS x) σ H Q):LY (tAr K x) σ H Q:=by
 obtain⟨m,ρ,S,d',S',E,R,e,q⟩:=h;obtain⟨a,S1,e1,e⟩:=af e;unfold jS at e;split at e
 ·rename_i hl;cases e;exact⟨m,ρ,S,a,_,E,R,e1,fun m1 H1 vs A1 va=>⟨kK (by rw[<-va.length];exact hl),jY A1.rel va fun m' H' u A2 vu=>q m' H' u (A1.trans A2) vu⟩⟩
 ·cases e
noncomputable def ng(x:XA):XA:=fun ρ S=>bnd (x ρ S) fun ds S1=>if ds.length<=1000 then some (ds,S1) else none
theorem CN{x:XA}{σ:L2.St}{H:Hp}{Q:VK}(h:ek K (ng x) σ H Q):LZ (tAr K x) σ H Q:=by
 obtain⟨m,ρ,S,ds,S',E,R,e,q⟩:=h;obtain⟨a,S1,e1,e⟩:=af e;split at e
 ·rename_i hl;cases e;refine⟨m,ρ,S,_,_,E,R,e1,fun m1 H1 vs A1 va=>⟨kK (by rw[<-va.length];exact hl),jZ A1.rel va fun m' H' u us A2 sq n1 n2 n3 vu=>?_⟩⟩
  have hn:H u=none:=by
   cases e:H u with
   |none=>rfl
   |some o=>
    by_cases hm:u ∈ m
    ·exact absurd rfl (n2 u (A1.ext.pre.subset hm))
    ·have:=A1.ext.keep u o e hm;rw[this] at n3;cases n3
  exact q m' H' u us (A1.trans A2) sq n1 (fun b hb=>n2 b (A1.ext.pre.subset hb)) hn vu
 ·cases e
theorem dJ{d:D}{v:V}{tu:Bool}{ds:List D}(R:Rel K m S H)(vd:VD K m H d v)(e:al d S=some (tu,ds)):∃a vs,v = .ref a/\SqB K tu H a vs/\VDs K m H ds vs:=by
 unfold al at e;cases d with
 |tup es=>
  cases e;obtain⟨a,vs,e,q,r⟩:=vd.tups;exact⟨a,vs,e,q,r⟩
 |ref n=>
  obtain⟨a,ha,ev⟩:=vd.refs;cases hs:am S n with
  |none=>simp[hs] at e
  |some es=>
   simp[hs] at e;obtain⟨rfl,rfl⟩:=e;obtain⟨b,vs,hb,q,r⟩:=R.seq hs;rw[ha] at hb;cases hb;exact⟨a,vs,ev,q,r⟩
 |_=>cases e
theorem HF{f:Bool->List D->Sto->Option (D × Sto)}{x:XE}{σ:L2.St}{H:Hp}{Q:VK}(h:tE K (qA f x) σ H Q):tUn (rSq K f) (tE K x) σ H Q:=by
 obtain⟨m,ρ,S,d,S',E,R,e,q⟩:=h;obtain⟨a,S1,e1,e⟩:=af e;refine⟨m,ρ,S,a,S1,E,R,e1,fun m1 H1 v A1 va=>?_⟩;unfold au at e;split at e
 ·rename_i r hi;obtain⟨b,vs,ev,sq,vds⟩:=dJ (tu:=r.1) (ds:=r.2) A1.rel va hi;exact⟨m1,S1,r.1,r.2,b,vs,d,S',A1.rel,ev,sq,vds,e,fun m3 H3 u A3 vd=>q m3 H3 u (A1.trans A3) vd⟩
 ·cases e
noncomputable def dm(x:XA):XE:=fun ρ S=>bnd (x ρ S) fun ds S1=>some (.ref S1.length,S1++[.lst ds])
theorem qB{x:XA}{σ:L2.St}{H:Hp}{Q:VK}(h:tE K (dm x) σ H Q):ek K x σ H Q:=by
 obtain⟨m,ρ,S,d,S',E,R,e,q⟩:=h;obtain⟨ds,S1,e1,e⟩:=af e;cases e;refine⟨m,ρ,S,ds,S1,E,R,e1,fun m1 H1 a vs A1 sq n1 n2 n3 vd=>?_⟩;refine q (m1++[a]) H1 _ ⟨⟨A1.ext.pre.trans (Yv _ _),A1.ext.keep,fun b hb nb=>?_⟩,A1.rel.adopt n1 sq vd⟩ ?_
 ·rcases Zy.mp hb with z |z
  ·exact A1.ext.new b z nb
  ·simp at z;subst z;exact n3
 ·rw[VD];exact⟨a,by rw[Zt (by rw[A1.rel.len];exact Ze _),A1.rel.len,Yw];rfl,rfl⟩
end
end Ev
namespace PySem.SeqAt
open AutoSeq1 (wpAny_loadPart')
open MeetsSeq MeetsSeq2 MeetsSeq3
theorem sL(l b:Addr)(items:Array Value)(n:Nat)(dd:Option Addr)(sl:Array (Option Value))(o:Obj)(hc:o.cls = .type "dict") :
  Meets (Builtin.«list.__ne__» ⟨[.ref l,.ref b],[]⟩) (fun _ R s=>s.heap.get? l=some { cls:=.type "list", dict:=dd,data:=.seq items n,slots:=sl }/\s.heap.get? b=some o/\R (.ok (.ret .notImplemented)) s):=
 .of_wp fun prog w A R s h=>by
  obtain⟨hp,g,d,tk,os⟩:=s;obtain⟨hl,hb,h⟩:=h;obtain⟨cls,d2,dt,s2⟩:=o;simp only at hc;subst hc;have f1:=F.sub_dict_list
  wp_walk using Ul hl,Ul hb
  exact⟨_,rfl,h⟩
theorem sM(l b:Addr)(items:Array Value)(n:Nat)(dd:Option Addr)(sl:Array (Option Value))(o:Obj)(hc:o.cls = .type "dict") :
  Meets (Builtin.«dict.__ne__» ⟨[.ref b,.ref l],[]⟩) (fun _ R s=>s.heap.get? l=some { cls:=.type "list", dict:=dd,data:=.seq items n,slots:=sl }/\s.heap.get? b=some o/\R (.ok (.ret .notImplemented)) s):=
 .of_wp fun prog w A R s h=>by
  obtain⟨hp,g,d,tk,os⟩:=s;obtain⟨hl,hb,h⟩:=h;obtain⟨cls,d2,dt,s2⟩:=o;simp only at hc;subst hc;have f1:=F.sub_list_dict
  wp_walk using Ul hl,Ul hb
  exact⟨_,rfl,h⟩
theorem dict_list(hb:s.heap.get? b=some o)(hc2:o.cls = .type "dict")(hl:s.heap.IsList l items)(hu:A.units < cLine):RcNeAt A s (.ref b) (.ref l) true:=fun prog w E Q h=>by
 obtain⟨⟨cls,dd,data,sl⟩,ho,hc,n,hd⟩:=id hl;simp only at hc hd;subst hc hd;have hne:b ≠ l:=fun e=>by subst e;rw[ho] at hb;cases hb;exact absurd hc2 (by simp)
 exact(rc_ne_decline_or (k:=false) ⟨_,hb,hc2⟩ ⟨_,ho,rfl⟩ (by decide) F.sub_list_dict F.slot_dict_ne WB
  (fun _ hq=>Vv F.slot_dict_ne ⟨_,hb,hc2⟩ F.entry_dict_ne (F.args_dict_ne_2 _ _) (sM l b items n dd sl o hc2) ⟨ho,hb,hq⟩)
  (fun _ hq=>Vv WB ⟨_,ho,rfl⟩ F.entry_list_ne (F.args_list_ne_2 _ _) (sL l b items n dd sl o hc2) ⟨ho,hb,hq⟩)
  (fun _ hq=>wpAny_isSame_ref_other' hne hb ho (by simp) hq) (.inr hu) h)
end PySem.SeqAt
namespace Ev
open PySem PySem.Spec PyProof.Rows L2
noncomputable def eqL(f:D->D->Option Bool):List D->List D->Option Bool
 |[],[]=>some true
 |[],_::_=>some false
 |_::_,[]=>some false
 |x::xs,y::ys=>match f x y,eqL f xs ys with
  |some a,some b=>some (a && b)
  |_,_=>none
noncomputable def eqD:Nat->Sto->D->D->Option Bool
 |0,_,_,_=>none
 |n+1,S,x,y=>match x,y with
  |.non,.non=>some true
  |.bl a,.bl b=>some (a == b)
  |.int a,.int b=>some (a == b)
  |.str a,.str b=>some (a == b)
  |.bl a,.int b=>some ((if a then 1 else 0) == b)
  |.int a,.bl b=>some (a == (if b then 1 else 0))
  |.tup xs,.tup ys=>eqL (eqD n S) xs ys
  |.ref a,.ref b=>match am S a,am S b with
   |some xs,some ys=>if a=b then some true else if xs.length=ys.length then eqL (eqD n S) xs ys else some false
   |_,_=>none
  |.tup _,.ref b=>match am S b with
   |some _=>some false
   |none=>none
  |.ref a,.tup _=>match am S a with
   |some _=>some false
   |none=>none
  |.ref a,_=>match am S a with
   |some _=>some false
   |none=>none
  |_,.ref a=>match am S a with
   |some _=>some false
   |none=>none
  |_,_=>some false
section
variable {X:Cx} {K:W0} {m:List Addr} {H:Hp} {S:Sto}
theorem qC:∀ {xs ys:List D} {b:Bool},eqL f xs ys=some b->∃g:Nat->Bool,(∀j x y,xs[j]?=some x->ys[j]?=some y->f x y=some (g j))/\b=((Zj (min xs.length ys.length)).all g && xs.length == ys.length)
 |[],[],b,h=>by simp[eqL] at h;exact⟨fun _=>true,fun j x y e=>by simp at e,by simp[<-h]⟩
 |[],_::_,b,h=>by simp[eqL] at h;exact⟨fun _=>true,fun j x y e=>by simp at e,by simp[<-h]⟩
 |_::_,[],b,h=>by simp[eqL] at h;exact⟨fun _=>true,fun j x y _ e=>by simp at e,by simp[<-h]⟩
 |x::xs,y::ys,b,h=>by
  simp only[eqL] at h;cases h1:f x y with
  |none=>simp[h1] at h
  |some a=>
   cases h2:eqL f xs ys with
   |none=>simp[h1,h2] at h
   |some c=>
    simp[h1,h2] at h;obtain⟨g,hg,hc⟩:=qC h2;refine⟨fun j=>match j with |0=>a |j+1=>g j,fun j x' y' e1 e2=>?_,?_⟩
    ·cases j with
     |zero=>simp at e1 e2;subst e1 e2;exact h1
     |succ j=>simp at e1 e2;exact hg j x' y' e1 e2
    ·rw[<-h,hc];simp only[ZD,Nat.succ_min_succ,List.range_succ_eq_map,Z8,Yx];rw[Bool.and_assoc]
     congr 1
     rw[show(xs.length+1 == ys.length+1)=(xs.length == ys.length) by simp];rfl
theorem CO(I:Inv X pins σ H s)(h1:H a=some (.tup xs))(h2:H a=some (.tup ys)):xs=ys:=by
 rw[h1] at h2;cases h2;rfl
theorem wJ(nd:m.Nodup){i j:Nat}(h1:m[i]?=some a)(h2:m[j]?=some a):i=j:=by
 obtain⟨p1,q1⟩:=Zc.mp h1;obtain⟨p2,q2⟩:=Zc.mp h2;exact(YI nd).mp (q1.trans q2.symm)
theorem qD(I:Inv X pins σ H s)(R:Rel X.K m S H):∀ (n:Nat) {x y:D} {v:V} {b:Bool},VD X.K m H x v->VD X.K m H y v->eqD n S x y=some b->b=true
 |0,_,_,_,_,_,_,h=>by simp[eqD] at h
 |n+1,x,y,v,b,h1,h2,h=>by
  have lists:∀ {xs ys:List D} {vs:List V} {b:Bool},VDs X.K m H xs vs->VDs X.K m H ys vs->eqL (eqD n S) xs ys=some b->b=true:=by
   intro xs
   induction xs with
   |nil=>
    intro ys vs b p q e;have l1:=p.length;have l2:=q.length;cases ys with
    |nil=>simp[eqL] at e;simp_all
    |cons _ _=>simp at l1 l2;lia
   |cons x xs ih=>
    intro ys vs b p q e;have l1:=p.length;have l2:=q.length;cases ys with
    |nil=>simp at l1 l2;lia
    |cons y ys=>
     rw[VDs] at p q;obtain⟨a,r,e1,p1,p2⟩:=p;obtain⟨a',r',e2,q1,q2⟩:=q;rw[e1] at e2;cases e2;simp only[eqL] at e;cases f1:eqD n S x y with
     |none=>simp[f1] at e
     |some c=>
      cases f2:eqL (eqD n S) xs ys with
      |none=>simp[f1,f2] at e
      |some d=>
       simp[f1,f2] at e;rw[<-e,qD I R n p1 q1 f1,ih p2 q2 f2];rfl
  cases x with
  |non=>cases h1.nons;cases y <;> simp[VD] at h2 <;> simp[eqD] at h <;> simp[h]
  |bl a=>cases h1.bls;cases y <;> simp[VD] at h2 <;> simp[eqD] at h <;> simp_all
  |int a=>cases h1.ints;cases y <;> simp[VD] at h2 <;> simp[eqD] at h <;> simp_all
  |str a=>cases h1.strs;cases y <;> simp[VD] at h2 <;> simp[eqD] at h <;> simp_all
  |tup xs=>
   obtain⟨a,vs,e,sq,p⟩:=h1.tups;subst e;cases y with
   |tup ys=>
    obtain⟨a',vs',e',sq',q⟩:=h2.tups;cases e';have:=CO I sq sq';subst this;simp only[eqD] at h;exact lists p q h
   |ref k=>
    obtain⟨a',ha,e'⟩:=h2.refs;cases e';have z:a ∈ m:=Zf ha;exact absurd z (R.notTup sq)
   |non=>cases h2.nons
   |bl _=>cases h2.bls
   |int _=>cases h2.ints
   |str _=>cases h2.strs
  |ref k=>
   obtain⟨a,ha,e⟩:=h1.refs;subst e;cases y with
   |ref k'=>
    obtain⟨a',ha',e'⟩:=h2.refs;cases e';have:=wJ R.nd ha ha';subst this;simp only[eqD] at h;cases hs:am S k with
    |none=>rw[hs] at h;cases h
    |some es=>rw[hs] at h;simp at h;exact h.symm ▸ rfl
   |tup ys=>
    obtain⟨a',vs',e',sq,q⟩:=h2.tups;cases e';have z:a ∈ m:=Zf ha;exact absurd z (R.notTup sq)
   |non=>cases h2.nons
   |bl _=>cases h2.bls
   |int _=>cases h2.ints
   |str _=>cases h2.strs
theorem o4(p:VDs K m H xs vs)(r:aJ vs its){j:Nat}(hj:j < its.toArray.size):∃x v,xs[j]?=some x/\VD K m H x v/\aF v its.toArray[j]:=by
 have hj':j < its.length:=by simpa using hj
 have l1:=p.length;have l2:=r.length;obtain⟨v,hv,vd⟩:=p.get (i:=j) (d:=xs[j]'(by lia)) (gEG _);obtain⟨u,hu,ru⟩:=r.get hv;refine⟨_,v,gEG (by lia),vd,?_⟩;have e:its[j]?=some its[j]:=gEG hj';rw[e] at hu;cases hu
 simpa using ru
abbrev HG(X:Cx)(m:List Addr)(H:Hp)(S:Sto)(s:Shared)(n:Nat):Prop:=∀ (A:Around) (x y:D) (v w:V) (u u':Value) (b:Bool),VD X.K m H x v->VD X.K m H y w->aF v u->aF w u'->eqD n S x y=some b->A.units+n < cLine->WR A s u u' b
theorem qE{pins:List (Addr × Obj)}{σ:L2.St}{s:Shared}{n:Nat}(ih:HG X m H S s n){A:Around}{xs ys:List D}{vs ws:List V}{i1 i2:List Value}{b:Bool}(p:VDs X.K m H xs vs)(q:VDs X.K m H ys ws)(r1:aJ vs i1)(r2:aJ ws i2)
  (h:eqL (eqD n S) xs ys=some b) (hu:A.units+(n+1) < cLine):∃g:Nat->Bool,(∀j (h1:j < i1.toArray.size) (h2:j < i2.toArray.size),WR A.in1 s i1.toArray[j] i2.toArray[j] (g j))/\b=((Zj (min i1.toArray.size i2.toArray.size)).all g && i1.toArray.size == i2.toArray.size):=by
 obtain⟨g,hg,hb⟩:=qC h;have l1:i1.toArray.size=xs.length:=by rw[Zl,<-r1.length,<-p.length]
 have l2:i2.toArray.size=ys.length:=by rw[Zl,<-r2.length,<-q.length]
 refine⟨g,fun j h1 h2=>?_,by rw[hb,l1,l2]⟩;obtain⟨x,v,e1,v1,ru1⟩:=o4 p r1 h1;obtain⟨y,w,e2,v2,ru2⟩:=o4 q r2 h2;exact ih _ _ _ _ _ _ _ _ v1 v2 ru1 ru2 (hg j x y e1 e2) (by show A.units+1+n < cLine;lia)
theorem zd{n:Nat}:(Zj n).all (fun _=>true)=true:=by simp
theorem ze{pins:List (Addr × Obj)}{σ:L2.St}{s:Shared}(I:Inv X pins σ H s)(R:Rel X.K m S H){n:Nat}(ih:HG X m H S s n){A:Around}{x y:D}{a a':Addr}{b:Bool}(hx:VD X.K m H x (.ref a))(hy:VD X.K m H y (.ref a'))(h:eqD (n+1) S x y=some b)(hu:A.units+(n+1) < cLine) :
  WT A s (.ref a) (.ref a') b/\WU A s (.ref a) (.ref a') (!b):=by
 have hu0:A.units < cLine:=by lia
 cases x with
 |non=>cases hx.nons
 |bl _=>cases hx.bls
 |int _=>cases hx.ints
 |str _=>cases hx.strs
 |tup xs=>
  obtain⟨_,vs,e,sq,p⟩:=hx.tups;cases e;obtain⟨i1,r1,t1,_⟩:=I.tuple (.of sq);cases y with
  |non=>cases hy.nons
  |bl _=>cases hy.bls
  |int _=>cases hy.ints
  |str _=>cases hy.strs
  |tup ys=>
   obtain⟨_,ws,e,sq',q⟩:=hy.tups;cases e;obtain⟨i2,r2,t2,_⟩:=I.tuple (.of sq');simp only[eqD] at h;obtain⟨g,hg,hb⟩:=qE (pins:=pins) (σ:=σ) ih p q r1 r2 h hu;rw[hb];exact⟨SeqAt.RcAt.tuples t1 t2 hu0 hg,PySem.SeqAt.RcNeAt.tuples t1 t2 hu0 hg⟩
  |ref k=>
   simp only[eqD] at h;cases hs:am S k with
   |none=>rw[hs] at h;cases h
   |some es=>
    rw[hs] at h;cases h;obtain⟨b',ws,hb,sq',q⟩:=R.seq hs;obtain⟨c,hc,ec⟩:=hy.refs;cases ec;rw[hb] at hc;cases hc;obtain⟨i2,r2,t2,_⟩:=I.list sq';exact⟨SeqAt.RcAt.tuple_list t1 t2.isList hu0,PySem.SeqAt.RcNeAt.tuple_list t1 t2.isList hu0⟩
 |ref k=>
  obtain⟨c,hc,ec⟩:=hx.refs;cases ec;cases y with
  |non=>cases hy.nons
  |bl _=>cases hy.bls
  |int _=>cases hy.ints
  |str _=>cases hy.strs
  |tup ys=>
   obtain⟨_,ws,e,sq',q⟩:=hy.tups;cases e;obtain⟨i2,r2,t2,_⟩:=I.tuple (.of sq');simp only[eqD] at h;cases hs:am S k with
   |none=>rw[hs] at h;cases h
   |some es=>
    rw[hs] at h;cases h;obtain⟨b',vs,hb,sq,p⟩:=R.seq hs;rw[hb] at hc;cases hc;obtain⟨i1,r1,t1,_⟩:=I.list sq;exact⟨SeqAt.RcAt.list_tuple t1.isList t2 hu0,PySem.SeqAt.RcNeAt.list_tuple t1.isList t2 hu0⟩
  |ref k'=>
   obtain⟨c',hc',ec'⟩:=hy.refs;cases ec';simp only[eqD] at h;cases hs:am S k with
   |none=>rw[hs] at h;cases h
   |some es=>
    cases hs':am S k' with
    |none=>rw[hs,hs'] at h;cases h
    |some es'=>
     rw[hs,hs'] at h;dsimp only at h;obtain⟨b1,vs,hb,sq,p⟩:=R.seq hs;rw[hb] at hc;cases hc;obtain⟨b2,ws,hb',sq',q⟩:=R.seq hs';rw[hb'] at hc';cases hc';obtain⟨i1,r1,t1,_⟩:=I.list sq;obtain⟨i2,r2,t2,_⟩:=I.list sq';split at h
     ·rename_i hk;subst hk;rw[hb] at hb';cases hb';cases h;have z:=SeqAt.RcAt.lists (e:=fun _=>true) t1.isList t1.isList rfl hu0 fun j h1 h2=>SeqAt.EqAt.same _;have z':=PySem.SeqAt.RcNeAt.lists (e:=fun _=>true) t1.isList t1.isList rfl hu0 fun j h1 h2=>SeqAt.EqAt.same _;rw[zd] at z z';exact⟨z,z'⟩
     ·have l1:i1.toArray.size=es.length:=by rw[Zl,<-r1.length,<-p.length]
      have l2:i2.toArray.size=es'.length:=by rw[Zl,<-r2.length,<-q.length]
      split at h
      ·rename_i hl;obtain⟨g,hg,hb3⟩:=qE (pins:=pins) (σ:=σ) ih p q r1 r2 h hu;have hsz:i1.toArray.size=i2.toArray.size:=by rw[l1,l2,hl]
       rw[hb3,<-hsz,Nat.min_self,beq_self_eq_true,X8];exact⟨SeqAt.RcAt.lists t1.isList t2.isList hsz hu0 hg,PySem.SeqAt.RcNeAt.lists t1.isList t2.isList hsz hu0 hg⟩
      ·rename_i hl;cases h;have hsz:(i1.toArray.size != i2.toArray.size)=true:=by rw[l1,l2];simpa using hl
       exact⟨SeqAt.RcAt.lists_lengths t1.isList t2.isList hsz hu0,PySem.SeqAt.RcNeAt.lists_lengths t1.isList t2.isList hsz hu0⟩
theorem aY(I:Inv X pins σ H s)(R:Rel X.K m S H){k:Nat}(h:VD X.K m H (.ref k) v)(hs:am S k=some es):∃a i,v = .ref a/\s.heap.IsList a i:=by
 obtain⟨c,hc,ec⟩:=h.refs;obtain⟨b1,vs,hb,sq,p⟩:=R.seq hs;rw[hb] at hc;cases hc;obtain⟨i1,r1,t1,_⟩:=I.list sq;exact⟨_,_,ec,t1.isList⟩
theorem bw(I:Inv X pins σ H s)(h:VD X.K m H (.tup es) v):∃a i,v = .ref a/\s.heap.IsTuple a i:=by
 obtain⟨a,vs,e,sq,p⟩:=h.tups;obtain⟨i1,r1,t1,_⟩:=I.tuple (.of sq);exact⟨_,_,e,t1⟩
theorem o5(I:Inv X pins σ H s)(R:Rel X.K m S H):∀n,HG X m H S s n
 |0=>fun A x y v w u u' b h1 h2 r1 r2 h _=>by simp[eqD] at h
 |n+1=>fun A x y v w u u' b h1 h2 r1 r2 h hu=>by
  have hu0:A.units < cLine:=by lia
  have seq:∀ {a a':Addr},v = .ref a->w = .ref a'->WR A s u u' b:=by
   intro a a' e e';subst e e';cases r1;cases r2;by_cases z:a=a'
   ·subst z;have:=qD I R (n+1) h1 h2 h;subst this;exact SeqAt.EqAt.same _
   ·exact SeqAt.EqAt.of_refs z (ze I R (o5 I R n) h1 h2 h hu).1
  cases x with
  |non=>
   cases h1.nons;cases r1;cases y with
   |non=>cases h2.nons;cases r2;simp[eqD] at h;subst h;exact SeqAt.EqAt.same _
   |bl j=>cases h2.bls;cases r2;simp[eqD] at h;subst h;exact SeqAt.EqAt.none_bool _
   |int j=>cases h2.ints;obtain⟨t,rfl⟩:=r2;simp[eqD] at h;subst h;exact SeqAt.EqAt.none_int _ _
   |str j=>cases h2.strs;obtain⟨t,rfl⟩:=r2;simp[eqD] at h;subst h;exact SeqAt.EqAt.none_str _ _
   |tup ys=>obtain⟨a,i,e,l⟩:=bw I h2;subst e;cases r2;simp[eqD] at h;subst h;exact SeqAt.EqAt.none_tuple l hu0
   |ref k=>
    simp only[eqD] at h;cases hs:am S k with
    |none=>rw[hs] at h;cases h
    |some es=>rw[hs] at h;cases h;obtain⟨a,i,e,l⟩:=aY I R h2 hs;subst e;cases r2;exact SeqAt.EqAt.none_list l hu0
  |bl i=>
   cases h1.bls;cases r1;cases y with
   |non=>cases h2.nons;cases r2;simp[eqD] at h;subst h;exact SeqAt.EqAt.bool_none _
   |bl j=>cases h2.bls;cases r2;simp only[eqD] at h;cases h;exact SeqAt.EqAt.bool_bool _ _
   |int j=>cases h2.ints;obtain⟨t,rfl⟩:=r2;simp only[eqD] at h;cases h;exact SeqAt.EqAt.bool_int _ _ _
   |str j=>cases h2.strs;obtain⟨t,rfl⟩:=r2;simp[eqD] at h;subst h;exact SeqAt.EqAt.bool_str _ _ _
   |tup ys=>obtain⟨a,i,e,l⟩:=bw I h2;subst e;cases r2;simp[eqD] at h;subst h;exact SeqAt.EqAt.bool_tuple _ l hu0
   |ref k=>
    simp only[eqD] at h;cases hs:am S k with
    |none=>rw[hs] at h;cases h
    |some es=>rw[hs] at h;cases h;obtain⟨a,i,e,l⟩:=aY I R h2 hs;subst e;cases r2;exact SeqAt.EqAt.bool_list _ l hu0
  |int i=>
   cases h1.ints;obtain⟨t1,rfl⟩:=r1;cases y with
   |non=>cases h2.nons;cases r2;simp[eqD] at h;subst h;exact SeqAt.EqAt.int_none _ _
   |bl j=>cases h2.bls;cases r2;simp only[eqD] at h;cases h;exact SeqAt.EqAt.int_bool _ _ _
   |int j=>cases h2.ints;obtain⟨t,rfl⟩:=r2;simp only[eqD] at h;cases h;exact SeqAt.EqAt.int_int _ _ _ _
   |str j=>cases h2.strs;obtain⟨t,rfl⟩:=r2;simp[eqD] at h;subst h;exact SeqAt.EqAt.int_str _ _ _ _
   |tup ys=>obtain⟨a,i,e,l⟩:=bw I h2;subst e;cases r2;simp[eqD] at h;subst h;exact SeqAt.EqAt.int_tuple _ _ l hu0
   |ref k=>
    simp only[eqD] at h;cases hs:am S k with
    |none=>rw[hs] at h;cases h
    |some es=>rw[hs] at h;cases h;obtain⟨a,i,e,l⟩:=aY I R h2 hs;subst e;cases r2;exact SeqAt.EqAt.int_list _ _ l hu0
  |str i=>
   cases h1.strs;obtain⟨t1,rfl⟩:=r1;cases y with
   |non=>cases h2.nons;cases r2;simp[eqD] at h;subst h;exact SeqAt.EqAt.str_none _ _
   |bl j=>cases h2.bls;cases r2;simp[eqD] at h;subst h;exact SeqAt.EqAt.str_bool _ _ _
   |int j=>cases h2.ints;obtain⟨t,rfl⟩:=r2;simp[eqD] at h;subst h;exact SeqAt.EqAt.str_int _ _ _ _
   |str j=>cases h2.strs;obtain⟨t,rfl⟩:=r2;simp only[eqD] at h;cases h;exact SeqAt.EqAt.str_str _ _ _ _
   |tup ys=>obtain⟨a,i,e,l⟩:=bw I h2;subst e;cases r2;simp[eqD] at h;subst h;exact SeqAt.EqAt.str_tuple _ _ l hu0
   |ref k=>
    simp only[eqD] at h;cases hs:am S k with
    |none=>rw[hs] at h;cases h
    |some es=>rw[hs] at h;cases h;obtain⟨a,i,e,l⟩:=aY I R h2 hs;subst e;cases r2;exact SeqAt.EqAt.str_list _ _ l hu0
  |tup xs=>
   obtain⟨a,i,e,l⟩:=bw I h1;subst e;cases r1;cases y with
   |non=>cases h2.nons;cases r2;simp[eqD] at h;subst h;exact SeqAt.EqAt.tuple_none l hu0
   |bl j=>cases h2.bls;cases r2;simp[eqD] at h;subst h;exact SeqAt.EqAt.tuple_bool _ l hu0
   |int j=>cases h2.ints;obtain⟨t,rfl⟩:=r2;simp[eqD] at h;subst h;exact SeqAt.EqAt.tuple_int _ _ l hu0
   |str j=>cases h2.strs;obtain⟨t,rfl⟩:=r2;simp[eqD] at h;subst h;exact SeqAt.EqAt.tuple_str _ _ l hu0
   |tup ys=>obtain⟨a',i',e',l'⟩:=bw I h2;exact seq rfl e'
   |ref k=>obtain⟨c,hc,ec⟩:=h2.refs;exact seq rfl ec
  |ref k=>
   obtain⟨c,hc,ec⟩:=h1.refs;cases y with
   |tup ys=>obtain⟨a',i',e',l'⟩:=bw I h2;exact seq ec e'
   |ref k=>obtain⟨c,hc,ec'⟩:=h2.refs;exact seq ec ec'
   |non=>
    simp only[eqD] at h;cases hs:am S k with
    |none=>rw[hs] at h;cases h
    |some es=>rw[hs] at h;cases h;obtain⟨a,i,e,l⟩:=aY I R h1 hs;subst e;cases r1;cases h2.nons;cases r2;exact SeqAt.EqAt.list_none l hu0
   |bl j=>
    simp only[eqD] at h;cases hs:am S k with
    |none=>rw[hs] at h;cases h
    |some es=>rw[hs] at h;cases h;obtain⟨a,i,e,l⟩:=aY I R h1 hs;subst e;cases r1;cases h2.bls;cases r2;exact SeqAt.EqAt.list_bool _ l hu0
   |int j=>
    simp only[eqD] at h;cases hs:am S k with
    |none=>rw[hs] at h;cases h
    |some es=>rw[hs] at h;cases h;obtain⟨a,i,e,l⟩:=aY I R h1 hs;subst e;cases r1;cases h2.ints;obtain⟨t,rfl⟩:=r2;exact SeqAt.EqAt.list_int _ _ l hu0
   |str j=>
    simp only[eqD] at h;cases hs:am S k with
    |none=>rw[hs] at h;cases h
    |some es=>rw[hs] at h;cases h;obtain⟨a,i,e,l⟩:=aY I R h1 hs;subst e;cases r1;cases h2.strs;obtain⟨t,rfl⟩:=r2;exact SeqAt.EqAt.list_str _ _ l hu0
theorem Mf(I:Inv X pins σ H s)(R:Rel X.K m S H)(n:Nat)(h1:VD X.K m H x v)(h2:VD X.K m H y w)(r1:aF v u)(r2:aF w u')(h:eqD (n+1) S x y=some b)(hu:A.units+(n+1) < cLine) :
  WT A s u u' b/\WU A s u u' (!b):=by
 have hu0:A.units < cLine:=by lia
 have seq:∀ {a a':Addr},v = .ref a->w = .ref a'->WT A s u u' b/\WU A s u u' (!b):=by
  intro a a' e e';subst e e';cases r1;cases r2;exact ze I R (o5 I R n) h1 h2 h hu
 cases x with
 |non=>
  cases h1.nons;cases r1;cases y with
  |non=>cases h2.nons;cases r2;simp[eqD] at h;subst h;exact⟨SeqAt.RcAt.none_none,PySem.SeqAt.RcNeAt.none_none⟩
  |bl j=>cases h2.bls;cases r2;simp[eqD] at h;subst h;exact⟨SeqAt.RcAt.none_bool _,PySem.SeqAt.RcNeAt.none_bool _⟩
  |int j=>cases h2.ints;obtain⟨t2,rfl⟩:=r2;simp[eqD] at h;subst h;exact⟨SeqAt.RcAt.none_int _ _,PySem.SeqAt.RcNeAt.none_int _ _⟩
  |str j=>cases h2.strs;obtain⟨t2,rfl⟩:=r2;simp[eqD] at h;subst h;exact⟨SeqAt.RcAt.none_str _ _,PySem.SeqAt.RcNeAt.none_str _ _⟩
  |tup ys=>obtain⟨a,i,e,l⟩:=bw I h2;subst e;cases r2;simp[eqD] at h;subst h;exact⟨SeqAt.RcAt.none_tuple l hu0,PySem.SeqAt.RcNeAt.none_tuple l hu0⟩
  |ref k=>
   simp only[eqD] at h;cases hs:am S k with
   |none=>rw[hs] at h;cases h
   |some es=>rw[hs] at h;cases h;obtain⟨a,i,e,l⟩:=aY I R h2 hs;subst e;cases r2;exact⟨SeqAt.RcAt.none_list l hu0,PySem.SeqAt.RcNeAt.none_list l hu0⟩
 |bl i=>
  cases h1.bls;cases r1;cases y with
  |non=>cases h2.nons;cases r2;simp[eqD] at h;subst h;exact⟨SeqAt.RcAt.bool_none _,PySem.SeqAt.RcNeAt.bool_none _⟩
  |bl j=>cases h2.bls;cases r2;simp only[eqD] at h;cases h;exact⟨SeqAt.RcAt.bool_bool _ _,PySem.SeqAt.RcNeAt.bool_bool _ _⟩
  |int j=>cases h2.ints;obtain⟨t2,rfl⟩:=r2;simp only[eqD] at h;cases h;exact⟨SeqAt.RcAt.bool_int _ _ _,PySem.SeqAt.RcNeAt.bool_int _ _ _⟩
  |str j=>cases h2.strs;obtain⟨t2,rfl⟩:=r2;simp[eqD] at h;subst h;exact⟨SeqAt.RcAt.bool_str _ _ _,PySem.SeqAt.RcNeAt.bool_str _ _ _⟩
  |tup ys=>obtain⟨a,i,e,l⟩:=bw I h2;subst e;cases r2;simp[eqD] at h;subst h;exact⟨SeqAt.RcAt.bool_tuple _ l hu0,PySem.SeqAt.RcNeAt.bool_tuple _ l hu0⟩
  |ref k=>
   simp only[eqD] at h;cases hs:am S k with
   |none=>rw[hs] at h;cases h
   |some es=>rw[hs] at h;cases h;obtain⟨a,i,e,l⟩:=aY I R h2 hs;subst e;cases r2;exact⟨SeqAt.RcAt.bool_list _ l hu0,PySem.SeqAt.RcNeAt.bool_list _ l hu0⟩
 |int i=>
  cases h1.ints;obtain⟨t1,rfl⟩:=r1;cases y with
  |non=>cases h2.nons;cases r2;simp[eqD] at h;subst h;exact⟨SeqAt.RcAt.int_none _ _,PySem.SeqAt.RcNeAt.int_none _ _⟩
  |bl j=>cases h2.bls;cases r2;simp only[eqD] at h;cases h;exact⟨SeqAt.RcAt.int_bool _ _ _,PySem.SeqAt.RcNeAt.int_bool _ _ _⟩
  |int j=>cases h2.ints;obtain⟨t2,rfl⟩:=r2;simp only[eqD] at h;cases h;exact⟨SeqAt.RcAt.int_int _ _ _ _,PySem.SeqAt.RcNeAt.int_int _ _ _ _⟩
  |str j=>cases h2.strs;obtain⟨t2,rfl⟩:=r2;simp[eqD] at h;subst h;exact⟨SeqAt.RcAt.int_str _ _ _ _,PySem.SeqAt.RcNeAt.int_str _ _ _ _⟩
  |tup ys=>obtain⟨a,i,e,l⟩:=bw I h2;subst e;cases r2;simp[eqD] at h;subst h;exact⟨SeqAt.RcAt.int_tuple _ _ l hu0,PySem.SeqAt.RcNeAt.int_tuple _ _ l hu0⟩
  |ref k=>
   simp only[eqD] at h;cases hs:am S k with
   |none=>rw[hs] at h;cases h
   |some es=>rw[hs] at h;cases h;obtain⟨a,i,e,l⟩:=aY I R h2 hs;subst e;cases r2;exact⟨SeqAt.RcAt.int_list _ _ l hu0,PySem.SeqAt.RcNeAt.int_list _ _ l hu0⟩
 |str i=>
  cases h1.strs;obtain⟨t1,rfl⟩:=r1;cases y with
  |non=>cases h2.nons;cases r2;simp[eqD] at h;subst h;exact⟨SeqAt.RcAt.str_none _ _,PySem.SeqAt.RcNeAt.str_none _ _⟩
  |bl j=>cases h2.bls;cases r2;simp[eqD] at h;subst h;exact⟨SeqAt.RcAt.str_bool _ _ _,PySem.SeqAt.RcNeAt.str_bool _ _ _⟩
  |int j=>cases h2.ints;obtain⟨t2,rfl⟩:=r2;simp[eqD] at h;subst h;exact⟨SeqAt.RcAt.str_int _ _ _ _,PySem.SeqAt.RcNeAt.str_int _ _ _ _⟩
  |str j=>cases h2.strs;obtain⟨t2,rfl⟩:=r2;simp only[eqD] at h;cases h;exact⟨SeqAt.RcAt.str_str _ _ _ _,PySem.SeqAt.RcNeAt.str_str _ _ _ _⟩
  |tup ys=>obtain⟨a,i,e,l⟩:=bw I h2;subst e;cases r2;simp[eqD] at h;subst h;exact⟨SeqAt.RcAt.str_tuple _ _ l hu0,PySem.SeqAt.RcNeAt.str_tuple _ _ l hu0⟩
  |ref k=>
   simp only[eqD] at h;cases hs:am S k with
   |none=>rw[hs] at h;cases h
   |some es=>rw[hs] at h;cases h;obtain⟨a,i,e,l⟩:=aY I R h2 hs;subst e;cases r2;exact⟨SeqAt.RcAt.str_list _ _ l hu0,PySem.SeqAt.RcNeAt.str_list _ _ l hu0⟩
 |tup xs=>
  obtain⟨a,i,e,l⟩:=bw I h1;cases y with
  |non=>subst e;cases r1;cases h2.nons;cases r2;simp[eqD] at h;subst h;exact⟨SeqAt.RcAt.tuple_none l hu0,PySem.SeqAt.RcNeAt.tuple_none l hu0⟩
  |bl j=>subst e;cases r1;cases h2.bls;cases r2;simp[eqD] at h;subst h;exact⟨SeqAt.RcAt.tuple_bool _ l hu0,PySem.SeqAt.RcNeAt.tuple_bool _ l hu0⟩
  |int j=>subst e;cases r1;cases h2.ints;obtain⟨t2,rfl⟩:=r2;simp[eqD] at h;subst h;exact⟨SeqAt.RcAt.tuple_int _ _ l hu0,PySem.SeqAt.RcNeAt.tuple_int _ _ l hu0⟩
  |str j=>subst e;cases r1;cases h2.strs;obtain⟨t2,rfl⟩:=r2;simp[eqD] at h;subst h;exact⟨SeqAt.RcAt.tuple_str _ _ l hu0,PySem.SeqAt.RcNeAt.tuple_str _ _ l hu0⟩
  |tup ys=>obtain⟨a',i',e',l'⟩:=bw I h2;exact seq e e'
  |ref k=>obtain⟨c,hc,ec⟩:=h2.refs;exact seq e ec
 |ref k=>
  obtain⟨c,hc,ec⟩:=h1.refs;cases y with
  |tup ys=>obtain⟨a',i',e',l'⟩:=bw I h2;exact seq ec e'
  |ref k=>obtain⟨c,hc,ec'⟩:=h2.refs;exact seq ec ec'
  |non=>
   simp only[eqD] at h;cases hs:am S k with
   |none=>rw[hs] at h;cases h
   |some es=>rw[hs] at h;cases h;obtain⟨a,i,e,l⟩:=aY I R h1 hs;subst e;cases r1;cases h2.nons;cases r2;exact⟨SeqAt.RcAt.list_none l hu0,PySem.SeqAt.RcNeAt.list_none l hu0⟩
  |bl j=>
   simp only[eqD] at h;cases hs:am S k with
   |none=>rw[hs] at h;cases h
   |some es=>rw[hs] at h;cases h;obtain⟨a,i,e,l⟩:=aY I R h1 hs;subst e;cases r1;cases h2.bls;cases r2;exact⟨SeqAt.RcAt.list_bool _ l hu0,PySem.SeqAt.RcNeAt.list_bool _ l hu0⟩
  |int j=>
   simp only[eqD] at h;cases hs:am S k with
   |none=>rw[hs] at h;cases h
   |some es=>rw[hs] at h;cases h;obtain⟨a,i,e,l⟩:=aY I R h1 hs;subst e;cases r1;cases h2.ints;obtain⟨t2,rfl⟩:=r2;exact⟨SeqAt.RcAt.list_int _ _ l hu0,PySem.SeqAt.RcNeAt.list_int _ _ l hu0⟩
  |str j=>
   simp only[eqD] at h;cases hs:am S k with
   |none=>rw[hs] at h;cases h
   |some es=>rw[hs] at h;cases h;obtain⟨a,i,e,l⟩:=aY I R h1 hs;subst e;cases r1;cases h2.strs;obtain⟨t2,rfl⟩:=r2;exact⟨SeqAt.RcAt.list_str _ _ l hu0,PySem.SeqAt.RcNeAt.list_str _ _ l hu0⟩
noncomputable def eqS(x y:D)(S:Sto):Option (D × Sto):=(eqD 60 S x y).map fun b=>(.bl b,S)
noncomputable def dlD(S:Sto)(x y:D):Option Bool:=match x,y with
 |.ref a,.ref b=>match S[a]?,S[b]? with
  |some (.dic _ _),some (.lst _)=>some false
  |_,_=>none
 |_,_=>none
noncomputable def neD(S:Sto)(x y:D):Option Bool:=match eqD 60 S x y with
 |some b=>some b
 |none=>dlD S x y
noncomputable def neS(x y:D)(S:Sto):Option (D × Sto):=(neD S x y).map fun b=>(.bl (!b),S)
theorem ni(h:eqD 60 S x y=some b):neS x y S=some (.bl (!b),S):=by unfold neS neD;rw[h];rfl
theorem HH(hu:X.A.units+64 < cLine):OpR X (VA .Eq) (rS X.K eqS):=by
 intro pins s σ H x y v u Q I rx ry h;obtain⟨m,S,a,b,d,S',R,va,vb,e,q⟩:=h;unfold eqS at e;cases he:eqD 60 S a b with
 |none=>rw[he] at e;cases e
 |some c=>
  rw[he] at e;cases e;exact(Mf I R 59 va vb rx ry he (by lia)).1 _ _ _ _ ⟨.bl c,H,I,rfl,q m H _ (Aft.refl R) bE⟩
theorem Mg(I:Inv X pins σ H s)(R:Rel X.K m S H)(hu:A.units < cLine)(h1:VD X.K m H x v)(h2:VD X.K m H y w)(r1:aF v u)(r2:aF w u')(h:dlD S x y=some c):WU A s u u' (!c):=by
 cases x with
 |ref a=>
  cases y with
  |ref b=>
   unfold dlD at h;dsimp only at h;split at h
   ·rename_i ks ds es ha hb;cases h;obtain⟨a',i,e,l⟩:=aY (es:=es) I R h2 (by unfold am;rw[hb]);subst e;cases r2;obtain⟨c,hc,ec⟩:=h1.refs;subst ec;cases r1;obtain⟨a2,ha2,vs,hv,_⟩:=R.ob _ _ ha;rw[hc] at ha2;cases ha2;obtain⟨_,_,xs,_,o,es',ep,g1,g2,_⟩:=(show bf X.prog X.w H s.heap c (.dK _) from I.hok c _ hv);exact PySem.SeqAt.dict_list g1 g2.1 l hu
   ·cases h
  |_=>cases h
 |_=>cases h
theorem HI(hu:X.A.units+64 < cLine):OpR X (VA .NotEq) (rS X.K neS):=by
 intro pins s σ H x y v u Q I rx ry h;obtain⟨m,S,a,b,d,S',R,va,vb,e,q⟩:=h;unfold neS neD at e;cases he:eqD 60 S a b with
 |none=>
  rw[he] at e;cases hd:dlD S a b with
  |none=>dsimp only at e;rw[hd] at e;cases e
  |some c=>
   dsimp only at e;rw[hd] at e;cases e;exact Mg I R (by lia) va vb rx ry hd _ _ _ _ ⟨.bl (!c),H,I,rfl,q m H _ (Aft.refl R) bE⟩
 |some c=>
  rw[he] at e;cases e;exact(Mf I R 59 va vb rx ry he (by lia)).2 _ _ _ _ ⟨.bl (!c),H,I,rfl,q m H _ (Aft.refl R) bE⟩
end
noncomputable def HJ(a b:Nat)(S:Sto):Option (D × Sto):=match S[a]? with
 | some (.lst xs)=>(match S[b]? with
  |some (.lst ys)=>if xs.length+ys.length<=100000 then some (.ref S.length,S++[.lst (xs++ys)]) else none
  | _=>none)
 |_=>none
noncomputable def jT:D->D->Sto->Option (D × Sto)
 |.int i,.int j,S=>some (.int (i+j),S)
 |.tup xs,.tup ys,S=>if xs.length+ys.length<=1000 then some (.tup (xs++ys),S) else none
 |.ref a,.ref b,S=>HJ a b S
 |.str x,.str y,S=>if x.length+y.length<=100000 then some (.str (x++y),S) else none
 |_,_,_=>none
noncomputable def Mh:D->D->Sto->Option (D × Sto)
 |.int i,.int j,S=>some (.int (i - j),S)
 |_,_,_=>none
noncomputable def hX(i j:Int):Bool:=(decide (-(2 ^ 64) < i) && decide (i < 2 ^ 64)) || (decide (-(2 ^ 64) < j) && decide (j < 2 ^ 64))
noncomputable def o6:D->D->Sto->Option (D × Sto)
 |.int i,.int j,S=>if hX i j=true then some (.int (i * j),S) else none
 | .ref n,.int k,S=>(match S[n]? with
  |some (.lst xs)=>if 0<=k/\xs.length * k.toNat<=1000/\k<=1000 then some (.ref S.length,S++[.lst (Zo k.toNat xs).flatten]) else none
  | _=>none)
 |_,_,_=>none
noncomputable def HK:D->D->Sto->Option (D × Sto)
 |.int i,.int j,S=>if 0 < j then some (.int (i % j),S) else none
 |_,_,_=>none
noncomputable def zf:D->D->Sto->Option (D × Sto)
 |.int i,.int j,S=>if 0 < j/\j < 1237940039285380274899124224 then some (.int (i / j),S) else none
 |_,_,_=>none
noncomputable def HL:D->D->Sto->Option (D × Sto)
 |.int i,.int j,S=>if 0<=j/\j<=1000000/\i.natAbs < 2 ^ 64 then some (.int (i ^ j.toNat),S) else none
 |_,_,_=>none
inductive BOp where |add |sub |mul |mod |fdiv |pow
noncomputable def bC:BOp->D->D->Sto->Option (D × Sto)
 |.add=>jT |.sub=>Mh |.mul=>o6 |.mod=>HK |.fdiv=>zf |.pow=>HL
noncomputable def BOp.op:BOp->WK
 |.add=>.Add |.sub=>.Sub |.mul=>.Mult |.mod=>.Mod |.fdiv=>.FloorDiv |.pow=>.Pow
section
variable {X:Cx} {K:W0} {m:List Addr} {H:Hp} {S:Sto}
theorem f8{op:WK}{f:D->D->Sto->Option (D × Sto)}{C:Int->Int->Prop}{g:Int->Int->Int}(ho:OpR X (Vr op) (rI C fun i j=>.int (g i j)))
  (hf:∀a b S d S',f a b S=some (d,S')->∃i j,a = .int i/\b = .int j/\C i j/\d = .int (g i j)/\S'=S):OpR X (Vr op) (rS X.K f):=by
 refine OpR.imp ho fun x y H Q h=>?_;obtain⟨m,S,a,b,d,S',R,va,vb,e,q⟩:=h;obtain⟨i,j,rfl,rfl,c,rfl,rfl⟩:=hf _ _ _ _ _ e;exact⟨i,j,va.ints,vb.ints,c,q m H _ (Aft.refl R) bh⟩
theorem sN:OpR X (Vr .Add) (fun x y H Q=>∃m S xs ys,Rel X.K m S H/\VD X.K m H (.tup xs) x/\VD X.K m H (.tup ys) y/\xs.length+ys.length<=1000/\∀m' H' u,Aft X.K m H S m' H'->VD X.K m' H' (.tup (xs++ys)) u->Q u H'):=by
 refine OpR.imp Cy fun x y H Q h=>?_;obtain⟨m,S,xs,ys,R,va,vb,hl,q⟩:=h;obtain⟨a,vs,rfl,sa,da⟩:=va.tups;obtain⟨b,ws,rfl,sb,db⟩:=vb.tups;have l1:=da.length;have l2:=db.length;refine⟨a,b,vs,ws,rfl,rfl,.of sa,.of sb,kK (by lia),fun e=>?_,fun _ e=>?_,fun _ _=>jY R (da.append db) q⟩
 ·subst e;have e:xs=[]:=Yp.mp (by simpa using l1);subst e;exact q m H _ (Aft.refl R) vb
 ·subst e;have e:ys=[]:=Yp.mp (by simpa using l2);subst e;rw[ZT] at q;exact q m H _ (Aft.refl R) va
theorem CP:OpR X (Vr .Add) (rS X.K jT):=by
 refine OpR.imp (OpR.or G5 (OpR.or sN (OpR.or sv sE))) fun x y H Q h=>?_;obtain⟨m,S,a,b,d,S',R,va,vb,e,q⟩:=h;cases a with
 |int i=>
  cases b with
  |int j=>cases e;exact .inl ⟨i,j,va.ints,vb.ints,q m H _ (Aft.refl R) bh⟩
  |_=>simp[jT] at e
 |tup xs=>
  cases b with
  |tup ys=>
   simp only[jT] at e;split at e
   ·rename_i hl;cases e;exact .inr (.inl ⟨m,S,xs,ys,R,va,vb,hl,q⟩)
   ·cases e
  |_=>simp[jT] at e
 |str i=>
  cases b with
  |str j=>
   simp only[jT] at e;split at e
   ·rename_i hl;cases e;exact .inr (.inr (.inl ⟨i,j,va.strs,vb.strs,by rw[VX];lia,q m H _ (Aft.refl R) kJ⟩))
   ·cases e
  |_=>simp[jT] at e
 |ref i=>
  cases b with
  |ref j=>
   simp only[jT,HJ] at e;split at e
   ·rename_i xs hx;split at e
    ·rename_i ys hy;split at e
     ·rename_i hl;cases e;obtain⟨a,vs,ha,hH,q1⟩:=R.lst hx;obtain⟨c,ws,hc,hG,q2⟩:=R.lst hy;obtain⟨a',ha',e1⟩:=va.refs;obtain⟨c',hc',e2⟩:=vb.refs;rw[ha] at ha';cases ha';rw[hc] at hc';cases hc';exact .inr (.inr (.inr ⟨a,c,vs,ws,e1,e2,hH,hG,by rw[VX,<-q1.length,<-q2.length];lia,o3 R (q1.append q2) q⟩))
     ·cases e
    ·cases e
   ·cases e
  |_=>simp[jT] at e
 |_=>cases b <;> simp[jT] at e
theorem uS(h:VDs K m H ds vs):∀n:Nat,VDs K m H (Zo n ds).flatten (Zo n vs).flatten
 |0=>by rw[Xn,Xn,XR,XR,VDs]
 |n+1=>by rw[Z4,Z4,Ym,Ym];exact h.append (uS h n)
theorem CQ:OpR X (Vr .Mult) (rS X.K o6):=by
 refine OpR.imp (OpR.or Hm G7) fun x y H Q h=>?_;obtain⟨m,S,a,b,d,S',R,va,vb,e,q⟩:=h;cases a with
 |int i=>
  cases b with
  |int j=>
   simp only[o6] at e;split at e
   ·rename_i hc;cases e;simp only[hX,Y7,bAE,decide_eq_true_eq] at hc;exact .inr ⟨i,j,va.ints,vb.ints,hc,q m H _ (Aft.refl R) bh⟩
   ·cases e
  |_=>simp[o6] at e
 |ref n=>
  cases b with
  |int k=>
   simp only[o6] at e;split at e
   ·rename_i xs hx;split at e
    ·rename_i hc;cases e;obtain⟨l,vs,hl,hH,vd⟩:=R.lst hx;obtain⟨l',hl',e1⟩:=va.refs;rw[hl] at hl';cases hl';exact .inl ⟨l,k,vs,e1,vb.ints,hH,by lia,by lia,by rw[VX,<-vd.length];lia,o3 R (uS vd k.toNat) q⟩
    ·cases e
   ·cases e
  |_=>simp[o6] at e
 |_=>cases b <;> simp[o6] at e
theorem zg:OpR X (Vr .FloorDiv) (rI (fun _ j=>0 < j/\j < 1237940039285380274899124224) fun i j=>.int (i / j)):=opI fun i j _ _ _ _ _ hc q=>by
 have h1:(0:Int) < j:=hc.1;have h2:j < 1237940039285380274899124224:=hc.2
 exact floordiv_int (by lia) (by rw[Int.fdiv_eq_ediv_of_nonneg i (by lia)];exact q) (.inl (PyProof.noPylong_of_log2 (by
  have h0:j.natAbs ≠ 0:=by lia
  have:j.natAbs.log2 < 90:=(Wf h0).mpr (by lia)
  lia)))
theorem CT(o:BOp):OpR X (Vr o.op) (rS X.K (bC o)):=by
 cases o with
 |add=>exact CP
 |sub=>
  refine f8 (C:=fun _ _=>True) (g:=fun i j=>i - j) (OpR.imp G6 fun x y H Q ⟨i,j,a,b,_,q⟩=>⟨i,j,a,b,q⟩) fun a b S d S' e=>?_;cases a <;> cases b <;> simp[bC,Mh] at e;exact⟨_,_,rfl,rfl,trivial,e.1.symm,e.2.symm⟩
 |mul=>exact CQ
 |mod=>
  refine f8 G8 fun a b S d S' e=>?_;cases a <;> cases b <;> simp[bC,HK] at e;rename_i i j;exact⟨i,j,rfl,rfl,e.1,e.2.1.symm,e.2.2.symm⟩
 |fdiv=>
  refine f8 zg fun a b S d S' e=>?_;cases a <;> cases b <;> simp[bC,zf] at e;rename_i i j;exact⟨i,j,rfl,rfl,e.1,e.2.1.symm,e.2.2.symm⟩
 |pow=>
  refine f8 G9 fun a b S d S' e=>?_;cases a <;> cases b <;> simp[bC,HL] at e;rename_i i j;exact⟨i,j,rfl,rfl,e.1,e.2.1.symm,e.2.2.symm⟩
noncomputable def wK(p:Int->Int->Bool):D->D->Sto->Option (D × Sto)
 |.int i,.int j,S=>some (.bl (p i j),S)
 |_,_,_=>none
noncomputable def bF:D->Bool
 |.non=>true
 |_=>false
noncomputable def isB(neg:Bool):D->D->Sto->Option (D × Sto)
 |d,.non,S=>some (.bl (neg != bF d),S)
 |.bl a,.bl b,S=>some (.bl (neg != (a == b)),S)
 |_,_,_=>none
noncomputable def cm:D->Bool
 |.non=>true |.bl _=>true |.int _=>true |.str _=>true |_=>false
noncomputable def eqF:D->D->Bool
 |.non,.non=>true
 |.bl a,.bl b=>a == b
 |.bl a,.int b=>(if a then 1 else 0) == b
 |.int a,.bl b=>a == (if b then 1 else 0)
 |.int a,.int b=>a == b
 |.str a,.str b=>a == b
 |_,_=>false
noncomputable def inF(x:D)(ds:List D):Bool:=ds.any fun y=>eqF y x
noncomputable def inD(x:D)(ds:List D)(S:Sto):Option Bool:=if (ds.all fun y=>(eqD 58 S y x).isSome)=true then some (ds.any fun y=>eqD 58 S y x == some true) else none
noncomputable def inS(neg:Bool)(x y:D)(S:Sto):Option (D × Sto):=match al y S with
 |some (_,ds)=>if cm x=true/\ds.all cm=true then some (.bl (neg != inF x ds),S) else (inD x ds S).map fun b=>(.bl (neg != b),S)
 |none=>none
inductive COp where |eq |ne |lt |le |gt |ge |is |isnot |isin |notin
noncomputable def aw:COp->D->D->Sto->Option (D × Sto)
 |.eq=>eqS |.ne=>neS
 |.lt=>wK fun i j=>decide (i < j) |.le=>wK fun i j=>decide (i<=j) |.gt=>wK fun i j=>decide (j < i) |.ge=>wK fun i j=>decide (j<=i)
 |.is=>isB false |.isnot=>isB true |.isin=>inS false |.notin=>inS true
noncomputable def COp.op:COp->CmpOp
 |.eq=>.Eq |.ne=>.NotEq |.lt=>.Lt |.le=>.LtE |.gt=>.Gt |.ge=>.GtE |.is=>.Is |.isnot=>.IsNot |.isin=>.In |.notin=>.NotIn
theorem et(ho:OpR X (VA op) (rI0 fun i j=>.bl (p i j))):OpR X (VA op) (rS X.K (wK p)):=by
 refine OpR.imp ho fun x y H Q h=>?_;obtain⟨m,S,a,b,d,S',R,va,vb,e,q⟩:=h;cases a <;> cases b <;> simp[wK] at e;obtain⟨rfl,rfl⟩:=e;exact⟨_,_,va.ints,vb.ints,q m H _ (Aft.refl R) bE⟩
theorem j3(h:VD K m H x v)(f:cm x=true):bD v=true:=by
 cases x <;> simp[cm] at f
 ·cases h.nons;rfl
 ·cases h.bls;rfl
 ·cases h.ints;rfl
 ·cases h.strs;rfl
theorem zh(h:VD K m H x v)(f:cm x=true)(h':VD K m H y w)(f':cm y=true):eqV v w=eqF x y:=by
 cases x <;> simp[cm] at f <;> cases y <;> simp[cm] at f' <;> simp[VD] at h h' <;> subst h <;> subst h' <;> rfl
theorem hY:∀ {ds:List D} {vs:List V},VDs K m H ds vs->ds.all cm=true->vs.all bD=true
 |[],vs,h,_=>by rw[VDs] at h;rw[h];rfl
 |d::ds,vs,h,f=>by
  rw[VDs] at h;obtain⟨x,r,rfl,p,q⟩:=h;rw[Z8,bAE] at f;rw[Z8,j3 p f.1,hY q f.2];rfl
theorem sO(h:VD K m H x v)(f:cm x=true):∀ {ds:List D} {vs:List V},VDs K m H ds vs->ds.all cm=true->inV v vs=inF x ds
 |[],vs,h,_=>by rw[VDs] at h;rw[h];rfl
 |d::ds,vs,h',f'=>by
  rw[VDs] at h';obtain⟨y,r,rfl,p,q⟩:=h';rw[Z8,bAE] at f';have ih:=sO h f q f'.2;unfold inV inF at ih ⊢;rw[Yy,Yy,zh p f'.1 h f,ih]
theorem nj(h:VD K m H x v)(f:cm x=true):∀ {ds:List D} {vs:List V},VDs K m H ds vs->ds.all cm=true->(vs.countP fun z=>eqV z v)=ds.countP fun z=>eqF z x
 |[],vs,h,_=>by rw[VDs] at h;rw[h];rfl
 |d::ds,vs,h',f'=>by
  rw[VDs] at h';obtain⟨y,r,rfl,p,q⟩:=h';rw[Z8,bAE] at f';rw[YJ,YJ,zh p f'.1 h f,nj h f q f'.2]
theorem gL(h:SqB K tu H a vs):SqL K H a vs\/SqT K H a vs:=by
 cases tu with
 |false=>exact .inl h
 |true=>exact .inr (.of h)
theorem o7(I:Inv X pins σ H s)(R:Rel X.K m S H)(vx:VD X.K m H x v)(rx:aF v u)(hu:A.units+58 < cLine)(vd:VDs X.K m H ds vs)(r:aJ vs its)(h:inD x ds S=some b) :
  ∃e:Value->Bool,(∀w ∈ its,WR A s w u (e w))/\its.any e=b:=by
 unfold inD at h;split at h
 ·rename_i hs;cases h;rw[ZJ] at hs
  have at_:∀ (i:Nat) w,its[i]?=some w->∃y v',ds[i]?=some y/\VD X.K m H y v'/\aF v' w:=fun i w hw=>by
   have hi:=(Zc.mp hw).1;obtain⟨y,v',e1,e2,e3⟩:=o4 vd r (j:=i) (by simpa using hi);refine⟨y,v',e1,e2,?_⟩
   have:its.toArray[i]=w:=by
    have:=(Zc.mp hw).2
    simpa using this
   rw[<-this];exact e3
  refine⟨fun w=>@decide (∃ (i:Nat) (y:D),ds[i]?=some y/\its[i]?=some w/\eqD 58 S y x=some true) (Classical.propDecidable _),fun w hw=>?_,?_⟩
  ·obtain⟨i,hi⟩:=Yc hw;dsimp only;by_cases hq:∃ (i:Nat) (y:D),ds[i]?=some y/\its[i]?=some w/\eqD 58 S y x=some true
   ·rw[@decide_eq_true _ (Classical.propDecidable _) hq];obtain⟨j,y,e1,e2,e3⟩:=hq;obtain⟨y',v',f1,f2,f3⟩:=at_ j w e2;rw[e1] at f1;cases f1;exact o5 I R 58 A y x v' v w u true f2 vx f3 rx e3 hu
   ·rw[@decide_eq_false _ (Classical.propDecidable _) hq];obtain⟨y,v',f1,f2,f3⟩:=at_ i w hi;obtain⟨c,hc⟩:=ZU.mp (hs y (Zf f1));cases c with
    |true=>exact absurd ⟨i,y,f1,hi,hc⟩ hq
    |false=>exact o5 I R 58 A y x v' v w u false f2 vx f3 rx hc hu
  ·rw[Z1,YB,YB];constructor
   ·rintro⟨w,_,hw⟩;obtain⟨i,y,e1,_,e3⟩:=@of_decide_eq_true _ (Classical.propDecidable _) hw;exact⟨y,Zf e1,by rw[e3];rfl⟩
   ·rintro⟨y,hy,e⟩;obtain⟨i,hi⟩:=Yc hy;obtain⟨v',hv,_⟩:=vd.get hi;obtain⟨w,hw,_⟩:=r.get hv;exact⟨w,Zf hw,@decide_eq_true _ (Classical.propDecidable _) ⟨i,y,hi,hw,by simpa using e⟩⟩
 ·cases h
theorem HM(hu:X.A.units+64 < cLine):OpR X (VA .In) (rS X.K (inS false)):=by
 intro pins s σ H x y v u Q I rx ry h;obtain⟨m,S,a,b,d,S',R,va,vb,e,q⟩:=h;unfold inS at e;split at e
 ·rename_i tu ds hi;obtain⟨p,vs,rfl,sq,vds⟩:=dJ R vb hi;split at e
  ·rename_i hf;cases e;refine wo pins s σ H x _ v u Q I rx ry ⟨p,vs,rfl,gL sq,j3 va hf.1,hY vds hf.2,q m H _ (Aft.refl R) ?_⟩;rw[if_neg (by decide),sO va hf.1 vds hf.2]
   simpa using bE
  ·cases hd:inD a ds S with
   |none=>rw[hd] at e;cases e
   |some c=>
    rw[hd] at e;cases e;cases ry;have ha:X.A.in1.units+58 < cLine:=by show X.A.units+1+58 < cLine;lia
    rcases gL sq with hq |hq
    ·obtain⟨its,r,pl,hz⟩:=I.list hq;obtain⟨e,he,hb⟩:=o7 I R va rx ha vds r hd;refine WV e pl.isList (fun w hw=>he w (by simpa using hw)) ⟨.bl _,H,I,rfl,?_⟩;rw[show its.toArray.any e=its.any e by simp,hb];exact q m H _ (Aft.refl R) (by simpa using bE)
    ·obtain⟨its,r,pl,hz⟩:=I.tuple hq;obtain⟨e,he,hb⟩:=o7 I R va rx ha vds r hd;refine WW e pl (fun w hw=>he w (by simpa using hw)) ⟨.bl _,H,I,rfl,?_⟩;rw[show its.toArray.any e=its.any e by simp,hb];exact q m H _ (Aft.refl R) (by simpa using bE)
 ·cases e
theorem wL(hu:X.A.units+64 < cLine):OpR X (VA .NotIn) (rS X.K (inS true)):=by
 intro pins s σ H x y v u Q I rx ry h;obtain⟨m,S,a,b,d,S',R,va,vb,e,q⟩:=h;unfold inS at e;split at e
 ·rename_i tu ds hi;obtain⟨p,vs,rfl,sq,vds⟩:=dJ R vb hi;split at e
  ·rename_i hf;cases e;refine oP pins s σ H x _ v u Q I rx ry ⟨p,vs,rfl,gL sq,j3 va hf.1,hY vds hf.2,q m H _ (Aft.refl R) ?_⟩;rw[if_pos rfl,sO va hf.1 vds hf.2]
   simpa using bE
  ·cases hd:inD a ds S with
   |none=>rw[hd] at e;cases e
   |some c=>
    rw[hd] at e;cases e;cases ry;have ha:X.A.in1.units+58 < cLine:=by show X.A.units+1+58 < cLine;lia
    rcases gL sq with hq |hq
    ·obtain⟨its,r,pl,hz⟩:=I.list hq;obtain⟨e,he,hb⟩:=o7 I R va rx ha vds r hd;refine WX e pl.isList (fun w hw=>he w (by simpa using hw)) ⟨.bl _,H,I,rfl,?_⟩;rw[show its.toArray.any e=its.any e by simp,hb];exact q m H _ (Aft.refl R) (by simpa using bE)
    ·obtain⟨its,r,pl,hz⟩:=I.tuple hq;obtain⟨e,he,hb⟩:=o7 I R va rx ha vds r hd;refine WY e pl (fun w hw=>he w (by simpa using hw)) ⟨.bl _,H,I,rfl,?_⟩;rw[show its.toArray.any e=its.any e by simp,hb];exact q m H _ (Aft.refl R) (by simpa using bE)
 ·cases e
theorem zi(h:VD K m H d v):decide (v=V.non)=bF d:=by
 cases d with
 |non=>cases h.nons;rfl
 |bl _=>cases h.bls;rfl
 |int _=>cases h.ints;rfl
 |str _=>cases h.strs;rfl
 |tup _=>obtain⟨_,_,e,_⟩:=h.tups;subst e;rfl
 |ref _=>obtain⟨_,_,e⟩:=h.refs;subst e;rfl
theorem HN:OpR X (VA .Is) (rS X.K (isB false)):=by
 refine OpR.imp (OpR.or Hc Ho) fun x y H Q h=>?_;obtain⟨m,S,a,b,d,S',R,va,vb,e,q⟩:=h;cases b with
 |non=>
  simp[isB] at e;obtain⟨rfl,rfl⟩:=e;exact .inl ⟨vb.nons,q m H _ (Aft.refl R) (by rw[zi va];exact bE)⟩
 |bl j=>
  cases a with
  |bl i=>
   simp[isB] at e;obtain⟨rfl,rfl⟩:=e;exact .inr ⟨i,j,va.bls,vb.bls,q m H _ (Aft.refl R) bE⟩
  |_=>simp[isB] at e
 |_=>cases a <;> simp[isB] at e
theorem wM:OpR X (VA .IsNot) (rS X.K (isB true)):=by
 refine OpR.imp (OpR.or Cb wy) fun x y H Q h=>?_;obtain⟨m,S,a,b,d,S',R,va,vb,e,q⟩:=h;cases b with
 |non=>
  simp[isB] at e;obtain⟨rfl,rfl⟩:=e;exact .inl ⟨vb.nons,q m H _ (Aft.refl R) (by rw[zi va];exact bE)⟩
 |bl j=>
  cases a with
  |bl i=>
   simp[isB] at e;obtain⟨rfl,rfl⟩:=e;exact .inr ⟨i,j,va.bls,vb.bls,q m H _ (Aft.refl R) (by simpa[bne] using bE)⟩
  |_=>simp[isB] at e
 |_=>cases a <;> simp[isB] at e
theorem f9(hu:X.A.units+64 < cLine)(o:COp):OpR X (VA o.op) (rS X.K (aw o)):=by
 cases o with
 |eq=>exact HH hu
 |ne=>exact HI hu
 |lt=>exact et LU
 |le=>exact et LV
 |gt=>exact et LW
 |ge=>exact et LX
 |is=>exact HN
 |isnot=>exact wM
 |isin=>exact HM hu
 |notin=>exact wL hu
end
section
variable {X:Cx} {K:W0} {m:List Addr} {H:Hp} {S:Sto}
noncomputable def ixS(d i:D)(S:Sto):Option (D × Sto):=match i with
 | .int k=>(match d with
  |.str z=>if z.length<=100000 then (atI z.cps.toList k).map fun c=>(.str ⟨#[c]⟩,S) else none
  | d=>(match al d S with
   |some (_,ds)=>(atI ds k).map fun x=>(x,S)
   | none=>none))
 |_=>none
theorem HP{k:Int}(h:VDs K m H ds vs)(e:atI ds k=some d):∃v,atI vs k=some v/\VD K m H d v:=by
 unfold atI at e ⊢;rw[<-h.length];cases hi:ixN ds.length k with
 |none=>rw[hi] at e;cases e
 |some j=>
  rw[hi] at e;exact h.get e
theorem zj{k:Int}(sq:SqB K tu H a vs)(vd:VDs K m H ds vs)(e:atI ds k=some d)(q:∀v,VD K m H d v->Q v H):rIx K (.ref a) (.int k) H Q:=by
 obtain⟨v,ev,vv⟩:=HP vd e;cases tu with
 |false=>exact .inl ⟨a,vs,k,v,rfl,rfl,sq,ev,q v vv⟩
 |true=>exact .inr (.inl ⟨a,vs,k,v,rfl,rfl,.of sq,ev,q v vv⟩)
theorem OS:IxR X (rS X.K ixS):=by
 intro value slice pins s σ H x y v u Q I rx ry h hs;refine yC value slice pins s σ H x y v u Q I rx ry ?_ hs;obtain⟨m,S,a,b,d,S',R,va,vb,e,q⟩:=h;cases b with
 |int k=>
  cases vb.ints
  have main:∀r,al a S=some r->(atI r.2 k).map (fun x=>(x,S))=some (d,S')->rIx X.K x (.int k) H Q:=by
   intro r hi e;cases ha:atI r.2 k with
   |none=>rw[ha] at e;cases e
   |some z=>
    rw[ha] at e;cases e;obtain⟨p,vs,rfl,sq,vds⟩:=dJ (tu:=r.1) (ds:=r.2) R va hi;exact zj sq vds ha fun v vv=>q m H v (Aft.refl R) vv
  cases a with
  |str z=>
   simp only[ixS] at e;split at e
   ·rename_i hl;cases hc:atI z.cps.toList k with
    |none=>rw[hc] at e;cases e
    |some c=>
     rw[hc] at e;cases e;exact .inr (.inr ⟨z,k,c,va.strs,rfl,by rw[VX];lia,hc,q m H _ (Aft.refl R) kJ⟩)
   ·cases e
  |tup ds=>exact main (true,ds) rfl e
  |ref n=>
   simp only[ixS] at e;cases hi:al (.ref n) S with
   |none=>rw[hi] at e;cases e
   |some r=>rw[hi] at e;exact main r hi e
  |_=>simp[ixS,al] at e
 |_=>simp[ixS] at e
noncomputable def sP(x:XA)(y:XE):XE:=fun ρ S=>bnd (x ρ S) fun ds S1=>bnd (y ρ S1) fun i S2=>match i with
 |.int k=>(atI ds k).map fun d=>(d,S2)
 |_=>none
theorem HQ(h:tE K (sP x y) σ H Q):tOp (rIx K) (ek K x) (tE K y) σ H Q:=by
 obtain⟨m,ρ,S,d,S',E,R,e,q⟩:=h;obtain⟨ds,S1,e1,e⟩:=af e;obtain⟨i,S2,e2,e⟩:=af e;refine⟨m,ρ,S,ds,S1,E,R,e1,fun m1 H1 a vs A1 sq n1 n2 n3 vd=>⟨m1,ρ,S1,i,S2,E.mono R A1.ext,A1.rel,e2,fun m2 H2 w A2 vb=>?_⟩⟩;cases i with
 |int k=>
  cases vb.ints;dsimp only at e;cases ha:atI ds k with
  |none=>rw[ha] at e;cases e
  |some z=>
   rw[ha] at e;cases e;exact zj (tu:=false) (show SqL K H2 a vs from SqL.of (A2.ext.keep _ _ sq n1)) (vd.mono A1.rel A2.ext) ha fun v vv=>q m2 H2 v (A1.trans A2) vv
 |_=>cases e
noncomputable def gu(ds:List D)(lo hi:Option Int):List D:=(ds.drop (HT.sIx ds.length 0 lo)).take (HT.sIx ds.length ds.length hi - HT.sIx ds.length 0 lo)
theorem sQ(h:VDs K m H ds vs)(lo hi:Option Int):VDs K m H (gu ds lo hi) (ky vs lo hi):=by
 unfold gu ky;rw[<-h.length];exact(h.drop _).take _
noncomputable def slS(lo hi:Option Int)(d:D)(S:Sto):Option (D × Sto):=match d with
 |.tup ds=>some (.tup (gu ds lo hi),S)
 | .ref n=>(match am S n with
  |some ds=>some (.ref S.length,S++[.lst (gu ds lo hi)])
  | none=>none)
 |_=>none
def rSl(K:W0):V->Option Int->Option Int->Hp->VK->Prop:=fun v lo hi H Q=>∃m S a d S',Rel K m S H/\VD K m H a v/\slS lo hi a S=some (d,S')/\∀m' H' u,Aft K m H S' m' H'->VD K m' H' d u->Q u H'
theorem sR{vs:List V}{lo hi:Option Int}(h:HT.sIx vs.length 0 lo=0/\HT.sIx vs.length vs.length hi=vs.length):ky vs lo hi=vs:=by
 unfold ky;rw[h.1,h.2];simp
theorem OT:SlR X (rSl X.K):=by
 intro pins s σ H x v vl vu lo hi sl Q I rx hs pl pu h;refine(SlR.or Cz Cm) pins s σ H x v vl vu lo hi sl Q I rx hs pl pu ?_;obtain⟨m,S,a,d,S',R,va,e,q⟩:=h;cases a with
 |tup ds=>
  cases e;obtain⟨p,vs,rfl,sq,vds⟩:=va.tups;refine .inl ⟨p,vs,rfl,.of sq,fun hw=>?_,fun _=>jY R (sQ vds lo hi) q⟩;have:=sQ vds lo hi;rw[sR hw] at this;exact q m H _ (Aft.refl R) (oZ sq this)
 |ref n=>
  simp only[slS] at e;cases hn:am S n with
  |none=>rw[hn] at e;cases e
  |some ds=>
   rw[hn] at e;cases e;obtain⟨p,vs,hp,sq,vds⟩:=R.seq hn;obtain⟨p',hp',rfl⟩:=va.refs;rw[hp] at hp';cases hp';exact .inr ⟨p,vs,rfl,sq,o3 R (sQ vds lo hi) q⟩
 |_=>cases e
abbrev XO:=Rho->Sto->Option (Option Int × Sto)
def tOI(K:W0)(x:XO):TO:=fun σ H Q=>∃m ρ S o S',EnvR K m H ρ σ/\Rel K m S H/\x ρ S=some (o,S')/\∀m' H',Aft K m H S' m' H'->Q o H'
noncomputable def sS:XO:=fun _ S=>some (none,S)
noncomputable def sT(x:XE):XO:=fun ρ S=>bnd (x ρ S) fun d S1=>match d with
 |.int i=>some (some i,S1)
 |_=>none
theorem CU(h:tOI K sS σ H Q):uJ σ H Q:=by
 obtain⟨m,ρ,S,o,S',E,R,e,q⟩:=h;cases e;exact q m H (Aft.refl R)
theorem CV(h:tOI K (sT x) σ H Q):FY (tE K x) σ H Q:=by
 obtain⟨m,ρ,S,o,S',E,R,e,q⟩:=h;obtain⟨d,S1,e1,e⟩:=af e;refine⟨m,ρ,S,d,S1,E,R,e1,fun m1 H1 v A1 vd=>?_⟩;cases d with
 |int i=>cases e;exact⟨i,vd.ints,q m1 H1 A1⟩
 |_=>cases e
theorem PO.imp(h:PO X e t)(f:∀σ H Q,t' σ H Q->t σ H Q):PO X e t':=fun pins s σ H Q I q=>h pins s σ H Q I (f σ H Q q)
noncomputable def xSl(x:XE)(lo hi:XO):XE:=fun ρ S=>bnd (x ρ S) fun d S1=>bnd (lo ρ S1) fun l S2=>bnd (hi ρ S2) fun h S3=>slS l h d S3
theorem Mi{x:XE}{lo hi:XO}{σ:L2.St}{H:Hp}{Q:VK}(h:tE K (xSl x lo hi) σ H Q):tSl (rSl K) (tE K x) (tOI K lo) (tOI K hi) σ H Q:=by
 obtain⟨m,ρ,S,d,S',E,R,e,q⟩:=h;obtain⟨a,S1,e1,e⟩:=af e;obtain⟨l,S2,e2,e⟩:=af e;obtain⟨u,S3,e3,e⟩:=af e;refine⟨m,ρ,S,a,S1,E,R,e1,fun m1 H1 v A1 vd=>⟨m1,ρ,S1,l,S2,E.mono R A1.ext,A1.rel,e2,fun m2 H2 A2=>⟨m2,ρ,S2,u,S3,E.mono R (A1.trans A2).ext,A2.rel,e3,fun m3 H3 A3=>?_⟩⟩⟩;exact⟨m3,S3,a,d,S',A3.rel,vd.mono A1.rel (A2.trans A3).ext,e,fun m4 H4 w A4 vw=>q m4 H4 w (((A1.trans A2).trans A3).trans A4) vw⟩
noncomputable def kL(d:D)(S:Sto):Option (Bool × Sto):=match d with
 |.non=>some (false,S)
 |.bl b=>some (b,S)
 |.int i=>some (i != 0,S)
 |.str y=>if y.length<=100000 then some ((y.length:Int) != 0,S) else none
 |.tup ds=>some (!ds.isEmpty,S)
 | .ref n=>(match am S n with
  |some ds=>some (!ds.isEmpty,S)
  | none=>none)
theorem kM(h:VDs K m H ds vs):ds.isEmpty=vs.isEmpty:=by
 have:=h.length;cases ds <;> cases vs <;> simp at this ⊢
theorem HR(R:Rel K m S H)(vd:VD K m H d v)(e:kL d S=some (b,S')):S'=S/\Cd K v H b:=by
 cases d with
 |non=>cases e;cases vd.nons;exact⟨rfl,rfl⟩
 |bl _=>cases e;cases vd.bls;exact⟨rfl,rfl⟩
 |int _=>cases e;cases vd.ints;exact⟨rfl,rfl⟩
 |str y=>
  simp only[kL] at e;split at e
  ·rename_i hl;cases e;cases vd.strs;exact⟨rfl,by rw[VX];lia,rfl⟩
  ·cases e
 |tup ds=>
  cases e;obtain⟨a,vs,rfl,sq,vds⟩:=vd.tups;exact⟨rfl,.inr (.inl ⟨vs,.of sq,by rw[kM vds]⟩)⟩
 |ref n=>
  simp only[kL] at e;cases hn:am S n with
  |none=>rw[hn] at e;cases e
  |some ds=>
   rw[hn] at e;cases e;obtain⟨p,vs,hp,sq,vds⟩:=R.seq hn;obtain⟨p',hp',rfl⟩:=vd.refs;rw[hp] at hp';cases hp';exact⟨rfl,.inl ⟨vs,sq,by rw[kM vds]⟩⟩
noncomputable def CW(x:XE):XT:=fun ρ S=>bnd (x ρ S) fun d S1=>kL d S1
theorem HS(h:tT K (CW x) σ H Q):(tE K x) σ H fun v H'=>∃k,Cd K v H' k/\Q k H':=by
 obtain⟨m,ρ,S,b,S',E,R,e,q⟩:=h;obtain⟨d,S1,e1,e⟩:=af e;refine⟨m,ρ,S,d,S1,E,R,e1,fun m1 H1 v A1 vd=>?_⟩;obtain⟨rfl,t⟩:=HR A1.rel vd e;exact⟨b,t,q m1 H1 A1⟩
noncomputable def xB(x:XE):XT:=fun ρ S=>bnd (x ρ S) fun d S1=>match d with
 |.bl b=>some (b,S1)
 |_=>none
theorem Mj(h:tT K (xB x) σ H Q):(tE K x) σ H fun v H'=>∃k,v = .bl k/\Q k H':=by
 obtain⟨m,ρ,S,b,S',E,R,e,q⟩:=h;obtain⟨d,S1,e1,e⟩:=af e;refine⟨m,ρ,S,d,S1,E,R,e1,fun m1 H1 v A1 vd=>?_⟩;cases d with
 |bl k=>cases e;exact⟨b,vd.bls,q m1 H1 A1⟩
 |_=>cases e
noncomputable def b7(_:Bool)(ds:List D)(S:Sto):Option (D × Sto):=some (.int ds.length,S)
noncomputable def iS(_:Bool)(ds:List D)(S:Sto):Option (D × Sto):=some (.tup ds,S)
noncomputable def wN:D->Bool
 |.bl _=>true
 |_=>false
noncomputable def mJ:D->Bool
 |.bl b=>b
 |_=>false
noncomputable def jU(tu:Bool)(ds:List D)(S:Sto):Option (D × Sto):=if tu=false/\ds.all wN=true then some (.bl (ds.all mJ),S) else none
noncomputable def mK(tu:Bool)(ds:List D)(S:Sto):Option (D × Sto):=if tu=false/\ds.all wN=true then some (.bl (ds.any mJ),S) else none
def r1(r:V->Hp->VK->Prop):List V->Hp->VK->Prop
 |[x],H,Q=>r x H Q
 |_,_,_=>False
theorem cG(h:r1 r xs H Q):∃x,xs=[x]/\r x H Q:=by
 match xs,h with
 |[x],h=>exact⟨x,rfl,h⟩
theorem wP:aM X (.builtin "len") (r1 (rSq X.K b7)):=by
 refine aM.imp oQ fun xs H Q h=>?_;obtain⟨_,rfl,m,S,tu,ds,a,vs,d,S',R,rfl,sq,vd,e,q⟩:=cG h;cases e;exact⟨a,vs,rfl,gL sq,q m H _ (Aft.refl R) (by rw[vd.length];exact bh)⟩
theorem wQ:aM X (.type "tuple") (r1 (rSq X.K iS)):=by
 refine aM.imp mG fun xs H Q h=>?_;obtain⟨_,rfl,m,S,tu,ds,a,vs,d,S',R,rfl,sq,vd,e,q⟩:=cG h;cases e;cases tu with
 |false=>exact⟨a,vs,rfl,.inl ⟨sq,jY R vd q⟩⟩
 |true=>exact⟨a,vs,rfl,.inr ⟨.of sq,q m H _ (Aft.refl R) (oZ sq vd)⟩⟩
theorem sU:∀ {ds:List D} {vs:List V},VDs K m H ds vs->ds.all wN=true->vs=(ds.map mJ).map V.bl
 |[],vs,h,_=>by rw[VDs] at h;rw[h];rfl
 |d::ds,vs,h,f=>by
  rw[VDs] at h;obtain⟨x,r,rfl,p,q⟩:=h;rw[Z8,bAE] at f;cases d with
  |bl b=>rw[p.bls,sU q f.2];rfl
  |_=>simp[wN] at f
theorem HU(ds:List D):(ds.map mJ).all id=ds.all mJ:=by rw[Yx];rfl
theorem HV(ds:List D):(ds.map mJ).any id=ds.any mJ:=by rw[XF];rfl
theorem wR(hc:X.calm=true):aM X (.builtin "all") (r1 (rSq X.K jU)):=by
 refine aM.imp (ww hc) fun xs H Q h=>?_;obtain⟨_,rfl,m,S,tu,ds,a,vs,d,S',R,rfl,sq,vd,e,q⟩:=cG h;unfold jU at e;split at e
 ·rename_i hf;cases e;obtain⟨rfl,hf⟩:=hf;refine⟨a,ds.map mJ,rfl,?_,q m H _ (Aft.refl R) (by rw[HU];exact bE)⟩;rw[<-sU vd hf];exact sq
 ·cases e
theorem wU(hc:X.calm=true):aM X (.builtin "any") (r1 (rSq X.K mK)):=by
 refine aM.imp (wx hc) fun xs H Q h=>?_;obtain⟨_,rfl,m,S,tu,ds,a,vs,d,S',R,rfl,sq,vd,e,q⟩:=cG h;unfold mK at e;split at e
 ·rename_i hf;cases e;obtain⟨rfl,hf⟩:=hf;refine⟨a,ds.map mJ,rfl,?_,q m H _ (Aft.refl R) (by rw[HV];exact bE)⟩;rw[<-sU vd hf];exact sq
 ·cases e
def rTm(K:W0)(f:Bool->List D->Option (List D)):V->Hp->VK->Prop:=fun v H Q=>∃m S tu ds a vs es,Rel K m S H/\v = .ref a/\SqB K tu H a vs/\VDs K m H ds vs/\f tu ds=some es ∧
 ∀m' H' p ws,Aft K m H S m' H'->H' p=some (.lst ws)->p ∉ m'->(∀b,b ∈ m->b ≠ p)->H p=none->VDs K m' H' es ws->Q (.ref p) H'
theorem kN:aM X (.type "list") (r1 (rTm X.K fun _ ds=>some ds)):=by
 refine aM.imp oS fun xs H Q h=>?_;obtain⟨_,rfl,m,S,tu,ds,a,vs,es,R,rfl,sq,vd,e,q⟩:=cG h;cases e;exact⟨a,vs,rfl,gL sq,jZ R vd q⟩
noncomputable def zk:D->D->Sto->Option (D × Sto)
 |.int i,.int j,S=>some (.int (if j > i then j else i),S)
 |_,_,_=>none
noncomputable def zl:D->D->Sto->Option (D × Sto)
 |.int i,.int j,S=>some (.int (if j < i then j else i),S)
 |_,_,_=>none
noncomputable def two(f:D->D->Sto->Option (D × Sto)):List D->Sto->Option (D × Sto)
 |[a,b],S=>f a b S
 |_,_=>none
theorem sV(h:VDs K m H [a,b] vs):∃v w,vs=[v,w]/\VD K m H a v/\VD K m H b w:=by
 rw[VDs] at h;obtain⟨v,r,rfl,p,q⟩:=h;rw[VDs] at q;obtain⟨w,r',rfl,p',q'⟩:=q;rw[VDs] at q';subst q';exact⟨v,w,rfl,p,p'⟩
theorem HW(h:VDs K m H [a] vs):∃v,vs=[v]/\VD K m H a v:=by
 rw[VDs] at h;obtain⟨v,r,rfl,p,q⟩:=h;rw[VDs] at q;subst q;exact⟨v,rfl,p⟩
theorem qF(h:two f as S=some r):∃a b,as=[a,b]/\f a b S=some r:=by
 match as,h with
 |[a,b],h=>exact⟨a,b,rfl,h⟩
theorem sW(hc:X.calm=true):aM X (.builtin "max") (rSA X.K (two zk)):=by
 refine aM.imp (wg hc) fun xs H Q h=>?_;obtain⟨m,S,as,d,S',R,vd,e,q⟩:=h;obtain⟨a,b,rfl,e2⟩:=qF e;obtain⟨v,w,rfl,p,p'⟩:=sV vd;cases a <;> cases b <;> simp[zk] at e2;obtain⟨rfl,rfl⟩:=e2;exact⟨_,_,by rw[p.ints,p'.ints],q m H _ (Aft.refl R) bh⟩
theorem sX(hc:X.calm=true):aM X (.builtin "min") (rSA X.K (two zl)):=by
 refine aM.imp (wj hc) fun xs H Q h=>?_;obtain⟨m,S,as,d,S',R,vd,e,q⟩:=h;obtain⟨a,b,rfl,e2⟩:=qF e;obtain⟨v,w,rfl,p,p'⟩:=sV vd;cases a <;> cases b <;> simp[zl] at e2;obtain⟨rfl,rfl⟩:=e2;exact⟨_,_,by rw[p.ints,p'.ints],q m H _ (Aft.refl R) bh⟩
inductive Ty where |int |bool |tuple |list |str
noncomputable def Ty.nm:Ty->String
 |.int => "int" |.bool => "bool" |.tuple => "tuple" |.list => "list" |.str => "str"
noncomputable def tyN(d:D)(S:Sto):Option String:=match d with
 |.non=>some "NoneType" |.bl _=>some "bool" |.int _=>some "int" |.str _=>some "str" |.tup _=>some "tuple"
 | .ref n=>(match S[n]? with
  |some (.lst _)=>some "list"
  |some (.frz _)=>some "list"
  |some (.dic _ _)=>some "dict"
  | none=>none)
noncomputable def eT(t:Ty)(n:String):Bool:=n == t.nm || (match t with |.int=>n == "bool" |_=>false)
noncomputable def kO(t:Ty)(d:D)(S:Sto):Option (D × Sto):=(tyN d S).map fun n=>(.bl (eT t n),S)
theorem CY(K:W0)(t:Ty):(Vf K (.type "NoneType") (.type t.nm)=some (eT t "NoneType"))/\(Vf K (.type "bool") (.type t.nm)=some (eT t "bool"))/\(Vf K (.type "int") (.type t.nm)=some (eT t "int")) ∧
  (Vf K (.type "str") (.type t.nm)=some (eT t "str"))/\(Vf K (.type "tuple") (.type t.nm)=some (eT t "tuple"))/\(Vf K (.type "list") (.type t.nm)=some (eT t "list"))/\(Vf K (.type "dict") (.type t.nm)=some (eT t "dict")):=by
 cases t <;> exact⟨by kernel_rfl,by kernel_rfl,by kernel_rfl,by kernel_rfl,by kernel_rfl,by kernel_rfl,by kernel_rfl⟩
theorem Mk(R:Rel K m S H)(vd:VD K m H d v)(e:tyN d S=some n):TyOf K H v (.type n):=by
 cases d with
 |non=>cases e;cases vd.nons;exact .non
 |bl _=>cases e;cases vd.bls;exact .bl _
 |int _=>cases e;cases vd.ints;exact .int _
 |str _=>cases e;cases vd.strs;exact .str _
 |tup ds=>cases e;obtain⟨a,vs,rfl,sq,_⟩:=vd.tups;exact .tup sq
 |ref k=>
  simp only[tyN] at e;obtain⟨a,ha,rfl⟩:=vd.refs;cases hk:S[k]? with
  |none=>rw[hk] at e;cases e
  |some o=>
   rw[hk] at e;obtain⟨a',ha',r⟩:=R.ob k o hk;rw[ha] at ha';cases ha';cases o with
   |lst ds=>cases e;obtain⟨vs,h,_⟩:=r;exact .lst h
   |frz ds=>cases e;obtain⟨o,vs,h,_⟩:=r;exact .frz h
   |dic ks ds=>cases e;obtain⟨vs,h,_⟩:=r;exact .dK h
theorem zm(e:tyN d S=some n):n = "NoneType"\/n = "bool"\/n = "int"\/n = "str"\/n = "tuple"\/n = "list"\/n = "dict" := by
 cases d with
 |ref k=>
  simp only[tyN] at e;cases hk:S[k]? with
  |none=>rw[hk] at e;cases e
  |some o=>rw[hk] at e;cases o <;> cases e <;> simp
 |_=>cases e <;> simp
theorem HX(K:W0)(t:Ty)(h:n = "NoneType"\/n = "bool"\/n = "int"\/n = "str"\/n = "tuple"\/n = "list"\/n = "dict"):Vf K (.type n) (.type t.nm)=some (eT t n):=by
 obtain⟨a,b,c,d,e,f,g⟩:=CY K t;rcases h with rfl |rfl |rfl |rfl |rfl |rfl |rfl <;> assumption
def Ml(K:W0)(t:Ty)(te:TE):TE:=tCB (F1 K) (cY te (cY (tC (.ty t.nm)) kr))
theorem CZ(h:tE K (xUn (kO t) x) σ H Q):Ml K t (tE K x) σ H Q:=by
 obtain⟨m,ρ,S,d,S',E,R,e,q⟩:=h;obtain⟨a,S1,e1,e⟩:=af e;refine⟨m,ρ,S,a,S1,E,R,e1,fun m1 H1 v A1 va=>?_⟩;unfold kO at e;cases hn:tyN a S1 with
 |none=>rw[hn] at e;cases e
 |some n=>
  rw[hn] at e;cases e;exact⟨v,t.nm,_,_,rfl,Mk A1.rel va hn,HX K t (zm hn),q m1 H1 _ A1 bE⟩
end
end Ev
namespace Ev
open PySem PySem.Spec PyProof.Rows L2
open PySem.W (KasT kas_sort kas_asc kas_desc kas_tail3 kas_descPart kas_count kas_place kas_bin kas_rev kas_ask KatTups)
noncomputable def eu{α:Type}(lt:Nat->Nat->Bool):KasT α->α
 |.ret a=>a
 |.ask i j k=>eu lt (k (lt i j))
def KT{α:Type}(n:Nat)(P:α->Prop):KasT α->Prop
 |.ret a=>P a
 |.ask i j k=>i < n/\j < n/\∀b,KT n P (k b)
theorem KT.bind{α β:Type}{n:Nat}{P:α->Prop}{R:β->Prop}{f:α->KasT β}(hf:∀a,P a->KT n R (f a)):∀ {t:KasT α},KT n P t->KT n R (t.bind f)
 |.ret a,h=>hf a h
 |.ask i j k,h=>⟨h.1,h.2.1,fun b=>KT.bind hf (h.2.2 b)⟩
theorem KT.run{α:Type}{n:Nat}{P:α->Prop}{lt:Nat->Nat->Bool}:∀ {t:KasT α},KT n P t->P (eu lt t)
 |.ret a,h=>h
 |.ask i j k,h=>KT.run (t:=k (lt i j)) (h.2.2 (lt i j))
theorem qG{α:Type}{n:Nat}{P:α->Prop}{lt:Nat->Nat->Bool}{cmp:Nat->Nat->(Bool->Shared->Prop)->Shared->Prop}{s:Shared}(hc:∀i j,i < n->j < n->∀C:Bool->Shared->Prop,C (lt i j) s->cmp i j C s){Q:α->Shared->Prop} :
  ∀ {t:KasT α},KT n P t->Q (eu lt t) s->t.kasWp cmp Q s
 |.ret a,_,q=>q
 |.ask i j k,h,q=>hc i j h.1 h.2.1 _ (qG hc (h.2.2 (lt i j)) q)
def Pm(n:Nat)(p:Array Nat):Prop:=p.Perm (Y4 (Zj n))
theorem Pm.at{n i:Nat}(h:Pm n p)(hn:0 < n):p.getD i 0 < n:=by
 by_cases hi:i < p.size
 ·have e:p.getD i 0=p[i]:=by simp[Array.getD,hi]
  rw[e];have hm:p[i] ∈ p:=Array.getElem_mem hi;have:=h.mem_iff.mp hm
  simpa using this
 ·have e:p.getD i 0=0:=by simp[Array.getD,hi]
  omega
theorem Pm.rev{n i j:Nat}(h:Pm n p):Pm n (kas_rev p i j):=(mirror_perm p i j _).trans h
theorem sY{n:Nat}(h:Pm n p)(hn:0 < n):∀f m,KT n (fun _=>True) (kas_asc p f m)
 |0,_=>trivial
 | f+1,m=>⟨h.at hn,h.at hn,fun b=>by
  cases b with
  |true=>exact trivial
  | false=>exact sY h hn f (m+1)⟩
theorem j4{n:Nat}(hn:0 < n):∀f (p:Array Nat) m q,Pm n p->KT n (fun r:Array Nat × Nat × Nat=>Pm n r.1) (kas_desc f p m q)
 |0,p,m,q,h=>h
 | f+1,p,m,q,h=>⟨h.at hn,h.at hn,fun b=>by
  cases b with
  |true=>
   show KT n _ (if q > 0 then kas_desc f (kas_rev p (m - (q+1)) m) (m+1) 0 else kas_desc f p (m+1) 0);split
   ·exact j4 hn f _ _ _ h.rev
   ·exact j4 hn f _ _ _ h
  | false=>exact⟨h.at hn,h.at hn,fun d=>by
   cases d with
   |true=>exact h
   | false=>exact j4 hn f _ _ _ h⟩⟩
theorem qH{n:Nat}{p:Array Nat}(hn:0 < n)(h:Pm n p)(m r:Nat):KT n (fun r:Nat × Array Nat=>Pm n r.2) (kas_tail3 m r p):=KT.bind (P:=fun _=>True) (f:=fun m=>KasT.ret (m,kas_rev p 0 _)) (fun _ _=>(show KT n (fun r:Nat × Array Nat=>Pm n r.2) (KasT.ret (_,kas_rev p 0 _)) from h.rev)) (sY h.rev hn _ _)
theorem ju{n:Nat}{p:Array Nat}(hn:0 < n)(h:Pm n p)(m r:Nat):KT n (fun r:Nat × Array Nat=>Pm n r.2) (kas_descPart m r p):=KT.bind (fun a ha=>by
 show KT n _ (if a.2.2 > 0 then _ else _);split
 ·exact qH hn (Pm.rev ha) _ _
 ·exact qH hn ha _ _) (j4 hn _ _ _ _ h)
theorem zn{n:Nat}{p:Array Nat}(hn:0 < n)(h:Pm n p)(r:Nat):KT n (fun r:Nat × Array Nat=>Pm n r.2) (kas_count r p):=KT.bind (fun a _=>by
 show KT n _ (if (a == r)=true then _ else if a > 1 then _ else _);split
 ·exact h
 ·split
  ·exact⟨h.at hn,h.at hn,fun b=>by
    cases b with
    |true=>exact h
    | false=>exact ju hn h.rev _ _⟩
  ·exact ju hn h _ _) (sY h hn _ _)
theorem kP{n:Nat}{p:Array Nat}(hn:0 < n)(h:Pm n p)(m:Nat):∀f l r,KT n (fun _=>True) (kas_place p m f l r)
 |0,_,_=>trivial
 |f+1,l,r=>by
  show KT n _ (if l ≥ r then _ else _);split
  ·exact trivial
  ·exact⟨h.at hn,h.at hn,fun b=>by
    cases b with
    |true=>exact kP hn h m f _ _
    | false=>exact kP hn h m f _ _⟩
theorem zo{n:Nat}(hn:0 < n):∀f (p:Array Nat) m,Pm n p->KT n (Pm n) (kas_bin f p m)
 |0,p,_,h=>h
 |f+1,p,m,h=>KT.bind (fun l _=>zo hn f _ _ ((bubble_perm p m _).trans h)) (kP hn h m _ _ _)
theorem o8{n:Nat}(hn:0 < n):KT n (Pm n) (kas_sort n):=KT.bind (fun r hr=>by
 show KT n _ (if r.1 < n then _ else _);split
 ·exact zo hn _ _ _ hr
 ·exact hr) (zn hn (Array.Perm.refl _) n)
section
variable {prog:Program} {w:World} {A:Around} {E:Value->Shared->Prop} {s:Shared}
theorem o9{a:Addr}{vs:List Value}{n:Nat}{P:PySem.Fin->Shared->Prop}(ho:s.heap.get? a=some (seqObj "list" vs.toArray n))(h64:vs.length < 64)(κ:SortKind)(lt:Nat->Nat->Bool)
  (hk:2<=vs.length->∀ (Q:SortKind->Shared->Prop),Q κ { s with heap:=((s.heap.update a (Obj.mapSeq fun _=>#[])).push (seqObj "tuple" vs.toArray 0)).push (seqObj "list" #[] 0) }->wpAny (model prog w) A (keyKind' vs.toArray) Q E { s with heap:=((s.heap.update a (Obj.mapSeq fun _=>#[])).push (seqObj "tuple" vs.toArray 0)).push (seqObj "list" #[] 0) })
  (hlt:∀i j,i < vs.length->j < vs.length->∀C:Bool->Shared->Prop,C (lt i j) { s with heap:=((s.heap.update a (Obj.mapSeq fun _=>#[])).push (seqObj "tuple" vs.toArray 0)).push (seqObj "list" #[] 0) } ->
   kas_ask prog w A κ vs i j C { s with heap:=((s.heap.update a (Obj.mapSeq fun _=>#[])).push (seqObj "tuple" vs.toArray 0)).push (seqObj "list" #[] 0) })
  (h:P (.done (.ret .none)) { s with heap:=sortedHeap s.heap a vs (if vs.length < 2 then vs.toArray else Y4 ((eu lt (kas_sort vs.length)).toList.map fun i=>vs.getD i Value.none)) }) :
  wpAny (model prog w) A (Builtin.«list.sort» ⟨[.ref a],[]⟩) P E s:=by
 rw[list_sort_plain];have ha:a < s.heap.objs.size:=Zq ho;refine Ua (listItems_at ho rfl ?_);refine Ua (listUpdate_at ho rfl ?_);obtain⟨e1,ho1⟩:∃e1,(s.heap.update a (Obj.mapSeq fun _=>#[])).get? a=some (seqObj "list" #[] e1):=⟨_,get?_update_seq ho (fun _=>#[])⟩;refine Ua (seqEpoch_at ho1 rfl ?_);refine Ua (wpAny_newTuple ?_);refine Ua (wpAny_newList ?_);refine Ui ?_
 have ho6:(((s.heap.update a (Obj.mapSeq fun _=>#[])).push (seqObj "tuple" vs.toArray 0)).push (seqObj "list" #[] 0)).get? a=some (seqObj "list" #[] e1):=by
  rw[XG _ _ _ (by rw[size_push',Y0];exact ZA (YV ha)),XG _ _ _ (by rw[Y0];exact ZA ha)];exact ho1
 show wpAny (model prog w) A _ P E { s with heap:=((s.heap.update a (Obj.mapSeq fun _=>#[])).push (seqObj "tuple" vs.toArray 0)).push (seqObj "list" #[] 0) };dsimp only;have hsz:vs.toArray.size=vs.length:=by simp
 by_cases h2:vs.toArray.size < 2
 ·rw[if_pos h2,if_pos h2];refine Ua (Us ?_);rw[StateT.run_pure];refine Ua (Us ?_);dsimp only;refine Ua (seqEpoch_at ho6 rfl ?_);refine Ua (listUpdate_at ho6 rfl ?_ (hsz2:=by rw[Array.size_map];show(pairsOf vs).size<=_;rw[pairsOf_size,VX];omega));simp only[bne_self_eq_false,Z6,if_false];rw[if_pos (by rw[<-hsz];exact h2)] at h
  have e:Array.map (fun x:Keyed=>x.2) (vs.toArray.zip vs.toArray)=vs.toArray:=by
   apply Array.toList_inj.mp;rw[Array.toList_map,Array.toList_zip,List.map_snd_zip (by simp)]
  refine Us ?_;show P _ { s with heap:=sortedHeap s.heap a vs (Array.map (fun x:Keyed=>x.2) (vs.toArray.zip vs.toArray)) };rw[e];exact h
 ·have h2':2<=vs.length:=by omega
  rw[if_neg h2,if_neg h2];rw[if_neg (by omega)] at h;refine Ua (hk h2' _ ?_)
  refine Ua (Uo (PySem.W.kat_run (κ:=κ) (ks:=vs) (Q:=fun st' s'=>s'={ s with heap:=((s.heap.update a (Obj.mapSeq fun _=>#[])).push (seqObj "tuple" vs.toArray 0)).push (seqObj "list" #[] 0) }/\arrOf st'=(eu lt (kas_sort vs.length)).map (PySem.W.kas_item (vs.toArray.zip vs.toArray))/\(eu lt (kas_sort vs.length)).size=vs.length/\failedOf st'=none)
   (G:=fun p s'=>s'={ s with heap:=((s.heap.update a (Obj.mapSeq fun _=>#[])).push (seqObj "tuple" vs.toArray 0)).push (seqObj "list" #[] 0) }/\p=eu lt (kas_sort vs.length)) rfl h2' h64 (fun p st' s' a1 a2 a3 a4=>⟨a4.1,a4.2 ▸ a2,a4.2 ▸ a1,a3⟩) (qG hlt (o8 (by omega)) ⟨rfl,rfl⟩)) ?_ fun _ _ e=>e)
  rintro⟨⟨⟩,st'⟩ s' ⟨rfl,har,hsz',hf⟩;dsimp only;have hout:=PySem.W.kat_snds rfl har;refine Ua (seqEpoch_at ho6 rfl ?_);rw[hout];refine Ua (listUpdate_at ho6 rfl ?_ (hsz2:=by rw[Zl,Za,ZP,hsz',VX];omega));rw[hf];simp only[bne_self_eq_false,Z6,if_false];exact Us h
end
section
variable {prog:Program} {w:World} {A:Around} {E:Value->Shared->Prop} {s:Shared}
theorem wW(hl:s.heap.IsList l vs.toArray)(h64:vs.length < 64)(κ:SortKind)(lt:Nat->Nat->Bool)
  (hk:2<=vs.length->∀ (A:Around) (s':Shared),(∀b o,s.heap.get? b=some o->s'.heap.get? b=some o)->∀ (E:Value->Shared->Prop) (Q:SortKind->Shared->Prop),Q κ s'->wpAny (model prog w) A (keyKind' vs.toArray) Q E s')
  (hlt:∀ (A:Around) (s':Shared),(∀b o,s.heap.get? b=some o->s'.heap.get? b=some o)->∀i j,i < vs.length->j < vs.length->∀C:Bool->Shared->Prop,C (lt i j) s'->kas_ask prog w A κ vs i j C s')
  (h:Q (.ref (s.heap.objs.size+1)) { s with heap:=sortedAll s.heap vs (if vs.length < 2 then vs.toArray else Y4 ((eu lt (kas_sort vs.length)).toList.map fun i=>vs.getD i Value.none)) }) :
  wpAny (model prog w) A (call (.builtin "sorted") [.ref l]) Q E s:=by
 refine Calls.call_function_entry kind_sorted plain_sorted entry_sorted (args_sorted1 _) ?_;unfold Builtin.«sorted»;refine Ua (m:=checkCount "sorted" 1 1 _) (Us ?_);refine Ua (collect_list hl ?_);refine Ua (wpAny_newList ?_)
 have hsz:((s.heap.push (seqObj "list" #[] 0)).update s.heap.objs.size (Obj.mapSeq (·++vs.toArray))).objs.size=s.heap.objs.size+1:=by
  rw[Y0,size_push']
 have hoL:(((s.heap.push (seqObj "list" #[] 0)).update s.heap.objs.size (Obj.mapSeq (·++vs.toArray))).push (seqObj "list" vs.toArray 0)).get? (s.heap.objs.size+1)=some (seqObj "list" vs.toArray 0):=by
  rw[<-hsz];exact ZE _ rfl
 have keep:∀b o,s.heap.get? b=some o->(((((s.heap.push (seqObj "list" #[] 0)).update s.heap.objs.size (Obj.mapSeq (·++vs.toArray))).push (seqObj "list" vs.toArray 0)).update (s.heap.objs.size+1) (Obj.mapSeq fun _=>#[])).push (seqObj "tuple" vs.toArray 0)).get? b=some o:=fun b o q=>by
  have hlt:b < s.heap.objs.size:=Zq q;refine Zk _ ?_;rw[Xo _ _ _ _ (ZA (YV hlt))];refine Zk _ ?_;rw[Xo _ _ _ _ (ZA hlt)];exact Zk _ q
 show wpAny _ _ _ _ _ { s with heap:=((s.heap.push (seqObj "list" #[] 0)).update s.heap.objs.size (Obj.mapSeq (·++vs.toArray))).push (seqObj "list" vs.toArray 0) };rw[hsz];refine Ua (Ui (Uc slot_list_sort ⟨_,hoL,rfl⟩ entry_list_sort (o9 hoL h64 κ lt (fun h2 Q q=>hk h2 _ _ (fun b o z=>Zk _ (keep b o z)) _ Q q) (fun i j hi hj C c=>hlt _ _ (fun b o z=>Zk _ (keep b o z)) i j hi hj C c) ⟨_,rfl,?_⟩) (args_list_sort _)));exact Us ⟨_,rfl,h⟩
noncomputable def sZ(x y:Int × Int):Bool:=if x.1 == y.1 then (if x.2 == y.2 then false else decide (x.2 < y.2)) else decide (x.1 < y.1)
theorem zp{a b c d:Int}{n k:Nat}(hx:s.heap.get? x=some ox)(dx:ox.data = .seq #[.int a t1,.int b t2] n)(hy:s.heap.get? y=some oy)(dy:oy.data = .seq #[.int c t3,.int d t4] k)
  (h:C (sZ (a,b) (c,d)) s):wpAny (model prog w) A (keyLt' (tuples' true) (.ref x) (.ref y)) C E s:=by
 refine PySem.W.kat_lt hx dx hy dy ?_;show PySem.W.KatLex prog w A true _ C [(.int a t1,.int c t3),(.int b t2,.int d t4)] 0 s;unfold sZ at h;refine Ue ?_;cases h1:a == c with
 |true=>
  rw[if_pos rfl];simp only[h1,if_true] at h;refine Ue ?_;cases h2:b == d with
  |true=>rw[if_pos rfl];simp only[h2,if_true] at h;exact h
  |false=>
   rw[if_neg Zd];simp only[h2,Z6,if_false] at h;exact PySem.W.kat_one _ _ (lt_int h)
 |false=>
  rw[if_neg Zd];simp only[h1,Z6,if_false] at h;exact oneLt_int h
end
end Ev
namespace Ev
open PySem PySem.Spec PyProof.Rows L2
open PySem.W (kas_sort KatTups)
section
variable {X:Cx} {K:W0} {m:List Addr} {H:Hp} {S:Sto}
inductive PairsV(H:Hp):List V->List (Int × Int)->Prop where
 |nil:PairsV H [] []
 |cons {r:Addr} {x y:Int} {vs:List V} {ps:List (Int × Int)}:H r=some (.tup [.int x,.int y])->PairsV H vs ps->PairsV H (.ref r::vs) ((x,y)::ps)
noncomputable def mL(ps:List (Int × Int))(i j:Nat):Bool:=sZ (ps.getD i (0,0)) (ps.getD j (0,0))
noncomputable def cQ{α:Type}(ps:List (Int × Int))(d:α)(vs:List α):List α:=if vs.length < 2 then vs else (eu (mL ps) (kas_sort vs.length)).toList.map fun i=>vs.getD i d
theorem PairsV.len{vs:List V}{ps:List (Int × Int)}(h:PairsV H vs ps):vs.length=ps.length:=by
 induction h with
 |nil=>rfl
 |cons _ _ ih=>simp[ih]
def F2(h:Heap)(v:Value)(q:Int × Int):Prop:=∃r o t1 t2 n,v = .ref r/\h.get? r=some o/\o.cls = .type "tuple"/\o.data = .seq #[.int q.1 t1,.int q.2 t2] n
theorem PairsV.heap{pins:List (Addr × Obj)}{s:Shared}{σ:L2.St}(I:Inv X pins σ H s){vs:List V}{ps:List (Int × Int)}(h:PairsV H vs ps):∀ {its:List Value},aJ vs its->∀ (i:Nat),i < its.length->F2 s.heap (its.getD i Value.none) (ps.getD i (0,0)):=by
 induction h with
 |nil=>intro its r i hi;cases r;simp at hi
 |@cons r x y vs ps hr _ ih=>
  intro its rv i hi;cases rv with
  |@cons _ u _ us r1 r2=>
   cases i with
   |zero=>
    cases r1;obtain⟨it2,rr,⟨o,e,hc,n,hd⟩,_⟩:=I.tuple (SqT.of (K:=X.K) hr);obtain⟨a,b,rfl,⟨t1,rfl⟩,⟨t2,rfl⟩⟩:=uG rr;exact⟨r,o,t1,t2,n,rfl,e,hc,hd⟩
   |succ i=>
    have:=ih r2 i (by simpa using hi)
    simpa using this
theorem uT{h:Heap}:∀ {its:List Value} {ps:List (Int × Int)},(∀i,i < its.length->F2 h (its.getD i Value.none) (ps.getD i (0,0)))->∃fs:List Value,KatTups h its fs/\fs.length=its.length/\∀v ∈ fs,∃i t,v = .int i t
 |[],_,_=>⟨[],KatTups.nil,rfl,fun v hv=>by simp at hv⟩
 |v::its,ps,hp=>by
  obtain⟨r,o,t1,t2,n,ev,e,hc,hd⟩:=hp 0 (by simp)
  obtain⟨fs,k,hl,hi⟩:=uT (its:=its) (ps:=ps.tail) fun i hi=>by
   have:=hp (i+1) (by simpa using hi);cases ps with
   |nil=>simpa using this
   |cons _ _=>simpa using this
  have ev':v = .ref r:=by simpa using ev
  subst ev'
  exact⟨.int (ps.getD 0 (0,0)).1 t1::fs,KatTups.cons e hc hd rfl k,by simp[hl],fun w hw=>by
   rcases Zm.mp hw with rfl |hw
   ·exact⟨_,_,rfl⟩
   ·exact hi w hw⟩
theorem C0(r:aJ vs its){i:Nat}(hi:i < vs.length):aF (vs.getD i .non) (its.getD i Value.none):=by
 obtain⟨u,e,ru⟩:=r.get (gEG hi);rw[Yi,Yi,gEG hi,e];exact ru
theorem nq{vs:List V}{its:List Value}(r:aJ vs its):∀ (l:List Nat),(∀i ∈ l,i < vs.length)->aJ (l.map fun i=>vs.getD i .non) (l.map fun i=>its.getD i Value.none)
 |[],_=>.nil
 |i::l,h=>.cons (C0 r (h i Zi)) (nq r l fun j hj=>h j (Zg _ hj))
theorem pb{n:Nat}{lt:Nat->Nat->Bool}(hn:0 < n):(∀i ∈ (eu lt (kas_sort n)).toList,i < n)/\(eu lt (kas_sort n)).toList.length=n:=by
 have h:Pm n (eu lt (kas_sort n)):=(o8 hn).run;refine⟨fun i hi=>?_,?_⟩
 ·have:=h.mem_iff.mp (Xf.mp hi)
  simpa using this
 ·have:=h.size_eq;rw[ZP,this];simp
theorem tf{α:Type}{ps:List (Int × Int)}{d:α}{vs:List α}:(cQ ps d vs).length=vs.length:=by
 unfold cQ;split
 ·rfl
 ·rw[Za,(pb (by lia)).2]
theorem tj:aM X (.builtin "sorted") (fun xs H Q=>∃a vs ps,xs=[.ref a]/\SqL X.K H a vs/\PairsV H vs ps/\vs.length < 64/\∀p,H p=none->Q (.ref p) (upd H p (.lst (cQ ps .non vs)))):=by
 intro pins s σ H xs us Q I r h;obtain⟨a,vs,ps,rfl,sq,pv,h64,q⟩:=h;obtain⟨u,rfl,ru⟩:=cF r;cases ru;obtain⟨its,rv,pl,hz⟩:=I.list sq;have hlen:=rv.length;have ph:=pv.heap I rv;have hl2:=pv.len;refine wW pl.isList (by lia) (tuples' true) (mL ps) (fun h2 A s' kp E Q' hq=>?_) (fun A s' kp i j hi hj C hC=>?_) ?_
 ·obtain⟨fs,kt,hf,hi⟩:=uT (h:=s'.heap) fun i hi=>by
   obtain⟨r,o,t1,t2,n,e1,e2,e3,e4⟩:=ph i hi;exact⟨r,o,t1,t2,n,e1,kp _ _ e2,e3,e4⟩
  refine PySem.W.kat_kind (T:=.type "int") kt (by lia) (fun v hv=>?_) (by decide) hq;obtain⟨i,t,rfl⟩:=hi v hv;exact PySem.W.Looks.of_pure rfl
 ·obtain⟨r1,o1,t1,t2,n1,a1,a2,a3,a4⟩:=ph i hi;obtain⟨r2,o2,t3,t4,n2,b1,b2,b3,b4⟩:=ph j hj;show wpAny _ A (keyLt' (tuples' true) (its.getD i Value.none) (its.getD j Value.none)) C _ s';rw[a1,b1];exact zp (kp _ _ a2) a4 (kp _ _ b2) b4 hC
 ·have hv:aJ (cQ ps .non vs) (if its.length < 2 then its else (eu (mL ps) (kas_sort its.length)).toList.map fun i=>its.getD i Value.none):=by
   unfold cQ;rw[hlen];split
   ·exact rv
   ·exact nq rv _ fun i hi=>by rw[hlen];exact(pb (by lia)).1 i hi
  have eo:(if its.length < 2 then its.toArray else Y4 ((eu (mL ps) (kas_sort its.length)).toList.map fun i=>its.getD i Value.none))=(if its.length < 2 then its else (eu (mL ps) (kas_sort its.length)).toList.map fun i=>its.getD i Value.none).toArray:=by split <;> rfl
  rw[eo];obtain⟨e,he⟩:=sortedAll_at s.heap its (if its.length < 2 then its else (eu (mL ps) (kas_sort its.length)).toList.map fun i=>its.getD i Value.none).toArray;exact⟨.ref (s.heap.objs.size+1),_,I.laid (t':=s.toks) (a:=s.heap.objs.size+1) (o:=.lst (cQ ps .non vs)) (fun b o z=>sortedAll_old z) (Yt _) ⟨by rw[tf];exact hz,_,e,hv,he⟩,rfl,q _ (I.hok.fresh (Yt _))⟩
noncomputable def tw(x:Int):List Int->List Int
 |[]=>[x]
 |y::l=>if x<=y then x::y::l else y::tw x l
noncomputable def fq:List Int->List Int
 |[]=>[]
 |x::l=>tw x (fq l)
theorem iT(x:Int):∀l,(tw x l).Perm (x::l)
 |[]=>List.Perm.refl _
 |y::l=>by
  unfold tw;split
  ·exact List.Perm.refl _
  ·exact((iT x l).cons y).trans (List.Perm.swap x y l)
theorem bJ:∀l,(fq l).Perm l
 |[]=>List.Perm.refl _
 |x::l=>(iT x (fq l)).trans ((bJ l).cons x)
theorem jv(x:Int):∀l:List Int,l.Pairwise (·<=·)->(tw x l).Pairwise (·<=·)
 |[],_=>by unfold tw;simp
 |y::l,h=>by
  unfold tw;rw[Yj] at h;split
  ·rename_i c;refine Yj.mpr ⟨fun z hz=>?_,Yj.mpr h⟩;rcases Zm.mp hz with rfl |hz
   ·exact c
   ·have:=h.1 z hz;lia
  ·rename_i c;refine Yj.mpr ⟨fun z hz=>?_,jv x l h.2⟩;rcases Zm.mp ((iT x l).mem_iff.mp hz) with rfl |hz
   ·lia
   ·exact h.1 z hz
theorem eA:∀l,(fq l).Pairwise (·<=·)
 |[]=>List.Pairwise.nil
 |x::l=>jv x _ (eA l)
theorem kQ:∀ {a b:List Int},a.Perm b->a.Pairwise (·<=·)->b.Pairwise (·<=·)->a=b
 |[],b,p,_,_=>(List.Perm.nil_eq p)
 |x::a,[],p,_,_=>(List.Perm.nil_eq p.symm).symm
 |x::a,y::b,p,ha,hb=>by
  rw[Yj] at ha hb
  have e:x=y:=by
   have h1:=p.mem_iff.mp (Zi (a:=x) (l:=a));have h2:=p.mem_iff.mpr (Zi (a:=y) (l:=b));rcases Zm.mp h1 with rfl |h1
   ·rfl
   ·rcases Zm.mp h2 with h2 |h2
    ·exact h2.symm
    ·have:=ha.1 y h2;have:=hb.1 x h1
     lia
  subst e;rw[kQ (List.Perm.cons_inv p) ha.2 hb.2]
theorem cH:∀ {ns:List Int} {us:List Value},aJ (ns.map V.int) us->IntsAre us ns
 |[],_,h=>by cases h;exact .nil
 |n::ns,_,h=>by
  cases h with
  |cons r1 r2=>obtain⟨t,rfl⟩:=r1;exact .cons n t (cH r2)
theorem tz:aM X (.builtin "sorted") (fun xs H Q=>∃a ns,xs=[.ref a]/\SqL X.K H a (ns.map V.int)/\ns.length < 64/\∀p,H p=none->Q (.ref p) (upd H p (.lst ((fq ns).map V.int)))):=by
 intro pins s σ H xs us Q I r h;obtain⟨a,ns,rfl,sq,h64,q⟩:=h;obtain⟨u,rfl,ru⟩:=cF r;cases ru;obtain⟨its,rv,pl,hz⟩:=I.list sq;have hlen:=rv.length;rw[Za] at hlen hz;refine sorted_ints pl.isList (cH rv) (by lia) fun out ns' h1 h2 h3=>?_;have e:ns'=fq ns:=kQ (h2.trans (bJ ns).symm) h3 (eA ns);subst e;obtain⟨e,he⟩:=sortedAll_at s.heap its out;refine⟨.ref (s.heap.objs.size+1),_,I.laid (t':=s.toks) (a:=s.heap.objs.size+1) (o:=.lst ((fq ns).map V.int)) (fun b o z=>sortedAll_old z) (Yt _) ⟨by rw[Za,(bJ ns).length_eq];exact hz,out.toList,e,iM h1,by simpa using he⟩,rfl,q _ (I.hok.fresh (Yt _))⟩
noncomputable def kR:D->Option (Int × Int)
 |.tup [.int a,.int b]=>some (a,b)
 |_=>none
noncomputable def dn:List D->Option (List (Int × Int))
 |[]=>some []
 |d::ds=>match kR d,dn ds with
  |some p,some ps=>some (p::ps)
  |_,_=>none
noncomputable def jw:List D->Option (List Int)
 |[]=>some []
 |d::ds=>match d,jw ds with
  |.int i,some ms=>some (i::ms)
  |_,_=>none
noncomputable def tD(_:Bool)(ds:List D):Option (List D):=match dn ds with
 |some ps=>if ds.length < 64 then some (cQ ps .non ds) else none
 | none=>(match jw ds with
  |some ns=>if ns.length < 64 then some ((fq ns).map D.int) else none
  | none=>none)
theorem kS:∀ {ds:List D} {ns:List Int},jw ds=some ns->ds=ns.map D.int
 |[],_,e=>by cases e;rfl
 |d::ds,ns,e=>by
  simp only[jw] at e;split at e
  ·rename_i i ms h1;cases e;rw[kS h1];rfl
  ·cases e
theorem iU:∀ {ns:List Int} {vs:List V},VDs K m H (ns.map D.int) vs->vs=ns.map V.int
 |[],_,h=>by rw[Z9,VDs] at h;exact h
 |n::ns,_,h=>by
  rw[Zx,VDs] at h;obtain⟨v,r,rfl,h1,h2⟩:=h;rw[h1.ints,iU h2];rfl
theorem nt:∀ (ns:List Int),VDs K m H (ns.map D.int) (ns.map V.int)
 |[]=>by rw[Z9,Z9,VDs]
 |n::ns=>by rw[Zx,Zx,VDs];exact⟨_,_,rfl,bh,nt ns⟩
theorem qI:∀ {ds:List D} {vs:List V} {ps:List (Int × Int)},dn ds=some ps->VDs K m H ds vs->PairsV H vs ps
 |[],vs,ps,e,h=>by rw[VDs] at h;subst h;cases e;exact .nil
 |d::ds,vs,ps,e,h=>by
  rw[VDs] at h;obtain⟨v,r,rfl,h1,h2⟩:=h;simp only[dn] at e;cases hd:kR d with
  |none=>rw[hd] at e;cases e
  |some p=>
   cases hr:dn ds with
   |none=>rw[hd,hr] at e;cases e
   |some qs=>
    rw[hd,hr] at e;cases e;unfold kR at hd;split at hd
    ·cases hd;obtain⟨a,xs,rfl,hH,vx⟩:=h1.tups;obtain⟨x,y,rfl,v1,v2⟩:=sV vx;cases v1.ints;cases v2.ints;exact .cons hH (qI hr h2)
    ·cases hd
theorem uU(h:VDs K m H ds vs):∀ (l:List Nat),(∀i ∈ l,i < ds.length)->VDs K m H (l.map fun i=>ds.getD i .non) (l.map fun i=>vs.getD i .non)
 |[],_=>by rw[Z9,Z9,VDs]
 |i::l,hl=>by
  rw[Zx,Zx,VDs];obtain⟨v,e,vv⟩:=h.get (gEG (hl i Zi));refine⟨_,_,rfl,?_,uU h l fun j hj=>hl j (Zg _ hj)⟩;rw[Yi,Yi,gEG (hl i Zi),e];exact vv
theorem nu:aM X (.builtin "sorted") (r1 (rTm X.K fun tu ds=>if tu=false then tD tu ds else none)):=by
 refine aM.imp (aM.or tj tz) fun xs H Q h=>?_;obtain⟨_,rfl,m,S,tu,ds,a,vs,es,R,rfl,sq,vd,e,q⟩:=cG h;cases tu with
 |true=>cases e
 |false=>
  have e:tD false ds=some es:=by simpa using e
  unfold tD at e;cases hp:dn ds with
  |none=>
   rw[hp] at e;dsimp only at e;cases hi:jw ds with
   |none=>rw[hi] at e;cases e
   |some ns=>
    rw[hi] at e;dsimp only at e;split at e
    ·rename_i hl;cases e;have ed:=kS hi;subst ed;have ev:=iU vd;subst ev;exact .inr ⟨a,ns,rfl,sq,hl,jZ R (nt _) q⟩
    ·cases e
  |some ps=>
   rw[hp] at e;dsimp only at e;split at e
   ·rename_i hl;cases e;have hlen:=vd.length;refine .inl ⟨a,vs,ps,rfl,sq,qI hp vd,by lia,jZ R ?_ q⟩;unfold cQ;rw[<-hlen];split
    ·exact vd
    ·exact uU vd _ fun i hi=>(pb (by lia)).1 i hi
   ·cases e
end
end Ev
namespace Ev
open PySem PySem.Spec PyProof.Rows L2
noncomputable def eB:List Int->Int
 |[]=>0
 |n::ns=>ns.foldl (fun a b=>if a < b then b else a) n
theorem hZ:∀ (ns:List Int) (n:Int),(ns.foldl (fun a b=>if a < b then b else a) n) ∈ n::ns/\∀x ∈ n::ns,x<=ns.foldl (fun a b=>if a < b then b else a) n
 |[],n=>⟨Zi,fun x hx=>by simp at hx;subst hx;exact ZW _⟩
 |m::ns,n=>by
  obtain⟨h1,h2⟩:=hZ ns (if n < m then m else n);rw[XW];refine⟨?_,fun x hx=>?_⟩
  ·rcases Zm.mp h1 with h |h
   ·rw[h];split <;> simp
   ·exact Zg _ (Zg _ h)
  ·have h0:=h2 _ Zi;rcases Zm.mp hx with rfl |hx
   ·split at h0 <;> split <;> omega
   ·rcases Zm.mp hx with rfl |hx
    ·split at h0 <;> split <;> omega
    ·exact h2 x (Zg _ hx)
theorem zq{M:Int}(h1:M ∈ ns)(h2:∀a,a ∈ ns->a<=M):M=eB ns:=by
 cases ns with
 |nil=>simp at h1
 |cons n ns=>
  obtain⟨a,b⟩:=hZ ns n;have:=h2 _ a;have:=b _ h1;show M=ns.foldl _ n;omega
section
variable {X:Cx} {K:W0} {m:List Addr} {H:Hp} {S:Sto}
theorem wX(hc:X.calm=true):aM X (.builtin "max") (fun xs H Q=>∃a ns,xs=[.ref a]/\SqL X.K H a (ns.map V.int)/\ns ≠ []/\Q (.int (eB ns)) H):=by
 intro pins s σ H xs us Q I r h;obtain⟨a,ns,rfl,sq,hne,q⟩:=h;obtain⟨u,rfl,ru⟩:=cF r;cases ru;obtain⟨its,rv,pl,hz⟩:=I.list sq;have hi:=cH rv;have hl:=pl.isList;obtain⟨ys,e⟩:=hi.allInts.items
 have hns:ns=ys.toList.map (·.1):=by
  have h1:=hi.numsOf;rw[<-nums_intItems,<-e];exact h1.symm
 have hsz:0 < ys.size:=by
  have h3:0 < ns.length:=Xp.mpr hne;rw[hns,Za,ZP] at h3;exact h3
 rw[e] at hl;refine max_intList (I.ok.hd hc) hl hsz fun v h' tk hv hk=>?_;obtain⟨t,rfl⟩:=VH hv;obtain⟨b1,b2⟩:=argBest_gt (numAt ys) (ys.size - 1);have key:∀M:Int,M ∈ ns->(∀a,a ∈ ns->a<=M)->∃x H',Inv X pins σ H' { s with heap:=h',toks:=tk }/\aF x (.int M t)/\Q x H':=fun M h1 h2=>⟨.int (eB ns),H,I.kept hk,⟨t,by rw[zq h1 h2]⟩,q⟩;refine key _ ?_ fun a ha=>?_
 ·rw[hns,VQ];exact getD_mem (by rw[Za,ZP];omega)
 ·rw[hns] at ha;obtain⟨j,hj,rfl⟩:=mem_getD ha;rw[Za,ZP] at hj;rw[<-VQ];exact b2 j (by omega)
theorem pc(hh:A.handled=none)(hl:s.heap.IsTuple l (VG xs))(hne:0 < xs.size)
  (h:∀v h' tk,(VG xs)[argBest (fun i j=>decide (numAt xs i > numAt xs j)) (xs.size - 1)]?=some v->(∀b o,s.heap.get? b=some o->h'.get? b=some o)->Q v { s with heap:=h',toks:=tk }) :
  wpAny (model prog w) A (call (.builtin "max") [.ref l]) Q E s:=by
 have hlt:l < s.heap.objs.size:=by obtain⟨_,e,_⟩:=hl;exact Zq e
 refine call_max_walk (Uv hl ?_);refine⟨_,[_,l],[_],_,_,_,_,rfl,Walks.tuple (A:=A.in1) hh _ l (ZA hlt) (VG xs),⟨⟨_,ZE _ rfl,rfl,rfl⟩,hl.push _⟩,fun c hc=>?_,by simpa[VG] using hne,CmpOf.ints_gt (numAt xs) (fun _ _=>VH),fun v h' tk hP hk=>?_⟩
 ·show c < (s.heap.push _).objs.size;rw[YA];rcases Zm.mp hc with rfl |hc
  ·exact Y1 _
  ·rcases Zm.mp hc with rfl |hc
   ·exact YV hlt
   ·cases hc
 ·refine h v h' tk (by simpa[VG] using hP) fun b o e=>hk b o (fun hm=>?_) (Zk _ e);rcases Zm.mp hm with e1 |hm
  ·exact absurd (e1 ▸ Zq e) (ZO _)
  ·cases hm
theorem wY(hc:X.calm=true):aM X (.builtin "max") (fun xs H Q=>∃a ns,xs=[.ref a]/\SqT X.K H a (ns.map V.int)/\ns ≠ []/\Q (.int (eB ns)) H):=by
 intro pins s σ H xs us Q I r h;obtain⟨a,ns,rfl,sq,hne,q⟩:=h;obtain⟨u,rfl,ru⟩:=cF r;cases ru;obtain⟨its,rv,pl,hz⟩:=I.tuple sq;have hi:=cH rv;have hl:s.heap.IsTuple a its.toArray:=pl;obtain⟨ys,e⟩:=hi.allInts.items
 have hns:ns=ys.toList.map (·.1):=by
  have h1:=hi.numsOf;rw[<-nums_intItems,<-e];exact h1.symm
 have hsz:0 < ys.size:=by
  have h3:0 < ns.length:=Xp.mpr hne;rw[hns,Za,ZP] at h3;exact h3
 rw[e] at hl;refine pc (I.ok.hd hc) hl hsz fun v h' tk hv hk=>?_;obtain⟨t,rfl⟩:=VH hv;obtain⟨b1,b2⟩:=argBest_gt (numAt ys) (ys.size - 1);have key:∀M:Int,M ∈ ns->(∀a,a ∈ ns->a<=M)->∃x H',Inv X pins σ H' { s with heap:=h',toks:=tk }/\aF x (.int M t)/\Q x H':=fun M h1 h2=>⟨.int (eB ns),H,I.kept hk,⟨t,by rw[zq h1 h2]⟩,q⟩;refine key _ ?_ fun a ha=>?_
 ·rw[hns,VQ];exact getD_mem (by rw[Za,ZP];omega)
 ·rw[hns] at ha;obtain⟨j,hj,rfl⟩:=mem_getD ha;rw[Za,ZP] at hj;rw[<-VQ];exact b2 j (by omega)
noncomputable def jV(tu:Bool)(ds:List D)(S:Sto):Option (D × Sto):=match jw ds with
 |some (n::ns)=>some (.int (eB (n::ns)),S)
 |_=>none
theorem wZ(hc:X.calm=true):aM X (.builtin "max") (r1 (rSq X.K jV)):=by
 refine aM.imp (aM.or (wX hc) (wY hc)) fun xs H Q h=>?_;obtain⟨_,rfl,m,S,tu,ds,a,vs,d,S',R,rfl,sq,vd,e,q⟩:=cG h;unfold jV at e;split at e
 ·rename_i n ns hi;cases e;have ed:=kS hi;subst ed;have ev:=iU vd;subst ev;rcases gL sq with sq |sq
  ·exact .inl ⟨a,n::ns,rfl,sq,by simp,q m H _ (Aft.refl R) bh⟩
  ·exact .inr ⟨a,n::ns,rfl,sq,by simp,q m H _ (Aft.refl R) bh⟩
 ·cases e
noncomputable def zr(d:D)(S:Sto):Option (D × Sto):=match d with
 |.int i=>some (.int i,S)
 |.bl b=>some (.int (if b then 1 else 0),S)
 |_=>none
theorem w9:aM X (.type "int") (r1 (rS1 X.K zr)):=by
 refine aM.imp wk fun xs H Q h=>?_;obtain⟨x,rfl,m,S,a,d,S',R,va,e,q⟩:=cG h;cases a with
 |int i=>cases e;exact .inl ⟨i,by rw[va.ints],q m H _ (Aft.refl R) bh⟩
 |bl b=>cases e;exact .inr ⟨b,by rw[va.bls],q m H _ (Aft.refl R) bh⟩
 |_=>cases e
end
noncomputable def Mm(c:Int):List Int->Int
 |[]=>c
 |n::ns=>eB (n::ns)
section
variable {X:Cx} {K:W0} {m:List Addr} {H:Hp} {S:Sto}
noncomputable def dL(d:D)(S:Sto):Bool:=match d with
 |.ref n=>(am S n).isSome
 |_=>false
noncomputable def isTup:D->Bool
 |.tup _=>true
 |_=>false
noncomputable def xa(c:D->Sto->Bool)(f:D->List D->Sto->Option (D × Sto))(x:XE)(y:XA):XE:=fun ρ S=>bnd (x ρ S) fun d S1=>if c d S1=true then bnd (y ρ S1) fun as S2=>f d as S2 else none
def rM(K:W0)(f:D->List D->Sto->Option (D × Sto)):V->List V->Hp->VK->Prop:=fun v vs H Q=>∃m S a as d S',Rel K m S H/\VD K m H a v/\VDs K m H as vs/\f a as S=some (d,S')/\∀m' H' u,Aft K m H S' m' H'->VD K m' H' d u->Q u H'
theorem pd(hT:∀ {m H S d v},Rel K m S H->VD K m H d v->c d S=true->tyV K T v H)(h:tE K (xa c f x y) σ H Q):tBM K T (rM K f) (tE K x) (tAr K y) σ H Q:=by
 obtain⟨m,ρ,S,d,S',E,R,e,q⟩:=h;obtain⟨a,S1,e1,e⟩:=af e;split at e
 ·rename_i hc;obtain⟨as,S2,e2,e⟩:=af e;refine⟨m,ρ,S,a,S1,E,R,e1,fun m1 H1 v A1 va=>⟨hT A1.rel va hc,m1,ρ,S1,as,S2,E.mono R A1.ext,A1.rel,e2,fun m2 H2 vs A2 vb=>?_⟩⟩;exact⟨m2,S2,a,as,d,S',A2.rel,va.mono A1.rel A2.ext,vb,e,fun m3 H3 u A3 vd=>q m3 H3 u ((A1.trans A2).trans A3) vd⟩
 ·cases e
theorem tF(R:Rel K m S H)(vd:VD K m H d v)(h:dL d S=true):tyV K "list" v H:=by
 cases d with
 |ref n=>
  simp only[dL] at h;obtain⟨ds,hs⟩:=ZU.mp h;obtain⟨p,vs,hp,sq,vds⟩:=R.seq hs;obtain⟨p',hp',rfl⟩:=vd.refs;rw[hp] at hp';cases hp';exact .inl ⟨rfl,vs,sq⟩
 |_=>cases h
theorem HY(R:Rel K m S H)(vd:VD K m H d v)(h:(fun d (_:Sto)=>isTup d) d S=true):tyV K "tuple" v H:=by
 cases d with
 |tup ds=>
  obtain⟨a,vs,rfl,sq,_⟩:=vd.tups;exact .inr (.inl ⟨rfl,.inr ⟨vs,sq⟩⟩)
 |_=>cases h
noncomputable def chg(n:Nat)(S:Sto)(f:List D->Option (D × List D)):Option (D × Sto):=match S[n]? with
 |some (.lst ds)=>(f ds).map fun r=>(r.1,S.set n (.lst r.2))
 |_=>none
theorem kT{n:Nat}(h:chg n S f=some (d,S')):∃ds es,S[n]?=some (.lst ds)/\f ds=some (d,es)/\S'=S.set n (.lst es):=by
 unfold chg at h;cases hn:S[n]? with
 |none=>rw[hn] at h;cases h
 |some o=>
  rw[hn] at h;cases o with
  |lst ds=>
   dsimp only at h;cases hf:f ds with
   |none=>rw[hf] at h;cases h
   |some r=>rw[hf] at h;cases h;exact⟨ds,r.2,rfl,hf,rfl⟩
  |_=>cases h
noncomputable def tG(d:D)(as:List D)(S:Sto):Option (D × Sto):=match d,as with
 |.ref n,[e]=>chg n S fun ds=>if ds.length < 100000 then some (.non,ds++[e]) else none
 |_,_=>none
noncomputable def eC(d:D)(as:List D)(S:Sto):Option (D × Sto):=match d,as with
 |.ref n,[.int i]=>chg n S fun ds=>match ixN ds.length i with
  |some k=>(ds[k]?).map fun x=>(x,ds.eraseIdx k)
  |none=>none
 |_,_=>none
theorem pj{n:Nat}(R:Rel K m S H)(vd:VD K m H (.ref n) v)(hn:S[n]?=some (.lst ds)):∃a vs,v = .ref a/\m[n]?=some a/\H a=some (.lst vs)/\VDs K m H ds vs:=by
 obtain⟨a,vs,ha,hH,q⟩:=R.lst hn;obtain⟨a',ha',e⟩:=vd.refs;rw[ha] at ha';cases ha';exact⟨a,vs,e,ha,hH,q⟩
theorem gc{n:Nat}(R:Rel K m S H)(ha:m[n]?=some a)(vd:VDs K m H es ws):Aft K m H (S.set n (.lst es)) m (upd H a (.lst ws)):=let ⟨x,y⟩:=R.write ha vd;⟨x,y⟩
theorem HZ:MtR X "list.append" (rM X.K tG):=by
 intro pins s σ H x xs v us Q I rx rs h;refine m6 pins s σ H x xs v us Q I rx rs ?_;obtain⟨m,S,a,as,d,S',R,va,vs,e,q⟩:=h;unfold tG at e;split at e
 ·rename_i n z;obtain⟨ds,es,hn,hf,rfl⟩:=kT e;split at hf
  ·rename_i hl;cases hf;obtain⟨p,ws,rfl,hp,hH,vds⟩:=pj R va hn;obtain⟨y,rfl,vy⟩:=HW vs;refine⟨p,ws,y,rfl,rfl,hH,by rw[VX,<-vds.length];lia,q m _ _ (gc R hp (vds.append (.cons vy .nil))) kI⟩
  ·cases hf
 ·cases e
theorem qJ:∀ {ds:List D} {vs:List V} (k:Nat),VDs K m H ds vs->VDs K m H (ds.eraseIdx k) (vs.eraseIdx k)
 |[],vs,k,h=>by rw[VDs] at h;subst h;exact .nil
 |d::ds,vs,0,h=>by
  rw[VDs] at h;obtain⟨y,r,rfl,p,q⟩:=h;exact q
 |d::ds,vs,k+1,h=>by
  rw[VDs] at h;obtain⟨y,r,rfl,p,q⟩:=h;exact .cons p (qJ k q)
theorem xc:MtR X "list.pop" (rM X.K eC):=by
 intro pins s σ H x xs v us Q I rx rs h;refine yF pins s σ H x xs v us Q I rx rs ?_;obtain⟨m,S,a,as,d,S',R,va,vs,e,q⟩:=h;unfold eC at e;split at e
 ·rename_i n i;obtain⟨ds,es,hn,hf,rfl⟩:=kT e;cases hk:ixN ds.length i with
  |none=>rw[hk] at hf;cases hf
  |some k=>
   rw[hk] at hf;dsimp only at hf;cases hl:ds[k]? with
   |none=>rw[hl] at hf;cases hf
   |some z=>
    rw[hl] at hf;cases hf;obtain⟨p,ws,rfl,hp,hH,vds⟩:=pj R va hn;obtain⟨y,rfl,vi⟩:=HW vs;cases vi.ints;obtain⟨y,hy,vy⟩:=vds.get hl;have A:=gc R hp (qJ k vds);obtain⟨h1,h2,h3,h4⟩:=oI hk;have hz:=(I.lst hH).choose_spec.choose_spec.2.2;have hle:=vds.length;rw[VX] at hz;exact⟨p,ws,i,k,y,rfl,rfl,hH,by lia,by lia,by rw[<-vds.length];exact h1,hy,q m _ _ A (vy.mono R A.ext)⟩
 ·cases e
noncomputable def tH(d:D)(as:List D)(S:Sto):Option (D × Sto):=match d,as with
 |.tup ds,[x]=>if cm x=true/\ds.all cm=true then some (.int (ds.countP fun z=>eqF z x:Nat),S) else none
 |_,_=>none
theorem C1:MtR X "tuple.count" (rM X.K tH):=by
 intro pins s σ H x xs v us Q I rx rs h;refine wD X.K rfl pins s σ H x xs v us Q I rx rs ?_;obtain⟨m,S,a,as,d,S',R,va,vs,e,q⟩:=h;unfold tH at e;split at e
 ·rename_i ds z;split at e
  ·rename_i hf;cases e;obtain⟨p,ws,rfl,sq,vds⟩:=va.tups;obtain⟨y,rfl,vy⟩:=HW vs;exact⟨p,ws,y,rfl,rfl,.of sq,j3 vy hf.1,hY vds hf.2,q m H _ (Aft.refl R) (by rw[nj vy hf.1 vds hf.2];exact bh)⟩
  ·cases e
 ·cases e
noncomputable def dM(o i v:D)(S:Sto):Option Sto:=match o,i with
 | .ref n,.int k=>(match S[n]? with
  |some (.lst ds)=>(ixN ds.length k).map fun j=>S.set n (.lst (ds.set j v))
  | _=>none)
 |_,_=>none
def zt(K:W0):B6:=fun o i v H Q=>∃m S a b c S',Rel K m S H/\VD K m H a o/\VD K m H b i/\VD K m H c v/\dM a b c S=some S'/\∀m' H',Aft K m H S' m' H'->Q H'
theorem zu:GX X (zt X.K):=by
 intro pins s σ H o i v ov iv u Q I ro ri rv h;refine yD pins s σ H o i v ov iv u Q I ro ri rv ?_;obtain⟨m,S,a,b,c,S',R,va,vb,vc,e,q⟩:=h;unfold dM at e;split at e
 ·rename_i n k;cases hn:S[n]? with
  |none=>rw[hn] at e;cases e
  |some ob=>
   rw[hn] at e;cases ob with
   |lst ds=>
    dsimp only at e;cases hj:ixN ds.length k with
    |none=>rw[hj] at e;cases e
    |some j=>
     rw[hj] at e;cases e;obtain⟨p,ws,rfl,hp,hH,vds⟩:=pj R va hn;cases vb.ints;exact⟨p,ws,k,j,rfl,rfl,hH,by rw[<-vds.length];exact hj,q m _ (gc R hp (vds.set vc))⟩
   |_=>cases e
 ·cases e
mutual
noncomputable def b5(t:D->Option Dw.D):List D->Option (List Dw.D)
 |[]=>some []
 |d::ds=>match t d,b5 t ds with
  |some x,some xs=>some (x::xs)
  |_,_=>none
end
noncomputable def cv:Nat->Sto->D->Option Dw.D
 |0,_,_=>none
 |n+1,S,d=>match d with
  |.non=>some .non
  |.bl b=>some (.bl b)
  |.int i=>some (.int i)
  |.str x=>some (.str x)
  |.tup ds=>(b5 (cv n S) ds).map .tup
  | .ref k=>(match S[k]? with
   |some (.lst ds)=>(b5 (cv n S) ds).map .lst
   |some (.dic ks ds)=>(b5 (cv n S) ds).map (.dic ks)
   | _=>none)
theorem ia(ht:∀d x v,t d=some x->VD K m H d v->Dw.Br [] H x v):∀ {ds:List D} {xs:List Dw.D} {vs:List V},b5 t ds=some xs->VDs K m H ds vs->Dw.BrL [] H xs vs
 |[],xs,vs,e,h=>by rw[VDs] at h;simp only[b5] at e;cases e;rw[h,Dw.BrL]
 |d::ds,xs,vs,e,h=>by
  rw[VDs] at h;obtain⟨y,r,rfl,p,q⟩:=h;simp only[b5] at e;cases h1:t d with
  |none=>rw[h1] at e;cases e
  |some x=>
   cases h2:b5 t ds with
   |none=>rw[h1,h2] at e;cases e
   |some ys=>
    rw[h1,h2] at e;cases e;rw[Dw.BrL];exact⟨y,r,rfl,ht _ _ _ h1 p,ia ht h2 q⟩
theorem nv:∀ {ds:List D} {xs:List Dw.D},b5 t ds=some xs->xs.length=ds.length
 |[],xs,e=>by simp only[b5] at e;cases e;rfl
 |d::ds,xs,e=>by
  simp only[b5] at e;cases h1:t d with
  |none=>rw[h1] at e;cases e
  |some x=>
   cases h2:b5 t ds with
   |none=>rw[h1,h2] at e;cases e
   |some ys=>rw[h1,h2] at e;cases e;simp[nv h2]
theorem j5(R:Rel K m S H):∀ (n:Nat) (d:D) (x:Dw.D) (v:V),cv n S d=some x->VD K m H d v->Dw.Br [] H x v
 |0,_,_,_,e,_=>by simp[cv] at e
 |n+1,d,x,v,e,h=>by
  cases d with
  |non=>simp only[cv] at e;cases e;rw[Dw.Br];exact h.nons
  |bl _=>simp only[cv] at e;cases e;rw[Dw.Br];exact h.bls
  |int _=>simp only[cv] at e;cases e;rw[Dw.Br];exact h.ints
  |str _=>simp only[cv] at e;cases e;rw[Dw.Br];exact h.strs
  |tup ds=>
   simp only[cv] at e;cases ht:b5 (cv n S) ds with
   |none=>rw[ht] at e;cases e
   |some xs=>
    rw[ht] at e;cases e;obtain⟨a,vs,rfl,sq,p⟩:=h.tups;rw[Dw.Br];exact⟨a,vs,rfl,sq,ia (j5 R n) ht p⟩
  |ref k=>
   simp only[cv] at e;obtain⟨a,ha,rfl⟩:=h.refs;cases hk:S[k]? with
   |none=>rw[hk] at e;cases e
   |some o=>
    rw[hk] at e;obtain⟨a',ha',r⟩:=R.ob k o hk;rw[ha] at ha';cases ha';cases o with
    |lst ds=>
     dsimp only at e;cases ht:b5 (cv n S) ds with
     |none=>rw[ht] at e;cases e
     |some xs=>
      rw[ht] at e;cases e;obtain⟨vs,hH,p⟩:=r;rw[Dw.Br];exact⟨a,vs,rfl,by simp,hH,ia (j5 R n) ht p⟩
    |frz ds=>cases e
    |dic ks ds=>
     dsimp only at e;cases ht:b5 (cv n S) ds with
     |none=>rw[ht] at e;cases e
     |some xs=>
      rw[ht] at e;cases e;obtain⟨vs,hH,hl,p⟩:=r;rw[Dw.Br];exact⟨a,vs,rfl,by simp,hH,by rw[nv ht];exact hl,ia (j5 R n) ht p⟩
open Classical in
noncomputable def jx(d:D)(S:Sto):Option (D × Sto):=match cv 100 S d with
 |some t=>if Dw.Shn t then some (.str (Dw.aQ t).shown,S) else none
 |none=>none
theorem tI{k:Nat}(hr:Room k X.A):aM X (.builtin "repr") (r1 (rS1 X.K jx)):=by
 refine aM.imp (Dw.sK hr) fun xs H Q h=>?_;obtain⟨x,rfl,m,S,a,d,S',R,va,e,q⟩:=cG h;unfold jx at e;cases ht:cv 100 S a with
 |none=>rw[ht] at e;cases e
 |some t=>
  rw[ht] at e;dsimp only at e;split at e
  ·rename_i hs;cases e;exact⟨x,[],t,rfl,j5 R 100 a t x ht va,hs,q m H _ (Aft.refl R) kJ⟩
  ·cases e
end
section
variable {X:Cx} {K:W0} {m:List Addr} {H:Hp} {S:Sto}
noncomputable def dc{α:Type}(xs:List α)(k:Nat)(y:α):List α:=xs.take k++y::xs.drop k
theorem Ia:MtM X "list.insert" (fun x vs H Q=>∃l xs i y,x = .ref l/\vs=[.int i,y]/\H l=some (.lst xs)/\0<=i/\i<=100000/\xs.length < sizeLine/\Q .non (upd H l (.lst (dc xs (min i.toNat xs.length) y)))):=by
 intro pins s σ H x vs v us Q I rx rv h;obtain⟨l,xs,i,y,rfl,rfl,hH,h0,h1,hz,q⟩:=h;cases rx;cases rv with
 |cons ri rv=>
  obtain⟨u,rfl,ru⟩:=aJ.one (show aJ [y] _ from rv);obtain⟨t,rfl⟩:=ri;obtain⟨z,its,n,r,hl,e⟩:=I.lstM hH
  have fit:¬ (!Builtin.List.listFitsIndex i)=true:=by
   unfold Builtin.List.listFitsIndex;simp;omega
  refine Vv WA ⟨_,e,rfl⟩ F.entry_list_insert (F.args_list_insert_3 _ _ _) (PySem.AutoListH.list_insert_list_int_val_1 l its.toArray n i t u fit (by rw[Zl];omega)) ⟨e,?_⟩;have hle:xs.length=its.length:=hl;refine⟨.non,_,I.lset (its':=dc its (min i.toNat its.length) u) hH e ?_ ?_ ?_,rfl,q⟩
  ·simp only[if_neg (show ¬ i < 0 by omega),Zl];unfold dc;simp[Yd];rw[ZZ (by rw[ZV];omega)]
  ·rw[hle];exact aJ.append (aJ.take _ r) (.cons ru (aJ.drop _ r))
  ·unfold dc;rw[Zh,ZD,Zs,ZV];omega
noncomputable def tJ(d:D)(as:List D)(S:Sto):Option (D × Sto):=match d,as with
 |.ref n,[.int i,e]=>if 0<=i/\i<=100000 then chg n S fun ds=>if ds.length < 100000 then some (.non,dc ds (min i.toNat ds.length) e) else none else none
 |_,_=>none
theorem Ib(k:Nat)(h:VDs K m H ds vs)(hx:VD K m H x y):VDs K m H (dc ds k x) (dc vs k y):=(h.take k).append (.cons hx (h.drop k))
theorem C2:MtR X "list.insert" (rM X.K tJ):=by
 intro pins s σ H x xs v us Q I rx rs h;refine Ia pins s σ H x xs v us Q I rx rs ?_;obtain⟨m,S,a,as,d,S',R,va,vs,e,q⟩:=h;unfold tJ at e;split at e
 ·rename_i n i z;split at e
  ·rename_i hi;obtain⟨ds,es,hn,hf,rfl⟩:=kT e;split at hf
   ·rename_i hl;cases hf;obtain⟨p,ws,rfl,hp,hH,vds⟩:=pj R va hn;obtain⟨y1,y2,rfl,v1,v2⟩:=sV vs;cases v1.ints;refine⟨p,ws,i,y2,rfl,rfl,hH,hi.1,hi.2,by rw[VX,<-vds.length];omega,?_⟩;rw[<-vds.length];exact q m _ _ (gc R hp (Ib _ vds v2)) kI
   ·cases hf
  ·cases e
 ·cases e
end
abbrev Nxt:=Nat->Sto->Option (Option D)
abbrev XI:=Rho->Sto->Option (Nxt × Sto)
structure ExtB(B:List Addr)(m:List Addr)(H:Hp)(m':List Addr)(H':Hp):Prop where
 pre:m <+: m'
 keep:∀a o,H a=some o->a ∉ m->a ∉ B->H' a=some o
 new:∀a,a ∈ m'->a ∉ m->H a=none
 nb:∀b,b ∈ B->b ∉ m'
def AtB(B:List Addr)(m:List Addr)(H:Hp):Prop:=∀b,b ∈ B->(∃vs,H b=some (.lst vs))/\b ∉ m
theorem Ext.toB(hB:AtB B m H)(x:Ext m H m' H'):ExtB B m H m' H':=⟨x.pre,fun a o h n _=>x.keep a o h n,x.new,fun b hb z=>by
 obtain⟨⟨vs,e⟩,n⟩:=hB b hb;have:=x.new b z n;rw[e] at this;cases this⟩
theorem ExtB.trans(x:ExtB B m H m1 H1)(y:ExtB B m1 H1 m2 H2):ExtB B m H m2 H2:=by
 refine⟨x.pre.trans y.pre,fun a o h n nb=>?_,fun a h n=>?_,y.nb⟩
 ·have n1:a ∉ m1:=fun z=>by have:=x.new a z n;rw[this] at h;cases h
  exact y.keep a o (x.keep a o h n nb) n1 nb
 ·by_cases h1:a ∈ m1
  ·exact x.new a h1 n
  ·cases e:H a with
   |none=>rfl
   |some o=>
    by_cases hb:a ∈ B
    ·exact absurd h (y.nb a hb)
    ·have:=x.keep a o e n hb;rw[y.new a h h1] at this;cases this
theorem AtB.ext(hB:AtB B m H)(x:Ext m H m' H'):AtB B m' H':=fun b hb=>by
 obtain⟨⟨vs,e⟩,n⟩:=hB b hb;exact⟨⟨vs,x.keep _ _ e n⟩,(x.toB hB).nb b hb⟩
def IOk(K:W0)(B:List Addr)(J:It)(nx:Nxt)(m0:List Addr)(H0:Hp):Prop:=∀ (m:List Addr) (S:Sto) (H:Hp) (i:Nat),ExtB B m0 H0 m H->Rel K m S H ->
 (nx i S=some none->J.stop i H)/\(∀d,nx i S=some (some d)->J.go i H/\∀x H',J.yld i H x H'->Aft K m H S m H'/\VD K m H' d x)
def tIt(K:W0)(B:List Addr)(x:XI):TI:=fun σ H R=>∃m ρ S nx S',EnvR K m H ρ σ/\Rel K m S H/\AtB B m H/\x ρ S=some (nx,S')/\∀m' H' J,Aft K m H S' m' H'->IOk K B J nx m' H'->R J H'
noncomputable def nxL(ds:List D):Nxt:=fun i _=>some ds[i]?
noncomputable def nxS(n:Nat):Nxt:=fun i S=>(am S n).map fun ds=>ds[i]?
noncomputable def nxR(lo:Int)(n:Nat):Nxt:=fun i _=>some (if i < n then some (.int (lo+i)) else none)
noncomputable def bZ(i:Nat)(d:D):D:=.tup [.int i,d]
noncomputable def enm(ds:List D)(i:Nat):Option (Option D):=if i<=ds.length then some (ds[i]?.map (bZ i)) else none
noncomputable def xg(ds:List D):Nxt:=fun i _=>enm ds i
noncomputable def xh(n:Nat):Nxt:=fun i S=>(am S n).bind fun ds=>enm ds i
section
variable {X:Cx} {K:W0} {m B:List Addr} {H:Hp} {S:Sto}
theorem C3(R:Rel K m0 S0 H0)(hB:AtB B m0 H0)(x:ExtB B m0 H0 m H)(h:H0 a=some (.tup xs)):H a=some (.tup xs):=x.keep _ _ h (R.notTup h) fun z=>by
 obtain⟨⟨vs,e⟩,_⟩:=hB a z;rw[e] at h;cases h
theorem VDs.monoB(R:Rel K m0 S0 H0)(hB:AtB B m0 H0)(x:ExtB B m0 H0 m H)(h:VDs K m0 H0 ds vs):VDs K m H ds vs:=VDs.mono0 x.pre (fun _ _=>C3 R hB x) h
theorem VD.monoB(R:Rel K m0 S0 H0)(hB:AtB B m0 H0)(x:ExtB B m0 H0 m H)(h:VD K m0 H0 d v):VD K m H d v:=VD.mono0 x.pre (fun _ _=>C3 R hB x) h
theorem EnvR.monoB(R:Rel K m0 S0 H0)(hB:AtB B m0 H0)(x:ExtB B m0 H0 m H)(h:EnvR K m0 H0 ρ σ):EnvR K m H ρ σ:=
 ⟨h.len,fun i d e=>let ⟨v,p,q⟩:=h.at_ i d e;⟨v,p,VD.monoB R hB x q⟩⟩
theorem qK(h:∀m S H i o,ExtB B m0 H0 m H->Rel K m S H->nx i S=some o->∃ds vs,o=ds[i]?/\SqL K H a vs/\VDs K m H ds vs):IOk K B (Itl K a) nx m0 H0:=by
 intro m S H i x R;refine⟨fun e=>?_,fun d e=>?_⟩
 ·obtain⟨ds,vs,e',sq,vd⟩:=h m S H i _ x R e;exact⟨vs,sq,by rw[<-vd.length];exact Yk.mp e'.symm⟩
 ·obtain⟨ds,vs,e',sq,vd⟩:=h m S H i _ x R e;obtain⟨v,hv,vv⟩:=vd.get e'.symm;refine⟨⟨vs,v,sq,hv⟩,fun y H' ⟨eH,hy⟩=>?_⟩;subst eH;have:=hy vs sq;rw[hv] at this;cases this;exact⟨Aft.refl R,vv⟩
theorem C4(R0:Rel K m0 S0 H0)(hB:AtB B m0 H0)(sq:H0 a=some (.tup vs))(vd:VDs K m0 H0 ds vs):IOk K B (Itt K a) (nxL ds) m0 H0:=by
 intro m S H i x R;have sq':SqT K H a vs:=.of (C3 R0 hB x sq);have vd':=vd.monoB R0 hB x;refine⟨fun e=>⟨vs,sq',?_⟩,fun d e=>?_⟩
 ·rw[<-vd'.length];exact Yk.mp (Option.some.inj e)
 ·obtain⟨v,hv,vv⟩:=vd'.get (Option.some.inj e);refine⟨⟨vs,v,sq',hv⟩,fun y H' ⟨eH,hy⟩=>?_⟩;subst eH;have:=hy vs sq';rw[hv] at this;cases this;exact⟨Aft.refl R,vv⟩
theorem uV{lo:Int}{n:Nat}:IOk K B (Itr lo n) (nxR lo n) m0 H0:=by
 intro m S H i x R;unfold nxR;refine⟨fun e=>?_,fun d e=>?_⟩
 ·split at e
  ·cases e
  ·show n<=i;lia
 ·split at e
  ·rename_i hi;cases e;exact⟨hi,fun y H' ⟨eH,hy⟩=>by subst eH;subst hy;exact⟨Aft.refl R,bh⟩⟩
  ·cases e
theorem pk(h:∀m S H i o,ExtB B m0 H0 m H->Rel K m S H->nx i S=some o->∃ds vs,enm ds i=some o/\sqf K H a vs/\VDs K m H ds vs):IOk K B (Ite K a sqf) nx m0 H0:=by
 intro m S H i x R;refine⟨fun e=>?_,fun d e=>?_⟩
 ·obtain⟨ds,vs,e',sq,vd⟩:=h m S H i _ x R e;unfold enm at e';split at e'
  ·rename_i hl;refine⟨vs,sq,?_⟩;rw[<-vd.length];cases hd:ds[i]? with
   |none=>have:=Yk.mp hd;lia
   |some z=>rw[hd] at e';cases e'
  ·cases e'
 ·obtain⟨ds,vs,e',sq,vd⟩:=h m S H i _ x R e;unfold enm at e';split at e'
  ·cases hd:ds[i]? with
   |none=>rw[hd] at e';cases e'
   |some z=>
    rw[hd] at e';cases e';obtain⟨v,hv,vv⟩:=vd.get hd;refine⟨⟨vs,v,sq,hv⟩,fun y H' ⟨T,hT,ey,hy⟩=>?_⟩;subst ey;have eH:=hy vs v sq hv;subst eH;have xb:=Ext.beside R hT (.tup [.int i,v]);exact⟨⟨xb,R.beside hT _⟩,oZ aH (.cons bh (.cons (vv.mono R xb) .nil))⟩
  ·cases e'
noncomputable def Pr(d:D):Option Nxt:=match d with
 |.tup ds=>some (nxL ds)
 |.ref n=>some (nxS n)
 |_=>none
noncomputable def xIV(x:XE):XI:=fun ρ S=>bnd (x ρ S) fun d S1=>match d with
 |.tup ds=>some (nxL ds,S1)
 |.ref n=>if (am S1 n).isSome=true then some (nxS n,S1) else none
 |_=>none
noncomputable def xIT(x:XA):XI:=fun ρ S=>bnd (x ρ S) fun ds S1=>some (nxL ds,S1)
noncomputable def xEV(x:XE):XI:=fun ρ S=>bnd (x ρ S) fun d S1=>match d with
 |.tup ds=>some (xg ds,S1)
 |.ref n=>if (am S1 n).isSome=true then some (xh n,S1) else none
 |_=>none
noncomputable def xET(x:XA):XI:=fun ρ S=>bnd (x ρ S) fun ds S1=>some (xg ds,S1)
noncomputable def lim(i:Int):Bool:=decide (-(2 ^ 62)<=i) && decide (i < 2 ^ 62)
noncomputable def xR1(x:XE):XI:=fun ρ S=>bnd (x ρ S) fun d S1=>match d with
 |.int j=>if lim j=true then some (nxR 0 j.toNat,S1) else none
 |_=>none
noncomputable def xR2(x y:XE):XI:=fun ρ S=>bnd (x ρ S) fun d S1=>bnd (y ρ S1) fun e S2=>match d,e with
 |.int i,.int j=>if lim i=true/\lim j=true then some (nxR i (j - i).toNat,S2) else none
 |_,_=>none
theorem iV{i:Int}(h:lim i=true):-(2 ^ 62)<=i/\i < 2 ^ 62:=by simpa[lim] using h
theorem j6{n:Nat}(ha:m0[n]?=some a)(x:m0 <+: m)(R:Rel K m S H)(hs:am S n=some ds):∃vs,SqL K H a vs/\VDs K m H ds vs:=by
 obtain⟨p,vs,hp,sq,vd⟩:=R.seq hs;have:=jX x ha;rw[this] at hp;cases hp;exact⟨vs,sq,vd⟩
theorem Mn(hB:AtB B m H)(h:H a=none):a ∉ B:=fun z=>by
 obtain⟨⟨vs,e⟩,_⟩:=hB a z;rw[h] at e;cases e
theorem OU(h:tIt K B (xIV x) σ H R):yr K (tE K x) σ H R\/LN K (tE K x) σ H R:=by
 obtain⟨m,ρ,S,nx,S',E,Rl,hB,e,q⟩:=h;obtain⟨d,S1,e1,e⟩:=af e;cases d with
 |tup ds=>
  cases e;refine .inr ⟨m,ρ,S,_,_,E,Rl,e1,fun m1 H1 v A1 vd=>?_⟩;obtain⟨a,vs,rfl,sq,vds⟩:=vd.tups;exact⟨a,rfl,⟨vs,.of sq⟩,q m1 H1 _ A1 (C4 A1.rel (hB.ext A1.ext) sq vds)⟩
 |ref n=>
  dsimp only at e;split at e
  ·rename_i hs;cases e;refine .inl ⟨m,ρ,S,_,_,E,Rl,e1,fun m1 H1 v A1 vd=>?_⟩;obtain⟨a,ha,rfl⟩:=vd.refs;obtain⟨ds,hds⟩:=ZU.mp hs;obtain⟨vs,sq,vds⟩:=j6 ha (Z7 _) A1.rel hds;refine⟨a,rfl,⟨vs,sq⟩,q m1 H1 _ A1 (qK fun m2 S2 H2 i o x2 R2 e2=>?_)⟩;unfold nxS at e2;cases h2:am S2 n with
   |none=>rw[h2] at e2;cases e2
   |some es=>
    rw[h2] at e2;cases e2;obtain⟨ws,sq2,vd2⟩:=j6 ha x2.pre R2 h2;exact⟨es,ws,rfl,sq2,vd2⟩
  ·cases e
 |_=>cases e
theorem OV(h:tIt K B (xIT x) σ H R):yr K (ek K x) σ H R:=by
 obtain⟨m,ρ,S,nx,S',E,Rl,hB,e,q⟩:=h;obtain⟨ds,S1,e1,e⟩:=af e;cases e;refine⟨m,ρ,S,_,_,E,Rl,e1,fun m1 H1 a vs A1 sq n1 n2 n3 vd=>⟨a,rfl,⟨vs,.of sq⟩,q m1 H1 _ A1 (qK fun m2 S2 H2 i o x2 R2 e2=>?_)⟩⟩;cases e2;exact⟨ds,vs,rfl,.of (x2.keep _ _ sq n1 (Mn hB n3)),vd.monoB A1.rel (hB.ext A1.ext) x2⟩
theorem Mo(h:tIt K B (xEV x) σ H R):Hr K (cY (tE K x) kr) σ H R\/Me K (cY (tE K x) kr) σ H R:=by
 obtain⟨m,ρ,S,nx,S',E,Rl,hB,e,q⟩:=h;obtain⟨d,S1,e1,e⟩:=af e;cases d with
 |tup ds=>
  cases e;refine .inr ⟨m,ρ,S,_,_,E,Rl,e1,fun m1 H1 v A1 vd=>?_⟩;obtain⟨a,vs,rfl,sq,vds⟩:=vd.tups;refine⟨a,vs,rfl,.of sq,q m1 H1 _ A1 (pk fun m2 S2 H2 i o x2 R2 e2=>⟨ds,vs,e2,.of (C3 A1.rel (hB.ext A1.ext) x2 sq),vds.monoB A1.rel (hB.ext A1.ext) x2⟩)⟩
 |ref n=>
  dsimp only at e;split at e
  ·rename_i hs;cases e;refine .inl ⟨m,ρ,S,_,_,E,Rl,e1,fun m1 H1 v A1 vd=>?_⟩;obtain⟨a,ha,rfl⟩:=vd.refs;obtain⟨ds,hds⟩:=ZU.mp hs;obtain⟨vs,sq,vds⟩:=j6 ha (Z7 _) A1.rel hds;refine⟨a,vs,rfl,sq,q m1 H1 _ A1 (pk fun m2 S2 H2 i o x2 R2 e2=>?_)⟩;unfold xh at e2;cases h2:am S2 n with
   |none=>rw[h2] at e2;cases e2
   |some es=>
    rw[h2] at e2;obtain⟨ws,sq2,vd2⟩:=j6 ha x2.pre R2 h2;exact⟨es,ws,e2,sq2,vd2⟩
  ·cases e
 |_=>cases e
theorem Mp(h:tIt K B (xET x) σ H R):Hr K (cY (ek K x) kr) σ H R:=by
 obtain⟨m,ρ,S,nx,S',E,Rl,hB,e,q⟩:=h;obtain⟨ds,S1,e1,e⟩:=af e;cases e;exact⟨m,ρ,S,_,_,E,Rl,e1,fun m1 H1 a vs A1 sq n1 n2 n3 vd=>⟨a,vs,rfl,.of sq,q m1 H1 _ A1 (pk fun m2 S2 H2 i o x2 R2 e2=>⟨ds,vs,e2,.of (x2.keep _ _ sq n1 (Mn hB n3)),vd.monoB A1.rel (hB.ext A1.ext) x2⟩)⟩⟩
theorem Mq(h:tIt K B (xR1 x) σ H R):FR (cY (tE K x) kr) σ H R:=by
 obtain⟨m,ρ,S,nx,S',E,Rl,hB,e,q⟩:=h;obtain⟨d,S1,e1,e⟩:=af e;refine⟨m,ρ,S,d,S1,E,Rl,e1,fun m1 H1 v A1 vd=>?_⟩;cases d with
 |int j=>
  dsimp only at e;split at e
  ·rename_i hl;cases e;exact⟨j,by rw[vd.ints],(iV hl).1,(iV hl).2,q m1 H1 _ A1 uV⟩
  ·cases e
 |_=>cases e
theorem Mr(h:tIt K B (xR2 x y) σ H R):FS (cY (tE K x) (cY (tE K y) kr)) σ H R:=by
 obtain⟨m,ρ,S,nx,S',E,Rl,hB,e,q⟩:=h;obtain⟨d,S1,e1,e⟩:=af e;obtain⟨c,S2,e2,e⟩:=af e;refine⟨m,ρ,S,d,S1,E,Rl,e1,fun m1 H1 v A1 vd=>⟨m1,ρ,S1,c,S2,E.mono Rl A1.ext,A1.rel,e2,fun m2 H2 w A2 vc=>?_⟩⟩;cases d with
 |int i=>
  cases c with
  |int j=>
   dsimp only at e;split at e
   ·rename_i hl;cases e;exact⟨i,j,by rw[vd.ints,vc.ints],⟨(iV hl.1).1,(iV hl.1).2,(iV hl.2).1,(iV hl.2).2⟩,q m2 H2 _ (A1.trans A2) uV⟩
   ·cases e
  |_=>cases e
 |_=>cases e
inductive Tg where
 |name (i:Nat) |tup (ts:List Tg)
mutual
noncomputable def aA:Tg->D->Rho->Option Rho
 |.name i,d,ρ=>if i < ρ.length then some (ρ.set i (some d)) else none
 |.tup ts,.tup ds,ρ=>aI ts ds ρ
 |_,_,_=>none
noncomputable def aI:List Tg->List D->Rho->Option Rho
 |[],[],ρ=>some ρ
 |t::ts,d::ds,ρ=>match aA t d ρ with
  |some ρ'=>aI ts ds ρ'
  |none=>none
 |_,_,_=>none
end
def tTg(K:W0)(t:Tg):TG:=fun x σ H Q=>∃m S ρ d ρ',Rel K m S H/\EnvR K m H ρ σ/\VD K m H d x/\aA t d ρ=some ρ'/\∀σ',EnvR K m H ρ' σ'->Q σ' H
def zv(K:W0)(ts:List Tg):TGs:=fun xs σ H Q=>∃m S ρ ds ρ',Rel K m S H/\EnvR K m H ρ σ/\VDs K m H ds xs/\aI ts ds ρ=some ρ'/\∀σ',EnvR K m H ρ' σ'->Q σ' H
theorem EnvR.set{i:Nat}(E:EnvR K m H ρ σ)(h:VD K m H d v):EnvR K m H (ρ.set i (some d)) (σ.set i (some v)):=by
 refine⟨by simp[E.len],fun j d' e=>?_⟩;rw[Yz] at e;rw[Yz,<-E.len];by_cases hj:i=j
 ·rw[if_pos hj] at e ⊢;split at e
  ·rename_i hl;rw[if_pos hl];cases e;exact⟨v,rfl,h⟩
  ·cases e
 ·rw[if_neg hj] at e ⊢;exact E.at_ j d' e
theorem pw{i:Nat}(h:tTg K (.name i) x σ H Q):mR i x σ H Q:=by
 obtain⟨m,S,ρ,d,ρ',R,E,vd,e,q⟩:=h;simp only[aA] at e;split at e
 ·cases e;exact q _ (E.set vd)
 ·cases e
theorem Ic{n:Nat}(hn:n=ts.length)(h:tTg K (.tup ts) x σ H Q):GZ K n (zv K ts) x σ H Q:=by
 obtain⟨m,S,ρ,d,ρ',R,E,vd,e,q⟩:=h;cases d with
 |tup ds=>
  simp only[aA] at e;obtain⟨a,vs,rfl,sq,vds⟩:=vd.tups;refine⟨a,vs,rfl,.of sq,?_,m,S,ρ,ds,ρ',R,E,vds,e,q⟩
  have len:∀ (ts:List Tg) (ds:List D) (ρ ρ':Rho),aI ts ds ρ=some ρ'->ts.length=ds.length:=by
   intro ts
   induction ts with
   |nil=>intro ds ρ ρ' e;cases ds with |nil=>rfl |cons _ _=>simp[aI] at e
   |cons t ts ih=>
    intro ds ρ ρ' e;cases ds with
    |nil=>simp[aI] at e
    |cons d ds=>
     simp only[aI] at e;split at e
     ·simp[ih _ _ _ e]
     ·cases e
  rw[hn,<-vds.length];exact(len _ _ _ _ e).symm
 |_=>simp[aA] at e
theorem C5(h:zv K [] xs σ H Q):GY xs σ H Q:=by
 obtain⟨m,S,ρ,ds,ρ',R,E,vd,e,q⟩:=h;cases ds with
 |nil=>simp[aI] at e;subst e;rw[VDs] at vd;exact⟨vd,q _ E⟩
 |cons _ _=>simp[aI] at e
theorem zw(h:zv K (t::ts) xs σ H Q):uC (tTg K t) (zv K ts) xs σ H Q:=by
 obtain⟨m,S,ρ,ds,ρ',R,E,vd,e,q⟩:=h;cases ds with
 |nil=>simp[aI] at e
 |cons d ds=>
  simp only[aI] at e;rw[VDs] at vd;obtain⟨y,r,rfl,p,p'⟩:=vd;cases hb:aA t d ρ with
  |none=>rw[hb] at e;cases e
  |some ρ1=>
   rw[hb] at e;exact⟨y,r,rfl,m,S,ρ,d,ρ1,R,E,p,hb,fun σ' E'=>⟨m,S,ρ1,ds,ρ',R,E',p',e,q⟩⟩
theorem PG.imp(h:PG X e t)(f:∀x σ H Q,t' x σ H Q->t x σ H Q):PG X e t':=fun pins s σ H v u Q I r q=>h pins s σ H v u Q I r (f v σ H Q q)
theorem PGs.imp(h:PGs X es t)(f:∀x σ H Q,t' x σ H Q->t x σ H Q):PGs X es t':=fun pins s σ H v u Q I r q=>h pins s σ H v u Q I r (f v σ H Q q)
end
inductive Fl where
 |nx |bk |ct |rt (d:D)
abbrev XS:=Rho->Sto->Option (Fl × Rho × Sto)
def uW(K:W0)(m:List Addr)(H:Hp)(fl:Fl)(ρ:Rho)(D:Ends):Prop:=match fl with
 |.nx=>∀σ,EnvR K m H ρ σ->D.nx σ H
 |.bk=>∀σ,EnvR K m H ρ σ->D.bk σ H
 |.ct=>∀σ,EnvR K m H ρ σ->D.ct σ H
 |.rt d=>∀v,VD K m H d v->D.rt v H
def tSt(K:W0)(x:XS):TS:=fun D σ H=>∃m ρ S fl ρ' S',EnvR K m H ρ σ/\Rel K m S H/\x ρ S=some (fl,ρ',S')/\∀m' H',Aft K m H S' m' H'->uW K m' H' fl ρ' D
section
variable {X:Cx} {K:W0} {m:List Addr} {H:Hp} {S:Sto}
noncomputable def tK(x y:XS):XS:=fun ρ S=>match x ρ S with
 |none=>none
 |some (.nx,ρ1,S1)=>y ρ1 S1
 |some r=>some r
noncomputable def F3:XS:=fun ρ S=>some (.nx,ρ,S)
theorem C6{D:Ends}{σ:L2.St}{H:Hp}(h:tSt K F3 D σ H):FO D σ H:=by
 obtain⟨m,ρ,S,fl,ρ',S',E,R,e,q⟩:=h;cases e;exact q m H (Aft.refl R) σ E
theorem Ie{x y:XS}{D:Ends}{σ:L2.St}{H:Hp}(h:tSt K (tK x y) D σ H):LJ (tSt K x) (tSt K y) D σ H:=by
 obtain⟨m,ρ,S,fl,ρ',S',E,R,e,q⟩:=h;unfold tK at e;cases hx:x ρ S with
 |none=>rw[hx] at e;cases e
 |some r=>
  obtain⟨f1,ρ1,S1⟩:=r;rw[hx] at e;refine⟨m,ρ,S,f1,ρ1,S1,E,R,hx,fun m1 H1 A1=>?_⟩;cases f1 with
  |nx=>exact fun σ1 E1=>⟨m1,ρ1,S1,fl,ρ',S',E1,A1.rel,e,fun m2 H2 A2=>q m2 H2 (A1.trans A2)⟩
  |bk=>cases e;exact q m1 H1 A1
  |ct=>cases e;exact q m1 H1 A1
  |rt d=>cases e;exact q m1 H1 A1
noncomputable def qL(x:XE):XS:=fun ρ S=>match x ρ S with
 |none=>none
 |some (_,S1)=>some (.nx,ρ,S1)
noncomputable def zx(x:XE):XS:=fun ρ S=>match x ρ S with
 |none=>none
 |some (d,S1)=>some (.rt d,ρ,S1)
noncomputable def Ms:XS:=fun ρ S=>some (.ct,ρ,S)
theorem C7{x:XE}{D:Ends}{σ:L2.St}{H:Hp}(h:tSt K (qL x) D σ H):FQ (tE K x) D σ H:=by
 obtain⟨m,ρ,S,fl,ρ',S',E,R,e,q⟩:=h;unfold qL at e;cases hx:x ρ S with
 |none=>rw[hx] at e;cases e
 |some r=>
  obtain⟨d,S1⟩:=r;rw[hx] at e;cases e;exact⟨m,ρ,S,d,_,E,R,hx,fun m1 H1 v A1 _=>q m1 H1 A1 σ (E.mono R A1.ext)⟩
theorem Ig{x:XE}{D:Ends}{σ:L2.St}{H:Hp}(h:tSt K (zx x) D σ H):LK (tE K x) D σ H:=by
 obtain⟨m,ρ,S,fl,ρ',S',E,R,e,q⟩:=h;unfold zx at e;cases hx:x ρ S with
 |none=>rw[hx] at e;cases e
 |some r=>
  obtain⟨d,S1⟩:=r;rw[hx] at e;cases e;exact⟨m,ρ,S,d,_,E,R,hx,fun m1 H1 v A1 vd=>q m1 H1 A1 v vd⟩
theorem Ih{D:Ends}{σ:L2.St}{H:Hp}(h:tSt K Ms D σ H):FP D σ H:=by
 obtain⟨m,ρ,S,fl,ρ',S',E,R,e,q⟩:=h;cases e;exact q m H (Aft.refl R) σ E
noncomputable def xIf(c:XT)(x y:XS):XS:=fun ρ S=>match c ρ S with
 |none=>none
 |some (b,S1)=>if b=true then x ρ S1 else y ρ S1
theorem Mt{c:XT}{x y:XS}{D:Ends}{σ:L2.St}{H:Hp}(h:tSt K (xIf c x y) D σ H):LL (tT K c) (tSt K x) (tSt K y) D σ H:=by
 obtain⟨m,ρ,S,fl,ρ',S',E,R,e,q⟩:=h;unfold xIf at e;cases hc:c ρ S with
 |none=>rw[hc] at e;cases e
 |some r=>
  obtain⟨b,S1⟩:=r;rw[hc] at e;dsimp only at e;refine⟨m,ρ,S,b,S1,E,R,hc,fun m1 H1 A1=>?_⟩;dsimp only;split
  ·rename_i hb;rw[if_pos hb] at e;exact⟨m1,ρ,S1,fl,ρ',S',E.mono R A1.ext,A1.rel,e,fun m2 H2 A2=>q m2 H2 (A1.trans A2)⟩
  ·rename_i hb;rw[if_neg hb] at e;exact⟨m1,ρ,S1,fl,ρ',S',E.mono R A1.ext,A1.rel,e,fun m2 H2 A2=>q m2 H2 (A1.trans A2)⟩
noncomputable def kU(x:XE)(t:Tg):XS:=fun ρ S=>match x ρ S with
 |none=>none
 |some (d,S1)=>(aA t d ρ).map fun ρ1=>(.nx,ρ1,S1)
theorem tL{x:XE}{t:Tg}{D:Ends}{σ:L2.St}{H:Hp}(h:tSt K (kU x t) D σ H):v9 (tE K x) (tTg K t) D σ H:=by
 obtain⟨m,ρ,S,fl,ρ',S',E,R,e,q⟩:=h;unfold kU at e;cases hx:x ρ S with
 |none=>rw[hx] at e;cases e
 |some r=>
  obtain⟨d,S1⟩:=r;rw[hx] at e;dsimp only at e;cases hb:aA t d ρ with
  |none=>rw[hb] at e;cases e
  |some ρ1=>
   rw[hb] at e;cases e;exact⟨m,ρ,S,d,_,E,R,hx,fun m1 H1 v A1 vd=>⟨m1,_,ρ,d,_,A1.rel,E.mono R A1.ext,vd,hb,fun σ' E'=>q m1 H1 A1 σ' E'⟩⟩
noncomputable def qM(v o i:XE):XS:=fun ρ S=>match v ρ S with
 |none=>none
 |some (dv,S1)=>match o ρ S1 with
  |none=>none
  |some (d_o,S2)=>match i ρ S2 with
   |none=>none
   |some (di,S3)=>(dM d_o di dv S3).map fun S4=>(.nx,ρ,S4)
theorem C8{v o i:XE}{D:Ends}{σ:L2.St}{H:Hp}(h:tSt K (qM v o i) D σ H):v9 (tE K v) (yp (tE K o) (tE K i) (zt K)) D σ H:=by
 obtain⟨m,ρ,S,fl,ρ',S',E,R,e,q⟩:=h;unfold qM at e;cases h1:v ρ S with
 |none=>rw[h1] at e;cases e
 |some r1=>
  obtain⟨dv,S1⟩:=r1;rw[h1] at e;dsimp only at e;cases h2:o ρ S1 with
  |none=>rw[h2] at e;cases e
  |some r2=>
   obtain⟨d2,S2⟩:=r2;rw[h2] at e;dsimp only at e;cases h3:i ρ S2 with
   |none=>rw[h3] at e;cases e
   |some r3=>
    obtain⟨d3,S3⟩:=r3;rw[h3] at e;dsimp only at e;cases h4:dM d2 d3 dv S3 with
    |none=>rw[h4] at e;cases e
    |some S4=>
     rw[h4] at e;cases e;refine⟨m,ρ,S,dv,S1,E,R,h1,fun m1 H1 v1 A1 vd1=>⟨m1,ρ,S1,d2,S2,E.mono R A1.ext,A1.rel,h2,fun m2 H2 v2 A2 vd2=>⟨m2,ρ,S2,d3,S3,E.mono R (A1.trans A2).ext,A2.rel,h3,fun m3 H3 v3 A3 vd3=>?_⟩⟩⟩;exact⟨m3,S3,d2,d3,dv,_,A3.rel,vd2.mono A2.rel A3.ext,vd3,vd1.mono A1.rel (A2.trans A3).ext,h4,fun m4 H4 A4=>q m4 H4 (((A1.trans A2).trans A3).trans A4) σ (E.mono R (((A1.trans A2).trans A3).trans A4).ext)⟩
noncomputable def kW(dv:D)(o i:XE)(ρ:Rho)(S:Sto):Option Sto:=match o ρ S with
 |none=>none
 | some r=>(match i ρ r.2 with
  |none=>none
  | some u=>dM r.1 u.1 dv u.2)
theorem xj(h:kW dv o i ρ S=some S4):∃r u,o ρ S=some r/\i ρ r.2=some u/\dM r.1 u.1 dv u.2=some S4:=by
 unfold kW at h;cases h1:o ρ S with
 |none=>rw[h1] at h;cases h
 |some r=>
  rw[h1] at h;dsimp only at h;cases h2:i ρ r.2 with
  |none=>rw[h2] at h;cases h
  |some u=>rw[h2] at h;exact⟨r,u,rfl,h2,h⟩
noncomputable def C9:D->Option (D × D)
 |.tup [a,b]=>some (a,b)
 |_=>none
noncomputable def zy(v o i q j:XE):XS:=fun ρ S=>match v ρ S with
 |none=>none
 | some r=>(match C9 r.1 with
  |none=>none
  | some d=>(match kW d.1 o i ρ r.2 with
   |none=>none
   | some S2=>(kW d.2 q j ρ S2).map fun S3=>(.nx,ρ,S3)))
theorem zz(E:EnvR K m H ρ σ)(R:Rel K m S H)(vd:VD K m H dv v)(h:kW dv o i ρ S=some S4)(q:∀m' H',Aft K m H S4 m' H'->Q σ H'):yp (tE K o) (tE K i) (zt K) v σ H Q:=by
 obtain⟨r,u,h1,h2,h3⟩:=xj h;exact⟨m,ρ,S,r.1,r.2,E,R,h1,fun m1 H1 v1 A1 vd1=>⟨m1,ρ,r.2,u.1,u.2,E.mono R A1.ext,A1.rel,h2,fun m2 H2 v2 A2 vd2=>⟨m2,u.2,r.1,u.1,dv,S4,A2.rel,vd1.mono A1.rel A2.ext,vd2,vd.mono R (A1.trans A2).ext,h3,fun m3 H3 A3=>q m3 H3 ((A1.trans A2).trans A3)⟩⟩⟩
theorem Ii{v o i q j:XE}{D:Ends}{σ:L2.St}{H:Hp}(h:tSt K (zy v o i q j) D σ H):v9 (tE K v) (GZ K 2 (uC (yp (tE K o) (tE K i) (zt K)) (uC (yp (tE K q) (tE K j) (zt K)) GY))) D σ H:=by
 obtain⟨m,ρ,S,fl,ρ',S',E,R,e,z⟩:=h;unfold zy at e;cases h1:v ρ S with
 |none=>rw[h1] at e;cases e
 |some r=>
  rw[h1] at e;dsimp only at e;cases h2:C9 r.1 with
  |none=>rw[h2] at e;cases e
  |some d=>
   rw[h2] at e;dsimp only at e;cases h3:kW d.1 o i ρ r.2 with
   |none=>rw[h3] at e;cases e
   |some S2=>
    rw[h3] at e;dsimp only at e;cases h4:kW d.2 q j ρ S2 with
    |none=>rw[h4] at e;cases e
    |some S3=>
     rw[h4] at e;cases e
     have hd:r.1 = .tup [d.1,d.2]:=by
      unfold C9 at h2;split at h2
      ·rename_i a b e;rw[e];cases h2;rfl
      ·cases h2
     refine⟨m,ρ,S,r.1,r.2,E,R,h1,fun m1 H1 w A1 vd=>?_⟩;rw[hd] at vd;obtain⟨p,vs,rfl,sq,vds⟩:=vd.tups;obtain⟨x,y,rfl,vx,vy⟩:=sV vds;refine⟨p,[x,y],rfl,.of sq,rfl,x,[y],rfl,zz (E.mono R A1.ext) A1.rel vx h3 fun m2 H2 A2=>⟨y,[],rfl,zz (E.mono R (A1.trans A2).ext) A2.rel (vy.mono A1.rel A2.ext) h4 fun m3 H3 A3=>⟨rfl,?_⟩⟩⟩;exact z m3 H3 ((A1.trans A2).trans A3) σ (E.mono R ((A1.trans A2).trans A3).ext)
noncomputable def dN(nx:Nxt)(tg:Tg)(b:XS):Nat->Nat->XS
 |0,_=>fun _ _=>none
 |k+1,i=>fun ρ S=>match nx i S with
  |none=>none
  |some none=>some (.nx,ρ,S)
  |some (some d)=>match aA tg d ρ with
   |none=>none
   |some ρ1=>match b ρ1 S with
    |none=>none
    |some (.nx,ρ2,S2)=>dN nx tg b k (i+1) ρ2 S2
    |some (.ct,ρ2,S2)=>dN nx tg b k (i+1) ρ2 S2
    |some (.bk,ρ2,S2)=>some (.nx,ρ2,S2)
    |some (.rt d,ρ2,S2)=>some (.rt d,ρ2,S2)
noncomputable def zA(it:XI)(tg:Tg)(b:XS)(k:Nat):XS:=fun ρ S=>match it ρ S with
 |none=>none
 |some (nx,S1)=>dN nx tg b k 0 ρ S1
theorem Da{nx:Nxt}{tg:Tg}{b:XS}{J:It}{m1:List Addr}{H1:Hp}{D:Ends}(hI:IOk K [] J nx m1 H1)(k:Nat){m:List Addr}{ρ:Rho}{S:Sto}{σ:L2.St}{H:Hp}{fl:Fl}{ρ':Rho}{S':Sto}(E:EnvR K m H ρ σ)(R:Rel K m S H)(x:Ext m1 H1 m H)(e:dN nx tg b k 0 ρ S=some (fl,ρ',S'))(q:∀m' H',Aft K m H S' m' H'->uW K m' H' fl ρ' D) :
  ∃W:Nat->Nat->L2.St->Hp->Prop,(∃m,W 0 m σ H)/\∀i m σ H,W i m σ H ->
   (J.stop i H/\D.nx σ H)\/(J.go i H/\∃N:L2.St->Hp->Prop,(∀σ' H',N σ' H'->∃m',m' < m/\W (i+1) m' σ' H')/\∀x H',J.yld i H x H'->tTg K tg x σ H' fun σ2 H2=>tSt K b { D with nx:=N,ct:=N,bk:=D.nx } σ2 H2):=by
 refine⟨fun i k σ H=>∃m ρ S fl ρ' S',EnvR K m H ρ σ/\Rel K m S H/\Ext m1 H1 m H/\dN nx tg b k i ρ S=some (fl,ρ',S')/\∀m' H',Aft K m H S' m' H'->uW K m' H' fl ρ' D,⟨k,m,ρ,S,fl,ρ',S',E,R,x,e,q⟩,?_⟩;intro i k σ H ⟨m,ρ,S,fl,ρ',S',E,R,x,e,q⟩;cases k with
 |zero=>simp[dN] at e
 |succ k=>
  simp only[dN] at e;cases hn:nx i S with
  |none=>rw[hn] at e;cases e
  |some o=>
   rw[hn] at e;obtain⟨h1,h2⟩:=hI m S H i (x.toB fun b hb=>absurd hb (by simp)) R;cases o with
   |none=>cases e;exact .inl ⟨h1 hn,q m H (Aft.refl R) σ E⟩
   |some d=>
    obtain⟨go,hy⟩:=h2 d hn;dsimp only at e;cases hb:aA tg d ρ with
    |none=>rw[hb] at e;cases e
    |some ρ1=>
     rw[hb] at e;dsimp only at e;cases hx:b ρ1 S with
     |none=>rw[hx] at e;cases e
     |some r=>
      obtain⟨f2,ρ2,S2⟩:=r;rw[hx] at e;refine .inr ⟨go,fun σ' H'=>∃m ρ S fl ρ' S',EnvR K m H' ρ σ'/\Rel K m S H'/\Ext m1 H1 m H'/\dN nx tg b k (i+1) ρ S=some (fl,ρ',S')/\∀m' H'',Aft K m H' S' m' H''->uW K m' H'' fl ρ' D,fun σ' H' z=>⟨k,Y1 k,z⟩,fun y H' yl=>?_⟩;obtain⟨A,vd⟩:=hy y H' yl;refine⟨m,S,ρ,d,ρ1,A.rel,E.mono R A.ext,vd,hb,fun σ2 E2=>⟨m,ρ1,S,f2,ρ2,S2,E2,A.rel,hx,fun m3 H3 A3=>?_⟩⟩;cases f2 with
      |nx=>exact fun σ3 E3=>⟨m3,ρ2,S2,fl,ρ',S',E3,A3.rel,(x.trans A.ext).trans A3.ext,e,fun m4 H4 A4=>q m4 H4 ((A.trans A3).trans A4)⟩
      |ct=>exact fun σ3 E3=>⟨m3,ρ2,S2,fl,ρ',S',E3,A3.rel,(x.trans A.ext).trans A3.ext,e,fun m4 H4 A4=>q m4 H4 ((A.trans A3).trans A4)⟩
      |bk=>cases e;exact fun σ3 E3=>q m3 H3 (A.trans A3) σ3 E3
      |rt d=>cases e;exact fun v vd=>q m3 H3 (A.trans A3) v vd
theorem Ij{it:XI}{tg:Tg}{b:XS}{k:Nat}{D:Ends}{σ:L2.St}{H:Hp}(h:tSt K (zA it tg b k) D σ H):LO (tIt K [] it) (tTg K tg) (tSt K b) D σ H:=by
 obtain⟨m,ρ,S,fl,ρ',S',E,R,e,q⟩:=h;unfold zA at e;cases hi:it ρ S with
 |none=>rw[hi] at e;cases e
 |some r=>
  obtain⟨nx,S1⟩:=r;rw[hi] at e;exact⟨m,ρ,S,nx,S1,E,R,fun b hb=>absurd hb (by simp),hi,fun m1 H1 J A1 hI=>Da hI k (E.mono R A1.ext) A1.rel (Ext.refl _ _) e fun m2 H2 A2=>q m2 H2 (A1.trans A2)⟩
end
mutual
noncomputable def df:Tg->Rho->Bool
 |.name i,ρ=>match ρ[i]? with
  |some none=>true
  |_=>false
 |.tup ts,ρ=>ft ts ρ
noncomputable def ft:List Tg->Rho->Bool
 |[],_=>true
 |t::ts,ρ=>df t ρ && ft ts ρ
end
structure LeR(ρ ρ':Rho):Prop where
 len:ρ.length=ρ'.length
 at_:∀ (i:Nat) (d:D),ρ[i]?=some (some d)->ρ'[i]?=some (some d)
theorem LeR.refl(ρ:Rho):LeR ρ ρ:=⟨rfl,fun _ _ h=>h⟩
mutual
theorem qN:∀ {t:Tg} {d:D} {ρ ρ':Rho},LeR ρ0 ρ->df t ρ0=true->aA t d ρ=some ρ'->LeR ρ0 ρ'
 |.name i,d,ρ,ρ',l,f,e=>by
  simp only[aA] at e;split at e
  ·cases e;refine⟨by simp[l.len],fun j d' h=>?_⟩;rw[Yz];by_cases hj:i=j
   ·subst hj;simp only[df] at f;rw[h] at f;cases f
   ·rw[if_neg hj];exact l.at_ j d' h
  ·cases e
 |.tup ts,.tup ds,ρ,ρ',l,f,e=>by
  simp only[aA] at e;simp only[df] at f;exact nw l f e
 |.tup ts,.non,_,_,_,_,e=>by simp[aA] at e
 |.tup ts,.bl _,_,_,_,_,e=>by simp[aA] at e
 |.tup ts,.int _,_,_,_,_,e=>by simp[aA] at e
 |.tup ts,.str _,_,_,_,_,e=>by simp[aA] at e
 |.tup ts,.ref _,_,_,_,_,e=>by simp[aA] at e
theorem nw:∀ {ts:List Tg} {ds:List D} {ρ ρ':Rho},LeR ρ0 ρ->ft ts ρ0=true->aI ts ds ρ=some ρ'->LeR ρ0 ρ'
 |[],[],ρ,ρ',l,_,e=>by simp only[aI] at e;cases e;exact l
 |[],_::_,_,_,_,_,e=>by simp[aI] at e
 |_::_,[],_,_,_,_,e=>by simp[aI] at e
 |t::ts,d::ds,ρ,ρ',l,f,e=>by
  simp only[aI] at e;simp only[ft,bAE] at f;cases hb:aA t d ρ with
  |none=>rw[hb] at e;cases e
  |some ρ1=>rw[hb] at e;exact nw (qN l f.1 hb) f.2 e
end
section
variable {X:Cx} {K:W0} {m:List Addr} {H:Hp} {S:Sto}
theorem EnvR.weaken(E:EnvR K m H ρ' σ)(l:LeR ρ ρ'):EnvR K m H ρ σ:=⟨l.len.trans E.len,fun i d h=>E.at_ i d (l.at_ i d h)⟩
noncomputable def bb(nx:Nxt)(tg:Tg)(c:XA)(ρ:Rho):Nat->Nat->Sto->Option (List D × Sto)
 |0,_,_=>none
 |k+1,i,S=>match nx i S with
  |none=>none
  |some none=>some ([],S)
  |some (some d)=>match aA tg d ρ with
   |none=>none
   |some ρ1=>bnd (c ρ1 S) fun es S1=>bnd (bb nx tg c ρ k (i+1) S1) fun rs S2=>some (es++rs,S2)
noncomputable def zB(t:XT)(c:XA):XA:=fun ρ S=>bnd (t ρ S) fun b S1=>if b=true then c ρ S1 else some ([],S1)
noncomputable def F4(x:XE):XA:=fun ρ S=>bnd (x ρ S) fun d S1=>some ([d],S1)
noncomputable def iW(it:XI)(tg:Tg)(c:XA)(k:Nat):XA:=fun ρ S=>if df tg ρ=true then bnd (it ρ S) fun nx S1=>bb nx tg c ρ k 0 S1 else none
noncomputable def kY(own:Nat)(it:XI)(tg:Tg)(c:XA)(k:Nat):XA:=fun ρ S=>bnd (it ρ S) fun nx S1=>if df tg (ρ++Zo own none)=true then
 (bnd (bb nx tg c (ρ++Zo own none) k 0 S1) fun es S2=>if es.length<=100000 then some (es,S2) else none) else none
def tCl(K:W0)(acc:Addr)(c:XA):TS:=fun D σ H=>∃m ρ S es S' zs vs,EnvR K m H ρ σ/\Rel K m S H/\acc ∉ m/\H acc=some (.lst vs)/\VDs K m H zs vs/\zs.length+es.length<=100000/\c ρ S=some (es,S') ∧
 ∀m' H' σ' vs',ExtB [acc] m H m' H'->Rel K m' S' H'->H' acc=some (.lst vs')->VDs K m' H' (zs++es) vs'->EnvR K m' H' ρ σ'->D.nx σ' H'
theorem zC(h:H acc=some (.lst vs))(n:acc ∉ m):AtB [acc] m H:=fun b hb=>by simp at hb;subst hb;exact⟨⟨vs,h⟩,n⟩
theorem ExtB.refl(n:acc ∉ m):ExtB [acc] m H m H:=⟨Z7 m,fun _ _ h _ _=>h,fun _ h n=>absurd h n,fun b hb=>by simp at hb;subst hb;exact n⟩
theorem ExtB.put(n:acc ∉ m)(o:HO):ExtB [acc] m H m (upd H acc o):=⟨Z7 m,fun a u h _ nb=>by
 rw[az (fun z=>nb (by simp[z]))];exact h,fun _ h n=>absurd h n,fun b hb=>by simp at hb;subst hb;exact n⟩
theorem Rel.extB(R:Rel K m S H)(hB:AtB [acc] m H)(x:ExtB [acc] m H m H')(k:∀b ∈ m,H' b=H b):Rel K m S H':=by
 refine⟨R.len,R.nd,fun i o e=>?_⟩;obtain⟨b,hb,r⟩:=R.ob i o e;have hm:b ∈ m:=Zf hb;refine⟨b,hb,?_⟩;cases o with
 |lst ds=>obtain⟨vs,p,q⟩:=r;exact⟨vs,(k b hm).trans p,VDs.monoB R hB x q⟩
 |frz ds=>obtain⟨o,vs,p,q⟩:=r;exact⟨o,vs,(k b hm).trans p,VDs.monoB R hB x q⟩
 |dic ks ds=>obtain⟨vs,p,l,q⟩:=r;exact⟨vs,(k b hm).trans p,l,VDs.monoB R hB x q⟩
theorem Db{acc:Addr}{x:XE}{D:Ends}{σ:L2.St}{H:Hp}(h:tCl K acc (F4 x) D σ H):FZ acc (tE K x) D σ H:=by
 obtain⟨m,ρ,S,es,S',zs,vs,E,R,na,ha,vz,hl,e,q⟩:=h;obtain⟨d,S1,e1,e⟩:=af e;cases e;refine⟨m,ρ,S,d,_,E,R,e1,fun m1 H1 v A1 vd=>?_⟩;have hB:=zC ha na;have ha1:H1 acc=some (.lst vs):=A1.ext.keep _ _ ha na;have xB:=A1.ext.toB hB;have na1:acc ∉ m1:=xB.nb acc (by simp);have xp:=ExtB.put (H:=H1) na1 (.lst (vs++[v]));have hB1:=zC ha1 na1;have lz:=vz.length;simp only[ZM] at hl;refine⟨vs,ha1,by rw[VX];lia,q m1 _ σ (vs++[v]) (xB.trans xp) (A1.rel.extB hB1 xp fun b hb=>az fun z=>na1 (z ▸ hb)) aH ?_ ((E.mono R A1.ext).monoB A1.rel hB1 xp)⟩;exact VDs.append ((vz.mono R A1.ext).monoB A1.rel hB1 xp) (.cons (vd.monoB A1.rel hB1 xp) .nil)
theorem Dc{acc:Addr}{t:XT}{c:XA}{D:Ends}{σ:L2.St}{H:Hp}(h:tCl K acc (zB t c) D σ H):eS (tT K t) (tCl K acc c) D σ H:=by
 obtain⟨m,ρ,S,es,S',zs,vs,E,R,na,ha,vz,hl,e,q⟩:=h;obtain⟨b,S1,e1,e⟩:=af e;refine⟨m,ρ,S,b,S1,E,R,e1,fun m1 H1 A1=>?_⟩;have hB:=zC ha na;have ha1:H1 acc=some (.lst vs):=A1.ext.keep _ _ ha na;have xB:=A1.ext.toB hB;have na1:acc ∉ m1:=xB.nb acc (by simp);dsimp only;split
 ·rename_i hb;rw[if_pos hb] at e;exact⟨m1,ρ,S1,es,S',zs,vs,E.mono R A1.ext,A1.rel,na1,ha1,vz.mono R A1.ext,hl,e,fun m2 H2 σ2 vs2 x2 R2 h2 v2 E2=>q m2 H2 σ2 vs2 (xB.trans x2) R2 h2 v2 E2⟩
 ·rename_i hb;rw[if_neg hb] at e;cases e;refine q m1 H1 σ vs xB A1.rel ha1 ?_ (E.mono R A1.ext);rw[ZT];exact vz.mono R A1.ext
theorem qO{t:TS}{D:Ends}{σ:L2.St}{H:Hp}(h:t D σ H):eS Cr t D σ H:=by
 show if true=true then t D σ H else D.nx σ H
 rw[if_pos rfl];exact h
theorem Ik{acc:Addr}{c:XA}{D:Ends}{σ:L2.St}{H:Hp}(h:tCl K acc c D σ H):eS Cr (tCl K acc c) D σ H:=by
 exact qO h
theorem uX(hI:IOk K [acc] J nx m1 H1)(hts:∀D σ H,tCl K acc c D σ H->ts D σ H)(k:Nat)
  (fr:df tg ρ=true) (E:EnvR K m H ρ σ) (R:Rel K m S H) (x:ExtB [acc] m1 H1 m H) (ha:H acc=some (.lst vs)) (vz:VDs K m H zs vs) (hl:zs.length+es.length<=100000) (e:bb nx tg c ρ k 0 S=some (es,S'))
  (q:∀m' H' σ' vs',ExtB [acc] m H m' H'->Rel K m' S' H'->H' acc=some (.lst vs')->VDs K m' H' (zs++es) vs'->EnvR K m' H' ρ σ'->EE.nx σ' H'):qj J (tTg K tg) ts EE σ H:=by
 refine⟨fun i k σ H=>∃m S S' es zs vs,EnvR K m H ρ σ/\Rel K m S H/\ExtB [acc] m1 H1 m H/\H acc=some (.lst vs)/\VDs K m H zs vs/\zs.length+es.length<=100000/\bb nx tg c ρ k i S=some (es,S') ∧
  ∀m' H' σ' vs',ExtB [acc] m H m' H'->Rel K m' S' H'->H' acc=some (.lst vs')->VDs K m' H' (zs++es) vs'->EnvR K m' H' ρ σ'->EE.nx σ' H',⟨k,m,S,S',es,zs,vs,E,R,x,ha,vz,hl,e,q⟩,?_⟩
 intro i k σ H ⟨m,S,S',es,zs,vs,E,R,x,ha,vz,hl,e,q⟩;have na:acc ∉ m:=x.nb acc (by simp);have hB:=zC ha na;cases k with
 |zero=>simp[bb] at e
 |succ k=>
  simp only[bb] at e;cases hn:nx i S with
  |none=>rw[hn] at e;cases e
  |some o=>
   rw[hn] at e;obtain⟨h1,h2⟩:=hI m S H i x R;cases o with
   |none=>
    cases e;exact .inl ⟨h1 hn,q m H σ vs (ExtB.refl na) R ha (by rw[ZT];exact vz) E⟩
   |some d=>
    obtain⟨go,hy⟩:=h2 d hn;dsimp only at e;cases hb:aA tg d ρ with
    |none=>rw[hb] at e;cases e
    |some ρ1=>
     rw[hb] at e;dsimp only at e;obtain⟨e1,S1,c1,e⟩:=af e;obtain⟨rs,S2,c2,e⟩:=af e;cases e;rw[Zh] at hl
     refine .inr ⟨go,fun σ' H'=>∃m S S' es zs vs,EnvR K m H' ρ σ'/\Rel K m S H'/\ExtB [acc] m1 H1 m H'/\H' acc=some (.lst vs)/\VDs K m H' zs vs/\zs.length+es.length<=100000/\bb nx tg c ρ k (i+1) S=some (es,S') ∧
      ∀m' H'' σ' vs',ExtB [acc] m H' m' H''->Rel K m' S' H''->H'' acc=some (.lst vs')->VDs K m' H'' (zs++es) vs'->EnvR K m' H'' ρ σ'->EE.nx σ' H'',fun σ' H' z=>⟨k,Y1 k,z⟩,fun y H' yl=>?_⟩
     obtain⟨A,vd⟩:=hy y H' yl;have xA:=A.ext.toB hB;have ha':H' acc=some (.lst vs):=A.ext.keep _ _ ha na;refine⟨m,S,ρ,d,ρ1,A.rel,E.mono R A.ext,vd,hb,fun σ2 E2=>hts _ _ _ ⟨m,ρ1,S,e1,S1,zs,vs,E2,A.rel,na,ha',vz.mono R A.ext,by lia,c1,fun m3 H3 σ3 vs3 x3 R3 h3 v3 E3=>?_⟩⟩;refine⟨m3,S1,_,rs,zs++e1,vs3,E3.weaken (qN (LeR.refl ρ) fr hb),R3,(x.trans xA).trans x3,h3,v3,by rw[Zh];lia,c2,fun m4 H4 σ4 vs4 x4 R4 h4 v4 E4=>?_⟩;refine q m4 H4 σ4 vs4 ((xA.trans x3).trans x4) R4 h4 ?_ E4;rw[<-Yd];exact v4
theorem zD{acc:Addr}{it:XI}{tg:Tg}{t:TT}{c c':XA}{k:Nat}{D:Ends}{σ:L2.St}{H:Hp}(hts:∀D σ H,tCl K acc c D σ H->eS t (tCl K acc c') D σ H)(h:tCl K acc (iW it tg c k) D σ H):yJ (tIt K [acc] it) (tTg K tg) t (tCl K acc c') D σ H:=by
 obtain⟨m,ρ,S,es,S',zs,vs,E,R,na,ha,vz,hl,e,q⟩:=h;unfold iW at e;split at e
 ·rename_i fr;obtain⟨nx,S1,e1,e⟩:=af e;have hB:=zC ha na;refine⟨m,ρ,S,nx,S1,E,R,hB,e1,fun m1 H1 J A1 hI=>?_⟩;have xB:=A1.ext.toB hB;have na1:acc ∉ m1:=xB.nb acc (by simp);exact uX hI hts k fr (E.mono R A1.ext) A1.rel (ExtB.refl na1) (A1.ext.keep _ _ ha na) (vz.mono R A1.ext) hl e fun m2 H2 σ2 vs2 x2 R2 h2 v2 E2=>q m2 H2 σ2 vs2 (xB.trans x2) R2 h2 v2 E2
 ·cases e
theorem EnvR.more(E:EnvR K m H ρ σ)(n:Nat):EnvR K m H (ρ++Zo n none) (σ++Zo n none):=by
 refine⟨by simp[E.len],fun i d e=>?_⟩;by_cases hi:i < ρ.length
 ·rw[Zw hi] at e;rw[Zw (by rw[<-E.len];exact hi)];exact E.at_ i d e
 ·rw[Zt (by lia),Yo] at e;split at e <;> cases e
theorem uY{own:Nat}{k:Nat}(hts:∀acc D σ H,tCl K acc c D σ H->eS t (tCl K acc c') D σ H)(h:ek K (kY own it tg c k) σ H Q):yK own (tIt K [] it) (tTg K tg) (fun acc=>eS t (tCl K acc c')) σ H Q:=by
 obtain⟨m,ρ,S,es,S',E,R,e,q⟩:=h;obtain⟨nx,S1,e1,e⟩:=af e;split at e
 ·rename_i fr;obtain⟨es',S2,e2,e⟩:=af e;split at e
  ·rename_i hl;cases e;refine⟨m,ρ,S,nx,S1,E,R,fun b hb=>absurd hb (by simp),e1,fun m1 H1 J A1 hI acc hacc=>?_⟩;have x0:=Ext.beside A1.rel hacc (.lst []);have R0:=A1.rel.beside hacc (.lst []);have na:=A1.rel.no hacc
   have hI':IOk K [acc] J nx m1 (upd H1 acc (.lst [])):=by
    intro m2 S2 H2 i x2 R2;refine hI m2 S2 H2 i ⟨x2.pre,fun a o h n _=>?_,fun a h n=>?_,fun b hb=>absurd hb (by simp)⟩ R2
    ·have ne:a ≠ acc:=aK h hacc;exact x2.keep a o (by rw[az ne];exact h) n (by simp[ne])
    ·have:=x2.new a h n;by_cases hz:a=acc
     ·subst hz;exact hacc
     ·rw[az hz] at this;exact this
   refine uX (zs:=[]) (vs:=[]) hI' (hts acc) k fr ((E.mono R A1.ext |>.mono A1.rel x0).more own) R0 (ExtB.refl na) aH .nil (by simpa using hl) e2 fun m2 H2 σ2 vs2 x2 R2 h2 v2 E2=>?_
   have xx:Ext m1 H1 m2 H2:=⟨x2.pre,fun a o h n=>by
    have ne:a ≠ acc:=aK h hacc;exact x2.keep a o (by rw[az ne];exact h) n (by simp[ne]),fun a h n=>by
    have:=x2.new a h n;by_cases hz:a=acc
    ·subst hz;exact hacc
    ·rw[az hz] at this;exact this⟩
   have hn:H acc=none:=by
    cases eh:H acc with
    |none=>rfl
    |some o=>
     by_cases hm:acc ∈ m
     ·exact absurd (A1.ext.pre.subset hm) na
     ·have:=A1.ext.keep acc o eh hm;rw[hacc] at this;cases this
   exact q m2 H2 acc vs2 (A1.trans ⟨xx,R2⟩) h2 (x2.nb acc (by simp)) (fun b hb z=>na (A1.ext.pre.subset (z ▸ hb))) hn (by simpa using v2)
  ·cases e
 ·cases e
end
section
variable {X:Cx} {K:W0} {m:List Addr} {H:Hp} {S:Sto}
noncomputable def zE(x y:XE):XE:=fun ρ S=>bnd (x ρ S) fun d S1=>match d with
 |.bl true=>y ρ S1
 |.bl false=>some (.bl false,S1)
 |_=>none
noncomputable def xOr(x y:XE):XE:=fun ρ S=>bnd (x ρ S) fun d S1=>match d with
 |.bl true=>some (.bl true,S1)
 |.bl false=>y ρ S1
 |_=>none
noncomputable def xk:D->Sto->Option (D × Sto)
 |.bl b,S=>some (.bl (!b),S)
 |_,_=>none
noncomputable def Il:D->Sto->Option (D × Sto)
 |.int i,S=>some (.int (-i),S)
 |_,_=>none
theorem zF(h:tE K (zE x y) σ H Q):FL (tE K x) (tE K y) σ H Q:=by
 obtain⟨m,ρ,S,d,S',E,R,e,q⟩:=h;obtain⟨a,S1,e1,e⟩:=af e;refine⟨m,ρ,S,a,S1,E,R,e1,fun m1 H1 v A1 va=>?_⟩;cases a with
 |bl b=>
  refine⟨b,va.bls,?_⟩;cases b with
  |true=>exact⟨m1,ρ,S1,d,S',E.mono R A1.ext,A1.rel,e,fun m2 H2 w A2 vd=>q m2 H2 w (A1.trans A2) vd⟩
  |false=>cases e;exact q m1 H1 _ A1 bE
 |_=>cases e
theorem F5(h:tE K (xOr x y) σ H Q):LI (tE K x) (tE K y) σ H Q:=by
 obtain⟨m,ρ,S,d,S',E,R,e,q⟩:=h;obtain⟨a,S1,e1,e⟩:=af e;refine⟨m,ρ,S,a,S1,E,R,e1,fun m1 H1 v A1 va=>?_⟩;cases a with
 |bl b=>
  refine⟨b,va.bls,?_⟩;cases b with
  |false=>exact⟨m1,ρ,S1,d,S',E.mono R A1.ext,A1.rel,e,fun m2 H2 w A2 vd=>q m2 H2 w (A1.trans A2) vd⟩
  |true=>cases e;exact q m1 H1 _ A1 bE
 |_=>cases e
theorem Im(h:tE K (xUn xk x) σ H Q):FM (tE K x) σ H Q:=by
 obtain⟨m,ρ,S,d,S',E,R,e,q⟩:=h;obtain⟨a,S1,e1,e⟩:=af e;refine⟨m,ρ,S,a,S1,E,R,e1,fun m1 H1 v A1 va=>?_⟩;cases a with
 |bl b=>cases e;exact⟨b,va.bls,q m1 H1 _ A1 bE⟩
 |_=>cases e
theorem Dd:UnR X (unaryOp .USub) (rS1 X.K Il):=by
 intro pins s σ H x v Q I rx h;refine Ha pins s σ H x v Q I rx ?_;obtain⟨m,S,a,d,S',R,va,e,q⟩:=h;cases a with
 |int i=>cases e;exact⟨i,va.ints,q m H _ (Aft.refl R) bh⟩
 |_=>cases e
noncomputable def xl(f g:D->D->Sto->Option (D × Sto))(x y z:XE):XE:=fun ρ S=>bnd (x ρ S) fun a S1=>bnd (y ρ S1) fun b S2=>bnd (f a b S2) fun r S3=>match r with
 |.bl true=>bnd (z ρ S3) fun c S4=>g b c S4
 |.bl false=>some (.bl false,S3)
 |_=>none
theorem zG(h:tE K (xl f g x y z) σ H Q):sj (rS K f) (rS K g) (tE K x) (tE K y) (tE K z) σ H Q:=by
 obtain⟨m,ρ,S,d,S',E,R,e,q⟩:=h;obtain⟨a,S1,e1,e⟩:=af e;obtain⟨b,S2,e2,e⟩:=af e;obtain⟨r,S3,e3,e⟩:=af e;refine⟨m,ρ,S,a,S1,E,R,e1,fun m1 H1 v A1 va=>⟨m1,ρ,S1,b,S2,E.mono R A1.ext,A1.rel,e2,fun m2 H2 w A2 vb=>?_⟩⟩;refine⟨m2,S2,a,b,r,S3,A2.rel,va.mono A1.rel A2.ext,vb,e3,fun m3 H3 u A3 vr=>?_⟩;cases r with
 |bl k=>
  refine⟨k,vr.bls,?_⟩;cases k with
  |true=>
   dsimp only at e;obtain⟨c,S4,e4,e⟩:=af e;exact⟨m3,ρ,S3,c,S4,E.mono R ((A1.trans A2).trans A3).ext,A3.rel,e4,fun m4 H4 y A4 vc=>⟨m4,S4,b,c,d,S',A4.rel,vb.mono A2.rel (A3.trans A4).ext,vc,e,fun m5 H5 t A5 vd=>q m5 H5 t ((((A1.trans A2).trans A3).trans A4).trans A5) vd⟩⟩
  |false=>cases e;exact q m3 H3 _ ((A1.trans A2).trans A3) bE
 |_=>cases e
noncomputable def zH(x y:XT):XT:=fun ρ S=>bnd (x ρ S) fun b S1=>if b=true then y ρ S1 else some (false,S1)
noncomputable def Io(x y:XT):XT:=fun ρ S=>bnd (x ρ S) fun b S1=>if b=true then some (true,S1) else y ρ S1
noncomputable def zI(x:XT):XT:=fun ρ S=>bnd (x ρ S) fun b S1=>some (!b,S1)
theorem zJ(h:tT K (zH x y) σ H Q):LG (tT K x) (tT K y) σ H Q:=by
 obtain⟨m,ρ,S,d,S',E,R,e,q⟩:=h;obtain⟨b,S1,e1,e⟩:=af e;refine⟨m,ρ,S,b,S1,E,R,e1,fun m1 H1 A1=>?_⟩;dsimp only;split
 ·rename_i hb;rw[if_pos hb] at e;exact⟨m1,ρ,S1,d,S',E.mono R A1.ext,A1.rel,e,fun m2 H2 A2=>q m2 H2 (A1.trans A2)⟩
 ·rename_i hb;rw[if_neg hb] at e;cases e;exact q m1 H1 A1
theorem F6(h:tT K (Io x y) σ H Q):tOr (tT K x) (tT K y) σ H Q:=by
 obtain⟨m,ρ,S,d,S',E,R,e,q⟩:=h;obtain⟨b,S1,e1,e⟩:=af e;refine⟨m,ρ,S,b,S1,E,R,e1,fun m1 H1 A1=>?_⟩;dsimp only;split
 ·rename_i hb;rw[if_pos hb] at e;cases e;exact q m1 H1 A1
 ·rename_i hb;rw[if_neg hb] at e;exact⟨m1,ρ,S1,d,S',E.mono R A1.ext,A1.rel,e,fun m2 H2 A2=>q m2 H2 (A1.trans A2)⟩
theorem Ip(h:tT K (zI x) σ H Q):LH (tT K x) σ H Q:=by
 obtain⟨m,ρ,S,d,S',E,R,e,q⟩:=h;obtain⟨b,S1,e1,e⟩:=af e;cases e;exact⟨m,ρ,S,b,_,E,R,e1,fun m1 H1 A1=>q m1 H1 A1⟩
abbrev Calls:=Nat->List D->Sto->Option (D × Sto)
def spC(K:W0)(g:List D->Sto->Option (D × Sto))(n:Nat):Sp:=fun vs H Q _=>∃m ds S d S',VDs K m H ds vs/\Rel K m S H/\ds.length=n/\g ds S=some (d,S')/\∀m' H' v,Aft K m H S' m' H'->VD K m' H' d v->Q v H'
noncomputable def qP(g:List D->Sto->Option (D × Sto))(n:Nat)(x:XA):XE:=fun ρ S=>bnd (x ρ S) fun ds S1=>if ds.length=n then g ds S1 else none
theorem De{n:Nat}(h:tE K (qP g n x) σ H Q):FV (spC K g n) [] E0 (tAr K x) σ H Q:=by
 obtain⟨m,ρ,S,d,S',E,R,e,q⟩:=h;obtain⟨ds,S1,e1,e⟩:=af e;split at e
 ·rename_i hl;refine⟨m,ρ,S,ds,S1,E,R,e1,fun m1 H1 vs A1 vd=>⟨m1,ds,S1,d,S',by rw[ZT];exact vd,A1.rel,hl,e,fun m2 H2 v A2 vv=>q m2 H2 v (A1.trans A2) vv⟩⟩
 ·cases e
end
mutual
inductive CE where |non |bl (b:Bool) |int (i:Int) |str (x:Str) |var (i:Nat) |con (k:Nat)(v:Int) |tup (es:List CE) |lst (es:List CE) |dic0 |dic1 (i j:Int) |bin (o:BOp)(a b:CE) |neg (a:CE) |cmp (o:COp)(a b:CE) |chn (o p:COp)(a b c:CE) |and (a b:CE) |or (a b:CE) |not (a:CE) |ix (a b:CE) |sl (a:CE)(lo hi:Option CE) |call (f:Nat)(es:List CE) |inst (t:Ty)(a:CE) |len (a:CE) |all (a:CE) |any (a:CE) |tupOf (a:CE) |listOf (a:CE) |listR (a:CE) |srt (a:CE) |mxL (a:CE) |intOf (a:CE) |mx (a b:CE) |mn (a b:CE) |rep (a:CE) |comp (own:List Str)(elt:CE)(cls:List Cl) |app (o e:CE) |popAt (o e:CE) |ins (o i e:CE) |cnt (o e:CE)
inductive CI where
 |val (a:CE) |r1 (a:CE) |r2 (a b:CE) |en (a:CE)
inductive Cl where
 |mk (tg:Tg) (it:CI) (cond:Option CE)
end
noncomputable def ai:CE->Bool
 |.lst _=>true |.comp _ _ _=>true |.listOf _=>true |.listR _=>true |.srt _=>true
 |_=>false
noncomputable def LF:Nat:=1000000
noncomputable def xNo{α:Type}:Rho->Sto->Option (α × Sto):=fun _ _=>none
noncomputable def kZ(x:XE):XA:=fun ρ S=>bnd (x ρ S) fun d S1=>(al d S1).map fun r=>(r.2,S1)
noncomputable def cI(tu:Bool)(ds:List D):Option (List D):=if tu=false then tD tu ds else none
noncomputable def xm(f:Bool->List D->Option (List D))(x:XA):XA:=fun ρ S=>bnd (x ρ S) fun ds S1=>(f false ds).map fun es=>(es,S1)
noncomputable def xn(f:Bool->List D->Option (List D))(x:XE):XA:=fun ρ S=>bnd (x ρ S) fun d S1=>match al d S1 with
 |some r=>(f r.1 r.2).map fun es=>(es,S1)
 |none=>none
noncomputable def mM(i:Int):Key:=Sum.inl i
noncomputable def xo(x:XE):XA:=fun ρ S=>bnd (x ρ S) fun d S1=>match d with
 |.int i=>if 0<=i/\i<=1000 then some ((Zj i.toNat).map fun j=>.int (Int.ofNat j),S1) else none
 |_=>none
noncomputable def zK:XE:=fun _ S=>some (.ref S.length,S++[.dic [] []])
noncomputable def zL(i j:Int):XE:=fun _ S=>some (.ref S.length,S++[.dic [mM i] [.int j]])
noncomputable def cnd(t:CE->XT):Option CE->XA->XA
 |some c,x=>zB (t c) x
 |none,x=>x
noncomputable def opt(t:CE->XE):Option CE->XO
 |some l=>sT (t l)
 |none=>sS
mutual
noncomputable def evE(C:Calls)(ar:Nat->Nat):Nat->CE->XE
 |0,_=>xNo
 |n+1,e=>match e with
  |.non=>xC .non
  |.bl b=>xC (.bl b)
  |.int i=>xC (.int i)
  |.str x=>xC (.str x)
  |.var i=>wH i
  |.con _ v=>xC (.int v)
  |.tup es=>jR jS (evA C ar n es)
  |.lst es=>dm (ng (evA C ar n es))
  |.dic0=>zK
  |.dic1 i j=>zL i j
  |.bin o a b=>qy (bC o) (evE C ar n a) (evE C ar n b)
  |.neg a=>xUn Il (evE C ar n a)
  |.cmp o a b=>qy (aw o) (evE C ar n a) (evE C ar n b)
  |.chn o p a b c=>xl (aw o) (aw p) (evE C ar n a) (evE C ar n b) (evE C ar n c)
  |.and a b=>zE (evE C ar n a) (evE C ar n b)
  |.or a b=>xOr (evE C ar n a) (evE C ar n b)
  |.not a=>xUn xk (evE C ar n a)
  |.ix a b=>if ai a=true then sP (cw C ar n a) (evE C ar n b) else qy ixS (evE C ar n a) (evE C ar n b)
  |.sl a lo hi=>xSl (evE C ar n a) (opt (evE C ar n) lo) (opt (evE C ar n) hi)
  |.call f es=>qP (C f) (ar f) (evA C ar n es)
  |.inst t a=>xUn (kO t) (evE C ar n a)
  |.len a=>if ai a=true then qz b7 (cw C ar n a) else qA b7 (evE C ar n a)
  |.all a=>if ai a=true then qz jU (cw C ar n a) else qA jU (evE C ar n a)
  |.any a=>if ai a=true then qz mK (cw C ar n a) else qA mK (evE C ar n a)
  |.tupOf a=>if ai a=true then qz iS (cw C ar n a) else qA iS (evE C ar n a)
  |.listOf a=>dm (if ai a=true then cw C ar n a else kZ (evE C ar n a))
  |.listR a=>dm (xo (evE C ar n a))
  |.srt a=>dm (if ai a=true then xm cI (cw C ar n a) else xn cI (evE C ar n a))
  |.mxL a=>if ai a=true then qz jV (cw C ar n a) else qA jV (evE C ar n a)
  |.intOf a=>xUn zr (evE C ar n a)
  |.mx a b=>jR (two zk) (evA C ar n [a,b])
  |.mn a b=>jR (two zl) (evA C ar n [a,b])
  |.rep a=>xUn jx (evE C ar n a)
  | .comp own elt cls=>dm (match cls with
   |[]=>xNo
   | ⟨tg,it,cond⟩::rest=>kY own.length (evI C ar n it) tg (cnd (evT C ar n) cond (gw C ar n elt rest)) LF)
  |.app o a=>xa dL tG (evE C ar n o) (evA C ar n [a])
  |.popAt o a=>xa dL eC (evE C ar n o) (evA C ar n [a])
  |.ins o i a=>xa dL tJ (evE C ar n o) (evA C ar n [i,a])
  |.cnt o a=>xa (fun d _=>isTup d) tH (evE C ar n o) (evA C ar n [a])
noncomputable def evA(C:Calls)(ar:Nat->Nat):Nat->List CE->XA
 |0,_=>xNo
 |n+1,es=>match es with
  |[]=>CL
  |e::es=>uR (evE C ar n e) (evA C ar n es)
noncomputable def cw(C:Calls)(ar:Nat->Nat):Nat->CE->XA
 |0,_=>xNo
 |n+1,e=>match e with
  |.lst es=>ng (evA C ar n es)
  |.listOf a=>if ai a=true then cw C ar n a else kZ (evE C ar n a)
  |.listR a=>xo (evE C ar n a)
  |.srt a=>if ai a=true then xm cI (cw C ar n a) else xn cI (evE C ar n a)
  |.comp own elt cls=>match cls with
   |[]=>xNo
   |⟨tg,it,cond⟩::rest=>kY own.length (evI C ar n it) tg (cnd (evT C ar n) cond (gw C ar n elt rest)) LF
  |_=>xNo
noncomputable def gw(C:Calls)(ar:Nat->Nat):Nat->CE->List Cl->XA
 |0,_,_=>xNo
 |n+1,elt,cls=>match cls with
  |[]=>F4 (evE C ar n elt)
  |⟨tg,it,cond⟩::rest=>iW (evI C ar n it) tg (cnd (evT C ar n) cond (gw C ar n elt rest)) LF
noncomputable def evI(C:Calls)(ar:Nat->Nat):Nat->CI->XI
 |0,_=>xNo
 |n+1,it=>match it with
  |.val a=>if ai a=true then xIT (cw C ar n a) else xIV (evE C ar n a)
  |.r1 a=>xR1 (evE C ar n a)
  |.r2 a b=>xR2 (evE C ar n a) (evE C ar n b)
  |.en a=>if ai a=true then xET (cw C ar n a) else xEV (evE C ar n a)
noncomputable def evT(C:Calls)(ar:Nat->Nat):Nat->CE->XT
 |0,_=>xNo
 |n+1,e=>match e with
  |.cmp o a b=>xB (qy (aw o) (evE C ar n a) (evE C ar n b))
  |.chn o p a b c=>xB (xl (aw o) (aw p) (evE C ar n a) (evE C ar n b) (evE C ar n c))
  |.and a b=>zH (evT C ar n a) (evT C ar n b)
  |.or a b=>Io (evT C ar n a) (evT C ar n b)
  |.not a=>zI (evT C ar n a)
  |e=>CW (evE C ar n e)
end
structure Tab where
 con:List (Str × Int)
 fns:List (Str × Nat)
structure Blk where
 sc:Scope
 fs:Option Scope
 N:List Str
noncomputable def Blk.glo(b:Blk)(x:Str):Bool:=b.sc.names.lookup x == some .globalImplicit && !(x == ("__debug__" : Str))
noncomputable def Blk.vis(b:Blk)(x:Str):Bool:=(match b.sc.names.lookup x with
 |some .local=>true
 |some .cell=>true
 |some .free=>true
 | _=>false) && !(x == ("__debug__" : Str)) && !(x == ("__classdict__" : Str))
noncomputable def Blk.own(b:Blk)(x:Str):Bool:=match b.sc.names.lookup x with
 |some .local=>true
 | some .cell=>(match b.fs with
  |none=>true
  | some sc=>sc.names.lookup x == some .cell)
 |_=>false
theorem bG{P:Prop}[Decidable P]{f:P->Bool}(h:(if p:P then f p else false)=true):∃p,f p=true:=by
 by_cases p:P
 ·rw[dif_pos p] at h;exact⟨p,h⟩
 ·rw[dif_neg p] at h;cases h
theorem an2{a b:Bool}(h:(a && b)=true):a=true/\b=true:=by cases a;cases h;exact⟨rfl,h⟩
theorem an3{a b c:Bool}(h:(a && b && c)=true):a=true/\b=true/\c=true:=⟨(an2 (an2 h).1).1,(an2 (an2 h).1).2,(an2 h).2⟩
theorem an4{a b c d:Bool}(h:(a && b && c && d)=true):a=true/\b=true/\c=true/\d=true:=⟨(an3 (an2 h).1).1,(an3 (an2 h).1).2.1,(an3 (an2 h).1).2.2,(an2 h).2⟩
theorem an5{a b c d e:Bool}(h:(a && b && c && d && e)=true):a=true/\b=true/\c=true/\d=true/\e=true:=⟨(an4 (an2 h).1).1,(an4 (an2 h).1).2.1,(an4 (an2 h).1).2.2.1,(an4 (an2 h).1).2.2.2,(an2 h).2⟩
theorem an6{a b c d e f:Bool}(h:(a && b && c && d && e && f)=true):a=true/\b=true/\c=true/\d=true/\e=true/\f=true:=⟨(an5 (an2 h).1).1,(an5 (an2 h).1).2.1,(an5 (an2 h).1).2.2.1,(an5 (an2 h).1).2.2.2.1,(an5 (an2 h).1).2.2.2.2,(an2 h).2⟩
noncomputable def l1{α:Type}(l:List α)(k:α->Bool):Bool:=match l with
 |[]=>false
 |x::t=>t.isEmpty && k x
noncomputable def lC{α:Type}(l:List α)(k:α->List α->Bool):Bool:=match l with
 |[]=>false
 |x::t=>k x t
theorem bO{α:Type}{l:List α}{k:α->List α->Bool}(h:lC l k=true):∃x t,l=x::t/\k x t=true:=by
 cases l with
 |nil=>cases h
 |cons x t=>exact⟨x,t,rfl,h⟩
theorem cp{α:Type}{l:List α}(h:l.isEmpty=true):l=[]:=by cases l;rfl;cases h
theorem cx{α:Type}{l:List α}{k:α->Bool}(h:l1 l k=true):∃x,l=[x]/\k x=true:=by
 cases l with
 |nil=>cases h
 |cons x t=>obtain⟨h1,h2⟩:=an2 h;cases cp h1;exact⟨x,rfl,h2⟩
noncomputable def aG(e:Expr):Bool:=!(e.ctorIdx == 22 || e.ctorIdx == 26 || e.ctorIdx == 7)
noncomputable def pA(e:Expr)(k:BoolOp->List Expr->Pos->Bool):Bool:=if h:e.ctorIdx=0 then @Expr.BoolOp.elim (fun _=>Bool) e h k else false
theorem ny{e:Expr}{k:BoolOp->List Expr->Pos->Bool}(h:pA e k=true):∃x0 x1 x2,e = .BoolOp x0 x1 x2/\k x0 x1 x2=true:=by
 obtain⟨h1,h⟩:=bG h;exact Expr.BoolOp.elim (motive_1:=fun e=>∀h',@Expr.BoolOp.elim (fun _=>Bool) e h' k=true->∃x0 x1 x2,e = .BoolOp x0 x1 x2/\k x0 x1 x2=true) e h1 (fun x0 x1 x2 _ hh=>⟨x0,x1,x2,rfl,hh⟩) h1 h
noncomputable def zM(e:Expr)(k:Expr->WK->Expr->Pos->Bool):Bool:=if h:e.ctorIdx=2 then @Expr.BinOp.elim (fun _=>Bool) e h k else false
theorem zN{e:Expr}{k:Expr->WK->Expr->Pos->Bool}(h:zM e k=true):∃x0 x1 x2 x3,e = .BinOp x0 x1 x2 x3/\k x0 x1 x2 x3=true:=by
 obtain⟨h1,h⟩:=bG h;exact Expr.BinOp.elim (motive_1:=fun e=>∀h',@Expr.BinOp.elim (fun _=>Bool) e h' k=true->∃x0 x1 x2 x3,e = .BinOp x0 x1 x2 x3/\k x0 x1 x2 x3=true) e h1 (fun x0 x1 x2 x3 _ hh=>⟨x0,x1,x2,x3,rfl,hh⟩) h1 h
noncomputable def ic(e:Expr)(k:UnaryOp->Expr->Pos->Bool):Bool:=if h:e.ctorIdx=3 then @Expr.UnaryOp.elim (fun _=>Bool) e h k else false
theorem k8{e:Expr}{k:UnaryOp->Expr->Pos->Bool}(h:ic e k=true):∃x0 x1 x2,e = .UnaryOp x0 x1 x2/\k x0 x1 x2=true:=by
 obtain⟨h1,h⟩:=bG h;exact Expr.UnaryOp.elim (motive_1:=fun e=>∀h',@Expr.UnaryOp.elim (fun _=>Bool) e h' k=true->∃x0 x1 x2,e = .UnaryOp x0 x1 x2/\k x0 x1 x2=true) e h1 (fun x0 x1 x2 _ hh=>⟨x0,x1,x2,rfl,hh⟩) h1 h
noncomputable def zO(e:Expr)(k:List (Option Expr)->List Expr->Pos->Bool):Bool:=if h:e.ctorIdx=6 then @Expr.Dict.elim (fun _=>Bool) e h k else false
theorem uZ{e:Expr}{k:List (Option Expr)->List Expr->Pos->Bool}(h:zO e k=true):∃x0 x1 x2,e = .Dict x0 x1 x2/\k x0 x1 x2=true:=by
 obtain⟨h1,h⟩:=bG h;exact Expr.Dict.elim (motive_1:=fun e=>∀h',@Expr.Dict.elim (fun _=>Bool) e h' k=true->∃x0 x1 x2,e = .Dict x0 x1 x2/\k x0 x1 x2=true) e h1 (fun x0 x1 x2 _ hh=>⟨x0,x1,x2,rfl,hh⟩) h1 h
noncomputable def iX(e:Expr)(k:Expr->List Wr->Scope->Pos->Bool):Bool:=if h:e.ctorIdx=8 then @Expr.ListComp.elim (fun _=>Bool) e h k else false
theorem jy{e:Expr}{k:Expr->List Wr->Scope->Pos->Bool}(h:iX e k=true):∃x0 x1 x2 x3,e = .ListComp x0 x1 x2 x3/\k x0 x1 x2 x3=true:=by
 obtain⟨h1,h⟩:=bG h;exact Expr.ListComp.elim (motive_1:=fun e=>∀h',@Expr.ListComp.elim (fun _=>Bool) e h' k=true->∃x0 x1 x2 x3,e = .ListComp x0 x1 x2 x3/\k x0 x1 x2 x3=true) e h1 (fun x0 x1 x2 x3 _ hh=>⟨x0,x1,x2,x3,rfl,hh⟩) h1 h
noncomputable def k9(e:Expr)(k:Expr->List CmpOp->List Expr->Pos->Bool):Bool:=if h:e.ctorIdx=15 then @Expr.Compare.elim (fun _=>Bool) e h k else false
theorem lb{e:Expr}{k:Expr->List CmpOp->List Expr->Pos->Bool}(h:k9 e k=true):∃x0 x1 x2 x3,e = .Compare x0 x1 x2 x3/\k x0 x1 x2 x3=true:=by
 obtain⟨h1,h⟩:=bG h;exact Expr.Compare.elim (motive_1:=fun e=>∀h',@Expr.Compare.elim (fun _=>Bool) e h' k=true->∃x0 x1 x2 x3,e = .Compare x0 x1 x2 x3/\k x0 x1 x2 x3=true) e h1 (fun x0 x1 x2 x3 _ hh=>⟨x0,x1,x2,x3,rfl,hh⟩) h1 h
noncomputable def u0(e:Expr)(k:Expr->List Expr->List Keyword->Pos->Bool):Bool:=if h:e.ctorIdx=16 then @Expr.Call.elim (fun _=>Bool) e h k else false
theorem vf{e:Expr}{k:Expr->List Expr->List Keyword->Pos->Bool}(h:u0 e k=true):∃x0 x1 x2 x3,e = .Call x0 x1 x2 x3/\k x0 x1 x2 x3=true:=by
 obtain⟨h1,h⟩:=bG h;exact Expr.Call.elim (motive_1:=fun e=>∀h',@Expr.Call.elim (fun _=>Bool) e h' k=true->∃x0 x1 x2 x3,e = .Call x0 x1 x2 x3/\k x0 x1 x2 x3=true) e h1 (fun x0 x1 x2 x3 _ hh=>⟨x0,x1,x2,x3,rfl,hh⟩) h1 h
noncomputable def cO(e:Expr)(k:Const->Nat->Pos->Bool):Bool:=if h:e.ctorIdx=19 then @Expr.Constant.elim (fun _=>Bool) e h k else false
theorem cq{e:Expr}{k:Const->Nat->Pos->Bool}(h:cO e k=true):∃x0 x1 x2,e = .Constant x0 x1 x2/\k x0 x1 x2=true:=by
 obtain⟨h1,h⟩:=bG h;exact Expr.Constant.elim (motive_1:=fun e=>∀h',@Expr.Constant.elim (fun _=>Bool) e h' k=true->∃x0 x1 x2,e = .Constant x0 x1 x2/\k x0 x1 x2=true) e h1 (fun x0 x1 x2 _ hh=>⟨x0,x1,x2,rfl,hh⟩) h1 h
noncomputable def lc(e:Expr)(k:Expr->Str->Pos->Bool):Bool:=if h:e.ctorIdx=20 then @Expr.Attribute.elim (fun _=>Bool) e h k else false
theorem pB{e:Expr}{k:Expr->Str->Pos->Bool}(h:lc e k=true):∃x0 x1 x2,e = .Attribute x0 x1 x2/\k x0 x1 x2=true:=by
 obtain⟨h1,h⟩:=bG h;exact Expr.Attribute.elim (motive_1:=fun e=>∀h',@Expr.Attribute.elim (fun _=>Bool) e h' k=true->∃x0 x1 x2,e = .Attribute x0 x1 x2/\k x0 x1 x2=true) e h1 (fun x0 x1 x2 _ hh=>⟨x0,x1,x2,rfl,hh⟩) h1 h
noncomputable def cR(e:Expr)(k:Expr->Expr->Pos->Bool):Bool:=if h:e.ctorIdx=21 then @Expr.Subscript.elim (fun _=>Bool) e h k else false
theorem cJ{e:Expr}{k:Expr->Expr->Pos->Bool}(h:cR e k=true):∃x0 x1 x2,e = .Subscript x0 x1 x2/\k x0 x1 x2=true:=by
 obtain⟨h1,h⟩:=bG h;exact Expr.Subscript.elim (motive_1:=fun e=>∀h',@Expr.Subscript.elim (fun _=>Bool) e h' k=true->∃x0 x1 x2,e = .Subscript x0 x1 x2/\k x0 x1 x2=true) e h1 (fun x0 x1 x2 _ hh=>⟨x0,x1,x2,rfl,hh⟩) h1 h
noncomputable def zP(e:Expr)(k:Str->Pos->Bool):Bool:=if h:e.ctorIdx=23 then @Expr.Name.elim (fun _=>Bool) e h k else false
theorem vg{e:Expr}{k:Str->Pos->Bool}(h:zP e k=true):∃x0 x1,e = .Name x0 x1/\k x0 x1=true:=by
 obtain⟨h1,h⟩:=bG h;exact Expr.Name.elim (motive_1:=fun e=>∀h',@Expr.Name.elim (fun _=>Bool) e h' k=true->∃x0 x1,e = .Name x0 x1/\k x0 x1=true) e h1 (fun x0 x1 _ hh=>⟨x0,x1,rfl,hh⟩) h1 h
noncomputable def F7(e:Expr)(k:List Expr->Pos->Bool):Bool:=if h:e.ctorIdx=24 then @Expr.List.elim (fun _=>Bool) e h k else false
theorem Df{e:Expr}{k:List Expr->Pos->Bool}(h:F7 e k=true):∃x0 x1,e = .List x0 x1/\k x0 x1=true:=by
 obtain⟨h1,h⟩:=bG h;exact Expr.List.elim (motive_1:=fun e=>∀h',@Expr.List.elim (fun _=>Bool) e h' k=true->∃x0 x1,e = .List x0 x1/\k x0 x1=true) e h1 (fun x0 x1 _ hh=>⟨x0,x1,rfl,hh⟩) h1 h
noncomputable def zQ(e:Expr)(k:List Expr->Nat->Pos->Bool):Bool:=if h:e.ctorIdx=25 then @Expr.Tuple.elim (fun _=>Bool) e h k else false
theorem zR{e:Expr}{k:List Expr->Nat->Pos->Bool}(h:zQ e k=true):∃x0 x1 x2,e = .Tuple x0 x1 x2/\k x0 x1 x2=true:=by
 obtain⟨h1,h⟩:=bG h;exact Expr.Tuple.elim (motive_1:=fun e=>∀h',@Expr.Tuple.elim (fun _=>Bool) e h' k=true->∃x0 x1 x2,e = .Tuple x0 x1 x2/\k x0 x1 x2=true) e h1 (fun x0 x1 x2 _ hh=>⟨x0,x1,x2,rfl,hh⟩) h1 h
noncomputable def zS(e:Expr)(k:Option Expr->Option Expr->Option Expr->Pos->Bool):Bool:=if h:e.ctorIdx=26 then @Expr.Slice.elim (fun _=>Bool) e h k else false
theorem zT{e:Expr}{k:Option Expr->Option Expr->Option Expr->Pos->Bool}(h:zS e k=true):∃x0 x1 x2 x3,e = .Slice x0 x1 x2 x3/\k x0 x1 x2 x3=true:=by
 obtain⟨h1,h⟩:=bG h;exact Expr.Slice.elim (motive_1:=fun e=>∀h',@Expr.Slice.elim (fun _=>Bool) e h' k=true->∃x0 x1 x2 x3,e = .Slice x0 x1 x2 x3/\k x0 x1 x2 x3=true) e h1 (fun x0 x1 x2 x3 _ hh=>⟨x0,x1,x2,x3,rfl,hh⟩) h1 h
noncomputable def tM(e:Expr):Bool:=!(e.ctorIdx == 22 || u0 e fun f es ks _=>f.ctorIdx == 23 && es.isEmpty && ks.isEmpty)
noncomputable def Dg(e:Expr):Bool:=!(e.ctorIdx == 0 || e.ctorIdx == 5 || e.ctorIdx == 15 || ic e fun o _ _=>decide (o = .Not))
noncomputable def lg(own N:List Str):List Nat:=(Zj N.length).filter fun i=>match N[i]? with
 |some x=>own.contains x
 |none=>false
noncomputable def Blk.inner(b:Blk)(own:List Str)(scope:Scope):Blk:=⟨fh scope b.sc,some scope,cP (lg own b.N) b.N++own⟩
noncomputable def zU(e:Expr):Option (Str × Pos):=if h:e.ctorIdx=23 then some (@Expr.Name.elim (fun _=>Str × Pos) e h fun x p=>(x,p)) else none
noncomputable def qQ(e:Expr):Option (List Expr × Nat × Pos):=if h:e.ctorIdx=25 then some (@Expr.Tuple.elim (fun _=>List Expr × Nat × Pos) e h fun es k p=>(es,k,p)) else none
theorem F8{α:Type}{P:Prop}[Decidable P]{f:P->α}{r:α}(h:(if p:P then some (f p) else none)=some r):∃p,f p=r:=by
 by_cases p:P
 ·rw[dif_pos p] at h;cases h;exact⟨p,rfl⟩
 ·rw[dif_neg p] at h;cases h
theorem pC{e:Expr}{x:Str}{p:Pos}(h:zU e=some (x,p)):e = .Name x p:=by
 obtain⟨h1,h⟩:=F8 h;exact Expr.Name.elim (motive_1:=fun e=>∀h',Expr.Name.elim (motive_1:=fun _=>Str × Pos) e h' (fun x p=>(x,p))=(x,p)->e = .Name x p) e h1 (fun _ _ _ hh=>by cases hh;rfl) h1 h
theorem ie{e:Expr}{es:List Expr}{k:Nat}{p:Pos}(h:qQ e=some (es,k,p)):e = .Tuple es k p:=by
 obtain⟨h1,h⟩:=F8 h;exact Expr.Tuple.elim (motive_1:=fun e=>∀h',Expr.Tuple.elim (motive_1:=fun _=>List Expr × Nat × Pos) e h' (fun es k p=>(es,k,p))=(es,k,p)->e = .Tuple es k p) e h1 (fun _ _ _ _ hh=>by cases hh;rfl) h1 h
noncomputable def oA{α:Type}(o:Option α)(k:α->Bool):Bool:=match o with
 |some r=>k r
 |none=>false
theorem jW{α:Type}{o:Option α}{k:α->Bool}(h:oA o k=true):∃r,o=some r/\k r=true:=by
 cases o with
 |none=>cases h
 |some r=>exact⟨r,rfl,h⟩
theorem Dh{a b:Bool}(h:(a || b)=true):a=true\/b=true:=by cases a;exact .inr h;exact .inl rfl
mutual
noncomputable def tN(b:Blk)(e:Expr):Tg->Bool
 |.name i=>oA (zU e) fun r=>b.N[i]? == some r.1 && b.own r.1
 |.tup ts=>oA (qQ e) fun r=>lh b r.1 ts
noncomputable def lh(b:Blk)(es:List Expr):List Tg->Bool
 |[]=>es.isEmpty
 |t::ts=>lC es fun e es=>tN b e t && aG e && lh b es ts
end
noncomputable def Mu(e:Expr):Bool:=cO e fun c _ _=>decide (c = .none)
noncomputable def sBl(v:Bool)(e:Expr):Bool:=cO e fun c _ _=>decide (c = .bool v)
noncomputable def zV(v:Int)(e:Expr):Bool:=cO e fun c _ _=>decide (c = .int v)
noncomputable def xq(v:Str)(e:Expr):Bool:=cO e fun c _ _=>decide (c = .str v)
noncomputable def gy(k:Str->Bool)(e:Expr):Bool:=zP e fun x _=>k x
noncomputable def Iq(k:List Expr->Bool)(e:Expr):Bool:=zQ e fun es _ _=>k es
noncomputable def xr(k:List Expr->Bool)(e:Expr):Bool:=F7 e fun es _=>k es
noncomputable def Di(o:WK)(k l:Expr->Bool)(e:Expr):Bool:=zM e fun x op y _=>decide (op=o) && k x && l y
noncomputable def Mv(k:Expr->Bool)(e:Expr):Bool:=ic e fun o x _=>decide (o = .USub) && k x
noncomputable def Dj(k:Expr->Bool)(e:Expr):Bool:=ic e fun o x _=>decide (o = .Not) && k x
noncomputable def Dk(o:CmpOp)(k l:Expr->Bool)(e:Expr):Bool:=k9 e fun x os ys _=>l1 os fun op=>l1 ys fun y=>decide (op=o) && k x && l y && aG y
noncomputable def Ir(o p:CmpOp)(k l m:Expr->Bool)(e:Expr):Bool:=k9 e fun x os ys _=>lC os fun op os=>l1 os fun op'=>lC ys fun y ys=>l1 ys fun z=>decide (op=o) && decide (op'=p) && k x && l y && m z && aG z
noncomputable def xt(o:BoolOp)(k l:Expr->Bool)(e:Expr):Bool:=pA e fun op vs _=>lC vs fun x vs=>l1 vs fun y=>decide (op=o) && k x && l y
noncomputable def zW(o:BoolOp)(k l:Expr->Bool)(e:Expr):Bool:=pA e fun op vs p=>lC vs fun x vs=>lC vs fun y vs=>lC vs fun z ys=>decide (op=o) && k x && l (.BoolOp o (y::z::ys) p)
noncomputable def sIx(k l:Expr->Bool)(e:Expr):Bool:=cR e fun x y _=>k x && l y && aG y
noncomputable def sSl(k:Expr->Bool)(l m:Option Expr->Bool)(e:Expr):Bool:=cR e fun x s _=>zS s fun y z w _=>w.isNone && k x && l y && m z
noncomputable def sCN(e:Expr)(k:Str->List Expr->List Keyword->Bool):Bool:=u0 e fun f es ks _=>zP f fun x _=>k x es ks
noncomputable def zX(k:Str->Bool)(l:List Expr->Bool)(e:Expr):Bool:=sCN e fun x es ks=>lC es fun e es=>ks.isEmpty && k x && l (e::es)
noncomputable def tO(b:Blk)(f:Str)(k:List Expr->Bool)(e:Expr):Bool:=sCN e fun x es ks=>lC es fun e es=>ks.isEmpty && x == f && b.glo x && k (e::es)
noncomputable def bS(b:Blk)(f:Str)(k:Expr->Bool)(e:Expr):Bool:=sCN e fun x es ks=>l1 es fun e=>ks.isEmpty && x == f && b.glo x && k e && aG e
noncomputable def pD(b:Blk)(f:Str)(k l:Expr->Bool)(e:Expr):Bool:=sCN e fun x es ks=>lC es fun e es=>l1 es fun e'=>ks.isEmpty && (x == f && b.glo x && k e && aG e && l e' && aG e')
noncomputable def xu(m:Str)(k:Expr->Bool)(l:List Expr->Bool)(e:Expr):Bool:=u0 e fun f es ks p=>lc f fun x m' ap=>ks.isEmpty && m' == m && tM x && (ap.endLine == p.line) && k x && l es
noncomputable def F9(k:Expr->Expr->Expr->List Expr->List Wr->Scope->Bool)(e:Expr):Bool:=iX e fun e gs scope _=>lC gs fun g gs=>decide (g.is_async=0) && k e g.target g.iter g.ifs gs scope
noncomputable def Ga(e:Expr):Bool:=zO e fun ks vs _=>ks.isEmpty && vs.isEmpty
noncomputable def Gb(k l:Expr->Bool)(e:Expr):Bool:=zO e fun ks vs _=>l1 ks fun x=>l1 vs fun y=>match x with
 |some x=>k x && l y
 |none=>false
theorem dg{x y:Str}(h:(x == y)=true):x=y:=eq_of_beq h
section
variable {e:Expr} {k l m:Expr->Bool}
theorem Iu(h:Mu e=true):∃a p,e = .Constant .none a p:=by
 obtain⟨c,a,p,rfl,h⟩:=cq h;cases of_decide_eq_true h;exact⟨a,p,rfl⟩
theorem zY{v:Bool}(h:sBl v e=true):∃a p,e = .Constant (.bool v) a p:=by
 obtain⟨c,a,p,rfl,h⟩:=cq h;cases of_decide_eq_true h;exact⟨a,p,rfl⟩
theorem pE{v:Int}(h:zV v e=true):∃a p,e = .Constant (.int v) a p:=by
 obtain⟨c,a,p,rfl,h⟩:=cq h;cases of_decide_eq_true h;exact⟨a,p,rfl⟩
theorem tP{v:Str}(h:xq v e=true):∃a p,e = .Constant (.str v) a p:=by
 obtain⟨c,a,p,rfl,h⟩:=cq h;cases of_decide_eq_true h;exact⟨a,p,rfl⟩
theorem cK{k:Str->Bool}(h:gy k e=true):∃x p,e = .Name x p/\k x=true:=vg h
theorem zZ{k:List Expr->Bool}(h:Iq k e=true):∃x a p,e = .Tuple x a p/\k x=true:=zR h
theorem lp{k:List Expr->Bool}(h:xr k e=true):∃x p,e = .List x p/\k x=true:=Df h
theorem tQ{o:WK}(h:Di o k l e=true):∃x y p,e = .BinOp x o y p/\k x=true/\l y=true:=by
 obtain⟨x,op,y,p,rfl,h⟩:=zN h;obtain⟨h1,z0⟩:=an3 h;cases of_decide_eq_true h1;exact⟨x,y,p,rfl,z0⟩
theorem Iv(h:Mv k e=true):∃x p,e = .UnaryOp .USub x p/\k x=true:=by
 obtain⟨op,x,p,rfl,h⟩:=k8 h;obtain⟨h1,z0⟩:=an2 h;cases of_decide_eq_true h1;exact⟨x,p,rfl,z0⟩
theorem tR(h:Dj k e=true):∃x p,e = .UnaryOp .Not x p/\k x=true:=by
 obtain⟨op,x,p,rfl,h⟩:=k8 h;obtain⟨h1,z0⟩:=an2 h;cases of_decide_eq_true h1;exact⟨x,p,rfl,z0⟩
theorem tS{o:CmpOp}(h:Dk o k l e=true):∃x y p,e = .Compare x [o] [y] p/\k x=true/\l y=true/\aG y=true:=by
 obtain⟨x,os,ys,p,rfl,h⟩:=lb h;obtain⟨op,rfl,h⟩:=cx h;obtain⟨y,rfl,h⟩:=cx h;obtain⟨h1,z0⟩:=an4 h;cases of_decide_eq_true h1;exact⟨x,y,p,rfl,z0⟩
theorem z5{o p:CmpOp}(h:Ir o p k l m e=true):∃x y z q,e = .Compare x [o,p] [y,z] q/\k x=true/\l y=true/\m z=true/\aG z=true:=by
 obtain⟨x,os,ys,q,rfl,h⟩:=lb h;obtain⟨op,os,rfl,h⟩:=bO h;obtain⟨op',rfl,h⟩:=cx h;obtain⟨y,ys,rfl,h⟩:=bO h;obtain⟨z,rfl,h⟩:=cx h;obtain⟨h1,h2,z0⟩:=an6 h;cases of_decide_eq_true h1;cases of_decide_eq_true h2;exact⟨x,y,z,q,rfl,z0⟩
theorem ls{o:BoolOp}(h:xt o k l e=true):∃x y p,e = .BoolOp o [x,y] p/\k x=true/\l y=true:=by
 obtain⟨op,vs,p,rfl,h⟩:=ny h;obtain⟨x,vs,rfl,h⟩:=bO h;obtain⟨y,rfl,h⟩:=cx h;obtain⟨h1,z0⟩:=an3 h;cases of_decide_eq_true h1;exact⟨x,y,p,rfl,z0⟩
theorem pF{o:BoolOp}(h:zW o k l e=true):∃x y z ys p,e = .BoolOp o (x::y::z::ys) p/\k x=true/\l (.BoolOp o (y::z::ys) p)=true:=by
 obtain⟨op,vs,p,rfl,h⟩:=ny h;obtain⟨x,vs,rfl,h⟩:=bO h;obtain⟨y,vs,rfl,h⟩:=bO h;obtain⟨z,vs,rfl,h⟩:=bO h;obtain⟨h1,z0⟩:=an3 h;cases of_decide_eq_true h1;exact⟨x,y,z,vs,p,rfl,z0⟩
theorem Gc(h:sIx k l e=true):∃x y p,e = .Subscript x y p/\k x=true/\l y=true/\aG y=true:=by
 obtain⟨x,y,p,rfl,h⟩:=cJ h;exact⟨x,y,p,rfl,an3 h⟩
theorem Mw{l m:Option Expr->Bool}(h:sSl k l m e=true):∃x y z p q,e = .Subscript x (.Slice y z none p) q/\k x=true/\l y=true/\m z=true:=by
 obtain⟨x,s,q,rfl,h⟩:=cJ h;obtain⟨y,z,w,p,rfl,h⟩:=zT h;obtain⟨h1,z0⟩:=an4 h;cases w;exact⟨x,y,z,p,q,rfl,z0⟩;cases h1
theorem nz{k:Str->List Expr->List Keyword->Bool}(h:sCN e k=true):∃x p es ks q,e = .Call (.Name x p) es ks q/\k x es ks=true:=by
 obtain⟨f,es,ks,q,rfl,h⟩:=vf h;obtain⟨x,p,rfl,h⟩:=vg h;exact⟨x,p,es,ks,q,rfl,h⟩
theorem pG{k:Str->Bool}{l:List Expr->Bool}(h:zX k l e=true):∃x x1 es p q,e = .Call (.Name x p) (x1::es) [] q/\k x=true/\l (x1::es)=true:=by
 obtain⟨x,p,es,ks,q,rfl,h⟩:=nz h;obtain⟨x1,es,rfl,h⟩:=bO h;obtain⟨h1,z0⟩:=an3 h;cases cp h1;exact⟨x,x1,es,p,q,rfl,z0⟩
theorem qR{b:Blk}{f:Str}{k:List Expr->Bool}(h:tO b f k e=true):∃x es p q,e = .Call (.Name f p) (x::es) [] q/\b.glo f=true/\k (x::es)=true:=by
 obtain⟨x,p,es,ks,q,rfl,h⟩:=nz h;obtain⟨x1,es,rfl,h⟩:=bO h;obtain⟨h1,h2,z0⟩:=an4 h;cases cp h1;cases dg h2;exact⟨x1,es,p,q,rfl,z0⟩
theorem aR{b:Blk}{f:Str}(h:bS b f k e=true):∃x p q,e = .Call (.Name f p) [x] [] q/\b.glo f=true/\k x=true/\aG x=true:=by
 obtain⟨x,p,es,ks,q,rfl,h⟩:=nz h;obtain⟨x1,rfl,h⟩:=cx h;obtain⟨h1,h2,z0⟩:=an5 h;cases cp h1;cases dg h2;exact⟨x1,p,q,rfl,z0⟩
theorem dP{b:Blk}{f:Str}(h:pD b f k l e=true):∃x y p q,e = .Call (.Name f p) [x,y] [] q/\b.glo f=true/\k x=true/\aG x=true/\l y=true/\aG y=true:=by
 obtain⟨x,p,es,ks,q,rfl,h⟩:=nz h;obtain⟨x1,es,rfl,h⟩:=bO h;obtain⟨y,rfl,h⟩:=cx h;obtain⟨h1,y0⟩:=an2 h;obtain⟨h2,z0⟩:=an6 y0;cases cp h1;cases dg h2;exact⟨x1,y,p,q,rfl,z0⟩
theorem iY{m:Str}{l:List Expr->Bool}(h:xu m k l e=true):∃x ap es p,e = .Call (.Attribute x m ap) es [] p/\tM x=true/\(ap.endLine == p.line)=true/\k x=true/\l es=true:=by
 obtain⟨f,es,ks,p,rfl,h⟩:=vf h;obtain⟨x,m',ap,rfl,h⟩:=pB h;obtain⟨h1,h2,z0⟩:=an6 h;cases cp h1;cases dg h2;exact⟨x,ap,es,p,rfl,z0⟩
theorem vh{k:Expr->Expr->Expr->List Expr->List Wr->Scope->Bool}(h:F9 k e=true):∃el t i ifs gs scope p,e = .ListComp el (⟨t,i,ifs,0⟩::gs) scope p/\k el t i ifs gs scope=true:=by
 obtain⟨el,gs,scope,p,rfl,h⟩:=jy h;obtain⟨⟨t,i,ifs,as⟩,gs,rfl,h⟩:=bO h;obtain⟨h1,z0⟩:=an2 h;cases of_decide_eq_true h1;exact⟨el,t,i,ifs,gs,scope,p,rfl,z0⟩
theorem Dl(h:Ga e=true):∃p,e = .Dict [] [] p:=by
 obtain⟨ks,vs,p,rfl,h⟩:=uZ h;obtain⟨h1,h2⟩:=an2 h;cases cp h1;cases cp h2;exact⟨p,rfl⟩
theorem Dm(h:Gb k l e=true):∃x y p,e = .Dict [some x] [y] p/\k x=true/\l y=true:=by
 obtain⟨ks,vs,p,rfl,h⟩:=uZ h;obtain⟨x,rfl,h⟩:=cx h;obtain⟨y,rfl,h⟩:=cx h;cases x with
 |none=>cases h
 |some x=>exact⟨x,y,p,rfl,an2 h⟩
end
noncomputable def z6(f:Expr->CE->Bool)(l:Option Expr):Option CE->Bool
 |none=>l.isNone
 |some c=>oA l fun e=>f e c
noncomputable def z7(f:Expr->CE->Bool)(l:List Expr):Option CE->Bool
 |none=>l.isEmpty
 |some c=>l1 l fun e=>f e c
noncomputable def clC(cls:List Cl)(k:Tg->CI->Option CE->List Cl->Bool):Bool:=match cls with
 |[]=>false
 |⟨tg,it,cond⟩::rest=>k tg it cond rest
theorem Gd{cls:List Cl}{k:Tg->CI->Option CE->List Cl->Bool}(h:clC cls k=true):∃tg it cond rest,cls=⟨tg,it,cond⟩::rest/\k tg it cond rest=true:=by
 cases cls with
 |nil=>cases h
 |cons g rest=>obtain⟨tg,it,cond⟩:=g;exact⟨tg,it,cond,rest,rfl,h⟩
mutual
noncomputable def aE(T:Tab):Nat->Blk->Expr->CE->Bool
 |0,_,_,_=>false
 |n+1,b,e,c=>match c with
  |.non=>Mu e
  |.bl v=>sBl v e
  |.int i=>zV i e
  |.str x=>xq x e
  |.var i=>gy (fun x=>b.N[i]? == some x && b.vis x) e
  |.con k v=>gy (fun x=>T.con[k]? == some (x,v) && b.glo x) e
  |.tup cs=>Iq (fun es=>dQ T n b es cs) e
  |.lst cs=>xr (fun es=>dQ T n b es cs) e
  |.dic0=>Ga e
  |.dic1 i j=>Gb (zV i) (zV j) e
  |.bin o a c=>Di o.op (fun x=>aE T n b x a) (fun x=>aE T n b x c) e
  |.neg a=>Mv (fun x=>aE T n b x a) e
  |.cmp o a c=>Dk o.op (fun x=>aE T n b x a) (fun x=>aE T n b x c) e
  |.chn o p a c d=>Ir o.op p.op (fun x=>aE T n b x a) (fun x=>aE T n b x c) (fun x=>aE T n b x d) e
  |.and a c=>xt .And (fun x=>aE T n b x a) (fun x=>aE T n b x c) e || zW .And (fun x=>aE T n b x a) (fun x=>aE T n b x c) e
  |.or a c=>xt .Or (fun x=>aE T n b x a) (fun x=>aE T n b x c) e || zW .Or (fun x=>aE T n b x a) (fun x=>aE T n b x c) e
  |.not a=>Dj (fun x=>aE T n b x a) e
  |.ix a c=>sIx (fun x=>aE T n b x a) (fun x=>aE T n b x c) e
  |.sl a lo hi=>sSl (fun x=>aE T n b x a) (fun l=>z6 (aE T n b) l lo) (fun l=>z6 (aE T n b) l hi) e
  |.call f cs=>zX (fun x=>oA T.fns[f]? (fun y=>y.1 == x) && b.glo x) (fun es=>dQ T n b es cs) e
  |.inst t a=>pD b "isinstance" (fun x=>aE T n b x a) (gy fun y=>y == Str.ofString t.nm && b.glo y) e
  |.len a=>bS b "len" (fun x=>aE T n b x a) e
  |.all a=>bS b "all" (fun x=>aE T n b x a) e
  |.any a=>bS b "any" (fun x=>aE T n b x a) e
  |.tupOf a=>bS b "tuple" (fun x=>aE T n b x a) e
  |.listOf a=>bS b "list" (fun x=>aE T n b x a) e
  |.listR a=>bS b "list" (bS b "range" fun x=>aE T n b x a) e
  |.srt a=>bS b "sorted" (fun x=>aE T n b x a) e
  |.mxL a=>bS b "max" (fun x=>aE T n b x a) e
  |.intOf a=>bS b "int" (fun x=>aE T n b x a) e
  |.mx a c=>tO b "max" (fun es=>dQ T n b es [a,c]) e
  |.mn a c=>tO b "min" (fun es=>dQ T n b es [a,c]) e
  |.rep a=>bS b "repr" (fun x=>aE T n b x a) e
  |.comp own elt cls=>clC cls fun tg it cond rest=>F9 (fun el t i ifs gs scope=>cmB own (lg own b.N) b.N scope b.sc && qS T n b t i it && tN (b.inner own scope) t tg && z7 (fb T n (b.inner own scope)) ifs cond && nB T n (b.inner own scope) el gs elt rest) e
  |.app o a=>xu "append" (fun x=>aE T n b x o) (fun es=>dQ T n b es [a]) e
  |.popAt o a=>xu "pop" (fun x=>aE T n b x o) (fun es=>dQ T n b es [a]) e
  |.ins o i a=>xu "insert" (fun x=>aE T n b x o) (fun es=>dQ T n b es [i,a]) e
  |.cnt o a=>xu "count" (fun x=>aE T n b x o) (fun es=>dQ T n b es [a]) e
noncomputable def dQ(T:Tab):Nat->Blk->List Expr->List CE->Bool
 |0,_,_,_=>false
 |n+1,b,es,cs=>match cs with
  |[]=>es.isEmpty
  |c::cs=>lC es fun e es=>aE T n b e c && aG e && dQ T n b es cs
noncomputable def nB(T:Tab):Nat->Blk->Expr->List Wr->CE->List Cl->Bool
 |0,_,_,_,_,_=>false
 |n+1,b,e,gs,elt,cls=>match cls with
  |[]=>gs.isEmpty && aE T n b e elt
  |⟨tg,it,cond⟩::rest=>lC gs fun g gs=>decide (g.is_async=0) && qS T n b g.target g.iter it && tN b g.target tg && z7 (fb T n b) g.ifs cond && nB T n b e gs elt rest
noncomputable def qS(T:Tab):Nat->Blk->Expr->Expr->CI->Bool
 |0,_,_,_,_=>false
 |n+1,b,t,e,c=>match c with
  |.val a=>aE T n b e a && aG e
  |.r1 a=>bS b "range" (fun x=>aE T n b x a) e
  |.r2 a c=>pD b "range" (fun x=>aE T n b x a) (fun x=>aE T n b x c) e
  |.en a=>bS b "enumerate" (fun x=>aE T n b x a) e && Iq (fun _=>true) t
noncomputable def fb(T:Tab):Nat->Blk->Expr->CE->Bool
 |0,_,_,_=>false
 |n+1,b,e,c=>match c with
  |.cmp o a c=>Dk o.op (fun x=>aE T n b x a) (fun x=>aE T n b x c) e
  |.chn o p a c d=>Ir o.op p.op (fun x=>aE T n b x a) (fun x=>aE T n b x c) (fun x=>aE T n b x d) e
  |.and a c=>xt .And (fun x=>fb T n b x a) (fun x=>fb T n b x c) e || zW .And (fun x=>fb T n b x a) (fun x=>fb T n b x c) e
  |.or a c=>xt .Or (fun x=>fb T n b x a) (fun x=>fb T n b x c) e || zW .Or (fun x=>fb T n b x a) (fun x=>fb T n b x c) e
  |.not a=>Dj (fun x=>fb T n b x a) e
  |c=>aE T n b e c && Dg e
end
theorem gf{T:Tab}{n:Nat}{b:Blk}{t e:Expr}{c:CI}(h:qS T n b t e c=true)(hp:∀e,aG e=true->∀env x,VE e env x=pure x):∀env x,VE e env x=pure x:=by
 cases n with
 |zero=>cases h
 |succ n=>
  cases c with
  |val a=>exact hp e (an2 h).2
  |r1 a=>obtain⟨x,p,q,rfl,_⟩:=aR h;intro _ _;rfl
  |r2 a c=>obtain⟨x,y,p,q,rfl,_⟩:=dP h;intro _ _;rfl
  |en a=>obtain⟨x,p,q,rfl,_⟩:=aR (an2 h).1;intro _ _;rfl
def bp(h:Heap)(C:Addr)(bm:List Value):Prop:=∃N nm q bs hdct sn sub ab col dd k0 k1 k2 k3 k5 mN,h.get? C=some (VC nm q C N bs bm hdct sn sub ab col dd k0 k1 k2 k3 k5 "ValueError.__new__")/\h.Ns N mN/\∀n ∈ quN,mN n=none
theorem bp.keeps(x:bp h C bm)(k:∀b o,h.get? b=some o->h'.get? b=some o):bp h' C bm:=by
 obtain⟨N,nm,q,bs,hdct,sn,sub,ab,col,dd,k0,k1,k2,k3,k5,mN,hC,hN,hq⟩:=x;exact⟨N,nm,q,bs,hdct,sn,sub,ab,col,dd,k0,k1,k2,k3,k5,mN,k _ _ hC,hN.keeps k,hq⟩
section
variable {prog:Program} {w:World} {M:Model} {A:Around} {E:Value->Shared->Prop} {h:Heap} {g:Array WI} {d:Drawn} {t:Nat} {os:OsState} {a C R:Addr} {o:Obj} {vs:Array Value}
theorem tU(hn:n ∈ quN)(hC:bp h C (.ref R::bmV))(hR:bp h R bmV)(hB:V7 (.type "ValueError") n=pure y)(hq:Q y ⟨h,g,d,t,os⟩):wpAny M A (V7 (.ref C) n) Q E ⟨h,g,d,t,os⟩:=by
 obtain⟨N,nm,q,bs,hdct,sn,sub,ab,col,dd,k0,k1,k2,k3,k5,mN,hC,hN,hqn⟩:=hC;obtain⟨N',nm',q',bs',hdct',sn',sub',ab',col',dd',k0',k1',k2',k3',k5',mN',hR,hN',hqn'⟩:=hR;have hrest:VJ bmV n=pure y:=by rw[typeLookup_eq,PySem.F.excBase_ValueError.mroIs] at hB;exact hB
 rw[typeLookup_eq];refine Ua (wpAny_mroOf_exc hC ?_);rw[lookupAlong_cons];refine Ua (wpAny_classOwn_exc hC hN ?_);rw[hqn n hn];show wpAny M A (VJ (.ref R::bmV) n) Q E _;rw[lookupAlong_cons];refine Ua (wpAny_classOwn_exc hR hN' ?_);rw[hqn' n hn];show wpAny M A (VJ bmV n) Q E _;rw[hrest];exact Us hq
theorem qT:V7 (.type "ValueError") "__class__" = pure (some (.builtin "object.__class__")):=by rw[typeLookup_type,builtinLookup_eq_fast];kernel_rfl
theorem Iw(hC:bp h C (.ref R::bmV))(hx:h.get? a=some o)(hc:o.cls = .ref C)(hq:Q (.ok (.ret (.ref C))) ⟨h,g,d,t,os⟩) :
  codeAny (model prog w) A (.call (.builtin "getset_descriptor.__get__") ⟨[.builtin "object.__class__", .ref a,.ref C],[]⟩) Q ⟨h,g,d,t,os⟩:=by
 obtain⟨N,nm,q,bs,hdct,sn,sub,ab,col,dd,k0,k1,k2,k3,k5,mN,hC,hN,hqn⟩:=hC;have hT5:(⟨h,g,d,t,os⟩:Shared).TypeIs (.builtin "object.__class__") "getset_descriptor" := WG
 have hcB:(Value.ref C :: .ref R::bmV).contains (.type (".".intercalate ("object.__class__".cutAt '.').dropLast))=true:=by
  rw[PySem.F.owner_object_class,ZX,ZX];rfl
 refine Vx PySem.F.slot_gs_get.plain PySem.F.entry_gs_get (PySem.F.slot_gs_get.check _ _ _ _ _ _ _ _ hT5 (PySem.F.args_gs_get _ _ _) ?_)
 repeat (any_goals (first |assumption |(with_reducible refine Um hx ?_;rw[hc]) |(with_reducible refine Uj hC ?_;rw[hcB]) |wp_step))
 refine⟨Code.quiet_builtin _ (by decide +kernel),codeAny_builtin PySem.F.entry_object_class ?_⟩
 repeat (any_goals (first |assumption |(with_reducible refine Um hx ?_;rw[hc]) |wp_step))
theorem z8(hC:bp h C (.ref R::bmV))(hR:bp h R bmV)(hx:h.get? a=some o)(hc:o.cls = .ref C)(hq:Q (.done (.ret (.ref C))) ⟨h,g,d,t,os⟩) :
  wpAny (model prog w) A (Builtin.«object.__getattribute__» ⟨[.ref a,.str "__class__" tk],[]⟩) Q E ⟨h,g,d,t,os⟩:=by
 have hT5:(⟨h,g,d,t,os⟩:Shared).TypeIs (.builtin "object.__class__") "getset_descriptor" := WG;have f5:=WG;have f6:=PySem.F.slot_gs_get.lookup;have f7:=PySem.F.slot_gs_set.lookup;have hm:("__class__" : Str) ∈ quN:=.tail _ (.tail _ (.tail _ (.head _)))
 repeat (any_goals (first |assumption |(with_reducible refine Um hx ?_;rw[hc]) |with_reducible refine tU hm hC hR qT ?_ |wp_step))
 refine Iw hC hx hc ?_
 repeat (any_goals (first |assumption |wp_step))
theorem z9(hC:bp h C (.ref R::bmV))(hx:h.get? a=some o)(hc:o.cls = .ref C)(hq:Q () ⟨h,g,d,t,os⟩):wpAny M A (checkBuiltinCall "BaseException.__getattribute__" ⟨[.ref a,nameV],[]⟩) Q E ⟨h,g,d,t,os⟩:=by
 obtain⟨N,nm,q,bs,hdct,sn,sub,ab,col,dd,k0,k1,k2,k3,k5,mN,hC,hN,hqn⟩:=hC;have hk:builtinKind "BaseException.__getattribute__" = some .slot:=by decide +kernel
 have hsplit:splitId "BaseException.__getattribute__" = some ("BaseException", "__getattribute__"):=by decide +kernel
 have hcB:(Value.ref C :: .ref R::bmV).contains (.type "BaseException")=true:=by rw[ZX,ZX];rfl
 have ha:=PySem.F.args_bexc_ga (.ref a) nameV;simp only[checkBuiltinCall,hk,hsplit];refine Ua ?_
 ·unfold isInstance
  repeat (first |(with_reducible refine Um hx ?_;rw[hc]) |(with_reducible refine Uj hC ?_;rw[hcB]) |wp_step)
  exact hq
theorem Mx(hC:bp h C (.ref R::bmV))(hR:bp h R bmV)(hx:h.get? a=some o)(hc:o.cls = .ref C)(hq:Q (.ref C) ⟨h,g,d,t,os⟩) :
  wpAny (model prog w) A (getAttrBy (.ref a) (.str "__class__" tk) false) Q E ⟨h,g,d,t,os⟩:=by
 have FB:=PySem.F.attrBase_ValueError;have f3:=FB.ga.bind (.ref a);have hx2:(Value.builtin "BaseException.__getattribute__" == Value.builtin "object.__getattribute__")=false:=by decide +kernel
 have hm1:("__getattribute__" : Str) ∈ quN:=.tail _ (.head _);have hm2:("__getattr__" : Str) ∈ quN:=.tail _ (.tail _ (.head _))
 repeat (any_goals (first |assumption |(with_reducible refine Um hx ?_;rw[hc]) |with_reducible refine tU hm1 hC hR FB.ga.lookup ?_ |with_reducible refine tU hm2 hC hR FB.noGetattr ?_ |wp_step))
 refine Vx FB.ga.plain PySem.F.entry_bexc_ga (z9 hC hx hc (z8 hC hR hx hc ?_))
 repeat (any_goals (first |assumption |wp_step))
theorem Dn(hC:bp h C (.ref R::bmV))(hR:bp h R bmV)(hx:h.get? a=some o)(hc:o.cls = .ref C)(hq:Q (some (.ref C)) ⟨h,g,d,t+1,os⟩):wpAny (model prog w) A (getAttr? (.ref a) "__class__") Q E ⟨h,g,d,t,os⟩:=by
 unfold getAttr? getAttrBy?
 repeat (any_goals (first |assumption |with_reducible apply Mx hC hR hx hc |wp_step))
end
def nD(h:Heap)(e C:Addr):Prop:=∃o vs,h.get? e=some o/\o.cls = .ref C/\o.data = .fields vs
def nI(h:Heap)(D:Addr):Prop:=∃dd cd sl,h.get? D=some ⟨.type "type", dd,.cls cd,sl⟩
section
variable {prog:Program} {w:World} {M:Model} {A:Around} {E:Value->Shared->Prop} {s:Shared} {e C R D:Addr}
theorem vj{K:W0}{oc:Value}{dd:Option Addr}{cd:ClassData}{sl:Array (Option Value)}(hk:K.lookup C=some ⟨oc,dd,.cls cd,sl⟩):PySem.W.KitX K (.ref e) (.ref C) (fun h=>bp h C (.ref R::bmV)/\bp h R bmV/\nD h e C) where
 ty:=fun M h _ ⟨_,_,o,_,h1,h2,_⟩=>h2 ▸ (PySem.W.Looks.ld h1).andThen .now
 it:=fun M h _ ⟨hC,_⟩=>by
  obtain⟨N,nm,q,bs,hdct,sn,sub,ab,col,dd,k0,k1,k2,k3,k5,mN,hC,_⟩:=hC;intro A' Q' E' s' k q;unfold isType loadHead;exact Ua (wpAny_loadPart (k _ _ hC) (Us q))
 ne:=fun h tp dd its n sl X htp=>by
  refine XH.mpr fun q=>?_;have e:C=tp:=Value.ref.inj (beq_iff_eq.mp q);subst e;rw[X _ _ hk] at htp;cases htp
 ca:=fun {_ _ _ _ _ s} _ ⟨hC,hR,o,_,h1,h2,_⟩ hq=>by
  obtain⟨h,g,d,t,os⟩:=s;exact Dn hC hR h1 h2 hq
theorem isx{D:Addr}{Q:Value->Shared->Prop}(hC:bp s.heap C (.ref R::bmV))(hR:bp s.heap R bmV)(he:nD s.heap e C)(hD:nI s.heap D)(hr:D ≠ R)(h:∀tk,Q (.bool (C == D)) { s with toks:=tk }) :
  wpAny (model prog w) A (call (.builtin "isinstance") [.ref e,.ref D]) Q E s:=by
 have hC':=hC;obtain⟨N,nm,q,bs,hdct,sn,sub,ab,col,dd,k0,k1,k2,k3,k5,mN,hc,_⟩:=hC';obtain⟨dd',cd',sl',hd⟩:=hD
 have KX:PySem.W.Frag.In [(C,VC nm q C N bs (.ref R::bmV) hdct sn sub ab col dd k0 k1 k2 k3 k5 "ValueError.__new__"),(D,⟨.type "type", dd',.cls cd',sl'⟩)] s.heap:=by
  intro b o hb;rw[ZQ] at hb;split at hb
  ·rename_i z;cases hb;rw[show b=C from by simpa using z];exact hc
  ·rw[ZQ] at hb;split at hb
   ·rename_i z;cases hb;rw[show b=D from by simpa using z];exact hd
   ·cases hb
 have l1:Xg C [(C,VC nm q C N bs (.ref R::bmV) hdct sn sub ab col dd k0 k1 k2 k3 k5 "ValueError.__new__"),(D,(⟨.type "type", dd',.cls cd',sl'⟩:Obj))]=some (VC nm q C N bs (.ref R::bmV) hdct sn sub ab col dd k0 k1 k2 k3 k5 "ValueError.__new__"):=by
  rw[ZQ,beq_self_eq_true]
 refine Vc (vj (R:=R) l1) KX ⟨hC,hR,he⟩ ?_ (fun z=>nomatch z) h;unfold Vf;by_cases z:C=D
 ·subst z;rw[if_pos (beq_self_eq_true _),beq_self_eq_true]
 ·have z1:(C == D)=false:=by simpa using z
  rw[if_neg (by simpa using z),z1]
  have l2:Xg D [(C,VC nm q C N bs (.ref R::bmV) hdct sn sub ab col dd k0 k1 k2 k3 k5 "ValueError.__new__"),(D,(⟨.type "type", dd',.cls cd',sl'⟩:Obj))]=some ⟨.type "type", dd',.cls cd',sl'⟩:=by
   rw[ZQ,show(D == C)=false from by simpa using Ne.symm z,ZQ,beq_self_eq_true]
  unfold Ve;dsimp only;rw[if_pos (by unfold W3 PySem.W.typeIn;dsimp only;rw[l2];rfl)];unfold Vn Vk W3;dsimp only;rw[l1];show some ((Value.ref C :: .ref R::bmV).contains (.ref D))=_;rw[ZX,ZX];have z2:((Value.ref D) == Value.ref C)=false:=by simpa using Ne.symm z
  have z3:((Value.ref D) == Value.ref R)=false:=by simpa using hr
  rw[z2,z3];rfl
theorem isv{Q:Value->Shared->Prop}(hC:bp s.heap C (.ref R::bmV))(hR:bp s.heap R bmV)(he:nD s.heap e C)(h:∀tk,Q (.bool true) { s with toks:=tk }) :
  wpAny (model prog w) A (call (.builtin "isinstance") [.ref e,.type "ValueError"]) Q E s:=by
 have hC':=hC;obtain⟨N,nm,q,bs,hdct,sn,sub,ab,col,dd,k0,k1,k2,k3,k5,mN,hc,_⟩:=hC'
 have KX:PySem.W.Frag.In [(C,VC nm q C N bs (.ref R::bmV) hdct sn sub ab col dd k0 k1 k2 k3 k5 "ValueError.__new__")] s.heap:=by
  intro b o hb;rw[ZQ] at hb;split at hb
  ·rename_i z;cases hb;rw[show b=C from by simpa using z];exact hc
  ·cases hb
 have l1:Xg C [(C,VC nm q C N bs (.ref R::bmV) hdct sn sub ab col dd k0 k1 k2 k3 k5 "ValueError.__new__")]=some (VC nm q C N bs (.ref R::bmV) hdct sn sub ab col dd k0 k1 k2 k3 k5 "ValueError.__new__"):=by
  rw[ZQ,beq_self_eq_true]
 refine Vc (vj (R:=R) l1) KX ⟨hC,hR,he⟩ ?_ (fun z=>nomatch z) h;unfold Vf;rw[if_neg (by simp)];unfold Ve;dsimp only;rw[if_pos (by decide +kernel)];unfold Vn Vk W3;dsimp only;rw[l1];show some ((Value.ref C :: .ref R::bmV).contains (.type "ValueError"))=_;rw[ZX,ZX];rfl
theorem Ix{h:Heap}{g:Array WI}{d:Drawn}{t:Nat}{os:OsState}{Q:Bool->Shared->Prop}(hC:bp h C (.ref R::bmV))(hR:bp h R bmV)(he:nD h e C)(hq:Q true ⟨h,g,d,t,os⟩):wpAny M A (excMatches (.ref e) (.ref R)) Q E ⟨h,g,d,t,os⟩:=by
 obtain⟨N,nm,q,bs,hdct,sn,sub,ab,col,dd,k0,k1,k2,k3,k5,mN,hC,_⟩:=hC;obtain⟨N',nm',q',bs',hdct',sn',sub',ab',col',dd',k0',k1',k2',k3',k5',mN',hR,_⟩:=hR;obtain⟨oe,vs,he,hcls,_⟩:=he;have hcB:(Value.ref R::bmV).contains (.type "BaseException")=true:=by rw[ZX];rfl
 have hcC:(Value.ref C :: .ref R::bmV).contains (.ref R)=true:=by simp
 have f:=tc_notTuple;unfold excMatches
 repeat (first |(with_reducible refine Um he ?_;rw[hcls]) |with_reducible refine Um hR ?_ |with_reducible refine Um hC ?_ |(with_reducible refine Uj hR ?_;rw[hcB]) |(with_reducible refine Uj hC ?_;rw[hcC]) |wp_step)
 exact hq
end
structure XLeft(P:Program)(w:World)(outer:List Env)(H H':Hp)(s:Shared)(B:Heap)(s':Shared):Prop where
 os:s'.os=s.os
 bare:AllBare s'.gens
 un:Un (frs outer) [] H H' s.heap s'.heap
 keep:∀b o,s.heap.get? b=some o->H b=none->b ∉ frs outer->B.get? b=some o
 there:∀b o,s.heap.get? b=some o->b ∉ frs outer->∃o',B.get? b=some o'
 hok:HOk P w H' B
def CXE(P:Program)(w:World):CXT:=fun outer H s E ev s'=>∃e c a0 H' B,ev = .ref e/\Heap.FlyingW B outer e c a0 s'.heap/\XLeft P w outer H H' s B s'/\E c none H'
theorem My:kw (CXE P w) X E0:=fun _ _ _ _ _ _ _ ⟨_,_,_,_,_,_,_,_,h⟩=>h.elim
section
variable {P:Program} {w:World} {outer:List Env} {H H':Hp} {s s':Shared} {B:Heap} {e:Addr} {c a0:Value} {h':Heap}
theorem XLeft.later(x:XLeft P w outer H H' s B s')(f0:Heap.FlyingW B outer e c a0 s'.heap)(f:B.StaysIn h')(ff:h'.FunFrames B outer)(u:s'.heap.UpToSlots h'){t:Nat}(hg:AllBare g):XLeft P w outer H H' s B ⟨h',g,d,t,s'.os⟩ where
 os:=x.os
 bare:=hg
 un:=by
  have sl:∀b o,s'.heap.get? b=some o->b ∈ frs outer->∃sl,h'.get? b=some { o with slots:=sl }:=fun b o q hb=>by
   obtain⟨_,o',q',nf⟩:=f0.2.2.1.mem hb;rw[q] at q';cases q';exact u b o q nf
  refine⟨fun b o q n hb _=>f b o (x.keep b o q n hb),fun b o q n hb hx=>?_,x.un.free,fun b o q hx=>?_,x.un.tups,x.un.frzs,x.un.tbls⟩
  ·obtain⟨z,q1⟩:=x.un.slot b o q n hb hx;obtain⟨z2,q2⟩:=sl b _ q1 hb;exact⟨z2,q2⟩
  ·by_cases hb:b ∈ frs outer
   ·obtain⟨_,o',q',_⟩:=ff.mem hb;exact⟨o',q'⟩
   ·obtain⟨o',q'⟩:=x.there b o q hb;exact⟨o',f b o' q'⟩
 keep:=x.keep
 there:=x.there
 hok:=x.hok
end
section
variable {P:Program} {w:World} {K:W0} {mg:Str->Option Value} {base:Heap} {N:List Str} {qual:Str} {scope:Scope} {f:Addr} {cd:Value} {A:Around} {outer:List Env} {s0:Shared} {H0:Hp} {E:XK}
noncomputable abbrev cxE(P:Program)(w:World)(K:W0)(mg:Str->Option Value)(base:Heap)(N:List Str)(qual:Str)(scope:Scope)(f:Addr)(cd:Value)(A:Around)(outer:List Env)(s0:Shared)(H0:Hp)(E:XK):Cx:=mE (CXE P w) P w K mg base N qual scope f cd A outer s0 H0 E
theorem qU:frs (envOfC qual scope s0.heap.objs.size f cd::outer)=s0.heap.objs.size::frs outer:=rfl
theorem Mz:kw (CXE P w) (cxE P w K mg base N qual scope f cd A outer s0 H0 E) E:=by
 rintro pins σ H s _ s' I ⟨e,c,a0,H',B,rfl,fl,x,hE⟩;have hfr:(A.deeper (envOfC qual scope s0.heap.objs.size f cd)).frames=some (envOfC qual scope s0.heap.objs.size f cd::outer):=I.ok.frames;show wpAny (model P w) (A.deeper (envOfC qual scope s0.heap.objs.size f cd)) (leaving (envOfC qual scope s0.heap.objs.size f cd) (.ref e)) _ _ s'
 have nL:∀b o,s0.heap.get? b=some o->b ∉ frs outer->b ∉ frs (envOfC qual scope s0.heap.objs.size f cd::outer):=fun b o q hb hm=>by
  rw[qU] at hm;rcases Zm.mp hm with z |z
  ·exact absurd (Zq q) (by rw[z];exact ZO _)
  ·exact hb z
 have ib:Un (frs outer) [] H0 H s0.heap s.heap:=I.base;refine wpAny_leaves_onW hfr rfl fl fun h' x1 x2=>⟨e,c,a0,H',B,rfl,x1,?_,hE⟩;refine⟨x.os.trans I.os,x.bare,⟨fun b o q n hb hx=>?_,fun b o q n hb hx=>?_,fun b o q n hx=>?_,fun b o q hx=>?_,fun b xs q=>x.un.tups b xs (ib.tups b xs q),fun b o u q=>x.un.frzs b o u (ib.frzs b o u q),fun b ps q=>?_⟩,fun b o q n hb=>?_,fun b o q hb=>?_,x.hok⟩
 ·exact x1.1 b o (x.keep b o (ib.keep b o q n hb hx) (ib.free b o q n hx) (nL b o q hb))
 ·obtain⟨z,q1⟩:=ib.slot b o q n hb hx;obtain⟨z2,q2⟩:=x.un.slot b _ q1 (ib.free b o q n hx) (show b ∈ s0.heap.objs.size::frs outer from Zg _ hb) hx
  obtain⟨_,o',q',nf⟩:=fl.2.2.1.mem (b:=b) (Yu.mpr (by
   obtain⟨y,hy,hz⟩:=Yu.mp hb;exact⟨y,Zg _ hy,hz⟩))
  rw[q2] at q';cases q';obtain⟨z3,q3⟩:=x2 b _ q2 nf;exact⟨z3,q3⟩
 ·obtain⟨o',q1⟩:=ib.there b o q hx;exact x.un.free b o' q1 (ib.free b o q n hx) hx
 ·by_cases hb:b ∈ frs outer
  ·obtain⟨_,o',q',_⟩:=x1.2.2.1.mem hb;exact⟨o',q'⟩
  ·obtain⟨o',q1⟩:=ib.there b o q hx;obtain⟨o2,q2⟩:=x.there b o' q1 (nL b o q hb);exact⟨o2,x1.1 b o2 q2⟩
 ·obtain⟨m1,e1⟩:=ib.tbls b ps q;obtain⟨m2,e2⟩:=x.un.tbls b _ e1;exact⟨m1++m2,by rw[e2,Xw]⟩
 ·exact x.keep b o (ib.keep b o q n hb (by simp)) (ib.free b o q n (by simp)) (nL b o q hb)
 ·obtain⟨o',q1⟩:=ib.there b o q (by simp);exact x.there b o' q1 (nL b o q hb)
theorem MA(I:Inv (cxE P w K mg base N qual scope f cd A outer s0 H0 E) pins σ H s)(mk:Heap.MadeExcOf s.heap h1 e c args)(hE:E c none H) :
  (cxE P w K mg base N qual scope f cd A outer s0 H0 E).xe (.ref e) { s with heap:=h1 }:=by
 have hfr:(A.deeper (envOfC qual scope s0.heap.objs.size f cd)).frames=some (envOfC qual scope s0.heap.objs.size f cd::outer):=I.ok.frames;show wpAny (model P w) (A.deeper (envOfC qual scope s0.heap.objs.size f cd)) (leaving (envOfC qual scope s0.heap.objs.size f cd) (.ref e)) _ _ { s with heap:=h1 };have stk:s.heap.FunFrames base (envOfC qual scope s0.heap.objs.size f cd::outer):=I.stack;have sf:∀b ∈ frs (envOfC qual scope s0.heap.objs.size f cd::outer),H b=none:=I.stkFree
 have nL:∀b o,s0.heap.get? b=some o->b ∉ frs outer->b ∉ frs (envOfC qual scope s0.heap.objs.size f cd::outer):=fun b o q hb hm=>by
  rw[qU] at hm;rcases Zm.mp hm with z |z
  ·exact absurd (Zq q) (by rw[z];exact ZO _)
  ·exact hb z
 have ib:Un (frs outer) [] H0 H s0.heap s.heap:=I.base;have hin:∀env ∈ (envOfC qual scope s0.heap.objs.size f cd::outer),∀b,env.frame=some b->b ∈ frs (envOfC qual scope s0.heap.objs.size f cd::outer):=fun env he b hb=>Yu.mpr ⟨env,he,hb⟩;refine wpAny_leaves_madeW hfr rfl (fun b o q=>Vl _ q) (PySem.W.funFrames_hide stk hin) mk fun h' t x1 x2 x3 x4=>⟨e,c,.ref t,H,_,rfl,x1,?_,hE⟩
 have up:∀b o,s.heap.get? b=some o->b ∈ frs (envOfC qual scope s0.heap.objs.size f cd::outer)->∃sl,h'.get? b=some { o with slots:=sl }:=fun b o q hb=>by
  obtain⟨_,o',q',nf⟩:=stk.mem hb;rw[q] at q';cases q';exact x4 b o (mk.keeps b o q) nf
 refine⟨I.os,I.bare,⟨fun b o q n hb hx=>?_,fun b o q n hb hx=>?_,fun b o q n hx=>ib.free b o q n hx,fun b o q hx=>?_,ib.tups,ib.frzs,ib.tbls⟩,fun b o q n hb=>?_,fun b o q hb=>?_,fun a o q=>?_⟩
 ·exact x1.1 b o (W8 _ (ib.keep b o q n hb hx) (nL b o q hb))
 ·obtain⟨z,q1⟩:=ib.slot b o q n hb hx;obtain⟨z2,q2⟩:=up b _ q1 (show b ∈ s0.heap.objs.size::frs outer from Zg _ hb);exact⟨z2,q2⟩
 ·obtain⟨o',q1⟩:=ib.there b o q hx;by_cases hb:b ∈ frs (envOfC qual scope s0.heap.objs.size f cd::outer)
  ·obtain⟨z2,q2⟩:=up b _ q1 hb;exact⟨_,q2⟩
  ·exact⟨o',x1.1 b o' (W8 _ q1 hb)⟩
 ·exact W8 _ (ib.keep b o q n hb (by simp)) (nL b o q hb)
 ·obtain⟨o',q1⟩:=ib.there b o q (by simp);exact⟨o',W8 _ q1 (nL b o q hb)⟩
 ·refine(I.hok a o q).stay (fun b u hb qu=>W8 _ qu fun hm=>?_) (fun _ z=>z) fun _ _ z=>z;have hf:=sf b hm;rcases hb with rfl |hb
  ·rw[q] at hf;cases hf
  ·rw[hb] at hf;cases hf
end
section
variable {X:Cx} {x:Str} {np cpos pos:Pos} {a:Expr} {C R:Addr} {v:V}
theorem Aa{E:XK}(hx:∀pins σ H s h1 e args,Inv X pins σ H s->Heap.MadeExcOf s.heap h1 e (.ref C) args->E (.ref C) none H->X.xe (.ref e) { s with heap:=h1 })(hc:X.calm=true)(hg:Gl X x)(hm:X.mg x=some (.ref C))(hC:bp X.base C (.ref R::bmV))(hR:bp X.base R bmV)
  (ha:PA X [a] (cY (tC v) kr)) (he:VZ [a] X.env=[(false,eval a X.env)]) (hd:(x == ("__debug__" : Str))=false):PS X (.Raise (some (.Call (.Name x np) [a] [] cpos)) none pos) (fun D σ H=>E (.ref C) none H):=by
 intro pins s σ H D I h;have h:cY (tC v) kr σ H fun vs H1=>vs.length=1/\E (.ref C) none H1:=⟨rfl,h⟩;obtain⟨N,nm,q,bs,hdct,sn,sub,ab,col,dd,k0,k1,k2,k3,k5,mN,hC,hN,hqn⟩:=hC;obtain⟨N',nm',q',bs',hdct',sn',sub',ab',col',dd',k0',k1',k2',k3',k5',mN',hR,hN',hqn'⟩:=hR;have T:OwnTail X.base bmV (.ref R::bmV):=.own hR hN' (hqn' _ (.head _)) .base
 refine wpAny_Raise_call_subT (C:=C) (nm:=nm) (q:=q) (N:=N) (bs:=bs) (bm:=.ref R::bmV) (hdct:=hdct) (sn:=sn) (sub:=sub) (ab:=ab) (col:=col) (dd:=dd) (k0:=k0) (k1:=k1) (k2:=k2) (k3:=k3) (k5:=k5)
  PySem.F.excBase_ValueError (mN:=mN) (T.hasType PySem.F.excBase_ValueError.hasBase) (I.ok.hd hc) (by rw[he];rfl) (hqn _ (.head _)) (fW I hg hm ⟨rfl,?_⟩ hd)
 have hp:=ha cpos pins s σ H _ I h;rw[he] at hp ⊢;exact Wq (Uo hp (fun vs s2 ⟨xs,H1,I1,r,q⟩=>⟨rfl,by rw[<-r.length,q.1];decide,I1.bk _ _ hC,hN.keeps I1.bk,T.keeps I1.bk,fun h' e mk=>hx pins σ H1 s2 h' e vs I1 mk q.2⟩) fun _ _ y=>y)
end
theorem qV(x:bf P w H h a o):∃u,h.get? a=some u:=by
 cases o with
 |lst xs=>obtain⟨_,_,_,_,e⟩:=x;exact⟨_,e⟩
 |tup xs=>obtain⟨_,_,_,o,e,_⟩:=x;exact⟨_,e⟩
 |dK kvs=>obtain⟨_,_,_,_,o,_,_,e,_⟩:=x;exact⟨_,e⟩
 |dT kvs=>obtain⟨_,_,_,_,o,_,_,e,_⟩:=x;exact⟨_,e⟩
 |set S n=>obtain⟨o,_,_,_,e,_⟩:=x;exact⟨_,e⟩
 |ins C dx fs=>obtain⟨_,_,_,e,_⟩:=x;exact⟨_,e⟩
 |own y=>exact x
 |xd fs=>obtain⟨_,⟨_,_,_,e,_⟩,_⟩:=x;exact⟨_,e⟩
 |rng lo hi=>obtain⟨_,_,_,e⟩:=x;exact⟨_,e⟩
 |frz ob u=>obtain⟨e,_⟩:=x;exact⟨_,e⟩
 |tbl ps=>exact⟨_,x⟩
 |met f y=>exact⟨_,x⟩
 |ext φ=>obtain⟨_,e,_⟩:=x;exact e
noncomputable abbrev exO(e C:Addr):HO:=.ext fun h=>nD h e C
section
variable {P:Program} {w:World} {l:List Env} {H H':Hp} {s s':Shared} {B:Heap} {e C:Addr} {a0:Value} {h6:Heap}
theorem XLeft.got(x:XLeft P w l H H' s B s')(f0:Heap.FlyingW B l e (.ref C) a0 s'.heap)(f:Heap.FlyingW B l e (.ref C) a0 h6)(u:s'.heap.UpToSlots h6):Un (frs l) [] H (upd H' e (exO e C)) s.heap h6/\HOk P w (upd H' e (exO e C)) h6:=by
 have un:=(x.later f0 f.1 f.2.2.1 u (g:=s'.gens) (d:=s'.drawn) (t:=s'.toks) x.bare).un
 have ne:H' e=none:=by
  cases q:H' e with
  |none=>rfl
  |some o=>obtain⟨z,q2⟩:=qV (x.hok e o q);rw[f.2.1] at q2;cases q2
 obtain⟨oe,vs,he,hc,hd,_⟩:=f.first
 have nb:∀b o,s.heap.get? b=some o->H b=none->b ≠ e:=fun b o q n z=>by
  subst z;by_cases hb:b ∈ frs l
  ·obtain⟨_,o2,q2,nf⟩:=f.2.2.1.mem hb;rw[he] at q2;cases q2;exact nf vs hd
  ·have:=x.keep b o q n hb;rw[f.2.1] at this;cases this
 have up:∀b u,H' b=some u->upd H' e (exO e C) b=some u:=fun b u q=>by rw[az (aK q ne)];exact q
 refine⟨⟨un.keep,un.slot,fun b o q n hx=>by rw[az (nb b o q n)];exact un.free b o q n hx,un.there,fun b xs q=>up b _ (un.tups b xs q),fun b o v q=>up b _ (un.frzs b o v q),fun b ps q=>?_⟩,fun b o q=>?_⟩
 ·obtain⟨m,q1⟩:=un.tbls b ps q;exact⟨m,up b _ q1⟩
 ·by_cases hb:b=e
  ·subst hb;rw[aH] at q;cases q;exact⟨⟨oe,vs,he,hc,hd⟩,⟨oe,he⟩,fun h1 h2 ⟨o,vs,q1,q2⟩ k=>⟨o,vs,k o q1,q2⟩⟩
  ·rw[az hb] at q;exact(x.hok b o q).stay (fun c v _ z=>f.1 c v z) (fun c z=>up c _ z) fun c xs z=>up c _ z
end
section
variable {X:Cx} {pins:List (Addr × Obj)} {σ:L2.St} {H:Hp} {s:Shared}
noncomputable abbrev Cx.mk(X:Cx)(e:Addr):Cx:={ X with A:=X.A.mark (some (.ref e)),calm:=false,xe:=fun _ _=>False }
theorem Ab(I:L2.Inv X pins σ H s)(e:Addr):L2.Inv (Cx.mk X e) pins σ H s:=
 ⟨⟨I.ok.mod,I.ok.kind,I.ok.glob,I.ok.blt,I.ok.above,I.ok.inj,I.ok.has,I.ok.cab,fun z=>(nomatch z),I.ok.frames,I.ok.stk,I.ok.exf,I.ok.bs,I.ok.bsz,I.ok.noex,I.ok.exfs,I.ok.funs,I.ok.frf⟩,I.os,I.bare,I.base,I.loc,I.cell,I.free,I.freeC,I.pin,I.hok,I.len⟩
theorem Iy(ok:X.Ok)(I:L2.Inv (Cx.mk X e) pins σ H s):L2.Inv X pins σ H s:=⟨ok,I.os,I.bare,I.base,I.loc,I.cell,I.free,I.freeC,I.pin,I.hok,I.len⟩
theorem Dp{i:Nat}(I:L2.Inv X pins σ H s)(hN:X.N.Nodup)(hi:X.N[i]?=some x)(hk:X.env.scope.names.lookup x=some .local)
  (h:∀s',L2.Inv X pins (σ.set i none) H s'->Q () s'):wpAny M A (do Vs X.env x .none;unbindBehindTheSuite X.env x pos) Q E s:=by
 obtain⟨m,hn,hl⟩:=id I.loc;have hcls:(X.env.scope.kind == .class || (X.env.scope.kind == .module && X.env.locals != X.env.globals))=false:=by rw[I.ok.kind];rfl
 have hiσ:i < σ.length:=by rw[I.len];exact(Zc.mp hi).1
 have cne:=I.cne;refine wpAny_nameGoes_keeps hk hn hcls fun h' v hn' hs=>?_;refine h _ ⟨I.ok,I.os,I.bare,⟨fun b o e n hb hx=>?_,fun b o e n hb hx=>?_,I.base.free,fun b o e hx=>?_,I.base.tups,I.base.frzs,I.base.tbls⟩,⟨_,hn',fun j y v' e1 e2 e3=>?_⟩,fun y c e=>?_,I.free,I.freeC,fun p hp=>?_,fun b ob e=>?_,by simpa using I.len⟩
 ·exact(hs.2 b (ZA (Zu (Zq e) I.ok.above))).trans (I.base.keep b o e n hb hx)
 ·obtain⟨sl,e1⟩:=I.base.slot b o e n hb hx;exact⟨sl,(hs.2 b (ZA (Zu (Zq e) I.ok.above))).trans e1⟩
 ·obtain⟨o',e1⟩:=I.base.there b o e hx;exact⟨o',(hs.2 b (ZA (Zu (Zq e) I.ok.above))).trans e1⟩
 ·by_cases hj:j=i
  ·subst hj;rw[ZI hiσ] at e2;cases e2
  ·rw[ZN (Ne.symm hj)] at e2;obtain⟨u',r',q⟩:=hl j y v' e1 e2 e3;refine⟨u',r',?_⟩;rcases q with ⟨k,e⟩ |⟨k,c,e,z⟩
   ·refine .inl ⟨k,?_⟩;have:y ≠ x:=fun e=>hj (kl hN e1 (e ▸ hi));simp[this,e]
   ·exact .inr ⟨k,c,e,z.sameBut hs (cne y c e)⟩
 ·obtain⟨w',z⟩:=I.cell y c e;exact⟨w',z.sameBut hs (cne y c e)⟩
 ·obtain⟨e,n,ne,nf,d⟩:=I.pin p hp;exact⟨(hs.2 p.1 ne).trans e,n,ne,nf,d⟩
 ·refine(I.hok b ob e).stay (fun c w' hc q=>(hs.2 c ?_).trans q) (fun _ q=>q) fun _ _ q=>q;rintro rfl;rcases hc with rfl |hc
  ·rw[I.free] at e;cases e
  ·rw[I.free] at hc;cases hc
theorem Dq{H':Hp}{s':Shared}{B:Heap}{e C R:Addr}{a0:Value}{i:Nat}{n ring:Str}{b₀:Stmt}{suite:List Stmt}{np hpos:Pos}{D:Ends}(hst:X.stack=X.env::X.outer)(hfm:X.env.frame=some X.env.locals)(I:L2.Inv X pins σ H s)(fl:Heap.FlyingW B X.stack e (.ref C) a0 s'.heap)(x:XLeft X.prog X.w X.stack H H' s B s')
  (hC:bp X.base C (.ref R::bmV)) (hR:bp X.base R bmV) (hg:Gl X ring) (hm:X.mg ring=some (.ref R)) (hdb:(ring == ("__debug__" : Str))=false) (hN:X.N.Nodup) (hi:X.N[i]?=some n) (hl:X.env.scope.names.lookup n=some .local)
  (hb:∀s6,L2.Inv (Cx.mk X e) pins (σ.set i (some (.ref e))) (upd H' e (exO e C)) s6->wpAny (model X.prog X.w) (Cx.mk X e).A (execs (b₀::suite) X.env) (fun f s7=>∃u v σ7 H7,f = .ret u/\L2.Inv (Cx.mk X e) pins σ7 H7 s7/\aF v u/\D.rt v H7) (fun _ _=>False) s6) :
  wpAny (model X.prog X.w) X.A (noteFrame (.ref e) X.env) (fun _ s₂=>wpAny (model X.prog X.w) X.A (setFlight (.ref e) none) (fun _ s₃=>wpAny (model X.prog X.w) X.A (handleBy (.ref e) X.env [.ExceptHandler (some (.Name ring np)) (some n) (b₀::suite) hpos]) (SP X pins D) X.xe s₃) X.xe s₂) X.xe s':=by
 have hfr:X.A.frames=some (X.env::X.outer):=by rw[<-hst];exact I.ok.frames
 have st:X.base.StaysIn B:=fun b o q=>x.keep b o (I.bs b o q).1 (I.bs b o q).2 fun hm=>by
  rw[(I.stack.mem hm).1] at q;cases q
 have flS:=fl;rw[hst] at fl;refine wpAny_looks_onW hfr hfm fl fun h4 held sm4=>?_;refine wpAny_landsW held fun h5 fl5 sm5=>?_;rw[<-hst] at fl5;obtain⟨un5,ok5⟩:=x.got flS fl5 (sm4.trans sm5);have I5:L2.Inv X pins σ (upd H' e (exO e C)) { s' with heap:=h5 }:=I.call' x.os un5 ok5 x.bare (fun b z=>absurd z (by simp));have I5m:=Ab I5 e;refine wpAny_handleBy_cons (codeAny_handlers_test (fW (X:=Cx.mk X e) I5m hg hm ?_ hdb)) (by intro q;cases q);have hE:nD h5 e C:=by obtain⟨oe,vs,he,hc,hd,_⟩:=fl5.first;exact⟨oe,vs,he,hc,hd⟩
 have kb:∀b o,X.base.get? b=some o->h5.get? b=some o:=fun b o q=>fl5.1 b o (st b o q);refine Ix (hC.keeps kb) (hR.keeps kb) hE ?_;refine codeAny_handlers_suite_as ?_;refine lands_againW fl5 fun h6 fl6 sm6=>?_;obtain⟨un6,ok6⟩:=x.got flS fl6 ((sm4.trans sm5).trans sm6);have I6:L2.Inv X pins σ (upd H' e (exO e C)) { s' with heap:=h6 }:=I.call' x.os un6 ok6 x.bare (fun b z=>absurd z (by simp));refine ci (X:=Cx.mk X e) (Ab I6 e) hN hi (.inl hl) (show aF (.ref e) (.ref e) from rfl) (fun s7 I7=>?_) (.inr hl);refine Uo (hb s7 I7) (fun f s8 ⟨u,v,σ8,H8,hf,I8,rv,q⟩=>?_) fun _ _ z=>z.elim;subst hf;exact Dp (Iy I.ok I8) hN hi hl fun s9 I9=>⟨v,_,H8,I9,rv,q⟩
end
structure CtxOk(T:Tab)(C:Calls)(ar:Nat->Nat)(k:Nat)(b:Blk)(X:Cx):Prop where
 calm:X.calm=true
 xe:X.xe=fun _ _=>False
 hN:X.N=b.N
 hs:X.env.scope=b.sc
 nd:b.N.Nodup
 fn:∀x,(match b.fs with |none=>true |some sc=>sc.names.lookup x == some .cell)=true->X.fn x=true
 room:Room k X.A
 con:∀ (i:Nat) (x:Str) (v:Int),T.con[i]?=some (x,v)->∃tk,X.mg x=some (.int v tk)
 bl:∀x,x ∈ fu->X.mg x=none
 fns:∀ (i:Nat) (y:Str × Nat),T.fns[i]?=some y->ar i=y.2/\∃f fd ps,X.mg y.1=some (.ref f)/\Vb X.K (.ref f)=true/\eR X.K fd ps []/\FnOk X.prog X.w X.K X.mg X.base (CXE X.prog X.w) k f fd ps (spC X.K (C i) (ar i))
section
variable {T:Tab} {C:Calls} {ar:Nat->Nat} {k:Nat} {b:Blk} {X:Cx}
theorem aj{e:Expr}{es:List Expr}{env:Env}(h:aG e=true):VZ (e::es) env=(false,eval e env)::VZ es env:=by
 cases e <;> first |rfl |(exact absurd h Zd)
theorem lu{e:Expr}(h:aG e=true):uK e:=by
 intro o i;cases e <;> first |rfl |(exact absurd h Zd)
theorem eD{e:Expr}{op:CmpOp}(h:aG e=true):Vq op e=false:=by
 cases e <;> first |rfl |(exact absurd h Zd)
theorem lv{e f:Expr}{op op':CmpOp}(h:aG e=true):lastMarks [op,op'] [f,e]=false:=by
 show Vq op' e=false;exact eD h
theorem eF{e:Expr}{env:Env}(h:aG e=true):∀x,VE e env x=pure x:=by
 intro x;cases e <;> first |rfl |(exact absurd h Zd)
theorem b8{e:Expr}{m:Str}{env:Env}{w:Sem Value}(h:tM e=true):attributeBase e m env w=w:=by
 cases e with
 |Call f as ks p=>
  cases f with
  |Name x q=>
   cases as with
   |nil=>cases ks with |nil=>exact absurd h Zd |cons _ _=>rfl
   |cons _ _=>rfl
  |_=>rfl
 |_=>first |rfl |(exact absurd h Zd)
theorem lw{e:Expr}{env:Env}(h:Dg e=true):∀whole,isTrue e env whole=(do let v <-whole;standAt e.pos;holding [v] (truthy v)):=by
 intro whole;cases e with
 |UnaryOp op x p=>cases op <;> first |rfl |(exact absurd h Zd)
 |_=>first |rfl |(exact absurd h Zd)
theorem dR{es:List Expr}{env:Env}{pos:Pos}(h:∀e ∈ es,aG e=true):(backTo pos (VZ es env)).any (·.1)=false:=by
 induction es with
 |nil=>rfl
 |cons e es ih=>
  rw[aj (h e Zi)];show(false || (backTo pos (VZ es env)).any (·.1))=false;rw[ih fun e he=>h e (Zg _ he)];rfl
theorem aS:∀ {n:Nat} {es:List Expr} {cs:List CE},dQ T n b es cs=true->∀e ∈ es,aG e=true
 |0,_,_,h=>absurd h Zd
 |n+1,es,[],h=>fun x hx=>by rw[cp h] at hx;cases hx
 |n+1,es,c::cs,h=>by
  obtain⟨e,es,rfl,h⟩:=bO h;obtain⟨_,h1,h⟩:=an3 h;intro x hx;rcases Zm.mp hx with rfl |hx
  ·exact h1
  ·exact aS h x hx
theorem CtxOk.gl(G:CtxOk T C ar k b X){x:Str}(h:b.glo x=true):Gl X x/\(x == ("__debug__" : Str))=false:=by
 unfold Blk.glo at h;rw[bAE] at h;refine⟨?_,by simpa using h.2⟩;show X.env.scope.names.lookup x=_;rw[G.hs]
 simpa using h.1
theorem CtxOk.vis(G:CtxOk T C ar k b X){x:Str}(h:b.vis x=true):Vis X.env.scope x/\(x == ("__debug__" : Str))=false/\(x == ("__classdict__" : Str))=false:=by
 unfold Blk.vis at h;rw[bAE,bAE] at h;refine⟨?_,by simpa using h.1.2,by simpa using h.2⟩;unfold Vis;rw[G.hs];have h1:=h.1.1;split at h1
 ·rename_i e;exact .inl e
 ·rename_i e;exact .inr (.inl e)
 ·rename_i e;exact .inr (.inr e)
 ·cases h1
theorem CtxOk.own(G:CtxOk T C ar k b X){x:Str}(h:b.own x=true):L2.Loc X.env.scope x/\(X.fn x=true\/X.env.scope.names.lookup x=some .local):=by
 unfold Blk.own at h;unfold L2.Loc;rw[G.hs];split at h
 ·rename_i e;exact⟨.inl e,.inr e⟩
 ·rename_i e;refine⟨.inr e,.inl (G.fn x ?_)⟩;cases hf:b.fs with
  |none=>rfl
  |some sc=>rw[hf] at h;exact h
 ·cases h
theorem CtxOk.inner(G:CtxOk T C ar k b X){own:List Str}{scope:Scope}(S:CmScope own (lg own b.N) b.N scope b.sc){C':Addr}{ex:List Addr}{s:Shared}{H:Hp}:CtxOk T C ar k (b.inner own scope) (cxC X own (lg own b.N) scope C' ex s H):=
 ⟨G.calm,rfl,by show cP (lg own b.N) X.N++own=_;rw[G.hN];rfl,by show fh scope X.env.scope=_;rw[G.hs];rfl,S.nd,fun x h=>h,G.room,G.con,G.bl,G.fns⟩
theorem nJ{e:Expr}{es:List Expr}{env:Env}(h:aG e=true):Vo (e::es) env=(false,assign e env)::Vo es env:=by
 cases e <;> first |rfl |(exact absurd h Zd)
mutual
theorem gg(G:CtxOk T C ar k b X):∀ {e:Expr} {t:Tg},tN b e t=true->PG X e (tTg X.K t)
 |e,.name i,h=>by
  obtain⟨r,hx,h⟩:=jW h;obtain⟨h1,h2⟩:=an2 h;rw[pC hx];have o:=G.own h2;exact PG.imp (uB (i:=i) (x:=r.1) (by rw[G.hN];exact G.nd) (by rw[G.hN];exact eq_of_beq h1) o.1 o.2) fun x σ H Q q=>pw q
 |e,.tup ts,h=>by
  obtain⟨r,hx,h⟩:=jW h;rw[ie hx];have hl:=nK h;exact PG.imp (yo G.calm (qW G h) rfl hl.2) fun x σ H Q q=>Ic hl.1 q
theorem qW(G:CtxOk T C ar k b X):∀ {es:List Expr} {ts:List Tg},lh b es ts=true->PGs X es (zv X.K ts)
 |es,[],h=>by
  rw[cp h];exact PGs.imp uD fun x σ H Q q=>C5 q
 |es,t::ts,h=>by
  obtain⟨e,es,rfl,h⟩:=bO h;obtain⟨h1,h2,h⟩:=an3 h;exact PGs.imp (km (gg G h1) (qW G h) (by rw[nJ h2];rfl)) fun x σ H Q q=>zw q
theorem nK:∀ {es:List Expr} {ts:List Tg},lh b es ts=true->(Vo es X.env).length=ts.length/\(Vo es X.env).findIdx? (·.1)=none
 |es,[],h=>by
  rw[cp h];exact⟨rfl,rfl⟩
 |es,t::ts,h=>by
  obtain⟨e,es,rfl,h⟩:=bO h;obtain⟨h1,h2,h⟩:=an3 h;have ih:=nK h;rw[nJ h2];refine⟨congrArg (·+1) ih.1,?_⟩;rw[List.findIdx?_cons];simp[ih.2]
end
end
structure Snd(T:Tab)(C:Calls)(ar:Nat->Nat)(k n:Nat):Prop where
 e:∀ (b:Blk) (X:Cx) (e:Expr) (c:CE),CtxOk T C ar k b X->aE T n b e c=true->PE X e (tE X.K (evE C ar n c))
 tm:∀ (b:Blk) (X:Cx) (e:Expr) (c:CE),CtxOk T C ar k b X->ai c=true->aE T n b e c=true->PE X e (ek X.K (cw C ar n c))
 a:∀ (b:Blk) (X:Cx) (es:List Expr) (cs:List CE),CtxOk T C ar k b X->dQ T n b es cs=true->PA X es (tAr X.K (evA C ar n cs))
 t:∀ (b:Blk) (X:Cx) (e:Expr) (c:CE),CtxOk T C ar k b X->fb T n b e c=true->PT X e (tT X.K (evT C ar n c))
 i:∀ (B:List Addr) (b:Blk) (X:Cx) (t e:Expr) (c:CI),CtxOk T C ar k b X->qS T n b t e c=true->PI X t e (tIt X.K B (evI C ar n c))
 cl:∀ (b:Blk) (X:Cx) (e:Expr) (gs:List Wr) (elt:CE) (cls:List Cl),CtxOk T C ar k b X->nB T n b e gs elt cls=true ->
  ∀ (gens:List Wr) (scope:Scope) (pos:Pos) (acc:Addr) (d:Nat),gens.drop (d+1)=gs->PTl X e gens scope pos acc d (tCl X.K acc (gw C ar n elt cls))
section
variable {T:Tab} {C:Calls} {ar:Nat->Nat} {k n:Nat} {b:Blk} {X:Cx}
theorem cr{e:Expr}{es:List Expr}{te:TE}{t:TA}(ha:PE X e te)(hr:PA X es t)(hp:aG e=true):PA X (e::es) (cY te t):=Cf ha hr (aj hp)
theorem MB(ih:Snd T C ar k n)(es:List Expr)(cs:List CE)(G:CtxOk T C ar k b X)(h:dQ T (n+1) b es cs=true):PA X es (tAr X.K (evA C ar (n+1) cs)):=by
 cases cs with
 |nil=>rw[cp h];exact PA.imp oH fun σ H Q q=>HD q
 |cons c cs=>
  obtain⟨e,es,rfl,h⟩:=bO h;obtain⟨h1,h2,h⟩:=an3 h;exact PA.imp (cr (ih.e b X e c G h1) (ih.a b X es cs G h) h2) fun σ H Q q=>CM q
theorem bI{e:Expr}{te:TE}(h:PE X e te)(hp:aG e=true):PA X [e] (cY te kr):=cr h oH hp
theorem eG{x:Str}{id:String}{e:Expr}{te:TE}{r:V->Hp->VK->Prop}{p pos:Pos}(hc:aM X (.builtin id) (r1 r))(G:CtxOk T C ar k b X)(hg:b.glo x=true)(hb:x ∈ fu)(hv:Vt x=some (.builtin id))(hn:x ≠ "__name__")(h:PE X e te)(hp:aG e=true) :
  PE X (.Call (.Name x p) [e] [] pos) (tUn r te):=
 PE.imp (dH hc (G.gl hg).1 (G.bl x hb) hv (bI h hp) hn (G.gl hg).2 (aj hp) rfl) fun σ H Q q=>q
theorem j7{x:Str}{id:String}{e:Expr}{te:TE}{r:V->Hp->VK->Prop}{p pos:Pos}(hc:aM X (.type id) (r1 r))(G:CtxOk T C ar k b X)(hg:b.glo x=true)(hb:x ∈ fu)(hv:Vt x=some (.type id))(hn:x ≠ "__name__")(h:PE X e te)(hp:aG e=true) :
  PE X (.Call (.Name x p) [e] [] pos) (tUn r te):=
 PE.imp (iK hc (G.gl hg).1 (G.bl x hb) hv (bI h hp) hn (G.gl hg).2 (aj hp) rfl) fun σ H Q q=>q
theorem ly{x:Str}{e:Expr}{a:CE}{f:Bool->List D->Sto->Option (D × Sto)}{ks:List Keyword}{p pos:Pos}(ih:Snd T C ar k n)(G:CtxOk T C ar k b X)(hq:∀te:TE,PE X e te->PE X (.Call (.Name x p) [e] ks pos) (tUn (rSq X.K f) te))(h:aE T n b e a=true) :
  PE X (.Call (.Name x p) [e] ks pos) (tE X.K (if ai a=true then qz f (cw C ar n a) else qA f (evE C ar n a))):=by
 split
 ·rename_i ht;exact PE.imp (hq _ (ih.tm b X e a G ht h)) fun σ H Q q=>HB q
 ·exact PE.imp (hq _ (ih.e b X e a G h)) fun σ H Q q=>HF q
theorem j8{x y:Str}(h:(x == y)=true):x=y:=eq_of_beq h
theorem pH{K:W0}{x:XE}{σ:L2.St}{H:Hp}{Q Q':VK}(h:tE K x σ H Q)(f:∀v H',Q v H'->Q' v H'):tE K x σ H Q':=by
 obtain⟨m,ρ,S,d,S',E,R,e,q⟩:=h;exact⟨m,ρ,S,d,S',E,R,e,fun m' H' v A vd=>f _ _ (q m' H' v A vd)⟩
theorem Ac{x:XE}{σ:L2.St}{H:Hp}{Q:VK}{K:W0}(h:ek K (kZ x) σ H Q):tUn (rTm K fun _ ds=>some ds) (tE K x) σ H Q:=by
 obtain⟨m,ρ,S,ds,S',E,R,e,q⟩:=h;obtain⟨d,S1,e1,e⟩:=af e;cases hi:al d S1 with
 |none=>rw[hi] at e;cases e
 |some r=>
  rw[hi] at e;cases e;refine⟨m,ρ,S,d,_,E,R,e1,fun m1 H1 v A1 vd=>?_⟩;obtain⟨a,vs,ev,sq,vds⟩:=dJ (tu:=r.1) (ds:=r.2) A1.rel vd hi;refine⟨m1,_,r.1,r.2,a,vs,r.2,A1.rel,ev,sq,vds,rfl,fun m2 H2 p ws A2 hp n1 n2 n3 vw=>?_⟩
  have hn:H p=none:=by
   cases eh:H p with
   |none=>rfl
   |some o=>
    by_cases hm:p ∈ m
    ·exact absurd rfl (n2 p (A1.ext.pre.subset hm))
    ·have:=A1.ext.keep p o eh hm;rw[n3] at this;cases this
  exact q m2 H2 p ws (A1.trans A2) hp n1 (fun b hb=>n2 b (A1.ext.pre.subset hb)) hn vw
theorem Ad{x:XA}{σ:L2.St}{H:Hp}{Q:VK}{K:W0}(h:ek K x σ H Q):tUn (rTm K fun _ ds=>some ds) (ek K x) σ H Q:=by
 obtain⟨m,ρ,S,ds,S',E,R,e,q⟩:=h;refine⟨m,ρ,S,ds,S',E,R,e,fun m1 H1 a vs A1 ha na _ _ vd=>?_⟩;refine⟨m1,_,false,ds,a,vs,ds,A1.rel,rfl,show SqL K H1 a vs from SqL.of ha,vd,rfl,fun m2 H2 p ws A2 hp n1 n2 n3 vw=>?_⟩
 have hn:H p=none:=by
  cases eh:H p with
  |none=>rfl
  |some o=>
   by_cases hm:p ∈ m
   ·exact absurd rfl (n2 p (A1.ext.pre.subset hm))
   ·have:=A1.ext.keep p o eh hm;rw[n3] at this;cases this
 exact q m2 H2 p ws (A1.trans A2) hp n1 (fun b hb=>n2 b (A1.ext.pre.subset hb)) hn vw
noncomputable def ifT(C:Calls)(ar:Nat->Nat)(n:Nat)(K:W0):Option CE->TT
 |none=>Cr
 |some c=>tT K (evT C ar n c)
theorem lB(ih:Snd T C ar k n)(G:CtxOk T C ar k b X){ifs:List Expr}{cond:Option CE}(h:z7 (fb T n b) ifs cond=true):PTs X ifs (ifT C ar n X.K cond):=by
 cases cond with
 |none=>rw[cp h];exact Cs
 |some c=>obtain⟨e,rfl,h⟩:=cx h;exact Ct (ih.t b X e c G h)
theorem tV{K:W0}{cond:Option CE}{acc:Addr}{c:XA}{D:Ends}{σ:L2.St}{H:Hp}(q:tCl K acc (cnd (evT C ar n) cond c) D σ H):eS (ifT C ar n K cond) (tCl K acc c) D σ H:=by
 cases cond with
 |none=>exact Ik q
 |some c=>exact Dc q
theorem qX(ih:Snd T C ar k n)(G:CtxOk T C ar k b X){l:Option Expr}{lo:Option CE}(h:z6 (aE T n b) l lo=true):PO X l (tOI X.K (opt (evE C ar n) lo)):=by
 cases lo with
 |none=>
  cases l with
  |none=>exact PO.imp Ch fun σ H Q q=>CU q
  |some _=>cases h
 |some c=>obtain⟨e,rfl,h⟩:=jW h;exact PO.imp (Ci (ih.e b X e c G h)) fun σ H Q q=>CV q
theorem Iz(ih:Snd T C ar k n)(e:Expr)(gs:List Wr)(elt:CE)(cls:List Cl)(G:CtxOk T C ar k b X)(h:nB T (n+1) b e gs elt cls=true)(gens:List Wr)(scope:Scope)(pos:Pos)(acc:Addr)(d:Nat)(hd:gens.drop (d+1)=gs) :
  PTl X e gens scope pos acc d (tCl X.K acc (gw C ar (n+1) elt cls)):=by
 have imp:∀ {t t':TS},PTl X e gens scope pos acc d t->(∀D σ H,t' D σ H->t D σ H)->PTl X e gens scope pos acc d t':=fun h f pins s σ H D I q=>h pins s σ H D I (f D σ H q);cases cls with
 |nil=>
  obtain⟨h0,h⟩:=an2 h;cases cp h0
  have hn:gens[d+1]?=none:=by
   have:=congrArg Zb hd;simp at this;exact Yk.mpr (by omega)
  exact imp (yI G.xe hn (ih.e b X e elt G h)) fun D σ H q=>Db q
 |cons g rest=>
  obtain⟨tg,it,cond⟩:=g;obtain⟨⟨t,i,ifs,as⟩,gs',rfl,h⟩:=bO h;obtain⟨h0,h1,h2,h3,h4⟩:=an5 h;cases of_decide_eq_true h0
  have hn:gens[d+1]?=some ⟨t,i,ifs,0⟩:=by
   have:=congrArg (·[0]?) hd
   simpa using this
  have hd':gens.drop (d+1+1)=gs':=by
   have:=congrArg (Z5 1) hd
   simpa[List.drop_drop] using this
  have hpl:=gf h1 (fun e he env=>eF he) X.env;exact imp (Cu hn (ih.i [acc] b X t i it G h1) (gg G h2) (lB ih G h3) (ih.cl b X e gs' elt rest G h4 gens scope pos acc (d+1) hd') G.xe G.calm hpl) fun D σ H q=>zD (fun D σ H z=>tV z) q
theorem MC(ih:Snd T C ar k n)(B:List Addr)(t e:Expr)(c:CI)(G:CtxOk T C ar k b X)(h:qS T (n+1) b t e c=true):PI X t e (tIt X.K B (evI C ar (n+1) c)):=by
 cases c with
 |val a=>
  have h:=an2 h;show PI X t _ (tIt X.K B (if ai a=true then xIT (cw C ar n a) else xIV (evE C ar n a)));split
  ·rename_i ht;exact PI.imp (uE (ih.tm b X _ a G ht h.1)) fun σ H R q=>OV q
  ·exact PI.imp (PI.or (uE (ih.e b X _ a G h.1)) (G2 (ih.e b X _ a G h.1))) fun σ H R q=>OU q
 |r1 a=>
  obtain⟨x,p,q,rfl,h2,h3,h4⟩:=aR h;exact PI.imp (wb (G.gl h2).1 (G.bl _ (by decide)) (bI (ih.e b X x a G h3) h4) (aj h4)) fun σ H R q=>Mq q
 |r2 a c=>
  obtain⟨x,y,p,q,rfl,h2,h3,h4,h5,h6⟩:=dP h;exact PI.imp (wc (G.gl h2).1 (G.bl _ (by decide)) (cr (ih.e b X x a G h3) (bI (ih.e b X y c G h5) h6) h4) (by rw[aj h4,aj h6];rfl) (aj h6)) fun σ H R q=>Mr q
 |en a=>
  have h:=an2 h;obtain⟨x,p,q,rfl,h2,h3,h4⟩:=aR h.1;obtain⟨elts,x1,tp,rfl,_⟩:=zZ h.2;show PI X _ _ (tIt X.K B (if ai a=true then xET (cw C ar n a) else xEV (evE C ar n a)));split
  ·rename_i ht;exact PI.imp (yR (G.gl h2).1 (G.bl _ (by decide)) (bI (ih.tm b X x a G ht h3) h4) (aj h4)) fun σ H R q=>Mp q
  ·exact PI.imp (PI.or (yR (G.gl h2).1 (G.bl _ (by decide)) (bI (ih.e b X x a G h3) h4) (aj h4)) (Ht (G.gl h2).1 (G.bl _ (by decide)) (bI (ih.e b X x a G h3) h4) (aj h4))) fun σ H R q=>Mo q
end
section
variable {T:Tab} {C:Calls} {ar:Nat->Nat} {k n:Nat} {b:Blk} {X:Cx}
theorem qY{k:Nat}{A:Around}(r:Room k A):A.units+64 < cLine:=r.units
theorem ig(K:W0)(m:List Addr)(H:Hp):∀l:List Nat,VDs K m H (l.map fun j=>D.int (Int.ofNat j)) (l.map fun(j:Nat)=>V.int j)
 |[]=>by rw[Z9,Z9,VDs]
 |a::l=>by rw[Zx,Zx,VDs];exact⟨_,_,rfl,bh,ig K m H l⟩
theorem ux{H:Hp}{p:Addr}{x y:HO}:upd (upd H p x) p y=upd H p y:=by
 funext b
 unfold upd;split <;> rfl
theorem Rel.adoptO{K:W0}{m:List Addr}{S:Sto}{H:Hp}{a:Addr}(R:Rel K m S H)(n:a ∉ m){ob:Ob}(h:ObR K (m++[a]) H a ob):Rel K (m++[a]) (S++[ob]) H:=by
 have p:=Yv m [a];have g:∀ {es:List D} {ws:List V},VDs K m H es ws->VDs K (m++[a]) H es ws:=fun z=>VDs.mono0 p (fun _ _ t=>t) z;refine⟨by simp[R.len],XD.mpr ⟨R.nd,by simp,fun x hx y hy=>by simp at hy;subst hy;exact fun z=>n (z ▸ hx)⟩,fun i o e=>?_⟩;by_cases hi:i < S.length
 ·rw[Zw hi] at e;obtain⟨b,hb,r⟩:=R.ob i o e;refine⟨b,jX p hb,?_⟩;cases o with
  |lst ds=>obtain⟨vs,p,q⟩:=r;exact⟨vs,p,g q⟩
  |frz ds=>obtain⟨o,vs,p,q⟩:=r;exact⟨o,vs,p,g q⟩
  |dic ks ds=>obtain⟨vs,p,l,q⟩:=r;exact⟨vs,p,l,g q⟩
 ·rw[Zt (by lia)] at e
  have hz:i - S.length=0:=by
   have:=(Zc.mp e).1;simp at this;lia
  rw[hz] at e;have e':ob=o:=by simpa using e
  subst e';refine⟨a,?_,h⟩;rw[Zt (by rw[R.len];lia),R.len,hz];rfl
theorem vk{K:W0}{m:List Addr}{H:Hp}{S:Sto}{p:Addr}{ks:List Key}{ds:List D}{vs:List V}{Q:VK}(R:Rel K m S H)(hp:H p=none)(vd:VDs K m H ds vs)(hl:ks.length=ds.length)(q:∀m' H' u,Aft K m H (S++[.dic ks ds]) m' H'->VD K m' H' (.ref S.length) u->Q u H'):Q (.ref p) (upd H p (.dK (ks.zip vs))):=by
 have x:=Ext.beside R hp (.dK (ks.zip vs));have R1:=R.beside hp (.dK (ks.zip vs));refine q (m++[p]) _ _ ⟨x.adopt hp,?_⟩ ?_
 ·exact R1.adoptO (R.no hp) (ob:=.dic ks ds) ⟨vs,aH,hl,VDs.mono0 (Yv m [p]) (fun _ _ t=>t) (vd.mono R x)⟩
 ·rw[VD];exact⟨p,by rw[Zt (by rw[R.len];exact Ze _),R.len,Yw];rfl,rfl⟩
theorem pJ{es:List Expr}{a:CE}(h:dQ T n b es [a]=true):∃y,es=[y]:=by
 cases n with
 |zero=>exact absurd h Zd
 |succ n=>
  obtain⟨e,es,rfl,h⟩:=bO h;have h:=(an2 h).2;cases n with
  |zero=>exact absurd h Zd
  |succ n=>cases cp h;exact⟨e,rfl⟩
theorem Dt(ih:Snd T C ar k n){own:List Str}{elt:CE}{tg:Tg}{it:CI}{cond:Option CE}{rest:List Cl}{e t i:Expr}{ifs:List Expr}{gs:List Wr}{scope:Scope}{pos:Pos}(G:CtxOk T C ar k b X)
  (h0:cmB own (lg own b.N) b.N scope b.sc=true) (h1:qS T n b t i it=true) (h2:tN (b.inner own scope) t tg=true) (h3:z7 (fb T n (b.inner own scope)) ifs cond=true) (h4:nB T n (b.inner own scope) e gs elt rest=true) :
  PE X (.ListComp e (⟨t,i,ifs,0⟩::gs) scope pos) (ek X.K (kY own.length (evI C ar n it) tg (cnd (evT C ar n) cond (gw C ar n elt rest)) LF)):=by
 have S:CmScope own (lg own b.N) b.N scope b.sc:=yS _ h0;have S':CmScope own (lg own b.N) X.N scope X.env.scope:=by rw[G.hN,G.hs];exact S
 have hpl:=gf h1 (fun e he env=>eF he) X.env
 refine PE.imp (Cv (g:=tTg X.K tg) (ti:=ifT C ar n X.K cond) (t:=fun acc=>tCl X.K acc (gw C ar n elt rest)) G.calm S' (ih.i [] b X t i it G h1) (fun C' ex s H=>gg (G.inner S (C':=C') (ex:=ex) (s:=s) (H:=H)) h2) (fun C' ex s H=>lB ih (G.inner S (C':=C') (ex:=ex) (s:=s) (H:=H)) h3)
  (fun C' ex s H acc=>ih.cl _ _ e gs elt rest (G.inner S (C':=C') (ex:=ex) (s:=s) (H:=H)) h4 _ scope pos acc 0 rfl) hpl) fun σ H Q q=>?_
 exact uY (fun acc D σ H z=>tV z) q
theorem IA{x:XE}{σ:L2.St}{H:Hp}{Q:VK}{K:W0}(h:ek K (xo x) σ H Q):tE K x σ H fun v H1=>∃i:Nat,v = .int i/\i<=1000/\∀p,H1 p=none->∀l,upd H1 p (.rng 0 i) l=none->Q (.ref l) (upd (upd H1 p (.rng 0 i)) l (.lst ((Zj i).map fun(j:Nat)=>V.int j))):=by
 obtain⟨m,ρ,S,ds,S',E,R,e,q⟩:=h;obtain⟨d,S1,e1,e⟩:=af e;cases d with
 |int i=>
  dsimp only at e;split at e
  ·rename_i hi;cases e;refine⟨m,ρ,S,.int i,_,E,R,e1,fun m1 H1 v A1 vd=>⟨i.toNat,by rw[vd.ints];congr 1;lia,by lia,fun p hp l hl=>?_⟩⟩;have A2:Aft K m1 H1 S' m1 (upd H1 p (.rng 0 i.toNat)):=⟨Ext.beside A1.rel hp _,A1.rel.beside hp _⟩;have A3:Aft K m1 (upd H1 p (.rng 0 i.toNat)) S' m1 (upd (upd H1 p (.rng 0 i.toNat)) l (.lst ((Zj i.toNat).map fun(j:Nat)=>V.int j))):=⟨Ext.beside A2.rel hl _,A2.rel.beside hl _⟩;have nl:l ∉ m1:=A2.rel.no hl
   have n1:H1 l=none:=by
    cases hh:H1 l with
    |none=>rfl
    |some o=>rw[(Ext.beside A1.rel hp (.rng 0 i.toNat)).keep l o hh nl] at hl;cases hl
   have nH:H l=none:=by
    cases hh:H l with
    |none=>rfl
    |some o=>
     by_cases hm:l ∈ m
     ·exact absurd (A1.ext.pre.subset hm) nl
     ·rw[A1.ext.keep l o hh hm] at n1;cases n1
   refine q m1 _ l _ (A1.trans (A2.trans A3)) aH nl (fun b hb z=>nl (z ▸ A1.ext.pre.subset hb)) nH ?_;exact ig _ _ _ _
  ·cases e
 |_=>cases e
theorem Du{σ:L2.St}{H:Hp}{Q:VK}{K:W0}(h:tE K zK σ H Q):yM σ H Q:=by
 obtain⟨m,ρ,S,d,S',E,R,e,q⟩:=h;cases e;exact fun p hp=>vk R hp (show VDs K m H [] [] by rw[VDs]) rfl q
theorem Dv{σ:L2.St}{H:Hp}{Q:VK}{K:W0}{i j:Int}(h:tE K (zL i j) σ H Q):yP [(tC (.int i),tC (.int j))] σ H Q:=by
 obtain⟨m,ρ,S,d,S',E,R,e,q⟩:=h;cases e;intro p hp;refine⟨aH,[(mM i,.int j)],rfl,by simp,?_⟩;rw[ux];exact vk R hp (ks:=[mM i]) (vs:=[.int j]) (show VDs K m H [.int j] [.int j] by rw[VDs];exact⟨_,_,rfl,bh,by rw[VDs]⟩) rfl q
theorem IB{f:Bool->List D->Option (List D)}{x:XE}{σ:L2.St}{H:Hp}{Q:VK}{K:W0}(h:ek K (xn f x) σ H Q):tUn (rTm K f) (tE K x) σ H Q:=by
 obtain⟨m,ρ,S,ds,S',E,R,e,q⟩:=h;obtain⟨d,S1,e1,e⟩:=af e;cases hi:al d S1 with
 |none=>rw[hi] at e;cases e
 |some r=>
  rw[hi] at e;dsimp only at e;cases hf:f r.1 r.2 with
  |none=>rw[hf] at e;cases e
  |some es=>
  rw[hf] at e;cases e;refine⟨m,ρ,S,d,_,E,R,e1,fun m1 H1 v A1 vd=>?_⟩;obtain⟨a,vs,ev,sq,vds⟩:=dJ (tu:=r.1) (ds:=r.2) A1.rel vd hi;refine⟨m1,_,r.1,r.2,a,vs,ds,A1.rel,ev,sq,vds,hf,fun m2 H2 p ws A2 hp n1 n2 n3 vw=>?_⟩
  have hn:H p=none:=by
   cases eh:H p with
   |none=>rfl
   |some o=>
    by_cases hm:p ∈ m
    ·exact absurd rfl (n2 p (A1.ext.pre.subset hm))
    ·have:=A1.ext.keep p o eh hm;rw[n3] at this;cases this
  exact q m2 H2 p ws (A1.trans A2) hp n1 (fun b hb=>n2 b (A1.ext.pre.subset hb)) hn vw
theorem IC{f:Bool->List D->Option (List D)}{x:XA}{σ:L2.St}{H:Hp}{Q:VK}{K:W0}(h:ek K (xm f x) σ H Q):tUn (rTm K f) (ek K x) σ H Q:=by
 obtain⟨m,ρ,S,es,S',E,R,e,q⟩:=h;obtain⟨ds,S1,e1,e⟩:=af e;cases hf:f false ds with
 |none=>rw[hf] at e;cases e
 |some es'=>
 rw[hf] at e;cases e;refine⟨m,ρ,S,ds,_,E,R,e1,fun m1 H1 a vs A1 ha na _ _ vd=>?_⟩;refine⟨m1,_,false,ds,a,vs,es,A1.rel,rfl,show SqL K H1 a vs from SqL.of ha,vd,hf,fun m2 H2 p ws A2 hp n1 n2 n3 vw=>?_⟩
 have hn:H p=none:=by
  cases eh:H p with
  |none=>rfl
  |some o=>
   by_cases hm:p ∈ m
   ·exact absurd rfl (n2 p (A1.ext.pre.subset hm))
   ·have:=A1.ext.keep p o eh hm;rw[n3] at this;cases this
 exact q m2 H2 p ws (A1.trans A2) hp n1 (fun b hb=>n2 b (A1.ext.pre.subset hb)) hn vw
theorem Ae(ih:Snd T C ar k n)(e:Expr)(c:CE)(G:CtxOk T C ar k b X)(ht:ai c=true)(h:aE T (n+1) b e c=true):PE X e (ek X.K (cw C ar (n+1) c)):=by
 cases c with
 |lst cs=>
  obtain⟨es,p,rfl,hh⟩:=lp h;exact PE.imp (ku (ih.a b X es cs G hh)) fun σ H Q q=>CN q
 |listOf a=>
  obtain⟨x,p,q,rfl,h2,h3,h4⟩:=aR h;show PE X _ (ek X.K (if ai a=true then cw C ar n a else kZ (evE C ar n a)));split
  ·rename_i ht;exact PE.imp (j7 kN G h2 (by decide) Wj (by decide) (ih.tm b X x a G ht h3) h4) fun σ H Q q=>Ad q
  ·exact PE.imp (j7 kN G h2 (by decide) Wj (by decide) (ih.e b X x a G h3) h4) fun σ H Q q=>Ac q
 |listR a=>
  obtain⟨x,p,q,rfl,h2,h3,h4⟩:=aR h;obtain⟨y,p',q',rfl,h5,h6,h7⟩:=aR h3
  exact PE.imp (iK (oU G.calm) (G.gl h2).1 (G.bl _ (by decide)) Wj (bI (iK qr (G.gl h5).1 (G.bl _ (by decide)) PyProof.Rows.boot_range (bI (ih.e b X y a G h6) h7) (by decide) (G.gl h5).2 (aj h7) rfl) h4) (by decide) (G.gl h2).2 (aj h4) rfl) fun σ H Q q=>pH (IA q) fun v H1 ⟨i,ev,hi,z⟩=>by
    subst ev;exact⟨i,rfl,fun p hp=>⟨p,i,rfl,aH,hi,fun l hl=>z p hp l hl⟩⟩
 |srt a=>
  obtain⟨x,p,q,rfl,h2,h3,h4⟩:=aR h;show PE X _ (ek X.K (if ai a=true then xm cI (cw C ar n a) else xn cI (evE C ar n a)));split
  ·rename_i ht;exact PE.imp (eG nu G h2 (by decide) Wl (by decide) (ih.tm b X x a G ht h3) h4) fun σ H Q q=>IC (f:=cI) q
  ·exact PE.imp (eG nu G h2 (by decide) Wl (by decide) (ih.e b X x a G h3) h4) fun σ H Q q=>IB (f:=cI) q
 |comp own elt cls=>
  obtain⟨tg,it,cond,rest,rfl,hc⟩:=Gd h;obtain⟨el,t,i,ifs,gs,scope,p,rfl,hh⟩:=vh hc;obtain⟨h0,h1,h2,h3,h4⟩:=an5 hh;exact Dt ih G h0 h1 h2 h3 h4
 |_=>cases ht
theorem ij{y:Expr}{pos:Pos}(h:aG y=true):((backTo pos (VZ [y] X.env)).all (fun x=>!x.1) && (backToKw pos (keywordEach [] X.env)).all (fun x=>x.1.isSome) && decide (([y]:List Expr).length+([]:List Keyword).length+(if ([]:List Keyword).isEmpty then 0 else 1) < 30))=true:=by
 rw[aj h];rfl
theorem IE{es:List Expr}{a c:CE}(h:dQ T n b es [a,c]=true):∃y z,es=[y,z]:=by
 cases n with
 |zero=>exact absurd h Zd
 |succ n=>
  obtain⟨e,es,rfl,h⟩:=bO h;obtain⟨z,rfl⟩:=pJ (an2 h).2;exact⟨e,z,rfl⟩
theorem MD(ih:Snd T C ar k n)(e:Expr)(c:CE)(G:CtxOk T C ar k b X)(h:aE T (n+1) b e c=true):PE X e (tE X.K (evE C ar (n+1) c)):=by
 have hu:=qY G.room
 have tmp:ai c=true->evE C ar (n+1) c=dm (cw C ar (n+1) c)->PE X e (tE X.K (evE C ar (n+1) c)):=fun ht he=>by
  rw[he];exact PE.imp (Ae ih e c G ht h) fun σ H Q q=>qB q
 cases c with
 |non=>obtain⟨_,_,rfl⟩:=Iu h;exact PE.imp GS fun σ H Q q=>zc (fun _ _=>kI) q
 |bl v=>obtain⟨_,_,rfl⟩:=zY h;exact PE.imp yg fun σ H Q q=>zc (fun _ _=>bE) q
 |int v=>obtain⟨_,_,rfl⟩:=pE h;exact PE.imp oE fun σ H Q q=>zc (fun _ _=>bh) q
 |str v=>obtain⟨_,_,rfl⟩:=tP h;exact PE.imp oG fun σ H Q q=>zc (fun _ _=>kJ) q
 |var i=>
  obtain⟨x,p,rfl,hh⟩:=cK h;have hh:=an2 hh;have v:=G.vis hh.2;exact PE.imp (rZ (i:=i) (by rw[G.hN];exact eq_of_beq hh.1) v.1 v.2.1 v.2.2) fun σ H Q q=>HC q
 |con k' v=>
  obtain⟨x,p,rfl,hh⟩:=cK h;have hh:=an2 hh;have g:=G.gl hh.2;obtain⟨tk,hm⟩:=G.con k' x v (eq_of_beq hh.1);exact PE.imp (uy (v:=.int v) g.1 hm ⟨tk,rfl⟩ g.2) fun σ H Q q=>zc (fun _ _=>bh) q
 |tup cs=>obtain⟨es,_,_,rfl,hh⟩:=zZ h;exact PE.imp (He (ih.a b X es cs G hh)) fun σ H Q q=>HE q
 |lst cs=>exact tmp rfl rfl
 |dic0=>obtain⟨p,rfl⟩:=Dl h;exact PE.imp yN fun σ H Q q=>Du q
 |dic1 i j=>
  obtain⟨x,y,p,rfl,h1,h2⟩:=Dm h;obtain⟨_,_,rfl⟩:=pE h1;obtain⟨_,_,rfl⟩:=pE h2;exact PE.imp (yT oE oE) fun σ H Q q=>Dv q
 |bin o a c'=>obtain⟨l,r,p,rfl,h2,h3⟩:=tQ h;exact PE.imp (yt (CT o) (ih.e b X l a G h2) (ih.e b X r c' G h3)) fun σ H Q q=>oY q
 |neg a=>obtain⟨x,p,rfl,hh⟩:=Iv h;exact PE.imp (LP Dd (ih.e b X x a G hh)) fun σ H Q q=>y8 q
 |cmp o a c'=>obtain⟨l,r,p,rfl,h2,h3,h4⟩:=tS h;exact PE.imp (Cc (f9 hu o) (ih.e b X l a G h2) (ih.e b X r c' G h3) (eD h4)) fun σ H Q q=>oY q
 |chn o p' a c' d=>obtain⟨l,r,s,p,rfl,h2,h3,h4,h5⟩:=z5 h;exact PE.imp (yu (f9 hu o) (f9 hu p') (ih.e b X l a G h2) (ih.e b X r c' G h3) (ih.e b X s d G h4) (lv h5)) fun σ H Q q=>zG q
 |and a c'=>
  rcases Dh h with h |h
  ·obtain⟨x,y,p,rfl,h1,h2⟩:=ls h;exact PE.imp (yn (ih.e b X x a G h1) (ym (ih.e b X y c' G h2))) fun σ H Q q=>zF q
  ·obtain⟨x,y,z,ys,p,rfl,h1,h2⟩:=pF h;exact PE.imp (yn (ih.e b X x a G h1) (ih.e b X _ c' G h2)) fun σ H Q q=>zF q
 |or a c'=>
  rcases Dh h with h |h
  ·obtain⟨x,y,p,rfl,h1,h2⟩:=ls h;exact PE.imp (FN (ih.e b X x a G h1) (ym (ih.e b X y c' G h2))) fun σ H Q q=>F5 q
  ·obtain⟨x,y,z,ys,p,rfl,h1,h2⟩:=pF h;exact PE.imp (FN (ih.e b X x a G h1) (ih.e b X _ c' G h2)) fun σ H Q q=>F5 q
 |not a=>obtain⟨x,p,rfl,hh⟩:=tR h;exact PE.imp (GV (ih.e b X x a G hh)) fun σ H Q q=>Im q
 |ix a c'=>
  obtain⟨x,y,p,rfl,h1,h2,h3⟩:=Gc h;show PE X _ (tE X.K (if ai a=true then sP (cw C ar n a) (evE C ar n c') else qy ixS (evE C ar n a) (evE C ar n c')));split
  ·rename_i ht;exact PE.imp (yA yC (ih.tm b X x a G ht h1) (ih.e b X y c' G h2) (lu h3)) fun σ H Q q=>HQ q
  ·exact PE.imp (yA OS (ih.e b X x a G h1) (ih.e b X y c' G h2) (lu h3)) fun σ H Q q=>oY q
 |sl a lo hi=>obtain⟨x,y,z,p,p',rfl,h1,h2,h3⟩:=Mw h;exact PE.imp (yz OT (ih.e b X x a G h1) (qX ih G h2) (qX ih G h3)) fun σ H Q q=>Mi q
 |call f cs=>
  obtain⟨x,e,es,p,p',rfl,h12,h3⟩:=pG (k:=fun x=>oA T.fns[f]? (fun y=>y.1 == x) && b.glo x) (l:=fun es=>dQ T n b es cs) (e:=e) h;obtain⟨h1,h2⟩:=an2 h12
  ·obtain⟨y,hy,h1⟩:=jW h1;have hx:=j8 h1;subst hx;obtain⟨ha,fa,fd,ps,hm,hk,hb,F⟩:=G.fns f y hy;have hpl:=aS h3;have g:=G.gl h2;exact PE.imp (uH F G.room g.1 hm hk hb .nil My (ih.a b X (e::es) cs G h3) g.2 (aj (hpl e Zi)) (dR fun e he=>hpl e (Zg _ he))) fun σ H Q q=>De q
 |inst t a=>
  obtain⟨x,y,p,p',rfl,h2,h5,h6,h7,_⟩:=dP h;obtain⟨y,p'',rfl,h8⟩:=cK h7;obtain⟨h3,h4⟩:=an2 h8;have hy:=j8 h3;subst hy
  have ty:PE X (.Name (Str.ofString t.nm) p'') (tC (.ty t.nm)):=by
   have g:=G.gl h4;cases t with
   |int=>exact fX g.1 (G.bl _ (by decide)) Wh rfl (by decide) g.2
   |bool=>exact fX g.1 (G.bl _ (by decide)) PyProof.Rows.boot_bool rfl (by decide) g.2
   |tuple=>exact fX g.1 (G.bl _ (by decide)) Wm rfl (by decide) g.2
   |list=>exact fX g.1 (G.bl _ (by decide)) Wj rfl (by decide) g.2
   |str=>exact fX g.1 (G.bl _ (by decide)) PyProof.Rows.boot_str rfl (by decide) g.2
  exact PE.imp (dH (oV X.K) (G.gl h2).1 (G.bl _ (by decide)) Wi (cr (ih.e b X x a G h5) (bI ty rfl) h6) (by decide) (G.gl h2).2 (aj h6) rfl) fun σ H Q q=>CZ q
 |len a=>obtain⟨x,p,p',rfl,h2,h3,h4⟩:=aR h;exact ly ih G (fun te z=>eG wP G h2 (by decide) PySem.boot_len (by decide) z h4) h3
 |all a=>obtain⟨x,p,p',rfl,h2,h3,h4⟩:=aR h;exact ly ih G (fun te z=>eG (wR G.calm) G h2 (by decide) PyProof.Rows.boot_all (by decide) z h4) h3
 |any a=>obtain⟨x,p,p',rfl,h2,h3,h4⟩:=aR h;exact ly ih G (fun te z=>eG (wU G.calm) G h2 (by decide) PyProof.Rows.boot_any (by decide) z h4) h3
 |mxL a=>obtain⟨x,p,p',rfl,h2,h3,h4⟩:=aR h;exact ly ih G (fun te z=>eG (wZ G.calm) G h2 (by decide) Wk (by decide) z h4) h3
 |intOf a=>obtain⟨x,p,p',rfl,h2,h3,h4⟩:=aR h;exact PE.imp (j7 w9 G h2 (by decide) Wh (by decide) (ih.e b X x a G h3) h4) fun σ H Q q=>y8 q
 |tupOf a=>obtain⟨x,p,p',rfl,h2,h3,h4⟩:=aR h;exact ly ih G (fun te z=>j7 wQ G h2 (by decide) Wm (by decide) z h4) h3
 |listOf a=>exact tmp rfl rfl
 |listR a=>exact tmp rfl rfl
 |srt a=>exact tmp rfl rfl
 |mx a c'=>
  obtain⟨x,es,p,p',rfl,h2,h3⟩:=qR (b:=b) (f := "max") (k:=fun es=>dQ T n b es [a,c']) (e:=e) h;have hpl:=aS h3;exact PE.imp (dH (sW G.calm) (G.gl h2).1 (G.bl _ (by decide)) Wk (ih.a b X (x::es) [a,c'] G h3) (by decide) (G.gl h2).2 (aj (hpl x Zi)) (dR fun e he=>hpl e (Zg _ he))) fun σ H Q q=>y9 q
 |mn a c'=>
  obtain⟨x,es,p,p',rfl,h2,h3⟩:=qR (b:=b) (f := "min") (k:=fun es=>dQ T n b es [a,c']) (e:=e) h;have hpl:=aS h3;exact PE.imp (dH (sX G.calm) (G.gl h2).1 (G.bl _ (by decide)) PyProof.Rows.boot_min (ih.a b X (x::es) [a,c'] G h3) (by decide) (G.gl h2).2 (aj (hpl x Zi)) (dR fun e he=>hpl e (Zg _ he))) fun σ H Q q=>y9 q
 |rep a=>obtain⟨x,p,p',rfl,h2,h3,h4⟩:=aR h;exact PE.imp (eG (tI G.room) G h2 (by decide) PyProof.Rows.boot_repr (by decide) (ih.e b X x a G h3) h4) fun σ H Q q=>y8 q
 |comp own elt cls=>exact tmp rfl rfl
 |app o a=>
  obtain⟨x,ap,es,p,rfl,h2,h3,h4,h5⟩:=iY h;obtain⟨y,rfl⟩:=pJ h5;have hpl:=aS h5 y (by simp);exact PE.imp (mX Ww Wx PySem.F.type_list_append HZ (ih.e b X x o G h4) (ih.a b X [y] [a] G h5) (b8 h2) (ij hpl) h3 (aj hpl) rfl) fun σ H Q q=>pd (fun R vd c=>tF R vd c) q
 |popAt o a=>
  obtain⟨x,ap,es,p,rfl,h2,h3,h4,h5⟩:=iY h;obtain⟨y,rfl⟩:=pJ h5;have hpl:=aS h5 y (by simp);exact PE.imp (mX Ww WC PySem.F.type_list_pop xc (ih.e b X x o G h4) (ih.a b X [y] [a] G h5) (b8 h2) (ij hpl) h3 (aj hpl) rfl) fun σ H Q q=>pd (fun R vd c=>tF R vd c) q
 |ins o i a=>
  obtain⟨x,ap,es,p,rfl,h2,h3,h4,h5⟩:=iY h;obtain⟨y,z,rfl⟩:=IE h5;have hpl:=aS h5 y (by simp);have hpz:=aS h5 z (by simp);exact PE.imp (mX Ww WA PySem.F.type_list_insert C2 (ih.e b X x o G h4) (ih.a b X [y,z] [i,a] G h5) (b8 h2) (by rw[aj hpl,aj hpz];rfl) h3 (aj hpl) (by rw[aj hpz];rfl)) fun σ H Q q=>pd (fun R vd c=>tF R vd c) q
 |cnt o a=>
  obtain⟨x,ap,es,p,rfl,h2,h3,h4,h5⟩:=iY h;obtain⟨y,rfl⟩:=pJ h5;have hpl:=aS h5 y (by simp);exact PE.imp (mX PySem.F.plainAttrs_tuple WE PySem.F.type_tuple_count C1 (ih.e b X x o G h4) (ih.a b X [y] [a] G h5) (b8 h2) (ij hpl) h3 (aj hpl) rfl) fun σ H Q q=>pd (fun R vd c=>HY R vd c) q
end
section
variable {T:Tab} {C:Calls} {ar:Nat->Nat} {k n:Nat} {b:Blk} {X:Cx}
theorem vm{op:BoolOp}{vs:List Expr}{p:Pos}{t:TT}(h:PT X (.BoolOp op vs p) t):PW X (.BoolOp op vs p) t:=fun whole pins s σ H Q I q=>h pins s σ H Q I q
theorem ME(ih:Snd T C ar k n)(e:Expr)(c:CE)(G:CtxOk T C ar k b X)(h:fb T (n+1) b e c=true):PT X e (tT X.K (evT C ar (n+1) c)):=by
 have hu:=qY G.room
 have dflt:evT C ar (n+1) c=CW (evE C ar n c)->(aE T n b e c && Dg e)=true->PT X e (tT X.K (evT C ar (n+1) c)):=fun e1 hh=>by
  rw[e1];have hh:=an2 hh;exact PT.imp (yw (ih.e b X e c G hh.1) (lw hh.2)) fun σ H Q q=>HS q
 cases c with
 |cmp o a c'=>obtain⟨l,r,p,rfl,h2,h3,h4⟩:=tS h;exact PT.imp (uF (f9 hu o) (ih.e b X l a G h2) (ih.e b X r c' G h3) (eD h4)) fun σ H Q q=>oY (Mj q)
 |chn o p' a c' d=>obtain⟨l,r,s,p,rfl,h2,h3,h4,h5⟩:=z5 h;exact PT.imp (yv (f9 hu o) (f9 hu p') (ih.e b X l a G h2) (ih.e b X r c' G h3) (ih.e b X s d G h4) (lv h5)) fun σ H Q q=>zG (Mj q)
 |and a c'=>
  rcases Dh h with h |h
  ·obtain⟨x,y,p,rfl,h1,h2⟩:=ls h;exact PT.imp (yi (ih.t b X x a G h1) (B5 (ih.t b X y c' G h2))).pt fun σ H Q q=>zJ q
  ·obtain⟨x,y,z,ys,p,rfl,h1,h2⟩:=pF h;exact PT.imp (yi (ih.t b X x a G h1) (vm (ih.t b X _ c' G h2))).pt fun σ H Q q=>zJ q
 |or a c'=>
  rcases Dh h with h |h
  ·obtain⟨x,y,p,rfl,h1,h2⟩:=ls h;exact PT.imp (yj (ih.t b X x a G h1) (yh (ih.t b X y c' G h2))).pt fun σ H Q q=>F6 q
  ·obtain⟨x,y,z,ys,p,rfl,h1,h2⟩:=pF h;exact PT.imp (yj (ih.t b X x a G h1) (vm (ih.t b X _ c' G h2))).pt fun σ H Q q=>F6 q
 |not a=>obtain⟨x,p,rfl,h1⟩:=tR h;exact PT.imp (yk (ih.t b X x a G h1)) fun σ H Q q=>Ip q
 |_=>exact dflt rfl h
theorem snd:∀n,Snd T C ar k n
 |0=>⟨fun b X e c _ h=>absurd h Zd,fun b X e c _ _ h=>absurd h Zd,fun b X e c _ h=>absurd h Zd,fun b X e c _ h=>absurd h Zd,fun B b X t e c _ h=>absurd h Zd,fun b X e gs elt cls _ h=>absurd h Zd⟩
 |n+1=>⟨fun b X e c G h=>MD (snd n) e c G h,fun b X e c G ht h=>Ae (snd n) e c G ht h,fun b X es cs G h=>MB (snd n) es cs G h,fun b X e c G h=>ME (snd n) e c G h,fun B b X t e c G h=>MC (snd n) B t e c G h,fun b X e gs elt cls G h=>Iz (snd n) e gs elt cls G h⟩
end
inductive CS where |asg (t:Tg)(e:CE) |setI (v o i:CE) |swp (v o i q j:CE) |ex (e:CE) |ret (e:CE) |ifs (c:CE)(a b:List CS) |for_ (t:Tg)(it:CI)(b:List CS) |cnt |never
noncomputable def Dx:XS:=fun _ _=>none
mutual
noncomputable def evS(C:Calls)(ar:Nat->Nat):Nat->CS->XS
 |0,_=>Dx
 |n+1,s=>match s with
  |.asg t e=>kU (evE C ar n e) t
  |.setI v o i=>qM (evE C ar n v) (evE C ar n o) (evE C ar n i)
  |.swp v o i q j=>zy (evE C ar n v) (evE C ar n o) (evE C ar n i) (evE C ar n q) (evE C ar n j)
  |.ex e=>qL (evE C ar n e)
  |.ret e=>zx (evE C ar n e)
  |.ifs c a b=>xIf (evT C ar n c) (fc C ar n a) (fc C ar n b)
  |.for_ t it b=>zA (evI C ar n it) t (fc C ar n b) LF
  |.cnt=>Ms
  |.never=>Dx
noncomputable def fc(C:Calls)(ar:Nat->Nat):Nat->List CS->XS
 |0,_=>Dx
 |n+1,ss=>match ss with
  |[]=>F3
  |s::ss=>tK (evS C ar n s) (fc C ar n ss)
end
noncomputable def Af:Expr->Bool
 |.Starred _ _=>true
 |_=>false
noncomputable def gh(sc:Scope)(line:Nat)(ts:List Expr):List Str:=ts.filterMap fun
 |.Name id pos=>if sc.names.lookup id == some .local && pos.line == line then some id else none
 |_=>none
noncomputable def lD(sc:Scope)(ts vs:List Expr):Option (Option (List Str)):=
 if (!(ts.length == 2 || ts.length == 3) || vs.length != ts.length)=true then some none
 else if (vs.any Af)=true then some none
 else if ((gh sc ((ts.head?.map (·.pos.line)).getD 0) ts).length != ts.length || (gh sc ((ts.head?.map (·.pos.line)).getD 0) ts).eraseDups.length != (gh sc ((ts.head?.map (·.pos.line)).getD 0) ts).length)=true then some none
 else if (vs.all (foldedForSure 8))=true then some none
 else if (vs.all (constantsAlone 8))=true then none
 else some (some (gh sc ((ts.head?.map (·.pos.line)).getD 0) ts))
theorem Gf{k k2:Nat}(hk:env.blockKind = .function)(hs:env.scope=sc)(h:lD sc ts vs=some r):V1 [.Tuple ts k p] (.Tuple vs k2 p2) env=pure r:=by
 unfold lD at h;unfold V1
 have e1:(vs.any fun |.Starred ..=>true |_=>false)=vs.any Af:=by
  congr 1
 have e2:(ts.filterMap fun
   |.Name id pos=>if env.kindOf id == some .local && pos.line == ((ts.head?.map (·.pos.line)).getD 0) then some id else none
   | _=>none)=gh sc ((ts.head?.map (·.pos.line)).getD 0) ts:=by
  unfold gh Env.kindOf;rw[hs]
 have e3:(env.blockKind != .function)=false:=by rw[hk];rfl
 simp only[e3,X7];split at h
 ·rename_i c1;rw[if_pos c1];cases h;rfl
 rename_i c1;rw[if_neg c1];split at h
 ·rename_i c2;cases h;exact if_pos (e1.trans c2)
 rename_i c2;refine Eq.trans (if_neg fun z=>c2 (e1.symm.trans z)) ?_;split at h
 ·rename_i c3;cases h;rw[<-e2] at c3;exact if_pos c3
 rename_i c3;rw[<-e2] at c3 h;refine Eq.trans (if_neg c3) ?_;split at h
 ·rename_i c4;cases h;exact if_pos c4
 rename_i c4;refine Eq.trans (if_neg c4) ?_;split at h
 ·cases h
 rename_i c5;cases h;exact if_neg c5
noncomputable def tW:Expr->Option (Scope × Pos)
 |.ListComp _ _ s p=>some (s,p)
 |.SetComp _ _ s p=>some (s,p)
 |.DictComp _ _ _ s p=>some (s,p)
 |_=>none
noncomputable def swW(sc:Scope)(v:Expr)(t:Str)(pos:Pos):Bool:=match tW v with
 |none=>false
 |some (s,p)=>sc.names.lookup t == some .local && pos.line == p.line && !(s.names.any fun y=>y.1 == t && (y.2 == .local || y.2 == .cell))
theorem Ag{line:Nat}(hk:env.blockKind = .function)(hs:env.scope=sc):V2 v (some (.Name t pos)) line env=pure (swW sc v t pos):=by
 unfold V2 swW tW;have e3:(env.blockKind == .function)=true:=by rw[hk];rfl
 cases v <;> first |rfl |(simp only[e3,Xr,Env.kindOf,hs];rfl)
theorem lH{line:Nat}(h:∀x p,tg ≠ .Name x p):V3 [tg] v line env=pure false:=by
 show V2 v (some tg) line env=pure false;unfold V2;cases v <;> first |rfl |(cases tg <;> first |rfl |(exact absurd rfl (h _ _)))
theorem il(h:(∀es k p,v ≠ .Tuple es k p)\/(∃x p,tg = .Name x p)\/(∃o i p,tg = .Subscript o i p)):V1 [tg] v env=pure none:=by
 unfold V1;rcases h with h |⟨x,p,rfl⟩ |⟨o,i,p,rfl⟩
 ·split
  ·rename_i e;split at e
   ·exact absurd rfl (h _ _ _)
   ·exact absurd rfl (h _ _ _)
   ·cases e
  ·rfl
 ·rfl
 ·rfl
noncomputable def nmL:List Expr->Option (List Str)
 |[]=>some []
 |e::es=>match zU e,nmL es with
  |some r,some xs=>some (r.1::xs)
  |_,_=>none
theorem fv(h:nmL es=some (x::xs)):∃p es',es = .Name x p::es'/\nmL es'=some xs:=by
 cases es with
 |nil=>cases h
 |cons e es=>
  rw[nmL] at h;split at h
  ·rename_i r ys h1 h2;cases h;exact⟨_,es,by rw[pC h1],h2⟩
  ·cases h
theorem vn(h:nmL es=some []):es=[]:=by
 cases es with
 |nil=>rfl
 |cons e es=>
  rw[nmL] at h;split at h <;> cases h
noncomputable def tgL:List Tg->Option (List Nat)
 |[]=>some []
 |.name i::ts=>match tgL ts with
  |some is=>some (i::is)
  |none=>none
 |.tup _::_=>none
theorem Ah:∀ {ts:List Tg} {is:List Nat},tgL ts=some is->ts=is.map Tg.name
 |[],_,h=>by cases h;rfl
 |.name i::ts,is,h=>by
  rw[tgL] at h;cases e:tgL ts with
  |none=>rw[e] at h;cases h
  |some js=>rw[e] at h;cases h;rw[Ah e];rfl
 |.tup _::_,_,h=>by cases h
noncomputable def MF(b:Blk)(ns:List Str)(is:List Nat):Bool:=match ns with
 | [x,y]=>(match is with
  |[i,j]=>b.N[i]? == some x && b.N[j]? == some y && i != j && b.sc.names.lookup x == some .local && b.sc.names.lookup y == some .local
  | _=>false)
 | [x,y,z]=>(match is with
  |[i,j,l]=>b.N[i]? == some x && b.N[j]? == some y && b.N[l]? == some z && i != j && i != l && j != l && b.sc.names.lookup x == some .local && b.sc.names.lookup y == some .local && b.sc.names.lookup z == some .local
  | _=>false)
 |_=>false
noncomputable def OW(e:Expr):Bool:=iX e fun _ _ _ _=>true
noncomputable def OX(e:Expr):Bool:=e.ctorIdx == 24
noncomputable def tX(T:Tab)(n:Nat)(b:Blk)(tg e:Expr)(t:Tg)(c:CE):Bool:=match t with
 | .name i=>(match zU tg with
  |some r=>aE T n b e c && b.N[i]? == some r.1 && b.own r.1 && (!(swW b.sc e r.1 r.2) || (OW e && b.sc.names.lookup r.1 == some .local))
  | none=>false)
 | .tup gs=>(match qQ tg with
  | some r=>aE T n b e c && (match qQ e with
   | some q=>(match lD b.sc r.1 q.1 with
    |some none=>lh b r.1 gs
    | some (some ns)=>(match tgL gs with
     |some is=>nmL r.1 == some ns && q.1.length == ns.length && MF b ns is
     | none=>false)
    | none=>false)
   | none=>!(OX e) && lh b r.1 gs)
  | none=>false)
noncomputable def vo(e:Stmt)(k:Option Expr->Pos->Bool):Bool:=if h:e.ctorIdx=3 then @Stmt.Return.elim (fun _=>Bool) e h k else false
theorem xv(h:vo e k=true):∃x0 x1,e = .Return x0 x1/\k x0 x1=true:=by
 obtain⟨h1,h⟩:=bG h;exact Stmt.Return.elim (motive_2:=fun e=>∀h',@Stmt.Return.elim (fun _=>Bool) e h' k=true->∃x0 x1,e = .Return x0 x1/\k x0 x1=true) e h1 (fun x0 x1 _ hh=>⟨x0,x1,rfl,hh⟩) h1 h
noncomputable def j9(e:Stmt)(k:List Expr->Expr->Pos->Bool):Bool:=if h:e.ctorIdx=5 then @Stmt.Assign.elim (fun _=>Bool) e h k else false
theorem iZ(h:j9 e k=true):∃x0 x1 x2,e = .Assign x0 x1 x2/\k x0 x1 x2=true:=by
 obtain⟨h1,h⟩:=bG h;exact Stmt.Assign.elim (motive_2:=fun e=>∀h',@Stmt.Assign.elim (fun _=>Bool) e h' k=true->∃x0 x1 x2,e = .Assign x0 x1 x2/\k x0 x1 x2=true) e h1 (fun x0 x1 x2 _ hh=>⟨x0,x1,x2,rfl,hh⟩) h1 h
noncomputable def MG(e:Stmt)(k:Expr->Expr->List Stmt->List Stmt->Pos->Bool):Bool:=if h:e.ctorIdx=9 then @Stmt.For.elim (fun _=>Bool) e h k else false
theorem IG(h:MG e k=true):∃x0 x1 x2 x3 x4,e = .For x0 x1 x2 x3 x4/\k x0 x1 x2 x3 x4=true:=by
 obtain⟨h1,h⟩:=bG h;exact Stmt.For.elim (motive_2:=fun e=>∀h',@Stmt.For.elim (fun _=>Bool) e h' k=true->∃x0 x1 x2 x3 x4,e = .For x0 x1 x2 x3 x4/\k x0 x1 x2 x3 x4=true) e h1 (fun x0 x1 x2 x3 x4 _ hh=>⟨x0,x1,x2,x3,x4,rfl,hh⟩) h1 h
noncomputable def jIf(e:Stmt)(k:Expr->List Stmt->List Stmt->Pos->Bool):Bool:=if h:e.ctorIdx=12 then @Stmt.If.elim (fun _=>Bool) e h k else false
theorem MH(h:jIf e k=true):∃x0 x1 x2 x3,e = .If x0 x1 x2 x3/\k x0 x1 x2 x3=true:=by
 obtain⟨h1,h⟩:=bG h;exact Stmt.If.elim (motive_2:=fun e=>∀h',@Stmt.If.elim (fun _=>Bool) e h' k=true->∃x0 x1 x2 x3,e = .If x0 x1 x2 x3/\k x0 x1 x2 x3=true) e h1 (fun x0 x1 x2 x3 _ hh=>⟨x0,x1,x2,x3,rfl,hh⟩) h1 h
noncomputable def Gg(e:Stmt)(k:Expr->Pos->Bool):Bool:=if h:e.ctorIdx=24 then @Stmt.Expr.elim (fun _=>Bool) e h k else false
theorem Dy(h:Gg e k=true):∃x0 x1,e = .Expr x0 x1/\k x0 x1=true:=by
 obtain⟨h1,h⟩:=bG h;exact Stmt.Expr.elim (motive_2:=fun e=>∀h',@Stmt.Expr.elim (fun _=>Bool) e h' k=true->∃x0 x1,e = .Expr x0 x1/\k x0 x1=true) e h1 (fun x0 x1 _ hh=>⟨x0,x1,rfl,hh⟩) h1 h
noncomputable def nM(e:Stmt)(k:Pos->Bool):Bool:=if h:e.ctorIdx=27 then @Stmt.Continue.elim (fun _=>Bool) e h k else false
theorem qZ(h:nM e k=true):∃x0,e = .Continue x0/\k x0=true:=by
 obtain⟨h1,h⟩:=bG h;exact Stmt.Continue.elim (motive_2:=fun e=>∀h',@Stmt.Continue.elim (fun _=>Bool) e h' k=true->∃x0,e = .Continue x0/\k x0=true) e h1 (fun x0 _ hh=>⟨x0,rfl,hh⟩) h1 h
noncomputable def pK(e:Expr):Bool:=e.ctorIdx == 8 || e.ctorIdx == 9 || e.ctorIdx == 10
noncomputable def Ai(k:Expr->Expr->Bool)(s:Stmt):Bool:=j9 s fun ts v _=>l1 ts fun tg=>k tg v
noncomputable def Gh(k l m:Expr->Bool)(s:Stmt):Bool:=j9 s fun ts z _=>l1 ts fun tg=>cR tg fun x y _=>k z && l x && m y && aG y
noncomputable def Aj(e:Expr)(l m:Expr->Bool):Bool:=cR e fun x y _=>l x && m y && aG y
noncomputable def MI(k:Expr->Bool)(l m l' m':Expr->Bool)(b:Blk)(s:Stmt):Bool:=j9 s fun ts z _=>l1 ts fun tg=>oA (qQ tg) fun r=>lC r.1 fun t1 t=>l1 t fun t2=>oA (qQ z) fun w=>k z && Aj t1 l m && Aj t2 l' m' && (match lD b.sc r.1 w.1 with |some none=>true |_=>false)
noncomputable def zEx(k:Expr->Bool)(s:Stmt):Bool:=Gg s fun v _=>k v && !(pK v)
noncomputable def xy(k:Expr->Bool)(s:Stmt):Bool:=vo s fun v _=>oA v k
noncomputable def zIf(k:Expr->Bool)(l m:List Stmt->Bool)(s:Stmt):Bool:=jIf s fun t p q _=>k t && l p && m q
noncomputable def MJ(k:Expr->Expr->Bool)(l:List Stmt->Bool)(s:Stmt):Bool:=MG s fun tg i p q _=>q.isEmpty && k tg i && l p
noncomputable def MK(s:Stmt):Bool:=nM s fun _=>true
section
variable {s:Stmt} {k l m:Expr->Bool}
theorem pL{k:Expr->Expr->Bool}(h:Ai k s=true):∃tg v p,s = .Assign [tg] v p/\k tg v=true:=by
 obtain⟨ts,v,p,rfl,h⟩:=iZ h;obtain⟨tg,rfl,h⟩:=cx h;exact⟨tg,v,p,rfl,h⟩
theorem Dz(h:Gh k l m s=true):∃x y q z p,s = .Assign [.Subscript x y q] z p/\k z=true/\l x=true/\m y=true/\aG y=true:=by
 obtain⟨ts,v,p,rfl,h⟩:=iZ h;obtain⟨tg,rfl,h⟩:=cx h;obtain⟨x,y,q,rfl,h⟩:=cJ h;exact⟨x,y,q,v,p,rfl,an4 h⟩
theorem Ak(h:Aj e l m=true):∃x y q,e = .Subscript x y q/\l x=true/\m y=true/\aG y=true:=by
 obtain⟨x,y,q,rfl,h⟩:=cJ h;exact⟨x,y,q,rfl,an3 h⟩
theorem IH(h:MI k l m l' m' b s=true):∃t1 t2 kt pt es ke pe p,s = .Assign [.Tuple [t1,t2] kt pt] (.Tuple es ke pe) p/\k (.Tuple es ke pe)=true/\Aj t1 l m=true/\Aj t2 l' m'=true/\lD b.sc [t1,t2] es=some none:=by
 obtain⟨ts,z,p,rfl,h⟩:=iZ h;obtain⟨tg,rfl,h⟩:=cx h;obtain⟨⟨r1,r2,r3⟩,hr,h⟩:=jW h;obtain⟨t1,t,e1,h⟩:=bO h;obtain⟨t2,e2,h⟩:=cx h;obtain⟨⟨w1,w2,w3⟩,hw,h⟩:=jW h;obtain⟨h1,h2,h3,h4⟩:=an4 h;have e1:r1=t1::t:=e1;subst e2;subst e1;rw[ie hr];rw[ie hw] at h1 ⊢;refine⟨t1,t2,r2,r3,w1,w2,w3,p,rfl,h1,h2,h3,?_⟩;have h4:(match lD b.sc [t1,t2] w1 with |some none=>true |_=>false)=true:=h4;split at h4
 ·rename_i e;exact e
 ·cases h4
theorem Gi(h:zEx k s=true):∃v p,s = .Expr v p/\k v=true/\pK v=false:=by
 obtain⟨v,p,rfl,h⟩:=Dy h;obtain⟨h1,h2⟩:=an2 h;exact⟨v,p,rfl,h1,by cases e:pK v;rfl;rw[e] at h2;cases h2⟩
theorem lI(h:xy k s=true):∃v p,s = .Return (some v) p/\k v=true:=by
 obtain⟨v,p,rfl,h⟩:=xv h;obtain⟨v,rfl,h⟩:=jW h;exact⟨v,p,rfl,h⟩
theorem Al{l m:List Stmt->Bool}(h:zIf k l m s=true):∃t p q r,s = .If t p q r/\k t=true/\l p=true/\m q=true:=by
 obtain⟨t,p,q,r,rfl,h⟩:=MH h;exact⟨t,p,q,r,rfl,an3 h⟩
theorem II{k:Expr->Expr->Bool}{l:List Stmt->Bool}(h:MJ k l s=true):∃tg i p q,s = .For tg i p [] q/\k tg i=true/\l p=true:=by
 obtain⟨tg,i,p,q,r,rfl,h⟩:=IG h;obtain⟨h1,z0⟩:=an3 h;cases cp h1;exact⟨tg,i,p,r,rfl,z0⟩
theorem IJ(h:MK s=true):∃p,s = .Continue p:=by obtain⟨p,rfl,_⟩:=qZ h;exact⟨p,rfl⟩
end
mutual
noncomputable def IK(T:Tab):Nat->Blk->Stmt->CS->Bool
 |0,_,_,_=>false
 |n+1,b,s,c=>match c with
  |.asg t e=>Ai (fun tg v=>tX T n b tg v t e) s
  |.setI v o i=>Gh (fun x=>aE T n b x v) (fun x=>aE T n b x o) (fun x=>aE T n b x i) s
  |.swp v o i q j=>MI (fun x=>aE T n b x v) (fun x=>aE T n b x o) (fun x=>aE T n b x i) (fun x=>aE T n b x q) (fun x=>aE T n b x j) b s
  |.ex e=>zEx (fun x=>aE T n b x e) s
  |.ret e=>xy (fun x=>aE T n b x e) s
  |.ifs c x y=>zIf (fun e=>fb T n b e c) (fun p=>nP T n b p x) (fun p=>nP T n b p y) s
  |.for_ t it x=>MJ (fun tg i=>qS T n b tg i it && tN b tg t) (fun p=>nP T n b p x) s
  |.cnt=>MK s
  |.never=>true
noncomputable def nP(T:Tab):Nat->Blk->List Stmt->List CS->Bool
 |0,_,_,_=>false
 |n+1,b,ss,cs=>match cs with
  |[]=>ss.isEmpty
  |c::cs=>lC ss fun s ss=>IK T n b s c && nP T n b ss cs
end
section
variable {T:Tab} {C:Calls} {ar:Nat->Nat} {k n:Nat} {b:Blk} {X:Cx}
theorem DA{k':Nat}(h:aE T (n+1) b (.Tuple es k' p) (.tup cs)=true):dQ T n b es cs=true:=h
theorem Am{k':Nat}(h:aE T (n+1) b (.Tuple es k' p) c=true):∃cs,c = .tup cs:=by
 cases c with
 |tup cs=>exact⟨cs,rfl⟩
 |comp own elt cls=>
  cases cls with
  |nil=>exact absurd h Zd
  |cons g rest=>obtain⟨tg,it,cond⟩:=g;exact absurd h Zd
 |_=>exact absurd h Zd
theorem gM:∀ (ts:List Tg) (ds:List D) (ρ ρ':Rho),aI ts ds ρ=some ρ'->ts.length=ds.length
 |[],[],_,_,_=>rfl
 |[],_::_,_,_,e=>by simp[aI] at e
 |_::_,[],_,_,e=>by simp[aI] at e
 |t::ts,d::ds,ρ,ρ',e=>by
  simp only[aI] at e;split at e
  ·simp[gM _ _ _ _ e]
  ·cases e
theorem q8{K:W0}{x:XA}{ts:List Tg}{D:Ends}{σ:L2.St}{H:Hp}(h:tSt K (kU (jR jS x) (.tup ts)) D σ H):tAr K x σ H fun vs H1=>∃m1 ρ ρ' ds,EnvR K m1 H1 ρ σ/\VDs K m1 H1 ds vs/\aI ts ds ρ=some ρ'/\∀σ',EnvR K m1 H1 ρ' σ'->D.nx σ' H1:=by
 obtain⟨m,ρ,S,fl,ρ',S',E,R,e,q⟩:=h;unfold kU at e;cases hx:jR jS x ρ S with
 |none=>rw[hx] at e;cases e
 |some r=>
  rw[hx] at e;obtain⟨ds,S1,e1,e2⟩:=af hx;unfold jS at e2;split at e2
  ·cases e2;dsimp only at e;simp only[aA] at e;cases hb:aI ts ds ρ with
   |none=>rw[hb] at e;cases e
   |some ρ1=>
    rw[hb] at e;cases e;exact⟨m,ρ,S,ds,_,E,R,e1,fun m1 H1 vs A1 vd=>⟨m1,ρ,_,ds,E.mono R A1.ext,vd,hb,fun σ' E'=>q m1 H1 A1 σ' E'⟩⟩
  ·cases e2
theorem rd{K:W0}{x:XA}{σ:L2.St}{H:Hp}{Q Q':List V->Hp->Prop}(h:tAr K x σ H Q)(f:∀v H',Q v H'->Q' v H'):tAr K x σ H Q':=by
 obtain⟨m,ρ,S,d,S',E,R,e,q⟩:=h;exact⟨m,ρ,S,d,S',E,R,e,fun m' H' v A vd=>f _ _ (q m' H' v A vd)⟩
theorem lJ{ρ ρ':Rho}{i:Nat}{d:D}(h:(if i < ρ.length then some (ρ.set i (some d)) else none)=some ρ'):ρ'=ρ.set i (some d):=by
 split at h
 ·cases h;rfl
 ·cases h
theorem DB{K:W0}{x:XA}{i j:Nat}{D:Ends}{σ:L2.St}{H:Hp}(h:tSt K (kU (jR jS x) (.tup [.name i,.name j])) D σ H):LM i j (tAr K x) D σ H:=by
 refine rd (q8 h) fun vs H1 ⟨m1,ρ,ρ',ds,E,vd,e,q⟩=>?_;have hl:=gM _ _ _ _ e
 match ds,hl with
 |[a,c],_=>
  obtain⟨v,w,rfl,va,vc⟩:=sV vd;refine⟨v,w,rfl,q _ ?_⟩;simp only[aI,aA] at e;split at e
  ·rename_i r1 h1;have:=lJ h1;subst this;split at e
   ·rename_i r2 h2;have:=lJ h2;subst this;cases e;exact(E.set va).set vc
   ·cases e
  ·cases e
theorem OY{K:W0}{m:List Addr}{H:Hp}{a b c:D}{vs:List V}(h:VDs K m H [a,b,c] vs):∃v w z,vs=[v,w,z]/\VD K m H a v/\VD K m H b w/\VD K m H c z:=by
 rw[VDs] at h;obtain⟨v,r,rfl,p,q⟩:=h;obtain⟨w,z,rfl,p',q'⟩:=sV q;exact⟨v,w,z,rfl,p,p',q'⟩
theorem DC{K:W0}{x:XA}{i j l:Nat}{D:Ends}{σ:L2.St}{H:Hp}(h:tSt K (kU (jR jS x) (.tup [.name i,.name j,.name l])) D σ H):F0 i j l (tAr K x) D σ H:=by
 refine rd (q8 h) fun vs H1 ⟨m1,ρ,ρ',ds,E,vd,e,q⟩=>?_;have hl:=gM _ _ _ _ e
 match ds,hl with
 |[a,c,d],_=>
  obtain⟨v,w,z,rfl,va,vc,vd'⟩:=OY vd;refine⟨v,w,z,rfl,q _ ?_⟩;simp only[aI,aA] at e;split at e
  ·rename_i r1 h1;have:=lJ h1;subst this;split at e
   ·rename_i r2 h2;have:=lJ h2;subst this;split at e
    ·rename_i r3 h3;have:=lJ h3;subst this;cases e;exact((E.set va).set vc).set vd'
    ·cases e
   ·cases e
  ·cases e
theorem An(h:aE T (n+1) b (.ListComp e gs scope p) c=true):∃own elt tg it cond rest t i ifs gs',c = .comp own elt (⟨tg,it,cond⟩::rest)/\gs=⟨t,i,ifs,0⟩::gs' ∧
  cmB own (lg own b.N) b.N scope b.sc=true/\qS T n b t i it=true/\tN (b.inner own scope) t tg=true/\z7 (fb T n (b.inner own scope)) ifs cond=true/\nB T n (b.inner own scope) e gs' elt rest=true:=by
 cases c with
 |comp own elt cls=>
  ·obtain⟨tg,it,cond,rest,rfl,hc⟩:=Gd h;obtain⟨el,t,i,ifs,gs',scope',p',he,hh⟩:=vh hc;cases he;obtain⟨h0,h1,h2,h3,h4⟩:=an5 hh;exact⟨own,elt,tg,it,cond,rest,t,i,ifs,gs',rfl,rfl,h0,h1,h2,h3,h4⟩
 |_=>exact absurd h Zd
end
section
variable {T:Tab} {C:Calls} {ar:Nat->Nat} {k n:Nat} {b:Blk} {X:Cx}
theorem pM(h:X.env.scope.kind = .function):X.env.blockKind = .function:=by
 unfold Env.blockKind;rw[h];rfl
theorem DD{α:Type}{l:List α}(h:l.length=2):∃a b,l=[a,b]:=by
 match l,h with
 |[a,b],_=>exact⟨a,b,rfl⟩
theorem xz{α:Type}{l:List α}(h:l.length=3):∃a b c,l=[a,b,c]:=by
 match l,h with
 |[a,b,c],_=>exact⟨a,b,c,rfl⟩
theorem IL(G:CtxOk T C ar k b X)(hk:X.env.scope.kind = .function){tg e:Expr}{t:Tg}{c:CE}{p:Pos}(h:tX T n b tg e t c=true):PS X (.Assign [tg] e p) (tSt X.K (kU (evE C ar n c) t)):=by
 have hb:=pM hk;unfold tX at h;cases t with
 |name i=>
  dsimp only at h;cases hx:zU tg with
  |none=>rw[hx] at h;cases h
  |some r=>
  obtain⟨x,px⟩:=r;rw[hx] at h;rw[pC hx];simp only[bAE] at h;obtain⟨⟨⟨h1,h2⟩,h3⟩,h4⟩:=h;have hi:X.N[i]?=some x:=by rw[G.hN];simpa using h2
  have nd:X.N.Nodup:=by rw[G.hN];exact G.nd
  have o:=G.own h3;have sw:=Ag (sc:=b.sc) (v:=e) (t:=x) (pos:=px) (line:=p.line) hb G.hs;cases hw:swW b.sc e x px with
  |false=>
   rw[hw] at sw;exact PS.imp (G0 nd hi o.1 ((snd n).e b X e c G h1) sw o.2) fun D σ H q=>pH (tL q) fun v H' z=>pw z
  |true=>
   rw[hw] at h4 sw;simp only[Bool.not_true,Bool.false_or,bAE] at h4;obtain⟨h5,h4⟩:=h4;obtain⟨el,gs,scope,pp,rfl,_⟩:=jy h5
   ·cases n with
    |zero=>exact absurd h1 Zd
    |succ n=>
     obtain⟨own,elt,tg',it,cond,rest,tt,ii,ifs,gs',rfl,rfl,c0,c1,c2,c3,c4⟩:=An h1;have S:CmScope own (lg own b.N) b.N scope b.sc:=yS _ c0;have S':CmScope own (lg own b.N) X.N scope X.env.scope:=by rw[G.hN,G.hs];exact S
     have hpl:=gf c1 (fun e he env=>eF he) X.env;have hx:X.env.scope.names.lookup x=some .local:=by rw[G.hs];simpa using h4
     refine PS.imp (Cw (g:=tTg X.K tg') (ti:=ifT C ar n X.K cond) (t:=fun acc=>tCl X.K acc (gw C ar n elt rest)) G.calm S' nd hi hx ((snd n).i [] b X tt ii it G c1) (fun C' ex s H=>gg (G.inner S (C':=C') (ex:=ex) (s:=s) (H:=H)) c2) (fun C' ex s H=>lB (snd n) (G.inner S (C':=C') (ex:=ex) (s:=s) (H:=H)) c3)
      (fun C' ex s H acc=>(snd n).cl _ _ el gs' elt rest (G.inner S (C':=C') (ex:=ex) (s:=s) (H:=H)) c4 _ scope pp acc 0 rfl) sw hpl) fun D σ H q=>?_
     exact uY (fun acc D σ H z=>tV z) (qB (pH (tL q) fun v H' z=>pw z))
 |tup gs=>
  dsimp only at h;cases hx:qQ tg with
  |none=>rw[hx] at h;cases h
  |some r=>
  obtain⟨ts,kt,pt⟩:=r;rw[hx] at h;rw[ie hx];simp only[bAE] at h;obtain⟨h1,h3⟩:=h;have so:V3 [.Tuple ts kt pt] e p.line X.env=pure false:=lH fun x p z=>nomatch z
  have plain:∀ (hw:V1 [.Tuple ts kt pt] e X.env=pure none) (hg:lh b ts gs=true),PS X (.Assign [.Tuple ts kt pt] e p) (tSt X.K (kU (evE C ar n c) (.tup gs))):=fun hw hg=>
   PS.imp (iI ((snd n).e b X e c G h1) (gg G (e:=.Tuple ts kt pt) (t:=.tup gs) hg) so hw rfl) fun D σ H q=>tL q
  cases hy:qQ e with
  |none=>
   rw[hy] at h3;simp only[bAE] at h3;exact plain (il (.inl fun es k p z=>by rw[z] at hy;cases hy)) h3.2
  |some q=>
   obtain⟨es,ke,pe⟩:=q;rw[hy] at h3;obtain rfl:=ie hy;cases n with
   |zero=>exact absurd h1 Zd
   |succ n=>
    obtain⟨cs,rfl⟩:=Am h1;have ha:=DA h1;dsimp only at h3;cases hr:lD b.sc ts es with
    |none=>rw[hr] at h3;cases h3
    |some w=>
     have hw:=Gf (k:=kt) (p:=pt) (k2:=ke) (p2:=pe) hb G.hs hr;rw[hr] at h3;cases w with
     |none=>exact plain hw h3
     |some ns=>
      dsimp only at h3;cases ht:tgL gs with
      |none=>rw[ht] at h3;cases h3
      |some is=>
       rw[ht] at h3;simp only[bAE] at h3;obtain⟨⟨hn0,hl0⟩,h3⟩:=h3;have hn:nmL ts=some ns:=by simpa using hn0
       have hl:es.length=ns.length:=by simpa using hl0
       clear hn0 hl0;obtain rfl:=Ah ht;unfold MF at h3;split at h3
       ·rename_i x y;split at h3
        ·rename_i i j;obtain⟨p1,t1,rfl,hn1⟩:=fv hn;obtain⟨p2,t2,rfl,hn2⟩:=fv hn1;obtain rfl:=vn hn2;obtain⟨a1,a2,rfl⟩:=DD hl;simp only[bAE] at h3;obtain⟨⟨⟨⟨q2,q3⟩,q4⟩,q5⟩,q6⟩:=h3;exact PS.imp (G1 (i:=i) (j:=j) G.calm (by rw[G.hN];exact G.nd) (by rw[G.hN];simpa using q2) (by rw[G.hN];simpa using q3) (by simpa using q4) (by rw[G.hs];simpa using q5) (by rw[G.hs];simpa using q6) ((snd n).a b X _ cs G ha) hw so) fun D σ H q=>DB q
        ·cases h3
       ·rename_i x y z;split at h3
        ·rename_i i j l;obtain⟨p1,t1,rfl,hn1⟩:=fv hn;obtain⟨p2,t2,rfl,hn2⟩:=fv hn1;obtain⟨p3,t3,rfl,hn3⟩:=fv hn2;obtain rfl:=vn hn3;obtain⟨a1,a2,a3,rfl⟩:=xz hl;simp only[bAE] at h3;obtain⟨⟨⟨⟨⟨⟨⟨⟨q2,q3⟩,q3'⟩,q4⟩,q4'⟩,q4''⟩,q5⟩,q6⟩,q7⟩:=h3;exact PS.imp (CD (i:=i) (j:=j) (k:=l) G.calm (by rw[G.hN];exact G.nd) (by rw[G.hN];simpa using q2) (by rw[G.hN];simpa using q3) (by rw[G.hN];simpa using q3') (by simpa using q4) (by simpa using q4') (by simpa using q4'') (by rw[G.hs];simpa using q5) (by rw[G.hs];simpa using q6) (by rw[G.hs];simpa using q7) ((snd n).a b X _ cs G ha) hw so) fun D σ H q=>DC q
        ·cases h3
       ·cases h3
theorem re{line:Nat}(h:pK v=false):V2 v none line X.env=pure false:=by
 unfold V2;cases v <;> first |rfl |(exact absurd h (fun z=>Zd z.symm))
structure SndS(T:Tab)(C:Calls)(ar:Nat->Nat)(k n:Nat):Prop where
 s:∀ (b:Blk) (X:Cx) (s:Stmt) (c:CS),CtxOk T C ar k b X->X.env.scope.kind = .function->IK T n b s c=true->PS X s (tSt X.K (evS C ar n c))
 ss:∀ (b:Blk) (X:Cx) (s:List Stmt) (c:List CS),CtxOk T C ar k b X->X.env.scope.kind = .function->nP T n b s c=true->PSs X s (tSt X.K (fc C ar n c))
theorem ML{K:W0}{D:Ends}{σ:L2.St}{H:Hp}(h:tSt K Dx D σ H):False:=by
 obtain⟨m,ρ,S,fl,ρ',S',E,R,e,q⟩:=h;cases e
theorem IM:∀n,SndS T C ar k n
 |0=>⟨fun b X s c _ _ h=>absurd h Zd,fun b X s c _ _ h=>absurd h Zd⟩
 |n+1=>by
  have ih:=IM n;refine⟨fun b X s c G hk h=>?_,fun b X ss cs G hk h=>?_⟩
  ·have hp:PassesOwn (model X.prog X.w) X.A X.env X.xe:=by rw[G.xe];exact PassesOwn.never
   cases c with
   |asg t e=>obtain⟨tg,v,p,rfl,h1⟩:=pL h;exact IL G hk h1
   |setI v o i=>
    obtain⟨x,y,px,z,p,rfl,h1,h2,h3,pl⟩:=Dz h
    exact PS.imp (iI ((snd n).e b X z v G h1) (se ((snd n).e b X x o G h2) ((snd n).e b X y i G h3) zu (fun v=>by
     cases y <;> first | rfl | (exact absurd pl Zd))) (lH fun x p z=>nomatch z) (il (.inr (.inr ⟨_,_,_,rfl⟩))) rfl) fun D σ H q=>C8 q
   |swp v o i q j=>
    obtain⟨t1,t2,kt,pt,es,ke,pe,p,rfl,h1,h2,h3,h4⟩:=IH h;obtain⟨x1,y1,q1,rfl,a1,a2,pl1⟩:=Ak h2;obtain⟨x2,y2,q2,rfl,b1,b2,pl2⟩:=Ak h3;have hb:=pM hk
    exact PS.imp (iI ((snd n).e b X _ v G h1) (yo G.calm (km (se ((snd n).e b X x1 o G a1) ((snd n).e b X y1 i G a2) zu (fun v=>by
     cases y1 <;> first | rfl | (exact absurd pl1 Zd))) (km (se ((snd n).e b X x2 q G b1) ((snd n).e b X y2 j G b2) zu (fun v=>by
     cases y2 <;> first | rfl | (exact absurd pl2 Zd))) uD))) (lH fun x p z=>nomatch z) (Gf hb G.hs h4) rfl) fun D σ H q=>Ii q
   |ex e=>obtain⟨v,p,rfl,h1,h2⟩:=Gi h;exact PS.imp (uz ((snd n).e b X v e G h1) (re h2)) fun D σ H q=>C7 q
   |ret e=>obtain⟨v,p,rfl,h1⟩:=lI h;exact PS.imp (r9 ((snd n).e b X _ _ G h1)) fun D σ H q=>Ig q
   |ifs c x y=>obtain⟨t,p,q,r,rfl,h1,h2,h3⟩:=Al h;exact PS.imp (uA ((snd n).t b X _ _ G h1) (ih.ss b X _ _ G hk h2) (ih.ss b X _ _ G hk h3)) fun D σ H q=>Mt q
   |for_ t it x=>
    obtain⟨tg,i,p,pos,rfl,h1,h2⟩:=II h;have h1:=an2 h1;exact PS.imp (G3 hp G.calm ((snd n).i [] b X _ _ _ G h1.1) (gg G h1.2) (ih.ss b X _ _ G hk h2) (gf h1.1 (fun e he env=>eF he) X.env)) fun D σ H q=>Ij q
   |cnt=>obtain⟨p,rfl⟩:=IJ h;exact PS.imp qf fun D σ H q=>Ih q
   |never=>exact PS.imp qg fun D σ H q=>(ML q).elim
  ·cases cs with
   |nil=>rw[cp h];exact PSs.imp g9 fun D σ H q=>C6 q
   |cons c cs=>
    obtain⟨s,ss,rfl,h⟩:=bO h;have h:=an2 h;exact PSs.imp (bx (ih.s b X s c G hk h.1) (ih.ss b X ss cs G hk h.2)) fun D σ H q=>Ie q
end
noncomputable def wIs(b:Blk)(x:Str)(e:Expr):Bool:=pD b "isinstance" (gy fun y=>b.N[0]? == some y && b.vis y) (gy fun y=>y == x && b.glo y) e
noncomputable def tY(k:Str->Expr->Bool):List Str->List Expr->Bool
 |[],es=>es.isEmpty
 |x::xs,es=>lC es fun e es=>aG e && k x e && tY k xs es
noncomputable def wV(b:Blk)(i:Nat)(e:Expr):Bool:=gy (fun y=>b.N[i]? == some y && b.vis y) e
noncomputable def wTg(b:Blk)(i:Nat)(e:Expr):Bool:=gy (fun y=>b.N[i]? == some y && b.own y) e
noncomputable def wMt(b:Blk)(m:Str)(e:Expr):Bool:=xu m (wV b 1) (fun es=>l1 es fun e=>sBl true e) e
noncomputable def vp(b:Blk)(cs:List Str)(s:Stmt):Bool:=Ai (fun tg v=>wTg b 1 tg && Di .Add (wV b 1) (xr (tY (wIs b) cs)) v) s
noncomputable def MM(b:Blk)(cs:List Str)(s:Stmt):Bool:=Ai (fun tg v=>wTg b 1 tg && xr (tY (wIs b) cs) v) s
noncomputable def MN(b:Blk)(s:Stmt):Bool:=zIf (xt .Or (Dk .NotEq (wMt b "count") (zV 1)) (Dj (wIs b "ValueError"))) (fun ss=>l1 ss fun s=>xy (xq "other") s) (fun ss=>ss.isEmpty) s
noncomputable def MO(b:Blk)(ws:List Str)(s:Stmt):Bool:=Ai (fun tg v=>wTg b 2 tg && xr (tY xq ws) v) s
noncomputable def MP(b:Blk)(ws:List Str)(s:Stmt):Bool:=xy (sIx (Di .Add (wV b 2) (xr (tY xq ws))) (wMt b "index")) s
noncomputable def tZ(b:Blk)(cs ws:List Str)(ss:List Stmt):Bool:=
 gI b.N && b.N.length == 3 && b.glo "isinstance" && lC ss fun s1 ss=>lC ss fun s2 ss=>lC ss fun s3 ss=>lC ss fun s4 ss=>lC ss fun s5 ss=>lC ss fun s6 ss=>l1 ss fun s7=>
  MM b (cs.take 4) s1 && vp b ((cs.drop 4).take 4) s2 && vp b ((cs.drop 8).take 4) s3 && vp b (cs.drop 12) s4 && MN b s5 && (MO b (ws.take 12) s6 && MP b (ws.drop 12) s7)
def i5(H H2:Hp):Prop:=∀p o,H p=some o->H2 p=some o
theorem i5.upd(h:H p=none):i5 H (L2.upd H p o):=fun q u e=>by rw[az (aK e h)];exact e
theorem i5.trans(a:i5 H H1)(b:i5 H1 H2):i5 H H2:=fun p o e=>b p o (a p o e)
section
variable {X:Cx}
theorem xD:MtR X "list.count" (fun x vs H Q=>∃l xs y,x = .ref l/\vs=[y]/\H l=some (.lst xs)/\bD y=true/\xs.all bD=true/\Q (.int ((xs.countP fun z=>eqV z y:Nat):Int)) H):=by
 intro pins s σ H x vs v us Q I rx rv h;obtain⟨p,xs,y,rfl,rfl,hq,fy,fs,q⟩:=h;cases rx;obtain⟨u,rfl,ru⟩:=rv.one;obtain⟨_,its,n,r,e⟩:=I.hok p _ hq;refine Vv Wy ⟨_,e,rfl⟩ PySem.F.entry_list_count (PySem.F.args_list_count_2 _ _) (SeqAt.list_countAt p its.toArray n none #[] u (eqU y)) ⟨e,fun w hw=>cj ru fy r fs w (by simpa using hw),?_⟩;refine⟨.int _,H,I.tok _,⟨_,rfl⟩,?_⟩
 have z:(its.toArray.toList.countP (eqU y))=xs.countP fun z=>eqV z y:=by
  rw[Xl];exact gJ r fs
 rw[z];exact q
theorem xE:MtR X "list.index" (fun x vs H Q=>∃l xs y,∃j:Nat,∃z,x = .ref l/\vs=[y]/\H l=some (.lst xs)/\bD y=true/\xs.all bD=true/\j < 100/\xs[j]?=some z/\eqV z y=true/\(∀ (m:Nat) z,m < j->xs[m]?=some z->eqV z y=false)/\Q (.int (j:Int)) H):=by
 intro pins s σ H x vs v us Q I rx rv h;obtain⟨p,xs,y,j,z,rfl,rfl,hq,fy,fs,hj,hz,hit,hno,q⟩:=h;cases rx;obtain⟨u,rfl,ru⟩:=rv.one;obtain⟨_,its,n,r,e⟩:=I.hok p _ hq
 have at_:∀m (hm:m < its.toArray.size),∃w,xs[m]?=some w/\eqU y its.toArray[m]=eqV w y:=fun m hm=>by
  have hm':m < xs.length:=by rw[r.length];simpa using hm
  obtain⟨u',hu,rr⟩:=r.get (i:=m) (gEG hm');refine⟨xs[m],gEG hm',?_⟩
  have e1:its.toArray[m]=u':=by
   have:=Zc.mp hu;obtain⟨_,z⟩:=this
   simpa using z
  rw[e1];exact oO rr (ZJ.mp fs _ (ZC hm'))
 have hjs:j < its.toArray.size:=by have:=(Zc.mp hz).1;rw[r.length] at this;simpa using this
 refine Vv Wz ⟨_,e,rfl⟩ PySem.F.entry_list_index (PySem.F.args_list_index_2 _ _) (SeqAt.list_indexAt p its.toArray n none #[] u (eqU y) j hjs (by lia) ?_ ?_) ⟨e,fun w hw=>cj ru fy r fs w (by simpa using hw),?_⟩
 ·obtain⟨w,hw,e1⟩:=at_ j hjs;rw[hz] at hw;cases hw;rw[e1];exact hit
 ·intro m hm hlt;obtain⟨w,hw,e1⟩:=at_ m hm;rw[e1];exact hno m w hlt hw
 ·exact⟨.int _,H,I.tok _,⟨_,rfl⟩,q⟩
end
section
variable {X:Cx} {b:Blk} {a C R:Addr}
theorem rf(hs:X.env.scope=b.sc)(h:b.glo x=true):Gl X x/\(x == ("__debug__" : Str))=false:=by
 unfold Blk.glo at h;rw[bAE] at h;refine⟨?_,by simpa using h.2⟩;show X.env.scope.names.lookup x=_;rw[hs]
 simpa using h.1
theorem nQ(hs:X.env.scope=b.sc)(hN:X.N=b.N){i:Nat}(h:wV b i e=true):PE X e (GR i):=by
 obtain⟨x,p,rfl,hh⟩:=cK h;obtain⟨h1,h2⟩:=an2 hh;unfold Blk.vis at h2;rw[bAE,bAE] at h2;refine rZ (i:=i) (by rw[hN];exact eq_of_beq h1) ?_ (by simpa using h2.1.2) (by simpa using h2.2);unfold Vis;rw[hs];have h3:=h2.1.1;split at h3
 ·rename_i e;exact .inl e
 ·rename_i e;exact .inr (.inl e)
 ·rename_i e;exact .inr (.inr e)
 ·cases h3
theorem Ao(hC:bp X.base C (.ref R::bmV))(hR:bp X.base R bmV):aM X (.builtin "isinstance") (fun xs H Q=>∃D,xs=[.ref a,.ref D]/\H a=some (exO a C)/\nI X.base D/\D ≠ R/\Q (.bl (C == D)) H):=by
 intro pins s σ H xs us Q I rs h;obtain⟨D,rfl,ha,⟨dd,cd,sl,hD⟩,hr,q⟩:=h;cases rs with
 |cons r1 rs=>
  cases rs with
  |cons r2 rs=>
   cases rs;cases r1;cases r2;exact isx (hC.keeps I.bk) (hR.keeps I.bk) (I.hok a _ ha).1 ⟨dd,cd,sl,I.bk _ _ hD⟩ hr fun tk=>⟨.bl _,H,I.tok _,rfl,q⟩
theorem Ap(hC:bp X.base C (.ref R::bmV))(hR:bp X.base R bmV):aM X (.builtin "isinstance") (fun xs H Q=>xs=[.ref a,.ty "ValueError"]/\H a=some (exO a C)/\Q (.bl true) H):=by
 intro pins s σ H xs us Q I rs h;obtain⟨rfl,ha,q⟩:=h;cases rs with
 |cons r1 rs=>
  cases rs with
  |cons r2 rs=>
   cases rs;cases r1;cases r2;exact isv (hC.keeps I.bk) (hR.keeps I.bk) (I.hok a _ ha).1 fun tk=>⟨.bl _,H,I.tok _,rfl,q⟩
theorem OZ(hs:X.env.scope=b.sc)(hN:X.N=b.N)(hb:X.mg "isinstance" = none)(hC:bp X.base C (.ref R::bmV))(hR:bp X.base R bmV){x:Str}{D:Addr}{e:Expr}(hm:X.mg x=some (.ref D))(h:wIs b x e=true) :
  PE X e (fun σ H Q=>σ[0]?=some (some (.ref a))/\H a=some (exO a C)/\nI X.base D/\D ≠ R/\Q (.bl (C == D)) H):=by
 obtain⟨x1,y,p,p',rfl,h2,h5,h6,h7,_⟩:=dP h;obtain⟨y,p'',rfl,h8⟩:=cK h7;obtain⟨h3,h4⟩:=an2 h8;have hy:=eq_of_beq h3;subst hy;exact PE.imp (dH (Ao (a:=a) hC hR) (rf hs h2).1 hb Wi (cr (nQ hs hN h5) (bI (uy (v:=.ref D) (rf hs h4).1 hm rfl (rf hs h4).2) rfl) h6) (by decide) (rf hs h2).2 (aj h6) rfl) fun σ H Q q=>⟨_,q.1,D,rfl,q.2.1,q.2.2.1,q.2.2.2.1,q.2.2.2.2⟩
theorem MQ(hs:X.env.scope=b.sc)(hN:X.N=b.N)(hb:X.mg "isinstance" = none)(hv:X.mg "ValueError" = none)(hC:bp X.base C (.ref R::bmV))(hR:bp X.base R bmV)(h:wIs b "ValueError" e=true) :
  PE X e (fun σ H Q=>σ[0]?=some (some (.ref a))/\H a=some (exO a C)/\Q (.bl true) H):=by
 obtain⟨x1,y,p,p',rfl,h2,h5,h6,h7,_⟩:=dP h;obtain⟨y,p'',rfl,h8⟩:=cK h7;obtain⟨h3,h4⟩:=an2 h8;have hy:=eq_of_beq h3;subst hy;exact PE.imp (dH (Ap (a:=a) hC hR) (rf hs h2).1 hb Wi (cr (nQ hs hN h5) (bI (fX (v:=.ty "ValueError") (rf hs h4).1 hv PyProof.Rows.Boot.«ValueError» rfl (by decide) (rf hs h4).2) rfl) h6) (by decide) (rf hs h2).2 (aj h6) rfl) fun σ H Q q=>⟨_,q.1,rfl,q.2.1,q.2.2⟩
inductive Cls2(X:Cx)(R:Addr):List Str->List Addr->Prop
 |nil:Cls2 X R [] []
 |cons {x:Str} {D:Addr} {xs:List Str} {Ds:List Addr}:X.mg x=some (.ref D)->nI X.base D->D ≠ R->Cls2 X R xs Ds->Cls2 X R (x::xs) (D::Ds)
theorem Aq(hs:X.env.scope=b.sc)(hN:X.N=b.N)(hb:X.mg "isinstance" = none)(hC:bp X.base C (.ref R::bmV))(hR:bp X.base R bmV):∀ {cs:List Str} {Ds:List Addr} {es:List Expr},Cls2 X R cs Ds->tY (wIs b) cs es=true ->
  PA X es (fun σ H Q=>σ[0]?=some (some (.ref a))/\H a=some (exO a C)/\Q (Ds.map fun D=>.bl (C == D)) H)
 |_,_,es,.nil,h=>by rw[cp h];exact PA.imp oH fun σ H Q q=>q.2.2
 |_,_,es,.cons h1 h2 h3 t,h=>by
  obtain⟨e,es,rfl,h⟩:=bO h;obtain⟨p1,p2,p3⟩:=an3 h;exact PA.imp (cr (OZ hs hN hb hC hR h1 p2) (Aq hs hN hb hC hR t p3) p1) fun σ H Q q=>⟨q.1,q.2.1,h2,h3,q.1,q.2.1,q.2.2⟩
theorem t5:∀ {ws:List Str} {es:List Expr},tY xq ws es=true->PA X es (fun σ H Q=>Q (ws.map V.str) H)
 |[],es,h=>by rw[cp h];exact PA.imp oH fun σ H Q q=>q
 |w::ws,es,h=>by
  obtain⟨e,es,rfl,h⟩:=bO h;obtain⟨p1,p2,p3⟩:=an3 h;obtain⟨_,_,rfl⟩:=tP p2;exact PA.imp (cr oG (t5 p3) p1) fun σ H Q q=>q
theorem IO(hs:X.env.scope=b.sc)(hN:X.N=b.N)(hf:X.fn=fun _=>true)(hnd:b.N.Nodup){i:Nat}(h:wTg b i e=true):∃x p,e = .Name x p/\PG X e (mR i):=by
 obtain⟨x,p,rfl,hh⟩:=cK h;obtain⟨h1,h2⟩:=an2 hh;refine⟨x,p,rfl,uB (by rw[hN];exact hnd) (by rw[hN];exact eq_of_beq h1) ?_ (.inl (by rw[hf]))⟩;unfold Blk.own at h2;unfold L2.Loc;rw[hs];split at h2
 ·rename_i e;exact .inl e
 ·rename_i e;exact .inr e
 ·cases h2
theorem t6{line:Nat}(hk:X.env.blockKind = .function)(hs:X.env.scope=b.sc)(h:tW e=none):V3 [.Name x p] e line X.env=pure false:=by
 have z:=Ag (sc:=b.sc) (v:=e) (t:=x) (pos:=p) (line:=line) hk hs;unfold swW at z;rw[h] at z;exact z
def xF(a C:Addr)(σ:L2.St)(H:Hp):Prop:=σ.length=3/\σ[0]?=some (some (.ref a))/\H a=some (exO a C)
theorem fA{i:Nat}(x:xF a C σ H)(hi:i ≠ 0)(e:i5 H H2):xF a C (σ.set i (some v)) H2:=⟨by simpa using x.1,by rw[ZN hi];exact x.2.1,e _ _ x.2.2⟩
variable (hk:X.env.blockKind = .function) (hs:X.env.scope=b.sc) (hN:X.N=b.N) (hf:X.fn=fun _=>true) (hnd:b.N.Nodup) (hb:X.mg "isinstance" = none) (hv:X.mg "ValueError" = none) (hC:bp X.base C (.ref R::bmV)) (hR:bp X.base R bmV)
include hk hs hN hf hnd hb hC hR in
theorem MR(c2:Cls2 X R cs Ds)(hl:Ds.length<=100)(h:MM b cs s=true):PS X s (fun D σ H=>xF a C σ H/\∀q H2,i5 H H2->H2 q=some (.lst (Ds.map fun D=>.bl (C == D)))->D.nx (σ.set 1 (some (.ref q))) H2):=by
 obtain⟨tg,v,p,rfl,h⟩:=pL h;obtain⟨h1,h2⟩:=an2 h;obtain⟨x,p1,rfl,g⟩:=IO hs hN hf hnd h1;obtain⟨es,p2,rfl,h2⟩:=lp h2;refine PS.imp (iI (ku (Aq (a:=a) hs hN hb hC hR c2 h2)) g (t6 hk hs rfl) (il (.inr (.inl ⟨_,_,rfl⟩))) rfl) fun D σ H ⟨e,q⟩=>?_;exact⟨e.2.1,e.2.2,by rw[Za,VX];lia,fun l hl=>q l _ (i5.upd hl) aH⟩
include hk hs hN hf hnd hb hC hR in
theorem t7(c2:Cls2 X R cs Ds)(hl:Ds.length<=100)(h:vp b cs s=true):PS X s (fun D σ H=>xF a C σ H/\∃l xs,σ[1]?=some (some (.ref l))/\H l=some (.lst xs)/\xs.length<=100/\∀q H2,i5 H H2->H2 q=some (.lst (xs++Ds.map fun D=>.bl (C == D)))->D.nx (σ.set 1 (some (.ref q))) H2):=by
 obtain⟨tg,v,p,rfl,h⟩:=pL h;obtain⟨h1,h2⟩:=an2 h;obtain⟨x,p1,rfl,g⟩:=IO hs hN hf hnd h1;obtain⟨y,z,p3,rfl,h3,h4⟩:=tQ h2;obtain⟨es,p2,rfl,h4⟩:=lp h4;refine PS.imp (iI (yt sE (nQ hs hN h3) (ku (Aq (a:=a) hs hN hb hC hR c2 h4))) g (t6 hk hs rfl) (il (.inr (.inl ⟨_,_,rfl⟩))) rfl) fun D σ H ⟨e,l,xs,hl1,hl2,hl3,q⟩=>?_;refine⟨_,hl1,e.2.1,e.2.2,by rw[Za,VX];lia,fun p hp=>?_⟩;refine⟨l,p,xs,_,rfl,rfl,i5.upd hp _ _ hl2,aH,by rw[Za,VX];lia,fun r hr=>?_⟩;exact q r _ ((i5.upd hp).trans (i5.upd hr)) aH
include hs hN in
theorem MS(h:wMt b "count" e=true):PE X e (fun σ H Q=>∃l xs,σ[1]?=some (some (.ref l))/\H l=some (.lst xs)/\xs.all bD=true/\Q (.int ((xs.countP fun z=>eqV z (.bl true):Nat):Int)) H):=by
 obtain⟨x,ap,es,p,rfl,h2,h3,h4,h5⟩:=iY h;obtain⟨y,rfl,h5⟩:=cx h5;obtain⟨_,_,rfl⟩:=zY h5;exact PE.imp (mX Ww Wy PySem.F.type_list_count xD (nQ hs hN h4) (bI yg rfl) (b8 h2) (ij rfl) h3 (aj rfl) rfl) fun σ H Q ⟨l,xs,h1,h2,h3,q⟩=>⟨_,h1,.inl ⟨rfl,xs,SqL.of h2⟩,l,xs,.bl true,rfl,rfl,h2,rfl,h3,q⟩
include hs hN in
theorem MT(h:wMt b "index" e=true):PE X e (fun σ H Q=>∃l xs,∃j:Nat,∃z,σ[1]?=some (some (.ref l))/\H l=some (.lst xs)/\xs.all bD=true/\j < 100/\xs[j]?=some z/\eqV z (.bl true)=true/\(∀ (m:Nat) z,m < j->xs[m]?=some z->eqV z (.bl true)=false)/\Q (.int (j:Int)) H):=by
 obtain⟨x,ap,es,p,rfl,h2,h3,h4,h5⟩:=iY h;obtain⟨y,rfl,h5⟩:=cx h5;obtain⟨_,_,rfl⟩:=zY h5;exact PE.imp (mX Ww Wz PySem.F.type_list_index xE (nQ hs hN h4) (bI yg rfl) (b8 h2) (ij rfl) h3 (aj rfl) rfl) fun σ H Q ⟨l,xs,j,z,h1,h2,h3,q⟩=>⟨_,h1,.inl ⟨rfl,xs,SqL.of h2⟩,l,xs,.bl true,j,z,rfl,rfl,h2,rfl,h3,q⟩
include hs hN hb hv hC hR in
theorem MU(h:MN b s=true):PS X s (fun D σ H=>xF a C σ H/\(∃l xs,σ[1]?=some (some (.ref l))/\H l=some (.lst xs)/\xs.all bD=true/\(xs.countP fun z=>eqV z (.bl true))=1)/\D.nx σ H):=by
 obtain⟨t,p,q,r,rfl,h1,h2,h3⟩:=Al h;obtain⟨s,rfl,h2⟩:=cx h2;obtain⟨v,p',rfl,h2⟩:=lI h2;obtain⟨_,_,rfl⟩:=tP h2;rw[cp h3];obtain⟨x,y,p2,rfl,h4,h5⟩:=ls h1;obtain⟨l,z,p3,rfl,h6,h7,h8⟩:=tS h4;obtain⟨_,_,rfl⟩:=pE h7;obtain⟨w,p4,rfl,h9⟩:=tR h5
 have hw:Dg w=true:=by
  obtain⟨_,_,_,_,rfl,_⟩:=dP h9;rfl
 refine PS.imp (uA (yj (uF LS (MS hs hN h6) oE (eD rfl)) (yh (yk (GU (MQ (a:=a) hs hN hb hv hC hR h9) (lw hw))))).pt (hF (r9 oG)) g9) fun D σ H ⟨e,⟨l,xs,h1,h2,h3,h4⟩,q⟩=>?_;refine⟨l,xs,h1,h2,h3,rfl,_,rfl,?_⟩;rw[h4];show if (!decide (V.int ((1:Nat):Int)=V.int 1))=true then _ else _
 rw[if_neg (by decide)];refine⟨e.2.1,e.2.2,true,rfl,?_⟩;show if (!true)=true then _ else _
 rw[if_neg (by decide)];exact q
include hk hs hN hf hnd in
theorem MV(hl:ws.length<=100)(h:MO b ws s=true):PS X s (fun D σ H=>∀q H2,i5 H H2->H2 q=some (.lst (ws.map V.str))->D.nx (σ.set 2 (some (.ref q))) H2):=by
 obtain⟨tg,v,p,rfl,h⟩:=pL h;obtain⟨h1,h2⟩:=an2 h;obtain⟨x,p1,rfl,g⟩:=IO hs hN hf hnd h1;obtain⟨es,p2,rfl,h2⟩:=lp h2;refine PS.imp (iI (ku (t5 h2)) g (t6 hk hs rfl) (il (.inr (.inl ⟨_,_,rfl⟩))) rfl) fun D σ H q=>?_;exact⟨by rw[Za,VX];lia,fun l hl=>q l _ (i5.upd hl) aH⟩
include hs hN in
theorem MW(hl:ws.length<=100)(h:MP b ws s=true):PS X s (fun D σ H=>∃l xs m ys,∃j:Nat,∃z w,σ[1]?=some (some (.ref l))/\H l=some (.lst xs)/\xs.all bD=true/\j < 100/\xs[j]?=some z/\eqV z (.bl true)=true/\(∀ (m:Nat) z,m < j->xs[m]?=some z->eqV z (.bl true)=false) ∧
  σ[2]?=some (some (.ref m))/\H m=some (.lst ys)/\ys.length<=100/\(ys++ws.map V.str)[j]?=some w/\∀H2,i5 H H2->D.rt w H2):=by
 obtain⟨v,p,rfl,h⟩:=lI h;obtain⟨x,y,p1,rfl,h1,h2,h3⟩:=Gc h;obtain⟨x1,x2,p2,rfl,h4,h5⟩:=tQ h1;obtain⟨es,p3,rfl,h5⟩:=lp h5;refine PS.imp (r9 (yA Ck (yt sE (nQ hs hN h4) (ku (t5 h5))) (MT hs hN h2) (lu h3))) fun D σ H ⟨l,xs,m,ys,j,z,w,a1,a2,a3,a4,a5,a6,a7,b1,b2,b3,b4,q⟩=>?_;refine⟨_,b1,by rw[Za,VX];lia,fun p hp=>⟨m,p,ys,_,rfl,rfl,i5.upd hp _ _ b2,aH,by rw[Za,VX];lia,fun r hr=>?_⟩⟩;refine⟨l,xs,j,z,a1,i5.upd hr _ _ (i5.upd hp _ _ a2),a3,a4,a5,a6,a7,r,_,(j:Int),w,rfl,rfl,SqL.of aH,?_,q _ ((i5.upd hp).trans (i5.upd hr))⟩;have hj:=(Zc.mp b4).1;unfold atI ixN;rw[if_pos (Int.natCast_nonneg j),if_pos (by lia)]
 simpa using b4
include hk hs hN hf hb hv hC hR in
theorem DE{cs ws:List Str}{Ds:List Addr}{i:Nat}{w:Str}{ss:List Stmt}(c1:Cls2 X R (cs.take 4) (Ds.take 4))(c2:Cls2 X R ((cs.drop 4).take 4) ((Ds.drop 4).take 4))(c3:Cls2 X R ((cs.drop 8).take 4) ((Ds.drop 8).take 4))(c4:Cls2 X R (cs.drop 12) (Ds.drop 12))
  (hl:Ds.length<=100) (hws:ws.length<=100) (hnd:Ds.Nodup) (hi:Ds[i]?=some C) (hw:ws[i]?=some w) (h:tZ b cs ws ss=true) :
  PSs X ss (fun D σ H=>xF a C σ H/\∀H2,i5 H H2->D.rt (.str w) H2):=by
 unfold tZ at h;obtain⟨h1,h2,_,k0⟩:=an4 h;clear h;obtain⟨s1,ss1,e1,k1⟩:=bO k0;subst e1;obtain⟨s2,ss2,e2,k2⟩:=bO k1;subst e2;obtain⟨s3,ss3,e3,k3⟩:=bO k2;subst e3;obtain⟨s4,ss4,e4,k4⟩:=bO k3;subst e4;obtain⟨s5,ss5,e5,k5⟩:=bO k4;subst e5;obtain⟨s6,ss6,e6,k6⟩:=bO k5;subst e6;obtain⟨s7,e7,k7⟩:=cx k6;subst e7;obtain⟨g1,g2,g3,g4,g5,g6⟩:=an6 k7;obtain⟨g6,g7⟩:=an2 g6;have nd:=fk h1;have t1:(Ds.take 4).length<=100:=by rw[Zs];lia
 have t2:((Ds.drop 4).take 4).length<=100:=by rw[Zs];lia
 have t3:((Ds.drop 8).take 4).length<=100:=by rw[Zs];lia
 have t4:(Ds.drop 12).length<=100:=by rw[ZV];lia
 refine PSs.imp (bx (MR (a:=a) hk hs hN hf nd hb hC hR c1 t1 g1) (bx (t7 (a:=a) hk hs hN hf nd hb hC hR c2 t2 g2) (bx (t7 (a:=a) hk hs hN hf nd hb hC hR c3 t3 g3) (bx (t7 (a:=a) hk hs hN hf nd hb hC hR c4 t4 g4) (bx (MU (a:=a) hs hN hb hv hC hR g5)
  (bx (MV hk hs hN hf nd (by rw[Zs];lia) g6) (hF (MW hs hN (by rw[ZV];lia) g7))))))) ) fun D σ H ⟨e,q⟩=>?_
 have el:=e.1;refine⟨e,fun q1 H1 x1 y1=>?_⟩;have e1:=fA (v:=.ref q1) e (by decide:1 ≠ 0) x1;refine⟨e1,q1,_,by rw[ZI (by lia)],y1,by rw[Za];exact t1,fun q2 H2 x2 y2=>?_⟩;have e2:=fA (v:=.ref q2) e1 (by decide:1 ≠ 0) x2;refine⟨e2,q2,_,by rw[ZI (by have:=e1.1;lia)],y2,by rw[Zh,Za,Za,Zs,Zs];lia,fun q3 H3 x3 y3=>?_⟩;have e3:=fA (v:=.ref q3) e2 (by decide:1 ≠ 0) x3;refine⟨e3,q3,_,by rw[ZI (by have:=e2.1;lia)],y3,by rw[Zh,Zh,Za,Za,Za,Zs,Zs,Zs];lia,fun q4 H4 x4 y4=>?_⟩;have e4:=fA (v:=.ref q4) e3 (by decide:1 ≠ 0) x4
 have all:(((Ds.take 4).map (fun D=>V.bl (C == D))++((Ds.drop 4).take 4).map (fun D=>V.bl (C == D)))++((Ds.drop 8).take 4).map (fun D=>V.bl (C == D)))++(Ds.drop 12).map (fun D=>V.bl (C == D))=Ds.map fun D=>V.bl (C == D):=by
  rw[<-Zv,<-Zv,<-Zv]
  congr 1
  have z1:Ds.take 4++(Ds.drop 4).take 4=Ds.take 8:=by rw[show 8=4+4 from rfl,X9]
  have z2:Ds.take 8++(Ds.drop 8).take 4=Ds.take 12:=by rw[show 12=8+4 from rfl,X9]
  rw[z1,z2,Xb]
 rw[all] at y4;have fl:(Ds.map fun D=>V.bl (C == D)).all bD=true:=by rw[Yx];exact ZJ.mpr fun _ _=>rfl
 have hev:∀D:Addr,eqV (V.bl (C == D)) (.bl true)=(C == D):=fun D=>by cases C == D <;> rfl
 have at_:∀ (m:Nat) z,(Ds.map fun D=>V.bl (C == D))[m]?=some z->∃D,Ds[m]?=some D/\z = .bl (C == D):=fun m z hz=>by
  rw[Zn] at hz;cases hd:Ds[m]? with
  |none=>rw[hd] at hz;cases hz
  |some D=>rw[hd] at hz;cases hz;exact⟨D,rfl,rfl⟩
 refine⟨e4,⟨q4,_,by rw[ZI (by have:=e3.1;lia)],y4,fl,?_⟩,fun q5 H5 x5 y5=>?_⟩
 ·rw[X0]
  have:((fun z=>eqV z (V.bl true)) ∘ fun D=>V.bl (C == D))=fun D=>D == C:=by
   funext D
   show eqV (V.bl (C == D)) (.bl true)=_;rw[hev,Bool.beq_comm]
  rw[this];show Ds.count C=1;rw[hnd.count,if_pos (Zf hi)]
 ·have e5:=fA (v:=.ref q5) e4 (by decide:2 ≠ 0) x5;have hil:=(Zc.mp hi).1;refine⟨q4,_,q5,_,i,.bl (C == C),.str w,?_,x5 _ _ y4,fl,by lia,by rw[Zn,hi];rfl,by rw[hev,beq_self_eq_true],fun m z hm hz=>?_,?_,y5,by rw[Za,Zs];lia,?_,fun H6 x6=>?_⟩
  ·rw[ZN (by decide),ZI (by have:=e3.1;lia)]
  ·obtain⟨D,hD,rfl⟩:=at_ m z hz;rw[hev];refine XH.mpr fun q=>?_;have z:C=D:=by simpa using q
   subst z;obtain⟨i1,j1⟩:=Zc.mp hD;obtain⟨i2,j2⟩:=Zc.mp hi;have z2:m=i:=(YI hnd).mp (j1.trans j2.symm)
   lia
  ·rw[ZI (by have:=e4.1;lia)]
  ·rw[<-Zv,Xb,Zn,hw];rfl
  ·exact q H6 ((((x1.trans x2).trans x3).trans x4).trans (x5.trans x6))
end
section
variable {X:Cx}
theorem IP(h:PA X.nox es t):PA X es t:=fun pos pins s σ H Q I hw=>
 Uo (h pos pins s σ H Q (I.wish _) hw) (fun _ _ ⟨v,H',I',r,q⟩=>⟨v,H',I'.unwish,r,q⟩) fun _ _ z=>False.elim z
theorem IQ(h:PS X.nox s t):PS X s t:=fun pins s σ H D I hw=>
 Uo (h pins s σ H D (I.wish _) hw) (fun _ _ z=>SP.unwish z) fun _ _ z=>False.elim z
end
noncomputable abbrev cxM(P:Program)(w:World)(K:W0)(mg:Str->Option Value)(base:Heap)(N:List Str)(qual:Str)(scope:Scope)(f:Addr)(cd:Value)(A:Around)(outer:List Env)(s:Shared)(H:Hp):Cx:=
 { mE CX0 P w K mg base N qual scope f cd { A with handled:=none } outer s H E0 with A:=A.deeper (envOfC qual scope s.heap.objs.size f cd),calm:=false,xe:=fun _ _=>False }
section
variable {P:Program} {w:World} {K:W0} {mg:Str->Option Value} {base:Heap} {A:Around} {outer:List Env} {s:Shared} {H:Hp}
theorem Ar{x qual:Str}{st:Stmt}{f:Addr}{fd:WH}{N ps:List Str}{us:List Value}{vs:List V}{Q:VK}(F:Fun K x qual st f fd)(S:FnScope N ps (aq st))(hd:A.depth < recursionLimit)(e0:Env0 P w K mg base A outer s H)(hb:BindsTo s fd ⟨us,[]⟩ (ps.zip us))(r:aJ vs us)(hl:vs.length=ps.length)
  (hbody:∀cdv,∃t,PSs (cxM P w K mg base N qual (aq st) f cdv A outer s H) (bc st) t/\t { nx:=fun _ H'=>Q .non H',rt:=Q } (cZ N vs) H) :
  codeAny (model P w) A (.call (.ref f) ⟨us,[]⟩) (fun r s'=>match r with |.ok (.ret u)=>L2.CE outer P w H s Q u s' |_=>False) s:=by
 obtain⟨oc,od,kV,doc,pm,an,cdv,ct,osl,rfl,lk,hcd⟩:=F.ex;have KX:K.In s.heap:=e0.mod.kin.keeps fun b o e=>(e0.bs b o e).1;have lim:s.heap.NoLimit:=e0.mod.nolimit.keeps fun b o e=>(e0.bs b o e).1
 have hkind:∀y ∈ ps.zip us,(aq st).names.lookup y.1=some .local\/((aq st).names.lookup y.1=some .cell/\((Vw (s.heap.objs.size+1) (aq st).names []).lookup y.1).isSome=true):=fun⟨n,v⟩ hy=>by
  rcases S.par n (YL hy).1 with q |q
  ·exact .inl q
  ·exact .inr ⟨q,W2 _ _ _ (.inl q)⟩
 refine Vy hd (KX _ _ lk) rfl S.co S.gen rfl (W5 KX hcd) (hb _ _ _ _ ?_);refine Up S.kind hkind fun env he s1 x=>?_;subst he;refine⟨lim.keeps x.toInCall.keep,codeAny_func ?_⟩;obtain⟨t,ht,hq⟩:=hbody cdv;have e1:Env0 P w K mg base { A with handled:=none } outer s H:=⟨e0.frames,e0.mod,e0.bs,e0.bsz,e0.funs,e0.frf,e0.hok,e0.bare⟩;have I0:L2.Inv (mE CX0 P w K mg base N qual (aq st) f cdv { A with handled:=none } outer s H E0) [] (cZ N vs) H s1:=mW S rfl e1 hl r x
 have I:L2.Inv (cxM P w K mg base N qual (aq st) f cdv A outer s H) [] (cZ N vs) H s1:=
  ⟨⟨I0.ok.mod,I0.ok.kind,I0.ok.glob,I0.ok.blt,I0.ok.above,I0.ok.inj,I0.ok.has,I0.ok.cab,fun z=>(nomatch z),I0.ok.frames,I0.ok.stk,I0.ok.exf,I0.ok.bs,I0.ok.bsz,I0.ok.noex,I0.ok.exfs,I0.ok.funs,I0.ok.frf⟩,I0.os,I0.bare,I0.base,I0.loc,I0.cell,I0.free,I0.freeC,I0.pin,I0.hok,I0.len⟩
 refine Uo (ht [] s1 (cZ N vs) H _ I hq) (fun fl s' hs=>?_) fun e s' hs=>hs.elim
 have fin:∀ {σ':L2.St} {H':Hp} {v:V} {u:Value},L2.Inv (cxM P w K mg base N qual (aq st) f cdv A outer s H) [] σ' H' s'->aF v u->Q v H'->L2.CE outer P w H s Q u s':=
  fun {σ' H' v u} J rv q=>⟨v,H',J.os,J.bare,J.base,J.hok,rv,q⟩
 cases fl with
 |ret u=>
  obtain⟨v,σ',H',J,rv,q⟩:=hs;exact fin J rv q
 |next=>
  obtain⟨σ',H',J,q⟩:=hs;exact fin (v:=V.non) (u:=Value.none) J rfl q
 |brk=>
  obtain⟨_,_,_,q⟩:=hs;exact False.elim q
 |cont=>
  obtain⟨_,_,_,q⟩:=hs;exact False.elim q
end
noncomputable def rh:List Str:=["meadow", "sky", "landings", "order", "lot", "text", "name", "glider", "minute", "aim", "many", "bound", "deed", "row", "way"]
structure XInf(K:W0)(mg:Str->Option Value)(R:Addr)(Ds:List Addr):Prop where
 ring:mg "RingError" = some (.ref R)
 ve:mg "ValueError" = none
 isi:mg "isinstance" = none
 hR:∀h,K.In h->bp h R bmV
 hC:∀h,K.In h->∀ (i:Nat) C,Ds[i]?=some C->i < 14->bp h C (.ref R::bmV)
 hT:∀h,K.In h->∀D ∈ Ds,nI h D
 nd:Ds.Nodup
 nr:∀D ∈ Ds,D ≠ R
 nm:∀ (i:Nat) x,fe[i]?=some x->∃D,Ds[i]?=some D/\mg x=some (.ref D)
 len:Ds.length=15
section
variable {X:Cx} {R:Addr}
theorem vq:∀ {xs:List Str} {Ds:List Addr},xs.length=Ds.length->(∀ (i:Nat) x,xs[i]?=some x->∃D,Ds[i]?=some D/\X.mg x=some (.ref D))->(∀D ∈ Ds,nI X.base D/\D ≠ R)->Cls2 X R xs Ds
 |[],[],_,_,_=>.nil
 |x::xs,D::Ds,hl,h,g=>by
  obtain⟨D',e,hm⟩:=h 0 x rfl;cases e;exact .cons hm (g D Zi).1 (g D Zi).2 (vq (by simpa using hl) (fun i y hy=>h (i+1) y (by simpa using hy)) fun D hD=>g D (Zg _ hD))
theorem i6{n:Nat}(h:Cls2 X R xs Ds):Cls2 X R (xs.take n) (Ds.take n):=by
 induction h generalizing n with
 |nil=>rw[Xs,Xs];exact .nil
 |cons a b c _ ih=>cases n with
  |zero=>exact .nil
  |succ n=>exact .cons a b c ih
theorem i7{n:Nat}(h:Cls2 X R xs Ds):Cls2 X R (xs.drop n) (Ds.drop n):=by
 induction h generalizing n with
 |nil=>rw[Wa,Wa];exact .nil
 |cons a b c d ih=>cases n with
  |zero=>exact .cons a b c d
  |succ n=>exact ih
end
theorem noE(x:XLeft P w l H H' s B s')(f:B.get? e=none):H' e=none:=by
 cases q:H' e with
 |none=>rfl
 |some o=>obtain⟨z,q2⟩:=qV (x.hok e o q);rw[f] at q2;cases q2
section
variable {X:Cx} {R:Addr} {Ds:List Addr} {k f fw:Nat} {fd fdw:WH} {ps psW NW:List Str} {sp:Sp} {xf xw n:Str} {stw:Stmt} {e:Expr} {es:List Expr} {t:TA} {p pos rp np wp p2 p3 p4 hp tp:Pos} {i:Nat}
theorem DF(hst:X.stack=X.env::X.outer)(hfm:X.env.frame=some X.env.locals)(xi:XInf X.K X.mg R Ds)(F:FnOk X.prog X.w X.K X.mg X.base (CXE X.prog X.w) k f fd ps sp)(hr:Room k X.A)(hg:Gl X xf)(hm:X.mg xf=some (.ref f))(hk:Vb X.K (.ref f)=true)(hb:eR X.K fd ps [])(hA:PA X.nox (e::es) t)
  (he:VZ (e::es) X.env=(false,eval e X.env)::VZ es X.env) (hpl:(backTo pos (VZ es X.env)).any (·.1)=false) (hdb:(xf == ("__debug__" : Str))=false)
  (FW:Fun X.K xw xw stw fw fdw) (SW:FnScope NW psW (aq stw)) (bW:eR X.K fdw psW []) (h1W:psW.length=1) (cW:tZ ⟨aq stw,none,NW⟩ fe rh (bc stw)=true) (hgW:Gl X xw) (hmW:X.mg xw=some (.ref fw)) (hdw:(xw == ("__debug__" : Str))=false)
  (hN:X.N.Nodup) (hi:X.N[i]?=some n) (hl:X.env.scope.names.lookup n=some .local) (hgr:Gl X "RingError") (hn1:(n == ("__debug__" : Str))=false) (hn2:(n == ("__classdict__" : Str))=false) :
  PS X (.Try [.Return (some (.Call (.Name xf p) (e::es) [] pos)) rp] [.ExceptHandler (some (.Name "RingError" np)) (some n) [.Return (some (.Call (.Name xw wp) [.Name n p2] [] p3)) p4] hp] [] [] tp)
   (fun D σ H=>t σ H fun vs H1=>sp vs H1 D.rt fun c _ H2=>∃j C w,c = .ref C/\Ds[j]?=some C/\j < 14/\rh[j]?=some w/\∀H3,i5 H2 H3->D.rt (.str w) H3):=by
 intro pins s σ H D I h;refine wpAny_Try_except ?_;refine Uf (V9 (V8 (fW I hg hm ?_ hdb)));refine W1 (h₀:=X.base) I.ok.mod.kin hk (Uo (hA pos pins s σ H _ (I.wish _) h) (fun us s1 ⟨vs,H1,I1,r,q⟩=>⟨I1.unwish.kIn,?_⟩) fun _ _ z=>z.elim) he hpl;have I1:L2.Inv X pins σ H1 s1:=I1.unwish;have hlen:us.length=ps.length:=by rw[<-r.length];exact F.len _ _ _ _ q
 have hb':=hb s1 us I1.kIn (by rw[ZT];exact hlen);rw[ZT] at hb';refine wpAny_call (Vz (F.run X.A X.stack s1 H1 ⟨us,[]⟩ us vs _ _ hr I1.env0 hb' r q) fun r s' hq=>?_);cases r with
 |ok fl=>
  cases fl with
  |ret u=>
   obtain⟨v,H',I',rv,z⟩:=I1.after hq;exact⟨v,σ,H',I',rv,z⟩
  |next=>exact False.elim hq
  |brk=>exact False.elim hq
  |cont=>exact False.elim hq
 |error ev=>
  obtain⟨a,c,a0,H',B,rfl,fl,x,j,C,w,rfl,hj,hj14,hw,q⟩:=hq;have hC:=xi.hC _ I.ok.mod.kin j C hj hj14;have hR:=xi.hR _ I.ok.mod.kin;have hH':=noE x fl.2.1;refine Dq hst hfm I1 fl x hC hR hgr xi.ring (by decide) hN hi hl fun s6 I6=>?_;refine Uf (V9 (V8 (fW (X:=Cx.mk X a) I6 hgW hmW ?_ hdw)));have hiσ:i < σ.length:=by rw[I.len];exact(Zc.mp hi).1
  refine W1 (h₀:=X.base) I.ok.mod.kin FW.kp (Uo ((bI (X:=Cx.mk X a) (rZ (i:=i) hi (.inl hl) hn1 hn2) rfl) p3 pins s6 _ _ (fun vs H7=>vs=[.ref a]/\H7=upd H' a (exO a C)) I6 ⟨_,ZI hiσ,rfl,rfl⟩) (fun us s7 ⟨vs,H7,I7,r,hvs,hH7⟩=>⟨I7.kIn,?_⟩) fun _ _ z=>z.elim) rfl rfl;subst hvs hH7;have hlW:us.length=psW.length:=by rw[<-r.length,h1W];rfl
  have hbW:=bW s7 us I7.kIn (by rw[ZT];exact hlW);rw[ZT] at hbW;have hdep:X.A.depth < recursionLimit:=hr.depth;refine wpAny_call (Vz (Ar (Q:=fun v H8=>v = .str w/\i5 (upd H' a (exO a C)) H8) FW SW hdep I7.env0 hbW r (by rw[h1W];rfl) fun cdv=>?_) fun r s8 hq=>?_)
  ·have c2:Cls2 (cxM X.prog X.w X.K X.mg X.base NW xw (aq stw) fw cdv (Cx.mk X a).A X.stack s7 (upd H' a (exO a C))) R fe Ds:=vq (by rw[xi.len];rfl) xi.nm fun D hD=>⟨xi.hT _ I.ok.mod.kin D hD,xi.nr D hD⟩;refine⟨_,DE (X:=cxM X.prog X.w X.K X.mg X.base NW xw (aq stw) fw cdv (Cx.mk X a).A X.stack s7 (upd H' a (exO a C))) (b:=⟨aq stw,none,NW⟩) (a:=a) (C:=C) (pM SW.kind) rfl rfl rfl xi.isi xi.ve hC hR (i6 c2) (i6 (i7 c2)) (i6 (i7 c2)) (i7 c2) (by rw[xi.len];decide) (by decide) xi.nd hj hw cW,⟨?_,?_,aH⟩,fun H2 x2=>⟨rfl,x2⟩⟩
   ·unfold tZ at cW;have:=(an4 cW).2.1;have hl3:NW.length=3:=by simpa using this
    unfold L2.cZ;rw[Zh,YH,Za,hl3];rfl
   ·rfl
  ·cases r with
   |ok fl=>
    cases fl with
    |ret u=>
     obtain⟨v,H8,I8,rv,rfl,z⟩:=I7.after hq;exact⟨u,_,_,H8,rfl,I8,rv,q H8 ((i5.upd hH').trans z)⟩
    |next=>exact False.elim hq
    |brk=>exact False.elim hq
    |cont=>exact False.elim hq
   |error ev=>exact False.elim hq
end
inductive RS where
 |pl (s:CS) |ck (f:Nat) (es:List CE) |rz (c:CE) (i:Nat) |tr (f:Nat) (es:List CE)
inductive RR where
 |val (d:D) |exc (i:Nat)
structure DefE where
 x:Str
 st:Stmt
 N:List Str
 ps:List Str
 body:List CS
 rb:Option (List RS)
noncomputable def FU:Nat:=60
noncomputable def cu(ae:List DefE)(f:Nat):Nat:=match ae[f]? with
 |some d=>d.ps.length
 |none=>0
abbrev fB:=Nat->List D->Sto->Option (RR × Sto)
noncomputable def toC(g:fB):Calls:=fun f ds S=>match g f ds S with
 |some (.val d,S')=>some (d,S')
 |_=>none
noncomputable def DG(C:Calls)(ar:Nat->Nat)(d:DefE)(ds:List D)(S:Sto):Option (D × Sto):=
 match fc C ar FU d.body (ds.map some++Zo (d.N.length - ds.length) none) S with
 |some (.rt v,_,S')=>some (v,S')
 |some (.nx,_,S')=>some (.non,S')
 |_=>none
noncomputable def xck(g:fB)(n f:Nat)(o:Option (List D × Sto))(k:RR->Sto->Option (RR × Sto)):Option (RR × Sto):=match o with
 | some (ds,S1)=>if ds.length=n then (match g f ds S1 with
  |some (r,S2)=>k r S2
  | none=>none) else none
 |none=>none
noncomputable def bX(g:fB)(ar:Nat->Nat):List RS->Rho->Sto->Option (RR × Sto)
 |[],_,S=>some (.val .non,S)
 | .pl s::r,ρ,S=>(match evS (toC g) ar 59 s ρ S with
  |some (.nx,ρ',S')=>bX g ar r ρ' S'
  |some (.rt v,_,S')=>some (.val v,S')
  | _=>none)
 | .ck f es::r,ρ,S=>xck g (ar f) f (evA (toC g) ar FU es ρ S) fun v S2=>(match v with
  |.val _=>bX g ar r ρ S2
  | .exc i=>some (.exc i,S2))
 | .rz c i::r,ρ,S=>(match evT (toC g) ar FU c ρ S with
  |some (true,S1)=>if i < 14 then some (.exc i,S1) else none
  |some (false,S1)=>bX g ar r ρ S1
  | none=>none)
 | .tr f es::_,ρ,S=>xck g (ar f) f (evA (toC g) ar FU es ρ S) fun v S2=>(match v with
  |.val d=>some (.val d,S2)
  | .exc i=>if i < 14 then (rh[i]?).map fun w=>(.val (.str w),S2) else none)
noncomputable def evX(ae:List DefE):Nat->fB
 |0=>fun _ _ _=>none
 |k+1=>fun f ds S=>match ae[f]? with
  | some d=>(match d.rb with
   |none=>(DG (toC (evX ae k)) (cu ae) d ds S).map fun r=>(.val r.1,r.2)
   | some rs=>bX (evX ae k) (cu ae) rs (ds.map some++Zo (d.N.length - ds.length) none) S)
  |none=>none
noncomputable def evC(ae:List DefE)(k:Nat):Calls:=toC (evX ae k)
noncomputable def As(N ps:List Str)(sc:Scope):Bool:=sc.kind == .function && sc.isCoroutine == false && sc.isGenerator == false && gI N && N.take ps.length == ps && (ps.all fun x=>sc.names.lookup x == some .local || sc.names.lookup x == some .cell) && sc.names.all fun y=>y.2 != .free
theorem vt(h:As N ps sc=true):FnScope N ps sc:=by
 unfold As at h;simp only[bAE,ZJ] at h;obtain⟨⟨⟨⟨⟨⟨h1,h2⟩,h3⟩,h4⟩,h5⟩,h6⟩,h7⟩:=h;refine⟨by simpa using h1,by simpa using h2,by simpa using h3,fk h4,by simpa using h5,fun x hx=>?_,fun y hy=>by simpa using h7 y hy⟩;have:=h6 x hx
 simpa using this
noncomputable def Au(e:Stmt)(k:Option Expr->Option Expr->Pos->Bool):Bool:=if h:e.ctorIdx=16 then @Stmt.Raise.elim (fun _=>Bool) e h k else false
theorem Av(h:Au e k=true):∃x0 x1 x2,e = .Raise x0 x1 x2/\k x0 x1 x2=true:=by
 obtain⟨h1,h⟩:=bG h;exact Stmt.Raise.elim (motive_2:=fun e=>∀h',@Stmt.Raise.elim (fun _=>Bool) e h' k=true->∃x0 x1 x2,e = .Raise x0 x1 x2/\k x0 x1 x2=true) e h1 (fun x0 x1 x2 _ hh=>⟨x0,x1,x2,rfl,hh⟩) h1 h
noncomputable def MX(e:Stmt)(k:List Stmt->List ExceptHandler->List Stmt->List Stmt->Pos->Bool):Bool:=if h:e.ctorIdx=17 then @Stmt.Try.elim (fun _=>Bool) e h k else false
theorem IR(h:MX e k=true):∃x0 x1 x2 x3 x4,e = .Try x0 x1 x2 x3 x4/\k x0 x1 x2 x3 x4=true:=by
 obtain⟨h1,h⟩:=bG h;exact Stmt.Try.elim (motive_2:=fun e=>∀h',@Stmt.Try.elim (fun _=>Bool) e h' k=true->∃x0 x1 x2 x3 x4,e = .Try x0 x1 x2 x3 x4/\k x0 x1 x2 x3 x4=true) e h1 (fun x0 x1 x2 x3 x4 _ hh=>⟨x0,x1,x2,x3,x4,rfl,hh⟩) h1 h
noncomputable def Gj(T:Tab)(b:Blk)(f:Nat)(es:List CE)(e:Expr):Bool:=zX (fun x=>oA T.fns[f]? (fun y=>y.1 == x) && b.glo x) (fun a=>dQ T FU b a es) e
noncomputable def O0(b:Blk)(i:Nat)(s:Stmt):Bool:=Au s fun v c _=>c.isNone && oA v fun e=>sCN e fun x es ks=>l1 es fun a=>ks.isEmpty && fe[i]? == some x && b.glo x && cO a fun c _ _=>(match c with |.str _=>true |_=>false)
noncomputable def jz:Str := "_law_word"
noncomputable def MY(b:Blk)(h:ExceptHandler):Bool:=match h with
 |.ExceptHandler t n body _=>(oA t fun e=>gy (fun x=>x == ("RingError" : Str) && b.glo x) e) && oA n fun n=>b.sc.names.lookup n == some .local && b.N.contains n && !(n == ("__debug__" : Str)) && !(n == ("__classdict__" : Str)) && l1 body fun s=>xy (fun e=>sCN e fun x es ks=>l1 es fun a=>ks.isEmpty && x == jz && b.glo x && gy (fun y=>y == n) a) s
noncomputable def O1(k:Expr->Bool)(b:Blk)(s:Stmt):Bool:=MX s fun body hs o f _=>o.isEmpty && f.isEmpty && (l1 body fun r=>xy k r) && l1 hs fun h=>MY b h
noncomputable def rj(T:Tab)(b:Blk):List RS->List Stmt->Bool
 |[],ss=>ss.isEmpty
 |.pl c::rs,ss=>lC ss fun s ss=>IK T 59 b s c && rj T b rs ss
 |.ck f es::rs,ss=>lC ss fun s ss=>zEx (Gj T b f es) s && rj T b rs ss
 |.rz c i::rs,ss=>lC ss fun s ss=>zIf (fun e=>fb T FU b e c) (fun p=>l1 p fun s=>O0 b i s) (fun q=>q.isEmpty) s && rj T b rs ss
 |.tr f es::rs,ss=>l1 ss fun s=>O1 (Gj T b f es) b s
noncomputable def Aw(T:Tab)(d:DefE):Bool:=As d.N d.ps (aq d.st) && (match d.rb with
 |none=>nP T FU ⟨aq d.st,none,d.N⟩ (bc d.st) d.body
 | some rs=>rj T ⟨aq d.st,none,d.N⟩ rs (bc d.st))
noncomputable def nR(con:List (Str × Int))(ae:List DefE):Tab:=⟨con,ae.map fun d=>(d.x,d.ps.length)⟩
noncomputable def vA(d:DefE):Bool:=d.x == jz && d.ps.length == 1 && tZ ⟨aq d.st,none,d.N⟩ fe rh (bc d.st)
structure TextOk(K:W0)(mg:Str->Option Value)(con:List (Str × Int))(ae:List DefE):Prop where
 con:∀ (i:Nat) (x:Str) (v:Int),con[i]?=some (x,v)->∃tk,mg x=some (.int v tk)
 bl:∀x,x ∈ fu->mg x=none
 fn:∀ (i:Nat) (d:DefE),ae[i]?=some d->∃f fd,mg d.x=some (.ref f)/\Vb K (.ref f)=true/\eR K fd d.ps []/\Fun K d.x d.x d.st f fd
 xs:∃R Ds,XInf K mg R Ds
def spX(K:W0)(Ds:List Addr)(g:List D->Sto->Option (RR × Sto))(n:Nat):Sp:=fun vs H Q E=>∃m ds S r S',VDs K m H ds vs/\Rel K m S H/\ds.length=n/\g ds S=some (r,S')/\∀m' H',Aft K m H S' m' H'->(match r with
 |.val d=>∀v,VD K m' H' d v->Q v H'
 | .exc i=>∃C,Ds[i]?=some C/\i < 14/\E (.ref C) none H')
theorem Ax{K:W0}{Ds:List Addr}{g:fB}{f n:Nat}{vs:List V}{H:Hp}{Q:VK}{E:XK}(h:spC K (toC g f) n vs H Q E):spX K Ds (g f) n vs H Q E:=by
 obtain⟨m,ds,S,d,S',vd,R,hl,e,q⟩:=h;unfold toC at e;split at e
 ·rename_i d' S2 hg;cases e;exact⟨m,ds,S,.val d,S',vd,R,hl,hg,fun m' H' A v vv=>q m' H' v A vv⟩
 ·cases e
section
variable {P:Program} {w:World} {K:W0} {mg:Str->Option Value} {base:Heap} {con:List (Str × Int)} {ae:List DefE}
theorem nS(vd:VDs K m H ds vs):EnvR K m H (ds.map some++Zo (N.length - ds.length) none) (L2.cZ N vs):=by
 have hl:=vd.length;unfold L2.cZ;refine⟨by simp[hl],fun i d e=>?_⟩;by_cases hi:i < ds.length
 ·rw[Zw (by simpa using hi),Zn] at e;cases h:ds[i]? with
  |none=>rw[h] at e;cases e
  |some d'=>
   rw[h] at e;cases e;obtain⟨v,hv,vv⟩:=vd.get h;exact⟨v,by rw[Zw (by simp;lia),Zn,hv];rfl,vv⟩
 ·rw[Zt (by simpa using hi),Yo] at e;split at e <;> cases e
def tRs(K:W0)(Ds:List Addr)(E:XK)(g:fB)(ar:Nat->Nat)(rs:List RS):TS:=fun D σ H=>(∀σ H,D.rt .non H->D.nx σ H)/\∃m ρ S r S',EnvR K m H ρ σ/\Rel K m S H/\bX g ar rs ρ S=some (r,S')/\∀m' H',Aft K m H S' m' H'->(match r with
 |.val d=>∀v,VD K m' H' d v->D.rt v H'
 | .exc i=>∃C,Ds[i]?=some C/\i < 14/\E (.ref C) none H')
theorem rl{n f:Nat}(h:xck g n f o k=some z):∃ds S1 v S2,o=some (ds,S1)/\ds.length=n/\g f ds S1=some (v,S2)/\k v S2=some z:=by
 cases o with
 |none=>cases h
 |some p=>
  obtain⟨ds,S1⟩:=p;unfold xck at h;dsimp only at h;split at h
  ·rename_i hl;cases hg:g f ds S1 with
   |none=>rw[hg] at h;cases h
   |some p=>obtain⟨v,S2⟩:=p;rw[hg] at h;exact⟨ds,S1,v,S2,rfl,hl,hg,h⟩
  ·cases h
theorem DH(A:Aft K m H S2 m2 H2)(x:i5 H2 H3):Aft K m H S2 m2 H3:=by
 have E:Ext m2 H2 m2 H3:=⟨Z7 _,fun a o h _=>x a o h,fun _ h n=>absurd h n⟩
 exact A.trans ⟨E,A.rel.ext_keep E fun b hb=>by
  obtain⟨o,_,ho,_⟩:=A.rel.ex hb;rw[ho];exact x b o ho⟩
structure RCx(T:Tab)(g:fB)(ar:Nat->Nat)(k:Nat)(b:Blk)(X:Cx)(E:XK)(R:Addr)(Ds:List Addr):Prop where
 G:CtxOk T (toC g) ar k b X.nox
 xi:XInf X.K X.mg R Ds
 kin:X.K.In X.base
 fns:∀ (i:Nat) (y:Str × Nat),T.fns[i]?=some y->∃f fd ps,X.mg y.1=some (.ref f)/\Vb X.K (.ref f)=true/\eR X.K fd ps []/\FnOk X.prog X.w X.K X.mg X.base (CXE X.prog X.w) k f fd ps (spX X.K Ds (g i) (ar i))
 pass:kw (CXE X.prog X.w) X E
 made:∀pins σ H s h1 e c args,L2.Inv X pins σ H s->Heap.MadeExcOf s.heap h1 e c args->E c none H->X.xe (.ref e) { s with heap:=h1 }
 stk:X.stack=X.env::X.outer
 frm:X.env.frame=some X.env.locals
 kind:X.env.scope.kind = .function
 word:∃fw fdw psW NW stw,X.mg jz=some (.ref fw)/\Fun X.K jz jz stw fw fdw/\FnScope NW psW (aq stw)/\eR X.K fdw psW []/\psW.length=1/\tZ ⟨aq stw,none,NW⟩ fe rh (bc stw)=true
theorem rm{k:Nat}(rc:RCx T g ar k b X E R Ds):∀ (rs:List RS) (ss:List Stmt),rj T b rs ss=true->PSs X ss (tRs X.K Ds E g ar rs)
 |[],ss,h=>by
  rw[cp h];refine PSs.imp g9 fun D σ H ⟨hD,m,ρ,S,r,S',Ev,Rl,e,q⟩=>?_;cases e;exact hD σ H (q m H (Aft.refl Rl) _ kI)
 |.pl c::rs,ss,h=>by
  obtain⟨s,ss,rfl,h⟩:=bO h;obtain⟨h1,h2⟩:=an2 h;refine PSs.imp (bx (IQ ((IM 59).s b X.nox s c rc.G rc.kind h1)) (rm rc rs ss h2)) fun D σ H ⟨hD,m,ρ,S,r,S',Ev,Rl,e,q⟩=>?_;simp only[bX] at e;split at e
  ·rename_i ρ1 S1 hs;exact⟨m,ρ,S,.nx,ρ1,S1,Ev,Rl,hs,fun m1 H1 A1 σ1 E1=>⟨hD,m1,ρ1,S1,r,S',E1,A1.rel,e,fun m2 H2 A2=>q m2 H2 (A1.trans A2)⟩⟩
  ·rename_i v ρ1 S1 hs;cases e;exact⟨m,ρ,S,_,_,_,Ev,Rl,hs,fun m1 H1 A1 u vu=>q m1 H1 A1 u vu⟩
  ·cases e
 |.ck f es::rs,ss,h=>by
  obtain⟨s,ss,rfl,h⟩:=bO h;obtain⟨h1,h2⟩:=an2 h;obtain⟨v,p,rfl,h3,h4⟩:=Gi h1;obtain⟨x,e,as,p',p'',rfl,h12,h5⟩:=pG h3;obtain⟨h6,h7⟩:=an2 h12;obtain⟨y,hy,h6⟩:=jW h6;have hx:=j8 h6;subst hx;obtain⟨fa,fd,ps,hm,hk,hb,F⟩:=rc.fns f y hy;have hpl:=aS h5;have gl:=rc.G.gl h7;refine PSs.imp (bx (uz (uH F rc.G.room gl.1 hm hk hb .nil rc.pass (IP ((snd FU).a b X.nox _ es rc.G h5)) gl.2 (aj (hpl e Zi)) (dR fun e he=>hpl e (Zg _ he))) (re h4)) (rm rc rs ss h2)) fun D σ H ⟨hD,m,ρ,S,r,S',Ev,Rl,e,q⟩=>?_;simp only[bX] at e;obtain⟨ds,S1,v,S2,e1,hl,eg,e⟩:=rl e;refine⟨m,ρ,S,ds,S1,Ev,Rl,e1,fun m1 H1 vs A1 vd=>⟨m1,ds,S1,v,S2,by rw[ZT];exact vd,A1.rel,hl,eg,fun m2 H2 A2=>?_⟩⟩;cases v with
  |val d=>exact fun u _=>⟨hD,m2,ρ,S2,r,S',Ev.mono Rl (A1.trans A2).ext,A2.rel,e,fun m3 H3 A3=>q m3 H3 ((A1.trans A2).trans A3)⟩
  |exc i=>cases e;exact q m2 H2 (A1.trans A2)
 |.rz c i::rs,ss,h=>by
  obtain⟨s,ss,rfl,h⟩:=bO h;obtain⟨h1,h2⟩:=an2 h;obtain⟨t,p,q,r,rfl,h3,h4,h5⟩:=Al h1;obtain⟨s1,rfl,h4⟩:=cx h4;rw[cp h5];obtain⟨v,cs,pos,rfl,h6⟩:=Av h4;obtain⟨h7,h6⟩:=an2 h6;cases cs with
  |some _=>cases h7
  |none=>
  obtain⟨e1,rfl,h6⟩:=jW h6;obtain⟨x,p1,es,ks,p2,rfl,h6⟩:=nz h6;obtain⟨a,rfl,h6⟩:=cx h6;obtain⟨h8,h9,h10,h11⟩:=an4 h6;obtain⟨c0,j,p3,rfl,h11⟩:=cq h11;cases cp h8;have hx:fe[i]?=some x:=by simpa using h9
  obtain⟨C,hC,hm⟩:=rc.xi.nm i x hx;cases c0 with
  |str z=>
   have gl:=rc.G.gl h10;by_cases h14:i < 14
   ·refine PSs.imp (bx (uA (PT.nox ((snd FU).t b X.nox t c rc.G h3)) (hF (Aa (E:=E) (v:=.str z) (fun pins σ H s h1 e args I mk hE=>rc.made pins σ H s h1 e _ args I mk hE) rc.G.calm gl.1 hm (rc.xi.hC _ rc.kin i C hC h14) (rc.xi.hR _ rc.kin) (bI oG rfl) rfl gl.2)) g9) (rm rc rs ss h2)) fun D σ H ⟨hD,m,ρ,S,r,S',Ev,Rl,e,q⟩=>?_;simp only[bX] at e;split at e
    ·rename_i S1 ht;rw[if_pos h14] at e;cases e;refine⟨m,ρ,S,true,_,Ev,Rl,ht,fun m1 H1 A1=>?_⟩;dsimp only;rw[if_pos rfl];obtain⟨C',hC',_,z⟩:=q m1 H1 A1;rw[hC] at hC';cases hC';exact z
    ·rename_i S1 ht;refine⟨m,ρ,S,false,_,Ev,Rl,ht,fun m1 H1 A1=>?_⟩;dsimp only;rw[if_neg Zd];exact⟨hD,m1,ρ,S1,r,S',Ev.mono Rl A1.ext,A1.rel,e,fun m2 H2 A2=>q m2 H2 (A1.trans A2)⟩
    ·cases e
   ·refine PSs.imp (bx (uA (PT.nox ((snd FU).t b X.nox t c rc.G h3)) (hF qg) g9) (rm rc rs ss h2)) fun D σ H ⟨hD,m,ρ,S,r,S',Ev,Rl,e,q⟩=>?_;simp only[bX] at e;split at e
    ·rename_i S1 ht;rw[if_neg h14] at e;cases e
    ·rename_i S1 ht;refine⟨m,ρ,S,false,_,Ev,Rl,ht,fun m1 H1 A1=>?_⟩;dsimp only;rw[if_neg Zd];exact⟨hD,m1,ρ,S1,r,S',Ev.mono Rl A1.ext,A1.rel,e,fun m2 H2 A2=>q m2 H2 (A1.trans A2)⟩
    ·cases e
  |_=>cases h11
 |.tr f es::rs,ss,h=>by
  obtain⟨s,rfl,c0⟩:=cx h;obtain⟨body,hs,o,fi,tp,rfl,c1⟩:=IR c0;obtain⟨h1,h2,h3,h4⟩:=an4 c1;obtain⟨r0,rfl,c2⟩:=cx h3;obtain⟨v,rp,rfl,c3⟩:=lI c2;obtain⟨hd,rfl,c4⟩:=cx h4;cases cp h1;cases cp h2;obtain⟨x,e,as,p',p'',rfl,h12,h5⟩:=pG c3;obtain⟨h6,h7⟩:=an2 h12;obtain⟨y,hy,h8⟩:=jW h6;have hx:=j8 h8;subst hx;obtain⟨fa,fd,ps,hm,hk,hb,F⟩:=rc.fns f y hy;have hpl:=aS h5;have gl:=rc.G.gl h7;obtain⟨ty,nm,hbody,hp⟩:=hd;unfold MY at c4;obtain⟨k1,k2⟩:=an2 c4;obtain⟨e1,rfl,k3⟩:=jW k1;obtain⟨rn,np,rfl,k4⟩:=cK k3;obtain⟨k5,k6⟩:=an2 k4;cases eq_of_beq k5;obtain⟨n,rfl,k7⟩:=jW k2;obtain⟨l5,l6,l7,l8,l9⟩:=an5 k7;obtain⟨s0,rfl,l10⟩:=cx l9;obtain⟨v2,rp2,rfl,l11⟩:=lI l10;obtain⟨xw,wp,es2,ks,p3,rfl,l12⟩:=nz l11;obtain⟨a,rfl,l13⟩:=cx l12;obtain⟨k10,k11,k12,k13⟩:=an4 l13;cases cp k10;cases eq_of_beq k11;obtain⟨n2,p2,rfl,k14⟩:=cK k13;cases eq_of_beq k14;obtain⟨i,hi⟩:=Yc (Xc.mp l6);obtain⟨fw,fdw,psW,NW,stw,w1,w2,w3,w4,w5,w6⟩:=rc.word;refine PSs.imp (hF (DF (i:=i) rc.stk rc.frm rc.xi F rc.G.room gl.1 hm hk hb ((snd FU).a b X.nox _ es rc.G h5) (aj (hpl e Zi)) (dR fun e he=>hpl e (Zg _ he)) gl.2 w2 w3 w4 w5 w6 (rc.G.gl k12).1 w1 (rc.G.gl k12).2 (by rw[show X.N=b.N from rc.G.hN];exact rc.G.nd) (by rw[show X.N=b.N from rc.G.hN];exact hi) (by rw[show X.env.scope=b.sc from rc.G.hs];simpa using l5) (rc.G.gl k6).1 (by simpa using l7) (by simpa using l8))) fun D σ H ⟨hD,m,ρ,S,r,S',Ev,Rl,e,q⟩=>?_;simp only[bX] at e;obtain⟨ds,S1,v,S2,e1,hl,eg,e⟩:=rl e;refine⟨m,ρ,S,ds,S1,Ev,Rl,e1,fun m1 H1 vs A1 vd=>⟨m1,ds,S1,v,S2,vd,A1.rel,hl,eg,fun m2 H2 A2=>?_⟩⟩;cases v with
  |val d=>cases e;exact fun u vu=>q m2 H2 (A1.trans A2) u vu
  |exc j=>
   dsimp only at e;split at e
   ·rename_i h14;cases hw:rh[j]? with
    |none=>rw[hw] at e;cases e
    |some w=>
     rw[hw] at e;cases e;have hj:j < Ds.length:=by rw[rc.xi.len];lia
     exact⟨Ds[j],gEG hj,h14,j,Ds[j],w,rfl,gEG hj,h14,hw,fun H3 x3=>q m2 H3 (DH (A1.trans A2) x3) _ kJ⟩
   ·cases e
theorem DI{i n:Nat}:FnOk P w K mg base (CXE P w) 0 f fd ps (spX K Ds (evX ae 0 i) n):=
 ⟨fun vs H Q E h=>(by obtain⟨m,ds,S,d,S',_,_,_,e,_⟩:=h;cases e),fun A outer s H args us vs Q E _ _ _ _ h=>(by obtain⟨m,ds,S,d,S',_,_,_,e,_⟩:=h;cases e)⟩
theorem vB(T:TextOk K mg con ae)(xi:XInf K mg R Ds)(kin:K.In base)(hc:ae.all (Aw (nR con ae))=true)(hw:ae.any vA=true):∀ (k i:Nat) (d:DefE),ae[i]?=some d->∀f fd,mg d.x=some (.ref f)->Fun K d.x d.x d.st f fd->FnOk P w K mg base (CXE P w) k f fd d.ps (spX K Ds (evX ae k i) d.ps.length)
 |0,i,d,_,f,fd,_,_=>DI
 |k+1,i,d,hd,f,fd,hm,F=>by
  have ih:=vB T xi kin hc hw k;have ck:=ZJ.mp hc d (Zf hd);unfold Aw at ck;rw[bAE] at ck;have S:=vt ck.1
  have word:∃fw fdw psW NW stw,mg jz=some (.ref fw)/\Fun K jz jz stw fw fdw/\FnScope NW psW (aq stw)/\eR K fdw psW []/\psW.length=1/\tZ ⟨aq stw,none,NW⟩ fe rh (bc stw)=true:=by
   obtain⟨dw,hmem,hq⟩:=YB.mp hw;obtain⟨j,hj⟩:=Yc hmem;unfold vA at hq;obtain⟨q1,q2,q3⟩:=an3 hq;obtain⟨fw,fdw,m1,m2,m3,m4⟩:=T.fn j dw hj;have ck2:=ZJ.mp hc dw hmem;unfold Aw at ck2;rw[bAE] at ck2;rw[<-eq_of_beq q1];exact⟨fw,fdw,dw.ps,dw.N,dw.st,m1,m4,vt ck2.1,m3,by simpa using q2,q3⟩
  obtain⟨oc,od,kV,doc,pm,an,cdv,ct,osl,rfl,lk,hcd⟩:=F.ex;refine L1 lk hcd S (fun vs H Q E h=>?_) fun A outer s H vs Q E hr h=>?_
  ·obtain⟨m,ds,S,d',S',vd,_,hl,_⟩:=h;rw[<-vd.length,hl]
  ·have FX:∀ (j:Nat) (y:Str × Nat),(nR con ae).fns[j]?=some y->cu ae j=y.2/\∃f fd ps,mg y.1=some (.ref f)/\Vb K (.ref f)=true/\eR K fd ps []/\FnOk P w K mg base (CXE P w) k f fd ps (spX K Ds (evX ae k j) (cu ae j)):=fun j y hy=>by
    have hy':(ae.map fun d=>(d.x,d.ps.length))[j]?=some y:=hy;rw[Zn] at hy';cases hj:ae[j]? with
    |none=>rw[hj] at hy';cases hy'
    |some e=>
     rw[hj] at hy';cases hy';have ha:cu ae j=e.ps.length:=by unfold cu;rw[hj]
     obtain⟨f',fd',m',k',b',F'⟩:=T.fn j e hj;refine⟨ha,f',fd',e.ps,m',k',b',?_⟩;rw[ha];exact ih j e hj f' fd' m' F'
   have G:CtxOk (nR con ae) (toC (evX ae k)) (cu ae) k ⟨aq d.st,none,d.N⟩ (mE (CXE P w) P w K mg base d.N d.x (aq d.st) f cdv A outer s H E).nox:=by
    refine⟨rfl,rfl,rfl,rfl,S.nd,fun _ _=>rfl,hr,T.con,T.bl,fun j y hy=>?_⟩;obtain⟨ha,f',fd',ps',m',k',b',F'⟩:=FX j y hy;exact⟨ha,f',fd',ps',m',k',b',F'.imp fun vs H Q E q=>Ax q⟩
   obtain⟨m,ds,S0,r,S',vd,Rl,hl,e,q⟩:=h;simp only[evX,hd] at e;cases hrb:d.rb with
   |none=>
    rw[hrb] at e ck;dsimp only at e ck;refine⟨_,((IM FU).ss _ _ (bc d.st) d.body G S.kind ck.2).nox,?_⟩;unfold DG at e;cases hx:fc (toC (evX ae k)) (cu ae) FU d.body (ds.map some++Zo (d.N.length - ds.length) none) S0 with
    |none=>rw[hx] at e;cases e
    |some z=>
     obtain⟨fl,ρ',S1⟩:=z;rw[hx] at e;refine⟨m,_,S0,fl,ρ',S1,nS vd,Rl,hx,fun m' H' A'=>?_⟩;cases fl with
     |nx=>cases e;exact fun σ _=>q m' H' A' .non kI
     |rt v=>cases e;exact fun u vu=>q m' H' A' u vu
     |bk=>cases e
     |ct=>cases e
   |some rs=>
    rw[hrb] at e ck;dsimp only at e ck
    have rc:RCx (nR con ae) (evX ae k) (cu ae) k ⟨aq d.st,none,d.N⟩ (mE (CXE P w) P w K mg base d.N d.x (aq d.st) f cdv A outer s H E) E R Ds:=
     ⟨G,xi,kin,fun j y hy=>(FX j y hy).2,Mz,fun pins σ H s h1 e c args I mk hE=>MA I mk hE,rfl,rfl,S.kind,word⟩
    exact⟨_,rm rc rs (bc d.st) ck.2,fun _ _ z=>z,m,_,S0,r,S',nS vd,Rl,e,q⟩
end
noncomputable def vD(d:DefE):Option vC:=some ((d.x,d.x),(ei d.st,bc d.st),(aq d.st,VL),([],.none),(Vu,some d.x))
theorem vE:∀ {l:List Nat},IT l=true->l.Nodup
 |[],_=>X5
 |a::l,h=>by
  obtain⟨h1,h2⟩:=an2 h;refine Ye.mpr ⟨fun hm=>?_,vE h2⟩;rw[Xc.mpr hm] at h1;cases h1
noncomputable def b6(h:Heap)(x:Str):W0:=match h.nsMap VL x with
 | some (.ref C)=>(match h.get? C with
  | some ⟨c0,dd,.cls cd,sl⟩=>(C,⟨c0,dd,.cls cd,sl⟩)::(match h.get? cd.ns with
   |some ⟨c1,d1,.dict es ep,s1⟩=>[(cd.ns,⟨c1,d1,.dict es ep,s1⟩)]
   | _=>[])
  | _=>[])
 |_=>[]
abbrev Ay:=Bool × List (Option vC) × List (Option Int) × List Bool × Bool
noncomputable def IV(con:List (Str × Int))(ae:List DefE)(h:Heap):Ay:=(h.isNs VL,ae.map (fun d=>DJ h d.x),con.map (fun c=>M0 h c.1),(fu.map fun x=>(h.nsMap VL x).isNone),IU h)
noncomputable def Az(con:List (Str × Int))(ae:List DefE):Ay:=(true,ae.map vD,con.map (fun c=>some c.2),(fu.map fun _=>true),true)
def Gm(d:DefE):Prop:=∀ (kV doc pm:Value) (an:Option Addr) (cdv ct:Value) (us:List Value),us.length=d.ps.length->bindArgs (W7 d.x d.x (ei d.st) (bc d.st) (aq d.st) .none kV doc pm an cdv ct) ⟨us,[]⟩=pure (d.ps.zip us)
def xG:List DefE->Prop
 |[]=>True
 |d::ds=>Gm d/\xG ds
theorem xG.at:∀ {ds:List DefE} {d:DefE},xG ds->d ∈ ds->Gm d
 |e::ds,d,h,hd=>by
  rcases Zm.mp hd with rfl |hd
  ·exact h.1
  ·exact xG.at h.2 hd
noncomputable def nT(h:Heap)(f:Addr):W0:=match h.get? f with
 | some o=>(f,o)::(match o.data with
  | .func fd=>(match fd.code with
   |.ref c=>(match h.get? c with |some oc=>[(c,oc)] |none=>[])
   | _=>[])
  | _=>[])
 |none=>[]
noncomputable def dh(h:Heap)(d:DefE):W0:=match h.nsMap VL d.x with
 |some (.ref f)=>nT h f
 |_=>[]
def M1(K:W0):Prop:=∀a o,K.lookup a=some o->∀its n,o.data ≠ .seq its n
structure Says(con:List (Str × Int))(ae:List DefE)(h:Heap):Prop where
 ns:∃m,h.Ns VL m
 frag:∃K:W0,K.In h/\M1 K/\∀mg,h.Ns VL mg->TextOk K mg con ae
theorem lK{K:W0}{a:Addr}{o:Obj}(h:K.lookup a=some o):(a,o) ∈ K:=by
 induction K with
 |nil=>cases h
 |cons p K ih=>
  obtain⟨b,q⟩:=p;rw[ZQ] at h;cases hb:a == b with
  |true=>
   rw[hb] at h;cases h;have:a=b:=by simpa using hb
   subst this;exact Zi
  |false=>rw[hb] at h;exact Zg _ (ih h)
theorem AA{K:W0}{a:Addr}{o:Obj}(h:(a,o) ∈ K):∃o',K.lookup a=some o':=by
 induction K with
 |nil=>cases h
 |cons p K ih=>
  obtain⟨b,q⟩:=p;rw[ZQ];cases hb:a == b with
  |true=>exact⟨_,rfl⟩
  |false=>
   rcases Zm.mp h with e |h
   ·cases e;simp at hb
   ·exact ih h
theorem AB(e:(a,o) ∈ nT h f):h.get? a=some o:=by
 unfold nT at e;cases hf:h.get? f with
 |none=>rw[hf] at e;cases e
 |some of=>
  rw[hf] at e;dsimp only at e;rcases Zm.mp e with q |e
  ·cases q;exact hf
  ·split at e
   ·split at e
    ·rename_i c hc;cases hc':h.get? c with
     |none=>rw[hc'] at e;cases e
     |some oc=>
      rw[hc'] at e;dsimp only at e;rcases Zm.mp e with q |e
      ·cases q;exact hc'
      ·cases e
    ·cases e
   ·cases e
theorem IW{h:Heap}{a:Addr}{mg:Str->Option Value}(N:h.Ns a mg):h.nsMap a=mg:=by
 obtain⟨o,es,ep,ho,hd,_,hm⟩:=N
 funext x
 unfold Heap.nsMap;rw[ho];dsimp only;rw[hd];exact hm x
theorem AC(e:DJ h d.x=vD d):∃f oc od kV doc pm an c ct osl cc cd vs a t r cs,h.nsMap VL d.x=some (.ref f)/\h.get? f=some ⟨oc,od,.func (W7 d.x d.x (ei d.st) (bc d.st) (aq d.st) .none kV doc pm an (.ref c) ct),osl⟩ ∧
  h.get? c=some ⟨cc,cd,.fields vs,cs⟩/\vs.toList=a :: .str d.x t::r:=by
 unfold DJ vD at e;split at e
 ·rename_i f hf;unfold MZ at e;split at e
  ·rename_i oc od nm qn ps b sc gl cl dv kV doc pm an cdv ct bi osl hg;simp only[Option.some.injEq,Prod.mk.injEq] at e;obtain⟨⟨rfl,rfl⟩,⟨rfl,rfl⟩,⟨rfl,rfl⟩,⟨rfl,rfl⟩,rfl,e⟩:=e;unfold Gk at e;split at e
   ·rename_i c;split at e
    ·rename_i cc cd vs cs hc;split at e
     ·rename_i a n t r hv;cases e;exact⟨f,oc,od,kV,doc,pm,an,c,ct,osl,cc,cd,vs,a,t,r,cs,hf,hg,hc,hv⟩
     ·cases e
    ·cases e
   ·cases e
  ·cases e
 ·cases e
theorem rq(e:(a,o) ∈ b6 h x):h.get? a=some o/\∀its n,o.data ≠ .seq its n:=by
 unfold b6 at e;split at e
 ·split at e
  ·rename_i C _ c0 dd cd sl hC;rcases Zm.mp e with q |e
   ·cases q;exact⟨hC,fun _ _ z=>nomatch z⟩
   ·split at e
    ·rename_i c1 d1 es ep s1 hN;rcases Zm.mp e with q |e
     ·cases q;exact⟨hN,fun _ _ z=>nomatch z⟩
     ·cases e
    ·cases e
  ·cases e
 ·cases e
theorem vF(e:IS h x=true):∃dd cd sl,h.nsMap VL x=some (.ref (adX h x))/\(adX h x,(⟨.type "type", dd,.cls cd,sl⟩:Obj)) ∈ b6 h x:=by
 unfold IS at e;split at e
 ·rename_i C hx;split at e
  ·rename_i dd cd sl hC;have z:adX h x=C:=by unfold adX;rw[hx]
   refine⟨dd,cd,sl,by rw[hx,z],?_⟩;unfold b6;rw[hx,z];dsimp only;rw[hC];exact Zi
  ·cases e
 ·cases e
theorem vG{h:Heap}{bm:List Value}{x:Str}(e:DK h bm x=true){K:W0}(lk:∀a o,(a,o) ∈ b6 h x->K.lookup a=some o):h.nsMap VL x=some (.ref (adX h x))/\∀h',K.In h'->bp h' (adX h x) bm:=by
 unfold DK at e;split at e
 ·rename_i C hx;split at e
  ·rename_i dd cd sl hC;split at e
   ·rename_i C' bm' k0 k1 k2 k3 n k5 hm hs;simp only[bAE,beq_iff_eq,Bool.not_eq_true',ZJ] at e;obtain⟨⟨⟨⟨⟨rfl,rfl⟩,rfl⟩,hdel⟩,hns⟩,hq⟩:=e;have z:adX h x=C':=by unfold adX;rw[hx]
    refine⟨by rw[hx,z],fun h' KX=>?_⟩;rw[z];have N:=Heap.Ns.of_isNs hns;obtain⟨oN,es,ep,hN,hd,r⟩:=id N;obtain⟨c1,d1,dat,s1⟩:=oN;dsimp only at hd;subst hd
    have m1:(C',(⟨.type "type", dd,.cls cd,sl⟩:Obj)) ∈ b6 h x:=by
     unfold b6;rw[hx];dsimp only;rw[hC];exact Zi
    have m2:(cd.ns,(⟨c1,d1,.dict es ep,s1⟩:Obj)) ∈ b6 h x:=by
     unfold b6;rw[hx];dsimp only;rw[hC];dsimp only;rw[hN];exact Zg _ Zi
    have g1:=KX _ _ (lk _ _ m1);have g2:=KX _ _ (lk _ _ m2);obtain⟨nm,bs,mro,ns,qn,hdd,sn,sub,ab,col,del⟩:=cd;dsimp only at hm hdel hns hq N hN r m1 m2 g1 g2;subst hm hdel
    have hsl:sl=#[k0,k1,k2,k3,some (.builtin "ValueError.__new__"),k5]:=by
     obtain⟨l⟩:=sl;simp only at hs;rw[hs]
    subst hsl;exact⟨ns,nm,qn,bs,hdd,sn,sub,ab,col,dd,k0,k1,k2,k3,k5,h.nsMap ns,g1,⟨_,es,ep,g2,rfl,r⟩,fun n hn=>by simpa using hq n hn⟩
   ·cases e
  ·cases e
 ·cases e
theorem DL{h:Heap}(e:IU h=true){K:W0}{mg:Str->Option Value}(hm:h.nsMap VL=mg)(hb:mg "isinstance" = none)(lk:∀x,x ∈ ("RingError" : Str)::fe->∀a o,(a,o) ∈ b6 h x->K.lookup a=some o):XInf K mg (adX h "RingError") (fe.map (adX h)):=by
 unfold IU at e;obtain⟨e1,e2,e3,e4,e5⟩:=an5 e;subst hm;have r1:=vG e1 (lk _ Zi);have nd:=Ye.mp (vE e4);refine⟨r1.1,by simpa using e5,hb,r1.2,fun h' KX i C hi h14=>?_,fun h' KX D hD=>?_,nd.2,fun D hD z=>nd.1 (z ▸ hD),fun i x hx=>?_,by rw[Za];rfl⟩
 ·rw[Zn] at hi;cases hx:fe[i]? with
  |none=>rw[hx] at hi;cases hi
  |some x=>
   rw[hx] at hi;cases hi;have hmem:x ∈ fe.take 14:=Zf (i:=i) (by rw[YF h14];exact hx);exact(vG (ZJ.mp e2 x hmem) (lk x (Zg _ (Zf hx)))).2 h' KX
 ·obtain⟨x,hx,rfl⟩:=ZH.mp hD;obtain⟨dd,cd,sl,_,m⟩:=vF (ZJ.mp e3 x hx);exact⟨dd,cd,sl,KX _ _ (lk x (Zg _ hx) _ _ m)⟩
 ·obtain⟨dd,cd,sl,m,_⟩:=vF (ZJ.mp e3 x (Zf hx));exact⟨adX h x,by rw[Zn,hx];rfl,m⟩
theorem DM{con:List (Str × Int)}{ae:List DefE}(hb:xG ae){h:Heap}(e:IV con ae h=Az con ae):Says con ae h:=by
 unfold IV Az at e;simp only[Prod.mk.injEq] at e;obtain⟨e0,e1,e2,e3,e4⟩:=e;have N:=Heap.Ns.of_isNs e0;have D:∀d ∈ ae,DJ h d.x=vD d:=fun d hd=>YW.mp e1 d hd
 have inK:∀a o,(a,o) ∈ ae.flatMap (dh h)++(("RingError" : Str)::fe).flatMap (b6 h)->h.get? a=some o:=fun a o he=>by
  rcases Zy.mp he with he |he
  rotate_left
  ·obtain⟨x,_,he⟩:=Z0.mp he;exact(rq he).1
  obtain⟨d,hd,he⟩:=Z0.mp he;obtain⟨f,oc,od,kV,doc,pm,an,c,ct,osl,cc,cd,vs,a',t,r,cs,g1,g2,g3,g4⟩:=AC (D d hd);unfold dh at he;rw[g1] at he;exact AB he
 have lk:∀a o,(a,o) ∈ ae.flatMap (dh h)++(("RingError" : Str)::fe).flatMap (b6 h)->(ae.flatMap (dh h)++(("RingError" : Str)::fe).flatMap (b6 h)).lookup a=some o:=fun a o he=>by
  obtain⟨o',q⟩:=AA he;have z:=inK a o' (lK q);rw[inK a o he] at z;cases z;exact q
 refine⟨⟨_,N⟩,ae.flatMap (dh h)++(("RingError" : Str)::fe).flatMap (b6 h),fun a o q=>inK a o (lK q),fun a o q its n hs=>?_,fun mg G=>?_⟩
 ·rcases Zy.mp (lK q) with he |he
  rotate_left
  ·obtain⟨x,_,he⟩:=Z0.mp he;exact(rq he).2 its n hs
  obtain⟨d,hd,he⟩:=Z0.mp he;obtain⟨f,oc,od,kV,doc,pm,an,c,ct,osl,cc,cd,vs,a',t,r,cs,g1,g2,g3,g4⟩:=AC (D d hd);unfold dh at he;rw[g1] at he;dsimp only at he;unfold nT at he;rw[g2] at he;dsimp only at he;rw[g3] at he;dsimp only at he;rcases Zm.mp he with z |he
  ·cases z;cases hs
  ·rcases Zm.mp he with z |he
   ·cases z;cases hs
   ·cases he
 ·have hm:=IW G
  have bl:∀x,x ∈ fu->mg x=none:=fun x hx=>by
   have z:=YW.mp e3 x hx;rw[hm] at z
   simpa using z
  refine⟨fun i x v hi=>?_,bl,fun i d hi=>?_,_,_,DL e4 hm (bl _ (by decide)) fun x hx a o ho=>lk a o (Zz _ (Z0.mpr ⟨x,hx,ho⟩))⟩
  ·have z:=YW.mp e2 (x,v) (Zf hi);unfold M0 at z;rw[hm] at z;dsimp only at z;split at z
   ·rename_i v' t hv;cases z;exact⟨t,hv⟩
   ·cases z
  ·have hd:=Zf hi;obtain⟨f,oc,od,kV,doc,pm,an,c,ct,osl,cc,cd,vs,a',t,r,cs,g1,g2,g3,g4⟩:=AC (D d hd)
   have m1:(f,_) ∈ ae.flatMap (dh h)++(("RingError" : Str)::fe).flatMap (b6 h):=Yl _ <| Z0.mpr ⟨d,hd,by
    show _ ∈ dh h d;unfold dh;rw[g1];dsimp only;unfold nT;rw[g2];exact Zi⟩
   have m2:(c,_) ∈ ae.flatMap (dh h)++(("RingError" : Str)::fe).flatMap (b6 h):=Yl _ <| Z0.mpr ⟨d,hd,by
    show _ ∈ dh h d;unfold dh;rw[g1];dsimp only;unfold nT;rw[g2];dsimp only;rw[g3];exact Zg _ Zi⟩
   have l1:=lk _ _ m1;have l2:=lk _ _ m2;have kp:Vb (ae.flatMap (dh h)++(("RingError" : Str)::fe).flatMap (b6 h)) (.ref f)=true:=by unfold Vb;dsimp only;rw[l1]
   have cdI:W4 (ae.flatMap (dh h)++(("RingError" : Str)::fe).flatMap (b6 h)) (.ref c) d.x=true:=by
    unfold W4;dsimp only;rw[l2];dsimp only;rw[g4];simp
   have F:=Hn (st:=d.st) (x:=d.x) (qual:=d.x) l1 cdI kp;refine⟨f,_,by rw[<-hm];exact g1,kp,F.binds (hb.at hd),F⟩
theorem t8(x:Says con ae h)(k:∀b o,h.get? b=some o->h'.get? b=some o):Says con ae h':=by
 obtain⟨⟨m,N⟩,K,KX,ns,T⟩:=x
 have back:∀mg,h'.Ns VL mg->h.Ns VL mg:=fun mg ⟨o,es,ep,ho,r⟩=>by
  obtain⟨o',es',ep',ho',r'⟩:=N;have z:=k _ _ ho';rw[ho] at z;cases z;exact⟨o,es,ep,ho',r⟩
 refine⟨⟨m,let ⟨o,es,ep,ho,r⟩:=N;⟨o,es,ep,k _ _ ho,r⟩⟩,K,fun a o q=>k _ _ (KX a o q),ns,fun mg G=>T mg (back mg G)⟩
noncomputable def i8(con:List (Str × Int))(ae:List DefE)(hb:xG ae):PySem.W.Hook:=
 ⟨Ay,fun s=>IV con ae s.heap,fun _=>Az con ae,fun _ h=>Says con ae h,fun _ _ e=>DM hb e,fun _ _ _ x k=>t8 x k⟩
theorem lO{K:W0}{m:List Addr}{H:Hp}:∀ns:List Int,VDs K m H (ns.map D.int) (ns.map V.int)
 |[]=>by rw[Z9,Z9,VDs]
 |a::l=>by rw[Zx,Zx,VDs];exact⟨_,_,rfl,bh,lO l⟩
theorem DN{l:PySem.W.OpenLaw}{n k i:Nat}{q:Program}{loose:List Str}{XP:(Str->Option Value)->Heap->Prop}{d:DefRec}{con:List (Str × Int)}{ae:List DefE}{hb:xG ae}{dl:DefE}{x:Str}
  (hn:l.most=some n) (hn2:n<=sizeLine) (hdf:d.params.defaults=[]) (hr:Room k callerA) (hx:d.name=dl.x) (hi:ae[i]?=some dl) (hps:dl.ps=[x]) (hc:ae.all (Aw (nR con ae))=true) (hw:ae.any vA=true)
  (main:∀ns:List Int,ns.length<=n->∃S',evC ae k i [.ref 0] [.frz (ns.map D.int)]=some (.bl true,S')) :
  PySem.W.WalkO q loose XP (i8 con ae hb).says l.row.toRowW d [] (fun f vs=>PySem.call f vs):=by
 refine Att.attach_call hn hdf fun w s₀ s₁ mg mb fa o pm cd doc a vs ns G Y ho hd hcd hmg hobj hints hlen hg=>?_;obtain⟨_,K,KX,noS,T⟩:=(show Says con ae s₁.heap from Y);have T:=T mg G.T.g;obtain⟨R,Ds,xi⟩:=T.xs;obtain⟨f,fd,hm,kp,_,F⟩:=T.fn i dl hi;rw[hx] at hmg;rw[hmg] at hm;cases hm
 have bd:∀ (s:Shared) (u:Value),BindsTo s fd ⟨[u],[]⟩ [(x,u)]:=fun s u=>by
  obtain⟨oc,od,kV,doc,pm,an,cdv,ct,osl,rfl,lk,hcd⟩:=F.ex;have z:=(hb.at (Zf hi)) kV doc pm an cdv ct [u] (by rw[hps];rfl);rw[hps] at z;exact .of_eq z
 refine yG (CX:=CXE l.row.toRowW.prog w) (sp:=spX K Ds (evX ae k i) dl.ps.length) KX G.T.g G.T.b G.T.builtins G.T.nolimit hg hobj hints (ZF hlen hn2) hr (fun base kin _=>by
  have:=vB (P:=l.row.toRowW.prog) (w:=w) (base:=base) T xi kin hc hw k i dl hi fa fd hmg F;rw[hps] at this ⊢;exact this) bd (fun H hO hS=>?_) fun H e s' ⟨_,_,_,_,_,_,_,_,z⟩=>z
 have fz:∃o,H a=some (.frz o (.lst (ns.map V.int))):=by
  rcases hS with (z |⟨o,z⟩) |⟨o,its,n',hk,hc,hdd,hdt,_⟩
  ·rcases hO a with y |⟨o',xs,y⟩
   ·rw[y] at z;cases z
   ·rw[y] at z;cases z
  ·exact⟨o,z⟩
  ·exact absurd hdt (noS a o hk its n')
 obtain⟨o,fz⟩:=fz;obtain⟨S',e⟩:=main ns hlen;refine Ax ⟨[a],[.ref 0],[.frz (ns.map D.int)],.bl true,S',?_,⟨rfl,by simp,fun j ob ej=>?_⟩,by rw[hps];rfl,e,fun m' H' v A vv=>vv.bls⟩
 ·rw[VDs];exact⟨_,_,rfl,by rw[VD];exact⟨a,rfl,rfl⟩,by rw[VDs]⟩
 ·cases j with
  |zero=>cases ej;exact⟨a,rfl,o,_,fz,lO ns⟩
  |succ j=>simp at ej
end Ev
namespace Lw
open PySem Ev
noncomputable def lP:List CS:=[.ret (.and (.inst .int (.var 0)) (.not (.inst .bool (.var 0))))]
noncomputable def jA:List CS:=[.ret (.and (.call 0 [.var 0]) (.chn .le .le (.var 1) (.var 0) (.var 2)))]
noncomputable def jB:List CS:=[.ret (.call 1 [.var 0,.int 0,.con 0 9999])]
noncomputable def lQ:List CS:=[.ret (.and (.inst .tuple (.var 0)) (.chn .le .le (.var 1) (.len (.var 0)) (.var 2)))]
noncomputable def im:List CS:=[.ifs (.or (.not (.call 3 [.var 0,.int 0,.var 1])) (.not (.all (.comp ["number"] (.call 1 [.var 2,.int 0,.bin .sub (.var 1) (.int 1)]) [⟨.name 2,.val (.var 0),none⟩])))) [.ret (.bl false)] [],.ret (.all (.comp ["number"] (.cmp .eq (.cnt (.var 0) (.var 2)) (.int 1)) [⟨.name 2,.val (.var 0),none⟩]))]
noncomputable def jC:List CS:=[.ifs (.not (.call 3 [.var 0,.int 4,.int 4])) [.ret (.bl false)] [],.asg (.tup [.name 1,.name 2,.name 3,.name 4]) (.var 0),.ret (.and (.call 1 [.var 1,.int 0,.con 1 8]) (.and (.call 1 [.var 2,.int 0,.con 2 60]) (.and (.call 6 [.var 3]) (.call 9 [.var 4]))))]
noncomputable def lU:List CS:=[.ifs (.not (.call 3 [.var 0,.int 1,.con 3 4])) [.ret (.bl false)] [],.ret (.and (.all (.comp ["row"] (.call 7 [.var 1,.len (.var 0)]) [⟨.name 1,.val (.var 0),none⟩])) (.call 8 [.var 0]))]
noncomputable def io:List CS:=[.ret (.and (.call 3 [.var 0,.var 1,.var 1]) (.all (.comp ["gap"] (.call 1 [.var 2,.int 1,.con 4 99]) [⟨.name 2,.val (.var 0),none⟩])))]
noncomputable def bH:List CS:=[.asg (.name 1) (.listR (.len (.var 0))),.ret (.all (.comp ["a", "b", "c"] (.cmp .le (.ix (.ix (.var 0) (.var 2)) (.var 3)) (.bin .add (.ix (.ix (.var 0) (.var 2)) (.var 4)) (.ix (.ix (.var 0) (.var 4)) (.var 3)))) [⟨.name 2,.val (.var 1),none⟩,⟨.name 3,.val (.var 1),none⟩,⟨.name 4,.val (.var 1),none⟩]))]
noncomputable def jD:List CS:=[.ifs (.or (.not (.call 3 [.var 0,.int 0,.con 5 4])) (.not (.all (.comp ["part"] (.call 10 [.var 1]) [⟨.name 1,.val (.var 0),none⟩])))) [.ret (.bl false)] [],.ret (.all (.comp ["at"] (.cmp .gt (.ix (.ix (.var 0) (.var 1)) (.int 0)) (.ix (.ix (.var 0) (.bin .sub (.var 1) (.int 1))) (.int 1))) [⟨.name 1,.r2 (.int 1) (.len (.var 0)),none⟩]))]
noncomputable def ip:List CS:=[.ret (.and (.call 3 [.var 0,.int 2,.int 2]) (.and (.call 2 [.ix (.var 0) (.int 0)]) (.and (.call 2 [.ix (.var 0) (.int 1)]) (.cmp .lt (.ix (.var 0) (.int 0)) (.ix (.var 0) (.int 1))))))]
noncomputable def nU:List CS:=[.ret (.call 1 [.var 1,.int 0,.bin .sub (.len (.ix (.var 0) (.int 2))) (.int 1)])]
noncomputable def nV:List CS:=[.ret (.any (.comp ["begin", "end"] (.chn .le .lt (.var 2) (.var 1) (.var 3)) [⟨.tup [.name 2,.name 3],.val (.ix (.var 0) (.int 3)),none⟩]))]
noncomputable def rA:List CS:=[.ifs (.not (.call 3 [.var 0,.int 4,.int 4])) [.ret (.bl false)] [],.asg (.tup [.name 1,.name 2,.name 3,.name 4]) (.var 0),.ret (.and (.call 5 [.var 1]) (.and (.call 14 [.var 1,.var 2]) (.and (.call 15 [.var 1,.var 3]) (.call 17 [.var 3,.var 4]))))]
noncomputable def lV:List CS:=[.ifs (.cmp .is (.var 1) .non) [.ret (.bl true)] [],.ret (.and (.call 3 [.var 1,.int 2,.int 2]) (.and (.call 11 [.var 0,.ix (.var 1) (.int 0)]) (.call 2 [.ix (.var 1) (.int 1)])))]
noncomputable def gz:List CS:=[.ret (.and (.call 3 [.var 1,.int 0,.con 6 7]) (.all (.comp ["part"] (.call 16 [.var 0,.var 2]) [⟨.name 2,.val (.var 1),none⟩])))]
noncomputable def jE:List CS:=[.ifs (.not (.call 3 [.var 1,.int 7,.int 7])) [.ret (.bl false)] [],.asg (.tup [.name 2,.name 3,.name 4,.name 5,.name 6,.name 7,.name 8]) (.var 1),.ifs (.not (.all (.comp ["minute"] (.call 2 [.var 9]) [⟨.name 9,.val (.tup [.var 3,.var 4,.var 5,.var 6]),none⟩]))) [.ret (.bl false)] [],.ifs (.not (.chn .le .le (.bin .add (.var 3) (.ix (.var 0) (.int 1))) (.var 4) (.var 5))) [.ret (.bl false)] [],.ret (.and (.call 11 [.var 0,.var 2]) (.and (.call 1 [.var 7,.int 0,.con 7 99]) (.call 1 [.var 8,.int 0,.ix (.var 0) (.int 0)])))]
noncomputable def jF:List CS:=[.ifs (.not (.call 4 [.var 1,.len (.var 0)])) [.ret (.bl false)] [],.ret (.all (.comp ["number", "glider"] (.or (.cmp .eq (.ix (.var 3) (.int 6)) (.int 0)) (.cmp .isin (.var 2) (.var 1))) [⟨.tup [.name 2,.name 3],.en (.var 0),none⟩]))]
noncomputable def fC:List RS:=[.rz (.not (.call 13 [.var 0])) 1]
noncomputable def pN:List RS:=[.ck 18 [.var 0],.rz (.not (.call 20 [.var 1])) 2,.pl (.ret (.call 22 [.var 0,.var 1]))]
noncomputable def jG:List CS:=[.ifs (.or (.not (.inst .list (.var 0))) (.cmp .gt (.len (.var 0)) (.con 8 20))) [.ret (.bl false)] [],.ret (.all (.comp ["part"] (.call 21 [.var 1]) [⟨.name 1,.val (.var 0),none⟩]))]
noncomputable def nW:List CS:=[.ret (.and (.call 3 [.var 0,.int 2,.int 2]) (.and (.call 0 [.ix (.var 0) (.int 0)]) (.call 0 [.ix (.var 0) (.int 1)])))]
noncomputable def gA:List CS:=[.for_ (.name 2) (.r1 (.len (.var 1))) [.asg (.name 3) (.call 23 [.var 0,.var 1,.var 2]),.ifs (.cmp .isnot (.var 3) .non) [.ret (.tup [.var 3,.ix (.ix (.var 1) (.var 2)) (.int 0)])] []],.asg (.name 4) (.call 27 [.var 0,.var 1]),.ifs (.cmp .isnot (.var 4) .non) [.ret (.tup [.str "lacks", .var 4])] [],.asg (.name 5) (.call 31 [.var 0,.var 1]),.ifs (.cmp .isnot (.var 5) .non) [.ret (.tup [.str "rings", .var 5])] [],.asg (.name 6) (.call 32 [.var 0,.var 1]),.ifs (.cmp .isnot (.var 6) .non) [.ret (.tup [.str "ring", .var 6])] [],.ret .non]
noncomputable def eU:List CS:=[.asg (.tup [.name 3,.name 4,.name 5,.name 6]) (.var 0),.asg (.name 7) (.ix (.ix (.var 1) (.var 2)) (.int 0)),.ifs (.not (.chn .le .lt (.int 0) (.var 7) (.len (.var 5)))) [.ret (.str "none")] [],.ifs (.cmp .isin (.var 7) (.comp ["other", "minute"] (.var 8) [⟨.tup [.name 8,.name 9],.val (.sl (.var 1) none (some (.var 2))),none⟩])) [.ret (.str "twice")] [],.ifs (.and (.cmp .lt (.var 2) (.len (.var 6))) (.cmp .ne (.var 7) (.ix (.var 6) (.var 2)))) [.ret (.str "order")] [],.ret (.call 24 [.var 0,.var 1,.var 2])]
noncomputable def fD:List CS:=[.asg (.tup [.name 3,.name 4,.name 5,.name 6]) (.var 0),.asg (.tup [.name 7,.name 8]) (.ix (.var 1) (.var 2)),.asg (.tup [.name 9,.name 10,.name 11,.name 12,.name 13,.name 14,.name 15]) (.ix (.var 5) (.var 7)),.ifs (.cmp .lt (.var 8) (.var 11)) [.ret (.str "soon")] [],.ifs (.cmp .gt (.var 8) (.var 12)) [.ret (.str "late")] [],.ifs (.call 12 [.var 3,.var 8]) [.ret (.str "shut")] [],.ifs (.cmp .lt (.var 8) (.call 26 [.var 0,.call 25 [.var 0,.sl (.var 1) none (some (.var 2))],.var 9])) [.ret (.str "gap")] [],.ret .non]
noncomputable def eV:List CS:=[.ifs (.not (.var 1)) [.ret (.ix (.var 0) (.int 1))] [],.asg (.tup [.name 2,.name 3]) (.ix (.var 1) (.neg (.int 1))),.ret (.tup [.ix (.ix (.ix (.var 0) (.int 2)) (.var 2)) (.int 0),.var 3])]
noncomputable def nX:List CS:=[.ifs (.cmp .is (.var 1) .non) [.ret (.int 0)] [],.ret (.bin .add (.ix (.var 1) (.int 1)) (.ix (.ix (.ix (.ix (.var 0) (.int 0)) (.int 2)) (.ix (.var 1) (.int 0))) (.var 2)))]
noncomputable def eW:List CS:=[.asg (.name 2) (.comp ["glider", "minute"] (.var 4) [⟨.tup [.name 4,.name 5],.val (.var 1),none⟩]),.for_ (.name 3) (.r1 (.len (.ix (.var 0) (.int 2)))) [.ifs (.cmp .notin (.var 3) (.var 2)) [.ret (.var 3)] []],.ret .non]
noncomputable def lW:List CS:=[.asg (.tup [.name 3,.name 4]) (.var 1),.ret (.chn .le .lt (.ix (.ix (.ix (.var 0) (.int 2)) (.var 3)) (.int 1)) (.var 2) (.bin .sub (.var 4) (.ix (.ix (.var 0) (.int 0)) (.int 1))))]
noncomputable def eX:List CS:=[.ret (.len (.comp ["landing"] (.var 3) [⟨.name 3,.val (.var 1),some (.call 28 [.var 0,.var 3,.var 2])⟩]))]
noncomputable def dj:List CS:=[.ret (.srt (.comp ["glider"] (.ix (.var 1) (.int 1)) [⟨.name 1,.val (.ix (.var 0) (.int 2)),none⟩]))]
noncomputable def eY:List CS:=[.for_ (.name 2) (.val (.call 30 [.var 0])) [.ifs (.cmp .gt (.call 29 [.var 0,.var 1,.var 2]) (.ix (.ix (.var 0) (.int 0)) (.int 0))) [.ret (.var 2)] []],.ret .non]
noncomputable def dS:List CS:=[.for_ (.tup [.name 2,.name 3]) (.en (.var 1)) [.ifs (.call 33 [.var 0,.var 1,.var 2]) [.ret (.ix (.var 3) (.int 0))] []],.ret .non]
noncomputable def gB:List CS:=[.asg (.tup [.name 3,.name 4,.name 5,.name 6,.name 7,.name 8,.name 9]) (.ix (.ix (.var 0) (.int 2)) (.ix (.ix (.var 1) (.var 2)) (.int 0))),.ret (.and (.cmp .gt (.var 9) (.int 0)) (.and (.call 28 [.var 0,.ix (.var 1) (.var 2),.var 4]) (.cmp .gt (.call 34 [.var 0,.var 1,.var 2,.var 4]) (.var 9))))]
noncomputable def gC:List CS:=[.asg (.name 4) (.sl (.var 1) none (some (.var 2))),.asg (.name 5) (.comp ["when"] (.var 6) [⟨.name 6,.val (.call 30 [.var 0]),some (.and (.cmp .gt (.var 6) (.var 3)) (.call 28 [.var 0,.ix (.var 1) (.var 2),.var 6]))⟩]),.ret (.mxL (.comp ["when"] (.bin .add (.int 1) (.call 29 [.var 0,.var 4,.var 6])) [⟨.name 6,.val (.bin .add (.lst [.var 3]) (.var 5)),none⟩]))]
noncomputable def gD:List CS:=[.ifs (.cmp .lt (.var 1) (.len (.var 0))) [.ret (.ix (.var 0) (.var 1))] [],.ret (.int 0)]
noncomputable def nY:List CS:=[.ifs (.cmp .ge (.var 0) (.bin .pow (.int 10) (.int 18))) [.ret (.lst [.bin .sub (.var 0) (.bin .pow (.int 10) (.int 18))])] [],.asg (.name 1) (.int 0),.for_ (.name 2) (.r1 (.int 64)) [.asg (.name 3) (.bin .mod (.bin .mul (.bin .add (.bin .add (.bin .mod (.var 0) (.int 2147483629)) (.bin .mul (.int 7919) (.var 2))) (.int 1)) (.int 48271)) (.int 2147483647)),.asg (.name 3) (.bin .mod (.bin .add (.bin .add (.bin .mul (.var 3) (.var 3)) (.bin .mul (.int 69621) (.var 2))) (.int 7)) (.int 2147483587)),.asg (.name 1) (.bin .add (.bin .mul (.var 1) (.int 2147483587)) (.var 3))],.ret (.lst [.var 1])]
noncomputable def lX:List CS:=[.asg (.name 2) (.bin .mod (.ix (.var 0) (.int 0)) (.var 1)),.setI (.bin .fdiv (.ix (.var 0) (.int 0)) (.var 1)) (.var 0) (.int 0),.ret (.var 2)]
noncomputable def cS:List CS:=[.asg (.name 1) (.bin .add (.int 1) (.call 37 [.var 0,.int 4])),.asg (.name 2) (.comp ["_law_a"] (.comp ["_law_b"] (.bin .add (.int 1) (.call 37 [.var 0,.int 9])) [⟨.name 5,.r1 (.var 1),none⟩]) [⟨.name 4,.r1 (.var 1),none⟩]),.ifs (.cmp .eq (.call 37 [.var 0,.int 8]) (.int 0)) [.asg (.name 2) (.comp ["_law_row"] (.comp ["_law_gap"] (.bin .sub (.int 99) (.call 37 [.var 0,.int 3])) [⟨.name 5,.val (.var 4),none⟩]) [⟨.name 4,.val (.var 2),none⟩])] [],.for_ (.name 3) (.r1 (.var 1)) [.asg (.name 2) (.comp ["_law_row"] (.comp ["_law_b", "_law_gap"] (.mn (.var 6) (.bin .add (.ix (.var 4) (.var 3)) (.ix (.ix (.var 2) (.var 3)) (.var 5)))) [⟨.tup [.name 5,.name 6],.en (.var 4),none⟩]) [⟨.name 4,.val (.var 2),none⟩])],.ret (.tupOf (.comp ["_law_row"] (.tupOf (.var 4)) [⟨.name 4,.val (.var 2),none⟩]))]
noncomputable def jH:List CS:=[.asg (.tup [.name 2,.name 3]) (.tup [.lst [],.var 1]),.for_ (.name 4) (.r1 (.ix (.lst [.int 0,.int 1,.int 2,.int 3,.int 4]) (.call 37 [.var 0,.int 5]))) [.asg (.name 3) (.bin .add (.bin .add (.var 3) (.int 1)) (.call 37 [.var 0,.int 14])),.ex (.app (.var 2) (.tup [.var 3,.bin .add (.bin .add (.var 3) (.int 1)) (.call 37 [.var 0,.int 6])])),.asg (.name 3) (.ix (.ix (.var 2) (.neg (.int 1))) (.int 1))],.ret (.tupOf (.var 2))]
noncomputable def iq:List CS:=[.asg (.name 1) (.ix (.lst [.int 2,.int 1,.int 3,.int 8,.int 0]) (.call 37 [.var 0,.int 5])),.ret (.tup [.var 1,.ix (.lst [.int 2,.int 0,.int 1,.int 5,.int 60]) (.call 37 [.var 0,.int 5]),.call 38 [.var 0],.call 39 [.var 0,.int 0]])]
noncomputable def ir:List CS:=[.asg (.name 2) (.call 37 [.var 0,.int 40]),.asg (.name 3) (.bin .add (.bin .add (.var 2) (.ix (.var 1) (.int 1))) (.ix (.lst [.int 0,.int 0,.call 37 [.var 0,.int 9]]) (.call 37 [.var 0,.int 3]))),.asg (.name 4) (.bin .add (.var 3) (.ix (.lst [.call 37 [.var 0,.int 5],.bin .add (.int 5) (.call 37 [.var 0,.int 20]),.int 60,.int 200]) (.call 37 [.var 0,.int 4]))),.asg (.name 5) (.ix (.lst [.var 3,.bin .add (.var 2) (.call 37 [.var 0,.int 30]),.call 37 [.var 0,.int 90]]) (.call 37 [.var 0,.int 3])),.ret (.tup [.call 37 [.var 0,.len (.ix (.var 1) (.int 2))],.var 2,.var 3,.var 4,.var 5,.call 37 [.var 0,.int 10],.int 0])]
noncomputable def jI:List CS:=[.asg (.name 2) (.listOf (.var 1)),.ret (.comp ["_law_one"] (.popAt (.var 2) (.call 37 [.var 0,.len (.var 2)])) [⟨.name 3,.val (.var 1),none⟩])]
noncomputable def i9:List CS:=[.asg (.name 2) (.call 40 [.var 0]),.asg (.name 3) (.comp ["_law_g"] (.call 41 [.var 0,.var 2]) [⟨.name 8,.r1 (.call 37 [.var 0,.bin .add (.var 1) (.int 1)]),none⟩]),.asg (.name 4) (.listR (.len (.var 3))),.ifs (.cmp .eq (.call 37 [.var 0,.int 2]) (.int 0)) [.asg (.name 4) (.comp ["_law_pair"] (.ix (.var 8) (.int 1)) [⟨.name 8,.val (.srt (.comp ["_law_g", "_law_glider_here"] (.tup [.ix (.var 9) (.int 2),.var 8]) [⟨.tup [.name 8,.name 9],.en (.var 3),none⟩])),none⟩])] [.asg (.name 4) (.call 42 [.var 0,.var 4])],.asg (.name 5) (.sl (.var 4) none (some (.ix (.lst [.int 0,.int 1,.int 2,.int 3]) (.call 37 [.var 0,.int 4])))),.for_ (.name 6) (.val (.var 5)) [.ifs (.and (.cmp .eq (.call 37 [.var 0,.int 2]) (.int 0)) (.cmp .gt (.ix (.var 2) (.int 0)) (.int 0))) [.setI (.bin .add (.sl (.ix (.var 3) (.var 6)) none (some (.int 6))) (.tup [.bin .add (.int 1) (.call 37 [.var 0,.ix (.var 2) (.int 0)])])) (.var 3) (.var 6)] []],.asg (.name 7) .non,.ifs (.cmp .eq (.call 37 [.var 0,.int 2]) (.int 0)) [.asg (.name 7) (.tup [.call 37 [.var 0,.len (.ix (.var 2) (.int 2))],.call 37 [.var 0,.int 20]])] [],.ret (.tup [.var 2,.var 7,.tupOf (.var 3),.tupOf (.var 5)])]
noncomputable def jJ:List CS:=[.ret (.bin .add (.ix (.var 1) (.int 3)) (.tupOf (.call 42 [.var 0,.comp ["_law_g"] (.var 2) [⟨.name 2,.r1 (.len (.ix (.var 1) (.int 2))),some (.cmp .notin (.var 2) (.ix (.var 1) (.int 3)))⟩]])))]
noncomputable def lY:List CS:=[.asg (.name 2) (.var 1),.for_ (.name 3) (.r1 (.bin .add (.len (.var 0)) (.int 1))) [.for_ (.tup [.name 4,.name 5]) (.val (.var 0)) [.ifs (.chn .le .lt (.var 4) (.var 2) (.var 5)) [.asg (.name 2) (.var 5)] []]],.ret (.var 2)]
noncomputable def nZ:List CS:=[.asg (.tup [.name 2,.name 3]) (.tup [.lst [],.ix (.var 0) (.int 1)]),.for_ (.name 4) (.val (.var 1)) [.asg (.name 5) (.ix (.ix (.ix (.var 0) (.int 2)) (.var 4)) (.int 2)),.ifs (.cmp .isnot (.var 3) .non) [.asg (.name 5) (.mx (.var 5) (.bin .add (.ix (.var 3) (.int 1)) (.ix (.ix (.ix (.ix (.var 0) (.int 0)) (.int 2)) (.ix (.var 3) (.int 0))) (.ix (.ix (.ix (.var 0) (.int 2)) (.var 4)) (.int 0)))))] [],.asg (.name 5) (.call 45 [.ix (.ix (.var 0) (.int 0)) (.int 3),.var 5]),.ex (.app (.var 2) (.tup [.var 4,.var 5])),.asg (.name 3) (.tup [.ix (.ix (.ix (.var 0) (.int 2)) (.var 4)) (.int 0),.var 5])],.ret (.var 2)]
noncomputable def jK:List CS:=[.ret (.chn .le .lt (.ix (.ix (.ix (.var 0) (.int 2)) (.ix (.var 1) (.int 0))) (.int 1)) (.var 2) (.bin .sub (.ix (.var 1) (.int 1)) (.ix (.ix (.var 0) (.int 0)) (.int 1))))]
noncomputable def lZ:List CS:=[.asg (.name 4) (.int 0),.for_ (.name 5) (.r2 (.var 3) (.bin .sub (.ix (.ix (.var 1) (.var 2)) (.int 1)) (.ix (.ix (.var 0) (.int 0)) (.int 1)))) [.asg (.name 4) (.mx (.var 4) (.bin .add (.int 1) (.len (.comp ["_law_one"] (.var 6) [⟨.name 6,.val (.sl (.var 1) none (some (.var 2))),some (.call 47 [.var 0,.var 6,.var 5])⟩]))))],.ret (.var 4)]
noncomputable def aW:List CS:=[.asg (.tup [.name 3,.name 4]) (.ix (.var 1) (.var 2)),.ifs (.not (.chn .le .lt (.int 0) (.var 3) (.len (.ix (.var 0) (.int 2))))) [.ret (.tup [.str "none", .var 3])] [],.ifs (.cmp .isin (.var 3) (.comp ["_law_one"] (.ix (.var 6) (.int 0)) [⟨.name 6,.val (.sl (.var 1) none (some (.var 2))),none⟩])) [.ret (.tup [.str "twice", .var 3])] [],.ifs (.and (.cmp .lt (.var 2) (.len (.ix (.var 0) (.int 3)))) (.cmp .ne (.ix (.ix (.var 0) (.int 3)) (.var 2)) (.var 3))) [.ret (.tup [.str "order", .var 3])] [],.ifs (.cmp .lt (.var 4) (.ix (.ix (.ix (.var 0) (.int 2)) (.var 3)) (.int 2))) [.ret (.tup [.str "soon", .var 3])] [],.ifs (.cmp .gt (.var 4) (.ix (.ix (.ix (.var 0) (.int 2)) (.var 3)) (.int 3))) [.ret (.tup [.str "late", .var 3])] [],.ifs (.cmp .ne (.comp ["_law_begin", "_law_end"] (.var 6) [⟨.tup [.name 6,.name 7],.val (.ix (.ix (.var 0) (.int 0)) (.int 3)),some (.chn .le .lt (.var 6) (.var 4) (.var 7))⟩]) (.lst [])) [.ret (.tup [.str "shut", .var 3])] [],.asg (.name 5) (.ix (.var 0) (.int 1)),.ifs (.cmp .gt (.var 2) (.int 0)) [.asg (.name 5) (.tup [.ix (.ix (.ix (.var 0) (.int 2)) (.ix (.ix (.var 1) (.bin .sub (.var 2) (.int 1))) (.int 0))) (.int 0),.ix (.ix (.var 1) (.bin .sub (.var 2) (.int 1))) (.int 1)])] [],.ifs (.and (.cmp .isnot (.var 5) .non) (.cmp .lt (.var 4) (.bin .add (.ix (.var 5) (.int 1)) (.ix (.ix (.ix (.ix (.var 0) (.int 0)) (.int 2)) (.ix (.var 5) (.int 0))) (.ix (.ix (.ix (.var 0) (.int 2)) (.var 3)) (.int 0)))))) [.ret (.tup [.str "gap", .var 3])] [],.ret .non]
noncomputable def jL:List CS:=[.for_ (.name 2) (.r1 (.len (.var 1))) [.asg (.name 3) (.call 49 [.var 0,.var 1,.var 2]),.ifs (.cmp .isnot (.var 3) .non) [.ret (.var 3)] []],.asg (.name 4) (.comp ["_law_one"] (.ix (.var 9) (.int 0)) [⟨.name 9,.val (.var 1),none⟩]),.asg (.name 5) (.comp ["_law_g"] (.var 9) [⟨.name 9,.r1 (.len (.ix (.var 0) (.int 2))),some (.cmp .notin (.var 9) (.var 4))⟩]),.ifs (.cmp .ne (.var 5) (.lst [])) [.ret (.tup [.str "lacks", .ix (.var 5) (.int 0)])] [],.for_ (.name 6) (.r1 (.mxL (.bin .add (.lst [.int 0]) (.comp ["_law_glider_here"] (.bin .add (.ix (.var 9) (.int 1)) (.int 1)) [⟨.name 9,.val (.ix (.var 0) (.int 2)),none⟩])))) [.ifs (.cmp .gt (.len (.comp ["_law_one"] (.var 9) [⟨.name 9,.val (.var 1),some (.call 47 [.var 0,.var 9,.var 6])⟩])) (.ix (.ix (.var 0) (.int 0)) (.int 0))) [.ret (.tup [.str "rings", .var 6])] []],.for_ (.tup [.name 2,.name 7]) (.en (.var 1)) [.asg (.name 8) (.ix (.ix (.var 0) (.int 2)) (.ix (.var 7) (.int 0))),.ifs (.and (.cmp .gt (.ix (.var 8) (.int 6)) (.int 0)) (.cmp .gt (.call 48 [.var 0,.var 1,.var 2,.ix (.var 8) (.int 1)]) (.ix (.var 8) (.int 6)))) [.ret (.tup [.str "ring", .ix (.var 7) (.int 0)])] []],.ret .non]
noncomputable def dq:List CS:=[.asg (.name 2) .non,.for_ (.name 3) (.r1 (.int 8)) [.asg (.name 4) (.call 46 [.var 1,.call 44 [.var 0,.var 1]]),.ifs (.and (.cmp .is (.var 2) .non) (.cmp .is (.call 50 [.var 1,.var 4]) .non)) [.asg (.name 2) (.var 4)] []],.ifs (.cmp .is (.var 2) .non) [.ret .non] [],.asg (.name 5) (.comp ["_law_one"] (.ix (.var 10) (.int 0)) [⟨.name 10,.val (.var 2),none⟩]),.asg (.tup [.name 6,.name 7]) (.tup [.call 37 [.var 0,.bin .add (.len (.var 5)) (.int 1)],.call 37 [.var 0,.int 7]]),.asg (.name 8) (.comp ["_law_g", "_law_glider_here"] (.bin .add (.bin .add (.sl (.var 11) none (some (.int 2))) (.tup [.bin .add (.ix (.var 11) (.int 2)) (.bin .mul (.var 7) (.intOf (.cmp .isin (.var 10) (.sl (.var 5) (some (.var 6)) none))))])) (.sl (.var 11) (some (.int 3)) none)) [⟨.tup [.name 10,.name 11],.en (.ix (.var 1) (.int 2)),none⟩]),.asg (.name 9) (.call 46 [.tup [.ix (.var 1) (.int 0),.ix (.var 1) (.int 1),.var 8,.ix (.var 1) (.int 3)],.var 5]),.ifs (.cmp .is (.call 50 [.var 1,.var 9]) .non) [.ret (.var 9)] [],.ret (.var 2)]
noncomputable def iu:List CS:=[.asg (.name 3) (.listOf (.var 1)),.asg (.name 4) (.call 37 [.var 0,.int 8]),.ifs (.or (.cmp .eq (.var 3) (.lst [])) (.cmp .eq (.var 4) (.int 0))) [.ex (.ins (.var 3) (.call 37 [.var 0,.bin .add (.len (.var 3)) (.int 1)]) (.tup [.bin .sub (.call 37 [.var 0,.bin .add (.len (.ix (.var 2) (.int 2))) (.int 2)]) (.int 1),.call 37 [.var 0,.int 120]])),.ret (.var 3)] [],.asg (.tup [.name 5,.name 6]) (.tup [.call 37 [.var 0,.len (.var 3)],.call 37 [.var 0,.len (.var 3)]]),.asg (.tup [.name 7,.name 8]) (.ix (.var 3) (.var 5)),.ifs (.cmp .eq (.var 4) (.int 1)) [.ex (.popAt (.var 3) (.var 5))] [.ifs (.cmp .eq (.var 4) (.int 2)) [.swp (.tup [.ix (.var 3) (.var 6),.ix (.var 3) (.var 5)]) (.var 3) (.var 5) (.var 3) (.var 6)] [.ifs (.cmp .eq (.var 4) (.int 3)) [.setI (.tup [.ix (.ix (.var 3) (.var 6)) (.int 0),.var 8]) (.var 3) (.var 5)] [.ifs (.cmp .eq (.var 4) (.int 4)) [.setI (.tup [.ix (.lst [.neg (.int 1),.len (.ix (.var 2) (.int 2)),.bin .pow (.int 10) (.int 20)]) (.call 37 [.var 0,.int 3]),.var 8]) (.var 3) (.var 5)] [.ifs (.cmp .eq (.var 4) (.int 5)) [.setI (.tup [.var 7,.bin .add (.var 8) (.ix (.lst [.neg (.int 1),.int 1,.bin .pow (.int 10) (.int 20),.neg (.bin .pow (.int 10) (.int 20))]) (.call 37 [.var 0,.int 4]))]) (.var 3) (.var 5)] [.asg (.name 3) (.bin .add (.sl (.var 3) none (some (.var 5))) (.comp ["_law_h", "_law_when"] (.tup [.var 9,.bin .add (.var 10) (.int 1)]) [⟨.tup [.name 9,.name 10],.val (.sl (.var 3) (some (.var 5)) none),none⟩]))]]]]],.ret (.var 3)]
noncomputable def n8:List CS:=[.asg (.name 1) (.lst [.non,.bl true,.bl false,.neg (.int 1),.bin .pow (.int 10) (.int 30),.str "", .str "a", .str "1", .tup [],.lst [],.dic0,.lst [.tup []],.tup [.tup []],.tup [.int 0],.lst [.int 0],.dic1 0 1,.tup [.bl true,.bl true]]),.ret (.ix (.var 1) (.call 37 [.var 0,.len (.var 1)]))]
noncomputable def t9:List CS:=[.never,.never,.never,.never,.never,.asg (.name 2) (.lst [.str "meadow", .str "sky", .str "landings", .str "order", .str "lot", .str "text", .str "name", .str "glider", .str "minute", .str "aim", .str "many", .str "bound"]),.never]
noncomputable def gN:List RS:=[.tr 19 [.var 0,.var 1]]
noncomputable def ma:List CS:=[.asg (.name 3) (.comp ["_law_turn"] (.tup [.call 37 [.var 0,.bin .add (.len (.ix (.var 2) (.int 2))) (.int 1)],.call 37 [.var 0,.int 99]]) [⟨.name 4,.r1 (.int 20),none⟩]),.ret (.lst [.sl (.bin .add (.var 1) (.var 3)) none (some (.int 20)),.sl (.bin .add (.bin .add (.var 1) (.var 3)) (.var 3)) none (some (.int 21)),.bin .add (.bin .add (.var 1) (.var 3)) (.var 3)])]
noncomputable def jM:List CS:=[.for_ (.name 1) (.r1 (.mx (.int 1) (.mn (.len (.var 0)) (.int 12)))) [.asg (.name 2) (.call 36 [.call 35 [.var 0,.var 1]]),.asg (.name 3) (.call 43 [.var 2,.int 6]),.asg (.name 4) (.comp ["_law_turn"] (.call 46 [.var 3,.call 44 [.var 2,.var 3]]) [⟨.name 13,.r1 (.int 2),none⟩]),.asg (.name 5) (.call 51 [.var 2,.var 3]),.ifs (.cmp .isnot (.var 5) .non) [.asg (.name 4) (.bin .add (.var 4) (.bin .mul (.lst [.var 5]) (.int 5)))] [],.asg (.name 4) (.bin .add (.bin .add (.var 4) (.call 56 [.var 2,.ix (.var 4) (.int 0),.var 3])) (.lst [.lst []])),.for_ (.name 6) (.val (.var 4)) [.asg (.name 7) (.var 6),.for_ (.name 8) (.r1 (.call 37 [.var 2,.int 5])) [.asg (.name 7) (.call 52 [.var 2,.var 7,.var 3])],.for_ (.name 9) (.val (.lst [.var 6,.var 7,.var 6])) [.asg (.name 10) (.str "landings"),.ifs (.cmp .le (.len (.var 9)) (.int 20)) [.asg (.name 10) (.call 50 [.var 3,.var 9])] [],.asg (.name 11) (.listOf (.var 9)),.ifs (.or (.cmp .ne (.rep (.call 55 [.var 3,.var 11])) (.rep (.var 10))) (.cmp .ne (.var 11) (.var 9))) [.ret (.bl false)] []]],.for_ (.name 12) (.val (.lst [.call 53 [.var 2],.tupOf (.ix (.var 4) (.int 0)),.lst [.tup [.int 0,.bl true]],.lst [.lst [.int 0,.int 3]],.lst [.tup [.int 0,.int 3,.int 3]],.non])) [.ifs (.and (.cmp .ne (.var 12) (.lst [])) (.cmp .ne (.call 55 [.var 3,.var 12]) (.str "landings"))) [.ret (.bl false)] []]],.ret (.bl true)]
noncomputable def gO:DefE:=⟨"is_whole", top 19,["thing"],["thing"],lP,none⟩
noncomputable def fE:DefE:=⟨"is_within", top 20,["thing", "least", "most"],["thing", "least", "most"],jA,none⟩
noncomputable def fF:DefE:=⟨"is_minute", top 21,["thing"],["thing"],jB,none⟩
noncomputable def gP:DefE:=⟨"is_tuple", top 22,["thing", "least", "most"],["thing", "least", "most"],lQ,none⟩
noncomputable def eI:DefE:=⟨"are_unlike", top 23,["thing", "many"],["thing", "many"],im,none⟩
noncomputable def fG:DefE:=⟨"is_meadow", top 30,["thing", "rings", "sink", "gaps", "shuts"],["thing"],jC,none⟩
noncomputable def gQ:DefE:=⟨"are_gaps", top 31,["thing"],["thing"],lU,none⟩
noncomputable def eJ:DefE:=⟨"is_gap_row", top 32,["thing", "many"],["thing", "many"],io,none⟩
noncomputable def aV:DefE:=⟨"no_glider_between_helps", top 33,["gaps", "kinds"],["gaps"],bH,none⟩
noncomputable def fH:DefE:=⟨"are_shuts", top 34,["thing"],["thing"],jD,none⟩
noncomputable def eK:DefE:=⟨"is_stretch", top 35,["thing"],["thing"],ip,none⟩
noncomputable def ja:DefE:=⟨"is_kind", top 36,["meadow", "thing"],["meadow", "thing"],nU,none⟩
noncomputable def jc:DefE:=⟨"is_shut", top 37,["meadow", "minute"],["meadow", "minute"],nV,none⟩
noncomputable def md:DefE:=⟨"is_sky", top 41,["thing", "meadow", "ahead", "gliders", "fixed"],["thing"],rA,none⟩
noncomputable def gR:DefE:=⟨"is_ahead", top 42,["meadow", "thing"],["meadow", "thing"],lV,none⟩
noncomputable def dr:DefE:=⟨"are_gliders", top 43,["meadow", "thing"],["meadow", "thing"],gz,none⟩
noncomputable def fI:DefE:=⟨"is_glider", top 44,["meadow", "thing", "kind", "joins", "first", "last", "due", "weight", "ring"],["meadow", "thing"],jE,none⟩
noncomputable def fJ:DefE:=⟨"are_fixed", top 45,["gliders", "thing"],["gliders", "thing"],jF,none⟩
noncomputable def jN:DefE:=⟨"check_sky", top 46,["thing"],["thing"],[],some fC⟩
noncomputable def vH:DefE:=⟨"amiss", top 49,["sky", "landings"],["sky", "landings"],[],some pN⟩
noncomputable def fK:DefE:=⟨"are_pairs", top 50,["thing"],["thing"],jG,none⟩
noncomputable def jd:DefE:=⟨"is_pair", top 51,["thing"],["thing"],nW,none⟩
noncomputable def dz:DefE:=⟨"first_amiss", top 52,["sky", "landings", "place", "word", "lacking", "crowded", "high"],["sky", "landings"],gA,none⟩
noncomputable def cy:DefE:=⟨"landing_amiss", top 53,["sky", "landings", "place", "meadow", "ahead", "gliders", "fixed", "glider"],["sky", "landings", "place"],eU,none⟩
noncomputable def cT:DefE:=⟨"minute_amiss", top 54,["sky", "landings", "place", "meadow", "ahead", "gliders", "fixed", "number", "minute", "kind", "joins", "first", "last", "due", "weight", "ring"],["sky", "landings", "place"],fD,none⟩
noncomputable def cz:DefE:=⟨"landing_ahead", top 55,["sky", "sooner", "number", "minute"],["sky", "sooner"],eV,none⟩
noncomputable def je:DefE:=⟨"gap_end", top 56,["sky", "ahead", "kind"],["sky", "ahead", "kind"],nX,none⟩
noncomputable def cA:DefE:=⟨"first_lacking", top 57,["sky", "landings", "landed", "number"],["sky", "landings"],eW,none⟩
noncomputable def gS:DefE:=⟨"waits_at", top 58,["sky", "landing", "minute", "number", "lands"],["sky", "landing", "minute"],lW,none⟩
noncomputable def cB:DefE:=⟨"how_many_wait", top 59,["sky", "landings", "minute"],["sky", "landings", "minute"],eX,none⟩
noncomputable def bT:DefE:=⟨"joining_minutes", top 60,["sky"],["sky"],dj,none⟩
noncomputable def cC:DefE:=⟨"first_crowded", top 61,["sky", "landings", "minute"],["sky", "landings"],eY,none⟩
noncomputable def b9:DefE:=⟨"first_too_high", top 62,["sky", "landings", "place", "landing"],["sky", "landings"],dS,none⟩
noncomputable def dA:DefE:=⟨"is_too_high", top 63,["sky", "landings", "place", "kind", "joins", "first", "last", "due", "weight", "ring"],["sky", "landings", "place"],gB,none⟩
noncomputable def dC:DefE:=⟨"ring_needed", top 64,["sky", "landings", "place", "minute", "sooner", "later"],["sky", "landings", "place", "minute"],gC,none⟩
noncomputable def dD:DefE:=⟨"_law_cell_at", top 66,["_law_script", "_law_k"],["_law_script", "_law_k"],gD,none⟩
noncomputable def jf:DefE:=⟨"_law_pot", top 67,["_law_cell", "_law_number", "_law_j", "_law_more"],["_law_cell"],nY,none⟩
noncomputable def gU:DefE:=⟨"_law_take", top 68,["_law_pot_here", "_law_far", "_law_found"],["_law_pot_here", "_law_far"],lX,none⟩
noncomputable def gV:DefE:=⟨"_law_gaps", top 69,["_law_pot_here", "_law_many", "_law_rows", "_law_c"],["_law_pot_here"],cS,none⟩
noncomputable def fL:DefE:=⟨"_law_shuts", top 70,["_law_pot_here", "_law_now", "_law_found", "_law_begin", "_law_turn"],["_law_pot_here", "_law_now"],jH,none⟩
noncomputable def eM:DefE:=⟨"_law_meadow", top 71,["_law_pot_here", "_law_rings"],["_law_pot_here"],iq,none⟩
noncomputable def eN:DefE:=⟨"_law_glider", top 72,["_law_pot_here", "_law_meadow_here", "_law_joins", "_law_first", "_law_last", "_law_due"],["_law_pot_here", "_law_meadow_here"],ir,none⟩
noncomputable def fM:DefE:=⟨"_law_mixed", top 73,["_law_pot_here", "_law_some", "_law_left"],["_law_pot_here", "_law_some"],jI,none⟩
noncomputable def jg:DefE:=⟨"_law_sky", top 74,["_law_pot_here", "_law_most", "_law_meadow_here", "_law_gliders", "_law_numbers", "_law_fixed", "_law_g", "_law_ahead"],["_law_pot_here", "_law_most"],i9,none⟩
noncomputable def fN:DefE:=⟨"_law_order", top 75,["_law_pot_here", "_law_sky_here"],["_law_pot_here", "_law_sky_here"],jJ,none⟩
noncomputable def gW:DefE:=⟨"_law_open", top 76,["_law_shuts_here", "_law_minute", "_law_found", "_law_turn", "_law_begin", "_law_end"],["_law_shuts_here", "_law_minute"],lY,none⟩
noncomputable def jh:DefE:=⟨"_law_run", top 77,["_law_sky_here", "_law_order_here", "_law_found", "_law_ahead", "_law_g", "_law_minute"],["_law_sky_here", "_law_order_here"],nZ,none⟩
noncomputable def fO:DefE:=⟨"_law_waits", top 78,["_law_sky_here", "_law_one", "_law_minute"],["_law_sky_here", "_law_one", "_law_minute"],jK,none⟩
noncomputable def gX:DefE:=⟨"_law_need", top 79,["_law_sky_here", "_law_landings", "_law_k", "_law_minute", "_law_found", "_law_when"],["_law_sky_here", "_law_landings", "_law_k", "_law_minute"],lZ,none⟩
noncomputable def cD:DefE:=⟨"_law_one_amiss", top 80,["_law_sky_here", "_law_landings", "_law_k", "_law_g", "_law_minute", "_law_ahead"],["_law_sky_here", "_law_landings", "_law_k"],aW,none⟩
noncomputable def fP:DefE:=⟨"_law_amiss", top 81,["_law_sky_here", "_law_landings", "_law_k", "_law_found", "_law_landed", "_law_lacking", "_law_minute", "_law_one", "_law_glider_here"],["_law_sky_here", "_law_landings"],jL,none⟩
noncomputable def dE:DefE:=⟨"_law_landing", top 82,["_law_pot_here", "_law_sky_here", "_law_found", "_law_turn", "_law_landings", "_law_later", "_law_at", "_law_more", "_law_gliders", "_law_slow"],["_law_pot_here", "_law_sky_here"],dq,none⟩
noncomputable def eO:DefE:=⟨"_law_turned", top 83,["_law_pot_here", "_law_landings", "_law_sky_here", "_law_found", "_law_way", "_law_at", "_law_other", "_law_g", "_law_minute"],["_law_pot_here", "_law_landings", "_law_sky_here"],iu,none⟩
noncomputable def ji:DefE:=⟨"_law_odd", top 84,["_law_pot_here", "_law_some"],["_law_pot_here"],n8,none⟩
noncomputable def ua:DefE:=⟨"_law_word", top 85,["_law_e", "_law_some", "_law_words"],["_law_e"],t9,none⟩
noncomputable def mf:DefE:=⟨"_law_told", top 86,["_law_sky_here", "_law_thing", "_law_e"],["_law_sky_here", "_law_thing"],[],some gN⟩
noncomputable def gY:DefE:=⟨"_law_long", top 87,["_law_pot_here", "_law_row", "_law_sky_here", "_law_more"],["_law_pot_here", "_law_row", "_law_sky_here"],ma,none⟩
noncomputable def vI:DefE:=⟨"law", top 88,["_law_script", "_law_k", "_law_pot_here", "_law_sky_here", "_law_rows", "_law_right", "_law_row", "_law_some", "_law_turn", "_law_landings", "_law_due", "_law_handed", "_law_thing"],["_law_script"],jM,none⟩
noncomputable def ae:List DefE:=[gO,fE,fF,gP,eI,fG,gQ,eJ,aV,fH,eK,ja,jc,md,gR,dr,fI,fJ,jN,vH,fK,jd,dz,cy,cT,cz,je,cA,gS,cB,bT,cC,b9,dA,dC,dD,jf,gU,gV,fL,eM,eN,fM,jg,fN,gW,jh,fO,gX,cD,fP,dE,eO,ji,ua,mf,gY,vI]
theorem chk:ae.all (Aw (nR con ae))=true:=by kernel_rfl
theorem O2:ae.any vA=true:=by kernel_rfl
theorem us1:∀ {us:List Value},us.length=1->∃a0,us=[a0]
 |[a0],_=>⟨a0,rfl⟩
theorem us2:∀ {us:List Value},us.length=2->∃a0 a1,us=[a0,a1]
 |[a0,a1],_=>⟨a0,a1,rfl⟩
theorem us3:∀ {us:List Value},us.length=3->∃a0 a1 a2,us=[a0,a1,a2]
 |[a0,a1,a2],_=>⟨a0,a1,a2,rfl⟩
theorem us4:∀ {us:List Value},us.length=4->∃a0 a1 a2 a3,us=[a0,a1,a2,a3]
 |[a0,a1,a2,a3],_=>⟨a0,a1,a2,a3,rfl⟩
theorem bind:xG ae:=by
 repeat' apply And.intro
 all_goals first |trivial |(intro _ _ _ _ _ _ us hl;first |(obtain⟨_,rfl⟩:=us1 hl;rfl) |(obtain⟨_,_,rfl⟩:=us2 hl;rfl) |(obtain⟨_,_,_,rfl⟩:=us3 hl;rfl) |(obtain⟨_,_,_,_,rfl⟩:=us4 hl;rfl))
end Lw
section
open PySem PySem.W PyProof.Rows
theorem Lw.eqs(h:Heap):Ev.IV Lw.con Lw.ae h=(h.isNs VL,(Lw.nx.take 40).map (fun x=>Ev.DJ h (.ofString x.1))++(Lw.nx.drop 40).map (fun x=>Ev.DJ h (.ofString x.1)),Lw.con.map (fun c=>Ev.M0 h c.1),(Ev.fu.map fun x=>(h.nsMap VL x).isNone),Ev.IU h):=by kernel_rfl
theorem Lw.eqv:Ev.Az Lw.con Lw.ae=(true,Lw.vb (Lw.nx.take 40)++Lw.vb (Lw.nx.drop 40),Lw.con.map (fun c=>some c.2),(Ev.fu.map fun _=>true),true):=by kernel_rfl
theorem Lw.partC:Cut.PartC PySem.Challenge.rw_downrings_k12_what_is_amiss.row.toRowW.prog (Hook.obs (Ev.i8 Lw.con Lw.ae Lw.bind)) (Hook.val (Ev.i8 Lw.con Lw.ae Lw.bind)):=fun w=>by
 have z:=Cut.two (fun a (b:Ev.Ay)=>((b.1,a++b.2.1,b.2.2):Ev.Ay)) Lw.partC1 Lw.partC2 w
 show Option.map (fun s=>Ev.IV Lw.con Lw.ae s.heap) (Cut.fin _ w)=some (Ev.Az Lw.con Lw.ae)
 rw[Lw.eqv,show (fun s:Shared=>Ev.IV Lw.con Lw.ae s.heap)=_ from funext fun s=>Lw.eqs s.heap];exact z
set_option maxHeartbeats 0 in
theorem Lw.head(hmain:∀ns:List Int,ns.length<=63->∃S',Ev.evC Lw.ae 40 57 [.ref 0] [.frz (ns.map Ev.D.int)]=some (.bl true,S')):PySem.Challenge.rw_downrings_k12_what_is_amiss.Holds:=by
 w_on;refine holds_law Lw.said fun said=>?_
 refine holds_open (q:=Lw.view) (loose:=Lw.loose) (Xt:=(fun s=>xlAt Lw.view [] s && recOk (RowW.records PySem.Challenge.rw_downrings_k12_what_is_amiss.row.toRowW) s)) (XP:=XL Lw.view []) (Yf:=(Hook.obs (Ev.i8 Lw.con Lw.ae Lw.bind))) (Ya:=(Hook.val (Ev.i8 Lw.con Lw.ae Lw.bind))) (YP:=Hook.says (Ev.i8 Lw.con Lw.ae Lw.bind)) (N:=20000) ?hl (Hook.of _) (Hook.keeps _) (fun s e=>xl_of s (Xi.mp e).1) XL.keeps (by rfl) (by rfl) (by rfl) (fun s e=>recFacts_of (Xi.mp e).2) (by rfl) (by first |assumption |decide +kernel) (by decide +kernel) ⟨rfl,rfl,rfl,rfl,rfl,by decide +kernel⟩ ?hw ?hc
 case hw=>w_witness2
 case hl=>exact Cut.left_cut Lw.opn Lw.partA Lw.partB Lw.partC
 case hc=>exact Ev.DN (l:=PySem.Challenge.rw_downrings_k12_what_is_amiss) (n:=63) (k:=40) (i:=57) (dl:=Lw.vI) rfl (by decide) rfl ⟨rfl,by decide,by decide,rfl⟩ rfl rfl rfl Lw.chk Lw.O2 hmain
end
namespace Ev
open PySem PySem.Spec PyProof.Rows L2
def Ok{α:Type}(x:Option (α × Sto))(Q:α->Sto->Prop):Prop:=∃a S,x=some (a,S)/\Q a S
def OkS(x:Option (Fl × Rho × Sto))(Q:Fl->Rho->Sto->Prop):Prop:=∃f ρ S,x=some (f,ρ,S)/\Q f ρ S
section
variable {α β:Type} {S S':Sto} {ρ ρ':Rho}
theorem ay{a:α}:Ok (some (a,S)) Q=Q a S:=by
 apply propext;exact⟨fun⟨_,_,e,q⟩=>by cases e;exact q,fun q=>⟨a,S,rfl,q⟩⟩
theorem aP:Ok none Q=False:=propext ⟨fun⟨_,_,e,_⟩=>(nomatch e),fun h=>h.elim⟩
theorem bB:Ok (bnd x f) Q=Ok x fun a S=>Ok (f a S) Q:=by
 apply propext;constructor
 ·rintro⟨b,S',e,q⟩;obtain⟨a,S,e1,e2⟩:=af e;exact⟨a,S,e1,b,S',e2,q⟩
 ·rintro⟨a,S,e1,b,S',e2,q⟩;exact⟨b,S',by rw[e1];exact e2,q⟩
theorem cU{c:Prop}[Decidable c]:Ok (if c then x else y) Q=if c then Ok x Q else Ok y Q:=by split <;> rfl
theorem IX{x:Option β}{f:β->α × Sto}{Q:α->Sto->Prop}:Ok (x.map f) Q=∃b,x=some b/\Q (f b).1 (f b).2:=by
 apply propext;cases x with
 |none=>exact⟨fun⟨_,_,e,_⟩=>(nomatch e),fun⟨_,e,_⟩=>(nomatch e)⟩
 |some b=>exact⟨fun⟨a,S,e,q⟩=>⟨b,rfl,by have e':=Option.some.inj e;rw[e'];exact q⟩,fun⟨b',e,q⟩=>by cases e;exact⟨_,_,rfl,q⟩⟩
theorem Ok.mono(h:Ok x Q)(f:∀a S,Q a S->Q' a S):Ok x Q':=let ⟨a,S,e,q⟩:=h;⟨a,S,e,f a S q⟩
theorem OkS.mono(h:OkS x Q)(f:∀a ρ S,Q a ρ S->Q' a ρ S):OkS x Q':=let ⟨a,ρ,S,e,q⟩:=h;⟨a,ρ,S,e,f a ρ S q⟩
def nxt(y:XS)(Q:Fl->Rho->Sto->Prop)(f:Fl)(ρ:Rho)(S:Sto):Prop:=match f with
 |.nx=>OkS (y ρ S) Q
 |f=>Q f ρ S
theorem DP:OkS (tK x y ρ S) Q=OkS (x ρ S) (nxt y Q):=by
 apply propext;unfold tK;constructor
 ·rintro⟨f,ρ1,S1,e,q⟩;split at e
  ·cases e
  ·rename_i ρ2 S2 h;exact⟨_,_,_,h,f,ρ1,S1,e,q⟩
  ·rename_i r n h;cases e;cases f with
   |nx=>exact absurd rfl (n ρ1 S1)
   |_=>exact⟨_,_,_,h,q⟩
 ·rintro⟨f,ρ1,S1,e,q⟩;rw[e];cases f with
  |nx=>exact q
  |_=>exact⟨_,_,_,rfl,q⟩
theorem IY:OkS (xIf c x y ρ S) Q=Ok (c ρ S) fun b S1=>if b=true then OkS (x ρ S1) Q else OkS (y ρ S1) Q:=by
 apply propext;unfold xIf;constructor
 ·rintro⟨f,ρ1,S1,e,q⟩;cases h:c ρ S with
  |none=>rw[h] at e;cases e
  |some r=>
   obtain⟨b,S2⟩:=r;rw[h] at e;refine⟨b,S2,rfl,?_⟩;dsimp only at e ⊢;split
   ·rename_i hb;rw[if_pos hb] at e;exact⟨f,ρ1,S1,e,q⟩
   ·rename_i hb;rw[if_neg hb] at e;exact⟨f,ρ1,S1,e,q⟩
 ·rintro⟨b,S2,e,q⟩;rw[e];dsimp only;split
  ·rename_i hb;rw[if_pos hb] at q;exact q
  ·rename_i hb;rw[if_neg hb] at q;exact q
theorem DQ:OkS (kU x t ρ S) Q=Ok (x ρ S) fun d S1=>∃ρ1,aA t d ρ=some ρ1/\Q .nx ρ1 S1:=by
 apply propext;unfold kU;constructor
 ·rintro⟨f,ρ1,S1,e,q⟩;cases h:x ρ S with
  |none=>rw[h] at e;cases e
  |some r=>
   obtain⟨d,S2⟩:=r;rw[h] at e;dsimp only at e;cases h2:aA t d ρ with
   |none=>rw[h2] at e;cases e
   |some ρ2=>rw[h2] at e;cases e;exact⟨d,_,rfl,ρ1,h2,q⟩
 ·rintro⟨d,S2,e,ρ1,e2,q⟩;rw[e];dsimp only;rw[e2];exact⟨_,_,_,rfl,q⟩
theorem AD:OkS (qL x ρ S) Q=Ok (x ρ S) fun _ S1=>Q .nx ρ S1:=by
 apply propext;unfold qL;constructor
 ·rintro⟨f,ρ1,S1,e,q⟩;cases h:x ρ S with
  |none=>rw[h] at e;cases e
  |some r=>rw[h] at e;cases e;exact⟨_,_,rfl,q⟩
 ·rintro⟨d,S2,e,q⟩;rw[e];exact⟨_,_,_,rfl,q⟩
theorem DR:OkS (zx x ρ S) Q=Ok (x ρ S) fun d S1=>Q (.rt d) ρ S1:=by
 apply propext;unfold zx;constructor
 ·rintro⟨f,ρ1,S1,e,q⟩;cases h:x ρ S with
  |none=>rw[h] at e;cases e
  |some r=>rw[h] at e;cases e;exact⟨_,_,rfl,q⟩
 ·rintro⟨d,S2,e,q⟩;rw[e];exact⟨_,_,_,rfl,q⟩
theorem AE:OkS (qM v o i ρ S) Q=Ok (v ρ S) fun a S1=>Ok (o ρ S1) fun b S2=>Ok (i ρ S2) fun c S3=>∃S4,dM b c a S3=some S4/\Q .nx ρ S4:=by
 apply propext;unfold qM;constructor
 ·rintro⟨f,ρ1,S1,e,q⟩;cases h:v ρ S with
  |none=>rw[h] at e;cases e
  |some r=>
   rw[h] at e;dsimp only at e;cases h2:o ρ r.2 with
   |none=>rw[h2] at e;cases e
   |some r2=>
    rw[h2] at e;dsimp only at e;cases h3:i ρ r2.2 with
    |none=>rw[h3] at e;cases e
    |some r3=>
     rw[h3] at e;dsimp only at e;cases h4:dM r2.1 r3.1 r.1 r3.2 with
     |none=>rw[h4] at e;cases e
     |some S4=>rw[h4] at e;cases e;exact⟨_,_,rfl,_,_,h2,_,_,h3,_,h4,q⟩
 ·rintro⟨a,S1,e1,b,S2,e2,c,S3,e3,S4,e4,q⟩;rw[e1];dsimp only;rw[e2];dsimp only;rw[e3];dsimp only;rw[e4];exact⟨_,_,_,rfl,q⟩
theorem DS{k:Nat}:OkS (zA it tg b k ρ S) Q=Ok (it ρ S) fun nx S1=>OkS (dN nx tg b k 0 ρ S1) Q:=by
 apply propext;unfold zA;constructor
 ·rintro⟨f,ρ1,S1,e,q⟩;cases h:it ρ S with
  |none=>rw[h] at e;cases e
  |some r=>rw[h] at e;exact⟨_,_,rfl,_,_,_,e,q⟩
 ·rintro⟨d,S2,e,q⟩;rw[e];exact q
def out(Q:D->Sto->Prop)(f:Fl)(_:Rho)(S:Sto):Prop:=match f with
 |.rt v=>Q v S
 |.nx=>Q .non S
 |_=>False
theorem IZ:out Q (.rt d) ρ S=Q d S:=rfl
theorem Ja:out Q .nx ρ S=Q .non S:=rfl
theorem aB{k f:Nat}(hd:ae[f]?=some d)(hρ:ds.map some++Zo (d.N.length - ds.length) none=ρ)(h:OkS (fc (evC ae k) (cu ae) 60 d.body ρ S) (out Q))(hr:d.rb=none:=by rfl):Ok (evC ae (k+1) f ds S) Q:=by
 subst hρ;obtain⟨fl,ρ1,S1,e,q⟩:=h;have e:fc (toC (evX ae k)) (cu ae) FU d.body _ S=some (fl,ρ1,S1):=e;have z:evX ae (k+1) f ds S=(DG (toC (evX ae k)) (cu ae) d ds S).map fun r=>(.val r.1,r.2):=by simp only[evX,hd,hr]
 unfold evC toC;rw[z];unfold DG;rw[e];cases fl with
 |rt v=>exact⟨_,_,rfl,q⟩
 |nx=>exact⟨_,_,rfl,q⟩
 |bk=>exact q.elim
 |ct=>exact q.elim
theorem og{N:Nat}(I:Nat->List D->Sto->Prop)
  (step:∀i acc S,i < N->I i acc S->∃d ρ1,nx i S=some (some d)/\aA tg d ρ=some ρ1/\Ok (c ρ1 S) fun es S1=>I (i+1) (acc++es) S1) (stop:∀acc S,I N acc S->nx N S=some none) :
  ∀ (n i k:Nat) (acc:List D) (S:Sto),N=i+n->n < k->I i acc S->Ok (bb nx tg c ρ k i S) fun es S'=>I N (acc++es) S'
 |0,i,k+1,acc,S,hN,hk,h=>by
  obtain rfl:N=i:=by lia
  simp only[bb,stop acc S h];exact⟨_,_,rfl,by show I _ (acc++[]) S;rw[ZT];exact h⟩
 |n+1,i,k+1,acc,S,hN,hk,h=>by
  obtain⟨d,ρ1,e1,e2,es,S1,e3,h'⟩:=step i acc S (by lia) h;simp only[bb,e1,e2,e3,bnd];obtain⟨rs,S2,e4,h2⟩:=og I step stop n (i+1) k (acc++es) S1 (by lia) (by lia) h';simp only[e4];exact⟨_,_,rfl,by show I _ (acc++(es++rs)) S2;rw[<-Yd];exact h2⟩
theorem fQ{k:Nat}(N:Nat)(I:Nat->List D->Sto->Prop)(hk:N < k)
  (step:∀i acc S,i < N->I i acc S->∃d ρ1,nx i S=some (some d)/\aA tg d ρ=some ρ1/\Ok (c ρ1 S) fun es S1=>I (i+1) (acc++es) S1) (stop:∀acc S,I N acc S->nx N S=some none) (h:I 0 [] S) :
  Ok (bb nx tg c ρ k 0 S) (I N):=(og I step stop N 0 k [] S (by lia) hk h).mono fun es S' z=>by rw[XX] at z;exact z
theorem mh{N:Nat}(I:Nat->Rho->Sto->Prop)
  (step:∀i ρ S,i < N->I i ρ S->∃d ρ1,nx i S=some (some d)/\aA tg d ρ=some ρ1/\OkS (b ρ1 S) fun fl ρ2 S2=>match fl with |.nx=>I (i+1) ρ2 S2 |.ct=>I (i+1) ρ2 S2 |.bk=>Q .nx ρ2 S2 |.rt d=>Q (.rt d) ρ2 S2)
  (stop:∀ρ S,I N ρ S->nx N S=some none/\Q .nx ρ S) :
  ∀ (n i k:Nat) (ρ:Rho) (S:Sto),N=i+n->n < k->I i ρ S->OkS (dN nx tg b k i ρ S) Q
 |0,i,k+1,ρ,S,hN,hk,h=>by
  obtain rfl:N=i:=by lia
  simp only[dN,(stop ρ S h).1];exact⟨_,_,_,rfl,(stop ρ S h).2⟩
 |n+1,i,k+1,ρ,S,hN,hk,h=>by
  obtain⟨d,ρ1,e1,e2,fl,ρ2,S2,e3,h'⟩:=step i ρ S (by lia) h;simp only[dN,e1,e2,e3];cases fl with
  |nx=>exact mh I step stop n (i+1) k ρ2 S2 (by lia) (by lia) h'
  |ct=>exact mh I step stop n (i+1) k ρ2 S2 (by lia) (by lia) h'
  |bk=>exact⟨_,_,_,rfl,h'⟩
  |rt d=>exact⟨_,_,_,rfl,h'⟩
theorem iz{k:Nat}(N:Nat)(I:Nat->Rho->Sto->Prop)(hk:N < k)
  (step:∀i ρ S,i < N->I i ρ S->∃d ρ1,nx i S=some (some d)/\aA tg d ρ=some ρ1/\OkS (b ρ1 S) fun fl ρ2 S2=>match fl with |.nx=>I (i+1) ρ2 S2 |.ct=>I (i+1) ρ2 S2 |.bk=>Q .nx ρ2 S2 |.rt d=>Q (.rt d) ρ2 S2)
  (stop:∀ρ S,I N ρ S->nx N S=some none/\Q .nx ρ S) (h:I 0 ρ S):OkS (dN nx tg b k 0 ρ S) Q:=mh I step stop N 0 k ρ S (by lia) hk h
end
mutual
def TD(p:Nat)(S:Sto):Dw.D->D->Prop
 |.non,d=>d = .non
 |.bl b,d=>d = .bl b
 |.int i,d=>d = .int i
 |.str x,d=>d = .str x
 |.tup ts,d=>∃ds,d = .tup ds/\TDs p S ts ds
 |.lst ts,d=>∃n ds,d = .ref n/\n ≠ p/\S[n]?=some (.lst ds)/\TDs p S ts ds
 |.dic ks ts,d=>∃n ds,d = .ref n/\n ≠ p/\S[n]?=some (.dic ks ds)/\TDs p S ts ds
def TDs(p:Nat)(S:Sto):List Dw.D->List D->Prop
 |[],ds=>ds=[]
 |t::ts,ds=>∃d r,ds=d::r/\TD p S t d/\TDs p S ts r
end
def Kp(p:Nat)(S S':Sto):Prop:=∀i o,i ≠ p->S[i]?=some o->S'[i]?=some o
def Sm(S S':Sto):Prop:=∀ (i:Nat) (o:Ob),S[i]?=some o->S'[i]?=some o
theorem Sm.kp{p:Nat}(h:Sm S S'):Kp p S S':=fun i o _ e=>h i o e
theorem Sm.refl(S:Sto):Sm S S:=fun _ _ e=>e
theorem Sm.trans(a:Sm S S1)(b:Sm S1 S2):Sm S S2:=fun i o e=>b i o (a i o e)
theorem Sm.app(S X:Sto):Sm S (S++X):=fun i o e=>by
 have hi:=(Zc.mp e).1;rw[Zw hi];exact e
theorem Kp.refl(p:Nat)(S:Sto):Kp p S S:=fun _ _ _ e=>e
theorem Kp.trans{p:Nat}(a:Kp p S S1)(b:Kp p S1 S2):Kp p S S2:=fun i o n e=>b i o n (a i o n e)
mutual
theorem TD.keep{p:Nat}(k:Kp p S S'):∀ {t:Dw.D} {d:D},TD p S t d->TD p S' t d
 |.non,_,h=>by rw[TD] at h ⊢;exact h
 |.bl _,_,h=>by rw[TD] at h ⊢;exact h
 |.int _,_,h=>by rw[TD] at h ⊢;exact h
 |.str _,_,h=>by rw[TD] at h ⊢;exact h
 |.tup ts,_,h=>by rw[TD] at h ⊢;obtain⟨ds,e,q⟩:=h;exact⟨ds,e,TDs.keep k q⟩
 |.lst ts,_,h=>by rw[TD] at h ⊢;obtain⟨n,ds,e,ne,a,q⟩:=h;exact⟨n,ds,e,ne,k _ _ ne a,TDs.keep k q⟩
 |.dic ks ts,_,h=>by rw[TD] at h ⊢;obtain⟨n,ds,e,ne,a,q⟩:=h;exact⟨n,ds,e,ne,k _ _ ne a,TDs.keep k q⟩
theorem TDs.keep{p:Nat}(k:Kp p S S'):∀ {ts:List Dw.D} {ds:List D},TDs p S ts ds->TDs p S' ts ds
 |[],_,h=>by rw[TDs] at h ⊢;exact h
 |t::ts,_,h=>by rw[TDs] at h ⊢;obtain⟨d,r,e,a,q⟩:=h;exact⟨d,r,e,TD.keep k a,TDs.keep k q⟩
end
section
variable {p:Nat} {S S':Sto}
theorem pO:TD p S .non .non:=by rw[TD]
theorem rB:TD p S (.bl b) (.bl b):=by rw[TD]
theorem aN{i:Int}:TD p S (.int i) (.int i):=by rw[TD]
theorem mi:TD p S (.str x) (.str x):=by rw[TD]
theorem ba(h:TDs p S ts ds):TD p S (.tup ts) (.tup ds):=by rw[TD];exact⟨ds,rfl,h⟩
theorem aC:TDs p S [] []:=by rw[TDs]
theorem ad(h:TD p S t d)(q:TDs p S ts ds):TDs p S (t::ts) (d::ds):=by rw[TDs];exact⟨d,ds,rfl,h,q⟩
theorem TD.non(h:TD p S .non d):d = .non:=by rw[TD] at h;exact h
theorem TD.bl(h:TD p S (.bl b) d):d = .bl b:=by rw[TD] at h;exact h
theorem TD.int{i:Int}(h:TD p S (.int i) d):d = .int i:=by rw[TD] at h;exact h
theorem TD.str(h:TD p S (.str x) d):d = .str x:=by rw[TD] at h;exact h
theorem TD.tup(h:TD p S (.tup ts) d):∃ds,d = .tup ds/\TDs p S ts ds:=by rw[TD] at h;exact h
theorem TDs.cons(h:TDs p S (t::ts) ds):∃d r,ds=d::r/\TD p S t d/\TDs p S ts r:=by rw[TDs] at h;exact h
theorem TDs.nil(h:TDs p S [] ds):ds=[]:=by rw[TDs] at h;exact h
theorem TDs.len:∀ {ts:List Dw.D} {ds:List D},TDs p S ts ds->ds.length=ts.length
 |[],_,h=>by rw[h.nil];rfl
 |t::ts,_,h=>by obtain⟨d,r,rfl,_,q⟩:=h.cons;simp[q.len]
theorem TDs.get:∀ {ts:List Dw.D} {ds:List D} {i:Nat} {t:Dw.D},TDs p S ts ds->ts[i]?=some t->∃d,ds[i]?=some d/\TD p S t d
 |[],_,_,_,_,e=>by simp at e
 |t::ts,_,0,_,h,e=>by obtain⟨d,r,rfl,a,q⟩:=h.cons;simp at e;subst e;exact⟨d,rfl,a⟩
 |t::ts,_,i+1,_,h,e=>by obtain⟨d,r,rfl,a,q⟩:=h.cons;simp at e;obtain⟨x,hx,y⟩:=q.get e;exact⟨x,by simpa using hx,y⟩
noncomputable def tyT:Dw.D->String
 |.non => "NoneType" |.bl _ => "bool" |.int _ => "int" |.str _ => "str" |.tup _ => "tuple" |.lst _ => "list" |.dic _ _ => "dict"
theorem M2(h:TD p S t d):tyN d S=some (tyT t):=by
 cases t with
 |non=>rw[h.non];rfl
 |bl _=>rw[h.bl];rfl
 |int _=>rw[h.int];rfl
 |str _=>rw[h.str];rfl
 |tup _=>obtain⟨_,rfl,_⟩:=h.tup;rfl
 |lst _=>rw[TD] at h;obtain⟨n,ds,rfl,_,e,_⟩:=h;simp only[tyN,e];rfl
 |dic _ _=>rw[TD] at h;obtain⟨n,ds,rfl,_,e,_⟩:=h;simp only[tyN,e];rfl
theorem kc(h:TD p S t d):kO ty d S=some (.bl (eT ty (tyT t)),S):=by
 unfold kO;rw[M2 h];rfl
end
theorem DT{n:Nat}:Ok (qP g n x ρ S) Q=Ok (x ρ S) fun ds S1=>ds.length=n/\Ok (g ds S1) Q:=by
 unfold qP;rw[bB]
 congr 1
 funext ds S1
 rw[cU,aP];apply propext;split
 ·rename_i h;exact⟨fun z=>⟨h,z⟩,fun z=>z.2⟩
 ·rename_i h;exact⟨fun z=>z.elim,fun z=>(h z.1).elim⟩
theorem Jb:Ok (zE x y ρ S) Q=Ok (x ρ S) fun d S1=>∃b,d = .bl b/\if b=true then Ok (y ρ S1) Q else Q (.bl false) S1:=by
 unfold zE;rw[bB]
 congr 1
 funext d S1
 apply propext;cases d with
 |bl b=>cases b <;> simp[ay]
 |_=>simp[aP]
theorem M3:Ok (xOr x y ρ S) Q=Ok (x ρ S) fun d S1=>∃b,d = .bl b/\if b=true then Q (.bl true) S1 else Ok (y ρ S1) Q:=by
 unfold xOr;rw[bB]
 congr 1
 funext d S1
 apply propext;cases d with
 |bl b=>cases b <;> simp[ay]
 |_=>simp[aP]
theorem Jc:Ok (xk d S) Q=∃b,d = .bl b/\Q (.bl (!b)) S:=by
 apply propext;cases d with
 |bl b=>simp[xk,ay]
 |_=>simp[xk,aP]
theorem Jd:Ok (xl f g x y z ρ S) Q=Ok (x ρ S) fun a S1=>Ok (y ρ S1) fun b S2=>Ok (f a b S2) fun r S3=>∃c,r = .bl c/\if c=true then Ok (z ρ S3) fun e S4=>Ok (g b e S4) Q else Q (.bl false) S3:=by
 unfold xl;rw[bB]
 congr 1
 funext a S1
 rw[bB]
 congr 1
 funext b S2
 rw[bB]
 congr 1
 funext r S3
 apply propext;cases r with
 |bl c=>cases c <;> simp[ay,bB]
 |_=>simp[aP]
theorem Je{i:Nat}:Ok (wH i ρ S) Q=∃d,ρ[i]?=some (some d)/\Q d S:=by
 apply propext;unfold wH;cases h:ρ[i]? with
 |none=>simp[aP]
 |some o=>cases o with
  |none=>simp[aP]
  |some d=>simp[ay]
theorem M4{i j:Int}:Ok (aw .le (.int i) (.int j) S) Q=Q (.bl (decide (i<=j))) S:=ay
theorem M5{i j:Int}:Ok (aw .lt (.int i) (.int j) S) Q=Q (.bl (decide (i < j))) S:=ay
theorem M6{i j:Int}:Ok (aw .gt (.int i) (.int j) S) Q=Q (.bl (decide (j < i))) S:=ay
theorem M7{i j:Int}:Ok (aw .ge (.int i) (.int j) S) Q=Q (.bl (decide (j<=i))) S:=ay
theorem Jf{i j:Int}:Ok (bC .add (.int i) (.int j) S) Q=Q (.int (i+j)) S:=ay
theorem Jg{i j:Int}:Ok (bC .sub (.int i) (.int j) S) Q=Q (.int (i - j)) S:=ay
theorem M8:Ok (xB x ρ S) Q=Ok (x ρ S) fun d S1=>∃b,d = .bl b/\Q b S1:=by
 unfold xB;rw[bB]
 congr 1
 funext d S1
 apply propext;cases d with
 |bl b=>simp[ay]
 |_=>simp[aP]
theorem DU{own k:Nat}:Ok (kY own it tg c k ρ S) Q=Ok (it ρ S) fun nx S1=>df tg (ρ++Zo own none)=true/\Ok (bb nx tg c (ρ++Zo own none) k 0 S1) fun es S2=>es.length<=100000/\Q es S2:=by
 unfold kY;rw[bB]
 congr 1
 funext nx S1
 rw[cU,aP];apply propext
 have e:Ok (bnd (bb nx tg c (ρ++Zo own none) k 0 S1) fun es S2=>if es.length<=100000 then some (es,S2) else none) Q=Ok (bb nx tg c (ρ++Zo own none) k 0 S1) fun es S2=>es.length<=100000/\Q es S2:=by
  rw[bB]
  congr 1
  funext es S2
  rw[cU,aP,ay];apply propext;split
  ·rename_i h;exact⟨fun z=>⟨h,z⟩,fun z=>z.2⟩
  ·rename_i h;exact⟨fun z=>z.elim,fun z=>(h z.1).elim⟩
 rw[e];split
 ·rename_i h;exact⟨fun z=>⟨h,z⟩,fun z=>z.2⟩
 ·rename_i h;exact⟨fun z=>z.elim,fun z=>(h z.1).elim⟩
theorem AF{k:Nat}:Ok (iW it tg c k ρ S) Q=(df tg ρ=true/\Ok (it ρ S) fun nx S1=>Ok (bb nx tg c ρ k 0 S1) Q):=by
 unfold iW;rw[cU,aP,bB];apply propext;split
 ·rename_i h;exact⟨fun z=>⟨h,z⟩,fun z=>z.2⟩
 ·rename_i h;exact⟨fun z=>z.elim,fun z=>(h z.1).elim⟩
theorem DV:Ok (ng x ρ S) Q=Ok (x ρ S) fun ds S1=>ds.length<=1000/\Q ds S1:=by
 unfold ng;rw[bB]
 congr 1
 funext ds S1
 rw[cU,aP,ay];apply propext;split
 ·rename_i h;exact⟨fun z=>⟨h,z⟩,fun z=>z.2⟩
 ·rename_i h;exact⟨fun z=>z.elim,fun z=>(h z.1).elim⟩
theorem DW:Ok (jS ds S) Q=(ds.length<=1000/\Q (.tup ds) S):=by
 unfold jS;rw[cU,aP,ay];apply propext;split
 ·rename_i h;exact⟨fun z=>⟨h,z⟩,fun z=>z.2⟩
 ·rename_i h;exact⟨fun z=>z.elim,fun z=>(h z.1).elim⟩
theorem kf{α:Type}(l:List α)(g:α->Bool)(S:Sto):jU false (l.map fun t=>D.bl (g t)) S=some (.bl (l.all g),S):=by
 unfold jU;have h1:(l.map fun t=>D.bl (g t)).all wN=true:=by rw[Yx];simp[Function.comp_def,wN]
 have h2:(l.map fun t=>D.bl (g t)).all mJ=l.all g:=by rw[Yx];rfl
 rw[if_pos ⟨rfl,h1⟩,h2]
theorem DX{S:Sto}{n:Nat}{lo:Int}{tg:Tg}{c:XA}{ρ:Rho}{Q:List D->Sto->Prop}(hl:n<=100000)(g:Nat->Bool)
  (step:∀ (i:Nat) S',i < n->Sm S S'->∃ρ1,aA tg (.int (lo+i)) ρ=some ρ1/\Ok (c ρ1 S') fun es S1=>es=[.bl (g i)]/\Sm S' S1) (q:∀S',Sm S S'->Q ((Zj n).map fun i=>.bl (g i)) S') :
  Ok (bb (nxR lo n) tg c ρ LF 0 S) fun es S2=>es.length<=100000/\Q es S2:=by
 refine(fQ n (fun i acc S'=>Sm S S'/\acc=(Zj i).map fun t=>.bl (g t)) (by unfold LF;lia) (fun i acc S' hi ⟨sm,ea⟩=>?_) (fun acc S' ⟨sm,ea⟩=>?_) ⟨Sm.refl S,by simp⟩).mono fun es S' ⟨sm,ea⟩=>?_
 ·obtain⟨ρ1,e2,es,S1,e3,rfl,sm'⟩:=step i S' hi sm;refine⟨_,ρ1,by show some (if i < n then some (D.int (lo+i)) else none)=_;rw[if_pos hi],e2,_,S1,e3,sm.trans sm',?_⟩;rw[ea,Y6,Zv];rfl
 ·show some (if n < n then some (D.int (lo+n)) else none)=_;rw[if_neg (ZO n)]
 ·subst ea;exact⟨by rw[Za,ZK];exact hl,q S' sm⟩
theorem ub{m n:Nat}(hm:S[m]?=some (.lst ((Zj n).map fun j=>.int (Int.ofNat j))))(hn:n<=1000)(f:Nat->List D)
  (step:∀ (i:Nat) S',i < n->Sm S S'->∃ρ1,aA tg (.int i) ρ=some ρ1/\Ok (c ρ1 S') fun es S1=>es=f i/\Sm S' S1):Ok (bb (nxS m) tg c ρ LF 0 S) fun es S2=>es=(Zj n).flatMap f/\Sm S S2:=by
 refine(fQ n (fun i acc S'=>Sm S S'/\acc=(Zj i).flatMap f) (by unfold LF;lia) (fun i acc S' hi ⟨sm,ea⟩=>?_) (fun acc S' ⟨sm,ea⟩=>?_) ⟨Sm.refl S,by simp⟩).mono fun es S' ⟨sm,ea⟩=>⟨ea,sm⟩
 ·obtain⟨ρ1,e2,es,S1,e3,rfl,sm'⟩:=step i S' hi sm;refine⟨.int i,ρ1,?_,e2,_,S1,e3,sm.trans sm',?_⟩
  ·show(am S' m).map (fun ds=>ds[i]?)=_;simp only[am,sm _ _ hm,Zr,Zn,YE hi];rfl
  ·rw[ea,Dw.m9]
 ·show(am S' m).map (fun ds=>ds[n]?)=_;simp only[am,sm _ _ hm,Zr];rw[ZB (by simp)]
theorem AG:Ok (dm x ρ S) Q=Ok (x ρ S) fun ds S1=>Q (.ref S1.length) (S1++[.lst ds]):=by
 unfold dm;rw[bB]
 congr 1
 funext ds S1
 rw[ay]
theorem Jh(h:Ok (x ρ S) fun d S1=>∃i:Nat,d = .int i/\i<=1000/\Q ((Zj i).map fun j=>.int (Int.ofNat j)) S1):Ok (xo x ρ S) Q:=by
 unfold xo;rw[bB];refine h.mono fun d S1 ⟨i,e,hi,q⟩=>?_;subst e;dsimp only;rw[if_pos (by lia),ay,Zp];exact q
theorem rC(is:List Int):(is.map D.int).all cm=true:=by rw[Yx];simp[Function.comp_def,cm]
theorem AH(is:List Int)(i:Int)(S:Sto):tH (.tup (is.map D.int)) [.int i] S=some (.int (is.count i:Nat),S):=by
 have e:((is.map D.int).countP fun z=>eqF z (.int i))=is.count i:=by
  rw[X0];unfold List.count
  congr 1
 simp only[tH];rw[if_pos ⟨rfl,rC is⟩,e]
theorem pP(neg:Bool)(is:List Int)(i:Int)(S:Sto):inS neg (.int i) (.tup (is.map D.int)) S=some (.bl (neg != decide (i ∈ is)),S):=by
 have e:inF (.int i) (is.map D.int)=decide (i ∈ is):=by
  unfold inF;rw[XF,Z1,YB];simp only[Function.comp_def,eqF,beq_iff_eq,decide_eq_true_eq];exact⟨fun⟨x,hx,e⟩=>e ▸ hx,fun h=>⟨i,h,rfl⟩⟩
 simp only[inS,al];rw[if_pos ⟨rfl,rC is⟩,e]
theorem DY(i j:Int)(S:Sto):aw .eq (.int i) (.int j) S=some (.bl (decide (i=j)),S):=by
 simp only[aw,eqS];have:eqD 60 S (.int i) (.int j)=some (i == j):=rfl;rw[this];rfl
theorem DZ(i j:Int)(S:Sto):aw .ne (.int i) (.int j) S=some (.bl (!decide (i=j)),S):=ni (x:=.int i) (y:=.int j) (b:=decide (i=j)) rfl
theorem Ji{i j:Int}:Ok (aw .eq (.int i) (.int j) S) Q=Q (.bl (decide (i=j))) S:=by rw[DY,ay]
theorem Jj{i j:Int}:Ok (aw .ne (.int i) (.int j) S) Q=Q (.bl (!decide (i=j))) S:=by rw[DZ,ay]
theorem D0{i:Nat}:aA (.name i) d ρ=if i < ρ.length then some (ρ.set i (some d)) else none:=by simp only[aA]
theorem AI:aA (.tup ts) (.tup ds) ρ=aI ts ds ρ:=by simp only[aA]
theorem vJ:aI [] [] ρ=some ρ:=by simp only[aI]
theorem rD{i:Nat}:aI (.name i::ts) (d::ds) ρ=if i < ρ.length then aI ts ds (ρ.set i (some d)) else none:=by
 simp only[aI,aA];split
 ·rename_i ρ' h;split at h
  ·rename_i hc;cases h;rw[if_pos hc]
  ·cases h
 ·rename_i h;split at h
  ·cases h
  ·rename_i hc;rw[if_neg hc]
theorem cE{i j:Nat}(h1:i < ρ.length)(h2:j < ρ.length):aA (.tup [.name i,.name j]) (.tup [a,b]) ρ=some ((ρ.set i (some a)).set j (some b)):=by
 rw[AI,rD,if_pos h1,rD,if_pos (by rw[Yg];exact h2),vJ]
theorem ak{a:Nat}(h:S[a]?=some (.lst es)):am S a=some es:=by simp only[am,h]
theorem vK{a b n:Nat}(h1:S[a]?=some (.lst es))(h2:S[b]?=some (.lst []))(hn:a ≠ b):eqD (n+1) S (.ref a) (.ref b)=some es.isEmpty:=by
 show(match am S a,am S b with |some xs,some ys=>if a=b then some true else if xs.length=ys.length then eqL (eqD n S) xs ys else some false |_,_=>none)=_;rw[ak h1,ak h2];show(if a=b then some true else if es.length=([]:List D).length then eqL (eqD n S) es [] else some false)=_;rw[if_neg hn];cases es with
 |nil=>simp[eqL]
 |cons x xs=>simp
theorem ne_nil{a b:Nat}(h1:S[a]?=some (.lst es))(h2:S[b]?=some (.lst []))(hn:a ≠ b):aw .ne (.ref a) (.ref b) S=some (.bl (!es.isEmpty),S):=ni (vK h1 h2 hn)
theorem Jk{a b:Nat}(h1:S[a]?=some (.lst es))(h2:S[b]?=some (.lst []))(hn:a ≠ b):aw .eq (.ref a) (.ref b) S=some (.bl es.isEmpty,S):=by
 simp only[aw,eqS,vK h1 h2 hn,Zr]
theorem vL:aw .ne (.ref (Zb S)) (.ref (Zb (S++[Ob.lst es]))) (S++[Ob.lst es]++[Ob.lst []])=some (.bl (!es.isEmpty),S++[Ob.lst es]++[Ob.lst []]):=
 ne_nil (by rw[Yd,Zt (Ze _),Yw];rfl) (by rw[Zt (Ze _),Yw];rfl) (by simp)
theorem AJ(ds:List D)(k:Nat)(hk:k<=ds.length):gu ds none (some (k:Int))=ds.take k:=by
 unfold gu;rw[Dw.yV _ _ (by lia),Zp,Y8 hk];rfl
theorem Jl{p:Nat}(h:TDs p S ts ds):au b7 (.tup ds) S=some (.int ts.length,S):=by
 simp only[au,al,b7,h.len]
theorem Gn{p:Nat}{i:Nat}(h:TDs p S ts ds)(e:ts[i]?=some t)(q:∀d,TD p S t d->Q d S):Ok (ixS (.tup ds) (.int i) S) Q:=by
 obtain⟨d,e1,td⟩:=h.get e;have hi:=(Zc.mp e1).1
 have ea:atI ds (i:Int)=some d:=by
  unfold atI ixN;rw[if_pos (by lia),if_pos (by lia),Zp];exact e1
 simp only[ixS,al,ea,Zr];rw[ay];exact q d td
section
variable {S S' S1 S2:Sto} {p:Nat} {Q:D->Sto->Prop} {ρ:Rho}
theorem Jm{i j:Int}:Ok (bC .mod (.int i) (.int j) S) Q=(0 < j/\Q (.int (i % j)) S):=by
 simp only[bC,HK,cU,ay,aP];apply propext;split
 ·rename_i h;exact⟨fun z=>⟨h,z⟩,fun z=>z.2⟩
 ·rename_i h;exact⟨fun z=>z.elim,fun z=>(h z.1).elim⟩
theorem D1{i j:Int}:Ok (bC .fdiv (.int i) (.int j) S) Q=((0 < j/\j < 1237940039285380274899124224)/\Q (.int (i / j)) S):=by
 simp only[bC,zf,cU,ay,aP];apply propext;split
 ·rename_i h;exact⟨fun z=>⟨h,z⟩,fun z=>z.2⟩
 ·rename_i h;exact⟨fun z=>z.elim,fun z=>(h z.1).elim⟩
theorem Jn{i j:Int}:Ok (bC .mul (.int i) (.int j) S) Q=(hX i j=true/\Q (.int (i * j)) S):=by
 simp only[bC,o6,cU,ay,aP];apply propext;split
 ·rename_i h;exact⟨fun z=>⟨h,z⟩,fun z=>z.2⟩
 ·rename_i h;exact⟨fun z=>z.elim,fun z=>(h z.1).elim⟩
theorem Jo{i j:Int}:Ok (bC .pow (.int i) (.int j) S) Q=((0<=j/\j<=1000000/\i.natAbs < 2 ^ 64)/\Q (.int (i ^ j.toNat)) S):=by
 simp only[bC,HL,cU,ay,aP];apply propext;split
 ·rename_i h;exact⟨fun z=>⟨h,z⟩,fun z=>z.2⟩
 ·rename_i h;exact⟨fun z=>z.elim,fun z=>(h z.1).elim⟩
theorem vM{i j:Int}(h1:-(2 ^ 64) < j)(h2:j < 2 ^ 64):hX i j=true:=by simp only[hX,Y7,bAE,decide_eq_true_eq];exact .inr ⟨h1,h2⟩
theorem kg{i j:Int}(h1:-(2 ^ 64) < i)(h2:i < 2 ^ 64):hX i j=true:=by simp only[hX,Y7,bAE,decide_eq_true_eq];exact .inl ⟨h1,h2⟩
def Pot(p:Nat)(S:Sto):Prop:=∃n:Int,S[p]?=some (.lst [.int n])
structure Dr(p:Nat)(S S':Sto):Prop where
 kp:Kp p S S'
 pot:Pot p S'
theorem Dr.refl(h:Pot p S):Dr p S S:=⟨Kp.refl p S,h⟩
theorem Dr.trans(a:Dr p S S1)(b:Dr p S1 S2):Dr p S S2:=⟨a.kp.trans b.kp,b.pot⟩
theorem Dr.sm(h:Pot p S)(s:Sm S S'):Dr p S S':=⟨s.kp,let ⟨n,e⟩:=h;⟨n,s _ _ e⟩⟩
theorem Dr.thenSm(a:Dr p S S1)(s:Sm S1 S2):Dr p S S2:=a.trans (Dr.sm a.pot s)
theorem Pot.lt(h:Pot p S):p < S.length:=let ⟨_,e⟩:=h;(Zc.mp e).1
theorem Jp:Kp p S (S.set p o):=fun i u n e=>by rw[ZN (Ne.symm n)];exact e
theorem gZ(h:p < S.length):(S.set p o)[p]?=some o:=by rw[ZI h]
theorem eZ{n:Nat}{lo:Int}{tg:Tg}{b:XS}{Q:Fl->Rho->Sto->Prop}(hl:n<=100000)(I:Nat->Rho->Sto->Prop)
  (step:∀ (i:Nat) ρ S,i < n->I i ρ S->∃ρ1,aA tg (.int (lo+i)) ρ=some ρ1/\OkS (b ρ1 S) fun fl ρ2 S2=>match fl with |.nx=>I (i+1) ρ2 S2 |.ct=>I (i+1) ρ2 S2 |.bk=>Q .nx ρ2 S2 |.rt d=>Q (.rt d) ρ2 S2)
  (q:∀ρ S',I n ρ S'->Q .nx ρ S') (h0:I 0 ρ S):OkS (dN (nxR lo n) tg b LF 0 ρ S) Q:=by
 refine iz n I (by unfold LF;lia) (fun i ρ S' hi iv=>?_) (fun ρ S' iv=>⟨?_,q ρ S' iv⟩) h0
 ·obtain⟨ρ1,e2,z⟩:=step i ρ S' hi iv;exact⟨_,ρ1,by show some (if i < n then some (D.int (lo+i)) else none)=_;rw[if_pos hi],e2,z⟩
 ·show some (if n < n then some (D.int (lo+n)) else none)=_;rw[if_neg (ZO n)]
theorem mj{n:Nat}{lo:Int}{tg:Tg}{c:XA}{Q:List D->Sto->Prop}(hl:n<=100000)(I:Nat->List D->Sto->Prop)
  (step:∀ (i:Nat) acc S',i < n->I i acc S'->∃ρ1,aA tg (.int (lo+i)) ρ=some ρ1/\Ok (c ρ1 S') fun es S1=>I (i+1) (acc++es) S1) (q:∀es S',I n es S'->es.length<=100000/\Q es S') (h0:I 0 [] S) :
  Ok (bb (nxR lo n) tg c ρ LF 0 S) fun es S2=>es.length<=100000/\Q es S2:=by
 refine(fQ n I (by unfold LF;lia) (fun i acc S' hi iv=>?_) (fun acc S' iv=>?_) h0).mono q
 ·obtain⟨ρ1,e2,z⟩:=step i acc S' hi iv;exact⟨_,ρ1,by show some (if i < n then some (D.int (lo+i)) else none)=_;rw[if_pos hi],e2,z⟩
 ·show some (if n < n then some (D.int (lo+n)) else none)=_;rw[if_neg (ZO n)]
theorem Jq:Ok (sP x y ρ S) Q=Ok (x ρ S) fun ds S1=>Ok (y ρ S1) fun i S2=>∃k,i = .int k/\∃d,atI ds k=some d/\Q d S2:=by
 unfold sP;rw[bB]
 congr 1
 funext ds S1
 rw[bB]
 congr 1
 funext i S2
 apply propext;cases i with
 |int k=>simp[IX]
 |_=>simp[aP]
theorem Jr{i:Int}(h0:0<=i)(h1:i < ds.length):∃d,atI ds i=some d/\ds[i.toNat]?=some d:=by
 have hi:i.toNat < ds.length:=by lia
 refine⟨ds[i.toNat],?_,gEG hi⟩;unfold atI ixN;rw[if_pos h0,if_pos (by lia)];exact gEG hi
theorem dF{nx:Nxt}{tg:Tg}{c:XA}{Q:List D->Sto->Prop}(n:Nat)(el:Nat->D)(I:Nat->List D->Sto->Prop)(hnx:∀i acc S',i<=n->I i acc S'->nx i S'=some (if i < n then some (el i) else none))(hl:n<=100000)
  (step:∀ (i:Nat) acc S',i < n->I i acc S'->∃ρ1,aA tg (el i) ρ=some ρ1/\Ok (c ρ1 S') fun es S1=>I (i+1) (acc++es) S1) (q:∀es S',I n es S'->es.length<=100000/\Q es S') (h0:I 0 [] S) :
  Ok (bb nx tg c ρ LF 0 S) fun es S2=>es.length<=100000/\Q es S2:=by
 refine(fQ n I (by unfold LF;lia) (fun i acc S' hi iv=>?_) (fun acc S' iv=>?_) h0).mono q
 ·obtain⟨ρ1,e2,z⟩:=step i acc S' hi iv;exact⟨_,ρ1,by rw[hnx i acc S' (by lia) iv,if_pos hi],e2,z⟩
 ·rw[hnx n acc S' (Ze _) iv,if_neg (ZO n)]
theorem jj{m i:Nat}(h:S[m]?=some (.lst ds))(el:Nat->D)(he:∀i d,ds[i]?=some d->el i=d):nxS m i S=some (if i < ds.length then some (el i) else none):=by
 show(am S m).map (fun ds=>ds[i]?)=_;rw[ak h,Zr];split
 ·rename_i hi;rw[gEG hi,he i _ (gEG hi)]
 ·rename_i hi;rw[ZB (by lia)]
theorem vN{m i:Nat}(h:S[m]?=some (.lst ds))(hi':i<=ds.length)(el:Nat->D)(he:∀i d,ds[i]?=some d->el i = .tup [.int i,d]):xh m i S=some (if i < ds.length then some (el i) else none):=by
 show(am S m).bind (fun ds=>enm ds i)=_;rw[ak h];show enm ds i=_;unfold enm;rw[if_pos hi'];split
 ·rename_i hi;rw[gEG hi,he i _ (gEG hi)];rfl
 ·rename_i hi;rw[ZB (by lia)];rfl
structure RowsS(p:Nat)(S:Sto)(rs:List D)(M:List (List Int)):Prop where
 len:rs.length=M.length
 row:∀ (i:Nat) r,M[i]?=some r->∃a,rs[i]?=some (.ref a)/\a ≠ p/\S[a]?=some (.lst (r.map D.int))
theorem RowsS.keep(h:RowsS p S rs M)(k:Kp p S S'):RowsS p S' rs M:=⟨h.len,fun i r hr=>let ⟨a,e,n,z⟩:=h.row i r hr;⟨a,e,n,k _ _ n z⟩⟩
theorem RowsS.nil:RowsS p S [] []:=⟨rfl,fun i r h=>by simp at h⟩
theorem RowsS.snoc{a:Nat}(h:RowsS p S rs M)(n:a ≠ p)(z:S[a]?=some (.lst (r.map D.int))):RowsS p S (rs++[.ref a]) (M++[r]):=by
 refine⟨by simp[h.len],fun i r' hr=>?_⟩;by_cases hi:i < M.length
 ·rw[Zw hi] at hr;obtain⟨b,e,nb,zb⟩:=h.row i r' hr;exact⟨b,by rw[Zw (by rw[h.len];exact hi)];exact e,nb,zb⟩
 ·rw[Zt (by lia)] at hr
  have hz:i - M.length=0:=by
   have:=(Zc.mp hr).1;simp at this;lia
  rw[hz] at hr;cases hr;exact⟨a,by rw[Zt (by rw[h.len];lia),h.len,hz];rfl,n,z⟩
theorem ag:(S++[o])[S.length]?=some o:=by rw[Zt (Ze _),Yw];rfl
theorem Kp.setNew{f:Nat}(h:Kp p S S')(hf:S.length<=f):Kp p S (S'.set f o):=fun i u n e=>by
 have hi:=(Zc.mp e).1;rw[ZN (by lia)];exact h i u n e
theorem Pot.setNe{f:Nat}(h:Pot p S)(hf:f ≠ p):Pot p (S.set f o):=by
 obtain⟨n,e⟩:=h;exact⟨n,by rw[ZN hf];exact e⟩
noncomputable def ac(q:Int × Int):D:=.tup [.int q.1,.int q.2]
theorem dU:∀ (es:List (Int × Int)),TDs p S (es.map Dw.bZ) (es.map ac)
 |[]=>aC
 |e::es=>ad (ba (ad aN (ad aN aC))) (dU es)
theorem AK{f:Nat}(h:S[f]?=some (.lst ds))(hl:ds.length < 100000):Ok (tG (.ref f) [e] S) Q=Q .non (S.set f (.lst (ds++[e]))):=by
 simp only[tG,chg,h];rw[if_pos hl];exact ay
theorem fR{f:Nat}(h:S[f]?=some (.lst ds)):dL (.ref f) S=true:=by simp only[dL,ak h];rfl
theorem vO{f:Nat}(h:S[f]?=some (.lst (ds++[e]))):ixS (.ref f) (.int (-1)) S=some (e,S):=by
 have:atI (ds++[e]) (-1:Int)=some e:=by
  unfold atI ixN;rw[if_neg (by decide),if_pos (by rw[Zh,ZM];lia)];show(ds++[e])[((-1:Int)+((ds++[e]).length:Int)).toNat]?=some e;have:((-1:Int)+((ds++[e]).length:Int)).toNat=ds.length:=by rw[Zh,ZM];lia
  rw[this,Zt (Ze _),Yw];rfl
 simp only[ixS,al,ak h,Zr,this]
theorem yB{i:Nat}(h:ds[i]?=some d):ixS (.tup ds) (.int i) S=some (d,S):=by
 have hi:=(Zc.mp h).1
 have ea:atI ds (i:Int)=some d:=by
  unfold atI ixN;rw[if_pos (by lia),if_pos (by lia),Zp];exact h
 simp only[ixS,al,ea,Zr]
theorem oK{i:Nat}(h:ds[i]?=some d):atI ds (i:Int)=some d:=by
 have hi:=(Zc.mp h).1;unfold atI ixN;rw[if_pos (by lia),if_pos (by lia),Zp];exact h
theorem fS{n:Nat}(hn:n ≠ p)(h:S[n]?=some (.lst ds))(q:TDs p S ts ds):TD p S (.lst ts) (.ref n):=by rw[TD];exact⟨n,ds,rfl,hn,h,q⟩
theorem AL{n:Nat}(hn:n ≠ p)(h:S[n]?=some (.dic ks ds))(q:TDs p S ts ds):TD p S (.dic ks ts) (.ref n):=by rw[TD];exact⟨n,ds,rfl,hn,h,q⟩
theorem D2:aw .eq (.tup ds) (.tup []) S=some (.bl ds.isEmpty,S):=by
 simp only[aw,eqS]
 have:eqD 60 S (.tup ds) (.tup [])=some ds.isEmpty:=by
  cases ds <;> rfl
 rw[this];rfl
theorem D3:aw .ne (.tup ds) (.tup []) S=some (.bl (!ds.isEmpty),S):=ni (x:=.tup ds) (y:=.tup []) (b:=ds.isEmpty) (by cases ds <;> rfl)
theorem Js:Ok (bC .add (.tup xs) (.tup ys) S) Q=(xs.length+ys.length<=1000/\Q (.tup (xs++ys)) S):=by
 simp only[bC,jT,cU,ay,aP];apply propext;split
 ·rename_i h;exact⟨fun z=>⟨h,z⟩,fun z=>z.2⟩
 ·rename_i h;exact⟨fun z=>z.elim,fun z=>(h z.1).elim⟩
end
abbrev WP(α:Type):=Rho->Sto->(α->Sto->Prop)->Prop
def Sd{α:Type}(w:WP α)(x:Rho->Sto->Option (α × Sto)):Prop:=∀ρ S Q,w ρ S Q->Ok (x ρ S) Q
theorem aU{α β:Type}{x:Option (α × Sto)}{f:α->Sto->Option (β × Sto)}{Q:β->Sto->Prop}(h:Ok x fun a S=>Ok (f a S) Q):Ok (bnd x f) Q:=bB ▸ h
theorem bq{α:Type}{a:α}{S:Sto}{Q:α->Sto->Prop}(h:Q a S):Ok (some (a,S)) Q:=⟨_,_,rfl,h⟩
def wIf(b:Bool)(A B:Prop):Prop:=match b with
 |true=>A
 |false=>B
def wBl(d:D)(Q:Bool->Prop):Prop:=match d with
 |.bl b=>Q b
 |.non=>False |.int _=>False |.str _=>False |.tup _=>False |.ref _=>False
def cX(d:D)(Q:Int->Prop):Prop:=match d with
 |.int i=>Q i
 |.non=>False |.bl _=>False |.str _=>False |.tup _=>False |.ref _=>False
theorem ml{d:D}{Q:Bool->Prop}(h:wBl d Q):∃b,d = .bl b/\Q b:=by cases d <;> first |exact h.elim |exact⟨_,rfl,h⟩
theorem cg{d:D}{Q:Int->Prop}(h:cX d Q):∃b,d = .int b/\Q b:=by cases d <;> first |exact h.elim |exact⟨_,rfl,h⟩
def O3(o:Option D)(Q:D->Prop):Prop:=match o with
 |some d=>Q d
 |none=>False
def uc:Rho->Nat->(D->Prop)->Prop
 |[],_,_=>False
 |o::_,0,Q=>O3 o Q
 |_::ρ,i+1,Q=>uc ρ i Q
theorem vP:∀ {ρ:Rho} {i:Nat} {Q:D->Prop},uc ρ i Q->∃d,ρ[i]?=some (some d)/\Q d
 |[],_,_,h=>h.elim
 |some d::_,0,_,h=>⟨d,rfl,h⟩
 |none::_,0,_,h=>h.elim
 |o::ρ,i+1,_,h=>by rw[Yq];exact vP (ρ:=ρ) h
def M9(i:Nat):WP D:=fun ρ S Q=>uc ρ i fun d=>Q d S
theorem Na{i:Nat}:Sd (M9 i) (wH i):=fun ρ S Q h=>by
 rw[Je];exact vP h
def wC(d:D):WP D:=fun _ S Q=>Q d S
theorem s_c{d:D}:Sd (wC d) (xC d):=fun _ _ _ h=>bq h
def D4(g:D->D->Sto->(D->Sto->Prop)->Prop)(x y:WP D):WP D:=fun ρ S Q=>x ρ S fun a S1=>y ρ S1 fun b S2=>g a b S2 Q
theorem AM{g:D->D->Sto->(D->Sto->Prop)->Prop}{f:D->D->Sto->Option (D × Sto)}{w v:WP D}{x y:XE}(hw:Sd w x)(hv:Sd v y)(hg:∀ {a b S Q},g a b S Q->Ok (f a b S) Q):Sd (D4 g w v) (qy f x y):=
 fun _ _ _ h=>aU ((hw _ _ _ h).mono fun _ _ h=>aU ((hv _ _ _ h).mono fun _ _ h=>hg h))
def wUn{α β:Type}(g:α->Sto->(β->Sto->Prop)->Prop)(x:WP α):WP β:=fun ρ S Q=>x ρ S fun a S1=>g a S1 Q
theorem D5{α β:Type}{g:α->Sto->(β->Sto->Prop)->Prop}{f:α->Sto->Option (β × Sto)}{w:WP α}{x:Rho->Sto->Option (α × Sto)}(hw:Sd w x)(hg:∀ {a S Q},g a S Q->Ok (f a S) Q):Sd (wUn g w) (fun ρ S=>bnd (x ρ S) f):=
 fun _ _ _ h=>aU ((hw _ _ _ h).mono fun _ _ h=>hg h)
def wOk{α β:Type}(f:α->Sto->Option (β × Sto))(a:α)(S:Sto)(Q:β->Sto->Prop):Prop:=Ok (f a S) Q
def wII:BOp->Int->Int->Sto->(D->Sto->Prop)->Prop
 |.add,i,j,S,Q=>Q (.int (i+j)) S
 |.sub,i,j,S,Q=>Q (.int (i - j)) S
 |.mul,i,j,S,Q=>hX i j=true/\Q (.int (i * j)) S
 |.mod,i,j,S,Q=>0 < j/\Q (.int (i % j)) S
 |.fdiv,i,j,S,Q=>(0 < j/\j < 1237940039285380274899124224)/\Q (.int (i / j)) S
 |.pow,i,j,S,Q=>(0<=j/\j<=1000000/\i.natAbs < 2 ^ 64)/\Q (.int (i ^ j.toNat)) S
theorem Jt{o:BOp}{i j:Int}{S:Sto}{Q:D->Sto->Prop}(h:wII o i j S Q):Ok (bC o (.int i) (.int j) S) Q:=by
 cases o with
 |add=>rw[Jf];exact h
 |sub=>rw[Jg];exact h
 |mul=>rw[Jn];exact h
 |mod=>rw[Jm];exact h
 |fdiv=>rw[D1];exact h
 |pow=>rw[Jo];exact h
def wTT:BOp->List D->List D->Sto->(D->Sto->Prop)->Prop
 |.add,xs,ys,S,Q=>xs.length+ys.length<=1000/\Q (.tup (xs++ys)) S
 |.sub,_,_,_,_=>False
 |.mul,_,_,_,_=>False
 |.mod,_,_,_,_=>False
 |.fdiv,_,_,_,_=>False
 |.pow,_,_,_,_=>False
theorem Ju{o:BOp}{i j:List D}{S:Sto}{Q:D->Sto->Prop}(h:wTT o i j S Q):Ok (bC o (.tup i) (.tup j) S) Q:=by
 cases o with
 |add=>rw[Js];exact h
 |_=>exact h.elim
def AN(o:BOp)(i:Int)(y:D)(S:Sto)(Q:D->Sto->Prop):Prop:=match y with
 |.int j=>wII o i j S Q
 |.non=>False |.bl _=>False |.str _=>False |.ref _=>False
 |.tup ys=>Ok (bC o (.int i) (.tup ys) S) Q
def vQ(o:BOp)(xs:List D)(y:D)(S:Sto)(Q:D->Sto->Prop):Prop:=match y with
 |.tup ys=>wTT o xs ys S Q
 |.non=>False |.bl _=>False |.str _=>False |.ref _=>False
 |.int j=>Ok (bC o (.tup xs) (.int j) S) Q
def ud(o:BOp)(x y:D)(S:Sto)(Q:D->Sto->Prop):Prop:=match x with
 |.int i=>AN o i y S Q
 |.tup xs=>vQ o xs y S Q
 |.non=>Ok (bC o .non y S) Q
 |.bl b=>Ok (bC o (.bl b) y S) Q
 |.str b=>Ok (bC o (.str b) y S) Q
 |.ref b=>Ok (bC o (.ref b) y S) Q
theorem D6{o:BOp}{x y:D}{S:Sto}{Q:D->Sto->Prop}(h:ud o x y S Q):Ok (bC o x y S) Q:=by
 cases x with
 |int i=>cases y with
  |int j=>exact Jt h
  |tup ys=>exact h
  |_=>exact h.elim
 |tup xs=>cases y with
  |int j=>exact h
  |tup ys=>exact Ju h
  |_=>exact h.elim
 |_=>exact h
def wCI:COp->Int->Int->Sto->(D->Sto->Prop)->Prop
 |.eq,i,j,S,Q=>Q (.bl (decide (i=j))) S
 |.ne,i,j,S,Q=>Q (.bl (!decide (i=j))) S
 |.lt,i,j,S,Q=>Q (.bl (decide (i < j))) S
 |.le,i,j,S,Q=>Q (.bl (decide (i<=j))) S
 |.gt,i,j,S,Q=>Q (.bl (decide (j < i))) S
 |.ge,i,j,S,Q=>Q (.bl (decide (j<=i))) S
 |.is,_,_,_,_=>False
 |.isnot,_,_,_,_=>False
 |.isin,_,_,_,_=>False
 |.notin,_,_,_,_=>False
theorem Jv{o:COp}{i j:Int}{S:Sto}{Q:D->Sto->Prop}(h:wCI o i j S Q):Ok (aw o (.int i) (.int j) S) Q:=by
 cases o with
 |eq=>rw[Ji];exact h
 |ne=>rw[Jj];exact h
 |lt=>rw[M5];exact h
 |le=>rw[M4];exact h
 |gt=>rw[M6];exact h
 |ge=>rw[M7];exact h
 |_=>exact h.elim
def Jw(o:COp)(i:Int)(y:D)(S:Sto)(Q:D->Sto->Prop):Prop:=match y with
 |.int j=>wCI o i j S Q
 |.non=>Ok (aw o (.int i) .non S) Q
 |.bl b=>Ok (aw o (.int i) (.bl b) S) Q
 |.str b=>Ok (aw o (.int i) (.str b) S) Q
 |.ref b=>Ok (aw o (.int i) (.ref b) S) Q
 |.tup b=>Ok (aw o (.int i) (.tup b) S) Q
def xH(o:COp)(xs:List D)(y:D)(S:Sto)(Q:D->Sto->Prop):Prop:=match o with
 |.eq=>match y with
  |.tup ys=>match ys with
   |[]=>Q (.bl xs.isEmpty) S
   |y::ys=>Ok (aw .eq (.tup xs) (.tup (y::ys)) S) Q
  |.non=>Ok (aw .eq (.tup xs) .non S) Q
  |.bl b=>Ok (aw .eq (.tup xs) (.bl b) S) Q
  |.str b=>Ok (aw .eq (.tup xs) (.str b) S) Q
  |.ref b=>Ok (aw .eq (.tup xs) (.ref b) S) Q
  |.int b=>Ok (aw .eq (.tup xs) (.int b) S) Q
 |.ne=>match y with
  |.tup ys=>match ys with
   |[]=>Q (.bl (!xs.isEmpty)) S
   |y::ys=>Ok (aw .ne (.tup xs) (.tup (y::ys)) S) Q
  |.non=>Ok (aw .ne (.tup xs) .non S) Q
  |.bl b=>Ok (aw .ne (.tup xs) (.bl b) S) Q
  |.str b=>Ok (aw .ne (.tup xs) (.str b) S) Q
  |.ref b=>Ok (aw .ne (.tup xs) (.ref b) S) Q
  |.int b=>Ok (aw .ne (.tup xs) (.int b) S) Q
 |.is=>Ok (aw .is (.tup xs) y S) Q
 |.isnot=>Ok (aw .isnot (.tup xs) y S) Q
 |.isin=>Ok (aw .isin (.tup xs) y S) Q
 |.notin=>Ok (aw .notin (.tup xs) y S) Q
 |.lt=>False |.le=>False |.gt=>False |.ge=>False
def wCx(o:COp)(x y:D)(S:Sto)(Q:D->Sto->Prop):Prop:=match x with
 |.int i=>Jw o i y S Q
 |.tup xs=>xH o xs y S Q
 |.non=>Ok (aw o .non y S) Q
 |.bl b=>Ok (aw o (.bl b) y S) Q
 |.str b=>Ok (aw o (.str b) y S) Q
 |.ref b=>Ok (aw o (.ref b) y S) Q
theorem Jx{o:COp}{x y:D}{S:Sto}{Q:D->Sto->Prop}(h:wCx o x y S Q):Ok (aw o x y S) Q:=by
 cases x with
 |int i=>cases y with
  |int j=>exact Jv h
  |_=>exact h
 |tup xs=>cases o with
  |eq=>cases y with
   |tup ys=>cases ys with
    |nil=>rw[D2,ay];exact h
    |cons y ys=>exact h
   |_=>exact h
  |ne=>cases y with
   |tup ys=>cases ys with
    |nil=>rw[D3,ay];exact h
    |cons y ys=>exact h
   |_=>exact h
  |lt=>exact h.elim
  |le=>exact h.elim
  |gt=>exact h.elim
  |ge=>exact h.elim
  |_=>exact h
 |_=>exact h
def wCm(o:COp)(x y:D)(S:Sto)(Q:D->Sto->Prop):Prop:=match o with
 |.is=>Ok (aw .is x y S) Q
 |.isnot=>Ok (aw .isnot x y S) Q
 |.isin=>Ok (aw .isin x y S) Q
 |.notin=>Ok (aw .notin x y S) Q
 |.eq=>wCx .eq x y S Q
 |.ne=>wCx .ne x y S Q
 |.lt=>wCx .lt x y S Q
 |.le=>wCx .le x y S Q
 |.gt=>wCx .gt x y S Q
 |.ge=>wCx .ge x y S Q
theorem pQ{o:COp}{x y:D}{S:Sto}{Q:D->Sto->Prop}(h:wCm o x y S Q):Ok (aw o x y S) Q:=by
 cases o <;> first |exact Jx h |exact h
def Jy(o p:COp)(x y z:WP D):WP D:=fun ρ S Q=>x ρ S fun a S1=>y ρ S1 fun b S2=>wCm o a b S2 fun r S3=>wBl r fun c=>wIf c (z ρ S3 fun e S4=>wCm p b e S4 Q) (Q (.bl false) S3)
theorem Go{o p:COp}{w v u:WP D}{x y z:XE}(hw:Sd w x)(hv:Sd v y)(hu:Sd u z):Sd (Jy o p w v u) (xl (aw o) (aw p) x y z):=fun _ _ _ h=>by
 rw[Jd];refine(hw _ _ _ h).mono fun a S1 h=>(hv _ _ _ h).mono fun b S2 h=>(pQ h).mono fun r S3 h=>?_;obtain⟨c,e,h⟩:=ml h;refine⟨c,e,?_⟩;cases c with
 |true=>exact(hu _ _ _ h).mono fun e S4 h=>pQ h
 |false=>exact h
def Nb(x y:WP D):WP D:=fun ρ S Q=>x ρ S fun d S1=>wBl d fun b=>wIf b (y ρ S1 Q) (Q (.bl false) S1)
theorem Nc{w v:WP D}{x y:XE}(hw:Sd w x)(hv:Sd v y):Sd (Nb w v) (zE x y):=fun _ _ _ h=>by
 rw[Jb];refine(hw _ _ _ h).mono fun a S1 h=>?_;obtain⟨c,e,h⟩:=ml h;refine⟨c,e,?_⟩;cases c with
 |true=>exact hv _ _ _ h
 |false=>exact h
def wOr(x y:WP D):WP D:=fun ρ S Q=>x ρ S fun d S1=>wBl d fun b=>wIf b (Q (.bl true) S1) (y ρ S1 Q)
theorem O4{w v:WP D}{x y:XE}(hw:Sd w x)(hv:Sd v y):Sd (wOr w v) (xOr x y):=fun _ _ _ h=>by
 rw[M3];refine(hw _ _ _ h).mono fun a S1 h=>?_;obtain⟨c,e,h⟩:=ml h;refine⟨c,e,?_⟩;cases c with
 |false=>exact hv _ _ _ h
 |true=>exact h
def Nd(x:WP D):WP D:=fun ρ S Q=>x ρ S fun d S1=>wBl d fun b=>Q (.bl (!b)) S1
theorem Nf{w:WP D}{x:XE}(hw:Sd w x):Sd (Nd w) (xUn xk x):=fun _ _ _ h=>aU ((hw _ _ _ h).mono fun a S1 h=>by
 rw[Jc];exact ml h)
def Ni(x:WP D):WP D:=fun ρ S Q=>x ρ S fun d S1=>cX d fun i=>Q (.int (-i)) S1
theorem Nj{w:WP D}{x:XE}(hw:Sd w x):Sd (Ni w) (xUn Il x):=fun _ _ _ h=>aU ((hw _ _ _ h).mono fun a S1 h=>by
 obtain⟨i,rfl,h⟩:=cg h;exact bq h)
def wO:Option (WP D)->WP (Option Int)
 |none=>fun _ S Q=>Q none S
 |some w=>fun ρ S Q=>w ρ S fun d S1=>cX d fun i=>Q (some i) S1
def ue(lo hi:Option Int)(d:D)(S:Sto)(Q:D->Sto->Prop):Prop:=match d with
 |.tup ds=>Q (.tup (gu ds lo hi)) S
 |.ref n=>Ok (slS lo hi (.ref n) S) Q
 |.non=>False |.bl _=>False |.str _=>False |.int _=>False
def wSl(x:WP D)(lo hi:WP (Option Int)):WP D:=fun ρ S Q=>x ρ S fun d S1=>lo ρ S1 fun l S2=>hi ρ S2 fun h S3=>ue l h d S3 Q
theorem O5:Sd (wO none) sS:=fun _ _ _ h=>bq h
theorem O6{w:WP D}{x:XE}(hw:Sd w x):Sd (wO (some w)) (sT x):=fun _ _ _ h=>aU ((hw _ _ _ h).mono fun d S1 h=>by
 obtain⟨i,rfl,h⟩:=cg h;exact bq h)
theorem O7{w:WP D}{l u:WP (Option Int)}{x:XE}{lo hi:XO}(hw:Sd w x)(hl:Sd l lo)(hu:Sd u hi):Sd (wSl w l u) (xSl x lo hi):=fun _ _ _ h=>aU ((hw _ _ _ h).mono fun d S1 h=>aU ((hl _ _ _ h).mono fun a S2 h=>aU ((hu _ _ _ h).mono fun b S3 h=>by
 cases d with
 |tup ds=>exact bq h
 |ref n=>exact h
 | _=>exact h.elim)))
def Gp(g:List D->Sto->Option (D × Sto))(n:Nat)(x:WP (List D)):WP D:=fun ρ S Q=>x ρ S fun ds S1=>ds.length=n/\Ok (g ds S1) Q
theorem Jz{g:List D->Sto->Option (D × Sto)}{n:Nat}{w:WP (List D)}{x:XA}(hw:Sd w x):Sd (Gp g n w) (qP g n x):=fun _ _ _ h=>by
 rw[DT];exact hw _ _ _ h
def jk(x:WP (List D)):WP D:=fun ρ S Q=>x ρ S fun ds S1=>Q (.ref S1.length) (S1++[.lst ds])
theorem gk{w:WP (List D)}{x:XA}(hw:Sd w x):Sd (jk w) (dm x):=fun _ _ _ h=>by rw[AG];exact hw _ _ _ h
def eP:Nat->List CE->Prop->Prop
 |_,[],A=>A
 |0,_::_,_=>False
 |n+1,_::es,A=>eP n es A
theorem iA:∀ {n:Nat} {es:List CE} {A:Prop},eP n es A->es.length<=n/\A
 |n,[],_,h=>⟨XV _,by cases n <;> exact h⟩
 |0,_::_,_,h=>h.elim
 |n+1,_::es,_,h=>by rw[ZD];exact⟨XM (iA (es:=es) h).1,(iA (es:=es) h).2⟩
def wSh{α:Type}(es:List CE)(x:WP α):WP α:=fun ρ S Q=>eP 60 es (x ρ S Q)
def AO(c:D->Sto->Bool)(f:D->List D->Sto->Option (D × Sto))(x:WP D)(y:WP (List D)):WP D:=fun ρ S Q=>x ρ S fun d S1=>c d S1=true/\y ρ S1 fun as S2=>Ok (f d as S2) Q
theorem vR{c:D->Sto->Bool}{f:D->List D->Sto->Option (D × Sto)}{w:WP D}{v:WP (List D)}{x:XE}{y:XA}(hw:Sd w x)(hv:Sd v y):Sd (AO c f w v) (xa c f x y):=fun _ _ _ h=>aU ((hw _ _ _ h).mono fun d S1 h=>by
 rw[if_pos h.1];exact aU (hv _ _ _ h.2))
def JA(x:WP D):WP (List D):=fun ρ S Q=>x ρ S fun d S1=>∃i:Nat,d = .int i/\i<=1000/\Q ((Zj i).map fun j=>.int (Int.ofNat j)) S1
theorem Gq{w:WP D}{x:XE}(hw:Sd w x):Sd (JA w) (xo x):=fun _ _ _ h=>Jh (hw _ _ _ h)
def Nk:WP (List D):=fun _ S Q=>Q [] S
theorem Nl:Sd Nk CL:=fun _ _ _ h=>bq h
def Gr(x:WP D)(y:WP (List D)):WP (List D):=fun ρ S Q=>x ρ S fun a S1=>y ρ S1 fun as S2=>Q (a::as) S2
theorem JB{w:WP D}{v:WP (List D)}{x:XE}{y:XA}(hw:Sd w x)(hv:Sd v y):Sd (Gr w v) (uR x y):=fun _ _ _ h=>aU ((hw _ _ _ h).mono fun d S1 h=>aU ((hv _ _ _ h).mono fun ds S2 h=>bq h))
def O8(o:Option D)(A:Prop):Prop:=match o with
 |none=>A
 |some _=>False
def wFr:Rho->Nat->Prop->Prop
 |[],_,_=>False
 |o::_,0,A=>O8 o A
 |_::ρ,i+1,A=>wFr ρ i A
theorem pR:∀ {ρ:Rho} {i:Nat} {A:Prop},wFr ρ i A->ρ[i]?=some none/\A
 |[],_,_,h=>h.elim
 |none::_,0,_,h=>⟨rfl,h⟩
 |some _::_,0,_,h=>h.elim
 |o::ρ,i+1,_,h=>by rw[Yq];exact pR (ρ:=ρ) h
def rE:List Tg->Rho->Prop->Prop
 |[],_,A=>A
 |.name i::ts,ρ,A=>wFr ρ i (rE ts ρ A)
 |.tup us::ts,ρ,A=>df (.tup us) ρ=true/\rE ts ρ A
def wFt:Tg->Rho->Prop->Prop
 |.name i,ρ,A=>wFr ρ i A
 |.tup ts,ρ,A=>rE ts ρ A
theorem oh{i:Nat}{ρ:Rho}(h:ρ[i]?=some none):df (.name i) ρ=true:=by rw[df,h]
theorem pS:∀ {ts:List Tg} {ρ:Rho} {A:Prop},rE ts ρ A->ft ts ρ=true/\A
 |[],_,_,h=>⟨by rw[ft],h⟩
 |.name i::ts,ρ,_,h=>by
  obtain⟨e,h⟩:=pR h;obtain⟨e2,h⟩:=pS h;exact⟨by rw[ft,oh e,e2];rfl,h⟩
 |.tup us::ts,ρ,_,h=>by
  obtain⟨e,h⟩:=h;obtain⟨e2,h⟩:=pS h;exact⟨by rw[ft,e,e2];rfl,h⟩
theorem uf{t:Tg}{ρ:Rho}{A:Prop}(h:wFt t ρ A):df t ρ=true/\A:=by
 cases t with
 |name i=>exact⟨oh (pR h).1,(pR h).2⟩
 |tup ts=>rw[df];exact pS h
def rF:List Str->Rho->(Rho->Prop)->Prop
 |[],r,Q=>Q r
 |_::own,r,Q=>rF own (none::r) Q
def rG:Rho->Rho->(Rho->Prop)->Prop
 |[],r,Q=>Q r
 |o::ρ,r,Q=>rG ρ r fun r'=>Q (o::r')
theorem vS:∀ {ρ r:Rho} {Q:Rho->Prop},rG ρ r Q->Q (ρ++r)
 |[],_,_,h=>h
 |o::ρ,r,Q,h=>vS (ρ:=ρ) (Q:=fun r'=>Q (o::r')) h
theorem vT:∀ {own:List Str} {k:Nat} {Q:Rho->Prop},rF own (Zo k none) Q->Q (Zo (own.length+k) none)
 |[],k,_,h=>by rw[Y5,Wc];exact h
 |_::own,k,Q,h=>by
  have:=vT (own:=own) (k:=k+1) h;rw[ZD,show own.length+1+k=own.length+(k+1) by lia];exact this
def Gs(own:List Str)(it:WP Nxt)(tg:Tg)(c:XA)(k:Nat):WP (List D):=fun ρ S Q=>it ρ S fun nx S1=>rF own [] fun r=>rG ρ r fun ρ'=>wFt tg ρ' (Ok (bb nx tg c ρ' k 0 S1) fun es S2=>es.length<=100000/\Q es S2)
theorem AQ{own:List Str}{k:Nat}{w:WP Nxt}{it:XI}{tg:Tg}{c:XA}(hw:Sd w it):Sd (Gs own w tg c k) (kY own.length it tg c k):=fun _ _ _ h=>by
 rw[DU]
 exact(hw _ _ _ h).mono fun nx S1 h=>by
  have h:=vS (vT (own:=own) (k:=0) h);exact uf h
def AR(it:WP Nxt)(tg:Tg)(c:XA)(k:Nat):WP (List D):=fun ρ S Q=>wFt tg ρ (it ρ S fun nx S1=>Ok (bb nx tg c ρ k 0 S1) Q)
theorem D7{k:Nat}{w:WP Nxt}{it:XI}{tg:Tg}{c:XA}(hw:Sd w it):Sd (AR w tg c k) (iW it tg c k):=fun _ _ _ h=>by
 rw[AF];exact⟨(uf h).1,hw _ _ _ (uf h).2⟩
def AS(d:D)(S1:Sto)(Q:Nxt->Sto->Prop):Prop:=match d with
 |.tup ds=>Q (nxL ds) S1
 |.ref n=>(am S1 n).isSome=true/\Q (nxS n) S1
 |.non=>False |.bl _=>False |.str _=>False |.int _=>False
theorem O9{w:WP D}{x:XE}(hw:Sd w x):Sd (fun ρ S Q=>w ρ S fun d S1=>AS d S1 Q) (xIV x):=fun _ _ _ h=>aU ((hw _ _ _ h).mono fun d S1 h=>by
 cases d with
 |tup ds=>exact bq h
 |ref n=>dsimp only;rw[if_pos h.1];exact bq h.2
 | _=>exact h.elim)
def AU(d:D)(S1:Sto)(Q:Nxt->Sto->Prop):Prop:=match d with
 |.tup ds=>Q (xg ds) S1
 |.ref n=>(am S1 n).isSome=true/\Q (xh n) S1
 |.non=>False |.bl _=>False |.str _=>False |.int _=>False
theorem Pa{w:WP D}{x:XE}(hw:Sd w x):Sd (fun ρ S Q=>w ρ S fun d S1=>AU d S1 Q) (xEV x):=fun _ _ _ h=>aU ((hw _ _ _ h).mono fun d S1 h=>by
 cases d with
 |tup ds=>exact bq h
 |ref n=>dsimp only;rw[if_pos h.1];exact bq h.2
 | _=>exact h.elim)
def wOn{α β:Type}(f:α->β)(x:WP α):WP β:=fun ρ S Q=>x ρ S fun a S1=>Q (f a) S1
theorem AV{α β:Type}{f:α->β}{w:WP α}{x:Rho->Sto->Option (α × Sto)}(hw:Sd w x):Sd (wOn f w) (fun ρ S=>bnd (x ρ S) fun a S1=>some (f a,S1)):=fun _ _ _ h=>aU ((hw _ _ _ h).mono fun d S1 h=>bq h)
def wR1(x:WP D):WP Nxt:=fun ρ S Q=>x ρ S fun d S1=>cX d fun j=>lim j=true/\Q (nxR 0 j.toNat) S1
theorem Pb{w:WP D}{x:XE}(hw:Sd w x):Sd (wR1 w) (xR1 x):=fun _ _ _ h=>aU ((hw _ _ _ h).mono fun d S1 h=>by
 obtain⟨i,rfl,h⟩:=cg h;dsimp only;rw[if_pos h.1];exact bq h.2)
def wR2(x y:WP D):WP Nxt:=fun ρ S Q=>x ρ S fun d S1=>y ρ S1 fun e S2=>cX d fun i=>cX e fun j=>(lim i=true/\lim j=true)/\Q (nxR i (j - i).toNat) S2
theorem Pc{w v:WP D}{x y:XE}(hw:Sd w x)(hv:Sd v y):Sd (wR2 w v) (xR2 x y):=fun _ _ _ h=>aU ((hw _ _ _ h).mono fun d S1 h=>aU ((hv _ _ _ h).mono fun e S2 h=>by
 obtain⟨i,rfl,h'⟩:=cg h;obtain⟨j,rfl,h''⟩:=cg h';dsimp only;rw[if_pos h''.1];exact bq h''.2))
def aD(d:D)(S:Sto)(Q:Bool->Sto->Prop):Prop:=match d with
 |.bl b=>Q b S
 |.tup ds=>Q (!ds.isEmpty) S
 |.int i=>Q (i != 0) S
 |.non=>Q false S
 |.str y=>Ok (kL (.str y) S) Q
 |.ref y=>Ok (kL (.ref y) S) Q
theorem AW{d:D}{S:Sto}{Q:Bool->Sto->Prop}(h:aD d S Q):Ok (kL d S) Q:=by cases d <;> first |exact bq h |exact h
def wB(x:WP D):WP Bool:=fun ρ S Q=>x ρ S fun d S1=>wBl d fun b=>Q b S1
theorem s_b{w:WP D}{x:XE}(hw:Sd w x):Sd (wB w) (xB x):=fun _ _ _ h=>by
 rw[M8];exact(hw _ _ _ h).mono fun d S1 h=>ml h
def Gu(x y:WP Bool):WP Bool:=fun ρ S Q=>x ρ S fun b S1=>wIf b (y ρ S1 Q) (Q false S1)
def Nm(x y:WP Bool):WP Bool:=fun ρ S Q=>x ρ S fun b S1=>wIf b (Q true S1) (y ρ S1 Q)
def Gv(x:WP Bool):WP Bool:=fun ρ S Q=>x ρ S fun b S1=>Q (!b) S1
theorem JC{w v:WP Bool}{x y:XT}(hw:Sd w x)(hv:Sd v y):Sd (Gu w v) (zH x y):=fun _ _ _ h=>aU ((hw _ _ _ h).mono fun b S1 h=>by
 cases b with
 |true=>exact hv _ _ _ h
 | false=>exact bq h)
theorem Nn{w v:WP Bool}{x y:XT}(hw:Sd w x)(hv:Sd v y):Sd (Nm w v) (Io x y):=fun _ _ _ h=>aU ((hw _ _ _ h).mono fun b S1 h=>by
 cases b with
 |false=>exact hv _ _ _ h
 | true=>exact bq h)
theorem JD{w:WP Bool}{x:XT}(hw:Sd w x):Sd (Gv w) (zI x):=fun _ _ _ h=>aU ((hw _ _ _ h).mono fun b S1 h=>bq h)
def Gw(t:WP Bool)(c:WP (List D)):WP (List D):=fun ρ S Q=>t ρ S fun b S1=>wIf b (c ρ S1 Q) (Q [] S1)
theorem JE{t:WP Bool}{c:WP (List D)}{x:XT}{y:XA}(ht:Sd t x)(hc:Sd c y):Sd (Gw t c) (zB x y):=fun _ _ _ h=>aU ((ht _ _ _ h).mono fun b S1 h=>by
 cases b with
 |true=>exact hc _ _ _ h
 | false=>exact bq h)
def D8(f:Bool->List D->Option (List D))(ds:List D)(S:Sto)(Q:List D->Sto->Prop):Prop:=∃es,f false ds=some es/\Q es S
def D9(f:Bool->List D->Option (List D))(d:D)(S:Sto)(Q:List D->Sto->Prop):Prop:=∃r es,al d S=some r/\f r.1 r.2=some es/\Q es S
def ug(d:D)(S:Sto)(Q:List D->Sto->Prop):Prop:=Ok ((al d S).map fun r=>(r.2,S)) Q
theorem Np{f:Bool->List D->Option (List D)}{w:WP (List D)}{x:XA}(hw:Sd w x):Sd (fun ρ S Q=>w ρ S fun ds S1=>D8 f ds S1 Q) (xm f x):=fun _ _ _ h=>aU ((hw _ _ _ h).mono fun ds S1 ⟨es,e,h⟩=>by rw[e];exact bq h)
theorem Nq{f:Bool->List D->Option (List D)}{w:WP D}{x:XE}(hw:Sd w x):Sd (fun ρ S Q=>w ρ S fun ds S1=>D9 f ds S1 Q) (xn f x):=fun _ _ _ h=>aU ((hw _ _ _ h).mono fun ds S1 ⟨r,es,e1,e,h⟩=>by
 rw[e1];dsimp only;rw[e];exact bq h)
def wNo{α:Type}:WP α:=fun _ _ _=>False
theorem rH{α:Type}{x:Rho->Sto->Option (α × Sto)}:Sd wNo x:=fun _ _ _ h=>h.elim
def aO(b:Bool)(x:WP (List D))(y:WP D)(ρ:Rho)(S:Sto)(KT:List D->Sto->Prop)(KV:D->Sto->Prop):Prop:=match b with
 |true=>x ρ S KT
 |false=>y ρ S KV
def wOf{α:Type}(b:Bool)(x:WP (List D))(y:WP D)(gt:List D->Sto->(α->Sto->Prop)->Prop)(gv:D->Sto->(α->Sto->Prop)->Prop):WP α:=fun ρ S Q=>aO b x y ρ S (fun ds S1=>gt ds S1 Q) (fun d S1=>gv d S1 Q)
theorem s_of{α:Type}{b:Bool}{w:WP (List D)}{v:WP D}{gt:List D->Sto->(α->Sto->Prop)->Prop}{gv:D->Sto->(α->Sto->Prop)->Prop}{x y:Rho->Sto->Option (α × Sto)}(hw:Sd (fun ρ S Q=>w ρ S fun ds S1=>gt ds S1 Q) x)(hv:Sd (fun ρ S Q=>v ρ S fun d S1=>gv d S1 Q) y):Sd (wOf b w v gt gv) (if b=true then x else y):=by
 cases b with
 |true=>exact hw
 |false=>exact hv
theorem Pd{b:Bool}{w:WP (List D)}{v u:WP D}{x:XA}{y z:XE}(hw:Sd w x)(hu:Sd u z)(hv:Sd v y):Sd (fun ρ S Q=>aO b w u ρ S (fun ds S1=>v ρ S1 fun i S2=>cX i fun k=>∃d,atI ds k=some d/\Q d S2) (fun d S1=>v ρ S1 fun i S2=>Ok (ixS d i S2) Q)) (if b=true then sP x y else qy ixS z y):=fun ρ S Q h=>by
 cases b with
 |true=>
  show Ok (sP x y ρ S) Q;rw[Jq];exact(hw _ _ _ h).mono fun ds S1 h=>(hv _ _ _ h).mono fun i S2 h=>cg h
 |false=>exact aU ((hu _ _ _ h).mono fun ds S1 h=>aU (hv _ _ _ h))
noncomputable def wO2(t:CE->WP D):Option CE->Option (WP D)
 |none=>none
 |some e=>some (t e)
def Ea(t:CE->WP Bool):Option CE->WP (List D)->WP (List D)
 |some c,x=>Gw (t c) x
 |none,x=>x
def AX(x y:D)(S:Sto)(Q:D->Sto->Prop):Prop:=cX x fun i=>cX y fun j=>Q (.int (if j > i then j else i)) S
def AY(x y:D)(S:Sto)(Q:D->Sto->Prop):Prop:=cX x fun i=>cX y fun j=>Q (.int (if j < i then j else i)) S
def w2(g:D->D->Sto->(D->Sto->Prop)->Prop):List D->Sto->(D->Sto->Prop)->Prop
 |[],_,_=>False
 |[_],_,_=>False
 |[x,y],S,Q=>g x y S Q
 |_::_::_::_,_,_=>False
theorem Gx{g:D->D->Sto->(D->Sto->Prop)->Prop}{f:D->D->Sto->Option (D × Sto)}(hg:∀ {a b S Q},g a b S Q->Ok (f a b S) Q):∀ {ds:List D} {S:Sto} {Q:D->Sto->Prop},w2 g ds S Q->Ok (two f ds S) Q
 |[],_,_,h=>h.elim
 |[_],_,_,h=>h.elim
 |[x,y],_,_,h=>hg h
 |_::_::_::_,_,_,h=>h.elim
def Gy:WP D:=fun _ S Q=>Q (.ref (Zb S)) (S++[.dic [] []])
def Gz(i j:Int):WP D:=fun _ S Q=>Q (.ref (Zb S)) (S++[.dic [mM i] [.int j]])
def wCf(i:CI->WP Nxt)(own:List Str)(t:CE->XT)(e:List Cl->XA):List Cl->WP (List D)
 |[]=>wNo
 |⟨tg,it,cond⟩::rest=>Gs own (i it) tg (cnd t cond (e rest)) LF
mutual
def wE(C:Calls)(ar:Nat->Nat):Nat->CE->WP D
 |0,_=>wNo
 |n+1,e=>match e with
  |.non=>wC .non
  |.bl b=>wC (.bl b)
  |.int i=>wC (.int i)
  |.str x=>wC (.str x)
  |.var i=>M9 i
  |.con _ v=>wC (.int v)
  |.tup es=>wSh es (wOn D.tup (wA C ar n es))
  |.lst es=>jk (wSh es (wA C ar n es))
  |.dic0=>Gy
  |.dic1 i j=>Gz i j
  |.bin o a b=>D4 (ud o) (wE C ar n a) (wE C ar n b)
  |.neg a=>Ni (wE C ar n a)
  |.cmp o a b=>D4 (wCm o) (wE C ar n a) (wE C ar n b)
  |.chn o p a b c=>Jy o p (wE C ar n a) (wE C ar n b) (wE C ar n c)
  |.and a b=>Nb (wE C ar n a) (wE C ar n b)
  |.or a b=>wOr (wE C ar n a) (wE C ar n b)
  |.not a=>Nd (wE C ar n a)
  |.ix a b=>fun ρ S Q=>aO (ai a) (wTm C ar n a) (wE C ar n a) ρ S (fun ds S1=>wE C ar n b ρ S1 fun i S2=>cX i fun k=>∃d,atI ds k=some d/\Q d S2) (fun d S1=>wE C ar n b ρ S1 fun i S2=>Ok (ixS d i S2) Q)
  |.sl a lo hi=>wSl (wE C ar n a) (wO (wO2 (wE C ar n) lo)) (wO (wO2 (wE C ar n) hi))
  |.call f es=>Gp (C f) (ar f) (wA C ar n es)
  |.inst t a=>wUn (wOk (kO t)) (wE C ar n a)
  |.len a=>wOf (ai a) (wTm C ar n a) (wE C ar n a) (wOk (b7 false)) (wOk (au b7))
  |.all a=>wOf (ai a) (wTm C ar n a) (wE C ar n a) (wOk (jU false)) (wOk (au jU))
  |.any a=>wOf (ai a) (wTm C ar n a) (wE C ar n a) (wOk (mK false)) (wOk (au mK))
  |.tupOf a=>wOf (ai a) (wTm C ar n a) (wE C ar n a) (wOk (iS false)) (wOk (au iS))
  |.listOf a=>jk (wOf (ai a) (wTm C ar n a) (wE C ar n a) (fun ds S Q=>Q ds S) ug)
  |.listR a=>jk (JA (wE C ar n a))
  |.srt a=>jk (wOf (ai a) (wTm C ar n a) (wE C ar n a) (D8 cI) (D9 cI))
  |.mxL a=>wOf (ai a) (wTm C ar n a) (wE C ar n a) (wOk (jV false)) (wOk (au jV))
  |.intOf a=>wUn (wOk zr) (wE C ar n a)
  |.mx a b=>wUn (w2 AX) (wA C ar n [a,b])
  |.mn a b=>wUn (w2 AY) (wA C ar n [a,b])
  |.rep a=>wUn (wOk jx) (wE C ar n a)
  |.comp own elt cls=>jk (wCf (wI C ar n) own (evT C ar n) (gw C ar n elt) cls)
  |.app o a=>AO dL tG (wE C ar n o) (wA C ar n [a])
  |.popAt o a=>AO dL eC (wE C ar n o) (wA C ar n [a])
  |.ins o i a=>AO dL tJ (wE C ar n o) (wA C ar n [i,a])
  |.cnt o a=>AO (fun d _=>isTup d) tH (wE C ar n o) (wA C ar n [a])
def wA(C:Calls)(ar:Nat->Nat):Nat->List CE->WP (List D)
 |0,_=>wNo
 |n+1,es=>match es with
  |[]=>Nk
  |e::es=>Gr (wE C ar n e) (wA C ar n es)
def wTm(C:Calls)(ar:Nat->Nat):Nat->CE->WP (List D)
 |0,_=>wNo
 |n+1,e=>match e with
  |.lst es=>wSh es (wA C ar n es)
  |.listOf a=>wOf (ai a) (wTm C ar n a) (wE C ar n a) (fun ds S Q=>Q ds S) ug
  |.listR a=>JA (wE C ar n a)
  |.srt a=>wOf (ai a) (wTm C ar n a) (wE C ar n a) (D8 cI) (D9 cI)
  |.comp own elt cls=>wCf (wI C ar n) own (evT C ar n) (gw C ar n elt) cls
  |.non=>wNo
  |.bl _=>wNo
  |.int _=>wNo
  |.str _=>wNo
  |.var _=>wNo
  |.con _ _=>wNo
  |.tup _=>wNo
  |.dic0=>wNo
  |.dic1 _ _=>wNo
  |.bin _ _ _=>wNo
  |.neg _=>wNo
  |.cmp _ _ _=>wNo
  |.chn _ _ _ _ _=>wNo
  |.and _ _=>wNo
  |.or _ _=>wNo
  |.not _=>wNo
  |.ix _ _=>wNo
  |.sl _ _ _=>wNo
  |.call _ _=>wNo
  |.inst _ _=>wNo
  |.len _=>wNo
  |.all _=>wNo
  |.any _=>wNo
  |.tupOf _=>wNo
  |.mxL _=>wNo
  |.intOf _=>wNo
  |.mx _ _=>wNo
  |.mn _ _=>wNo
  |.rep _=>wNo
  |.app _ _=>wNo
  |.popAt _ _=>wNo
  |.ins _ _ _=>wNo
  |.cnt _ _=>wNo
def wI(C:Calls)(ar:Nat->Nat):Nat->CI->WP Nxt
 |0,_=>wNo
 |n+1,it=>match it with
  |.val a=>wOf (ai a) (wTm C ar n a) (wE C ar n a) (fun ds S Q=>Q (nxL ds) S) AS
  |.r1 a=>wR1 (wE C ar n a)
  |.r2 a b=>wR2 (wE C ar n a) (wE C ar n b)
  |.en a=>wOf (ai a) (wTm C ar n a) (wE C ar n a) (fun ds S Q=>Q (xg ds) S) AU
def wT(C:Calls)(ar:Nat->Nat):Nat->CE->WP Bool
 |0,_=>wNo
 |n+1,e=>match e with
  |.cmp o a b=>wB (D4 (wCm o) (wE C ar n a) (wE C ar n b))
  |.chn o p a b c=>wB (Jy o p (wE C ar n a) (wE C ar n b) (wE C ar n c))
  |.and a b=>Gu (wT C ar n a) (wT C ar n b)
  |.or a b=>Nm (wT C ar n a) (wT C ar n b)
  |.not a=>Gv (wT C ar n a)
  |.non=>wUn aD (wE C ar n (.non))
  |.bl b=>wUn aD (wE C ar n (.bl b))
  |.int i=>wUn aD (wE C ar n (.int i))
  |.str x=>wUn aD (wE C ar n (.str x))
  |.var i=>wUn aD (wE C ar n (.var i))
  |.con k v=>wUn aD (wE C ar n (.con k v))
  |.tup es=>wUn aD (wE C ar n (.tup es))
  |.lst es=>wUn aD (wE C ar n (.lst es))
  |.dic0=>wUn aD (wE C ar n (.dic0))
  |.dic1 i j=>wUn aD (wE C ar n (.dic1 i j))
  |.bin o a b=>wUn aD (wE C ar n (.bin o a b))
  |.neg a=>wUn aD (wE C ar n (.neg a))
  |.ix a b=>wUn aD (wE C ar n (.ix a b))
  |.sl a lo hi=>wUn aD (wE C ar n (.sl a lo hi))
  |.call f es=>wUn aD (wE C ar n (.call f es))
  |.inst t a=>wUn aD (wE C ar n (.inst t a))
  |.len a=>wUn aD (wE C ar n (.len a))
  |.all a=>wUn aD (wE C ar n (.all a))
  |.any a=>wUn aD (wE C ar n (.any a))
  |.tupOf a=>wUn aD (wE C ar n (.tupOf a))
  |.listOf a=>wUn aD (wE C ar n (.listOf a))
  |.listR a=>wUn aD (wE C ar n (.listR a))
  |.srt a=>wUn aD (wE C ar n (.srt a))
  |.mxL a=>wUn aD (wE C ar n (.mxL a))
  |.intOf a=>wUn aD (wE C ar n (.intOf a))
  |.mx a b=>wUn aD (wE C ar n (.mx a b))
  |.mn a b=>wUn aD (wE C ar n (.mn a b))
  |.rep a=>wUn aD (wE C ar n (.rep a))
  |.comp own elt cls=>wUn aD (wE C ar n (.comp own elt cls))
  |.app o a=>wUn aD (wE C ar n (.app o a))
  |.popAt o a=>wUn aD (wE C ar n (.popAt o a))
  |.ins o i a=>wUn aD (wE C ar n (.ins o i a))
  |.cnt o a=>wUn aD (wE C ar n (.cnt o a))
end
def wCl(C:Calls)(ar:Nat->Nat)(n:Nat)(elt:CE):List Cl->WP (List D)
 |[]=>wOn (fun d=>[d]) (wE C ar n elt)
 |⟨tg,it,cond⟩::rest=>AR (wI C ar n it) tg (cnd (evT C ar n) cond (gw C ar n elt rest)) LF
theorem pT{C:Calls}{ar:Nat->Nat}:∀ {n:Nat} {es:List CE} {ρ:Rho} {S S':Sto} {ds:List D},evA C ar n es ρ S=some (ds,S')->ds.length=es.length
 |0,_,_,_,_,_,h=>by simp only[evA,xNo] at h;cases h
 |n+1,[],_,_,_,_,h=>by simp only[evA,CL] at h;cases h;rfl
 |n+1,e::es,_,_,_,_,h=>by
  simp only[evA,uR] at h;obtain⟨a,S1,e1,h⟩:=af h;obtain⟨as,S2,e2,h⟩:=af h;cases h;rw[ZD,ZD,pT e2]
structure SndW(C:Calls)(ar:Nat->Nat)(n:Nat):Prop where
 e:∀ {e:CE},Sd (wE C ar n e) (evE C ar n e)
 a:∀ {es:List CE},Sd (wA C ar n es) (evA C ar n es)
 m:∀ {e:CE},Sd (wTm C ar n e) (cw C ar n e)
 i:∀ {i:CI},Sd (wI C ar n i) (evI C ar n i)
 t:∀ {e:CE},Sd (wT C ar n e) (evT C ar n e)
section
variable {C:Calls} {ar:Nat->Nat} {n:Nat}
theorem Nt(h:SndW C ar n){es:List CE}:Sd (wSh es (wOn D.tup (wA C ar n es))) (jR jS (evA C ar n es)):=fun ρ S Q w=>by
 obtain⟨le,w⟩:=iA w;obtain⟨ds,S1,e1,q⟩:=h.a _ _ _ w;refine aU ⟨ds,S1,e1,?_⟩;have l:=pT e1;show Ok (jS ds S1) Q;rw[DW];exact⟨by lia,q⟩
theorem AZ(h:SndW C ar n){es:List CE}:Sd (wSh es (wA C ar n es)) (ng (evA C ar n es)):=fun ρ S Q w=>by
 obtain⟨le,w⟩:=iA w;obtain⟨ds,S1,e1,q⟩:=h.a _ _ _ w;rw[DV];have l:=pT e1;exact⟨ds,S1,e1,by lia,q⟩
theorem GA(h:SndW C ar n){o:Option CE}:Sd (wO (wO2 (wE C ar n) o)) (opt (evE C ar n) o):=by
 cases o with
 |none=>exact O5
 |some e=>exact O6 h.e
theorem Eb{a b:D}{S:Sto}{Q:D->Sto->Prop}(h:AX a b S Q):Ok (zk a b S) Q:=by
 obtain⟨i,rfl,h'⟩:=cg h;obtain⟨j,rfl,h''⟩:=cg h';exact bq h''
theorem Ec{a b:D}{S:Sto}{Q:D->Sto->Prop}(h:AY a b S Q):Ok (zl a b S) Q:=by
 obtain⟨i,rfl,h'⟩:=cg h;obtain⟨j,rfl,h''⟩:=cg h';exact bq h''
end
section
variable {C:Calls} {ar:Nat->Nat} {n:Nat}
theorem Nu(h:SndW C ar n){o:Option CE}{w:WP (List D)}{x:XA}(hw:Sd w x):Sd (Ea (wT C ar n) o w) (cnd (evT C ar n) o x):=by
 cases o with
 |none=>exact hw
 |some c=>exact JE h.t hw
theorem A0{α β:Type}{f:α->Sto->Option (β × Sto)}{a:α}{S:Sto}{Q:β->Sto->Prop}(h:wOk f a S Q):Ok (f a S) Q:=h
theorem s_q(h:SndW C ar n){f:Bool->List D->Sto->Option (D × Sto)}{a:CE}:Sd (wOf (ai a) (wTm C ar n a) (wE C ar n a) (wOk (f false)) (wOk (au f))) (if ai a=true then qz f (cw C ar n a) else qA f (evE C ar n a)):=
 s_of (D5 (f:=f false) h.m A0) (D5 (f:=au f) h.e A0)
theorem GC(h:SndW C ar n){a:CE}:Sd (wOf (ai a) (wTm C ar n a) (wE C ar n a) (fun ds S Q=>Q ds S) ug) (if ai a=true then cw C ar n a else kZ (evE C ar n a)):=s_of h.m (fun _ _ _ w=>aU (h.e _ _ _ w))
theorem GD(h:SndW C ar n){a:CE}:Sd (wOf (ai a) (wTm C ar n a) (wE C ar n a) (D8 cI) (D9 cI)) (if ai a=true then xm cI (cw C ar n a) else xn cI (evE C ar n a)):=s_of (Np h.m) (Nq h.e)
theorem s_u{g:D->Sto->Option (D × Sto)}{w:WP D}{x:XE}(hw:Sd w x):Sd (wUn (wOk g) w) (xUn g x):=D5 (f:=g) hw A0
theorem Pe{w:WP (List D)}{x:XA}(hw:Sd w x):Sd (wUn (w2 AX) w) (jR (two zk) x):=fun _ _ _ h=>aU ((hw _ _ _ h).mono fun _ _ h=>Gx (fun z=>Eb z) h)
theorem Pf{w:WP (List D)}{x:XA}(hw:Sd w x):Sd (wUn (w2 AY) w) (jR (two zl) x):=fun _ _ _ h=>aU ((hw _ _ _ h).mono fun _ _ h=>Gx (fun z=>Ec z) h)
theorem JF:Sd Gy zK:=fun _ _ _ h=>bq h
theorem JG{i j:Int}:Sd (Gz i j) (zL i j):=fun _ _ _ h=>bq h
theorem Nv{w:WP D}{x:XE}(hw:Sd w x):Sd (wUn aD w) (CW x):=D5 (f:=kL) hw AW
theorem oi:∀n,SndW C ar n
 |0=>⟨rH,rH,rH,rH,rH⟩
 |n+1=>by
  have h:=oi n;refine⟨fun {e}=>?_,fun {es}=>?_,fun {e}=>?_,fun {i}=>?_,fun {e}=>?_⟩
  ·cases e with
   |non=>exact s_c
   |bl b=>exact s_c
   |int b=>exact s_c
   |str b=>exact s_c
   |var b=>exact Na
   |con b v=>exact s_c
   |tup es=>exact Nt h
   |lst es=>exact gk (AZ h)
   |dic0=>exact JF
   |dic1 i j=>exact JG
   |bin o a b=>exact AM h.e h.e D6
   |neg a=>exact Nj h.e
   |cmp o a b=>exact AM h.e h.e pQ
   |chn o p a b c=>exact Go h.e h.e h.e
   |and a b=>exact Nc h.e h.e
   |or a b=>exact O4 h.e h.e
   |not a=>exact Nf h.e
   |ix a b=>exact Pd h.m h.e h.e
   |sl a lo hi=>exact O7 h.e (GA h) (GA h)
   |call f es=>exact Jz h.a
   |inst t a=>exact s_u h.e
   |len a=>exact s_q h
   |all a=>exact s_q h
   |any a=>exact s_q h
   |tupOf a=>exact s_q h
   |listOf a=>exact gk (GC h)
   |listR a=>exact gk (Gq h.e)
   |srt a=>exact gk (GD h)
   |mxL a=>exact s_q h
   |intOf a=>exact s_u h.e
   |mx a b=>exact Pe h.a
   |mn a b=>exact Pf h.a
   |rep a=>exact s_u h.e
   |comp own elt cls=>cases cls with
    |nil=>exact gk rH
    |cons c rest=>cases c with |mk tg it cond=>exact gk (AQ h.i)
   |app o a=>exact vR h.e h.a
   |popAt o a=>exact vR h.e h.a
   |ins o i a=>exact vR h.e h.a
   |cnt o a=>exact vR h.e h.a
  ·cases es with
   |nil=>exact Nl
   |cons e es=>exact JB h.e h.a
  ·cases e with
   |lst es=>exact AZ h
   |listOf a=>exact GC h
   |listR a=>exact Gq h.e
   |srt a=>exact GD h
   |comp own elt cls=>cases cls with
    |nil=>exact rH
    |cons c rest=>cases c with |mk tg it cond=>exact AQ h.i
   |_=>exact rH
  ·cases i with
   |val a=>exact s_of (AV h.m) (O9 h.e)
   |r1 a=>exact Pb h.e
   |r2 a b=>exact Pc h.e h.e
   |en a=>exact s_of (AV h.m) (Pa h.e)
  ·cases e with
   |cmp o a b=>exact s_b (AM h.e h.e pQ)
   |chn o p a b c=>exact s_b (Go h.e h.e h.e)
   |and a b=>exact JC h.t h.t
   |or a b=>exact Nn h.t h.t
   |not a=>exact JD h.t
   |_=>exact Nv h.e
theorem Pg{elt:CE}{cls:List Cl}:Sd (wCl C ar n elt cls) (gw C ar (n+1) elt cls):=by
 cases cls with
 |nil=>exact AV (oi n).e
 |cons c rest=>cases c with |mk tg it cond=>exact D7 (oi n).i
theorem JH{elt:CE}{cls:List Cl}{o:Option CE}{ρ:Rho}{S:Sto}{Q:List D->Sto->Prop}(h:Ea (wT C ar (n+1)) o (wCl C ar n elt cls) ρ S Q):Ok (cnd (evT C ar (n+1)) o (gw C ar (n+1) elt cls) ρ S) Q:=Nu (oi (n+1)) Pg _ _ _ h
def wNm:Nat->D->Rho->(Rho->Prop)->Prop
 |_,_,[],_=>False
 |0,d,_::ρ,Q=>Q (some d::ρ)
 |i+1,d,o::ρ,Q=>wNm i d ρ fun ρ'=>Q (o::ρ')
theorem pU:∀ {i:Nat} {d:D} {ρ:Rho} {Q:Rho->Prop},wNm i d ρ Q->i < ρ.length/\Q (ρ.set i (some d))
 |i,_,[],_,h=>by cases i <;> exact h.elim
 |0,d,_::ρ,Q,h=>⟨by simp,h⟩
 |i+1,d,o::ρ,Q,h=>by
  have:=pU (ρ:=ρ) (Q:=fun ρ'=>Q (o::ρ')) h;exact⟨by rw[ZD];lia,this.2⟩
def wBs:List Tg->List D->Rho->(Rho->Prop)->Prop
 |[],[],ρ,Q=>Q ρ
 |[],_::_,_,_=>False
 |.name _::_,[],_,_=>False
 |.tup _::_,[],_,_=>False
 |.name i::ts,d::ds,ρ,Q=>wNm i d ρ fun ρ1=>wBs ts ds ρ1 Q
 |.tup us::ts,d::ds,ρ,Q=>∃ρ1,aA (.tup us) d ρ=some ρ1/\wBs ts ds ρ1 Q
def wTp(ts:List Tg)(d:D)(ρ:Rho)(Q:Rho->Prop):Prop:=match d with
 |.tup ds=>wBs ts ds ρ Q
 |.non=>False |.bl _=>False |.str _=>False |.int _=>False |.ref _=>False
def wBd:Tg->D->Rho->(Rho->Prop)->Prop
 |.name i,d,ρ,Q=>wNm i d ρ Q
 |.tup ts,d,ρ,Q=>wTp ts d ρ Q
theorem A6{i:Nat}{d:D}{ρ:Rho}{Q:Rho->Prop}(h:wNm i d ρ Q):∃ρ1,aA (.name i) d ρ=some ρ1/\Q ρ1:=⟨_,by rw[D0,if_pos (pU h).1],(pU h).2⟩
theorem uh:∀ {ts:List Tg} {ds:List D} {ρ:Rho} {Q:Rho->Prop},wBs ts ds ρ Q->∃ρ1,aI ts ds ρ=some ρ1/\Q ρ1
 |[],[],ρ,Q,h=>⟨ρ,vJ,h⟩
 |[],_::_,_,_,h=>h.elim
 |.name _::_,[],_,_,h=>h.elim
 |.tup _::_,[],_,_,h=>h.elim
 |.name i::ts,d::ds,ρ,Q,h=>by
  obtain⟨ρ1,e,q⟩:=A6 h;obtain⟨ρ2,e2,q⟩:=uh q;exact⟨ρ2,by rw[aI,e];exact e2,q⟩
 |.tup us::ts,d::ds,ρ,Q,h=>by
  obtain⟨ρ1,e,q⟩:=h;obtain⟨ρ2,e2,q⟩:=uh q;exact⟨ρ2,by rw[aI,e];exact e2,q⟩
theorem JI{t:Tg}{d:D}{ρ:Rho}{Q:Rho->Prop}(h:wBd t d ρ Q):∃ρ1,aA t d ρ=some ρ1/\Q ρ1:=by
 cases t with
 |name i=>exact A6 h
 |tup ts=>cases d with
  |tup ds=>rw[AI];exact uh h
  |_=>exact h.elim
abbrev WS:=Rho->Sto->(Fl->Rho->Sto->Prop)->Prop
def rW(y:WS)(ρ:Rho)(S:Sto)(Q:Fl->Rho->Sto->Prop):Prop:=y ρ S Q
def wNx(y:WS)(Q:Fl->Rho->Sto->Prop)(f:Fl)(ρ:Rho)(S:Sto):Prop:=match f with
 |.nx=>rW y ρ S Q
 |.rt d=>Q (.rt d) ρ S
 |.bk=>Q .bk ρ S
 |.ct=>Q .ct ρ S
mutual
def wS(C:Calls)(ar:Nat->Nat):Nat->CS->WS
 |0,_=>fun _ _ _=>False
 |n+1,s=>match s with
  |.asg t e=>fun ρ S Q=>wE C ar n e ρ S fun d S1=>wBd t d ρ fun ρ1=>Q .nx ρ1 S1
  |.setI v o i=>fun ρ S Q=>wE C ar n v ρ S fun a S1=>wE C ar n o ρ S1 fun b S2=>wE C ar n i ρ S2 fun c S3=>∃S4,dM b c a S3=some S4/\Q .nx ρ S4
  |.swp v o i q j=>fun ρ S Q=>wE C ar n v ρ S fun d S1=>∃a b,d = .tup [a,b]/\wE C ar n o ρ S1 fun x S2=>wE C ar n i ρ S2 fun y S3=>∃S4,dM x y a S3=some S4/\wE C ar n q ρ S4 fun z S5=>wE C ar n j ρ S5 fun w S6=>∃S7,dM z w b S6=some S7/\Q .nx ρ S7
  |.ex e=>fun ρ S Q=>wE C ar n e ρ S fun _ S1=>Q .nx ρ S1
  |.ret e=>fun ρ S Q=>wE C ar n e ρ S fun d S1=>Q (.rt d) ρ S1
  |.ifs c a b=>fun ρ S Q=>wT C ar n c ρ S fun t S1=>wIf t (rW (wSs C ar n a) ρ S1 Q) (rW (wSs C ar n b) ρ S1 Q)
  |.for_ t it b=>fun ρ S Q=>wI C ar n it ρ S fun nx S1=>OkS (dN nx t (fc C ar n b) LF 0 ρ S1) Q
  |.cnt=>fun ρ S Q=>Q .ct ρ S
  |.never=>fun _ _ _=>False
def wSs(C:Calls)(ar:Nat->Nat):Nat->List CS->WS
 |0,_=>fun _ _ _=>False
 |n+1,ss=>match ss with
  |[]=>fun ρ S Q=>Q .nx ρ S
  |s::ss=>fun ρ S Q=>wS C ar n s ρ S (wNx (wSs C ar n ss) Q)
end
structure SdS(C:Calls)(ar:Nat->Nat)(n:Nat):Prop where
 s:∀ {s:CS} {ρ S Q},wS C ar n s ρ S Q->OkS (evS C ar n s ρ S) Q
 ss:∀ {ss:List CS} {ρ S Q},wSs C ar n ss ρ S Q->OkS (fc C ar n ss ρ S) Q
theorem A7:∀n,SdS C ar n
 |0=>⟨fun h=>by simp only[wS] at h,fun h=>by simp only[wSs] at h⟩
 |n+1=>by
  have h:=A7 n;have g:SndW C ar n:=oi n;refine⟨fun {s ρ S Q} w=>?_,fun {ss ρ S Q} w=>?_⟩
  ·cases s with
   |asg t e=>simp only[evS,DQ];simp only[wS] at w;exact(g.e _ _ _ w).mono fun d S1 w=>JI w
   |setI v o i=>simp only[evS,AE];simp only[wS] at w;exact(g.e _ _ _ w).mono fun a S1 w=>(g.e _ _ _ w).mono fun b S2 w=>g.e _ _ _ w
   |swp v o i q j=>
    obtain⟨d,S1,e1,a,b,rfl,w⟩:=g.e _ _ _ w;obtain⟨x,S2,e2,w⟩:=g.e _ _ _ w;obtain⟨y,S3,e3,S4,e4,w⟩:=g.e _ _ _ w;obtain⟨z,S5,e5,w⟩:=g.e _ _ _ w;obtain⟨u,S6,e6,S7,e7,w⟩:=g.e _ _ _ w;refine⟨.nx,ρ,S7,?_,w⟩;show zy (evE C ar n v) (evE C ar n o) (evE C ar n i) (evE C ar n q) (evE C ar n j) ρ S=_;unfold zy;rw[e1];have h1:kW a (evE C ar n o) (evE C ar n i) ρ S1=some S4:=by unfold kW;rw[e2];dsimp only;rw[e3];exact e4
    have h2:kW b (evE C ar n q) (evE C ar n j) ρ S4=some S7:=by unfold kW;rw[e5];dsimp only;rw[e6];exact e7
    dsimp only[C9];rw[h1];dsimp only;rw[h2];rfl
   |ex e=>simp only[evS,AD];simp only[wS] at w;exact g.e _ _ _ w
   |ret e=>simp only[evS,DR];simp only[wS] at w;exact g.e _ _ _ w
   |ifs c a b=>
    simp only[evS,IY];simp only[wS] at w;refine(g.t _ _ _ w).mono fun t S1 w=>?_;cases t with
    |true=>exact h.ss w
    |false=>exact h.ss w
   |for_ t it b=>simp only[evS,DS];simp only[wS] at w;exact g.i _ _ _ w
   |cnt=>simp only[wS] at w;simp only[evS];exact⟨_,_,_,rfl,w⟩
   |never=>simp only[wS] at w
  ·cases ss with
   |nil=>simp only[wSs] at w;simp only[fc];exact⟨_,_,_,rfl,w⟩
   |cons s ss=>
    simp only[wSs] at w;simp only[fc,DP];refine(h.s w).mono fun f ρ1 S1 w=>?_;cases f with
    |nx=>exact h.ss w
    |_=>exact w
theorem ui{ss:List CS}{ρ:Rho}{S:Sto}{Q:Fl->Rho->Sto->Prop}(h:rW (wSs C ar n ss) ρ S Q):OkS (fc C ar n ss ρ S) Q:=(A7 n).ss h
theorem A8{s:CS}{ss:List CS}{ρ:Rho}{S:Sto}{Q:Fl->Rho->Sto->Prop}(h:wS C ar n s ρ S (wNx (wSs C ar n ss) Q)):rW (wSs C ar (n+1) (s::ss)) ρ S Q:=h
theorem Ed{ρ:Rho}{S:Sto}{Q:Fl->Rho->Sto->Prop}(h:Q .nx ρ S):rW (wSs C ar (n+1) []) ρ S Q:=h
end
section
variable {C:Calls} {ar:Nat->Nat} {A B:Prop} {S S1:Sto} {Q:D->Sto->Prop} {Ql:List D->Sto->Prop} {Qn:Nxt->Sto->Prop} {Qb:Bool->Prop} {Qi:Int->Prop} {Qd:D->Prop} {Qr:Rho->Prop} {Qt:Bool->Sto->Prop} {Qs:Fl->Rho->Sto->Prop} {t:Bool} {d x y:D} {i j:Int} {n m f:Nat} {s:Str} {o:BOp} {c p:COp} {ds xs ys:List D} {l h:Option Int} {tg:Tg} {ts:List Tg} {ρ ρ2:Rho} {es:List CE} {a b e:CE} {oa ob cd:Option CE} {own:List Str} {it:CI} {rest:List Cl} {ty:Ty} {w wl:WP (List D)} {wv:WP D} {sa sb:List CS} {ws:WS} {od:Option D} {g:D->D->Sto->(D->Sto->Prop)->Prop}
theorem JJ:wE C ar (n+1) (.non) ρ S Q=(Q .non S):=rfl
theorem Nw:wE C ar (n+1) (.bl t) ρ S Q=(Q (.bl t) S):=rfl
theorem JK:wE C ar (n+1) (.int i) ρ S Q=(Q (.int i) S):=rfl
theorem JL:wE C ar (n+1) (.str s) ρ S Q=(Q (.str s) S):=rfl
theorem JM:wE C ar (n+1) (.con m i) ρ S Q=(Q (.int i) S):=rfl
theorem JN:wE C ar (n+1) (.var m) ρ S Q=(uc ρ m fun d=>Q d S):=rfl
theorem JO:wE C ar (n+1) (.tup es) ρ S Q=(eP 60 es (wA C ar n es ρ S fun ds S1=>Q (.tup ds) S1)):=rfl
theorem JP:wE C ar (n+1) (.lst es) ρ S Q=(eP 60 es (wA C ar n es ρ S fun ds S1=>Q (.ref S1.length) (S1++[.lst ds]))):=rfl
theorem Ee:wE C ar (n+1) (.dic0) ρ S Q=(Q (.ref (Zb S)) (S++[.dic [] []])):=rfl
theorem Ef:wE C ar (n+1) (.dic1 i j) ρ S Q=(Q (.ref (Zb S)) (S++[.dic [mM i] [.int j]])):=rfl
theorem JQ:wE C ar (n+1) (.bin o a b) ρ S Q=(wE C ar n a ρ S fun x S1=>wE C ar n b ρ S1 fun y S2=>ud o x y S2 Q):=rfl
theorem JR:wE C ar (n+1) (.neg a) ρ S Q=(wE C ar n a ρ S fun d S1=>cX d fun i=>Q (.int (-i)) S1):=rfl
theorem JS:wE C ar (n+1) (.cmp c a b) ρ S Q=(wE C ar n a ρ S fun x S1=>wE C ar n b ρ S1 fun y S2=>wCm c x y S2 Q):=rfl
theorem JT:wE C ar (n+1) (.chn c p a b e) ρ S Q=(wE C ar n a ρ S fun x S1=>wE C ar n b ρ S1 fun y S2=>wCm c x y S2 fun r S3=>wBl r fun t=>wIf t (wE C ar n e ρ S3 fun z S4=>wCm p y z S4 Q) (Q (.bl false) S3)):=rfl
theorem JU:wE C ar (n+1) (.and a b) ρ S Q=(wE C ar n a ρ S fun d S1=>wBl d fun t=>wIf t (wE C ar n b ρ S1 Q) (Q (.bl false) S1)):=rfl
theorem Nx:wE C ar (n+1) (.or a b) ρ S Q=(wE C ar n a ρ S fun d S1=>wBl d fun t=>wIf t (Q (.bl true) S1) (wE C ar n b ρ S1 Q)):=rfl
theorem JV:wE C ar (n+1) (.not a) ρ S Q=(wE C ar n a ρ S fun d S1=>wBl d fun t=>Q (.bl (!t)) S1):=rfl
theorem Ny:wE C ar (n+1) (.ix a b) ρ S Q=(aO (ai a) (wTm C ar n a) (wE C ar n a) ρ S (fun ds S1=>wE C ar n b ρ S1 fun i S2=>cX i fun k=>∃d,atI ds k=some d/\Q d S2) (fun d S1=>wE C ar n b ρ S1 fun i S2=>Ok (ixS d i S2) Q)):=rfl
theorem Eg:wE C ar (n+1) (.sl a none none) ρ S Q=(wE C ar n a ρ S fun d S1=>ue none none d S1 Q):=rfl
theorem Eh:wE C ar (n+1) (.sl a none (some b)) ρ S Q=(wE C ar n a ρ S fun d S1=>wE C ar n b ρ S1 fun y S2=>cX y fun j=>ue none (some j) d S2 Q):=rfl
theorem Ei:wE C ar (n+1) (.sl a (some b) none) ρ S Q=(wE C ar n a ρ S fun d S1=>wE C ar n b ρ S1 fun y S2=>cX y fun j=>ue (some j) none d S2 Q):=rfl
theorem Ej:wE C ar (n+1) (.sl a (some b) (some e)) ρ S Q=(wE C ar n a ρ S fun d S1=>wE C ar n b ρ S1 fun y S2=>cX y fun j=>wE C ar n e ρ S2 fun z S3=>cX z fun k=>ue (some j) (some k) d S3 Q):=rfl
theorem Ek:wE C ar (n+1) (.call f es) ρ S Q=(wA C ar n es ρ S fun ds S1=>ds.length=ar f/\Ok (C f ds S1) Q):=rfl
theorem El:wE C ar (n+1) (.inst ty a) ρ S Q=(wE C ar n a ρ S fun d S1=>Ok (kO ty d S1) Q):=rfl
theorem JW:wE C ar (n+1) (.len a) ρ S Q=(aO (ai a) (wTm C ar n a) (wE C ar n a) ρ S (fun ds S1=>Ok (b7 false ds S1) Q) (fun d S1=>Ok (au b7 d S1) Q)):=rfl
theorem JX:wE C ar (n+1) (.all a) ρ S Q=(aO (ai a) (wTm C ar n a) (wE C ar n a) ρ S (fun ds S1=>Ok (jU false ds S1) Q) (fun d S1=>Ok (au jU d S1) Q)):=rfl
theorem JY:wE C ar (n+1) (.any a) ρ S Q=(aO (ai a) (wTm C ar n a) (wE C ar n a) ρ S (fun ds S1=>Ok (mK false ds S1) Q) (fun d S1=>Ok (au mK d S1) Q)):=rfl
theorem A9:wE C ar (n+1) (.tupOf a) ρ S Q=(aO (ai a) (wTm C ar n a) (wE C ar n a) ρ S (fun ds S1=>Ok (iS false ds S1) Q) (fun d S1=>Ok (au iS d S1) Q)):=rfl
theorem JZ:wE C ar (n+1) (.mxL a) ρ S Q=(aO (ai a) (wTm C ar n a) (wE C ar n a) ρ S (fun ds S1=>Ok (jV false ds S1) Q) (fun d S1=>Ok (au jV d S1) Q)):=rfl
theorem xI:wE C ar (n+1) (.listOf a) ρ S Q=(aO (ai a) (wTm C ar n a) (wE C ar n a) ρ S (fun ds S1=>Q (.ref S1.length) (S1++[.lst ds])) (fun d S1=>Ok ((al d S1).map fun r=>(r.2,S1)) fun ds S1=>Q (.ref S1.length) (S1++[.lst ds]))):=rfl
theorem Ba:wE C ar (n+1) (.listR a) ρ S Q=(wE C ar n a ρ S fun d S1=>∃i:Nat,d = .int i/\i<=1000/\Q (.ref S1.length) (S1++[.lst ((Zj i).map fun j=>.int (Int.ofNat j))])):=rfl
theorem J0:wE C ar (n+1) (.srt a) ρ S Q=(aO (ai a) (wTm C ar n a) (wE C ar n a) ρ S (fun ds S1=>∃es,cI false ds=some es/\Q (.ref S1.length) (S1++[.lst es])) (fun d S1=>∃r es,al d S1=some r/\cI r.1 r.2=some es/\Q (.ref S1.length) (S1++[.lst es]))):=rfl
theorem Bb:wE C ar (n+1) (.intOf a) ρ S Q=(wE C ar n a ρ S fun d S1=>Ok (zr d S1) Q):=rfl
theorem Nz:wE C ar (n+1) (.mx a b) ρ S Q=(wA C ar n [a,b] ρ S fun ds S1=>w2 AX ds S1 Q):=rfl
theorem NA:wE C ar (n+1) (.mn a b) ρ S Q=(wA C ar n [a,b] ρ S fun ds S1=>w2 AY ds S1 Q):=rfl
theorem J1:wE C ar (n+1) (.rep a) ρ S Q=(wE C ar n a ρ S fun d S1=>Ok (jx d S1) Q):=rfl
theorem Em:wE C ar (n+1) (.comp own a (⟨tg,it,cd⟩::rest)) ρ S Q=(wI C ar n it ρ S fun nx S1=>rF own [] fun r=>rG ρ r fun ρ'=>wFt tg ρ' (Ok (bb nx tg (cnd (evT C ar n) cd (gw C ar n a rest)) ρ' LF 0 S1) fun es S2=>es.length<=100000/\Q (.ref S2.length) (S2++[.lst es]))):=rfl
theorem J2:wE C ar (n+1) (.app a b) ρ S Q=(wE C ar n a ρ S fun d S1=>dL d S1=true/\wA C ar n [b] ρ S1 fun as S2=>Ok (tG d as S2) Q):=rfl
theorem Bc:wE C ar (n+1) (.popAt a b) ρ S Q=(wE C ar n a ρ S fun d S1=>dL d S1=true/\wA C ar n [b] ρ S1 fun as S2=>Ok (eC d as S2) Q):=rfl
theorem J3:wE C ar (n+1) (.ins a b e) ρ S Q=(wE C ar n a ρ S fun d S1=>dL d S1=true/\wA C ar n [b,e] ρ S1 fun as S2=>Ok (tJ d as S2) Q):=rfl
theorem J4:wE C ar (n+1) (.cnt a b) ρ S Q=(wE C ar n a ρ S fun d S1=>isTup d=true/\wA C ar n [b] ρ S1 fun as S2=>Ok (tH d as S2) Q):=rfl
theorem Ph:wA C ar (n+1) [] ρ S Ql=Ql [] S:=rfl
theorem Pj:wA C ar (n+1) (a::es) ρ S Ql=(wE C ar n a ρ S fun d S1=>wA C ar n es ρ S1 fun ds S2=>Ql (d::ds) S2):=rfl
theorem J5:wTm C ar (n+1) (.lst es) ρ S Ql=eP 60 es (wA C ar n es ρ S Ql):=rfl
theorem xJ:wTm C ar (n+1) (.listOf a) ρ S Ql=(aO (ai a) (wTm C ar n a) (wE C ar n a) ρ S (fun ds S1=>Ql ds S1) (fun d S1=>Ok ((al d S1).map fun r=>(r.2,S1)) Ql)):=rfl
theorem Be:wTm C ar (n+1) (.listR a) ρ S Ql=(wE C ar n a ρ S fun d S1=>∃i:Nat,d = .int i/\i<=1000/\Ql ((Zj i).map fun j=>.int (Int.ofNat j)) S1):=rfl
theorem J6:wTm C ar (n+1) (.srt a) ρ S Ql=(aO (ai a) (wTm C ar n a) (wE C ar n a) ρ S (fun ds S1=>∃es,cI false ds=some es/\Ql es S1) (fun d S1=>∃r es,al d S1=some r/\cI r.1 r.2=some es/\Ql es S1)):=rfl
theorem En:wTm C ar (n+1) (.comp own a (⟨tg,it,cd⟩::rest)) ρ S Ql=(wI C ar n it ρ S fun nx S1=>rF own [] fun r=>rG ρ r fun ρ'=>wFt tg ρ' (Ok (bb nx tg (cnd (evT C ar n) cd (gw C ar n a rest)) ρ' LF 0 S1) fun es S2=>es.length<=100000/\Ql es S2)):=rfl
theorem J7:wI C ar (n+1) (.val a) ρ S Qn=(aO (ai a) (wTm C ar n a) (wE C ar n a) ρ S (fun ds S1=>Qn (nxL ds) S1) (fun d S1=>AS d S1 Qn)):=rfl
theorem NC:wI C ar (n+1) (.en a) ρ S Qn=(aO (ai a) (wTm C ar n a) (wE C ar n a) ρ S (fun ds S1=>Qn (xg ds) S1) (fun d S1=>AU d S1 Qn)):=rfl
theorem ND:wI C ar (n+1) (.r1 a) ρ S Qn=(wE C ar n a ρ S fun d S1=>cX d fun j=>lim j=true/\Qn (nxR 0 j.toNat) S1):=rfl
theorem NF:wI C ar (n+1) (.r2 a b) ρ S Qn=(wE C ar n a ρ S fun d S1=>wE C ar n b ρ S1 fun e S2=>cX d fun i=>cX e fun j=>(lim i=true/\lim j=true)/\Qn (nxR i (j - i).toNat) S2):=rfl
theorem J8:wT C ar (n+1) (.cmp c a b) ρ S Qt=(wE C ar n a ρ S fun x S1=>wE C ar n b ρ S1 fun y S2=>wCm c x y S2 fun d S3=>wBl d fun t=>Qt t S3):=rfl
theorem J9:wT C ar (n+1) (.chn c p a b e) ρ S Qt=(wE C ar n a ρ S fun x S1=>wE C ar n b ρ S1 fun y S2=>wCm c x y S2 fun r S3=>wBl r fun t=>wIf t (wE C ar n e ρ S3 fun z S4=>wCm p y z S4 fun d S5=>wBl d fun t=>Qt t S5) (wBl (.bl false) fun t=>Qt t S3)):=rfl
theorem Ka:wT C ar (n+1) (.and a b) ρ S Qt=(wT C ar n a ρ S fun t S1=>wIf t (wT C ar n b ρ S1 Qt) (Qt false S1)):=rfl
theorem NG:wT C ar (n+1) (.or a b) ρ S Qt=(wT C ar n a ρ S fun t S1=>wIf t (Qt true S1) (wT C ar n b ρ S1 Qt)):=rfl
theorem Kb:wT C ar (n+1) (.not a) ρ S Qt=(wT C ar n a ρ S fun t S1=>Qt (!t) S1):=rfl
theorem NH:wT C ar (n+1) (.bl t) ρ S Qt=(wE C ar n (.bl t) ρ S fun d S1=>aD d S1 Qt):=rfl
theorem Kc:wT C ar (n+1) (.var m) ρ S Qt=(wE C ar n (.var m) ρ S fun d S1=>aD d S1 Qt):=rfl
theorem Eo:wT C ar (n+1) (.call f es) ρ S Qt=(wE C ar n (.call f es) ρ S fun d S1=>aD d S1 Qt):=rfl
theorem Ep:wT C ar (n+1) (.inst ty a) ρ S Qt=(wE C ar n (.inst ty a) ρ S fun d S1=>aD d S1 Qt):=rfl
theorem Kd:wT C ar (n+1) (.all a) ρ S Qt=(wE C ar n (.all a) ρ S fun d S1=>aD d S1 Qt):=rfl
theorem Ke:wT C ar (n+1) (.any a) ρ S Qt=(wE C ar n (.any a) ρ S fun d S1=>aD d S1 Qt):=rfl
theorem Kf:wT C ar (n+1) (.len a) ρ S Qt=(wE C ar n (.len a) ρ S fun d S1=>aD d S1 Qt):=rfl
theorem NI:wT C ar (n+1) (.ix a b) ρ S Qt=(wE C ar n (.ix a b) ρ S fun d S1=>aD d S1 Qt):=rfl
theorem Kg:wT C ar (n+1) (.lst es) ρ S Qt=(wE C ar n (.lst es) ρ S fun d S1=>aD d S1 Qt):=rfl
theorem Kh:wT C ar (n+1) (.tup es) ρ S Qt=(wE C ar n (.tup es) ρ S fun d S1=>aD d S1 Qt):=rfl
theorem Pk:wCl C ar n a [] ρ S Ql=(wE C ar n a ρ S fun d S1=>Ql [d] S1):=rfl
theorem Pl:wCl C ar n a (⟨tg,it,cd⟩::rest) ρ S Ql=(wFt tg ρ (wI C ar n it ρ S fun nx S1=>Ok (bb nx tg (cnd (evT C ar n) cd (gw C ar n a rest)) ρ LF 0 S1) Ql)):=rfl
theorem Pn:Ea (wT C ar n) none w ρ S Ql=w ρ S Ql:=rfl
theorem Po:Ea (wT C ar n) (some a) w ρ S Ql=(wT C ar n a ρ S fun t S1=>wIf t (w ρ S1 Ql) (Ql [] S1)):=rfl
theorem Ki:wS C ar (n+1) (.asg tg a) ρ S Qs=(wE C ar n a ρ S fun d S1=>wBd tg d ρ fun ρ1=>Qs .nx ρ1 S1):=rfl
theorem Er:wS C ar (n+1) (.setI a b e) ρ S Qs=(wE C ar n a ρ S fun x S1=>wE C ar n b ρ S1 fun y S2=>wE C ar n e ρ S2 fun z S3=>∃S4,dM y z x S3=some S4/\Qs .nx ρ S4):=rfl
theorem Kj{f g:CE}:wS C ar (n+1) (.swp e a b f g) ρ S Qs=(wE C ar n e ρ S fun d S1=>∃s t,d = .tup [s,t]/\wE C ar n a ρ S1 fun x S2=>wE C ar n b ρ S2 fun y S3=>∃S4,dM x y s S3=some S4/\wE C ar n f ρ S4 fun z S5=>wE C ar n g ρ S5 fun w S6=>∃S7,dM z w t S6=some S7/\Qs .nx ρ S7):=rfl
theorem NJ:wS C ar (n+1) (.ex a) ρ S Qs=(wE C ar n a ρ S fun _ S1=>Qs .nx ρ S1):=rfl
theorem Kk:wS C ar (n+1) (.ret a) ρ S Qs=(wE C ar n a ρ S fun d S1=>Qs (.rt d) ρ S1):=rfl
theorem Kl:wS C ar (n+1) (.ifs a sa sb) ρ S Qs=(wT C ar n a ρ S fun t S1=>wIf t (rW (wSs C ar n sa) ρ S1 Qs) (rW (wSs C ar n sb) ρ S1 Qs)):=rfl
theorem Km:wS C ar (n+1) (.for_ tg it sa) ρ S Qs=(wI C ar n it ρ S fun nx S1=>OkS (dN nx tg (fc C ar n sa) LF 0 ρ S1) Qs):=rfl
theorem Kn:wS C ar (n+1) .cnt ρ S Qs=Qs .ct ρ S:=rfl
theorem NK:wNx ws Qs .nx ρ S=rW ws ρ S Qs:=rfl
theorem NL:wNx ws Qs (.rt d) ρ S=Qs (.rt d) ρ S:=rfl
theorem NN:wNx ws Qs .bk ρ S=Qs .bk ρ S:=rfl
theorem NP:wNx ws Qs .ct ρ S=Qs .ct ρ S:=rfl
theorem Ko:wIf (true && t) A B=wIf t A B:=rfl
theorem Kq:wIf (false && t) A B=B:=rfl
theorem Kr:wIf (true || t) A B=A:=rfl
theorem Es:wIf (false || t) A B=wIf t A B:=rfl
theorem Et:wIf (!(true && t)) A B=wIf (!t) A B:=rfl
theorem Eu:wIf (!(false && t)) A B=A:=rfl
theorem Ew:wIf (!(true || t)) A B=B:=rfl
theorem Ex:wIf (!(false || t)) A B=wIf (!t) A B:=rfl
theorem NQ:wIf true A B=A:=rfl
theorem NR:wIf false A B=B:=rfl
theorem Ks:wIf (!true) A B=B:=rfl
theorem Kt:wIf (!false) A B=A:=rfl
theorem NS:wBl (.bl t) Qb=Qb t:=rfl
theorem Ku:cX (.int i) Qi=Qi i:=rfl
theorem Kv:uc (some d::ρ) 0 Qd=Qd d:=rfl
theorem Kw:uc (od::ρ) (n+1) Qd=uc ρ n Qd:=rfl
theorem NT:wFr (none::ρ) 0 A=A:=rfl
theorem NU:wFr (od::ρ) (n+1) A=wFr ρ n A:=rfl
theorem Kx:rE [] ρ A=A:=rfl
theorem Ky:rE (.name m::ts) ρ A=wFr ρ m (rE ts ρ A):=rfl
theorem NV:wFt (.name m) ρ A=wFr ρ m A:=rfl
theorem NX:wFt (.tup ts) ρ A=rE ts ρ A:=rfl
theorem Kz:rF [] ρ Qr=Qr ρ:=rfl
theorem KA:rF (s::own) ρ Qr=rF own (none::ρ) Qr:=rfl
theorem KB:rG [] ρ Qr=Qr ρ:=rfl
theorem KC:rG (od::ρ) ρ2 Qr=rG ρ ρ2 fun r=>Qr (od::r):=rfl
theorem NY:eP (n+1) [] A=A:=rfl
theorem NZ:eP (n+1) (a::es) A=eP n es A:=rfl
theorem N2:wNm 0 d (od::ρ) Qr=Qr (some d::ρ):=rfl
theorem Oa:wNm (n+1) d (od::ρ) Qr=wNm n d ρ fun r=>Qr (od::r):=rfl
theorem Oc:wBs [] [] ρ Qr=Qr ρ:=rfl
theorem Od:wBs (.name m::ts) (d::ds) ρ Qr=wNm m d ρ fun r=>wBs ts ds r Qr:=rfl
theorem Oe:wBd (.name m) d ρ Qr=wNm m d ρ Qr:=rfl
theorem Og:wBd (.tup ts) d ρ Qr=wTp ts d ρ Qr:=rfl
theorem Oh:wTp ts (.tup ds) ρ Qr=wBs ts ds ρ Qr:=rfl
theorem Ey:wII .add i j S Q=Q (.int (i+j)) S:=rfl
theorem Ez:wII .sub i j S Q=Q (.int (i - j)) S:=rfl
theorem EA:wII .mul i j S Q=(hX i j=true/\Q (.int (i * j)) S):=rfl
theorem EB:wII .mod i j S Q=(0 < j/\Q (.int (i % j)) S):=rfl
theorem Bf:wII .fdiv i j S Q=((0 < j/\j < 1237940039285380274899124224)/\Q (.int (i / j)) S):=rfl
theorem EC:wII .pow i j S Q=((0<=j/\j<=1000000/\i.natAbs < 2 ^ 64)/\Q (.int (i ^ j.toNat)) S):=rfl
theorem ED:wTT .add xs ys S Q=(xs.length+ys.length<=1000/\Q (.tup (xs++ys)) S):=rfl
theorem EF:AN o i (.int j) S Q=wII o i j S Q:=rfl
theorem EG:vQ o xs (.tup ys) S Q=wTT o xs ys S Q:=rfl
theorem EH:vQ o xs (.int j) S Q=Ok (bC o (.tup xs) (.int j) S) Q:=rfl
theorem KD:ud o (.int i) y S Q=AN o i y S Q:=rfl
theorem KF:ud o (.tup xs) y S Q=vQ o xs y S Q:=rfl
theorem KG:ud o (.ref n) y S Q=Ok (bC o (.ref n) y S) Q:=rfl
theorem KH:ud o (.str s) y S Q=Ok (bC o (.str s) y S) Q:=rfl
theorem KI:wCI .eq i j S Q=Q (.bl (decide (i=j))) S:=rfl
theorem KJ:wCm .eq x y S Q=wCx .eq x y S Q:=rfl
theorem KK:wCI .ne i j S Q=Q (.bl (!decide (i=j))) S:=rfl
theorem KL:wCm .ne x y S Q=wCx .ne x y S Q:=rfl
theorem KM:wCI .lt i j S Q=Q (.bl (decide (i < j))) S:=rfl
theorem KN:wCm .lt x y S Q=wCx .lt x y S Q:=rfl
theorem KO:wCI .le i j S Q=Q (.bl (decide (i<=j))) S:=rfl
theorem KP:wCm .le x y S Q=wCx .le x y S Q:=rfl
theorem KQ:wCI .gt i j S Q=Q (.bl (decide (j < i))) S:=rfl
theorem KR:wCm .gt x y S Q=wCx .gt x y S Q:=rfl
theorem KS:wCI .ge i j S Q=Q (.bl (decide (j<=i))) S:=rfl
theorem KU:wCm .ge x y S Q=wCx .ge x y S Q:=rfl
theorem KW:wCm .is x y S Q=Ok (aw .is x y S) Q:=rfl
theorem xK:wCm .isnot x y S Q=Ok (aw .isnot x y S) Q:=rfl
theorem Bg:wCm .isin x y S Q=Ok (aw .isin x y S) Q:=rfl
theorem xL:wCm .notin x y S Q=Ok (aw .notin x y S) Q:=rfl
theorem Oi:wCx c (.int i) y S Q=Jw c i y S Q:=rfl
theorem Oj:wCx c (.tup xs) y S Q=xH c xs y S Q:=rfl
theorem Ol:wCx c .non y S Q=Ok (aw c .non y S) Q:=rfl
theorem Om:wCx c (.bl t) y S Q=Ok (aw c (.bl t) y S) Q:=rfl
theorem Oo:wCx c (.str s) y S Q=Ok (aw c (.str s) y S) Q:=rfl
theorem Op:wCx c (.ref n) y S Q=Ok (aw c (.ref n) y S) Q:=rfl
theorem KY:Jw c i (.int j) S Q=wCI c i j S Q:=rfl
theorem KZ:xH .eq xs (.tup []) S Q=Q (.bl xs.isEmpty) S:=rfl
theorem K0:xH .ne xs (.tup []) S Q=Q (.bl (!xs.isEmpty)) S:=rfl
theorem EI:xH .eq xs (.tup (y::ys)) S Q=Ok (aw .eq (.tup xs) (.tup (y::ys)) S) Q:=rfl
theorem EJ:xH .ne xs (.tup (y::ys)) S Q=Ok (aw .ne (.tup xs) (.tup (y::ys)) S) Q:=rfl
theorem K1:ue l h (.tup ds) S Q=Q (.tup (gu ds l h)) S:=rfl
theorem K2:ue l h (.ref n) S Q=Ok (slS l h (.ref n) S) Q:=rfl
theorem K3:AS (.tup ds) S Qn=Qn (nxL ds) S:=rfl
theorem K4:AS (.ref n) S Qn=((am S n).isSome=true/\Qn (nxS n) S):=rfl
theorem K5:AU (.tup ds) S Qn=Qn (xg ds) S:=rfl
theorem K6:AU (.ref n) S Qn=((am S n).isSome=true/\Qn (xh n) S):=rfl
theorem EK:aD (.bl t) S Qt=Qt t S:=rfl
theorem EL:aD (.tup ds) S Qt=Qt (!ds.isEmpty) S:=rfl
theorem EM:aD (.int i) S Qt=Qt (i != 0) S:=rfl
theorem EN:aD (.ref n) S Qt=Ok (kL (.ref n) S) Qt:=rfl
theorem Pp:w2 g [x,y] S Q=g x y S Q:=rfl
theorem K7:AX (.int i) (.int j) S Q=Q (.int (if j > i then j else i)) S:=rfl
theorem K8:AY (.int i) (.int j) S Q=Q (.int (if j < i then j else i)) S:=rfl
theorem EO:aO (ai (.lst es)) wl wv ρ S Ql Q=wl ρ S Ql:=rfl
theorem uj:aO (ai (.listOf a)) wl wv ρ S Ql Q=wl ρ S Ql:=rfl
theorem xM:aO (ai (.listR a)) wl wv ρ S Ql Q=wl ρ S Ql:=rfl
theorem ER:aO (ai (.srt a)) wl wv ρ S Ql Q=wl ρ S Ql:=rfl
theorem Bh:aO (ai (.comp own a rest)) wl wv ρ S Ql Q=wl ρ S Ql:=rfl
theorem ES:aO (ai (.non)) wl wv ρ S Ql Q=wv ρ S Q:=rfl
theorem K9:aO (ai (.bl t)) wl wv ρ S Ql Q=wv ρ S Q:=rfl
theorem ET:aO (ai (.int i)) wl wv ρ S Ql Q=wv ρ S Q:=rfl
theorem EU:aO (ai (.str s)) wl wv ρ S Ql Q=wv ρ S Q:=rfl
theorem EV:aO (ai (.var m)) wl wv ρ S Ql Q=wv ρ S Q:=rfl
theorem EW:aO (ai (.con m i)) wl wv ρ S Ql Q=wv ρ S Q:=rfl
theorem EX:aO (ai (.tup es)) wl wv ρ S Ql Q=wv ρ S Q:=rfl
theorem Bi:aO (ai (.dic0)) wl wv ρ S Ql Q=wv ρ S Q:=rfl
theorem Bj:aO (ai (.dic1 i j)) wl wv ρ S Ql Q=wv ρ S Q:=rfl
theorem EY:aO (ai (.bin o a b)) wl wv ρ S Ql Q=wv ρ S Q:=rfl
theorem EZ:aO (ai (.neg a)) wl wv ρ S Ql Q=wv ρ S Q:=rfl
theorem E5:aO (ai (.cmp c a b)) wl wv ρ S Ql Q=wv ρ S Q:=rfl
theorem E6:aO (ai (.chn c p a b e)) wl wv ρ S Ql Q=wv ρ S Q:=rfl
theorem E7:aO (ai (.and a b)) wl wv ρ S Ql Q=wv ρ S Q:=rfl
theorem La:aO (ai (.or a b)) wl wv ρ S Ql Q=wv ρ S Q:=rfl
theorem E8:aO (ai (.not a)) wl wv ρ S Ql Q=wv ρ S Q:=rfl
theorem Lb:aO (ai (.ix a b)) wl wv ρ S Ql Q=wv ρ S Q:=rfl
theorem Lc:aO (ai (.sl a oa ob)) wl wv ρ S Ql Q=wv ρ S Q:=rfl
theorem Bk:aO (ai (.call f es)) wl wv ρ S Ql Q=wv ρ S Q:=rfl
theorem Bl:aO (ai (.inst ty a)) wl wv ρ S Ql Q=wv ρ S Q:=rfl
theorem E9:aO (ai (.len a)) wl wv ρ S Ql Q=wv ρ S Q:=rfl
theorem Fa:aO (ai (.all a)) wl wv ρ S Ql Q=wv ρ S Q:=rfl
theorem Fb:aO (ai (.any a)) wl wv ρ S Ql Q=wv ρ S Q:=rfl
theorem xN:aO (ai (.tupOf a)) wl wv ρ S Ql Q=wv ρ S Q:=rfl
theorem Fc:aO (ai (.mxL a)) wl wv ρ S Ql Q=wv ρ S Q:=rfl
theorem xO:aO (ai (.intOf a)) wl wv ρ S Ql Q=wv ρ S Q:=rfl
theorem Ld:aO (ai (.mx a b)) wl wv ρ S Ql Q=wv ρ S Q:=rfl
theorem Lf:aO (ai (.mn a b)) wl wv ρ S Ql Q=wv ρ S Q:=rfl
theorem Fd:aO (ai (.rep a)) wl wv ρ S Ql Q=wv ρ S Q:=rfl
theorem Fe:aO (ai (.app a b)) wl wv ρ S Ql Q=wv ρ S Q:=rfl
theorem xP:aO (ai (.popAt a b)) wl wv ρ S Ql Q=wv ρ S Q:=rfl
theorem Ff:aO (ai (.ins a b e)) wl wv ρ S Ql Q=wv ρ S Q:=rfl
theorem Fg:aO (ai (.cnt a b)) wl wv ρ S Ql Q=wv ρ S Q:=rfl
theorem aa{α:Type}{z:Option (α × Sto)}{r:α}{S2:Sto}{K:α->Sto->Prop}(e:z=some (r,S2))(q:K r S2):Ok z K:=⟨r,S2,e,q⟩
theorem dX(h1:t=true->A)(h2:t=false->B):wIf t A B:=by
 cases t with
 |true=>exact h1 rfl
 |false=>exact h2 rfl
end
end Ev
local macro_rules |`(tactic|k_go)=>`(tactic|dsimp only[↓Ev.JJ,↓Ev.Nw,↓Ev.JK,↓Ev.JL,↓Ev.JM,↓Ev.JN,↓Ev.JO,↓Ev.JP,↓Ev.Ee,↓Ev.Ef,↓Ev.JQ,↓Ev.JR,↓Ev.JS,↓Ev.JT,↓Ev.JU,↓Ev.Nx,↓Ev.JV,↓Ev.Ny,↓Ev.Eg,↓Ev.Eh,↓Ev.Ei,↓Ev.Ej,↓Ev.Ek,↓Ev.El,↓Ev.JW,↓Ev.JX,↓Ev.JY,↓Ev.A9,↓Ev.JZ,↓Ev.xI,↓Ev.Ba,↓Ev.J0,↓Ev.Bb,↓Ev.Nz,↓Ev.NA,↓Ev.J1,↓Ev.Em,↓Ev.J2,↓Ev.Bc,↓Ev.J3,↓Ev.J4,↓Ev.Ph,↓Ev.Pj,↓Ev.J5,↓Ev.xJ,↓Ev.Be,↓Ev.J6,↓Ev.En,↓Ev.J7,↓Ev.NC,↓Ev.ND,↓Ev.NF,↓Ev.J8,↓Ev.J9,↓Ev.Ka,↓Ev.NG,↓Ev.Kb,↓Ev.NH,↓Ev.Kc,↓Ev.Eo,↓Ev.Ep,↓Ev.Kd,↓Ev.Ke,↓Ev.Kf,↓Ev.NI,↓Ev.Kg,↓Ev.Kh,↓Ev.Pk,↓Ev.Pl,↓Ev.Pn,↓Ev.Po,↓Ev.Ki,↓Ev.Er,↓Ev.Kj,↓Ev.NJ,↓Ev.Kk,↓Ev.Kl,↓Ev.Km,↓Ev.Kn,↓Ev.NK,↓Ev.NL,↓Ev.NN,↓Ev.NP,↓Ev.Ko,↓Ev.Kq,↓Ev.Kr,↓Ev.Es,↓Ev.Et,↓Ev.Eu,↓Ev.Ew,↓Ev.Ex,↓Ev.NQ,↓Ev.NR,↓Ev.Ks,↓Ev.Kt,↓Ev.NS,↓Ev.Ku,↓Ev.Kv,↓Ev.Kw,↓Ev.NT,↓Ev.NU,↓Ev.Kx,↓Ev.Ky,↓Ev.NV,↓Ev.NX,↓Ev.Kz,↓Ev.KA,↓Ev.KB,↓Ev.KC,↓Ev.NY,↓Ev.NZ,↓Ev.N2,↓Ev.Oa,↓Ev.Oc,↓Ev.Od,↓Ev.Oe,↓Ev.Og,↓Ev.Oh,↓Ev.Ey,↓Ev.Ez,↓Ev.EA,↓Ev.EB,↓Ev.Bf,↓Ev.EC,↓Ev.ED,↓Ev.EF,↓Ev.EG,↓Ev.EH,↓Ev.KD,↓Ev.KF,↓Ev.KG,↓Ev.KH,↓Ev.KI,↓Ev.KJ,↓Ev.KK,↓Ev.KL,↓Ev.KM,↓Ev.KN,↓Ev.KO,↓Ev.KP,↓Ev.KQ,↓Ev.KR,↓Ev.KS,↓Ev.KU,↓Ev.KW,↓Ev.xK,↓Ev.Bg,↓Ev.xL,↓Ev.Oi,↓Ev.Oj,↓Ev.Ol,↓Ev.Om,↓Ev.Oo,↓Ev.Op,↓Ev.KY,↓Ev.KZ,↓Ev.K0,↓Ev.EI,↓Ev.EJ,↓Ev.K1,↓Ev.K2,↓Ev.K3,↓Ev.K4,↓Ev.K5,↓Ev.K6,↓Ev.EK,↓Ev.EL,↓Ev.EM,↓Ev.EN,↓Ev.Pp,↓Ev.K7,↓Ev.K8,↓Ev.EO,↓Ev.uj,↓Ev.xM,↓Ev.ER,↓Ev.Bh,↓Ev.ES,↓Ev.K9,↓Ev.ET,↓Ev.EU,↓Ev.EV,↓Ev.EW,↓Ev.EX,↓Ev.Bi,↓Ev.Bj,↓Ev.EY,↓Ev.EZ,↓Ev.E5,↓Ev.E6,↓Ev.E7,↓Ev.La,↓Ev.E8,↓Ev.Lb,↓Ev.Lc,↓Ev.Bk,↓Ev.Bl,↓Ev.E9,↓Ev.Fa,↓Ev.Fb,↓Ev.xN,↓Ev.Fc,↓Ev.xO,↓Ev.Ld,↓Ev.Lf,↓Ev.Fd,↓Ev.Fe,↓Ev.xP,↓Ev.Ff,↓Ev.Fg,↓Ev.IZ,↓Ev.Ja])
local macro_rules |`(tactic|k_is)=>`(tactic|((with_reducible first |refine Ev.ui ?_ |refine Ev.JH ?_ |refine Ev.wcl_ok ?_ |skip);(try dsimp only[List.set_cons_zero,List.set_cons_succ]);(try k_go);(repeat ((with_reducible first |refine Ev.A8 ?_ |refine Ev.Ed ?_);(try k_go)))))
namespace Lw
open PySem Ev
variable {p:Nat} {S:Sto} {k:Nat} {Q:D->Sto->Prop}
theorem mo(h:TD p S t d)(q:Q (.bl (Dw.isW t)) S):Ok (evC ae (k+1) 0 [d] S) Q:=by
 refine aB (d:=gO) (ρ:=[some d]) rfl rfl ?_;dsimp only[gO,lP];k_is;refine aa (kc h) ?_;k_is;cases t <;> first |exact q |(k_is;rw[kc h,ay];exact q)
theorem oj{a b:Int}(h:TD p S t d)(q:Q (.bl (Dw.gK t a b)) S):Ok (evC ae (k+2) 1 [d,.int a,.int b] S) Q:=by
 refine aB (d:=fE) (ρ:=[some d,some (.int a),some (.int b)]) rfl rfl ?_;dsimp only[fE,jA];k_is;refine⟨rfl,mo h ?_⟩;k_is;cases t with
 |int i=>
  obtain rfl:=h.int;dsimp only[Dw.isW];k_is;dsimp only[Dw.gK] at q;cases c:decide (a<=i) with
  |true=>rw[c] at q;exact q
  |false=>rw[c] at q;exact q
 |_=>exact q
theorem xQ(h:TD p S t d)(q:Q (.bl (Dw.gK t 0 9999)) S):Ok (evC ae (k+3) 2 [d] S) Q:=by
 refine aB (d:=fF) (ρ:=[some d]) rfl rfl ?_;dsimp only[fF,jB];k_is;exact⟨rfl,oj h q⟩
theorem rJ{a b:Int}(h:TD p S t d)(q:Q (.bl (Dw.isT t a b)) S):Ok (evC ae (k+1) 3 [d,.int a,.int b] S) Q:=by
 refine aB (d:=gP) (ρ:=[some d,some (.int a),some (.int b)]) rfl rfl ?_;dsimp only[gP,lQ];k_is;refine aa (kc h) ?_;k_is;cases t with
 |tup ts=>
  obtain⟨ds,rfl,hs⟩:=h.tup;rw[show eT Ty.tuple (tyT (Dw.D.tup ts))=true from rfl];k_is;refine aa (Jl hs) ?_;k_is;dsimp only[Dw.isT] at q;cases c:decide (a<=(ts.length:Int)) with
  |true=>rw[c] at q;exact q
  |false=>rw[c] at q;exact q
 |_=>exact q
theorem ao{f:Int}(h:Pot p S)(h0:0 < f)(h1:f < 1237940039285380274899124224)(q:∀ (r:Int) S',0<=r->r < f->Dr p S S'->Q (.int r) S'):Ok (evC ae (k+1) 37 [.ref p,.int f] S) Q:=by
 obtain⟨n,e⟩:=h;have lt:p < S.length:=(Zc.mp e).1;refine aB (d:=gU) (ρ:=[some (.ref p),some (.int f),none]) rfl rfl ?_;dsimp only[gU,lX];k_is;have ix:ixS (.ref p) (.int 0) S=some (.int n,S):=by simp only[ixS,al,am,e];rfl
 refine aa ix ?_;k_is;refine⟨h0,?_⟩;k_is;refine aa ix ?_;k_is;refine⟨⟨h0,h1⟩,?_⟩;k_is;refine⟨S.set p (.lst [.int (n / f)]),by simp only[dM,e];rfl,?_⟩;exact q _ _ (X1 _ (by omega)) (Xx _ h0) ⟨Jp,_,gZ lt⟩
theorem Fh{c:Nat}{ns:List Int}(h:S[0]?=some (.frz (ns.map D.int)))(q:∀i:Int,Q (.int i) S):Ok (evC ae (k+1) 35 [.ref 0,.int c] S) Q:=by
 refine aB (d:=dD) (ρ:=[some (.ref 0),some (.int c)]) rfl rfl ?_;dsimp only[dD,gD];k_is;have ln:au b7 (.ref 0) S=some (.int ns.length,S):=by simp only[au,al,am,h,Zr,b7,Za]
 refine aa ln ?_;k_is;refine dX (fun hc=>?_) fun hc=>?_
 ·k_is;have hc':=of_decide_eq_true hc;obtain⟨d,e1,e2⟩:=Jr (ds:=ns.map D.int) (i:=c) (by omega) (by rw[Za];omega);have ix:ixS (.ref 0) (.int c) S=some (d,S):=by simp only[ixS,al,am,h,Zr,e1]
  refine aa ix ?_;rw[Zn] at e2;cases hn:ns[(c:Int).toNat]? with
  |none=>rw[hn] at e2;cases e2
  |some i=>rw[hn] at e2;cases e2;exact q i
 ·k_is;exact q 0
theorem Lg{c:Int}(q:∀n:Int,Q (.ref S.length) (S++[.lst [.int n]])):Ok (evC ae (k+1) 36 [.int c] S) Q:=by
 refine aB (d:=jf) (ρ:=[some (.int c),none,none,none]) rfl rfl ?_;dsimp only[jf,nY];k_is;refine⟨⟨by decide,by decide,by decide⟩,?_⟩;k_is;refine dX (fun _=>?_) fun _=>?_
 ·k_is;refine⟨⟨by decide,by decide,by decide⟩,?_⟩;k_is;exact q _
 ·k_is;refine⟨by decide,?_⟩;refine eZ (by decide) (fun i ρ S'=>S'=S/\∃n:Int,∃u v,ρ=[some (.int c),some (.int n),u,v]) (fun i ρ S' hi ⟨es,n,u,v,er⟩=>?_) (fun ρ S' ⟨es,n,u,v,er⟩=>?_) ⟨rfl,0,none,none,rfl⟩
  ·subst es er;refine⟨_,rfl,?_⟩;k_is;refine⟨by decide,?_⟩;k_is;refine⟨kg (by decide) (by decide),?_⟩;k_is;refine⟨vM (by decide) (by decide),by decide,?_⟩;k_is;have a1:=X1 ((c % 2147483629+7919 * (0+(i:Int))+1) * 48271) (show(2147483647:Int) ≠ 0 by decide);have a2:=Xx ((c % 2147483629+7919 * (0+(i:Int))+1) * 48271) (show(0:Int) < 2147483647 by decide);refine⟨kg (by omega) (by omega),?_⟩;k_is;refine⟨kg (by decide) (by decide),?_⟩;k_is;refine⟨by decide,?_⟩;k_is;refine⟨vM (by decide) (by decide),?_⟩;k_is;exact⟨rfl,_,_,_,rfl⟩
  ·subst es er;k_is;exact q n
end Lw
namespace Sn
open Ev
structure Sky where
 r:Int
 s:Int
 M:List (List Int)
 H:List (Int × Int)
 ah:Option (Int × Int)
 G:List (List Int)
 F:List Int
noncomputable def gi(G:List (List Int))(i:Int)(k:Nat):Int:=((G[i.toNat]?).getD []).getD k 0
def Ris:Int->List (Int × Int)->Prop
 |_,[]=>True
 |lo,p::l=>lo < p.1/\p.1 < p.2/\Ris p.2 l
section
variable (K:Sky)
noncomputable def jn(g:Int):Int:=gi K.G g 1
noncomputable def gp(a b:Int):Int:=Dw.mg2 K.M a.toNat b.toNat
noncomputable def xR(ah:Option (Int × Int))(k:Int):Int:=match ah with
 |none=>0
 |some p=>p.2+gp K p.1 k
noncomputable def js:List Int:=fq (K.G.map fun g=>g.getD 1 0)
noncomputable def ax(t:Int)(p:Int × Int):Bool:=decide (jn K p.1<=t) && decide (t < p.2 - K.s)
noncomputable def wts(L:List (Int × Int))(t:Int):Nat:=(L.filter (ax K t)).length
noncomputable def dY(L:List (Int × Int))(g m:Int):List Int:=((jn K g::L.map fun p=>jn K p.1).filter fun t=>decide (jn K g<=t) && decide (t < m - K.s))
noncomputable def uk(L:List (Int × Int))(g m:Int):Int:=Mm 0 ((dY K L g m).map fun t=>1+(wts K L t:Int))
noncomputable def g8(L:List (Int × Int))(g m:Int):List Int:=jn K g::(js K).filter fun t=>decide (jn K g < t) && ax K t (g,m)
noncomputable def rK(L:List (Int × Int))(g m:Int):Int:=eB ((g8 K L g m).map fun t=>1+(wts K L t:Int))
noncomputable def rL(L:List (Int × Int))(g m:Int):Bool:=decide (0 < gi K.G g 6) && (ax K (jn K g) (g,m) && decide (gi K.G g 6 < rK K L g m))
noncomputable def dZ(L:List (Int × Int))(g m:Int):Bool:=decide (0 < gi K.G g 6) && decide (gi K.G g 6 < uk K L g m)
end
variable {K:Sky}
theorem pV(h:ns ≠ []):eB ns ∈ ns:=by
 cases ns with
 |nil=>exact absurd rfl h
 |cons n ns=>exact(hZ ns n).1
theorem pW{x:Int}(h:x ∈ ns):x<=eB ns:=by
 cases ns with
 |nil=>simp at h
 |cons n ns=>exact(hZ ns n).2 x h
theorem Bm(hA:A ≠ [])(h:∀x ∈ A,∃y ∈ B,x<=y):eB A<=eB B:=by
 obtain⟨y,hy,hle⟩:=h _ (pV hA);exact Int.le_trans hle (pW hy)
theorem mq{c:Int}(h:ns ≠ []):Mm c ns=eB ns:=by
 cases ns with
 |nil=>exact absurd rfl h
 |cons n ns=>rfl
theorem kh{α:Type}{p q:α->Bool}:∀ {l:List α},(∀x ∈ l,p x=true->q x=true)->(l.filter p).length<=(l.filter q).length
 |[],_=>Ze _
 |a::l,h=>by
  have ih:=kh (l:=l) fun x hx=>h x (Zg _ hx);have h0:=h a Zi;rw[YK,YK];split
  ·rename_i c;rw[if_pos (h0 c),ZD,ZD]
   lia
  ·split
   ·rw[ZD];lia
   ·exact ih
theorem pX{j t:Int}(hj:j<=t):∀ (L:List (Int × Int)),∃u,(u=j\/∃p ∈ L,u=jn K p.1)/\j<=u/\u<=t/\∀p ∈ L,ax K t p=true->jn K p.1<=u
 |[]=>⟨j,.inl rfl,ZW _,hj,fun p hp=>by simp at hp⟩
 |p::L=>by
  obtain⟨u,h1,h2,h3,h4⟩:=pX hj L;by_cases hw:ax K t p=true/\u < jn K p.1
  ·refine⟨jn K p.1,.inr ⟨p,Zi,rfl⟩,by lia,?_,fun q hq hqw=>?_⟩
   ·have:=hw.1;simp only[ax,bAE,decide_eq_true_eq] at this;exact this.1
   ·rcases Zm.mp hq with rfl |hq
    ·exact ZW _
    ·have:=h4 q hq hqw;lia
  ·refine⟨u,?_,h2,h3,fun q hq hqw=>?_⟩
   ·rcases h1 with h1 |⟨q,hq,h1⟩
    ·exact .inl h1
    ·exact .inr ⟨q,Zg _ hq,h1⟩
   ·rcases Zm.mp hq with rfl |hq
    ·by_cases hlt:u < jn K q.1
     ·exact absurd ⟨hqw,hlt⟩ hw
     ·lia
    ·exact h4 q hq hqw
theorem Fi{L:List (Int × Int)}{g m:Int}(h:jn K g < m - K.s)(hL:∀p ∈ L,jn K p.1 ∈ js K):rK K L g m=uk K L g m:=by
 have k0:jn K g ∈ dY K L g m:=by
  unfold dY;rw[ZY];exact⟨Zi,by simp[h]⟩
 have kn:(dY K L g m).map (fun t=>1+(wts K L t:Int)) ≠ []:=fun z=>by
  rw[List.map_eq_nil_iff] at z;rw[z] at k0;simp at k0
 unfold uk rK;rw[mq kn];refine X2 (Bm (by simp[g8]) fun x hx=>?_) (Bm kn fun x hx=>?_)
 ·obtain⟨t,ht,rfl⟩:=ZH.mp hx
  have ht':jn K g<=t/\t < m - K.s:=by
   rcases Zm.mp ht with rfl |ht
   ·exact⟨ZW _,h⟩
   ·have:=(ZY.mp ht).2;simp only[ax,bAE,decide_eq_true_eq] at this;exact⟨this.2.1,this.2.2⟩
  obtain⟨u,h1,h2,h3,h4⟩:=pX (K:=K) ht'.1 L;refine⟨1+(wts K L u:Int),ZH.mpr ⟨u,?_,rfl⟩,?_⟩
  ·unfold dY;refine ZY.mpr ⟨?_,by simp only[bAE,decide_eq_true_eq];lia⟩;rcases h1 with rfl |⟨p,hp,rfl⟩
   ·exact Zi
   ·exact Zg _ (ZH.mpr ⟨p,hp,rfl⟩)
  ·have:wts K L t<=wts K L u:=kh fun p hp hw=>by
    have a:=h4 p hp hw;simp only[ax,bAE,decide_eq_true_eq] at hw ⊢
    lia
   lia
 ·obtain⟨t,ht,rfl⟩:=ZH.mp hx;refine⟨1+(wts K L t:Int),ZH.mpr ⟨t,?_,rfl⟩,ZW _⟩;unfold dY at ht;obtain⟨h1,h2⟩:=ZY.mp ht;simp only[bAE,decide_eq_true_eq] at h2;unfold g8;by_cases e:t=jn K g
  ·rw[e];exact Zi
  ·refine Zg _ (ZY.mpr ⟨?_,by simp only[ax,bAE,decide_eq_true_eq];lia⟩);rcases Zm.mp h1 with rfl |h1
   ·exact absurd rfl e
   ·obtain⟨p,hp,rfl⟩:=ZH.mp h1;exact hL p hp
theorem xS{g m:Int}(h:¬ jn K g < m - K.s):uk K L g m=0:=by
 have:dY K L g m=[]:=by
  unfold dY;rw[List.filter_eq_nil_iff];intro t _;simp only[bAE,decide_eq_true_eq]
  lia
 unfold uk;rw[this];rfl
theorem Fj{g m:Int}(hL:∀p ∈ L,jn K p.1 ∈ js K):rL K L g m=dZ K L g m:=by
 unfold rL dZ;by_cases h:jn K g < m - K.s
 ·rw[Fi h hL];have:ax K (jn K g) (g,m)=true:=by simp only[ax,bAE,decide_eq_true_eq];exact⟨ZW _,h⟩
  rw[this,Xr]
 ·rw[xS h];have:ax K (jn K g) (g,m)=false:=by simp[ax,h]
  rw[this,Xe];by_cases h0:0 < gi K.G g 6
  ·have e:decide (gi K.G g 6 < 0)=false:=by simp;lia
   rw[e]
  ·rw[decide_eq_false h0];rfl
end Sn
namespace Lw
open PySem Ev Sn
variable {p:Nat} {S:Sto} {k:Nat} {Q:D->Sto->Prop}
theorem Bn{ds:List D}{tg:Tg}{b:XS}{ρ:Rho}{Q:Fl->Rho->Sto->Prop}(hl:ds.length<=100000)(I:Nat->Rho->Sto->Prop)
  (step:∀ (i:Nat) d ρ S',ds[i]?=some d->I i ρ S'->∃ρ1,aA tg d ρ=some ρ1/\OkS (b ρ1 S') fun fl ρ2 S2=>match fl with |.nx=>I (i+1) ρ2 S2 |.ct=>I (i+1) ρ2 S2 |.bk=>Q .nx ρ2 S2 |.rt d=>Q (.rt d) ρ2 S2)
  (q:∀ρ S',I ds.length ρ S'->Q .nx ρ S') (h0:I 0 ρ S):OkS (dN (nxL ds) tg b LF 0 ρ S) Q:=by
 refine iz ds.length I (by unfold LF;lia) (fun i ρ S' hi iv=>?_) (fun ρ S' iv=>⟨?_,q ρ S' iv⟩) h0
 ·obtain⟨ρ1,e2,z⟩:=step i ds[i] ρ S' (gEG hi) iv;exact⟨ds[i],ρ1,by show some ds[i]?=_;rw[gEG hi],e2,z⟩
 ·show some ds[ds.length]?=_;rw[ZB (Ze _)]
theorem bu{α:Type}{nx:Nxt}{tg:Tg}{c:XA}{ρ:Rho}{Q:List D->Sto->Prop}(l:List α)(E:α->D)(f:α->List D)(hl:l.length<=1000)(hf:∀a ∈ l,(f a).length<=1)
  (hnx:∀i S',Sm S S'->nx i S'=some ((l[i]?).map E))
  (step:∀ (i:Nat) a S',l[i]?=some a->Sm S S'->∃ρ1,aA tg (E a) ρ=some ρ1/\Ok (c ρ1 S') fun es S1=>es=f a/\Sm S' S1) (q:∀S',Sm S S'->Q (l.flatMap f) S') :
  Ok (bb nx tg c ρ LF 0 S) fun es S2=>es.length<=100000/\Q es S2:=by
 refine(fQ l.length (fun i acc S'=>Sm S S'/\acc=(l.take i).flatMap f) (by unfold LF;lia) (fun i acc S' hi ⟨sm,ea⟩=>?_) (fun acc S' ⟨sm,ea⟩=>?_) ⟨Sm.refl S,by simp⟩).mono fun es S' ⟨sm,ea⟩=>?_
 ·obtain⟨ρ1,e2,es,S1,e3,e4,sm'⟩:=step i l[i] S' (gEG hi) sm;refine⟨E l[i],ρ1,by rw[hnx i S' sm,gEG hi];rfl,e2,es,S1,e3,sm.trans sm',?_⟩;rw[ea,e4,ZL hi,Xm];simp
 ·rw[hnx _ S' sm,ZB (Ze _)];rfl
 ·rw[YC] at ea;subst ea;refine⟨?_,q S' sm⟩
  have:∀m:List α,(∀a ∈ m,(f a).length<=1)->(m.flatMap f).length<=m.length:=fun m=>by
   induction m with
   |nil=>intro _;simp
   |cons a m ih=>
    intro h;rw[YX,Zh,ZD];have:=h a Zi;have:=ih fun b hb=>h b (Zg _ hb)
    lia
  have:=this l hf
  lia
theorem cb{α:Type}{l:List α}{E:α->D}:∀i S',Sm S S'->nxL (l.map E) i S'=some ((l[i]?).map E):=fun i S' _=>by
 show some (l.map E)[i]?=_;rw[Zn]
theorem cV{α:Type}{n:Nat}{l:List α}{E:α->D}(h:S[n]?=some (.lst (l.map E))):∀i S',Sm S S'->nxS n i S'=some ((l[i]?).map E):=fun i S' sm=>by
 show(am S' n).map (fun ds=>ds[i]?)=_;rw[ak (sm _ _ h),Zr,Zn]
theorem bj{α:Type}(l:List α)(f:α->D):(l.flatMap fun a=>[f a])=l.map f:=by
 induction l with
 |nil=>rfl
 |cons a l ih=>rw[YX,ih];rfl
theorem bN{α:Type}(l:List α)(c:α->Bool)(f:α->D):(l.flatMap fun a=>if c a=true then [f a] else [])=(l.filter c).map f:=by
 induction l with
 |nil=>rfl
 |cons a l ih=>
  rw[YX,ih,YK];split <;> rfl
noncomputable def av(r:List Int):D:=.tup (r.map D.int)
noncomputable def ahE:Option (Int × Int)->D
 |none=>.non
 |some q=>.tup [.int q.1,.int q.2]
noncomputable def meE(K:Sky):D:=.tup [.int K.r,.int K.s,.tup (K.M.map av),.tup (K.H.map ac)]
noncomputable def skE(K:Sky):D:=.tup [meE K,ahE K.ah,.tup (K.G.map av),.tup (K.F.map D.int)]
structure Vd(K:Sky):Prop where
 r0:0<=K.r
 r8:K.r<=8
 s0:0<=K.s
 s60:K.s<=60
 m0:1<=K.M.length
 m4:K.M.length<=4
 row:∀r ∈ K.M,r.length=K.M.length
 ris:Ris (-1) K.H
 h4:K.H.length<=4
 ah0:∀q,K.ah=some q->0<=q.1/\q.1 < K.M.length
 g7:K.G.length<=7
 gl:∀g ∈ K.G,g.length=7/\0<=g.getD 0 0/\g.getD 0 0 < K.M.length/\0<=g.getD 2 0
variable {K:Sky}
theorem sk0:ixS (skE K) (.int 0) S=some (meE K,S):=rfl
theorem sk1:ixS (skE K) (.int 1) S=some (ahE K.ah,S):=rfl
theorem sk2:ixS (skE K) (.int 2) S=some (.tup (K.G.map av),S):=rfl
theorem sk3:ixS (skE K) (.int 3) S=some (.tup (K.F.map D.int),S):=rfl
theorem me0:ixS (meE K) (.int 0) S=some (.int K.r,S):=rfl
theorem me1:ixS (meE K) (.int 1) S=some (.int K.s,S):=rfl
theorem me2:ixS (meE K) (.int 2) S=some (.tup (K.M.map av),S):=rfl
theorem me3:ixS (meE K) (.int 3) S=some (.tup (K.H.map ac),S):=rfl
theorem gl7(V:Vd K){g:Int}(h0:0<=g)(h1:g < K.G.length):∃a b c d e f h,K.G[g.toNat]?=some [a,b,c,d,e,f,h]/\gi K.G g 0=a/\gi K.G g 1=b/\gi K.G g 2=c/\gi K.G g 3=d/\gi K.G g 6=h/\0<=a/\a < K.M.length/\0<=c:=by
 have hi:g.toNat < K.G.length:=by lia
 obtain⟨l7,a0,a1,c0⟩:=V.gl K.G[g.toNat] (ZC hi)
 match hr:K.G[g.toNat],l7 with
 |[a,b,c,d,e,f,h],_=>
  have eq:K.G[g.toNat]?=some [a,b,c,d,e,f,h]:=by rw[gEG hi,hr]
  rw[hr] at a0 a1 c0;refine⟨a,b,c,d,e,f,h,eq,?_,?_,?_,?_,?_,a0,a1,c0⟩ <;> (unfold gi;rw[eq];rfl)
theorem mr{i:Int}(h0:0<=i)(h:ds[i.toNat]?=some d):ixS (.tup ds) (.int i) S=some (d,S):=by
 obtain⟨n,rfl⟩:∃n:Nat,i=(n:Int):=⟨i.toNat,by lia⟩;exact yB h
theorem fT{g:Int}(h0:0<=g)(h:K.G[g.toNat]?=some r):ixS (.tup (K.G.map av)) (.int g) S=some (av r,S):=mr h0 (by rw[Zn,h];rfl)
theorem jl(V:Vd K){a b:Int}(a0:0<=a)(a1:a < K.M.length)(b0:0<=b)(b1:b < K.M.length):∃r,ixS (.tup (K.M.map av)) (.int a) S=some (av r,S)/\ixS (av r) (.int b) S=some (.int (gp K a b),S):=by
 have hi:a.toNat < K.M.length:=by lia
 have hr:=V.row K.M[a.toNat] (ZC hi);have hj:b.toNat < K.M[a.toNat].length:=by lia
 refine⟨K.M[a.toNat],mr a0 (by rw[Zn,gEG hi];rfl),mr b0 ?_⟩;rw[Zn,gEG hj];have:gp K a b=K.M[a.toNat][b.toNat]:=by unfold gp Dw.mg2;rw[gEG hi,ZR,gEG hj];rfl
 rw[this];rfl
end Lw
namespace Lw
open PySem Ev Sn L2
variable {p:Nat} {S S':Sto} {k:Nat} {Q:D->Sto->Prop} {K:Sky}
theorem Bo{A B:Prop}(ha:t=true->u=true->A)(hb:(t && u)=false->B):wIf t (wIf u A B) B:=by
 cases t with
 |false=>exact hb rfl
 |true=>cases u with
  |true=>exact ha rfl rfl
  |false=>exact hb rfl
theorem mv{α:Type}{l:List α}{E:α->D}{i:Nat}{d:D}(h:(l.map E)[i]?=some d):∃a,l[i]?=some a/\d=E a:=by
 rw[Zn] at h;cases e:l[i]? with
 |none=>rw[e] at h;cases h
 |some a=>rw[e] at h;cases h;exact⟨a,rfl,rfl⟩
noncomputable def e8(K:Sky)(L:List (Int × Int)):Option (Int × Int):=match L.getLast? with
 |none=>K.ah
 |some p=>some (gi K.G p.1 0,p.2)
def InG(K:Sky)(L:List (Int × Int)):Prop:=∀p ∈ L,0<=p.1/\p.1 < K.G.length
theorem Bp(V:Vd K){n:Nat}(hn:S[n]?=some (.lst (L.map ac)))(hL:InG K L)(q:Q (ahE (e8 K L)) S):Ok (evC ae (k+1) 25 [skE K,.ref n] S) Q:=by
 refine aB (d:=cz) (ρ:=[some (skE K),some (.ref n),none,none]) rfl rfl ?_;dsimp only[cz,eV];k_is;have tr:kL (.ref n) S=some (!(L.map ac).isEmpty,S):=by simp only[kL,ak hn]
 refine aa tr ?_;k_is;rcases List.eq_nil_or_concat L with rfl |⟨L',z,rfl⟩
 ·k_is;exact aa sk1 q
 ·rw[List.concat_eq_append] at hn hL q ⊢;rw[show(!!((L'++[z]).map ac).isEmpty)=false by simp];k_is;have hz:=hL z (by simp);refine aa (vO (ds:=L'.map ac) (e:=ac z) (by rw[hn,Zv];rfl)) ?_;rw[show ac z = .tup [.int z.1,.int z.2] from rfl];k_is;refine aa sk2 ?_;obtain⟨a,b,c,d,e,f,h,eg,e0,_⟩:=gl7 V hz.1 hz.2;refine aa (fT hz.1 eg) (aa (show ixS (av [a,b,c,d,e,f,h]) (.int 0) S=some (.int a,S) from rfl) ?_);k_is
  have:e8 K (L'++[z])=some (a,z.2):=by
   unfold e8;rw[Xj];simp[e0]
  rw[this] at q;exact q
theorem Fk(V:Vd K){a:Option (Int × Int)}{kd:Int}(ha:∀q,a=some q->0<=q.1/\q.1 < K.M.length)(k0:0<=kd)(k1:kd < K.M.length)(q:Q (.int (xR K a kd)) S):Ok (evC ae (k+1) 26 [skE K,ahE a,.int kd] S) Q:=by
 refine aB (d:=je) (ρ:=[some (skE K),some (ahE a),some (.int kd)]) rfl rfl ?_;dsimp only[je,nX];k_is;cases a with
 |none=>exact aa (show aw .is (ahE none) .non S=some (.bl true,S) from rfl) (by k_is;exact q)
 |some z=>
  refine aa (show aw .is (ahE (some z)) .non S=some (.bl false,S) from rfl) ?_;k_is;obtain⟨h0,h1⟩:=ha z rfl;refine aa (show ixS (ahE (some z)) (.int 1) S=some (.int z.2,S) from rfl) ?_;refine aa sk0 (aa me2 (aa (show ixS (ahE (some z)) (.int 0) S=some (.int z.1,S) from rfl) ?_));obtain⟨r,g1,g2⟩:=jl (S:=S) V h0 h1 k0 k1;refine aa g1 (aa g2 ?_);k_is;exact q
theorem mw(V:Vd K){z:Int × Int}{t:Int}(h0:0<=z.1)(h1:z.1 < K.G.length)(q:Q (.bl (ax K t z)) S):Ok (evC ae (k+1) 28 [skE K,ac z,.int t] S) Q:=by
 refine aB (d:=gS) (ρ:=[some (skE K),some (ac z),some (.int t),none,none]) rfl rfl ?_;dsimp only[gS,lW];rw[show ac z = .tup [.int z.1,.int z.2] from rfl];k_is;refine aa sk2 ?_;obtain⟨a,b,c,d,e,f,h,eg,_,e1,_⟩:=gl7 V h0 h1;refine aa (fT h0 eg) (aa (show ixS (av [a,b,c,d,e,f,h]) (.int 1) S=some (.int b,S) from rfl) ?_);k_is;have ew:ax K t z=(decide (b<=t) && decide (t < z.2 - K.s)):=by unfold ax jn;rw[e1]
 rw[ew] at q;cases c1:decide (b<=t) with
 |false=>rw[c1] at q;k_is;exact q
 |true=>
  rw[c1] at q;k_is;refine aa sk0 (aa me1 ?_);k_is;exact q
theorem Bq(V:Vd K){L:List (Int × Int)}{n:Nat}{t:Int}(hn:S[n]?=some (.lst (L.map ac)))(hL:InG K L)(hl:L.length<=1000)(q:∀S',Sm S S'->Q (.int (wts K L t)) S'):Ok (evC ae (k+2) 29 [skE K,.ref n,.int t] S) Q:=by
 refine aB (d:=cB) (ρ:=[some (skE K),some (.ref n),some (.int t)]) rfl rfl ?_;dsimp only[cB,eX];k_is;refine⟨by rw[ak hn];rfl,?_⟩;refine bu L ac (fun z=>if ax K t z=true then [ac z] else []) hl (fun z _=>by split <;> simp) (cV hn) (fun i z S' hz sm=>⟨_,rfl,?_⟩) fun S' sm=>?_
 ·have:=hL z (Zf hz);k_is;refine⟨rfl,mw V this.1 this.2 ?_⟩;k_is;cases ax K t z with
  |true=>k_is;exact⟨rfl,Sm.refl _⟩
  |false=>k_is;exact⟨rfl,Sm.refl _⟩
 ·rw[bN];refine aa (show b7 false ((L.filter (ax K t)).map ac) S'=some (.int (wts K L t),S') by unfold b7 wts;rw[Za]) ?_;k_is;exact q S' sm
theorem xT{x:Int}:dn ((x::xs).map D.int)=none:=by simp only[Zx,dn,kR]
theorem ki:∀ (xs:List Int),jw (xs.map D.int)=some xs
 |[]=>rfl
 |x::xs=>by simp only[Zx,jw,ki xs]
theorem Bs(h:xs.length < 64):cI false (xs.map D.int)=some ((fq xs).map D.int):=by
 unfold cI;rw[if_pos rfl];cases xs with
 |nil=>rfl
 |cons x xs=>
  simp only[tD,xT,ki];rw[if_pos h]
theorem Bt:(js K).length=K.G.length:=by unfold js;rw[(bJ _).length_eq,Za]
theorem rN(V:Vd K)(q:∀S',Sm S S'->S'[Zb S' - 1]?=some (.lst ((js K).map D.int))->Zb S<=Zb S' - 1->Q (.ref (Zb S' - 1)) S'):Ok (evC ae (k+1) 30 [skE K] S) Q:=by
 refine aB (d:=bT) (ρ:=[some (skE K)]) rfl rfl ?_;dsimp only[bT,dj];k_is;refine aa sk2 ?_;k_is;refine bu K.G av (fun g=>[.int (g.getD 1 0)]) (by have:=V.g7;lia) (fun _ _=>Ze _) cb (fun i g S' hg sm=>⟨_,rfl,?_⟩) fun S' sm=>?_
 ·obtain⟨l7,_⟩:=V.gl g (Zf hg)
  match g,l7 with
  |[a,b,c,d,e,f,h],_=>
   k_is;exact aa (show ixS (av [a,b,c,d,e,f,h]) (.int 1) S'=some (.int b,S') from rfl) ⟨rfl,Sm.refl _⟩
 ·rw[bj];refine⟨_,show cI false (K.G.map fun g=>D.int (g.getD 1 0))=some ((js K).map D.int) from ?_,?_⟩
  ·have:=Bs (xs:=K.G.map fun g=>g.getD 1 0) (by rw[Za];have:=V.g7;lia);rw[Z3] at this;exact this
  ·have e:Zb (S'++[Ob.lst ((js K).map D.int)]) - 1=Zb S':=by simp
   have sl:Zb S<=Zb S':=by
    cases hz:decide (Zb S<=Zb S') with
    |true=>exact of_decide_eq_true hz
    |false=>
     exfalso;have hlt:Zb S' < Zb S:=by have:=of_decide_eq_false hz;lia
     have:=sm (Zb S') S[Zb S'] (gEG hlt);rw[ZB (Ze _)] at this;cases this
   have:=q (S'++[Ob.lst ((js K).map D.int)]) (sm.trans (Sm.app _ _)) (by rw[e];exact ag) (by rw[e];exact sl);rw[e] at this;exact this
theorem bK{n:Nat}{i:Int}(hn:S[n]?=some (.lst ds))(h0:0<=i)(h:ds[i.toNat]?=some d):ixS (.ref n) (.int i) S=some (d,S):=by
 obtain⟨j,rfl⟩:∃j:Nat,i=(j:Int):=⟨i.toNat,by lia⟩;rw[Zp] at h;simp only[ixS,al,ak hn,Zr,Ev.oK h]
theorem cL{n:Nat}{j:Nat}(hn:S[n]?=some (.lst ds)):slS none (some (j:Int)) (.ref n) S=some (.ref (Zb S),S++[.lst (ds.take j)]):=by
 have:gu ds none (some (j:Int))=ds.take j:=by
  by_cases h:j<=ds.length
  ·exact AJ ds j h
  ·unfold gu;rw[Dw.yV _ _ (by lia),Zp,XU (by lia)];show(ds.drop 0).take (ds.length - 0)=ds.take j;rw[List.drop_zero,ZZ (by lia),ZZ (by lia)]
 simp only[slS,ak hn,this]
theorem bU{a b:Nat}(ha:S[a]?=some (.lst xs))(hb:S[b]?=some (.lst ys))(hl:xs.length+ys.length<=100000):bC .add (.ref a) (.ref b) S=some (.ref (Zb S),S++[.lst (xs++ys)]):=by
 simp only[bC,jT,HJ,ha,hb];rw[if_pos hl]
theorem cM{n:Nat}(hn:S[n]?=some (.lst ds)):au b7 (.ref n) S=some (.int ds.length,S):=by simp only[au,al,ak hn,Zr,b7]
theorem Bu(h:xs ≠ []):jV false (xs.map D.int) S=some (.int (eB xs),S):=by
 cases xs with
 |nil=>exact absurd rfl h
 |cons x xs=>unfold jV;rw[ki]
theorem Fm(V:Vd K){L:List (Int × Int)}{n j:Nat}{z:Int × Int}(hn:S[n]?=some (.lst (L.map ac)))(hz:L[j]?=some z)(hL:InG K L)(hl:L.length<=100)(q:∀S',Sm S S'->Q (.int (rK K (L.take j) z.1 z.2)) S'):Ok (evC ae (k+3) 34 [skE K,.ref n,.int j,.int (jn K z.1)] S) Q:=by
 refine aB (d:=dC) (ρ:=[some (skE K),some (.ref n),some (.int j),some (.int (jn K z.1)),none,none]) rfl rfl ?_;dsimp only[dC,gC];have hzG:=hL z (Zf hz);k_is;refine aa (cL hn) ?_;k_is;have s1:Sm S (S++[Ob.lst ((L.map ac).take j)]):=Sm.app _ _;have a1:(S++[Ob.lst ((L.map ac).take j)])[Zb S]?=some (Ob.lst ((L.take j).map ac)):=by rw[ag,Yb]
 generalize Zb S=N1 at *;generalize S++[Ob.lst ((L.map ac).take j)]=S1 at *;refine⟨rfl,rN V fun S2 s2 a2 _=>?_⟩;k_is;refine⟨by rw[ak a2];rfl,?_⟩;have hjl:(js K).length<=7:=by rw[Bt];exact V.g7
 refine bu (js K) D.int (fun t=>if (decide (jn K z.1 < t) && ax K t z)=true then [D.int t] else []) (by lia) (fun _ _=>by split <;> simp) (cV a2) (fun i t S' ht sm=>⟨_,rfl,?_⟩) fun S3 s3=>?_
 ·k_is;cases c:decide (jn K z.1 < t) with
  |false=>k_is;exact⟨rfl,Sm.refl _⟩
  |true=>
   k_is;have hn':=sm _ _ (s2 _ _ (s1 _ _ hn));refine aa (bK hn' (by lia) (show(L.map ac)[((j:Nat):Int).toNat]?=some (ac z) by rw[Zp,Zn,hz];rfl)) ?_;refine⟨rfl,mw V hzG.1 hzG.2 ?_⟩;k_is;cases ax K t z with
   |true=>k_is;exact⟨rfl,Sm.refl _⟩
   |false=>k_is;exact⟨rfl,Sm.refl _⟩
 ·rw[bN];k_is;have lt3:Zb S3 < Zb (S3++[Ob.lst (((js K).filter fun t=>decide (jn K z.1 < t) && ax K t z).map D.int)]):=by simp
  have a3:(S3++[Ob.lst (((js K).filter fun t=>decide (jn K z.1 < t) && ax K t z).map D.int)])[Zb S3]?=some (Ob.lst (((js K).filter fun t=>decide (jn K z.1 < t) && ax K t z).map D.int)):=ag;have s4:Sm S3 (S3++[Ob.lst (((js K).filter fun t=>decide (jn K z.1 < t) && ax K t z).map D.int)]):=Sm.app _ _;have lf:((js K).filter fun t=>decide (jn K z.1 < t) && ax K t z).length<=7:=ZF (Xd _ _) hjl;generalize Zb S3=N3 at *;generalize S3++[Ob.lst (((js K).filter fun t=>decide (jn K z.1 < t) && ax K t z).map D.int)]=S4 at *;have s5:Sm S4 (S4++[Ob.lst [D.int (jn K z.1)]]):=Sm.app _ _;refine aa (bU (xs:=[D.int (jn K z.1)]) ag (s5 _ _ a3) (by rw[Za,ZM];lia)) ?_;k_is;have s6:Sm (S4++[Ob.lst [D.int (jn K z.1)]]) (S4++[Ob.lst [D.int (jn K z.1)]]++[Ob.lst ([D.int (jn K z.1)]++((js K).filter fun t=>decide (jn K z.1 < t) && ax K t z).map D.int)]):=Sm.app _ _;have a6:(S4++[Ob.lst [D.int (jn K z.1)]]++[Ob.lst ([D.int (jn K z.1)]++((js K).filter fun t=>decide (jn K z.1 < t) && ax K t z).map D.int)])[Zb (S4++[Ob.lst [D.int (jn K z.1)]])]?=some (Ob.lst ((g8 K (L.take j) z.1 z.2).map D.int)):=ag;refine⟨by rw[ak a6];rfl,?_⟩;have sA:=((((s1.trans s2).trans s3).trans s4).trans s5).trans s6;have aL:=(((((s2.trans s3).trans s4).trans s5).trans s6)) _ _ a1;refine bu (g8 K (L.take j) z.1 z.2) D.int (fun t=>[D.int (1+(wts K (L.take j) t:Int))]) (by show((js K).filter fun t=>decide (jn K z.1 < t) && ax K t z).length+1<=1000;lia) (fun _ _=>Ze _) (cV a6) (fun i t S' ht sm=>⟨_,rfl,?_⟩) fun S7 s7=>?_
  ·k_is;refine⟨rfl,Bq V (sm _ _ aL) (fun w hw=>hL w (ZS hw)) (by rw[Zs];lia) fun S8 s8=>?_⟩;k_is;exact⟨rfl,s8⟩
  ·rw[bj];have em:=Bu (S:=S7) (xs:=(g8 K (L.take j) z.1 z.2).map fun t=>1+(wts K (L.take j) t:Int)) (by unfold g8;simp);rw[Z3] at em;exact aa em (by k_is;exact q S7 (sA.trans s7))
theorem Fn(V:Vd K){L:List (Int × Int)}{n j:Nat}{z:Int × Int}(hn:S[n]?=some (.lst (L.map ac)))(hz:L[j]?=some z)(hL:InG K L)(hl:L.length<=100)(q:∀S',Sm S S'->Q (.bl (rL K (L.take j) z.1 z.2)) S'):Ok (evC ae (k+4) 33 [skE K,.ref n,.int j] S) Q:=by
 refine aB (d:=dA) (ρ:=[some (skE K),some (.ref n),some (.int j),none,none,none,none,none,none,none]) rfl rfl ?_;dsimp only[dA,gB];have hzG:=hL z (Zf hz);obtain⟨a,b,c,d,e,f,h,eg,e0,e1,e2,e3,e6,_⟩:=gl7 V hzG.1 hzG.2;have hi:=bK hn (show(0:Int)<=(j:Int) by lia) (show(L.map ac)[((j:Nat):Int).toNat]?=some (ac z) by rw[Zp,Zn,hz];rfl);k_is;refine aa sk2 (aa hi (aa (show ixS (ac z) (.int 0) S=some (.int z.1,S) from rfl) (aa (fT hzG.1 eg) ?_)));rw[show av [a,b,c,d,e,f,h] = .tup [.int a,.int b,.int c,.int d,.int e,.int f,.int h] from rfl];k_is;have ej:jn K z.1=b:=e1;have eh:rL K (L.take j) z.1 z.2=(decide (0 < h) && (ax K b z && decide (h < rK K (L.take j) z.1 z.2))):=by unfold rL;rw[e6,ej]
 rw[eh] at q;cases c1:decide (0 < h) with
 |false=>rw[c1] at q;k_is;exact q S (Sm.refl S)
 |true=>
  rw[c1] at q;k_is;refine aa hi ?_;refine⟨rfl,mw V hzG.1 hzG.2 ?_⟩;k_is;cases c2:ax K b z with
  |false=>rw[c2] at q;k_is;exact q S (Sm.refl S)
  |true=>
   rw[c2] at q;k_is
   have rg:=Fm (k:=k) (Q:=fun y S2=>wCx .gt y (.int h) S2 fun d S1=>Q d S1) V hn hz hL hl fun S' sm=>by
    k_is;exact q S' sm
   rw[ej] at rg;exact⟨rfl,rg⟩
theorem Sm.setNew{f:Nat}(h:Sm S S')(hf:S.length<=f):Sm S (S'.set f o):=fun i u e=>by
 have hi:=(Zc.mp e).1;rw[ZN (by lia)];exact h i u e
theorem ul{g:Int}(g0:0<=g)(g1:g < K.G.length):jn K g ∈ js K:=by
 have hi:g.toNat < K.G.length:=by lia
 refine(bJ _).mem_iff.mpr (ZH.mpr ⟨K.G[g.toNat],ZC hi,?_⟩);unfold jn gi;rw[gEG hi];rfl
theorem rO(V:Vd K)(hL:InG K L):∀q,e8 K L=some q->0<=q.1/\q.1 < K.M.length:=fun q e=>by
 unfold e8 at e;cases h:L.getLast? with
 |none=>rw[h] at e;exact V.ah0 q e
 |some z=>
  rw[h] at e;cases e;have hz:=hL z (List.mem_of_getLast? h);obtain⟨a,b,c,d,e,f,h,eg,e0,e1,e2,e3,e6,k0,k1,c0⟩:=gl7 V hz.1 hz.2;show 0<=gi K.G z.1 0/\gi K.G z.1 0 < K.M.length;rw[e0];exact⟨k0,k1⟩
theorem um:e8 K (L++[z])=some (gi K.G z.1 0,z.2):=by
 unfold e8;rw[Xj];rfl
end Lw
namespace Ev
open PySem
def OkX(o:Option (RR × Sto))(Q:RR->Sto->Prop):Prop:=∃r S',o=some (r,S')/\Q r S'
section
variable {ae:List DefE} {k f:Nat} {d:DefE} {ds:List D} {ρ:Rho} {S:Sto} {g:fB} {ar:Nat->Nat} {r:List RS} {Q:RR->Sto->Prop}
theorem Lh(hd:ae[f]?=some d)(hr:d.rb=some rs)(hρ:ds.map some++Zo (d.N.length - ds.length) none=ρ)(h:OkX (bX (evX ae k) (cu ae) rs ρ S) Q):OkX (evX ae (k+1) f ds S) Q:=by
 subst hρ;have z:evX ae (k+1) f ds S=bX (evX ae k) (cu ae) rs (ds.map some++Zo (d.N.length - ds.length) none) S:=by simp only[evX,hd,hr]
 rw[z];exact h
theorem Li{Q:D->Sto->Prop}(h:OkX (evX ae k f ds S) fun r S'=>match r with |.val d=>Q d S' |.exc _=>False):Ok (evC ae k f ds S) Q:=by
 obtain⟨r,S',e,q⟩:=h;cases r with
 |val d=>exact⟨d,S',by unfold evC toC;rw[e],q⟩
 |exc i=>exact q.elim
theorem Lj(q:Q (.val .non) S):OkX (bX g ar [] ρ S) Q:=⟨_,_,rfl,q⟩
theorem Fo{n:Nat}:fc C ar (n+2) [s] ρ S=evS C ar (n+1) s ρ S:=by
 show tK (evS C ar (n+1) s) (fc C ar (n+1) []) ρ S=_;unfold tK;cases evS C ar (n+1) s ρ S with
 |none=>rfl
 |some z=>
  obtain⟨fl,ρ1,S1⟩:=z;cases fl <;> rfl
theorem Oq(h:rW (wSs (toC g) ar 60 [s]) ρ S fun fl ρ' S'=>match fl with |.nx=>OkX (bX g ar r ρ' S') Q |.rt v=>Q (.val v) S' |_=>False):OkX (bX g ar (.pl s::r) ρ S) Q:=by
 obtain⟨fl,ρ1,S1,e,q⟩:=ui h;rw[Fo] at e;have z:evS (toC g) ar 59 s ρ S=some (fl,ρ1,S1):=e;cases fl with
 |nx=>obtain⟨v,S2,e2,q2⟩:=q;exact⟨v,S2,by simp only[bX,z];exact e2,q2⟩
 |rt v=>exact⟨.val v,S1,by simp only[bX,z],q⟩
 |bk=>exact q.elim
 |ct=>exact q.elim
theorem Os(h:evA (toC g) ar FU es ρ S=some (ds,S1))(hl:ds.length=ar f)(q:OkX (g f ds S1) fun v S2=>match v with |.val _=>OkX (bX g ar r ρ S2) Q |.exc i=>Q (.exc i) S2):OkX (bX g ar (.ck f es::r) ρ S) Q:=by
 obtain⟨v,S2,e,q⟩:=q;cases v with
 |val d=>
  obtain⟨v,S3,e3,q3⟩:=q;exact⟨v,S3,by simp only[bX,xck,h,hl,if_true,e];exact e3,q3⟩
 |exc i=>exact⟨.exc i,S2,by simp only[bX,xck,h,hl,if_true,e],q⟩
theorem GF{i:Nat}(h:wT (toC g) ar 60 c ρ S fun b S1=>if b=true then i < 14/\Q (.exc i) S1 else OkX (bX g ar r ρ S1) Q):OkX (bX g ar (.rz c i::r) ρ S) Q:=by
 obtain⟨b,S1,e,q⟩:=(oi 60).t _ _ _ h;have z:evT (toC g) ar FU c ρ S=some (b,S1):=e;cases b with
 |true=>
  rw[if_pos rfl] at q;exact⟨.exc i,S1,by simp only[bX,z];rw[if_pos q.1],q.2⟩
 |false=>
  rw[if_neg Zd] at q;obtain⟨v,S2,e2,q2⟩:=q;exact⟨v,S2,by simp only[bX,z];exact e2,q2⟩
theorem Ot(h:evA (toC g) ar FU es ρ S=some (ds,S1))(hl:ds.length=ar f)(q:OkX (g f ds S1) fun v S2=>match v with |.val d=>Q (.val d) S2 |.exc i=>i < 14/\∃w,rh[i]?=some w/\Q (.val (.str w)) S2):OkX (bX g ar (.tr f es::r) ρ S) Q:=by
 obtain⟨v,S2,e,q⟩:=q;cases v with
 |val d=>exact⟨.val d,S2,by simp only[bX,xck,h,hl,if_true,e],q⟩
 |exc i=>
  obtain⟨h14,w,hw,q⟩:=q;exact⟨.val (.str w),S2,by simp only[bX,xck,h,hl,if_true,e];rw[if_pos h14,hw];rfl,q⟩
end
end Ev
namespace Lw
open PySem Ev Sn L2
variable {p:Nat} {S S':Sto} {k:Nat} {Q:D->Sto->Prop} {K:Sky}
theorem iB(r:List Int):TDs p S (r.map Dw.D.int) (r.map D.int):=by
 induction r with
 |nil=>exact aC
 |cons a r ih=>exact ad aN ih
theorem jm:∀ (M:List (List Int)),TDs p S (Dw.yX M) (M.map av)
 |[]=>aC
 |r::M=>ad (ba (iB r)) (jm M)
noncomputable def ahT:Option (Int × Int)->Dw.D
 |none=>.non
 |some q=>.tup [.int q.1,.int q.2]
theorem Ou:∀ (a:Option (Int × Int)),TD p S (ahT a) (ahE a)
 |none=>pO
 |some q=>ba (ad aN (ad aN aC))
theorem om{ds:List D}(i:Nat)(d:D)(h:ds[i]?=some d):(fun i=>(ds[i]?).getD .non) i=d:=by
 show(ds[i]?).getD .non=d;rw[h];rfl
theorem dG{i:Int}(h0:0<=i)(h1:i < 1000):lim i=true:=by simp only[lim,bAE,decide_eq_true_eq];lia
theorem Kp.len{p:Nat}(h:Ev.Kp p S S')(hp:p < S'.length):S.length<=S'.length:=by
 by_cases hz:S.length<=S'.length
 ·exact hz
 ·exfalso;have hlt:S'.length < S.length:=by lia
  have:=h S'.length S[S'.length] (by lia) (gEG hlt);rw[ZB (Ze _)] at this;cases this
theorem rP:∀ {H:List (Int × Int)} {lo x y:Int},Ris lo H->lo < x->(∀q ∈ H,q.2 < x)->x < y->Ris lo (H++[(x,y)])
 |[],lo,x,y,_,h1,_,h3=>⟨h1,h3,trivial⟩
 |q::H,lo,x,y,h,h1,h2,h3=>by
  rw[Ris] at h;exact⟨h.1,h.2.1,rP h.2.2 (h2 q Zi) (fun r hr=>h2 r (Zg _ hr)) h3⟩
theorem pY:∀ {H:List (Int × Int)} {lo:Int} {q:Int × Int},Ris lo H->q ∈ H->lo < q.1/\q.1 < q.2
 |q'::H,lo,q,h,hq=>by
  rw[Ris] at h;rcases Zm.mp hq with rfl |hq
  ·exact⟨h.1,h.2.1⟩
  ·have:=pY h.2.2 hq
   lia
theorem rQ:∀ {H:List (Int × Int)} {lo:Int},Ris lo H->∀ (i:Nat) q q',H[i]?=some q->H[i+1]?=some q'->q.2 < q'.1
 |q0::H,lo,h,0,q,q',e1,e2=>by
  rw[Ris] at h;cases e1;rw[Yq] at e2;exact(pY h.2.2 (Zf e2)).1
 |q0::H,lo,h,i+1,q,q',e1,e2=>by
  rw[Ris] at h;rw[Yq] at e1 e2;exact rQ h.2.2 i q q' e1 e2
structure MeOk(r s:Int)(M:List (List Int))(H:List (Int × Int)):Prop where
 r0:0<=r
 r8:r<=8
 s0:0<=s
 s60:s<=60
 mat:Dw.Mat M.length M
 m1:1<=M.length
 m4:M.length<=4
 tri:Dw.nc M.length M.length M
 ris:Ris (-1) H
 h4:H.length<=4
 hb:∀q ∈ H,q.2<=9999
def GB(n:Nat)(r s:Int)(g:List Int):Prop:=∃kd jo fi la du we ri:Int,g=[kd,jo,fi,la,du,we,ri]/\0<=kd/\kd < n/\0<=jo/\jo+s<=fi/\fi<=la/\la<=9999/\0<=du/\du<=9999/\0<=we/\we<=99/\0<=ri/\ri<=r
structure SkOk(K:Sky):Prop where
 me:MeOk K.r K.s K.M K.H
 g7:K.G.length<=7
 gb:∀g ∈ K.G,GB K.M.length K.r K.s g
 nd:K.F.Nodup
 bd:∀x ∈ K.F,0<=x/\x < K.G.length
 rg:∀ (j:Nat) g,K.G[j]?=some g->g.getD 6 0=0\/(j:Int) ∈ K.F
 ah:∀q,K.ah=some q->0<=q.1/\q.1 < K.M.length/\0<=q.2/\q.2<=9999
theorem SkOk.vd(h:SkOk K):Vd K:=by
 refine⟨h.me.r0,h.me.r8,h.me.s0,h.me.s60,h.me.m1,h.me.m4,h.me.mat.row,h.me.ris,h.me.h4,fun q e=>⟨(h.ah q e).1,(h.ah q e).2.1⟩,h.g7,fun g hg=>?_⟩;obtain⟨kd,jo,fi,la,du,we,ri,rfl,h1,h2,h3,h4,_⟩:=h.gb g hg;have:=h.me.s0;refine⟨rfl,h1,h2,?_⟩;show 0<=fi
 lia
noncomputable def meL(r s:Int)(M:List (List Int))(H:List (Int × Int)):D:=.tup [.int r,.int s,.tup (M.map av),.tup (H.map ac)]
theorem uo{n:Nat}{l:List Int}(h:l.Perm ((Zj n).map fun i=>Int.ofNat i)):l.Nodup/\(∀x ∈ l,0<=x/\x < n)/\l.length=n:=by
 refine⟨h.nodup_iff.mpr (List.pairwise_map.mpr (List.nodup_range.imp fun h z=>h (Int.ofNat.inj z))),fun x hx=>?_,by rw[h.length_eq,Za,ZK]⟩;obtain⟨i,hi,rfl⟩:=ZH.mp (h.mem_iff.mp hx);have:=Z2.mp hi;show 0<=(i:Int)/\(i:Int) < n
 lia
theorem Bv{n:Nat}:∀i S',Sm S S'->nxR 0 n i S'=some (((Zj n)[i]?).map fun(j:Nat)=>D.int (0+(j:Int))):=fun i S' _=>by
 show some (if i < n then some (D.int (0+(i:Int))) else none)=_;split
 ·rename_i h;rw[YE h];rfl
 ·rename_i h;rw[ZB (by rw[ZK];lia)];rfl
theorem pZ{α β:Type}(f:α->β):∀ (l:List α) (j:Nat),(l.map f).eraseIdx j=(l.eraseIdx j).map f
 |[],_=>rfl
 |_::_,0=>rfl
 |a::l,j+1=>by rw[Zx,YG,YG,Zx,pZ f l j]
theorem rR{α:Type}:∀ (l:List α) (j:Nat) (hj:j < l.length),(l[j]::l.eraseIdx j).Perm l
 |a::l,0,_=>List.Perm.refl _
 |a::l,j+1,hj=>by
  rw[YG,List.getElem_cons_succ];exact(List.Perm.swap _ _ _).trans ((rR l j (by simpa using hj)).cons a)
theorem oo{L:Nat}{is0:List Int}(h:Pot p S)(hL:S[L]?=some (.lst (is0.map D.int)))(nL:L ≠ p)(hn:is0.length<=1000)
  (q:∀ (is:List Int) S',Dr p S S'->is.Perm is0->Q (.ref (Zb S')) (S'++[.lst (is.map D.int)])):Ok (evC ae (k+2) 42 [.ref p,.ref L] S) Q:=by
 refine aB (d:=fM) (ρ:=[some (.ref p),some (.ref L),none]) rfl rfl ?_;dsimp only[fM,jI];k_is;have it:al (.ref L) S=some (false,is0.map D.int):=by simp only[al,ak hL,Zr]
 rw[it];show Ok (some (is0.map D.int,S)) _;rw[ay];k_is;have lt:=h.lt;have d0:Dr p S (S++[Ob.lst (is0.map D.int)]):=Dr.sm h (Sm.app _ _);have hL0:=Sm.app S [Ob.lst (is0.map D.int)] _ _ hL;have hLl:L < Zb S:=(Zc.mp hL).1;k_is;refine⟨(by rw[ak hL0];rfl),?_⟩;have lm:(is0.map D.int).length=is0.length:=Za _;refine dF is0.length (fun i=>((is0.map D.int)[i]?).getD .non) (fun i acc S'=>Ev.Kp p S S'/\Pot p S'/\∃left as:List Int,S'[Zb S]?=some (.lst (left.map D.int))/\acc=as.map D.int/\(as++left).Perm is0/\left.length+i=is0.length) (fun i acc S' hi ⟨kp,_⟩=>by rw[<-lm];exact jj (kp _ _ nL hL) _ om) (by lia) (fun i acc S1 hi ⟨kp,pt,left,as,hf,ea,pm,ll⟩=>⟨_,rfl,?_⟩) (fun es S1 ⟨kp,pt,left,as,hf,ea,pm,ll⟩=>⟨by rw[ea,Za];have:=pm.length_eq;rw[Zh] at this;lia,?_⟩) ⟨d0.kp,d0.pot,is0,[],ag,rfl,by simp,by lia⟩
 ·k_is;refine⟨fR hf,?_⟩;k_is;have lq:au b7 (D.ref (Zb S)) S1=some (.int left.length,S1):=by simp only[au,al,ak hf,Zr,b7,Za]
  refine aa lq ?_;k_is;refine⟨rfl,ao pt (by lia) (by lia) fun r S2 r1 r2 d2=>?_⟩;k_is;obtain⟨j,rfl⟩:∃n:Nat,r=(n:Int):=⟨r.toNat,by lia⟩;have hj:j < left.length:=by lia
  have hf2:=d2.kp _ _ (show Zb S ≠ p by lia) hf;have lt2:Zb S < S2.length:=(Zc.mp hf2).1
  have pa:eC (.ref (Zb S)) [.int (j:Int)] S2=some (.int left[j],S2.set (Zb S) (.lst ((left.map D.int).eraseIdx j))):=by
   have hix:ixN (left.map D.int).length (j:Int)=some j:=by
    unfold ixN;rw[if_pos (by lia),if_pos (by rw[Za];lia),Zp]
   simp only[eC,chg,hf2,hix,Zn,gEG hj,Zr]
  refine aa pa ?_;k_is;refine⟨(kp.trans d2.kp).setNew (Ze _),d2.pot.setNe (by lia),left.eraseIdx j,as++[left[j]],by rw[gZ lt2,pZ],by rw[ea,Zv];rfl,?_,by rw[YQ hj];lia⟩;refine List.Perm.trans ?_ pm;rw[Yd];exact List.Perm.append_left as (rR left j hj)
 ·subst ea;k_is;have:left=[]:=Yp.mp (by lia);subst this;rw[ZT] at pm;exact q as S1 ⟨kp,pt⟩ pm
theorem oq:∀ (ps:List (Int × Int)),dn (ps.map ac)=some ps
 |[]=>rfl
 |q::ps=>by
  rw[Zx];simp only[dn,oq ps,ac,kR]
theorem uq{α:Type}(d:α)(l:List α):(Zj l.length).map (fun i=>l.getD i d)=l:=by
 apply List.ext_getElem
 ·simp
 ·intro i h1 h2;simp at h1;simp[h1]
theorem xU(ps:List (Int × Int)):∃qs:List (Int × Int),cQ ps .non (ps.map ac)=qs.map ac/\qs.Perm ps:=by
 by_cases h:ps.length < 2
 ·exact⟨ps,by unfold cQ;rw[if_pos (by rw[Za];exact h)],List.Perm.refl _⟩
 ·have hn:0 < ps.length:=by lia
  have pm:Pm ps.length (eu (mL ps) (Va ps.length)):=(o8 hn).run;refine⟨(eu (mL ps) (Va ps.length)).toList.map fun i=>ps.getD i (0,0),?_,?_⟩
  ·unfold cQ;rw[if_neg (by rw[Za];exact h),Za,Z3];refine YN fun i hi=>?_;have hi':=(pb (lt:=mL ps) hn).1 i hi;simp[hi']
  ·have e:(eu (mL ps) (Va ps.length)).toList.Perm (Zj ps.length):=by
    have:=Array.perm_iff_toList_perm.mp pm
    simpa using this
   have:=e.map fun i=>ps.getD i (0,0)
   rwa [uq] at this
theorem xV(h:ps.length < 64):∃qs:List (Int × Int),cI false (ps.map ac)=some (qs.map ac)/\qs.Perm ps:=by
 obtain⟨qs,e,pm⟩:=xU ps;refine⟨qs,?_,pm⟩;show(if false=false then tD false (ps.map ac) else none)=_;rw[if_pos rfl];simp only[tD,oq];rw[if_pos (by rw[Za];exact h),e]
theorem aZ{α:Type}{l:List α}{E:α->D}{S:Sto}:au b7 (.tup (l.map E)) S=some (.int l.length,S):=by simp only[au,al,b7,Za]
theorem ur{α:Type}{l:List α}:l.all (fun _=>true)=true:=ZJ.mpr fun _ _=>rfl
theorem ut{α:Type}{nx:Nxt}{tg:Tg}{c:XA}{ρ:Rho}(l:List α)(E:α->D)(hl:l.length<=1000)(hnx:∀i S',Sm S S'->nx i S'=some ((l[i]?).map E))
  (step:∀ (i:Nat) a S',l[i]?=some a->Sm S S'->∃ρ1,aA tg (E a) ρ=some ρ1/\Ok (c ρ1 S') fun es S1=>es=[.bl true]/\Sm S' S1) (q:∀S',Sm S S'->Q (.bl true) S') :
  Ok (bb nx tg c ρ LF 0 S) fun es S2=>es.length<=100000/\Ok (jU false es S2) Q:=by
 refine bu l E (fun _=>[.bl true]) hl (fun _ _=>Ze _) hnx step fun S' s'=>?_;rw[bj];refine aa (kf l (fun _=>true) S') ?_;rw[ur];exact q S' s'
theorem uu{i a b:Int}(h0:a<=i)(h1:i<=b)(q:Q (.bl true) S):Ok (evC ae (k+2) 1 [.int i,.int a,.int b] S) Q:=oj (p:=0) aN (by
 rw[show Dw.gK (.int i) a b=true by simp only[Dw.gK,decide_eq_true h0,decide_eq_true h1,Xu]];exact q)
theorem Fp{i:Int}(h0:0<=i)(h1:i<=9999)(q:Q (.bl true) S):Ok (evC ae (k+3) 2 [.int i] S) Q:=xQ (p:=0) aN (by
 rw[show Dw.gK (.int i) 0 9999=true by simp only[Dw.gK,decide_eq_true h0,decide_eq_true h1,Xu]];exact q)
theorem mO{ts:List Dw.D}{ds:List D}{a b:Int}(h:TDs 0 S ts ds)(h0:a<=ts.length)(h1:(ts.length:Int)<=b)(q:Q (.bl true) S):Ok (evC ae (k+1) 3 [.tup ds,.int a,.int b] S) Q:=rJ (ba h) (by
 rw[show Dw.isT (.tup ts) a b=true by simp only[Dw.isT,decide_eq_true h0,decide_eq_true h1,Xu]];exact q)
theorem kj{M:List (List Int)}:(Dw.yX M).length=M.length:=by unfold Dw.yX;rw[Za]
theorem Ov{r:List Int}{n:Nat}(hl:r.length=n)(hn:n<=4)(hr:∀x ∈ r,1<=x/\x<=99)(q:∀S',Sm S S'->Q (.bl true) S'):Ok (evC ae (k+3) 7 [av r,.int n] S) Q:=by
 refine aB (d:=eJ) (ρ:=[some (av r),some (.int n)]) rfl rfl ?_;dsimp only[eJ,io];rw[show av r = .tup (r.map D.int) from rfl];k_is;refine⟨rfl,mO (iB r) (by rw[Za];lia) (by rw[Za];lia) ?_⟩;k_is;refine ut r D.int (by lia) cb (fun i x S' hx sm=>⟨_,rfl,?_⟩) q;k_is;have:=hr x (Zf hx);exact⟨rfl,uu this.1 this.2 ⟨rfl,Sm.refl _⟩⟩
theorem Bw{es:List D}(h:∀e ∈ es,e = .bl true)(S:Sto):jU false es S=some (.bl true,S):=by
 have e:es.map (fun _=>D.bl true)=es:=by
  conv=>rhs;rw[<-List.map_id es]
  exact YN fun x hx=>(h x hx).symm
 rw[<-e];exact(kf es (fun _=>true) S).trans (by rw[ur])
theorem Ow(sk:SkOk K)(q:∀S',Sm S S'->Q (.bl true) S'):Ok (evC ae (k+1) 8 [.tup (K.M.map av)] S) Q:=by
 refine aB (d:=aV) (ρ:=[some (.tup (K.M.map av)),none]) rfl rfl ?_;dsimp only[aV,bH];have V:=sk.vd;have m4:=sk.me.m4;k_is;refine aa aZ ?_;refine⟨_,rfl,by lia,?_⟩;k_is;have hm:(S++[Ob.lst ((Zj K.M.length).map fun j=>D.int (Int.ofNat j))])[S.length]?=some (.lst ((Zj K.M.length).map fun j=>D.int (Int.ofNat j))):=ag;have sq:∀S',Sm (S++[Ob.lst ((Zj K.M.length).map fun j=>D.int (Int.ofNat j))]) S'->(am S' S.length).isSome=true:=fun S' sm=>by rw[ak (sm _ _ hm)];rfl
 refine⟨sq _ (Sm.refl _),?_⟩;refine(ub hm (by lia) (fun a=>(Zj K.M.length).flatMap fun b=>(Zj K.M.length).flatMap fun c=>[.bl true]) fun a S1 ha sm1=>⟨_,rfl,?_⟩).mono fun es S2 ⟨ee,sm⟩=>?_
 ·k_is;refine⟨sq _ sm1,?_⟩;refine ub (sm1 _ _ hm) (by lia) _ fun b S2 hb sm2=>⟨_,rfl,?_⟩;k_is;refine⟨sq _ (sm1.trans sm2),?_⟩;refine ub (sm2 _ _ (sm1 _ _ hm)) (by lia) _ fun c S3 hc sm3=>⟨_,rfl,?_⟩;k_is;obtain⟨r1,e1,e2⟩:=jl (S:=S3) V (a:=a) (b:=b) (by lia) (by lia) (by lia) (by lia);obtain⟨r2,e3,e4⟩:=jl (S:=S3) V (a:=a) (b:=c) (by lia) (by lia) (by lia) (by lia);obtain⟨r3,e5,e6⟩:=jl (S:=S3) V (a:=c) (b:=b) (by lia) (by lia) (by lia) (by lia);refine aa e1 (aa e2 (aa e3 (aa e4 (aa e5 (aa e6 ?_)))));k_is;refine⟨?_,Sm.refl _⟩;have t:=sk.me.tri a b c ha hb hc;rw[decide_eq_true (show gp K a b<=gp K a c+gp K c b from t)]
 ·subst ee
  have all:∀e ∈ (Zj K.M.length).flatMap fun a=>(Zj K.M.length).flatMap fun b=>(Zj K.M.length).flatMap fun c=>[D.bl true],e = .bl true:=fun e he=>by
   obtain⟨a,_,he⟩:=Z0.mp he;obtain⟨b,_,he⟩:=Z0.mp he;obtain⟨c,_,he⟩:=Z0.mp he;exact ZG.mp he
  refine⟨?_,aa (Bw all _) (q _ ((Sm.app S _).trans sm))⟩;have f3:∀a b:Nat,((Zj K.M.length).flatMap fun c=>[D.bl true]).length<=4:=fun _ _=>by rw[bj (Zj K.M.length) (fun _=>D.bl true),Za,ZK];exact m4
  have f2:∀a:Nat,((Zj K.M.length).flatMap fun b=>(Zj K.M.length).flatMap fun c=>[D.bl true]).length<=K.M.length * 4:=fun a=>Dw.uM fun b _=>f3 a b;have f1:=Dw.uM (n:=K.M.length) (m:=K.M.length * 4) (f:=fun a=>(Zj K.M.length).flatMap fun b=>(Zj K.M.length).flatMap fun c=>[D.bl true]) fun a _=>f2 a;have:K.M.length * (K.M.length * 4)<=4 * (4 * 4):=X6 m4 (X6 m4 (Ze _))
  lia
theorem Lk(sk:SkOk K)(q:∀S',Sm S S'->Q (.bl true) S'):Ok (evC ae (k+4) 6 [.tup (K.M.map av)] S) Q:=by
 refine aB (d:=gQ) (ρ:=[some (.tup (K.M.map av))]) rfl rfl ?_;dsimp only[gQ,lU];have m1:=sk.me.m1;have m4:=sk.me.m4;k_is;refine⟨rfl,mO (jm K.M) (by rw[kj];lia) (by rw[kj];lia) ?_⟩;k_is;refine ut K.M av (by lia) cb (fun i r S' hr sm=>⟨_,rfl,?_⟩) fun S' sm=>?_
 ·k_is;refine aa aZ ?_;have hm:=Zf hr;exact⟨rfl,Ov (sk.me.mat.row r hm) m4 (sk.me.mat.ent r hm) fun S2 s2=>⟨rfl,s2⟩⟩
 ·k_is;exact⟨rfl,Ow sk fun S2 s2=>q S2 (sm.trans s2)⟩
theorem xW{z:Int × Int}(h0:0<=z.1)(h1:z.1 < z.2)(h2:z.2<=9999)(q:Q (.bl true) S):Ok (evC ae (k+4) 10 [ac z] S) Q:=by
 refine aB (d:=eK) (ρ:=[some (ac z)]) rfl rfl ?_;dsimp only[eK,ip];rw[show ac z = .tup [.int z.1,.int z.2] from rfl];have x0:ixS (.tup [D.int z.1,.int z.2]) (.int 0) S=some (.int z.1,S):=rfl;have x1:ixS (.tup [D.int z.1,.int z.2]) (.int 1) S=some (.int z.2,S):=rfl;k_is;refine⟨rfl,mO (ad aN (ad aN aC)) (ZW _) (ZW _) ?_⟩;k_is;refine aa x0 ⟨rfl,Fp h0 (by lia) ?_⟩;k_is;refine aa x1 ⟨rfl,Fp (by lia) h2 ?_⟩;k_is;refine aa x0 (aa x1 ?_);k_is;rw[decide_eq_true h1];exact q
theorem Fq(sk:SkOk K)(q:∀S',Sm S S'->Q (.bl true) S'):Ok (evC ae (k+5) 9 [.tup (K.H.map ac)] S) Q:=by
 refine aB (d:=fH) (ρ:=[some (.tup (K.H.map ac))]) rfl rfl ?_;dsimp only[fH,jD];have h4:=sk.me.h4;k_is;refine⟨rfl,mO (dU K.H) (by rw[Za];lia) (by rw[Za];lia) ?_⟩;k_is;refine ut K.H ac (by lia) cb (fun i z S' hz sm=>⟨_,rfl,?_⟩) fun S' sm=>?_
 ·k_is;have a:=pY sk.me.ris (Zf hz);exact⟨rfl,xW (by lia) a.2 (sk.me.hb z (Zf hz)) ⟨rfl,Sm.refl _⟩⟩
 ·k_is;refine aa aZ ?_;k_is;refine⟨⟨by decide,dG (by lia) (by lia)⟩,?_⟩;refine DX (by lia) (fun _=>true) (fun i S2 hi sm2=>⟨_,rfl,?_⟩) fun S2 sm2=>?_
  ·k_is;have hi1:i+1 < K.H.length:=by lia
   have z1:(1:Int)+i=((i+1:Nat):Int):=by lia
   have z2:((i+1:Nat):Int) - 1=((i:Nat):Int):=by lia
   rw[z1,z2];refine aa (mr (d:=ac K.H[i+1]) (by lia) (by rw[Zp,Zn,gEG hi1];rfl)) (aa (show ixS (ac K.H[i+1]) (.int 0) S2=some (.int K.H[i+1].1,S2) from rfl) ?_);refine aa (mr (d:=ac K.H[i]) (by lia) (by rw[Zp,Zn,gEG (by lia)];rfl)) (aa (show ixS (ac K.H[i]) (.int 1) S2=some (.int K.H[i].2,S2) from rfl) ?_);k_is;rw[decide_eq_true (rQ sk.me.ris i _ _ (gEG (by lia)) (gEG hi1))];exact⟨rfl,Sm.refl _⟩
  ·refine aa (kf _ (fun _=>true) _) ?_;rw[ur];exact q S2 (sm.trans sm2)
theorem Bx(sk:SkOk K)(q:∀S',Sm S S'->Q (.bl true) S'):Ok (evC ae (k+6) 5 [meE K] S) Q:=by
 refine aB (d:=fG) (ρ:=[some (meE K),none,none,none,none]) rfl rfl ?_;dsimp only[fG,jC];rw[show meE K = .tup [.int K.r,.int K.s,.tup (K.M.map av),.tup (K.H.map ac)] from rfl];k_is;refine⟨rfl,mO (ad aN (ad aN (ad (ba (jm K.M)) (ad (ba (dU K.H)) aC)))) (ZW _) (ZW _) ?_⟩;k_is;refine⟨rfl,uu sk.me.r0 sk.me.r8 ?_⟩;k_is;refine⟨rfl,uu sk.me.s0 sk.me.s60 ?_⟩;k_is;refine⟨rfl,Lk sk fun S1 s1=>?_⟩;k_is;exact⟨rfl,Fq sk fun S2 s2=>q S2 (s1.trans s2)⟩
theorem Bz{i:Int}(h0:0<=i)(h1:i < K.M.length)(q:Q (.bl true) S):Ok (evC ae (k+3) 11 [meE K,.int i] S) Q:=by
 refine aB (d:=ja) (ρ:=[some (meE K),some (.int i)]) rfl rfl ?_;dsimp only[ja,nU];k_is;refine aa me2 (aa aZ ?_);k_is;exact⟨rfl,uu h0 (by lia) q⟩
theorem Fr(sk:SkOk K)(q:Q (.bl true) S):Ok (evC ae (k+4) 14 [meE K,ahE K.ah] S) Q:=by
 refine aB (d:=gR) (ρ:=[some (meE K),some (ahE K.ah)]) rfl rfl ?_;dsimp only[gR,lV];cases h:K.ah with
 |none=>k_is;exact aa (show aw .is (ahE none) .non S=some (.bl true,S) from rfl) q
 |some z=>
  obtain⟨a0,a1,b0,b1⟩:=sk.ah z h;have x0:ixS (.tup [D.int z.1,.int z.2]) (.int 0) S=some (.int z.1,S):=rfl;have x1:ixS (.tup [D.int z.1,.int z.2]) (.int 1) S=some (.int z.2,S):=rfl;rw[show ahE (some z) = .tup [.int z.1,.int z.2] from rfl];k_is;refine aa (show aw .is (.tup [D.int z.1,.int z.2]) .non S=some (.bl false,S) from rfl) ?_;k_is;refine⟨rfl,mO (ad aN (ad aN aC)) (ZW _) (ZW _) ?_⟩;k_is;refine aa x0 ⟨rfl,Bz a0 a1 ?_⟩;k_is;exact aa x1 ⟨rfl,Fp b0 b1 q⟩
theorem BA(sk:SkOk K){g:List Int}(hg:g ∈ K.G)(q:∀S',Sm S S'->Q (.bl true) S'):Ok (evC ae (k+4) 16 [meE K,av g] S) Q:=by
 obtain⟨kd,jo,fi,la,du,we,ri,rfl,a0,a1,b0,b1,b2,b3,c0,c1,d0,d1,e0,e1⟩:=sk.gb g hg;have s0:=sk.me.s0;refine aB (d:=fI) (ρ:=[some (meE K),some (av [kd,jo,fi,la,du,we,ri]),none,none,none,none,none,none,none]) rfl rfl ?_;dsimp only[fI,jE];rw[show av [kd,jo,fi,la,du,we,ri] = .tup [.int kd,.int jo,.int fi,.int la,.int du,.int we,.int ri] from rfl];k_is;refine⟨rfl,mO (iB [kd,jo,fi,la,du,we,ri]) (ZW _) (ZW _) ?_⟩;k_is;refine ut [jo,fi,la,du] D.int (by show 4<=1000;decide) (cb (l:=[jo,fi,la,du]) (E:=D.int)) (fun i x S' hx sm=>⟨_,rfl,?_⟩) fun S' sm=>?_
 ·k_is;have hm:=Zf hx;simp only[Zm,Yr,or_false] at hm;refine⟨rfl,Fp ?_ ?_ ⟨rfl,Sm.refl _⟩⟩
  ·rcases hm with rfl |rfl |rfl |rfl <;> lia
  ·rcases hm with rfl |rfl |rfl |rfl <;> lia
 ·k_is;refine aa me1 ?_;k_is;rw[decide_eq_true b1];k_is;rw[decide_eq_true b2];k_is;refine⟨rfl,Bz a0 a1 ?_⟩;k_is;refine⟨rfl,uu d0 d1 ?_⟩;k_is;refine aa me0 ⟨rfl,uu e0 e1 (q S' sm)⟩
theorem xX(sk:SkOk K)(q:∀S',Sm S S'->Q (.bl true) S'):Ok (evC ae (k+5) 15 [meE K,.tup (K.G.map av)] S) Q:=by
 refine aB (d:=dr) (ρ:=[some (meE K),some (.tup (K.G.map av))]) rfl rfl ?_;dsimp only[dr,gz];have g7:=sk.g7;k_is;refine⟨rfl,mO (jm K.G) (by rw[kj];lia) (by rw[kj];lia) ?_⟩;k_is;refine ut K.G av (by lia) cb (fun i g S' hg sm=>⟨_,rfl,?_⟩) q;k_is;exact⟨rfl,BA sk (Zf hg) fun S2 s2=>⟨rfl,s2⟩⟩
theorem BB(sk:SkOk K)(q:∀S',Sm S S'->Q (.bl true) S'):Ok (evC ae (k+3) 4 [.tup (K.F.map D.int),.int K.G.length] S) Q:=by
 refine aB (d:=eI) (ρ:=[some (.tup (K.F.map D.int)),some (.int K.G.length)]) rfl rfl ?_;dsimp only[eI,im];have g7:=sk.g7;have lF:=Dw.c9 K.G.length K.F sk.nd sk.bd;k_is;refine⟨rfl,mO (iB K.F) (by rw[Za];lia) (by rw[Za];lia) ?_⟩;k_is;refine ut K.F D.int (by lia) cb (fun i x S' hx sm=>⟨_,rfl,?_⟩) fun S' sm=>?_
 ·k_is;have:=sk.bd x (Zf hx);exact⟨rfl,uu this.1 (by lia) ⟨rfl,Sm.refl _⟩⟩
 ·k_is;refine ut K.F D.int (by lia) cb (fun i x S2 hx sm2=>⟨_,rfl,?_⟩) fun S2 sm2=>q S2 (sm.trans sm2);k_is;refine⟨rfl,aa (AH K.F x S2) ?_⟩;k_is;rw[show((K.F.count x:Nat):Int)=1 by rw[List.Nodup.count sk.nd,if_pos (Zf hx)];rfl];exact⟨rfl,Sm.refl _⟩
theorem Fs(sk:SkOk K)(q:∀S',Sm S S'->Q (.bl true) S'):Ok (evC ae (k+4) 17 [.tup (K.G.map av),.tup (K.F.map D.int)] S) Q:=by
 refine aB (d:=fJ) (ρ:=[some (.tup (K.G.map av)),some (.tup (K.F.map D.int))]) rfl rfl ?_;dsimp only[fJ,jF];have g7:=sk.g7;k_is;refine aa aZ ?_;refine⟨rfl,BB sk fun S1 s1=>?_⟩;k_is;refine dF K.G.length (fun i=>.tup [.int i,((K.G.map av)[i]?).getD .non]) (fun i acc S'=>Sm S1 S'/\acc.length=i/\∀e ∈ acc,e = .bl true) (fun i acc S' hi _=>?_) (by lia) (fun i acc S' hi hq1=>?_) (fun es S' hq2=>by obtain⟨s',la,ha⟩:=hq2;exact⟨by lia,aa (Bw ha _) (q S' (s1.trans s'))⟩) ⟨Sm.refl _,rfl,fun e he=>by cases he⟩
 ·show enm (K.G.map av) i=_;unfold enm;rw[if_pos (by rw[Za];exact hi)];split
  ·rename_i hlt;rw[gEG (by rw[Za];exact hlt)];rfl
  ·rw[ZB (by rw[Za];lia)];rfl
 ·obtain⟨s',la,ha⟩:=hq1;obtain⟨kd,jo,fi,la',du,we,ri,eg,_⟩:=sk.gb K.G[i] (ZC hi);have rg:=sk.rg i _ (gEG hi);have ez:((K.G.map av)[i]?).getD .non = .tup [.int kd,.int jo,.int fi,.int la',.int du,.int we,.int ri]:=by rw[Zn,gEG hi,eg];rfl
  rw[eg] at rg;have rg:ri=0\/(i:Int) ∈ K.F:=rg;rw[ez];have fin:∀S',Sm S1 S'->Sm S1 S'/\(acc++[D.bl true]).length=i+1/\∀e ∈ acc++[D.bl true],e = .bl true:=fun S' s'=>⟨s',by rw[Zh,ZM];lia,fun e he=>(Zy.mp he).elim (ha e) fun z=>ZG.mp z⟩;refine⟨_,cE (by simp) (by simp),?_⟩;k_is;refine aa (show ixS (.tup [D.int kd,.int jo,.int fi,.int la',.int du,.int we,.int ri]) (.int 6) S'=some (.int ri,S') from rfl) ?_;k_is;cases c:decide (ri=0) with
  |true=>k_is;exact fin S' s'
  |false=>
   k_is;refine aa (show aw .isin (.int (i:Int)) (.tup (K.F.map D.int)) S'=some (.bl (false != decide ((i:Int) ∈ K.F)),S') from pP false K.F i S') ?_;rw[decide_eq_true (rg.resolve_left (of_decide_eq_false c))];exact fin S' s'
theorem Ox(sk:SkOk K)(q:∀S',Sm S S'->Q (.bl true) S'):Ok (evC ae (k+7) 13 [skE K] S) Q:=by
 refine aB (d:=md) (ρ:=[some (skE K),none,none,none,none]) rfl rfl ?_;dsimp only[md,rA];rw[show skE K = .tup [meE K,ahE K.ah,.tup (K.G.map av),.tup (K.F.map D.int)] from rfl];k_is;refine⟨rfl,mO (ts:=[.tup [.int K.r,.int K.s,.tup (Dw.yX K.M),.tup (K.H.map Dw.bZ)],ahT K.ah,.tup (Dw.yX K.G),.tup (K.F.map Dw.D.int)]) (ad (ba (ad aN (ad aN (ad (ba (jm K.M)) (ad (ba (dU K.H)) aC))))) (ad (Ou K.ah) (ad (ba (jm K.G)) (ad (ba (iB K.F)) aC)))) (ZW _) (ZW _) ?_⟩;k_is;refine⟨rfl,Bx sk fun S1 s1=>?_⟩;k_is;refine⟨rfl,Fr sk ?_⟩;k_is;refine⟨rfl,xX sk fun S2 s2=>?_⟩;k_is;exact⟨rfl,Fs sk fun S3 s3=>q S3 ((s1.trans s2).trans s3)⟩
theorem BC{Q:RR->Sto->Prop}(sk:SkOk K)(q:∀S',Sm S S'->Q (.val .non) S'):OkX (evX ae (k+8) 18 [skE K] S) Q:=by
 refine Lh (d:=jN) (rs:=fC) (ρ:=[some (skE K)]) rfl rfl rfl ?_;unfold fC;refine GF ?_;k_is;refine⟨rfl,Ox sk fun S' sm=>?_⟩;k_is;exact Lj (q S' sm)
theorem my{L n:Nat}(h:Pot p S)(hL:S[L]?=some (.lst es))(nL:L ≠ p)(hr:RowsS p S es M)(hm:Dw.Mat (n+1) M)(hn:n < 4)
  (q:∀n M S',Dr p S S'->Dw.Mat n M->1<=n->n<=4->Dw.nc n n M->Q (.tup (M.map av)) S') :
  rW (wSs (evC ae (k+1)) (cu ae) 57 (cS.drop 3)) [some (.ref p),some (.int (1+(n:Int))),some (.ref L),none] S (out Q):=by
 dsimp only[cS,Z5];k_is;have e1:((1:Int)+n).toNat=n+1:=by lia
 refine⟨(by simp only[lim,bAE,decide_eq_true_eq];lia),?_⟩;rw[e1];refine eZ (by lia) (fun c ρ S'=>Dr p S S'/\∃L es M u,ρ=[some (.ref p),some (.int (1+(n:Int))),some (.ref L),u]/\L ≠ p/\S'[L]?=some (.lst es)/\RowsS p S' es M/\Dw.Mat (n+1) M/\Dw.nc (n+1) c M) (fun c ρ S1 hc ⟨d1,L,es,M,u,er,nL,hL,hr,hm,tr⟩=>?_) (fun ρ S1 ⟨d1,L,es,M,u,er,nL,hL,hr,hm,tr⟩=>?_) ⟨Dr.refl h,L,es,M,none,rfl,nL,hL,hr,hm,fun a b q _ _ hq=>absurd hq (Yh q)⟩
 ·subst er;refine⟨_,rfl,?_⟩;k_is;refine⟨(by rw[ak hL];rfl),?_⟩;have le:es.length=n+1:=by rw[hr.len,hm.len]
  refine dF (n+1) (fun i=>(es[i]?).getD .non) (fun i acc S'=>Sm S1 S'/\RowsS p S' acc ((Zj i).map (Dw.bv M (n+1) c))) (fun i acc S' hi ⟨sm,_⟩=>by rw[<-le];exact jj (sm _ _ hL) _ om) (by lia) (fun i acc S2 hi ⟨sm,ra⟩=>?_) (fun es' S2 ⟨sm,ra⟩=>⟨by rw[ra.len,Za,ZK];lia,?_⟩) ⟨Sm.refl _,RowsS.nil⟩
  ·obtain⟨r,m1,lr,_⟩:=hm.at hi hc;obtain⟨a,ea,na,za⟩:=hr.row i r m1;obtain⟨rc,m2,lrc,_⟩:=hm.at hc hc;obtain⟨b,eb,nb,zb⟩:=hr.row c rc m2;have za2:=sm _ _ za;have zb2:=sm _ _ zb;simp only[ea,ZR];refine⟨_,rfl,?_⟩;k_is;refine⟨(by rw[ak za2];rfl),?_⟩;have lm:(r.map D.int).length=n+1:=by rw[Za];exact lr
   refine dF (n+1) (fun j=>.tup [.int j,((r.map D.int)[j]?).getD .non]) (fun j acc S'=>S'=S2/\acc=((Dw.bv M (n+1) c i).take j).map D.int) (fun j acc S' hj ⟨e,_⟩=>by subst e;rw[<-lm];exact vN (i:=j) za2 (by lia) (fun j=>.tup [.int j,((r.map D.int)[j]?).getD .non]) fun j d hd=>by show D.tup [.int j,((r.map D.int)[j]?).getD .non]=_;rw[hd];rfl) (by lia) (fun j acc S3 hj ⟨e3,ea'⟩=>?_) (fun es3 S3 ⟨e3,ea'⟩=>⟨by rw[ea',Za,Zs];lia,?_⟩) ⟨rfl,rfl⟩
   ·subst e3;obtain⟨r',m3,_,e4,_⟩:=hm.at hi hj;rw[m1] at m3;cases m3;have g1:((r.map D.int)[j]?).getD .non = .int (Dw.mg2 M i j):=by rw[Zn,e4];rfl
    rw[g1];refine⟨_,cE (by simp) (by simp),?_⟩;k_is;obtain⟨r',m3,_,e5,_⟩:=hm.at hi hc;rw[m1] at m3;cases m3;obtain⟨rc',m3,_,e6,_⟩:=hm.at hc hj;rw[m2] at m3;cases m3;have z0:(0:Int)+(c:Int)=(c:Int):=by lia
    have at1:∀ (l:List Int) (m:Nat) (x:Int),l[m]?=some x->atI (l.map D.int) (m:Int)=some (.int x):=fun l m x hx=>by
     have hlt:=(Zc.mp hx).1;unfold atI ixN;rw[if_pos (by lia),if_pos (by rw[Za];lia),Zp];show(l.map D.int)[m]?=_;rw[Zn,hx];rfl
    have i1:ixS (.ref a) (.int (0+(c:Int))) S3=some (.int (Dw.mg2 M i c),S3):=by
     simp only[ixS,al,ak za2,Zr,z0,at1 r c _ e5]
    have i2:ixS (.ref L) (.int (0+(c:Int))) S3=some (.ref b,S3):=by
     have:atI es (c:Int)=some (.ref b):=by
      unfold atI ixN;rw[if_pos (by lia),if_pos (by lia),Zp];exact eb
     simp only[ixS,al,ak (sm _ _ hL),Zr,z0,this]
    have i3:ixS (.ref b) (.int (j:Int)) S3=some (.int (Dw.mg2 M c j),S3):=by
     simp only[ixS,al,ak zb2,Zr,at1 rc j _ e6]
    refine aa i1 (aa i2 (aa i3 ?_));k_is;have lj:j < (Dw.bv M (n+1) c i).length:=by rw[Dw.kF];exact hj
    have gj:=Dw.qt M (c:=c) (i:=i) hj;rw[gEG lj] at gj;rw[ea',ZL lj,Zv,Option.some.inj gj];exact⟨rfl,rfl⟩
   ·subst e3;rw[ZZ (by rw[Dw.kF];exact Ze _)] at ea';subst ea';k_is;have lt:=(Dr.sm d1.pot sm).pot.lt;refine⟨sm.trans (Sm.app _ _),?_⟩;rw[Y6,Zv];exact(ra.keep (Sm.app _ _).kp).snoc (by lia) ag
  ·k_is;have lt:=(Dr.sm d1.pot sm).pot.lt;have st:Dw.Mat (n+1) ((Zj (n+1)).map (Dw.bv M (n+1) c)):=Dw.yY hm hc;exact⟨(d1.thenSm sm).thenSm (Sm.app _ _),_,_,_,_,rfl,by lia,ag,ra.keep (Sm.app _ _).kp,st,Dw.yW hm hc tr (Dw.CG hm hc)⟩
 ·subst er;k_is;refine⟨(by rw[ak hL];rfl),?_⟩;have le:es.length=n+1:=by rw[hr.len,hm.len]
  refine dF (n+1) (fun i=>(es[i]?).getD .non) (fun i acc S'=>S'=S1/\acc=(M.take i).map av) (fun i acc S' hi ⟨e,_⟩=>by subst e;rw[<-le];exact jj hL _ om) (by lia) (fun i acc S2 hi ⟨e2,ea⟩=>?_) (fun es' S2 ⟨e2,ea⟩=>⟨by rw[ea,Za,Zs];lia,?_⟩) ⟨rfl,rfl⟩
  ·subst e2;have li:i < M.length:=by rw[hm.len];exact hi
   obtain⟨a,eb,na,za⟩:=hr.row i M[i] (gEG li);simp only[eb,ZR];refine⟨_,rfl,?_⟩;k_is;have tq:au iS (.ref a) S2=some (.tup (M[i].map D.int),S2):=by simp only[au,al,ak za,Zr,iS]
   refine aa tq ?_;refine⟨rfl,?_⟩;rw[ea,ZL li,Zv];rfl
  ·subst e2;rw[ZZ (by rw[hm.len];exact Ze _)] at ea;subst ea;show Ok (some (D.tup _,S2)) _;rw[ay];exact q (n+1) M S2 d1 hm (by lia) (by lia) tr
theorem BD(h:Pot p S)(q:∀n M S',Dr p S S'->Dw.Mat n M->1<=n->n<=4->Dw.nc n n M->Q (.tup (M.map av)) S'):Ok (evC ae (k+2) 38 [.ref p] S) Q:=by
 refine aB (d:=gV) (ρ:=[some (.ref p),none,none,none]) rfl rfl ?_;dsimp only[gV,cS];k_is;refine⟨rfl,ao h (by decide) (by decide) fun r0 S1 r1 r2 d1=>?_⟩;k_is;obtain⟨n,rfl⟩:∃n:Nat,r0=(n:Int):=⟨r0.toNat,by lia⟩;have e1:((1:Int)+n).toNat=n+1:=by lia
 refine⟨(by simp only[lim,bAE,decide_eq_true_eq];lia),?_⟩;rw[e1];refine mj (by lia) (fun i acc S'=>Dr p S1 S'/\∃M:List (List Int),M.length=i/\RowsS p S' acc M/\∀r ∈ M,r.length=n+1/\∀x ∈ r,1<=x/\x<=99) (fun i acc S2 hi ⟨d2,M,lM,rM,bM⟩=>⟨_,rfl,?_⟩) (fun es S2 ⟨d2,M,lM,rM,bM⟩=>⟨by rw[rM.len];lia,?_⟩) ⟨Dr.refl d1.pot,[],rfl,RowsS.nil,fun r hr=>by simp at hr⟩
 ·k_is;refine⟨(by simp only[lim,bAE,decide_eq_true_eq];lia),?_⟩;rw[e1];refine mj (by lia) (fun j acc S'=>Dr p S2 S'/\∃r:List Int,acc=r.map D.int/\r.length=j/\∀x ∈ r,1<=x/\x<=99) (fun j acc S3 hj ⟨d3,r,ea,lr,br⟩=>⟨_,rfl,?_⟩) (fun es S3 ⟨d3,r,ea,lr,br⟩=>⟨by rw[ea,Za];lia,?_⟩) ⟨Dr.refl d2.pot,[],rfl,rfl,fun x hx=>by simp at hx⟩
  ·k_is;refine⟨rfl,ao d3.pot (by decide) (by decide) fun x S4 x1 x2 d4=>?_⟩;k_is;refine⟨d3.trans d4,r++[1+x],by rw[ea,Zv];rfl,by simp[lr],fun y hy=>?_⟩;rcases Zy.mp hy with hy |hy
   ·exact br y hy
   ·simp at hy;lia
  ·subst ea;k_is;have lt:=d3.pot.lt;refine⟨(d2.trans d3).thenSm (Sm.app _ _),M++[r],by simp[lM],((rM.keep d3.kp).keep (Sm.app _ _).kp).snoc (by lia) ag,fun r' hr'=>?_⟩;rcases Zy.mp hr' with hr' |hr'
   ·exact bM r' hr'
   ·simp at hr';subst hr';exact⟨lr,br⟩
 ·have lt2:=d2.pot.lt;have d3:Dr p S1 (S2++[Ob.lst es]):=d2.thenSm (Sm.app _ _);have r3:RowsS p (S2++[Ob.lst es]) es M:=rM.keep (Sm.app _ _).kp;have a3:(S2++[Ob.lst es])[S2.length]?=some (Ob.lst es):=ag;have m3:Dw.Mat (n+1) M:=⟨lM,fun r hr=>(bM r hr).1,fun r hr=>(bM r hr).2⟩;have ne3:S2.length ≠ p:=by lia
  revert a3 r3 d3;generalize S2++[Ob.lst es]=S3;intro d3 r3 a3;k_is;refine⟨rfl,ao d3.pot (by decide) (by decide) fun x S4 x1 x2 d4=>?_⟩;k_is;have a4:=d4.kp _ _ ne3 a3;have r4:=r3.keep d4.kp;have d5:Dr p S S4:=(d1.trans d3).trans d4;have hlim:lim (1+(n:Int))=true:=by simp only[lim,bAE,decide_eq_true_eq];lia
  refine dX (fun _=>?_) fun _=>?_
  ·k_is;refine⟨(by rw[ak a4];rfl),?_⟩;have le:es.length=n+1:=by rw[r4.len,lM]
   refine dF (n+1) (fun i=>(es[i]?).getD .non) (fun i acc S'=>Dr p S4 S'/\∃M':List (List Int),M'.length=i/\RowsS p S' acc M'/\∀r ∈ M',r.length=n+1/\∀x ∈ r,1<=x/\x<=99) (fun i acc S' hi ⟨dd,_⟩=>by rw[<-le];exact jj (dd.kp _ _ ne3 a4) _ om) (by lia) (fun i acc S5 hi ⟨dd,M',lM',rM',bM'⟩=>?_) (fun es' S5 ⟨dd,M',lM',rM',bM'⟩=>⟨by rw[rM'.len];lia,?_⟩) ⟨Dr.refl d4.pot,[],rfl,RowsS.nil,fun r hr=>by simp at hr⟩
   ·obtain⟨r,m1,lr,_⟩:=m3.at hi hi;obtain⟨a,ea,na,za⟩:=r4.row i r m1;simp only[ea,ZR];refine⟨_,rfl,?_⟩;k_is;have za5:=dd.kp _ _ na za;refine⟨(by rw[ak za5];rfl),?_⟩;have lm:(r.map D.int).length=n+1:=by rw[Za];exact lr
    refine dF (n+1) (fun i=>((r.map D.int)[i]?).getD .non) (fun j acc S'=>Dr p S5 S'/\∃r:List Int,acc=r.map D.int/\r.length=j/\∀x ∈ r,1<=x/\x<=99) (fun j acc S' hj ⟨de,_⟩=>by rw[<-lm];exact jj (de.kp _ _ na za5) _ om) (by lia) (fun j acc S6 hj ⟨de,r',ea',lr',br⟩=>⟨_,rfl,?_⟩) (fun es6 S6 ⟨de,r',ea',lr',br⟩=>⟨by rw[ea',Za];lia,?_⟩) ⟨Dr.refl dd.pot,[],rfl,rfl,fun x hx=>by simp at hx⟩
    ·k_is;refine⟨rfl,ao de.pot (by decide) (by decide) fun y S7 y1 y2 d7=>?_⟩;k_is;refine⟨de.trans d7,r'++[99 - y],by rw[ea',Zv];rfl,by simp[lr'],fun z hz=>?_⟩;rcases Zy.mp hz with hz |hz
     ·exact br z hz
     ·simp at hz;lia
    ·subst ea';k_is;have lt:=de.pot.lt;refine⟨(dd.trans de).thenSm (Sm.app _ _),M'++[r'],by simp[lM'],((rM'.keep de.kp).keep (Sm.app _ _).kp).snoc (by lia) ag,fun r'' hr''=>?_⟩;rcases Zy.mp hr'' with hr'' |hr''
     ·exact bM' r'' hr''
     ·simp at hr'';subst hr'';exact⟨lr',br⟩
   ·have lt:=dd.pot.lt;have d6:Dr p S4 (S5++[Ob.lst es']):=dd.thenSm (Sm.app _ _);have tail:=my (k:=k) (Q:=Q) (n:=n) (L:=S5.length) (es:=es') (M:=M') d6.pot ag (by lia) (rM'.keep (Sm.app _ _).kp) ⟨lM',fun r hr=>(bM' r hr).1,fun r hr=>(bM' r hr).2⟩ (by lia) fun n' M S' dd' h1 h2 h3 h4=>q n' M S' ((d5.trans d6).trans dd') h1 h2 h3 h4;dsimp only[cS,Z5] at tail;k_is;exact tail
  ·have tail:=my (k:=k) (Q:=Q) (n:=n) d4.pot a4 ne3 r4 m3 (by lia) fun n' M S' dd' h1 h2 h3 h4=>q n' M S' (d5.trans dd') h1 h2 h3 h4;dsimp only[cS,Z5] at tail;k_is;exact tail
theorem xY(h:Pot p S)(q:∀H S',Dr p S S'->Ris (-1) H->H.length<=4->(∀z ∈ H,z.2<=9999)->Q (.tup (H.map ac)) S'):Ok (evC ae (k+2) 39 [.ref p,.int 0] S) Q:=by
 refine aB (d:=fL) (ρ:=[some (.ref p),some (.int 0),none,none,none]) rfl rfl ?_;dsimp only[fL,jH];k_is;have d0:Dr p S (S++[Ob.lst []]):=Dr.sm h (Sm.app _ _);refine⟨rfl,ao d0.pot (by decide) (by decide) fun r0 S1 r1 r2 d1=>?_⟩;obtain⟨n,rfl⟩:∃n:Nat,r0=(n:Int):=⟨r0.toNat,by lia⟩;have lt:=h.lt;have a1:S1[S.length]?=some (Ob.lst []):=d1.kp _ _ (by lia) ag
 have at5:atI [D.int 0,D.int 1,D.int 2,D.int 3,D.int 4] (n:Int)=some (D.int n):=by
  have:n=0\/n=1\/n=2\/n=3\/n=4:=by lia
  rcases this with rfl |rfl |rfl |rfl |rfl <;> rfl
 refine⟨_,at5,?_⟩;k_is;refine⟨(by simp only[lim,bAE,decide_eq_true_eq];lia),?_⟩;rw[Zp];refine eZ (by lia) (fun i ρ S'=>Kp p S S'/\Pot p S'/\∃ (es:List (Int × Int)) (b:Int) (u:Option D),ρ=[some (.ref p),some (.int 0),some (.ref S.length),some (.int b),u]/\S'[S.length]?=some (.lst (es.map ac))/\(Ris (-1) es/\∀z ∈ es,z.2<=b)/\es.length=i/\0<=b/\b<=20 * i) (fun i ρ S2 hi hq1=>?_) (fun ρ S2 hq2=>?_) ⟨d0.kp.trans d1.kp,d1.pot,[],0,none,rfl,a1,⟨trivial,fun z hz=>by cases hz⟩,rfl,by lia,by lia⟩
 ·obtain⟨k2,p2,es,b,u,er,hf,hg,le,b0,b1⟩:=hq1;subst er;refine⟨_,rfl,?_⟩;k_is;refine⟨rfl,ao p2 (by decide) (by decide) fun x S3 x1 x2 d3=>?_⟩;k_is;have f3:=d3.kp _ _ (show S.length ≠ p by lia) hf;refine⟨fR f3,?_⟩;k_is;refine⟨rfl,ao d3.pot (by decide) (by decide) fun y S4 y1 y2 d4=>?_⟩;k_is;have f4:=d4.kp _ _ (show S.length ≠ p by lia) f3;rw[AK f4 (by rw[Za];lia)];k_is;have lt4:S.length < S4.length:=(Zc.mp f4).1;have f5:(S4.set S.length (Ob.lst (es.map ac++[D.tup [D.int (b+1+x),D.int (b+1+x+1+y)]])))[S.length]?=some (Ob.lst (es.map ac++[D.tup [D.int (b+1+x),D.int (b+1+x+1+y)]])):=gZ lt4;refine aa (vO f5) ?_;k_is;show Ok (some (D.int (b+1+x+1+y),_)) _;rw[ay];k_is;refine⟨((k2.trans d3.kp).trans d4.kp).setNew (Ze _),d4.pot.setNe (by lia),es++[(b+1+x,b+1+x+1+y)],_,_,rfl,by rw[Zv];exact f5,⟨rP hg.1 (by lia) (fun z hz=>by have:=hg.2 z hz;lia) (by lia),fun z hz=>?_⟩,by simp[le],by lia,by lia⟩;rcases Zy.mp hz with hz |hz
  ·have:=hg.2 z hz;lia
  ·rw[ZG.mp hz];exact ZW _
 ·obtain⟨k2,p2,es,b,u,er,hf,hg,le,b0,b1⟩:=hq2;subst er;k_is;have tq:au iS (.ref S.length) S2=some (.tup (es.map ac),S2):=by simp only[au,al,ak hf,Zr,iS]
  refine aa tq ?_;k_is;exact q es S2 ⟨k2,p2⟩ hg.1 (by lia) fun z hz=>by have:=hg.2 z hz;lia
theorem BE(h:Pot p S)(q:∀r s M H S',Dr p S S'->MeOk r s M H->Q (meL r s M H) S'):Ok (evC ae (k+3) 40 [.ref p] S) Q:=by
 refine aB (d:=eM) (ρ:=[some (.ref p),none]) rfl rfl ?_;dsimp only[eM,iq];k_is;refine⟨rfl,ao h (by decide) (by decide) fun r0 S1 r1 r2 d1=>?_⟩;obtain⟨n,rfl⟩:∃n:Nat,r0=(n:Int):=⟨r0.toNat,by lia⟩
 obtain⟨r,at1,hr⟩:∃r:Int,atI [D.int 2,D.int 1,D.int 3,D.int 8,D.int 0] (n:Int)=some (D.int r)/\0<=r/\r<=8:=by
  have:n=0\/n=1\/n=2\/n=3\/n=4:=by lia
  rcases this with rfl |rfl |rfl |rfl |rfl
  ·exact⟨2,rfl,by decide,by decide⟩
  ·exact⟨1,rfl,by decide,by decide⟩
  ·exact⟨3,rfl,by decide,by decide⟩
  ·exact⟨8,rfl,by decide,by decide⟩
  ·exact⟨0,rfl,by decide,by decide⟩
 refine⟨_,at1,?_⟩;k_is;refine⟨rfl,ao d1.pot (by decide) (by decide) fun s0 S2 s1 s2 d2=>?_⟩;obtain⟨m,rfl⟩:∃n:Nat,s0=(n:Int):=⟨s0.toNat,by lia⟩
 obtain⟨s,at2,hs⟩:∃r:Int,atI [D.int 2,D.int 0,D.int 1,D.int 5,D.int 60] (m:Int)=some (D.int r)/\0<=r/\r<=60:=by
  have:m=0\/m=1\/m=2\/m=3\/m=4:=by lia
  rcases this with rfl |rfl |rfl |rfl |rfl
  ·exact⟨2,rfl,by decide,by decide⟩
  ·exact⟨0,rfl,by decide,by decide⟩
  ·exact⟨1,rfl,by decide,by decide⟩
  ·exact⟨5,rfl,by decide,by decide⟩
  ·exact⟨60,rfl,by decide,by decide⟩
 refine⟨_,at2,?_⟩;k_is;refine⟨rfl,BD d2.pot fun n' M S3 d3 hM m1 m4 tr=>?_⟩;k_is;refine⟨rfl,xY d3.pot fun H S4 d4 ri h4 hb=>?_⟩;k_is;obtain rfl:=hM.len;exact q r s M H S4 (((d1.trans d2).trans d3).trans d4) ⟨hr.1,hr.2,hs.1,hs.2,hM,m1,m4,tr,ri,h4,hb⟩
theorem BF{r s:Int}(h:Pot p S)(me:MeOk r s M Hs)
  (q:∀ (a j f l u w:Int) S',Dr p S S'->GB M.length r s [a,j,f,l,u,w,0]->Q (av [a,j,f,l,u,w,0]) S'):Ok (evC ae (k+2) 41 [.ref p,meL r s M Hs] S) Q:=by
 have m1:=me.m1;have m4:=me.m4;have s0:=me.s0;have s60:=me.s60;have r0:=me.r0;refine aB (d:=eN) (ρ:=[some (.ref p),some (meL r s M Hs),none,none,none,none]) rfl rfl ?_;dsimp only[eN,ir];k_is;refine⟨rfl,ao h (by decide) (by decide) fun j S1 j1 j2 d1=>?_⟩;k_is;refine aa (show ixS (meL r s M Hs) (.int 1) S1=some (.int s,S1) from rfl) ?_;k_is;refine⟨rfl,ao d1.pot (by decide) (by decide) fun x S2 x1 x2 d2=>?_⟩;k_is;refine⟨rfl,ao d2.pot (by decide) (by decide) fun y S3 y1 y2 d3=>?_⟩;obtain⟨n,rfl⟩:∃n:Nat,y=(n:Int):=⟨y.toNat,by lia⟩
 obtain⟨e,at1,he⟩:∃e:Int,atI [D.int 0,D.int 0,D.int x] (n:Int)=some (D.int e)/\0<=e/\e<=9:=by
  have:n=0\/n=1\/n=2:=by lia
  rcases this with rfl |rfl |rfl
  ·exact⟨0,rfl,by decide,by decide⟩
  ·exact⟨0,rfl,by decide,by decide⟩
  ·exact⟨x,rfl,by lia,by lia⟩
 refine⟨_,at1,?_⟩;k_is;refine⟨rfl,ao d3.pot (by decide) (by decide) fun x' S4 a1 a2 d4=>?_⟩;k_is;refine⟨rfl,ao d4.pot (by decide) (by decide) fun x'' S5 b1 b2 d5=>?_⟩;k_is;refine⟨rfl,ao d5.pot (by decide) (by decide) fun y' S6 c1 c2 d6=>?_⟩;obtain⟨n',rfl⟩:∃n:Nat,y'=(n:Int):=⟨y'.toNat,by lia⟩
 obtain⟨g,at2,hg⟩:∃e:Int,atI [D.int x',D.int (5+x''),D.int 60,D.int 200] (n':Int)=some (D.int e)/\0<=e/\e<=200:=by
  have:n'=0\/n'=1\/n'=2\/n'=3:=by lia
  rcases this with rfl |rfl |rfl |rfl
  ·exact⟨x',rfl,by lia,by lia⟩
  ·exact⟨5+x'',rfl,by lia,by lia⟩
  ·exact⟨60,rfl,by decide,by decide⟩
  ·exact⟨200,rfl,by decide,by decide⟩
 refine⟨_,at2,?_⟩;k_is;refine⟨rfl,ao d6.pot (by decide) (by decide) fun z S7 z1 z2 d7=>?_⟩;k_is;refine⟨rfl,ao d7.pot (by decide) (by decide) fun z' S8 z3 z4 d8=>?_⟩;k_is;refine⟨rfl,ao d8.pot (by decide) (by decide) fun y'' S9 y3 y4 d9=>?_⟩;obtain⟨n'',rfl⟩:∃n:Nat,y''=(n:Int):=⟨y''.toNat,by lia⟩
 obtain⟨u,at3,hu⟩:∃v:Int,atI [D.int (j+s+e),D.int (j+z),D.int z'] (n'':Int)=some (D.int v)/\0<=v/\v<=300:=by
  have:n''=0\/n''=1\/n''=2:=by lia
  rcases this with rfl |rfl |rfl
  ·exact⟨j+s+e,rfl,by lia,by lia⟩
  ·exact⟨j+z,rfl,by lia,by lia⟩
  ·exact⟨z',rfl,by lia,by lia⟩
 refine⟨_,at3,?_⟩;k_is;have d10:=(((((((d1.trans d2).trans d3).trans d4).trans d5).trans d6).trans d7).trans d8).trans d9;refine aa (show ixS (meL r s M Hs) (.int 2) _=some (.tup (M.map av),_) from rfl) ?_;refine aa (show au b7 (.tup (M.map av)) S9=some (.int M.length,S9) by simp only[au,al,b7,Za]) ?_;k_is;refine⟨rfl,ao d9.pot (by lia) (by lia) fun kd Sa ka kb da=>?_⟩;k_is;refine⟨rfl,ao da.pot (by decide) (by decide) fun w Sb w1 w2 db=>?_⟩;k_is;exact q kd j (j+s+e) (j+s+e+g) u w Sb ((d10.trans da).trans db) ⟨_,_,_,_,_,_,_,rfl,by omega⟩
theorem BG{n:Nat}{ds:List D}{tg:Tg}{b:XS}{ρ:Rho}{Q:Fl->Rho->Sto->Prop}(hl:ds.length<=100000)(I:Nat->Rho->Sto->Prop)(hI:∀i ρ S',I i ρ S'->S'[n]?=some (.lst ds))
  (step:∀ (i:Nat) d ρ S',ds[i]?=some d->I i ρ S'->∃ρ1,aA tg d ρ=some ρ1/\OkS (b ρ1 S') fun fl ρ2 S2=>match fl with |.nx=>I (i+1) ρ2 S2 |.ct=>I (i+1) ρ2 S2 |.bk=>Q .nx ρ2 S2 |.rt d=>Q (.rt d) ρ2 S2)
  (q:∀ρ S',I ds.length ρ S'->Q .nx ρ S') (h0:I 0 ρ S):OkS (dN (nxS n) tg b LF 0 ρ S) Q:=by
 refine iz ds.length I (by unfold LF;lia) (fun i ρ S' hi iv=>?_) (fun ρ S' iv=>⟨?_,q ρ S' iv⟩) h0
 ·obtain⟨ρ1,e2,z⟩:=step i ds[i] ρ S' (gEG hi) iv;refine⟨ds[i],ρ1,?_,e2,z⟩;show(am S' n).map (fun ds=>ds[i]?)=_;rw[ak (hI i ρ S' iv),Zr,gEG hi]
 ·show(am S' n).map (fun ds'=>ds'[ds.length]?)=_;rw[ak (hI _ ρ S' iv),Zr,ZB (Ze _)]
theorem gm{n:Nat}(h:S[n]?=some (.lst ds)):au iS (.ref n) S=some (.tup ds,S):=by simp only[au,al,ak h,Zr,iS]
theorem Ft{n j:Nat}{G:List (List Int)}{g:List Int}(h:S[n]?=some (.lst (G.map av)))(hj:j < G.length):dM (.ref n) (.int (j:Int)) (av g) S=some (S.set n (.lst ((G.set j g).map av))):=by
 have hix:ixN (G.map av).length (j:Int)=some j:=by
  unfold ixN;rw[if_pos (by lia),if_pos (by rw[Za];lia),Zp]
 simp only[dM,h,hix,Zr,Wd]
theorem BH{r s:Int}{M G:List (List Int)}{Hs:List (Int × Int)}{N Ng:Nat}{is:List Int}{S0:Sto}(h:Pot p S)(k0:Ev.Kp p S0 S)(l0:S0.length<=Ng)(me:MeOk r s M Hs)(hG:S[Ng]?=some (.lst (G.map av)))(nG:Ng ≠ p)(hN:S[N]?=some (.lst (is.map D.int)))(nN:N ≠ p)(gb:∀g ∈ G,GB M.length r s g)(h0:∀g ∈ G,g.getD 6 0=0)(l6:G.length<=6)(pm:is.Perm ((Zj G.length).map fun i=>Int.ofNat i))
  (q:∀K S',Ev.Kp p S0 S'->Pot p S'->SkOk K->K.G.length<=6->Q (skE K) S') :
  rW (wSs (evC ae (k+1)) (cu ae) 56 (i9.drop 4)) [some (.ref p),some (.int 6),some (meL r s M Hs),some (.ref Ng),some (.ref N),none,none,none] S (out Q):=by
 dsimp only[i9,Z5];have m1:=me.m1;have m4:=me.m4;have r8:=me.r8;k_is;refine⟨rfl,ao h (by decide) (by decide) fun x S1 x1 x2 d1=>?_⟩;obtain⟨c,rfl⟩:∃n:Nat,x=(n:Int):=⟨x.toNat,by lia⟩
 have at4:atI [D.int 0,D.int 1,D.int 2,D.int 3] (c:Int)=some (D.int c):=by
  have:c=0\/c=1\/c=2\/c=3:=by lia
  rcases this with rfl |rfl |rfl |rfl <;> rfl
 refine⟨_,at4,?_⟩;k_is;have hN1:=d1.kp _ _ nN hN;have hG1:=d1.kp _ _ nG hG;refine aa (cL hN1) ?_;k_is;rw[<-Yb];have d2:Dr p S1 (S1++[Ob.lst ((is.take c).map D.int)]):=Dr.sm d1.pot (Sm.app _ _);have hF2:(S1++[Ob.lst ((is.take c).map D.int)])[Zb S1]?=some (Ob.lst ((is.take c).map D.int)):=ag;have hG2:=d2.kp _ _ nG hG1;have k2:=(k0.trans d1.kp).trans d2.kp;have lt1:=d1.pot.lt;have nF:Zb S1 ≠ p:=by lia
 have nFG:Zb S1 ≠ Ng:=by have:=(Zc.mp hG1).1;lia
 refine⟨(by rw[ak hF2];rfl),?_⟩;generalize S1++[Ob.lst ((is.take c).map D.int)]=S2 at *;generalize Zb S1=F at *;have pr:=uo pm;have pf:∀x ∈ is.take c,0<=x/\x < (G.length:Int):=fun x hx=>pr.2.1 x (ZS hx);have ndf:(is.take c).Nodup:=pr.1.sublist (XC c is);have lf:(is.take c).length<=6:=by rw[Zs];have:=pr.2.2;lia
 generalize is.take c=fx at *
 have fin:∀ (G':List (List Int)) (a:Option (Int × Int)) S3,Ev.Kp p S0 S3->Pot p S3->G'.length=G.length->(∀g ∈ G',GB M.length r s g)->(∀ (j:Nat) g,G'[j]?=some g->g.getD 6 0=0\/(j:Int) ∈ fx)->(∀z:Int × Int,a=some z->0<=z.1/\z.1 < M.length/\0<=z.2/\z.2<=9999)->Q (skE ⟨r,s,M,Hs,a,G',fx⟩) S3:=fun G' a S3 k3 p3 l3 g3 r3 ha=>
  q ⟨r,s,M,Hs,a,G',fx⟩ S3 k3 p3 ⟨me,by show G'.length<=7;lia,g3,ndf,fun x hx=>by show 0<=x/\x < (G'.length:Int);rw[l3];exact pf x hx,r3,ha⟩ (by show G'.length<=6;lia)
 refine BG (by rw[Za];lia) (fun i ρ S'=>Ev.Kp p S0 S'/\Pot p S'/\S'[F]?=some (Ob.lst (fx.map D.int))/\∃ (G':List (List Int)) (u:Option D),ρ=[some (.ref p),some (.int 6),some (meL r s M Hs),some (.ref Ng),some (.ref N),some (.ref F),u,none]/\S'[Ng]?=some (Ob.lst (G'.map av))/\G'.length=G.length/\(∀g ∈ G',GB M.length r s g)/\∀ (j:Nat) g,G'[j]?=some g->g.getD 6 0=0\/(j:Int) ∈ fx) (fun i ρ S' iv=>iv.2.2.1) (fun i d ρ S3 hd hq1=>?_) (fun ρ S3 hq2=>?_) ⟨k2,d2.pot,hF2,G,none,rfl,hG2,rfl,gb,fun j g e=>.inl (h0 g (Zf e))⟩
 ·obtain⟨k3,p3,f3,G',u,er,g3,l3,hM3,hr3⟩:=hq1;subst er;obtain⟨x,hx,rfl⟩:=mv hd;have hxf:=Zf hx;have hxb:=pf x hxf;obtain⟨j,rfl⟩:∃n:Nat,x=(n:Int):=⟨x.toNat,by lia⟩;have hj:j < G'.length:=by lia
  refine⟨_,rfl,?_⟩;k_is;refine⟨rfl,ao p3 (by decide) (by decide) fun y S4 y1 y2 d4=>?_⟩;k_is;have g4:=d4.kp _ _ nG g3;have f4:=d4.kp _ _ nF f3;have k4:=k3.trans d4.kp;have mt:∀S,ixS (meL r s M Hs) (.int 0) S=some (.int r,S):=fun S=>rfl;cases ey:decide (y=0) with
  |false=>k_is;exact⟨k4,d4.pot,f4,G',_,rfl,g4,l3,hM3,hr3⟩
  |true=>
   k_is;refine aa (mt S4) ?_;k_is;cases er0:decide (0 < r) with
   |false=>k_is;exact⟨k4,d4.pot,f4,G',_,rfl,g4,l3,hM3,hr3⟩
   |true=>
    have hr0:=of_decide_eq_true er0;k_is;obtain⟨a1,a2,a3,a4,a5,a6,a7,eg,hb⟩:=hM3 G'[j] (ZC hj);refine aa (bK g4 (by lia) (show(G'.map av)[((j:Nat):Int).toNat]?=some (av G'[j]) by rw[Zp,Zn,gEG hj];rfl)) ?_;rw[eg,show av [a1,a2,a3,a4,a5,a6,a7]=D.tup [.int a1,.int a2,.int a3,.int a4,.int a5,.int a6,.int a7] from rfl];k_is;rw[show gu [D.int a1,.int a2,.int a3,.int a4,.int a5,.int a6,.int a7] none (some 6)=[.int a1,.int a2,.int a3,.int a4,.int a5,.int a6] from rfl];refine aa (mt S4) ?_;refine⟨rfl,ao d4.pot hr0 (by lia) fun z S5 z1 z2 d5=>?_⟩;k_is;have g5:=d5.kp _ _ nG g4;have f5:=d5.kp _ _ nF f4;have lt5:Ng < S5.length:=(Zc.mp g5).1;refine⟨by show 7<=1000;decide,?_⟩;refine⟨_,Ft (g:=[a1,a2,a3,a4,a5,a6,1+z]) g5 hj,?_⟩;k_is;refine⟨(k4.trans d5.kp).setNew l0,d5.pot.setNe nG,by rw[ZN (Ne.symm nFG)];exact f5,G'.set j [a1,a2,a3,a4,a5,a6,1+z],_,rfl,gZ lt5,by rw[Yg];exact l3,fun g hg=>?_,fun j' g e=>?_⟩
    ·rcases YS hg with hg |rfl
     ·exact hM3 g hg
     ·exact⟨_,_,_,_,_,_,_,rfl,by omega⟩
    ·by_cases hjj:j'=j
     ·subst hjj;exact .inr hxf
     ·rw[ZN (Ne.symm hjj)] at e;exact hr3 j' g e
 ·obtain⟨k3,p3,f3,G',u,er,g3,l3,hM3,hr3⟩:=hq2;subst er;k_is;refine⟨rfl,ao p3 (by decide) (by decide) fun y S4 y1 y2 d4=>?_⟩;k_is;have g4:=d4.kp _ _ nG g3;have f4:=d4.kp _ _ nF f3;refine dX (fun _=>?_) fun _=>?_
  ·k_is;refine aa (show ixS (meL r s M Hs) (.int 2) S4=some (.tup (M.map av),S4) from rfl) (aa aZ ?_);k_is;refine⟨rfl,ao d4.pot (by lia) (by lia) fun a S5 a1 a2 d5=>?_⟩;k_is;refine⟨rfl,ao d5.pot (by decide) (by decide) fun b S6 b1 b2 d6=>?_⟩;k_is;have g6:=(d5.trans d6).kp _ _ nG g4;have f6:=(d5.trans d6).kp _ _ nF f4;refine aa (gm g6) (aa (gm f6) ?_);k_is;exact fin G' (some (a,b)) S6 ((k3.trans d4.kp).trans (d5.trans d6).kp) d6.pot l3 hM3 hr3 fun z e=>by cases e;exact⟨a1,a2,b1,by lia⟩
  ·k_is;refine aa (gm g4) (aa (gm f4) ?_);k_is;exact fin G' none S4 (k3.trans d4.kp) d4.pot l3 hM3 hr3 fun z e=>by cases e
theorem Fu(h:Pot p S)(q:∀K S',Dr p S S'->SkOk K->K.G.length<=6->Q (skE K) S'):Ok (evC ae (k+4) 43 [.ref p,.int 6] S) Q:=by
 refine aB (d:=jg) (ρ:=[some (.ref p),some (.int 6),none,none,none,none,none,none]) rfl rfl ?_;have tail:=@BH p;dsimp only[jg];dsimp only[i9,Z5] at tail ⊢;k_is;refine⟨rfl,BE h fun r s M Hs S1 d1 me=>?_⟩;k_is;refine⟨rfl,ao d1.pot (by decide) (by decide) fun x S2 x1 x2 d2=>?_⟩;obtain⟨n,rfl⟩:∃n:Nat,x=(n:Int):=⟨x.toNat,by lia⟩;k_is;refine⟨dG (by lia) (by lia),?_⟩;rw[Zp];refine mj (by lia) (fun i acc S'=>Dr p S2 S'/\∃G:List (List Int),acc=G.map av/\G.length=i/\∀g ∈ G,GB M.length r s g/\g.getD 6 0=0) (fun i acc S3 hi ⟨d3,G,ea,lG,hG⟩=>⟨_,rfl,?_⟩) (fun es S3 ⟨d3,G,ea,lG,hG⟩=>⟨by rw[ea,Za];lia,?_⟩) ⟨Dr.refl d2.pot,[],rfl,rfl,fun g hg=>by cases hg⟩
 ·k_is;refine⟨rfl,BF (k:=k+1) d3.pot me fun a j f l u w S4 d4 hg=>?_⟩;refine⟨d3.trans d4,G++[[a,j,f,l,u,w,0]],by rw[ea,Zv];rfl,by simp[lG],fun g hg'=>?_⟩;rcases Zy.mp hg' with hg' |hg'
  ·exact hG g hg'
  ·rw[ZG.mp hg'];exact⟨hg,rfl⟩
 ·subst ea;have lt3:=d3.pot.lt;have k3:=(d1.trans d2).trans d3;have lS:S.length<=Zb S3:=Kp.len k3.kp lt3;k_is;have d4:Dr p S3 (S3++[Ob.lst (G.map av)]):=Dr.sm d3.pot (Sm.app _ _);have g4:(S3++[Ob.lst (G.map av)])[Zb S3]?=some (Ob.lst (G.map av)):=ag;refine aa (cM g4) ?_;k_is;rw[Za];refine⟨_,rfl,by lia,?_⟩;k_is;have nG:Zb S3 ≠ p:=by lia
  have lG4:Zb S3 < Zb (S3++[Ob.lst (G.map av)]):=by simp
  generalize S3++[Ob.lst (G.map av)]=S4 at *;have d5:Dr p S4 (S4++[Ob.lst ((Zj G.length).map fun j=>D.int (Int.ofNat j))]):=Dr.sm d4.pot (Sm.app _ _);have n5:(S4++[Ob.lst ((Zj G.length).map fun j=>D.int (Int.ofNat j))])[Zb S4]?=some (Ob.lst (((Zj G.length).map fun j=>Int.ofNat j).map D.int)):=by rw[Z3];exact ag
  have g5:=d5.kp _ _ nG g4;have nN:Zb S4 ≠ p:=by lia
  generalize S4++[Ob.lst ((Zj G.length).map fun j=>D.int (Int.ofNat j))]=S5 at *;generalize Zb S3=Ng at *;generalize Zb S4=N at *;have k5:=(k3.trans d4).trans d5;refine⟨rfl,ao d5.pot (by decide) (by decide) fun y S6 y1 y2 d6=>?_⟩;k_is;have n6:=d6.kp _ _ nN n5;have g6:=d6.kp _ _ nG g5;have k6:=k5.trans d6;refine dX (fun _=>?_) fun _=>?_
  ·k_is;refine⟨by rw[ak g6];rfl,?_⟩;refine dF G.length (fun i=>.tup [.int i,((G.map av)[i]?).getD .non]) (fun i acc S'=>S'=S6/\acc=((G.take i).zipIdx.map fun z=>ac (z.1.getD 2 0,(z.2:Int)))) (fun i acc S' hi ⟨e,_⟩=>by subst e;rw[<-Za (f:=av)];exact vN (i:=i) g6 (by rw[Za];lia) (fun j=>.tup [.int j,((G.map av)[j]?).getD .non]) fun j d hd=>by show D.tup [.int j,((G.map av)[j]?).getD .non]=_;rw[hd];rfl) (by lia) (fun i acc S7 hi ⟨e7,ea⟩=>?_) (fun es S7 ⟨e7,ea⟩=>⟨by rw[ea,Za,YR,Zs];lia,?_⟩) ⟨rfl,rfl⟩
   ·subst e7;obtain⟨a1,a2,a3,a4,a5,a6,a7,eg,_⟩:=(hG G[i] (ZC hi)).1;have ez:((G.map av)[i]?).getD .non=av [a1,a2,a3,a4,a5,a6,a7]:=by rw[Zn,gEG hi,eg];rfl
    rw[ez];refine⟨_,cE (by simp) (by simp),?_⟩;k_is;refine aa (show ixS (av [a1,a2,a3,a4,a5,a6,a7]) (.int 2) S7=some (.int a3,S7) from rfl) ?_;k_is;refine⟨rfl,?_⟩;rw[ea,ZL hi,List.zipIdx_append,Zv,Zs,Y8 (by lia),eg];show _=_++[ac (a3,((0+i:Nat):Int))];rw[Wc];rfl
   ·subst e7;rw[ZZ (Ze _)] at ea;have ep:(G.zipIdx.map fun z=>ac (z.1.getD 2 0,(z.2:Int)))=(G.zipIdx.map fun z=>(z.1.getD 2 0,(z.2:Int))).map ac:=by rw[Z3];rfl
    rw[ep] at ea;subst ea;obtain⟨qs,es,pq⟩:=xV (ps:=G.zipIdx.map fun z=>(z.1.getD 2 0,(z.2:Int))) (by rw[Za,YR];lia);refine⟨_,es,?_⟩;have lq:qs.length<=6:=by rw[pq.length_eq,Za,YR];lia
    refine bu qs ac (fun z=>[D.int z.2]) (by lia) (fun _ _=>Ze _) cb (fun i z S' hz sm=>⟨_,rfl,?_⟩) fun S8 s8=>?_
    ·k_is;refine aa (show ixS (ac z) (.int 1) S'=some (.int z.2,S') from rfl) ?_;exact⟨rfl,Sm.refl _⟩
    ·rw[bj];k_is;have e7:(qs.map fun z=>D.int z.2)=(qs.map (·.2)).map D.int:=by rw[Z3];rfl
     have pm7:(qs.map (·.2)).Perm ((Zj G.length).map fun i=>Int.ofNat i):=by
      refine(pq.map (·.2)).trans ?_;rw[Z3];have:((·.2) ∘ fun z:List Int × Nat=>(z.1.getD 2 0,(z.2:Int)))=(fun i:Nat=>Int.ofNat i) ∘ Prod.snd:=rfl;rw[this,<-Z3,List.zipIdx_map_snd,List.range_eq_range']
     have d8:Dr p S7 (S8++[Ob.lst (qs.map fun z=>D.int z.2)]):=Dr.sm d6.pot (s8.trans (Sm.app _ _));have lt8:Zb S7<=Zb S8:=Kp.len s8.kp (Dr.sm d6.pot s8).pot.lt;have l7:p < Zb S7:=d6.pot.lt;exact tail (k:=k+2) d8.pot (k6.trans d8).kp lS me (d8.kp _ _ nG g6) nG (by rw[<-e7];exact ag) (by lia) (fun g hg=>(hG g hg).1) (fun g hg=>(hG g hg).2) (by lia) pm7 fun K S' k' p' sk l'=>q K S' ⟨k',p'⟩ sk l'
  ·k_is;refine⟨rfl,oo (k:=k+1) d6.pot n6 nN (by rw[Za,ZK];lia) fun is S7 d7 pm=>?_⟩;k_is;have d8:Dr p S6 (S7++[Ob.lst (is.map D.int)]):=d7.thenSm (Sm.app _ _);have l7:=d7.pot.lt;exact tail (k:=k+2) d8.pot (k6.trans d8).kp lS me (d8.kp _ _ nG g6) nG ag (by lia) (fun g hg=>(hG g hg).1) (fun g hg=>(hG g hg).2) (by lia) pm fun K S' k' p' sk l'=>q K S' ⟨k',p'⟩ sk l'
noncomputable def ou(H:List (Int × Int))(m:Int):Bool:=H.any fun z=>decide (z.1<=m) && decide (m < z.2)
noncomputable def xZ(K:Sky)(A:List (Int × Int))(z:Int × Int):Option Str:=
 bif decide (z.2 < gi K.G z.1 2) then some "soon" else bif decide (gi K.G z.1 3 < z.2) then some "late" else bif ou K.H z.2 then some "shut" else bif decide (z.2 < xR K (e8 K A) (gi K.G z.1 0)) then some "gap" else none
noncomputable def bV(K:Sky)(A:List (Int × Int))(j:Nat)(z:Int × Int):Option Str:=
 bif decide (0<=z.1) && decide (z.1 < (K.G.length:Int)) then (bif decide (z.1 ∈ A.map (·.1)) then some "twice" else bif (K.F[j]?).any (fun f=>!decide (z.1=f)) then some "order" else xZ K A z) else some "none"
noncomputable def jp(K:Sky)(L:List (Int × Int))(j:Nat):Option D:=(L[j]?).bind fun z=>(bV K (L.take j) j z).map fun w=>.tup [.str w,.int z.1]
noncomputable def fU(K:Sky)(L:List (Int × Int))(j:Nat):Option D:=(L[j]?).bind fun z=>bif dZ K (L.take j) z.1 z.2 then some (.int z.1) else none
noncomputable def amF(K:Sky)(L:List (Int × Int)):D:=match (Zj L.length).findSome? (jp K L) with
 |some d=>d
 |none=>match (Zj K.G.length).find? fun(g:Nat)=>!decide ((g:Int) ∈ L.map (·.1)) with
  |some g=>.tup [.str "lacks", .int g]
  |none=>match (js K).find? fun t=>decide (K.r < (wts K L t:Int)) with
   |some t=>.tup [.str "rings", .int t]
   |none=>match (Zj L.length).findSome? (fU K L) with
    |some d=>.tup [.str "ring", d]
    |none=>.non
theorem GG{α β:Type}{f:α->Option β}:∀ {l:List α} {i:Nat} {a:α} {b:β},l[i]?=some a->f a=some b->(∀ (j:Nat) x,j < i->l[j]?=some x->f x=none)->l.findSome? f=some b
 |x::l,0,a,b,h,hp,_=>by cases h;rw[Xq,hp]
 |x::l,i+1,a,b,h,hp,ih=>by
  rw[Xq,ih 0 x (by lia) rfl];exact GG (i:=i) (by simpa using h) hp fun j y hj hy=>ih (j+1) y (by lia) (by simpa using hy)
theorem Oy{α β:Type}{f:α->Option β}{l:List α}(h:∀x ∈ l,f x=none):l.findSome? f=none:=List.findSome?_eq_none_iff.mpr h
theorem BI{α:Type}{f:α->Bool}:∀ {l:List α} {i:Nat} {a:α},l[i]?=some a->f a=true->(∀ (j:Nat) x,j < i->l[j]?=some x->f x=false)->l.find? f=some a
 |x::l,0,a,h,hp,_=>by cases h;rw[X3,hp]
 |x::l,i+1,a,h,hp,ih=>by
  rw[X3,ih 0 x (by lia) rfl];exact BI (i:=i) (by simpa using h) hp fun j y hj hy=>ih (j+1) y (by lia) (by simpa using hy)
theorem BJ{α:Type}{f:α->Bool}{l:List α}(h:∀x ∈ l,f x=false):l.find? f=none:=Xy.mpr fun x hx=>by rw[h x hx];exact Zd
theorem GH{n j x:Nat}(h:(Zj n)[j]?=some x):x=j/\j < n:=by
 obtain⟨h1,h2⟩:=Zc.mp h;rw[Xz] at h2;rw[ZK] at h1;exact⟨h2.symm,h1⟩
theorem GI{n j:Nat}(h:j < n):(Zj n)[j]?=some j:=by rw[gEG (by rw[ZK];exact h),Xz]
theorem p0{β:Type}{f:Nat->Option β}{n i:Nat}{b:β}(hi:i < n)(h:f i=some b)(ih:∀j,j < i->f j=none):(Zj n).findSome? f=some b:=GG (GI hi) h fun j x hj hx=>by rw[(GH hx).1];exact ih j hj
theorem p9{β:Type}{f:Nat->Option β}{n:Nat}(ih:∀j,j < n->f j=none):(Zj n).findSome? f=none:=Oy fun x hx=>ih x (Z2.mp hx)
theorem vU{j:Nat}(h:bV K A j z=none):0<=z.1/\z.1 < K.G.length:=by
 unfold bV at h;cases c:decide (0<=z.1) && decide (z.1 < (K.G.length:Int)) with
 |false=>rw[c] at h;cases h
 |true=>rw[bAE,decide_eq_true_eq,decide_eq_true_eq] at c;exact c
theorem BK{j:Nat}(h:bV K A j z=none):gi K.G z.1 2<=z.2/\z.2<=gi K.G z.1 3:=by
 unfold bV at h;cases c:decide (0<=z.1) && decide (z.1 < (K.G.length:Int)) with
 |false=>rw[c] at h;cases h
 |true=>
  rw[c,cond_true] at h;cases c1:decide (z.1 ∈ A.map (·.1)) with
  |true=>rw[c1] at h;cases h
  |false=>
   rw[c1,cond_false] at h;cases c2:(K.F[j]?).any (fun f=>!decide (z.1=f)) with
   |true=>rw[c2] at h;cases h
   |false=>
    rw[c2,cond_false] at h;unfold xZ at h;cases c3:decide (z.2 < gi K.G z.1 2) with
    |true=>rw[c3] at h;cases h
    |false=>
     rw[c3,cond_false] at h;cases c4:decide (gi K.G z.1 3 < z.2) with
     |true=>rw[c4] at h;cases h
     |false=>
      have:=of_decide_eq_false c3;have:=of_decide_eq_false c4
      lia
theorem Ll{A:List (Int × Int)}{z:Int × Int}:dZ K A z.1 z.2=true ↔ 0 < gi K.G z.1 6/\∃t,jn K z.1<=t/\t < z.2 - K.s/\gi K.G z.1 6 < 1+(wts K A t:Int):=by
 unfold dZ;rw[bAE,decide_eq_true_eq,decide_eq_true_eq];constructor
 ·rintro⟨h0,h⟩;refine⟨h0,?_⟩;unfold uk at h;have ne:(dY K A z.1 z.2).map (fun t=>1+(wts K A t:Int)) ≠ []:=fun e=>by rw[e] at h;exact absurd h (by show ¬ gi K.G z.1 6 < 0;lia)
  rw[mq ne] at h;obtain⟨t,ht,e⟩:=ZH.mp (pV ne);rw[<-e] at h;unfold dY at ht;have h2:=(ZY.mp ht).2;simp only[bAE,decide_eq_true_eq] at h2;exact⟨t,h2.1,h2.2,h⟩
 ·rintro⟨h0,t,h1,h2,h3⟩;refine⟨h0,?_⟩;obtain⟨u,a1,a2,a3,a4⟩:=pX (K:=K) h1 A
  have hu:u ∈ dY K A z.1 z.2:=by
   unfold dY;refine ZY.mpr ⟨?_,by simp only[bAE,decide_eq_true_eq];lia⟩;rcases a1 with rfl |⟨q,hq,rfl⟩
   ·exact Zi
   ·exact Zg _ (ZH.mpr ⟨q,hq,rfl⟩)
  have hw:wts K A t<=wts K A u:=kh fun q hq hw=>by
   have a:=a4 q hq hw;simp only[ax,bAE,decide_eq_true_eq] at hw ⊢
   lia
  unfold uk;have hm:1+(wts K A u:Int) ∈ (dY K A z.1 z.2).map (fun t=>1+(wts K A t:Int)):=ZH.mpr ⟨u,hu,rfl⟩;rw[mq (fun z=>by rw[z] at hm;cases hm)];have:=pW hm
  lia
theorem BL(hL:InG K L)(r0:0<=K.r){t:Int}(h:K.r < (wts K L t:Int)):∃u ∈ js K,u<=t/\K.r < (wts K L u:Int):=by
 cases hw:L.filter (ax K t) with
 |nil=>unfold wts at h;rw[hw] at h;exact absurd h (by show ¬ K.r < ((0:Nat):Int);lia)
 |cons q r=>
  have hq:=ZY.mp (by rw[hw];exact Zi:q ∈ L.filter (ax K t));have hq2:=hq.2;simp only[ax,bAE,decide_eq_true_eq] at hq2;obtain⟨u,a1,a2,a3,a4⟩:=pX (K:=K) hq2.1 L
  have hu:u ∈ js K:=by
   rcases a1 with rfl |⟨q',hq',rfl⟩
   ·exact ul (hL q hq.1).1 (hL q hq.1).2
   ·exact ul (hL q' hq').1 (hL q' hq').2
  have hle:wts K L t<=wts K L u:=kh fun q hq hw=>by
   have a:=a4 q hq hw;simp only[ax,bAE,decide_eq_true_eq] at hw ⊢
   lia
  exact⟨u,hu,a3,by lia⟩
theorem BM(hL:InG K L)(r0:0<=K.r)(j0:∀u ∈ js K,0<=u){i:Nat}(h:K.r < (wts K L i:Int))(ih:∀t:Nat,t < i->(wts K L t:Int)<=K.r):(js K).find? (fun t=>decide (K.r < (wts K L t:Int)))=some (i:Int):=by
 have low:∀u ∈ js K,K.r < (wts K L u:Int)->(i:Int)<=u:=fun u hu hw=>Int.not_lt.mp fun hlt=>by
  have h0:=j0 u hu;have:=ih u.toNat (by lia);rw[show((u.toNat:Nat):Int)=u by lia] at this
  lia
 obtain⟨u,hu,hle,hw⟩:=BL hL r0 h;have e:u=(i:Int):=by have:=low u hu hw;lia
 subst e;cases hf:(js K).find? (fun t=>decide (K.r < (wts K L t:Int))) with
 |none=>exact absurd (Xy.mp hf _ hu) (fun x=>x (decide_eq_true hw))
 |some v=>
  obtain⟨hv,as,bs,ej,hb⟩:=List.find?_eq_some_iff_append.mp hf;have sr:=eA (K.G.map fun g=>g.getD 1 0);rw[show fq (K.G.map fun g=>g.getD 1 0)=js K from rfl,ej] at sr;have h1:=low v (by rw[ej];exact Zz _ Zi) (of_decide_eq_true hv);have hu':=hu;rw[ej] at hu';rcases Zy.mp hu' with x |x
  ·have:=hb _ x;rw[decide_eq_true hw] at this;cases this
  ·rcases Zm.mp x with x |x
   ·rw[x]
   ·have:=(Yj.mp (List.pairwise_append.mp sr).2.1).1 _ x;rw[X2 this h1]
theorem Fv{α:Type}(l:List α)(g:α->Bool)(S:Sto):mK false (l.map fun t=>D.bl (g t)) S=some (.bl (l.any g),S):=by
 unfold mK;rw[if_pos ⟨rfl,by rw[Yx,ZJ];intro x _;rfl⟩,XF];rfl
theorem Fw(hl:K.H.length<=4){m:Int}(q:∀S',Sm S S'->Q (.bl (ou K.H m)) S'):Ok (evC ae (k+1) 12 [meE K,.int m] S) Q:=by
 refine aB (d:=jc) (ρ:=[some (meE K),some (.int m)]) rfl rfl ?_;dsimp only[jc,nV];k_is;refine aa me3 ?_;k_is;refine bu K.H ac (fun z=>[.bl (decide (z.1<=m) && decide (m < z.2))]) (by lia) (fun _ _=>Ze _) cb (fun i z S' hz sm=>⟨_,show aA (.tup [.name 2,.name 3]) (.tup [.int z.1,.int z.2]) _=_ from cE (by simp) (by simp),?_⟩) fun S1 s1=>?_
 ·k_is;cases decide (z.1<=m) with
  |true=>k_is;exact⟨rfl,Sm.refl _⟩
  |false=>k_is;exact⟨rfl,Sm.refl _⟩
 ·rw[bj];refine aa (Fv _ _ _) ?_;k_is;exact q S1 s1
noncomputable def x8:Option Str->D
 |none=>.non
 |some w=>.str w
theorem BN(V:Vd K){L:List (Int × Int)}{n j:Nat}{z:Int × Int}(hn:S[n]?=some (.lst (L.map ac)))(hz:L[j]?=some z)(hL:InG K (L.take j))(z0:0<=z.1)(z1:z.1 < K.G.length)(q:∀S',Sm S S'->Q (x8 (xZ K (L.take j) z)) S'):Ok (evC ae (k+2) 24 [skE K,.ref n,.int j] S) Q:=by
 refine aB (d:=cT) (ρ:=[some (skE K),some (.ref n),some (.int j),none,none,none,none,none,none,none,none,none,none,none,none,none]) rfl rfl ?_;dsimp only[cT,fD];obtain⟨a0,b,c,d,e,f,h,eg,e0,e1,e2,e3,e6,k0,k1,c0⟩:=gl7 V z0 z1;have no:∀ (w:Option Str) S',Sm S S'->xZ K (L.take j) z=w->Q (x8 w) S':=fun w S' s' nk=>by rw[<-nk];exact q S' s'
 rw[show skE K = .tup [meE K,ahE K.ah,.tup (K.G.map av),.tup (K.F.map D.int)] from rfl];unfold xZ at no;rw[e0,e2,e3] at no;k_is;refine aa (bK hn (by lia) (show(L.map ac)[((j:Nat):Int).toNat]?=some (ac z) by rw[Zp,Zn,hz];rfl)) ?_;rw[show ac z = .tup [.int z.1,.int z.2] from rfl];k_is;refine aa (fT z0 eg) ?_;rw[show av [a0,b,c,d,e,f,h] = .tup [.int a0,.int b,.int c,.int d,.int e,.int f,.int h] from rfl];k_is;cases c1:decide (z.2 < c) with
 |true=>rw[c1] at no;k_is;exact no _ S (Sm.refl _) rfl
 |false=>
 rw[c1] at no;k_is;cases c2:decide (d < z.2) with
 |true=>rw[c2] at no;k_is;exact no _ S (Sm.refl _) rfl
 |false=>
 rw[c2] at no;k_is;refine⟨rfl,Fw V.h4 fun S1 s1=>?_⟩;k_is;cases c3:ou K.H z.2 with
 |true=>rw[c3] at no;k_is;exact no _ S1 s1 rfl
 |false=>
 rw[c3] at no;k_is;rw[show D.tup [meE K,ahE K.ah,.tup (K.G.map av),.tup (K.F.map D.int)]=skE K from rfl];refine aa (cL (s1 _ _ hn)) ?_;have s2:Sm S1 (S1++[Ob.lst ((L.map ac).take j)]):=Sm.app _ _;have a2:(S1++[Ob.lst ((L.map ac).take j)])[Zb S1]?=some (Ob.lst ((L.take j).map ac)):=by rw[ag,Yb]
 generalize Zb S1=N at *;generalize S1++[Ob.lst ((L.map ac).take j)]=S2 at *;refine⟨rfl,Bp V a2 hL ?_⟩;refine⟨rfl,Fk V (rO V hL) k0 k1 ?_⟩;k_is;cases c4:decide (z.2 < xR K (e8 K (L.take j)) a0) with
 |true=>rw[c4] at no;k_is;exact no _ S2 (s1.trans s2) rfl
 |false=>rw[c4] at no;k_is;exact no _ S2 (s1.trans s2) rfl
theorem mz(neg:Bool){n:Nat}{is:List Int}(h:S[n]?=some (.lst (is.map D.int)))(i:Int):inS neg (.int i) (.ref n) S=some (.bl (neg != decide (i ∈ is)),S):=by
 have:=pP neg is i S;unfold inS at this ⊢;have e:al (.ref n) S=some (false,is.map D.int):=by simp only[al,ak h,Zr]
 rw[e];exact this
theorem BO{n:Nat}{ds:List D}{tg:Tg}{b:XS}{ρ:Rho}{Q:Fl->Rho->Sto->Prop}(hl:ds.length<=100000)(I:Nat->Rho->Sto->Prop)(hI:∀i ρ S',I i ρ S'->S'[n]?=some (.lst ds))
  (step:∀ (i:Nat) d ρ S',ds[i]?=some d->I i ρ S'->∃ρ1,aA tg (.tup [.int i,d]) ρ=some ρ1/\OkS (b ρ1 S') fun fl ρ2 S2=>match fl with |.nx=>I (i+1) ρ2 S2 |.ct=>I (i+1) ρ2 S2 |.bk=>Q .nx ρ2 S2 |.rt d=>Q (.rt d) ρ2 S2)
  (q:∀ρ S',I ds.length ρ S'->Q .nx ρ S') (h0:I 0 ρ S):OkS (dN (xh n) tg b LF 0 ρ S) Q:=by
 refine iz ds.length I (by unfold LF;lia) (fun i ρ S' hi iv=>?_) (fun ρ S' iv=>⟨?_,q ρ S' iv⟩) h0
 ·obtain⟨ρ1,e2,z⟩:=step i ds[i] ρ S' (gEG hi) iv;refine⟨.tup [.int i,ds[i]],ρ1,?_,e2,z⟩;show(am S' n).bind (fun ds=>enm ds i)=_;rw[ak (hI i ρ S' iv)];show enm ds i=_;unfold enm;rw[if_pos (by lia),gEG hi];rfl
 ·show(am S' n).bind (fun ds'=>enm ds' ds.length)=_;rw[ak (hI _ ρ S' iv)];show enm ds ds.length=_;unfold enm;rw[if_pos (Ze _),ZB (Ze _)];rfl
theorem mB{L:List (Int × Int)}{j:Nat}{z:Int × Int}(hz:L[j]?=some z):(L.map ac)[((j:Nat):Int).toNat]?=some (ac z):=by rw[Zp,Zn,hz];rfl
theorem bt:aw .isnot d .non S=some (.bl (!bF d),S):=by
 show isB true d .non S=_;unfold isB;cases d <;> rfl
theorem qa:aw .is d .non S=some (.bl (bF d),S):=by
 show isB false d .non S=_;unfold isB;cases d <;> rfl
noncomputable def Lm:Option Nat->D
 |none=>.non
 |some g=>.int g
noncomputable def Ln:Option Int->D
 |none=>.non
 |some g=>.int g
theorem BP{j:Nat}(hz:L[j]?=some z)(h:jp K L j=none):bV K (L.take j) j z=none:=by
 unfold jp at h;rw[hz,Ys,Option.map_eq_none_iff] at h;exact h
theorem Fx{j:Nat}(h:fU K L j=some d):∃g,d = .int g:=by
 unfold fU at h;cases hz:L[j]? with
 |none=>rw[hz] at h;cases h
 |some z=>
  rw[hz,Ys] at h;cases c:dZ K (L.take j) z.1 z.2 with
  |false=>rw[c] at h;cases h
  |true=>rw[c] at h;cases h;exact⟨_,rfl⟩
theorem iC{L:List (Int × Int)}:(L.map fun z=>D.int z.1)=(L.map (·.1)).map D.int:=by rw[Z3];rfl
theorem Fy(V:Vd K){L:List (Int × Int)}{n j:Nat}{z:Int × Int}(hn:S[n]?=some (.lst (L.map ac)))(hl:L.length<=20)(hz:L[j]?=some z)(hL:InG K (L.take j))(q:∀S',Sm S S'->Q (x8 (bV K (L.take j) j z)) S'):Ok (evC ae (k+3) 23 [skE K,.ref n,.int j] S) Q:=by
 refine aB (d:=cy) (ρ:=[some (skE K),some (.ref n),some (.int j),none,none,none,none,none]) rfl rfl ?_;dsimp only[cy,eU];have no:∀ (w:Option Str) S',Sm S S'->bV K (L.take j) j z=w->Q (x8 w) S':=fun w S' s' nk=>by rw[<-nk];exact q S' s'
 unfold bV at no;rw[show skE K = .tup [meE K,ahE K.ah,.tup (K.G.map av),.tup (K.F.map D.int)] from rfl];k_is;refine aa (bK hn (by lia) (mB hz)) (aa (show ixS (ac z) (.int 0) S=some (.int z.1,S) from rfl) ?_);k_is;cases c1:decide (0<=z.1) with
 |false=>rw[c1] at no;k_is;exact no _ S (Sm.refl _) rfl
 |true=>
 rw[c1] at no;k_is;refine aa aZ ?_;k_is;cases c2:decide (z.1 < (K.G.length:Int)) with
 |false=>rw[c2] at no;k_is;exact no _ S (Sm.refl _) rfl
 |true=>
 rw[c2] at no;k_is;refine aa (cL hn) ?_;have s1:Sm S (S++[Ob.lst ((L.map ac).take j)]):=Sm.app _ _;have a1:(S++[Ob.lst ((L.map ac).take j)])[Zb S]?=some (Ob.lst ((L.take j).map ac)):=by rw[ag,Yb]
 generalize Zb S=N at *;generalize S++[Ob.lst ((L.map ac).take j)]=S1 at *;k_is;refine⟨by rw[ak a1];rfl,?_⟩;have lt:(L.take j).length<=20:=by rw[Zs];lia
 refine bu (L.take j) ac (fun z=>[.int z.1]) (by lia) (fun _ _=>Ze _) (cV a1) (fun i y S' hy sm=>⟨_,show aA (.tup [.name 8,.name 9]) (.tup [.int y.1,.int y.2]) _=_ from cE (by simp) (by simp),?_⟩) fun S2 s2=>?_
 ·k_is;exact⟨rfl,Sm.refl _⟩
 ·rw[bj,iC];k_is;have s3:Sm S2 (S2++[Ob.lst (((L.take j).map (·.1)).map D.int)]):=Sm.app _ _;refine aa (show aw .isin (.int z.1) (.ref (Zb S2)) (S2++[Ob.lst (((L.take j).map (·.1)).map D.int)])=some (.bl (false != decide (z.1 ∈ (L.take j).map (·.1))),_) from mz false ag z.1) ?_;have sA:=(s1.trans s2).trans s3;generalize S2++[Ob.lst (((L.take j).map (·.1)).map D.int)]=S3 at *;k_is;cases c3:decide (z.1 ∈ (L.take j).map (·.1)) with
  |true=>rw[c3] at no;k_is;exact no _ S3 sA rfl
  |false=>
  rw[c3] at no;k_is
  have rest:(K.F[j]?).any (fun f=>!decide (z.1=f))=false->Ok (evC ae (k+2) 24 [skE K,.ref n,.int j] S3) Q:=fun hf=>
   BN V (sA _ _ hn) hz hL (of_decide_eq_true c1) (of_decide_eq_true c2) fun S4 s4=>no _ S4 (sA.trans s4) (by rw[hf];rfl)
  refine aa aZ ?_;k_is;by_cases hj:j < K.F.length
  ·rw[decide_eq_true (show(j:Int) < K.F.length by lia)];k_is;refine aa (mr (ds:=K.F.map D.int) (i:=(j:Int)) (d:=.int K.F[j]) (by lia) (by rw[Zp,Zn,gEG hj];rfl)) ?_;k_is;cases c4:decide (z.1=K.F[j]) with
   |false=>k_is;exact no (some "order") S3 sA (by rw[gEG hj,Y9,c4];rfl)
   |true=>k_is;exact⟨rfl,rest (by rw[gEG hj,Y9,c4];rfl)⟩
  ·rw[decide_eq_false (show ¬ (j:Int) < K.F.length by lia)];k_is;exact⟨rfl,rest (by rw[ZB (by lia)];rfl)⟩
theorem Fz(V:Vd K){L:List (Int × Int)}{n:Nat}(hn:S[n]?=some (.lst (L.map ac)))(hl:L.length<=20)(q:∀S',Sm S S'->Q (Lm ((Zj K.G.length).find? fun(g:Nat)=>!decide ((g:Int) ∈ L.map (·.1)))) S'):Ok (evC ae (k+1) 27 [skE K,.ref n] S) Q:=by
 refine aB (d:=cA) (ρ:=[some (skE K),some (.ref n),none,none]) rfl rfl ?_;dsimp only[cA,eW];have g7:=V.g7;k_is;refine⟨by rw[ak hn];rfl,?_⟩;refine bu L ac (fun z=>[.int z.1]) (by lia) (fun _ _=>Ze _) (cV hn) (fun i y S' hy sm=>⟨_,show aA (.tup [.name 4,.name 5]) (.tup [.int y.1,.int y.2]) _=_ from cE (by simp) (by simp),?_⟩) fun S2 s2=>?_
 ·k_is;exact⟨rfl,Sm.refl _⟩
 ·rw[bj,iC];k_is;have s3:Sm S2 (S2++[Ob.lst ((L.map (·.1)).map D.int)]):=Sm.app _ _;have a3:(S2++[Ob.lst ((L.map (·.1)).map D.int)])[Zb S2]?=some (.lst ((L.map (·.1)).map D.int)):=ag;have sA:=s2.trans s3;generalize S2++[Ob.lst ((L.map (·.1)).map D.int)]=S3 at *;generalize Zb S2=N at *;refine aa sk2 (aa aZ ?_);k_is;refine⟨dG (by lia) (by lia),?_⟩;rw[Zp];refine eZ (by lia) (fun i ρ S'=>S'=S3/\(∃u,ρ=[some (skE K),some (.ref n),some (.ref N),u])/\∀g:Nat,g < i->(g:Int) ∈ L.map (·.1)) (fun i ρ S' hi hq1=>?_) (fun ρ S' hq2=>?_) ⟨rfl,⟨_,rfl⟩,fun g hg=>absurd hg (Yh g)⟩
  ·obtain⟨e,⟨u,er⟩,ih⟩:=hq1;subst e er;refine⟨_,rfl,?_⟩;k_is;rw[YD];refine aa (show aw .notin (.int (i:Int)) (.ref N) S'=some (.bl (true != decide ((i:Int) ∈ L.map (·.1))),S') from mz true a3 (i:Int)) ?_;k_is;cases c:decide ((i:Int) ∈ L.map (·.1)) with
   |true=>
    k_is;refine⟨rfl,⟨_,rfl⟩,fun g hg=>?_⟩;by_cases e:g=i
    ·rw[e];exact of_decide_eq_true c
    ·exact ih g (by lia)
   |false=>
    k_is;have hf:((Zj K.G.length).find? fun(g:Nat)=>!decide ((g:Int) ∈ L.map (·.1)))=some i:=BI (GI hi) (by rw[c];rfl) fun j x hj hx=>by rw[(GH hx).1,decide_eq_true (ih j hj)];rfl
    have q:=q S' sA;rw[hf] at q;exact q
  ·obtain⟨e,⟨u,er⟩,ih⟩:=hq2;subst e er;k_is;have hf:((Zj K.G.length).find? fun(g:Nat)=>!decide ((g:Int) ∈ L.map (·.1)))=none:=BJ fun x hx=>by rw[decide_eq_true (ih x (Z2.mp hx))];rfl
   have q:=q S' sA;rw[hf] at q;exact q
theorem BQ(V:Vd K){n:Nat}(hn:S[n]?=some (.lst (L.map ac)))(hl:L.length<=20)(hL:InG K L)(q:∀S',Sm S S'->Q (Ln ((js K).find? fun t=>decide (K.r < (wts K L t:Int)))) S'):Ok (evC ae (k+3) 31 [skE K,.ref n] S) Q:=by
 refine aB (d:=cC) (ρ:=[some (skE K),some (.ref n),none]) rfl rfl ?_;dsimp only[cC,eY];k_is;refine⟨rfl,rN V fun S1 s1 a1 _=>?_⟩;k_is;generalize Zb S1 - 1=N at *;refine⟨by rw[ak a1];rfl,?_⟩;have lj:(js K).length<=7:=by rw[Bt];exact V.g7
 refine BG (by rw[Za];lia) (fun i ρ S'=>Sm S1 S'/\(∃u,ρ=[some (skE K),some (.ref n),u])/\∀ (j:Nat) t,j < i->(js K)[j]?=some t->decide (K.r < (wts K L t:Int))=false) (fun i ρ S' iv=>iv.1 _ _ a1) (fun i d ρ S2 hd hq1=>?_) (fun ρ S2 hq2=>?_) ⟨Sm.refl _,⟨_,rfl⟩,fun j t hj=>absurd hj (Yh j)⟩
 ·obtain⟨s2,⟨u,er⟩,ih⟩:=hq1;subst er;obtain⟨t,ht,rfl⟩:=mv hd;refine⟨_,rfl,?_⟩;k_is;refine⟨rfl,Bq V (s2 _ _ (s1 _ _ hn)) hL (by lia) fun S3 s3=>?_⟩;refine aa sk0 (aa me0 ?_);k_is;cases c:decide (K.r < (wts K L t:Int)) with
  |true=>k_is;have q:=q S3 ((s1.trans s2).trans s3);rw[BI ht c ih] at q;exact q
  |false=>
   k_is;refine⟨s2.trans s3,⟨_,rfl⟩,fun j t' hj ht'=>?_⟩;by_cases e:j=i
   ·subst e;rw[ht] at ht';cases ht';exact c
   ·exact ih j t' (by lia) ht'
 ·obtain⟨s2,⟨u,er⟩,ih⟩:=hq2;subst er;k_is;have q:=q S2 (s1.trans s2)
  rw[BJ fun t ht=>by
   obtain⟨j,hj⟩:=Yc ht;exact ih j t (by rw[Za];exact(Zc.mp hj).1) hj] at q
  exact q
theorem BR(V:Vd K){L:List (Int × Int)}{n:Nat}(hn:S[n]?=some (.lst (L.map ac)))(hl:L.length<=20)(hL:InG K L)(q:∀S',Sm S S'->Q (((Zj L.length).findSome? (fU K L)).getD .non) S'):Ok (evC ae (k+5) 32 [skE K,.ref n] S) Q:=by
 refine aB (d:=b9) (ρ:=[some (skE K),some (.ref n),none,none]) rfl rfl ?_;dsimp only[b9,dS];k_is;refine⟨by rw[ak hn];rfl,?_⟩;refine BO (by rw[Za];lia) (fun i ρ S'=>Sm S S'/\(∃u v,ρ=[some (skE K),some (.ref n),u,v])/\∀j:Nat,j < i->fU K L j=none) (fun i ρ S' iv=>iv.1 _ _ hn) (fun i d ρ S2 hd hq1=>?_) (fun ρ S2 hq2=>?_) ⟨Sm.refl _,⟨_,_,rfl⟩,fun j hj=>absurd hj (Yh j)⟩
 ·obtain⟨s2,⟨u,v,er⟩,ih⟩:=hq1;subst er;obtain⟨z,hz,rfl⟩:=mv hd;refine⟨_,cE (by simp) (by simp),?_⟩;k_is;refine⟨rfl,Fn (k:=k) V (s2 _ _ hn) hz hL (by lia) fun S3 s3=>?_⟩;rw[Fj fun y hy=>ul (hL y (ZS hy)).1 (hL y (ZS hy)).2];k_is;cases c:dZ K (L.take i) z.1 z.2 with
  |true=>
   k_is;refine aa (show ixS (ac z) (.int 0) S3=some (.int z.1,S3) from rfl) ?_;have q:=q S3 (s2.trans s3);rw[p0 (f:=fU K L) (Zc.mp hz).1 (by unfold fU;rw[hz,Ys,c];rfl) ih] at q;exact q
  |false=>
   k_is;refine⟨s2.trans s3,⟨_,_,rfl⟩,fun j hj=>?_⟩;by_cases e:j=i
   ·subst e;unfold fU;rw[hz,Ys,c];rfl
   ·exact ih j (by lia)
 ·obtain⟨s2,⟨u,v,er⟩,ih⟩:=hq2;subst er;k_is;have q:=q S2 s2;rw[p9 (f:=fU K L) fun j hj=>ih j (by rw[Za];exact hj)] at q;exact q
theorem iE{i:Nat}(h:∀j:Nat,j < i->jp K L j=none):InG K (L.take i):=fun z hz=>by
 obtain⟨j,hj⟩:=Yc hz;have hl:=(Zc.mp hj).1;rw[Zs] at hl;rw[YF (by lia)] at hj;exact vU (BP hj (h j (by lia)))
theorem BS(V:Vd K){L:List (Int × Int)}{n:Nat}(hn:S[n]?=some (.lst (L.map ac)))(hl:L.length<=20)(q:∀S',Sm S S'->Q (amF K L) S'):Ok (evC ae (k+6) 22 [skE K,.ref n] S) Q:=by
 refine aB (d:=dz) (ρ:=[some (skE K),some (.ref n),none,none,none,none,none]) rfl rfl ?_;dsimp only[dz,gA];unfold amF at q;k_is;refine aa (cM hn) ?_;k_is;rw[Za];refine⟨dG (by lia) (by lia),?_⟩;rw[Zp];refine eZ (by lia) (fun i ρ S'=>Sm S S'/\(∃u v,ρ=[some (skE K),some (.ref n),u,v,none,none,none])/\∀j:Nat,j < i->jp K L j=none) (fun i ρ S1 hi hq1=>?_) (fun ρ S1 hq2=>?_) ⟨Sm.refl _,⟨_,_,rfl⟩,fun j hj=>absurd hj (Yh j)⟩
 ·obtain⟨s1,⟨u,v,er⟩,ih⟩:=hq1;subst er;have hz:L[i]?=some L[i]:=gEG hi;refine⟨_,rfl,?_⟩;k_is;rw[YD];refine⟨rfl,Fy (k:=k+2) V (s1 _ _ hn) hl hz (iE ih) fun S2 s2=>?_⟩;have ew:jp K L i=(bV K (L.take i) i L[i]).map fun w=>.tup [.str w,.int L[i].1]:=by unfold jp;rw[hz];rfl
  cases c:bV K (L.take i) i L[i] with
  |some w=>
   k_is;refine aa bt ?_;rw[show bF (x8 (some w))=false from rfl];k_is;refine aa (bK (s2 _ _ (s1 _ _ hn)) (by lia) (mB hz)) (aa (show ixS (ac L[i]) (.int 0) S2=some (.int L[i].1,S2) from rfl) ?_);k_is;have q:=q S2 (s1.trans s2);rw[c] at ew;rw[p0 hi ew ih] at q;exact q
  |none=>
   k_is;refine aa bt ?_;rw[show bF (x8 none)=true from rfl];k_is;refine⟨s1.trans s2,⟨_,_,rfl⟩,fun j hj=>?_⟩;by_cases e:j=i
   ·rw[e,ew,c];rfl
   ·exact ih j (by lia)
 ·obtain⟨s1,⟨u,v,er⟩,ih⟩:=hq2;subst er;have hL:InG K L:=by have:=iE ih;rw[YC] at this;exact this
  rw[p9 ih] at q;dsimp only at q;k_is;refine⟨rfl,Fz (k:=k+4) V (s1 _ _ hn) hl fun S2 s2=>?_⟩;cases c2:(Zj K.G.length).find? fun(g:Nat)=>!decide ((g:Int) ∈ L.map (·.1)) with
  |some g=>
   rw[c2] at q;k_is;refine aa bt ?_;rw[show bF (Lm (some g))=false from rfl];k_is;exact q S2 (s1.trans s2)
  |none=>
  rw[c2] at q;dsimp only at q;k_is;refine aa bt ?_;rw[show bF (Lm none)=true from rfl];k_is;refine⟨rfl,BQ (k:=k+2) V (s2 _ _ (s1 _ _ hn)) hl hL fun S3 s3=>?_⟩;cases c3:(js K).find? fun t=>decide (K.r < (wts K L t:Int)) with
  |some t=>
   rw[c3] at q;k_is;refine aa bt ?_;rw[show bF (Ln (some t))=false from rfl];k_is;exact q S3 ((s1.trans s2).trans s3)
  |none=>
  rw[c3] at q;dsimp only at q;k_is;refine aa bt ?_;rw[show bF (Ln none)=true from rfl];k_is;refine⟨rfl,BR (k:=k) V (s3 _ _ (s2 _ _ (s1 _ _ hn))) hl hL fun S4 s4=>?_⟩;k_is;refine aa bt ?_;cases c4:(Zj L.length).findSome? (fU K L) with
  |some d=>
   rw[c4] at q;obtain⟨j,_,hj⟩:=Yn c4;obtain⟨g,rfl⟩:=Fx hj;rw[show bF ((some (D.int g)).getD .non)=false from rfl];k_is;exact q S4 (((s1.trans s2).trans s3).trans s4)
  |none=>
   rw[c4] at q;rw[show bF ((none:Option D).getD .non)=true from rfl];k_is;exact q S4 (((s1.trans s2).trans s3).trans s4)
noncomputable def prT:Dw.D->Bool
 |.tup [a,b]=>Dw.isW a && Dw.isW b
 |_=>false
theorem Lo(h:ts.length ≠ 2):prT (.tup ts)=false:=by
 unfold prT;split
 ·rename_i e;cases e;exact absurd rfl h
 ·rfl
theorem TD.lst(h:TD p S (.lst ts) d):∃n ds,d = .ref n/\n ≠ p/\S[n]?=some (.lst ds)/\TDs p S ts ds:=by rw[TD] at h;exact h
theorem FA(h:TD p S t d)(q:Q (.bl (prT t)) S):Ok (evC ae (k+2) 21 [d] S) Q:=by
 refine aB (d:=jd) (ρ:=[some d]) rfl rfl ?_;dsimp only[jd,nW];k_is;refine⟨rfl,rJ h ?_⟩;k_is;cases t with
 |tup ts=>
  obtain⟨ds,rfl,hs⟩:=h.tup;rw[Dw.Hv];by_cases hl:ts.length=2
  ·obtain⟨b,e,rfl⟩:=Dw.Hw hl;rw[decide_eq_true hl];k_is;refine Gn (i:=0) hs rfl fun d1 t1=>⟨rfl,mo t1 ?_⟩;k_is;have eq:prT (.tup [b,e])=(Dw.isW b && Dw.isW e):=rfl;rw[eq] at q;cases c:Dw.isW b with
   |false=>rw[c] at q;k_is;exact q
   |true=>
    rw[c] at q;k_is;exact Gn (i:=1) hs rfl fun d2 t2=>⟨rfl,mo t2 q⟩
  ·rw[decide_eq_false hl];k_is;rw[Lo hl] at q;exact q
 |_=>exact q
noncomputable def psT:Dw.D->Bool
 |.lst ts=>decide (ts.length<=20) && ts.all prT
 |_=>false
theorem BT(h:TD p S t d)(hl:∀ts,t = .lst ts->ts.length<=1000)(q:∀S',Sm S S'->Q (.bl (psT t)) S'):Ok (evC ae (k+3) 20 [d] S) Q:=by
 refine aB (d:=fK) (ρ:=[some d]) rfl rfl ?_;dsimp only[fK,jG];k_is;refine aa (kc h) ?_;k_is;cases t with
 |lst ts=>
  have lt:=hl ts rfl;obtain⟨n,ds,rfl,nn,hn,hs⟩:=TD.lst h;rw[show(eT .list (tyT (.lst ts)))=true from rfl];k_is;refine aa (cM hn) ?_;k_is;rw[hs.len];have eq:psT (.lst ts)=(decide (ts.length<=20) && ts.all prT):=rfl;rw[eq] at q;by_cases h20:ts.length<=20
  ·rw[decide_eq_false (show ¬ (20:Int) < ts.length by lia)];rw[decide_eq_true h20,Xr] at q;k_is;refine⟨by rw[ak hn];rfl,?_⟩;refine dF ts.length (fun i=>(ds[i]?).getD .non) (fun i acc S'=>S'=S/\acc=(ts.take i).map fun t=>D.bl (prT t)) (fun i acc S' hi ⟨e,_⟩=>by subst e;rw[<-hs.len];exact jj hn _ om) (by lia) (fun i acc S1 hi ⟨e,ea⟩=>?_) (fun es S1 ⟨e,ea⟩=>⟨by rw[ea,Za,Zs];lia,?_⟩) ⟨rfl,rfl⟩
   ·subst e;obtain⟨d,hd,td⟩:=hs.get (gEG hi);simp only[hd,ZR];refine⟨_,rfl,?_⟩;k_is;refine⟨rfl,FA td ⟨rfl,?_⟩⟩;rw[ea,ZL hi,Zv];rfl
   ·subst e;rw[YC] at ea;subst ea;refine aa (kf _ _ _) ?_;k_is;exact q S1 (Sm.refl _)
  ·rw[decide_eq_true (show(20:Int) < ts.length by lia)];rw[decide_eq_false h20,Xe] at q;k_is;exact q S (Sm.refl _)
 |_=>exact q S (Sm.refl _)
theorem vV:∀ {ts:List Dw.D},ts.all prT=true->∃L:List (Int × Int),ts=L.map Dw.bZ
 |[],_=>⟨[],rfl⟩
 |t::ts,h=>by
  rw[Z8,bAE] at h;obtain⟨L,e⟩:=vV h.2;have h1:=h.1;unfold prT at h1;split at h1
  ·rename_i a b;rw[bAE] at h1;cases a <;> simp[Dw.isW] at h1;cases b <;> simp[Dw.isW] at h1;rename_i i j;exact⟨(i,j)::L,by rw[e];rfl⟩
  ·cases h1
theorem ow:∀ {L:List (Int × Int)} {ds:List D},TDs p S (L.map Dw.bZ) ds->ds=L.map ac
 |[],ds,h=>h.nil
 |z::L,ds,h=>by
  obtain⟨d,r,rfl,h1,h2⟩:=TDs.cons h;obtain⟨es,rfl,h3⟩:=h1.tup;obtain⟨d1,r1,rfl,a1,h4⟩:=h3.cons;obtain⟨d2,r2,rfl,a2,h5⟩:=h4.cons;rw[h5.nil,a1.int,a2.int,ow h2];rfl
theorem Lp{i:Int}(h0:-1000<=i)(h1:i < 100000):lim i=true:=by simp only[lim,bAE,decide_eq_true_eq];omega
theorem oz(V:Vd K){z:Int × Int}{t:Int}(h0:0<=z.1)(h1:z.1 < K.G.length)(q:Q (.bl (ax K t z)) S):Ok (evC ae (k+1) 47 [skE K,ac z,.int t] S) Q:=by
 refine aB (d:=fO) (ρ:=[some (skE K),some (ac z),some (.int t)]) rfl rfl ?_;dsimp only[fO,jK];k_is;obtain⟨a,b,c,d,e,f,h,eg,_,e1,_⟩:=gl7 V h0 h1;refine aa sk2 (aa (show ixS (ac z) (.int 0) S=some (.int z.1,S) from rfl) (aa (fT h0 eg) (aa (show ixS (av [a,b,c,d,e,f,h]) (.int 1) S=some (.int b,S) from rfl) ?_)));k_is;have ew:ax K t z=(decide (b<=t) && decide (t < z.2 - K.s)):=by unfold ax jn;rw[e1]
 rw[ew] at q;cases c1:decide (b<=t) with
 |false=>rw[c1] at q;k_is;exact q
 |true=>
  rw[c1] at q;k_is;refine aa (show ixS (ac z) (.int 1) S=some (.int z.2,S) from rfl) (aa sk0 (aa me1 ?_));k_is;exact q
theorem GJ{A:List (Int × Int)}{n:Nat}{t:Int}{ρ:Rho}{cc:XA}{i:Nat}{Q:List D->Sto->Prop}(hn:S[n]?=some (.lst (A.map ac)))(hl:A.length<=20)
  (step:∀z S',z ∈ A->Sm S S'->∃ρ1,aA (.name i) (ac z) ρ=some ρ1/\Ok (cc ρ1 S') fun es S1=>es=(if ax K t z=true then [ac z] else [])/\Sm S' S1)
  (q:∀ds S',Sm S S'->ds.length=wts K A t->Q ds S'):Ok (bb (nxS n) (.name i) cc ρ LF 0 S) fun es S2=>es.length<=100000/\Q es S2:=by
 refine bu A ac (fun z=>if ax K t z=true then [ac z] else []) (by omega) (fun z _=>by split <;> simp) (cV hn) (fun i z S' hz sm=>step z S' (Zf hz) sm) fun S' sm=>?_;rw[bN];exact q _ S' sm (by rw[Za];rfl)
theorem BU(V:Vd K){L:List (Int × Int)}{n j:Nat}{z:Int × Int}(hn:S[n]?=some (.lst (L.map ac)))(hl:L.length<=20)(hz:L[j]?=some z)(hL:InG K (L.take j))(j0:0<=jn K z.1)(j1:jn K z.1<=9999)(m1:z.2<=9999)(m0:0<=z.2)
  (q:∀v S',Sm S S'->(∀r:Int,0<=r->(r < v ↔ ∃t,jn K z.1<=t/\t < z.2 - K.s/\r < 1+(wts K (L.take j) t:Int)))->Q (.int v) S'):Ok (evC ae (k+2) 48 [skE K,.ref n,.int j,.int (jn K z.1)] S) Q:=by
 refine aB (d:=gX) (ρ:=[some (skE K),some (.ref n),some (.int j),some (.int (jn K z.1)),none,none]) rfl rfl ?_;dsimp only[gX,lZ];have s0:=V.s0;have s60:=V.s60;k_is;refine aa (bK hn (by omega) (mB hz)) (aa (show ixS (ac z) (.int 1) S=some (.int z.2,S) from rfl) (aa sk0 (aa me1 ?_)));k_is;refine⟨⟨Lp (by omega) (by omega),Lp (by omega) (by omega)⟩,?_⟩;generalize hJ:jn K z.1=J at *;refine eZ (by omega) (fun i ρ S'=>Sm S S'/\∃ (v:Int) (u:Option D),ρ=[some (skE K),some (.ref n),some (.int j),some (.int J),some (.int v),u]/\∀r:Int,0<=r->(r < v ↔ ∃t,J<=t/\t < J+(i:Int)/\r < 1+(wts K (L.take j) t:Int))) (fun i ρ S1 hi hq1=>?_) (fun ρ S1 hq2=>?_) ⟨Sm.refl _,0,none,rfl,fun r r0=>⟨fun h=>by omega,fun⟨t,h1,h2,_⟩=>by omega⟩⟩
 ·obtain⟨s1,v,u,er,ih⟩:=hq1;subst er;refine⟨_,rfl,?_⟩;k_is;refine aa (cL (s1 _ _ hn)) ?_;have s2:Sm S1 (S1++[Ob.lst ((L.map ac).take j)]):=Sm.app _ _;have a2:(S1++[Ob.lst ((L.map ac).take j)])[Zb S1]?=some (Ob.lst ((L.take j).map ac)):=by rw[ag,Yb]
  generalize Zb S1=N at *;generalize S1++[Ob.lst ((L.map ac).take j)]=S2 at *;k_is;refine⟨by rw[ak a2];rfl,?_⟩;refine GJ (K:=K) (t:=J+(i:Int)) a2 (by rw[Zs];omega) (fun y S' hy sm=>⟨_,rfl,?_⟩) fun ds S3 s3 ld=>?_
  ·k_is;refine⟨rfl,oz V (hL y hy).1 (hL y hy).2 ?_⟩;k_is;cases ax K (J+(i:Int)) y with
   |true=>k_is;exact⟨rfl,Sm.refl _⟩
   |false=>k_is;exact⟨rfl,Sm.refl _⟩
  ·refine aa (show b7 false ds S3=some (.int ds.length,S3) from rfl) ?_;k_is;rw[ld];refine⟨(s1.trans s2).trans s3,_,_,rfl,fun r r0=>?_⟩;have ih:=ih r r0;have e:(r < if (1+(wts K (L.take j) (J+(i:Int)):Int)) > v then (1+(wts K (L.take j) (J+(i:Int)):Int)) else v) ↔ (r < v\/r < 1+(wts K (L.take j) (J+(i:Int)):Int)):=by split <;> omega
   rw[e,ih];constructor
   ·rintro(⟨t,h1,h2,h3⟩ |h)
    ·exact⟨t,h1,by omega,h3⟩
    ·exact⟨J+(i:Int),by omega,by omega,h⟩
   ·rintro⟨t,h1,h2,h3⟩;by_cases ht:t=J+(i:Int)
    ·exact .inr (by rw[<-ht];exact h3)
    ·exact .inl ⟨t,h1,by omega,h3⟩
 ·obtain⟨s1,v,u,er,ih⟩:=hq2;subst er;k_is;refine q v S1 s1 fun r r0=>(ih r r0).trans ⟨fun⟨t,h1,h2,h3⟩=>⟨t,h1,?_,h3⟩,fun⟨t,h1,h2,h3⟩=>⟨t,h1,?_,h3⟩⟩
  ·by_cases hh:0<=z.2 - K.s - J
   ·omega
   ·omega
  ·omega
theorem BV{m:Int}:((K.H.filter fun z=>decide (z.1<=m) && decide (m < z.2)).map fun z=>D.int z.1).isEmpty = !ou K.H m:=by
 unfold ou;generalize K.H=H
 induction H with
 |nil=>rfl
 |cons a H ih=>
  rw[YK,Yy];cases decide (a.1<=m) && decide (m < a.2) with
  |true=>rfl
  |false=>exact ih
noncomputable def dW(z:Int × Int):Option Str->D
 |none=>.non
 |some w=>.tup [.str w,.int z.1]
theorem FC(V:Vd K){L:List (Int × Int)}{n j:Nat}{z:Int × Int}(hn:S[n]?=some (.lst (L.map ac)))(hl:L.length<=20)(hz:L[j]?=some z)(hL:InG K (L.take j))(q:∀S',Sm S S'->Q (dW z (bV K (L.take j) j z)) S'):Ok (evC ae (k+1) 49 [skE K,.ref n,.int j] S) Q:=by
 refine aB (d:=cD) (ρ:=[some (skE K),some (.ref n),some (.int j),none,none,none]) rfl rfl ?_;dsimp only[cD,aW];have no:∀ (w:Option Str) S',Sm S S'->bV K (L.take j) j z=w->Q (dW z w) S':=fun w S' s' nk=>by rw[<-nk];exact q S' s'
 unfold bV at no;k_is;refine aa (bK hn (by omega) (mB hz)) ?_;rw[show ac z = .tup [.int z.1,.int z.2] from rfl];k_is;cases c1:decide (0<=z.1) with
 |false=>rw[c1] at no;k_is;exact no _ S (Sm.refl _) rfl
 |true=>
 rw[c1] at no;k_is;refine aa sk2 (aa aZ ?_);k_is;cases c2:decide (z.1 < (K.G.length:Int)) with
 |false=>rw[c2] at no;k_is;exact no _ S (Sm.refl _) rfl
 |true=>
 rw[c2] at no;have z0:=of_decide_eq_true c1;have z1:=of_decide_eq_true c2;obtain⟨a0,b,c,d,e,f,h,eg,e0,e1,e2,e3,e6,k0,k1,c0⟩:=gl7 V z0 z1;unfold xZ at no;rw[e0,e2,e3] at no;k_is;refine aa (cL hn) ?_;have s1:Sm S (S++[Ob.lst ((L.map ac).take j)]):=Sm.app _ _;have a1:(S++[Ob.lst ((L.map ac).take j)])[Zb S]?=some (Ob.lst ((L.take j).map ac)):=by rw[ag,Yb]
 generalize Zb S=N at *;generalize S++[Ob.lst ((L.map ac).take j)]=S1 at *;k_is;refine⟨by rw[ak a1];rfl,?_⟩;have lt:(L.take j).length<=20:=by rw[Zs];omega
 refine bu (L.take j) ac (fun z=>[.int z.1]) (by omega) (fun _ _=>Ze _) (cV a1) (fun i y S' hy sm=>⟨_,rfl,?_⟩) fun S2 s2=>?_
 ·k_is;exact aa (show ixS (ac y) (.int 0) S'=some (.int y.1,S') from rfl) ⟨rfl,Sm.refl _⟩
 rw[bj,iC];k_is;have s3:Sm S2 (S2++[Ob.lst (((L.take j).map (·.1)).map D.int)]):=Sm.app _ _;refine aa (show aw .isin (.int z.1) (.ref (Zb S2)) (S2++[Ob.lst (((L.take j).map (·.1)).map D.int)])=some (.bl (false != decide (z.1 ∈ (L.take j).map (·.1))),_) from mz false ag z.1) ?_;have sA:=(s1.trans s2).trans s3;generalize S2++[Ob.lst (((L.take j).map (·.1)).map D.int)]=S3 at *;k_is;cases c3:decide (z.1 ∈ (L.take j).map (·.1)) with
 |true=>rw[c3] at no;k_is;exact no _ S3 sA rfl
 |false=>
 rw[c3] at no;k_is;refine aa sk3 (aa aZ ?_);k_is
 have rest:(K.F[j]?).any (fun f=>!decide (z.1=f))=false->rW (wSs (evC ae k) (cu ae) 56 (aW.drop 4)) [some (skE K),some (.ref n),some (.int j),some (.int z.1),some (.int z.2),none] S3 (out Q):=fun hf=>by
  rw[hf] at no;dsimp only[aW,Z5];k_is;have g2:∀S,ixS (av [a0,b,c,d,e,f,h]) (.int 2) S=some (.int c,S):=fun _=>rfl;have g3:∀S,ixS (av [a0,b,c,d,e,f,h]) (.int 3) S=some (.int d,S):=fun _=>rfl;have g0:∀S,ixS (av [a0,b,c,d,e,f,h]) (.int 0) S=some (.int a0,S):=fun _=>rfl;refine aa sk2 (aa (fT z0 eg) (aa (g2 _) ?_));k_is;cases c4:decide (z.2 < c) with
  |true=>rw[c4] at no;k_is;exact no _ S3 sA rfl
  |false=>
  rw[c4] at no;k_is;refine aa sk2 (aa (fT z0 eg) (aa (g3 _) ?_));k_is;cases c5:decide (d < z.2) with
  |true=>rw[c5] at no;k_is;exact no _ S3 sA rfl
  |false=>
  rw[c5] at no;k_is;refine aa sk0 (aa me3 ?_);k_is;refine bu K.H ac (fun y=>if (decide (y.1<=z.2) && decide (z.2 < y.2))=true then [.int y.1] else []) (by have:=V.h4;omega) (fun y _=>by split <;> simp) cb (fun i y S' hy sm=>⟨_,show aA (.tup [.name 6,.name 7]) (.tup [.int y.1,.int y.2]) _=_ from cE (by simp) (by simp),?_⟩) fun S4 s4=>?_
  ·k_is;cases decide (y.1<=z.2) with
   |false=>k_is;exact⟨rfl,Sm.refl _⟩
   |true=>
    k_is;cases decide (z.2 < y.2) with
    |true=>k_is;exact⟨rfl,Sm.refl _⟩
    |false=>k_is;exact⟨rfl,Sm.refl _⟩
  rw[bN];k_is;refine aa vL ?_;rw[BV,Bool.not_not];have s5:Sm S4 (S4++[Ob.lst ((K.H.filter fun y=>decide (y.1<=z.2) && decide (z.2 < y.2)).map fun y=>D.int y.1)]++[Ob.lst []]):=(Sm.app _ _).trans (Sm.app _ _);generalize S4++[Ob.lst ((K.H.filter fun y=>decide (y.1<=z.2) && decide (z.2 < y.2)).map fun y=>D.int y.1)]++[Ob.lst []]=S5 at *;have sB:=(sA.trans s4).trans s5;k_is;cases c6:ou K.H z.2 with
  |true=>rw[c6] at no;k_is;exact no _ S5 sB rfl
  |false=>
  rw[c6] at no;k_is;refine aa sk1 ?_;k_is
  have last:rW (wSs (evC ae k) (cu ae) 51 (aW.drop 9)) [some (skE K),some (.ref n),some (.int j),some (.int z.1),some (.int z.2),some (ahE (e8 K (L.take j)))] S5 (out Q):=by
   dsimp only[aW,Z5];k_is;cases hA:e8 K (L.take j) with
   |none=>
    refine aa (show aw .isnot (ahE none) .non S5=some (.bl false,S5) from rfl) ?_;k_is;have cn:decide (z.2 < xR K none a0)=false:=decide_eq_false (by show ¬ z.2 < 0;have:=of_decide_eq_false c4;omega);rw[hA,cn] at no;exact no none S5 sB rfl
   |some y=>
    obtain⟨y0,y1⟩:=rO V hL y hA;refine aa (show aw .isnot (ahE (some y)) .non S5=some (.bl true,S5) from rfl) ?_;k_is;refine aa (show ixS (ahE (some y)) (.int 1) S5=some (.int y.2,S5) from rfl) ?_;refine aa sk0 (aa me2 (aa (show ixS (ahE (some y)) (.int 0) S5=some (.int y.1,S5) from rfl) ?_));obtain⟨r,h1,h2⟩:=jl (S:=S5) V y0 y1 k0 k1;refine aa h1 (aa sk2 (aa (fT z0 eg) (aa (g0 _) (aa h2 ?_))));k_is;cases c7:decide (z.2 < y.2+gp K y.1 a0) with
    |true=>rw[hA,show decide (z.2 < xR K (some y) a0)=true from c7] at no;k_is;exact no _ S5 sB rfl
    |false=>rw[hA,show decide (z.2 < xR K (some y) a0)=false from c7] at no;k_is;exact no none S5 sB rfl
  dsimp only[aW,Z5] at last;cases j with
  |zero=>
   rw[decide_eq_false (show ¬ (0:Int) < ((0:Nat):Int) by decide)];k_is;exact last
  |succ i=>
   rw[decide_eq_true (show(0:Int) < ((i+1:Nat):Int) by omega)];k_is;have hi:i < L.length:=by have:=(Zc.mp hz).1;omega
   have hy:L[i]?=some L[i]:=gEG hi;have ht:L.take (i+1)=L.take i++[L[i]]:=ZL hi;have hyG:=hL L[i] (by rw[ht];exact Zz _ (ZG.mpr rfl));obtain⟨a0',b',c',d',e',f',h',eg',e0',_⟩:=gl7 V hyG.1 hyG.2
   have ix:∀S',Sm S S'->ixS (.ref n) (.int (((i+1:Nat):Int) - 1)) S'=some (ac L[i],S'):=fun S' sm=>by
    rw[show((i+1:Nat):Int) - 1=(i:Int) by omega];exact bK (sm _ _ hn) (by omega) (mB hy)
   refine aa sk2 (aa (ix S5 sB) (aa (show ixS (ac L[i]) (.int 0) S5=some (.int L[i].1,S5) from rfl) (aa (fT hyG.1 eg') (aa (show ixS (av [a0',b',c',d',e',f',h']) (.int 0) S5=some (.int a0',S5) from rfl) ?_))));refine aa (ix S5 sB) (aa (show ixS (ac L[i]) (.int 1) S5=some (.int L[i].2,S5) from rfl) ?_);k_is;have el:e8 K (L.take (i+1))=some (a0',L[i].2):=by rw[ht,um,e0']
   rw[el] at last;exact last
 dsimp only[aW,Z5] at rest;by_cases hj:j < K.F.length
 ·rw[decide_eq_true (show(j:Int) < K.F.length by omega)];k_is;refine aa sk3 (aa (mr (ds:=K.F.map D.int) (i:=(j:Int)) (d:=.int K.F[j]) (by omega) (by rw[Zp,Zn,gEG hj];rfl)) ?_);k_is;have cf:(K.F[j]?).any (fun f=>!decide (z.1=f)) = !decide (K.F[j]=z.1):=by rw[gEG hj,Y9,decide_eq_decide.mpr (show z.1=K.F[j] ↔ K.F[j]=z.1 from eq_comm)]
  cases c4:decide (K.F[j]=z.1) with
  |false=>k_is;exact no (some "order") S3 sA (by rw[cf,c4];rfl)
  |true=>
   k_is;exact rest (by rw[cf,c4];rfl)
 ·rw[decide_eq_false (show ¬ (j:Int) < K.F.length by omega)];k_is;exact rest (by rw[ZB (by omega)];rfl)
theorem Oz(sk:SkOk K){g:Int}(g0:0<=g)(g1:g < K.G.length):0<=jn K g/\jn K g<=9999/\gi K.G g 3<=9999/\0<=gi K.G g 2:=by
 have hi:g.toNat < K.G.length:=by omega
 have s0:=sk.me.s0;obtain⟨kd,jo,fi,la,du,we,ri,eg,hb⟩:=sk.gb K.G[g.toNat] (ZC hi);have e1:jn K g=jo:=by unfold jn gi;rw[gEG hi,eg];rfl
 have e2:gi K.G g 2=fi:=by unfold gi;rw[gEG hi,eg];rfl
 have e3:gi K.G g 3=la:=by unfold gi;rw[gEG hi,eg];rfl
 rw[e1,e2,e3];omega
theorem FD{n:Nat}(h:S[n]?=some (.lst (xs.map D.int)))(hx:xs ≠ []):au jV (.ref n) S=some (.int (eB xs),S):=by
 cases xs with
 |nil=>exact absurd rfl hx
 |cons x xs=>simp only[au,al,ak h,Zr,jV,ki]
theorem jq(sk:SkOk K){n:Nat}(hn:S[n]?=some (.lst (L.map ac)))(hl:L.length<=20)(q:∀S',Sm S S'->Q (amF K L) S'):Ok (evC ae (k+3) 50 [skE K,.ref n] S) Q:=by
 refine aB (d:=fP) (ρ:=[some (skE K),some (.ref n),none,none,none,none,none,none,none]) rfl rfl ?_;dsimp only[fP,jL];have V:=sk.vd;have g7:=sk.g7;unfold amF at q;k_is;refine aa (cM hn) ?_;k_is;rw[Za];refine⟨dG (by omega) (by omega),?_⟩;rw[Zp];refine eZ (by omega) (fun i ρ S'=>Sm S S'/\(∃u v,ρ=[some (skE K),some (.ref n),u,v,none,none,none,none,none])/\∀j:Nat,j < i->jp K L j=none) (fun i ρ S1 hi hq1=>?_) (fun ρ S1 hq2=>?_) ⟨Sm.refl _,⟨_,_,rfl⟩,fun j hj=>absurd hj (Yh j)⟩
 ·obtain⟨s1,⟨u,v,er⟩,ih⟩:=hq1;subst er;have hz:L[i]?=some L[i]:=gEG hi;refine⟨_,rfl,?_⟩;k_is;rw[YD];refine⟨rfl,FC (k:=k+1) V (s1 _ _ hn) hl hz (iE ih) fun S2 s2=>?_⟩;have ew:jp K L i=(bV K (L.take i) i L[i]).map fun w=>.tup [.str w,.int L[i].1]:=by unfold jp;rw[hz];rfl
  cases c:bV K (L.take i) i L[i] with
  |some w=>
   k_is;refine aa bt ?_;rw[show bF (dW L[i] (some w))=false from rfl];k_is;have q:=q S2 (s1.trans s2);rw[c] at ew;rw[p0 hi ew ih] at q;exact q
  |none=>
   k_is;refine aa bt ?_;rw[show bF (dW L[i] none)=true from rfl];k_is;refine⟨s1.trans s2,⟨_,_,rfl⟩,fun j hj=>?_⟩;by_cases e:j=i
   ·rw[e,ew,c];rfl
   ·exact ih j (by omega)
 ·obtain⟨s1,⟨u,v,er⟩,ih⟩:=hq2;subst er;have hL:InG K L:=by have:=iE ih;rw[YC] at this;exact this
  rw[p9 ih] at q;dsimp only at q;have hn1:=s1 _ _ hn;k_is;refine⟨by rw[ak hn1];rfl,?_⟩;refine bu L ac (fun z=>[.int z.1]) (by omega) (fun _ _=>Ze _) (cV hn1) (fun i y S' hy sm=>⟨_,rfl,?_⟩) fun S2 s2=>?_
  ·k_is;exact aa (show ixS (ac y) (.int 0) S'=some (.int y.1,S') from rfl) ⟨rfl,Sm.refl _⟩
  rw[bj,iC];k_is;have s3:Sm S2 (S2++[Ob.lst ((L.map (·.1)).map D.int)]):=Sm.app _ _;have a3:(S2++[Ob.lst ((L.map (·.1)).map D.int)])[Zb S2]?=some (.lst ((L.map (·.1)).map D.int)):=ag;have sA:=(s1.trans s2).trans s3;generalize S2++[Ob.lst ((L.map (·.1)).map D.int)]=S3 at *;generalize Zb S2=N at *;refine aa sk2 (aa aZ ?_);k_is;refine⟨dG (by omega) (by omega),?_⟩;rw[Zp];refine bu (Zj K.G.length) (fun(j:Nat)=>D.int (0+(j:Int))) (fun(j:Nat)=>if (!decide ((j:Int) ∈ L.map (·.1)))=true then [D.int (j:Int)] else []) (by rw[ZK];omega) (fun _ _=>by split <;> simp) Bv (fun i j S' hj sm=>⟨_,rfl,?_⟩) fun S4 s4=>?_
  ·k_is;rw[YD];refine aa (show aw .notin (.int (j:Int)) (.ref N) S'=some (.bl (true != decide ((j:Int) ∈ L.map (·.1))),S') from mz true (sm _ _ a3) (j:Int)) ?_;k_is;cases c:decide ((j:Int) ∈ L.map (·.1)) with
   |true=>k_is;exact⟨rfl,Sm.refl _⟩
   |false=>k_is;exact⟨rfl,Sm.refl _⟩
  rw[bN];k_is;rw[<-List.head?_filter] at q;generalize (Zj K.G.length).filter (fun(j:Nat)=>!decide ((j:Int) ∈ L.map (·.1)))=lac at *;refine aa vL ?_;have s5:Sm S4 (S4++[Ob.lst (lac.map fun(j:Nat)=>D.int (j:Int))]++[Ob.lst []]):=(Sm.app _ _).trans (Sm.app _ _);have a5:(S4++[Ob.lst (lac.map fun(j:Nat)=>D.int (j:Int))]++[Ob.lst []])[Zb S4]?=some (.lst (lac.map fun(j:Nat)=>D.int (j:Int))):=Sm.app _ _ _ _ ag;generalize S4++[Ob.lst (lac.map fun(j:Nat)=>D.int (j:Int))]++[Ob.lst []]=S5 at *;have sB:=(sA.trans s4).trans s5;k_is;cases lac with
  |cons j lac=>
   rw[show(!((j::lac).map fun(j:Nat)=>D.int (j:Int)).isEmpty)=true from rfl];k_is;refine aa (bK (i:=0) a5 (by omega) rfl) ?_;k_is;exact q S5 sB
  |nil=>
  rw[show(!(([]:List Nat).map fun(j:Nat)=>D.int (j:Int)).isEmpty)=false from rfl];k_is;rw[show([]:List Nat).head?=none from rfl] at q;dsimp only at q;have s6:Sm S5 (S5++[Ob.lst [D.int 0]]):=Sm.app _ _;have a6:(S5++[Ob.lst [D.int 0]])[Zb S5]?=some (.lst [D.int 0]):=ag;generalize S5++[Ob.lst [D.int 0]]=S6 at *;generalize Zb S5=N6 at *;refine aa sk2 ?_;k_is;refine bu K.G av (fun g=>[.int (g.getD 1 0+1)]) (by omega) (fun _ _=>Ze _) cb (fun i g S' hg sm=>⟨_,rfl,?_⟩) fun S7 s7=>?_
  ·obtain⟨l7,_⟩:=V.gl g (Zf hg)
   match g,l7 with
   |[a,b,c,d,e,f,h],_=>
    k_is;refine aa (show ixS (av [a,b,c,d,e,f,h]) (.int 1) S'=some (.int b,S') from rfl) ?_;k_is;exact⟨rfl,Sm.refl _⟩
  rw[bj];have s8:Sm S7 (S7++[Ob.lst (K.G.map fun g=>D.int (g.getD 1 0+1))]):=Sm.app _ _;refine aa (bU (s8 _ _ (s7 _ _ a6)) ag (by rw[Za,ZM];omega)) ?_;k_is;have e9:([D.int 0]++K.G.map fun g=>D.int (g.getD 1 0+1))=(0::K.G.map fun g=>g.getD 1 0+1).map D.int:=by rw[Zx,Z3];rfl
  rw[e9];have s9:Sm (S7++[Ob.lst (K.G.map fun g=>D.int (g.getD 1 0+1))]) (S7++[Ob.lst (K.G.map fun g=>D.int (g.getD 1 0+1))]++[Ob.lst ((0::K.G.map fun g=>g.getD 1 0+1).map D.int)]):=Sm.app _ _;refine aa (FD ag (by simp)) ?_;have sC:=(((sB.trans s6).trans s7).trans s8).trans s9;generalize S7++[Ob.lst (K.G.map fun g=>D.int (g.getD 1 0+1))]++[Ob.lst ((0::K.G.map fun g=>g.getD 1 0+1).map D.int)]=S9 at *
  have jb:∀x ∈ js K,0<=x/\x < eB (0::K.G.map fun g=>g.getD 1 0+1):=fun x hx=>by
   have hx':x ∈ K.G.map fun g=>g.getD 1 0:=(bJ _).mem_iff.mp hx;obtain⟨g,hg,rfl⟩:=ZH.mp hx';obtain⟨kd,jo,fi,la,du,we,ri,rfl,hb⟩:=sk.gb g hg;have:=pW (Zg 0 (ZH.mpr ⟨_,hg,rfl⟩):jo+1 ∈ 0::K.G.map fun g=>g.getD 1 0+1);show 0<=jo/\jo < _;omega
  have tb:0<=eB (0::K.G.map fun g=>g.getD 1 0+1)/\eB (0::K.G.map fun g=>g.getD 1 0+1)<=10000:=by
   refine⟨pW Zi,?_⟩;rcases Zm.mp (pV (ns:=0::K.G.map fun g=>g.getD 1 0+1) (by simp)) with h |h
   ·omega
   ·obtain⟨g,hg,e⟩:=ZH.mp h;obtain⟨kd,jo,fi,la,du,we,ri,rfl,hb⟩:=sk.gb g hg;have e:jo+1=_:=e;have s0:=sk.me.s0;omega
  generalize eB (0::K.G.map fun g=>g.getD 1 0+1)=T at *;k_is;refine⟨Lp (by omega) (by omega),?_⟩;refine eZ (by omega) (fun i ρ S'=>Sm S S'/\(∃u2 u3 u4 u5 u6,ρ=[some (skE K),some (.ref n),u2,u3,u4,u5,u6,none,none])/\∀t:Nat,t < i->(wts K L t:Int)<=K.r) (fun i ρ Sa hi hq3=>?_) (fun ρ Sa hq4=>?_) ⟨sC,⟨_,_,_,_,_,rfl⟩,fun t ht=>absurd ht (Yh t)⟩
  ·obtain⟨sa,⟨u2,u3,u4,u5,u6,er⟩,iw⟩:=hq3;subst er;refine⟨_,rfl,?_⟩;k_is;refine⟨by rw[ak (sa _ _ hn)];rfl,?_⟩;refine GJ (K:=K) (t:=0+(i:Int)) (sa _ _ hn) hl (fun y S' hy sm=>⟨_,rfl,?_⟩) fun ds Sb sb ld=>?_
   ·k_is;refine⟨rfl,oz V (hL y hy).1 (hL y hy).2 ?_⟩;k_is;cases ax K (0+(i:Int)) y with
    |true=>k_is;exact⟨rfl,Sm.refl _⟩
    |false=>k_is;exact⟨rfl,Sm.refl _⟩
   ·refine aa (show b7 false ds Sb=some (.int ds.length,Sb) from rfl) (aa sk0 (aa me0 ?_));k_is;rw[ld,YD];cases c:decide (K.r < (wts K L (i:Int):Int)) with
    |true=>
     k_is;have q:=q Sb (sa.trans sb);rw[BM hL sk.me.r0 (fun u hu=>(jb u hu).1) (of_decide_eq_true c) iw] at q;exact q
    |false=>
     k_is;refine⟨sa.trans sb,⟨_,_,_,_,_,rfl⟩,fun t ht=>?_⟩;by_cases e:t=i
     ·rw[e];have:=of_decide_eq_false c;omega
     ·exact iw t (by omega)
  ·obtain⟨sa,⟨u2,u3,u4,u5,u6,er⟩,iw⟩:=hq4;subst er
   rw[BJ (l:=js K) (f:=fun t=>decide (K.r < (wts K L t:Int))) fun t ht=>by
    have:=jb t ht;have:=iw t.toNat (by omega);rw[show((t.toNat:Nat):Int)=t by omega] at this;exact decide_eq_false (by omega)] at q
   dsimp only at q;k_is;refine⟨by rw[ak (sa _ _ hn)];rfl,?_⟩;refine BO (by rw[Za];omega) (fun i ρ S'=>Sm S S'/\(∃u2 u3 u4 u5 u6 u7 u8,ρ=[some (skE K),some (.ref n),u2,u3,u4,u5,u6,u7,u8])/\∀j:Nat,j < i->fU K L j=none) (fun i ρ S' iv=>iv.1 _ _ hn) (fun i d ρ Sb hd hq5=>?_) (fun ρ Sb hq6=>?_) ⟨sa,⟨_,_,_,_,_,_,_,rfl⟩,fun j hj=>absurd hj (Yh j)⟩
   ·obtain⟨sb,⟨u2,u3,u4,u5,u6,u7,u8,er⟩,ihh⟩:=hq5;subst er;obtain⟨z,hz,rfl⟩:=mv hd;have wz:=BP hz (ih i (Zc.mp hz).1);obtain⟨z0,z1⟩:=vU wz;obtain⟨a,b,c,d,e,f,h,eg,e0,e1,e2,e3,e6,k0,k1,c0⟩:=gl7 V z0 z1;obtain⟨b0,b1,b2,b3⟩:=Oz sk z0 z1;obtain⟨lo,hi⟩:=BK wz;have eh:fU K L i=bif dZ K (L.take i) z.1 z.2 then some (.int z.1) else none:=by unfold fU;rw[hz];rfl
    refine⟨_,cE (by simp) (by simp),?_⟩;k_is;refine aa sk2 (aa (show ixS (ac z) (.int 0) Sb=some (.int z.1,Sb) from rfl) (aa (fT z0 eg) ?_));k_is;have r6:∀S,ixS (av [a,b,c,d,e,f,h]) (.int 6) S=some (.int h,S):=fun _=>rfl;have r1:∀S,ixS (av [a,b,c,d,e,f,h]) (.int 1) S=some (.int b,S):=fun _=>rfl;refine aa (r6 _) ?_;k_is
    have next:∀ (w:Option D) Sd,Sm S Sd->dZ K (L.take i) z.1 z.2=false->Sm S Sd/\(∃w2 w3 w4 w5 w6 w7 w8,[some (skE K),some (D.ref n),some (D.int i),u3,u4,u5,u6,some (ac z),w]=[some (skE K),some (.ref n),w2,w3,w4,w5,w6,w7,w8])/\∀j:Nat,j < i+1->fU K L j=none:=fun w Sd sd hh=>⟨sd,⟨_,_,_,_,_,_,_,rfl⟩,fun j hj=>by
     by_cases e:j=i
     ·rw[e,eh,hh];rfl
     ·exact ihh j (by omega)⟩
    cases c1:decide (0 < h) with
    |false=>
     k_is;exact next _ Sb sb (by unfold dZ;rw[e6,c1];rfl)
    |true=>
     k_is;refine aa (r1 _) ?_;rw[<-(show jn K z.1=b from e1)];refine⟨rfl,BU (k:=k) V (sb _ _ hn) hl hz (fun y hy=>hL y (ZS hy)) b0 b1 (by omega) (by omega) fun v Sd sd hv=>?_⟩;refine aa (r6 _) ?_;k_is
     have key:decide (h < v)=dZ K (L.take i) z.1 z.2:=by
      have h0:=of_decide_eq_true c1;rw[Z1,Ll,decide_eq_true_eq,hv h (by omega),e6];exact⟨fun x=>⟨h0,x⟩,fun x=>x.2⟩
     rw[key];cases c2:dZ K (L.take i) z.1 z.2 with
     |true=>
      k_is;refine aa (show ixS (ac z) (.int 0) Sd=some (.int z.1,Sd) from rfl) ?_;k_is;have q:=q Sd (sb.trans sd);rw[c2] at eh;rw[p0 (Zc.mp hz).1 eh ihh] at q;exact q
     |false=>
      k_is;exact next _ Sd (sb.trans sd) c2
   ·obtain⟨sb,⟨u2,u3,u4,u5,u6,u7,u8,er⟩,ihh⟩:=hq6;subst er;k_is;have q:=q Sb sb;rw[p9 fun j hj=>ihh j (by rw[Za];exact hj)] at q;exact q
def InR(K:Sky)(os:List Int):Prop:=∀g ∈ os,0<=g/\g < K.G.length
theorem oB(h:Pot p S)(sk:SkOk K)(g6:K.G.length<=6)(q:∀os S',Dr p S S'->InR K os->os.length<=12->Q (.tup (os.map D.int)) S'):Ok (evC ae (k+3) 44 [.ref p,skE K] S) Q:=by
 refine aB (d:=fN) (ρ:=[some (.ref p),some (skE K)]) rfl rfl ?_;dsimp only[fN,jJ];k_is;refine aa sk3 (aa sk2 (aa aZ ?_));k_is;refine⟨dG (by omega) (by omega),?_⟩;rw[Zp];refine bu (Zj K.G.length) (fun(j:Nat)=>D.int (0+(j:Int))) (fun(j:Nat)=>if (!decide ((j:Int) ∈ K.F))=true then [D.int (j:Int)] else []) (by rw[ZK];omega) (fun _ _=>by split <;> simp) Bv (fun i j S' hj sm=>⟨_,rfl,?_⟩) fun S1 s1=>?_
 ·k_is;refine aa sk3 ?_;rw[YD];refine aa (show aw .notin (.int (j:Int)) (.tup (K.F.map D.int)) S'=some (.bl (true != decide ((j:Int) ∈ K.F)),S') from pP true K.F j S') ?_;k_is;cases c:decide ((j:Int) ∈ K.F) with
  |true=>k_is;exact⟨rfl,Sm.refl _⟩
  |false=>k_is;exact⟨rfl,Sm.refl _⟩
 ·rw[bN];have eo:(((Zj K.G.length).filter fun(j:Nat)=>!decide ((j:Int) ∈ K.F)).map fun(j:Nat)=>D.int (j:Int))=(((Zj K.G.length).filter fun(j:Nat)=>!decide ((j:Int) ∈ K.F)).map fun(j:Nat)=>(j:Int)).map D.int:=by rw[Z3];rfl
  have bo:∀x ∈ ((Zj K.G.length).filter fun(j:Nat)=>!decide ((j:Int) ∈ K.F)).map fun(j:Nat)=>(j:Int),0<=x/\x < K.G.length:=fun x hx=>by
   obtain⟨j,hj,rfl⟩:=ZH.mp hx;have:=Z2.mp (ZY.mp hj).1;omega
  have lo:(((Zj K.G.length).filter fun(j:Nat)=>!decide ((j:Int) ∈ K.F)).map fun(j:Nat)=>(j:Int)).length<=6:=by rw[Za];exact ZF (Xd _ _) (by rw[ZK];exact g6)
  rw[eo];generalize (((Zj K.G.length).filter fun(j:Nat)=>!decide ((j:Int) ∈ K.F)).map fun(j:Nat)=>(j:Int))=ot at *;k_is;have lt1:=(Dr.sm h s1).pot.lt;have d2:Dr p S (S1++[Ob.lst (ot.map D.int)]):=Dr.sm h (s1.trans (Sm.app _ _));refine⟨rfl,oo (k:=k) d2.pot ag (by omega) (by omega) fun l S3 d3 pm=>?_⟩;k_is;refine aa (gm ag) ?_;k_is;have lF:=Dw.c9 K.G.length K.F sk.nd sk.bd;have ll:l.length<=6:=by rw[pm.length_eq];exact lo
  refine⟨by rw[Za,Za];omega,?_⟩;rw[<-Zv];refine q _ _ ((d2.trans d3).thenSm (Sm.app _ _)) (fun g hg=>?_) (by rw[Zh];omega);rcases Zy.mp hg with hg |hg
  ·exact sk.bd g hg
  ·exact bo g (pm.mem_iff.mp hg)
theorem BW{H:List (Int × Int)}{m:Int}(hl:H.length<=4)(q:∀m',Q (.int m') S):Ok (evC ae (k+1) 45 [.tup (H.map ac),.int m] S) Q:=by
 refine aB (d:=gW) (ρ:=[some (.tup (H.map ac)),some (.int m),none,none,none,none]) rfl rfl ?_;dsimp only[gW,lY];k_is;refine aa aZ ?_;k_is;refine⟨dG (by omega) (by omega),?_⟩;refine eZ (by omega) (fun i ρ S'=>S'=S/\∃ (m':Int) (u v w:Option D),ρ=[some (.tup (H.map ac)),some (.int m),some (.int m'),u,v,w]) (fun i ρ S1 hi hq1=>?_) (fun ρ S1 hq2=>?_) ⟨rfl,m,none,none,none,rfl⟩
 ·obtain⟨e,m',u,v,w,er⟩:=hq1;subst e er;refine⟨_,rfl,?_⟩;k_is;refine Bn (by rw[Za];omega) (fun i' ρ S'=>S'=S1/\∃ (m':Int) (u v w:Option D),ρ=[some (.tup (H.map ac)),some (.int m),some (.int m'),u,v,w]) (fun i' d ρ S' hd hq3=>?_) (fun ρ S' hq4=>by obtain⟨e,m',u,v,w,er⟩:=hq4;exact⟨e,m',u,v,w,er⟩) ⟨rfl,_,_,_,_,rfl⟩;obtain⟨e,m',u,v,w,er⟩:=hq3;subst e er;obtain⟨pr,hp,rfl⟩:=mv hd;refine⟨_,show aA (.tup [.name 4,.name 5]) (.tup [.int pr.1,.int pr.2]) _=_ from cE (by simp) (by simp),?_⟩;k_is;refine Bo (fun h1 h2=>?_) fun h=>?_
  ·k_is;exact⟨rfl,_,_,_,_,rfl⟩
  ·k_is;exact⟨rfl,_,_,_,_,rfl⟩
 ·obtain⟨e,m',u,v,w,er⟩:=hq2;subst e er;k_is;exact q m'
theorem run_ok(V:Vd K){gv fx ov:D}{os:List Int}(hv:ov = .tup (os.map D.int)\/∃m,ov = .ref m/\S[m]?=some (.lst (os.map D.int)))(ho:InR K os)(lo:os.length<=20)
  (hg:∀S',Sm S S'->∀g:Int,0<=g->g < K.G.length->∃a b c d e f h:Int,0<=a/\a < K.M.length/\ixS gv (.int g) S'=some (av [a,b,c,d,e,f,h],S'))
  (q:∀ (L:List (Int × Int)) N S',Sm S S'->S'[N]?=some (.lst (L.map ac))->S.length<=N->L.map (·.1)=os->Q (.ref N) S'):Ok (evC ae (k+2) 46 [.tup [meE K,ahE K.ah,gv,fx],ov] S) Q:=by
 refine aB (d:=jh) (ρ:=[some (.tup [meE K,ahE K.ah,gv,fx]),some ov,none,none,none,none]) rfl rfl ?_;dsimp only[jh,nZ];k_is;have t0:∀S,ixS (.tup [meE K,ahE K.ah,gv,fx]) (.int 0) S=some (meE K,S):=fun _=>rfl;have t1:∀S,ixS (.tup [meE K,ahE K.ah,gv,fx]) (.int 1) S=some (ahE K.ah,S):=fun _=>rfl;have t2:∀S,ixS (.tup [meE K,ahE K.ah,gv,fx]) (.int 2) S=some (gv,S):=fun _=>rfl;refine aa (t1 _) ?_;k_is
 have loop:∀ (nx:Nxt) (S1:Sto),Sm S S1->S1[Zb S]?=some (.lst (([]:List (Int × Int)).map ac))->(∀i S',Sm S S'->nx i S'=some ((os[i]?).map D.int))->OkS (dN nx (.name 4) (fc (evC ae (k+1)) (cu ae) 58 [.asg (.name 5) (.ix (.ix (.ix (.var 0) (.int 2)) (.var 4)) (.int 2)),.ifs (.cmp .isnot (.var 3) .non) [.asg (.name 5) (.mx (.var 5) (.bin .add (.ix (.var 3) (.int 1)) (.ix (.ix (.ix (.ix (.var 0) (.int 0)) (.int 2)) (.ix (.var 3) (.int 0))) (.ix (.ix (.ix (.var 0) (.int 2)) (.var 4)) (.int 0)))))] [],.asg (.name 5) (.call 45 [(.ix (.ix (.var 0) (.int 0)) (.int 3)),(.var 5)]),.ex (.app (.var 2) (.tup [(.var 4),(.var 5)])),.asg (.name 3) (.tup [(.ix (.ix (.ix (.var 0) (.int 2)) (.var 4)) (.int 0)),(.var 5)])]) LF 0 [some (.tup [meE K,ahE K.ah,gv,fx]),some ov,some (.ref (Zb S)),some (ahE K.ah),none,none] S1)
   fun fl ρ S'=>match fl with
    |.nx=>∃ (L:List (Int × Int)) (a:Option (Int × Int)) (u v:Option D),ρ=[some (.tup [meE K,ahE K.ah,gv,fx]),some ov,some (.ref (Zb S)),some (ahE a),u,v]/\Sm S S'/\S'[Zb S]?=some (.lst (L.map ac))/\L.map (·.1)=os
    |_=>False:=fun nx S1 s1 a1 hnx=>by
  refine iz os.length (fun i ρ S'=>∃ (L:List (Int × Int)) (a:Option (Int × Int)) (u v:Option D),ρ=[some (.tup [meE K,ahE K.ah,gv,fx]),some ov,some (.ref (Zb S)),some (ahE a),u,v]/\Sm S S'/\S'[Zb S]?=some (.lst (L.map ac))/\L.map (·.1)=os.take i/\∀z,a=some z->0<=z.1/\z.1 < K.M.length) (by unfold LF;omega) (fun i ρ S2 hi hq1=>?_) (fun ρ S2 hq2=>by obtain⟨L,a,u,v,er,s2,hL,eL,ha⟩:=hq2;exact⟨by rw[hnx _ S2 s2,ZB (Ze _)];rfl,L,a,u,v,er,s2,hL,by rw[eL,YC]⟩) ⟨[],K.ah,none,none,rfl,s1,a1,rfl,V.ah0⟩;obtain⟨L,a,u,v,er,s2,hL,eL,ha⟩:=hq1;subst er;have hgi:os[i]?=some os[i]:=gEG hi;obtain⟨g0,g1⟩:=ho os[i] (ZC hi);have hlen:L.length<=20:=by have:=congrArg Zb eL;rw[Za,Zs] at this;omega
  refine⟨.int os[i],_,by rw[hnx i S2 s2,hgi];rfl,rfl,?_⟩;obtain⟨x0,x1,x2,x3,x4,x5,x6,k0,k1,ix⟩:=hg S2 s2 os[i] g0 g1;have lt2:Zb S < S2.length:=(Zc.mp hL).1
  have rest:∀m:Int,rW (wSs (evC ae (k+1)) (cu ae) 56 [.asg (.name 5) (.call 45 [(.ix (.ix (.var 0) (.int 0)) (.int 3)),(.var 5)]),.ex (.app (.var 2) (.tup [(.var 4),(.var 5)])),.asg (.name 3) (.tup [(.ix (.ix (.ix (.var 0) (.int 2)) (.var 4)) (.int 0)),(.var 5)])]) [some (.tup [meE K,ahE K.ah,gv,fx]),some ov,some (.ref (Zb S)),some (ahE a),some (.int os[i]),some (.int m)] S2 (fun fl ρ2 S2=>match fl with
    |.nx=>∃ (L:List (Int × Int)) (a:Option (Int × Int)) (u v:Option D),ρ2=[some (.tup [meE K,ahE K.ah,gv,fx]),some ov,some (.ref (Zb S)),some (ahE a),u,v]/\Sm S S2/\S2[Zb S]?=some (.lst (L.map ac))/\L.map (·.1)=os.take (i+1)/\∀z,a=some z->0<=z.1/\z.1 < K.M.length
    |.ct=>∃ (L:List (Int × Int)) (a:Option (Int × Int)) (u v:Option D),ρ2=[some (.tup [meE K,ahE K.ah,gv,fx]),some ov,some (.ref (Zb S)),some (ahE a),u,v]/\Sm S S2/\S2[Zb S]?=some (.lst (L.map ac))/\L.map (·.1)=os.take (i+1)/\∀z,a=some z->0<=z.1/\z.1 < K.M.length
    |.bk=>∃ (L:List (Int × Int)) (a:Option (Int × Int)) (u v:Option D),ρ2=[some (.tup [meE K,ahE K.ah,gv,fx]),some ov,some (.ref (Zb S)),some (ahE a),u,v]/\Sm S S2/\S2[Zb S]?=some (.lst (L.map ac))/\L.map (·.1)=os
    | .rt d=>False):=fun m=>by
   k_is;refine aa (t0 _) (aa me3 ?_);refine⟨rfl,BW V.h4 fun m'=>?_⟩;k_is;refine⟨fR hL,?_⟩;rw[AK hL (by rw[Za];omega)];k_is;have s3:Sm S (S2.set (Zb S) (.lst (L.map ac++[.tup [.int os[i],.int m']]))):=Sm.setNew s2 (Ze _);have a3:(S2.set (Zb S) (.lst (L.map ac++[.tup [.int os[i],.int m']])))[Zb S]?=some (.lst ((L++[(os[i],m')]).map ac)):=by rw[gZ lt2,Zv];rfl
   generalize S2.set (Zb S) (.lst (L.map ac++[.tup [.int os[i],.int m']]))=S3 at *;obtain⟨y0,y1,y2,y3,y4,y5,y6,l0,l1,iy⟩:=hg S3 s3 os[i] g0 g1;refine aa (t2 _) (aa iy (aa (show ixS (av [y0,y1,y2,y3,y4,y5,y6]) (.int 0) S3=some (.int y0,S3) from rfl) ?_));k_is;exact⟨L++[(os[i],m')],some (y0,m'),_,_,rfl,s3,a3,by rw[Zv,eL,ZL hi];rfl,fun z e=>by cases e;exact⟨l0,l1⟩⟩
  k_is;refine aa (t2 _) (aa ix (aa (show ixS (av [x0,x1,x2,x3,x4,x5,x6]) (.int 2) S2=some (.int x2,S2) from rfl) ?_));k_is;cases a with
  |none=>
   refine aa (show aw .isnot (ahE none) .non S2=some (.bl false,S2) from rfl) ?_;k_is;exact rest x2
  |some z=>
   obtain⟨z0,z1⟩:=ha z rfl;refine aa (show aw .isnot (ahE (some z)) .non S2=some (.bl true,S2) from rfl) ?_;k_is;refine aa (show ixS (ahE (some z)) (.int 1) S2=some (.int z.2,S2) from rfl) ?_;refine aa (t0 _) (aa me2 (aa (show ixS (ahE (some z)) (.int 0) S2=some (.int z.1,S2) from rfl) ?_));obtain⟨r,h1,h2⟩:=jl (S:=S2) V z0 z1 k0 k1;refine aa h1 (aa (t2 _) (aa ix (aa (show ixS (av [x0,x1,x2,x3,x4,x5,x6]) (.int 0) S2=some (.int x0,S2) from rfl) (aa h2 ?_))));k_is;exact rest _
 have fin:∀ (nx:Nxt) (S1:Sto),Sm S S1->S1[Zb S]?=some (.lst (([]:List (Int × Int)).map ac))->(∀i S',Sm S S'->nx i S'=some ((os[i]?).map D.int))->True:=fun _ _ _ _ _=>trivial;have s1:Sm S (S++[Ob.lst []]):=Sm.app _ _;have a1:(S++[Ob.lst []])[Zb S]?=some (.lst (([]:List (Int × Int)).map ac)):=ag;rcases hv with rfl |⟨m,rfl,hm⟩
 ·k_is;refine(loop _ _ s1 a1 cb).mono fun fl ρ S' z=>?_;cases fl with
  |nx=>
   obtain⟨L,a,u,v,rfl,s2,hL,eL⟩:=z;k_is;exact q L _ S' s2 hL (Ze _) eL
  |_=>cases z
 ·k_is;refine⟨by rw[ak (s1 _ _ hm)];rfl,?_⟩;refine(loop _ _ s1 a1 (cV hm)).mono fun fl ρ S' z=>?_;cases fl with
  |nx=>
   obtain⟨L,a,u,v,rfl,s2,hL,eL⟩:=z;k_is;exact q L _ S' s2 hL (Ze _) eL
  |_=>cases z
theorem BX{i:Int}(h0:0<=i):gu ds (some i) none=ds.drop i.toNat:=by
 unfold gu;rw[Dw.Hx _ _ h0,HT.yx];by_cases h:i.toNat<=ds.length
 ·rw[Y8 h,ZZ (by rw[ZV];lia)]
 ·rw[XU (by lia),List.drop_length,Xs,List.drop_eq_nil_of_le (by lia)]
theorem rT{n:Nat}{i:Int}(hn:S[n]?=some (.lst ds))(h0:0<=i):slS (some i) none (.ref n) S=some (.ref (Zb S),S++[.lst (ds.drop i.toNat)]):=by
 simp only[slS,ak hn,BX h0]
def NB(L:List (Int × Int)):Prop:=∀z ∈ L,z.1.natAbs<=10 ^ 20
theorem BZ(g6:K.G.length<=6)(h:InR K (L.map (·.1))):NB L:=fun z hz=>by
 have:=h z.1 (ZH.mpr ⟨z,hz,rfl⟩)
 lia
def Lnd(p:Nat)(S:Sto)(m:Nat)(K:Sky)(d:D):Prop:=∃ (N:Nat) (L:List (Int × Int)),d = .ref N/\N ≠ p/\S[N]?=some (.lst (L.map ac))/\L.length<=m/\NB L
theorem Pq(V:Vd K):∀S',Sm S S'->∀g:Int,0<=g->g < K.G.length->∃a b c d e f h:Int,0<=a/\a < K.M.length/\ixS (.tup (K.G.map av)) (.int g) S'=some (av [a,b,c,d,e,f,h],S'):=fun S' _ g g0 g1=>by
 obtain⟨a,b,c,d,e,f,h,eg,e0,e1,e2,e3,e6,k0,k1,c0⟩:=gl7 V g0 g1;exact⟨a,b,c,d,e,f,h,k0,k1,fT g0 eg⟩
theorem vW(V:Vd K){os:List Int}(ho:InR K os)(lo:os.length<=20)
  (q:∀ (L:List (Int × Int)) N S',Sm S S'->S'[N]?=some (.lst (L.map ac))->S.length<=N->L.map (·.1)=os->Q (.ref N) S'):Ok (evC ae (k+2) 46 [skE K,.tup (os.map D.int)] S) Q:=
 run_ok (fx:=.tup (K.F.map D.int)) V (.inl rfl) ho lo (Pq V) q
theorem rV(h:Pot p S)(sk:SkOk K)(g6:K.G.length<=6){N:Nat}{L:List (Int × Int)}{u3 u4:Option D}(nN:N ≠ p)(hN:S[N]?=some (.lst (L.map ac)))(lL:L.length<=12)(iL:InR K (L.map (·.1)))
  (q:∀d S',Dr p S S'->Lnd p S' 12 K d->Q d S') :
  rW (wSs (evC ae (k+4)) (cu ae) 57 (dq.drop 3)) [some (.ref p),some (skE K),some (.ref N),u3,u4,none,none,none,none,none] S (out Q):=by
 dsimp only[dq,Z5];have V:=sk.vd;k_is;refine⟨by rw[ak hN];rfl,?_⟩;refine bu L ac (fun z=>[.int z.1]) (by lia) (fun _ _=>Ze _) (cV hN) (fun i y S' hy sm=>⟨_,rfl,?_⟩) fun S2 s2=>?_
 ·k_is;exact aa (show ixS (ac y) (.int 0) S'=some (.int y.1,S') from rfl) ⟨rfl,Sm.refl _⟩
 rw[bj,iC];k_is;have lt2:=(Dr.sm h s2).pot.lt;have d3:Dr p S (S2++[Ob.lst ((L.map (·.1)).map D.int)]):=Dr.sm h (s2.trans (Sm.app _ _));have a3:(S2++[Ob.lst ((L.map (·.1)).map D.int)])[Zb S2]?=some (.lst ((L.map (·.1)).map D.int)):=ag;have n3:Zb S2 ≠ p:=by lia
 generalize S2++[Ob.lst ((L.map (·.1)).map D.int)]=S3 at *;generalize Zb S2=N3 at *;refine aa (cM a3) ?_;k_is;rw[Za,Za];refine⟨rfl,ao d3.pot (by lia) (by lia) fun x S4 x1 x2 d4=>?_⟩;refine⟨rfl,ao d4.pot (by decide) (by decide) fun y S5 y1 y2 d5=>?_⟩;k_is;have d35:=d4.trans d5;have a5:=d35.kp _ _ n3 a3;have d5':=d3.trans d35;refine aa sk2 ?_;k_is;refine dF K.G.length (fun i=>.tup [.int i,((K.G.map av)[i]?).getD .non]) (fun i acc S'=>Sm S5 S'/\∃R:List (List Int),acc=R.map av/\R.length=i/\∀ (j:Nat) r,R[j]?=some r->∃a b c d e f h:Int,r=[a,b,c,d,e,f,h]/\0<=a/\a < K.M.length) (fun i acc S' hi _=>?_) (by lia) (fun i acc S6 hi ⟨s6,R,ea,lR,bR⟩=>?_) (fun es S6 ⟨s6,R,ea,lR,bR⟩=>⟨by rw[ea,Za];lia,?_⟩) ⟨Sm.refl _,[],rfl,rfl,fun j r e=>by cases e⟩
 ·show enm (K.G.map av) i=_;unfold enm;rw[if_pos (by rw[Za];exact hi)];split
  ·rename_i hlt;rw[gEG (by rw[Za];exact hlt)];rfl
  ·rw[ZB (by rw[Za];lia)];rfl
 ·obtain⟨a,b,c,d,e,f,h',eg,e0,e1,e2,e3,e6,k0,k1,c0⟩:=gl7 V (g:=(i:Int)) (by lia) (by lia);rw[Zp] at eg;have ez:((K.G.map av)[i]?).getD .non = .tup [.int a,.int b,.int c,.int d,.int e,.int f,.int h']:=by rw[Zn,eg];rfl
  rw[ez];refine⟨_,cE (by simp) (by simp),?_⟩;k_is;rw[show gu [D.int a,.int b,.int c,.int d,.int e,.int f,.int h'] none (some 2)=[.int a,.int b] from rfl];k_is;refine aa (show ixS (.tup [D.int a,.int b,.int c,.int d,.int e,.int f,.int h']) (.int 2) S6=some (.int c,S6) from rfl) ?_;k_is;refine aa (rT (s6 _ _ a5) x1) ?_;have s7:Sm S6 (S6++[Ob.lst (((L.map (·.1)).map D.int).drop x.toNat)]):=Sm.app _ _;have a7:(S6++[Ob.lst (((L.map (·.1)).map D.int).drop x.toNat)])[Zb S6]?=some (.lst (((L.map (·.1)).drop x.toNat).map D.int)):=by rw[ag,Xv]
  generalize S6++[Ob.lst (((L.map (·.1)).map D.int).drop x.toNat)]=S7 at *;k_is;refine aa (show aw .isin (.int (i:Int)) (.ref (Zb S6)) S7=some (.bl (false != decide ((i:Int) ∈ (L.map (·.1)).drop x.toNat)),S7) from mz false a7 (i:Int)) ?_;k_is;refine aa (show zr (.bl (false != decide ((i:Int) ∈ (L.map (·.1)).drop x.toNat))) S7=some (.int (if (false != decide ((i:Int) ∈ (L.map (·.1)).drop x.toNat)) then 1 else 0),S7) from rfl) ?_;k_is;refine⟨kg (by lia) (by lia),?_⟩;refine⟨by show 3<=1000;decide,?_⟩;rw[show gu [D.int a,.int b,.int c,.int d,.int e,.int f,.int h'] (some 3) none=[.int d,.int e,.int f,.int h'] from rfl];k_is;refine⟨by show 7<=1000;decide,?_⟩;refine⟨s6.trans s7,R++[[a,b,c+y * (if (false != decide ((i:Int) ∈ (L.map (·.1)).drop x.toNat)) then 1 else 0),d,e,f,h']],by rw[ea,Zv];rfl,by rw[Zh,ZM];lia,fun j r hj=>?_⟩;by_cases hjl:j < R.length
  ·rw[Zw hjl] at hj;exact bR j r hj
  ·have hll:=(Zc.mp hj).1;rw[Zh,ZM] at hll;obtain rfl:j=R.length:=by lia
   rw[Zt (Ze _),Yw] at hj;cases hj;exact⟨_,_,_,_,_,_,_,rfl,k0,k1⟩
 ·subst ea;k_is;have s7:Sm S6 (S6++[Ob.lst (R.map av)]):=Sm.app _ _;have a7:(S6++[Ob.lst (R.map av)])[Zb S6]?=some (.lst (R.map av)):=ag;have s57:=s6.trans s7;generalize S6++[Ob.lst (R.map av)]=S7 at *;generalize Zb S6=N7 at *;have d7:=d5'.thenSm s57;refine aa sk0 (aa sk1 (aa sk3 ?_));k_is;refine⟨rfl,run_ok (k:=k+2) (gv:=.ref N7) (fx:=.tup (K.F.map D.int)) V (.inr ⟨N3,rfl,s57 _ _ a5⟩) iL (by rw[Za];lia) (fun S' sm g g0 g1=>?_) fun L' N8 S8 s8 hN8 l8 eL'=>?_⟩
  ·have hg:g.toNat < R.length:=by lia
   obtain⟨a,b,c,d,e,f,h',er,k0,k1⟩:=bR g.toNat R[g.toNat] (gEG hg);exact⟨a,b,c,d,e,f,h',k0,k1,bK (sm _ _ a7) g0 (by rw[Zn,gEG hg,er];rfl)⟩
  ·have lL':L'.length<=12:=by have:=congrArg Zb eL';rw[Za,Za] at this;lia
   k_is;refine⟨rfl,jq (k:=k+1) sk hN8 (by lia) fun S9 s9=>?_⟩;k_is;refine aa qa ?_;k_is;have lt7:=d7.pot.lt;have d9:=(d7.thenSm s8).thenSm s9;cases bF (amF K L') with
   |true=>k_is;exact q _ S9 d9 ⟨N8,L',rfl,by lia,s9 _ _ hN8,lL',BZ g6 (by rw[eL'];exact iL)⟩
   |false=>k_is;exact q _ S9 d9 ⟨N,L,rfl,nN,d9.kp _ _ nN hN,lL,BZ g6 iL⟩
theorem uv(h:Pot p S)(sk:SkOk K)(g6:K.G.length<=6)(q:∀d S',Dr p S S'->(d = .non\/Lnd p S' 12 K d)->Q d S'):Ok (evC ae (k+5) 51 [.ref p,skE K] S) Q:=by
 refine aB (d:=dE) (ρ:=[some (.ref p),some (skE K),none,none,none,none,none,none,none,none]) rfl rfl ?_;have tail:=@rV p;dsimp only[dE];dsimp only[dq,Z5] at tail ⊢;have V:=sk.vd;k_is;refine⟨by decide,?_⟩;refine eZ (by decide) (fun i ρ S'=>Dr p S S'/\∃ (d:D) (u v:Option D),ρ=[some (.ref p),some (skE K),some d,u,v,none,none,none,none,none]/\(d = .non\/∃ (N:Nat) (L:List (Int × Int)),d = .ref N/\N ≠ p/\S'[N]?=some (.lst (L.map ac))/\L.length<=12/\InR K (L.map (·.1)))) (fun i ρ S1 hi hq1=>?_) (fun ρ S1 hq2=>?_) ⟨Dr.refl h,.non,none,none,rfl,.inl rfl⟩
 ·obtain⟨d1,d,u,v,er,hd⟩:=hq1;subst er;refine⟨_,rfl,?_⟩;k_is;refine⟨rfl,oB (k:=k+1) d1.pot sk g6 fun os S2 d2 ho lo=>?_⟩;refine⟨rfl,vW (k:=k+2) V ho (by lia) fun L N S3 s3 hN lN eL=>?_⟩;k_is;have lL:L.length<=12:=by have:=congrArg Zb eL;rw[Za] at this;lia
  have d3:=(d1.trans d2).thenSm s3;have lt2:=d2.pot.lt;have nN:N ≠ p:=by lia
  refine aa qa ?_;k_is;rcases hd with rfl |⟨N0,L0,rfl,n0,h0,l0,i0⟩
  ·rw[show bF .non=true from rfl];k_is;refine⟨rfl,jq (k:=k+1) sk hN (by lia) fun S4 s4=>?_⟩;k_is;refine aa qa ?_;k_is;cases bF (amF K L) with
   |true=>k_is;exact⟨d3.thenSm s4,_,_,_,rfl,.inr ⟨N,L,rfl,nN,s4 _ _ hN,lL,by rw[eL];exact ho⟩⟩
   |false=>k_is;exact⟨d3.thenSm s4,_,_,_,rfl,.inl rfl⟩
  ·rw[show bF (.ref N0)=false from rfl];k_is;exact⟨d3,_,_,_,rfl,.inr ⟨N0,L0,rfl,n0,(d2.thenSm s3).kp _ _ n0 h0,l0,i0⟩⟩
 ·obtain⟨d1,d,u,v,er,hd⟩:=hq2;subst er;k_is;refine aa qa ?_;k_is;rcases hd with rfl |⟨N0,L0,rfl,n0,h0,l0,i0⟩
  ·rw[show bF .non=true from rfl];k_is;exact q _ S1 d1 (.inl rfl)
  ·rw[show bF (.ref N0)=false from rfl];k_is;exact tail (k:=k) d1.pot sk g6 n0 h0 l0 i0 fun d S' d' hd=>q d S' (d1.trans d') (.inr hd)
theorem FE{n:Nat}{i:Int}(hn:S[n]?=some (.lst ds))(h0:0<=i)(h1:i.toNat < ds.length):dM (.ref n) (.int i) v S=some (S.set n (.lst (ds.set i.toNat v))):=by
 have hix:ixN ds.length i=some i.toNat:=by
  unfold ixN;rw[if_pos (by lia),if_pos (by lia)]
 simp only[dM,hn,hix,Zr]
theorem x9{n:Nat}{L:List (Int × Int)}{j:Nat}(hn:S[n]?=some (.lst (L.map ac)))(hj:j < L.length):eC (.ref n) [.int (j:Int)] S=some (ac L[j],S.set n (.lst ((L.eraseIdx j).map ac))):=by
 have hix:ixN (L.map ac).length (j:Int)=some j:=by
  unfold ixN;rw[if_pos (by lia),if_pos (by rw[Za];lia),Zp]
 have hg:(L.map ac)[j]?=some (ac L[j]):=by rw[Zn,gEG hj];rfl
 simp only[eC,chg,hn,hix,hg,Zr,pZ]
theorem ya{n:Nat}{i:Int}(hn:S[n]?=some (.lst (L.map ac)))(h0:0<=i)(h1:i<=1000)(hl:L.length<=1000):tJ (.ref n) [.int i,ac z] S=some (.non,S.set n (.lst ((dc L (min i.toNat L.length) z).map ac))):=by
 have e:dc (L.map ac) (min i.toNat (L.map ac).length) (ac z)=(dc L (min i.toNat L.length) z).map ac:=by
  unfold dc;rw[Za,Zv,Zx,Yb,Xv]
 simp only[tJ,chg,hn];rw[if_pos ⟨h0,by lia⟩,if_pos (by rw[Za];lia),e];rfl
theorem fV{n:Nat}{L:List (Int × Int)}{i:Int}{z:Int × Int}(hn:S[n]?=some (.lst (L.map ac)))(h0:0<=i)(h1:i.toNat < L.length):dM (.ref n) (.int i) (ac z) S=some (S.set n (.lst ((L.set i.toNat z).map ac))):=by
 rw[FE hn h0 (by rw[Za];exact h1),Wd]
theorem mD{i:Nat}(h:NB L)(hz:z.1.natAbs<=10 ^ 20):NB (L.set i z):=fun y hy=>by
 rcases YS hy with h' |rfl
 ·exact h y h'
 ·exact hz
theorem Lq{i:Nat}(h:NB L)(hz:z.1.natAbs<=10 ^ 20):NB (dc L i z):=fun y hy=>by
 unfold dc at hy;rcases Zy.mp hy with hy |hy
 ·exact h y (ZS hy)
 ·rcases Zm.mp hy with rfl |hy
  ·exact hz
  ·exact h y (Xk hy)
theorem yb(h:Pot p S)(sk:SkOk K){N:Nat}{L:List (Int × Int)}(hN:S[N]?=some (.lst (L.map ac)))(lL:L.length<=100)(bL:NB L)(q:∀d S',Dr p S S'->Lnd p S' (L.length+1) K d->Q d S'):Ok (evC ae (k+2) 52 [.ref p,.ref N,skE K] S) Q:=by
 refine aB (d:=eO) (ρ:=[some (.ref p),some (.ref N),some (skE K),none,none,none,none,none,none]) rfl rfl ?_;dsimp only[eO,iu];have g7:=sk.g7;k_is;have it:al (.ref N) S=some (false,L.map ac):=by simp only[al,ak hN,Zr]
 rw[it];show Ok (some (L.map ac,S)) _;rw[ay];k_is;have lt:=h.lt;have d0:Dr p S (S++[Ob.lst (L.map ac)]):=Dr.sm h (Sm.app _ _);have a0:(S++[Ob.lst (L.map ac)])[Zb S]?=some (.lst (L.map ac)):=ag;have nA:Zb S ≠ p:=by lia
 have lA:S.length<=Zb S:=Ze _;generalize S++[Ob.lst (L.map ac)]=S0 at *;generalize hAA:Zb S=A at *;refine⟨rfl,ao d0.pot (by decide) (by decide) fun w S1 w1 w2 d1=>?_⟩;k_is;have d01:=d0.trans d1;have a1:=d1.kp _ _ nA a0
 have finS:∀ (L':List (Int × Int)) (S2:Sto) (o:Ob),Dr p S S2->S2[A]?=some o->L'.length<=L.length+1->NB L'->Q (.ref A) (S2.set A (.lst (L'.map ac))):=fun L' S2 o d2 h2 l2 b2=>by
  have lt2:A < S2.length:=(Zc.mp h2).1;exact q _ _ ⟨d2.kp.setNew (by lia),d2.pot.setNe nA⟩ ⟨A,L',rfl,nA,gZ lt2,l2,b2⟩
 have insB:∀ (Qf:Fl->Rho->Sto->Prop),(∀d ρ S',Q d S'->Qf (.rt d) ρ S')->∀ (S2:Sto),Dr p S S2->S2[A]?=some (.lst (L.map ac))->rW (wSs (evC ae (k+1)) (cu ae) 56 [.ex (.ins (.var 3) (.call 37 [(.var 0),(.bin .add (.len (.var 3)) (.int 1))]) (.tup [(.bin .sub (.call 37 [(.var 0),(.bin .add (.len (.ix (.var 2) (.int 2))) (.int 2))]) (.int 1)),(.call 37 [(.var 0),(.int 120)])])),.ret (.var 3)]) [some (.ref p),some (.ref N),some (skE K),some (.ref A),some (.int w),none,none,none,none] S2 Qf:=fun Qf hq S2 d2 h2=>by
  k_is;refine⟨fR h2,?_⟩;refine aa (cM h2) ?_;k_is;rw[Za];refine⟨rfl,ao d2.pot (by lia) (by lia) fun x S3 x1 x2 d3=>?_⟩;refine aa sk2 (aa aZ ?_);k_is;refine⟨rfl,ao d3.pot (by lia) (by lia) fun y S4 y1 y2 d4=>?_⟩;k_is;refine⟨rfl,ao d4.pot (by decide) (by decide) fun m S5 m1 m2 d5=>?_⟩;k_is;have d25:=(d3.trans d4).trans d5;have h5:=d25.kp _ _ nA h2;refine aa (ya (z:=(y - 1,m)) h5 x1 (by lia) (by lia)) ?_;k_is;refine hq _ _ _ (finS _ S5 _ (d2.trans d25) h5 ?_ (Lq bL (by show(y - 1).natAbs<=_;lia)));unfold dc;rw[Zh,ZD,Zs,ZV]
  lia
 have s2:Sm S1 (S1++[Ob.lst []]):=Sm.app _ _;have lt1:A < S1.length:=(Zc.mp a1).1;refine aa (Jk (Sm.app _ _ _ _ a1) ag (by lia)) ?_;have d2:=d01.thenSm s2;have a2:=s2 _ _ a1;generalize S1++[Ob.lst []]=S2 at *;k_is;cases hE:L with
 |nil=>
  rw[show(([]:List (Int × Int)).map ac).isEmpty=true from rfl];k_is;exact insB _ (fun d ρ S' z=>z) S2 d2 a2
 |cons z0 L0=>
  rw[show((z0::L0).map ac).isEmpty=false from rfl];k_is;have l1:1<=L.length:=by rw[hE,ZD];lia
  clear hE z0 L0;cases c0:decide (w=0) with
  |true=>
   k_is;exact insB _ (fun d ρ S' z=>z) S2 d2 a2
  |false=>
  k_is;refine aa (cM a2) ?_;rw[Za];refine⟨rfl,ao d2.pot (by lia) (by lia) fun x0 S3 x1 x2 d3=>?_⟩;have a3:=d3.kp _ _ nA a2;refine aa (cM a3) ?_;rw[Za];refine⟨rfl,ao d3.pot (by lia) (by lia) fun y0 S4 y1 y2 d4=>?_⟩;k_is;obtain⟨x,rfl⟩:∃n:Nat,x0=(n:Int):=⟨x0.toNat,by lia⟩;obtain⟨y,rfl⟩:∃n:Nat,y0=(n:Int):=⟨y0.toNat,by lia⟩;have hx:x < L.length:=by lia
  have hy:y < L.length:=by lia
  have a4:=d4.kp _ _ nA a3;have d04:=(d2.trans d3).trans d4;have ix:∀ {S':Sto},S'[A]?=some (.lst (L.map ac))->ixS (.ref A) (.int (x:Int)) S'=some (ac L[x],S'):=fun hh=>bK hh (by lia) (mB (gEG hx));have iy:∀ {S':Sto},S'[A]?=some (.lst (L.map ac))->ixS (.ref A) (.int (y:Int)) S'=some (ac L[y],S'):=fun hh=>bK hh (by lia) (mB (gEG hy));refine aa (ix a4) ?_;rw[show ac L[x] = .tup [.int L[x].1,.int L[x].2] from rfl];k_is;have setL:∀z:Int × Int,(L.set ((x:Nat):Int).toNat z).length<=L.length+1:=fun z=>by rw[Yg];lia
  have hxt:((x:Nat):Int).toNat < L.length:=by rw[Zp];exact hx
  cases c1:decide (w=1) with
  |true=>
   k_is;refine⟨fR a4,?_⟩;refine aa (x9 a4 hx) ?_;k_is;exact finS _ S4 _ d04 a4 (by rw[YQ hx];lia) fun z hz=>bL z (List.mem_of_mem_eraseIdx hz)
  |false=>
  k_is;cases c2:decide (w=2) with
  |true=>
   k_is;refine aa (iy a4) (aa (ix a4) ?_);k_is;refine⟨_,_,rfl,?_⟩;refine⟨_,fV a4 (by lia) hxt,?_⟩;have lt4:A < S4.length:=(Zc.mp a4).1;have a5:(S4.set A (.lst ((L.set ((x:Nat):Int).toNat L[y]).map ac)))[A]?=some (.lst ((L.set ((x:Nat):Int).toNat L[y]).map ac)):=gZ lt4;have d5:Dr p S (S4.set A (.lst ((L.set ((x:Nat):Int).toNat L[y]).map ac))):=⟨d04.kp.setNew (by lia),d04.pot.setNe nA⟩;refine⟨_,fV a5 (by lia) (by rw[Yg,Zp];exact hy),?_⟩;k_is;exact finS _ _ _ d5 a5 (by rw[Yg,Yg];lia) (mD (mD bL (bL _ (ZC hy))) (bL _ (ZC hx)))
  |false=>
  k_is;cases c3:decide (w=3) with
  |true=>
   k_is;refine aa (iy a4) (aa (show ixS (ac L[y]) (.int 0) S4=some (.int L[y].1,S4) from rfl) ?_);k_is;refine⟨_,fV (z:=(L[y].1,L[x].2)) a4 (by lia) hxt,?_⟩;k_is;exact finS _ S4 _ d04 a4 (setL _) (mD bL (bL L[y] (ZC hy)))
  |false=>
  k_is;cases c4:decide (w=4) with
  |true=>
   k_is;refine aa sk2 (aa aZ ?_);k_is;refine⟨⟨by decide,by decide,by decide⟩,?_⟩;refine⟨rfl,ao d4.pot (by decide) (by decide) fun i S5 i1 i2 d5=>?_⟩;k_is
   obtain⟨e,ate,be⟩:∃e:Int,atI [D.int (-1),D.int (K.G.length:Int),D.int (10 ^ Int.toNat 20)] i=some (D.int e)/\e.natAbs<=10 ^ 20:=by
    have:i=0\/i=1\/i=2:=by lia
    rcases this with rfl |rfl |rfl
    ·exact⟨_,rfl,by decide⟩
    ·exact⟨_,rfl,by lia⟩
    ·exact⟨_,rfl,by decide⟩
   refine⟨_,ate,?_⟩;k_is;have a5:=d5.kp _ _ nA a4;refine⟨_,fV (z:=(e,L[x].2)) a5 (by lia) hxt,?_⟩;k_is;exact finS _ S5 _ (d04.trans d5) a5 (setL _) (mD bL be)
  |false=>
  k_is;cases c5:decide (w=5) with
  |true=>
   k_is;refine⟨⟨by decide,by decide,by decide⟩,?_⟩;refine⟨⟨by decide,by decide,by decide⟩,?_⟩;refine⟨rfl,ao d4.pot (by decide) (by decide) fun i S5 i1 i2 d5=>?_⟩;k_is
   obtain⟨e,ate⟩:∃e:Int,atI [D.int (-1),D.int 1,D.int (10 ^ Int.toNat 20),D.int (-(10 ^ Int.toNat 20))] i=some (D.int e):=by
    have:i=0\/i=1\/i=2\/i=3:=by lia
    rcases this with rfl |rfl |rfl |rfl
    ·exact⟨_,rfl⟩
    ·exact⟨_,rfl⟩
    ·exact⟨_,rfl⟩
    ·exact⟨_,rfl⟩
   refine⟨_,ate,?_⟩;k_is;have a5:=d5.kp _ _ nA a4;refine⟨_,fV (z:=(L[x].1,L[x].2+e)) a5 (by lia) hxt,?_⟩;k_is;exact finS _ S5 _ (d04.trans d5) a5 (setL _) (mD bL (bL L[x] (ZC hx)))
  |false=>
  k_is;refine aa (cL a4) ?_;have s5:Sm S4 (S4++[Ob.lst ((L.map ac).take x)]):=Sm.app _ _;have a5:(S4++[Ob.lst ((L.map ac).take x)])[Zb S4]?=some (.lst ((L.take x).map ac)):=by rw[ag,Yb]
  generalize S4++[Ob.lst ((L.map ac).take x)]=S5 at *;generalize hN4:Zb S4=N4 at *;refine aa (rT (s5 _ _ a4) (by lia)) ?_;have s6:Sm S5 (S5++[Ob.lst ((L.map ac).drop ((x:Nat):Int).toNat)]):=Sm.app _ _;have a6:(S5++[Ob.lst ((L.map ac).drop ((x:Nat):Int).toNat)])[Zb S5]?=some (.lst ((L.drop x).map ac)):=by rw[ag,Xv,Zp]
  generalize S5++[Ob.lst ((L.map ac).drop ((x:Nat):Int).toNat)]=S6 at *;generalize Zb S5=N5 at *;k_is;refine⟨by rw[ak a6];rfl,?_⟩;refine bu (L.drop x) ac (fun z=>[ac (z.1,z.2+1)]) (by rw[ZV];lia) (fun _ _=>Ze _) (cV a6) (fun i z S' hz sm=>⟨_,show aA (.tup [.name 9,.name 10]) (.tup [.int z.1,.int z.2]) _=_ from cE (by simp) (by simp),?_⟩) fun S7 s7=>?_
  ·k_is;exact⟨rfl,Sm.refl _⟩
  rw[bj];have em:((L.drop x).map fun z=>ac (z.1,z.2+1))=((L.drop x).map fun z=>(z.1,z.2+1)).map ac:=by rw[Z3];rfl
  rw[em];have s8:Sm S7 (S7++[Ob.lst (((L.drop x).map fun z=>(z.1,z.2+1)).map ac)]):=Sm.app _ _;refine aa (bU (s8 _ _ (s7 _ _ (s6 _ _ a5))) ag (by rw[Za,Za,Za,Zs,ZV];lia)) ?_;k_is;rw[<-Zv];have d8:=d04.thenSm (((s5.trans s6).trans s7).trans s8);have lt8:=d8.pot.lt;refine q _ _ (d8.thenSm (Sm.app _ _)) ⟨_,L.take x++(L.drop x).map fun z=>(z.1,z.2+1),rfl,by lia,ag,?_,fun z hz=>?_⟩
  ·rw[Zh,Za,Zs,ZV]
   lia
  ·rcases Zy.mp hz with hz |hz
   ·exact bL z (ZS hz)
   ·obtain⟨y,hy,rfl⟩:=ZH.mp hz;exact bL y (Xk hy)
end Lw
namespace Lw
open PySem Ev L2
variable {p:Nat} {S:Sto} {k:Nat} {Q:D->Sto->Prop}
structure Shw(t:Dw.D):Prop where
 sh:Dw.Shn t
 de:Dw.dep t<=50
 wi:Dw.wid t<=1000
theorem uw{n m B s:Nat}(f:Dw.Fit n m t)(b:Dw.Bd B s t)(hn:n<=50)(hm:m<=1000)(hB:B<=10 ^ 50)(hs:s<=16000000):Shw t:=
 ⟨b.shn hB (by rw[VX];lia) (ZF f.de (by lia)),ZF f.de hn,ZF f.wi hm⟩
mutual
theorem vX:∀ (n:Nat) {t:Dw.D} {d:D},Dw.dep t < n->TD p S t d->cv n S d=some t
 |n+1,.non,_,_,h=>by rw[h.non];simp only[cv]
 |n+1,.bl _,_,_,h=>by rw[h.bl];simp only[cv]
 |n+1,.int _,_,_,h=>by rw[h.int];simp only[cv]
 |n+1,.str _,_,_,h=>by rw[h.str];simp only[cv]
 |n+1,.tup ts,_,hd,h=>by
  obtain⟨ds,rfl,q⟩:=h.tup;rw[Dw.dep] at hd;simp only[cv,iG n (by lia) q,Zr]
 |n+1,.lst ts,_,hd,h=>by
  rw[TD] at h;obtain⟨m,ds,rfl,_,e,q⟩:=h;rw[Dw.dep] at hd;simp only[cv,e,iG n (by lia) q,Zr]
 |n+1,.dic ks ts,_,hd,h=>by
  rw[TD] at h;obtain⟨m,ds,rfl,_,e,q⟩:=h;rw[Dw.dep] at hd;simp only[cv,e,iG n (by lia) q,Zr]
theorem iG:∀ (n:Nat) {ts:List Dw.D} {ds:List D},Dw.mI ts < n->TDs p S ts ds->b5 (cv n S) ds=some ts
 |n,[],_,_,h=>by rw[h.nil];simp only[b5]
 |n,t::ts,_,hd,h=>by
  obtain⟨d,r,rfl,a,q⟩:=h.cons;rw[Dw.mI] at hd;simp only[b5,vX n (by lia) a,iG n (by lia) q]
end
theorem vY(h:TD p S t d)(s:Shw t):jx d S=some (.str (Dw.aQ t).shown,S):=by
 unfold jx;rw[vX 100 (by have:=s.de;lia) h];dsimp only;rw[if_pos s.sh]
theorem vZ(x y:Str)(S:Sto):aw .ne (.str x) (.str y) S=some (.bl (!(x == y)),S):=ni (x:=.str x) (y:=.str y) (b:=x == y) rfl
end Lw
namespace Lw
open PySem Ev Sn L2
variable {p:Nat} {S S':Sto} {k:Nat} {Q:D->Sto->Prop} {K:Sky}
noncomputable def yc:List Dw.D:=[.non,.bl true,.bl false,.int (-1),.int (10 ^ 30),.str "", .str "a", .str "1", .tup [],.lst [],.dic [] [],.lst [.tup []],.tup [.tup []],.tup [.int 0],.lst [.int 0],.dic [mM 0] [.int 1],.tup [.bl true,.bl true]]
theorem FF(h:Pot p S)(q:∀t d S',Dr p S S'->TD p S' t d->t ∈ yc->Q d S'):Ok (evC ae (k+2) 53 [.ref p] S) Q:=by
 refine aB (d:=ji) (ρ:=[some (.ref p),none]) rfl rfl ?_;dsimp only[ji,n8];k_is;refine⟨⟨by decide,by decide,by decide⟩,?_⟩;have lt:=h.lt;have g0:=@ag S (Ob.lst []);have g1:=@ag (S++[Ob.lst []]) (Ob.dic [] []);have g2:=@ag (S++[Ob.lst []]++[Ob.dic [] []]) (Ob.lst [D.tup []]);have g3:=@ag (S++[Ob.lst []]++[Ob.dic [] []]++[Ob.lst [D.tup []]]) (Ob.lst [D.int 0]);have g4:=@ag (S++[Ob.lst []]++[Ob.dic [] []]++[Ob.lst [D.tup []]]++[Ob.lst [D.int 0]]) (Ob.dic [mM 0] [D.int 1]);have n0:Zb S ≠ p:=by lia
 have n1:Zb (S++[Ob.lst []]) ≠ p:=by simp;lia
 have n2:Zb (S++[Ob.lst []]++[Ob.dic [] []]) ≠ p:=by simp;lia
 have n3:Zb (S++[Ob.lst []]++[Ob.dic [] []]++[Ob.lst [D.tup []]]) ≠ p:=by simp;lia
 have n4:Zb (S++[Ob.lst []]++[Ob.dic [] []]++[Ob.lst [D.tup []]]++[Ob.lst [D.int 0]]) ≠ p:=by simp;lia
 have n5:Zb (S++[Ob.lst []]++[Ob.dic [] []]++[Ob.lst [D.tup []]]++[Ob.lst [D.int 0]]++[Ob.dic [mM 0] [D.int 1]]) ≠ p:=by simp;lia
 have s1:=Sm.app S [Ob.lst []];have s2:=Sm.app (S++[Ob.lst []]) [Ob.dic [] []];have s3:=Sm.app (S++[Ob.lst []]++[Ob.dic [] []]) [Ob.lst [D.tup []]];have s4:=Sm.app (S++[Ob.lst []]++[Ob.dic [] []]++[Ob.lst [D.tup []]]) [Ob.lst [D.int 0]];have s5:=Sm.app (S++[Ob.lst []]++[Ob.dic [] []]++[Ob.lst [D.tup []]]++[Ob.lst [D.int 0]]) [Ob.dic [mM 0] [D.int 1]];generalize hE:(S++[Ob.lst []]++[Ob.dic [] []]++[Ob.lst [D.tup []]]++[Ob.lst [D.int 0]]++[Ob.dic [mM 0] [D.int 1]])=E at *;have s6:=fun o=>Sm.app E [o];have g5:=fun o=>@ag E o;generalize Zb (S++[Ob.lst []]++[Ob.dic [] []]++[Ob.lst [D.tup []]]++[Ob.lst [D.int 0]])=i4 at *;generalize Zb (S++[Ob.lst []]++[Ob.dic [] []]++[Ob.lst [D.tup []]])=i3 at *;generalize Zb (S++[Ob.lst []]++[Ob.dic [] []])=i2 at *;generalize Zb (S++[Ob.lst []])=i1 at *
 have td:∀o,TDs p (E++[o]) yc [D.non,D.bl true,D.bl false,D.int (-1),D.int (10 ^ Int.toNat 30),D.str (Str.ofString ""),D.str (Str.ofString "a"),D.str (Str.ofString "1"),D.tup [],D.ref (Zb S),D.ref i1,D.ref i2,D.tup [D.tup []],D.tup [D.int 0],D.ref i3,D.ref i4,D.tup [D.bl true,D.bl true]]:=fun o=>by
  refine ad pO (ad rB (ad rB (ad aN (ad aN (ad mi (ad mi (ad mi (ad (ba aC) (ad (fS n0 (s6 o _ _ (s5 _ _ (s4 _ _ (s3 _ _ (s2 _ _ g0))))) aC) (ad (AL n1 (s6 o _ _ (s5 _ _ (s4 _ _ (s3 _ _ g1)))) aC) (ad (fS n2 (s6 o _ _ (s5 _ _ (s4 _ _ g2))) (ad (ba aC) aC)) (ad (ba (ad (ba aC) aC)) (ad (ba (ad aN aC)) (ad (fS n3 (s6 o _ _ (s5 _ _ g3)) (ad aN aC)) (ad (AL n4 (s6 o _ _ g4) (ad aN aC)) (ad (ba (ad rB (ad rB aC))) aC))))))))))))))))
 have d0:∀o,Dr p S (E++[o]):=fun o=>Dr.sm h ((((s1.trans s2).trans s3).trans s4).trans (s5.trans (s6 o)));generalize [D.non,D.bl true,D.bl false,D.int (-1),D.int (10 ^ Int.toNat 30),D.str (Str.ofString ""),D.str (Str.ofString "a"),D.str (Str.ofString "1"),D.tup [],D.ref (Zb S),D.ref i1,D.ref i2,D.tup [D.tup []],D.tup [D.int 0],D.ref i3,D.ref i4,D.tup [D.bl true,D.bl true]]=L at *;have ll:L.length=17:=(td (Ob.lst [])).len;have lq:au b7 (D.ref (Zb E)) (E++[Ob.lst L])=some (.int 17,E++[Ob.lst L]):=by simp only[au,al,ak (g5 _),Zr,b7,ll];rfl
 k_is;refine aa lq ?_;k_is;refine⟨rfl,ao (d0 _).pot (by decide) (by decide) fun r S1 r1 r2 d1=>?_⟩;obtain⟨n,rfl⟩:∃n:Nat,r=(n:Int):=⟨r.toNat,by lia⟩;have a1:=d1.kp _ _ n5 (g5 (Ob.lst L));have hn:n < yc.length:=by show n < 17;lia
 obtain⟨d,e1,tdn⟩:=((td (Ob.lst L)).keep d1.kp).get (gEG hn);have ix:ixS (.ref (Zb E)) (.int (n:Int)) S1=some (d,S1):=by simp only[ixS,al,ak a1,Zr,Ev.oK e1]
 refine aa ix ?_;k_is;exact q _ _ _ ((d0 _).trans d1) tdn (ZC hn)
theorem FG(h:Pot p S)(sk:SkOk K){N:Nat}(nN:N ≠ p)(hN:S[N]?=some (.lst (L.map ac)))(lL:L.length<=12)(bL:NB L)(q:∀No a b c S',Dr p S S'->S'[No]?=some (.lst [a,b,c])->No ≠ p->(∀d ∈ [a,b,c],Lnd p S' 52 K d)->Q (.ref No) S'):Ok (evC ae (k+2) 56 [.ref p,.ref N,skE K] S) Q:=by
 refine aB (d:=gY) (ρ:=[some (.ref p),some (.ref N),some (skE K),none]) rfl rfl ?_;dsimp only[gY,ma];have g7:=sk.g7;k_is;refine⟨by decide,?_⟩;refine mj (by decide) (fun i acc S'=>Dr p S S'/\∃M:List (Int × Int),acc=M.map ac/\M.length=i/\NB M) (fun i acc S1 hi ⟨d1,M,ea,lM,bM⟩=>⟨_,rfl,?_⟩) (fun es S1 ⟨d1,M,ea,lM,bM⟩=>⟨by rw[ea,Za];lia,?_⟩) ⟨Dr.refl h,[],rfl,rfl,fun z hz=>by cases hz⟩
 ·k_is;refine aa sk2 (aa aZ ?_);k_is;refine⟨rfl,ao d1.pot (by lia) (by lia) fun x S2 x1 x2 d2=>?_⟩;k_is;refine⟨rfl,ao d2.pot (by decide) (by decide) fun y S3 y1 y2 d3=>?_⟩;k_is;refine⟨(d1.trans d2).trans d3,M++[(x,y)],by rw[ea,Zv];rfl,by rw[Zh,ZM];lia,fun z hz=>?_⟩;rcases Zy.mp hz with hz |hz
  ·exact bM z hz
  ·rw[ZG.mp hz];show x.natAbs<=_
   lia
 ·subst ea;k_is;have lt1:=d1.pot.lt;have d2:Dr p S (S1++[Ob.lst (M.map ac)]):=d1.thenSm (Sm.app _ _);have a2:(S1++[Ob.lst (M.map ac)])[Zb S1]?=some (.lst (M.map ac)):=ag;have n2:Zb S1 ≠ p:=by lia
  generalize S1++[Ob.lst (M.map ac)]=S2 at *;generalize Zb S1=NM at *;have hN2:=d2.kp _ _ nN hN;have lt2:=d2.pot.lt;have nbA:∀ {A B:List (Int × Int)},NB A->NB B->NB (A++B):=fun hA hB z hz=>(Zy.mp hz).elim (hA z) (hB z);refine aa (bU hN2 a2 (by rw[Za,Za];lia)) ?_;rw[<-Zv];have s3:Sm S2 (S2++[Ob.lst ((L++M).map ac)]):=Sm.app _ _;have a3:(S2++[Ob.lst ((L++M).map ac)])[Zb S2]?=some (.lst ((L++M).map ac)):=ag;generalize S2++[Ob.lst ((L++M).map ac)]=S3 at *;generalize hN3:Zb S2=N3 at *;k_is;refine aa (cL (j:=20) a3) ?_;rw[<-Yb];have s4:Sm S3 (S3++[Ob.lst (((L++M).take 20).map ac)]):=Sm.app _ _;have a4:(S3++[Ob.lst (((L++M).take 20).map ac)])[Zb S3]?=some (.lst (((L++M).take 20).map ac)):=ag;have n4:Zb S3 ≠ p:=by have:=(Dr.sm d2.pot s3).pot.lt;lia
  generalize S3++[Ob.lst (((L++M).take 20).map ac)]=S4 at *;generalize Zb S3=N4 at *;have s24:=s3.trans s4;refine aa (bU (s24 _ _ hN2) (s24 _ _ a2) (by rw[Za,Za];lia)) ?_;rw[<-Zv];have s5:Sm S4 (S4++[Ob.lst ((L++M).map ac)]):=Sm.app _ _;have a5:(S4++[Ob.lst ((L++M).map ac)])[Zb S4]?=some (.lst ((L++M).map ac)):=ag;generalize S4++[Ob.lst ((L++M).map ac)]=S5 at *;generalize Zb S4=N5 at *;refine aa (bU a5 (s5 _ _ (s24 _ _ a2)) (by rw[Za,Za,Zh];lia)) ?_;rw[<-Zv];have s6:Sm S5 (S5++[Ob.lst ((L++M++M).map ac)]):=Sm.app _ _;have a6:(S5++[Ob.lst ((L++M++M).map ac)])[Zb S5]?=some (.lst ((L++M++M).map ac)):=ag;generalize S5++[Ob.lst ((L++M++M).map ac)]=S6 at *;generalize Zb S5=N6 at *;k_is;refine aa (cL (j:=21) a6) ?_;rw[<-Yb];have s26:=(s24.trans s5).trans s6;have s7:Sm S6 (S6++[Ob.lst (((L++M++M).take 21).map ac)]):=Sm.app _ _;have a7:(S6++[Ob.lst (((L++M++M).take 21).map ac)])[Zb S6]?=some (.lst (((L++M++M).take 21).map ac)):=ag;have n7:Zb S6 ≠ p:=by have:=(Dr.sm d2.pot s26).pot.lt;lia
  generalize S6++[Ob.lst (((L++M++M).take 21).map ac)]=S7 at *;generalize Zb S6=N7 at *;have s27:=s26.trans s7;refine aa (bU (s27 _ _ hN2) (s27 _ _ a2) (by rw[Za,Za];lia)) ?_;rw[<-Zv];have s8:Sm S7 (S7++[Ob.lst ((L++M).map ac)]):=Sm.app _ _;have a8:(S7++[Ob.lst ((L++M).map ac)])[Zb S7]?=some (.lst ((L++M).map ac)):=ag;generalize S7++[Ob.lst ((L++M).map ac)]=S8 at *;generalize Zb S7=N8 at *;refine aa (bU a8 (s8 _ _ (s27 _ _ a2)) (by rw[Za,Za,Zh];lia)) ?_;rw[<-Zv];have s28:=s27.trans s8;have s9:Sm S8 (S8++[Ob.lst ((L++M++M).map ac)]):=Sm.app _ _;have a9:(S8++[Ob.lst ((L++M++M).map ac)])[Zb S8]?=some (.lst ((L++M++M).map ac)):=ag;have n9:Zb S8 ≠ p:=by have:=(Dr.sm d2.pot s28).pot.lt;lia
  generalize S8++[Ob.lst ((L++M++M).map ac)]=S9 at *;generalize Zb S8=N9 at *;k_is;have sA:Sm S9 (S9++[Ob.lst [.ref N4,.ref N7,.ref N9]]):=Sm.app _ _;have lt9:=(Dr.sm d2.pot (s28.trans s9)).pot.lt;refine q _ (.ref N4) (.ref N7) (.ref N9) _ (d2.thenSm ((s28.trans s9).trans sA)) ag (by lia) fun d hd=>?_;have bLM:=nbA bL bM;have bA:=nbA bLM bM;simp only[Zm,Yr,or_false] at hd;rcases hd with rfl |rfl |rfl
  ·exact⟨N4,_,rfl,n4,sA _ _ (s9 _ _ (s8 _ _ (s7 _ _ (s6 _ _ (s5 _ _ a4))))),by rw[Zs];lia,fun z hz=>bLM z (ZS hz)⟩
  ·exact⟨N7,_,rfl,n7,sA _ _ (s9 _ _ (s8 _ _ a7)),by rw[Zs];lia,fun z hz=>bA z (ZS hz)⟩
  ·exact⟨N9,_,rfl,n9,sA _ _ a9,by rw[Zh,Zh];lia,bA⟩
theorem B0(sk:SkOk K)(h:TD p S t d)(hl:∀ts,t = .lst ts->ts.length<=1000)(q1:psT t=false->∀S',Sm S S'->Q (.str "landings") S')(q2:∀L:List (Int × Int),t = .lst (L.map Dw.bZ)->L.length<=20->∀S',Sm S S'->Q (amF K L) S'):Ok (evC ae (k+10) 55 [skE K,d] S) Q:=by
 refine Li (Lh (d:=mf) (rs:=gN) (ρ:=[some (skE K),some d,none]) rfl rfl rfl ?_);unfold gN;refine Ot (ds:=[skE K,d]) (S1:=S) rfl rfl ?_;refine Lh (d:=vH) (rs:=pN) (ρ:=[some (skE K),some d]) rfl rfl rfl ?_;unfold pN;refine Os (ds:=[skE K]) (S1:=S) rfl rfl (BC (k:=k) sk fun S1 s1=>?_);refine GF ?_;have h1:=h.keep s1.kp;k_is;refine⟨rfl,BT (k:=k+5) h1 hl fun S2 s2=>?_⟩;k_is;cases c:psT t with
 |false=>exact⟨by decide,by decide,_,rfl,q1 c S2 (s1.trans s2)⟩
 |true=>
  rw[if_neg (by decide)];cases t with
  |lst ts=>
   have hc:(decide (ts.length<=20) && ts.all prT)=true:=c;rw[bAE] at hc;obtain⟨L,rfl⟩:=vV hc.2;obtain⟨n,ds,rfl,nn,hn,hs⟩:=TD.lst h1;rw[ow hs] at hn;have l20:=of_decide_eq_true hc.1;rw[Za] at l20;refine Oq ?_;k_is;exact⟨rfl,BS (k:=k+2) sk.vd (s2 _ _ hn) l20 fun S3 s3=>q2 L rfl l20 S3 ((s1.trans s2).trans s3)⟩
  |_=>cases c
noncomputable def qb(K:Sky)(L:List (Int × Int)):D:=if L.length<=20 then amF K L else .str "landings"
theorem rX{L:List (Int × Int)}:psT (.lst (L.map Dw.bZ))=decide (L.length<=20):=by
 show(decide ((L.map Dw.bZ).length<=20) && (L.map Dw.bZ).all prT)=_;have:(L.map Dw.bZ).all prT=true:=by rw[Yx,ZJ];intro x _;rfl
 rw[this,X8,Za]
theorem rY:∀ {L L':List (Int × Int)},L.map Dw.bZ=L'.map Dw.bZ->L=L'
 |[],[],_=>rfl
 |[],_::_,e=>by cases e
 |_::_,[],e=>by cases e
 |z::L,z'::L',e=>by
  rw[Zx,Zx] at e;injection e with e1 e2;rw[rY e2];cases z;cases z';cases e1;rfl
theorem FH(sk:SkOk K){n:Nat}(nn:n ≠ p)(hn:S[n]?=some (.lst (L.map ac)))(lL:L.length<=100)(q:∀S',Sm S S'->Q (qb K L) S'):Ok (evC ae (k+10) 55 [skE K,.ref n] S) Q:=by
 unfold qb at q;refine B0 (p:=p) sk (fS nn hn (dU L)) (fun ts e=>by cases e;rw[Za];lia) (fun c S' s'=>?_) fun L' e l20 S' s'=>?_
 ·have q:=q S' s';rw[rX] at c;rw[if_neg (of_decide_eq_false c)] at q;exact q
 ·have e':L.map Dw.bZ=L'.map Dw.bZ:=by injection e
  have q:=q S' s';rw[rY e',if_pos l20] at q;exact q
noncomputable def wds:List Str:=["none", "twice", "order", "soon", "late", "shut", "gap", "lacks", "rings", "ring", "landings"]
theorem v0:∀w ∈ wds,(reprText w).length<=20:=by decide +kernel
theorem gn{c:Bool}{a w:Str}{o:Option Str}(ha:a ∈ wds)(ho:o=some w->w ∈ wds)(h:(bif c then some a else o)=some w):w ∈ wds:=by
 cases c with
 |false=>exact ho h
 |true=>cases h;exact ha
theorem Lr:("none" : Str) ∈ wds/\("twice" : Str) ∈ wds/\("order" : Str) ∈ wds/\("soon" : Str) ∈ wds/\("late" : Str) ∈ wds/\("shut" : Str) ∈ wds/\("gap" : Str) ∈ wds:=by unfold wds;simp
theorem B1{A:List (Int × Int)}{j:Nat}{z:Int × Int}{w:Str}(h:bV K A j z=some w):w ∈ wds:=by
 obtain⟨w0,w1,w2,w3,w4,w5,w6⟩:=Lr;unfold bV at h;cases c:decide (0<=z.1) && decide (z.1 < (K.G.length:Int)) with
 |false=>rw[c] at h;cases h;exact w0
 |true=>rw[c] at h;exact gn w1 (gn w2 (gn w3 (gn w4 (gn w5 (gn w6 fun e=>by cases e))))) h
theorem OA(hw:w ∈ wds):Shw (.str w):=uw (n:=0) (m:=0) (B:=1) (s:=20) ⟨by simp[Dw.dep],by simp[Dw.wid]⟩ ⟨by simp only[Dw.bnd],by rw[Dw.sz];exact v0 w hw⟩ (by decide) (by decide) (by decide) (by decide)
theorem OB{g:Int}(hw:w ∈ wds)(hg:g.natAbs<=10 ^ 20):Shw (.tup [.str w,.int g]):=by
 have:=v0 w hw;refine uw (n:=1) (m:=2) (B:=10 ^ 31) (s:=100) ⟨by simp[Dw.dep,Dw.mI],by simp[Dw.wid,Dw.yU]⟩ ⟨?_,?_⟩ (by decide) (by decide) (by decide) (by decide)
 ·simp only[Dw.bnd,Dw.jQ,true_and,and_true];lia
 ·simp only[Dw.sz,Dw.szL];lia
theorem Ls(b:NB L)(h:(Zj L.length).findSome? (jp K L)=some d):∃w g,d = .tup [.str w,.int g]/\w ∈ wds/\g.natAbs<=10 ^ 20:=by
 obtain⟨j,_,hj⟩:=Yn h;unfold jp at hj;cases hz:L[j]? with
 |none=>rw[hz] at hj;cases hj
 |some z=>
  rw[hz,Ys] at hj;cases hw:bV K (L.take j) j z with
  |none=>rw[hw] at hj;cases hj
  |some w=>rw[hw] at hj;cases hj;exact⟨w,z.1,rfl,B1 hw,b z (Zf hz)⟩
theorem Lu(b:NB L)(h:(Zj L.length).findSome? (fU K L)=some d):∃g,d = .int g/\g.natAbs<=10 ^ 20:=by
 obtain⟨j,_,hj⟩:=Yn h;unfold fU at hj;cases hz:L[j]? with
 |none=>rw[hz] at hj;cases hj
 |some z=>
  rw[hz,Ys] at hj;cases hw:dZ K (L.take j) z.1 z.2 with
  |false=>rw[hw] at hj;cases hj
  |true=>rw[hw] at hj;cases hj;exact⟨z.1,rfl,b z (Zf hz)⟩
theorem OC(sk:SkOk K):∀x ∈ js K,x.natAbs<=10 ^ 20:=fun x hx=>by
 have hx':x ∈ K.G.map fun g=>g.getD 1 0:=(bJ _).mem_iff.mp hx;obtain⟨g,hg,rfl⟩:=ZH.mp hx';obtain⟨kd,jo,fi,la,du,we,ri,rfl,hb⟩:=sk.gb g hg;show jo.natAbs<=_;have:=sk.me.s0
 lia
theorem FI(sk:SkOk K)(b:NB L):∃t,Shw t/\∀S,TD p S t (amF K L):=by
 have two:∀ (w:Str) (g:Int),w ∈ wds->g.natAbs<=10 ^ 20->∃t,Shw t/\∀S,TD p S t (D.tup [.str w,.int g]):=fun w g hw hg=>⟨_,OB hw hg,fun S=>ba (ad mi (ad aN aC))⟩;unfold amF;cases h1:(Zj L.length).findSome? (jp K L) with
 |some d=>obtain⟨w,g,rfl,hw,hg⟩:=Ls b h1;exact two w g hw hg
 |none=>
  dsimp only;cases h2:(Zj K.G.length).find? fun(g:Nat)=>!decide ((g:Int) ∈ L.map (·.1)) with
  |some g=>exact two _ g (by unfold wds;simp) (by have:=Z2.mp (YT h2);have:=sk.g7;lia)
  |none=>
   dsimp only;cases h3:(js K).find? fun t=>decide (K.r < (wts K L t:Int)) with
   |some t=>exact two _ t (by unfold wds;simp) (OC sk t (YT h3))
   |none=>
    dsimp only;cases h4:(Zj L.length).findSome? (fU K L) with
    |some d=>obtain⟨g,rfl,hg⟩:=Lu b h4;exact two _ g (by unfold wds;simp) hg
    |none=>exact⟨.non,uw (n:=0) (m:=0) (B:=1) (s:=10) ⟨by simp[Dw.dep],by simp[Dw.wid]⟩ ⟨by simp only[Dw.bnd],by rw[Dw.sz];exact Ze _⟩ (by decide) (by decide) (by decide) (by decide),fun S=>pO⟩
theorem FJ(sk:SkOk K)(b:NB L):∃x,∀S,jx (qb K L) S=some (.str x,S):=by
 unfold qb;split
 ·obtain⟨t,hs,ht⟩:=FI (p:=0) sk b;exact⟨_,fun S=>vY (ht S) hs⟩
 ·exact⟨_,fun S=>vY (p:=0) mi (OA (by unfold wds;simp))⟩
theorem Lv(h:TD p S t d):∃c,aw .ne d (.ref (Zb S)) (S++[Ob.lst []])=some (.bl c,S++[Ob.lst []])/\(t = .lst []->c=false):=by
 have a:(S++[Ob.lst []])[Zb S]?=some (.lst []):=ag;have no:∀ {x:D},eqD 60 (S++[Ob.lst []]) x (.ref (Zb S))=some false->t ≠ .lst []->d=x->∃c,aw .ne d (.ref (Zb S)) (S++[Ob.lst []])=some (.bl c,S++[Ob.lst []])/\(t = .lst []->c=false):=fun e n hd=>⟨true,by rw[hd];exact ni e,fun z=>absurd z n⟩;cases t with
 |non=>exact no (by simp only[eqD,ak a]) (fun z=>by cases z) h.non
 |bl b=>exact no (by simp only[eqD,ak a]) (fun z=>by cases z) h.bl
 |int i=>exact no (by simp only[eqD,ak a]) (fun z=>by cases z) h.int
 |str x=>exact no (by simp only[eqD,ak a]) (fun z=>by cases z) h.str
 |tup ts=>
  obtain⟨ds,rfl,_⟩:=h.tup;exact no (by simp only[eqD,ak a]) (fun z=>by cases z) rfl
 |lst ts=>
  obtain⟨n,ds,rfl,_,hn,hs⟩:=TD.lst h;have lt:n < S.length:=(Zc.mp hn).1;refine⟨_,ne_nil (Sm.app _ _ _ _ hn) a (by lia),fun z=>?_⟩;cases z;rw[hs.nil];rfl
 |dic ks ts=>
  rw[TD] at h;obtain⟨n,ds,rfl,_,hn,hs⟩:=h;refine⟨true,?_,fun z=>by cases z⟩;have hn':(S++[Ob.lst []])[n]?=some (.dic ks ds):=Sm.app _ _ _ _ hn
  have e:eqD 60 (S++[Ob.lst []]) (.ref n) (.ref (Zb S))=none:=by
   show(match am (S++[Ob.lst []]) n,am (S++[Ob.lst []]) (Zb S) with |some xs,some ys=>if n=Zb S then some true else if xs.length=ys.length then eqL (eqD 59 (S++[Ob.lst []])) xs ys else some false |_,_=>none)=none;rw[show am (S++[Ob.lst []]) n=none by unfold am;rw[hn']]
  show neS _ _ _=_;unfold neS neD;rw[e];dsimp only;unfold dlD;dsimp only;rw[hn',a];rfl
theorem Lx:∀t ∈ yc,t = .lst []\/psT t=false:=by
 intro t ht;simp only[yc,Zm,Yr,or_false] at ht;rcases ht with rfl |rfl |rfl |rfl |rfl |rfl |rfl |rfl |rfl |rfl |rfl |rfl |rfl |rfl |rfl |rfl |rfl <;> first |exact .inr rfl |exact .inl rfl
theorem Ly:∀t ∈ yc,∀us,t = .lst us->us.length<=1000:=by
 intro t ht us e;subst e;simp only[yc,Zm,Yr,or_false,reduceCtorEq,false_or] at ht;rcases ht with e |e |e <;> cases e <;> decide
theorem GK:∀ (L R:List (Int × Int)),∃b,eqL (eqD 59 S) (L.map ac) (R.map ac)=some b/\(L=R->b=true)
 |[],[]=>⟨true,rfl,fun _=>rfl⟩
 |[],q::R=>⟨false,rfl,fun z=>by cases z⟩
 |p::L,[]=>⟨false,rfl,fun z=>by cases z⟩
 |p::L,q::R=>by
  obtain⟨b,e,h⟩:=GK L R;have e1:eqD 59 S (ac p) (ac q)=some ((p.1 == q.1) && ((p.2 == q.2) && true)):=rfl;refine⟨((p.1 == q.1) && ((p.2 == q.2) && true)) && b,by rw[Zx,Zx,eqL,e1,e],fun z=>?_⟩;cases z;rw[h rfl,beq_self_eq_true,beq_self_eq_true];rfl
theorem B2{a b:Nat}{L:List (Int × Int)}(ha:S[a]?=some (.lst (L.map ac)))(hb:S[b]?=some (.lst (L.map ac))):aw .ne (.ref a) (.ref b) S=some (.bl false,S):=by
 have:eqD 60 S (.ref a) (.ref b)=some true:=by
  show(match am S a,am S b with
   |some xs,some ys=>if a=b then some true else if xs.length=ys.length then eqL (eqD 59 S) xs ys else some false
   | _,_=>none)=some true
  rw[ak ha,ak hb];dsimp only;split
  ·rfl
  ·rw[if_pos rfl];obtain⟨c,e,h⟩:=GK (S:=S) L L;rw[e,h rfl]
 exact ni this
theorem FK{n:Nat}(hn:S[n]?=some (.lst xs))(hl:xs.length<=10):bC .mul (.ref n) (.int 5) S=some (.ref (Zb S),S++[.lst (Zo 5 xs).flatten]):=by
 simp only[bC,o6,hn];rw[if_pos ⟨by decide,by show xs.length * 5<=1000;lia,by decide⟩];rfl
theorem Lnd.keep{m:Nat}(h:Lnd p S m K d)(k:Ev.Kp p S S'):Lnd p S' m K d:=by
 obtain⟨N,L,e,n,a,l⟩:=h;exact⟨N,L,e,n,k _ _ n a,l⟩
theorem Lnd.up{m m':Nat}(h:Lnd p S m K d)(k:m<=m'):Lnd p S m' K d:=by
 obtain⟨N,L,e,n,a,l,b⟩:=h;exact⟨N,L,e,n,a,ZF l k,b⟩
noncomputable def iH:List CS:=match jM with
 |.for_ _ _ b::_=>b
 |_=>[]
noncomputable def jr:List CS:=match iH.drop 7 with
 |.for_ _ _ b::_=>b
 |_=>[]
theorem Lz{b:Nat}(h:Ok (aw .ne x (.ref b) S) Q):wCx .ne x (.ref b) S Q:=by cases x <;> exact h
theorem yd(sk:SkOk K)(td:TD p S t d)(hp:t = .lst []\/psT t=false)(hl:∀us,t = .lst us->us.length<=1000)
  (q:∀S',Sm S S'->Qf .nx [a,b,c,some (skE K),e,f,g,h,i,j,l,m,some d] S'):rW (wSs (evC ae 39) (cu ae) 57 jr) [a,b,c,some (skE K),e,f,g,h,i,j,l,m,some d] S Qf:=by
 dsimp only[jr,iH,jM,Z5];k_is;obtain⟨cc,e1,e2⟩:=Lv td;refine Lz (aa e1 ?_);have s1:Sm S (S++[Ob.lst []]):=Sm.app _ _;generalize S++[Ob.lst []]=S1 at *;cases cc with
 |false=>k_is;exact q S1 s1
 |true=>
  k_is;have hp:psT t=false:=hp.elim (fun z=>by cases e2 z) id;refine⟨rfl,B0 (k:=29) sk (td.keep s1.kp) hl (fun _ S2 s2=>?_) fun L e l20=>?_⟩
  ·k_is;refine aa (vZ _ _ _) ?_;rw[beq_self_eq_true];k_is;exact q S2 (s1.trans s2)
  ·subst e;rw[rX,decide_eq_true l20] at hp;cases hp
theorem B3(h:Pot p S)(sk:SkOk K){Nr:Nat}(hr:S[Nr]?=some (.lst ds))(nr:Nr ≠ p)(h1:1<=ds.length)(hl:ds.length<=100)(hd:∀d ∈ ds,Lnd p S 52 K d)
  (q:∀u7 u8 u9 u10 u11 u12 u13 S',Dr p S S'->Qf .nx [some (.ref 0),some ik,some (.ref p),some (skE K),some (.ref Nr),rt,u7,u8,u9,u10,u11,u12,u13] S') :
  rW (wSs (evC ae 39) (cu ae) 52 (iH.drop 6)) [some (.ref 0),some ik,some (.ref p),some (skE K),some (.ref Nr),rt,u7,u8,u9,u10,u11,u12,u13] S Qf:=by
 have things:=@yd p;dsimp only[jr,iH,jM,Z5] at things ⊢;k_is;refine⟨by rw[ak hr];rfl,?_⟩;refine BG (ds:=ds) (by lia) (fun i ρ S'=>Dr p S S'/\∃u7 u8 u9 u10 u11 u12,ρ=[some (.ref 0),some ik,some (.ref p),some (skE K),some (.ref Nr),rt,u7,u8,u9,u10,u11,u12,u13]) (fun i ρ S' iv=>iv.1.kp _ _ nr hr) (fun i d ρ S1 hdi hq1=>?_) (fun ρ S1 hq2=>?_) ⟨Dr.refl h,_,_,_,_,_,_,rfl⟩
 ·obtain⟨d1,u7,u8,u9,u10,u11,u12,er⟩:=hq1;subst er;have ld:=(hd d (Zf hdi)).keep d1.kp;refine⟨_,rfl,?_⟩;k_is;refine⟨rfl,ao d1.pot (by decide) (by decide) fun c0 S2 c1 c2 d2=>?_⟩;k_is;refine⟨dG (by lia) (by lia),?_⟩;refine eZ (by lia) (fun t ρ S'=>Dr p S S'/\Ev.Kp p S1 S'/\∃ (e:D) (u9:Option D),ρ=[some (.ref 0),some ik,some (.ref p),some (skE K),some (.ref Nr),rt,some d,some e,u9,u10,u11,u12,u13]/\Lnd p S' (52+t) K e) (fun t ρ S3 ht hq3=>?_) (fun ρ S3 hq4=>?_) ⟨d1.trans d2,d2.kp,d,_,rfl,ld.keep d2.kp⟩
  ·obtain⟨d3,k3,e,u9,er,le⟩:=hq3;subst er;obtain⟨N,L,rfl,nN,hN,lL,bL⟩:=le;refine⟨_,rfl,?_⟩;k_is;refine⟨rfl,yb (k:=37) d3.pot sk hN (by lia) bL fun d' S4 d4 ln=>?_⟩;k_is;exact⟨d3.trans d4,k3.trans d4.kp,d',_,rfl,ln.up (by lia)⟩
  ·obtain⟨d3,k3,e,u9,er,le⟩:=hq4;subst er;have le15:Lnd p S3 60 K e:=le.up (by lia);have ld3:Lnd p S3 60 K d:=(ld.keep k3).up (by decide);k_is;refine Bn (ds:=[d,e,d]) (by show 3<=100000;decide) (fun t ρ S'=>Dr p S3 S'/\∃u10 u11 u12,ρ=[some (.ref 0),some ik,some (.ref p),some (skE K),some (.ref Nr),rt,some d,some e,u9,u10,u11,u12,u13]) (fun t x ρ S4 hx hq5=>?_) (fun ρ S4 hq6=>?_) ⟨Dr.refl d3.pot,_,_,_,rfl⟩
   ·obtain⟨d4,u10,u11,u12,er⟩:=hq5;subst er
    have lx:Lnd p S4 60 K x:=by
     have hm:=Zf hx;simp only[Zm,Yr,or_false] at hm;rcases hm with rfl |rfl |rfl
     ·exact ld3.keep d4.kp
     ·exact le15.keep d4.kp
     ·exact ld3.keep d4.kp
    obtain⟨N,L,rfl,nN,hN,lL,bL⟩:=lx;obtain⟨rx,hrx⟩:=FJ sk bL;refine⟨_,rfl,?_⟩;k_is;refine aa (cM hN) ?_;k_is;rw[Za]
    have tail:∀ (Qf:Fl->Rho->Sto->Prop),(∀ρ2 S2,(Dr p S3 S2/\∃u10 u11 u12,ρ2=[some (.ref 0),some ik,some (.ref p),some (skE K),some (.ref Nr),rt,some d,some e,u9,u10,u11,u12,u13])->Qf .nx ρ2 S2)->∀ (S4':Sto),Sm S4 S4'->rW (wSs (evC ae 39) (cu ae) 44 [.asg (.name 11) (.listOf (.var 9)),.ifs (.or (.cmp .ne (.rep (.call 55 [(.var 3),(.var 11)])) (.rep (.var 10))) (.cmp .ne (.var 11) (.var 9))) [.ret (.bl false)] []]) [some (.ref 0),some ik,some (.ref p),some (skE K),some (.ref Nr),rt,some d,some e,u9,some (.ref N),some (qb K L),u12,u13] S4' Qf:=fun Qf hq S4' s4'=>by
     have d4':=d4.thenSm s4';have hN':=s4' _ _ hN;k_is;have it:al (.ref N) S4'=some (false,L.map ac):=by simp only[al,ak hN',Zr]
     rw[it];show Ok (some (L.map ac,S4')) _;rw[ay];k_is;have lt4:=d4'.pot.lt;have s5:Sm S4' (S4'++[Ob.lst (L.map ac)]):=Sm.app _ _;have a5:(S4'++[Ob.lst (L.map ac)])[Zb S4']?=some (.lst (L.map ac)):=ag;have nh:Zb S4' ≠ p:=by lia
     generalize S4'++[Ob.lst (L.map ac)]=S5 at *;generalize Zb S4'=Nh at *;refine⟨rfl,FH (k:=29) sk nh a5 (by lia) fun S6 s6=>?_⟩;refine aa (hrx S6) (aa (hrx S6) ?_);k_is;refine aa (vZ _ _ _) ?_;rw[beq_self_eq_true];k_is;refine aa (B2 (s6 _ _ a5) (s6 _ _ (s5 _ _ hN'))) ?_;k_is;exact hq _ _ ⟨d4'.thenSm (s5.trans s6),_,_,_,rfl⟩
    by_cases h20:L.length<=20
    ·rw[decide_eq_true (show(L.length:Int)<=20 by lia)];k_is;refine⟨rfl,jq (k:=36) sk hN h20 fun S5 s5=>?_⟩;k_is;have e1:amF K L=qb K L:=by unfold qb;rw[if_pos h20]
     rw[e1];exact tail _ (fun _ _ z=>z) S5 s5
    ·rw[decide_eq_false (show ¬ (L.length:Int)<=20 by lia)];k_is;have e1:D.str (Str.ofString "landings")=qb K L:=by unfold qb;rw[if_neg h20]
     rw[e1];exact tail _ (fun _ _ z=>z) S4 (Sm.refl _)
   ·obtain⟨d4,u10,u11,u12,er⟩:=hq6;subst er;k_is;exact⟨d3.trans d4,_,_,_,_,_,_,rfl⟩
 ·obtain⟨d1,u7,u8,u9,u10,u11,u12,er⟩:=hq2;subst er;k_is;refine⟨rfl,FF (k:=37) d1.pot fun t0 e0 S2 d2 td0 o0=>?_⟩;have hr2:=(d1.trans d2).kp _ _ nr hr;obtain⟨d0,hd0⟩:∃d0,ds[0]?=some d0:=⟨ds[0],gEG (by lia)⟩;refine aa (bK (i:=0) hr2 (by decide) hd0) ?_;obtain⟨N,L,rfl,nN,hN,lL,bL⟩:=(hd d0 (Zf hd0)).keep (d1.trans d2).kp;refine aa (gm hN) ?_;k_is;have lt2:=d2.pot.lt;have s3:Sm S2 (S2++[Ob.lst [.tup [.int 0,.bl true]]]):=Sm.app _ _;have a3:(S2++[Ob.lst [.tup [.int 0,.bl true]]])[Zb S2]?=some (.lst [.tup [.int 0,.bl true]]):=ag;have n3:Zb S2 ≠ p:=by lia
  have l3:(S2++[Ob.lst [.tup [.int 0,.bl true]]]).length=Zb S2+1:=by rw[Zh];rfl
  generalize S2++[Ob.lst [.tup [.int 0,.bl true]]]=S3 at *;have s4:Sm S3 (S3++[Ob.lst [.int 0,.int 3]]):=Sm.app _ _;have a4:(S3++[Ob.lst [.int 0,.int 3]])[Zb S3]?=some (.lst [.int 0,.int 3]):=ag;have n4:Zb S3 ≠ p:=by lia
  have l4:(S3++[Ob.lst [.int 0,.int 3]]).length=Zb S3+1:=by rw[Zh];rfl
  generalize S3++[Ob.lst [.int 0,.int 3]]=S4 at *;have s5:Sm S4 (S4++[Ob.lst [.ref (Zb S3)]]):=Sm.app _ _;have a5:(S4++[Ob.lst [.ref (Zb S3)]])[Zb S4]?=some (.lst [.ref (Zb S3)]):=ag;have n5:Zb S4 ≠ p:=by lia
  have l5:(S4++[Ob.lst [.ref (Zb S3)]]).length=Zb S4+1:=by rw[Zh];rfl
  generalize S4++[Ob.lst [.ref (Zb S3)]]=S5 at *;have s6:Sm S5 (S5++[Ob.lst [.tup [.int 0,.int 3,.int 3]]]):=Sm.app _ _;have a6:(S5++[Ob.lst [.tup [.int 0,.int 3,.int 3]]])[Zb S5]?=some (.lst [.tup [.int 0,.int 3,.int 3]]):=ag;have n6:Zb S5 ≠ p:=by lia
  generalize S5++[Ob.lst [.tup [.int 0,.int 3,.int 3]]]=S6 at *;generalize Zb S5=N6 at *;generalize Zb S4=N5 at *;generalize Zb S3=N4 at *;generalize Zb S2=N3 at *;have s26:=((s3.trans s4).trans s5).trans s6;have d26:=Dr.sm d2.pot s26
  have td:TDs p S6 [t0,.tup (L.map Dw.bZ),.lst [.tup [.int 0,.bl true]],.lst [.lst [.int 0,.int 3]],.lst [.tup [.int 0,.int 3,.int 3]],.non] [e0,.tup (L.map ac),.ref N3,.ref N5,.ref N6,.non]:=
   ad (td0.keep d26.kp) (ad (ba (dU L)) (ad (fS n3 (s6 _ _ (s5 _ _ (s4 _ _ a3))) (ad (ba (ad aN (ad rB aC))) aC)) (ad (fS n5 (s6 _ _ a5) (ad (fS n4 (s6 _ _ (s5 _ _ a4)) (ad aN (ad aN aC))) aC)) (ad (fS n6 a6 (ad (ba (ad aN (ad aN (ad aN aC)))) aC)) (ad pO aC)))))
  have ps:∀t ∈ [t0,.tup (L.map Dw.bZ),.lst [.tup [.int 0,.bl true]],.lst [.lst [.int 0,.int 3]],.lst [.tup [.int 0,.int 3,.int 3]],.non],(t = .lst []\/psT t=false)/\∀us,t = .lst us->us.length<=1000:=fun t ht=>by
   rcases Zm.mp ht with rfl |ht
   ·exact⟨Lx _ o0,Ly _ o0⟩
   ·simp only[Zm,Yr,or_false] at ht;rcases ht with rfl |rfl |rfl |rfl |rfl <;> exact⟨.inr rfl,fun us e=>by cases e <;> decide⟩
  generalize [t0,.tup (L.map Dw.bZ),.lst [.tup [.int 0,.bl true]],.lst [.lst [.int 0,.int 3]],.lst [.tup [.int 0,.int 3,.int 3]],.non]=ts at *;have le:=td.len;refine Bn (ds:=[e0,.tup (L.map ac),.ref N3,.ref N5,.ref N6,.non]) (by show 6<=100000;decide) (fun i ρ S'=>Sm S6 S'/\∃u13,ρ=[some (.ref 0),some ik,some (.ref p),some (skE K),some (.ref Nr),rt,u7,u8,u9,u10,u11,u12,u13]) (fun i x ρ S7 hx hq7=>?_) (fun ρ S7 hq8=>?_) ⟨Sm.refl _,_,rfl⟩
  ·obtain⟨s7,u13,er⟩:=hq7;subst er;have hi:i < ts.length:=by rw[<-le];exact(Zc.mp hx).1
   obtain⟨x',hx',tx⟩:=td.get (gEG hi);rw[hx] at hx';cases hx';obtain⟨p1,p2⟩:=ps ts[i] (ZC hi);refine⟨_,rfl,?_⟩;exact ui (things sk (tx.keep s7.kp) p1 p2 fun S8 s8=>⟨s7.trans s8,_,rfl⟩)
  ·obtain⟨s7,u13,er⟩:=hq8;subst er;k_is;exact q _ _ _ _ _ _ _ S7 ((d1.trans d2).trans (d26.thenSm s7))
theorem main(ns:List Int)(hn:ns.length<=63):∃S',evC ae 40 57 [.ref 0] [.frz (ns.map D.int)]=some (.bl true,S'):=by
 have key:Ok (evC ae (39+1) 57 [.ref 0] [.frz (ns.map D.int)]) fun d _=>d = .bl true:=by
  refine aB (d:=vI) (ρ:=[some (.ref 0),none,none,none,none,none,none,none,none,none,none,none,none]) rfl rfl ?_;dsimp only[vI,jM];k_is;have lq:au b7 (.ref 0) [Ob.frz (ns.map D.int)]=some (.int ns.length,[Ob.frz (ns.map D.int)]):=by simp only[au,al,am,List.getElem?_cons_zero,Zr,b7,Za]
  refine aa lq ?_;k_is
  obtain⟨c,hc,c8⟩:∃c:Nat,(if (if (12:Int) < ns.length then (12:Int) else ns.length) > 1 then (if (12:Int) < ns.length then (12:Int) else ns.length) else 1)=(c:Int)/\c<=12:=by
   refine⟨(if (if (12:Int) < ns.length then (12:Int) else ns.length) > 1 then (if (12:Int) < ns.length then (12:Int) else ns.length) else 1).toNat,?_,?_⟩
   ·split <;> split <;> lia
   ·split <;> split <;> lia
  rw[hc];refine⟨dG (by lia) (by lia),?_⟩;rw[Zp];refine eZ (by lia) (fun i ρ S'=>S'[0]?=some (Ob.frz (ns.map D.int))/\∃a b c d e f g h j l m n,ρ=[some (.ref 0),a,b,c,d,e,f,g,h,j,l,m,n]) (fun i ρ S1 hi ⟨h0,a,b,c',d,e,f,g,h,j,l,m,n,er⟩=>?_) (fun ρ S1 ⟨h0,a,b,c',d,e,f,g,h,j,l,m,n,er⟩=>?_) ⟨rfl,none,none,none,none,none,none,none,none,none,none,none,none,rfl⟩
  ·subst er;refine⟨_,rfl,?_⟩;k_is;rw[YD];refine⟨rfl,Fh (k:=38) h0 fun x=>?_⟩;refine⟨rfl,Lg (k:=38) fun nn=>?_⟩;k_is;have pt:Pot (Zb S1) (S1++[Ob.lst [D.int nn]]):=⟨nn,ag⟩;have n0:0 ≠ Zb S1:=fun z=>by rw[Yp.mp z.symm] at h0;simp at h0
   have h1:(S1++[Ob.lst [D.int nn]])[0]?=some (Ob.frz (ns.map D.int)):=Sm.app _ _ _ _ h0;generalize S1++[Ob.lst [D.int nn]]=S2 at *;generalize Zb S1=p at *;refine⟨rfl,Fu (k:=35) pt fun K S3 d3 sk g6=>?_⟩;k_is;have V:=sk.vd;refine⟨by decide,?_⟩;refine mj (by decide) (fun i acc S'=>Dr p S2 S'/\acc.length=i/\∀d ∈ acc,Lnd p S' 12 K d) (fun i acc S4 hi ⟨d4,la,ha⟩=>⟨_,rfl,?_⟩) (fun es S4 ⟨d4,la,ha⟩=>⟨by lia,?_⟩) ⟨d3,rfl,fun d hd=>by cases hd⟩
   ·k_is;refine⟨rfl,oB (k:=36) d4.pot sk g6 fun os S5 d5 ho lo=>?_⟩;refine⟨rfl,vW (k:=37) V ho (by lia) fun L N S6 s6 hN lN eL=>?_⟩;have lt5:=d5.pot.lt;have d46:=d5.thenSm s6;refine⟨d4.trans d46,by rw[Zh,ZM];lia,fun d hd=>?_⟩;rcases Zy.mp hd with hd |hd
    ·exact(ha d hd).keep d46.kp
    ·rw[ZG.mp hd];exact⟨N,L,rfl,by lia,hN,by have:=congrArg Zb eL;rw[Za] at this;lia,BZ g6 (by rw[eL];exact ho)⟩
   k_is;have lt4:=d4.pot.lt;have d5:Dr p S2 (S4++[Ob.lst es]):=d4.thenSm (Sm.app _ _);have a5:(S4++[Ob.lst es])[Zb S4]?=some (.lst es):=ag;have n5:Zb S4 ≠ p:=by lia
   have ha5:∀d ∈ es,Lnd p (S4++[Ob.lst es]) 12 K d:=fun d hd=>(ha d hd).keep (Sm.app _ _).kp;generalize S4++[Ob.lst es]=S5 at *;generalize Zb S4=Nr at *;refine⟨rfl,uv (k:=34) d5.pot sk g6 fun rt S6 d6 hrt=>?_⟩;k_is;refine aa bt ?_;k_is;have a6:=d6.kp _ _ n5 a5;have ha6:∀d ∈ es,Lnd p S6 12 K d:=fun d hd=>(ha5 d hd).keep d6.kp;have d06:=d5.trans d6;have fin:=@B3 p;dsimp only[iH,jM,Z5] at fin
   have rest:∀ (Qf:Fl->Rho->Sto->Prop) (rt:D) (Nr:Nat) (es:List D) (S6:Sto),(∀ρ S',(S'[0]?=some (Ob.frz (ns.map D.int))/\∃a b c d e f g h j l m n,ρ=[some (.ref 0),a,b,c,d,e,f,g,h,j,l,m,n])->Qf .nx ρ S')->Dr p S2 S6->S6[Nr]?=some (.lst es)->Nr ≠ p->1<=es.length->es.length<=10->(∀d ∈ es,Lnd p S6 12 K d)->rW (wSs (evC ae 39) (cu ae) 53 (iH.drop 5)) [some (.ref 0),some (.int i),some (.ref p),some (skE K),some (.ref Nr),some rt,f,g,h,j,l,m,n] S6 Qf:=fun Qf rt Nr es S6 hq d06 a6 n6 l1 l2 ha6=>by
    dsimp only[iH,jM,Z5];k_is;obtain⟨e0,he0⟩:∃e0,es[0]?=some e0:=⟨es[0],gEG (by lia)⟩;refine aa (bK (i:=0) a6 (by decide) he0) ?_;obtain⟨N,L,rfl,nN,hN,lL,bL⟩:=ha6 e0 (Zf he0);refine⟨rfl,FG (k:=37) d06.pot sk nN hN lL bL fun No a b c S7 d7 hNo nNo hl=>?_⟩;have a7:=d7.kp _ _ n6 a6;refine aa (bU a7 hNo (by show es.length+3<=_;lia)) ?_;have d67:=d06.trans d7;have lt7:=d67.pot.lt;have s8:Sm S7 (S7++[Ob.lst (es++[a,b,c])]):=Sm.app _ _;have a8:(S7++[Ob.lst (es++[a,b,c])])[Zb S7]?=some (.lst (es++[a,b,c])):=ag;have l8:(S7++[Ob.lst (es++[a,b,c])]).length=Zb S7+1:=by rw[Zh];rfl
    generalize S7++[Ob.lst (es++[a,b,c])]=S8 at *;k_is;have s9:Sm S8 (S8++[Ob.lst []]):=Sm.app _ _;have a9:(S8++[Ob.lst []])[Zb S8]?=some (.lst []):=ag;have l9:(S8++[Ob.lst []]).length=Zb S8+1:=by rw[Zh];rfl
    generalize S8++[Ob.lst []]=S9 at *;have sA:Sm S9 (S9++[Ob.lst [.ref (Zb S8)]]):=Sm.app _ _;have lA:(S9++[Ob.lst [.ref (Zb S8)]]).length=Zb S9+1:=by rw[Zh];rfl
    refine aa (bU (sA _ _ (s9 _ _ a8)) ag (by rw[Zh];show es.length+3+1<=_;lia)) ?_;generalize S9++[Ob.lst [.ref (Zb S8)]]=SA at *;k_is;have sB:Sm SA (SA++[Ob.lst (es++[a,b,c]++[.ref (Zb S8)])]):=Sm.app _ _;have s7B:=((s8.trans s9).trans sA).trans sB;have dB:=d67.thenSm s7B;refine fin dB.pot sk ag (by lia) (by rw[Zh,Zh];lia) (by rw[Zh,Zh];show es.length+3+1<=100;lia) (fun d hd=>?_) fun u7 u8 u9 u10 u11 u12 u13 S' d'=>hq _ _ ⟨(dB.trans d').kp _ _ n0 h1,_,_,_,_,_,_,_,_,_,_,_,_,rfl⟩;rcases Zy.mp hd with hd |hd
    ·rcases Zy.mp hd with hd |hd
     ·exact((ha6 d hd).keep (d7.thenSm s7B).kp).up (by decide)
     ·exact(hl d hd).keep s7B.kp
    ·rw[ZG.mp hd];exact⟨_,[],rfl,by lia,sB _ _ (sA _ _ a9),by show 0<=52;decide,fun z hz=>by cases hz⟩
   dsimp only[iH,jM,Z5] at rest;rcases hrt with rfl |lrt
   ·rw[show bF .non=true from rfl];k_is;exact rest _ _ _ es _ (fun ρ S' z=>z) d06 a6 n5 (by lia) (by lia) ha6
   ·obtain⟨N,L,rfl,nN,hN,lL,bL⟩:=lrt;rw[show bF (.ref N)=false from rfl];k_is;have s7:Sm S6 (S6++[Ob.lst [D.ref N]]):=Sm.app _ _;refine aa (FK (n:=Zb S6) ag (by show 1<=10;decide)) ?_;have s8:Sm (S6++[Ob.lst [D.ref N]]) (S6++[Ob.lst [D.ref N]]++[Ob.lst (Zo 5 [D.ref N]).flatten]):=Sm.app _ _;refine aa (bU (s8 _ _ (s7 _ _ a6)) ag (by rw[la];show 2+5<=100000;decide)) ?_;k_is;have d8:Dr p S2 (S6++[Ob.lst [D.ref N]]++[Ob.lst (Zo 5 [D.ref N]).flatten]):=d06.thenSm (s7.trans s8);have lt8:=d8.pot.lt;have s9:Sm (S6++[Ob.lst [D.ref N]]++[Ob.lst (Zo 5 [D.ref N]).flatten]) (S6++[Ob.lst [D.ref N]]++[Ob.lst (Zo 5 [D.ref N]).flatten]++[Ob.lst (es++(Zo 5 [D.ref N]).flatten)]):=Sm.app _ _;have d9:=d8.thenSm s9;have s69:=(s7.trans s8).trans s9;refine rest _ _ _ _ _ (fun ρ S' z=>z) d9 ag (by lia) (by rw[Zh];lia) (by rw[Zh,la];show 2+5<=10;decide) (fun d hd=>?_);rcases Zy.mp hd with hd |hd
    ·exact(ha6 d hd).keep s69.kp
    ·have:d = .ref N:=by
      have e:(Zo 5 [D.ref N]).flatten=[D.ref N,D.ref N,D.ref N,D.ref N,D.ref N]:=rfl;rw[e] at hd
      simpa using hd
     rw[this];exact⟨N,L,rfl,nN,s69 _ _ hN,lL,bL⟩
  ·subst er;k_is
 obtain⟨d,S',e,rfl⟩:=key;exact⟨S',e⟩
end Lw
theorem PySem.Challenge.cw_downrings_k12_what_is_amiss_holds : PySem.Challenge.rw_downrings_k12_what_is_amiss.Holds :=
 Lw.head Lw.main
