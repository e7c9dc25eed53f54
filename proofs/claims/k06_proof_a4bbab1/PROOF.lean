import PyProof.Rows.All
import KE.KIsAll
import KE.KMinBuiltin
import KE.KSortTup
import PySem.Challenge.RW_downrings_k06_errors_and_their_fields
set_option Elab.async false
set_option linter.all false
set_option maxRecDepth 100000
set_option maxHeartbeats 4000000
open PySem.Heap renaming get?_push_of_some → Za, lt_size → Zj, get?_push_size → Zp, get?_update_other → Zw, get?_update_self → ZH, size_push → Yd, get?_update_ne → Yh, get?_none_of_le → Yr, get?_push_ne → YE, size_update → YM, get?_some_iff → Y7, get?_push_at → Xe
open Bool renaming false_ne_true → Zb, false_eq_true → ZM, eq_iff_iff → Z1, and_comm → YH, or_eq_true → YU, and_eq_true_iff → Y3, eq_false_iff → Xd, or_false → Xr
open List renaming size_toArray → Zc, mem_cons_of_mem → Zd, length_map → Ze, getElem?_eq_some_iff → Zf, mem_cons_self → Zg, replicate → Zi, mem_cons → Zk, length_append → Zm, mem_of_getElem? → Zn, map_cons → Zq, mem_append_right → Zr, length_cons → Zs, getElem?_append_right → Zu, getElem?_append_left → Zx, getElem?_set_self → Zy, getElem?_eq_none_iff → Zz, lookup_cons → ZA, contains_cons → ZB, getElem?_map → ZC, all_eq_true → ZD, length_take → ZG, range → ZI, length → ZJ, mem_append → ZK, mem_append_left → ZL, mem_singleton → ZN, map_nil → ZO, prefix_refl → ZP, append_nil → ZQ, length_eq_zero_iff → ZR, replicate_succ → ZS, getElem?_set_ne → ZT, nodup_cons → ZU, map_append → ZV, all_cons → ZW, mem_flatMap → ZY, mem_filterMap → ZZ, getD_eq_getElem?_getD → Z0, length_nil → Z2, flatten_cons → Z3, getElem?_replicate → Z4, length_drop → Z5, prefix_append → Z7, pairwise_cons → Z8, append_assoc → Z9, getElem?_set → Yb, getElem?_of_mem → Ye, not_mem_nil → Yg, any_cons → Yi, eraseIdxIfInBounds_toArray → Yk, length_replicate → Yl, getElem_inj → Ym, any_eq_true → Yn, countP_cons → Yo, of_mem_zip → Ys, nil_append → Yt, filterMap_cons → Yv, toList_toArray → Yw, length_pos_iff → Yx, foldl → Yz, forIn_nil → YA, lookup → YC, map_inj_left → YG, set_comm → YI, getElem?_take_of_lt → YJ, getElem_mem → YL, getElem?_cons_succ → YN, toArray → YQ, take_of_length_le → YR, length_set → YS, foldl_cons → YT, length_singleton → YV, take_append_drop → YX, contains_iff_mem → YY, getElem?_eq_none → YZ, mem_range → Y0, mem_iff_getElem → Y2, replicate_zero → Y4, length_range → Xa, nodup_append → Xb, all_map → Xc, flatMap_cons → Xf, flatten_nil → Xk, mem_filter → Xm, forIn_cons → Xn, nodup_nil → Xq, take_add → Xs, take_nil → Xu, drop_nil → Xv, cons → Xw, mem_map → Xx, sum → XB
open Nat renaming le_refl → Zh, ne_of_lt → Zl, lt_of_lt_of_le → Zo, le_trans → Zv, lt_irrefl → ZF, le_succ → ZX, ne_of_gt → Yj, lt_succ_self → Yp, le_add_right → Yq, le_of_lt → Yy, le_of_succ_le → YD, lt_succ_of_lt → YF, sub_self → YO, lt_of_le_of_lt → Y6, mul_comm → Y9, succ_le_succ → Xh, succ_ne_self → Xi, le_max_right → Xj, zero_le → Xl, le_max_left → Xo
open Array renaming length_toList → Zt, getElem?_eq_none_iff → YB, size_setIfInBounds → YK, getElem?_toList → YW, mem_toList_iff → Y1, append_assoc → Y5
open Option renaming isSome_iff_exists → ZE, getD_some → Z6, map_some → Yu, getD_none → Xg, bind → Xy, map → XC
open Int renaming toNat_natCast → Yc, emod_lt_of_pos → Y8, emod_nonneg → Xp, le_refl → Xz
open PyProof.Rows renaming boot_enumerate → XD, boot_int → XF, boot_isinstance → XG, boot_list → XH, boot_max → XJ, boot_min → XM, boot_range → XN, boot_sorted → XQ, boot_str → XR, boot_tuple → XU, callWith_type1 → XV, slot_tuple_getitem → XW
open PySem.Calls renaming Name_function_global → XX, callWith_builtin → XY, evalArgs_plain → XZ
open PySem renaming Comprehension → X0, DictEntry → X1, ExcBaseFacts → X2, FuncData → Ws, GenState → Wt, NameKind → Wu, Operator → Wv, Spec → WM, assignEach → Vg, assignInOrder → Vh, attributeBase → Vi, backToKw → Vj, behindInMarks → Vk, binaryOp → Vl, bindArgs → Vm, bindName → Vn, bootBuiltins → Vo, builtinLookup_eq_fast → Vp, builtinsNs → Vq, cStatics → Vr, call_meets → Vs, call_repr_slot → Vt, cellsFrom → Vu, checkBuiltinCall → Vv, codeAny_builtin → Vw, codeAny_call_builtin → Vx, codeAny_call_function → Vy, codeAny_handlers_suite_as → Vz, codeAny_handlers_test → VA, codeAny_mono → VB, compareOp → VC, concat_meets → VE, dictText_mem_le → VF, excClassObj → VG, foldedSetIterable → VH, getD_mem → VI, importedModules → VJ, intItems → VL, intItems_at → VM, isInstance → VN, keywordEach → VO, letOwnedTupleGo → VP, lookupAlong → VQ, lookupAlong_cons → VR, mainGlobals → VS, mem_getD → VT, mem_of_lookup → VU, newFunctionEnv → VW, noFill_tuple_add → VX, not_mem_of_deeper → VY, noteFrame → VZ, numAt_eq → V0, nums_intItems → V1, plainId_quiet → V2, pushCells → V3, pushCells_keeps → V4, rangeSize_one → V5, seqIndex_neg → V6, seqIndex_of → V7, seqItems? → V8, seqSlot_of → V9, seq_tuple_add → Ua, setFlight → Ub, sizeLine_eq → Uc, sliceBounds → Ud, starEach → Ue, swappedStores → Uf, swapsWith → Ug, swapsWithSole → Uh, sysModules → Ui, treeTable → Uj, typeIs_int → Uk, typeLookup → Ul, typeLookup_eq → Um, wpAny_Call_Name_kw → Uo, wpAny_Call_ofName → Up, wpAny_binaryOp_repeat_ref → Uq, wpAny_bind → Ur, wpAny_bindName → Us, wpAny_call → Ut, wpAny_call_entry → Uu, wpAny_classOwn_exc → Uv, wpAny_comprehension_free → Uw, wpAny_eqBool_int → Ux, wpAny_execs_cons → Uy, wpAny_execs_nil → Uz, wpAny_field → UA, wpAny_holding → UB, wpAny_isSubtype_exc → UC, wpAny_ite_false → UD, wpAny_letGo → UE, wpAny_letOwnedTupleGo_enum → UF, wpAny_loadPart' → UG, wpAny_loadPart_at → UH, wpAny_mono → UI, wpAny_mroOf_exc → UJ, wpAny_newFunctionEnv_cells → UK, wpAny_newObj_type → UL, wpAny_of_eq → UM, wpAny_passesOwn → UN, wpAny_pure → UO, wpAny_pyIter_enum → UP, wpAny_pyIter_list → UQ, wpAny_pyIter_tuple → UR, wpAny_pyNext_enum_endD → US, wpAny_pyNext_enum_itemD → UT, wpAny_rule → UU, wpAny_seqItems → UV, wpAny_setField → UW, wpAny_standAt → UX, wpAny_truthy_bool → UY, wpAny_tryCatch → UZ, wpAny_typeOf → U0, wpAny_updateSeq → U1
open PySem.F renaming args_bexc_ga → X3, args_tuple_add_2 → X4, args_tuple_iterator_next_1 → X5, attrBase_ValueError → X6, entry_bexc_ga → X7, entry_max_loop → X8, entry_tuple_add → X9, entry_tuple_iterator_next → Wa, excBase_ValueError → Wb, plainAttrs_list → Wc, plain_max_loop → Wd, slot_int_rmul → We, slot_list_append → Wf, slot_list_count → Wg, slot_list_extend → Wh, slot_list_index → Wi, slot_list_insert → Wj, slot_list_ne_refl → Wk, slot_list_pop → Wl, slot_tuple_add → Wm, slot_tuple_count → Wn, slot_tuple_iterator_next → Wo, store_ValueError → Wp, typeOf_object_class → Wq, type_list_pop → Wr
open PySem.PyData renaming depth → Ww, depthAll → Wx, depthAll_keys_le → Wy, depthAll_vals_le → Wz, shown → WA, shownAll → WB, shownKv_eq → WC, shownKv_key_le → WD, shownKv_val_le → WE
open PySem.SeqAt renaming EqAt → WF, RcAt → WG, RcNeAt → WH, in_listAt → WI, in_tupleAt → WJ, notIn_listAt → WK, notIn_tupleAt → WL
open PySem.W renaming Frag → WN, callWith_K → WO, cellsFrom_some → WQ, clsIn → WR, codeIn → WT, codeRec_of → WU, findCls → WV, findIn → WW, fnOf → WX, funFrames_hide → WY, hideAll → WZ, hideAll_get → W0, instObj → W1, keepIn → W2, kia_one → W3, kitCls → W4, kitOne → W5, kitx_dict → W6, kitx_list → W7, lookIn → W8, methodObj → W9, mroIn → Va, of_hideAll → Vb, plainGet → Vc, readsIn → Vd, specialIn → Ve, subIn → Vf
namespace Cut
open PySem PySem.W
noncomputable def lh(tb:String->Option Builtin)(p:Program)(w:World)(n₀:Nat)(ann:Option Value):Nat->Shared->Thread->Option (Shared × Thread)
 |0,s,t=>some (s,t)
 |n+1,s,t=>match through t with
  |true=>none
  |false=>match stepOk n₀ ann t with
   |false=>none
   |true=>match step (denote tb) p w s t with
    |.go s' t'=>lh tb p w n₀ ann n s' t'
    |.halt _ _=>none
theorem tN{tb:String->Option Builtin}{p:Program}{w:World}{n₀:Nat}{ann:Option Value}{m:Nat}:∀ {n:Nat} {s s':Shared} {t t':Thread},lh tb p w n₀ ann n s t=some (s',t')->topRun tb p w n₀ ann (m+n) s t=topRun tb p w n₀ ann m s' t'
 |0,s,s',t,t',h=>by cases h;rfl
 |n+1,s,s',t,t',h=>by
  rw[<-Nat.add_assoc];unfold lh at h
  conv=>lhs;unfold topRun
  cases e1:through t with
  |true=>rw[e1] at h;cases h
  |false=>
   rw[e1] at h;dsimp only at h ⊢;cases e2:stepOk n₀ ann t with
   |false=>rw[e2] at h;cases h
   |true=>
    rw[e2] at h;dsimp only at h ⊢;cases e3:step (denote tb) p w s t with
    |halt o s1=>rw[e3] at h;cases h
    |go s1 t1=>
     rw[e3] at h;exact tN h
section
variable (p:Program) (w:World)
noncomputable def s0:Shared:=(fencedOpening Uj p w 20000).getD {}
noncomputable def n0:Nat:=(s0 p w).heap.objs.size
noncomputable def an:Option Value:=(s0 p w).heap.nsMap VS "__annotations__"
noncomputable def st(n:Nat):Shared × Thread:=(lh Uj p w (n0 p w) (an p w) n (s0 p w) (topStub p)).getD (s0 p w,topStub p)
noncomputable def ent(n:String)(t:Nat)(v:Value):X1:=⟨reduceHash (w.params.strHash (Str.ofString n).cps),.str (Str.ofString n) t,v⟩
noncomputable def nm:List String:=["NoMeadow", "NoSky", "NoLandings", "NoOrder", "NoLot", "NoText", "NoName", "NoGlider", "NoMinute", "NoAim", "TooMany", "Bound", "NoDeed", "NoRow"]
noncomputable def cls(x:String × Nat):List Obj:=
 let n:=Str.ofString x.1;let b:=28+12 * x.2;let t:=207+16 * x.2;let l:Int:=4+2 * x.2
 let m:=Value.str (Str.ofString "downrings.errors") 187
 let f:=fun t=>Value.str p.main.file t
 [⟨.type "tuple", none,.seq #[.ref 24] 0,#[]⟩,
   ⟨.type "builtin_function_or_method", none,.fields #[.builtin "type.__prepare__", .type "type"],#[]⟩,
   ⟨.type "dict", none,.dict #[ent w "__module__" (t+7) m,ent w "__qualname__" (t+9) (.str n (t+8)),ent w "__firstlineno__" (t+11) (.int l (t+10)),ent w "__static_attributes__" (t+12) (.ref (b+7))] 4,#[]⟩,
   ⟨.type "tuple", none,.seq #[] 0,#[]⟩,
   ⟨.none,none,.fields #[],#[]⟩,
   ⟨.type "code", none,.fields #[.str n (t+2),.str n (t+3),f (t+4),.int l 0,.int 0 0,.int 0 0,.int 0 0,.int 0 0,.ref (b+3),.bool false,.int 181 0,.ref (b+4),.none,.none,.none,.none,.int (t+5:Nat) 0,.int l 0,f (t+6)],#[]⟩,
   ⟨.type "frame", none,.plain,#[some (.ref (b+5)),some (.ref 3),some (.ref (b+2)),none,some m,none,some (.ref 0)]⟩,
   ⟨.type "tuple", none,.seq #[] 0,#[]⟩,
   ⟨.type "dict", none,.dict #[ent w "__module__" (t+7) m,ent w "__firstlineno__" (t+11) (.int l (t+10)),ent w "__static_attributes__" (t+12) (.ref (b+7)),ent w "__doc__" (t+13) .none] 2,#[]⟩,
   ⟨.type "type", none,.cls { name:=n,bases:=[.ref 24],mro:=[.ref (b+9),.ref 24,.type "ValueError", .type "Exception", .type "BaseException", .type "object"],ns:=b+8,qualname:=n },#[some (.ref b),none,some (.str n t),some (.str n (t+8)),some (.builtin "ValueError.__new__"),some (.bool true)]⟩,
   ⟨.type "super", none,.fields #[.ref (b+9),.ref (b+9),.ref (b+9)],#[]⟩,
   ⟨.type "builtin_function_or_method", none,.fields #[.builtin "object.__init_subclass__", .ref (b+9)],#[]⟩]
noncomputable def Lr(o:Obj):Obj:=match o with
 |⟨c,d,.dict es n,s⟩=>⟨c,d,.dict (es++(nm.zipIdx.map fun x=>ent w x.1 (222+16 * x.2) (.ref (37+12 * x.2))).toArray) (n+14),s⟩
 |o=>o
noncomputable def Ij(o:Obj):Obj:=match o with
 |⟨c,d,.fields vs,s⟩=>⟨c,d,.fields (vs++(nm.zipIdx.flatMap fun x=>[Value.int (4+2 * x.2:Nat) 0,.int 0 0,.ref (33+12 * x.2)]).toArray),s⟩
 |o=>o
noncomputable def Ik(o:Obj):Obj:=match o with
 |⟨c,d,.cls k,s⟩=>⟨c,d,.cls { k with subclasses:=nm.zipIdx.map fun x=>.ref (37+12 * x.2) },s⟩
 |o=>o
noncomputable def mid:Shared:=match (st p w 208).1 with
 |⟨⟨os,l⟩,g,d,_,o⟩=>⟨⟨((((os.toList.modify 3 (Lr w)).modify 12 Ij).modify 24 Ik)++(nm.zipIdx.flatMap (cls p w))).toArray,l⟩,g,d,431,o⟩
noncomputable def Il:Thread:=match (st p w 208).2 with
 |⟨_,.body ss env,_,k⟩=>⟨do return .done (<-(execs (ss.drop 16) env).onRaise (leaving env)),.body ss env,⟨30,0,31,8⟩,k⟩
 |t=>t
noncomputable def Dn(s:Shared)(o:Option Shared):Option Shared:=bif s.gens.size == 0 && s.heap.isNs VS then (o.bind fun u=>bif laidKept s.heap u.heap && (gensDone u && (namesBound p u.heap && staticsOk (VJ p.main.body) s.heap u.heap)) then some u else none) else none
end
theorem Im{tb:String->Option Builtin}{p:Program}{w:World}{N:Nat}{s:Shared}:topFrom tb p w N s=Dn p s (topRun tb p w s.heap.objs.size (s.heap.nsMap VS "__annotations__") N s (topStub p)):=by
 unfold topFrom Dn;rw[YH];cases s.gens.size == 0 && s.heap.isNs VS with
 |false=>rfl
 |true=>
  show Xy _ _=Xy _ _
  congr 1
  funext u
  rw[YH,YH (_ && _) (gensDone u),YH _ (namesBound p u.heap)];cases laidKept s.heap u.heap && (gensDone u && (namesBound p u.heap && staticsOk (VJ p.main.body) s.heap u.heap)) <;> rfl
abbrev PartA(p:Program):Prop:=∀w,lh Uj p w (n0 p w) (an p w) 3189 (s0 p w) (topStub p)=some (mid p w,Il p w)
noncomputable def fin(p:Program)(w:World):Option Shared:=Dn p (s0 p w) (topRun Uj p w (n0 p w) (an p w) 16811 (mid p w) (Il p w))
abbrev PartB(p q:Program)(loose:List Str)(Xt:Shared->Bool):Prop:=∀w,(fin p w).map (openSeen q loose (VJ p.main.body) Xt true)=some (openGood q loose)
abbrev PartC(p:Program){α:Type}(Yf:Shared->α)(Ya:World->α):Prop:=∀w,(fin p w).map Yf=some (Ya w)
theorem left_cut{p q:Program}{loose:List Str}{Xt:Shared->Bool}{α:Type}{Yf:Shared->α}{Ya:World->α}(h0:∀w,(fencedOpening Uj p w 20000).isSome=true)(hA:PartA p)(hB:PartB p q loose Xt)(hC:PartC p Yf Ya):LeftO p q loose Xt Yf Ya 20000:=fun w=>by
 obtain⟨s,hs⟩:=ZE.mp (h0 w);have e0:s0 p w=s:=by unfold s0;rw[hs];rfl
 obtain⟨u,hu,e1⟩:=Option.map_eq_some_iff.mp (hB w);have e2:=hC w;rw[hu] at e2;have e2:Yf u=Ya w:=Option.some.inj e2;have a:=tN (m:=16811) (hA w);unfold fin at hu;unfold n0 an at a hu;rw[<-a,e0] at hu;unfold openEnds;rw[hs];show XC _ (topFrom Uj p w 20000 s)=_;rw[Im];refine(congrArg _ hu).trans ?_;show some (openSeen q loose (VJ p.main.body) Xt true u,Yf u)=_;rw[e1,e2]
end Cut
namespace Lw
open PySem
noncomputable def top(i:Nat):Stmt:=PySem.Challenge.pw_downrings_k06_errors_and_their_fields.main.body.getD i (.Pass ⟨0,0,0,0⟩)
end Lw
section
open PySem PySem.W PyProof.Rows
noncomputable abbrev Lw.view:Program:={ PySem.Challenge.pw_downrings_k06_errors_and_their_fields with main:={ PySem.Challenge.pw_downrings_k06_errors_and_their_fields.main with body:=[Lw.top 24] } }
noncomputable abbrev Lw.loose:List PySem.Str:=List.map PySem.Str.ofString ["_law_cell_at", "_law_pot", "_law_take", "_law_word", "_law_raised", "_law_stuck_of", "RingError", "NoMeadow", "NoSky", "NoLandings", "NoOrder", "NoLot", "NoText", "NoName", "NoGlider", "NoMinute", "NoAim", "TooMany", "Bound", "NoDeed", "NoRow", "NoWay"]
set_option maxHeartbeats 0 in
theorem Lw.said:PySem.Challenge.rw_downrings_k06_errors_and_their_fields.wellSaid=true:=by kernel_rfl
set_option maxHeartbeats 0 in
theorem Lw.opn:∀w,(fencedOpening Uj PySem.Challenge.rw_downrings_k06_errors_and_their_fields.row.toRowW.prog w 20000).isSome=true:=fun w=>by kernel_rfl
set_option maxHeartbeats 0 in
theorem Lw.partA:Cut.PartA PySem.Challenge.rw_downrings_k06_errors_and_their_fields.row.toRowW.prog:=fun w=>by kernel_rfl
set_option maxHeartbeats 0 in
theorem Lw.partB:Cut.PartB PySem.Challenge.rw_downrings_k06_errors_and_their_fields.row.toRowW.prog Lw.view Lw.loose (fun s=>xlAt Lw.view [] s && recOk (RowW.records PySem.Challenge.rw_downrings_k06_errors_and_their_fields.row.toRowW) s):=fun w=>by kernel_rfl
end
theorem gEG{α:Type _}{l:List α}{i:Nat}(h:i < l.length):l[i]?=some l[i]:=List.getElem?_eq_getElem h
theorem bAE(a b:Bool):((a && b)=true)=(a=true/\b=true):=Bool.and_eq_true a b
namespace L2
open PySem PySem.Spec PyProof.Rows
noncomputable def bM(s:Stmt):Arguments:=match s with
 |.FunctionDef _ a _ _ _ _ _ _ _ _=>a
 |_=>{ posonlyargs:=[],args:=[],vararg:=none,kwonlyargs:=[],kw_defaults:=[],kwarg:=none,defaults:=[] }
noncomputable def aI(s:Stmt):List Stmt:=match s with
 |.FunctionDef _ _ b _ _ _ _ _ _ _=>b
 |_=>[]
noncomputable def ag(s:Stmt):Scope:=match s with
 |.FunctionDef _ _ _ _ _ _ sc _ _ _=>sc
 |_=>{ kind:=.function,names:=[],isGenerator:=false,isCoroutine:=false }
end L2
namespace Ev
open PySem PySem.Spec PyProof.Rows L2
noncomputable def df:List Str:=["len", "isinstance", "all", "any", "tuple", "list", "max", "min", "repr", "range", "enumerate", "int", "bool", "str", "sorted", "zip", "sum"]
noncomputable def bmV:List Value:=[.type "ValueError", .type "Exception", .type "BaseException", .type "object"]
noncomputable def quN:List Str:=["__init__", "__getattribute__", "__getattr__", "__class__"]
noncomputable def eA:List Str:=["NoMeadow", "NoSky", "NoLandings", "NoOrder", "NoLot", "NoText", "NoName", "NoGlider", "NoMinute", "NoAim", "TooMany", "Bound", "NoDeed", "NoRow", "NoWay"]
abbrev jo:=(Str × Str) × (Arguments × List Stmt) × (Scope × Addr) × (List (Str × Addr) × Value) × (Addr × Option Str)
noncomputable def tO(h:Heap):Value->Option Str
 | .ref c=>(match h.get? c with
  |some ⟨_,_,.fields vs,_⟩=>(match vs.toList with |_ :: .str n _::_=>some n |_=>none)
  | _=>none)
 |_=>none
noncomputable def yi(h:Heap):Option Obj->Option jo
 |some ⟨_,_,.func ⟨nm,qn,ps,.stmts b,sc,gl,cl,dv,_,_,_,_,cd,_,bi⟩,_⟩=>some ((nm,qn),(ps,b),(sc,gl),(cl,dv),(bi,tO h cd))
 |_=>none
noncomputable def yj(h:Heap)(x:Str):Option jo:=match h.nsMap VS x with
 |some (.ref f)=>yi h (h.get? f)
 |_=>none
noncomputable def Io(h:Heap)(x:Str):Option Int:=match h.nsMap VS x with
 |some (.int v _)=>some v
 |_=>none
noncomputable def adX(h:Heap)(x:Str):Addr:=match h.nsMap VS x with
 |some (.ref C)=>C
 |_=>0
noncomputable def yk(h:Heap)(bm:List Value)(x:Str):Bool:=match h.nsMap VS x with
 | some (.ref C)=>(match h.get? C with
  | some ⟨.type "type", _,.cls cd,sl⟩=>(match cd.mro,sl.toList with
   |.ref C'::bm',[_,_,_,_,some (.builtin n),_]=>C' == C && bm' == bm && n == "ValueError.__new__" && !cd.hasDel && h.isNs cd.ns && quN.all fun q=>(h.nsMap cd.ns q).isNone
   | _,_=>false)
  | _=>false)
 |_=>false
noncomputable def Dp(h:Heap)(x:Str):Bool:=match h.nsMap VS x with
 | some (.ref C)=>(match h.get? C with
  |some ⟨.type "type", _,.cls _,_⟩=>true
  | _=>false)
 |_=>false
noncomputable def Dq:List Nat->Bool
 |[]=>true
 |a::l=>!(l.contains a) && Dq l
noncomputable def ym(h:Heap):Bool:=yk h bmV "RingError" && (eA.take 14).all (yk h (.ref (adX h "RingError")::bmV)) && eA.all (Dp h) && Dq (adX h "RingError" :: eA.map (adX h)) && (h.nsMap VS "ValueError").isNone
end Ev
namespace L2
open PySem PySem.Spec PyProof.Rows
abbrev Key:=Sum Int Str
noncomputable def gk:Key->Value->Bool
 |.inl k,v=>Value.isInt k v
 |.inr x,v=>Value.isStrOf x v
noncomputable def Ls(w:World):Key->Int
 |.inl k=>hashInt k
 |.inr x=>hashStr w x
theorem aN:∀ {k:Key} {v:Value},gk k v=true->(∃i t,k=Sum.inl i/\v=Value.int i t)\/(∃x t,k=Sum.inr x/\v=Value.str x t)
 |.inl i,v,h=>by
  obtain⟨t,e⟩:=Value.isInt_shape (k:=i) (v:=v) h;exact .inl ⟨i,t,rfl,e⟩
 |.inr x,v,h=>by
  obtain⟨t,e⟩:=Value.isStrOf_shape (x:=x) (v:=v) h;exact .inr ⟨x,t,rfl,e⟩
theorem ra(i:Int)(t:Tok):gk (.inl i) (.int i t)=true:=by simp[gk,Value.isInt]
theorem re(x:Str)(t:Tok):gk (.inr x) (.str x t)=true:=by simp[gk,Value.isStrOf]
theorem Dt(a b:Int):decide ((Sum.inl a:Key)=Sum.inl b)=(a == b):=by
 by_cases e:a=b
 ·subst e;simp
 ·have h:¬ (Sum.inl a:Key)=Sum.inl b:=fun q=>e (Sum.inl.inj q);rw[decide_eq_false h];exact(beq_eq_false_iff_ne.mpr e).symm
theorem Du(a b:Str):decide ((Sum.inr a:Key)=Sum.inr b)=decide (a=b):=by
 by_cases e:a=b
 ·subst e;simp
 ·have h:¬ (Sum.inr a:Key)=Sum.inr b:=fun q=>e (Sum.inr.inj q);rw[decide_eq_false h,decide_eq_false e]
theorem Dv(a:Int)(b:Str):decide ((Sum.inl a:Key)=Sum.inr b)=false:=decide_eq_false (fun q=>nomatch q)
theorem Dx(a:Str)(b:Int):decide ((Sum.inr a:Key)=Sum.inl b)=false:=decide_eq_false (fun q=>nomatch q)
noncomputable def bn(prog:Program)(w:World):PySem.KeyKind prog w Key where
 is:=gk
 hash:=Ls w
 inj:=fun v a b ha hb=>by
  rcases aN ha with ⟨i,t,rfl,rfl⟩ |⟨x,t,rfl,rfl⟩
  ·rcases aN hb with ⟨j,u,rfl,e⟩ |⟨y,u,rfl,e⟩
   ·injection e with e1 _;rw[e1]
   ·exact nomatch e
  ·rcases aN hb with ⟨j,u,rfl,e⟩ |⟨y,u,rfl,e⟩
   ·exact nomatch e
   ·injection e with e1 _;rw[e1]
 byValue:=fun k v h=>by
  rcases aN h with ⟨i,t,rfl,rfl⟩ |⟨x,t,rfl,rfl⟩ <;> rfl
 pyHash:=fun hv h=>by
  rcases aN hv with ⟨i,t,rfl,rfl⟩ |⟨x,t,rfl,rfl⟩
  ·exact wpAny_pyHash_int h
  ·exact wpAny_pyHash_str h
 eqBool:=fun hu hv h=>by
  rcases aN hu with ⟨i,t,rfl,rfl⟩ |⟨x,t,rfl,rfl⟩
  ·rcases aN hv with ⟨j,u,rfl,rfl⟩ |⟨y,u,rfl,rfl⟩
   ·rw[Dt] at h;exact Ux h
   ·rw[Dv] at h;exact SeqAt.EqAt.int_str i t y u _ _ _ _ h
  ·rcases aN hv with ⟨j,u,rfl,rfl⟩ |⟨y,u,rfl,rfl⟩
   ·rw[Dx] at h;exact SeqAt.EqAt.str_int x t j u _ _ _ _ h
   ·rw[Du] at h;exact wpAny_eqBool_str h
 «strs»:=fun k x t v h=>by
  rcases aN h with ⟨i,u,rfl,e⟩ |⟨y,u,rfl,e⟩
  ·exact nomatch e
  ·injection e with e1 _;subst e1;cases v <;> rfl
theorem li(prog:Program)(w:World)(i:Int)(t:Tok):(bn prog w).is (.inl i) (.int i t)=true:=ra i t
theorem lj(prog:Program)(w:World)(x:Str)(t:Tok):(bn prog w).is (.inr x) (.str x t)=true:=re x t
inductive V where
 |non |bl (b:Bool) |int (i:Int) |str (x:Str) |byt (b:Array UInt8) |flt (b:UInt64) |ref (a:Addr) |ty (n:String)
 deriving DecidableEq
def aq:V->Value->Prop
 |.non,u=>u=Value.none
 |.bl b,u=>u=Value.bool b
 |.int i,u=>∃t,u=Value.int i t
 |.str x,u=>∃t,u=Value.str x t
 |.byt b,u=>∃t,u=Value.bytes b t
 |.flt b,u=>∃t,u=Value.float b t
 |.ref a,u=>u=Value.ref a
 |.ty n,u=>u=Value.type n
abbrev ax:List V->List Value->Prop:=Paired aq
theorem ax.length{xs:List V}{us:List Value}(r:ax xs us):xs.length=us.length:=Paired.length r
theorem ax.get:∀ {xs:List V} {us:List Value} {i:Nat} {x:V},ax xs us->xs[i]?=some x->∃u,us[i]?=some u/\aq x u
 |_,_,_,_,.nil,e=>by simp at e
 |_,_,0,_,.cons r _,e=>by simp at e;subst e;exact⟨_,rfl,r⟩
 |_,_,i+1,x,.cons _ t,e=>by
  obtain⟨u,h1,h2⟩:=ax.get (i:=i) (x:=x) t (by simpa using e);exact⟨u,by simpa using h1,h2⟩
theorem ax.set{x:V}{u:Value}(r:aq x u):∀ {xs:List V} {us:List Value} (i:Nat),ax xs us->ax (xs.set i x) (us.set i u)
 |_,_,_,.nil=>.nil
 |_,_,0,.cons _ t=>.cons r t
 |_,_,i+1,.cons q t=>.cons q (ax.set r i t)
theorem ax.append:∀ {xs ys:List V} {us ws:List Value},ax xs us->ax ys ws->ax (xs++ys) (us++ws)
 |_,_,_,_,.nil,s=>s
 |_,_,_,_,.cons r t,s=>.cons r (ax.append t s)
theorem ax.take:∀ {xs:List V} {us:List Value} (n:Nat),ax xs us->ax (xs.take n) (us.take n)
 |_,_,0,_=>.nil
 |_,_,_+1,.nil=>.nil
 |_,_,n+1,.cons r t=>.cons r (ax.take n t)
theorem ax.drop:∀ {xs:List V} {us:List Value} (n:Nat),ax xs us->ax (xs.drop n) (us.drop n)
 |_,_,0,r=>r
 |_,_,_+1,.nil=>.nil
 |_,_,n+1,.cons _ t=>ax.drop n t
def yn:Option V->Option Value->Prop
 |some v,some u=>aq v u
 |none,none=>True
 |_,_=>False
def KV{κ:Type}:List (κ × V)->List (κ × Value)->Prop:=Paired fun(p:κ × V) (q:κ × Value)=>p.1=q.1/\aq p.2 q.2
noncomputable def kV:Key->V
 |.inl i=>.int i
 |.inr x=>.str x
def j0(h:Heap)(a:Addr)(items:Array Value):Prop:=∃o,h.get? a=some o/\o.cls = .type "tuple"/\∃n,o.data = .seq items n/\o.dict=none
theorem j0.isTup(x:j0 h a items):IsTup h a items:=let ⟨o,e,c,n,d,_⟩:=x;⟨o,e,c,n,d⟩
theorem j0.lt(x:j0 h a items):a < h.objs.size:=x.isTup.lt
theorem j0.new(h:Heap)(items:Array Value):j0 (h.push { cls:=.type "tuple", data:=.seq items }) h.objs.size items:=⟨_,Zp _ rfl,rfl,_,rfl,rfl⟩
inductive HO where
  |lst (xs:List V)
  |tup (xs:List V)
  |dK (kvs:List (Key × V)) |dT (kvs:List (List Key × V))
  |set (S:Int->Bool) (n:Nat)
  |ins (C dx:Addr) (fs:List (Str × V))
  |own (x:Addr)
  |xd (fs:List (Str × V))
  |met (f x:Addr)
  |rng (lo hi:Int)
  |frz (o:Obj) (u:HO)
  |tbl (ps:Array Value)
  |ext (φ:Heap->Prop)
abbrev Hp:=Addr->Option HO
noncomputable def upd(H:Hp)(a:Addr)(o:HO):Hp:=fun b=>if b=a then some o else H b
theorem ak{H:Hp}{a:Addr}{o:HO}:upd H a o a=some o:=by unfold upd;rw[if_pos rfl]
theorem ah{H:Hp}{a b:Addr}{o:HO}(h:b ≠ a):upd H a o b=H b:=by unfold upd;rw[if_neg h]
theorem pL:upd (upd H a o) a u=upd H a u:=by
 funext b;unfold upd;split <;> rfl
theorem aJ{H:Hp}{a b:Addr}{o:HO}(h:H a=some o)(h':H b=none):a ≠ b:=by
 intro e;subst e;rw[h] at h';cases h'
section
variable (P:Program) (w:World)
def aX(H:Hp)(h:Heap)(a:Addr):HO->Prop
 |.lst xs=>xs.length<=sizeLine/\∃ (its:List Value) (n:Nat),ax xs its/\h.get? a=some { cls:=.type "list", data:=.seq its.toArray n }
 |.tup xs=>xs.length<=sizeLine/\∃its:List Value,ax xs its/\j0 h a its.toArray
 |.dK kvs=>kvs.length<=sizeLine/\(a == Ui)=false/\∃vs,KV kvs vs/\h.DictOf (bn P w) a vs
 |.dT kvs=>kvs.length<=sizeLine/\(a == Ui)=false/\∃xs:List (List Key × Addr × Value),
   Paired (fun(p:List Key × V) (q:List Key × Addr × Value)=>p.1=q.1/\H q.2.1=some (.tup (p.1.map kV))/\aq p.2 q.2.2) kvs xs ∧
   ∃o es ep,h.get? a=some o/\o.ExactDict/\o.data = .dict es ep/\es.toList=xs.map (entryOfKey (tupleKind (bn P w)))/\(xs.map (·.1)).Nodup
 |.set S n=>h.SetOf (intKind P w) a S n
 |.ins C dx fs=>H dx=some (.own a)/\fs.length<=1000/\dx ≠ a/\h.get? a=some (W1 C dx) ∧
   ∃mA,h.Ns1 dx mA/\(∀f,yn (fs.lookup f) (mA f))/\PySem.Within mA (fs.map (·.1))
 |.own _=>∃o,h.get? a=some o
 |.xd fs=>∃mA,h.Ns1 a mA/\∀f,yn (fs.lookup f) (mA f)
 |.rng lo hi=>∃t u v,h.get? a=some { cls:=.type "range", data:=.fields #[.int lo t,.int hi u,.int 1 v] }
 |.frz o u=>h.get? a=some o/\aX H h a u
 |.tbl ps=>h.get? a=some { cls:=.none,data:=.fields ps }
 |.met f x=>h.get? a=some (W9 (.ref f) (.ref x))
 |.ext φ=>φ h/\(∃o,h.get? a=some o)/\∀h1 h2:Heap,φ h1->(∀o,h1.get? a=some o->h2.get? a=some o)->φ h2
def HOk(H:Hp)(h:Heap):Prop:=∀a o,H a=some o->aX P w H h a o
end
section
variable {P:Program} {w:World} {H H':Hp} {h h':Heap} {a:Addr} {o:HO}
theorem aX.lt(x:aX P w H h a o):a < h.objs.size:=by
 cases o with
 |lst xs=>obtain⟨_,_,_,_,e⟩:=x;exact Zj e
 |tup xs=>obtain⟨_,_,_,p⟩:=x;exact p.lt
 |dK kvs=>obtain⟨_,_,_,_,o,_,_,e,_⟩:=x;exact Zj e
 |dT kvs=>obtain⟨_,_,_,_,o,_,_,e,_⟩:=x;exact Zj e
 |set S n=>obtain⟨o,_,_,_,e,_⟩:=x;exact Zj e
 |ins C dx fs=>obtain⟨_,_,_,e,_⟩:=x;exact Zj e
 |own y=>obtain⟨_,e⟩:=x;exact Zj e
 |xd fs=>obtain⟨_,⟨_,_,_,e,_⟩,_⟩:=x;exact Zj e
 |rng lo hi=>obtain⟨_,_,_,e⟩:=x;exact Zj e
 |frz ob u=>obtain⟨e,_⟩:=x;exact Zj e
 |tbl ps=>exact Zj (show h.get? a=some _ from x)
 |met f y=>exact Zj (show h.get? a=some _ from x)
 |ext φ=>obtain⟨_,⟨_,e⟩,_⟩:=x;exact Zj e
theorem Paired.mapP{α β:Type}{F G:α->β->Prop}:∀ {l₁:List α} {l₂:List β},Paired F l₁ l₂->(∀a b,F a b->G a b)->Paired G l₁ l₂
 |_,_,.nil,_=>.nil
 |_,_,.cons r t,f=>.cons (f _ _ r) (Paired.mapP t f)
theorem aX.stay(x:aX P w H h a o)(k:∀b u,(b=a\/H b=some (.own a))->h.get? b=some u->h'.get? b=some u)
  (ho:∀b,H b=some (.own a)->H' b=some (.own a)) (ht:∀b xs,H b=some (.tup xs)->H' b=some (.tup xs)):aX P w H' h' a o:=by
 induction o with
 |lst xs=>obtain⟨z,its,n,r,e⟩:=x;exact⟨z,its,n,r,k _ _ (.inl rfl) e⟩
 |tup xs=>obtain⟨z,its,r,ob,e,c⟩:=x;exact⟨z,its,r,ob,k _ _ (.inl rfl) e,c⟩
 |dK kvs=>obtain⟨z,y,vs,r,ob,es,ep,e,c⟩:=x;exact⟨z,y,vs,r,ob,es,ep,k _ _ (.inl rfl) e,c⟩
 |dT kvs=>
  obtain⟨z,y,xs,r,ob,es,ep,e,c⟩:=x;exact⟨z,y,xs,Paired.mapP r fun p q z=>⟨z.1,ht _ _ z.2.1,z.2.2⟩,ob,es,ep,k _ _ (.inl rfl) e,c⟩
 |set S n=>obtain⟨ob,es,ep,t,e,c⟩:=x;exact⟨ob,es,ep,t,k _ _ (.inl rfl) e,c⟩
 |ins C dx fs=>
  obtain⟨d,z,ne,e,mA,⟨od,es,ep,e2,c⟩,r⟩:=x;exact⟨ho _ d,z,ne,k _ _ (.inl rfl) e,mA,⟨od,es,ep,k _ _ (.inr d) e2,c⟩,r⟩
 |own y=>obtain⟨ob,e⟩:=x;exact⟨ob,k _ _ (.inl rfl) e⟩
 |xd fs=>obtain⟨mA,⟨od,es,ep,e,c⟩,r⟩:=x;exact⟨mA,⟨od,es,ep,k _ _ (.inl rfl) e,c⟩,r⟩
 |rng lo hi=>obtain⟨t,u,v,e⟩:=x;exact⟨t,u,v,k _ _ (.inl rfl) e⟩
 |frz ob u ih=>obtain⟨e,q⟩:=x;exact⟨k _ _ (.inl rfl) e,ih q⟩
 |tbl ps=>
  have e:h.get? a=some { cls:=.none,data:=.fields ps }:=x;show h'.get? a=some { cls:=.none,data:=.fields ps };exact k a _ (.inl rfl) e
 |met f y=>
  have e:h.get? a=some (W9 (.ref f) (.ref y)):=x;show h'.get? a=some (W9 (.ref f) (.ref y));exact k a _ (.inl rfl) e
 |ext φ=>obtain⟨p,⟨o,e⟩,st⟩:=x;exact⟨st _ _ p fun o q=>k _ _ (.inl rfl) q,⟨o,k _ _ (.inl rfl) e⟩,st⟩
theorem HOk.lt(x:HOk P w H h)(e:H a=some o):a < h.objs.size:=(x a o e).lt
theorem HOk.fresh(x:HOk P w H h)(e:h.objs.size<=a):H a=none:=by
 cases q:H a with
 |none=>rfl
 |some u=>exact absurd (Zo (x.lt q) e) (ZF _)
theorem HOk.kept(x:HOk P w H h)(k:∀b u,h.get? b=some u->h'.get? b=some u):HOk P w H h':=fun a o e=>
 (x a o e).stay (fun b u _ q=>k b u q) (fun _ q=>q) fun _ _ q=>q
theorem HOk.laid(x:HOk P w H h)(k:∀b u,h.get? b=some u->h'.get? b=some u)(hp:h.objs.size<=a)(new:aX P w (upd H a o) h' a o):HOk P w (upd H a o) h':=fun b u e=>by
 have hn:=x.fresh hp;by_cases hb:b=a
 ·subst hb;rw[ak] at e;cases e;exact new
 ·rw[ah hb] at e;exact(x b u e).stay (fun c v _ q=>k c v q) (fun c q=>by rw[ah (aJ q hn)];exact q) fun c xs q=>by rw[ah (aJ q hn)];exact q
end
def Rd(H:Hp)(a:Addr)(u:HO):Prop:=H a=some u\/∃o,H a=some (.frz o u)
theorem Rd.ok{P:Program}{w:World}{H:Hp}{h:Heap}{a:Addr}{u:HO}(r:Rd H a u)(x:HOk P w H h):aX P w H h a u:=by
 rcases r with r |⟨o,r⟩
 ·exact x a u r
 ·obtain⟨_,q⟩:=x a _ r;exact q
def Mut:Option HO->Prop
 |some (.lst _)=>True
 |some (.dK _)=>True
 |some (.dT _)=>True
 |some (.set _ _)=>True
 |some (.ins _ _ _)=>True
 |some (.ext _)=>True
 |_=>False
section
variable {P:Program} {w:World} {H:Hp} {h h':Heap} {x e:Addr} {o':HO}
theorem HOk.write(ok:HOk P w H h)(mu:Mut (H x))(he:e=x\/H e=some (.own x))(k:∀b u,b ≠ e->h.get? b=some u->h'.get? b=some u)(heo:∃u,h'.get? e=some u)
  (new:aX P w (upd H x o') h' x o'):HOk P w (upd H x o') h':=fun b u q=>by
 have nown:∀c y,H c=some (.own y)->c ≠ x:=fun c y r z=>by subst z;rw[r] at mu;exact mu
 have ntup:∀c xs,H c=some (.tup xs)->c ≠ x:=fun c xs r z=>by subst z;rw[r] at mu;exact mu
 by_cases hb:b=x
 ·subst hb;rw[ak] at q;cases q;exact new
 ·rw[ah hb] at q;by_cases hbe:b=e
  ·have q':H b=some (.own x):=by
    rcases he with z |z
    ·exact absurd (hbe.trans z) hb
    ·rw[hbe];exact z
   rw[q] at q';cases q';obtain⟨v,hv⟩:=heo;exact⟨v,by rw[hbe];exact hv⟩
  ·refine(ok b u q).stay (fun c v hc r=>k c v ?_ r) (fun c r=>by rw[ah (nown c b r)];exact r) fun c xs r=>by rw[ah (ntup c xs r)];exact r
   rcases hc with rfl |hc
   ·exact hbe
   ·rintro rfl;rcases he with z |z
    ·exact nown c b hc z
    ·rw[hc] at z;cases z;exact hb rfl
end
structure Un(fs ex:List Addr)(H H':Hp)(h h':Heap):Prop where
 keep:∀b o,h.get? b=some o->H b=none->b ∉ fs->b ∉ ex->h'.get? b=some o
 slot:∀b o,h.get? b=some o->H b=none->b ∈ fs->b ∉ ex->∃sl,h'.get? b=some { o with slots:=sl }
 free:∀b o,h.get? b=some o->H b=none->b ∉ ex->H' b=none
 there:∀b o,h.get? b=some o->b ∉ ex->∃o',h'.get? b=some o'
 tups:∀b xs,H b=some (.tup xs)->H' b=some (.tup xs)
 frzs:∀b o u,H b=some (.frz o u)->H' b=some (.frz o u)
 tbls:∀b ps,H b=some (.tbl ps)->∃more,H' b=some (.tbl (ps++more))
section
variable {fs fs' ex ex':List Addr} {H H1 H2:Hp} {h h1 h2 h':Heap} {a x e:Addr} {o:HO}
theorem Un.any(u:Un fs ex H H1 h h1){b:Addr}{ob:Obj}(q:h.get? b=some ob)(n:H b=none)(hx:b ∉ ex):∃sl,h1.get? b=some { ob with slots:=sl }:=by
 by_cases hb:b ∈ fs
 ·exact u.slot b ob q n hb hx
 ·exact⟨ob.slots,u.keep b ob q n hb hx⟩
theorem Un.kept(k:∀b u,h.get? b=some u->h'.get? b=some u):Un fs ex H H h h':=
 ⟨fun b ob q _ _ _=>k b ob q,fun b ob q _ _ _=>⟨ob.slots,k b ob q⟩,fun _ _ _ n _=>n,fun b ob q _=>⟨ob,k b ob q⟩,fun _ _ q=>q,fun _ _ _ q=>q,fun _ ps q=>⟨#[],by rw[q];simp⟩⟩
theorem Un.refl:Un fs ex H H h h:=Un.kept fun _ _ q=>q
theorem Un.laid(k:∀b u,h.get? b=some u->h'.get? b=some u)(hp:h.objs.size<=a)(hn:H a=none):Un fs ex H (upd H a o) h h' where
 keep:=fun b u q _ _ _=>k b u q
 slot:=fun b u q _ _ _=>⟨u.slots,k b u q⟩
 free:=fun b u q n _=>by rw[ah (Zl (Zo (Zj q) hp))];exact n
 there:=fun b u q _=>⟨u,k b u q⟩
 tups:=fun b xs q=>by rw[ah (aJ q hn)];exact q
 frzs:=fun b u xs q=>by rw[ah (aJ q hn)];exact q
 tbls:=fun b ps q=>⟨#[],by rw[ah (aJ q hn),q];simp⟩
theorem Un.write(mu:Mut (H x))(he:e=x\/H e=some (.own x))(k:∀b u,b ≠ e->h.get? b=some u->h'.get? b=some u)(heo:∃u,h'.get? e=some u):Un fs ex H (upd H x o) h h':=by
 have hx:∀b,H b=none->b ≠ x:=fun b n z=>by subst z;rw[n] at mu;exact mu
 have hb:∀b,H b=none->b ≠ e:=fun b n z=>by
  subst z;rcases he with r |r
  ·exact hx b n r
  ·rw[n] at r;cases r
 have hm:∀b u,H b=some u->¬ Mut (some u)->b ≠ x:=fun b u q nm z=>by subst z;rw[q] at mu;exact nm mu
 refine⟨fun b u q n _ _=>k b u (hb b n) q,fun b u q n _ _=>⟨u.slots,k b u (hb b n) q⟩,fun b u q n _=>by rw[ah (hx b n)];exact n,fun b u q _=>?_,
  fun b xs q=>by rw[ah (hm b _ q fun z=>z)];exact q,fun b u xs q=>by rw[ah (hm b _ q fun z=>z)];exact q,fun b ps q=>⟨#[],by rw[ah (hm b _ q fun z=>z),q];simp⟩⟩
 by_cases hbe:b=e
 ·subst hbe;exact heo
 ·exact⟨u,k b u hbe q⟩
end
noncomputable def trk(h:Heap)(H:Hp):List Addr:=(ZI h.objs.size).filter fun a=>(H a).isSome
noncomputable def j3(h:Heap)(H:Hp):Heap:=WZ h (trk h H)
theorem rf(h:Heap)(H:Hp):(j3 h H).objs.size=h.objs.size:=PySem.W.hideAll_size _ _
theorem tP(e:h.get? b=some o)(n:H b=none):(j3 h H).get? b=some o:=
 W0 _ e fun hm=>by
  have q:(H b).isSome=true:=(Xm.mp hm).2;rw[n] at q;simp at q
theorem yo(e:(j3 h H).get? b=some o):h.get? b=some o/\H b=none:=by
 have e':h.get? b=some o:=Vb (trk h H) e;refine⟨e',?_⟩;cases q:H b with
 |none=>rfl
 |some x=>
  have hm:b ∈ trk h H:=Xm.mpr ⟨Y0.mpr (Zj e'),by simp[q]⟩;have z:(j3 h H).get? b=none:=PySem.W.hideAll_none (trk h H) hm;rw[z] at e;cases e
structure Mod(K:WN)(mg:Str->Option Value)(base:Heap):Prop where
 kin:K.In base
 glob:base.Ns VS mg
 blt:∃mb,base.Ns Vq mb/\∀x:Str,x ≠ "__name__"->mb x=Vo x
 nolimit:base.NoLimit
structure Cx where
 prog:Program
 w:World
 K:WN
 mg:Str->Option Value
 base:Heap
 A:Around
 N:List Str
 s₀:Shared
 H₀:Hp
 env:Env
 outer:List Env
 stack:List Env
 ex:List Addr
 fn:Str->Bool
 calm:Bool
 pn:List (Addr × Obj)
 xe:Value->Shared->Prop
noncomputable def frs(l:List Env):List Addr:=l.filterMap (·.frame)
noncomputable abbrev Cx.fs(X:Cx):List Addr:=frs X.outer
def Vis(sc:Scope)(x:Str):Prop:=sc.names.lookup x=some .local\/sc.names.lookup x=some .cell\/sc.names.lookup x=some .free
def Loc(sc:Scope)(x:Str):Prop:=sc.names.lookup x=some .local\/sc.names.lookup x=some .cell
def Lu(env:Env)(h:Heap)(m:Str->Option Value)(x:Str)(u:Value):Prop:=
 (env.kindOf x=some .local/\m x=some u)\/((env.kindOf x=some .cell\/env.kindOf x=some .free)/\∃c,env.cells.lookup x=some c/\h.IsCell c (some u))
structure Cx.Ok(X:Cx):Prop where
 mod:Mod X.K X.mg X.base
 kind:X.env.scope.kind = .function
 glob:X.env.globals=VS
 blt:X.env.builtins=Vq
 above:X.s₀.heap.objs.size<=X.env.locals
 inj:∀x y c,X.env.cells.lookup x=some c->X.env.cells.lookup y=some c->x=y
 has:∀x,(X.env.kindOf x=some .cell\/X.env.kindOf x=some .free)->∃c,X.env.cells.lookup x=some c
 cab:∀x c,X.fn x=true->X.env.cells.lookup x=some c->X.s₀.heap.objs.size<=c
 hd:X.calm=true->X.A.handled=none
 frames:X.A.frames=some X.stack
 stk:X.stack=X.outer\/(X.stack=X.env::X.outer/\X.env.frame=some X.env.locals)
 exf:∀b ∈ X.ex,b ≠ X.env.locals/\∀x c,X.env.cells.lookup x=some c->c ≠ b
 bs:∀b o,X.base.get? b=some o->X.s₀.heap.get? b=some o/\X.H₀ b=none
 bsz:X.base.objs.size<=X.s₀.heap.objs.size
 noex:∀b o,X.base.get? b=some o->b ∉ X.ex
 exfs:∀b ∈ X.ex,b ∉ X.fs
 funs:X.s₀.heap.FunFrames X.base X.outer
 frf:∀b ∈ X.fs,X.H₀ b=none
structure Inv(X:Cx)(pins:List (Addr × Obj))(σ:List (Option V))(H:Hp)(s:Shared):Prop where
 ok:X.Ok
 os:s.os=X.s₀.os
 bare:AllBare s.gens
 base:Un X.fs X.ex X.H₀ H X.s₀.heap s.heap
 loc:∃m,s.heap.Ns X.env.locals m/\∀ (i:Nat) (x:Str) (v:V),X.N[i]?=some x->σ[i]?=some (some v)->Vis X.env.scope x->∃u,aq v u/\Lu X.env s.heap m x u
 cell:∀x c,X.env.cells.lookup x=some c->∃v,s.heap.IsCell c v
 free:H X.env.locals=none
 freeC:∀x c,X.env.cells.lookup x=some c->H c=none
 pin:∀p ∈ X.pn++pins,s.heap.get? p.1=some p.2/\H p.1=none/\p.1 ≠ X.env.locals/\p.1 ∉ X.fs/\∀v,p.2.data ≠ .cell v
 hok:HOk X.prog X.w H s.heap
 len:σ.length=X.N.length
section
variable {X:Cx} {pins:List (Addr × Obj)} {σ:List (Option V)} {H H':Hp} {s:Shared} {h':Heap}
theorem Cx.Ok.nofr(ok:X.Ok)(e:X.base.get? b=some o):b ∉ X.fs:=fun hb=>by
 have:=(ok.funs.mem hb).1;rw[e] at this;cases this
theorem Inv.bs(I:Inv X pins σ H s):∀b o,X.base.get? b=some o->s.heap.get? b=some o/\H b=none:=fun b o e=>
 ⟨I.base.keep b o (I.ok.bs b o e).1 (I.ok.bs b o e).2 (I.ok.nofr e) (I.ok.noex b o e),I.base.free b o (I.ok.bs b o e).1 (I.ok.bs b o e).2 (I.ok.noex b o e)⟩
theorem Inv.bk(I:Inv X pins σ H s):∀b o,X.base.get? b=some o->s.heap.get? b=some o:=fun b o e=>(I.bs b o e).1
theorem Inv.mod(I:Inv X pins σ H s):Mod X.K X.mg X.base:=I.ok.mod
theorem Inv.kIn(I:Inv X pins σ H s):X.K.In s.heap:=I.ok.mod.kin.keeps I.bk
theorem Inv.lt(I:Inv X pins σ H s):X.env.locals < s.heap.objs.size:=let ⟨_,hn,_⟩:=I.loc;hn.lt
theorem Inv.sz(I:Inv X pins σ H s):X.s₀.heap.objs.size<=s.heap.objs.size:=Zv I.ok.above (Yy I.lt)
theorem Inv.nofs(I:Inv X pins σ H s)(h:s.heap.objs.size<=a):a ∉ X.fs:=fun hb=>by
 obtain⟨_,o,ho,_⟩:=I.ok.funs.mem hb;exact absurd (Zo (Zj ho) (Zv I.sz h)) (ZF _)
theorem Inv.cne(I:Inv X pins σ H s):∀x c,X.env.cells.lookup x=some c->c ≠ X.env.locals:=fun x c e z=>by
 obtain⟨v,o,ho,hd⟩:=I.cell x c e;obtain⟨m,⟨o',es,ep,ho',hd',_⟩,_⟩:=I.loc;rw[z,ho'] at ho;cases ho;rw[hd'] at hd;cases hd
theorem Inv.funs(I:Inv X pins σ H s):s.heap.FunFrames X.base X.outer:=by
 have all:∀ (l:List Env),(∀b ∈ frs l,b ∈ X.fs)->X.s₀.heap.FunFrames X.base l->s.heap.FunFrames X.base l:=by
  intro l
  induction l with
  |nil=>intro _ _;trivial
  |cons env r ih=>
   intro hs hl;obtain⟨hk,⟨L,o,hf,hn,ho,hd⟩,hr⟩:=hl;have hL:L ∈ X.fs:=hs L (by unfold frs;rw[Yv,hf];exact Zg);obtain⟨sl,e⟩:=I.base.slot L o ho (I.ok.frf L hL) hL fun z=>I.ok.exfs L z hL;exact⟨hk,⟨L,_,hf,hn,e,hd⟩,ih (fun b hb=>hs b (by unfold frs;rw[Yv,hf];exact Zd _ hb)) hr⟩
 exact all X.outer (fun _ hb=>hb) I.ok.funs
theorem Inv.stack(I:Inv X pins σ H s):s.heap.FunFrames X.base X.stack:=by
 rcases I.ok.stk with e |⟨e,hf⟩
 ·rw[e];exact I.funs
 ·rw[e];obtain⟨m,hn,_⟩:=I.loc;refine .cons (by rw[I.ok.kind];decide) hf hn ?_ I.funs;exact Yr (Zv I.ok.bsz I.ok.above)
theorem Inv.stkSub(I:Inv X pins σ H s):∀b ∈ frs X.stack,b ∈ X.env.locals::X.fs:=fun b hb=>by
 rcases I.ok.stk with e |⟨e,hf⟩
 ·rw[e] at hb;exact Zd _ hb
 ·rw[e] at hb;unfold frs at hb;rw[Yv,hf] at hb;exact hb
theorem Inv.stkFree(I:Inv X pins σ H s):∀b ∈ frs X.stack,H b=none:=fun b hb=>by
 rcases Zk.mp (I.stkSub b hb) with e |hb
 ·rw[e];exact I.free
 ·obtain⟨_,o,ho,_⟩:=I.ok.funs.mem hb;exact I.base.free b o ho (I.ok.frf b hb) fun z=>I.ok.exfs b z hb
theorem Inv.step{g':Array Wt}{t':Nat}{d':Drawn}{ch:List Addr}(I:Inv X pins σ H s)
  (hch:∀b ∈ ch,(b ∈ X.ex\/X.s₀.heap.objs.size<=b)/\b ≠ X.env.locals/\(∀x c,X.env.cells.lookup x=some c->c ≠ b)/\∀p ∈ X.pn++pins,p.1 ≠ b)
  (keep:∀b o,b ≠ X.env.locals->b ∉ X.fs->b ∉ ch->s.heap.get? b=some o->H b=none->h'.get? b=some o)
  (slot:∀b o,b ≠ X.env.locals->b ∈ X.fs->b ∉ ch->s.heap.get? b=some o->H b=none->∃sl,h'.get? b=some { o with slots:=sl }) (free:∀b o,b ∉ ch->s.heap.get? b=some o->H b=none->H' b=none)
  (there:∀b o,b ∉ ch->s.heap.get? b=some o->∃o',h'.get? b=some o')
  (tups:∀b xs,H b=some (.tup xs)->H' b=some (.tup xs)) (frzs:∀b o u,H b=some (.frz o u)->H' b=some (.frz o u)) (tbls:∀b ps,H b=some (.tbl ps)->∃more,H' b=some (.tbl (ps++more)))
  (ns:∀m,s.heap.Ns X.env.locals m->h'.Ns X.env.locals m) (hok:HOk X.prog X.w H' h') (hg:AllBare g') :
  Inv X pins σ H' { s with heap:=h',gens:=g',drawn:=d',toks:=t' }:=by
 have neL:∀b o,X.s₀.heap.get? b=some o->b ≠ X.env.locals:=fun b o e=>Zl (Zo (Zj e) I.ok.above)
 have neC:∀b o,X.s₀.heap.get? b=some o->b ∉ X.ex->b ∉ ch:=fun b o e hx hb=>by
  rcases (hch b hb).1 with z |z
  ·exact hx z
  ·exact absurd (Zo (Zj e) z) (ZF _)
 have cellK:∀x c,X.env.cells.lookup x=some c->∀v,s.heap.IsCell c v->h'.IsCell c v:=fun x c e v ⟨o,ho,hd⟩=>by
  have nch:c ∉ ch:=fun z=>(hch c z).2.2.1 x c e rfl;by_cases hc:c ∈ X.fs
  ·obtain⟨sl,q⟩:=slot c o (I.cne x c e) hc nch ho (I.freeC x c e);exact⟨_,q,hd⟩
  ·exact⟨o,keep c o (I.cne x c e) hc nch ho (I.freeC x c e),hd⟩
 refine⟨I.ok,I.os,hg,⟨fun b o e n hb hx=>?_,fun b o e n hb hx=>?_,fun b o e n hx=>?_,fun b o e hx=>?_,fun b xs e=>tups b xs (I.base.tups b xs e),fun b o xs e=>frzs b o xs (I.base.frzs b o xs e),fun b ps e=>?_⟩,?_,fun x c e=>?_,?_,fun x c e=>?_,fun p hp=>?_,hok,I.len⟩
 ·exact keep b o (neL b o e) hb (neC b o e hx) (I.base.keep b o e n hb hx) (I.base.free b o e n hx)
 ·obtain⟨sl,e1⟩:=I.base.slot b o e n hb hx;obtain⟨sl',e2⟩:=slot b _ (neL b o e) hb (neC b o e hx) e1 (I.base.free b o e n hx);exact⟨sl',e2⟩
 ·obtain⟨o',e1⟩:=I.base.there b o e hx;exact free b o' (neC b o e hx) e1 (I.base.free b o e n hx)
 ·obtain⟨o',e1⟩:=I.base.there b o e hx;exact there b o' (neC b o e hx) e1
 ·obtain⟨m1,e1⟩:=I.base.tbls b ps e;obtain⟨m2,e2⟩:=tbls b _ e1;exact⟨m1++m2,by rw[e2,Y5]⟩
 ·obtain⟨m,hn,hl⟩:=I.loc;refine⟨m,ns m hn,fun i x v e1 e2 e3=>?_⟩;obtain⟨u,r,l⟩:=hl i x v e1 e2 e3;refine⟨u,r,?_⟩;rcases l with l |⟨k,c,e,z⟩
  ·exact .inl l
  ·exact .inr ⟨k,c,e,cellK x c e _ z⟩
 ·obtain⟨v,z⟩:=I.cell x c e;exact⟨v,cellK x c e v z⟩
 ·obtain⟨m,⟨o,_,_,ho,_⟩,_⟩:=I.loc;exact free _ o (fun z=>(hch _ z).2.1 rfl) ho I.free
 ·obtain⟨v,o,ho,hd⟩:=I.cell x c e;exact free c o (fun z=>(hch c z).2.2.1 x c e rfl) ho (I.freeC x c e)
 ·obtain⟨e,n,ne,nf,d⟩:=I.pin p hp;have nch:p.1 ∉ ch:=fun z=>(hch p.1 z).2.2.2 p hp rfl;exact⟨keep p.1 p.2 ne nf nch e n,free p.1 p.2 nch e n,ne,nf,d⟩
theorem Inv.un{t':Nat}(I:Inv X pins σ H s)(u:Un X.fs [] H H' s.heap h')(hok:HOk X.prog X.w H' h'):Inv X pins σ H' { s with heap:=h',toks:=t' }:=by
 obtain⟨m,⟨o,es,ep,ho,r⟩,_⟩:=id I.loc;obtain⟨sl,hL⟩:=u.any ho I.free (by simp)
 exact I.step (g':=s.gens) (d':=s.drawn) (ch:=[]) (fun _ z=>nomatch z) (fun b o _ hb _ e n=>u.keep b o e n hb (by simp)) (fun b o _ hb _ e n=>u.slot b o e n hb (by simp)) (fun b o _ e n=>u.free b o e n (by simp)) (fun b o _ e=>u.there b o e (by simp)) u.tups u.frzs u.tbls (fun m' hm=>by
  obtain⟨o',es',ep',ho',r'⟩:=hm;rw[ho] at ho';cases ho';exact⟨_,es',ep',hL,r'⟩) hok I.bare
theorem Inv.call{g':Array Wt}{t':Nat}{d':Drawn}{ch:List Addr}(I:Inv X pins σ H s)(u:Un (frs X.stack) ch H H' s.heap h')(hok:HOk X.prog X.w H' h')(hg:AllBare g')
  (hch:∀b ∈ ch,(b ∈ X.ex\/X.s₀.heap.objs.size<=b)/\b ≠ X.env.locals/\(∀x c,X.env.cells.lookup x=some c->c ≠ b)/\∀p ∈ X.pn++pins,p.1 ≠ b) :
  Inv X pins σ H' { s with heap:=h',gens:=g',drawn:=d',toks:=t' }:=by
 obtain⟨m,⟨o,es,ep,ho,r⟩,_⟩:=id I.loc;obtain⟨sl,hL⟩:=u.any ho I.free fun z=>(hch _ z).2.1 rfl
 exact I.step (ch:=ch) hch (fun b o hL hb hc e n=>u.keep b o e n (fun z=>(Zk.mp (I.stkSub b z)).elim hL hb) hc) (fun b o _ _ hc e n=>u.any e n hc) (fun b o hc e n=>u.free b o e n hc) (fun b o hc e=>u.there b o e hc) u.tups u.frzs u.tbls (fun m' hm=>by
  obtain⟨o',es',ep',ho',r'⟩:=hm;rw[ho] at ho';cases ho';exact⟨_,es',ep',hL,r'⟩) hok hg
theorem Inv.turned{t':Nat}{it:Addr}(I:Inv X pins σ H s)(k:∀b o,b ≠ it->s.heap.get? b=some o->h'.get? b=some o)(hn:H it=none)(hL:it ≠ X.env.locals)
  (h1:it ∈ X.ex\/X.s₀.heap.objs.size<=it) (h2:∀x c,X.env.cells.lookup x=some c->c ≠ it) (h3:∀p ∈ X.pn++pins,p.1 ≠ it):Inv X pins σ H { s with heap:=h',toks:=t' }:=by
 have nit:∀b u,H b=some u->b ≠ it:=fun b u e z=>by rw[z,hn] at e;cases e
 refine I.step (g':=s.gens) (d':=s.drawn) (ch:=[it]) (fun b hb=>?_) (fun b o _ _ hc e _=>k b o (fun z=>hc (by simp[z])) e) (fun b o _ _ hc e _=>⟨o.slots,k b o (fun z=>hc (by simp[z])) e⟩) (fun _ _ _ _ n=>n)
  (fun b o hc e=>⟨o,k b o (fun z=>hc (by simp[z])) e⟩) (fun _ _ e=>e) (fun _ _ _ e=>e) (fun b ps e=>⟨#[],by rw[e];simp⟩) (fun m hm=>?_) (fun b u e=>?_) I.bare
 ·have e:b=it:=by simpa using hb
  subst e;exact⟨h1,hL,h2,h3⟩
 ·obtain⟨o,es,ep,ho,r⟩:=hm;exact⟨o,es,ep,k _ o (Ne.symm hL) ho,r⟩
 ·refine(I.hok b u e).stay (fun c v hc q=>k c v ?_ q) (fun _ q=>q) fun _ _ q=>q;rcases hc with z |z
  ·rw[z];exact nit b u e
  ·exact nit c _ z
theorem Inv.tok(I:Inv X pins σ H s)(t:Nat):Inv X pins σ H { s with toks:=t }:=I.un (h':=s.heap) (t':=t) Un.refl I.hok
theorem Inv.kept{t':Nat}(I:Inv X pins σ H s)(k:∀b u,s.heap.get? b=some u->h'.get? b=some u):Inv X pins σ H { s with heap:=h',toks:=t' }:=I.un (Un.kept k) (I.hok.kept k)
theorem Inv.laid{a:Addr}{o:HO}{t':Nat}(I:Inv X pins σ H s)(k:∀b u,s.heap.get? b=some u->h'.get? b=some u)(hp:s.heap.objs.size<=a)(new:aX X.prog X.w (upd H a o) h' a o) :
  Inv X pins σ (upd H a o) { s with heap:=h',toks:=t' }:=I.un (Un.laid k hp (I.hok.fresh hp)) (I.hok.laid k hp new)
theorem Inv.write{t':Nat}(I:Inv X pins σ H s)(mu:Mut (H x))(he:e=x\/H e=some (.own x))(k:∀b u,b ≠ e->s.heap.get? b=some u->h'.get? b=some u)(heo:∃u,h'.get? e=some u)
  (new:aX X.prog X.w (upd H x o) h' x o):Inv X pins σ (upd H x o) { s with heap:=h',toks:=t' }:=I.un (Un.write mu he k heo) (I.hok.write mu he k heo new)
theorem Inv.pins_of(I:Inv X pins σ H s)(h:∀p ∈ pins',s.heap.get? p.1=some p.2/\H p.1=none/\p.1 ≠ X.env.locals/\p.1 ∉ X.fs/\∀v,p.2.data ≠ .cell v):Inv X pins' σ H s:=
 ⟨I.ok,I.os,I.bare,I.base,I.loc,I.cell,I.free,I.freeC,fun p hp=>(ZK.mp hp).elim (fun z=>I.pin p (ZL _ z)) (h p),I.hok,I.len⟩
theorem gW{N:List Str}(hN:N.Nodup){i j:Nat}{x:Str}(a:N[i]?=some x)(b:N[j]?=some x):i=j:=by
 obtain⟨h1,e1⟩:=Zf.mp a;obtain⟨h2,e2⟩:=Zf.mp b;exact(Ym hN).mp (e1.trans e2.symm)
theorem jp{M:Model}{A:Around}{E:Value->Shared->Prop}{i:Nat}{x:Str}{v:V}{u:Value}{Q:Unit->Shared->Prop}(I:Inv X pins σ H s)(hN:X.N.Nodup)(hi:X.N[i]?=some x)(hx:Loc X.env.scope x)(r:aq v u)
  (h:∀s',Inv X pins (σ.set i (some v)) H s'->(∃a,Heap.SameBut a s.heap s'.heap/\(a=X.env.locals\/X.env.cells.lookup x=some a))->Q () s') (hf:X.fn x=true\/X.env.scope.names.lookup x=some .local:=by first |exact .inl rfl |exact .inr rfl |assumption):wpAny M A (storeName X.env x u) Q E s:=by
 obtain⟨m,hn,hl⟩:=id I.loc;have hcls:(X.env.scope.kind == .class || (X.env.scope.kind == .module && X.env.locals != X.env.globals))=false:=by rw[I.ok.kind];rfl
 have hiσ:i < σ.length:=by rw[I.len];exact(Zf.mp hi).1
 have cne:=I.cne
 have tracked:∀ {a:Addr} {h':Heap},(∃o,s.heap.get? a=some o/\H a=none)->Heap.SameBut a s.heap h'->HOk X.prog X.w H h':=fun {a h'} ha hs b ob e=>by
  obtain⟨_,_,hfree⟩:=ha;refine(I.hok b ob e).stay (fun c w' hc q=>(hs.2 c ?_).trans q) (fun _ q=>q) fun _ _ q=>q;rintro rfl;rcases hc with rfl |hc
  ·rw[hfree] at e;cases e
  ·rw[hfree] at hc;cases hc
 rcases hx with hk |hk
 ·refine wpAny_storeName_local hk hn (fun h' hn' hs=>?_) hcls;obtain⟨oL,_,_,hoL,_⟩:=id hn;refine h _ ⟨I.ok,I.os,I.bare,⟨fun b o e n hb hx=>?_,fun b o e n hb hx=>?_,I.base.free,fun b o e hx=>?_,I.base.tups,I.base.frzs,I.base.tbls⟩,⟨_,hn',fun j y v' e1 e2 e3=>?_⟩,fun y c e=>?_,I.free,I.freeC,fun p hp=>?_,tracked ⟨oL,hoL,I.free⟩ hs,by simpa using I.len⟩ ⟨_,hs,.inl rfl⟩
  ·exact(hs.2 b (Zl (Zo (Zj e) I.ok.above))).trans (I.base.keep b o e n hb hx)
  ·obtain⟨sl,e1⟩:=I.base.slot b o e n hb hx;exact⟨sl,(hs.2 b (Zl (Zo (Zj e) I.ok.above))).trans e1⟩
  ·obtain⟨o',e1⟩:=I.base.there b o e hx;exact⟨o',(hs.2 b (Zl (Zo (Zj e) I.ok.above))).trans e1⟩
  ·by_cases hj:j=i
   ·subst hj;rw[hi] at e1;cases e1;rw[Zy hiσ] at e2;cases e2;exact⟨u,r,.inl ⟨hk,by simp⟩⟩
   ·rw[ZT (Ne.symm hj)] at e2;obtain⟨u',r',q⟩:=hl j y v' e1 e2 e3;refine⟨u',r',?_⟩;rcases q with ⟨k,e⟩ |⟨k,c,e,z⟩
    ·refine .inl ⟨k,?_⟩;have:y ≠ x:=fun e=>hj (gW hN e1 (e ▸ hi));simp[this,e]
    ·exact .inr ⟨k,c,e,z.sameBut hs (cne y c e)⟩
  ·obtain⟨w',z⟩:=I.cell y c e;exact⟨w',z.sameBut hs (cne y c e)⟩
  ·obtain⟨e,n,ne,nf,d⟩:=I.pin p hp;exact⟨(hs.2 p.1 ne).trans e,n,ne,nf,d⟩
 ·have hfn:X.fn x=true:=by
   rcases hf with z |z
   ·exact z
   ·rw[z] at hk;cases hk
  obtain⟨c,hc⟩:=I.ok.has x (.inl hk);obtain⟨w',z⟩:=I.cell x c hc;refine wpAny_storeName_cell I.ok.kind hk hc z (fun h' hc' hs=>?_);obtain⟨oc,hoc,hocd⟩:=id z;refine h { s with heap:=h' } ⟨I.ok,I.os,I.bare,⟨fun b o e n hb hx=>?_,fun b o e n hb hx=>?_,I.base.free,fun b o e hx=>?_,I.base.tups,I.base.frzs,I.base.tbls⟩,⟨m,hn.sameBut hs (Ne.symm (cne x c hc)),fun j y v' e1 e2 e3=>?_⟩,fun y c' e=>?_,I.free,I.freeC,fun p hp=>?_,tracked ⟨oc,hoc,I.freeC x c hc⟩ hs,by simpa using I.len⟩ ⟨c,hs,.inr hc⟩
  ·exact(hs.2 b (Zl (Zo (Zj e) (I.ok.cab x c hfn hc)))).trans (I.base.keep b o e n hb hx)
  ·obtain⟨sl,e1⟩:=I.base.slot b o e n hb hx;exact⟨sl,(hs.2 b (Zl (Zo (Zj e) (I.ok.cab x c hfn hc)))).trans e1⟩
  ·obtain⟨o',e1⟩:=I.base.there b o e hx;exact⟨o',(hs.2 b (Zl (Zo (Zj e) (I.ok.cab x c hfn hc)))).trans e1⟩
  ·by_cases hj:j=i
   ·subst hj;rw[hi] at e1;cases e1;rw[Zy hiσ] at e2;cases e2;exact⟨u,r,.inr ⟨.inl hk,c,hc,hc'⟩⟩
   ·rw[ZT (Ne.symm hj)] at e2;obtain⟨u',r',q⟩:=hl j y v' e1 e2 e3;refine⟨u',r',?_⟩;rcases q with q |⟨k,c',e,z'⟩
    ·exact .inl q
    ·refine .inr ⟨k,c',e,z'.sameBut hs ?_⟩;rintro rfl;exact hj (gW hN e1 (I.ok.inj _ _ _ e hc ▸ hi))
  ·by_cases hcc:c'=c
   ·subst hcc;exact⟨_,hc'⟩
   ·obtain⟨w2,z2⟩:=I.cell y c' e;exact⟨w2,z2.sameBut hs hcc⟩
  ·obtain⟨e,n,ne,nf,d⟩:=I.pin p hp;refine⟨(hs.2 p.1 ?_).trans e,n,ne,nf,d⟩;intro q;rw[q,hoc] at e;have q':oc=p.2:=Option.some.inj e;exact d w' (by rw[<-q'];exact hocd)
theorem bF{i:Nat}(I:Inv X pins σ H s)(hN:X.N.Nodup)(hi:X.N[i]?=some x)(hx:Loc X.env.scope x)(r:aq v u)
  (h:∀s',Inv X pins (σ.set i (some v)) H s'->Q () s') (hf:X.fn x=true\/X.env.scope.names.lookup x=some .local:=by first |exact .inl rfl |exact .inr rfl |assumption):wpAny M A (storeName X.env x u) Q E s:=
 jp I hN hi hx r (fun s' I' _=>h s' I') hf
theorem Inv.call'(I:Inv X pins σ H s)(ho:s'.os=s.os)(u:Un (frs X.stack) ch H H' s.heap s'.heap)(hok:HOk X.prog X.w H' s'.heap)(hg:AllBare s'.gens)
  (hch:∀b ∈ ch,(b ∈ X.ex\/X.s₀.heap.objs.size<=b)/\b ≠ X.env.locals/\(∀x c,X.env.cells.lookup x=some c->c ≠ b)/\∀p ∈ X.pn++pins,p.1 ≠ b):Inv X pins σ H' s':=by
 obtain⟨h',g',d',t',o'⟩:=s';have e:o'=s.os:=ho;subst e;exact I.call (g':=g') (t':=t') (d':=d') u hok hg hch
end
abbrev XK:=Value->Option Addr->Hp->Prop
abbrev St:=List (Option V)
abbrev VK:=V->Hp->Prop
abbrev TE:=St->Hp->VK->Prop
abbrev TT:=St->Hp->(Bool->Hp->Prop)->Prop
abbrev TA:=St->Hp->(List V->Hp->Prop)->Prop
structure Ends where
 nx:St->Hp->Prop
 rt:VK
 bk:St->Hp->Prop:=fun _ _=>False
 ct:St->Hp->Prop:=fun _ _=>False
abbrev TS:=Ends->St->Hp->Prop
def EP(X:Cx)(pins:List (Addr × Obj))(σ:St)(Q:VK)(u:Value)(s':Shared):Prop:=∃v H',Inv X pins σ H' s'/\aq v u/\Q v H'
def TP(X:Cx)(pins:List (Addr × Obj))(σ:St)(Q:Bool->Hp->Prop)(b:Bool)(s':Shared):Prop:=∃H',Inv X pins σ H' s'/\Q b H'
def AP(X:Cx)(pins:List (Addr × Obj))(σ:St)(Q:List V->Hp->Prop)(us:List Value)(s':Shared):Prop:=∃vs H',Inv X pins σ H' s'/\ax vs us/\Q vs H'
def SP(X:Cx)(pins:List (Addr × Obj))(D:Ends)(f:Flow)(s':Shared):Prop:=
 match f with
 |.next=>∃σ' H',Inv X pins σ' H' s'/\D.nx σ' H'
 |.brk=>∃σ' H',Inv X pins σ' H' s'/\D.bk σ' H'
 |.cont=>∃σ' H',Inv X pins σ' H' s'/\D.ct σ' H'
 |.ret u=>∃v σ' H',Inv X pins σ' H' s'/\aq v u/\D.rt v H'
def PE(X:Cx)(e:Expr)(t:TE):Prop:=
 ∀ (pins:List (Addr × Obj)) (s:Shared) (σ:St) (H:Hp) (Q:VK),Inv X pins σ H s->t σ H Q->wpAny (model X.prog X.w) X.A (eval e X.env) (EP X pins σ Q) X.xe s
def PT(X:Cx)(e:Expr)(t:TT):Prop:=
 ∀ (pins:List (Addr × Obj)) (s:Shared) (σ:St) (H:Hp) (Q:Bool->Hp->Prop),Inv X pins σ H s->t σ H Q->wpAny (model X.prog X.w) X.A (isTrue e X.env (eval e X.env)) (TP X pins σ Q) X.xe s
def PW(X:Cx)(e:Expr)(t:TT):Prop:=
 ∀ (whole:Sem Value) (pins:List (Addr × Obj)) (s:Shared) (σ:St) (H:Hp) (Q:Bool->Hp->Prop),Inv X pins σ H s->t σ H Q->wpAny (model X.prog X.w) X.A (isTrue e X.env whole) (TP X pins σ Q) X.xe s
theorem PW.pt(h:PW X e t):PT X e t:=h _
def PA(X:Cx)(es:List Expr)(t:TA):Prop:=
 ∀ (pos:Pos) (pins:List (Addr × Obj)) (s:Shared) (σ:St) (H:Hp) (Q:List V->Hp->Prop),Inv X pins σ H s->t σ H Q->wpAny (model X.prog X.w) X.A (spliced (backTo pos (Ue es X.env))) (AP X pins σ Q) X.xe s
def PS(X:Cx)(st:Stmt)(t:TS):Prop:=
 ∀ (pins:List (Addr × Obj)) (s:Shared) (σ:St) (H:Hp) (D:Ends),Inv X pins σ H s->t D σ H->wpAny (model X.prog X.w) X.A (exec st X.env) (SP X pins D) X.xe s
def PSs(X:Cx)(st:List Stmt)(t:TS):Prop:=
 ∀ (pins:List (Addr × Obj)) (s:Shared) (σ:St) (H:Hp) (D:Ends),Inv X pins σ H s->t D σ H->wpAny (model X.prog X.w) X.A (execs st X.env) (SP X pins D) X.xe s
theorem thn{α:Type}{t:Sem α}{Q Q':α->Shared->Prop}{M:Model}{A:Around}{E:Value->Shared->Prop}{s:Shared}(h:wpAny M A t Q E s)(hQ:∀a s,Q a s->Q' a s):wpAny M A t Q' E s:=UI h hQ fun _ _ x=>x
section
variable {X:Cx}
def rg(i:Nat):TE:=fun σ H Q=>∃v,σ[i]?=some (some v)/\Q v H
def tC(v:V):TE:=fun _ H Q=>Q v H
theorem gX{i:Nat}(hN:X.N[i]?=some x)(hv:Vis X.env.scope x)(hd:(x == ("__debug__" : Str))=false:=by decide)(hcd:(x == ("__classdict__" : Str))=false:=by decide):PE X (.Name x pos) (rg i):=by
 intro pins s σ H Q I h;obtain⟨v,e,h⟩:=h;obtain⟨m,hn,hl⟩:=I.loc;obtain⟨u,r,l⟩:=hl i x v hN e hv;have fin:EP X pins σ Q u s:=⟨v,H,I,r,h⟩;rcases l with ⟨hk,hm⟩ |⟨hk,c,hc,hcell⟩
 ·exact wpAny_Name (wpAny_loadName_local I.ok.kind hk hn hm fin) hd
 ·rcases hk with hk |hk
  ·exact wpAny_Name (wpAny_loadName_cell I.ok.kind hk hc hcell fin) hd
  ·exact wpAny_Name (wpAny_loadName_free I.ok.kind hk hc hcell fin hcd) hd
theorem fK{i j pos}:PE X (.Constant (.int i) j pos) (tC (.int i)):=fun _ _ _ H _ I h=>wpAny_Constant_int ⟨.int i,H,I.tok _,⟨_,rfl⟩,h⟩
theorem tQ{b j pos}:PE X (.Constant (.bool b) j pos) (tC (.bl b)):=fun _ _ _ H _ I h=>Constant_bool ⟨.bl b,H,I,rfl,h⟩
theorem tR{j pos}:PE X (.Constant .none j pos) (tC .non):=fun _ _ _ H _ I h=>Constant_none ⟨.non,H,I,rfl,h⟩
theorem gY{x j pos}:PE X (.Constant (.str x) j pos) (tC (.str x)):=fun _ _ _ H _ I h=>Calls.Constant_str ⟨.str x,H,I.tok _,⟨_,rfl⟩,h⟩
def Gl(X:Cx)(x:Str):Prop:=X.env.kindOf x=some .globalImplicit
theorem cv(I:Inv X pins σ H s)(hg:Gl X x)(hm:X.mg x=some u)(h:Q u s)
  (hd:(x == ("__debug__" : Str))=false:=by decide):wpAny (model X.prog X.w) X.A (eval (.Name x pos) X.env) Q E s:=
 XX I.ok.kind hg (Calls.loadGlobal_global (by rw[I.ok.glob];exact I.mod.glob.keeps I.bk) hm h) hd
theorem cP(I:Inv X pins σ H s)(hg:Gl X x)(hm:X.mg x=none)(hv:Vo x=some u)(h:Q u s)
  (hn:x ≠ "__name__" := by decide) (hd:(x == ("__debug__" : Str))=false:=by decide):wpAny (model X.prog X.w) X.A (eval (.Name x pos) X.env) Q E s:=by
 obtain⟨mb,h1,h2⟩:=I.mod.blt;exact XX I.ok.kind hg (Calls.loadGlobal_builtin (by rw[I.ok.glob];exact I.mod.glob.keeps I.bk) hm (by rw[I.ok.blt];exact h1.keeps I.bk) ((h2 x hn).trans hv) h) hd
theorem j4(hg:Gl X x)(hm:X.mg x=some u)(r:aq v u)(hd:(x == ("__debug__" : Str))=false:=by decide):PE X (.Name x pos) (tC v):=
 fun _ _ _ H _ I h=>cv I hg hm ⟨v,H,I,r,h⟩ hd
theorem dN(hg:Gl X x)(hm:X.mg x=none)(hv:Vo x=some u)(r:aq v u)(hn:x ≠ "__name__" := by decide)(hd:(x == ("__debug__" : Str))=false:=by decide):PE X (.Name x pos) (tC v):=
 fun _ _ _ H _ I h=>cP I hg hm hv ⟨v,H,I,r,h⟩ hn hd
variable {a b:Expr} {ta tb:TE} {pos:Pos}
def tB(t:TE):TT:=fun σ H Q=>t σ H fun x H1=>∃c,x = .bl c/\Q c H1
theorem tS{e:Expr}{t:TE}(h:PE X e t)(he:∀whole,isTrue e X.env whole=(do let v <-whole;standAt e.pos;holding [v] (truthy v)):=by intro _;rfl):PT X e (tB t):=by
 intro pins s σ H Q I hw;refine isTrue_plain (thn (h pins s σ H _ I hw) fun v s1 ⟨x,H1,I1,r1,q1⟩=>?_) (he _);obtain⟨d,rfl,q⟩:=q1;cases r1;exact UY ⟨H1,I1,q⟩
variable {tA tB':TT} {rest:List Expr}
def Ip(t u:TT):TT:=fun σ H Q=>t σ H fun c H1=>if c=true then u σ H1 Q else Q false H1
def tOr(t u:TT):TT:=fun σ H Q=>t σ H fun c H1=>if c=true then Q true H1 else u σ H1 Q
def Iq(t:TT):TT:=fun σ H Q=>t σ H fun c H1=>Q (!c) H1
theorem yp(ha:PT X a tA):PW X (.BoolOp .And [a] pos) tA:=by
 intro wh pins s σ H Q I h;refine isTrue_and (thn (ha pins s σ H Q I h) fun c s1 e=>?_);cases c with
 |true=>exact isTrue_and_nil e
 |false=>exact e
theorem nk(ha:PT X a tA):PW X (.BoolOp .Or [a] pos) tA:=by
 intro wh pins s σ H Q I h;refine isTrue_or (thn (ha pins s σ H Q I h) fun c s1 e=>?_);cases c with
 |false=>exact isTrue_or_nil e
 |true=>exact e
theorem tU(ha:PT X a tA)(hb:PW X (.BoolOp .And (b::rest) pos) tB'):PW X (.BoolOp .And (a::b::rest) pos) (Ip tA tB'):=by
 intro wh pins s σ H Q I h;refine isTrue_and (thn (ha pins s σ H _ I h) fun c s1 ⟨H1,I1,q1⟩=>?_);cases c with
 |true=>exact hb wh pins s1 σ H1 Q I1 q1
 |false=>exact⟨H1,I1,q1⟩
theorem pM(ha:PT X a tA)(hb:PW X (.BoolOp .Or (b::rest) pos) tB'):PW X (.BoolOp .Or (a::b::rest) pos) (tOr tA tB'):=by
 intro wh pins s σ H Q I h;refine isTrue_or (thn (ha pins s σ H _ I h) fun c s1 ⟨H1,I1,q1⟩=>?_);cases c with
 |true=>exact⟨H1,I1,q1⟩
 |false=>exact hb wh pins s1 σ H1 Q I1 q1
theorem nq(ha:PT X a tA):PT X (.UnaryOp .Not a pos) (Iq tA):=by
 intro pins s σ H Q I h;exact isTrue_not (ha pins s σ H (fun c H1=>Q (!c) H1) I h)
def Ch(ta tb:TE):TE:=fun σ H Q=>ta σ H fun x H1=>∃c,x = .bl c/\if c=true then tb σ H1 Q else Q (.bl false) H1
def Ir(ta tb:TE):TE:=fun σ H Q=>ta σ H fun x H1=>∃c,x = .bl c/\if c=true then Q (.bl true) H1 else tb σ H1 Q
def Ci(ta:TE):TE:=fun σ H Q=>ta σ H fun x H1=>∃c,x = .bl c/\Q (.bl (!c)) H1
theorem tV{op}(h:PE X a t):PE X (.BoolOp op [a] pos) t:=fun pins s σ H Q I hw=>BoolOp_one (h pins s σ H Q I hw)
theorem tW(ha:PE X a ta)(hb:PE X (.BoolOp .And (b::rest) pos) tb):PE X (.BoolOp .And (a::b::rest) pos) (Ch ta tb):=by
 intro pins s σ H Q I h;refine BoolOp_and (thn (ha pins s σ H _ I h) fun v s1 ⟨x,H1,I1,r1,q1⟩=>?_);obtain⟨c,rfl,q1⟩:=q1;cases r1;refine UY ?_;cases c with
 |true=>exact hb pins s1 σ H1 Q I1 q1
 |false=>exact⟨.bl false,H1,I1,rfl,q1⟩
theorem Cj(ha:PE X a ta)(hb:PE X (.BoolOp .Or (b::rest) pos) tb):PE X (.BoolOp .Or (a::b::rest) pos) (Ir ta tb):=by
 intro pins s σ H Q I h;refine BoolOp_or (thn (ha pins s σ H _ I h) fun v s1 ⟨x,H1,I1,r1,q1⟩=>?_);obtain⟨c,rfl,q1⟩:=q1;cases r1;refine UY ?_;cases c with
 |false=>exact hb pins s1 σ H1 Q I1 q1
 |true=>exact⟨.bl true,H1,I1,rfl,q1⟩
theorem Dy(ha:PE X a ta):PE X (.UnaryOp .Not a pos) (Ci ta):=by
 intro pins s σ H Q I h;refine UnaryOp_ (thn (ha pins s σ H _ I h) fun v s1 ⟨x,H1,I1,r1,q1⟩=>?_);obtain⟨c,rfl,q1⟩:=q1;cases r1;exact not_of (UY ⟨.bl (!c),H1,I1,rfl,q1⟩)
def tIf(t:TT)(ta tb:TE):TE:=fun σ H Q=>t σ H fun c H1=>if c=true then ta σ H1 Q else tb σ H1 Q
theorem tX{c:Expr}(hc:PT X c tA)(ha:PE X a ta)(hb:PE X b tb):PE X (.IfExp c a b pos) (tIf tA ta tb):=by
 intro pins s σ H Q I h;refine wpAny_IfExp (thn (hc pins s σ H _ I h) fun d s1 ⟨H1,I1,q1⟩=>?_);cases d with
 |true=>exact ha pins s1 σ H1 Q I1 q1
 |false=>exact hb pins s1 σ H1 Q I1 q1
end
def SqL(K:WN)(H:Hp)(a:Addr)(xs:List V):Prop:=
 Rd H a (.lst xs) ∨
  ∃ (o:Obj) (its:Array Value) (n:Nat),K.lookup a=some o/\o.cls = .type "list"/\o.dict=none/\o.data = .seq its n/\its.size<=sizeLine/\ax xs its.toList
def SqT(K:WN)(H:Hp)(a:Addr)(xs:List V):Prop:=
 Rd H a (.tup xs) ∨
  ∃ (o:Obj) (its:Array Value) (n:Nat),K.lookup a=some o/\o.cls = .type "tuple"/\o.data = .seq its n/\its.size<=sizeLine/\ax xs its.toList
noncomputable def Lv:Value->Option V
 |.none=>some .non
 |.bool b=>some (.bl b)
 |.int i _=>some (.int i)
 |.str x _=>some (.str x)
 |.bytes b _=>some (.byt b)
 |.float b _=>some (.flt b)
 |.ref a=>some (.ref a)
 |.type n=>some (.ty n)
 |_=>none
theorem aq.abs(r:aq x u):Lv u=some x:=by
 cases x with
 |non=>cases r;rfl
 |bl _=>cases r;rfl
 |int _=>obtain⟨t,rfl⟩:=r;rfl
 |str _=>obtain⟨t,rfl⟩:=r;rfl
 |byt _=>obtain⟨t,rfl⟩:=r;rfl
 |flt _=>obtain⟨t,rfl⟩:=r;rfl
 |ref _=>cases r;rfl
 |ty _=>cases r;rfl
theorem aq.inj{x y:V}{u:Value}(r:aq x u)(q:aq y u):x=y:=Option.some.inj (r.abs.symm.trans q.abs)
theorem ax.inj:∀ {xs ys:List V} {us:List Value},ax xs us->ax ys us->xs=ys
 |_,_,_,.nil,.nil=>rfl
 |_,_,_,.cons r t,.cons r' t'=>by rw[r.inj r',ax.inj t t']
section
variable {X:Cx} {pins:List (Addr × Obj)} {σ:St} {H:Hp} {s:Shared} {a:Addr} {xs ys:List V}
theorem SqL.of{K:WN}(h:H a=some (.lst xs)):SqL K H a xs:=.inl (.inl h)
theorem SqT.of{K:WN}(h:H a=some (.tup xs)):SqT K H a xs:=.inl (.inl h)
theorem Inv.list(I:Inv X pins σ H s)(h:SqL X.K H a xs):∃its:List Value,ax xs its/\PlainL s.heap a its.toArray/\xs.length<=sizeLine:=by
 rcases h with h |⟨o,its,n,hk,hc,hd,hs,hz,r⟩
 ·obtain⟨z,its,n,r,e⟩:=h.ok I.hok;exact⟨its,r,⟨_,n,e,rfl,rfl,rfl⟩,z⟩
 ·refine⟨its.toList,r,⟨o,n,I.kIn a o hk,hc,hd,by simpa using hs⟩,?_⟩;have e:=r.length;simp only[Zt] at e
  lia
theorem Inv.tuple(I:Inv X pins σ H s)(h:SqT X.K H a xs):∃its:List Value,ax xs its/\IsTup s.heap a its.toArray/\xs.length<=sizeLine:=by
 rcases h with h |⟨o,its,n,hk,hc,hs,hz,r⟩
 ·obtain⟨z,its,r,p⟩:=h.ok I.hok;exact⟨its,r,p.isTup,z⟩
 ·refine⟨its.toList,r,⟨o,I.kIn a o hk,hc,n,by simpa using hs⟩,?_⟩;have e:=r.length;simp only[Zt] at e
  lia
theorem Inv.list_inj(I:Inv X pins σ H s)(h:SqL X.K H a xs)(h':SqL X.K H a ys):xs=ys:=by
 obtain⟨its,r,⟨o,n,e,_,_,d⟩,_⟩:=I.list h;obtain⟨its',r',⟨o',n',e',_,_,d'⟩,_⟩:=I.list h';rw[e] at e';cases e';rw[d] at d';injection d' with d1 _;have:its=its':=by simpa using congrArg Array.toList d1
 subst this;exact r.inj r'
theorem Inv.tuple_inj(I:Inv X pins σ H s)(h:SqT X.K H a xs)(h':SqT X.K H a ys):xs=ys:=by
 obtain⟨its,r,⟨o,e,_,n,d⟩,_⟩:=I.tuple h;obtain⟨its',r',⟨o',e',_,n',d'⟩,_⟩:=I.tuple h';rw[e] at e';cases e';rw[d] at d';injection d' with d1 _;have:its=its':=by simpa using congrArg Array.toList d1
 subst this;exact r.inj r'
end
noncomputable abbrev Cx.wish(X:Cx)(E:Value->Shared->Prop):Cx:={ X with xe:=E }
noncomputable abbrev Cx.nox(X:Cx):Cx:=X.wish fun _ _=>False
theorem Cx.Ok.wish{X:Cx}(ok:X.Ok)(E:Value->Shared->Prop):(X.wish E).Ok:=
 ⟨ok.mod,ok.kind,ok.glob,ok.blt,ok.above,ok.inj,ok.has,ok.cab,ok.hd,ok.frames,ok.stk,ok.exf,ok.bs,ok.bsz,ok.noex,ok.exfs,ok.funs,ok.frf⟩
theorem Cx.Ok.unwish{X:Cx}{E:Value->Shared->Prop}(ok:(X.wish E).Ok):X.Ok:=
 ⟨ok.mod,ok.kind,ok.glob,ok.blt,ok.above,ok.inj,ok.has,ok.cab,ok.hd,ok.frames,ok.stk,ok.exf,ok.bs,ok.bsz,ok.noex,ok.exfs,ok.funs,ok.frf⟩
section
variable {X:Cx} {pins:List (Addr × Obj)} {σ:St} {H:Hp} {s:Shared} {E:Value->Shared->Prop}
theorem Inv.wish(I:Inv X pins σ H s)(E:Value->Shared->Prop):Inv (X.wish E) pins σ H s:=⟨I.ok.wish E,I.os,I.bare,I.base,I.loc,I.cell,I.free,I.freeC,I.pin,I.hok,I.len⟩
theorem Inv.unwish(I:Inv (X.wish E) pins σ H s):Inv X pins σ H s:=⟨I.ok.unwish,I.os,I.bare,I.base,I.loc,I.cell,I.free,I.freeC,I.pin,I.hok,I.len⟩
theorem SP.unwish{D:Ends}{f:Flow}{s':Shared}(h:SP (X.wish E) pins D f s'):SP X pins D f s':=by
 cases f with
 |next=>obtain⟨σ',H',I,q⟩:=h;exact⟨σ',H',I.unwish,q⟩
 |brk=>obtain⟨σ',H',I,q⟩:=h;exact⟨σ',H',I.unwish,q⟩
 |cont=>obtain⟨σ',H',I,q⟩:=h;exact⟨σ',H',I.unwish,q⟩
 |ret u=>obtain⟨v,σ',H',I,r,q⟩:=h;exact⟨v,σ',H',I.unwish,r,q⟩
theorem PSs.nox{st:List Stmt}{t:TS}(h:PSs X.nox st t):PSs X st t:=fun pins s σ H D I hw=>
 UI (h pins s σ H D (I.wish _) hw) (fun _ _ q=>q.unwish) fun _ _ z=>False.elim z
end
section
variable {X:Cx} {st:Stmt} {rest:List Stmt} {t u:TS} {e:Expr} {te:TE} {pos:Pos}
def tY:TS:=fun D σ H=>D.nx σ H
def Iu(t u:TS):TS:=fun D σ H=>t { D with nx:=u D } σ H
theorem eX:PSs X [] tY:=fun _ _ σ H _ I h=>Uz ⟨σ,H,I,h⟩
theorem bu(h1:PS X st t)(h2:PSs X rest u):PSs X (st::rest) (Iu t u):=by
 intro pins s σ H D I h;refine Uy (thn (h1 pins s σ H { D with nx:=u D } I h) fun f s1 q=>?_);cases f with
 |next=>
  obtain⟨σ',H',I',q⟩:=q;exact h2 pins s1 σ' H' D I' q
 |ret v=>exact q
 |brk=>exact q
 |cont=>exact q
theorem bN(h1:PS X st t):PSs X [st] t:=by
 intro pins s σ H D I h;refine Uy (thn (h1 pins s σ H D I h) fun f s1 q=>?_);cases f with
 |next=>exact Uz q
 |ret v=>exact q
 |brk=>exact q
 |cont=>exact q
def tZ:TS:=fun D σ H=>D.bk σ H
def Ck:TS:=fun D σ H=>D.ct σ H
theorem yq:PS X (.Pass pos) tY:=fun _ _ σ H _ I h=>wpAny_Pass ⟨σ,H,I,h⟩
theorem t5:PS X (.Break pos) tZ:=fun _ _ σ H _ I h=>wpAny_Break ⟨σ,H,I,h⟩
theorem ll:PS X (.Continue pos) Ck:=fun _ _ σ H _ I h=>wpAny_Continue ⟨σ,H,I,h⟩
theorem Inv.quiet{pins:List (Addr × Obj)}{σ:St}{H:Hp}{s:Shared}(I:Inv X pins σ H s):interactive X.env=false:=by simp[interactive,I.ok.kind]
def Cm(te:TE):TS:=fun D σ H=>te σ H fun _ H1=>D.nx σ H1
theorem pN(he:PE X e te)(hs:Ug e none pos.line X.env=pure false:=by rfl):PS X (.Expr e pos) (Cm te):=by
 intro pins s σ H D I h;exact wpAny_Expr_any (thn (he pins s σ H _ I h) fun v s1 ⟨x,H1,I1,r1,q1⟩=>⟨σ,H1,I1,q1⟩) I.quiet hs
def Iv(te:TE):TS:=fun D σ H=>te σ H D.rt
theorem fL(he:PE X e te):PS X (.Return (some e) pos) (Iv te):=by
 intro pins s σ H D I h;exact wpAny_Return_some (thn (he pins s σ H _ I h) fun v s1 ⟨x,H1,I1,r1,q1⟩=>⟨x,σ,H1,I1,r1,q1⟩)
def Cn:TS:=fun D _ H=>D.rt .non H
theorem yr:PS X (.Return none pos) Cn:=fun _ _ σ H _ I h=>wpAny_Return_none ⟨.non,σ,H,I,rfl,h⟩
def Iw(c:TT)(t u:TS):TS:=fun D σ H=>c σ H fun b H1=>if b=true then t D σ H1 else u D σ H1
theorem pO{c:Expr}{a b:List Stmt}{tc:TT}(hc:PT X c tc)(ha:PSs X a t)(hb:PSs X b u):PS X (.If c a b pos) (Iw tc t u):=by
 intro pins s σ H D I h;refine wpAny_If (thn (hc pins s σ H _ I h) fun d s1 ⟨H1,I1,q1⟩=>?_);cases d with
 |true=>exact ha pins s1 σ H1 D I1 q1
 |false=>exact hb pins s1 σ H1 D I1 q1
def Dz:TS:=fun _ _ _=>False
theorem t6:PS X st Dz:=fun _ _ _ _ _ _ h=>h.elim
end
abbrev TG:=V->St->Hp->(St->Hp->Prop)->Prop
abbrev TGs:=List V->St->Hp->(St->Hp->Prop)->Prop
def PG(X:Cx)(target:Expr)(t:TG):Prop:=
 ∀ (pins:List (Addr × Obj)) (s:Shared) (σ:St) (H:Hp) (v:V) (u:Value) (Q:St->Hp->Prop),Inv X pins σ H s->aq v u->t v σ H Q ->
  wpAny (model X.prog X.w) X.A (assign target X.env u) (fun _ s'=>∃σ' H',Inv X pins σ' H' s'/\Q σ' H') X.xe s
def PGs(X:Cx)(ts:List Expr)(t:TGs):Prop:=
 ∀ (pins:List (Addr × Obj)) (s:Shared) (σ:St) (H:Hp) (vs:List V) (us:List Value) (Q:St->Hp->Prop),Inv X pins σ H s->ax vs us->t vs σ H Q ->
  wpAny (model X.prog X.w) X.A (Vh ((Vg ts X.env).map (·.2)) us) (fun _ s'=>∃σ' H',Inv X pins σ' H' s'/\Q σ' H') X.xe s
abbrev yt:=V->V->V->Hp->(Hp->Prop)->Prop
def DA(X:Cx)(t:yt):Prop:=
 ∀ (pins:List (Addr × Obj)) (s:Shared) (σ:St) (H:Hp) (o i v:V) (ov iv u:Value) (Q:Hp->Prop),Inv X pins σ H s->aq o ov->aq i iv->aq v u->t o i v H Q ->
  wpAny (model X.prog X.w) X.A (setItem ov iv u) (fun _ s'=>∃H',Inv X pins σ H' s'/\Q H') X.xe s
section
variable {X:Cx} {pos:Pos}
def jq(i:Nat):TG:=fun v σ H Q=>Q (σ.set i (some v)) H
theorem pP{i:Nat}(hN:X.N.Nodup)(hi:X.N[i]?=some x)(hx:Loc X.env.scope x)(hf:X.fn x=true\/X.env.scope.names.lookup x=some .local:=by first |exact .inl rfl |exact .inr rfl |assumption):PG X (.Name x pos) (jq i):=by
 intro pins s σ H v u Q I r h;exact wpAny_assign_Name (bF I hN hi hx r (fun s' I'=>⟨_,H,I',h⟩) hf)
def DB:TGs:=fun vs σ H Q=>vs=[]/\Q σ H
def pQ(t:TG)(u:TGs):TGs:=fun vs σ H Q=>∃v r,vs=v::r/\t v σ H fun σ' H'=>u r σ' H' Q
theorem pR:PGs X [] DB:=by
 intro pins s σ H vs us Q I r h;obtain⟨e,h⟩:=h;subst e;cases r;exact assignInOrder_nil ⟨σ,H,I,h⟩
theorem gZ{e:Expr}{es:List Expr}{t:TG}{u:TGs}(h1:PG X e t)(h2:PGs X es u)
  (hs:(Vg (e::es) X.env).map (·.2)=assign e X.env::(Vg es X.env).map (·.2):=by rfl):PGs X (e::es) (pQ t u):=by
 intro pins s σ H vs us Q I r h;obtain⟨v,vr,e1,h⟩:=h;subst e1;cases r with
 |cons r rr=>
  rw[hs];refine assignInOrder_cons (thn (h1 pins s σ H _ _ _ I r h) fun _ s1 ⟨σ1,H1,I1,q1⟩=>?_);exact h2 pins s1 σ1 H1 _ _ Q I1 rr q1
def DC(K:WN)(n:Nat)(t:TGs):TG:=fun v σ H Q=>∃a xs,v = .ref a/\SqT K H a xs/\xs.length=n/\t xs σ H Q
theorem t7{k:Nat}{n:Nat}(hc:X.calm=true)(h:PGs X es t)
  (hn:(Vg es X.env).length=n:=by rfl) (hst:(Vg es X.env).findIdx? (·.1)=none:=by rfl):PG X (.Tuple es k pos) (DC X.K n t):=by
 intro pins s σ H v u Q I r hw;obtain⟨a,xs,e1,hq,hl,hw⟩:=hw;subst e1;cases r;obtain⟨its,rv,ht,hz⟩:=I.tuple hq;refine assign_Tuple_tuple (I.ok.hd hc) ht (by simp[hn,<-hl,rv.length]) hst fun h' hx=>?_;have I1:Inv X pins σ H { s with heap:=h' }:=I.kept (t':=s.toks) fun b o e=>hx b o (Zl (Zj e)) e;exact h pins _ σ H xs _ Q I1 (by simpa using rv) hw
def t9(to ti:TE)(t:yt):TG:=fun v σ H Q=>to σ H fun o H1=>ti σ H1 fun i H2=>t o i v H2 fun H3=>Q σ H3
theorem nu{o i:Expr}{to ti:TE}{t:yt}(ho:PE X o to)(hi:PE X i ti)(hs:DA X t)
  (ha:∀v,assign (.Subscript o i pos) X.env v=(do
   let ov <-holding [v] (eval o X.env)
   let iv <-holding [v,ov] (eval i X.env)
   standAt pos
   holding [v,ov,iv] (setItem ov iv v)
   release [v,ov,iv] []):=by intro _;rfl):PG X (.Subscript o i pos) (t9 to ti t):=by
 intro pins s σ H v u Q I r h;rw[ha];refine Ur (UB (thn (ho pins s σ H _ I h) fun ov s1 ⟨x,H1,I1,r1,q1⟩=>?_));refine Ur (UB (thn (hi pins s1 σ H1 _ I1 q1) fun iv s2 ⟨y,H2,I2,r2,q2⟩=>?_));refine Ur (UX (Ur (UB (thn (hs pins s2 σ H2 x y v ov iv u _ I2 r1 r2 r q2) fun _ s3 ⟨H3,I3,q3⟩=>?_))));exact wpAny_release ⟨σ,H3,I3,q3⟩
def rh(te:TE)(g:TG):TS:=fun D σ H=>te σ H fun x H1=>g x σ H1 D.nx
theorem fM{tg e:Expr}{te:TE}{g:TG}(he:PE X e te)(hg:PG X tg g)(hs:Uh [tg] e pos.line X.env=pure false:=by rfl)(hw:Uf [tg] e X.env=pure none:=by rfl)
  (h1:(Vg [tg] X.env).map (·.2)=[assign tg X.env]:=by rfl):PS X (.Assign [tg] e pos) (rh te g):=by
 intro pins s σ H D I h;refine wpAny_Assign_stores (thn (he pins s σ H _ I h) fun v s1 ⟨x,H1,I1,r1,q1⟩=>?_) hs hw;rw[h1];exact thn (hg pins s1 σ H1 x v _ I1 r1 q1) fun _ s2 q=>q
theorem DD{i:Nat}{x:Str}{e:Expr}{te:TE}{pos':Pos}(hN:X.N.Nodup)(hi:X.N[i]?=some x)(hx:Loc X.env.scope x)(he:PE X e te)(hs:Ug e (some (.Name x pos')) pos.line X.env=pure false:=by rfl)(hf:X.fn x=true\/X.env.scope.names.lookup x=some .local:=by first |exact .inl rfl |exact .inr rfl |assumption) :
  PS X (.Assign [.Name x pos'] e pos) (rh te (jq i)):=by
 intro pins s σ H D I h;refine wpAny_Assign_Name (thn (he pins s σ H _ I h) fun v s1 ⟨y,H1,I1,r1,q1⟩=>?_) hs;exact bF I1 hN hi hx r1 (fun s2 I2=>⟨_,H1,I2,q1⟩) hf
def Ix(i j:Nat)(ta:TA):TS:=fun D σ H=>ta σ H fun vs H1=>∃v w,vs=[v,w]/\D.nx ((σ.set i (some v)).set j (some w)) H1
theorem DE{i j:Nat}{x y:Str}{a b:Expr}{ta:TA}{px py pt:Pos}{kt k2 pt2}(hc:X.calm=true)(hN:X.N.Nodup)(hi:X.N[i]?=some x)(hj:X.N[j]?=some y)(hij:i ≠ j)
  (hx:X.env.scope.names.lookup x=some .local) (hy:X.env.scope.names.lookup y=some .local) (ha:PA X [a,b] ta)
  (hw:Uf [.Tuple [.Name x px,.Name y py] kt pt] (.Tuple [a,b] k2 pt2) X.env=pure (some [x,y]))
  (hs:Uh [.Tuple [.Name x px,.Name y py] kt pt] (.Tuple [a,b] k2 pt2) pos.line X.env=pure false:=by rfl) :
  PS X (.Assign [.Tuple [.Name x px,.Name y py] kt pt] (.Tuple [a,b] k2 pt2) pos) (Ix i j ta):=by
 intro pins s σ H D I h;rw[exec_Assign_arm];refine Ur (UX ?_);rw[hs];refine Ur (UO ?_);rw[if_neg (by decide)];refine Ur (Tuple_ (thn (ha _ pins s σ H _ I h) fun us s1 ⟨vs,H1,I1,r1,q1⟩=>?_));obtain⟨v,w,e1,q1⟩:=q1;subst e1
 obtain⟨u1,u2,rfl,rv,rw'⟩:∃u1 u2,us=[u1,u2]/\aq v u1/\aq w u2:=by
  cases r1 with
  |cons p q=>
   cases q with
   |cons p' q'=>
    cases q';exact⟨_,_,rfl,p,p'⟩
 refine UL ?_ (by show 2<=sizeLine;decide);have I2:Inv X pins σ H1 { s1 with heap:=s1.heap.push { cls:=.type "tuple", data:=.seq [u1,u2].toArray } }:=I1.kept (t':=s1.toks) fun b o e=>Za _ e;rw[hw];refine Ur (UO ?_);show wpAny (model X.prog X.w) X.A (do rule "assign.swapped-stores"; let items <-unpackItems (.ref s1.heap.objs.size) 2 none;Vh [fun v=>Vn X.env y v,fun v=>Vn X.env x v] items.reverse;pure Flow.next) _ _ _;refine Ur (UU (Ur (unpackItems_tuple (items:=#[u1,u2]) (I.ok.hd hc) (IsTup.new s1.heap _) fun h' hx'=>?_)));have I3:=I2.kept (h':=h') (t':=s1.toks) fun b o e=>hx' b o (Zl (Zj e)) e;show wpAny _ _ (Vh [fun v=>Vn X.env y v,fun v=>Vn X.env x v] [u2,u1] >>= fun _=>pure Flow.next) _ _ _;refine Ur (assignInOrder_cons (Us (bF I3 hN hj (.inl hy) rw' (fun s2 I4=>?_) (.inr hy))));refine assignInOrder_cons (Us (bF I4 hN hi (.inl hx) rv (fun s3 I5=>assignInOrder_nil (UO ?_)) (.inr hx)));rw[YI _ _ (Ne.symm hij)] at I5;exact⟨_,H1,I5,q1⟩
end
section
variable {X:Cx} {pos:Pos}
def ua(c:TT)(tb:TS):TS:=fun D σ H=>∃W:Nat->St->Hp->Prop,(∃m,W m σ H)/\∀m σ H,W m σ H ->
 c σ H fun b H1=>if b=true then ∃N:St->Hp->Prop,(∀σ' H',N σ' H'->∃m',m' < m/\W m' σ' H')/\tb { D with nx:=N,ct:=N,bk:=D.nx } σ H1 else D.nx σ H1
theorem ub(hp:PassesOwn (model X.prog X.w) X.A X.env X.xe)(hc:PT X c tc)(hb:PSs X body tb):PS X (.While c body [] pos) (ua tc tb):=by
 intro pins s σ H D I h;obtain⟨W,⟨m0,w0⟩,turn⟩:=h;refine wpAny_While (codeAny_whileLoop (fun n s'=>∃σ' H',Inv X pins σ' H' s'/\W n σ' H') ?_ m0 ⟨σ,H,I,w0⟩);rintro n s1 ⟨σ1,H1,I1,w1⟩;refine UN hp (thn (hc pins s1 σ1 H1 _ I1 (turn n σ1 H1 w1)) fun b s2 ⟨H2,I2,q2⟩=>?_);cases b with
 |true=>
  obtain⟨N,hN,q2⟩:=q2;rw[if_pos rfl];refine UN hp (thn (hb pins s2 σ1 H2 _ I2 q2) fun f s3 q3=>?_);cases f with
  |next=>
   obtain⟨σ3,H3,I3,n3⟩:=q3;obtain⟨m',hm,w3⟩:=hN σ3 H3 n3;exact⟨m',hm,σ3,H3,I3,w3⟩
  |cont=>
   obtain⟨σ3,H3,I3,n3⟩:=q3;obtain⟨m',hm,w3⟩:=hN σ3 H3 n3;exact⟨m',hm,σ3,H3,I3,w3⟩
  |brk=>exact q3
  |ret v=>exact q3
 |false=>
  rw[if_neg Zb];exact Uz ⟨σ1,H2,I2,q2⟩
end
structure It where
 go:Nat->Hp->Prop
 yld:Nat->Hp->V->Hp->Prop
 stop:Nat->Hp->Prop
def dg(X:Cx)(pins:List (Addr × Obj))(H:Hp)(b:Addr):Prop:=
 H b=none/\b ≠ X.env.locals/\b ∉ X.fs/\(b ∈ X.ex\/X.s₀.heap.objs.size<=b)/\(∀x c,X.env.cells.lookup x=some c->c ≠ b)/\∀p ∈ X.pn++pins,p.1 ≠ b
theorem Inv.fpOk(I:Inv X pins σ H s)(hb:s.heap.objs.size<=b)(hn:H' b=none):dg X pins H' b:=by
 refine⟨hn,Yj (Zo I.lt hb),I.nofs hb,.inr (Zv I.sz hb),fun x c e z=>?_,fun p hp z=>?_⟩
 ·obtain⟨v,q⟩:=I.cell x c e;exact absurd (Zo q.lt (by rw[z];exact hb)) (ZF _)
 ·exact absurd (Zo (Zj (I.pin p hp).1) (by rw[z];exact hb)) (ZF _)
structure Turn(P:Program)(w:World)(K:WN)(tg:Expr)(J:It)(fp:List Addr)(it:Addr)(tn:Nat->Heap->Prop):Prop where
 mem:it ∈ fp
 obj:∀i h,tn i h->∀b ∈ fp,∃o,h.get? b=some o/\∀v,o.data ≠ .cell v
 keep:∀i h h',tn i h->(∀b ∈ fp,∀o,h.get? b=some o->h'.get? b=some o)->tn i h'
 item:∀ (X:Cx),X.prog=P->X.w=w->X.K=K->X.calm=true->∀ (i:Nat) (pins:List (Addr × Obj)) (s:Shared) (σ:St) (H:Hp) (E:Value->Shared->Prop),Inv X pins σ H s->(∀b ∈ fp,dg X pins H b)->tn i s.heap->J.go i H ->
  wpAny (model P w) X.A (pyNext (.ref it)) (fun r s1=>∃u,r=some u ∧
   wpAny (model P w) X.A (VP tg (.ref it) u) (fun _ s2=>∃x H',Inv X pins σ H' s2/\aq x u/\J.yld i H x H'/\tn (i+1) s2.heap/\∀b ∈ fp,H' b=none) E s1) E s
 done:∀ (X:Cx),X.prog=P->X.w=w->X.K=K->X.calm=true->∀ (i:Nat) (pins:List (Addr × Obj)) (s:Shared) (σ:St) (H:Hp) (E:Value->Shared->Prop),Inv X pins σ H s->(∀b ∈ fp,dg X pins H b)->tn i s.heap->J.stop i H ->
  wpAny (model P w) X.A (pyNext (.ref it)) (fun r s1=>r=none/\Inv X pins σ H s1) E s
 self:∀ (A:Around) (i:Nat) (s:Shared) (Q:Value->Shared->Prop) (E:Value->Shared->Prop),tn i s.heap->Q (.ref it) s->wpAny (model P w) A (pyIter (.ref it)) Q E s
abbrev TI:=St->Hp->(It->Hp->Prop)->Prop
def PIE(X:Cx)(pins:List (Addr × Obj))(σ:St)(tg:Expr)(R:It->Hp->Prop)(itv:Value)(s2:Shared):Prop:=
 ∃ (it:Addr) (fp:List Addr) (tn:Nat->Heap->Prop) (J:It) (H':Hp),itv = .ref it/\Inv X pins σ H' s2/\Turn X.prog X.w X.K tg J fp it tn/\tn 0 s2.heap/\(∀b ∈ fp,dg X pins H' b)/\R J H'
def PI(X:Cx)(tg iter:Expr)(wi:TI):Prop:=
 ∀ (pins:List (Addr × Obj)) (s:Shared) (σ:St) (H:Hp) (R:It->Hp->Prop),Inv X pins σ H s->wi σ H R ->
  wpAny (model X.prog X.w) X.A (eval iter X.env) (fun v s1=>wpAny (model X.prog X.w) X.A (pyIter v) (PIE X pins σ tg R) X.xe s1) X.xe s
theorem uc(ho:s.heap.get? it=some o)(hc:o.cls = .type n)(hd:o.data = .fields vs)
  (hn:["enumerate", "zip", "dict_itemiterator", "dict_reverseitemiterator", "odict_iterator", "itertools.zip_longest", "itertools.pairwise"].contains n=false) (hQ:Q () s):wpAny M A (VP tg (.ref it) u) Q E s:=by
 unfold VP
 cases tg <;> first
  |exact UO hQ
  | (cases u <;> first
    |exact UO hQ
    | (refine Ur (wpAny_load ho ?_)
       rw[hc,hd];show wpAny M A (if (["enumerate", "zip", "dict_itemiterator", "dict_reverseitemiterator", "odict_iterator", "itertools.zip_longest", "itertools.pairwise"].contains n && vs[0]? == some (rawInt _))=true then _ else _) Q E s;rw[if_neg (by intro h;rw[hn,Bool.false_and] at h;cases h)];exact UO hQ))
noncomputable def Itl(K:WN)(a:Addr):It:=
 ⟨fun i H=>∃xs x,SqL K H a xs/\xs[i]?=some x,fun i H x H'=>H'=H/\∀xs,SqL K H a xs->xs[i]?=some x,fun i H=>∃xs,SqL K H a xs/\xs.length<=i⟩
noncomputable def Itt(K:WN)(a:Addr):It:=
 ⟨fun i H=>∃xs x,SqT K H a xs/\xs[i]?=some x,fun i H x H'=>H'=H/\∀xs,SqT K H a xs->xs[i]?=some x,fun i H=>∃xs,SqT K H a xs/\xs.length<=i⟩
noncomputable def Itr(lo:Int)(n:Nat):It:=⟨fun i _=>i < n,fun i H x H'=>H'=H/\x = .int (lo+i),fun i _=>n<=i⟩
theorem rj{P:Program}{w:World}{K:WN}{tg:Expr}(a it:Addr):Turn P w K tg (Itl K a) [it] it (fun i h=>h.IsListIter it a i) where
 mem:=by simp
 obj:=fun i h st b hb=>by
  have e:b=it:=by simpa using hb
  subst e;obtain⟨o,e,c,d⟩:=st;exact⟨o,e,fun v z=>by rw[d] at z;cases z⟩
 keep:=fun i h h' st k=>st.at fun o e=>k it (by simp) o e
 item:=by
  intro X hP hw hK hc i pins s σ H E I hf st hg;subst hP hw hK;obtain⟨xs,x,hq,hx⟩:=hg;obtain⟨its,rv,p,hz⟩:=I.list hq;obtain⟨u,hu,ru⟩:=rv.get hx;obtain⟨f0,f1,f2,f3,f4,f5⟩:=hf it (by simp);refine wpAny_pyNext_list_item st p.isList (x:=u) (by simpa using hu) fun h' st' sb=>?_;have I1:Inv X pins σ H { s with heap:=h' }:=I.turned (t':=s.toks) (fun b o hb e=>(sb.2 b hb).trans e) f0 f1 f3 f4 f5;obtain⟨o,e,c,d⟩:=id st';exact⟨u,rfl,uc (s:={ s with heap:=h' }) e c d (by decide) ⟨x,H,I1,ru,⟨rfl,fun ys hy=>by rw[I.list_inj hy hq];exact hx⟩,st',fun b hb=>(hf b hb).1⟩⟩
 done:=by
  intro X hP hw hK hc i pins s σ H E I hf st hg;subst hP hw hK;obtain⟨xs,hq,hx⟩:=hg;obtain⟨its,rv,p,hz⟩:=I.list hq;obtain⟨f0,f1,f2,f3,f4,f5⟩:=hf it (by simp);have hl:=rv.length;exact wpAny_pyNext_list_end (I.ok.hd hc) st p.isList (by simp;lia) fun h' eb=>⟨rfl,I.turned (t':=s.toks) (fun b o hb e=>eb b o hb e) f0 f1 f3 f4 f5⟩
 self:=fun _ _ _ _ _ st h=>wpAny_pyIter_listiter st h
theorem nv{P:Program}{w:World}{K:WN}{tg:Expr}(a it:Addr):Turn P w K tg (Itt K a) [it] it (fun i h=>h.IsTupleIter it a i) where
 mem:=by simp
 obj:=fun i h st b hb=>by
  have e:b=it:=by simpa using hb
  subst e;obtain⟨o,e,c,d⟩:=st;exact⟨o,e,fun v z=>by rw[d] at z;cases z⟩
 keep:=fun i h h' st k=>st.at fun o e=>k it (by simp) o e
 item:=by
  intro X hP hw hK hc i pins s σ H E I hf st hg;subst hP hw hK;obtain⟨xs,x,hq,hx⟩:=hg;obtain⟨its,rv,p,hz⟩:=I.tuple hq;obtain⟨u,hu,ru⟩:=rv.get hx;obtain⟨f0,f1,f2,f3,f4,f5⟩:=hf it (by simp);refine wpAny_pyNext_tuple_item st (show s.heap.IsTuple a its.toArray from p) (x:=u) (by simpa using hu) fun h' st' sb=>?_;have I1:Inv X pins σ H { s with heap:=h' }:=I.turned (t':=s.toks) (fun b o hb e=>(sb.2 b hb).trans e) f0 f1 f3 f4 f5;obtain⟨o,e,c,d⟩:=id st';exact⟨u,rfl,uc (s:={ s with heap:=h' }) e c d (by decide) ⟨x,H,I1,ru,⟨rfl,fun ys hy=>by rw[I.tuple_inj hy hq];exact hx⟩,st',fun b hb=>(hf b hb).1⟩⟩
 done:=by
  intro X hP hw hK hc i pins s σ H E I hf st hg;subst hP hw hK;obtain⟨xs,hq,hx⟩:=hg;obtain⟨its,rv,p,hz⟩:=I.tuple hq;obtain⟨f0,f1,f2,f3,f4,f5⟩:=hf it (by simp);have hl:=rv.length;exact wpAny_pyNext_tuple_end (I.ok.hd hc) st (show s.heap.IsTuple a its.toArray from p) (by simp;lia) fun h' eb=>⟨rfl,I.turned (t':=s.toks) (fun b o hb e=>eb b o hb e) f0 f1 f3 f4 f5⟩
 self:=fun _ _ _ _ _ st h=>wpAny_pyIter_tupleiter st h
theorem ny{P:Program}{w:World}{K:WN}{tg:Expr}(it:Addr)(lo:Int)(n:Nat):Turn P w K tg (Itr lo n) [it] it (fun i h=>IsRangeIter h it (lo+(i:Nat) * 1) ((n:Int) - (i:Nat)) 1) where
 mem:=by simp
 obj:=fun i h st b hb=>by
  have e:b=it:=by simpa using hb
  subst e
  exact⟨_,st,fun v z=>by
   have z':Data.fields _=Data.cell v:=z;cases z'⟩
 keep:=fun i h h' st k=>k it (by simp) _ st
 item:=by
  intro X hP hw hK hc i pins s σ H E I hf st hg;subst hP hw hK;obtain⟨f0,f1,f2,f3,f4,f5⟩:=hf it (by simp);have W:=Walks.range (prog:=X.prog) (w:=X.w) (I.ok.hd hc) it lo 1 n;refine W.item i s _ _ hg st fun v h' tk hv st' kk=>?_;obtain⟨t,rfl⟩:=hv;have I1:Inv X pins σ H { s with heap:=h',toks:=tk }:=I.turned (fun b o hb e=>kk b o (by simpa using hb) e) f0 f1 f3 f4 f5;refine⟨_,rfl,uc (s:={ s with heap:=h',toks:=tk }) (n := "range_iterator") st' rfl rfl (by decide) ⟨.int (lo+i),H,I1,⟨t,?_⟩,⟨rfl,rfl⟩,st',fun b hb=>(hf b hb).1⟩⟩;rw[Int.mul_one]
 done:=by
  intro X hP hw hK hc i pins s σ H E I hf st hg;subst hP hw hK;obtain⟨f0,f1,f2,f3,f4,f5⟩:=hf it (by simp);exact wpAny_pyNext_range_end (I.ok.hd hc) st (by have:n<=i:=hg;lia) fun h' eb=>⟨rfl,I.turned (t':=s.toks) (fun b o hb e=>eb b o hb e) f0 f1 f3 f4 f5⟩
 self:=fun _ _ _ _ _ st h=>wpAny_pyIter_rangeiter st h
section
variable {X:Cx} {tg:Expr}
def ud(K:WN)(tl:TE):TI:=fun σ H R=>tl σ H fun x H1=>∃a,x = .ref a/\(∃xs,SqL K H1 a xs)/\R (Itl K a) H1
def Iy(K:WN)(tl:TE):TI:=fun σ H R=>tl σ H fun x H1=>∃a,x = .ref a/\(∃xs,SqT K H1 a xs)/\R (Itt K a) H1
theorem pS{l:Expr}{tl:TE}(hl:PE X l tl):PI X tg l (ud X.K tl):=by
 intro pins s σ H R I h;refine thn (hl pins s σ H _ I h) fun v s1 ⟨x,H1,I1,r1,q1⟩=>?_;obtain⟨a,e,⟨xs,hq⟩,q⟩:=q1;subst e;cases r1;obtain⟨its,rv,p,hz⟩:=I1.list hq;refine UQ p.isList ?_;refine⟨s1.heap.objs.size,[s1.heap.objs.size],_,_,H1,rfl,I1.kept (t':=s1.toks) fun b o e=>Za _ e,rj a _,⟨_,Zp _ rfl,rfl,rfl⟩,fun b hb=>?_,q⟩;have e:b=s1.heap.objs.size:=by simpa using hb
 subst e;exact I1.fpOk (Zh _) (I1.hok.fresh (Zh _))
theorem DF{l:Expr}{tl:TE}(hl:PE X l tl):PI X tg l (Iy X.K tl):=by
 intro pins s σ H R I h;refine thn (hl pins s σ H _ I h) fun v s1 ⟨x,H1,I1,r1,q1⟩=>?_;obtain⟨a,e,⟨xs,hq⟩,q⟩:=q1;subst e;cases r1;obtain⟨its,rv,p,hz⟩:=I1.tuple hq;refine UR (show s1.heap.IsTuple a its.toArray from p) ?_;refine⟨s1.heap.objs.size,[s1.heap.objs.size],_,_,H1,rfl,I1.kept (t':=s1.toks) fun b o e=>Za _ e,nv a _,⟨_,Zp _ rfl,rfl,rfl⟩,fun b hb=>?_,q⟩;have e:b=s1.heap.objs.size:=by simpa using hb
 subst e;exact I1.fpOk (Zh _) (I1.hok.fresh (Zh _))
theorem lm{lo hi:Int}{tk:Nat}(I:Inv X pins σ H s)(h1:-(2 ^ 62)<=lo)(h2:lo < 2 ^ 62)(h3:-(2 ^ 62)<=hi)(h4:hi < 2 ^ 62)
  (q:R (Itr lo (hi - lo).toNat) H):wpAny (model X.prog X.w) X.A (pyIter (.ref s.heap.objs.size)) (PIE X pins σ tg R) E { s with heap:=s.heap.push { cls:=.type "range", data:=.fields #[.int lo t,.int hi u,.int 1 v] },toks:=tk }:=by
 refine wpAny_pyIter_range (IsRange.new ..) (small_one h1 h2 h3 h4) ?_;have I1:Inv X pins σ H { s with heap:=s.heap.push { cls:=.type "range", data:=.fields #[.int lo t,.int hi u,.int 1 v] },toks:=tk }:=I.kept fun b o e=>Za _ e
 refine⟨(s.heap.push { cls:=.type "range", data:=.fields #[.int lo t,.int hi u,.int 1 v] }).objs.size,[(s.heap.push { cls:=.type "range", data:=.fields #[.int lo t,.int hi u,.int 1 v] }).objs.size],_,_,H,rfl,
  I1.kept (t':=tk) fun b o e=>Za _ e,ny _ lo (hi - lo).toNat,?_,fun b hb=>?_,q⟩
 ·have e1:lo+((0:Nat):Int) * 1=lo:=by simp
  have e2:(((hi - lo).toNat:Nat):Int) - ((0:Nat):Int)=Builtin.Range.rangeSize lo hi 1:=by rw[V5];split <;> lia
  show IsRangeIter _ _ (lo+((0:Nat):Int) * 1) ((((hi - lo).toNat:Nat):Int) - ((0:Nat):Int)) 1;rw[e1,e2];exact Zp _ rfl
 ·have e:b=(s.heap.push { cls:=.type "range", data:=.fields #[.int lo t,.int hi u,.int 1 v] }).objs.size:=by simpa using hb
  subst e;exact I1.fpOk (Zh _) (I1.hok.fresh (Zh _))
def Co(ta:TA):TI:=fun σ H R=>ta σ H fun vs H1=>∃j:Int,vs=[.int j]/\-(2 ^ 62)<=j/\j < 2 ^ 62/\R (Itr 0 j.toNat) H1
def Cp(ta:TA):TI:=fun σ H R=>ta σ H fun vs H1=>∃i j:Int,vs=[.int i,.int j]/\(-(2 ^ 62)<=i/\i < 2 ^ 62/\-(2 ^ 62)<=j/\j < 2 ^ 62)/\R (Itr i (j - i).toNat) H1
theorem rl(hg:Gl X "range")(hm:X.mg "range" = none)(ha:PA X [a] ta)(hs:Ue [a] X.env=[(false,eval a X.env)]:=by rfl):PI X tg (.Call (.Name "range" p) [a] [] pos) (Co ta):=by
 intro pins s σ H R I h;refine Call_ (cP I hg hm boot_range (XV (thn (ha pos pins s σ H _ I h) fun us s1 ⟨vs,H1,I1,r1,q1⟩=>?_) hs rfl));obtain⟨j,e,q1,q2,q⟩:=q1;subst e;cases r1 with
 |cons r rr=>
  cases rr;obtain⟨t,rfl⟩:=r;exact call_range_1 (lm I1 (by lia) (by lia) q1 q2 (by simpa using q))
theorem rm(hg:Gl X "range")(hm:X.mg "range" = none)(ha:PA X [a,b] ta)(hs:Ue [a,b] X.env=[(false,eval a X.env),(false,eval b X.env)]:=by rfl)(hs2:Ue [b] X.env=[(false,eval b X.env)]:=by rfl) :
  PI X tg (.Call (.Name "range" p) [a,b] [] pos) (Cp ta):=by
 intro pins s σ H R I h;refine Call_ (cP I hg hm boot_range (XV (thn (ha pos pins s σ H _ I h) fun us s1 ⟨vs,H1,I1,r1,q1⟩=>?_) (by rw[hs,hs2]) (by rw[hs2];rfl)));obtain⟨i,j,e,⟨q1,q2,q3,q4⟩,q⟩:=q1;subst e;cases r1 with
 |cons r rr=>
  cases rr with
  |cons r' rr=>
   cases rr;obtain⟨t,rfl⟩:=r;obtain⟨t',rfl⟩:=r';exact call_range_2 (lm I1 q1 q2 q3 q4 q)
def Iz(wi:TI)(g:TG)(tb:TS):TS:=fun D σ H=>wi σ H fun J H1=>∃W:Nat->Nat->St->Hp->Prop,(∃m,W 0 m σ H1)/\∀i m σ H,W i m σ H ->
 (J.stop i H/\D.nx σ H)\/(J.go i H/\∃N:St->Hp->Prop,(∀σ' H',N σ' H'->∃m',m' < m/\W (i+1) m' σ' H')/\∀x H',J.yld i H x H'->g x σ H' fun σ2 H2=>tb { D with nx:=N,ct:=N,bk:=D.nx } σ2 H2)
noncomputable def g0(fp:List Addr)(h:Heap):List (Addr × Obj):=fp.filterMap fun b=>(h.get? b).map fun o=>(b,o)
theorem cQ(hb:b ∈ fp)(e:h.get? b=some o):(b,o) ∈ g0 fp h:=ZZ.mpr ⟨b,hb,by rw[e];rfl⟩
theorem rq(hp:p ∈ g0 fp h):p.1 ∈ fp/\h.get? p.1=some p.2:=by
 obtain⟨b,hb,e⟩:=ZZ.mp hp;cases q:h.get? b with
 |none=>rw[q] at e;cases e
 |some o=>
  rw[q] at e;have e':(b,o)=p:=Option.some.inj e;subst e';exact⟨hb,q⟩
theorem Inv.pinned(I:Inv X pins σ H s)(hf:∀b ∈ fp,dg X pins H b)(ho:∀b ∈ fp,∃o,s.heap.get? b=some o/\∀v,o.data ≠ .cell v):Inv X (pins++g0 fp s.heap) σ H s:=
 I.pins_of fun p hp=>(ZK.mp hp).elim (fun z=>I.pin p (Zr _ z)) fun z=>by
  obtain⟨hb,e⟩:=rq z;obtain⟨f0,f1,f2,_⟩:=hf p.1 hb;obtain⟨o,e',d⟩:=ho p.1 hb;rw[e] at e';cases e';exact⟨e,f0,f1,f2,d⟩
theorem Inv.unpinned(I:Inv X (pins++pl) σ H s):Inv X pins σ H s:=I.pins_of fun p hp=>I.pin p (Zr _ (ZL _ hp))
theorem DG(hp:PassesOwn (model X.prog X.w) X.A X.env X.xe)(hc:X.calm=true)(hi:PI X tg iter wi)(hg:PG X tg g)(hb:PSs X body tb)
  (hs:∀x,VH iter X.env x=pure x:=by intro _;rfl):PS X (.For tg iter body [] pos) (Iz wi g tb):=by
 intro pins s σ H D I h;refine wpAny_For (thn (hi pins s σ H _ I h) fun v s1 h1=>thn h1 fun itv s2 h2=>?_) hs;obtain⟨it,fp,tn,J,H2,e,I2,T,st2,f2,W,⟨m0,w0⟩,turn⟩:=h2;subst e;have stat:∀ {H':Hp},(∀b ∈ fp,H' b=none)->∀b ∈ fp,dg X pins H' b:=fun hn b hb=>⟨hn b hb,(f2 b hb).2⟩;refine codeAny_forLoop_any (fun n s'=>∃i σ' H',Inv X pins σ' H' s'/\tn i s'.heap/\(∀b ∈ fp,H' b=none)/\W i n σ' H') ?_ m0 ⟨0,σ,H2,I2,st2,fun b hb=>(f2 b hb).1,w0⟩;rintro n s3 ⟨i,σ3,H3,I3,st3,fr3,w3⟩;rcases turn i n σ3 H3 w3 with ⟨stop,qn⟩ |⟨go,N,hN,step⟩
 ·refine UN hp (thn (T.done X rfl rfl rfl hc i pins s3 σ3 H3 X.xe I3 (stat fr3) st3 stop) fun r s4 ⟨hr,I4⟩=>?_);subst hr;exact Uz ⟨σ3,H3,I4,qn⟩
 ·refine UN hp (thn (T.item X rfl rfl rfl hc i pins s3 σ3 H3 X.xe I3 (stat fr3) st3 go) fun r s4 ⟨u,hr,h4⟩=>?_);subst hr;refine UN hp (thn h4 fun _ s5 ⟨x,H5,I5,r5,y5,st5,fr5⟩=>?_);have I5':=I5.pinned (stat fr5) (T.obj _ _ st5);refine UN hp (thn (hg _ s5 σ3 H5 x u _ I5' r5 (step x H5 y5)) fun _ s6 ⟨σ6,H6,I6,q6⟩=>?_);refine UN hp (thn (hb _ s6 σ6 H6 _ I6 q6) fun f s7 q7=>?_)
  have again:∀ {σ7:St} {H7:Hp},Inv X (pins++g0 fp s5.heap) σ7 H7 s7->N σ7 H7->∃m,m < n/\∃i σ' H',Inv X pins σ' H' s7/\tn i s7.heap/\(∀b ∈ fp,H' b=none)/\W i m σ' H':=fun {σ7 H7} I7 n7=>by
   obtain⟨m',hm,w7⟩:=hN σ7 H7 n7;refine⟨m',hm,i+1,σ7,H7,I7.unpinned,T.keep _ _ _ st5 fun b hb o e=>(I7.pin (b,o) (Zr _ (Zr _ (cQ hb e)))).1,fun b hb=>?_,w7⟩;obtain⟨o,e,d⟩:=T.obj _ _ st5 b hb;exact(I7.pin (b,o) (Zr _ (Zr _ (cQ hb e)))).2.1
  cases f with
  |next=>obtain⟨σ7,H7,I7,n7⟩:=q7;exact again I7 n7
  |cont=>obtain⟨σ7,H7,I7,n7⟩:=q7;exact again I7 n7
  |brk=>obtain⟨σ7,H7,I7,q7⟩:=q7;exact⟨σ7,H7,I7.unpinned,q7⟩
  |ret v=>obtain⟨x7,σ7,H7,I7,r7,q7⟩:=q7;exact⟨x7,σ7,H7,I7.unpinned,r7,q7⟩
end
abbrev R2:=V->V->Hp->VK->Prop
def OpR(X:Cx)(f:Value->Value->Sem Value)(r:R2):Prop:=
 ∀ (pins:List (Addr × Obj)) (s:Shared) (σ:St) (H:Hp) (x y:V) (v u:Value) (Q:VK),Inv X pins σ H s->aq x v->aq y u->r x y H Q ->
  wpAny (model X.prog X.w) X.A (f v u) (EP X pins σ Q) X.xe s
def UnR(X:Cx)(f:Value->Sem Value)(r:V->Hp->VK->Prop):Prop:=
 ∀ (pins:List (Addr × Obj)) (s:Shared) (σ:St) (H:Hp) (x:V) (v:Value) (Q:VK),Inv X pins σ H s->aq x v->r x H Q ->
  wpAny (model X.prog X.w) X.A (f v) (EP X pins σ Q) X.xe s
def au(X:Cx)(f:Value)(r:List V->Hp->VK->Prop):Prop:=
 ∀ (pins:List (Addr × Obj)) (s:Shared) (σ:St) (H:Hp) (xs:List V) (us:List Value) (Q:VK),Inv X pins σ H s->ax xs us->r xs H Q ->
  wpAny (model X.prog X.w) X.A (call f us) (EP X pins σ Q) X.xe s
def Lx(X:Cx)(r:V->Hp->(Bool->Hp->Prop)->Prop):Prop:=
 ∀ (pins:List (Addr × Obj)) (s:Shared) (σ:St) (H:Hp) (x:V) (v:Value) (Q:Bool->Hp->Prop),Inv X pins σ H s->aq x v->r x H Q ->
  wpAny (model X.prog X.w) X.A (truthy v) (TP X pins σ Q) X.xe s
def tOp(r:R2)(ta tb:TE):TE:=fun σ H Q=>ta σ H fun x H1=>tb σ H1 fun y H2=>r x y H2 Q
def tUn(r:V->Hp->VK->Prop)(ta:TE):TE:=fun σ H Q=>ta σ H fun x H1=>r x H1 Q
def rI(C:Int->Int->Prop)(g:Int->Int->V):R2:=fun x y H Q=>∃i j,x = .int i/\y = .int j/\C i j/\Q (g i j) H
def rI0(g:Int->Int->V):R2:=fun x y H Q=>∃i j,x = .int i/\y = .int j/\Q (g i j) H
def rU(g:Int->V):V->Hp->VK->Prop:=fun x H Q=>∃i,x = .int i/\Q (g i) H
section
variable {X:Cx} {a b c:Expr} {ta tb tc:TE} {pos:Pos}
theorem DH(ha:PE X a ta)(hb:PE X b tb){pins:List (Addr × Obj)}{s:Shared}{σ:St}{H:Hp}{R:V->V->Hp->Prop}(I:Inv X pins σ H s)
  (h:ta σ H fun x H1=>tb σ H1 fun y H2=>R x y H2) {Q:Value->Shared->Prop} {f:Value->Value->Sem Value}
  (hf:∀v u s2 x y H2,Inv X pins σ H2 s2->aq x v->aq y u->R x y H2->wpAny (model X.prog X.w) X.A (f v u) Q X.xe s2) :
  wpAny (model X.prog X.w) X.A (eval a X.env) (fun v s₁=>wpAny (model X.prog X.w) X.A (eval b X.env) (fun u s₂=>wpAny (model X.prog X.w) X.A (f v u) Q X.xe s₂) X.xe s₁) X.xe s:=by
 refine thn (ha pins s σ H _ I h) fun v s1 ⟨x,H1,I1,r1,q1⟩=>?_;refine thn (hb pins s1 σ H1 _ I1 q1) fun u s2 ⟨y,H2,I2,r2,q2⟩=>?_;exact hf v u s2 x y H2 I2 r1 r2 q2
theorem ue{op:Wv}{r:R2}(ho:OpR X (Vl op) r)(ha:PE X a ta)(hb:PE X b tb):PE X (.BinOp a op b pos) (tOp r ta tb):=by
 intro pins s σ H Q I h;exact wpAny_BinOp (DH ha hb I h fun v u s2 x y H2 I2 rx ry q=>ho pins s2 σ H2 x y v u Q I2 rx ry q)
theorem IA(ho:UnR X (unaryOp op) r)(ha:PE X a ta):PE X (.UnaryOp op a pos) (tUn r ta):=by
 intro pins s σ H Q I h;exact UnaryOp_ (thn (ha pins s σ H _ I h) fun v s1 ⟨x,H1,I1,r1,q1⟩=>ho pins s1 σ H1 x v Q I1 r1 q1)
theorem opI{f:Value->Value->Sem Value}{C:Int->Int->Prop}{g:Int->Int->Int}
  (rule:∀ (i j:Int) (t u:Tok) (s:Shared) (Q:Value->Shared->Prop) (E:Value->Shared->Prop),C i j->Q (.int (g i j) s.toks) { s with toks:=s.toks+1 }->wpAny (model X.prog X.w) X.A (f (.int i t) (.int j u)) Q E s) :
  OpR X f (rI C fun i j=>.int (g i j)):=by
 intro pins s σ H x y v u Q I rx ry h;obtain⟨i,j,rfl,rfl,hc,q⟩:=h;obtain⟨t,rfl⟩:=rx;obtain⟨t',rfl⟩:=ry;exact rule i j t t' s _ _ hc ⟨.int (g i j),H,I.tok _,⟨_,rfl⟩,q⟩
theorem IB{f:Value->Value->Sem Value}{g:Int->Int->Int}
  (rule:∀ (i j:Int) (t u:Tok) (s:Shared) (Q:Value->Shared->Prop) (E:Value->Shared->Prop),Q (.int (g i j) s.toks) { s with toks:=s.toks+1 }->wpAny (model X.prog X.w) X.A (f (.int i t) (.int j u)) Q E s) :
  OpR X f (rI0 fun i j=>.int (g i j)):=by
 intro pins s σ H x y v u Q I rx ry h;obtain⟨i,j,rfl,rfl,q⟩:=h;obtain⟨t,rfl⟩:=rx;obtain⟨t',rfl⟩:=ry;exact rule i j t t' s _ _ ⟨.int (g i j),H,I.tok _,⟨_,rfl⟩,q⟩
theorem yu{f:Value->Value->Sem Value}{g:Int->Int->Bool}
  (rule:∀ (i j:Int) (t u:Tok) (s:Shared) (Q:Value->Shared->Prop) (E:Value->Shared->Prop),Q (.bool (g i j)) s->wpAny (model X.prog X.w) X.A (f (.int i t) (.int j u)) Q E s) :
  OpR X f (rI0 fun i j=>.bl (g i j)):=by
 intro pins s σ H x y v u Q I rx ry h;obtain⟨i,j,rfl,rfl,q⟩:=h;obtain⟨t,rfl⟩:=rx;obtain⟨t',rfl⟩:=ry;exact rule i j t t' s _ _ ⟨.bl (g i j),H,I,rfl,q⟩
def Ly(i j:Int):Prop:=0<=j/\j<=1000000/\i.natAbs < 2 ^ 64
def IC(i j:Int):Prop:=(-(2 ^ 64) < i/\i < 2 ^ 64)\/(-(2 ^ 64) < j/\j < 2 ^ 64)
theorem IC.ok{i j:Int}(h:IC i j):IntMulOk i j:=by
 rcases h with ⟨h1,h2⟩ |⟨h1,h2⟩
 ·exact .of_left (intBits_le_64 h1 h2)
 ·exact .of_right (intBits_le_64 h1 h2)
theorem DI:OpR X (Vl .Add) (rI0 fun i j=>.int (i+j)):=IB fun _ _ _ _ _ _ _ q=>add_int q
theorem DJ:OpR X (Vl .Sub) (rI0 fun i j=>.int (i - j)):=IB fun _ _ _ _ _ _ _ q=>sub_int q
theorem DK:OpR X (Vl .Mult) (rI IC fun i j=>.int (i * j)):=opI fun _ _ _ _ _ _ _ hc q=>mul_int q hc.ok
theorem DM:OpR X (Vl .Mod) (rI (fun _ j=>0 < j) fun i j=>.int (i % j)):=opI fun i j _ _ _ _ _ hc q=>by
 have h1:(0:Int) < j:=hc;exact mod_int' (by lia) (by rw[Int.fmod_eq_emod_of_nonneg i (by lia)];exact q)
theorem DN:OpR X (Vl .Pow) (rI Ly fun i j=>.int (i ^ j.toNat)):=opI fun _ _ _ _ _ _ _ hc q=>pow_int_small hc.1 hc.2.1 hc.2.2 q
theorem unI{f:Value->Sem Value}{g:Int->Int}
  (rule:∀ (i:Int) (t:Tok) (s:Shared) (Q:Value->Shared->Prop) (E:Value->Shared->Prop),Q (.int (g i) s.toks) { s with toks:=s.toks+1 }->wpAny (model X.prog X.w) X.A (f (.int i t)) Q E s) :
  UnR X f (rU fun i=>.int (g i)):=by
 intro pins s σ H x v Q I rx h;obtain⟨i,rfl,q⟩:=h;obtain⟨t,rfl⟩:=rx;exact rule i t s _ _ ⟨.int (g i),H,I.tok _,⟨_,rfl⟩,q⟩
theorem DP:UnR X (unaryOp .USub) (rU fun i=>.int (-i)):=unI fun _ _ _ _ _ q=>neg_int q
end
noncomputable def IE:V->V->Bool
 |.non,.non=>true |.non,.int _=>true |.int _,.non=>true |.non,.bl _=>true |.bl _,.non=>true |.non,.str _=>true |.str _,.non=>true
 |.int _,.int _=>true |.bl _,.bl _=>true |.str _,.str _=>true |.byt _,.byt _=>true
 |.int _,.str _=>true |.str _,.int _=>true |.bl _,.str _=>true |.str _,.bl _=>true
 |_,_=>false
def rEq:R2:=fun x y H Q=>IE x y=true/\Q (.bl (decide (x=y))) H
def rNe:R2:=fun x y H Q=>IE x y=true/\Q (.bl (!decide (x=y))) H
theorem pT{i j:Int}:decide (V.int i=V.int j)=(i == j):=by
 rw[Z1];simp
theorem uf:decide (V.bl i=V.bl j)=(i == j):=by
 rw[Z1];simp
theorem pU:decide (V.str i=V.str j)=(i == j):=by
 rw[Z1];simp
theorem pV:decide (V.byt i=V.byt j)=(i.toList == j.toList):=by
 rw[Z1];cases i;cases j;simp
section
variable {X:Cx} {a b c:Expr} {ta tb tc:TE} {pos:Pos}
theorem aE(I:Inv X pins σ H s)(q:Q (.bl k) H)(e:k=k'):EP X pins σ Q (.bool k') s:=by
 subst e;exact⟨.bl k,H,I,rfl,q⟩
theorem IG:OpR X (VC .Eq) rEq:=by
 intro pins s σ H x y v u Q I rx ry h;obtain⟨hs,q⟩:=h;cases x with
 |non=>
  cases rx;cases y with
  |non=>cases ry;exact PySem.EqNone.eq_none_none (aE I q (by simp))
  |bl j=>cases ry;exact PySem.EqNone.eq_none_bool (aE I q (by simp))
  |int j=>obtain⟨t',rfl⟩:=ry;exact PySem.EqNone.eq_none_int (aE I q (by simp))
  |str j=>obtain⟨t',rfl⟩:=ry;exact PySem.EqNone.eq_none_str (aE I q (by simp))
  |_=>exact absurd (show false=true from hs) Zb
 |bl i=>
  cases rx;cases y with
  |non=>cases ry;exact PySem.EqNone.eq_bool_none (aE I q (by simp))
  |bl j=>cases ry;exact eq_bool (aE I q uf)
  |str j=>obtain⟨t',rfl⟩:=ry;exact PySem.EqMixed.eq_bool_str (aE I q (by simp))
  |_=>exact absurd (show false=true from hs) Zb
 |int i=>
  obtain⟨t,rfl⟩:=rx;cases y with
  |non=>cases ry;exact PySem.EqNone.eq_int_none (aE I q (by simp))
  |int j=>obtain⟨t',rfl⟩:=ry;exact eq_int (aE I q pT)
  |str j=>obtain⟨t',rfl⟩:=ry;exact PySem.EqMixed.eq_int_str (aE I q (by simp))
  |_=>exact absurd (show false=true from hs) Zb
 |str i=>
  obtain⟨t,rfl⟩:=rx;cases y with
  |non=>cases ry;exact PySem.EqNone.eq_str_none (aE I q (by simp))
  |bl j=>cases ry;exact PySem.EqMixed.eq_str_bool (aE I q (by simp))
  |int j=>obtain⟨t',rfl⟩:=ry;exact PySem.EqMixed.eq_str_int (aE I q (by simp))
  |str j=>obtain⟨t',rfl⟩:=ry;exact eq_str (aE I q pU)
  |_=>exact absurd (show false=true from hs) Zb
 |byt i=>
  obtain⟨t,rfl⟩:=rx;cases y with
  |byt j=>obtain⟨t',rfl⟩:=ry;exact PySem.W.eq_bytes (aE I q pV)
  |_=>exact absurd (show false=true from hs) Zb
 |_=>cases y <;> exact absurd (show false=true from hs) Zb
theorem Cq:OpR X (VC .NotEq) rNe:=by
 intro pins s σ H x y v u Q I rx ry h;obtain⟨hs,q⟩:=h;cases x with
 |non=>
  cases rx;cases y with
  |non=>cases ry;exact PySem.EqNone.ne_none_none (aE I q (by simp))
  |bl j=>cases ry;exact PySem.EqNone.ne_none_bool (aE I q (by simp))
  |int j=>obtain⟨t',rfl⟩:=ry;exact PySem.EqNone.ne_none_int (aE I q (by simp))
  |str j=>obtain⟨t',rfl⟩:=ry;exact PySem.EqNone.ne_none_str (aE I q (by simp))
  |_=>exact absurd (show false=true from hs) Zb
 |bl i=>
  cases rx;cases y with
  |non=>cases ry;exact PySem.EqNone.ne_bool_none (aE I q (by simp))
  |bl j=>cases ry;exact ne_bool (aE I q (congrArg not uf))
  |str j=>obtain⟨t',rfl⟩:=ry;exact PySem.EqMixed.ne_bool_str (aE I q (by simp))
  |_=>exact absurd (show false=true from hs) Zb
 |int i=>
  obtain⟨t,rfl⟩:=rx;cases y with
  |non=>cases ry;exact PySem.EqNone.ne_int_none (aE I q (by simp))
  |int j=>obtain⟨t',rfl⟩:=ry;exact ne_int (aE I q (congrArg not pT))
  |str j=>obtain⟨t',rfl⟩:=ry;exact PySem.EqMixed.ne_int_str (aE I q (by simp))
  |_=>exact absurd (show false=true from hs) Zb
 |str i=>
  obtain⟨t,rfl⟩:=rx;cases y with
  |non=>cases ry;exact PySem.EqNone.ne_str_none (aE I q (by simp))
  |bl j=>cases ry;exact PySem.EqMixed.ne_str_bool (aE I q (by simp))
  |int j=>obtain⟨t',rfl⟩:=ry;exact PySem.EqMixed.ne_str_int (aE I q (by simp))
  |str j=>obtain⟨t',rfl⟩:=ry;exact ne_str (aE I q (congrArg not pU))
  |_=>exact absurd (show false=true from hs) Zb
 |byt i=>
  obtain⟨t,rfl⟩:=rx;cases y with
  |byt j=>obtain⟨t',rfl⟩:=ry;exact PySem.W.ne_bytes (aE I q (congrArg not pV))
  |_=>exact absurd (show false=true from hs) Zb
 |_=>cases y <;> exact absurd (show false=true from hs) Zb
theorem IH:OpR X (VC .Lt) (rI0 fun i j=>.bl (decide (i < j))):=yu fun _ _ _ _ _ _ _ q=>lt_int q
theorem II:OpR X (VC .LtE) (rI0 fun i j=>.bl (decide (i<=j))):=yu fun _ _ _ _ _ _ _ q=>le_int q
theorem IJ:OpR X (VC .Gt) (rI0 fun i j=>.bl (decide (j < i))):=yu fun _ _ _ _ _ _ _ q=>gt_int q
theorem IK:OpR X (VC .GtE) (rI0 fun i j=>.bl (decide (j<=i))):=yu fun _ _ _ _ _ _ _ q=>ge_int q
theorem DQ:OpR X (VC .Is) (fun x y H Q=>y = .non/\Q (.bl (decide (x = .non))) H):=by
 intro pins s σ H x y v u Q I rx ry h;obtain⟨rfl,q⟩:=h;cases ry;refine is_none_gen (aE I q ?_)
 cases x <;> first
  |(cases rx;rfl)
  |(obtain⟨t,rfl⟩:=rx;rfl)
theorem yv:OpR X (VC .IsNot) (fun x y H Q=>y = .non/\Q (.bl (!decide (x = .non))) H):=by
 intro pins s σ H x y v u Q I rx ry h;obtain⟨rfl,q⟩:=h;cases ry;refine isnot_none_gen (aE I q ?_)
 cases x <;> first
  |(cases rx;rfl)
  |(obtain⟨t,rfl⟩:=rx;rfl)
theorem yw{op:CmpOp}{r:R2}(ho:OpR X (VC op) r)(ha:PE X a ta)(hb:PE X b tb)(hm:Vk op b=false):PE X (.Compare a [op] [b] pos) (tOp r ta tb):=by
 intro pins s σ H Q I h;exact wpAny_Compare1 (DH ha hb I h fun v u s2 x y H2 I2 rx ry q=>ho pins s2 σ H2 x y v u Q I2 rx ry q) hm
def Cr(t:TE):TT:=fun σ H Q=>t σ H fun x H'=>∃k,x = .bl k/\Q k H'
theorem gK(ho:OpR X (VC op) r)(ha:PE X a ta)(hb:PE X b tb)(hm:Vk op b=false):PT X (.Compare a [op] [b] pos) (Cr (tOp r ta tb)):=by
 intro pins s σ H Q I h
 refine wpAny_isTrue_Compare1 (thn (ha pins s σ H _ I h) fun v s1 ⟨x,H1,I1,r1,q1⟩=>thn (hb pins s1 σ H1 _ I1 q1) fun u s2 ⟨y,H2,I2,r2,q2⟩=>
  thn (ho pins s2 σ H2 x y v u _ I2 r1 r2 q2) fun c s3 ⟨z,H3,I3,r3,k,e,q3⟩=>?_) hm
 subst e;cases r3;exact UY ⟨H3,I3,q3⟩
def nA(r r':R2)(ta tb tc:TE):TE:=fun σ H Q=>ta σ H fun x H1=>tb σ H1 fun y H2=>r x y H2 fun z H3=>∃k,z = .bl k ∧
 (if k=true then tc σ H3 fun w' H4=>r' y w' H4 Q else Q (.bl false) H3)
theorem ug(ho:OpR X (VC op) r)(ho':OpR X (VC op') r')(ha:PE X a ta)(hb:PE X b tb)(hc:PE X c tc)
  (hm:lastMarks [op,op'] [b,c]=false:=by with_unfolding_all rfl):PE X (.Compare a [op,op'] [b,c] pos) (nA r r' ta tb tc):=by
 intro pins s σ H Q I h
 refine Compare_chain (thn (ha pins s σ H _ I h) fun v s1 ⟨x,H1,I1,r1,q1⟩=>chain_link (thn (hb pins s1 σ H1 _ I1 q1) fun u s2 ⟨y,H2,I2,r2,q2⟩=>
  thn (ho pins s2 σ H2 x y v u _ I2 r1 r2 q2) fun d s3 ⟨z,H3,I3,r3,k,e,q3⟩=>?_)) hm
 subst e;cases r3;refine UY ?_;cases k with
 |false=>exact ite_ff ⟨.bl false,H3,I3,rfl,q3⟩
 |true=>exact ite_tt (chain_last (thn (hc pins s3 σ H3 _ I3 q3) fun w' s4 ⟨z',H4,I4,r4,q4⟩=>ho' pins s4 σ H4 y z' u w' Q I4 r2 r4 q4))
theorem uh(ho:OpR X (VC op) r)(ho':OpR X (VC op') r')(ha:PE X a ta)(hb:PE X b tb)(hc:PE X c tc)
  (hm:lastMarks [op,op'] [b,c]=false:=by with_unfolding_all rfl):PT X (.Compare a [op,op'] [b,c] pos) (Cr (nA r r' ta tb tc)):=by
 intro pins s σ H Q I h
 refine isTrue_chain (thn (ha pins s σ H _ I h) fun v s1 ⟨x,H1,I1,r1,q1⟩=>test_link (thn (hb pins s1 σ H1 _ I1 q1) fun u s2 ⟨y,H2,I2,r2,q2⟩=>
  thn (ho pins s2 σ H2 x y v u _ I2 r1 r2 q2) fun d s3 ⟨z,H3,I3,r3,k,e,q3⟩=>?_)) hm
 subst e;cases r3;refine UY ?_;cases k with
 |false=>
  obtain⟨k',e',q'⟩:=q3;cases e';exact ite_ff ⟨H3,I3,q'⟩
 |true=>
  refine ite_tt (test_last (thn (hc pins s3 σ H3 _ I3 q3) fun w' s4 ⟨z',H4,I4,r4,q4⟩=>thn (ho' pins s4 σ H4 y z' u w' _ I4 r2 r4 q4) fun d' s5 ⟨z2,H5,I5,r5,k2,e2,q5⟩=>?_));subst e2;cases r5;exact UY ⟨H5,I5,q5⟩
def yx(K:WN)(x:V)(H:Hp)(k:Bool):Prop:=
 match x with
 |.non=>k=false
 |.bl b=>k=b
 |.int i=>k=(i != 0)
 |.str y=>y.length<=sizeLine/\k=((y.length:Int) != 0)
 |.byt y=>y.size<=sizeLine/\k=((y.size:Int) != 0)
 |.ref p=>(∃xs,SqL K H p xs/\k = !xs.isEmpty)\/(∃xs,SqT K H p xs/\k = !xs.isEmpty)\/∃kvs,H p=some (.dK kvs)/\k = !kvs.isEmpty
 |_=>False
theorem nB{κ:Type}{kvs:List (κ × V)}{vs:List (κ × Value)}(r:KV kvs vs):(!vs.isEmpty) = !kvs.isEmpty:=by
 cases r <;> rfl
theorem hF{xs:List V}{its:List Value}(r:ax xs its):(!its.toArray.isEmpty) = !xs.isEmpty:=by
 cases r <;> simp
theorem fN:(sizeLine:Nat) < 2 ^ 63:=by rw[Uc];decide
theorem DR:Lx X (fun x H Q=>∃k,yx X.K x H k/\Q k H):=by
 intro pins s σ H x v Q I rx h;obtain⟨k,e,q⟩:=h;have hl:=fN;have hs:sizeLine=16777216:=Uc;cases x with
 |non=>
  cases rx;have e':k=false:=e;subst e';exact truthy_none ⟨H,I,q⟩
 |bl b=>
  cases rx;have e':k=b:=e;subst e';exact UY ⟨H,I,q⟩
 |int i=>
  obtain⟨t,rfl⟩:=rx;have e':k=(i != 0):=e;subst e';exact PySem.P.truthy_int ⟨H,I,q⟩
 |str y=>
  obtain⟨t,rfl⟩:=rx;obtain⟨hy,e'⟩:y.length<=sizeLine/\k=((y.length:Int) != 0):=e;subst e';exact PySem.P.truthy_str (by lia) ⟨H,I.tok _,q⟩
 |byt y=>
  obtain⟨t,rfl⟩:=rx;obtain⟨hy,e'⟩:y.size<=sizeLine/\k=((y.size:Int) != 0):=e;subst e';exact PySem.W.truthy_bytes (by lia) ⟨H,I.tok _,q⟩
 |ref p=>
  cases rx;have e':(∃xs,SqL X.K H p xs/\k = !xs.isEmpty)\/(∃xs,SqT X.K H p xs/\k = !xs.isEmpty)\/∃kvs,H p=some (.dK kvs)/\k = !kvs.isEmpty:=e;rcases e' with ⟨xs,hx,e'⟩ |⟨xs,hx,e'⟩ |⟨kvs,hx,e'⟩
  ·subst e';obtain⟨its,r,pl,hz⟩:=I.list hx;have hlen:=r.length;exact wpAny_truthy_list pl.isList (by simp only[Zc];lia) ⟨H,I.tok _,by rw[hF r];exact q⟩
  ·subst e';obtain⟨its,r,pl,hz⟩:=I.tuple hx;have hlen:=r.length;exact truthy_tuple pl (by simp only[Zc];lia) ⟨H,I.tok _,by rw[hF r];exact q⟩
  ·subst e';obtain⟨hz,hS,vs,r,m⟩:kvs.length<=sizeLine/\(p == Ui)=false/\∃vs,KV kvs vs/\s.heap.DictOf (bn X.prog X.w) p vs:=I.hok p _ hx;have hlen:kvs.length=vs.length:=Paired.length r;exact wpAny_truthy_dict hS m (by lia) ⟨H,I.tok _,by rw[nB r];exact q⟩
 |_=>exact(show False from e).elim
theorem ui(ha:PE X a ta)(he:∀whole,isTrue a X.env whole=(do let v <-whole;standAt a.pos;holding [v] (truthy v))) :
  PT X a (fun σ H Q=>ta σ H fun x H'=>∃k,yx X.K x H' k/\Q k H'):=by
 intro pins s σ H Q I h;exact isTrue_plain (thn (ha pins s σ H _ I h) fun v s1 ⟨x,H1,I1,r1,q1⟩=>DR pins s1 σ H1 x v Q I1 r1 q1) (he _)
theorem nD:OpR X (Vl .Add) (fun x y H Q=>∃i j,x = .str i/\y = .str j/\i.length+j.length<=sizeLine/\Q (.str (i++j)) H):=by
 intro pins s σ H x y v u Q I rx ry h;obtain⟨i,j,rfl,rfl,hz,q⟩:=h;obtain⟨t,rfl⟩:=rx;obtain⟨t',rfl⟩:=ry;exact add_str (fun t' tk=>⟨.str (i++j),H,I.tok _,⟨_,rfl⟩,q⟩) hz
theorem bq(r:ax [x] us):∃u,us=[u]/\aq x u:=by
 cases r with
 |cons r1 r2=>cases r2;exact⟨_,rfl,r1⟩
theorem pW(r:ax [x,y] us):∃u w',us=[u,w']/\aq x u/\aq y w':=by
 cases r with
 |cons r1 r2=>
  cases r2 with
  |cons r3 r4=>cases r4;exact⟨_,_,rfl,r1,r3⟩
theorem rA(hc:X.calm=true):au X (.builtin "max") (fun xs H Q=>∃i j,xs=[.int i,.int j]/\Q (.int (if j > i then j else i)) H):=by
 intro pins s σ H xs us Q I r h;obtain⟨i,j,rfl,q⟩:=h;obtain⟨u,w',rfl,⟨t,rfl⟩,⟨t',rfl⟩⟩:=pW r;refine max_two_ints (I.ok.hd hc) fun h' tk k=>⟨_,H,I.kept k,?_,q⟩;by_cases hj:j > i
 ·rw[if_pos hj,if_pos hj];exact⟨_,rfl⟩
 ·rw[if_neg hj,if_neg hj];exact⟨_,rfl⟩
theorem rB(hc:X.calm=true):au X (.builtin "min") (fun xs H Q=>∃i j,xs=[.int i,.int j]/\Q (.int (if j < i then j else i)) H):=by
 intro pins s σ H xs us Q I r h;obtain⟨i,j,rfl,q⟩:=h;obtain⟨u,w',rfl,⟨t,rfl⟩,⟨t',rfl⟩⟩:=pW r;refine min_two_ints (I.ok.hd hc) fun h' tk k=>⟨_,H,I.kept k,?_,q⟩;by_cases hj:j < i
 ·rw[if_pos hj,if_pos hj];exact⟨_,rfl⟩
 ·rw[if_neg hj,if_neg hj];exact⟨_,rfl⟩
theorem rC:au X (.type "int") (fun xs H Q=>(∃i,xs=[.int i]/\Q (.int i) H)\/∃k,xs=[.bl k]/\Q (.int (if k then 1 else 0)) H):=by
 intro pins s σ H xs us Q I r h;rcases h with ⟨i,rfl,q⟩ |⟨k,rfl,q⟩
 ·obtain⟨u,rfl,t,rfl⟩:=bq r;exact call_int_int ⟨.int i,H,I,⟨_,rfl⟩,q⟩
 ·obtain⟨u,rfl,r1⟩:=bq r;cases r1;exact call_int_bool ⟨.int (if k then 1 else 0),H,I.tok _,⟨_,rfl⟩,q⟩
end
structure ObjM(h:Heap)(x dx C:Addr)(mA:Str->Option Value):Prop where
 obj:h.get? x=some (W1 C dx)
 ns:h.Ns1 dx mA
 ne:dx ≠ x
theorem rD{h:Heap}{dx:Addr}{mA:Str->Option Value}(n:h.Ns1 dx mA):∃od,h.get? dx=some od/\∀name,W8 name od=some (mA name):=by
 obtain⟨o,es,ep,ho,hd,hk,_,hm⟩:=n;refine⟨o,ho,fun name=>?_⟩;have e:=hm name;unfold nsFind findBy at e;rw[<-Array.find?_toList] at e;unfold W8;rw[hd];dsimp only;split
 ·rename_i y q;rw[q] at e;exact congrArg some e
 ·rename_i q;rw[q] at e
  have a:es.toList.any (·.refKey)=false:=by
   rw[List.any_eq_false];intro y hy;obtain⟨z,t,hkey⟩:=hk y (Y1.mp hy);simp[DictEntry.refKey,hkey]
  have a':¬ es.toList.any (·.refKey)=true:=by rw[a];exact Zb
  rw[if_neg a'];exact congrArg some e
theorem ObjM.look(I:ObjM h x dx C mA):∃od,PySem.W.InstAt h x (W1 C dx) C (some od)/\∀name,W8 name od=some (mA name):=
 let ⟨od,ho,hl⟩:=rD I.ns
 ⟨od,⟨I.obj,rfl,rfl,ho⟩,hl⟩
section
variable {P:Program} {w:World} {H H':Hp} {h h':Heap} {a C dx:Addr} {fs fs':List (Str × V)}
theorem yy(hok:HOk P w H h)(e:H a=some (.ins C dx fs)):∃mA,ObjM h a dx C mA/\(∀f,yn (fs.lookup f) (mA f))/\PySem.Within mA (fs.map (·.1))/\fs.length<=1000/\H dx=some (.own a):=by
 obtain⟨d,z,ne,ob,mA,n,r,q⟩:=(show aX P w H h a (.ins C dx fs) from hok a _ e);exact⟨mA,⟨ob,n,ne⟩,r,q,z,d⟩
end
structure Cls(K:WN)(C:Addr):Prop where
 pg:Vc K C Str.empty=true
 hd:PySem.W.hasDictIn K C=true
 po:PySem.W.plainOver K C=true
 sa:WW K (.ref C) "__setattr__" = some (some (.builtin "object.__setattr__"))
theorem Cls.get{K:WN}{C:Addr}(c:Cls K C)(f:Str):Vc K C f=true:=c.pg
section
variable {X:Cx} {pins:List (Addr × Obj)} {σ:St} {H:Hp} {s:Shared} {a C dx:Addr} {fs:List (Str × V)} {f:Str} {v:V} {A:Around} {E:Value->Shared->Prop}
theorem yz(hb:Vi e f env (eval e env)=eval e env)
  (h:wpAny (model prog w) A (eval e env) (fun o s₁=>wpAny (model prog w) A (getAttr o f true) Q E s₁) E s):wpAny (model prog w) A (eval (.Attribute e f pos) env) Q E s:=
 Attribute_any_ h (by rw[arm_eval_Attribute,hb])
end
section
variable {X:Cx} {pins:List (Addr × Obj)} {σ:St} {H:Hp} {s:Shared} {A:Around} {E:Value->Shared->Prop} {Q:Value->Shared->Prop} {c:Value} {b:Bool}
inductive TyOf(K:WN)(H:Hp):V->Value->Prop where
 |non:TyOf K H .non (.type "NoneType")
 |bl (x:Bool):TyOf K H (.bl x) (.type "bool")
 |int (i:Int):TyOf K H (.int i) (.type "int")
 |str (x:Str):TyOf K H (.str x) (.type "str")
 |flt (x:UInt64):TyOf K H (.flt x) (.type "float")
 |lst {a:Addr} {xs:List V} (e:H a=some (.lst xs)):TyOf K H (.ref a) (.type "list")
 |frz {a:Addr} {o:Obj} {xs:List V} (e:H a=some (.frz o (.lst xs))):TyOf K H (.ref a) (.type "list")
 |tup {a:Addr} {xs:List V} (e:H a=some (.tup xs)):TyOf K H (.ref a) (.type "tuple")
 |dK {a:Addr} {kvs:List (Key × V)} (e:H a=some (.dK kvs)):TyOf K H (.ref a) (.type "dict")
 |dT {a:Addr} {kvs:List (List Key × V)} (e:H a=some (.dT kvs)):TyOf K H (.ref a) (.type "dict")
 |ins {a C dx:Addr} {fs:List (Str × V)} (e:H a=some (.ins C dx fs)) (cl:Cls K C) (ha:WW K (.ref C) "__class__" = some (some (.builtin "object.__class__")))
   (hn:Ve K (.builtin "object.__class__") "__get__" = some (some (.builtin "getset_descriptor.__get__"))) (htk:PySem.W.takesIn K (.builtin "object.__class__")=some true)
   (hm:Va K C (.type "object")=some true):TyOf K H (.ref a) (.ref C)
theorem rE(I:Inv X pins σ H s)(rx:aq x u)(ty:TyOf X.K H x t)(e:W5 X.K t c=some b)(h:∀tk,Q (.bool b) { s with toks:=tk }) :
  wpAny (model X.prog X.w) A (call (.builtin "isinstance") [u,c]) Q E s:=by
 cases ty with
 |non=>cases (show u=Value.none from rx);exact W3 PySem.W.kitx_none I.kIn True.intro e (fun z=>nomatch z) h
 |bl y=>cases (show u=Value.bool y from rx);exact W3 PySem.W.kitx_bool I.kIn True.intro e (fun z=>nomatch z) h
 |int i=>obtain⟨t,q⟩:=(show ∃t,u=Value.int i t from rx);cases q;exact W3 PySem.W.kitx_int I.kIn True.intro e (fun z=>nomatch z) h
 |str y=>obtain⟨t,q⟩:=(show ∃t,u=Value.str y t from rx);cases q;exact W3 PySem.W.kitx_str I.kIn True.intro e (fun z=>nomatch z) h
 |flt y=>obtain⟨t,q⟩:=(show ∃t,u=Value.float y t from rx);cases q;exact W3 PySem.W.kitx_float I.kIn True.intro e (fun z=>nomatch z) h
 |@lst a xs ea=>
  cases (show u=Value.ref a from rx);obtain⟨_,_,n,_,h1⟩:=(show aX X.prog X.w H s.heap a (.lst xs) from I.hok a _ ea);exact W3 W7 I.kIn ⟨_,h1,rfl⟩ e (fun z=>nomatch z) h
 |@frz a ob xs ea=>
  cases (show u=Value.ref a from rx);obtain⟨_,_,_,n,_,h1⟩:=(show aX X.prog X.w H s.heap a (.frz ob (.lst xs)) from I.hok a _ ea);exact W3 W7 I.kIn ⟨_,h1,rfl⟩ e (fun z=>nomatch z) h
 |@tup a xs ea=>
  cases (show u=Value.ref a from rx);obtain⟨_,_,_,p⟩:=(show aX X.prog X.w H s.heap a (.tup xs) from I.hok a _ ea);obtain⟨o,h1,h2,_⟩:=p;exact W3 PySem.W.kitx_tuple I.kIn ⟨o,h1,h2⟩ e (fun z=>nomatch z) h
 |@dK a kvs ea=>
  cases (show u=Value.ref a from rx);obtain⟨_,_,vs,_,p⟩:=(show aX X.prog X.w H s.heap a (.dK kvs) from I.hok a _ ea);obtain⟨o,es,ep,h1,h2,_⟩:=p;exact W3 W6 I.kIn ⟨o,h1,h2.1⟩ e (fun z=>nomatch z) h
 |@dT a kvs ea=>
  cases (show u=Value.ref a from rx);obtain⟨_,_,xs,_,o,es,ep,h1,h2,_⟩:=(show aX X.prog X.w H s.heap a (.dT kvs) from I.hok a _ ea);exact W3 W6 I.kIn ⟨o,h1,h2.1⟩ e (fun z=>nomatch z) h
 |@ins a C dx fs ea cl ha hn htk hm=>
  cases (show u=Value.ref a from rx);obtain⟨mA,O,_⟩:=yy I.hok ea;obtain⟨od,J,_⟩:=O.look;exact W3 (PySem.W.kitx_own (cl.get _) cl.hd ha hn htk hm) I.kIn J e (fun z=>nomatch z) h
end
structure Room(k:Nat)(A:Around):Prop where
 hd:A.handled=none
 dp:A.depth+3 * k+5 < recursionLimit
 un:A.units+16 * k+200 < cLine
 gd:A.guards=some []
theorem Room.deeper{k:Nat}(r:Room (k+1) A)(env:Env):Room k (A.deeper env):=
 ⟨r.hd,by have:=r.dp;show A.depth+1+3 * k+5 < _;lia,by have:=r.un;show A.units+3+16 * k+200 < _;lia,r.gd⟩
theorem nF{A:Around}{C:Addr}{us:List Value}{kw:List (Str × Value)}:(A.under (.builtin "type.__call__" ⟨.ref C::us,kw⟩)).depth=A.depth+1:=by
 first |rfl |simp[Around.under,Code.weight,Code.isCreation,Code.isGuard,Code.isCaller,Code.frames,Code.isFrame,guardIds]
theorem Room.depth{k:Nat}(r:Room k A):A.depth < recursionLimit:=by have:=r.dp;lia
theorem Room.units{k:Nat}(r:Room k A):A.units+64 < cLine:=by have:=r.un;lia
def eY:TA:=fun _ H Q=>Q [] H
def bK(ta:TE)(tr:TA):TA:=fun σ H Q=>ta σ H fun x H1=>tr σ H1 fun xs H2=>Q (x::xs) H2
section
variable {X:Cx} {e:Expr} {es:List Expr} {te:TE} {t:TA} {pos:Pos}
theorem j5:PA X [] eY:=fun _ _ _ _ H Q I h=>Calls.spliced_nil ⟨[],H,I,.nil,h⟩
theorem yA(ha:PE X e te)(hr:PA X es t)(hs:Ue (e::es) X.env=(false,eval e X.env)::Ue es X.env:=by rfl):PA X (e::es) (bK te t):=by
 intro pos pins s σ H Q I h;rw[hs];show wpAny _ _ (spliced ((false,eval e X.env)::backTo pos (Ue es X.env))) _ _ s;refine Calls.spliced_cons (thn (ha pins s σ H _ I h) fun u s1 ⟨x,H1,I1,r1,q1⟩=>?_);exact thn (hr pos pins s1 σ H1 _ I1 q1) fun us s2 ⟨xs,H2,I2,r2,q2⟩=>⟨x::xs,H2,I2,.cons r1 r2,q2⟩
def IL(t:TA):TE:=fun σ H Q=>t σ H fun xs H1=>xs.length<=sizeLine/\∀p,H1 p=none->Q (.ref p) (upd H1 p (.tup xs))
def IM(t:TA):TE:=fun σ H Q=>t σ H fun xs H1=>xs.length<=sizeLine/\∀p,H1 p=none->Q (.ref p) (upd H1 p (.lst xs))
theorem DS{x1}(h:PA X es t):PE X (.Tuple es x1 pos) (IL t):=by
 intro pins s σ H Q I hq;refine wpAny_Tuple_spliced (thn (h pos pins s σ H _ I hq) fun us s1 ⟨xs,H1,I1,r,z,q⟩=>⟨by rw[<-r.length];exact z,?_⟩);have hf:H1 s1.heap.objs.size=none:=I1.hok.fresh (Zh _);refine⟨.ref s1.heap.objs.size,upd H1 s1.heap.objs.size (.tup xs),I1.laid (t':=s1.toks) (fun b u e=>Za _ e) (Zh _) ?_,rfl,q _ hf⟩;exact⟨z,us,r,j0.new _ _⟩
theorem hJ(h:PA X es t):PE X (.List es pos) (IM t):=by
 intro pins s σ H Q I hq;refine wpAny_List_spliced (thn (h pos pins s σ H _ I hq) fun us s1 ⟨xs,H1,I1,r,z,q⟩=>⟨by rw[<-r.length];exact z,?_⟩);have hf:H1 s1.heap.objs.size=none:=I1.hok.fresh (Zh _);refine⟨.ref s1.heap.objs.size,upd H1 s1.heap.objs.size (.lst xs),I1.laid (t':=s1.toks) (fun b u e=>Za _ e) (Zh _) ?_,rfl,q _ hf⟩;exact⟨z,us,0,r,Zp _ rfl⟩
end
abbrev Sp:=List V->Hp->VK->XK->Prop
abbrev CXT:=List Env->Hp->Shared->XK->Value->Shared->Prop
structure Env0(P:Program)(w:World)(K:WN)(mg:Str->Option Value)(base:Heap)(A:Around)(outer:List Env)(s:Shared)(H:Hp):Prop where
 frames:A.frames=some outer
 mod:Mod K mg base
 bs:∀b o,base.get? b=some o->s.heap.get? b=some o/\H b=none
 bsz:base.objs.size<=s.heap.objs.size
 funs:s.heap.FunFrames base outer
 frf:∀b ∈ frs outer,H b=none
 hok:HOk P w H s.heap
 bare:AllBare s.gens
def CE(outer:List Env)(P:Program)(w:World)(H:Hp)(s:Shared)(Q:VK)(u:Value)(s':Shared):Prop:=
 ∃v H',s'.os=s.os/\AllBare s'.gens/\Un (frs outer) [] H H' s.heap s'.heap/\HOk P w H' s'.heap/\aq v u/\Q v H'
def CR(CX:CXT)(outer:List Env)(P:Program)(w:World)(H:Hp)(s:Shared)(Q:VK)(E:XK)(r:Result)(s':Shared):Prop:=
 match r with
 |.ok (.ret u)=>CE outer P w H s Q u s'
 |.ok _=>False
 |.error e=>CX outer H s E e s'
structure FnOk(P:Program)(w:World)(K:WN)(mg:Str->Option Value)(base:Heap)(CX:CXT)(k:Nat)(f:Addr)(fd:Ws)(ps:List Str)(sp:Sp):Prop where
 len:∀vs H Q E,sp vs H Q E->vs.length=ps.length
 run:∀ (A:Around) (outer:List Env) (s:Shared) (H:Hp) (args:Args) (us:List Value) (vs:List V) (Q:VK) (E:XK),Room k A->Env0 P w K mg base A outer s H->BindsTo s fd args (ps.zip us)->ax vs us->sp vs H Q E ->
  codeAny (model P w) A (.call (.ref f) args) (CR CX outer P w H s Q E) s
theorem FnOk.imp{P:Program}{w:World}{K:WN}{mg:Str->Option Value}{base:Heap}{CX:CXT}{k:Nat}{f:Addr}{fd:Ws}{ps:List Str}{sp sp':Sp}(F:FnOk P w K mg base CX k f fd ps sp)
  (h:∀vs H Q E,sp' vs H Q E->sp vs H Q E):FnOk P w K mg base CX k f fd ps sp':=
 ⟨fun vs H Q E q=>F.len vs H Q E (h _ _ _ _ q),fun A outer s H args us vs Q E hr he hb hv hs=>F.run A outer s H args us vs Q E hr he hb hv (h _ _ _ _ hs)⟩
theorem Env0.make{P:Program}{w:World}{K:WN}{mg:Str->Option Value}{base:Heap}{A:Around}{outer:List Env}{s:Shared}{H:Hp}(e:Env0 P w K mg base A outer s H)(C:Addr)(us:List Value)(kw:List (Str × Value)) :
  Env0 P w K mg base (A.under (.builtin "type.__call__" ⟨.ref C::us,kw⟩)) outer s H:=⟨by first |exact e.frames |(simpa[Around.under,Code.envs,Code.isFrame,pushEnvs] using e.frames),e.mod,e.bs,e.bsz,e.funs,e.frf,e.hok,e.bare⟩
section
variable {X:Cx} {pins:List (Addr × Obj)} {σ:St} {H:Hp} {s s':Shared}
theorem Inv.env0(I:Inv X pins σ H s):Env0 X.prog X.w X.K X.mg X.base X.A X.stack s H:=
 ⟨I.ok.frames,I.ok.mod,I.bs,Zv I.ok.bsz I.sz,I.stack,I.stkFree,I.hok,I.bare⟩
theorem Inv.after(I:Inv X pins σ H s)(h:CE X.stack X.prog X.w H s Q u s'):EP X pins σ Q u s':=by
 obtain⟨v,H',os,bare,un,hok,r,q⟩:=h;obtain⟨hh,g,d,t,os'⟩:=s';obtain rfl:os'=s.os:=os;exact⟨v,H',I.call (h':=hh) (g':=g) (d':=d) (t':=t) (ch:=[]) un hok bare (fun b z=>absurd z (by simp)),r,q⟩
end
def Cs(sp:Sp)(dvs:List V)(E:XK)(t:TA):TE:=fun σ H Q=>t σ H fun vs H1=>sp (vs++dvs) H1 Q E
def bX(K:WN)(fd:Ws)(ps:List Str)(ds:List Value):Prop:=
 ∀ (s:Shared) (us:List Value),K.In s.heap->(us++ds).length=ps.length->BindsTo s fd ⟨us,[]⟩ (ps.zip (us++ds))
theorem bX.all{K:WN}{fd:Ws}{ps:List Str}(h:∀us:List Value,us.length=ps.length->Vm fd ⟨us,[]⟩=pure (ps.zip us)):bX K fd ps []:=fun s us _ hl=>by
 rw[ZQ] at hl ⊢;exact .of_eq (h us hl)
def hU(CX:CXT)(X:Cx)(E:XK):Prop:=∀ (pins:List (Addr × Obj)) (σ:St) (H:Hp) (s:Shared) (e:Value) (s':Shared),Inv X pins σ H s->CX X.stack H s E e s'->X.xe e s'
section
variable {X:Cx} {CX:CXT} {k:Nat} {f C:Addr} {fd:Ws} {ps:List Str} {sp:Sp} {dvs:List V} {ds:List Value} {E:XK} {x m:Str} {p pos apos:Pos} {e o:Expr} {es:List Expr} {ta:TE} {t:TA}
theorem DT(F:FnOk X.prog X.w X.K X.mg X.base CX k f fd ps sp)(hr:Room k X.A)(hb:bX X.K fd ps ds)(hd:ax dvs ds)(hx:hU CX X E)
  (I:Inv X pins σ H s) (r:ax vs us) (h:sp (vs++dvs) H Q E):wpAny (model X.prog X.w) X.A (call (.ref f) us) (EP X pins σ Q) X.xe s:=by
 have r2:ax (vs++dvs) (us++ds):=r.append hd;have hl:(us++ds).length=ps.length:=by rw[<-r2.length];exact F.len _ _ _ _ h
 refine Ut (VB (F.run X.A X.stack s H ⟨us,[]⟩ (us++ds) (vs++dvs) Q E hr I.env0 (hb s us I.kIn hl) r2 h) fun r s' hq=>?_);cases r with
 |error e=>exact hx pins σ H s e s' I hq
 |ok fl=>
  cases fl with
  |ret u=>exact I.after hq
  |next=>exact False.elim hq
  |brk=>exact False.elim hq
  |cont=>exact False.elim hq
theorem yB(F:FnOk X.prog X.w X.K X.mg X.base CX k f fd ps sp)(hr:Room k X.A)(hg:Gl X x)(hm:X.mg x=some (.ref f))(hk:W2 X.K (.ref f)=true)(hb:bX X.K fd ps ds)(hd:ax dvs ds)(hx:hU CX X E)
  (ha:PA X (e::es) t) (hdb:(x == ("__debug__" : Str))=false:=by decide) (he:Ue (e::es) X.env=(false,eval e X.env)::Ue es X.env:=by rfl) (hpl:(backTo pos (Ue es X.env)).any (·.1)=false:=by rfl) :
  PE X (.Call (.Name x p) (e::es) [] pos) (Cs sp dvs E t):=by
 intro pins s σ H Q I h;refine Uo (cv I hg hm ?_ hdb);refine WO (h₀:=X.base) I.ok.mod.kin hk (thn (ha pos pins s σ H _ I h) fun us s1 ⟨vs,H1,I1,r,q⟩=>⟨I1.kIn,?_⟩) he hpl;exact DT F hr hb hd hx I1 r q
end
def PK(X:Cx)(kws:List Keyword)(t:TA):Prop:=
 ∀ (pos:Pos) (pins:List (Addr × Obj)) (s:Shared) (σ:St) (H:Hp) (Q:List V->Hp->Prop),Inv X pins σ H s->t σ H Q->wpAny (model X.prog X.w) X.A (evalAll ((Vj pos (VO kws X.env)).map (·.2))) (AP X pins σ Q) X.xe s
section
variable {X:Cx} {CX:CXT} {k:Nat} {f C:Addr} {fd:Ws} {ps ks:List Str} {sp:Sp} {E:XK} {x m:Str} {p pos apos kpos:Pos} {e o:Expr} {es:List Expr} {kws:List Keyword} {te ta:TE} {t tk:TA} {nm:Option Str}
theorem DU:PK X [] eY:=fun _ _ _ _ H Q I h=>wpAny_evalAll_nil ⟨[],H,I,.nil,h⟩
theorem yC(ha:PE X e te)(hr:PK X kws t):PK X (⟨nm,e,kpos⟩::kws) (bK te t):=by
 intro pos pins s σ H Q I h;show wpAny _ _ (evalAll ((do let v <-eval e X.env;standAt pos;pure v)::(Vj pos (VO kws X.env)).map (·.2))) _ _ s;refine wpAny_evalAll_cons (Ur (thn (ha pins s σ H _ I h) fun u s1 ⟨x,H1,I1,r1,q1⟩=>Ur (UX (UO ?_))));exact thn (hr pos pins s1 σ H1 _ I1 q1) fun us s2 ⟨xs,H2,I2,r2,q2⟩=>⟨x::xs,H2,I2,.cons r1 r2,q2⟩
variable {g:List Value->List Value->List Value} {gV:List V->List V->List V}
end
structure FnScope(N P:List Str)(sc:Scope):Prop where
 kind:sc.kind = .function
 co:sc.isCoroutine=false
 gen:sc.isGenerator=false
 nd:N.Nodup
 pre:N.take P.length=P
 par:∀x ∈ P,sc.names.lookup x=some .local\/sc.names.lookup x=some .cell
 nofree:∀y ∈ sc.names,y.2 ≠ .free
theorem jr{kindOf:Str->Option Wu}{x:Str}:∀ {binds:List (Str × Value)} {m:Str->Option Value},(∀v,(x,v) ∉ binds)->bindL kindOf binds m x=m x
 |[],_,_=>rfl
 |(n,v)::r,m,h=>by
  unfold bindL;rw[jr fun w hw=>h w (Zd _ hw)];split
  ·have:x ≠ n:=by rintro rfl;exact h v Zg
   simp[this]
  ·rfl
theorem jt{kindOf:Str->Option Wu}{x:Str}:∀ {binds:List (Str × Value)} {m:Str->Option Value},(∀v,(x,v) ∉ binds)->bindC kindOf binds m x=m x
 |[],_,_=>rfl
 |(n,v)::r,m,h=>by
  unfold bindC;rw[jt fun w hw=>h w (Zd _ hw)];split
  ·rfl
  ·have:x ≠ n:=by rintro rfl;exact h v Zg
   simp[this]
theorem ju{kindOf:Str->Option Wu}{x:Str}{v:Value}:∀ {P:List Str} {vs:List Value} {i:Nat} {m:Str->Option Value},P.Nodup->P[i]?=some x->vs[i]?=some v->kindOf x=some .local ->
  bindL kindOf (P.zip vs) m x=some v
 |[],_,_,_,_,h,_,_=>by simp at h
 |_::_,[],_,_,_,_,h,_=>by simp at h
 |p::P,w::vs,0,m,nd,h1,h2,hk=>by
  simp at h1 h2;subst h1;subst h2;show bindL kindOf ((p,w)::P.zip vs) m p=_;unfold bindL;rw[jr fun v hv=>(ZU.mp nd).1 (Ys hv).1,if_pos hk];simp
 |p::P,w::vs,i+1,m,nd,h1,h2,hk=>by
  show bindL kindOf ((p,w)::P.zip vs) m x=_;unfold bindL;exact ju (i:=i) (ZU.mp nd).2 (by simpa using h1) (by simpa using h2) hk
theorem jv{kindOf:Str->Option Wu}{x:Str}{v:Value}:∀ {P:List Str} {vs:List Value} {i:Nat} {m:Str->Option Value},P.Nodup->P[i]?=some x->vs[i]?=some v->kindOf x ≠ some .local ->
  bindC kindOf (P.zip vs) m x=some v
 |[],_,_,_,_,h,_,_=>by simp at h
 |_::_,[],_,_,_,_,h,_=>by simp at h
 |p::P,w::vs,0,m,nd,h1,h2,hk=>by
  simp at h1 h2;subst h1;subst h2;show bindC kindOf ((p,w)::P.zip vs) m p=_;unfold bindC;rw[jt fun v hv=>(ZU.mp nd).1 (Ys hv).1,if_neg hk];simp
 |p::P,w::vs,i+1,m,nd,h1,h2,hk=>by
  show bindC kindOf ((p,w)::P.zip vs) m x=_;unfold bindC;exact jv (i:=i) (ZU.mp nd).2 (by simpa using h1) (by simpa using h2) hk
noncomputable def cw(N:List Str)(vs:List V):St:=vs.map some++Zi (N.length - vs.length) none
noncomputable def jd(CX:CXT)(P:Program)(w:World)(K:WN)(mg:Str->Option Value)(base:Heap)(N:List Str)(qual:Str)(scope:Scope)(f:Addr)(cd:Value)(A:Around)(outer:List Env)(s:Shared)(H:Hp)(E:XK):Cx where
 prog:=P
 w:=w
 K:=K
 mg:=mg
 base:=base
 A:=A.deeper (envOfC qual scope s.heap.objs.size f cd)
 N:=N
 s₀:=s
 H₀:=H
 env:=envOfC qual scope s.heap.objs.size f cd
 outer:=outer
 stack:=envOfC qual scope s.heap.objs.size f cd::outer
 ex:=[]
 calm:=true
 fn:=fun _=>true
 pn:=[]
 xe:=fun e s'=>wpAny (model P w) (A.deeper (envOfC qual scope s.heap.objs.size f cd)) (leaving (envOfC qual scope s.heap.objs.size f cd) e) (fun _ s''=>CX outer H s E e s'') (fun e' s''=>CX outer H s E e' s'') s'
theorem lp{sc:Scope}{n:Nat}{x:Str}(h:sc.names.lookup x=some .cell):∃c,(Vu n sc.names []).lookup x=some c:=by
 have q:=WQ sc.names n [] (.inl h);exact ZE.mp q
theorem jw{CX:CXT}{P:Program}{w:World}{K:WN}{mg:Str->Option Value}{base:Heap}{N ps:List Str}{qual:Str}{scope:Scope}{f:Addr}{cd:Value}{A:Around}{outer:List Env}{s s1:Shared}{H:Hp}{E:XK}{us:List Value}{vs:List V}
  (S:FnScope N ps scope) (hd:A.handled=none) (e0:Env0 P w K mg base A outer s H) (hl:vs.length=ps.length) (r:ax vs us)
  (x:InCallC s s.heap.objs.size (bindL (envOfC qual scope s.heap.objs.size f cd).kindOf (ps.zip us) fun _=>none) (Vu (s.heap.objs.size+1) scope.names []) (bindC (envOfC qual scope s.heap.objs.size f cd).kindOf (ps.zip us) fun _=>none) s1) :
  Inv (jd CX P w K mg base N qual scope f cd A outer s H E) [] (cw N vs) H s1:=by
 have hpl:ps.length<=N.length:=by have:=congrArg ZJ S.pre;rw[ZG] at this;lia
 obtain⟨h1,tk,rfl,hk⟩:=x.done;have noA:∀b:Addr,b ∉ (jd CX P w K mg base N qual scope f cd A outer s H E).ex:=fun b z=>absurd (show b ∈ ([]:List Addr) from z) (by simp)
 refine⟨⟨e0.mod,S.kind,rfl,rfl,Zh _,fun y z c h1 h2=>?_,fun y hy=>?_,fun y c _ h=>?_,fun _=>hd,Around.frames_deeper e0.frames,.inr ⟨rfl,rfl⟩,fun b z=>absurd z (noA b),e0.bs,e0.bsz,fun b _ _=>noA b,fun b z=>absurd z (noA b),e0.funs,e0.frf⟩,
  rfl,e0.bare,Un.kept hk,⟨_,x.toInCall.ns,fun i y v h1 h2 h3=>?_⟩,fun y c h=>⟨_,x.cell y c h⟩,e0.hok.fresh (Zh _),fun y c h=>?_,fun p hp=>absurd (show p ∈ ([]:List (Addr × Obj)) from hp) (by simp),e0.hok.kept hk,?_⟩
 ·exact name_of_addr x.apart (VU h1) (VU h2)
 ·have hy:scope.names.lookup y=some .cell\/scope.names.lookup y=some .free:=hy;rcases hy with hy |hy
  ·exact lp hy
  ·exact absurd rfl (S.nofree _ (VU hy))
 ·exact Yy (x.above y c (VU h))
 ·have hi:i < vs.length:=by
   unfold cw at h2;by_cases hi:i < vs.length
   ·exact hi
   ·rw[Zu (by simpa using hi)] at h2;rw[Z4] at h2;split at h2 <;> cases h2
  have ha:vs[i]?=some v:=by
   unfold cw at h2;rw[Zx (by simpa using hi),ZC] at h2;cases e:vs[i]? with
   |none=>rw[e] at h2;cases h2
   |some a=>rw[e] at h2;cases h2;rfl
  obtain⟨u,hu,rv⟩:=r.get ha
  have hp:ps[i]?=some y:=by
   rw[<-S.pre,YJ (by lia)];exact h1
  have ndP:ps.Nodup:=by rw[<-S.pre];exact S.nd.sublist (List.take_sublist _ _)
  refine⟨u,rv,?_⟩;rcases S.par y (Zn hp) with k |k
  ·exact .inl ⟨k,ju ndP hp hu k⟩
  ·obtain⟨c,e⟩:=lp (n:=s.heap.objs.size+1) k;refine .inr ⟨.inl k,c,e,?_⟩;have q:=x.cell y c e;rw[jv ndP hp hu (by show scope.names.lookup y ≠ _;rw[k];decide)] at q;exact q
 ·exact e0.hok.fresh (Yy (x.above y c (VU h)))
 ·unfold cw;show _=N.length;rw[Zm,Ze,Yl]
  lia
theorem IP{CX:CXT}{P:Program}{w:World}{K:WN}{mg:Str->Option Value}{base:Heap}{k:Nat}{f:Addr}{name qual:Str}{params:Arguments}{body:List Stmt}{scope:Scope}{dV kV doc pm cdv ct oc:Value}{an od:Option Addr}
  {osl:Array (Option Value)} {N ps:List Str} {sp:Sp} (lk:K.lookup f=some ⟨oc,od,.func (WX name qual params body scope dV kV doc pm an cdv ct),osl⟩) (hcd:WT K cdv qual=true) (S:FnScope N ps scope)
  (len:∀vs H Q E,sp vs H Q E->vs.length=ps.length)
  (hbody:∀ (A:Around) (outer:List Env) (s:Shared) (H:Hp) (vs:List V) (Q:VK) (E:XK),Room k (A.deeper (envOfC qual scope s.heap.objs.size f cdv))->sp vs H Q E ->
   ∃t,PSs (jd CX P w K mg base N qual scope f cdv A outer s H E) body t/\t { nx:=fun _ H'=>Q .non H',rt:=Q } (cw N vs) H) :
  FnOk P w K mg base CX (k+1) f (WX name qual params body scope dV kV doc pm an cdv ct) ps sp:=by
 refine⟨len,fun A outer s H args us vs Q E hr e0 hb r hsp=>?_⟩;have hl:=len _ _ _ _ hsp;have KX:K.In s.heap:=e0.mod.kin.keeps fun b o e=>(e0.bs b o e).1;have lim:s.heap.NoLimit:=e0.mod.nolimit.keeps fun b o e=>(e0.bs b o e).1
 have hkind:∀y ∈ ps.zip us,scope.names.lookup y.1=some .local\/(scope.names.lookup y.1=some .cell/\((Vu (s.heap.objs.size+1) scope.names []).lookup y.1).isSome=true):=fun⟨n,v⟩ hy=>by
  rcases S.par n (Ys hy).1 with q |q
  ·exact .inl q
  ·exact .inr ⟨q,WQ _ _ _ (.inl q)⟩
 refine Vy hr.depth (KX _ _ lk) rfl S.co S.gen rfl (WU KX hcd) (hb _ _ _ _ ?_);refine UK S.kind hkind fun env he s1 x=>?_;subst he;refine⟨lim.keeps x.toInCall.keep,codeAny_func ?_⟩;obtain⟨t,ht,hq⟩:=hbody A outer s H vs Q E (hr.deeper _) hsp;have I:Inv (jd CX P w K mg base N qual scope f cdv A outer s H E) [] (cw N vs) H s1:=jw S hr.hd e0 hl r x;refine UI (ht [] s1 (cw N vs) H _ I hq) (fun fl s' hs=>?_) fun e s' hs=>hs
 have fin:∀ {σ':St} {H':Hp} {v:V} {u:Value},Inv (jd CX P w K mg base N qual scope f cdv A outer s H E) [] σ' H' s'->aq v u->Q v H'->CE outer P w H s Q u s':=
  fun {σ' H' v u} J rv q=>⟨v,H',J.os,J.bare,J.base,J.hok,rv,q⟩
 cases fl with
 |ret u=>
  obtain⟨v,σ',H',J,rv,q⟩:=hs;exact fin J rv q
 |next=>
  obtain⟨σ',H',J,q⟩:=hs;exact fin (v:=V.non) (u:=Value.none) J rfl q
 |brk=>
  obtain⟨_,_,_,q⟩:=hs;exact False.elim q
 |cont=>
  obtain⟨_,_,_,q⟩:=hs;exact False.elim q
section
variable {X:Cx} {x:Str} {p pos:Pos} {e:Expr} {es:List Expr} {t:TA} {id T:String} {r:List V->Hp->VK->Prop}
def tCB(r:List V->Hp->VK->Prop)(t:TA):TE:=fun σ H Q=>t σ H fun vs H1=>r vs H1 Q
theorem b9(hc:au X (.builtin id) r)(hg:Gl X x)(hm:X.mg x=none)(hv:Vo x=some (.builtin id))(ha:PA X (e::es) t)(hn:x ≠ "__name__" := by decide)(hdb:(x == ("__debug__" : Str))=false:=by decide)
  (he:Ue (e::es) X.env=(false,eval e X.env)::Ue es X.env:=by rfl) (hpl:(backTo pos (Ue es X.env)).any (·.1)=false:=by rfl):PE X (.Call (.Name x p) (e::es) [] pos) (tCB r t):=by
 intro pins s σ H Q I h;refine Uo (cP I hg hm hv ?_ hn hdb);exact PyProof.Rows.callWith_builtin1 (thn (ha pos pins s σ H _ I h) fun us s1 ⟨vs,H1,I1,r1,q1⟩=>hc pins s1 σ H1 vs us Q I1 r1 q1) he hpl
theorem cG(hc:au X (.type T) r)(hg:Gl X x)(hm:X.mg x=none)(hv:Vo x=some (.type T))(ha:PA X (e::es) t)(hn:x ≠ "__name__" := by decide)(hdb:(x == ("__debug__" : Str))=false:=by decide)
  (he:Ue (e::es) X.env=(false,eval e X.env)::Ue es X.env:=by rfl) (hpl:(backTo pos (Ue es X.env)).any (·.1)=false:=by rfl):PE X (.Call (.Name x p) (e::es) [] pos) (tCB r t):=by
 intro pins s σ H Q I h;refine Uo (cP I hg hm hv ?_ hn hdb);exact XV (thn (ha pos pins s σ H _ I h) fun us s1 ⟨vs,H1,I1,r1,q1⟩=>hc pins s1 σ H1 vs us Q I1 r1 q1) he hpl
end
end L2
namespace HT
open PySem PyProof.Rows
section
open PySem.SeqAt
open PySem.AutoSeq1 (wpAny_loadPart')
open PySem.MeetsSeq PySem.MeetsSeq2 PySem.MeetsSeq3
end
section
variable {prog:Program} {w:World} {A:Around} {E:Value->Shared->Prop} {s:Shared}
theorem yD(ht:IsTup s.heap t vs.toArray)(hb:IsTup s.heap b ws.toArray)(hv:vs ≠ [])
  (h1:ws=[]->Q (.ref t) s) (h2:ws ≠ []->Q (.ref s.heap.objs.size) { s with heap:=s.heap.push { cls:=.type "tuple", data:=.seq (vs++ws).toArray } })
  (hsz:vs.length+ws.length<=sizeLine):wpAny (model prog w) A (Vl .Add (.ref t) (.ref b)) Q E s:=by
 obtain⟨⟨cls,dd,data,sl⟩,ho,hc,n,hd⟩:=id ht;obtain⟨⟨cls2,dd2,data2,sl2⟩,ho2,hc2,n2,hd2⟩:=id hb;simp only at hc hd hc2 hd2;subst hc hd hc2 hd2;have e:vs.toArray++ws.toArray=(vs++ws).toArray:=by simp
 by_cases hw:ws=[]
 ·exact VE ⟨_,ho,rfl⟩ ⟨_,ho2,rfl⟩ VX Ua Wm X9 (X4 _ _)
   (tuple_addW1 t b vs.toArray ws.toArray n n2 dd dd2 sl sl2 (by simpa using hv) (by simp[hw])) ⟨ho,ho2,h1 hw⟩
 ·refine VE ⟨_,ho,rfl⟩ ⟨_,ho2,rfl⟩ VX Ua Wm X9 (X4 _ _)
   (tuple_addW2 t b vs.toArray ws.toArray n n2 dd dd2 sl sl2 (by simpa using hv) (by simpa using hw) (by rw[Zc,Zc];exact hsz)) ⟨ho,ho2,?_⟩
  rw[e];exact h2 hw
noncomputable def sIx(n d:Nat):Option Int->Nat
 |none=>d
 |some v=>if v < 0 then (v+(n:Int)).toNat else min v.toNat n
theorem DV(n d:Nat)(hd:d<=n)(o:Option Int):sIx n d o<=n:=by
 cases o with
 |none=>exact hd
 |some v=>
  show(if v < 0 then (v+(n:Int)).toNat else min v.toNat n)<=n;by_cases hv:v < 0
  ·rw[if_pos hv];lia
  ·rw[if_neg hv];exact Nat.min_le_right _ _
theorem pX(v:Int)(n d:Nat):(if v < 0 then max (v+(n:Int)) 0 else min v (n:Int))=((sIx n d (some v):Nat):Int):=by
 show(if v < 0 then max (v+(n:Int)) 0 else min v (n:Int))=(((if v < 0 then (v+(n:Int)).toNat else min v.toNat n):Nat):Int);by_cases hv:v < 0
 ·simp only[if_pos hv];lia
 ·simp only[if_neg hv];lia
theorem nG(lo hi:Option Int)(n:Nat):Builtin.Slice.sliceAdjust lo hi 1 (n:Int)=(((sIx n 0 lo:Nat):Int),((sIx n n hi:Nat):Int)):=by
 have h1:¬ ((1:Int) < 0):=by lia
 unfold Builtin.Slice.sliceAdjust;simp only[h1,if_false];refine Prod.ext ?_ ?_
 ·cases lo with
  |none=>rfl
  |some v=>exact pX v n 0
 ·cases hi with
  |none=>rfl
  |some v=>exact pX v n n
theorem nI(i j:Nat):Builtin.Slice.slicePlaces (i:Int) (j:Int) 1=j - i:=by
 unfold Builtin.Slice.slicePlaces;have h1:(1:Int) > 0:=by lia
 simp only[h1,if_true,Int.ediv_one];split <;> lia
theorem hV(p:IsPart v o)(h:Q o s):wpAny (model prog w) A (Builtin.Slice.slicePartIndex v) Q E s:=by
 cases p with
 |none=>exact slicePart_none h
 |int i t=>exact slicePart_int h
theorem cH{sl:Addr}{vl vu:Value}{lo hi:Option Int}{n:Nat}{Q:Int × Int × Nat->Shared->Prop}(hs:s.heap.IsSliceOf sl vl vu .none)(pl:IsPart vl lo)(pu:IsPart vu hi)
  (h:Q (((sIx n 0 lo:Nat):Int),1,sIx n n hi - sIx n 0 lo) s):wpAny (model prog w) A (Builtin.Slice.sliceApplied (.ref sl) (pure (n:Int))) Q E s:=by
 obtain⟨os,hos,hcs,hds⟩:=id hs;unfold Builtin.Slice.sliceApplied Builtin.Slice.sliceFields;refine Ur (Ur (UA hos hds (x:=vl) rfl (Ur (UA hos hds (x:=vu) rfl (Ur (UA hos hds (x:=.none) rfl (UO ?_)))))));refine Ur (slicePart_none ?_);show wpAny _ _ (if ((1:Int) == 0)=true then _ else _) _ _ s;rw[if_neg (by decide)];refine Ur (hV pl (Ur (hV pu (Ur (UO ?_)))));show wpAny _ _ (match Builtin.Slice.sliceAdjust lo hi 1 (n:Int) with |(lo,hi)=>pure (lo,(1:Int),Builtin.Slice.slicePlaces lo hi 1)) _ _ s;rw[nG lo hi n];show wpAny _ _ (pure (((sIx n 0 lo:Nat):Int),(1:Int),Builtin.Slice.slicePlaces ((sIx n 0 lo:Nat):Int) ((sIx n n hi:Nat):Int) 1)) _ _ s;rw[nI];exact UO h
theorem uj(xs:Array Value)(i k:Nat):((ZI k).filterMap fun(m:Nat)=>xs[((i:Int)+(m:Int) * 1).toNat]?).toArray=((xs.toList.drop i).take k).toArray:=by
 have e:(fun(m:Nat)=>xs[((i:Int)+(m:Int) * 1).toNat]?)=fun m=>xs[i+m]?:=by
  funext m
  have:((i:Int)+(m:Int) * 1).toNat=i+m:=by lia
  rw[this]
 rw[e];have:=pick_run xs i k;rw[List.filterMap_map] at this;have e2:((fun x=>xs[x]?) ∘ fun x=>i+x)=fun m=>xs[i+m]?:=rfl;rw[e2] at this;rw[this]
theorem eZ{t sl:Addr}{items:Array Value}{vl vu:Value}{lo hi:Option Int}{Q:Value->Shared->Prop}(ht:IsTup s.heap t items)(hs:s.heap.IsSliceOf sl vl vu .none)(pl:IsPart vl lo)(pu:IsPart vu hi)
  (hw:¬ (sIx items.size 0 lo=0/\sIx items.size items.size hi=items.size))
  (h:Q (.ref s.heap.objs.size) { s with heap:=s.heap.push { cls:=.type "tuple", data:=.seq ((items.toList.drop (sIx items.size 0 lo)).take (sIx items.size items.size hi - sIx items.size 0 lo)).toArray } })
  (hsz:items.size<=sizeLine):wpAny (model prog w) A (getItem (.ref t) (.ref sl)) Q E s:=by
 have htake:sizeOk (.seq ((items.toList.drop (sIx items.size 0 lo)).take (sIx items.size items.size hi - sIx items.size 0 lo)).toArray):=by
  show((items.toList.drop (sIx items.size 0 lo)).take (sIx items.size items.size hi - sIx items.size 0 lo)).toArray.size<=sizeLine;rw[Zc,ZG,Z5,Zt]
  lia
 have hj:sIx items.size items.size hi<=items.size:=DV _ _ (Zh _) hi;obtain⟨os,hos,hcs,hds⟩:=id hs;have hTs:s.TypeIs (.ref sl) "slice" := ⟨os,hos,hcs⟩;unfold getItem
 try with_reducible refine UB ?_
 first |refine Ur (UO ?_) |skip
 refine Ur (wpAny_sequenceKey ht.typeIs (by decide) ?_)
 refine Ur (wpAny_callSpecial?_slot (name:=Str.ofString "__getitem__") ht.typeIs XW
  (Uu XW ht.typeIs entry_tuple_getitem ?_ (args_tuple_getitem _ _)))
 show wpAny _ _ (Builtin.Tuple.tupleItemsOf (.ref t) >>= _) _ _ s;refine Ur (tupleItemsOf_ ht ?_);refine Ur (U0 hTs ?_);rw[if_pos (by decide)];refine Ur (cH hs pl pu ?_)
 have hno:¬ ((((sIx items.size 0 lo:Nat):Int) == 0 && (1:Int) == 1 && (sIx items.size items.size hi - sIx items.size 0 lo) == items.size)=true):=by
  intro q;rw[bAE,bAE] at q;have q1:((sIx items.size 0 lo:Nat):Int)=0:=eq_of_beq q.1.1;have q2:sIx items.size items.size hi - sIx items.size 0 lo=items.size:=eq_of_beq q.2;exact hw ⟨by lia,by lia⟩
 show wpAny _ _ (if (((sIx items.size 0 lo:Nat):Int) == 0 && (1:Int) == 1 && (sIx items.size items.size hi - sIx items.size 0 lo) == items.size)=true then _ else _) _ _ s;rw[if_neg hno,uj]
 first
  |exact Ur (m:=Builtin.Tuple.tupleExact _) (UL (UO ⟨_,rfl,UO h⟩) htake)
  |exact Ur (m:=Builtin.Tuple.tupleExact _) (UL (Ur (UO (UO ⟨_,rfl,UO h⟩))) htake)
  |exact Ur (Ur (m:=Builtin.Tuple.tupleExact _) (UL (UO (UO ⟨_,rfl,UO h⟩)) htake))
  |exact Ur (Ur (m:=Builtin.Tuple.tupleExact _) (UL (UO ⟨_,rfl,UO h⟩) htake))
end
end HT
namespace L2
open PySem PySem.Spec PyProof.Rows
abbrev TO:=St->Hp->(Option Int->Hp->Prop)->Prop
def PO(X:Cx)(e:Option Expr)(t:TO):Prop:=
 ∀ (pins:List (Addr × Obj)) (s:Shared) (σ:St) (H:Hp) (Q:Option Int->Hp->Prop),Inv X pins σ H s->t σ H Q ->
  wpAny (model X.prog X.w) X.A (evalPart e X.env) (fun u s'=>∃o H',Inv X pins σ H' s'/\IsPart u o/\Q o H') X.xe s
def pY:TO:=fun _ H Q=>Q none H
def Ct(t:TE):TO:=fun σ H Q=>t σ H fun x H1=>∃i,x = .int i/\Q (some i) H1
section
variable {X:Cx} {e:Expr} {te:TE} {lo hi:Option Expr} {tl th:TO} {pos p2:Pos}
theorem yE:PO X none pY:=by
 intro pins s σ H Q I h;rw[evalPart_none];exact UO ⟨none,H,I,.none,h⟩
theorem yF(h:PE X e te):PO X (some e) (Ct te):=by
 intro pins s σ H Q I hw;rw[evalPart_some];refine thn (h pins s σ H _ I hw) fun u s1 ⟨x,H1,I1,r1,q1⟩=>?_;obtain⟨i,rfl,q⟩:=q1;obtain⟨t,rfl⟩:=r1;exact⟨some i,H1,I1,.int i t,q⟩
def SlR(X:Cx)(r:V->Option Int->Option Int->Hp->VK->Prop):Prop:=
 ∀ (pins:List (Addr × Obj)) (s:Shared) (σ:St) (H:Hp) (x:V) (v vl vu:Value) (lo hi:Option Int) (sl:Addr) (Q:VK),Inv X pins σ H s->aq x v->s.heap.IsSliceOf sl vl vu .none->IsPart vl lo->IsPart vu hi->r x lo hi H Q ->
  ∃T id,Ul (.type T) "__getitem__" = pure (some (.builtin id))/\s.TypeIs v T/\wpAny (model X.prog X.w) X.A (getItem v (.ref sl)) (EP X pins σ Q) X.xe s
theorem SlR.or{r r':V->Option Int->Option Int->Hp->VK->Prop}(h:SlR X r)(h':SlR X r'):SlR X (fun x lo hi H Q=>r x lo hi H Q\/r' x lo hi H Q):=by
 intro pins s σ H x v vl vu lo hi sl Q I rx hs pl pu q;rcases q with q |q
 ·exact h pins s σ H x v vl vu lo hi sl Q I rx hs pl pu q
 ·exact h' pins s σ H x v vl vu lo hi sl Q I rx hs pl pu q
def tSl(r:V->Option Int->Option Int->Hp->VK->Prop)(te:TE)(tl th:TO):TE:=fun σ H Q=>te σ H fun x H1=>tl σ H1 fun l H2=>th σ H2 fun u H3=>r x l u H3 Q
theorem uk(hr:SlR X r)(he:PE X e te)(hl:PO X lo tl)(hu:PO X hi th):PE X (.Subscript e (.Slice lo hi none p2) pos) (tSl r te tl th):=by
 intro pins s σ H Q I h;refine Subscript_ (thn (he pins s σ H _ I h) fun v s1 ⟨x,H1,I1,r1,q1⟩=>?_);refine wpAny_Slice (thn (hl pins s1 σ H1 _ I1 q1) fun vl s2 ⟨l,H2,I2,pl,q2⟩=>thn (hu pins s2 σ H2 _ I2 q2) fun vu s3 ⟨u,H3,I3,pu,q3⟩=>?_);rw[evalPart_none];refine UO ?_;have I4:Inv X pins σ H3 { s3 with heap:=s3.heap.push { cls:=.type "slice", data:=.fields #[vl,vu,.none] } }:=I3.kept (t':=s3.toks) fun b ob q=>Za _ q;obtain⟨T,id,hT,ht,hg⟩:=hr pins { s3 with heap:=s3.heap.push { cls:=.type "slice", data:=.fields #[vl,vu,.none] } } σ H3 x v vl vu l u s3.heap.objs.size Q I4 r1 (Heap.IsSliceOf.new ..) pl pu q3;show wpAny (model X.prog X.w) X.A (subscriptTail e (.Slice lo hi none p2) v (.ref s3.heap.objs.size)) (EP X pins σ Q) X.xe { s3 with heap:=s3.heap.push { cls:=.type "slice", data:=.fields #[vl,vu,.none] } };exact tail_any (ops:=[.ref s3.heap.objs.size,v]) ht hT hg (by with_unfolding_all rfl)
noncomputable def hX(xs:List V)(lo hi:Option Int):List V:=(xs.drop (HT.sIx xs.length 0 lo)).take (HT.sIx xs.length xs.length hi - HT.sIx xs.length 0 lo)
theorem gm(xs:List V)(lo hi:Option Int):(hX xs lo hi).length<=xs.length:=by
 unfold hX;rw[ZG,Z5]
 lia
def Lz(K:WN):V->Option Int->Option Int->Hp->VK->Prop:=fun x lo hi H Q=>∃a xs,x = .ref a/\SqT K H a xs ∧
 ¬ (HT.sIx xs.length 0 lo=0/\HT.sIx xs.length xs.length hi=xs.length)/\∀p,H p=none->Q (.ref p) (upd H p (.tup (hX xs lo hi)))
theorem DW:SlR X (Lz X.K):=by
 intro pins s σ H x v vl vu lo hi sl Q I rx hs pl pu h;obtain⟨a,xs,rfl,hx,hw,q⟩:=h;cases rx;obtain⟨its,r,ht,hz⟩:=I.tuple hx;have hlen:its.toArray.size=xs.length:=by rw[Zc];exact r.length.symm
 refine⟨"tuple", _,PyProof.Rows.slot_tuple_getitem.lookup,ht.typeIs,?_⟩;refine HT.eZ ht hs pl pu (by rw[hlen];exact hw) ?_ (by rw[hlen];exact hz);rw[hlen];refine⟨.ref s.heap.objs.size,_,I.laid (t':=s.toks) (o:=.tup (hX xs lo hi)) (fun b ob q=>Za _ q) (Zh _) ?_,rfl,q _ (I.hok.fresh (Zh _))⟩;exact⟨Zv (gm xs lo hi) hz,_,(r.drop (HT.sIx xs.length 0 lo)).take (HT.sIx xs.length xs.length hi - HT.sIx xs.length 0 lo),j0.new _ _⟩
def IQ(K:WN):R2:=fun x y H Q=>∃a b xs ys,x = .ref a/\y = .ref b/\SqT K H a xs/\SqT K H b ys/\xs ≠ []/\xs.length+ys.length<=sizeLine ∧
 (ys=[]->Q (.ref a) H)/\(ys ≠ []->∀p,H p=none->Q (.ref p) (upd H p (.tup (xs++ys))))
theorem ax.nil_iff(r:ax xs us):us=[] ↔ xs=[]:=by
 cases r with
 |nil=>simp
 |cons _ _=>simp
theorem yG:OpR X (Vl .Add) (IQ X.K):=by
 intro pins s σ H x y v u Q I rx ry h;obtain⟨a,b,xs,ys,rfl,rfl,ha,hb,hx,hz,q1,q2⟩:=h;cases rx;cases ry;obtain⟨its,r1,p1,_⟩:=I.tuple ha;obtain⟨its2,r2,p2,_⟩:=I.tuple hb;refine HT.yD p1 p2 (fun z=>hx (r1.nil_iff.mp z)) (fun z=>⟨.ref a,H,I,rfl,q1 (r2.nil_iff.mp z)⟩) (fun z=>?_) (by rw[<-r1.length,<-r2.length];exact hz);refine⟨.ref s.heap.objs.size,_,I.laid (t':=s.toks) (o:=.tup (xs++ys)) (fun b ob q=>Za _ q) (Zh _) ?_,rfl,q2 (fun w=>z (r2.nil_iff.mpr w)) _ (I.hok.fresh (Zh _))⟩;exact⟨by rw[Zm];exact hz,_,r1.append r2,j0.new _ _⟩
end
noncomputable def ixN(n:Nat)(i:Int):Option Nat:=if 0<=i then (if i < n then some i.toNat else none) else if -(n:Int)<=i then some (i+n).toNat else none
noncomputable def atI{α:Type}(xs:List α)(i:Int):Option α:=(ixN xs.length i).bind fun j=>xs[j]?
theorem j6{n:Nat}{i:Int}{j:Nat}(h:ixN n i=some j):seqIndex? i n=some j/\j < n/\-(n:Int)<=i/\i < n:=by
 unfold ixN at h;by_cases h0:0<=i
 ·rw[if_pos h0] at h;by_cases h1:i < n
  ·rw[if_pos h1] at h;have e:i.toNat=j:=Option.some.inj h;exact⟨by rw[V7 h0 h1,e],by lia,by lia,h1⟩
  ·rw[if_neg h1] at h;cases h
 ·rw[if_neg h0] at h;by_cases h1:-(n:Int)<=i
  ·rw[if_pos h1] at h;have e:(i+n).toNat=j:=Option.some.inj h;exact⟨by rw[V6 (by lia) h1,e],by lia,h1,by lia⟩
  ·rw[if_neg h1] at h;cases h
theorem j7{α:Type}{xs:List α}{i:Int}{v:α}(h:atI xs i=some v):∃j,seqIndex? i xs.length=some j/\xs[j]?=some v/\j < xs.length/\-(xs.length:Int)<=i/\i < xs.length:=by
 unfold atI at h;cases e:ixN xs.length i with
 |none=>rw[e] at h;cases h
 |some j=>
  rw[e] at h;obtain⟨h1,h2,h3,h4⟩:=j6 e;exact⟨j,h1,h,h2,h3,h4⟩
theorem pZ{α:Type}{xs:List α}{j:Nat}{v:α}(h:xs[j]?=some v):atI xs (j:Int)=some v:=by
 have hj:j < xs.length:=(Zf.mp h).1
 have e:ixN xs.length (j:Int)=some j:=by
  unfold ixN;rw[if_pos (by lia),if_pos (by lia)];simp
 unfold atI;rw[e];exact h
def p0(b:Expr):Prop:=∀o i,subscripted b false o i=operate [o,i] (getItem o i)
def IxR(X:Cx)(r:R2):Prop:=
 ∀ (value slice:Expr) (pins:List (Addr × Obj)) (s:Shared) (σ:St) (H:Hp) (x y:V) (v u:Value) (Q:VK),Inv X pins σ H s->aq x v->aq y u->r x y H Q ->
  subscripted slice false v u=operate [v,u] (getItem v u)->wpAny (model X.prog X.w) X.A (subscriptTail value slice v u) (EP X pins σ Q) X.xe s
def MtR(X:Cx)(id:String)(r:V->List V->Hp->VK->Prop):Prop:=
 ∀ (pins:List (Addr × Obj)) (s:Shared) (σ:St) (H:Hp) (x:V) (xs:List V) (v:Value) (us:List Value) (Q:VK),Inv X pins σ H s->aq x v->ax xs us->r x xs H Q ->
  wpAny (model X.prog X.w) X.A (call (.builtin id) (v::us)) (EP X pins σ Q) X.xe s
section
variable {X:Cx} {a b:Expr} {ta tb:TE} {pos:Pos}
theorem IxR.or{r r':R2}(h:IxR X r)(h':IxR X r'):IxR X (fun x y H Q=>r x y H Q\/r' x y H Q):=by
 intro value slice pins s σ H x y v u Q I rx ry q hs;rcases q with q |q
 ·exact h value slice pins s σ H x y v u Q I rx ry q hs
 ·exact h' value slice pins s σ H x y v u Q I rx ry q hs
theorem ul(hr:IxR X r)(ha:PE X a ta)(hb:PE X b tb)(hs:p0 b):PE X (.Subscript a b pos) (tOp r ta tb):=by
 intro pins s σ H Q I h;exact Subscript_ (DH ha hb I h fun v u s2 x y H2 I2 rx ry q=>hr a b pins s2 σ H2 x y v u Q I2 rx ry q (hs _ _))
def IR(K:WN):R2:=fun x y H Q=>∃p xs i v,x = .ref p/\y = .int i/\SqL K H p xs/\atI xs i=some v/\Q v H
def IS(K:WN):R2:=fun x y H Q=>∃p xs i v,x = .ref p/\y = .int i/\SqT K H p xs/\atI xs i=some v/\Q v H
def IT:R2:=fun x y H Q=>∃z i c,x = .str z/\y = .int i/\z.length<=sizeLine/\atI z.cps.toList i=some c/\Q (.str ⟨#[c]⟩) H
theorem yH:IxR X (IR X.K):=by
 intro value slice pins s σ H x y v u Q I rx ry h hs;obtain⟨p,xs,i,z,rfl,rfl,hq,he,q⟩:=h;cases rx;obtain⟨t,rfl⟩:=ry;obtain⟨its,r,pl,hz⟩:=I.list hq;obtain⟨j,h1,h2,h3,h4,h5⟩:=j7 he;obtain⟨w,ew,rw'⟩:=r.get h2;have hl:=r.length;have hn:=fN;have fin:EP X pins σ Q w s:=⟨z,H,I,rw',q⟩;by_cases h0:0<=i
 ·have hj:i.toNat=j:=by
   rw[V7 h0 h5] at h1;exact Option.some.inj h1
  exact item_listR pl.isList h0 (by lia) (by rw[hj];simpa using ew) fin hs
 ·have hj:(i+(its.toArray.size:Int)).toNat=j:=by
   rw[V6 (by lia) h4] at h1;rw[Zc,<-hl];exact Option.some.inj h1
  exact subscriptTail_builtinR (x:=w) pl.isList.typeIs slot_list_getitem.lookup
   (wpAny_getItem_list_neg (Q:=fun r s'=>r=w/\EP X pins σ Q r s') pl.isList (by lia) (by rw[Zc] <;> lia) (by lia) (by rw[hj];simpa using ew) ⟨rfl,fin⟩) hs
theorem LA:IxR X (IS X.K):=by
 intro value slice pins s σ H x y v u Q I rx ry h hs;obtain⟨p,xs,i,z,rfl,rfl,hq,he,q⟩:=h;cases rx;obtain⟨t,rfl⟩:=ry;obtain⟨its,r,pl,hz⟩:=I.tuple hq;obtain⟨j,h1,h2,h3,h4,h5⟩:=j7 he;obtain⟨w,ew,rw'⟩:=r.get h2;have hl:=r.length;have hn:=fN;have fin:EP X pins σ Q w s:=⟨z,H,I,rw',q⟩
 exact subscriptTail_builtinR (x:=w) pl.typeIs slot_tuple_getitem.lookup
  (getItem_tuple (j:=j) (Q:=fun r s'=>r=w/\EP X pins σ Q r s') pl (by lia) (by lia) (by rw[Zc,<-hl];exact h1) (by simpa using ew) ⟨rfl,fin⟩) hs
theorem DX:IxR X IT:=by
 intro value slice pins s σ H x y v u Q I rx ry h hs;obtain⟨z,i,c,rfl,rfl,hz,he,q⟩:=h;obtain⟨t,rfl⟩:=rx;obtain⟨t',rfl⟩:=ry;obtain⟨j,h1,h2,h3,h4,h5⟩:=j7 he;have hl:z.cps.toList.length=z.length:=by simp[Str.length]
 rw[hl] at h1 h4 h5;have hn:=fN
 exact tail_any (typeIs_str s z t) slot_str_getitem.lookup (getItem_str (c:=c) (by
  have e1:decide (i < -(2 ^ 63:Int))=false:=decide_eq_false (by lia);have e2:decide (i ≥ 2 ^ 63)=false:=decide_eq_false (by lia);rw[e1,e2,Xr]) (by rw[h1];simpa using h2) ⟨.str ⟨#[c]⟩,H,I.tok _,⟨_,rfl⟩,q⟩) hs
def rIx(K:WN):R2:=fun x y H Q=>IR K x y H Q\/IS K x y H Q\/IT x y H Q
theorem um:IxR X (rIx X.K):=yH.or (LA.or DX)
theorem nJ(its:List Value)(n j:Nat)(u:Value):Obj.mapSeq (·.setIfInBounds j u) { cls:=.type "list", data:=.seq its.toArray n }={ cls:=.type "list", data:=.seq (its.set j u).toArray n }:=by
 simp[Obj.mapSeq]
theorem Inv.lst{pins:List (Addr × Obj)}{σ:St}{H:Hp}{s:Shared}{p:Addr}{xs:List V}(I:Inv X pins σ H s)(h:H p=some (.lst xs)) :
  ∃ (its:List Value) (n:Nat),ax xs its/\s.heap.get? p=some { cls:=.type "list", data:=.seq its.toArray n }/\xs.length<=sizeLine:=by
 obtain⟨z,its,n,r,e⟩:=I.hok p _ h;exact⟨its,n,r,e,z⟩
theorem Inv.lstUpd{pins:List (Addr × Obj)}{σ:St}{H:Hp}{s:Shared}{p:Addr}{xs ys:List V}{its its':List Value}{n n':Nat}{f:Obj->Obj}(I:Inv X pins σ H s)(h:H p=some (.lst xs))
  (ho:s.heap.get? p=some { cls:=.type "list", data:=.seq its.toArray n }) (hf:f { cls:=.type "list", data:=.seq its.toArray n }={ cls:=.type "list", data:=.seq its'.toArray n' }) (r:ax ys its') (hz:ys.length<=sizeLine) (t:Nat) :
  Inv X pins σ (upd H p (.lst ys)) { s with heap:=s.heap.update p f,toks:=t }:=by
 have e:(s.heap.update p f).get? p=some { cls:=.type "list", data:=.seq its'.toArray n' }:=by
  rw[ZH f ho (by rw[hf] <;> rfl),hf]
 refine I.write (x:=p) (e:=p) (by rw[h];trivial) (.inl rfl) (fun b u hb q=>(Zw _ _ (Ne.symm hb)).trans q) ⟨_,e⟩ ?_;exact⟨hz,its',n',r,e⟩
def IU:V->V->V->Hp->(Hp->Prop)->Prop:=fun o i v H Q=>∃p xs k j,o = .ref p/\i = .int k/\H p=some (.lst xs)/\ixN xs.length k=some j/\Q (upd H p (.lst (xs.set j v)))
theorem uo:DA X IU:=by
 intro pins s σ H o i v ov iv u Q I ro ri rv h;obtain⟨p,xs,k,j,rfl,rfl,hp,hj,q⟩:=h;cases ro;obtain⟨t,rfl⟩:=ri;obtain⟨its,n,r,ho,hz⟩:=I.lst hp;obtain⟨h1,h2,h3,h4⟩:=j6 hj;have hl:=r.length;have hn:=fN
 have I':Inv X pins σ (upd H p (.lst (xs.set j v))) { s with heap:=s.heap.update p (Obj.mapSeq (·.setIfInBounds j u)) }:=
  I.lstUpd hp ho (nJ its n j u) (r.set rv j) (by rw[YS];exact hz) s.toks
 by_cases h0:0<=k
 ·have hk:k.toNat=j:=by
   rw[V7 h0 h4] at h1;exact Option.some.inj h1
  exact PySem.W.ki_setAt ho h0 (by lia) (by rw[Zc,<-hl];exact h4) (by rw[hk];exact⟨_,I',q⟩)
 ·have hk:(k+(its.toArray.size:Int)).toNat=j:=by
   rw[V6 (by lia) h3] at h1;rw[Zc,<-hl];exact Option.some.inj h1
  exact PySem.W.ki_setBack ho (by lia) (by rw[Zc,<-hl];exact h3) (by lia) (by rw[hk];exact⟨_,I',q⟩)
theorem j8(lo hi:Option Int)(n:Nat):(Ud lo hi none n).1=((HT.sIx n 0 lo:Nat):Int)/\(Ud lo hi none n).2.1=((HT.sIx n n hi:Nat):Int)/\(Ud lo hi none n).2.2=1:=by
 refine⟨?_,?_,rfl⟩
 ·cases lo with
  |none=>simp[Ud,HT.sIx]
  |some i=>
   simp only[Ud,HT.sIx,Xg,show(1:Int) > 0 by decide,if_true];by_cases h:i < 0
   ·simp only[h,if_true] <;> lia
   ·simp only[h,if_false] <;> lia
 ·cases hi with
  |none=>simp[Ud,HT.sIx]
  |some i=>
   simp only[Ud,HT.sIx,Xg,show(1:Int) > 0 by decide,if_true];by_cases h:i < 0
   ·simp only[h,if_true] <;> lia
   ·simp only[h,if_false] <;> lia
theorem je(its:List Value)(lo hi:Option Int):slicePick its.toArray lo hi none=((its.drop (HT.sIx its.length 0 lo)).take (HT.sIx its.length its.length hi - HT.sIx its.length 0 lo)).toArray:=by
 obtain⟨h1,h2,h3⟩:=j8 lo hi its.toArray.size;unfold slicePick;rw[h1,h2,h3];simp only[sliceRange_one,pick_run,Zc] <;> rfl
def LB(K:WN):V->Option Int->Option Int->Hp->VK->Prop:=fun x lo hi H Q=>∃a xs,x = .ref a/\SqL K H a xs/\∀p,H p=none->Q (.ref p) (upd H p (.lst (hX xs lo hi)))
theorem yI:SlR X (LB X.K):=by
 intro pins s σ H x v vl vu lo hi sl Q I rx hs pl pu h;obtain⟨a,xs,rfl,hx,q⟩:=h;cases rx;obtain⟨its,r,ht,hz⟩:=I.list hx;have hlen:=r.length;refine⟨"list", _,slot_list_getitem.lookup,ht.isList.typeIs,?_⟩;refine wpAny_getItem_list_slice ht.isList hs pl pu .none (by simp) ?_ (by rw[Zc] <;> lia);rw[je,<-hlen];refine⟨.ref s.heap.objs.size,_,I.laid (t':=s.toks) (o:=.lst (hX xs lo hi)) (fun b ob q=>Za _ q) (Zh _) ?_,rfl,q _ (I.hok.fresh (Zh _))⟩;exact⟨Zv (gm xs lo hi) hz,_,0,(r.drop (HT.sIx xs.length 0 lo)).take (HT.sIx xs.length xs.length hi - HT.sIx xs.length 0 lo),Zp _ rfl⟩
noncomputable def bA:V->Bool
 |.non=>true
 |.bl _=>true
 |.int _=>true
 |.str _=>true
 |_=>false
noncomputable def eqV:V->V->Bool
 |.non,.non=>true
 |.bl a,.bl b=>a == b
 |.bl a,.int b=>(if a then 1 else 0) == b
 |.int a,.bl b=>a == (if b then 1 else 0)
 |.int a,.int b=>a == b
 |.str a,.str b=>a == b
 |_,_=>false
theorem DY(ry:aq y u)(rx:aq x v)(fy:bA y=true)(fx:bA x=true):WF A s u v (eqV y x):=by
 cases y with
 |non=>
  cases ry;cases x with
  |non=>cases rx;exact SeqAt.EqAt.same _
  |bl b=>cases rx;exact SeqAt.EqAt.none_bool b
  |int b=>obtain⟨t,rfl⟩:=rx;exact SeqAt.EqAt.none_int b t
  |str b=>obtain⟨t,rfl⟩:=rx;exact SeqAt.EqAt.none_str b t
  |_=>exact absurd (show false=true from fx) Zb
 |bl a=>
  cases ry;cases x with
  |non=>cases rx;exact SeqAt.EqAt.bool_none a
  |bl b=>cases rx;exact SeqAt.EqAt.bool_bool a b
  |int b=>obtain⟨t,rfl⟩:=rx;exact SeqAt.EqAt.bool_int a b t
  |str b=>obtain⟨t,rfl⟩:=rx;exact SeqAt.EqAt.bool_str a b t
  |_=>exact absurd (show false=true from fx) Zb
 |int a=>
  obtain⟨t',rfl⟩:=ry;cases x with
  |non=>cases rx;exact SeqAt.EqAt.int_none a t'
  |bl b=>cases rx;exact SeqAt.EqAt.int_bool a t' b
  |int b=>obtain⟨t,rfl⟩:=rx;exact SeqAt.EqAt.int_int a t' b t
  |str b=>obtain⟨t,rfl⟩:=rx;exact SeqAt.EqAt.int_str a t' b t
  |_=>exact absurd (show false=true from fx) Zb
 |str a=>
  obtain⟨t',rfl⟩:=ry;cases x with
  |non=>cases rx;exact SeqAt.EqAt.str_none a t'
  |bl b=>cases rx;exact SeqAt.EqAt.str_bool a t' b
  |int b=>obtain⟨t,rfl⟩:=rx;exact SeqAt.EqAt.str_int a t' b t
  |str b=>obtain⟨t,rfl⟩:=rx;exact SeqAt.EqAt.str_str a t' b t
  |_=>exact absurd (show false=true from fx) Zb
 |_=>exact absurd (show false=true from fy) Zb
noncomputable def eqU(x:V)(u:Value):Bool:=match u with
 |.none=>eqV .non x
 |.bool b=>eqV (.bl b) x
 |.int i _=>eqV (.int i) x
 |.str z _=>eqV (.str z) x
 |_=>false
theorem j9(r:aq y u)(f:bA y=true):eqU x u=eqV y x:=by
 cases y with
 |non=>cases r;rfl
 |bl b=>cases r;rfl
 |int i=>obtain⟨t,rfl⟩:=r;rfl
 |str z=>obtain⟨t,rfl⟩:=r;rfl
 |_=>exact absurd (show false=true from f) Zb
theorem e8:∀ {xs:List V} {us:List Value},ax xs us->xs.all bA=true->us.any (eqU x)=xs.any fun y=>eqV y x
 |_,_,.nil,_=>rfl
 |y::xs,u::us,.cons r t,f=>by
  rw[ZW,bAE] at f;rw[Yi,Yi,j9 r f.1,e8 t f.2]
theorem bR(rx:aq x v)(fx:bA x=true):∀ {xs:List V} {us:List Value},ax xs us->xs.all bA=true->∀u ∈ us,WF A s u v (eqU x u)
 |_,_,.nil,_=>fun u hu=>by cases hu
 |y::xs,u::us,.cons r t,f=>fun u' hu=>by
  rw[ZW,bAE] at f;rcases Zk.mp hu with rfl |hu
  ·rw[j9 r f.1];exact DY r rx f.1 fx
  ·exact bR rx fx t f.2 u' hu
noncomputable def inV(x:V)(xs:List V):Bool:=xs.any fun y=>eqV y x
def rIn(K:WN)(neg:Bool):R2:=fun x y H Q=>∃p xs,y = .ref p/\(SqL K H p xs\/SqT K H p xs)/\bA x=true/\xs.all bA=true/\Q (.bl (if neg then !inV x xs else inV x xs)) H
theorem rF:OpR X (VC .In) (rIn X.K false):=by
 intro pins s σ H x y v u Q I rx ry h;obtain⟨p,xs,rfl,hq,fx,fs,q⟩:=h;cases ry;rcases hq with hq |hq
 ·obtain⟨its,r,pl,hz⟩:=I.list hq;refine WI (eqU x) pl.isList (fun w hw=>bR rx fx r fs w (by simpa using hw)) ⟨.bl _,H,I,rfl,?_⟩;rw[show its.toArray.any (eqU x)=its.any (eqU x) by simp,e8 r fs];exact q
 ·obtain⟨its,r,pl,hz⟩:=I.tuple hq;refine WJ (eqU x) pl (fun w hw=>bR rx fx r fs w (by simpa using hw)) ⟨.bl _,H,I,rfl,?_⟩;rw[show its.toArray.any (eqU x)=its.any (eqU x) by simp,e8 r fs];exact q
theorem ka:OpR X (VC .NotIn) (rIn X.K true):=by
 intro pins s σ H x y v u Q I rx ry h;obtain⟨p,xs,rfl,hq,fx,fs,q⟩:=h;cases ry;rcases hq with hq |hq
 ·obtain⟨its,r,pl,hz⟩:=I.list hq;refine WK (eqU x) pl.isList (fun w hw=>bR rx fx r fs w (by simpa using hw)) ⟨.bl _,H,I,rfl,?_⟩;rw[show its.toArray.any (eqU x)=its.any (eqU x) by simp,e8 r fs];exact q
 ·obtain⟨its,r,pl,hz⟩:=I.tuple hq;refine WL (eqU x) pl (fun w hw=>bR rx fx r fs w (by simpa using hw)) ⟨.bl _,H,I,rfl,?_⟩;rw[show its.toArray.any (eqU x)=its.any (eqU x) by simp,e8 r fs];exact q
theorem kc:au X (.builtin "len") (fun xs H Q=>∃p ys,xs=[.ref p]/\(SqL X.K H p ys\/SqT X.K H p ys)/\Q (.int ys.length) H):=by
 intro pins s σ H xs us Q I r h;obtain⟨p,ys,rfl,hq,q⟩:=h;obtain⟨u,rfl,rx⟩:=bq r;cases rx;have hn:=fN;rcases hq with hq |hq
 ·obtain⟨its,r',pl,hz⟩:=I.list hq;have hlen:=r'.length;exact Calls.call_len_list pl.isList (by simp only[Zc] <;> lia) ⟨.int ys.length,H,I.tok _,⟨s.toks+1,by rw[Zc,hlen]⟩,q⟩
 ·obtain⟨its,r',pl,hz⟩:=I.tuple hq;have hlen:=r'.length;exact len_tuple pl (by simp only[Zc] <;> lia) ⟨.int ys.length,H,I.tok _,⟨s.toks+1,by rw[Zc,hlen]⟩,q⟩
theorem kf:au X (.type "list") (fun xs H Q=>∃p ys,xs=[.ref p]/\(SqL X.K H p ys\/SqT X.K H p ys)/\∀l,H l=none->Q (.ref l) (upd H l (.lst ys))):=by
 intro pins s σ H xs us Q I r h;obtain⟨p,ys,rfl,hq,q⟩:=h;obtain⟨u,rfl,rx⟩:=bq r;cases rx
 have fin:∀ (its:List Value),ax ys its->ys.length<=sizeLine->∀ (h':Heap) (c':Nat),(∀b o',s.heap.get? b=some o'->h'.get? b=some o') ->
   h'.get? s.heap.objs.size=some { cls:=.type "list", dict:=none,data:=.seq its.toArray c',slots:=#[] }->EP X pins σ Q (.ref s.heap.objs.size) { s with heap:=h' }:=fun its r' hz h' c' kp e=>
  ⟨.ref s.heap.objs.size,_,I.laid (t':=s.toks) kp (Zh _) (show aX X.prog X.w _ h' _ (.lst ys) from ⟨hz,its,c',r',e⟩),rfl,q _ (I.hok.fresh (Zh _))⟩
 rcases hq with hq |hq
 ·obtain⟨its,r',pl,hz⟩:=I.list hq;have hlen:=r'.length;obtain⟨o,ho,hc,n,hd⟩:=pl.isList;exact call_list_seq p (.inl rfl) ho hc hd (fun h' c' kp e=>fin its r' hz h' c' kp e) (by simp only[Zc] <;> lia)
 ·obtain⟨its,r',pl,hz⟩:=I.tuple hq;have hlen:=r'.length;obtain⟨o,ho,hc,n,hd⟩:=pl;exact call_list_seq p (.inr rfl) ho hc hd (fun h' c' kp e=>fin its r' hz h' c' kp e) (by simp only[Zc] <;> lia)
theorem jf:au X (.type "tuple") (fun xs H Q=>∃p ys,xs=[.ref p]/\((SqL X.K H p ys/\∀l,H l=none->Q (.ref l) (upd H l (.tup ys)))\/(SqT X.K H p ys/\Q (.ref p) H))):=by
 intro pins s σ H xs us Q I r h;obtain⟨p,ys,rfl,h⟩:=h;obtain⟨u,rfl,rx⟩:=bq r;cases rx;rcases h with ⟨hq,q⟩ |⟨hq,q⟩
 ·obtain⟨its,r',pl,hz⟩:=I.list hq;have hlen:=r'.length;refine call_tuple_list pl.isList (fun h' kp=>?_) (by simp only[Zc] <;> lia);have I1:Inv X pins σ H { s with heap:=h' }:=I.kept (t':=s.toks) kp
  have I2:Inv X pins σ (upd H h'.objs.size (.tup ys)) { s with heap:=h'.push { cls:=.type "tuple", data:=.seq its.toArray } }:=
   I1.laid (t':=s.toks) (fun b o e=>Za _ e) (Zh _) (show aX X.prog X.w _ _ _ (.tup ys) from ⟨hz,its,r',j0.new _ _⟩)
  exact⟨.ref h'.objs.size,_,I2,rfl,q _ (I1.hok.fresh (Zh _))⟩
 ·obtain⟨its,r',pl,hz⟩:=I.tuple hq;exact call_tuple_same pl ⟨.ref p,H,I,rfl,q⟩
def tyV(K:WN)(T:String)(x:V)(H:Hp):Prop:=match x with
 |.str _=>T = "str"
 |.int _=>T = "int"
 |.ref p=>(T = "list"/\∃xs,SqL K H p xs)\/(T = "tuple"/\((∃o,K.lookup p=some o/\o.cls = .type "tuple"/\o.dict=none)\/∃xs,H p=some (.tup xs))) ∨
   (T = "dict"/\((∃kvs,H p=some (.dK kvs))\/∃kvs,H p=some (.dT kvs)))\/(T = "set"/\∃S n,H p=some (.set S n))
 |_=>False
theorem uq(I:Inv X pins σ H s)(r:aq x v)(ty:tyV X.K T x H) :
  s.TypeIs v T/\∀a,v = .ref a->∃ob,s.heap.get? a=some ob/\ob.dict=none:=by
 cases x with
 |str z=>
  obtain⟨t,rfl⟩:=r;cases (show T = "str" from ty);exact⟨typeIs_str s z t,fun _ e=>nomatch e⟩
 |int i=>
  obtain⟨t,rfl⟩:=r;cases (show T = "int" from ty);exact⟨Uk s i t,fun _ e=>nomatch e⟩
 |ref p=>
  cases r;rcases ty with ⟨rfl,xs,hq⟩ |⟨rfl,⟨o,hk,hc,hd⟩ |⟨xs,hk⟩⟩ |⟨rfl,hk⟩ |⟨rfl,S,n,hk⟩
  ·obtain⟨its,_,pl,_⟩:=I.list hq;refine⟨pl.isList.typeIs,fun a e=>?_⟩;cases e;obtain⟨o,n,e,c,hd,_⟩:=pl;exact⟨o,e,hd⟩
  ·refine⟨⟨o,I.kIn p o hk,hc⟩,fun a e=>?_⟩;cases e;exact⟨o,I.kIn _ o hk,hd⟩
  ·obtain⟨_,its,_,o,e,hc,_,_,hd⟩:=I.hok p _ hk;refine⟨⟨o,e,hc⟩,fun a e2=>?_⟩;cases e2;exact⟨o,e,hd⟩
  ·have z:∃o,s.heap.get? p=some o/\o.ExactDict:=by
    rcases hk with ⟨kvs,hk⟩ |⟨kvs,hk⟩
    ·obtain⟨_,_,_,_,o,_,_,e,ex,_⟩:=I.hok p _ hk;exact⟨o,e,ex⟩
    ·obtain⟨_,_,_,_,o,_,_,e,ex,_⟩:=I.hok p _ hk;exact⟨o,e,ex⟩
   obtain⟨o,e,ex⟩:=z;refine⟨⟨o,e,ex.1⟩,fun a e2=>?_⟩;cases e2;exact⟨o,e,ex.2.1⟩
  ·obtain⟨o,_,_,_,e,ex,_⟩:=I.hok p _ hk;refine⟨⟨o,e,ex.1⟩,fun a e2=>?_⟩;cases e2;exact⟨o,e,ex.2.1⟩
 |_=>exact False.elim ty
def IV(K:WN)(T:String)(r:V->List V->Hp->VK->Prop)(to:TE):TE:=fun σ H Q=>to σ H fun x H1=>tyV K T x H1/\r x [] H1 Q
def tBM(K:WN)(T:String)(r:V->List V->Hp->VK->Prop)(to:TE)(t:TA):TE:=fun σ H Q=>to σ H fun x H1=>tyV K T x H1/\t σ H1 fun xs H2=>r x xs H2 Q
variable {o e:Expr} {es:List Expr} {to:TE} {t:TA} {name:Str} {apos cpos:Pos} {T id:String} {r:V->List V->Hp->VK->Prop}
theorem DZ(pa:PlainAttrs T)(slot:Slot T name id)(hty:typeOf (.builtin id)=pure (.type "method_descriptor"))(hm:MtR X id r)(ho:PE X o to)
  (hbase:Vi o name X.env (eval o X.env)=eval o X.env:=by rfl) (hline:(apos.endLine == cpos.line)=true:=by rfl):PE X (.Call (.Attribute o name apos) [] [] cpos) (IV X.K T r to):=by
 intro pins s σ H Q I h;refine wpAny_Call_method0_late hbase hline (thn (ho pins s σ H _ I h) fun v s1 ⟨x,H1,I1,r1,ty,q1⟩=>?_);obtain⟨h1,h2⟩:=uq I1 r1 ty;exact⟨T,id,pa,slot,hty,h1,h2,XY rfl (PySem.evalArgs_none (hm pins s1 σ H1 x [] v [] Q I1 r1 .nil q1))⟩
theorem gp(pa:PlainAttrs T)(slot:Slot T name id)(hty:typeOf (.builtin id)=pure (.type "method_descriptor"))(hm:MtR X id r)(ho:PE X o to)(ha:PA X (e::es) t)
  (hbase:Vi o name X.env (eval o X.env)=eval o X.env:=by rfl)
  (hfew:((backTo cpos (Ue (e::es) X.env)).all (fun x=>!x.1) && (Vj cpos (VO [] X.env)).all (fun x=>x.1.isSome)
   && decide ((e::es).length+([]:List Keyword).length+(if ([]:List Keyword).isEmpty then 0 else 1) < 30))=true:=by rfl)
  (hline:(apos.endLine == cpos.line)=true:=by rfl) (hs:Ue (e::es) X.env=(false,eval e X.env)::Ue es X.env:=by rfl) (hplain:(backTo cpos (Ue es X.env)).any (·.1)=false:=by rfl) :
  PE X (.Call (.Attribute o name apos) (e::es) [] cpos) (tBM X.K T r to t):=by
 intro pins s σ H Q I h;refine wpAny_Call_method_late hbase hfew hline rfl (thn (ho pins s σ H _ I h) fun v s1 ⟨x,H1,I1,r1,ty,q1⟩=>?_);obtain⟨h1,h2⟩:=uq I1 r1 ty;refine⟨T,id,pa,slot,hty,h1,h2,?_⟩;have hA:=ha cpos pins s1 σ H1 _ I1 q1;rw[hs] at hA ⊢;refine XY (by show(false || (backTo cpos (Ue es X.env)).any (·.1))=false;rw[hplain] <;> rfl) (XZ ?_);exact thn hA fun us s2 ⟨vs,H2,I2,r2,q2⟩=>hm pins s2 σ H2 x vs v us Q I2 r1 r2 q2
end
def MtM(X:Cx)(id:String)(r:V->List V->Hp->VK->Prop):Prop:=
 ∀ (pins:List (Addr × Obj)) (s:Shared) (σ:St) (H:Hp) (x:V) (xs:List V) (v:Value) (us:List Value) (Q:VK),Inv X pins σ H s->aq x v->ax xs us->r x xs H Q ->
  wpAny (model X.prog X.w) X.A (call (.builtin id) (v::us)) (EP X pins σ Q) X.xe s
theorem ax.one:∀ {x:V} {us:List Value},ax [x] us->∃u,us=[u]/\aq x u
 |_,_,.cons r .nil=>⟨_,rfl,r⟩
theorem ax.zero:∀ {us:List Value},ax [] us->us=[]
 |_,.nil=>rfl
theorem ax.dropLast{xs:List V}{us:List Value}(h:ax xs us):ax xs.dropLast us.dropLast:=by
 induction h with
 |nil=>exact .nil
 |cons r t ih=>
  cases t with
  |nil=>exact .nil
  |cons q t'=>exact .cons r ih
theorem ax.eraseIdx:∀ {xs:List V} {us:List Value} (i:Nat),ax xs us->ax (xs.eraseIdx i) (us.eraseIdx i)
 |_,_,_,.nil=>.nil
 |_,_,0,.cons _ t=>t
 |_,_,i+1,.cons r t=>.cons r (ax.eraseIdx i t)
theorem ax.rep(h:ax xs us):∀k:Nat,ax (Zi k xs).flatten (Zi k us).flatten
 |0=>.nil
 |k+1=>by
  rw[ZS,ZS,Z3,Z3];exact ax.append h (ax.rep h k)
theorem eB{α:Type}(l:List α):l.eraseIdx (l.length - 1)=l.dropLast:=by
 induction l with
 |nil=>rfl
 |cons a r ih=>
  cases r with
  |nil=>rfl
  |cons b r=>
   have e:(a::b::r).length - 1=((b::r).length - 1)+1:=by
    have h1:(a::b::r).length=r.length+2:=rfl;have h2:(b::r).length=r.length+1:=rfl
    lia
   rw[e,List.eraseIdx_cons_succ,ih]
   all_goals rfl
theorem jx{α:Type}:∀ (l:List α) (i:Nat),(l.eraseIdx i).length<=l.length
 |[],_=>Zh _
 |_::_,0=>ZX _
 |_::r,i+1=>Xh (jx r i)
theorem dP(its:List Value):∀ (k:Nat) (acc:List Value),
  Yz (fun x1 x2=>x1++x2) acc.toArray (Zi k its.toArray)=(acc++(Zi k its).flatten).toArray
 |0,acc=>by simp
 |k+1,acc=>by
  have e:acc.toArray++its.toArray=(acc++its).toArray:=by simp
  have e2:(acc++its)++(Zi k its).flatten=acc++(Zi (k+1) its).flatten:=by
   rw[ZS,Z3,Z9]
  rw[<-e2,<-dP its k (acc++its),<-e,ZS,YT]
section
variable {X:Cx} {pins:List (Addr × Obj)} {σ:St} {H:Hp} {s:Shared} {l b:Addr} {xs ys zs:List V}
theorem Inv.lset{its its':List Value}{n:Nat}{f:Array Value->Array Value}{t':Nat}(I:Inv X pins σ H s)(hH:H l=some (.lst xs))
  (e:s.heap.get? l=some { cls:=.type "list", data:=.seq its.toArray n }) (hf:f its.toArray=its'.toArray) (hv:ax ys its') (hz:ys.length<=sizeLine) :
  Inv X pins σ (upd H l (.lst ys)) { s with heap:=s.heap.update l (Obj.mapSeq f),toks:=t' }:=by
 have q:=PySem.IsL.update e f;rw[hf] at q;refine I.write (x:=l) (e:=l) (by rw[hH];exact trivial) (.inl rfl) (fun b' u hb hu=>(Zw s.heap (Obj.mapSeq f) (Ne.symm hb)).trans hu) ⟨_,q⟩ ?_;exact⟨hz,its',_,hv,q⟩
theorem Inv.lnew{t':Nat}(I:Inv X pins σ H s)(hv:ax ys its)(hz:ys.length<=sizeLine) :
  Inv X pins σ (upd H s.heap.objs.size (.lst ys)) { s with heap:=s.heap.push { cls:=.type "list", data:=.seq its.toArray },toks:=t' }:=
 I.laid (fun _ _ q=>Za _ q) (Zh _) ⟨hz,its,0,hv,Zp _ rfl⟩
theorem Inv.fresh(I:Inv X pins σ H s):H s.heap.objs.size=none:=I.hok.fresh (Zh _)
theorem Inv.lstM(I:Inv X pins σ H s)(hH:H l=some (.lst xs)):xs.length<=sizeLine/\∃ (its:List Value) (n:Nat),ax xs its/\xs.length=its.length/\s.heap.get? l=some { cls:=.type "list", data:=.seq its.toArray n }:=by
 obtain⟨z,its,n,r,e⟩:=I.hok l _ hH;exact⟨z,its,n,r,r.length,e⟩
theorem ls{n:Nat}(h:n<=sizeLine):Builtin.List.listTooLong n=false:=by
 unfold Builtin.List.listTooLong;exact decide_eq_false (by lia)
end
section
variable {X:Cx}
def yJ:V->List V->Hp->VK->Prop:=fun x vs H Q=>∃l xs y,x = .ref l/\vs=[y]/\H l=some (.lst xs)/\xs.length < sizeLine/\Q .non (upd H l (.lst (xs++[y])))
theorem jy:MtM X "list.append" yJ:=by
 intro pins s σ H x vs v us Q I rx rv h;obtain⟨l,xs,y,rfl,rfl,hH,hz,q⟩:=h;cases rx;obtain⟨u,rfl,ru⟩:=rv.one;obtain⟨z,its,n,r,hl,e⟩:=I.lstM hH;refine Vs Wf ⟨_,e,rfl⟩ F.entry_list_append (F.args_list_append_2 _ _) (PySem.list_append l its.toArray n u (by rw[Zc];lia)) ⟨e,?_⟩;refine⟨.non,_,I.lset (its':=its++[u]) hH e (by simp) (r.append (.cons ru .nil)) ?_,rfl,q⟩;rw[Zm,YV]
 lia
def yK:V->List V->Hp->VK->Prop:=fun x vs H Q=>∃l b xs zs,x = .ref l/\vs=[.ref b]/\H l=some (.lst xs)/\H b=some (.lst zs)/\xs.length+zs.length<=sizeLine/\Q .non (upd H l (.lst (xs++zs)))
theorem rG:MtM X "list.extend" yK:=by
 intro pins s σ H x vs v us Q I rx rv h;obtain⟨l,b,xs,zs,rfl,rfl,hH,hB,hz,q⟩:=h;cases rx;obtain⟨u,rfl,ru⟩:=rv.one;cases ru;obtain⟨z,its,n,r,hl,e⟩:=I.lstM hH;obtain⟨z2,its2,n2,r2,hl2,e2⟩:=I.lstM hB;have hsz:its.toArray.size+its2.toArray.size<=sizeLine:=by rw[Zc,Zc];lia
 have hlong:¬ (!its.toArray.isEmpty && Builtin.List.listTooLong (its.toArray.size+its2.toArray.size))=true:=by
  rw[ls hsz,Bool.and_false];exact Zb
 refine Vs Wh ⟨_,e,rfl⟩ F.entry_list_extend (F.args_list_extend_2 _ _)
  (AutoSeq1.list_extend_list_list_0 l its.toArray n b its2.toArray n2 hlong (by rw[Zc];lia) (by lia)) ⟨e,e2,?_⟩
 refine⟨.non,_,I.lset (its':=its++its2) hH e (by simp) (r.append r2) ?_,rfl,q⟩;rw[Zm]
 lia
def LC:V->List V->Hp->VK->Prop:=fun x vs H Q=>∃l xs y,x = .ref l/\vs=[]/\H l=some (.lst xs)/\xs[xs.length - 1]?=some y/\Q y (upd H l (.lst xs.dropLast))
theorem D0:MtM X "list.pop" LC:=by
 intro pins s σ H x vs v us Q I rx rv h;obtain⟨l,xs,y,rfl,rfl,hH,hy,q⟩:=h;cases rx;have hus:=rv.zero;subst hus;obtain⟨z,its,n,r,hl,e⟩:=I.lstM hH;obtain⟨u,hu,ru⟩:=r.get hy
 have hy':its.toArray[its.toArray.size - 1]?=some u:=by
  show its.toArray[its.length - 1]?=some u;rw[<-YW,<-hl];exact hu
 refine Vs Wl ⟨_,e,rfl⟩ F.entry_list_pop (F.args_list_pop_1 _) (MeetsSeq.list_pop_last l its.toArray n u hy' (by rw[Zc];lia)) ⟨e,?_⟩;refine⟨y,_,I.lset (its':=its.dropLast) hH e ?_ r.dropLast ?_,ru,q⟩
 ·show its.toArray.eraseIdxIfInBounds (its.toArray.size - 1)=its.dropLast.toArray;rw[Zc,Yk,eB]
 ·rw[List.length_dropLast]
  lia
def D1:V->List V->Hp->VK->Prop:=fun x vs H Q=>∃l xs i k y,x = .ref l/\vs=[.int i]/\H l=some (.lst xs)/\-(2 ^ 63)<=i/\i < 2 ^ 63/\seqIndex? i xs.length=some k/\xs[k]?=some y/\Q y (upd H l (.lst (xs.eraseIdx k)))
theorem ur:MtM X "list.pop" D1:=by
 intro pins s σ H x vs v us Q I rx rv h;obtain⟨l,xs,i,k,y,rfl,rfl,hH,h1,h2,hk,hy,q⟩:=h;cases rx;obtain⟨u,rfl,ru⟩:=rv.one;obtain⟨t,rfl⟩:=ru;obtain⟨z,its,n,r,hl,e⟩:=I.lstM hH;obtain⟨w,hw,rw'⟩:=r.get hy
 refine Vs Wl ⟨_,e,rfl⟩ F.entry_list_pop (F.args_list_pop_2 _ _)
  (MeetsSeq.list_pop_at l its.toArray n i t k w (fitsIndex_both h1 h2) (by rw[Zc,<-hl];exact hk) (by rw[<-YW];exact hw) (by rw[Zc];lia)) ⟨e,?_⟩
 refine⟨y,_,I.lset (its':=its.eraseIdx k) hH e ?_ (r.eraseIdx k) ?_,rw',q⟩
 ·show its.toArray.eraseIdxIfInBounds k=(its.eraseIdx k).toArray;rw[Yk]
 ·have:=jx xs k
  lia
def LG:R2:=fun x y H Q=>∃l b xs zs,x = .ref l/\y = .ref b/\H l=some (.lst xs)/\H b=some (.lst zs)/\xs.length+zs.length<=sizeLine/\∀p,H p=none->Q (.ref p) (upd H p (.lst (xs++zs)))
theorem nK:OpR X (Vl .Add) LG:=by
 intro pins s σ H x y v u Q I rx ry h;obtain⟨l,b,xs,zs,rfl,rfl,hH,hB,hz,q⟩:=h;cases rx;cases ry;obtain⟨z,its,n,r,hl,e⟩:=I.lstM hH;obtain⟨z2,its2,n2,r2,hl2,e2⟩:=I.lstM hB;refine PySem.P.add_list e e2 ?_ (by rw[Zc,Zc];lia);have ea:its.toArray++its2.toArray=(its++its2).toArray:=by simp
 rw[ea];exact⟨.ref _,_,I.lnew (t':=s.toks) (r.append r2) (by rw[Zm];lia),rfl,q _ I.fresh⟩
def LH:R2:=fun x y H Q=>∃l k xs,x = .ref l/\y = .int k/\H l=some (.lst xs)/\-(2 ^ 63)<=k/\k < 2 ^ 63/\xs.length * k.toNat<=sizeLine ∧
 ∀p,H p=none->Q (.ref p) (upd H p (.lst (Zi k.toNat xs).flatten))
theorem kg{α:Type}(xs:List α)(k:Nat):(Zi k xs).flatten.length=k * xs.length:=by
 induction k with
 |zero=>simp
 |succ k ih=>rw[ZS,Z3,Zm,ih,Nat.succ_mul,Nat.add_comm]
theorem D2:OpR X (Vl .Mult) LH:=by
 intro pins s σ H x y v u Q I rx ry h;obtain⟨l,k,xs,rfl,rfl,hH,h1,h2,hz,q⟩:=h;cases rx;obtain⟨t,rfl⟩:=ry;obtain⟨z,its,n,r,hl,e⟩:=I.lstM hH;have hlen:its.toArray.size * k.toNat<=sizeLine:=by rw[Zc,<-hl];exact hz
 have hcap:¬ its.toArray.size * k.toNat > (2 ^ 63 - 1) / 8:=by
  have:(sizeLine:Nat)<=(2 ^ 63 - 1) / 8:=by decide
  lia
 have hfit:¬ (!Builtin.List.listFitsIndex k)=true:=by
  rw[fitsIndex_both h1 h2];exact Zb
 have hlong:¬ Builtin.List.listTooLong (its.toArray.size * k.toNat)=true:=by
  rw[ls hlen];exact Zb
 have hnew:Yz (fun x1 x2=>x1++x2) #[] (Zi (if its.toArray.isEmpty=true then 0 else k.toNat) its.toArray)=(Zi k.toNat its).flatten.toArray:=by
  have f0:∀m:Nat,Yz (fun x1 x2=>x1++x2) #[] (Zi m its.toArray)=(Zi m its).flatten.toArray:=fun m=>by
   have:=dP its m [];rw[Yt] at this;exact this
  rw[f0];cases its with
  |nil=>simp
  |cons a r'=>rw[if_neg (by simp)]
 refine Uq (T := "list") (U := "int") (by decide) ⟨_,e,rfl⟩ (fun s'=>Uk s' k t) noFill_list_mul F.fills_int_mul We repeat_list F.slot_int_index.lookup
  (Vs We (Uk s k t) F.entry_int_rmul (F.args_int_rmul_2 _ _) (int___rmul___int_list k t l its.toArray n)
   ⟨e,rfl,⟨_,e,rfl⟩,Vs F.slot_list_mul ⟨_,e,rfl⟩ F.entry_list_mul (F.args_list_mul_2 _ _) (AutoListH.list___mul___list_int_3 l its.toArray n k t hfit hcap hlong) ⟨e,?_⟩⟩)
 rw[hnew];exact⟨.ref _,_,I.lnew (t':=s.toks) (r.rep k.toNat) (by rw[kg,Y9];exact hz),rfl,q _ I.fresh⟩
end
end L2
namespace Att
open PySem PySem.W PySem.Calls PyProof.Rows
theorem gA:∀ (ns:List Int) (vs:List Value),WellAll P h vs (ns.map WData.int)->IntsAre vs ns:=by
 intro ns
 induction ns with
 |nil=>
  intro vs w;rw[ZO] at w;cases w;exact .nil
 |cons n ns ih=>
  intro vs w;rw[Zq] at w;cases w with
  |cons a b=>
   cases a;exact .cons _ _ (ih _ b)
theorem rH{l:OpenLaw}{n:Nat}(hn:l.most=some n){P:Params}{h:Heap}{args:List WData}{vals:List Value}
  (hpre:l.row.toRowW.claim.pre args=true) (hwl:WellAll P h vals args) :
  ∃a vs ns,vals=[Value.ref a]/\args=[WData.list (ns.map WData.int)]/\h.get? a=some { cls:=.type "list", data:=.seq vs.toArray }/\IntsAre vs ns/\ns.length<=n:=by
 have hsh:WShape.hasAll [] args [.list .int]=true:=(pre_splitW hpre).1;have hc:l.pre.holds [] { args:=args }=true:=(pre_splitW hpre).2;obtain⟨d,r,rfl,h1,h2⟩:=hasAllW_cons hsh;obtain rfl:=hasAllW_nil h2;obtain⟨xs,rfl,h3⟩:=hasW_list h1;obtain⟨ns,rfl⟩:=items_int h3
 have hlen:ns.length<=n:=by
  unfold OpenLaw.pre at hc
  have h4:(WTm.not (.lt (.lit (.int (n:Int))) (.len (.arg 0)))).holds [] { args:=[.list (ns.map .int)] }=true:=by
   have h4:=(holds_andW hc).1;rw[hn] at h4;exact h4
  have h5:=condW_of h4 (w_not (w_lt w_lit (w_len_list (w_arg rfl))));rw[Ze] at h5;refine Nat.le_of_not_lt fun q=>?_;have q':(n:Int) < ((ns.length:Nat):Int):=by lia
  first
   |(rw[decide_eq_true q'] at h5;exact absurd h5 (by decide))
   |(simp at h5;lia)
 cases hwl with
 |cons w1 w2=>
  cases w2;cases w1 with
  |list ho hall=>exact⟨_,_,ns,rfl,rfl,ho,gA ns _ hall,hlen⟩
theorem rJ(l:OpenLaw)(args:List WData):l.row.toRowW.claim.post args (.bool true) args=true:=
 postW_of (r:=l.row.toRowW) (X:=(true == true))
  (show WShape.has [] (.bool true) .bool=true by first |rfl |decide |simp[WShape.has,WShape.arms,WShape.armsAll])
  (show(WTm.eq .res (.lit (.bool true))).value [] { args:=args,res:=some (.bool true),after:=args }=some (.bool (true == true)) from w_eq_bool (w_res rfl) w_lit) rfl
theorem attach_call{l:OpenLaw}{n:Nat}{q:Program}{loose:List Str}{XP:(Str->Option Value)->Heap->Prop}{YP:World->Heap->Prop}{d:DefRec}
  (hn:l.most=some n) (hdf:d.params.defaults=[])
  (call:∀ (w:World) (s₀ s₁:Shared) (mg mb:Str->Option Value) (fa:Addr) (o:Obj) (pm cd doc:Value) (a:Addr) (vs:List Value) (ns:List Int),
   Ground q loose [] XP w s₀ mg mb s₁.heap->YP w s₁.heap ->
   s₁.heap.get? fa=some o->o.data = .func (docDef d.name d.params d.body d.scope pm cd doc)->s₁.heap.CodeRec cd d.name->mg d.name=some (.ref fa) ->
   s₁.heap.get? a=some { cls:=.type "list", data:=.seq vs.toArray }->IntsAre vs ns->ns.length<=n->s₁.gens=#[] ->
   codeAny (model l.prog w) callerA (.call (.ref fa) ⟨[.ref a],[]⟩) (fun r s'=>r = .ok (.ret (.bool true))/\OldK s₁.heap s'.heap/\s'.os=s₁.os/\AllBare s'.gens) s₁) :
  WalkO q loose XP YP l.row.toRowW d [] (fun f vs=>PySem.call f vs):=by
 intro w s₀ s₁ mg mb G Y fa o pm cd doc dV kV ho hd hcd hD hmg hg args vals as hpre hlay hrd hwl hlo;obtain rfl:dV = .none:=Dflts.none hD hdf;obtain rfl:kV = .none:=Dflts.noKw hD;obtain⟨a,vs,ns,rfl,rfl,hobj,hints,hlen⟩:=rH hn hpre hwl;refine enter_call (VB (call w s₀ s₁ mg mb fa o pm cd doc a vs ns G Y ho (fd_plain hd) hcd hmg hobj hints hlen hg) fun r s' hq=>?_);obtain⟨rfl,h2,h3,h4⟩:=hq;exact⟨.inl ⟨.bool true,.bool true,[],rfl,fun _=>rfl,.bool true,rJ l _,fun _=>⟨List.Pairwise.nil,fun _ hm=>(nomatch hm)⟩⟩,h2,h3,h4⟩
end Att
namespace L2
open PySem PySem.Spec PyProof.Rows
theorem fO:∀ {vs:List Value} {ns:List Int},IntsAre vs ns->ax (ns.map V.int) vs
 |_,_,.nil=>.nil
 |_,_,.cons n t h=>.cons ⟨t,rfl⟩ (fO h)
def IW(H:Hp):Prop:=∀b,H b=none\/∃o xs,H b=some (.frz o (.lst xs))
theorem ut{P:Program}{w:World}{K:WN}{mg mb:Str->Option Value}{CX:CXT}{k:Nat}{fa a:Addr}{fd:Ws}{x:Str}{sp:Sp}{s₁:Shared}{vs:List Value}{ns:List Int}
  (KX:K.In s₁.heap) (hns:s₁.heap.Ns VS mg) (hb:s₁.heap.Ns Vq mb) (hbb:∀x:Str,x ≠ "__name__"->mb x=Vo x) (hlim:s₁.heap.NoLimit) (hg:s₁.gens=#[])
  (ha:s₁.heap.get? a=some { cls:=.type "list", data:=.seq vs.toArray }) (hi:IntsAre vs ns) (hl:ns.length<=sizeLine) (hr:Room k callerA)
  (F:∀base:Heap,K.In base->base.Ns VS mg->FnOk P w K mg base CX k fa fd [x] sp) (hbind:∀ (s:Shared) (u:Value),BindsTo s fd ⟨[u],[]⟩ [(x,u)])
  (hsp:∀H:Hp,IW H->SqL K H a (ns.map V.int)->sp [.ref a] H (fun v _=>v = .bl true) fun _ _ _=>False)
  (hCX:∀H e s',CX [] H s₁ (fun _ _ _=>False) e s'->False) :
  codeAny (model P w) callerA (.call (.ref fa) ⟨[.ref a],[]⟩) (fun r s'=>r = .ok (.ret (.bool true))/\OldK s₁.heap s'.heap/\s'.os=s₁.os/\AllBare s'.gens) s₁:=by
 have rv:=fO hi;have lenV:=hi.length
 have core:∀H:Hp,IW H->SqL K H a (ns.map V.int)->HOk P w H s₁.heap->(∀b,H b ≠ none->b=a)->(H a ≠ none->K.lookup a=none) ->
   codeAny (model P w) callerA (.call (.ref fa) ⟨[.ref a],[]⟩) (fun r s'=>r = .ok (.ret (.bool true))/\OldK s₁.heap s'.heap/\s'.os=s₁.os/\AllBare s'.gens) s₁:=by
  intro H hO hS hok hA hK;have base_of:∀ {b:Addr} {o:Obj},s₁.heap.get? b=some o->H b=none->(j3 s₁.heap H).get? b=some o:=fun e n=>tP e n
  have noA:∀ {b:Addr} {o:Obj} {es:Array X1} {ep:Nat},s₁.heap.get? b=some o->o.data = .dict es ep->H b=none:=fun {b o es ep} e d=>by
   cases q:H b with
   |none=>rfl
   |some u=>
    have e':b=a:=hA b (by rw[q];simp);subst e';rw[ha] at e;cases e;have d':Data.seq vs.toArray _=Data.dict es ep:=d;cases d'
  have nsK:∀ {b:Addr} {m:Str->Option Value},s₁.heap.Ns b m->(j3 s₁.heap H).Ns b m:=fun {b m} ⟨o,es,ep,e,d,r⟩=>⟨o,es,ep,base_of e (noA e d),d,r⟩
  have hKb:K.In (j3 s₁.heap H):=fun b o e=>base_of (KX b o e) (by
   cases q:H b with
   |none=>rfl
   |some u=>
    have e':b=a:=hA b (by rw[q];simp);subst e';rw[hK (by rw[q];simp)] at e;cases e)
  have hM:Mod K mg (j3 s₁.heap H):=⟨hKb,nsK hns,⟨mb,nsK hb,hbb⟩,let ⟨mc,h1,h2⟩:=hlim;⟨mc,nsK h1,h2⟩⟩;have e0:Env0 P w K mg (j3 s₁.heap H) callerA [] s₁ H:=⟨rfl,hM,fun b o e=>yo e,Nat.le_of_eq (rf _ _),trivial,fun b hb=>absurd (show b ∈ ([]:List Addr) from hb) (by simp),hok,.of_eq hg⟩;refine VB ((F _ hKb (nsK hns)).run callerA [] s₁ H ⟨[.ref a],[]⟩ [.ref a] [.ref a] _ _ hr e0 (hbind s₁ (.ref a)) (.cons rfl .nil) (hsp H hO hS)) fun r s' h=>?_;cases r with
  |error e=>exact(hCX H e s' h).elim
  |ok fl=>
   cases fl with
   |next=>exact False.elim h
   |brk=>exact False.elim h
   |cont=>exact False.elim h
   |ret u=>
    obtain⟨v,H',os,bare,un,hok',r',q⟩:=h;have q':v = .bl true:=q;subst q';obtain rfl:u=Value.bool true:=r';refine⟨rfl,OldK.of_keep fun b o e=>?_,os,bare⟩;cases q:H b with
    |none=>exact un.keep b o e q (by intro z;exact absurd (show b ∈ ([]:List Addr) from z) (by simp)) (by simp)
    |some u=>
     rcases hO b with z |⟨ob,xs,z⟩
     ·rw[q] at z;cases z
     ·have z2:=un.frzs b ob _ z;obtain⟨e1,_⟩:=hok b _ z;obtain⟨e2,_⟩:=hok' b _ z2;rw[e] at e1;cases e1;exact e2
 cases hk:K.lookup a with
 |some o=>
  have e:=KX a o hk;rw[ha] at e;cases e;refine core (fun _=>none) (fun _=>.inl rfl) (.inr ⟨_,vs.toArray,_,hk,rfl,rfl,rfl,by rw[Zc,lenV];exact hl,by simpa using rv⟩) (fun b u z=>by have z':(none:Option HO)=some u:=z;cases z') (fun b z=>absurd rfl z) fun z=>absurd rfl z
 |none=>
  refine core (fun b=>if b=a then some (.frz { cls:=.type "list", data:=.seq vs.toArray } (.lst (ns.map V.int))) else none) (fun b=>?_) (.inl (.inr ⟨{ cls:=.type "list", data:=.seq vs.toArray },if_pos rfl⟩)) (fun b u z=>?_) (fun b z=>?_) fun _=>hk
  ·by_cases hb:b=a
   ·exact .inr ⟨_,_,if_pos hb⟩
   ·exact .inl (if_neg hb)
  ·by_cases hb:b=a
   ·have z':=(if_pos hb).symm.trans z;cases z';subst hb;exact⟨ha,by rw[Ze];exact hl,vs,_,rv,ha⟩
   ·have z':=(if_neg hb).symm.trans z;cases z'
  ·by_cases hb:b=a
   ·exact hb
   ·exact absurd (if_neg hb) z
noncomputable def yL(s:Stmt)(j:Nat):Stmt:=match s with
 |.ClassDef _ _ _ body _ _ _ _ _ _ _=>body.getD j (.Pass ⟨0,0,0,0⟩)
 |_=>.Pass ⟨0,0,0,0⟩
abbrev CX0:CXT:=fun _ _ _ _ _ _=>False
abbrev E0:XK:=fun _ _ _=>False
structure Fun(K:WN)(x qual:Str)(st:Stmt)(f:Addr)(fd:Ws):Prop where
 ex:∃ (oc:Value) (od:Option Addr) (kV doc pm:Value) (an:Option Addr) (cdv ct:Value) (osl:Array (Option Value)),
  fd=WX x qual (bM st) (aI st) (ag st) .none kV doc pm an cdv ct/\K.lookup f=some ⟨oc,od,.func fd,osl⟩/\WT K cdv qual=true
 kp:W2 K (.ref f)=true
section
variable {P:Program} {w:World} {K:WN} {mg:Str->Option Value} {base:Heap}
theorem Fun.binds{x qual:Str}{st:Stmt}{f:Addr}{fd:Ws}{ps:List Str}(F:Fun K x qual st f fd)
  (h:∀ (kV doc pm:Value) (an:Option Addr) (cdv ct:Value) (us:List Value),us.length=ps.length->Vm (WX x qual (bM st) (aI st) (ag st) .none kV doc pm an cdv ct) ⟨us,[]⟩=pure (ps.zip us)):bX K fd ps []:=by
 obtain⟨oc,od,kV,doc,pm,an,cdv,ct,osl,rfl,lk,hcd⟩:=F.ex;exact .all (h kV doc pm an cdv ct)
theorem uu{x qual:Str}{st:Stmt}{f:Addr}{oc:Value}{od an:Option Addr}{osl:Array (Option Value)}{kV doc pm cdv ct:Value}(l:K.lookup f=some ⟨oc,od,.func (WX x qual (bM st) (aI st) (ag st) .none kV doc pm an cdv ct),osl⟩)
  (c:WT K cdv qual=true) (k:W2 K (.ref f)=true):Fun K x qual st f (WX x qual (bM st) (aI st) (ag st) .none kV doc pm an cdv ct):=⟨⟨oc,od,kV,doc,pm,an,cdv,ct,osl,rfl,l,c⟩,k⟩
end
theorem jz{n:Nat}(h:n<=1000):n < sizeLine:=Y6 h (by decide)
noncomputable def ki(ifs:List Expr)(env:Env):Sem Bool:=
 forIn ifs true fun c r=>if r=true then do let ok <-isTrue c env (eval c env);pure (ForInStep.yield ok) else pure (ForInStep.yield r)
theorem yM{d:Nat}
  (hg:gens[d]?=some ⟨tg,iter,ifs,0⟩)
  (h:wpAny M A (pyNext it) (fun r s1=>match r with
   |none=>Q (.done .next) s1
   | some v=>wpAny M A (VP tg it v) (fun _ s2=>wpAny M A (assign tg env v) (fun _ s3=>wpAny M A (ki ifs env) (fun ok s4=>if ok=true then (match gens[d+1]? with
     |none=>wpAny M A (eval elt env) (fun x s5=>wpAny M A (call (.builtin "list.append") [acc,x]) (fun _ s6=>Q (.again (.compLoop (.ListComp elt gens scope pos) d it acc env)) s6) E s5) E s4
     | some g'=>g'.is_async=0/\wpAny M A (eval g'.iter env) (fun x s5=>wpAny M A (VH g'.iter env x) (fun x' s6=>wpAny M A (pyIter x') (fun it' s7=>
       wpAny M A (runOwn (.compStart (.ListComp elt gens scope pos) (d+1) it' acc env) env) (fun _ s8=>Q (.again (.compLoop (.ListComp elt gens scope pos) d it acc env)) s8) E s7) E s6) E s5) E s4)
    else Q (.again (.compLoop (.ListComp elt gens scope pos) d it acc env)) s4) E s3) E s2) E s1) E s) :
  wpAny M A (compTurn (.ListComp elt gens scope pos) d it acc env) Q E s:=by
 unfold compTurn;simp only[hg];refine Ur (UX ?_);show wpAny M A (pyNext it >>= _) Q E s;refine Ur (UI h (fun r s1 h1=>?_) fun _ _ x=>x);cases r with
 |none=>exact UO h1
 |some v=>
  refine Ur (UI h1 (fun _ s2 h2=>?_) fun _ _ x=>x);refine Ur (UI h2 (fun _ s3 h3=>?_) fun _ _ x=>x);refine Ur (UI h3 (fun ok s4 h4=>?_) fun _ _ x=>x);cases ok with
  |false=>exact UO h4
  |true=>
   simp only[if_true] at h4 ⊢;cases hn:gens[d+1]? with
   |none=>
    rw[hn] at h4;refine Ur (Ur (UI h4 (fun x s5 h5=>?_) fun _ _ x=>x));exact Ur (UI h5 (fun _ s6 h6=>UO (UO h6)) fun _ _ x=>x)
   |some g'=>
    rw[hn] at h4;obtain⟨ha,h4⟩:=h4;refine Ur (UI h4 (fun x s5 h5=>Ur (UX ?_)) fun _ _ x=>x);rw[ha];show wpAny M A (VH g'.iter env x >>= _) Q E s5;refine Ur (UI h5 (fun x' s6 h6=>?_) fun _ _ x=>x);refine Ur (UB (UI h6 (fun it' s7 h7=>?_) fun _ _ x=>x));exact Ur (UI h7 (fun _ s8 h8=>UO h8) fun _ _ x=>x)
noncomputable def bG(cells:List (Str × Addr)):List (Str × Wu)->List (Str × Addr)->List (Str × Addr)
 |[],acc=>acc
 |(n,k)::r,acc=>if k == .free then bG cells r ((n,(cells.lookup n).getD 0)::acc) else bG cells r acc
theorem eC:∀ (names:List (Str × Wu)) (acc:List (Str × Addr)),(∀y ∈ names,y.2 = .free->∃c,env.cells.lookup y.1=some c) ->
  (forIn names acc fun(x:Str × Wu) (cs:List (Str × Addr))=>(match x with |(name,kind)=>if kind == .free then (do let a <-cellOf env name;pure (ForInStep.yield ((name,a)::cs))) else pure (ForInStep.yield cs):Sem (ForInStep (List (Str × Addr)))))
   = (pure (bG env.cells names acc):Sem (List (Str × Addr)))
 |[],acc,_=>by rw[YA];rfl
 |(n,k)::r,acc,h=>by
  rw[Xn];have hr:∀y ∈ r,y.2 = .free->∃c,env.cells.lookup y.1=some c:=fun y hy=>h y (Zd _ hy);cases hk:(k == NameKind.free) with
  |true=>
   obtain⟨c,hc⟩:=h (n,k) Zg (by simpa using hk);have e:cellOf env n=pure c:=by unfold cellOf;rw[show env.cells.lookup n=some c from hc]
   simp only[hk,if_true,e,pure_bind];rw[eC r _ hr]
   conv=>rhs;rw[bG]
   simp only[hk,if_true];rw[show env.cells.lookup n=some c from hc];rfl
  |false=>
   simp only[hk,ZM,if_false,pure_bind];rw[eC r _ hr]
   conv=>rhs;rw[bG]
   simp only[hk,ZM,if_false]
theorem p5(h:∀y ∈ scope.names,y.2 = .free->∃c,env.cells.lookup y.1=some c):closureFor scope env=pure (bG env.cells scope.names []):=by
 have e:=eC (env:=env) scope.names [] h;unfold closureFor;refine Eq.trans ?_ e
 first
  |rfl
  |(rw[bind_pure])
  |(simp only[bind_pure])
theorem fP:∀ {names:List (Str × Wu)} {acc:List (Str × Addr)} {x:Str} {c:Addr},(x,c) ∈ bG cells names acc->(x,c) ∈ acc\/((x,NameKind.free) ∈ names/\c=(cells.lookup x).getD 0)
 |[],_,_,_,h=>.inl h
 |(n,k)::r,acc,x,c,h=>by
  unfold bG at h;split at h
  ·rename_i hk;have hk':k = .free:=by simpa using hk
   rcases fP h with e |⟨e,q⟩
   ·rcases Zk.mp e with e |e
    ·cases e;exact .inr ⟨by rw[hk'];exact Zg,rfl⟩
    ·exact .inl e
   ·exact .inr ⟨Zd _ e,q⟩
  ·rcases fP h with e |⟨e,q⟩
   ·exact .inl e
   ·exact .inr ⟨Zd _ e,q⟩
theorem dh:∀ {l:List (Str × Addr)},(∃c,(x,c) ∈ l)->∃c,l.lookup x=some c
 |[],⟨_,h⟩=>nomatch h
 |(n,c)::r,⟨c',h⟩=>by
  rw[ZA];cases hb:x == n with
  |true=>exact⟨c,rfl⟩
  |false=>
   rcases Zk.mp h with e |e
   ·cases e;simp at hb
   ·exact dh ⟨c',e⟩
theorem dQ:∀ {names:List (Str × Wu)} {acc:List (Str × Addr)},(x,NameKind.free) ∈ names\/(∃c,(x,c) ∈ acc)->∃c,(x,c) ∈ bG cells names acc
 |[],_,h=>h.elim (fun e=>nomatch e) id
 |(n,k)::r,acc,h=>by
  unfold bG;split
  ·rename_i hk;refine dQ ?_;rcases h with h |⟨c,h⟩
   ·rcases Zk.mp h with e |e
    ·cases e;exact .inr ⟨_,Zg⟩
    ·exact .inl e
   ·exact .inr ⟨c,Zd _ h⟩
  ·rename_i hk;refine dQ ?_;rcases h with h |⟨c,h⟩
   ·rcases Zk.mp h with e |e
    ·cases e;exact absurd rfl hk
    ·exact .inl e
   ·exact .inr ⟨c,h⟩
theorem bO:∀ (names:List (Str × Wu)) (n:Nat) (acc:List (Str × Addr)),Vu n names acc=Vu n names []++acc
 |[],_,_=>rfl
 |(y,k)::r,n,acc=>by
  unfold Vu;split
  ·rw[bO r (n+1) ((y,n)::acc),bO r (n+1) [(y,n)],Z9];rfl
  ·exact bO r n acc
theorem cB:∀ (names:List (Str × Wu)) (n:Nat) (acc:List (Str × Addr)) (x:Str) (c:Addr),(x,c) ∈ Vu n names acc->(x,c) ∈ acc\/(x,NameKind.cell) ∈ names
 |[],_,_,_,_,h=>.inl h
 |(y,k)::r,n,acc,x,c,h=>by
  unfold Vu at h;split at h
  ·rename_i hk;have hk':k = .cell:=by simpa using hk
   rcases cB r _ _ x c h with e |e
   ·rcases Zk.mp e with e |e
    ·cases e;exact .inr (by rw[hk'];exact Zg)
    ·exact .inl e
   ·exact .inr (Zd _ e)
  ·rcases cB r _ _ x c h with e |e
   ·exact .inl e
   ·exact .inr (Zd _ e)
noncomputable def jg(sc:Scope)(n:Str)(k:Wu):Wu:=if (k == .free && sc.kind == .function && sc.names.lookup n == some .cell) then .cell else k
noncomputable def dj(scope sc:Scope):Scope:={ scope with names:=scope.names.map fun y=>(y.1,jg sc y.1 y.2) }
theorem yN(scope:Scope)(env:Env):relabel scope env=dj scope env.scope:=by
 unfold relabel dj
 congr 1
 refine List.map_congr_left fun y _=>?_;obtain⟨n,k⟩:=y;unfold jg;dsimp only;show(if (k == NameKind.free && env.scope.kind == ScopeKind.function && YC n env.scope.names == some NameKind.cell)=true then (n,NameKind.cell) else (n,k))=_;split <;> rfl
theorem dm(sc:Scope)(x:Str):∀names:List (Str × Wu),(names.map fun y=>(y.1,jg sc y.1 y.2)).lookup x=(names.lookup x).map (jg sc x)
 |[]=>rfl
 |(n,k)::r=>by
  rw[Zq,ZA,ZA];dsimp only;cases hb:x == n with
  |true=>
   have q:x=n:=by simpa using hb
   subst q;rfl
  |false=>exact dm sc x r
noncomputable def nM(scope:Scope)(C:Addr)(env:Env):Env:=
 { scope:=dj scope env.scope,locals:=C,globals:=env.globals,cells:=Vu (C+1) scope.names (bG env.cells scope.names []),qual:=env.qual,func:=none,code:=env.code,frame:=env.frame,builtins:=env.builtins }
theorem rK
  (h:Q { scope:=scope,locals:=s.heap.objs.size,globals:=env.globals,cells:=Vu (s.heap.objs.size+1) scope.names cl,qual:=env.qual,func:=none,code:=env.code,frame:=env.frame,builtins:=env.builtins }
   { s with heap:=V3 (s.heap.push { cls:=.type "dict", data:=.dict #[] }) scope.names }) :
  wpAny M A (VW scope env.globals cl [] env.qual none .none (some env)) Q E s:=by
 simp only[VW,Option.isSome_some,if_true];refine Ur (wpAny_alloc ?_);refine Ur (wpAny_layCells _ (fun name kind cells=>by cases hkc:kind == NameKind.cell <;> simp[hkc]) _ _ _ _ ?_);rw[show({ s with heap:=s.heap.push { cls:=.type "dict", data:=.dict #[] } }:Shared).heap.objs.size=s.heap.objs.size+1 from Yd ..];simp only[YA]
 first
  |exact Ur (UO (UO h))
  |exact UO h
noncomputable def uv(i:Nat):Str:=⟨#[i]⟩
noncomputable def cb:List Nat->List Str->List Str
 |[],N=>N
 |i::hs,N=>cb hs (N.set i (uv i))
theorem fQ:∀ (hs:List Nat) (N:List Str),(cb hs N).length=N.length
 |[],_=>rfl
 |i::hs,N=>by rw[cb,fQ hs,YS]
theorem jA:∀ (hs:List Nat) (N:List Str) {i:Nat} {x:Str},(cb hs N)[i]?=some x->N[i]?=some x\/∃j ∈ hs,x=uv j
 |[],_,_,_,h=>.inl h
 |k::hs,N,i,x,h=>by
  rw[cb] at h;rcases jA hs (N.set k (uv k)) h with e |⟨j,hj,e⟩
  ·rw[Yb] at e;split at e
   ·split at e
    ·exact .inr ⟨k,Zg,(Option.some.inj e).symm⟩
    ·cases e
   ·exact .inl e
  ·exact .inr ⟨j,Zd _ hj,e⟩
structure CmScope(own:List Str)(hs:List Nat)(N:List Str)(scope sc:Scope):Prop where
 kind:scope.kind = .function
 nd:(cb hs N++own).Nodup
 uniq:(scope.names.map (·.1)).Nodup
 dis:∀x ∈ cb hs N,scope.names.lookup x ≠ some .local/\scope.names.lookup x ≠ some .cell
 fr:∀y ∈ scope.names,y.2 = .free->sc.names.lookup y.1=some .cell\/sc.names.lookup y.1=some .free
 hd:∀i ∈ hs,scope.names.lookup (uv i)=none
theorem b5:∀ {l:List (Str × Wu)} {x:Str} {k:Wu},(l.map (·.1)).Nodup->(x,k) ∈ l->l.lookup x=some k
 |(n,k')::r,x,k,nd,h=>by
  rw[Zq,ZU] at nd;rw[ZA];rcases Zk.mp h with e |e
  ·cases e;simp
  ·have ne:(x == n)=false:=by
    cases hb:x == n with
    |false=>rfl
    |true=>
     have q:x=n:=by simpa using hb
     subst q;exact absurd (Xx.mpr ⟨(x,k),e,rfl⟩) nd.1
   rw[ne];exact b5 nd.2 e
noncomputable def cxC(X:Cx)(own:List Str)(hs:List Nat)(scope:Scope)(C:Addr)(ex:List Addr)(s:Shared)(H:Hp):Cx where
 prog:=X.prog
 w:=X.w
 K:=X.K
 mg:=X.mg
 base:=X.base
 A:=X.A
 N:=cb hs X.N++own
 s₀:=s
 H₀:=H
 env:=nM scope C X.env
 outer:=X.stack
 stack:=X.stack
 ex:=ex
 fn:=fun x=>scope.names.lookup x == some .cell
 calm:=X.calm
 pn:=[]
 xe:=fun _ _=>False
section
variable {X:Cx} {pins:List (Addr × Obj)} {σ:St} {H:Hp} {s:Shared} {own:List Str} {hs:List Nat} {scope:Scope} {fp:List Addr}
theorem Inv.compStart(I:Inv X pins σ H s)(S:CmScope own hs X.N scope X.env.scope)(hf:∀b ∈ fp,dg X pins H b)(hfo:∀b ∈ fp,b < s.heap.objs.size) :
  Inv (cxC X own hs scope s.heap.objs.size fp s H) [] (σ++Zi own.length none) H { s with heap:=V3 (s.heap.push { cls:=.type "dict", data:=.dict #[] }) scope.names }:=by
 have keep:∀b o,s.heap.get? b=some o->(V3 (s.heap.push { cls:=.type "dict", data:=.dict #[] }) scope.names).get? b=some o:=fun b o e=>V4 _ _ b o (Za _ e);have ok:=cellsFrom_ok scope.names (s.heap.push { cls:=.type "dict", data:=.dict #[] }) (s.heap.objs.size+1) [] ⟨fun _ _ hm=>(nomatch hm),List.Pairwise.nil⟩ (by rw[Yd];exact Zh _);rw[Yd] at ok;have cells:(nM scope s.heap.objs.size X.env).cells=Vu (s.heap.objs.size+1) scope.names []++bG X.env.cells scope.names []:=bO _ _ _;have hasX:∀x,(x,NameKind.free) ∈ scope.names->∃c,X.env.cells.lookup x=some c:=fun x h=>I.ok.has x (S.fr (x,.free) h rfl)
 have old:∀x c,(x,c) ∈ bG X.env.cells scope.names []->X.env.cells.lookup x=some c/\(x,NameKind.free) ∈ scope.names:=fun x c h=>by
  rcases fP h with e |⟨e,q⟩
  ·exact nomatch e
  ·obtain⟨c',hc⟩:=hasX x e;rw[hc] at q;exact⟨by rw[hc,q];rfl,e⟩
 have oldlt:∀x c,X.env.cells.lookup x=some c->c < s.heap.objs.size:=fun x c h=>let ⟨_,z⟩:=I.cell x c h;z.lt
 have which:∀x c,(nM scope s.heap.objs.size X.env).cells.lookup x=some c->((x,c) ∈ Vu (s.heap.objs.size+1) scope.names [])\/(X.env.cells.lookup x=some c/\(x,NameKind.free) ∈ scope.names):=fun x c h=>by
  have m:=VU h;rw[cells] at m;rcases ZK.mp m with e |e
  ·exact .inl e
  ·exact .inr (old x c e)
 have neu:∀x c,(x,c) ∈ Vu (s.heap.objs.size+1) scope.names []->s.heap.objs.size+1<=c:=fun x c h=>(ok.empty x c h).2
 have noFs:∀b ∈ fp,b ∉ frs X.stack:=fun b hb z=>by
  rcases Zk.mp (I.stkSub b z) with e |e
  ·exact(hf b hb).2.1 e
  ·exact(hf b hb).2.2.1 e
 have xok:(cxC X own hs scope s.heap.objs.size fp s H).Ok:=by
  refine⟨I.ok.mod,S.kind,I.ok.glob,I.ok.blt,Zh _,?_,?_,?_,I.ok.hd,I.ok.frames,.inl rfl,?_,I.bs,Zv I.ok.bsz I.sz,?_,noFs,I.stack,I.stkFree⟩
  ·intro x y c h1 h2;rcases which x c h1 with a |⟨a,_⟩ <;> rcases which y c h2 with b |⟨b,_⟩
   ·exact name_of_addr ok.apart a b
   ·exact absurd (Zo (oldlt y c b) (YD (neu x c a))) (ZF _)
   ·exact absurd (Zo (oldlt x c a) (YD (neu y c b))) (ZF _)
   ·exact I.ok.inj x y c a b
  ·intro x hx;have hx':(dj scope X.env.scope).names.lookup x=some .cell\/(dj scope X.env.scope).names.lookup x=some .free:=hx;have e:=dm X.env.scope x scope.names
   have key:(x,NameKind.cell) ∈ scope.names\/(x,NameKind.free) ∈ scope.names:=by
    cases hl:scope.names.lookup x with
    |none=>rw[hl] at e;rcases hx' with z |z <;> (rw[show(dj scope X.env.scope).names.lookup x=none from e] at z;cases z)
    |some k=>
     have m:=VU hl;rw[hl] at e;cases k with
     |cell=>exact .inl m
     |free=>exact .inr m
     |_=>rcases hx' with z |z <;> (rw[show(dj scope X.env.scope).names.lookup x=_ from e] at z;simp[jg] at z)
   rcases key with h |h
   ·have q:=WQ scope.names (s.heap.objs.size+1) (bG X.env.cells scope.names []) (x:=x) (.inl (b5 S.uniq h));exact ZE.mp q
   ·obtain⟨c,hc⟩:=dQ (cells:=X.env.cells) (acc:=[]) (.inl h);have q:∃c,(x,c) ∈ (nM scope s.heap.objs.size X.env).cells:=⟨c,by rw[cells];exact Zr _ hc⟩;exact dh q
  ·intro x c hfn hl
   have hfn':scope.names.lookup x=some .cell:=by
    have z:(scope.names.lookup x == some NameKind.cell)=true:=hfn
    simpa using z
   rcases which x c hl with a |⟨_,b⟩
   ·exact Zv (ZX _) (neu x c a)
   ·rw[b5 S.uniq b] at hfn';cases hfn'
  ·intro b hb;refine⟨Zl (hfo b hb),fun x c h z=>?_⟩;rcases which x c h with a |⟨a,_⟩
   ·exact absurd (Zo (z ▸ hfo b hb) (YD (neu x c a))) (ZF _)
   ·exact(hf b hb).2.2.2.2.1 x c a z
  ·intro b o e hb;rcases (hf b hb).2.2.2.1 with z |z
   ·exact I.ok.noex b o e z
   ·have h1:=Zj e;exact absurd (Zo h1 (Zv I.ok.bsz z)) (ZF _)
 have m0:(V3 (s.heap.push { cls:=.type "dict", data:=.dict #[] }) scope.names).Ns s.heap.objs.size (fun _=>none):=(Heap.Ns.new s.heap (.type "dict")).keeps (V4 _ _);refine⟨xok,rfl,I.bare,Un.kept keep,⟨_,m0,?_⟩,?_,I.hok.fresh (Zh _),?_,fun p hp=>absurd (show p ∈ ([]:List (Addr × Obj)) from hp) (by simp),I.hok.kept keep,?_⟩
 ·intro i x v h1 h2 h3
  have hi:i < σ.length:=by
   by_cases hi:i < σ.length
   ·exact hi
   ·rw[Zu (by lia),Z4] at h2;split at h2 <;> cases h2
  rw[Zx hi] at h2;have hN:i < X.N.length:=by rw[<-I.len];exact hi
  have h1h:(cb hs X.N)[i]?=some x:=by
   have h1:(cb hs X.N++own)[i]?=some x:=h1
   rwa [Zx (by rw[fQ];exact hN)] at h1
  have dx:=S.dis x (Zn h1h);have e:=dm X.env.scope x scope.names;have h3':(dj scope X.env.scope).names.lookup x=some .local\/(dj scope X.env.scope).names.lookup x=some .cell\/(dj scope X.env.scope).names.lookup x=some .free:=h3
  have hfree:scope.names.lookup x=some .free:=by
   cases hl:scope.names.lookup x with
   |none=>rw[hl] at e;rcases h3' with z |z |z <;> (rw[show(dj scope X.env.scope).names.lookup x=none from e] at z;cases z)
   |some k=>
    rw[hl] at e dx;cases k with
    |free=>rfl
    |«local»=>exact absurd rfl dx.1
    |cell=>exact absurd rfl dx.2
    |_=>rcases h3' with z |z |z <;> (rw[show(dj scope X.env.scope).names.lookup x=_ from e] at z;simp[jg] at z)
  have h1':X.N[i]?=some x:=by
   rcases jA hs X.N h1h with z |⟨j,hj,z⟩
   ·exact z
   ·rw[z,S.hd j hj] at hfree;cases hfree
  have mfree:=VU hfree;have kX:=S.fr (x,.free) mfree rfl;obtain⟨m,hn,hl⟩:=I.loc;obtain⟨u,r,l⟩:=hl i x v h1' h2 (kX.elim (fun z=>.inr (.inl z)) fun z=>.inr (.inr z));refine⟨u,r,.inr ⟨?_,?_⟩⟩
  ·have k3:(dj scope X.env.scope).names.lookup x=some (jg X.env.scope x .free):=by rw[hfree] at e;exact e
   have k4:jg X.env.scope x .free = .cell\/jg X.env.scope x .free = .free:=by unfold jg;split <;> simp
   rcases k4 with z |z
   ·exact .inl (by show(dj scope X.env.scope).names.lookup x=_;rw[k3,z])
   ·exact .inr (by show(dj scope X.env.scope).names.lookup x=_;rw[k3,z])
  ·rcases l with ⟨lk,_⟩ |⟨_,c,hc,z⟩
   ·have lk':X.env.scope.names.lookup x=some .local:=lk;rcases kX with q |q <;> (rw[q] at lk';cases lk')
   ·refine⟨c,?_,z.keeps keep⟩;obtain⟨c',hc'⟩:=dQ (cells:=X.env.cells) (acc:=[]) (.inl mfree);obtain⟨c2,hl2⟩:=dh (l:=(nM scope s.heap.objs.size X.env).cells) ⟨c',by rw[cells];exact Zr _ hc'⟩;rcases which x c2 hl2 with a |⟨a,_⟩
    ·rcases cB _ _ _ _ _ a with q |q
     ·exact nomatch q
     ·rw[b5 S.uniq q] at hfree;cases hfree
    ·rw[hc] at a;cases a;exact hl2
 ·intro x c h;rcases which x c h with a |⟨a,_⟩
  ·exact⟨_,(ok.empty x c a).1⟩
  ·obtain⟨v,z⟩:=I.cell x c a;exact⟨v,z.keeps keep⟩
 ·intro x c h;rcases which x c h with a |⟨a,_⟩
  ·exact I.hok.fresh (Zv (ZX _) (neu x c a))
  ·exact I.freeC x c a
 ·show(σ++Zi own.length none).length=(cb hs X.N++own).length;rw[Zm,Zm,Yl,fQ,I.len]
end
def lu(J:It)(g:TG)(tb:TS)(D:Ends)(σ:St)(H:Hp):Prop:=∃W:Nat->Nat->St->Hp->Prop,(∃m,W 0 m σ H)/\∀i m σ H,W i m σ H ->
 (J.stop i H/\D.nx σ H)\/(J.go i H/\∃N:St->Hp->Prop,(∀σ' H',N σ' H'->∃m',m' < m/\W (i+1) m' σ' H')/\∀x H',J.yld i H x H'->g x σ H' fun σ2 H2=>tb { D with nx:=N,ct:=N,bk:=D.nx } σ2 H2)
def PTs(Y:Cx)(ifs:List Expr)(t:TT):Prop:=
 ∀ (pins:List (Addr × Obj)) (s:Shared) (σ:St) (H:Hp) (Q:Bool->Hp->Prop),Inv Y pins σ H s->t σ H Q->wpAny (model Y.prog Y.w) Y.A (ki ifs Y.env) (TP Y pins σ Q) Y.xe s
def yO:TT:=fun _ H Q=>Q true H
theorem yP:PTs Y [] yO:=fun _ _ _ H _ I h=>by
 unfold ki;rw[YA];exact UO ⟨H,I,h⟩
theorem yQ(hc:PT Y c t):PTs Y [c] t:=fun pins s σ H Q I h=>by
 unfold ki;rw[Xn];simp only[if_true,YA];refine Ur (Ur (thn (hc pins s σ H Q I h) fun b s1 q=>UO ?_));exact UO q
def PTl(Y:Cx)(elt:Expr)(gens:List X0)(scope:Scope)(pos:Pos)(acc:Addr)(d:Nat)(t:TS):Prop:=
 ∀ (pins:List (Addr × Obj)) (s:Shared) (σ:St) (H:Hp) (D:Ends),Inv Y pins σ H s->t D σ H ->
  match gens[d+1]? with
  |none=>wpAny (model Y.prog Y.w) Y.A (eval elt Y.env) (fun x s5=>wpAny (model Y.prog Y.w) Y.A (call (.builtin "list.append") [.ref acc,x]) (fun _ s6=>∃σ' H',Inv Y pins σ' H' s6/\D.nx σ' H') (fun _ _=>False) s5) (fun _ _=>False) s
  | some g'=>g'.is_async=0/\wpAny (model Y.prog Y.w) Y.A (eval g'.iter Y.env) (fun x s5=>wpAny (model Y.prog Y.w) Y.A (VH g'.iter Y.env x) (fun x' s6=>wpAny (model Y.prog Y.w) Y.A (pyIter x') (fun it' s7=>
    wpAny (model Y.prog Y.w) Y.A (runOwn (.compStart (.ListComp elt gens scope pos) (d+1) it' (.ref acc) Y.env) Y.env) (fun _ s8=>∃σ' H',Inv Y pins σ' H' s8/\D.nx σ' H') (fun _ _=>False) s7) (fun _ _=>False) s6) (fun _ _=>False) s5) (fun _ _=>False) s
def c7(ti:TT)(t:TS):TS:=fun D σ H=>ti σ H fun c H'=>if c=true then t D σ H' else D.nx σ H'
def Cu(acc:Addr)(te:TE):TS:=fun D σ H=>te σ H fun x H1=>∃xs,H1 acc=some (.lst xs)/\xs.length < sizeLine/\D.nx σ (upd H1 acc (.lst (xs++[x])))
section
variable {Y:Cx} {elt:Expr} {gens:List X0} {scope:Scope} {pos:Pos} {acc:Addr} {d:Nat}
theorem uw(hx:Y.xe=fun _ _=>False)(hn:gens[d+1]?=none)(he:PE Y elt te):PTl Y elt gens scope pos acc d (Cu acc te):=by
 intro pins s σ H D I h;rw[hn];have hE:=he pins s σ H _ I h;rw[hx] at hE;refine thn hE fun x s5 ⟨v,H5,I5,r5,xs,h1,h2,q⟩=>?_;have z:=jy pins s5 σ H5 (.ref acc) [v] (.ref acc) [x] (fun y H'=>y = .non/\D.nx σ H') I5 rfl (.cons r5 .nil) ⟨acc,xs,v,rfl,rfl,h1,h2,rfl,q⟩;rw[hx] at z;exact thn z fun y s6 ⟨v6,H6,I6,r6,e6,q6⟩=>⟨σ,H6,I6,q6⟩
theorem hY{A:Around}{R:Result->Shared->Prop}{prog:Program}{w:World}{s:Shared}{tg iter:Expr}{ifs:List Expr}{it acc:Value}{env:Env}(hg:gens[d]?=some ⟨tg,iter,ifs,0⟩)
  (h0:codeAny (model prog w) A (.compLoop (.ListComp elt gens scope pos) d it acc env) R s)
  (h:wpAny (model prog w) A (pyIter it) (fun it' s'=>codeAny (model prog w) A (.compLoop (.ListComp elt gens scope pos) d it' acc env) R s') (notedBy (model prog w) A env fun x s'=>R (.error x) s') s) :
  codeAny (model prog w) A (.compStart (.ListComp elt gens scope pos) d it acc env) R s:=by
 refine codeAny_of_tree ?_;show wpAny _ _ ((compStart (.ListComp elt gens scope pos) d it acc env).onRaise (fun x=>do VZ x env;standAt theWindowsPlace)) _ _ s;refine wpAny_notedAt ?_;unfold compStart;have hcl:(clausesOf (.ListComp elt gens scope pos))[d]?=some ⟨tg,iter,ifs,0⟩:=hg;simp only[hcl,Option.elim];show wpAny _ _ (ask >>= _) _ _ s;refine Ur (wpAny_askSetting (wpAny_ite ?_));split
 ·first
   |exact Ur (UO (UO (And.intro rfl h0)))
   |exact UO (And.intro rfl h0)
 ·first
   |exact Ur (UU (Ur (UX (Ur (UI h (fun it' s' h'=>UO (And.intro rfl h')) fun _ _ x=>x)))))
   |(refine Ur (UU ?_);show wpAny _ _ (standAt iter.pos >>= _) _ _ s;exact Ur (UX (Ur (UI h (fun it' s' h'=>UO (And.intro rfl h')) fun _ _ x=>x))))
theorem jB
  (hx:Y.xe=fun _ _=>False) (hc:Y.calm=true) (hg:gens[d]?=some ⟨tg,iter,ifs,0⟩) (T:Turn Y.prog Y.w Y.K tg J fp it tn) (I2:Inv Y pins σ H s) (st2:tn 0 s.heap) (f2:∀b ∈ fp,dg Y pins H b)
  (hgt:PG Y tg g) (hts:PTs Y ifs ti) (htl:PTl Y elt gens scope pos acc d t) (hW:lu J g (c7 ti t) D σ H) :
  codeAny (model Y.prog Y.w) Y.A (.compLoop (.ListComp elt gens scope pos) d (.ref it) (.ref acc) Y.env) (fun r s'=>r = .ok .next/\∃σ' H',Inv Y pins σ' H' s'/\D.nx σ' H') s:=by
 obtain⟨W,⟨m0,w0⟩,turn⟩:=hW;have stat:∀ {H':Hp},(∀b ∈ fp,H' b=none)->∀b ∈ fp,dg Y pins H' b:=fun hn b hb=>⟨hn b hb,(f2 b hb).2⟩;refine codeAny_loop rfl (fun n s'=>∃i σ' H',Inv Y pins σ' H' s'/\tn i s'.heap/\(∀b ∈ fp,H' b=none)/\W i n σ' H') (fun n s3 hI=>?_) m0 ⟨0,σ,H,I2,st2,fun b hb=>(f2 b hb).1,w0⟩;obtain⟨i,σ3,H3,I3,st3,fr3,w3⟩:=hI;show wpAny _ _ ((compTurn (.ListComp elt gens scope pos) d (.ref it) (.ref acc) Y.env).onRaise (fun x=>do VZ x Y.env;theTreesLotGoes x)) _ _ s3;refine wpAny_noted (UI (E:=fun _ _=>False) ?_ (fun _ _ q=>q) fun _ _ z=>z.elim);refine yM hg ?_;rcases turn i n σ3 H3 w3 with ⟨stop,qn⟩ |⟨go,N,hN,step⟩
 ·refine thn (T.done Y rfl rfl rfl hc i pins s3 σ3 H3 _ I3 (stat fr3) st3 stop) fun r s4 ⟨hr,I4⟩=>?_;subst hr;exact⟨rfl,σ3,H3,I4,qn⟩
 ·refine thn (T.item Y rfl rfl rfl hc i pins s3 σ3 H3 _ I3 (stat fr3) st3 go) fun r s4 ⟨u,hr,h4⟩=>?_;subst hr;refine thn h4 fun _ s5 ⟨x,H5,I5,r5,y5,st5,fr5⟩=>?_;have I5':=I5.pinned (stat fr5) (T.obj _ _ st5)
  have again:∀ {σ7:St} {H7:Hp} {s7:Shared},Inv Y (pins++g0 fp s5.heap) σ7 H7 s7->N σ7 H7->∃m,m < n/\∃i σ' H',Inv Y pins σ' H' s7/\tn i s7.heap/\(∀b ∈ fp,H' b=none)/\W i m σ' H':=fun {σ7 H7 s7} I7 n7=>by
   obtain⟨m',hm,w7⟩:=hN σ7 H7 n7;refine⟨m',hm,i+1,σ7,H7,I7.unpinned,T.keep _ _ _ st5 fun b hb o e=>(I7.pin (b,o) (Zr _ (Zr _ (cQ hb e)))).1,fun b hb=>?_,w7⟩;obtain⟨o,e,dd⟩:=T.obj _ _ st5 b hb;exact(I7.pin (b,o) (Zr _ (Zr _ (cQ hb e)))).2.1
  have hG:=hgt _ s5 σ3 H5 x u _ I5' r5 (step x H5 y5);rw[hx] at hG;refine thn hG fun _ s6 ⟨σ6,H6,I6,q6⟩=>?_;have hT:=hts _ s6 σ6 H6 _ I6 q6;rw[hx] at hT;refine thn hT fun ok s7 ⟨H7,I7,q7⟩=>?_;cases ok with
  |false=>
   simp only[ZM,if_false] at q7 ⊢;exact⟨by trivial,again I7 q7⟩
  |true=>
   simp only[if_true] at q7 ⊢;have hL:=htl _ s7 σ6 H7 _ I7 q7;cases hn:gens[d+1]? with
   |none=>
    rw[hn] at hL;exact thn hL fun x s8 h8=>thn h8 fun _ s9 ⟨σ9,H9,I9,q9⟩=>⟨by trivial,again I9 q9⟩
   |some g'=>
    rw[hn] at hL;obtain⟨ha,hL⟩:=hL;exact⟨ha,thn hL fun x s8 h8=>thn h8 fun x' s9 h9=>thn h9 fun it' s10 h10=>thn h10 fun _ s11 ⟨σ9,H9,I9,q9⟩=>⟨by trivial,again I9 q9⟩⟩
def ux(wi:TI)(g:TG)(ti:TT)(t:TS):TS:=fun D σ H=>wi σ H fun J H1=>lu J g (c7 ti t) D σ H1
theorem yR(hn:gens[d+1]?=some ⟨tg,iter,ifs,0⟩)
  (hi:PI Y tg iter wi) (hgt:PG Y tg g) (hts:PTs Y ifs ti) (htl:PTl Y elt gens scope pos acc (d+1) t) (hx:Y.xe=fun _ _=>False:=by rfl) (hc:Y.calm=true:=by rfl) (hs:∀x,VH iter Y.env x=pure x:=by intro _;rfl) :
  PTl Y elt gens scope pos acc d (ux wi g ti t):=by
 intro pins s σ H D I h;rw[hn];refine⟨rfl,?_⟩;have hI:=hi pins s σ H _ I h;rw[hx] at hI;refine thn hI fun v s5 h5=>UM (hs v) (thn h5 fun itv s6 h6=>?_);obtain⟨it,fp,tn,J,H6,e,I6,T,st6,f6,W⟩:=h6;subst e;have L:=jB (elt:=elt) (gens:=gens) (scope:=scope) (pos:=pos) (acc:=acc) hx hc hn T I6 st6 f6 hgt hts htl W;refine wpAny_runOwn (VB (hY hn L (T.self _ 0 s6 _ _ st6 L)) fun r s8 hr=>?_);obtain⟨rfl,q⟩:=hr;exact q
end
def uy(own:Nat)(wi:TI)(g:TG)(tb:Addr->TS):TE:=fun σ H Q=>wi σ H fun J H1=>∀acc,H1 acc=none ->
 lu J g (tb acc) { nx:=fun _ H'=>Q (.ref acc) H',rt:=fun _ _=>False } (σ++Zi own none) (upd H1 acc (.lst []))
section
variable {X:Cx} {elt tg iter:Expr} {ifs:List Expr} {rest:List X0} {scope:Scope} {pos:Pos} {own:List Str} {hs:List Nat} {wi:TI} {g:TG} {ti:TT} {t:Addr->TS}
theorem hZ{pins:List (Addr × Obj)}{σ:St}{Q:VK}{itv:Value}{s2:Shared}{E:Value->Shared->Prop}(hc:X.calm=true)(S:CmScope own hs X.N scope X.env.scope)
  (hgt:∀C ex s H,PG (cxC X own hs scope C ex s H) tg g) (hts:∀C ex s H,PTs (cxC X own hs scope C ex s H) ifs ti)
  (htl:∀C ex s H acc,PTl (cxC X own hs scope C ex s H) elt (⟨tg,iter,ifs,0⟩::rest) scope pos acc 0 (t acc))
  (h2:PIE X pins σ tg (fun J H1=>∀acc,H1 acc=none->lu J g (c7 ti (t acc)) { nx:=fun _ H'=>Q (.ref acc) H',rt:=fun _ _=>False } (σ++Zi own.length none) (upd H1 acc (.lst []))) itv s2)
  {RR:Value->Addr->Result->Shared->Prop} (hRR:∀acc C H' s',Inv X pins σ H' s'->dg X pins H' C->(∃m,s'.heap.Ns C m)->Q (.ref acc) H'->RR (.ref acc) C (.ok .next) s') :
  wpAny (model X.prog X.w) X.A (newList []) (fun acc s3=>wpAny (model X.prog X.w) X.A (VW scope X.env.globals (bG X.env.cells scope.names []) [] X.env.qual none .none (some X.env)) (fun cenv s4=>
   codeAny (model X.prog X.w) X.A (.compStart (.ListComp elt (⟨tg,iter,ifs,0⟩::rest) scope pos) 0 itv acc { cenv with scope:=relabel scope X.env }) (RR acc cenv.locals) s4) E s3) E s2:=by
 obtain⟨it,fp,tn,J,H2,e,I2,T,st2,f2,R⟩:=h2;subst e;refine UL ?_;have I3:Inv X pins σ (upd H2 s2.heap.objs.size (.lst [])) { s2 with heap:=s2.heap.push { cls:=.type "list", dict:=none,data:=.seq ([]:List Value).toArray } }:=I2.lnew (its:=[]) (t':=s2.toks) .nil (Xl _);have W:=R s2.heap.objs.size (I2.hok.fresh (Zh _));generalize hs3:({ s2 with heap:=s2.heap.push { cls:=.type "list", dict:=none,data:=.seq ([]:List Value).toArray } }:Shared)=s3 at I3 ⊢;have e3:s3.heap=s2.heap.push { cls:=.type "list", dict:=none,data:=.seq ([]:List Value).toArray }:=by rw[<-hs3]
 have k3:∀b o,s2.heap.get? b=some o->s3.heap.get? b=some o:=fun b o e=>by rw[e3];exact Za _ e
 have st3:tn 0 s3.heap:=T.keep _ _ _ st2 fun b _ o e=>k3 b o e;have fne:∀b ∈ fp,b < s2.heap.objs.size:=fun b hb=>let ⟨o,e,_⟩:=T.obj _ _ st2 b hb;Zj e;have f3:∀b ∈ fp,dg X pins (upd H2 s2.heap.objs.size (.lst [])) b:=fun b hb=>⟨by rw[ah (Zl (fne b hb))];exact(f2 b hb).1,(f2 b hb).2⟩;have fo3:∀b ∈ fp,b < s3.heap.objs.size:=fun b hb=>let ⟨o,e,_⟩:=T.obj _ _ st3 b hb;Zj e;refine rK ?_;have I4:=I3.compStart S f3 fo3;generalize hH3:upd H2 s2.heap.objs.size (.lst [])=H3 at I3 I4 f3 W
 have eE:({ scope:=relabel scope X.env,locals:=s3.heap.objs.size,globals:=X.env.globals,cells:=Vu (s3.heap.objs.size+1) scope.names (bG X.env.cells scope.names []),qual:=X.env.qual,func:=none,code:=X.env.code,frame:=X.env.frame,builtins:=X.env.builtins }:Env)=nM scope s3.heap.objs.size X.env:=by
  unfold nM;rw[yN]
 generalize hs4:({ s3 with heap:=V3 (s3.heap.push { cls:=.type "dict", data:=.dict #[] }) scope.names }:Shared)=s4 at I4 ⊢;have k4:∀b o,s3.heap.get? b=some o->s4.heap.get? b=some o:=fun b o e=>by rw[<-hs4];exact V4 _ _ b o (Za _ e)
 have st4:tn 0 s4.heap:=T.keep _ _ _ st3 fun b _ o e=>k4 b o e
 have f4:∀b ∈ fp,dg (cxC X own hs scope s3.heap.objs.size fp s3 H3) [] H3 b:=fun b hb=>by
  refine⟨(f3 b hb).1,Zl (fo3 b hb),I4.ok.exfs b hb,.inl hb,fun x c hl=>(I4.ok.exf b hb).2 x c hl,fun p hp=>absurd (show p ∈ ([]:List (Addr × Obj)) from hp) (by simp)⟩
 have L:=jB (Y:=cxC X own hs scope s3.heap.objs.size fp s3 H3) (elt:=elt) (gens:=⟨tg,iter,ifs,0⟩::rest) (d:=0) (scope:=scope) (pos:=pos) (acc:=s2.heap.objs.size) rfl hc rfl T I4 st4 f4 (hgt _ _ _ _) (hts _ _ _ _) (htl _ _ _ _ _) W;have C:=hY (elt:=elt) (gens:=⟨tg,iter,ifs,0⟩::rest) (d:=0) (scope:=scope) (pos:=pos) rfl L (T.self _ 0 s4 _ _ st4 L);show codeAny (model X.prog X.w) X.A (.compStart (.ListComp elt (⟨tg,iter,ifs,0⟩::rest) scope pos) 0 (.ref it) (.ref s2.heap.objs.size) { scope:=relabel scope X.env,locals:=s3.heap.objs.size,globals:=X.env.globals,cells:=Vu (s3.heap.objs.size+1) scope.names (bG X.env.cells scope.names []),qual:=X.env.qual,func:=none,code:=X.env.code,frame:=X.env.frame,builtins:=X.env.builtins }) (RR (.ref s2.heap.objs.size) s3.heap.objs.size) s4;rw[eE];refine VB C fun r s' hr=>?_;obtain⟨rfl,σ',H',I',q⟩:=hr;obtain⟨mC,nC,_⟩:=id I'.loc;have freeC:H' s3.heap.objs.size=none:=I'.free;refine hRR _ _ H' s' ?_ (I3.fpOk (Zh _) freeC) ⟨mC,nC⟩ q;exact I3.call' (ch:=fp) I'.os I'.base I'.hok I'.bare fun b hb=>⟨(f3 b hb).2.2.2.1,(f3 b hb).2.1,(f3 b hb).2.2.2.2.1,(f3 b hb).2.2.2.2.2⟩
theorem yS(hc:X.calm=true)(S:CmScope own hs X.N scope X.env.scope)(hi:PI X tg iter wi)
  (hgt:∀C ex s H,PG (cxC X own hs scope C ex s H) tg g) (hts:∀C ex s H,PTs (cxC X own hs scope C ex s H) ifs ti)
  (htl:∀C ex s H acc,PTl (cxC X own hs scope C ex s H) elt (⟨tg,iter,ifs,0⟩::rest) scope pos acc 0 (t acc))
  (hs:∀x,VH iter X.env x=pure x:=by intro _;rfl) :
  PE X (.ListComp elt (⟨tg,iter,ifs,0⟩::rest) scope pos) (uy own.length wi g fun acc=>c7 ti (t acc)):=by
 intro pins s σ H Q I h;rw[eval_ListComp];refine Uw (use:=none) (cl:=bG X.env.cells scope.names []) rfl hs (p5 fun y hy hk=>I.ok.has y.1 (S.fr y hy hk)) S.kind (fun y hy hk=>b5 S.uniq (by rw[<-hk];exact hy)) ?_;refine thn (hi pins s σ H _ I h) fun v s1 h1=>thn h1 fun itv s2 h2=>?_;refine hZ hc S hgt hts htl h2 (RR:=fun acc C=>compPost (model X.prog X.w) X.A X.xe none (EP X pins σ Q) acc C) fun acc C H' s' I' f' m' q=>?_;obtain⟨m,nm⟩:=m';refine⟨m,nm,fun h' sb=>⟨.ref acc,H',?_,rfl,q⟩⟩;exact I'.turned (t':=s'.toks) (fun b o hb e=>(sb.2 b hb).trans e) f'.1 f'.2.1 f'.2.2.2.1 f'.2.2.2.2.1 f'.2.2.2.2.2
theorem yT{i:Nat}(hc:X.calm=true)(S:CmScope own hs X.N scope X.env.scope)(hN:X.N.Nodup)(hix:X.N[i]?=some x)(hx:X.env.scope.names.lookup x=some .local)(hi:PI X tg iter wi)
  (hgt:∀C ex s H,PG (cxC X own hs scope C ex s H) tg g) (hts:∀C ex s H,PTs (cxC X own hs scope C ex s H) ifs ti)
  (htl:∀C ex s H acc,PTl (cxC X own hs scope C ex s H) elt (⟨tg,iter,ifs,0⟩::rest) scope pos acc 0 (t acc))
  (hsw:Ug (.ListComp elt (⟨tg,iter,ifs,0⟩::rest) scope pos) (some (.Name x pos')) spos.line X.env=pure true:=by rfl)
  (hs:∀x,VH iter X.env x=pure x:=by intro _;rfl) :
  PS X (.Assign [.Name x pos'] (.ListComp elt (⟨tg,iter,ifs,0⟩::rest) scope pos) spos) (rh (uy own.length wi g fun acc=>c7 ti (t acc)) (jq i)):=by
 intro pins s σ H D I h;rw[exec_Assign_Name_used _ _ _ _ hsw];refine Ur (UX (Ur ?_));show wpAny _ X.A (do let _ <-comprehension (.ListComp elt (⟨tg,iter,ifs,0⟩::rest) scope pos) scope X.env _ (newList []) false (eval iter X.env) (some (assign (.Name x pos') X.env))) _ _ s
 refine Ur (UI (Uw (use:=some (assign (.Name x pos') X.env)) (Q:=fun _ s'=>SP X pins D .next s') (cl:=bG X.env.cells scope.names []) rfl hs (p5 fun y hy hk=>I.ok.has y.1 (S.fr y hy hk)) S.kind (fun y hy hk=>b5 S.uniq (by rw[<-hk];exact hy))
  ?_) (fun _ s' hq=>UO (UO hq)) fun _ _ e=>e)
 refine thn (hi pins s σ H _ I h) fun v s1 h1=>thn h1 fun itv s2 h2=>?_;refine hZ (Q:=fun y H'=>jq i y σ H' D.nx) hc S hgt hts htl h2 (RR:=fun acc C=>compPost (model X.prog X.w) X.A X.xe (some (assign (.Name x pos') X.env)) (fun _ s'=>SP X pins D .next s') acc C) fun acc C H' s' I' f' m' q=>?_;obtain⟨m,nm⟩:=m';show wpAny _ X.A (assign (.Name x pos') X.env (.ref acc)) _ _ _;refine wpAny_assign_Name (jp (v:=.ref acc) I' hN hix (.inl hx) rfl (fun s'' I'' hch=>?_) (.inr hx));obtain⟨a,sb1,ha⟩:=hch
 have ne:C ≠ a:=by
  rcases ha with e |e
  ·rw[e];exact f'.2.1
  ·exact fun z=>f'.2.2.2.2.1 x a e z.symm
 refine⟨m,nm.sameBut sb1 ne,fun h' sb=>⟨_,H',?_,q⟩⟩;exact I''.turned (t':=s''.toks) (fun b o hb e=>(sb.2 b hb).trans e) f'.1 f'.2.1 f'.2.2.2.1 f'.2.2.2.2.1 f'.2.2.2.2.2
end
end L2
namespace HT
open PySem PyProof.Rows
section
variable {prog:Program} {w:World} {A:Around} {E:Value->Shared->Prop} {s:Shared}
theorem uz{t b:Addr}{ws:List Value}{Q:Value->Shared->Prop}(ht:IsTup s.heap t ([]:List Value).toArray)(hb:IsTup s.heap b ws.toArray)(h:Q (.ref b) s):wpAny (model prog w) A (Vl .Add (.ref t) (.ref b)) Q E s:=by
 obtain⟨⟨cls,dd,data,sl⟩,ho,hc,n,hd⟩:=id ht;obtain⟨⟨cls2,dd2,data2,sl2⟩,ho2,hc2,n2,hd2⟩:=id hb;simp only at hc hd hc2 hd2;subst hc hd hc2 hd2
 exact VE ⟨_,ho,rfl⟩ ⟨_,ho2,rfl⟩ VX Ua Wm X9 (X4 _ _)
   (tuple_addW0 t b _ ws.toArray n n2 dd dd2 sl sl2 (by simp)) ⟨ho,ho2,h⟩
theorem d6{t sl:Addr}{items:Array Value}{vl vu:Value}{lo hi:Option Int}{Q:Value->Shared->Prop}(ht:IsTup s.heap t items)(hs:s.heap.IsSliceOf sl vl vu .none)(pl:IsPart vl lo)(pu:IsPart vu hi)
  (hw:sIx items.size 0 lo=0/\sIx items.size items.size hi=items.size) (h:Q (.ref t) s):wpAny (model prog w) A (getItem (.ref t) (.ref sl)) Q E s:=by
 obtain⟨os,hos,hcs,hds⟩:=id hs;have hTs:s.TypeIs (.ref sl) "slice" := ⟨os,hos,hcs⟩;obtain⟨o,ho,hc,n,hd⟩:=id ht;unfold getItem
 try with_reducible refine UB ?_
 first |refine Ur (UO ?_) |skip
 refine Ur (wpAny_sequenceKey ht.typeIs (by decide) ?_)
 refine Ur (wpAny_callSpecial?_slot (name:=Str.ofString "__getitem__") ht.typeIs XW
  (Uu XW ht.typeIs entry_tuple_getitem ?_ (args_tuple_getitem _ _)))
 show wpAny _ _ (Builtin.Tuple.tupleItemsOf (.ref t) >>= _) _ _ s;refine Ur (tupleItemsOf_ ht ?_);refine Ur (U0 hTs ?_);rw[if_pos (by decide)];refine Ur (cH hs pl pu ?_)
 have hyes:((((sIx items.size 0 lo:Nat):Int) == 0 && (1:Int) == 1 && (sIx items.size items.size hi - sIx items.size 0 lo) == items.size)=true):=by
  rw[hw.1,hw.2];simp
 show wpAny _ _ (if (((sIx items.size 0 lo:Nat):Int) == 0 && (1:Int) == 1 && (sIx items.size items.size hi - sIx items.size 0 lo) == items.size)=true then _ else _) _ _ s;rw[if_pos hyes];have hT:s.TypeIs (.ref t) "tuple" := ht.typeIs
 first
  | (refine Ur (m:=Builtin.Tuple.tupleIsExact _) ?_
     unfold Builtin.Tuple.tupleIsExact;refine Ur (U0 hT (UO ?_));rw[if_pos (by decide)];exact Ur (UU (UO ⟨_,rfl,UO h⟩)))
end
end HT
namespace L2
open PySem PySem.Spec PyProof.Rows
theorem lv{s:Shared}{h':Heap}{o:Obj}(hk:∀b x,b ∉ [s.heap.objs.size]->(s.heap.push o).get? b=some x->h'.get? b=some x):∀b x,s.heap.get? b=some x->h'.get? b=some x:=
 fun b x e=>hk b x (fun hm=>by rw[ZN.mp hm] at e;exact ZF _ (Zj e)) (Za _ e)
section
variable {X:Cx}
def IX(K:WN):R2:=fun x y H Q=>∃a b xs ys,x = .ref a/\y = .ref b/\SqT K H a xs/\SqT K H b ys/\xs.length+ys.length<=sizeLine ∧
 (xs=[]->Q (.ref b) H)/\(xs ≠ []->ys=[]->Q (.ref a) H)/\(xs ≠ []->ys ≠ []->∀p,H p=none->Q (.ref p) (upd H p (.tup (xs++ys))))
theorem yU:OpR X (Vl .Add) (IX X.K):=by
 intro pins s σ H x y v u Q I rx ry h;obtain⟨a,b,xs,ys,rfl,rfl,ha,hb,hz,q0,q1,q2⟩:=h;by_cases hx:xs=[]
 ·subst hx;cases rx;cases ry;obtain⟨its,r1,p1,_⟩:=I.tuple ha;obtain⟨its2,r2,p2,_⟩:=I.tuple hb;cases r1;exact HT.uz p1 p2 ⟨.ref b,H,I,rfl,q0 rfl⟩
 ·exact yG pins s σ H _ _ v u Q I rx ry ⟨a,b,xs,ys,rfl,rfl,ha,hb,hx,hz,q1 hx,q2 hx⟩
def LI(K:WN):V->Option Int->Option Int->Hp->VK->Prop:=fun x lo hi H Q=>∃a xs,x = .ref a/\SqT K H a xs ∧
 ((HT.sIx xs.length 0 lo=0/\HT.sIx xs.length xs.length hi=xs.length)->Q (.ref a) H) ∧
 (¬ (HT.sIx xs.length 0 lo=0/\HT.sIx xs.length xs.length hi=xs.length)->∀p,H p=none->Q (.ref p) (upd H p (.tup (hX xs lo hi))))
theorem yV:SlR X (LI X.K):=by
 intro pins s σ H x v vl vu lo hi sl Q I rx hs pl pu h;obtain⟨a,xs,rfl,hx,q1,q2⟩:=h;by_cases hw:(HT.sIx xs.length 0 lo=0/\HT.sIx xs.length xs.length hi=xs.length)
 ·cases rx;obtain⟨its,r,ht,hz⟩:=I.tuple hx;have hlen:its.toArray.size=xs.length:=by rw[Zc];exact r.length.symm
  refine⟨"tuple", _,PyProof.Rows.slot_tuple_getitem.lookup,ht.typeIs,?_⟩;exact HT.d6 ht hs pl pu (by rw[hlen];exact hw) ⟨.ref a,H,I,rfl,q1 hw⟩
 ·exact DW pins s σ H _ v vl vu lo hi sl Q I rx hs pl pu ⟨a,xs,rfl,hx,hw,q2 hw⟩
theorem lw:au X (.builtin "isinstance") (fun xs H Q=>∃x n t b,xs=[x,.ty n]/\TyOf X.K H x t/\W5 X.K t (.type n)=some b/\Q (.bl b) H):=by
 intro pins s σ H xs us Q I r h;obtain⟨x,n,t,b,rfl,ty,e,q⟩:=h;obtain⟨u,w',rfl,rx,ry⟩:=pW r;cases ry;exact rE I rx ty e fun tk=>⟨.bl b,H,I.tok tk,rfl,q⟩
theorem eD:∀ {bs:List Bool} {us:List Value},ax (bs.map V.bl) us->us=bs.map Value.bool
 |[],_,.nil=>rfl
 |_::_,_,.cons r t=>by rw[Zq,eD t];cases r;rfl
theorem rL(hc:X.calm=true):au X (.builtin "all") (fun xs H Q=>∃ (l:Addr) (bs:List Bool),xs=[.ref l]/\SqL X.K H l (bs.map V.bl)/\Q (.bl (bs.all id)) H):=by
 intro pins s σ H xs us Q I r h;obtain⟨l,bs,rfl,hl,q⟩:=h;obtain⟨u,rfl,ru⟩:=bq r;cases ru;obtain⟨its,rv,p,hz⟩:=I.list hl;have e:=eD rv;subst e;have hL:=p.isList;have hlt:l < s.heap.objs.size:=by obtain⟨_,e,_⟩:=hL;exact Zj e
 refine call_all_walk (UQ hL ?_)
 refine⟨s.heap.objs.size,[s.heap.objs.size,l],[s.heap.objs.size],_,_,_,fun i=>(bs[i]?).getD true,rfl,Walks.list (A:=X.A.in1) (I.ok.hd hc) _ l (Zl hlt) _,
  ⟨⟨_,Zp _ rfl,rfl,rfl⟩,hL.push _⟩,fun i v s' Q' E' hP hQ=>?_,fun h' tk hk=>?_⟩
 ·have hP':(bs.map Value.bool)[i]?=some v:=by simpa using hP
  rw[ZC] at hP';cases hb:bs[i]? with
  |none=>rw[hb] at hP';cases hP'
  |some b=>
   rw[hb] at hP';have ev:Value.bool b=v:=Option.some.inj hP';subst ev;simp only[hb,Z6] at hQ;exact UY hQ
 ·have e:((ZI (bs.map Value.bool).toArray.size).all fun i=>(bs[i]?).getD true)=bs.all id:=by
   rw[Zc,Ze,Z1];simp only[ZD,Y0,id];constructor
   ·intro h b hb;obtain⟨i,hi,rfl⟩:=Y2.mp hb;have:=h i hi
    rwa [gEG hi,Z6] at this
   ·intro h i hi;rw[gEG hi,Z6];exact h _ (YL hi)
  rw[e];exact⟨.bl (bs.all id),H,I.kept (t':=tk) (lv hk),rfl,q⟩
theorem rN(hc:X.calm=true):au X (.builtin "any") (fun xs H Q=>∃ (l:Addr) (bs:List Bool),xs=[.ref l]/\SqL X.K H l (bs.map V.bl)/\Q (.bl (bs.any id)) H):=by
 intro pins s σ H xs us Q I r h;obtain⟨l,bs,rfl,hl,q⟩:=h;obtain⟨u,rfl,ru⟩:=bq r;cases ru;obtain⟨its,rv,p,hz⟩:=I.list hl;have e:=eD rv;subst e;have hL:=p.isList;have hlt:l < s.heap.objs.size:=by obtain⟨_,e,_⟩:=hL;exact Zj e
 refine call_any_walk (UQ hL ?_)
 refine⟨s.heap.objs.size,[s.heap.objs.size,l],[s.heap.objs.size],_,_,_,fun i=>(bs[i]?).getD false,rfl,Walks.list (A:=X.A.in1) (I.ok.hd hc) _ l (Zl hlt) _,
  ⟨⟨_,Zp _ rfl,rfl,rfl⟩,hL.push _⟩,fun i v s' Q' E' hP hQ=>?_,fun h' tk hk=>?_⟩
 ·have hP':(bs.map Value.bool)[i]?=some v:=by simpa using hP
  rw[ZC] at hP';cases hb:bs[i]? with
  |none=>rw[hb] at hP';cases hP'
  |some b=>
   rw[hb] at hP';have ev:Value.bool b=v:=Option.some.inj hP';subst ev;simp only[hb,Z6] at hQ;exact UY hQ
 ·have e:((ZI (bs.map Value.bool).toArray.size).any fun i=>(bs[i]?).getD false)=bs.any id:=by
   rw[Zc,Ze,Z1];simp only[Yn,Y0,id];constructor
   ·rintro⟨i,hi,h⟩;rw[gEG hi,Z6] at h;exact⟨_,YL hi,h⟩
   ·rintro⟨b,hb,h⟩;obtain⟨i,hi,rfl⟩:=Y2.mp hb;exact⟨i,hi,by rw[gEG hi,Z6];exact h⟩
  rw[e];exact⟨.bl (bs.any id),H,I.kept (t':=tk) (lv hk),rfl,q⟩
theorem D3:OpR X (VC .Is) (fun x y H Q=>∃b c,x = .bl b/\y = .bl c/\Q (.bl (b == c)) H):=by
 intro pins s σ H x y v u Q I rx ry h;obtain⟨b,c,rfl,rfl,q⟩:=h;cases rx;cases ry;exact is_bool ⟨.bl _,H,I,rfl,q⟩
theorem rO:OpR X (VC .IsNot) (fun x y H Q=>∃b c,x = .bl b/\y = .bl c/\Q (.bl (b != c)) H):=by
 intro pins s σ H x y v u Q I rx ry h;obtain⟨b,c,rfl,rfl,q⟩:=h;cases rx;cases ry;exact isnot_bool ⟨.bl _,H,I,rfl,q⟩
theorem ia(hc:X.calm=true):∀ {pins:List (Addr × Obj)} {s:Shared} {σ:St} {H:Hp} {Q:VK} {r:Addr} {n:Nat} {t u v:Tok},Inv X pins σ H s->IsRange s.heap r 0 n 1 t u v->n<=1000->(∀l,H l=none->Q (.ref l) (upd H l (.lst ((ZI n).map fun(i:Nat)=>V.int i)))) ->
  wpAny (model X.prog X.w) X.A (call (.type "list") [.ref r]) (EP X pins σ Q) X.xe s:=by
 intro pins s σ H Q r n t u v I hr hn q;have hsm:Builtin.Range.small 0 n 1=true:=small_one (by lia) (by lia) (by lia) (by lia);refine call_list_range (n:=n) (I.ok.hd hc) hr hsm (by rw[V5];split <;> lia) (by lia) fun h' tk acc' c' hk hS' hacc=>?_;refine⟨.ref s.heap.objs.size,_,I.laid (t':=tk) (o:=.lst ((ZI n).map fun(i:Nat)=>V.int i)) hk (Zh _) ?_,rfl,q _ (I.hok.fresh (Zh _))⟩;have hsz:acc'.size=n:=hacc.1;refine⟨by rw[Ze,Xa];exact Yy (jz hn),acc'.toList,c',?_,by simpa using hS'⟩
 have go:∀ (m:Nat) (k:Nat) (l:List Value),l.length=m->(∀j x,l[j]?=some x->∃tk,x=Value.int (((k+j:Nat):Nat):Int) tk)->ax ((List.range' k m).map fun(i:Nat)=>V.int i) l:=by
  intro m
  induction m with
  |zero=>intro k l hl _;cases l with |nil=>exact .nil |cons _ _=>cases hl
  |succ m ih=>
   intro k l hl hx;cases l with
   |nil=>cases hl
   |cons x l=>
    rw[List.range'_succ,Zq];obtain⟨t,e⟩:=hx 0 x rfl;refine .cons ⟨t,by simpa using e⟩ (ih (k+1) l (by simpa using hl) fun j y hy=>?_);obtain⟨t',e'⟩:=hx (j+1) y (by simpa using hy);exact⟨t',by rw[e',show((k+(j+1):Nat):Int)=((k+1+j:Nat):Int) from by lia]⟩
 rw[List.range_eq_range'];refine go n 0 acc'.toList (by simpa using hsz) fun j x hx=>?_;obtain⟨tk',e⟩:=hacc.2 j x (by simpa using hx);exact⟨tk',by rw[e,show(0:Int)+(j:Nat) * 1=((0+j:Nat):Int) from by lia]⟩
end
section
variable {κ:Type} [DecidableEq κ]
noncomputable def lA(kvs:List (κ × V))(k:κ)(v:V):List (κ × V):=
 if (kvs.any fun kv=>decide (kv.1=k))=true then kvs.map (fun kv=>if kv.1=k then (kv.1,v) else kv) else kvs++[(k,v)]
theorem lB(kvs:List (κ × V))(k:κ)(v:V):(lA kvs k v).length<=kvs.length+1:=by
 unfold lA;split
 ·rw[Ze];omega
 ·rw[Zm,Zs,Z2];omega
theorem KV.any{kvs:List (κ × V)}{vs:List (κ × Value)}(r:KV kvs vs)(k:κ):(kvs.any fun kv=>decide (kv.1=k))=vs.any fun kv=>decide (kv.1=k):=by
 unfold KV at r
 induction r with
 |nil=>rfl
 |cons h t ih=>rw[Yi,Yi,ih,h.1]
theorem KV.repl{kvs:List (κ × V)}{vs:List (κ × Value)}(r:KV kvs vs)(k:κ){y:V}{u:Value}(ry:aq y u) :
  KV (kvs.map fun kv=>if kv.1=k then (kv.1,y) else kv) (vs.map fun kv=>if kv.1=k then (kv.1,u) else kv):=by
 unfold KV at r ⊢
 induction r with
 |nil=>exact .nil
 |@cons p q ps qs h t ih=>
  rw[Zq,Zq];refine .cons ?_ ih;obtain⟨h1,h2⟩:=h;by_cases e:p.1=k
  ·rw[if_pos e,if_pos (h1.symm.trans e)];exact⟨h1,ry⟩
  ·rw[if_neg e,if_neg (fun z=>e (h1.trans z))];exact⟨h1,h2⟩
theorem KV.put{kvs:List (κ × V)}{vs:List (κ × Value)}(r:KV kvs vs)(k:κ){y:V}{u:Value}(ry:aq y u):KV (lA kvs k y) (stored vs k u):=by
 unfold lA stored;rw[r.any k];by_cases e:(vs.any fun kv=>decide (kv.1=k))=true
 ·rw[if_pos e,if_pos e];exact r.repl k ry
 ·rw[if_neg e,if_neg e];exact Paired.snoc r ⟨rfl,ry⟩
end
theorem IY{P:Program}{w:World}{k:Key}{u:Value}(r:aq (kV k) u):(bn P w).is k u=true:=by
 cases k with
 |inl i=>obtain⟨t,e⟩:=(show ∃t,u=Value.int i t from r);subst e;exact li P w i t
 |inr x=>obtain⟨t,e⟩:=(show ∃t,u=Value.str x t from r);subst e;exact lj P w x t
section
variable {P:Program} {w:World} {H:Hp} {h:Heap} {a:Addr}
theorem IZ{u:HO}(ok:HOk P w H h)(e:Rd H a u):aX P w H h a u:=e.ok ok
theorem Ja{kvs:List (Key × V)}(ok:HOk P w H h)(e:Rd H a (.dK kvs)):kvs.length<=sizeLine/\(a == Ui)=false/\∃vs,KV kvs vs/\h.DictOf (bn P w) a vs:=
 show aX P w H h a (.dK kvs) from IZ ok e
theorem Jb{kvs:List (Key × V)}(ok:HOk P w H h)(e:H a=some (.dK kvs)):kvs.length<=sizeLine/\(a == Ui)=false/\∃vs,KV kvs vs/\h.DictOf (bn P w) a vs:=Ja ok (.inl e)
end
section
variable {X:Cx} {pins:List (Addr × Obj)} {σ:St} {H:Hp} {s:Shared} {a:Addr} {y v:V} {u r:Value} {o:Option V} {A:Around} {E:Value->Shared->Prop}
theorem Inv.big(I:Inv X pins σ H s):Ui < s.heap.objs.size:=by
 have h:VS < s.heap.objs.size:=(I.mod.glob.keeps I.bk).lt;exact Nat.lt_trans (by decide) h
theorem yW{h':Heap}{t':Nat}{ob:HO}(I:Inv X pins σ H s)(mu:Mut (H a))(hs:Heap.SameBut a s.heap h')(he:∃q,h'.get? a=some q)(new:aX X.prog X.w (upd H a ob) h' a ob) :
  Inv X pins σ (upd H a ob) { s with heap:=h',toks:=t' }:=
 I.write (x:=a) (e:=a) mu (.inl rfl) (fun b q hb z=>(hs.2 b hb).trans z) he new
theorem D4{P:Program}{w:World}{H':Hp}{h':Heap}{kvs:List (Key × V)}{vs:List (Key × Value)}(z:kvs.length<=sizeLine)(hd:(a == Ui)=false)(rel:KV kvs vs)(dd:h'.DictOf (bn P w) a vs) :
  aX P w H' h' a (.dK kvs):=⟨z,hd,vs,rel,dd⟩
end
theorem lF{P:Program}{w:World}{H:Hp}(h:Heap)(hb:Ui < h.objs.size):aX P w H (h.push { cls:=.type "dict", data:=.dict #[] }) h.objs.size (.dK []):=
 ⟨Xl _,beq_eq_false_iff_ne.mpr (Ne.symm (Zl hb)),[],.nil,Heap.DictOf.new h⟩
def uA:TE:=fun _ H Q=>∀p,H p=none->Q (.ref p) (upd H p (.dK []))
section
variable {X:Cx} {pos:Pos}
theorem uB:PE X (.Dict [] [] pos) uA:=fun pins s σ H Q I h=>
 wpAny_Dict_empty ⟨.ref s.heap.objs.size,_,I.laid (a:=s.heap.objs.size) (o:=.dK []) (t':=s.toks) (fun _ _ q=>Za _ q) (Zh _) (lF s.heap I.big),rfl,h _ (I.hok.fresh (Zh _))⟩
end
def nN:List (TE × TE)->St->Hp->(List (V × V)->Hp->Prop)->Prop
 |[],_,H,Q=>Q [] H
 |(tk,tv)::r,σ,H,Q=>tk σ H fun x H1=>tv σ H1 fun y H2=>nN r σ H2 fun ps H3=>Q ((x,y)::ps) H3
abbrev VV:List (V × V)->List (Value × Value)->Prop:=Paired fun p q=>aq p.1 q.1/\aq p.2 q.2
def PPs(X:Cx)(pos:Pos)(keys:List (Option Expr))(values:List Expr)(trs:List (TE × TE)):Prop:=
 ∀ (pins:List (Addr × Obj)) (s:Shared) (σ:St) (H:Hp) (Q:List (V × V)->Hp->Prop),Inv X pins σ H s->nN trs σ H Q ->
  wpAny (model X.prog X.w) X.A (evalPairs (pairTrees keys values X.env pos)) (fun vs s'=>∃ps H',Inv X pins σ H' s'/\VV ps vs/\Q ps H') X.xe s
theorem yX{X:Cx}{pos:Pos}:PPs X pos [] [] []:=fun pins s σ H Q I h=>pairTrees_nil_walk ⟨[],H,I,.nil,h⟩
theorem uC{X:Cx}{pos:Pos}{k v:Expr}{ks:List (Option Expr)}{vs:List Expr}{tk tv:TE}{trs:List (TE × TE)}(hk:PE X k tk)(hv:PE X v tv)(hr:PPs X pos ks vs trs) :
  PPs X pos (some k::ks) (v::vs) ((tk,tv)::trs):=fun pins s σ H Q I h=>
 pairTrees_cons_walk (thn (hk pins s σ H _ I h) fun u s1 ⟨x,H1,I1,rx,q1⟩=>thn (hv pins s1 σ H1 _ I1 q1) fun w2 s2 ⟨y,H2,I2,ry,q2⟩=>
  thn (hr pins s2 σ H2 _ I2 q2) fun ws s3 ⟨ps,H3,I3,rel,q3⟩=>⟨(x,y)::ps,H3,I3,.cons ⟨rx,ry⟩ rel,q3⟩)
noncomputable def ic(kvs more:List (Key × V)):List (Key × V):=more.foldl (fun acc kv=>lA acc kv.1 kv.2) kvs
theorem KV.merge:∀ {more:List (Key × V)} {rs:List (Key × Value)} {kvs:List (Key × V)} {vs:List (Key × Value)},KV more rs->KV kvs vs->KV (ic kvs more) (merged vs rs):=by
 intro more rs kvs vs r;unfold KV at r
 induction r generalizing kvs vs with
 |nil=>intro q;exact q
 |@cons p q ps qs h t ih=>
  intro r0
  have e:KV (lA kvs p.1 p.2) (stored vs q.1 q.2):=by
   have:=r0.put p.1 h.2;rw[<-h.1];exact this
  exact ih e
theorem eg:∀ (more kvs:List (Key × V)),(ic kvs more).length<=kvs.length+more.length
 |[],kvs=>by show kvs.length<=kvs.length+0;omega
 |p::r,kvs=>by
  have h1:=eg r (lA kvs p.1 p.2);have h2:=lB kvs p.1 p.2;show(ic (lA kvs p.1 p.2) r).length<=_;rw[Zs];omega
theorem ie{P:Program}{w:World}:∀ {kvs:List (Key × V)} {ws:List (Value × Value)},VV (kvs.map fun kv=>(kV kv.1,kv.2)) ws->∃rs,Carries (bn P w) ws rs/\KV kvs rs
 |[],_,r=>by rw[ZO] at r;cases r;exact⟨[],True.intro,.nil⟩
 |p::kvs,_,r=>by
  rw[Zq] at r;cases r with
  |@cons a b as bs h t=>
   obtain⟨rs,c,q⟩:=ie (P:=P) (w:=w) t;obtain⟨b1,b2⟩:=b;exact⟨(p.1,b2)::rs,⟨IY h.1,rfl,c⟩,.cons ⟨rfl,h.2⟩ q⟩
def uD(trs:List (TE × TE)):TE:=fun σ H Q=>∀p,H p=none->nN trs σ (upd H p (.dK [])) fun ps H2=>H2 p=some (.dK [])/\∃kvs:List (Key × V),ps=kvs.map (fun kv=>(kV kv.1,kv.2))/\kvs.length<=15/\Q (.ref p) (upd H2 p (.dK (ic [] kvs)))
theorem yY{X:Cx}{pos:Pos}{keys:List (Option Expr)}{values:List Expr}{trs:List (TE × TE)}(h:PPs X pos keys values trs)(hall:keys.all (·.isSome)=true)(hl:keys.length=values.length)(h0:keys ≠ [])
  (h15:keys.length<=15):PE X (.Dict keys values pos) (uD trs):=by
 intro pins s σ H Q I q;have hn:=I.hok.fresh (Zh s.heap.objs.size);have I1:=I.laid (a:=s.heap.objs.size) (o:=.dK []) (h':=s.heap.push { cls:=.type "dict", data:=.dict #[] }) (t':=s.toks) (fun _ _ q=>Za _ q) (Zh _) (lF s.heap I.big);refine wpAny_Dict_walk (knd:=bn X.prog X.w) hall hl h0 h15 (thn (h pins _ σ _ _ I1 (q _ hn)) fun ws s2 ⟨ps,H2,I2,rel,e,kvs,ep,lk,q2⟩=>?_);subst ep;obtain⟨rs,c,rk⟩:=ie (P:=X.prog) (w:=X.w) rel;obtain⟨z,hd,vs0,r0,dd⟩:=Jb I2.hok e;cases r0;refine⟨rs,c,dd,fun h' dd' hs=>⟨.ref s.heap.objs.size,_,?_,rfl,q2⟩⟩
 have hz:(ic [] kvs).length<=sizeLine:=by
  have h1:=eg kvs [];rw[Z2] at h1;rw[Uc];omega
 have he:∃q,h'.get? s.heap.objs.size=some q:=let ⟨q,_,_,hq,_⟩:=dd';⟨q,hq⟩;exact yW I2 (by rw[e];exact True.intro) hs he (D4 hz hd (rk.merge .nil) dd')
end L2
namespace HT
open PySem PyProof.Rows
open AutoSeq1 (wpAny_loadPart')
section
variable {prog:Program} {w:World} {A:Around} {E:Value->Shared->Prop} {s:Shared}
theorem gB{i:Nat}(hit:s.heap.IsTupleIter it t i)(ht:s.heap.IsTuple t items)(hx:items[i]?=some x)
  (hQ:∀h',h'.IsTupleIter it t (i+1)->Heap.SameBut it s.heap h'->Q x { s with heap:=h' }):wpAny (model prog w) A (Builtin.SmallTypes.nextOf (.ref it)) Q E s:=by
 obtain⟨o,ho,hc,hd⟩:=id hit;obtain⟨ol,hol,_,nl,hdl⟩:=ht;unfold Builtin.SmallTypes.nextOf
 refine Ur (wpAny_callSpecial?_slot (name:=Str.ofString "__next__") hit.typeIs Wo
  (Uu Wo hit.typeIs Wa ?_ (X5 _)))
 show wpAny _ _ (field (.ref it) 0 >>= _) _ _ s;refine Ur (UA ho hd (x:=.ref t) rfl ?_);show wpAny _ _ (if (Value.ref t == Value.none)=true then _ else _) _ _ s;rw[if_neg (show ¬ ((Value.ref t == Value.none)=true) from Zb)];show wpAny _ _ (field (.ref it) 1 >>= _) _ _ s;refine Ur (UA ho hd (x:=.int i 0) rfl ?_);show wpAny _ _ (V8 (.ref t) >>= _) _ _ s;refine Ur (UV hol hdl ?_);simp only[Yc,hx];refine Ur (UW ho hd (by simp) (UO ⟨x,rfl,UO (hQ _ ?_ (Heap.SameBut.update ..))⟩))
 exact⟨_,ZH _ ho (Obj.isFreed_of_fields (Obj.data_mapFields hd _)),(Obj.cls_mapFields ..).trans hc,by
  rw[Obj.data_mapFields hd];simp[rawInt]⟩
theorem ig{i:Nat}(hh:A.handled=none)(hit:s.heap.IsTupleIter it t i)(ht:s.heap.IsTuple t items)(hx:items[i]?=none)
  (hE:∀h' e,Heap.ExtBut it s.heap h'->(∃o,h'.get? e=some o/\o.cls = .type "StopIteration")->E (.ref e) { s with heap:=h' }):wpAny (model prog w) A (Builtin.SmallTypes.nextOf (.ref it)) Q E s:=by
 obtain⟨o,ho,hc,hd⟩:=id hit;obtain⟨ol,hol,_,nl,hdl⟩:=ht;unfold Builtin.SmallTypes.nextOf
 refine Ur (wpAny_callSpecial?_slot (name:=Str.ofString "__next__") hit.typeIs Wo
  (Uu Wo hit.typeIs Wa ?_ (X5 _)))
 show wpAny _ _ (field (.ref it) 0 >>= _) _ _ s;refine Ur (UA ho hd (x:=.ref t) rfl ?_);show wpAny _ _ (if (Value.ref t == Value.none)=true then _ else _) _ _ s;rw[if_neg (show ¬ ((Value.ref t == Value.none)=true) from Zb)];show wpAny _ _ (field (.ref it) 1 >>= _) _ _ s;refine Ur (UA ho hd (x:=.int i 0) rfl ?_);show wpAny _ _ (V8 (.ref t) >>= _) _ _ s;refine Ur (UV hol hdl ?_);simp only[Yc,hx];refine Ur (UU (Ur (UW ho hd (by simp) ?_)));show wpAny _ _ (newExc (.type "StopIteration") [] >>= _) _ _ _;refine Ur ?_;simp only[newExc,newTuple];refine Ur (UL ?_ (by size_fits));refine Ur (m:=firstArgMember _ _) (UM (a:=Value.none) (by first |rfl |(simp only[firstArgMember];rfl)) ?_);refine UL ?_ (by size_fits);simp only[raiseNew];refine Ur (wpAny_handled ?_)
 first |rw[show A.in1.handled=none from hh] |rw[hh]
 refine Ur (UO (wpAny_throw ?_));exact hE _ _ (((Heap.SameBut.update ..).extBut.push _).push _) ⟨_,Zp _ rfl,rfl⟩
end
theorem uE(hh:A.handled=none)(it l:Addr)(hne:l ≠ it)(items:Array Value) :
  Draws prog w A it [it,l] items.size (fun i v=>items[i]?=some v) (fun i h=>h.IsTupleIter it l i/\h.IsTuple l items) where
 live:=fun _ _ st=>let ⟨o,ho,_⟩:=st.1;⟨o,ho⟩
 frame:=fun _ _ _ st hk=>⟨st.1.at fun o e=>hk it (by simp) o e,let ⟨o,e,r⟩:=st.2;⟨o,hk l (by simp) o e,r⟩⟩
 item:=fun i s Q E hi st hQ=>by
  refine gB st.1 st.2 (x:=items[i]) (by simp[hi]) fun h' hit' hs'=>?_;exact hQ _ h' s.toks (by simp[hi]) ⟨hit',let ⟨o,e,r⟩:=st.2;⟨o,hs'.extBut l o hne e,r⟩⟩ hs'
 done:=fun s Q E st hE=>ig hh st.1 st.2 (by simp) hE
theorem lG(l:Addr)(items:Array Value)(n:Nat)(dct:Option Addr)(sl:Array (Option Value)) :
  Meets (Builtin.«enumerate.__new__» ⟨[.type "enumerate", .ref l],[]⟩) (fun _ R s=>s.heap.get? l=some { cls:=.type "tuple", dict:=dct,data:=.seq items n,slots:=sl } ∧
   R (.ok (.ret (.ref (s.heap.push { cls:=.type "tuple_iterator", data:=.fields #[.ref l,.int 0 0] }).objs.size)))
    { s with heap:=(s.heap.push { cls:=.type "tuple_iterator", data:=.fields #[.ref l,.int 0 0] }).push { cls:=.type "enumerate", data:=.fields #[.none,.bool false,.ref s.heap.objs.size,rawInt 0,.none,.none] } }):=
 .of_wp fun prog w A R s h=>by
  obtain⟨hp,g,d,tk,os⟩:=s;obtain⟨hl,h⟩:=h;have hsub:=sub_enumerate;have hL:Heap.IsTuple (Shared.heap ⟨hp,g,d,tk,os⟩) l items:=⟨_,hl,rfl,n,rfl⟩
  wp_walk using UG hl
  refine wpAny_stack_any fun st=>UO ?_;split
  ·rename_i c _ _ _ _ _;cases (c == Value.type "enumerate")
   ·wp_walk using UG hl,UR hL
    exact⟨_,rfl,h⟩
   ·wp_walk using UG hl,UR hL
    exact⟨_,rfl,h⟩
  ·wp_walk using UG hl,UR hL
   exact⟨_,rfl,h⟩
theorem nP(hL:IsTup s.heap l items)
  (h:∀h',IsEnum h' (s.heap.objs.size+1) s.heap.objs.size 0 .none->h'.IsTupleIter s.heap.objs.size l 0->h'.objs.size=s.heap.objs.size+2 ->
   (∀b o,s.heap.get? b=some o->h'.get? b=some o)->Q (.ref (s.heap.objs.size+1)) { s with heap:=h' }) :
  wpAny (model prog w) A (call (.type "enumerate") [.ref l]) Q E s:=by
 obtain⟨⟨c,dct,dt,sl⟩,hl,hc,n,hd⟩:=hL;replace hc:c = .type "tuple" := hc;replace hd:dt = .seq items n:=hd;subst hc hd
 refine callType_new PySem.F.called_enumerate (by decide) (PySem.F.typeCall_enumerate_1 _) (PySem.F.newCall_enumerate_1 _) (fun obj=>PySem.F.args_object_init_2 obj _) PySem.F.entry_enumerate_new
  (lG l items n dct sl) ⟨hl,?_⟩
 have hz:(s.heap.push { cls:=.type "tuple_iterator", data:=.fields #[.ref l,.int 0 0] }).objs.size=s.heap.objs.size+1:=Yd ..;show _/\_;rw[hz]
 have he:IsEnum ((s.heap.push { cls:=.type "tuple_iterator", data:=.fields #[.ref l,.int 0 0] }).push
   { cls:=.type "enumerate", data:=.fields #[.none,.bool false,.ref s.heap.objs.size,rawInt 0,.none,.none] }) (s.heap.objs.size+1) s.heap.objs.size 0 .none:=by
  have:=Zp (s.heap.push { cls:=.type "tuple_iterator", data:=.fields #[.ref l,.int 0 0] })
   (o:={ cls:=.type "enumerate", data:=.fields #[.none,.bool false,.ref s.heap.objs.size,rawInt 0,.none,.none] }) rfl
  rw[hz] at this;exact this
 exact⟨⟨_,he,rfl⟩,h _ he ⟨_,Za _ (Zp _ rfl),rfl,rfl⟩ (by rw[Yd,hz]) fun b o x=>Za _ (Za _ x)⟩
end HT
namespace L2
open PySem PySem.Spec PyProof.Rows
noncomputable def Ite(K:WN)(a:Addr)(sq:WN->Hp->Addr->List V->Prop):It:=
 ⟨fun i H=>∃xs x,sq K H a xs/\xs[i]?=some x,fun i H x H'=>∃T,H T=none/\x = .ref T/\∀xs v,sq K H a xs->xs[i]?=some v->H'=upd H T (.tup [.int i,v]),fun i H=>∃xs,sq K H a xs/\xs.length=i⟩
theorem Inv.turnedLaid{X:Cx}{pins:List (Addr × Obj)}{σ:St}{H:Hp}{s:Shared}{h':Heap}{T:Addr}{o:HO}{t':Nat}{ch:List Addr}(I:Inv X pins σ H s)(hf:∀b ∈ ch,dg X pins H b)
  (k:∀b ob,b ∉ ch->s.heap.get? b=some ob->h'.get? b=some ob) (hp:s.heap.objs.size<=T) (new:aX X.prog X.w (upd H T o) h' T o):Inv X pins σ (upd H T o) { s with heap:=h',toks:=t' }:=by
 have fr:=I.hok.fresh hp;have neT:∀b ob,s.heap.get? b=some ob->b ≠ T:=fun b ob e=>Zl (Zo (Zj e) hp)
 refine I.step (g':=s.gens) (d':=s.drawn) (ch:=ch) (fun b hb=>⟨(hf b hb).2.2.2.1,(hf b hb).2.1,(hf b hb).2.2.2.2.1,(hf b hb).2.2.2.2.2⟩) (fun b ob _ _ hc e _=>k b ob hc e) (fun b ob _ _ hc e _=>⟨ob.slots,k b ob hc e⟩)
  (fun b ob _ e n=>by rw[ah (neT b ob e)];exact n) (fun b ob hc e=>⟨ob,k b ob hc e⟩) (fun b xs q=>by rw[ah (aJ q fr)];exact q) (fun b u xs q=>by rw[ah (aJ q fr)];exact q)
  (fun b ps q=>⟨#[],by rw[ah (aJ q fr),q];simp⟩) (fun m hm=>?_) (fun b u q=>?_) I.bare
 ·obtain⟨ob,es,ep,ho',r'⟩:=hm;exact⟨ob,es,ep,k _ ob (fun z=>(hf _ z).2.1 rfl) ho',r'⟩
 ·by_cases hb:b=T
  ·subst hb;rw[ak] at q;cases q;exact new
  ·rw[ah hb] at q;refine(I.hok b u q).stay (fun c v hc q'=>k c v (fun z=>?_) q') (fun c q=>by rw[ah (aJ q fr)];exact q) fun c xs q=>by rw[ah (aJ q fr)];exact q
   have n:=(hf c z).1;rcases hc with w |w
   ·rw[w,q] at n;cases n
   ·rw[w] at n;cases n
theorem Inv.turnedAll{X:Cx}{pins:List (Addr × Obj)}{σ:St}{H:Hp}{s:Shared}{h':Heap}{t':Nat}{ch:List Addr}(I:Inv X pins σ H s)(hf:∀b ∈ ch,dg X pins H b)
  (k:∀b ob,b ∉ ch->s.heap.get? b=some ob->h'.get? b=some ob):Inv X pins σ H { s with heap:=h',toks:=t' }:=by
 refine I.step (g':=s.gens) (d':=s.drawn) (ch:=ch) (fun b hb=>⟨(hf b hb).2.2.2.1,(hf b hb).2.1,(hf b hb).2.2.2.2.1,(hf b hb).2.2.2.2.2⟩) (fun b ob _ _ hc e _=>k b ob hc e) (fun b ob _ _ hc e _=>⟨ob.slots,k b ob hc e⟩)
  (fun b ob _ e n=>n) (fun b ob hc e=>⟨ob,k b ob hc e⟩) (fun b xs q=>q) (fun b u xs q=>q)
  (fun b ps q=>⟨#[],by rw[q];simp⟩) (fun m hm=>?_) (fun b u q=>?_) I.bare
 ·obtain⟨ob,es,ep,ho',r'⟩:=hm;exact⟨ob,es,ep,k _ ob (fun z=>(hf _ z).2.1 rfl) ho',r'⟩
 ·refine(I.hok b u q).stay (fun c v hc q'=>k c v (fun z=>?_) q') (fun c q=>q) fun c xs q=>q;have n:=(hf c z).1;rcases hc with w |w
  ·rw[w,q] at n;cases n
  ·rw[w] at n;cases n
theorem nQ{P:Program}{w:World}{K:WN}{elts:List Expr}{x1:Nat}{tp:Pos}(a e it:Addr)(hei:e ≠ it) :
  Turn P w K (.Tuple elts x1 tp) (Ite K a SqL) [e,it] e (fun i h=>(∃old,IsEnum h e it i old)/\h.IsListIter it a i) where
 mem:=by simp
 obj:=fun i h st b hb=>by
  obtain⟨⟨old,he⟩,o,eo,c,d⟩:=st;rcases Zk.mp hb with z |z
  ·subst z;exact⟨_,he,fun v z=>by have z':Data.fields _=Data.cell v:=z;cases z'⟩
  ·have z':=ZN.mp z;subst z';exact⟨o,eo,fun v z=>by rw[d] at z;cases z⟩
 keep:=fun i h h' st k=>⟨let ⟨old,he⟩:=st.1;⟨old,k e (by simp) _ he⟩,st.2.at fun o eo=>k it (by simp) o eo⟩
 item:=by
  intro X hP hw hK hc i pins s σ H E I hf st hg;subst hP hw hK;obtain⟨xs,x,hq,hx⟩:=hg;obtain⟨its,rv,p,hz⟩:=I.list hq;obtain⟨u,hu,ru⟩:=rv.get hx;obtain⟨⟨old,he⟩,hit⟩:=st;have hL:s.heap.IsList a its.toArray:=p.isList
  have hae:e ≠ a:=fun z=>by
   subst z;obtain⟨o,ho,hc',n,hd'⟩:=id hL;rw[he] at ho;cases ho;have z':Data.fields _=Data.seq its.toArray n:=hd';cases z'
  have hai:a ≠ it:=fun z=>by
   subst z;obtain⟨o,ho,hc',n,hd'⟩:=id hL;obtain⟨o',ho',c',d'⟩:=id hit;rw[ho'] at ho;cases ho;rw[d'] at hd';cases hd'
  have hi:i < its.toArray.size:=by
   have:=(Zf.mp hu).1
   simpa using this
  refine UT (Draws.list (A:=X.A.in1) (I.ok.hd hc) it a hai its.toArray) he ⟨hit,hL⟩ hi hei (by simp[hei,hae]) fun y h' tk hP ho hs' hT hsz hk=>?_
  have ey:y=u:=by
   have z:its.toArray[i]?=some u:=by simpa using hu
   rw[z] at hP;exact(Option.some.inj hP).symm
  subst ey;refine⟨_,rfl,?_⟩;refine UF ho fun h2 he2 hs2=>?_;have helt:e < s.heap.objs.size:=Zj he;have hilt:it < s.heap.objs.size:=by obtain⟨o,eo,_⟩:=hit;exact Zj eo
  have hT2:h2.get? s.heap.objs.size=some { cls:=.type "tuple", data:=.seq #[.int i tk,y] }:=(hs2.2 _ (Yj helt)).trans hT;have fresh:=I.hok.fresh (Zh s.heap.objs.size);refine⟨.ref s.heap.objs.size,upd H s.heap.objs.size (.tup [.int i,x]),?_,rfl,⟨_,fresh,rfl,fun ys v hy hv=>?_⟩,⟨⟨y,by simpa using he2⟩,hs'.1.at fun o eo=>(hs2.2 it (Ne.symm hei)).trans eo⟩,fun b hb=>?_⟩
  ·exact I.turnedLaid (t':=tk+1) hf (fun b ob hb eb=>(hs2.2 b fun z=>hb (by simp[z])).trans (hk b ob (fun z=>hb (by simp[z])) (fun z=>hb (by simp[z])) eb)) (Zh _)
    ⟨by show 2<=sizeLine;decide,[.int i tk,y],.cons ⟨tk,rfl⟩ (.cons ru .nil),⟨_,hT2,rfl,_,rfl,rfl⟩⟩
  ·rw[I.list_inj hy hq,hx] at hv;cases hv;rfl
  ·rcases Zk.mp hb with z |z
   ·rw[z,ah (Zl helt)];exact(hf e (by simp)).1
   ·rw[ZN.mp z,ah (Zl hilt)];exact(hf it (by simp)).1
 done:=by
  intro X hP hw hK hc i pins s σ H E I hf st hg;subst hP hw hK;obtain⟨xs,hq,hx⟩:=hg;obtain⟨its,rv,p,hz⟩:=I.list hq;obtain⟨⟨old,he⟩,hit⟩:=st;have hL:s.heap.IsList a its.toArray:=p.isList
  have hai:a ≠ it:=fun z=>by
   subst z;obtain⟨o,ho,hc',n,hd'⟩:=id hL;obtain⟨o',ho',c',d'⟩:=id hit;rw[ho'] at ho;cases ho;rw[d'] at hd';cases hd'
  have hn:its.toArray.size=i:=by rw[Zc,<-rv.length,hx]
  subst hn;refine US (Draws.list (A:=X.A.in1) (I.ok.hd hc) it a hai its.toArray) he ⟨hit,hL⟩ fun h' eb=>⟨rfl,?_⟩;exact I.turnedAll (t':=s.toks) hf fun b ob hb q=>eb b ob (fun z=>hb (by simp[z])) q
 self:=fun _ _ _ _ _ st h=>let ⟨⟨old,he⟩,_⟩:=st;UP he h
theorem nR{P:Program}{w:World}{K:WN}{elts:List Expr}{x1:Nat}{tp:Pos}(a e it:Addr)(hei:e ≠ it) :
  Turn P w K (.Tuple elts x1 tp) (Ite K a SqT) [e,it] e (fun i h=>(∃old,IsEnum h e it i old)/\h.IsTupleIter it a i) where
 mem:=by simp
 obj:=fun i h st b hb=>by
  obtain⟨⟨old,he⟩,o,eo,c,d⟩:=st;rcases Zk.mp hb with z |z
  ·subst z;exact⟨_,he,fun v z=>by have z':Data.fields _=Data.cell v:=z;cases z'⟩
  ·have z':=ZN.mp z;subst z';exact⟨o,eo,fun v z=>by rw[d] at z;cases z⟩
 keep:=fun i h h' st k=>⟨let ⟨old,he⟩:=st.1;⟨old,k e (by simp) _ he⟩,st.2.at fun o eo=>k it (by simp) o eo⟩
 item:=by
  intro X hP hw hK hc i pins s σ H E I hf st hg;subst hP hw hK;obtain⟨xs,x,hq,hx⟩:=hg;obtain⟨its,rv,p,hz⟩:=I.tuple hq;obtain⟨u,hu,ru⟩:=rv.get hx;obtain⟨⟨old,he⟩,hit⟩:=st;have hL:s.heap.IsTuple a its.toArray:=p
  have hae:e ≠ a:=fun z=>by
   subst z;obtain⟨o,ho,hc',n,hd'⟩:=id hL;rw[he] at ho;cases ho;have z':Data.fields _=Data.seq its.toArray n:=hd';cases z'
  have hai:a ≠ it:=fun z=>by
   subst z;obtain⟨o,ho,hc',n,hd'⟩:=id hL;obtain⟨o',ho',c',d'⟩:=id hit;rw[ho'] at ho;cases ho;rw[d'] at hd';cases hd'
  have hi:i < its.toArray.size:=by
   have:=(Zf.mp hu).1
   simpa using this
  refine UT (HT.uE (A:=X.A.in1) (I.ok.hd hc) it a hai its.toArray) he ⟨hit,hL⟩ hi hei (by simp[hei,hae]) fun y h' tk hP ho hs' hT hsz hk=>?_
  have ey:y=u:=by
   have z:its.toArray[i]?=some u:=by simpa using hu
   rw[z] at hP;exact(Option.some.inj hP).symm
  subst ey;refine⟨_,rfl,?_⟩;refine UF ho fun h2 he2 hs2=>?_;have helt:e < s.heap.objs.size:=Zj he;have hilt:it < s.heap.objs.size:=by obtain⟨o,eo,_⟩:=hit;exact Zj eo
  have hT2:h2.get? s.heap.objs.size=some { cls:=.type "tuple", data:=.seq #[.int i tk,y] }:=(hs2.2 _ (Yj helt)).trans hT;have fresh:=I.hok.fresh (Zh s.heap.objs.size);refine⟨.ref s.heap.objs.size,upd H s.heap.objs.size (.tup [.int i,x]),?_,rfl,⟨_,fresh,rfl,fun ys v hy hv=>?_⟩,⟨⟨y,by simpa using he2⟩,hs'.1.at fun o eo=>(hs2.2 it (Ne.symm hei)).trans eo⟩,fun b hb=>?_⟩
  ·exact I.turnedLaid (t':=tk+1) hf (fun b ob hb eb=>(hs2.2 b fun z=>hb (by simp[z])).trans (hk b ob (fun z=>hb (by simp[z])) (fun z=>hb (by simp[z])) eb)) (Zh _)
    ⟨by show 2<=sizeLine;decide,[.int i tk,y],.cons ⟨tk,rfl⟩ (.cons ru .nil),⟨_,hT2,rfl,_,rfl,rfl⟩⟩
  ·rw[I.tuple_inj hy hq,hx] at hv;cases hv;rfl
  ·rcases Zk.mp hb with z |z
   ·rw[z,ah (Zl helt)];exact(hf e (by simp)).1
   ·rw[ZN.mp z,ah (Zl hilt)];exact(hf it (by simp)).1
 done:=by
  intro X hP hw hK hc i pins s σ H E I hf st hg;subst hP hw hK;obtain⟨xs,hq,hx⟩:=hg;obtain⟨its,rv,p,hz⟩:=I.tuple hq;obtain⟨⟨old,he⟩,hit⟩:=st;have hL:s.heap.IsTuple a its.toArray:=p
  have hai:a ≠ it:=fun z=>by
   subst z;obtain⟨o,ho,hc',n,hd'⟩:=id hL;obtain⟨o',ho',c',d'⟩:=id hit;rw[ho'] at ho;cases ho;rw[d'] at hd';cases hd'
  have hn:its.toArray.size=i:=by rw[Zc,<-rv.length,hx]
  subst hn;refine US (HT.uE (A:=X.A.in1) (I.ok.hd hc) it a hai its.toArray) he ⟨hit,hL⟩ fun h' eb=>⟨rfl,?_⟩;exact I.turnedAll (t':=s.toks) hf fun b ob hb q=>eb b ob (fun z=>hb (by simp[z])) q
 self:=fun _ _ _ _ _ st h=>let ⟨⟨old,he⟩,_⟩:=st;UP he h
def D5(K:WN)(ta:TA):TI:=fun σ H R=>ta σ H fun vs H1=>∃a xs,vs=[.ref a]/\SqL K H1 a xs/\R (Ite K a SqL) H1
def Jc(K:WN)(ta:TA):TI:=fun σ H R=>ta σ H fun vs H1=>∃a xs,vs=[.ref a]/\SqT K H1 a xs/\R (Ite K a SqT) H1
section
variable {X:Cx} {elts:List Expr} {x1:Nat} {tp:Pos}
theorem uF{a:Expr}{ta:TA}{p pos:Pos}(hg:Gl X "enumerate")(hm:X.mg "enumerate" = none)(ha:PA X [a] ta)(hs:Ue [a] X.env=[(false,eval a X.env)]:=by rfl):PI X (.Tuple elts x1 tp) (.Call (.Name "enumerate" p) [a] [] pos) (D5 X.K ta):=by
 intro pins s σ H R I h;refine Call_ (cP I hg hm XD (XV (thn (ha pos pins s σ H _ I h) fun us s1 ⟨vs,H1,I1,r1,q1⟩=>?_) hs rfl));obtain⟨l,xs,e,hl,q⟩:=q1;subst e;obtain⟨u,rfl,ru⟩:=bq r1;cases ru;obtain⟨its,rv,pl,hz⟩:=I1.list hl;refine call_enumerate_list pl.isList fun h' he hit hsz hk=>UP he ?_;have I2:Inv X pins σ H1 { s1 with heap:=h' }:=I1.kept (t':=s1.toks) hk;have fr:∀b,s1.heap.objs.size<=b->dg X pins H1 b:=fun b hb=>I1.fpOk hb (I1.hok.fresh hb);refine⟨_,[s1.heap.objs.size+1,s1.heap.objs.size],_,_,H1,rfl,I2,nQ l _ _ (Xi _),⟨⟨_,he⟩,hit⟩,fun b hb=>?_,q⟩;rcases Zk.mp hb with z |z
 ·rw[z];exact fr _ (ZX _)
 ·rw[ZN.mp z];exact fr _ (Zh _)
theorem D6{a:Expr}{ta:TA}{p pos:Pos}(hg:Gl X "enumerate")(hm:X.mg "enumerate" = none)(ha:PA X [a] ta)(hs:Ue [a] X.env=[(false,eval a X.env)]:=by rfl):PI X (.Tuple elts x1 tp) (.Call (.Name "enumerate" p) [a] [] pos) (Jc X.K ta):=by
 intro pins s σ H R I h;refine Call_ (cP I hg hm XD (XV (thn (ha pos pins s σ H _ I h) fun us s1 ⟨vs,H1,I1,r1,q1⟩=>?_) hs rfl));obtain⟨l,xs,e,hl,q⟩:=q1;subst e;obtain⟨u,rfl,ru⟩:=bq r1;cases ru;obtain⟨its,rv,pl,hz⟩:=I1.tuple hl;refine HT.nP pl fun h' he hit hsz hk=>UP he ?_;have I2:Inv X pins σ H1 { s1 with heap:=h' }:=I1.kept (t':=s1.toks) hk;have fr:∀b,s1.heap.objs.size<=b->dg X pins H1 b:=fun b hb=>I1.fpOk hb (I1.hok.fresh hb);refine⟨_,[s1.heap.objs.size+1,s1.heap.objs.size],_,_,H1,rfl,I2,nR l _ _ (Xi _),⟨⟨_,he⟩,hit⟩,fun b hb=>?_,q⟩;rcases Zk.mp hb with z |z
 ·rw[z];exact fr _ (ZX _)
 ·rw[ZN.mp z];exact fr _ (Zh _)
end
section
variable {X:Cx}
theorem lH:au X (.type "range") (fun xs H Q=>∃j:Int,xs=[.int j]/\∀p,H p=none->Q (.ref p) (upd H p (.rng 0 j))):=by
 intro pins s σ H xs us Q I r h;obtain⟨j,rfl,q⟩:=h;obtain⟨u,rfl,ru⟩:=bq r;obtain⟨t,rfl⟩:=ru;exact call_range_1 ⟨.ref s.heap.objs.size,_,I.laid (t':=s.toks+1+1) (o:=.rng 0 j) (fun b o e=>Za _ e) (Zh _) ⟨_,_,_,Zp _ rfl⟩,rfl,q _ (I.hok.fresh (Zh _))⟩
theorem kj(hc:X.calm=true):au X (.type "list") (fun xs H Q=>∃ (p:Addr) (n:Nat),xs=[.ref p]/\H p=some (.rng 0 n)/\n<=1000/\∀l,H l=none->Q (.ref l) (upd H l (.lst ((ZI n).map fun(i:Nat)=>V.int i)))):=by
 intro pins s σ H xs us Q I r h;obtain⟨p,n,rfl,hp,hn,q⟩:=h;obtain⟨u,rfl,ru⟩:=bq r;cases ru;obtain⟨t,u,v,e⟩:=(show aX X.prog X.w H s.heap p (.rng 0 n) from I.hok p _ hp);exact ia hc I e hn q
end
section
variable {X:Cx}
def Cv(i j k:Nat)(ta:TA):TS:=fun D σ H=>ta σ H fun vs H1=>∃v w z,vs=[v,w,z]/\D.nx (((σ.set i (some v)).set j (some w)).set k (some z)) H1
theorem yZ{i j k:Nat}{kt k2 pt2}(hc:X.calm=true)(hN:X.N.Nodup)(hi:X.N[i]?=some x)(hj:X.N[j]?=some y)(hk:X.N[k]?=some z)(hij:i ≠ j)(hik:i ≠ k)(hjk:j ≠ k)
  (hx:X.env.scope.names.lookup x=some .local) (hy:X.env.scope.names.lookup y=some .local) (hz:X.env.scope.names.lookup z=some .local) (ha:PA X [a,b,c] ta)
  (hw:Uf [.Tuple [.Name x px,.Name y py,.Name z pz] kt pt] (.Tuple [a,b,c] k2 pt2) X.env=pure (some [x,y,z]))
  (hs:Uh [.Tuple [.Name x px,.Name y py,.Name z pz] kt pt] (.Tuple [a,b,c] k2 pt2) pos.line X.env=pure false:=by rfl) :
  PS X (.Assign [.Tuple [.Name x px,.Name y py,.Name z pz] kt pt] (.Tuple [a,b,c] k2 pt2) pos) (Cv i j k ta):=by
 intro pins s σ H D I h;rw[exec_Assign_arm];refine Ur (UX ?_);rw[hs];refine Ur (UO ?_);rw[if_neg (by decide)];refine Ur (Tuple_ (thn (ha _ pins s σ H _ I h) fun us s1 ⟨vs,H1,I1,r1,q1⟩=>?_));obtain⟨v,w,z',e1,q1⟩:=q1;subst e1
 obtain⟨u1,u2,u3,rfl,rv,rw',rz⟩:∃u1 u2 u3,us=[u1,u2,u3]/\aq v u1/\aq w u2/\aq z' u3:=by
  cases r1 with
  |cons p q=>
   cases q with
   |cons p' q'=>
    cases q' with
    |cons p'' q''=>
     cases q'';exact⟨_,_,_,rfl,p,p',p''⟩
 refine UL ?_ (by show 3<=sizeLine;decide);have I2:Inv X pins σ H1 { s1 with heap:=s1.heap.push { cls:=.type "tuple", data:=.seq [u1,u2,u3].toArray } }:=I1.kept (t':=s1.toks) fun b o e=>Za _ e;rw[hw];refine Ur (UO ?_);show wpAny (model X.prog X.w) X.A (do rule "assign.swapped-stores"; let items <-unpackItems (.ref s1.heap.objs.size) 3 none;Vh [fun v=>Vn X.env z v,fun v=>Vn X.env y v,fun v=>Vn X.env x v] items.reverse;pure Flow.next) _ _ _;refine Ur (UU (Ur (unpackItems_tuple (items:=#[u1,u2,u3]) (I.ok.hd hc) (IsTup.new s1.heap _) fun h' hx'=>?_)));have I3:=I2.kept (h':=h') (t':=s1.toks) fun b o e=>hx' b o (Zl (Zj e)) e;show wpAny _ _ (Vh [fun v=>Vn X.env z v,fun v=>Vn X.env y v,fun v=>Vn X.env x v] [u3,u2,u1] >>= fun _=>pure Flow.next) _ _ _;refine Ur (assignInOrder_cons (Us (bF I3 hN hk (.inl hz) rz (fun s2 I4=>?_) (.inr hz))));refine assignInOrder_cons (Us (bF I4 hN hj (.inl hy) rw' (fun s3 I5=>?_) (.inr hy)));refine assignInOrder_cons (Us (bF I5 hN hi (.inl hx) rv (fun s4 I6=>assignInOrder_nil (UO ?_)) (.inr hx)));refine⟨_,H1,?_,q1⟩;rw[YI _ _ (Ne.symm hjk),YI _ _ (Ne.symm hik),YI (some w) (some v) (Ne.symm hij)] at I6;exact I6
end
noncomputable def dn:List Str->Bool
 |[]=>true
 |x::r=>!r.contains x && dn r
theorem dq:∀ {l:List Str},dn l=true->l.Nodup
 |[],_=>Xq
 |x::r,h=>by
  unfold dn at h;rw[bAE] at h;refine ZU.mpr ⟨fun m=>?_,dq h.2⟩;have:=h.1;simp[m] at this
noncomputable def cmB(own:List Str)(hs:List Nat)(N:List Str)(scope sc:Scope):Bool:=
 (scope.kind == .function) && dn (cb hs N++own) && dn (scope.names.map (·.1)) && ((cb hs N).all fun x=>scope.names.lookup x != some .local && scope.names.lookup x != some .cell) &&
 (scope.names.all fun y=>y.2 != .free || (sc.names.lookup y.1 == some .cell || sc.names.lookup y.1 == some .free)) && hs.all fun i=>(scope.names.lookup (uv i)).isNone
theorem uG(hs:List Nat)(h:cmB own hs N scope sc=true):CmScope own hs N scope sc:=by
 unfold cmB at h;simp only[bAE,ZD] at h;obtain⟨⟨⟨⟨⟨h1,h2⟩,h3⟩,h4⟩,h5⟩,h6⟩:=h;refine⟨by simpa using h1,dq h2,dq h3,fun x hx=>?_,fun y hy hk=>?_,fun i hi=>by simpa using h6 i hi⟩
 ·have:=h4 x hx
  simpa using this
 ·have:=h5 y hy;rw[hk] at this
  simpa using this
section
variable {X:Cx} {tg l a:Expr} {tl:TE} {ta:TA} {es:List Expr} {t:TGs} {p pos:Pos} {n k:Nat} {elts:List Expr} {x1:Nat} {tp:Pos} {o e:Expr} {to:TE} {tt:TA} {name:Str} {apos cpos:Pos}
def Cw(K:WN):List V->Hp->VK->Prop:=fun xs H Q=>∃x n t b,xs=[x,.ty n]/\TyOf K H x t/\W5 K t (.type n)=some b/\Q (.bl b) H
theorem kl(K:WN)(hK:X.K=K:=by rfl):au X (.builtin "isinstance") (Cw K):=hK ▸ lw
end
theorem uH(hk:PE X k tk)(hv:PE X v tv):PE X (.Dict [some k] [v] pos) (uD [(tk,tv)]):=yY (uC hk hv yX) rfl rfl (by simp) (by simp)
theorem eF:∀ {xs:List V} {us:List Value},ax xs us->xs.all bA=true->us.countP (eqU x)=xs.countP fun y=>eqV y x
 |_,_,.nil,_=>rfl
 |y::xs,u::us,.cons r t,f=>by
  rw[ZW,bAE] at f;rw[Yo,Yo,j9 r f.1,eF t f.2]
section
variable {X:Cx}
def y6(K:WN):V->List V->Hp->VK->Prop:=fun x vs H Q=>∃p xs y,x = .ref p/\vs=[y]/\SqT K H p xs/\bA y=true/\xs.all bA=true/\Q (.int ((xs.countP fun z=>eqV z y:Nat):Int)) H
theorem rP(K:WN)(hK:X.K=K:=by rfl):MtR X "tuple.count" (y6 K):=by
 subst hK;intro pins s σ H x vs v us Q I rx rv h;obtain⟨p,xs,y,rfl,rfl,hq,fy,fs,q⟩:=h;cases rx;obtain⟨u,rfl,ru⟩:=rv.one;obtain⟨its,r,⟨⟨cls,dd,data,sl⟩,e,hc,n,hd⟩,hz⟩:=I.tuple hq;simp only at hc hd;subst hc hd;refine Vs Wn ⟨_,e,rfl⟩ F.entry_tuple_count (F.args_tuple_count_2 _ _) (SeqAt.tuple_countAt p its.toArray n dd sl u (eqU y)) ⟨e,fun w hw=>bR ru fy r fs w (by simpa using hw),?_⟩;refine⟨.int _,H,I.tok _,⟨_,rfl⟩,?_⟩
 have z:(its.toArray.toList.countP (eqU y))=xs.countP fun z=>eqV z y:=by
  rw[Yw];exact eF r fs
 rw[z];exact q
end
end L2
namespace Dw
open PySem PySem.Spec PyProof.Rows L2
inductive D where
 |non |bl (b:Bool) |int (i:Int) |str (x:Str) |tup (ds:List D) |lst (ds:List D) |dic (ks:List Key) (ds:List D)
mutual
def Br(N:List Addr)(H:Hp):D->V->Prop
 |.non,v=>v = .non
 |.bl b,v=>v = .bl b
 |.int i,v=>v = .int i
 |.str x,v=>v = .str x
 |.tup ds,v=>∃a xs,v = .ref a/\H a=some (.tup xs)/\BrL N H ds xs
 |.lst ds,v=>∃a xs,v = .ref a/\a ∉ N/\H a=some (.lst xs)/\BrL N H ds xs
 |.dic ks ds,v=>∃a xs,v = .ref a/\a ∉ N/\H a=some (.dK (ks.zip xs))/\ks.length=ds.length/\BrL N H ds xs
def BrL(N:List Addr)(H:Hp):List D->List V->Prop
 |[],xs=>xs=[]
 |d::ds,xs=>∃x r,xs=x::r/\Br N H d x/\BrL N H ds r
end
theorem BrL.len:∀ {ds:List D} {xs:List V},BrL N H ds xs->xs.length=ds.length
 |[],_,h=>by simp only[BrL] at h;rw[h];rfl
 |d::ds,_,h=>by
  simp only[BrL] at h;obtain⟨x,r,rfl,_,h2⟩:=h;rw[Zs,Zs,BrL.len h2]
noncomputable def isB:D->Bool |.bl _=>true |_=>false
noncomputable def nS(ds:List D)(lo hi:Option Int):List D:=(ds.drop (HT.sIx ds.length 0 lo)).take (HT.sIx ds.length ds.length hi - HT.sIx ds.length 0 lo)
noncomputable def ba:Key->PyData
 |.inl i=>.int i
 |.inr x=>.str x
mutual
noncomputable def bx:D->PyData
 |.non=>.none
 |.bl b=>.bool b
 |.int i=>.int i
 |.str x=>.str x
 |.tup ds=>.tuple (aO ds)
 |.lst ds=>.list (aO ds)
 |.dic ks ds=>.dict ((ks.map ba).zip (aO ds))
noncomputable def aO:List D->List PyData
 |[]=>[]
 |d::ds=>bx d::aO ds
end
theorem cJ:∀ds:List D,(aO ds).length=ds.length
 |[]=>by simp[aO]
 |d::ds=>by simp[aO,cJ ds]
theorem gL{α β:Type}:∀ (ks:List α) (ds:List β),ks.length=ds.length->(ks.zip ds).map (·.1)=ks
 |[],[],_=>rfl
 |k::ks,d::ds,h=>by simp[gL ks ds (by simpa using h)]
 |[],_::_,h=>by simp at h
 |_::_,[],h=>by simp at h
theorem gM{α β:Type}:∀ (ks:List α) (ds:List β),ks.length=ds.length->(ks.zip ds).map (·.2)=ds
 |[],[],_=>rfl
 |k::ks,d::ds,h=>by simp[gM ks ds (by simpa using h)]
 |[],_::_,h=>by simp at h
 |_::_,[],h=>by simp at h
mutual
def shw:D->Prop
 |.int i=>i.natAbs.log2 < 1920
 |.tup ds=>rQ ds
 |.lst ds=>rQ ds
 |.dic ks ds=>(∀k ∈ ks,∀i,k=Sum.inl i->i.natAbs.log2 < 1920)/\rQ ds
 |_=>True
def rQ:List D->Prop
 |[]=>True
 |d::ds=>shw d/\rQ ds
end
section
variable {P:Program} {w:World} {N:List Addr} {H:Hp} {h:Heap}
theorem jC:∀ {ks:List Key} {kvs:List (Key × Value)} {es:List X1},Pairs (bn P w) es kvs->kvs.map (·.1)=ks->ReadsAll h (es.map (·.key)) (ks.map ba) []
 |[],[],_,.nil,_=>.nil
 |k::ks,_::_,_,.cons (e:=e) hk hv r,eq=>by
  simp only[Zq,Xw.injEq] at eq;obtain⟨e1,e2⟩:=eq;have z:=jC (ks:=ks) r e2;have hk':gk k e.key=true:=by rw[<-e1];exact hk
  have one:Reads h e.key (ba k) []:=by
   rcases aN hk' with ⟨i,t,rfl,q⟩ |⟨x,t,rfl,q⟩
   ·rw[q];exact .int _ _
   ·rw[q];exact .str _ _
  exact ReadsAll.cons one z
theorem bP:∀ {kvs:List (Key × Value)} {es:List X1},Pairs (bn P w) es kvs->es.map (·.val)=kvs.map (·.2)
 |[],_,.nil=>rfl
 |_::_,_,.cons _ hv r=>by rw[Zq,Zq,hv,bP r]
theorem gN:∀ {ks:List Key} {xs:List V} {kvs:List (Key × Value)},ks.length=xs.length->KV (ks.zip xs) kvs->ax xs (kvs.map (·.2))/\kvs.map (·.1)=ks
 |[],[],_,_,.nil=>⟨.nil,rfl⟩
 |k::ks,x::xs,_,hl,.cons r t=>by
  obtain⟨h1,h2⟩:=gN (ks:=ks) (xs:=xs) (by simpa using hl) t;exact⟨.cons r.2 h1,by rw[Zq,h2,<-r.1]⟩
 |[],_::_,_,hl,_=>by simp at hl
 |_::_,[],_,hl,_=>by simp at hl
mutual
theorem ce(ok:HOk P w H h):∀ (d:D) {v:V} {u:Value},Br N H d v->aq v u->∃as,Reads h u (bx d) as
 |.non,v,u,b,r=>by simp only[Br] at b;subst b;cases r;exact⟨_,by simp only[bx];exact .none⟩
 |.bl x,v,u,b,r=>by simp only[Br] at b;subst b;cases r;exact⟨_,by simp only[bx];exact .bool _⟩
 |.int i,v,u,b,r=>by simp only[Br] at b;subst b;obtain⟨t,rfl⟩:=r;exact⟨_,by simp only[bx];exact .int _ _⟩
 |.str x,v,u,b,r=>by simp only[Br] at b;subst b;obtain⟨t,rfl⟩:=r;exact⟨_,by simp only[bx];exact .str _ _⟩
 |.tup ds,v,u,b,r=>by
  simp only[Br] at b;obtain⟨a,xs,rfl,ha,hx⟩:=b;cases r;obtain⟨_,its,rv,o,e,c,n,q,_⟩:=ok a _ ha;obtain⟨as,z⟩:=dR ok ds hx rv;simp only[bx];exact⟨_,.tuple e c q (by simpa using z)⟩
 |.lst ds,v,u,b,r=>by
  simp only[Br] at b;obtain⟨a,xs,rfl,_,ha,hx⟩:=b;cases r;obtain⟨_,its,n,rv,e⟩:=ok a _ ha;obtain⟨as,z⟩:=dR ok ds hx rv;simp only[bx];exact⟨_,.list e rfl rfl (by simpa using z)⟩
 |.dic ks ds,v,u,b,r=>by
  simp only[Br] at b;obtain⟨a,xs,rfl,_,ha,hl,hx⟩:=b;cases r;obtain⟨_,_,kvs,rk,o,es,ep,e,ex,q,_,pr,_⟩:=ok a _ ha;obtain⟨rv,k1⟩:=gN (by rw[hl,hx.len]) rk;obtain⟨as,z⟩:=dR ok ds hx rv;simp only[bx];refine⟨_,.dict e ex.1 q (kvs:=(ks.map ba).zip (aO ds)) (as:=[]) (bs:=as) ?_ ?_⟩
  ·rw[gL _ _ (by rw[Ze,cJ,hl])];exact jC pr k1
  ·rw[gM _ _ (by rw[Ze,cJ,hl]),bP pr];exact z
theorem dR(ok:HOk P w H h):∀ (ds:List D) {xs:List V} {us:List Value},BrL N H ds xs->ax xs us->∃as,ReadsAll h us (aO ds) as
 |[],xs,us,b,r=>by simp only[BrL] at b;subst b;cases r;exact⟨_,by simp only[aO];exact .nil⟩
 |d::ds,xs,us,b,r=>by
  simp only[BrL] at b;obtain⟨x,l,rfl,h1,h2⟩:=b;cases r with
  |cons r1 r2=>
   obtain⟨as,z1⟩:=ce ok d h1 r1;obtain⟨bs,z2⟩:=dR ok ds h2 r2;simp only[aO];exact⟨_,.cons z1 z2⟩
end
theorem ij{es:List X1}:∀ {ks:List Key} {kvs:List (Key × Value)} {es:List X1} {d:Nat} {bs:List Addr},Pairs (bn P w) es kvs->kvs.map (·.1)=ks->(∀k ∈ ks,∀i,k=Sum.inl i->i.natAbs.log2 < 1920)->(∀t ∈ WB (ks.map ba),t.length<=sizeLine)->ReprAllK P w bs h d (es.map (·.key)) (WB (ks.map ba))
 |[],[],_,_,_,.nil,_,_,_=>by simp only[ZO,WB];exact .nil
 |k::ks,_::_,_,d,bs,.cons (e:=e) hk hv r,eq,hi,hz=>by
  simp only[Zq,Xw.injEq] at eq;obtain⟨e1,e2⟩:=eq;have hk':gk k e.key=true:=by rw[<-e1];exact hk
  simp only[Zq,WB] at hz ⊢;refine .cons ?_ (ij (es:=[]) r e2 (fun k' m=>hi k' (Zd _ m)) fun t m=>hz t (Zd _ m));rcases aN hk' with ⟨i,t,rfl,q⟩ |⟨x,t,rfl,q⟩
  ·rw[q];simp only[ba,WA];exact .of_is (ReprIs.int t (hi _ Zg i rfl)) _ _ _
  ·rw[q];have hs:=hz _ Zg;simp only[ba,WA] at hs ⊢;exact .of_is (ReprIs.str x t hs) _ _ _
mutual
theorem y7(ok:HOk P w H h):∀ (d:D) {v:V} {u:Value},Br N H d v->aq v u->shw d->(bx d).shown.length<=sizeLine->∃bs,ReadAtMost h (bx d).depth bs/\ReprK P w bs h (bx d).depth u (bx d).shown
 |.non,v,u,b,r,_,_=>by simp only[Br] at b;subst b;cases r;exact⟨[],(fun _ m=>nomatch m),by simp only[bx,WA];exact .of_is ReprIs.none _ _ _⟩
 |.bl x,v,u,b,r,_,_=>by simp only[Br] at b;subst b;cases r;exact⟨[],(fun _ m=>nomatch m),by simp only[bx,WA];exact .of_is (ReprIs.bool _) _ _ _⟩
 |.int i,v,u,b,r,hs,_=>by simp only[Br] at b;subst b;obtain⟨t,rfl⟩:=r;exact⟨[],(fun _ m=>nomatch m),by simp only[bx,WA];exact .of_is (ReprIs.int t (by simpa only[shw] using hs)) _ _ _⟩
 |.str x,v,u,b,r,_,hz=>by simp only[Br] at b;subst b;obtain⟨t,rfl⟩:=r;exact⟨[],(fun _ m=>nomatch m),by simp only[bx,WA] at hz ⊢;exact .of_is (ReprIs.str x t hz) _ _ _⟩
 |.tup ds,v,u,b,r,hs,hz=>by
  obtain⟨as,whole⟩:=ce ok (.tup ds) b r;simp only[Br] at b;obtain⟨a,xs,rfl,ha,hx⟩:=b;cases r;obtain⟨_,its,rv,o,e,c,n,q,_⟩:=ok a _ ha;simp only[bx,WA,Ww] at hz whole ⊢;obtain⟨bs,m,k⟩:=cf ok ds hx rv (by simpa only[shw] using hs) fun t ht=>Zv (tupleText_mem_le ht) hz;have out:a ∉ bs:=VY whole (by simp only[Ww];lia) m;have mm:=ReadAtMost.cons whole (by simp only[Ww];lia) m;simp only[Ww] at mm;exact⟨a::bs,mm,ReprK.tuple e c q out (by simpa using k)⟩
 |.lst ds,v,u,b,r,hs,hz=>by
  obtain⟨as,whole⟩:=ce ok (.lst ds) b r;simp only[Br] at b;obtain⟨a,xs,rfl,_,ha,hx⟩:=b;cases r;obtain⟨_,its,n,rv,e⟩:=ok a _ ha;simp only[bx,WA,Ww] at hz whole ⊢;obtain⟨bs,m,k⟩:=cf ok ds hx rv (by simpa only[shw] using hs) fun t ht=>Zv (listText_mem_le ht) hz;have out:a ∉ bs:=VY whole (by simp only[Ww];lia) m;have mm:=ReadAtMost.cons whole (by simp only[Ww];lia) m;simp only[Ww] at mm;refine⟨a::bs,mm,?_⟩;cases its with
  |nil=>
   cases k':WB (aO ds) with
   |nil=>simp only[listText_nil];exact ReprK.listEmpty e rfl rfl
   |cons _ _=>rw[k'] at k;cases k
  |cons y l=>exact ReprK.list e rfl rfl out (by simpa using k.length_eq) (fun i y' q'=>k.item i y' (by simpa using q'))
 |.dic ks ds,v,u,b,r,hs,hz=>by
  obtain⟨as,whole⟩:=ce ok (.dic ks ds) b r;simp only[Br] at b;obtain⟨a,xs,rfl,_,ha,hl,hx⟩:=b;cases r;obtain⟨_,sys,kvs,rk,o,es,ep,e,ex,q,_,pr,_⟩:=ok a _ ha;obtain⟨rv,k1⟩:=gN (by rw[hl,hx.len]) rk;simp only[shw] at hs;have lz:(ks.map ba).length=(aO ds).length:=by rw[Ze,cJ,hl]
  simp only[bx,WA,Ww] at hz whole ⊢;have f1:=gL (ks.map ba) (aO ds) lz;have f2:=gM (ks.map ba) (aO ds) lz;have dk:=Wy ((ks.map ba).zip (aO ds));have dv:=Wz ((ks.map ba).zip (aO ds));rw[f1] at dk;rw[f2] at dv
  obtain⟨bs,m,k⟩:=cf ok ds hx rv hs.2 fun t ht=>by
   obtain⟨p,hp,hlen⟩:=WE ((ks.map ba).zip (aO ds)) t (by rw[f2];exact ht);exact Zv hlen (Zv (VF hp) hz)
  have kk:=ij (h:=h) (es:=[]) (d:=Wx (ks.map ba)) (bs:=bs) pr k1 hs.1 fun t ht=>by
   obtain⟨p,hp,hlen⟩:=WD ((ks.map ba).zip (aO ds)) t (by rw[f1];exact ht);exact Zv hlen (Zv (VF hp) hz)
  have m':=m.mono dv;have out:a ∉ bs:=VY whole (by simp only[Ww];lia) m';have mm:=ReadAtMost.cons whole (by simp only[Ww];lia) m';simp only[Ww] at mm;refine⟨a::bs,mm,?_⟩;rw[WC,f1,f2];refine ReprK.dict e ex.1 q sys out (ReprEntriesK.of_two es.toList _ _ (kk.more_le (fun _ z=>z) dk) ?_);rw[bP pr];exact k.more_le (fun _ z=>z) dv
theorem cf(ok:HOk P w H h):∀ (ds:List D) {xs:List V} {us:List Value},BrL N H ds xs->ax xs us->rQ ds->(∀t ∈ WB (aO ds),t.length<=sizeLine)->∃bs,ReadAtMost h (Wx (aO ds)) bs/\ReprAllK P w bs h (Wx (aO ds)) us (WB (aO ds))
 |[],xs,us,b,r,_,_=>by simp only[BrL] at b;subst b;cases r;exact⟨[],(fun _ m=>nomatch m),by simp only[aO,WB];exact .nil⟩
 |d::ds,xs,us,b,r,hs,hz=>by
  simp only[BrL] at b;obtain⟨x,l,rfl,h1,h2⟩:=b;cases r with
  |cons r1 r2=>
   simp only[aO,WB,Wx,rQ] at hz hs ⊢;obtain⟨b1,m1,k1⟩:=y7 ok d h1 r1 hs.1 (hz _ Zg);obtain⟨b2,m2,k2⟩:=cf ok ds h2 r2 hs.2 fun t ht=>hz t (Zd _ ht);refine⟨b1++b2,(m1.mono (Xo _ _)).append (m2.mono (Xj _ _)),?_⟩;exact .cons ((k1.more fun b z=>ZL _ z).level_le (Xo _ _)) (k2.more_le (fun b z=>Zr _ z) (Xj _ _))
end
end
section
variable {X:Cx}
structure Shn(d:D):Prop where
 sh:shw d
 sz:(bx d).shown.length<=sizeLine
 dp:(bx d).depth<=100
def D7:List V->Hp->VK->Prop:=fun xs H Q=>∃x N d,xs=[x]/\Br N H d x/\Shn d/\Q (.str (bx d).shown) H
theorem nU{k:Nat}(hr:Room k X.A):au X (.builtin "repr") D7:=by
 intro pins s σ H xs us Q I r h;obtain⟨x,N,d,rfl,b,⟨hs,hz,hd⟩,q⟩:=h;obtain⟨u,rfl,ru⟩:=bq r;have hun:=hr.un;have hu1:X.A.units+1 < cLine:=by lia
 have gd1:X.A.in1.guards=some []:=hr.gd;have fin:∀h' t tk,(∀b o,s.heap.get? b=some o->h'.get? b=some o)->∃x' t',Value.str (bx d).shown t=Value.str x' t'/\EP X pins σ Q (Value.str (bx d).shown t) { s with heap:=h',toks:=tk }:=fun h' t tk hk=>⟨_,_,rfl,.str _,H,I.kept (t':=tk) hk,⟨t,rfl⟩,q⟩;cases d with
 |non=>
  simp only[Br] at b;subst b;cases ru;exact P.repr_of_none ⟨.str _,H,I.tok _,⟨_,rfl⟩,by simpa only[bx,WA] using q⟩
 |bl y=>
  simp only[Br] at b;subst b;cases ru;exact P.repr_of_bool ⟨.str _,H,I.tok _,⟨_,rfl⟩,by simpa only[bx,WA] using q⟩
 |int i=>
  simp only[Br] at b;subst b;obtain⟨t,rfl⟩:=ru;exact P.repr_of_int (by simpa only[shw] using hs) ⟨.str _,H,I.tok _,⟨_,rfl⟩,by simpa only[bx,WA] using q⟩
 |str y=>
  simp only[Br] at b;subst b;obtain⟨t,rfl⟩:=ru;exact P.repr_of_str ⟨.str _,H,I.tok _,⟨_,rfl⟩,by simpa only[bx,WA] using q⟩ (by simpa only[bx,WA] using hz)
 |tup ds=>
  obtain⟨as,whole⟩:=ce I.hok (.tup ds) b ru;simp only[Br] at b;obtain⟨a,ys,rfl,ha,hx⟩:=b;cases ru;obtain⟨_,its,rv,o,e,c,n,q',_⟩:=I.hok a _ ha;simp only[bx,WA,Ww] at hz whole hd fin;obtain⟨bs,m,k'⟩:=cf I.hok ds hx rv (by simpa only[shw] using hs) fun t ht=>Zv (tupleText_mem_le ht) hz;have out:a ∉ bs:=VY whole (by simp only[Ww];lia) m;refine Vt hu1 ⟨o,e,c⟩ F.slot_tuple_repr ?_;exact call_tuple_reprK e c q' out (by simpa using k') gd1 (fun b _=>Clear.nil b) (by show X.A.units+1+(_+1) < cLine;lia) (fun _ _ z=>z) (fun h' t tk hk=>fin h' t tk hk) hz
 |lst ds=>
  obtain⟨as,whole⟩:=ce I.hok (.lst ds) b ru;simp only[Br] at b;obtain⟨a,ys,rfl,_,ha,hx⟩:=b;cases ru;obtain⟨_,its,n,rv,e⟩:=I.hok a _ ha;simp only[bx,WA,Ww] at hz whole hd fin;obtain⟨bs,m,k'⟩:=cf I.hok ds hx rv (by simpa only[shw] using hs) fun t ht=>Zv (listText_mem_le ht) hz;have out:a ∉ bs:=VY whole (by simp only[Ww];lia) m;refine Vt hu1 ⟨_,e,rfl⟩ F.slot_list_repr.toG ?_;cases its with
  |nil=>
   cases k2:WB (aO ds) with
   |nil=>
    rw[k2] at fin;simp only[listText_nil] at fin;exact call_list_repr_empty ⟨_,e,rfl⟩ e rfl (fin s.heap _ _ fun _ _ z=>z)
   |cons _ _=>rw[k2] at k';cases k'
  |cons y l=>
   exact call_list_reprK e rfl rfl out (by simpa using k'.length_eq) (fun i y' q2=>k'.item i y' (by simpa using q2)) gd1 (fun b _=>Clear.nil b) (by show X.A.units+1+(_+1) < cLine;lia) (fun _ _ z=>z) (fun h' t tk hk=>fin h' t tk hk) hz
 |dic ks ds=>
  have bb:=b;obtain⟨as,whole⟩:=ce I.hok (.dic ks ds) b ru;simp only[Br] at b;obtain⟨a,ys,rfl,_,ha,hl,hx⟩:=b;cases ru;obtain⟨_,sys,kvs,rk,o,es,ep,e,ex,q',_,pr,_⟩:=I.hok a _ ha;obtain⟨rv,k1⟩:=gN (by rw[hl,hx.len]) rk;simp only[shw] at hs;have lz:(ks.map ba).length=(aO ds).length:=by rw[Ze,cJ,hl]
  simp only[bx,WA,Ww] at hz whole hd fin;have f1:=gL (ks.map ba) (aO ds) lz;have f2:=gM (ks.map ba) (aO ds) lz;have dk:=Wy ((ks.map ba).zip (aO ds));have dv:=Wz ((ks.map ba).zip (aO ds));rw[f1] at dk;rw[f2] at dv
  obtain⟨bs,m,k'⟩:=cf I.hok ds hx rv hs.2 fun t ht=>by
   obtain⟨p,hp,hlen⟩:=WE ((ks.map ba).zip (aO ds)) t (by rw[f2];exact ht);exact Zv hlen (Zv (VF hp) hz)
  have kk:=ij (h:=s.heap) (es:=[]) (d:=Wx (ks.map ba)) (bs:=bs) pr k1 hs.1 fun t ht=>by
   obtain⟨p,hp,hlen⟩:=WD ((ks.map ba).zip (aO ds)) t (by rw[f1];exact ht);exact Zv hlen (Zv (VF hp) hz)
  have m':=m.mono dv;have out:a ∉ bs:=VY whole (by simp only[Ww];lia) m';refine Vt hu1 ⟨o,e,ex.1⟩ F.slot_dict_repr ?_
  have hE:ReprEntriesK X.prog X.w bs s.heap (PyData.depthKv ((ks.map ba).zip (aO ds))) es.toList (PyData.shownKv ((ks.map ba).zip (aO ds))):=by
   rw[WC,f1,f2];refine ReprEntriesK.of_two es.toList _ _ (kk.more_le (fun _ z=>z) dk) ?_;rw[bP pr];exact k'.more_le (fun _ z=>z) dv
  exact call_dict_reprK e ex.1 q' sys out hE gd1 (fun b _=>Clear.nil b) (by show X.A.units+1+(_+1) < cLine;lia) (fun _ _ z=>z) (fun h' t tk hk=>fin h' t tk hk) hz
end
mutual
def bnd(B:Nat):D->Prop
 |.int i=>i.natAbs < B
 |.tup ds=>y8 B ds
 |.lst ds=>y8 B ds
 |.dic ks ds=>(∀k ∈ ks,∃i,k=Sum.inl i/\i.natAbs < B)/\ks.length=ds.length/\y8 B ds
 |_=>True
def y8(B:Nat):List D->Prop
 |[]=>True
 |d::ds=>bnd B d/\y8 B ds
end
end Dw
namespace Ev
open PySem PySem.Spec PyProof.Rows L2
inductive D where
 |non |bl (b:Bool) |int (i:Int) |str (x:Str) |tup (ds:List D) |ref (n:Nat)
inductive Ob where
 |lst (ds:List D) |frz (ds:List D) |dic (ks:List Key) (ds:List D)
abbrev Sto:=List Ob
abbrev Rho:=List (Option D)
mutual
def VD(K:WN)(m:List Addr)(H:Hp):D->V->Prop
 |.non,v=>v = .non
 |.bl b,v=>v = .bl b
 |.int i,v=>v = .int i
 |.str x,v=>v = .str x
 |.tup ds,v=>∃a xs,v = .ref a/\H a=some (.tup xs)/\VDs K m H ds xs
 |.ref n,v=>∃a,m[n]?=some a/\v = .ref a
def VDs(K:WN)(m:List Addr)(H:Hp):List D->List V->Prop
 |[],xs=>xs=[]
 |d::ds,xs=>∃x r,xs=x::r/\VD K m H d x/\VDs K m H ds r
end
structure Ext(m:List Addr)(H:Hp)(m':List Addr)(H':Hp):Prop where
 pre:m <+: m'
 keep:∀a o,H a=some o->a ∉ m->H' a=some o
 new:∀a,a ∈ m'->a ∉ m->H a=none
def ObR(K:WN)(m:List Addr)(H:Hp)(a:Addr):Ob->Prop
 |.lst ds=>∃vs,H a=some (.lst vs)/\VDs K m H ds vs
 |.frz ds=>∃o vs,H a=some (.frz o (.lst vs))/\VDs K m H ds vs
 |.dic ks ds=>∃vs,H a=some (.dK (ks.zip vs))/\ks.length=ds.length/\VDs K m H ds vs
structure Rel(K:WN)(m:List Addr)(S:Sto)(H:Hp):Prop where
 len:m.length=S.length
 nd:m.Nodup
 ob:∀ (i:Nat) (o:Ob),S[i]?=some o->∃a,m[i]?=some a/\ObR K m H a o
structure EnvR(K:WN)(m:List Addr)(H:Hp)(ρ:Rho)(σ:L2.St):Prop where
 len:ρ.length=σ.length
 at_:∀ (i:Nat) (d:D),ρ[i]?=some (some d)->∃v,σ[i]?=some (some v)/\VD K m H d v
theorem Ext.refl(m:List Addr)(H:Hp):Ext m H m H:=⟨ZP m,fun _ _ h _=>h,fun _ h n=>absurd h n⟩
theorem Ext.trans(x:Ext m H m1 H1)(y:Ext m1 H1 m2 H2):Ext m H m2 H2:=by
 refine⟨x.pre.trans y.pre,fun a o h n=>?_,fun a h n=>?_⟩
 ·have n1:a ∉ m1:=fun z=>by have:=x.new a z n;rw[this] at h;cases h
  exact y.keep a o (x.keep a o h n) n1
 ·by_cases h1:a ∈ m1
  ·exact x.new a h1 n
  ·cases e:H a with
   |none=>rfl
   |some o=>
    have:=x.keep a o e n;rw[y.new a h h1] at this;cases this
section
variable {K:WN} {m m':List Addr} {S S':Sto} {H H':Hp} {a:Addr}
theorem Rel.ex(R:Rel K m S H)(ha:a ∈ m):∃o ob,H a=some o/\ObR K m H a ob:=by
 obtain⟨i,hi,e⟩:=List.getElem_of_mem ha;have hi':i < S.length:=by rw[<-R.len];exact hi
 obtain⟨b,hb,r⟩:=R.ob i S[i] (gEG hi');have:b=a:=by rw[gEG hi] at hb;rw[<-e];exact(Option.some.inj hb).symm
 subst this;cases hS:S[i] with
 |lst ds=>rw[hS] at r;obtain⟨vs,h,q⟩:=r;exact⟨_,.lst ds,h,vs,h,q⟩
 |frz ds=>rw[hS] at r;obtain⟨o,vs,h,q⟩:=r;exact⟨_,.frz ds,h,o,vs,h,q⟩
 |dic ks ds=>rw[hS] at r;obtain⟨vs,h,q⟩:=r;exact⟨_,.dic ks ds,h,vs,h,q⟩
theorem Rel.no(R:Rel K m S H)(h:H a=none):a ∉ m:=fun z=>by
 obtain⟨o,_,e,_⟩:=R.ex z;rw[h] at e;cases e
theorem Rel.notTup(R:Rel K m S H)(h:H a=some (.tup xs)):a ∉ m:=fun z=>by
 obtain⟨o,ob,e,r⟩:=R.ex z;cases ob with
 |lst ds=>obtain⟨vs,q,_⟩:=r;rw[q] at h;cases h
 |frz ds=>obtain⟨o,vs,q,_⟩:=r;rw[q] at h;cases h
 |dic ks ds=>obtain⟨vs,q,_⟩:=r;rw[q] at h;cases h
theorem Tup.ext(R:Rel K m S H)(x:Ext m H m' H')(h:H a=some (.tup xs)):H' a=some (.tup xs):=x.keep _ _ h (R.notTup h)
theorem e9{i:Nat}(h:m <+: m')(e:m[i]?=some a):m'[i]?=some a:=by
 obtain⟨t,rfl⟩:=h;have hi:i < m.length:=(Zf.mp e).1;rw[Zx hi];exact e
mutual
theorem VD.mono0(pre:m <+: m')(tk:∀a xs,H a=some (.tup xs)->H' a=some (.tup xs)):∀ {d:D} {v:V},VD K m H d v->VD K m' H' d v
 |.non,v,h=>by rw[VD] at h ⊢;exact h
 |.bl _,v,h=>by rw[VD] at h ⊢;exact h
 |.int _,v,h=>by rw[VD] at h ⊢;exact h
 |.str _,v,h=>by rw[VD] at h ⊢;exact h
 |.tup ds,v,h=>by
  rw[VD] at h ⊢;obtain⟨a,xs,e,q,r⟩:=h;exact⟨a,xs,e,tk a xs q,VDs.mono0 pre tk r⟩
 |.ref n,v,h=>by
  rw[VD] at h ⊢;obtain⟨a,q,e⟩:=h;exact⟨a,e9 pre q,e⟩
theorem VDs.mono0(pre:m <+: m')(tk:∀a xs,H a=some (.tup xs)->H' a=some (.tup xs)):∀ {ds:List D} {vs:List V},VDs K m H ds vs->VDs K m' H' ds vs
 |[],vs,h=>by rw[VDs] at h ⊢;exact h
 |d::ds,vs,h=>by
  rw[VDs] at h ⊢;obtain⟨y,r,e,p,q⟩:=h;exact⟨y,r,e,VD.mono0 pre tk p,VDs.mono0 pre tk q⟩
end
theorem VD.mono(R:Rel K m S H)(x:Ext m H m' H')(h:VD K m H d v):VD K m' H' d v:=VD.mono0 x.pre (fun _ _=>Tup.ext R x) h
theorem VDs.mono(R:Rel K m S H)(x:Ext m H m' H')(h:VDs K m H ds vs):VDs K m' H' ds vs:=VDs.mono0 x.pre (fun _ _=>Tup.ext R x) h
theorem EnvR.mono(R:Rel K m S H)(x:Ext m H m' H')(h:EnvR K m H ρ σ):EnvR K m' H' ρ σ:=
 ⟨h.len,fun i d e=>let ⟨v,p,q⟩:=h.at_ i d e;⟨v,p,VD.mono R x q⟩⟩
theorem VDs.length:∀ {ds:List D} {vs:List V},VDs K m H ds vs->ds.length=vs.length
 |[],vs,h=>by rw[VDs] at h;rw[h];rfl
 |d::ds,vs,h=>by
  rw[VDs] at h;obtain⟨y,r,e,_,q⟩:=h;rw[e,Zs,Zs,VDs.length q]
theorem VDs.nil:VDs K m H [] []:=by rw[VDs]
theorem VDs.cons(h:VD K m H d v)(t:VDs K m H ds vs):VDs K m H (d::ds) (v::vs):=by rw[VDs];exact⟨v,vs,rfl,h,t⟩
theorem VDs.get:∀ {ds:List D} {vs:List V} {i:Nat} {d:D},VDs K m H ds vs->ds[i]?=some d->∃v,vs[i]?=some v/\VD K m H d v
 |[],_,_,_,_,e=>by simp at e
 |d::ds,vs,0,d',h,e=>by
  rw[VDs] at h;obtain⟨y,r,rfl,p,q⟩:=h;simp at e;subst e;exact⟨y,rfl,p⟩
 |d::ds,vs,i+1,d',h,e=>by
  rw[VDs] at h;obtain⟨y,r,rfl,p,q⟩:=h;obtain⟨v,p1,p2⟩:=VDs.get (i:=i) q (by simpa using e);exact⟨v,by simpa using p1,p2⟩
theorem VDs.append:∀ {ds es:List D} {vs ws:List V},VDs K m H ds vs->VDs K m H es ws->VDs K m H (ds++es) (vs++ws)
 |[],_,vs,_,h,t=>by rw[VDs] at h;subst h;exact t
 |d::ds,es,vs,ws,h,t=>by
  rw[VDs] at h;obtain⟨y,r,rfl,p,q⟩:=h;exact .cons p (VDs.append q t)
theorem VDs.drop:∀ {ds:List D} {vs:List V} (n:Nat),VDs K m H ds vs->VDs K m H (ds.drop n) (vs.drop n)
 |ds,vs,0,h=>h
 |[],vs,n+1,h=>by rw[VDs] at h;subst h;exact .nil
 |d::ds,vs,n+1,h=>by
  rw[VDs] at h;obtain⟨y,r,rfl,p,q⟩:=h;exact VDs.drop n q
theorem VDs.take:∀ {ds:List D} {vs:List V} (n:Nat),VDs K m H ds vs->VDs K m H (ds.take n) (vs.take n)
 |ds,vs,0,h=>by simp only[List.take_zero];exact .nil
 |[],vs,n+1,h=>by rw[VDs] at h;subst h;exact .nil
 |d::ds,vs,n+1,h=>by
  rw[VDs] at h;obtain⟨y,r,rfl,p,q⟩:=h;exact .cons p (VDs.take n q)
theorem VDs.set:∀ {ds:List D} {vs:List V} {i:Nat} {d:D} {v:V},VDs K m H ds vs->VD K m H d v->VDs K m H (ds.set i d) (vs.set i v)
 |[],vs,_,_,_,h,_=>by rw[VDs] at h;subst h;exact .nil
 |_::ds,vs,0,d,v,h,p=>by
  rw[VDs] at h;obtain⟨y,r,rfl,_,q⟩:=h;exact .cons p q
 |_::ds,vs,i+1,d,v,h,p=>by
  rw[VDs] at h;obtain⟨y,r,rfl,p',q⟩:=h;exact .cons p' (VDs.set q p)
theorem Ext.beside(R:Rel K m S H)(h:H a=none)(o:HO):Ext m H m (upd H a o):=
 ⟨ZP m,fun b u e _=>by rw[ah (aJ e h)];exact e,fun b z n=>absurd z n⟩
theorem Rel.ext_keep(R:Rel K m S H)(x:Ext m H m H')(k:∀b ∈ m,H' b=H b):Rel K m S H':=by
 refine⟨R.len,R.nd,fun i o e=>?_⟩;obtain⟨b,hb,r⟩:=R.ob i o e;have hm:b ∈ m:=Zn hb;refine⟨b,hb,?_⟩;cases o with
 |lst ds=>obtain⟨vs,p,q⟩:=r;exact⟨vs,(k b hm).trans p,VDs.mono R x q⟩
 |frz ds=>obtain⟨o,vs,p,q⟩:=r;exact⟨o,vs,(k b hm).trans p,VDs.mono R x q⟩
 |dic ks ds=>obtain⟨vs,p,l,q⟩:=r;exact⟨vs,(k b hm).trans p,l,VDs.mono R x q⟩
theorem Rel.beside(R:Rel K m S H)(h:H a=none)(o:HO):Rel K m S (upd H a o):=
 R.ext_keep (Ext.beside R h o) fun b hb=>ah fun z=>R.no h (z ▸ hb)
theorem Rel.adopt(R:Rel K m S H)(n:a ∉ m)(h:H a=some (.lst vs))(q:VDs K m H ds vs):Rel K (m++[a]) (S++[.lst ds]) H:=by
 have p:=Z7 m [a];have g:∀ {es:List D} {ws:List V},VDs K m H es ws->VDs K (m++[a]) H es ws:=fun z=>VDs.mono0 p (fun _ _ t=>t) z;refine⟨by simp[R.len],Xb.mpr ⟨R.nd,by simp,fun x hx y hy=>by simp at hy;subst hy;exact fun z=>n (z ▸ hx)⟩,fun i o e=>?_⟩;by_cases hi:i < S.length
 ·rw[Zx hi] at e;obtain⟨b,hb,r⟩:=R.ob i o e;refine⟨b,e9 p hb,?_⟩;cases o with
  |lst ds=>obtain⟨vs,p,q⟩:=r;exact⟨vs,p,g q⟩
  |frz ds=>obtain⟨o,vs,p,q⟩:=r;exact⟨o,vs,p,g q⟩
  |dic ks ds=>obtain⟨vs,p,l,q⟩:=r;exact⟨vs,p,l,g q⟩
 ·rw[Zu (by lia)] at e
  have hz:i - S.length=0:=by
   have:=(Zf.mp e).1;simp at this;lia
  rw[hz] at e;have e':Ob.lst ds=o:=by simpa using e
  subst e';refine⟨a,?_,vs,h,g q⟩;rw[Zu (by rw[R.len];lia),R.len,hz];rfl
theorem Ext.adopt(x:Ext m H m H')(h:H a=none):Ext m H (m++[a]) H':=
 ⟨Z7 m [a],x.keep,fun b hb nb=>by
  rcases ZK.mp hb with z |z
  ·exact absurd z nb
  ·simp at z;subst z;exact h⟩
theorem Rel.write(R:Rel K m S H){i:Nat}(hi:m[i]?=some a)(q:VDs K m H ds vs):Ext m H m (upd H a (.lst vs))/\Rel K m (S.set i (.lst ds)) (upd H a (.lst vs)):=by
 have hm:a ∈ m:=Zn hi;have x:Ext m H m (upd H a (.lst vs)):=⟨ZP m,fun b u e n=>by rw[ah (show b ≠ a from fun z=>n (by rw[z];exact hm))];exact e,fun b z n=>absurd z n⟩;refine⟨x,by simp[R.len],R.nd,fun j o e=>?_⟩;rw[Yb] at e;by_cases hj:i=j
 ·subst hj;rw[if_pos rfl] at e;split at e
  ·have e':=Option.some.inj e;subst e';exact⟨a,hi,vs,ak,VDs.mono R x q⟩
  ·cases e
 ·rw[if_neg hj] at e;obtain⟨b,hb,r⟩:=R.ob j o e
  have ne:b ≠ a:=fun z=>by
   subst z;have h1:=Zf.mp hi;have h2:=Zf.mp hb;exact hj ((Ym R.nd).mp (h1.2.trans h2.2.symm))
  refine⟨b,hb,?_⟩;cases o with
  |lst es=>obtain⟨ws,p,q⟩:=r;exact⟨ws,by rw[ah ne];exact p,VDs.mono R x q⟩
  |frz es=>obtain⟨o,ws,p,q⟩:=r;exact⟨o,ws,by rw[ah ne];exact p,VDs.mono R x q⟩
  |dic ks es=>obtain⟨ws,p,l,q⟩:=r;exact⟨ws,by rw[ah ne];exact p,l,VDs.mono R x q⟩
theorem Rel.lst(R:Rel K m S H){i:Nat}(e:S[i]?=some (.lst ds)):∃a vs,m[i]?=some a/\H a=some (.lst vs)/\VDs K m H ds vs:=by
 obtain⟨a,ha,vs,p,q⟩:=R.ob i _ e;exact⟨a,vs,ha,p,q⟩
end
noncomputable def ai(S:Sto)(n:Nat):Option (List D):=match S[n]? with
 |some (.lst ds)=>some ds
 |some (.frz ds)=>some ds
 |_=>none
theorem Rel.seq{K:WN}{m:List Addr}{S:Sto}{H:Hp}(R:Rel K m S H){i:Nat}{ds:List D}(e:ai S i=some ds):∃a vs,m[i]?=some a/\SqL K H a vs/\VDs K m H ds vs:=by
 unfold ai at e;cases h:S[i]? with
 |none=>rw[h] at e;cases e
 |some o=>
  rw[h] at e;cases o with
  |lst es=>cases e;obtain⟨a,ha,vs,p,q⟩:=R.ob i _ h;exact⟨a,vs,ha,.inl (.inl p),q⟩
  |frz es=>cases e;obtain⟨a,ha,o,vs,p,q⟩:=R.ob i _ h;exact⟨a,vs,ha,.inl (.inr ⟨o,p⟩),q⟩
  |dic ks es=>cases e
abbrev XE:=Rho->Sto->Option (D × Sto)
abbrev XT:=Rho->Sto->Option (Bool × Sto)
abbrev XA:=Rho->Sto->Option (List D × Sto)
def bnd{α β:Type}(x:Option (α × Sto))(f:α->Sto->Option (β × Sto)):Option (β × Sto):=match x with
 |none=>none
 |some (a,S)=>f a S
theorem aa{α β:Type}{x:Option (α × Sto)}{f:α->Sto->Option (β × Sto)}{r:β × Sto}(h:bnd x f=some r):∃a S,x=some (a,S)/\f a S=some r:=by
 unfold bnd at h;cases x with
 |none=>cases h
 |some p=>exact⟨p.1,p.2,rfl,h⟩
structure Aft(K:WN)(m:List Addr)(H:Hp)(S':Sto)(m':List Addr)(H':Hp):Prop where
 ext:Ext m H m' H'
 rel:Rel K m' S' H'
def tE(K:WN)(x:XE):TE:=fun σ H Q=>∃m ρ S d S',EnvR K m H ρ σ/\Rel K m S H/\x ρ S=some (d,S')/\∀m' H' v,Aft K m H S' m' H'->VD K m' H' d v->Q v H'
def tT(K:WN)(x:XT):TT:=fun σ H Q=>∃m ρ S b S',EnvR K m H ρ σ/\Rel K m S H/\x ρ S=some (b,S')/\∀m' H',Aft K m H S' m' H'->Q b H'
def tAr(K:WN)(x:XA):TA:=fun σ H Q=>∃m ρ S ds S',EnvR K m H ρ σ/\Rel K m S H/\x ρ S=some (ds,S')/\∀m' H' vs,Aft K m H S' m' H'->VDs K m' H' ds vs->Q vs H'
def SqB(K:WN)(tu:Bool)(H:Hp)(a:Addr)(vs:List V):Prop:=if tu=true then H a=some (.tup vs) else SqL K H a vs
def cK(K:WN)(x:XA):TE:=fun σ H Q=>∃m ρ S ds S',EnvR K m H ρ σ/\Rel K m S H/\x ρ S=some (ds,S')/\∀m' H' a vs,Aft K m H S' m' H'->H' a=some (.lst vs)->a ∉ m'->(∀b,b ∈ m->b ≠ a)->H a=none->VDs K m' H' ds vs->Q (.ref a) H'
section
variable {X:Cx} {e:Expr} {K:WN} {m m1 m2:List Addr} {H H1 H2:Hp} {S S1 S2:Sto}
theorem PE.imp(h:PE X e t)(f:∀σ H Q,t' σ H Q->t σ H Q):PE X e t':=fun pins s σ H Q I q=>h pins s σ H Q I (f σ H Q q)
theorem PT.imp(h:PT X e t)(f:∀σ H Q,t' σ H Q->t σ H Q):PT X e t':=fun pins s σ H Q I q=>h pins s σ H Q I (f σ H Q q)
theorem PA.imp(h:PA X es t)(f:∀σ H Q,t' σ H Q->t σ H Q):PA X es t':=fun p pins s σ H Q I q=>h p pins s σ H Q I (f σ H Q q)
theorem PS.imp{st:Stmt}{t t':TS}(h:PS X st t)(f:∀D σ H,t' D σ H->t D σ H):PS X st t':=fun pins s σ H D I q=>h pins s σ H D I (f D σ H q)
theorem PSs.imp{st:List Stmt}{t t':TS}(h:PSs X st t)(f:∀D σ H,t' D σ H->t D σ H):PSs X st t':=fun pins s σ H D I q=>h pins s σ H D I (f D σ H q)
theorem PI.imp(h:PI X tg it t)(f:∀σ H Q,t' σ H Q->t σ H Q):PI X tg it t':=fun pins s σ H Q I q=>h pins s σ H Q I (f σ H Q q)
theorem PI.or(h:PI X tg it t)(h':PI X tg it t'):PI X tg it (fun σ H Q=>t σ H Q\/t' σ H Q):=fun pins s σ H Q I q=>q.elim (h pins s σ H Q I) (h' pins s σ H Q I)
theorem OpR.imp(h:OpR X f r)(g:∀x y H Q,r' x y H Q->r x y H Q):OpR X f r':=fun pins s σ H x y v u Q I rx ry q=>h pins s σ H x y v u Q I rx ry (g _ _ _ _ q)
theorem OpR.or(h:OpR X f r)(h':OpR X f r'):OpR X f (fun x y H Q=>r x y H Q\/r' x y H Q):=fun pins s σ H x y v u Q I rx ry q=>
 q.elim (h pins s σ H x y v u Q I rx ry) (h' pins s σ H x y v u Q I rx ry)
theorem au.imp(h:au X f r)(g:∀x H Q,r' x H Q->r x H Q):au X f r':=fun pins s σ H xs us Q I rx q=>h pins s σ H xs us Q I rx (g _ _ _ q)
theorem au.or(h:au X f r)(h':au X f r'):au X f (fun x H Q=>r x H Q\/r' x H Q):=fun pins s σ H xs us Q I rx q=>
 q.elim (h pins s σ H xs us Q I rx) (h' pins s σ H xs us Q I rx)
theorem Aft.refl(R:Rel K m S H):Aft K m H S m H:=⟨Ext.refl m H,R⟩
theorem Aft.trans(x:Aft K m H S1 m1 H1)(y:Aft K m1 H1 S2 m2 H2):Aft K m H S2 m2 H2:=⟨x.ext.trans y.ext,y.rel⟩
def rS(K:WN)(f:D->D->Sto->Option (D × Sto)):R2:=fun v w H Q=>∃m S a b d S',Rel K m S H/\VD K m H a v/\VD K m H b w/\f a b S=some (d,S')/\∀m' H' u,Aft K m H S' m' H'->VD K m' H' d u->Q u H'
def rS1(K:WN)(f:D->Sto->Option (D × Sto)):V->Hp->VK->Prop:=fun v H Q=>∃m S a d S',Rel K m S H/\VD K m H a v/\f a S=some (d,S')/\∀m' H' u,Aft K m H S' m' H'->VD K m' H' d u->Q u H'
def rSA(K:WN)(f:List D->Sto->Option (D × Sto)):List V->Hp->VK->Prop:=fun vs H Q=>∃m S as d S',Rel K m S H/\VDs K m H as vs/\f as S=some (d,S')/\∀m' H' u,Aft K m H S' m' H'->VD K m' H' d u->Q u H'
def rSq(K:WN)(f:Bool->List D->Sto->Option (D × Sto)):V->Hp->VK->Prop:=fun v H Q=>∃m S tu ds a vs d S',Rel K m S H/\v = .ref a/\SqB K tu H a vs/\VDs K m H ds vs/\f tu ds S=some (d,S')/\∀m' H' u,Aft K m H S' m' H'->VD K m' H' d u->Q u H'
noncomputable def lJ(f:D->D->Sto->Option (D × Sto))(x y:XE):XE:=fun ρ S=>bnd (x ρ S) fun a S1=>bnd (y ρ S1) fun b S2=>f a b S2
noncomputable def xUn(f:D->Sto->Option (D × Sto))(x:XE):XE:=fun ρ S=>bnd (x ρ S) fun a S1=>f a S1
noncomputable def gC(f:List D->Sto->Option (D × Sto))(x:XA):XE:=fun ρ S=>bnd (x ρ S) fun a S1=>f a S1
noncomputable def ik(f:Bool->List D->Sto->Option (D × Sto))(x:XA):XE:=fun ρ S=>bnd (x ρ S) fun ds S1=>f false ds S1
noncomputable def aM(d:D)(S:Sto):Option (Bool × List D):=match d with
 |.tup ds=>some (true,ds)
 |.ref n=>(ai S n).map fun ds=>(false,ds)
 |_=>none
noncomputable def aK(f:Bool->List D->Sto->Option (D × Sto))(d:D)(S:Sto):Option (D × Sto):=match aM d S with
 |some r=>f r.1 r.2 S
 |none=>none
noncomputable def il(f:Bool->List D->Sto->Option (D × Sto))(x:XE):XE:=fun ρ S=>bnd (x ρ S) fun d S1=>aK f d S1
theorem km{f:D->D->Sto->Option (D × Sto)}{x y:XE}{σ:L2.St}{H:Hp}{Q:VK}(h:tE K (lJ f x y) σ H Q):tOp (rS K f) (tE K x) (tE K y) σ H Q:=by
 obtain⟨m,ρ,S,d,S',E,R,e,q⟩:=h;obtain⟨a,S1,e1,e⟩:=aa e;obtain⟨b,S2,e2,e⟩:=aa e;refine⟨m,ρ,S,a,S1,E,R,e1,fun m1 H1 v A1 va=>⟨m1,ρ,S1,b,S2,E.mono R A1.ext,A1.rel,e2,fun m2 H2 w A2 vb=>?_⟩⟩;exact⟨m2,S2,a,b,d,S',A2.rel,va.mono A1.rel A2.ext,vb,e,fun m3 H3 u A3 vd=>q m3 H3 u ((A1.trans A2).trans A3) vd⟩
theorem p6{f:D->Sto->Option (D × Sto)}{x:XE}{σ:L2.St}{H:Hp}{Q:VK}(h:tE K (xUn f x) σ H Q):tUn (rS1 K f) (tE K x) σ H Q:=by
 obtain⟨m,ρ,S,d,S',E,R,e,q⟩:=h;obtain⟨a,S1,e1,e⟩:=aa e;exact⟨m,ρ,S,a,S1,E,R,e1,fun m1 H1 v A1 va=>⟨m1,S1,a,d,S',A1.rel,va,e,fun m3 H3 u A3 vd=>q m3 H3 u (A1.trans A3) vd⟩⟩
theorem uI{f:List D->Sto->Option (D × Sto)}{x:XA}{σ:L2.St}{H:Hp}{Q:VK}(h:tE K (gC f x) σ H Q):tCB (rSA K f) (tAr K x) σ H Q:=by
 obtain⟨m,ρ,S,d,S',E,R,e,q⟩:=h;obtain⟨a,S1,e1,e⟩:=aa e;exact⟨m,ρ,S,a,S1,E,R,e1,fun m1 H1 v A1 va=>⟨m1,S1,a,d,S',A1.rel,va,e,fun m3 H3 u A3 vd=>q m3 H3 u (A1.trans A3) vd⟩⟩
theorem D8{f:Bool->List D->Sto->Option (D × Sto)}{x:XA}{σ:L2.St}{H:Hp}{Q:VK}(h:tE K (ik f x) σ H Q):tUn (rSq K f) (cK K x) σ H Q:=by
 obtain⟨m,ρ,S,d,S',E,R,e,q⟩:=h;obtain⟨ds,S1,e1,e⟩:=aa e;exact⟨m,ρ,S,ds,S1,E,R,e1,fun m1 H1 a vs A1 sq _ _ _ vd=>⟨m1,S1,false,ds,a,vs,d,S',A1.rel,rfl,show SqL K H1 a vs from SqL.of sq,vd,e,fun m3 H3 u A3 vd=>q m3 H3 u (A1.trans A3) vd⟩⟩
noncomputable def rR(i:Nat):XE:=fun ρ S=>match ρ[i]? with
 |some (some d)=>some (d,S)
 |_=>none
noncomputable def xC(d:D):XE:=fun _ S=>some (d,S)
theorem D9{i:Nat}(h:tE K (rR i) σ H Q):rg i σ H Q:=by
 obtain⟨m,ρ,S,d,S',E,R,e,q⟩:=h;unfold rR at e;cases hr:ρ[i]? with
 |none=>rw[hr] at e;cases e
 |some o=>
  rw[hr] at e;cases o with
  |none=>cases e
  |some d'=>
   cases e;obtain⟨v,e1,vd⟩:=E.at_ i d hr;exact⟨v,e1,q m H v (Aft.refl R) vd⟩
theorem uJ(hv:∀m H,VD K m H d v)(h:tE K (xC d) σ H Q):tC v σ H Q:=by
 obtain⟨m,ρ,S,d',S',E,R,e,q⟩:=h;cases e;exact q m H v (Aft.refl R) (hv m H)
theorem eG:VD K m H .non .non:=by rw[VD]
theorem bB:VD K m H (.bl b) (.bl b):=by rw[VD]
theorem aQ{i:Int}:VD K m H (.int i) (.int i):=by rw[VD]
theorem eJ:VD K m H (.str x) (.str x):=by rw[VD]
theorem im(h:H a=some (.tup vs))(q:VDs K m H ds vs):VD K m H (.tup ds) (.ref a):=by rw[VD];exact⟨a,vs,rfl,h,q⟩
theorem VD.ints{i:Int}(h:VD K m H (.int i) v):v = .int i:=by rw[VD] at h;exact h
theorem VD.bls(h:VD K m H (.bl i) v):v = .bl i:=by rw[VD] at h;exact h
theorem VD.strs(h:VD K m H (.str i) v):v = .str i:=by rw[VD] at h;exact h
theorem VD.nons(h:VD K m H .non v):v = .non:=by rw[VD] at h;exact h
theorem VD.tups(h:VD K m H (.tup ds) v):∃a vs,v = .ref a/\H a=some (.tup vs)/\VDs K m H ds vs:=by rw[VD] at h;exact h
theorem VD.refs{n:Nat}(h:VD K m H (.ref n) v):∃a,m[n]?=some a/\v = .ref a:=by rw[VD] at h;exact h
noncomputable def rT:XA:=fun _ S=>some ([],S)
noncomputable def p7(x:XE)(y:XA):XA:=fun ρ S=>bnd (x ρ S) fun a S1=>bnd (y ρ S1) fun as S2=>some (a::as,S2)
theorem Ea(h:tAr K rT σ H Q):eY σ H Q:=by
 obtain⟨m,ρ,S,d',S',E,R,e,q⟩:=h;cases e;exact q m H [] (Aft.refl R) .nil
theorem y9{x:XE}{y:XA}{σ:L2.St}{H:Hp}{Q:List V->Hp->Prop}(h:tAr K (p7 x y) σ H Q):bK (tE K x) (tAr K y) σ H Q:=by
 obtain⟨m,ρ,S,d',S',E,R,e,q⟩:=h;obtain⟨a,S1,e1,e⟩:=aa e;obtain⟨b,S2,e2,e⟩:=aa e;cases e;refine⟨m,ρ,S,a,S1,E,R,e1,fun m1 H1 v A1 va=>⟨m1,ρ,S1,b,_,E.mono R A1.ext,A1.rel,e2,fun m2 H2 w A2 vb=>?_⟩⟩;exact q m2 H2 _ (A1.trans A2) (.cons (va.mono A1.rel A2.ext) vb)
noncomputable def gD(ds:List D)(S:Sto):Option (D × Sto):=if ds.length<=1000 then some (.tup ds,S) else none
theorem fb{n:Nat}(h:n<=1000):n<=sizeLine:=by rw[Uc];lia
theorem fe{ds:List D}{vs:List V}{Q:VK}(R:Rel K m S H)(vd:VDs K m H ds vs)(q:∀m' H' u,Aft K m H S m' H'->VD K m' H' (.tup ds) u->Q u H'):∀p,H p=none->Q (.ref p) (upd H p (.tup vs)):=fun p hp=>
 q m _ _ ⟨Ext.beside R hp _,R.beside hp _⟩ (im ak (vd.mono R (Ext.beside R hp _)))
theorem ko{ds:List D}{vs:List V}{Q:VK}(R:Rel K m S H)(vd:VDs K m H ds vs)(q:∀m' H' u,Aft K m H (S++[.lst ds]) m' H'->VD K m' H' (.ref S.length) u->Q u H'):∀p,H p=none->Q (.ref p) (upd H p (.lst vs)):=fun p hp=>by
 have x:=Ext.beside R hp (.lst vs);refine q (m++[p]) _ _ ⟨x.adopt hp,(R.beside hp _).adopt (R.no hp) ak (vd.mono R x)⟩ ?_;rw[VD];exact⟨p,by rw[Zu (by rw[R.len];exact Zh _),R.len,YO];rfl,rfl⟩
theorem gO{ds:List D}{vs:List V}{Q:VK}(R:Rel K m S H)(vd:VDs K m H ds vs)(q:∀m' H' a vs,Aft K m H S m' H'->H' a=some (.lst vs)->a ∉ m'->(∀b,b ∈ m->b ≠ a)->H a=none->VDs K m' H' ds vs->Q (.ref a) H'):∀p,H p=none->Q (.ref p) (upd H p (.lst vs)):=fun p hp=>
 q m _ _ _ ⟨Ext.beside R hp _,R.beside hp _⟩ ak (R.no hp) (fun b hb z=>R.no hp (z ▸ hb)) hp (vd.mono R (Ext.beside R hp _))
theorem Eb{x:XA}{σ:L2.St}{H:Hp}{Q:VK}(h:tE K (gC gD x) σ H Q):IL (tAr K x) σ H Q:=by
 obtain⟨m,ρ,S,d',S',E,R,e,q⟩:=h;obtain⟨a,S1,e1,e⟩:=aa e;unfold gD at e;split at e
 ·rename_i hl;cases e;exact⟨m,ρ,S,a,_,E,R,e1,fun m1 H1 vs A1 va=>⟨fb (by rw[<-va.length];exact hl),fe A1.rel va fun m' H' u A2 vu=>q m' H' u (A1.trans A2) vu⟩⟩
 ·cases e
noncomputable def jD(x:XA):XA:=fun ρ S=>bnd (x ρ S) fun ds S1=>if ds.length<=1000 then some (ds,S1) else none
theorem za{x:XA}{σ:L2.St}{H:Hp}{Q:VK}(h:cK K (jD x) σ H Q):IM (tAr K x) σ H Q:=by
 obtain⟨m,ρ,S,ds,S',E,R,e,q⟩:=h;obtain⟨a,S1,e1,e⟩:=aa e;split at e
 ·rename_i hl;cases e;refine⟨m,ρ,S,_,_,E,R,e1,fun m1 H1 vs A1 va=>⟨fb (by rw[<-va.length];exact hl),gO A1.rel va fun m' H' u us A2 sq n1 n2 n3 vu=>?_⟩⟩
  have hn:H u=none:=by
   cases e:H u with
   |none=>rfl
   |some o=>
    by_cases hm:u ∈ m
    ·exact absurd rfl (n2 u (A1.ext.pre.subset hm))
    ·have:=A1.ext.keep u o e hm;rw[this] at n3;cases n3
  exact q m' H' u us (A1.trans A2) sq n1 (fun b hb=>n2 b (A1.ext.pre.subset hb)) hn vu
 ·cases e
theorem cL{d:D}{v:V}{tu:Bool}{ds:List D}(R:Rel K m S H)(vd:VD K m H d v)(e:aM d S=some (tu,ds)):∃a vs,v = .ref a/\SqB K tu H a vs/\VDs K m H ds vs:=by
 unfold aM at e;cases d with
 |tup es=>
  cases e;obtain⟨a,vs,e,q,r⟩:=vd.tups;exact⟨a,vs,e,q,r⟩
 |ref n=>
  obtain⟨a,ha,ev⟩:=vd.refs;cases hs:ai S n with
  |none=>simp[hs] at e
  |some es=>
   simp[hs] at e;obtain⟨rfl,rfl⟩:=e;obtain⟨b,vs,hb,q,r⟩:=R.seq hs;rw[ha] at hb;cases hb;exact⟨a,vs,ev,q,r⟩
 |_=>cases e
theorem Ec{f:Bool->List D->Sto->Option (D × Sto)}{x:XE}{σ:L2.St}{H:Hp}{Q:VK}(h:tE K (il f x) σ H Q):tUn (rSq K f) (tE K x) σ H Q:=by
 obtain⟨m,ρ,S,d,S',E,R,e,q⟩:=h;obtain⟨a,S1,e1,e⟩:=aa e;refine⟨m,ρ,S,a,S1,E,R,e1,fun m1 H1 v A1 va=>?_⟩;unfold aK at e;split at e
 ·rename_i r hi;obtain⟨b,vs,ev,sq,vds⟩:=cL (tu:=r.1) (ds:=r.2) A1.rel va hi;exact⟨m1,S1,r.1,r.2,b,vs,d,S',A1.rel,ev,sq,vds,e,fun m3 H3 u A3 vd=>q m3 H3 u (A1.trans A3) vd⟩
 ·cases e
noncomputable def cg(x:XA):XE:=fun ρ S=>bnd (x ρ S) fun ds S1=>some (.ref S1.length,S1++[.lst ds])
theorem lK{x:XA}{σ:L2.St}{H:Hp}{Q:VK}(h:tE K (cg x) σ H Q):cK K x σ H Q:=by
 obtain⟨m,ρ,S,d,S',E,R,e,q⟩:=h;obtain⟨ds,S1,e1,e⟩:=aa e;cases e;refine⟨m,ρ,S,ds,S1,E,R,e1,fun m1 H1 a vs A1 sq n1 n2 n3 vd=>?_⟩;refine q (m1++[a]) H1 _ ⟨⟨A1.ext.pre.trans (Z7 _ _),A1.ext.keep,fun b hb nb=>?_⟩,A1.rel.adopt n1 sq vd⟩ ?_
 ·rcases ZK.mp hb with z |z
  ·exact A1.ext.new b z nb
  ·simp at z;subst z;exact n3
 ·rw[VD];exact⟨a,by rw[Zu (by rw[A1.rel.len];exact Zh _),A1.rel.len,YO];rfl,rfl⟩
end
end Ev
namespace PySem.SeqAt
open AutoSeq1 (wpAny_loadPart')
open MeetsSeq MeetsSeq2 MeetsSeq3
theorem nV(l b:Addr)(items:Array Value)(n:Nat)(dd:Option Addr)(sl:Array (Option Value))(o:Obj)(hc:o.cls = .type "dict") :
  Meets (Builtin.«list.__ne__» ⟨[.ref l,.ref b],[]⟩) (fun _ R s=>s.heap.get? l=some { cls:=.type "list", dict:=dd,data:=.seq items n,slots:=sl }/\s.heap.get? b=some o/\R (.ok (.ret .notImplemented)) s):=
 .of_wp fun prog w A R s h=>by
  obtain⟨hp,g,d,tk,os⟩:=s;obtain⟨hl,hb,h⟩:=h;obtain⟨cls,d2,dt,s2⟩:=o;simp only at hc;subst hc;have f1:=F.sub_dict_list
  wp_walk using UG hl,UG hb
  exact⟨_,rfl,h⟩
theorem nW(l b:Addr)(items:Array Value)(n:Nat)(dd:Option Addr)(sl:Array (Option Value))(o:Obj)(hc:o.cls = .type "dict") :
  Meets (Builtin.«dict.__ne__» ⟨[.ref b,.ref l],[]⟩) (fun _ R s=>s.heap.get? l=some { cls:=.type "list", dict:=dd,data:=.seq items n,slots:=sl }/\s.heap.get? b=some o/\R (.ok (.ret .notImplemented)) s):=
 .of_wp fun prog w A R s h=>by
  obtain⟨hp,g,d,tk,os⟩:=s;obtain⟨hl,hb,h⟩:=h;obtain⟨cls,d2,dt,s2⟩:=o;simp only at hc;subst hc;have f1:=F.sub_list_dict
  wp_walk using UG hl,UG hb
  exact⟨_,rfl,h⟩
theorem dict_list(hb:s.heap.get? b=some o)(hc2:o.cls = .type "dict")(hl:s.heap.IsList l items)(hu:A.units < cLine):RcNeAt A s (.ref b) (.ref l) true:=fun prog w E Q h=>by
 obtain⟨⟨cls,dd,data,sl⟩,ho,hc,n,hd⟩:=id hl;simp only at hc hd;subst hc hd;have hne:b ≠ l:=fun e=>by subst e;rw[ho] at hb;cases hb;exact absurd hc2 (by simp)
 exact(rc_ne_decline_or (k:=false) ⟨_,hb,hc2⟩ ⟨_,ho,rfl⟩ (by decide) F.sub_list_dict F.slot_dict_ne Wk
  (fun _ hq=>Vs F.slot_dict_ne ⟨_,hb,hc2⟩ F.entry_dict_ne (F.args_dict_ne_2 _ _) (nW l b items n dd sl o hc2) ⟨ho,hb,hq⟩)
  (fun _ hq=>Vs Wk ⟨_,ho,rfl⟩ F.entry_list_ne (F.args_list_ne_2 _ _) (nV l b items n dd sl o hc2) ⟨ho,hb,hq⟩)
  (fun _ hq=>wpAny_isSame_ref_other' hne hb ho (by simp) hq) (.inr hu) h)
end PySem.SeqAt
namespace Ev
open PySem PySem.Spec PyProof.Rows L2
noncomputable def eqL(f:D->D->Option Bool):List D->List D->Option Bool
 |[],[]=>some true
 |[],_::_=>some false
 |_::_,[]=>some false
 |x::xs,y::ys=>match f x y,eqL f xs ys with
  |some a,some b=>some (a && b)
  |_,_=>none
noncomputable def eqD:Nat->Sto->D->D->Option Bool
 |0,_,_,_=>none
 |n+1,S,x,y=>match x,y with
  |.non,.non=>some true
  |.bl a,.bl b=>some (a == b)
  |.int a,.int b=>some (a == b)
  |.str a,.str b=>some (a == b)
  |.bl a,.int b=>some ((if a then 1 else 0) == b)
  |.int a,.bl b=>some (a == (if b then 1 else 0))
  |.tup xs,.tup ys=>eqL (eqD n S) xs ys
  |.ref a,.ref b=>match ai S a,ai S b with
   |some xs,some ys=>if a=b then some true else if xs.length=ys.length then eqL (eqD n S) xs ys else some false
   |_,_=>none
  |.tup _,.ref b=>match ai S b with
   |some _=>some false
   |none=>none
  |.ref a,.tup _=>match ai S a with
   |some _=>some false
   |none=>none
  |.ref a,_=>match ai S a with
   |some _=>some false
   |none=>none
  |_,.ref a=>match ai S a with
   |some _=>some false
   |none=>none
  |_,_=>some false
section
variable {X:Cx} {K:WN} {m:List Addr} {H:Hp} {S:Sto}
theorem lL:∀ {xs ys:List D} {b:Bool},eqL f xs ys=some b->∃g:Nat->Bool,(∀j x y,xs[j]?=some x->ys[j]?=some y->f x y=some (g j))/\b=((ZI (min xs.length ys.length)).all g && xs.length == ys.length)
 |[],[],b,h=>by simp[eqL] at h;exact⟨fun _=>true,fun j x y e=>by simp at e,by simp[<-h]⟩
 |[],_::_,b,h=>by simp[eqL] at h;exact⟨fun _=>true,fun j x y e=>by simp at e,by simp[<-h]⟩
 |_::_,[],b,h=>by simp[eqL] at h;exact⟨fun _=>true,fun j x y _ e=>by simp at e,by simp[<-h]⟩
 |x::xs,y::ys,b,h=>by
  simp only[eqL] at h;cases h1:f x y with
  |none=>simp[h1] at h
  |some a=>
   cases h2:eqL f xs ys with
   |none=>simp[h1,h2] at h
   |some c=>
    simp[h1,h2] at h;obtain⟨g,hg,hc⟩:=lL h2;refine⟨fun j=>match j with |0=>a |j+1=>g j,fun j x' y' e1 e2=>?_,?_⟩
    ·cases j with
     |zero=>simp at e1 e2;subst e1 e2;exact h1
     |succ j=>simp at e1 e2;exact hg j x' y' e1 e2
    ·rw[<-h,hc];simp only[Zs,Nat.succ_min_succ,List.range_succ_eq_map,ZW,Xc];rw[Bool.and_assoc]
     congr 1
     rw[show(xs.length+1 == ys.length+1)=(xs.length == ys.length) by simp];rfl
theorem zb(I:Inv X pins σ H s)(h1:H a=some (.tup xs))(h2:H a=some (.tup ys)):xs=ys:=by
 rw[h1] at h2;cases h2;rfl
theorem rV(nd:m.Nodup){i j:Nat}(h1:m[i]?=some a)(h2:m[j]?=some a):i=j:=by
 obtain⟨p1,q1⟩:=Zf.mp h1;obtain⟨p2,q2⟩:=Zf.mp h2;exact(Ym nd).mp (q1.trans q2.symm)
theorem lM(I:Inv X pins σ H s)(R:Rel X.K m S H):∀ (n:Nat) {x y:D} {v:V} {b:Bool},VD X.K m H x v->VD X.K m H y v->eqD n S x y=some b->b=true
 |0,_,_,_,_,_,_,h=>by simp[eqD] at h
 |n+1,x,y,v,b,h1,h2,h=>by
  have lists:∀ {xs ys:List D} {vs:List V} {b:Bool},VDs X.K m H xs vs->VDs X.K m H ys vs->eqL (eqD n S) xs ys=some b->b=true:=by
   intro xs
   induction xs with
   |nil=>
    intro ys vs b p q e;have l1:=p.length;have l2:=q.length;cases ys with
    |nil=>simp[eqL] at e;simp_all
    |cons _ _=>simp at l1 l2;lia
   |cons x xs ih=>
    intro ys vs b p q e;have l1:=p.length;have l2:=q.length;cases ys with
    |nil=>simp at l1 l2;lia
    |cons y ys=>
     rw[VDs] at p q;obtain⟨a,r,e1,p1,p2⟩:=p;obtain⟨a',r',e2,q1,q2⟩:=q;rw[e1] at e2;cases e2;simp only[eqL] at e;cases f1:eqD n S x y with
     |none=>simp[f1] at e
     |some c=>
      cases f2:eqL (eqD n S) xs ys with
      |none=>simp[f1,f2] at e
      |some d=>
       simp[f1,f2] at e;rw[<-e,lM I R n p1 q1 f1,ih p2 q2 f2];rfl
  cases x with
  |non=>cases h1.nons;cases y <;> simp[VD] at h2 <;> simp[eqD] at h <;> simp[h]
  |bl a=>cases h1.bls;cases y <;> simp[VD] at h2 <;> simp[eqD] at h <;> simp_all
  |int a=>cases h1.ints;cases y <;> simp[VD] at h2 <;> simp[eqD] at h <;> simp_all
  |str a=>cases h1.strs;cases y <;> simp[VD] at h2 <;> simp[eqD] at h <;> simp_all
  |tup xs=>
   obtain⟨a,vs,e,sq,p⟩:=h1.tups;subst e;cases y with
   |tup ys=>
    obtain⟨a',vs',e',sq',q⟩:=h2.tups;cases e';have:=zb I sq sq';subst this;simp only[eqD] at h;exact lists p q h
   |ref k=>
    obtain⟨a',ha,e'⟩:=h2.refs;cases e';have z:a ∈ m:=Zn ha;exact absurd z (R.notTup sq)
   |non=>cases h2.nons
   |bl _=>cases h2.bls
   |int _=>cases h2.ints
   |str _=>cases h2.strs
  |ref k=>
   obtain⟨a,ha,e⟩:=h1.refs;subst e;cases y with
   |ref k'=>
    obtain⟨a',ha',e'⟩:=h2.refs;cases e';have:=rV R.nd ha ha';subst this;simp only[eqD] at h;cases hs:ai S k with
    |none=>rw[hs] at h;cases h
    |some es=>rw[hs] at h;simp at h;exact h.symm ▸ rfl
   |tup ys=>
    obtain⟨a',vs',e',sq,q⟩:=h2.tups;cases e';have z:a ∈ m:=Zn ha;exact absurd z (R.notTup sq)
   |non=>cases h2.nons
   |bl _=>cases h2.bls
   |int _=>cases h2.ints
   |str _=>cases h2.strs
theorem kq(p:VDs K m H xs vs)(r:ax vs its){j:Nat}(hj:j < its.toArray.size):∃x v,xs[j]?=some x/\VD K m H x v/\aq v its.toArray[j]:=by
 have hj':j < its.length:=by simpa using hj
 have l1:=p.length;have l2:=r.length;obtain⟨v,hv,vd⟩:=p.get (i:=j) (d:=xs[j]'(by lia)) (gEG _);obtain⟨u,hu,ru⟩:=r.get hv;refine⟨_,v,gEG (by lia),vd,?_⟩;have e:its[j]?=some its[j]:=gEG hj';rw[e] at hu;cases hu
 simpa using ru
abbrev Ed(X:Cx)(m:List Addr)(H:Hp)(S:Sto)(s:Shared)(n:Nat):Prop:=∀ (A:Around) (x y:D) (v w:V) (u u':Value) (b:Bool),VD X.K m H x v->VD X.K m H y w->aq v u->aq w u'->eqD n S x y=some b->A.units+n < cLine->WF A s u u' b
theorem lN{pins:List (Addr × Obj)}{σ:L2.St}{s:Shared}{n:Nat}(ih:Ed X m H S s n){A:Around}{xs ys:List D}{vs ws:List V}{i1 i2:List Value}{b:Bool}(p:VDs X.K m H xs vs)(q:VDs X.K m H ys ws)(r1:ax vs i1)(r2:ax ws i2)
  (h:eqL (eqD n S) xs ys=some b) (hu:A.units+(n+1) < cLine):∃g:Nat->Bool,(∀j (h1:j < i1.toArray.size) (h2:j < i2.toArray.size),WF A.in1 s i1.toArray[j] i2.toArray[j] (g j))/\b=((ZI (min i1.toArray.size i2.toArray.size)).all g && i1.toArray.size == i2.toArray.size):=by
 obtain⟨g,hg,hb⟩:=lL h;have l1:i1.toArray.size=xs.length:=by rw[Zc,<-r1.length,<-p.length]
 have l2:i2.toArray.size=ys.length:=by rw[Zc,<-r2.length,<-q.length]
 refine⟨g,fun j h1 h2=>?_,by rw[hb,l1,l2]⟩;obtain⟨x,v,e1,v1,ru1⟩:=kq p r1 h1;obtain⟨y,w,e2,v2,ru2⟩:=kq q r2 h2;exact ih _ _ _ _ _ _ _ _ v1 v2 ru1 ru2 (hg j x y e1 e2) (by show A.units+1+n < cLine;lia)
theorem uK{n:Nat}:(ZI n).all (fun _=>true)=true:=by simp
theorem uL{pins:List (Addr × Obj)}{σ:L2.St}{s:Shared}(I:Inv X pins σ H s)(R:Rel X.K m S H){n:Nat}(ih:Ed X m H S s n){A:Around}{x y:D}{a a':Addr}{b:Bool}(hx:VD X.K m H x (.ref a))(hy:VD X.K m H y (.ref a'))(h:eqD (n+1) S x y=some b)(hu:A.units+(n+1) < cLine) :
  WG A s (.ref a) (.ref a') b/\WH A s (.ref a) (.ref a') (!b):=by
 have hu0:A.units < cLine:=by lia
 cases x with
 |non=>cases hx.nons
 |bl _=>cases hx.bls
 |int _=>cases hx.ints
 |str _=>cases hx.strs
 |tup xs=>
  obtain⟨_,vs,e,sq,p⟩:=hx.tups;cases e;obtain⟨i1,r1,t1,_⟩:=I.tuple (.of sq);cases y with
  |non=>cases hy.nons
  |bl _=>cases hy.bls
  |int _=>cases hy.ints
  |str _=>cases hy.strs
  |tup ys=>
   obtain⟨_,ws,e,sq',q⟩:=hy.tups;cases e;obtain⟨i2,r2,t2,_⟩:=I.tuple (.of sq');simp only[eqD] at h;obtain⟨g,hg,hb⟩:=lN (pins:=pins) (σ:=σ) ih p q r1 r2 h hu;rw[hb];exact⟨SeqAt.RcAt.tuples t1 t2 hu0 hg,PySem.SeqAt.RcNeAt.tuples t1 t2 hu0 hg⟩
  |ref k=>
   simp only[eqD] at h;cases hs:ai S k with
   |none=>rw[hs] at h;cases h
   |some es=>
    rw[hs] at h;cases h;obtain⟨b',ws,hb,sq',q⟩:=R.seq hs;obtain⟨c,hc,ec⟩:=hy.refs;cases ec;rw[hb] at hc;cases hc;obtain⟨i2,r2,t2,_⟩:=I.list sq';exact⟨SeqAt.RcAt.tuple_list t1 t2.isList hu0,PySem.SeqAt.RcNeAt.tuple_list t1 t2.isList hu0⟩
 |ref k=>
  obtain⟨c,hc,ec⟩:=hx.refs;cases ec;cases y with
  |non=>cases hy.nons
  |bl _=>cases hy.bls
  |int _=>cases hy.ints
  |str _=>cases hy.strs
  |tup ys=>
   obtain⟨_,ws,e,sq',q⟩:=hy.tups;cases e;obtain⟨i2,r2,t2,_⟩:=I.tuple (.of sq');simp only[eqD] at h;cases hs:ai S k with
   |none=>rw[hs] at h;cases h
   |some es=>
    rw[hs] at h;cases h;obtain⟨b',vs,hb,sq,p⟩:=R.seq hs;rw[hb] at hc;cases hc;obtain⟨i1,r1,t1,_⟩:=I.list sq;exact⟨SeqAt.RcAt.list_tuple t1.isList t2 hu0,PySem.SeqAt.RcNeAt.list_tuple t1.isList t2 hu0⟩
  |ref k'=>
   obtain⟨c',hc',ec'⟩:=hy.refs;cases ec';simp only[eqD] at h;cases hs:ai S k with
   |none=>rw[hs] at h;cases h
   |some es=>
    cases hs':ai S k' with
    |none=>rw[hs,hs'] at h;cases h
    |some es'=>
     rw[hs,hs'] at h;dsimp only at h;obtain⟨b1,vs,hb,sq,p⟩:=R.seq hs;rw[hb] at hc;cases hc;obtain⟨b2,ws,hb',sq',q⟩:=R.seq hs';rw[hb'] at hc';cases hc';obtain⟨i1,r1,t1,_⟩:=I.list sq;obtain⟨i2,r2,t2,_⟩:=I.list sq';split at h
     ·rename_i hk;subst hk;rw[hb] at hb';cases hb';cases h;have z:=SeqAt.RcAt.lists (e:=fun _=>true) t1.isList t1.isList rfl hu0 fun j h1 h2=>SeqAt.EqAt.same _;have z':=PySem.SeqAt.RcNeAt.lists (e:=fun _=>true) t1.isList t1.isList rfl hu0 fun j h1 h2=>SeqAt.EqAt.same _;rw[uK] at z z';exact⟨z,z'⟩
     ·have l1:i1.toArray.size=es.length:=by rw[Zc,<-r1.length,<-p.length]
      have l2:i2.toArray.size=es'.length:=by rw[Zc,<-r2.length,<-q.length]
      split at h
      ·rename_i hl;obtain⟨g,hg,hb3⟩:=lN (pins:=pins) (σ:=σ) ih p q r1 r2 h hu;have hsz:i1.toArray.size=i2.toArray.size:=by rw[l1,l2,hl]
       rw[hb3,<-hsz,Nat.min_self,beq_self_eq_true,Bool.and_true];exact⟨SeqAt.RcAt.lists t1.isList t2.isList hsz hu0 hg,PySem.SeqAt.RcNeAt.lists t1.isList t2.isList hsz hu0 hg⟩
      ·rename_i hl;cases h;have hsz:(i1.toArray.size != i2.toArray.size)=true:=by rw[l1,l2];simpa using hl
       exact⟨SeqAt.RcAt.lists_lengths t1.isList t2.isList hsz hu0,PySem.SeqAt.RcNeAt.lists_lengths t1.isList t2.isList hsz hu0⟩
theorem aY(I:Inv X pins σ H s)(R:Rel X.K m S H){k:Nat}(h:VD X.K m H (.ref k) v)(hs:ai S k=some es):∃a i,v = .ref a/\s.heap.IsList a i:=by
 obtain⟨c,hc,ec⟩:=h.refs;obtain⟨b1,vs,hb,sq,p⟩:=R.seq hs;rw[hb] at hc;cases hc;obtain⟨i1,r1,t1,_⟩:=I.list sq;exact⟨_,_,ec,t1.isList⟩
theorem br(I:Inv X pins σ H s)(h:VD X.K m H (.tup es) v):∃a i,v = .ref a/\s.heap.IsTuple a i:=by
 obtain⟨a,vs,e,sq,p⟩:=h.tups;obtain⟨i1,r1,t1,_⟩:=I.tuple (.of sq);exact⟨_,_,e,t1⟩
theorem kr(I:Inv X pins σ H s)(R:Rel X.K m S H):∀n,Ed X m H S s n
 |0=>fun A x y v w u u' b h1 h2 r1 r2 h _=>by simp[eqD] at h
 |n+1=>fun A x y v w u u' b h1 h2 r1 r2 h hu=>by
  have hu0:A.units < cLine:=by lia
  have seq:∀ {a a':Addr},v = .ref a->w = .ref a'->WF A s u u' b:=by
   intro a a' e e';subst e e';cases r1;cases r2;by_cases z:a=a'
   ·subst z;have:=lM I R (n+1) h1 h2 h;subst this;exact SeqAt.EqAt.same _
   ·exact SeqAt.EqAt.of_refs z (uL I R (kr I R n) h1 h2 h hu).1
  cases x with
  |non=>
   cases h1.nons;cases r1;cases y with
   |non=>cases h2.nons;cases r2;simp[eqD] at h;subst h;exact SeqAt.EqAt.same _
   |bl j=>cases h2.bls;cases r2;simp[eqD] at h;subst h;exact SeqAt.EqAt.none_bool _
   |int j=>cases h2.ints;obtain⟨t,rfl⟩:=r2;simp[eqD] at h;subst h;exact SeqAt.EqAt.none_int _ _
   |str j=>cases h2.strs;obtain⟨t,rfl⟩:=r2;simp[eqD] at h;subst h;exact SeqAt.EqAt.none_str _ _
   |tup ys=>obtain⟨a,i,e,l⟩:=br I h2;subst e;cases r2;simp[eqD] at h;subst h;exact SeqAt.EqAt.none_tuple l hu0
   |ref k=>
    simp only[eqD] at h;cases hs:ai S k with
    |none=>rw[hs] at h;cases h
    |some es=>rw[hs] at h;cases h;obtain⟨a,i,e,l⟩:=aY I R h2 hs;subst e;cases r2;exact SeqAt.EqAt.none_list l hu0
  |bl i=>
   cases h1.bls;cases r1;cases y with
   |non=>cases h2.nons;cases r2;simp[eqD] at h;subst h;exact SeqAt.EqAt.bool_none _
   |bl j=>cases h2.bls;cases r2;simp only[eqD] at h;cases h;exact SeqAt.EqAt.bool_bool _ _
   |int j=>cases h2.ints;obtain⟨t,rfl⟩:=r2;simp only[eqD] at h;cases h;exact SeqAt.EqAt.bool_int _ _ _
   |str j=>cases h2.strs;obtain⟨t,rfl⟩:=r2;simp[eqD] at h;subst h;exact SeqAt.EqAt.bool_str _ _ _
   |tup ys=>obtain⟨a,i,e,l⟩:=br I h2;subst e;cases r2;simp[eqD] at h;subst h;exact SeqAt.EqAt.bool_tuple _ l hu0
   |ref k=>
    simp only[eqD] at h;cases hs:ai S k with
    |none=>rw[hs] at h;cases h
    |some es=>rw[hs] at h;cases h;obtain⟨a,i,e,l⟩:=aY I R h2 hs;subst e;cases r2;exact SeqAt.EqAt.bool_list _ l hu0
  |int i=>
   cases h1.ints;obtain⟨t1,rfl⟩:=r1;cases y with
   |non=>cases h2.nons;cases r2;simp[eqD] at h;subst h;exact SeqAt.EqAt.int_none _ _
   |bl j=>cases h2.bls;cases r2;simp only[eqD] at h;cases h;exact SeqAt.EqAt.int_bool _ _ _
   |int j=>cases h2.ints;obtain⟨t,rfl⟩:=r2;simp only[eqD] at h;cases h;exact SeqAt.EqAt.int_int _ _ _ _
   |str j=>cases h2.strs;obtain⟨t,rfl⟩:=r2;simp[eqD] at h;subst h;exact SeqAt.EqAt.int_str _ _ _ _
   |tup ys=>obtain⟨a,i,e,l⟩:=br I h2;subst e;cases r2;simp[eqD] at h;subst h;exact SeqAt.EqAt.int_tuple _ _ l hu0
   |ref k=>
    simp only[eqD] at h;cases hs:ai S k with
    |none=>rw[hs] at h;cases h
    |some es=>rw[hs] at h;cases h;obtain⟨a,i,e,l⟩:=aY I R h2 hs;subst e;cases r2;exact SeqAt.EqAt.int_list _ _ l hu0
  |str i=>
   cases h1.strs;obtain⟨t1,rfl⟩:=r1;cases y with
   |non=>cases h2.nons;cases r2;simp[eqD] at h;subst h;exact SeqAt.EqAt.str_none _ _
   |bl j=>cases h2.bls;cases r2;simp[eqD] at h;subst h;exact SeqAt.EqAt.str_bool _ _ _
   |int j=>cases h2.ints;obtain⟨t,rfl⟩:=r2;simp[eqD] at h;subst h;exact SeqAt.EqAt.str_int _ _ _ _
   |str j=>cases h2.strs;obtain⟨t,rfl⟩:=r2;simp only[eqD] at h;cases h;exact SeqAt.EqAt.str_str _ _ _ _
   |tup ys=>obtain⟨a,i,e,l⟩:=br I h2;subst e;cases r2;simp[eqD] at h;subst h;exact SeqAt.EqAt.str_tuple _ _ l hu0
   |ref k=>
    simp only[eqD] at h;cases hs:ai S k with
    |none=>rw[hs] at h;cases h
    |some es=>rw[hs] at h;cases h;obtain⟨a,i,e,l⟩:=aY I R h2 hs;subst e;cases r2;exact SeqAt.EqAt.str_list _ _ l hu0
  |tup xs=>
   obtain⟨a,i,e,l⟩:=br I h1;subst e;cases r1;cases y with
   |non=>cases h2.nons;cases r2;simp[eqD] at h;subst h;exact SeqAt.EqAt.tuple_none l hu0
   |bl j=>cases h2.bls;cases r2;simp[eqD] at h;subst h;exact SeqAt.EqAt.tuple_bool _ l hu0
   |int j=>cases h2.ints;obtain⟨t,rfl⟩:=r2;simp[eqD] at h;subst h;exact SeqAt.EqAt.tuple_int _ _ l hu0
   |str j=>cases h2.strs;obtain⟨t,rfl⟩:=r2;simp[eqD] at h;subst h;exact SeqAt.EqAt.tuple_str _ _ l hu0
   |tup ys=>obtain⟨a',i',e',l'⟩:=br I h2;exact seq rfl e'
   |ref k=>obtain⟨c,hc,ec⟩:=h2.refs;exact seq rfl ec
  |ref k=>
   obtain⟨c,hc,ec⟩:=h1.refs;cases y with
   |tup ys=>obtain⟨a',i',e',l'⟩:=br I h2;exact seq ec e'
   |ref k=>obtain⟨c,hc,ec'⟩:=h2.refs;exact seq ec ec'
   |non=>
    simp only[eqD] at h;cases hs:ai S k with
    |none=>rw[hs] at h;cases h
    |some es=>rw[hs] at h;cases h;obtain⟨a,i,e,l⟩:=aY I R h1 hs;subst e;cases r1;cases h2.nons;cases r2;exact SeqAt.EqAt.list_none l hu0
   |bl j=>
    simp only[eqD] at h;cases hs:ai S k with
    |none=>rw[hs] at h;cases h
    |some es=>rw[hs] at h;cases h;obtain⟨a,i,e,l⟩:=aY I R h1 hs;subst e;cases r1;cases h2.bls;cases r2;exact SeqAt.EqAt.list_bool _ l hu0
   |int j=>
    simp only[eqD] at h;cases hs:ai S k with
    |none=>rw[hs] at h;cases h
    |some es=>rw[hs] at h;cases h;obtain⟨a,i,e,l⟩:=aY I R h1 hs;subst e;cases r1;cases h2.ints;obtain⟨t,rfl⟩:=r2;exact SeqAt.EqAt.list_int _ _ l hu0
   |str j=>
    simp only[eqD] at h;cases hs:ai S k with
    |none=>rw[hs] at h;cases h
    |some es=>rw[hs] at h;cases h;obtain⟨a,i,e,l⟩:=aY I R h1 hs;subst e;cases r1;cases h2.strs;obtain⟨t,rfl⟩:=r2;exact SeqAt.EqAt.list_str _ _ l hu0
theorem Jd(I:Inv X pins σ H s)(R:Rel X.K m S H)(n:Nat)(h1:VD X.K m H x v)(h2:VD X.K m H y w)(r1:aq v u)(r2:aq w u')(h:eqD (n+1) S x y=some b)(hu:A.units+(n+1) < cLine) :
  WG A s u u' b/\WH A s u u' (!b):=by
 have hu0:A.units < cLine:=by lia
 have seq:∀ {a a':Addr},v = .ref a->w = .ref a'->WG A s u u' b/\WH A s u u' (!b):=by
  intro a a' e e';subst e e';cases r1;cases r2;exact uL I R (kr I R n) h1 h2 h hu
 cases x with
 |non=>
  cases h1.nons;cases r1;cases y with
  |non=>cases h2.nons;cases r2;simp[eqD] at h;subst h;exact⟨SeqAt.RcAt.none_none,PySem.SeqAt.RcNeAt.none_none⟩
  |bl j=>cases h2.bls;cases r2;simp[eqD] at h;subst h;exact⟨SeqAt.RcAt.none_bool _,PySem.SeqAt.RcNeAt.none_bool _⟩
  |int j=>cases h2.ints;obtain⟨t2,rfl⟩:=r2;simp[eqD] at h;subst h;exact⟨SeqAt.RcAt.none_int _ _,PySem.SeqAt.RcNeAt.none_int _ _⟩
  |str j=>cases h2.strs;obtain⟨t2,rfl⟩:=r2;simp[eqD] at h;subst h;exact⟨SeqAt.RcAt.none_str _ _,PySem.SeqAt.RcNeAt.none_str _ _⟩
  |tup ys=>obtain⟨a,i,e,l⟩:=br I h2;subst e;cases r2;simp[eqD] at h;subst h;exact⟨SeqAt.RcAt.none_tuple l hu0,PySem.SeqAt.RcNeAt.none_tuple l hu0⟩
  |ref k=>
   simp only[eqD] at h;cases hs:ai S k with
   |none=>rw[hs] at h;cases h
   |some es=>rw[hs] at h;cases h;obtain⟨a,i,e,l⟩:=aY I R h2 hs;subst e;cases r2;exact⟨SeqAt.RcAt.none_list l hu0,PySem.SeqAt.RcNeAt.none_list l hu0⟩
 |bl i=>
  cases h1.bls;cases r1;cases y with
  |non=>cases h2.nons;cases r2;simp[eqD] at h;subst h;exact⟨SeqAt.RcAt.bool_none _,PySem.SeqAt.RcNeAt.bool_none _⟩
  |bl j=>cases h2.bls;cases r2;simp only[eqD] at h;cases h;exact⟨SeqAt.RcAt.bool_bool _ _,PySem.SeqAt.RcNeAt.bool_bool _ _⟩
  |int j=>cases h2.ints;obtain⟨t2,rfl⟩:=r2;simp only[eqD] at h;cases h;exact⟨SeqAt.RcAt.bool_int _ _ _,PySem.SeqAt.RcNeAt.bool_int _ _ _⟩
  |str j=>cases h2.strs;obtain⟨t2,rfl⟩:=r2;simp[eqD] at h;subst h;exact⟨SeqAt.RcAt.bool_str _ _ _,PySem.SeqAt.RcNeAt.bool_str _ _ _⟩
  |tup ys=>obtain⟨a,i,e,l⟩:=br I h2;subst e;cases r2;simp[eqD] at h;subst h;exact⟨SeqAt.RcAt.bool_tuple _ l hu0,PySem.SeqAt.RcNeAt.bool_tuple _ l hu0⟩
  |ref k=>
   simp only[eqD] at h;cases hs:ai S k with
   |none=>rw[hs] at h;cases h
   |some es=>rw[hs] at h;cases h;obtain⟨a,i,e,l⟩:=aY I R h2 hs;subst e;cases r2;exact⟨SeqAt.RcAt.bool_list _ l hu0,PySem.SeqAt.RcNeAt.bool_list _ l hu0⟩
 |int i=>
  cases h1.ints;obtain⟨t1,rfl⟩:=r1;cases y with
  |non=>cases h2.nons;cases r2;simp[eqD] at h;subst h;exact⟨SeqAt.RcAt.int_none _ _,PySem.SeqAt.RcNeAt.int_none _ _⟩
  |bl j=>cases h2.bls;cases r2;simp only[eqD] at h;cases h;exact⟨SeqAt.RcAt.int_bool _ _ _,PySem.SeqAt.RcNeAt.int_bool _ _ _⟩
  |int j=>cases h2.ints;obtain⟨t2,rfl⟩:=r2;simp only[eqD] at h;cases h;exact⟨SeqAt.RcAt.int_int _ _ _ _,PySem.SeqAt.RcNeAt.int_int _ _ _ _⟩
  |str j=>cases h2.strs;obtain⟨t2,rfl⟩:=r2;simp[eqD] at h;subst h;exact⟨SeqAt.RcAt.int_str _ _ _ _,PySem.SeqAt.RcNeAt.int_str _ _ _ _⟩
  |tup ys=>obtain⟨a,i,e,l⟩:=br I h2;subst e;cases r2;simp[eqD] at h;subst h;exact⟨SeqAt.RcAt.int_tuple _ _ l hu0,PySem.SeqAt.RcNeAt.int_tuple _ _ l hu0⟩
  |ref k=>
   simp only[eqD] at h;cases hs:ai S k with
   |none=>rw[hs] at h;cases h
   |some es=>rw[hs] at h;cases h;obtain⟨a,i,e,l⟩:=aY I R h2 hs;subst e;cases r2;exact⟨SeqAt.RcAt.int_list _ _ l hu0,PySem.SeqAt.RcNeAt.int_list _ _ l hu0⟩
 |str i=>
  cases h1.strs;obtain⟨t1,rfl⟩:=r1;cases y with
  |non=>cases h2.nons;cases r2;simp[eqD] at h;subst h;exact⟨SeqAt.RcAt.str_none _ _,PySem.SeqAt.RcNeAt.str_none _ _⟩
  |bl j=>cases h2.bls;cases r2;simp[eqD] at h;subst h;exact⟨SeqAt.RcAt.str_bool _ _ _,PySem.SeqAt.RcNeAt.str_bool _ _ _⟩
  |int j=>cases h2.ints;obtain⟨t2,rfl⟩:=r2;simp[eqD] at h;subst h;exact⟨SeqAt.RcAt.str_int _ _ _ _,PySem.SeqAt.RcNeAt.str_int _ _ _ _⟩
  |str j=>cases h2.strs;obtain⟨t2,rfl⟩:=r2;simp only[eqD] at h;cases h;exact⟨SeqAt.RcAt.str_str _ _ _ _,PySem.SeqAt.RcNeAt.str_str _ _ _ _⟩
  |tup ys=>obtain⟨a,i,e,l⟩:=br I h2;subst e;cases r2;simp[eqD] at h;subst h;exact⟨SeqAt.RcAt.str_tuple _ _ l hu0,PySem.SeqAt.RcNeAt.str_tuple _ _ l hu0⟩
  |ref k=>
   simp only[eqD] at h;cases hs:ai S k with
   |none=>rw[hs] at h;cases h
   |some es=>rw[hs] at h;cases h;obtain⟨a,i,e,l⟩:=aY I R h2 hs;subst e;cases r2;exact⟨SeqAt.RcAt.str_list _ _ l hu0,PySem.SeqAt.RcNeAt.str_list _ _ l hu0⟩
 |tup xs=>
  obtain⟨a,i,e,l⟩:=br I h1;cases y with
  |non=>subst e;cases r1;cases h2.nons;cases r2;simp[eqD] at h;subst h;exact⟨SeqAt.RcAt.tuple_none l hu0,PySem.SeqAt.RcNeAt.tuple_none l hu0⟩
  |bl j=>subst e;cases r1;cases h2.bls;cases r2;simp[eqD] at h;subst h;exact⟨SeqAt.RcAt.tuple_bool _ l hu0,PySem.SeqAt.RcNeAt.tuple_bool _ l hu0⟩
  |int j=>subst e;cases r1;cases h2.ints;obtain⟨t2,rfl⟩:=r2;simp[eqD] at h;subst h;exact⟨SeqAt.RcAt.tuple_int _ _ l hu0,PySem.SeqAt.RcNeAt.tuple_int _ _ l hu0⟩
  |str j=>subst e;cases r1;cases h2.strs;obtain⟨t2,rfl⟩:=r2;simp[eqD] at h;subst h;exact⟨SeqAt.RcAt.tuple_str _ _ l hu0,PySem.SeqAt.RcNeAt.tuple_str _ _ l hu0⟩
  |tup ys=>obtain⟨a',i',e',l'⟩:=br I h2;exact seq e e'
  |ref k=>obtain⟨c,hc,ec⟩:=h2.refs;exact seq e ec
 |ref k=>
  obtain⟨c,hc,ec⟩:=h1.refs;cases y with
  |tup ys=>obtain⟨a',i',e',l'⟩:=br I h2;exact seq ec e'
  |ref k=>obtain⟨c,hc,ec'⟩:=h2.refs;exact seq ec ec'
  |non=>
   simp only[eqD] at h;cases hs:ai S k with
   |none=>rw[hs] at h;cases h
   |some es=>rw[hs] at h;cases h;obtain⟨a,i,e,l⟩:=aY I R h1 hs;subst e;cases r1;cases h2.nons;cases r2;exact⟨SeqAt.RcAt.list_none l hu0,PySem.SeqAt.RcNeAt.list_none l hu0⟩
  |bl j=>
   simp only[eqD] at h;cases hs:ai S k with
   |none=>rw[hs] at h;cases h
   |some es=>rw[hs] at h;cases h;obtain⟨a,i,e,l⟩:=aY I R h1 hs;subst e;cases r1;cases h2.bls;cases r2;exact⟨SeqAt.RcAt.list_bool _ l hu0,PySem.SeqAt.RcNeAt.list_bool _ l hu0⟩
  |int j=>
   simp only[eqD] at h;cases hs:ai S k with
   |none=>rw[hs] at h;cases h
   |some es=>rw[hs] at h;cases h;obtain⟨a,i,e,l⟩:=aY I R h1 hs;subst e;cases r1;cases h2.ints;obtain⟨t2,rfl⟩:=r2;exact⟨SeqAt.RcAt.list_int _ _ l hu0,PySem.SeqAt.RcNeAt.list_int _ _ l hu0⟩
  |str j=>
   simp only[eqD] at h;cases hs:ai S k with
   |none=>rw[hs] at h;cases h
   |some es=>rw[hs] at h;cases h;obtain⟨a,i,e,l⟩:=aY I R h1 hs;subst e;cases r1;cases h2.strs;obtain⟨t2,rfl⟩:=r2;exact⟨SeqAt.RcAt.list_str _ _ l hu0,PySem.SeqAt.RcNeAt.list_str _ _ l hu0⟩
noncomputable def eqS(x y:D)(S:Sto):Option (D × Sto):=(eqD 60 S x y).map fun b=>(.bl b,S)
noncomputable def dlD(S:Sto)(x y:D):Option Bool:=match x,y with
 |.ref a,.ref b=>match S[a]?,S[b]? with
  |some (.dic _ _),some (.lst _)=>some false
  |_,_=>none
 |_,_=>none
noncomputable def neD(S:Sto)(x y:D):Option Bool:=match eqD 60 S x y with
 |some b=>some b
 |none=>dlD S x y
noncomputable def neS(x y:D)(S:Sto):Option (D × Sto):=(neD S x y).map fun b=>(.bl (!b),S)
theorem p8(h:eqD 60 S x y=some b):neS x y S=some (.bl (!b),S):=by unfold neS neD;rw[h];rfl
theorem Ee(hu:X.A.units+64 < cLine):OpR X (VC .Eq) (rS X.K eqS):=by
 intro pins s σ H x y v u Q I rx ry h;obtain⟨m,S,a,b,d,S',R,va,vb,e,q⟩:=h;unfold eqS at e;cases he:eqD 60 S a b with
 |none=>rw[he] at e;cases e
 |some c=>
  rw[he] at e;cases e;exact(Jd I R 59 va vb rx ry he (by lia)).1 _ _ _ _ ⟨.bl c,H,I,rfl,q m H _ (Aft.refl R) bB⟩
theorem Je(I:Inv X pins σ H s)(R:Rel X.K m S H)(hu:A.units < cLine)(h1:VD X.K m H x v)(h2:VD X.K m H y w)(r1:aq v u)(r2:aq w u')(h:dlD S x y=some c):WH A s u u' (!c):=by
 cases x with
 |ref a=>
  cases y with
  |ref b=>
   unfold dlD at h;dsimp only at h;split at h
   ·rename_i ks ds es ha hb;cases h;obtain⟨a',i,e,l⟩:=aY (es:=es) I R h2 (by unfold ai;rw[hb]);subst e;cases r2;obtain⟨c,hc,ec⟩:=h1.refs;subst ec;cases r1;obtain⟨a2,ha2,vs,hv,_⟩:=R.ob _ _ ha;rw[hc] at ha2;cases ha2;obtain⟨_,_,xs,_,o,es',ep,g1,g2,_⟩:=(show aX X.prog X.w H s.heap c (.dK _) from I.hok c _ hv);exact PySem.SeqAt.dict_list g1 g2.1 l hu
   ·cases h
  |_=>cases h
 |_=>cases h
theorem Ef(hu:X.A.units+64 < cLine):OpR X (VC .NotEq) (rS X.K neS):=by
 intro pins s σ H x y v u Q I rx ry h;obtain⟨m,S,a,b,d,S',R,va,vb,e,q⟩:=h;unfold neS neD at e;cases he:eqD 60 S a b with
 |none=>
  rw[he] at e;cases hd:dlD S a b with
  |none=>dsimp only at e;rw[hd] at e;cases e
  |some c=>
   dsimp only at e;rw[hd] at e;cases e;exact Je I R (by lia) va vb rx ry hd _ _ _ _ ⟨.bl (!c),H,I,rfl,q m H _ (Aft.refl R) bB⟩
 |some c=>
  rw[he] at e;cases e;exact(Jd I R 59 va vb rx ry he (by lia)).2 _ _ _ _ ⟨.bl (!c),H,I,rfl,q m H _ (Aft.refl R) bB⟩
end
theorem fR:fillsNumberSlot (.type "tuple") "mul" = pure false:=
 PySem.fillsNumberSlot_seq (id := "tuple.__mul__") (r:=some (.builtin "tuple.__rmul__")) F.slot_tuple_mul.lookup (by decide +kernel) F.slot_tuple_rmul.lookup (by decide +kernel)
theorem ku:seqRepeat? (.type "tuple")=pure (some (.builtin "tuple.__mul__")):=by
 unfold seqRepeat?;rw[V9 (T := "tuple") (name := "__mul__") (id := "tuple.__mul__") F.slot_tuple_mul.lookup (by decide +kernel),V9 (T := "tuple") (name := "__rmul__") (id := "tuple.__rmul__") F.slot_tuple_rmul.lookup (by decide +kernel)];rfl
theorem io(a:Int)(t:Tok)(l:Addr)(items:Array Value)(n:Nat)(dd:Option Addr)(sl:Array (Option Value)) :
  Meets (Builtin.«int.__rmul__» ⟨[.int a t,.ref l],[]⟩) (fun _ R s=>s.heap.get? l=some { cls:=.type "tuple", dict:=dd,data:=.seq items n,slots:=sl }/\R (.ok (.ret Value.notImplemented)) s):=
 .of_wp fun prog w A R s h=>by
  obtain⟨hp,g,d,tk,os⟩:=s;obtain⟨hl,h⟩:=h
  wp_walk
  exact⟨_,rfl,h⟩
theorem rX(l:Addr)(items:Array Value)(n:Nat)(dd:Option Addr)(sl:Array (Option Value))(x:Int)(u:Tok)(h2:2<=x)(h3:x<=1000)(hne:items.isEmpty=false)(hz:items.size * x.toNat<=1000) :
  Meets (Builtin.«tuple.__mul__» ⟨[.ref l,.int x u],[]⟩) (fun _ R s=>s.heap.get? l=some { cls:=.type "tuple", dict:=dd,data:=.seq items n,slots:=sl }/\R (.ok (.ret (Value.ref s.heap.objs.size))) { s with heap:=s.heap.push { cls:=Value.type "tuple", data:=Data.seq (Yz (fun x1 x2=>x1++x2) #[] (Zi x.toNat items)) },toks:=s.toks }):=
 .of_wp fun prog w A R s h=>by
  obtain⟨hp,g,d,tk,os⟩:=s;obtain⟨hl,h⟩:=h;have c1:(decide (x < -(2 ^ 63)) || decide (x ≥ 2 ^ 63))=false:=by simp;lia
  have c2:(items.isEmpty || (x == 1))=false:=by rw[hne];simp;lia
  have c3:(decide (x<=0) || items.isEmpty)=false:=by rw[hne];simp;lia
  have e0:(items.size:Int) * x=((items.size * x.toNat:Nat):Int):=by
   rw[Int.natCast_mul,Int.toNat_of_nonneg (by lia)]
  have c4:¬ (items.size:Int) * x > (2 ^ 63 - 1) / 8:=by rw[e0];lia
  have c5:Builtin.Tuple.tupleTooMany ((items.size:Int) * x)=false:=by
   unfold Builtin.Tuple.tupleTooMany;rw[e0,Uc];exact decide_eq_false (by lia)
  wp_walk
  refine UD (decide_eq_false (by rw[c1];exact Zb)) ?_;refine Ur (wpAny_tupleItemsOf hl rfl ?_);refine UD (decide_eq_false (by rw[c2];exact Zb)) ?_;refine UD (decide_eq_false (by rw[c3];exact Zb)) ?_;dsimp only;rw[if_neg c4];refine UD (decide_eq_false (by rw[c5];exact Zb)) ?_
  have hsz:(Yz (fun x1 x2=>x1++x2) #[] (Zi x.toNat items)).size<=sizeLine:=by
   have e1:=dP items.toList x.toNat [];rw[Yt] at e1;have e2:items.toList.toArray=items:=by simp
   rw[e2] at e1;rw[e1,Zc,kg,Uc];have:items.toList.length=items.size:=by simp
   rw[this,Y9]
   lia
  wp_walk
  exact⟨_,rfl,h⟩
section
variable {X:Cx}
def Jf(K:WN):R2:=fun x y H Q=>∃l k xs,x = .ref l/\y = .int k/\H l=some (.tup xs)/\2<=k/\k<=1000/\xs ≠ []/\xs.length * k.toNat<=1000/\∀p,H p=none->Q (.ref p) (upd H p (.tup (Zi k.toNat xs).flatten))
theorem zc:OpR X (Vl .Mult) (Jf X.K):=by
 intro pins s σ H x y v u Q I rx ry h;obtain⟨l,k,xs,rfl,rfl,hH,h1,h2,hne,hz,q⟩:=h;cases rx;obtain⟨t,rfl⟩:=ry;obtain⟨its,r,⟨o,e,hc,n,hd⟩,_⟩:=I.tuple (SqT.of hH);obtain⟨oc,od,da,sl⟩:=o;dsimp only at hc hd;subst hc hd;have hl:=r.length
 have hnew:Yz (fun x1 x2=>x1++x2) #[] (Zi k.toNat its.toArray)=(Zi k.toNat its).flatten.toArray:=by
  have:=dP its k.toNat [];rw[Yt] at this;exact this
 have hie:its.toArray.isEmpty=false:=by
  cases its with
  |nil=>exact absurd (ZR.mp (by rw[hl];rfl)) hne
  |cons _ _=>rfl
 refine Uq (T := "tuple") (U := "int") (by decide) ⟨_,e,rfl⟩ (fun s'=>Uk s' k t) fR F.fills_int_mul We ku F.slot_int_index.lookup
  (Vs We (Uk s k t) F.entry_int_rmul (F.args_int_rmul_2 _ _) (io k t l its.toArray n od sl)
   ⟨e,rfl,⟨_,e,rfl⟩,Vs F.slot_tuple_mul ⟨_,e,rfl⟩ F.entry_tuple_mul (F.args_tuple_mul_2 _ _) (rX l its.toArray n od sl k t h1 h2 hie (by rw[Zc,<-hl];exact hz)) ⟨e,?_⟩⟩)
 rw[hnew];refine⟨.ref s.heap.objs.size,_,I.laid (t':=s.toks) (o:=.tup (Zi k.toNat xs).flatten) (fun b ob q=>Za _ q) (Zh _) ?_,rfl,q _ I.fresh⟩;exact⟨by rw[kg,Y9];exact fb hz,_,r.rep k.toNat,j0.new _ _⟩
end
noncomputable def Eg(a b:Nat)(S:Sto):Option (D × Sto):=match S[a]? with
 | some (.lst xs)=>(match S[b]? with
  |some (.lst ys)=>if xs.length+ys.length<=100000 then some (.ref S.length,S++[.lst (xs++ys)]) else none
  | _=>none)
 |_=>none
noncomputable def fS:D->D->Sto->Option (D × Sto)
 |.int i,.int j,S=>some (.int (i+j),S)
 |.tup xs,.tup ys,S=>if xs.length+ys.length<=1000 then some (.tup (xs++ys),S) else none
 |.ref a,.ref b,S=>Eg a b S
 |.str x,.str y,S=>if x.length+y.length<=100000 then some (.str (x++y),S) else none
 |_,_,_=>none
noncomputable def Jg:D->D->Sto->Option (D × Sto)
 |.int i,.int j,S=>some (.int (i - j),S)
 |_,_,_=>none
noncomputable def fg(i j:Int):Bool:=(decide (-(2 ^ 64) < i) && decide (i < 2 ^ 64)) || (decide (-(2 ^ 64) < j) && decide (j < 2 ^ 64))
noncomputable def jh:D->D->Sto->Option (D × Sto)
 |.int i,.int j,S=>if fg i j=true then some (.int (i * j),S) else none
 | .ref n,.int k,S=>(match S[n]? with
  |some (.lst xs)=>if 0<=k/\xs.length * k.toNat<=1000/\k<=1000 then some (.ref S.length,S++[.lst (Zi k.toNat xs).flatten]) else none
  | _=>none)
 |.tup xs,.int k,S=>if (2<=k/\k<=1000)/\(!xs.isEmpty)=true/\xs.length * k.toNat<=1000 then some (.tup (Zi k.toNat xs).flatten,S) else none
 |_,_,_=>none
noncomputable def Eh:D->D->Sto->Option (D × Sto)
 |.int i,.int j,S=>if 0 < j then some (.int (i % j),S) else none
 |_,_,_=>none
noncomputable def uM:D->D->Sto->Option (D × Sto)
 |.int i,.int j,S=>if 0 < j/\j < 1237940039285380274899124224 then some (.int (i / j),S) else none
 |_,_,_=>none
noncomputable def Ei:D->D->Sto->Option (D × Sto)
 |.int i,.int j,S=>if 0<=j/\j<=1000000/\i.natAbs < 2 ^ 64 then some (.int (i ^ j.toNat),S) else none
 |_,_,_=>none
inductive BOp where |add |sub |mul |mod |fdiv |pow
noncomputable def bv:BOp->D->D->Sto->Option (D × Sto)
 |.add=>fS |.sub=>Jg |.mul=>jh |.mod=>Eh |.fdiv=>uM |.pow=>Ei
noncomputable def BOp.op:BOp->Wv
 |.add=>.Add |.sub=>.Sub |.mul=>.Mult |.mod=>.Mod |.fdiv=>.FloorDiv |.pow=>.Pow
section
variable {X:Cx} {K:WN} {m:List Addr} {H:Hp} {S:Sto}
theorem dS{op:Wv}{f:D->D->Sto->Option (D × Sto)}{C:Int->Int->Prop}{g:Int->Int->Int}(ho:OpR X (Vl op) (rI C fun i j=>.int (g i j)))
  (hf:∀a b S d S',f a b S=some (d,S')->∃i j,a = .int i/\b = .int j/\C i j/\d = .int (g i j)/\S'=S):OpR X (Vl op) (rS X.K f):=by
 refine OpR.imp ho fun x y H Q h=>?_;obtain⟨m,S,a,b,d,S',R,va,vb,e,q⟩:=h;obtain⟨i,j,rfl,rfl,c,rfl,rfl⟩:=hf _ _ _ _ _ e;exact⟨i,j,va.ints,vb.ints,c,q m H _ (Aft.refl R) aQ⟩
theorem nX:OpR X (Vl .Add) (fun x y H Q=>∃m S xs ys,Rel X.K m S H/\VD X.K m H (.tup xs) x/\VD X.K m H (.tup ys) y/\xs.length+ys.length<=1000/\∀m' H' u,Aft X.K m H S m' H'->VD X.K m' H' (.tup (xs++ys)) u->Q u H'):=by
 refine OpR.imp yU fun x y H Q h=>?_;obtain⟨m,S,xs,ys,R,va,vb,hl,q⟩:=h;obtain⟨a,vs,rfl,sa,da⟩:=va.tups;obtain⟨b,ws,rfl,sb,db⟩:=vb.tups;have l1:=da.length;have l2:=db.length;refine⟨a,b,vs,ws,rfl,rfl,.of sa,.of sb,fb (by lia),fun e=>?_,fun _ e=>?_,fun _ _=>fe R (da.append db) q⟩
 ·subst e;have e:xs=[]:=ZR.mp (by simpa using l1);subst e;exact q m H _ (Aft.refl R) vb
 ·subst e;have e:ys=[]:=ZR.mp (by simpa using l2);subst e;rw[ZQ] at q;exact q m H _ (Aft.refl R) va
theorem zd:OpR X (Vl .Add) (rS X.K fS):=by
 refine OpR.imp (OpR.or DI (OpR.or nX (OpR.or nD nK))) fun x y H Q h=>?_;obtain⟨m,S,a,b,d,S',R,va,vb,e,q⟩:=h;cases a with
 |int i=>
  cases b with
  |int j=>cases e;exact .inl ⟨i,j,va.ints,vb.ints,q m H _ (Aft.refl R) aQ⟩
  |_=>simp[fS] at e
 |tup xs=>
  cases b with
  |tup ys=>
   simp only[fS] at e;split at e
   ·rename_i hl;cases e;exact .inr (.inl ⟨m,S,xs,ys,R,va,vb,hl,q⟩)
   ·cases e
  |_=>simp[fS] at e
 |str i=>
  cases b with
  |str j=>
   simp only[fS] at e;split at e
   ·rename_i hl;cases e;exact .inr (.inr (.inl ⟨i,j,va.strs,vb.strs,by rw[Uc];lia,q m H _ (Aft.refl R) eJ⟩))
   ·cases e
  |_=>simp[fS] at e
 |ref i=>
  cases b with
  |ref j=>
   simp only[fS,Eg] at e;split at e
   ·rename_i xs hx;split at e
    ·rename_i ys hy;split at e
     ·rename_i hl;cases e;obtain⟨a,vs,ha,hH,q1⟩:=R.lst hx;obtain⟨c,ws,hc,hG,q2⟩:=R.lst hy;obtain⟨a',ha',e1⟩:=va.refs;obtain⟨c',hc',e2⟩:=vb.refs;rw[ha] at ha';cases ha';rw[hc] at hc';cases hc';exact .inr (.inr (.inr ⟨a,c,vs,ws,e1,e2,hH,hG,by rw[Uc,<-q1.length,<-q2.length];lia,ko R (q1.append q2) q⟩))
     ·cases e
    ·cases e
   ·cases e
  |_=>simp[fS] at e
 |_=>cases b <;> simp[fS] at e
theorem kx(h:VDs K m H ds vs):∀n:Nat,VDs K m H (Zi n ds).flatten (Zi n vs).flatten
 |0=>by rw[Y4,Y4,Xk,Xk,VDs]
 |n+1=>by rw[ZS,ZS,Z3,Z3];exact h.append (kx h n)
theorem ze:OpR X (Vl .Mult) (rS X.K jh):=by
 refine OpR.imp (OpR.or D2 (OpR.or DK zc)) fun x y H Q h=>?_;obtain⟨m,S,a,b,d,S',R,va,vb,e,q⟩:=h;cases a with
 |int i=>
  cases b with
  |int j=>
   simp only[jh] at e;split at e
   ·rename_i hc;cases e;simp only[fg,YU,bAE,decide_eq_true_eq] at hc;exact .inr (.inl ⟨i,j,va.ints,vb.ints,hc,q m H _ (Aft.refl R) aQ⟩)
   ·cases e
  |_=>simp[jh] at e
 |ref n=>
  cases b with
  |int k=>
   simp only[jh] at e;split at e
   ·rename_i xs hx;split at e
    ·rename_i hc;cases e;obtain⟨l,vs,hl,hH,vd⟩:=R.lst hx;obtain⟨l',hl',e1⟩:=va.refs;rw[hl] at hl';cases hl';exact .inl ⟨l,k,vs,e1,vb.ints,hH,by lia,by lia,by rw[Uc,<-vd.length];lia,ko R (kx vd k.toNat) q⟩
    ·cases e
   ·cases e
  |_=>simp[jh] at e
 |tup xs=>
  cases b with
  |int k=>
   simp only[jh] at e;split at e
   ·rename_i hc;cases e;obtain⟨l,vs,rfl,hH,vd⟩:=va.tups;have hl:=vd.length;refine .inr (.inr ⟨l,k,vs,rfl,vb.ints,hH,hc.1.1,hc.1.2,fun z=>?_,by rw[<-hl];exact hc.2.2,fe R (kx vd k.toNat) q⟩);subst z;have:xs=[]:=ZR.mp hl;subst this;exact absurd hc.2.1 (by simp)
   ·cases e
  |_=>simp[jh] at e
 |_=>cases b <;> simp[jh] at e
theorem uN:OpR X (Vl .FloorDiv) (rI (fun _ j=>0 < j/\j < 1237940039285380274899124224) fun i j=>.int (i / j)):=opI fun i j _ _ _ _ _ hc q=>by
 have h1:(0:Int) < j:=hc.1;have h2:j < 1237940039285380274899124224:=hc.2
 exact floordiv_int (by lia) (by rw[Int.fdiv_eq_ediv_of_nonneg i (by lia)];exact q) (.inl (PyProof.noPylong_of_log2 (by
  have h0:j.natAbs ≠ 0:=by lia
  have:j.natAbs.log2 < 90:=(Nat.log2_lt h0).mpr (by lia)
  lia)))
theorem zf(o:BOp):OpR X (Vl o.op) (rS X.K (bv o)):=by
 cases o with
 |add=>exact zd
 |sub=>
  refine dS (C:=fun _ _=>True) (g:=fun i j=>i - j) (OpR.imp DJ fun x y H Q ⟨i,j,a,b,_,q⟩=>⟨i,j,a,b,q⟩) fun a b S d S' e=>?_;cases a <;> cases b <;> simp[bv,Jg] at e;exact⟨_,_,rfl,rfl,trivial,e.1.symm,e.2.symm⟩
 |mul=>exact ze
 |mod=>
  refine dS DM fun a b S d S' e=>?_;cases a <;> cases b <;> simp[bv,Eh] at e;rename_i i j;exact⟨i,j,rfl,rfl,e.1,e.2.1.symm,e.2.2.symm⟩
 |fdiv=>
  refine dS uN fun a b S d S' e=>?_;cases a <;> cases b <;> simp[bv,uM] at e;rename_i i j;exact⟨i,j,rfl,rfl,e.1,e.2.1.symm,e.2.2.symm⟩
 |pow=>
  refine dS DN fun a b S d S' e=>?_;cases a <;> cases b <;> simp[bv,Ei] at e;rename_i i j;exact⟨i,j,rfl,rfl,e.1,e.2.1.symm,e.2.2.symm⟩
noncomputable def rY(p:Int->Int->Bool):D->D->Sto->Option (D × Sto)
 |.int i,.int j,S=>some (.bl (p i j),S)
 |_,_,_=>none
noncomputable def Cy:D->Bool
 |.non=>true
 |_=>false
noncomputable def isB(neg:Bool):D->D->Sto->Option (D × Sto)
 |d,.non,S=>some (.bl (neg != Cy d),S)
 |.bl a,.bl b,S=>some (.bl (neg != (a == b)),S)
 |_,_,_=>none
noncomputable def ci:D->Bool
 |.non=>true |.bl _=>true |.int _=>true |.str _=>true |_=>false
noncomputable def eqF:D->D->Bool
 |.non,.non=>true
 |.bl a,.bl b=>a == b
 |.bl a,.int b=>(if a then 1 else 0) == b
 |.int a,.bl b=>a == (if b then 1 else 0)
 |.int a,.int b=>a == b
 |.str a,.str b=>a == b
 |_,_=>false
noncomputable def inF(x:D)(ds:List D):Bool:=ds.any fun y=>eqF y x
noncomputable def inD(x:D)(ds:List D)(S:Sto):Option Bool:=if (ds.all fun y=>(eqD 58 S y x).isSome)=true then some (ds.any fun y=>eqD 58 S y x == some true) else none
noncomputable def inS(neg:Bool)(x y:D)(S:Sto):Option (D × Sto):=match aM y S with
 |some (_,ds)=>if ci x=true/\ds.all ci=true then some (.bl (neg != inF x ds),S) else (inD x ds S).map fun b=>(.bl (neg != b),S)
 |none=>none
inductive COp where |eq |ne |lt |le |gt |ge |is |isnot |isin |notin
noncomputable def aF:COp->D->D->Sto->Option (D × Sto)
 |.eq=>eqS |.ne=>neS
 |.lt=>rY fun i j=>decide (i < j) |.le=>rY fun i j=>decide (i<=j) |.gt=>rY fun i j=>decide (j < i) |.ge=>rY fun i j=>decide (j<=i)
 |.is=>isB false |.isnot=>isB true |.isin=>inS false |.notin=>inS true
noncomputable def COp.op:COp->CmpOp
 |.eq=>.Eq |.ne=>.NotEq |.lt=>.Lt |.le=>.LtE |.gt=>.Gt |.ge=>.GtE |.is=>.Is |.isnot=>.IsNot |.isin=>.In |.notin=>.NotIn
theorem cR(ho:OpR X (VC op) (rI0 fun i j=>.bl (p i j))):OpR X (VC op) (rS X.K (rY p)):=by
 refine OpR.imp ho fun x y H Q h=>?_;obtain⟨m,S,a,b,d,S',R,va,vb,e,q⟩:=h;cases a <;> cases b <;> simp[rY] at e;obtain⟨rfl,rfl⟩:=e;exact⟨_,_,va.ints,vb.ints,q m H _ (Aft.refl R) bB⟩
theorem gP(h:VD K m H x v)(f:ci x=true):bA v=true:=by
 cases x <;> simp[ci] at f
 ·cases h.nons;rfl
 ·cases h.bls;rfl
 ·cases h.ints;rfl
 ·cases h.strs;rfl
theorem uO(h:VD K m H x v)(f:ci x=true)(h':VD K m H y w)(f':ci y=true):eqV v w=eqF x y:=by
 cases x <;> simp[ci] at f <;> cases y <;> simp[ci] at f' <;> simp[VD] at h h' <;> subst h <;> subst h' <;> rfl
theorem fh:∀ {ds:List D} {vs:List V},VDs K m H ds vs->ds.all ci=true->vs.all bA=true
 |[],vs,h,_=>by rw[VDs] at h;rw[h];rfl
 |d::ds,vs,h,f=>by
  rw[VDs] at h;obtain⟨x,r,rfl,p,q⟩:=h;rw[ZW,bAE] at f;rw[ZW,gP p f.1,fh q f.2];rfl
theorem nY(h:VD K m H x v)(f:ci x=true):∀ {ds:List D} {vs:List V},VDs K m H ds vs->ds.all ci=true->inV v vs=inF x ds
 |[],vs,h,_=>by rw[VDs] at h;rw[h];rfl
 |d::ds,vs,h',f'=>by
  rw[VDs] at h';obtain⟨y,r,rfl,p,q⟩:=h';rw[ZW,bAE] at f';have ih:=nY h f q f'.2;unfold inV inF at ih ⊢;rw[Yi,Yi,uO p f'.1 h f,ih]
theorem jE(h:VD K m H x v)(f:ci x=true):∀ {ds:List D} {vs:List V},VDs K m H ds vs->ds.all ci=true->(vs.countP fun z=>eqV z v)=ds.countP fun z=>eqF z x
 |[],vs,h,_=>by rw[VDs] at h;rw[h];rfl
 |d::ds,vs,h',f'=>by
  rw[VDs] at h';obtain⟨y,r,rfl,p,q⟩:=h';rw[ZW,bAE] at f';rw[Yo,Yo,uO p f'.1 h f,jE h f q f'.2]
theorem eK(h:SqB K tu H a vs):SqL K H a vs\/SqT K H a vs:=by
 cases tu with
 |false=>exact .inl h
 |true=>exact .inr (.of h)
theorem ky(I:Inv X pins σ H s)(R:Rel X.K m S H)(vx:VD X.K m H x v)(rx:aq v u)(hu:A.units+58 < cLine)(vd:VDs X.K m H ds vs)(r:ax vs its)(h:inD x ds S=some b) :
  ∃e:Value->Bool,(∀w ∈ its,WF A s w u (e w))/\its.any e=b:=by
 unfold inD at h;split at h
 ·rename_i hs;cases h;rw[ZD] at hs
  have at_:∀ (i:Nat) w,its[i]?=some w->∃y v',ds[i]?=some y/\VD X.K m H y v'/\aq v' w:=fun i w hw=>by
   have hi:=(Zf.mp hw).1;obtain⟨y,v',e1,e2,e3⟩:=kq vd r (j:=i) (by simpa using hi);refine⟨y,v',e1,e2,?_⟩
   have:its.toArray[i]=w:=by
    have:=(Zf.mp hw).2
    simpa using this
   rw[<-this];exact e3
  refine⟨fun w=>@decide (∃ (i:Nat) (y:D),ds[i]?=some y/\its[i]?=some w/\eqD 58 S y x=some true) (Classical.propDecidable _),fun w hw=>?_,?_⟩
  ·obtain⟨i,hi⟩:=Ye hw;dsimp only;by_cases hq:∃ (i:Nat) (y:D),ds[i]?=some y/\its[i]?=some w/\eqD 58 S y x=some true
   ·rw[@decide_eq_true _ (Classical.propDecidable _) hq];obtain⟨j,y,e1,e2,e3⟩:=hq;obtain⟨y',v',f1,f2,f3⟩:=at_ j w e2;rw[e1] at f1;cases f1;exact kr I R 58 A y x v' v w u true f2 vx f3 rx e3 hu
   ·rw[@decide_eq_false _ (Classical.propDecidable _) hq];obtain⟨y,v',f1,f2,f3⟩:=at_ i w hi;obtain⟨c,hc⟩:=ZE.mp (hs y (Zn f1));cases c with
    |true=>exact absurd ⟨i,y,f1,hi,hc⟩ hq
    |false=>exact kr I R 58 A y x v' v w u false f2 vx f3 rx hc hu
  ·rw[Z1,Yn,Yn];constructor
   ·rintro⟨w,_,hw⟩;obtain⟨i,y,e1,_,e3⟩:=@of_decide_eq_true _ (Classical.propDecidable _) hw;exact⟨y,Zn e1,by rw[e3];rfl⟩
   ·rintro⟨y,hy,e⟩;obtain⟨i,hi⟩:=Ye hy;obtain⟨v',hv,_⟩:=vd.get hi;obtain⟨w,hw,_⟩:=r.get hv;exact⟨w,Zn hw,@decide_eq_true _ (Classical.propDecidable _) ⟨i,y,hi,hw,by simpa using e⟩⟩
 ·cases h
theorem Ej(hu:X.A.units+64 < cLine):OpR X (VC .In) (rS X.K (inS false)):=by
 intro pins s σ H x y v u Q I rx ry h;obtain⟨m,S,a,b,d,S',R,va,vb,e,q⟩:=h;unfold inS at e;split at e
 ·rename_i tu ds hi;obtain⟨p,vs,rfl,sq,vds⟩:=cL R vb hi;split at e
  ·rename_i hf;cases e;refine rF pins s σ H x _ v u Q I rx ry ⟨p,vs,rfl,eK sq,gP va hf.1,fh vds hf.2,q m H _ (Aft.refl R) ?_⟩;rw[if_neg (by decide),nY va hf.1 vds hf.2]
   simpa using bB
  ·cases hd:inD a ds S with
   |none=>rw[hd] at e;cases e
   |some c=>
    rw[hd] at e;cases e;cases ry;have ha:X.A.in1.units+58 < cLine:=by show X.A.units+1+58 < cLine;lia
    rcases eK sq with hq |hq
    ·obtain⟨its,r,pl,hz⟩:=I.list hq;obtain⟨e,he,hb⟩:=ky I R va rx ha vds r hd;refine WI e pl.isList (fun w hw=>he w (by simpa using hw)) ⟨.bl _,H,I,rfl,?_⟩;rw[show its.toArray.any e=its.any e by simp,hb];exact q m H _ (Aft.refl R) (by simpa using bB)
    ·obtain⟨its,r,pl,hz⟩:=I.tuple hq;obtain⟨e,he,hb⟩:=ky I R va rx ha vds r hd;refine WJ e pl (fun w hw=>he w (by simpa using hw)) ⟨.bl _,H,I,rfl,?_⟩;rw[show its.toArray.any e=its.any e by simp,hb];exact q m H _ (Aft.refl R) (by simpa using bB)
 ·cases e
theorem rZ(hu:X.A.units+64 < cLine):OpR X (VC .NotIn) (rS X.K (inS true)):=by
 intro pins s σ H x y v u Q I rx ry h;obtain⟨m,S,a,b,d,S',R,va,vb,e,q⟩:=h;unfold inS at e;split at e
 ·rename_i tu ds hi;obtain⟨p,vs,rfl,sq,vds⟩:=cL R vb hi;split at e
  ·rename_i hf;cases e;refine ka pins s σ H x _ v u Q I rx ry ⟨p,vs,rfl,eK sq,gP va hf.1,fh vds hf.2,q m H _ (Aft.refl R) ?_⟩;rw[if_pos rfl,nY va hf.1 vds hf.2]
   simpa using bB
  ·cases hd:inD a ds S with
   |none=>rw[hd] at e;cases e
   |some c=>
    rw[hd] at e;cases e;cases ry;have ha:X.A.in1.units+58 < cLine:=by show X.A.units+1+58 < cLine;lia
    rcases eK sq with hq |hq
    ·obtain⟨its,r,pl,hz⟩:=I.list hq;obtain⟨e,he,hb⟩:=ky I R va rx ha vds r hd;refine WK e pl.isList (fun w hw=>he w (by simpa using hw)) ⟨.bl _,H,I,rfl,?_⟩;rw[show its.toArray.any e=its.any e by simp,hb];exact q m H _ (Aft.refl R) (by simpa using bB)
    ·obtain⟨its,r,pl,hz⟩:=I.tuple hq;obtain⟨e,he,hb⟩:=ky I R va rx ha vds r hd;refine WL e pl (fun w hw=>he w (by simpa using hw)) ⟨.bl _,H,I,rfl,?_⟩;rw[show its.toArray.any e=its.any e by simp,hb];exact q m H _ (Aft.refl R) (by simpa using bB)
 ·cases e
theorem uQ(h:VD K m H d v):decide (v=V.non)=Cy d:=by
 cases d with
 |non=>cases h.nons;rfl
 |bl _=>cases h.bls;rfl
 |int _=>cases h.ints;rfl
 |str _=>cases h.strs;rfl
 |tup _=>obtain⟨_,_,e,_⟩:=h.tups;subst e;rfl
 |ref _=>obtain⟨_,_,e⟩:=h.refs;subst e;rfl
theorem Ek:OpR X (VC .Is) (rS X.K (isB false)):=by
 refine OpR.imp (OpR.or DQ D3) fun x y H Q h=>?_;obtain⟨m,S,a,b,d,S',R,va,vb,e,q⟩:=h;cases b with
 |non=>
  simp[isB] at e;obtain⟨rfl,rfl⟩:=e;exact .inl ⟨vb.nons,q m H _ (Aft.refl R) (by rw[uQ va];exact bB)⟩
 |bl j=>
  cases a with
  |bl i=>
   simp[isB] at e;obtain⟨rfl,rfl⟩:=e;exact .inr ⟨i,j,va.bls,vb.bls,q m H _ (Aft.refl R) bB⟩
  |_=>simp[isB] at e
 |_=>cases a <;> simp[isB] at e
theorem r8:OpR X (VC .IsNot) (rS X.K (isB true)):=by
 refine OpR.imp (OpR.or yv rO) fun x y H Q h=>?_;obtain⟨m,S,a,b,d,S',R,va,vb,e,q⟩:=h;cases b with
 |non=>
  simp[isB] at e;obtain⟨rfl,rfl⟩:=e;exact .inl ⟨vb.nons,q m H _ (Aft.refl R) (by rw[uQ va];exact bB)⟩
 |bl j=>
  cases a with
  |bl i=>
   simp[isB] at e;obtain⟨rfl,rfl⟩:=e;exact .inr ⟨i,j,va.bls,vb.bls,q m H _ (Aft.refl R) (by simpa[bne] using bB)⟩
  |_=>simp[isB] at e
 |_=>cases a <;> simp[isB] at e
theorem dU(hu:X.A.units+64 < cLine)(o:COp):OpR X (VC o.op) (rS X.K (aF o)):=by
 cases o with
 |eq=>exact Ee hu
 |ne=>exact Ef hu
 |lt=>exact cR IH
 |le=>exact cR II
 |gt=>exact cR IJ
 |ge=>exact cR IK
 |is=>exact Ek
 |isnot=>exact r8
 |isin=>exact Ej hu
 |notin=>exact rZ hu
end
section
variable {X:Cx} {K:WN} {m:List Addr} {H:Hp} {S:Sto}
noncomputable def ixS(d i:D)(S:Sto):Option (D × Sto):=match i with
 | .int k=>(match d with
  |.str z=>if z.length<=100000 then (atI z.cps.toList k).map fun c=>(.str ⟨#[c]⟩,S) else none
  | d=>(match aM d S with
   |some (_,ds)=>(atI ds k).map fun x=>(x,S)
   | none=>none))
 |_=>none
theorem El{k:Int}(h:VDs K m H ds vs)(e:atI ds k=some d):∃v,atI vs k=some v/\VD K m H d v:=by
 unfold atI at e ⊢;rw[<-h.length];cases hi:ixN ds.length k with
 |none=>rw[hi] at e;cases e
 |some j=>
  rw[hi] at e;exact h.get e
theorem uR{k:Int}(sq:SqB K tu H a vs)(vd:VDs K m H ds vs)(e:atI ds k=some d)(q:∀v,VD K m H d v->Q v H):rIx K (.ref a) (.int k) H Q:=by
 obtain⟨v,ev,vv⟩:=El vd e;cases tu with
 |false=>exact .inl ⟨a,vs,k,v,rfl,rfl,sq,ev,q v vv⟩
 |true=>exact .inr (.inl ⟨a,vs,k,v,rfl,rfl,.of sq,ev,q v vv⟩)
theorem LJ:IxR X (rS X.K ixS):=by
 intro value slice pins s σ H x y v u Q I rx ry h hs;refine um value slice pins s σ H x y v u Q I rx ry ?_ hs;obtain⟨m,S,a,b,d,S',R,va,vb,e,q⟩:=h;cases b with
 |int k=>
  cases vb.ints
  have main:∀r,aM a S=some r->(atI r.2 k).map (fun x=>(x,S))=some (d,S')->rIx X.K x (.int k) H Q:=by
   intro r hi e;cases ha:atI r.2 k with
   |none=>rw[ha] at e;cases e
   |some z=>
    rw[ha] at e;cases e;obtain⟨p,vs,rfl,sq,vds⟩:=cL (tu:=r.1) (ds:=r.2) R va hi;exact uR sq vds ha fun v vv=>q m H v (Aft.refl R) vv
  cases a with
  |str z=>
   simp only[ixS] at e;split at e
   ·rename_i hl;cases hc:atI z.cps.toList k with
    |none=>rw[hc] at e;cases e
    |some c=>
     rw[hc] at e;cases e;exact .inr (.inr ⟨z,k,c,va.strs,rfl,by rw[Uc];lia,hc,q m H _ (Aft.refl R) eJ⟩)
   ·cases e
  |tup ds=>exact main (true,ds) rfl e
  |ref n=>
   simp only[ixS] at e;cases hi:aM (.ref n) S with
   |none=>rw[hi] at e;cases e
   |some r=>rw[hi] at e;exact main r hi e
  |_=>simp[ixS,aM] at e
 |_=>simp[ixS] at e
noncomputable def nZ(x:XA)(y:XE):XE:=fun ρ S=>bnd (x ρ S) fun ds S1=>bnd (y ρ S1) fun i S2=>match i with
 |.int k=>(atI ds k).map fun d=>(d,S2)
 |_=>none
theorem Em(h:tE K (nZ x y) σ H Q):tOp (rIx K) (cK K x) (tE K y) σ H Q:=by
 obtain⟨m,ρ,S,d,S',E,R,e,q⟩:=h;obtain⟨ds,S1,e1,e⟩:=aa e;obtain⟨i,S2,e2,e⟩:=aa e;refine⟨m,ρ,S,ds,S1,E,R,e1,fun m1 H1 a vs A1 sq n1 n2 n3 vd=>⟨m1,ρ,S1,i,S2,E.mono R A1.ext,A1.rel,e2,fun m2 H2 w A2 vb=>?_⟩⟩;cases i with
 |int k=>
  cases vb.ints;dsimp only at e;cases ha:atI ds k with
  |none=>rw[ha] at e;cases e
  |some z=>
   rw[ha] at e;cases e;exact uR (tu:=false) (show SqL K H2 a vs from SqL.of (A2.ext.keep _ _ sq n1)) (vd.mono A1.rel A2.ext) ha fun v vv=>q m2 H2 v (A1.trans A2) vv
 |_=>cases e
noncomputable def nS(ds:List D)(lo hi:Option Int):List D:=(ds.drop (HT.sIx ds.length 0 lo)).take (HT.sIx ds.length ds.length hi - HT.sIx ds.length 0 lo)
theorem n9(h:VDs K m H ds vs)(lo hi:Option Int):VDs K m H (nS ds lo hi) (hX vs lo hi):=by
 unfold nS hX;rw[<-h.length];exact(h.drop _).take _
noncomputable def slS(lo hi:Option Int)(d:D)(S:Sto):Option (D × Sto):=match d with
 |.tup ds=>some (.tup (nS ds lo hi),S)
 | .ref n=>(match ai S n with
  |some ds=>some (.ref S.length,S++[.lst (nS ds lo hi)])
  | none=>none)
 |_=>none
def rSl(K:WN):V->Option Int->Option Int->Hp->VK->Prop:=fun v lo hi H Q=>∃m S a d S',Rel K m S H/\VD K m H a v/\slS lo hi a S=some (d,S')/\∀m' H' u,Aft K m H S' m' H'->VD K m' H' d u->Q u H'
theorem og{vs:List V}{lo hi:Option Int}(h:HT.sIx vs.length 0 lo=0/\HT.sIx vs.length vs.length hi=vs.length):hX vs lo hi=vs:=by
 unfold hX;rw[h.1,h.2];simp
theorem LK:SlR X (rSl X.K):=by
 intro pins s σ H x v vl vu lo hi sl Q I rx hs pl pu h;refine(SlR.or yV yI) pins s σ H x v vl vu lo hi sl Q I rx hs pl pu ?_;obtain⟨m,S,a,d,S',R,va,e,q⟩:=h;cases a with
 |tup ds=>
  cases e;obtain⟨p,vs,rfl,sq,vds⟩:=va.tups;refine .inl ⟨p,vs,rfl,.of sq,fun hw=>?_,fun _=>fe R (n9 vds lo hi) q⟩;have:=n9 vds lo hi;rw[og hw] at this;exact q m H _ (Aft.refl R) (im sq this)
 |ref n=>
  simp only[slS] at e;cases hn:ai S n with
  |none=>rw[hn] at e;cases e
  |some ds=>
   rw[hn] at e;cases e;obtain⟨p,vs,hp,sq,vds⟩:=R.seq hn;obtain⟨p',hp',rfl⟩:=va.refs;rw[hp] at hp';cases hp';exact .inr ⟨p,vs,rfl,sq,ko R (n9 vds lo hi) q⟩
 |_=>cases e
abbrev XO:=Rho->Sto->Option (Option Int × Sto)
def tOI(K:WN)(x:XO):TO:=fun σ H Q=>∃m ρ S o S',EnvR K m H ρ σ/\Rel K m S H/\x ρ S=some (o,S')/\∀m' H',Aft K m H S' m' H'->Q o H'
noncomputable def oh:XO:=fun _ S=>some (none,S)
noncomputable def oi(x:XE):XO:=fun ρ S=>bnd (x ρ S) fun d S1=>match d with
 |.int i=>some (some i,S1)
 |_=>none
theorem zg(h:tOI K oh σ H Q):pY σ H Q:=by
 obtain⟨m,ρ,S,o,S',E,R,e,q⟩:=h;cases e;exact q m H (Aft.refl R)
theorem zh(h:tOI K (oi x) σ H Q):Ct (tE K x) σ H Q:=by
 obtain⟨m,ρ,S,o,S',E,R,e,q⟩:=h;obtain⟨d,S1,e1,e⟩:=aa e;refine⟨m,ρ,S,d,S1,E,R,e1,fun m1 H1 v A1 vd=>?_⟩;cases d with
 |int i=>cases e;exact⟨i,vd.ints,q m1 H1 A1⟩
 |_=>cases e
theorem PO.imp(h:PO X e t)(f:∀σ H Q,t' σ H Q->t σ H Q):PO X e t':=fun pins s σ H Q I q=>h pins s σ H Q I (f σ H Q q)
noncomputable def xSl(x:XE)(lo hi:XO):XE:=fun ρ S=>bnd (x ρ S) fun d S1=>bnd (lo ρ S1) fun l S2=>bnd (hi ρ S2) fun h S3=>slS l h d S3
theorem Jh{x:XE}{lo hi:XO}{σ:L2.St}{H:Hp}{Q:VK}(h:tE K (xSl x lo hi) σ H Q):tSl (rSl K) (tE K x) (tOI K lo) (tOI K hi) σ H Q:=by
 obtain⟨m,ρ,S,d,S',E,R,e,q⟩:=h;obtain⟨a,S1,e1,e⟩:=aa e;obtain⟨l,S2,e2,e⟩:=aa e;obtain⟨u,S3,e3,e⟩:=aa e;refine⟨m,ρ,S,a,S1,E,R,e1,fun m1 H1 v A1 vd=>⟨m1,ρ,S1,l,S2,E.mono R A1.ext,A1.rel,e2,fun m2 H2 A2=>⟨m2,ρ,S2,u,S3,E.mono R (A1.trans A2).ext,A2.rel,e3,fun m3 H3 A3=>?_⟩⟩⟩;exact⟨m3,S3,a,d,S',A3.rel,vd.mono A1.rel (A2.trans A3).ext,e,fun m4 H4 w A4 vw=>q m4 H4 w (((A1.trans A2).trans A3).trans A4) vw⟩
noncomputable def kz(d:D)(S:Sto):Option (Bool × Sto):=match d with
 |.non=>some (false,S)
 |.bl b=>some (b,S)
 |.int i=>some (i != 0,S)
 |.str y=>if y.length<=100000 then some ((y.length:Int) != 0,S) else none
 |.tup ds=>some (!ds.isEmpty,S)
 | .ref n=>(match ai S n with
  |some ds=>some (!ds.isEmpty,S)
  | none=>none)
theorem iq(h:VDs K m H ds vs):ds.isEmpty=vs.isEmpty:=by
 have:=h.length;cases ds <;> cases vs <;> simp at this ⊢
theorem En(R:Rel K m S H)(vd:VD K m H d v)(e:kz d S=some (b,S')):S'=S/\yx K v H b:=by
 cases d with
 |non=>cases e;cases vd.nons;exact⟨rfl,rfl⟩
 |bl _=>cases e;cases vd.bls;exact⟨rfl,rfl⟩
 |int _=>cases e;cases vd.ints;exact⟨rfl,rfl⟩
 |str y=>
  simp only[kz] at e;split at e
  ·rename_i hl;cases e;cases vd.strs;exact⟨rfl,by rw[Uc];lia,rfl⟩
  ·cases e
 |tup ds=>
  cases e;obtain⟨a,vs,rfl,sq,vds⟩:=vd.tups;exact⟨rfl,.inr (.inl ⟨vs,.of sq,by rw[iq vds]⟩)⟩
 |ref n=>
  simp only[kz] at e;cases hn:ai S n with
  |none=>rw[hn] at e;cases e
  |some ds=>
   rw[hn] at e;cases e;obtain⟨p,vs,hp,sq,vds⟩:=R.seq hn;obtain⟨p',hp',rfl⟩:=vd.refs;rw[hp] at hp';cases hp';exact⟨rfl,.inl ⟨vs,sq,by rw[iq vds]⟩⟩
noncomputable def zi(x:XE):XT:=fun ρ S=>bnd (x ρ S) fun d S1=>kz d S1
theorem Eo(h:tT K (zi x) σ H Q):(tE K x) σ H fun v H'=>∃k,yx K v H' k/\Q k H':=by
 obtain⟨m,ρ,S,b,S',E,R,e,q⟩:=h;obtain⟨d,S1,e1,e⟩:=aa e;refine⟨m,ρ,S,d,S1,E,R,e1,fun m1 H1 v A1 vd=>?_⟩;obtain⟨rfl,t⟩:=En A1.rel vd e;exact⟨b,t,q m1 H1 A1⟩
noncomputable def xB(x:XE):XT:=fun ρ S=>bnd (x ρ S) fun d S1=>match d with
 |.bl b=>some (b,S1)
 |_=>none
theorem Ji(h:tT K (xB x) σ H Q):(tE K x) σ H fun v H'=>∃k,v = .bl k/\Q k H':=by
 obtain⟨m,ρ,S,b,S',E,R,e,q⟩:=h;obtain⟨d,S1,e1,e⟩:=aa e;refine⟨m,ρ,S,d,S1,E,R,e1,fun m1 H1 v A1 vd=>?_⟩;cases d with
 |bl k=>cases e;exact⟨b,vd.bls,q m1 H1 A1⟩
 |_=>cases e
noncomputable def ir(_:Bool)(ds:List D)(S:Sto):Option (D × Sto):=some (.int ds.length,S)
noncomputable def lP(_:Bool)(ds:List D)(S:Sto):Option (D × Sto):=some (.tup ds,S)
noncomputable def zj:D->Bool
 |.bl _=>true
 |_=>false
noncomputable def kA:D->Bool
 |.bl b=>b
 |_=>false
noncomputable def lQ(tu:Bool)(ds:List D)(S:Sto):Option (D × Sto):=if tu=false/\ds.all zj=true then some (.bl (ds.all kA),S) else none
noncomputable def lR(tu:Bool)(ds:List D)(S:Sto):Option (D × Sto):=if tu=false/\ds.all zj=true then some (.bl (ds.any kA),S) else none
def r1(r:V->Hp->VK->Prop):List V->Hp->VK->Prop
 |[x],H,Q=>r x H Q
 |_,_,_=>False
theorem bz(h:r1 r xs H Q):∃x,xs=[x]/\r x H Q:=by
 match xs,h with
 |[x],h=>exact⟨x,rfl,h⟩
theorem r9:au X (.builtin "len") (r1 (rSq X.K ir)):=by
 refine au.imp kc fun xs H Q h=>?_;obtain⟨_,rfl,m,S,tu,ds,a,vs,d,S',R,rfl,sq,vd,e,q⟩:=bz h;cases e;exact⟨a,vs,rfl,eK sq,q m H _ (Aft.refl R) (by rw[vd.length];exact aQ)⟩
theorem sd:au X (.type "tuple") (r1 (rSq X.K lP)):=by
 refine au.imp jf fun xs H Q h=>?_;obtain⟨_,rfl,m,S,tu,ds,a,vs,d,S',R,rfl,sq,vd,e,q⟩:=bz h;cases e;cases tu with
 |false=>exact⟨a,vs,rfl,.inl ⟨sq,fe R vd q⟩⟩
 |true=>exact⟨a,vs,rfl,.inr ⟨.of sq,q m H _ (Aft.refl R) (im sq vd)⟩⟩
theorem oj:∀ {ds:List D} {vs:List V},VDs K m H ds vs->ds.all zj=true->vs=(ds.map kA).map V.bl
 |[],vs,h,_=>by rw[VDs] at h;rw[h];rfl
 |d::ds,vs,h,f=>by
  rw[VDs] at h;obtain⟨x,r,rfl,p,q⟩:=h;rw[ZW,bAE] at f;cases d with
  |bl b=>rw[p.bls,oj q f.2];rfl
  |_=>simp[zj] at f
theorem Ep(ds:List D):(ds.map kA).all id=ds.all kA:=by rw[Xc];rfl
theorem Er(ds:List D):(ds.map kA).any id=ds.any kA:=by rw[List.any_map];rfl
theorem se(hc:X.calm=true):au X (.builtin "all") (r1 (rSq X.K lQ)):=by
 refine au.imp (rL hc) fun xs H Q h=>?_;obtain⟨_,rfl,m,S,tu,ds,a,vs,d,S',R,rfl,sq,vd,e,q⟩:=bz h;unfold lQ at e;split at e
 ·rename_i hf;cases e;obtain⟨rfl,hf⟩:=hf;refine⟨a,ds.map kA,rfl,?_,q m H _ (Aft.refl R) (by rw[Ep];exact bB)⟩;rw[<-oj vd hf];exact sq
 ·cases e
theorem sg(hc:X.calm=true):au X (.builtin "any") (r1 (rSq X.K lR)):=by
 refine au.imp (rN hc) fun xs H Q h=>?_;obtain⟨_,rfl,m,S,tu,ds,a,vs,d,S',R,rfl,sq,vd,e,q⟩:=bz h;unfold lR at e;split at e
 ·rename_i hf;cases e;obtain⟨rfl,hf⟩:=hf;refine⟨a,ds.map kA,rfl,?_,q m H _ (Aft.refl R) (by rw[Er];exact bB)⟩;rw[<-oj vd hf];exact sq
 ·cases e
def rTm(K:WN)(f:Bool->List D->Option (List D)):V->Hp->VK->Prop:=fun v H Q=>∃m S tu ds a vs es,Rel K m S H/\v = .ref a/\SqB K tu H a vs/\VDs K m H ds vs/\f tu ds=some es ∧
 ∀m' H' p ws,Aft K m H S m' H'->H' p=some (.lst ws)->p ∉ m'->(∀b,b ∈ m->b ≠ p)->H p=none->VDs K m' H' es ws->Q (.ref p) H'
theorem iu:au X (.type "list") (r1 (rTm X.K fun _ ds=>some ds)):=by
 refine au.imp kf fun xs H Q h=>?_;obtain⟨_,rfl,m,S,tu,ds,a,vs,es,R,rfl,sq,vd,e,q⟩:=bz h;cases e;exact⟨a,vs,rfl,eK sq,gO R vd q⟩
noncomputable def uS:D->D->Sto->Option (D × Sto)
 |.int i,.int j,S=>some (.int (if j > i then j else i),S)
 |_,_,_=>none
noncomputable def uT:D->D->Sto->Option (D × Sto)
 |.int i,.int j,S=>some (.int (if j < i then j else i),S)
 |_,_,_=>none
noncomputable def two(f:D->D->Sto->Option (D × Sto)):List D->Sto->Option (D × Sto)
 |[a,b],S=>f a b S
 |_,_=>none
theorem kB(h:VDs K m H [a,b] vs):∃v w,vs=[v,w]/\VD K m H a v/\VD K m H b w:=by
 rw[VDs] at h;obtain⟨v,r,rfl,p,q⟩:=h;rw[VDs] at q;obtain⟨w,r',rfl,p',q'⟩:=q;rw[VDs] at q';subst q';exact⟨v,w,rfl,p,p'⟩
theorem uU(h:VDs K m H [a] vs):∃v,vs=[v]/\VD K m H a v:=by
 rw[VDs] at h;obtain⟨v,r,rfl,p,q⟩:=h;rw[VDs] at q;subst q;exact⟨v,rfl,p⟩
theorem lS(h:two f as S=some r):∃a b,as=[a,b]/\f a b S=some r:=by
 match as,h with
 |[a,b],h=>exact⟨a,b,rfl,h⟩
theorem om(hc:X.calm=true):au X (.builtin "max") (rSA X.K (two uS)):=by
 refine au.imp (rA hc) fun xs H Q h=>?_;obtain⟨m,S,as,d,S',R,vd,e,q⟩:=h;obtain⟨a,b,rfl,e2⟩:=lS e;obtain⟨v,w,rfl,p,p'⟩:=kB vd;cases a <;> cases b <;> simp[uS] at e2;obtain⟨rfl,rfl⟩:=e2;exact⟨_,_,by rw[p.ints,p'.ints],q m H _ (Aft.refl R) aQ⟩
theorem oo(hc:X.calm=true):au X (.builtin "min") (rSA X.K (two uT)):=by
 refine au.imp (rB hc) fun xs H Q h=>?_;obtain⟨m,S,as,d,S',R,vd,e,q⟩:=h;obtain⟨a,b,rfl,e2⟩:=lS e;obtain⟨v,w,rfl,p,p'⟩:=kB vd;cases a <;> cases b <;> simp[uT] at e2;obtain⟨rfl,rfl⟩:=e2;exact⟨_,_,by rw[p.ints,p'.ints],q m H _ (Aft.refl R) aQ⟩
inductive Ty where |int |bool |tuple |list |str
noncomputable def Ty.nm:Ty->String
 |.int => "int" |.bool => "bool" |.tuple => "tuple" |.list => "list" |.str => "str"
noncomputable def tyN(d:D)(S:Sto):Option String:=match d with
 |.non=>some "NoneType" |.bl _=>some "bool" |.int _=>some "int" |.str _=>some "str" |.tup _=>some "tuple"
 | .ref n=>(match S[n]? with
  |some (.lst _)=>some "list"
  |some (.frz _)=>some "list"
  |some (.dic _ _)=>some "dict"
  | none=>none)
noncomputable def fj(t:Ty)(n:String):Bool:=n == t.nm || (match t with |.int=>n == "bool" |_=>false)
noncomputable def lU(t:Ty)(d:D)(S:Sto):Option (D × Sto):=(tyN d S).map fun n=>(.bl (fj t n),S)
theorem zk(K:WN)(t:Ty):(W5 K (.type "NoneType") (.type t.nm)=some (fj t "NoneType"))/\(W5 K (.type "bool") (.type t.nm)=some (fj t "bool"))/\(W5 K (.type "int") (.type t.nm)=some (fj t "int")) ∧
  (W5 K (.type "str") (.type t.nm)=some (fj t "str"))/\(W5 K (.type "tuple") (.type t.nm)=some (fj t "tuple"))/\(W5 K (.type "list") (.type t.nm)=some (fj t "list"))/\(W5 K (.type "dict") (.type t.nm)=some (fj t "dict")):=by
 cases t <;> exact⟨by kernel_rfl,by kernel_rfl,by kernel_rfl,by kernel_rfl,by kernel_rfl,by kernel_rfl,by kernel_rfl⟩
theorem Jj(R:Rel K m S H)(vd:VD K m H d v)(e:tyN d S=some n):TyOf K H v (.type n):=by
 cases d with
 |non=>cases e;cases vd.nons;exact .non
 |bl _=>cases e;cases vd.bls;exact .bl _
 |int _=>cases e;cases vd.ints;exact .int _
 |str _=>cases e;cases vd.strs;exact .str _
 |tup ds=>cases e;obtain⟨a,vs,rfl,sq,_⟩:=vd.tups;exact .tup sq
 |ref k=>
  simp only[tyN] at e;obtain⟨a,ha,rfl⟩:=vd.refs;cases hk:S[k]? with
  |none=>rw[hk] at e;cases e
  |some o=>
   rw[hk] at e;obtain⟨a',ha',r⟩:=R.ob k o hk;rw[ha] at ha';cases ha';cases o with
   |lst ds=>cases e;obtain⟨vs,h,_⟩:=r;exact .lst h
   |frz ds=>cases e;obtain⟨o,vs,h,_⟩:=r;exact .frz h
   |dic ks ds=>cases e;obtain⟨vs,h,_⟩:=r;exact .dK h
theorem uV(e:tyN d S=some n):n = "NoneType"\/n = "bool"\/n = "int"\/n = "str"\/n = "tuple"\/n = "list"\/n = "dict" := by
 cases d with
 |ref k=>
  simp only[tyN] at e;cases hk:S[k]? with
  |none=>rw[hk] at e;cases e
  |some o=>rw[hk] at e;cases o <;> cases e <;> simp
 |_=>cases e <;> simp
theorem Es(K:WN)(t:Ty)(h:n = "NoneType"\/n = "bool"\/n = "int"\/n = "str"\/n = "tuple"\/n = "list"\/n = "dict"):W5 K (.type n) (.type t.nm)=some (fj t n):=by
 obtain⟨a,b,c,d,e,f,g⟩:=zk K t;rcases h with rfl |rfl |rfl |rfl |rfl |rfl |rfl <;> assumption
def Jk(K:WN)(t:Ty)(te:TE):TE:=tCB (Cw K) (bK te (bK (tC (.ty t.nm)) eY))
theorem zl(h:tE K (xUn (lU t) x) σ H Q):Jk K t (tE K x) σ H Q:=by
 obtain⟨m,ρ,S,d,S',E,R,e,q⟩:=h;obtain⟨a,S1,e1,e⟩:=aa e;refine⟨m,ρ,S,a,S1,E,R,e1,fun m1 H1 v A1 va=>?_⟩;unfold lU at e;cases hn:tyN a S1 with
 |none=>rw[hn] at e;cases e
 |some n=>
  rw[hn] at e;cases e;exact⟨v,t.nm,_,_,rfl,Jj A1.rel va hn,Es K t (uV hn),q m1 H1 _ A1 bB⟩
end
end Ev
namespace Ev
open PySem PySem.Spec PyProof.Rows L2
open PySem.W (KasT kas_sort kas_asc kas_desc kas_tail3 kas_descPart kas_count kas_place kas_bin kas_rev kas_ask KatTups)
noncomputable def d9{α:Type}(lt:Nat->Nat->Bool):KasT α->α
 |.ret a=>a
 |.ask i j k=>d9 lt (k (lt i j))
def KT{α:Type}(n:Nat)(P:α->Prop):KasT α->Prop
 |.ret a=>P a
 |.ask i j k=>i < n/\j < n/\∀b,KT n P (k b)
theorem KT.bind{α β:Type}{n:Nat}{P:α->Prop}{R:β->Prop}{f:α->KasT β}(hf:∀a,P a->KT n R (f a)):∀ {t:KasT α},KT n P t->KT n R (t.bind f)
 |.ret a,h=>hf a h
 |.ask i j k,h=>⟨h.1,h.2.1,fun b=>KT.bind hf (h.2.2 b)⟩
theorem KT.run{α:Type}{n:Nat}{P:α->Prop}{lt:Nat->Nat->Bool}:∀ {t:KasT α},KT n P t->P (d9 lt t)
 |.ret a,h=>h
 |.ask i j k,h=>KT.run (t:=k (lt i j)) (h.2.2 (lt i j))
theorem lV{α:Type}{n:Nat}{P:α->Prop}{lt:Nat->Nat->Bool}{cmp:Nat->Nat->(Bool->Shared->Prop)->Shared->Prop}{s:Shared}(hc:∀i j,i < n->j < n->∀C:Bool->Shared->Prop,C (lt i j) s->cmp i j C s){Q:α->Shared->Prop} :
  ∀ {t:KasT α},KT n P t->Q (d9 lt t) s->t.kasWp cmp Q s
 |.ret a,_,q=>q
 |.ask i j k,h,q=>hc i j h.1 h.2.1 _ (lV hc (h.2.2 (lt i j)) q)
def Pm(n:Nat)(p:Array Nat):Prop:=p.Perm (YQ (ZI n))
theorem Pm.at{n i:Nat}(h:Pm n p)(hn:0 < n):p.getD i 0 < n:=by
 by_cases hi:i < p.size
 ·have e:p.getD i 0=p[i]:=by simp[Array.getD,hi]
  rw[e];have hm:p[i] ∈ p:=Array.getElem_mem hi;have:=h.mem_iff.mp hm
  simpa using this
 ·have e:p.getD i 0=0:=by simp[Array.getD,hi]
  omega
theorem Pm.rev{n i j:Nat}(h:Pm n p):Pm n (kas_rev p i j):=(mirror_perm p i j _).trans h
theorem oq{n:Nat}(h:Pm n p)(hn:0 < n):∀f m,KT n (fun _=>True) (kas_asc p f m)
 |0,_=>trivial
 | f+1,m=>⟨h.at hn,h.at hn,fun b=>by
  cases b with
  |true=>exact trivial
  | false=>exact oq h hn f (m+1)⟩
theorem gQ{n:Nat}(hn:0 < n):∀f (p:Array Nat) m q,Pm n p->KT n (fun r:Array Nat × Nat × Nat=>Pm n r.1) (kas_desc f p m q)
 |0,p,m,q,h=>h
 | f+1,p,m,q,h=>⟨h.at hn,h.at hn,fun b=>by
  cases b with
  |true=>
   show KT n _ (if q > 0 then kas_desc f (kas_rev p (m - (q+1)) m) (m+1) 0 else kas_desc f p (m+1) 0);split
   ·exact gQ hn f _ _ _ h.rev
   ·exact gQ hn f _ _ _ h
  | false=>exact⟨h.at hn,h.at hn,fun d=>by
   cases d with
   |true=>exact h
   | false=>exact gQ hn f _ _ _ h⟩⟩
theorem lW{n:Nat}{p:Array Nat}(hn:0 < n)(h:Pm n p)(m r:Nat):KT n (fun r:Nat × Array Nat=>Pm n r.2) (kas_tail3 m r p):=KT.bind (P:=fun _=>True) (f:=fun m=>KasT.ret (m,kas_rev p 0 _)) (fun _ _=>(show KT n (fun r:Nat × Array Nat=>Pm n r.2) (KasT.ret (_,kas_rev p 0 _)) from h.rev)) (oq h.rev hn _ _)
theorem gq{n:Nat}{p:Array Nat}(hn:0 < n)(h:Pm n p)(m r:Nat):KT n (fun r:Nat × Array Nat=>Pm n r.2) (kas_descPart m r p):=KT.bind (fun a ha=>by
 show KT n _ (if a.2.2 > 0 then _ else _);split
 ·exact lW hn (Pm.rev ha) _ _
 ·exact lW hn ha _ _) (gQ hn _ _ _ _ h)
theorem uW{n:Nat}{p:Array Nat}(hn:0 < n)(h:Pm n p)(r:Nat):KT n (fun r:Nat × Array Nat=>Pm n r.2) (kas_count r p):=KT.bind (fun a _=>by
 show KT n _ (if (a == r)=true then _ else if a > 1 then _ else _);split
 ·exact h
 ·split
  ·exact⟨h.at hn,h.at hn,fun b=>by
    cases b with
    |true=>exact h
    | false=>exact gq hn h.rev _ _⟩
  ·exact gq hn h _ _) (oq h hn _ _)
theorem iy{n:Nat}{p:Array Nat}(hn:0 < n)(h:Pm n p)(m:Nat):∀f l r,KT n (fun _=>True) (kas_place p m f l r)
 |0,_,_=>trivial
 |f+1,l,r=>by
  show KT n _ (if l ≥ r then _ else _);split
  ·exact trivial
  ·exact⟨h.at hn,h.at hn,fun b=>by
    cases b with
    |true=>exact iy hn h m f _ _
    | false=>exact iy hn h m f _ _⟩
theorem uX{n:Nat}(hn:0 < n):∀f (p:Array Nat) m,Pm n p->KT n (Pm n) (kas_bin f p m)
 |0,p,_,h=>h
 |f+1,p,m,h=>KT.bind (fun l _=>uX hn f _ _ ((bubble_perm p m _).trans h)) (iy hn h m _ _ _)
theorem p9{n:Nat}(hn:0 < n):KT n (Pm n) (kas_sort n):=KT.bind (fun r hr=>by
 show KT n _ (if r.1 < n then _ else _);split
 ·exact uX hn _ _ _ hr
 ·exact hr) (uW hn (Array.Perm.refl _) n)
section
variable {prog:Program} {w:World} {A:Around} {E:Value->Shared->Prop} {s:Shared}
theorem kC{a:Addr}{vs:List Value}{n:Nat}{P:PySem.Fin->Shared->Prop}(ho:s.heap.get? a=some (seqObj "list" vs.toArray n))(h64:vs.length < 64)(κ:SortKind)(lt:Nat->Nat->Bool)
  (hk:2<=vs.length->∀ (Q:SortKind->Shared->Prop),Q κ { s with heap:=((s.heap.update a (Obj.mapSeq fun _=>#[])).push (seqObj "tuple" vs.toArray 0)).push (seqObj "list" #[] 0) }->wpAny (model prog w) A (keyKind' vs.toArray) Q E { s with heap:=((s.heap.update a (Obj.mapSeq fun _=>#[])).push (seqObj "tuple" vs.toArray 0)).push (seqObj "list" #[] 0) })
  (hlt:∀i j,i < vs.length->j < vs.length->∀C:Bool->Shared->Prop,C (lt i j) { s with heap:=((s.heap.update a (Obj.mapSeq fun _=>#[])).push (seqObj "tuple" vs.toArray 0)).push (seqObj "list" #[] 0) } ->
   kas_ask prog w A κ vs i j C { s with heap:=((s.heap.update a (Obj.mapSeq fun _=>#[])).push (seqObj "tuple" vs.toArray 0)).push (seqObj "list" #[] 0) })
  (h:P (.done (.ret .none)) { s with heap:=sortedHeap s.heap a vs (if vs.length < 2 then vs.toArray else YQ ((d9 lt (kas_sort vs.length)).toList.map fun i=>vs.getD i Value.none)) }) :
  wpAny (model prog w) A (Builtin.«list.sort» ⟨[.ref a],[]⟩) P E s:=by
 rw[list_sort_plain];have ha:a < s.heap.objs.size:=Zj ho;refine Ur (listItems_at ho rfl ?_);refine Ur (listUpdate_at ho rfl ?_);obtain⟨e1,ho1⟩:∃e1,(s.heap.update a (Obj.mapSeq fun _=>#[])).get? a=some (seqObj "list" #[] e1):=⟨_,get?_update_seq ho (fun _=>#[])⟩;refine Ur (seqEpoch_at ho1 rfl ?_);refine Ur (wpAny_newTuple ?_);refine Ur (wpAny_newList ?_);refine UB ?_
 have ho6:(((s.heap.update a (Obj.mapSeq fun _=>#[])).push (seqObj "tuple" vs.toArray 0)).push (seqObj "list" #[] 0)).get? a=some (seqObj "list" #[] e1):=by
  rw[YE _ _ _ (by rw[size_push',YM];exact Zl (YF ha)),YE _ _ _ (by rw[YM];exact Zl ha)];exact ho1
 show wpAny (model prog w) A _ P E { s with heap:=((s.heap.update a (Obj.mapSeq fun _=>#[])).push (seqObj "tuple" vs.toArray 0)).push (seqObj "list" #[] 0) };dsimp only;have hsz:vs.toArray.size=vs.length:=by simp
 by_cases h2:vs.toArray.size < 2
 ·rw[if_pos h2,if_pos h2];refine Ur (UO ?_);rw[StateT.run_pure];refine Ur (UO ?_);dsimp only;refine Ur (seqEpoch_at ho6 rfl ?_);refine Ur (listUpdate_at ho6 rfl ?_ (hsz2:=by rw[Array.size_map];show(pairsOf vs).size<=_;rw[pairsOf_size,Uc];omega));simp only[bne_self_eq_false,ZM,if_false];rw[if_pos (by rw[<-hsz];exact h2)] at h
  have e:Array.map (fun x:Keyed=>x.2) (vs.toArray.zip vs.toArray)=vs.toArray:=by
   apply Array.toList_inj.mp;rw[Array.toList_map,Array.toList_zip,List.map_snd_zip (by simp)]
  refine UO ?_;show P _ { s with heap:=sortedHeap s.heap a vs (Array.map (fun x:Keyed=>x.2) (vs.toArray.zip vs.toArray)) };rw[e];exact h
 ·have h2':2<=vs.length:=by omega
  rw[if_neg h2,if_neg h2];rw[if_neg (by omega)] at h;refine Ur (hk h2' _ ?_)
  refine Ur (UI (PySem.W.kat_run (κ:=κ) (ks:=vs) (Q:=fun st' s'=>s'={ s with heap:=((s.heap.update a (Obj.mapSeq fun _=>#[])).push (seqObj "tuple" vs.toArray 0)).push (seqObj "list" #[] 0) }/\arrOf st'=(d9 lt (kas_sort vs.length)).map (PySem.W.kas_item (vs.toArray.zip vs.toArray))/\(d9 lt (kas_sort vs.length)).size=vs.length/\failedOf st'=none)
   (G:=fun p s'=>s'={ s with heap:=((s.heap.update a (Obj.mapSeq fun _=>#[])).push (seqObj "tuple" vs.toArray 0)).push (seqObj "list" #[] 0) }/\p=d9 lt (kas_sort vs.length)) rfl h2' h64 (fun p st' s' a1 a2 a3 a4=>⟨a4.1,a4.2 ▸ a2,a4.2 ▸ a1,a3⟩) (lV hlt (p9 (by omega)) ⟨rfl,rfl⟩)) ?_ fun _ _ e=>e)
  rintro⟨⟨⟩,st'⟩ s' ⟨rfl,har,hsz',hf⟩;dsimp only;have hout:=PySem.W.kat_snds rfl har;refine Ur (seqEpoch_at ho6 rfl ?_);rw[hout];refine Ur (listUpdate_at ho6 rfl ?_ (hsz2:=by rw[Zc,Ze,Zt,hsz',Uc];omega));rw[hf];simp only[bne_self_eq_false,ZM,if_false];exact UO h
end
section
variable {prog:Program} {w:World} {A:Around} {E:Value->Shared->Prop} {s:Shared}
theorem si(hl:s.heap.IsList l vs.toArray)(h64:vs.length < 64)(κ:SortKind)(lt:Nat->Nat->Bool)
  (hk:2<=vs.length->∀ (A:Around) (s':Shared),(∀b o,s.heap.get? b=some o->s'.heap.get? b=some o)->∀ (E:Value->Shared->Prop) (Q:SortKind->Shared->Prop),Q κ s'->wpAny (model prog w) A (keyKind' vs.toArray) Q E s')
  (hlt:∀ (A:Around) (s':Shared),(∀b o,s.heap.get? b=some o->s'.heap.get? b=some o)->∀i j,i < vs.length->j < vs.length->∀C:Bool->Shared->Prop,C (lt i j) s'->kas_ask prog w A κ vs i j C s')
  (h:Q (.ref (s.heap.objs.size+1)) { s with heap:=sortedAll s.heap vs (if vs.length < 2 then vs.toArray else YQ ((d9 lt (kas_sort vs.length)).toList.map fun i=>vs.getD i Value.none)) }) :
  wpAny (model prog w) A (call (.builtin "sorted") [.ref l]) Q E s:=by
 refine Calls.call_function_entry kind_sorted plain_sorted entry_sorted (args_sorted1 _) ?_;unfold Builtin.«sorted»;refine Ur (m:=checkCount "sorted" 1 1 _) (UO ?_);refine Ur (collect_list hl ?_);refine Ur (wpAny_newList ?_)
 have hsz:((s.heap.push (seqObj "list" #[] 0)).update s.heap.objs.size (Obj.mapSeq (·++vs.toArray))).objs.size=s.heap.objs.size+1:=by
  rw[YM,size_push']
 have hoL:(((s.heap.push (seqObj "list" #[] 0)).update s.heap.objs.size (Obj.mapSeq (·++vs.toArray))).push (seqObj "list" vs.toArray 0)).get? (s.heap.objs.size+1)=some (seqObj "list" vs.toArray 0):=by
  rw[<-hsz];exact Zp _ rfl
 have keep:∀b o,s.heap.get? b=some o->(((((s.heap.push (seqObj "list" #[] 0)).update s.heap.objs.size (Obj.mapSeq (·++vs.toArray))).push (seqObj "list" vs.toArray 0)).update (s.heap.objs.size+1) (Obj.mapSeq fun _=>#[])).push (seqObj "tuple" vs.toArray 0)).get? b=some o:=fun b o q=>by
  have hlt:b < s.heap.objs.size:=Zj q;refine Za _ ?_;rw[Yh _ _ _ _ (Zl (YF hlt))];refine Za _ ?_;rw[Yh _ _ _ _ (Zl hlt)];exact Za _ q
 show wpAny _ _ _ _ _ { s with heap:=((s.heap.push (seqObj "list" #[] 0)).update s.heap.objs.size (Obj.mapSeq (·++vs.toArray))).push (seqObj "list" vs.toArray 0) };rw[hsz];refine Ur (UB (Uu slot_list_sort ⟨_,hoL,rfl⟩ entry_list_sort (kC hoL h64 κ lt (fun h2 Q q=>hk h2 _ _ (fun b o z=>Za _ (keep b o z)) _ Q q) (fun i j hi hj C c=>hlt _ _ (fun b o z=>Za _ (keep b o z)) i j hi hj C c) ⟨_,rfl,?_⟩) (args_list_sort _)));exact UO ⟨_,rfl,h⟩
noncomputable def ou(x y:Int × Int):Bool:=if x.1 == y.1 then (if x.2 == y.2 then false else decide (x.2 < y.2)) else decide (x.1 < y.1)
theorem uY{a b c d:Int}{n k:Nat}(hx:s.heap.get? x=some ox)(dx:ox.data = .seq #[.int a t1,.int b t2] n)(hy:s.heap.get? y=some oy)(dy:oy.data = .seq #[.int c t3,.int d t4] k)
  (h:C (ou (a,b) (c,d)) s):wpAny (model prog w) A (keyLt' (tuples' true) (.ref x) (.ref y)) C E s:=by
 refine PySem.W.kat_lt hx dx hy dy ?_;show PySem.W.KatLex prog w A true _ C [(.int a t1,.int c t3),(.int b t2,.int d t4)] 0 s;unfold ou at h;refine Ux ?_;cases h1:a == c with
 |true=>
  rw[if_pos rfl];simp only[h1,if_true] at h;refine Ux ?_;cases h2:b == d with
  |true=>rw[if_pos rfl];simp only[h2,if_true] at h;exact h
  |false=>
   rw[if_neg Zb];simp only[h2,ZM,if_false] at h;exact PySem.W.kat_one _ _ (lt_int h)
 |false=>
  rw[if_neg Zb];simp only[h1,ZM,if_false] at h;exact oneLt_int h
end
end Ev
namespace Ev
open PySem PySem.Spec PyProof.Rows L2
open PySem.W (kas_sort KatTups)
section
variable {X:Cx} {K:WN} {m:List Addr} {H:Hp} {S:Sto}
inductive PairsV(H:Hp):List V->List (Int × Int)->Prop where
 |nil:PairsV H [] []
 |cons {r:Addr} {x y:Int} {vs:List V} {ps:List (Int × Int)}:H r=some (.tup [.int x,.int y])->PairsV H vs ps->PairsV H (.ref r::vs) ((x,y)::ps)
noncomputable def sj(ps:List (Int × Int))(i j:Nat):Bool:=ou (ps.getD i (0,0)) (ps.getD j (0,0))
noncomputable def dr{α:Type}(ps:List (Int × Int))(d:α)(vs:List α):List α:=if vs.length < 2 then vs else (d9 (sj ps) (kas_sort vs.length)).toList.map fun i=>vs.getD i d
theorem PairsV.len{vs:List V}{ps:List (Int × Int)}(h:PairsV H vs ps):vs.length=ps.length:=by
 induction h with
 |nil=>rfl
 |cons _ _ ih=>simp[ih]
def Cz(h:Heap)(v:Value)(q:Int × Int):Prop:=∃r o t1 t2 n,v = .ref r/\h.get? r=some o/\o.cls = .type "tuple"/\o.data = .seq #[.int q.1 t1,.int q.2 t2] n
theorem PairsV.heap{pins:List (Addr × Obj)}{s:Shared}{σ:L2.St}(I:Inv X pins σ H s){vs:List V}{ps:List (Int × Int)}(h:PairsV H vs ps):∀ {its:List Value},ax vs its->∀ (i:Nat),i < its.length->Cz s.heap (its.getD i Value.none) (ps.getD i (0,0)):=by
 induction h with
 |nil=>intro its r i hi;cases r;simp at hi
 |@cons r x y vs ps hr _ ih=>
  intro its rv i hi;cases rv with
  |@cons _ u _ us r1 r2=>
   cases i with
   |zero=>
    cases r1;obtain⟨it2,rr,⟨o,e,hc,n,hd⟩,_⟩:=I.tuple (SqT.of (K:=X.K) hr);obtain⟨a,b,rfl,⟨t1,rfl⟩,⟨t2,rfl⟩⟩:=pW rr;exact⟨r,o,t1,t2,n,rfl,e,hc,hd⟩
   |succ i=>
    have:=ih r2 i (by simpa using hi)
    simpa using this
theorem qa{h:Heap}:∀ {its:List Value} {ps:List (Int × Int)},(∀i,i < its.length->Cz h (its.getD i Value.none) (ps.getD i (0,0)))->∃fs:List Value,KatTups h its fs/\fs.length=its.length/\∀v ∈ fs,∃i t,v = .int i t
 |[],_,_=>⟨[],KatTups.nil,rfl,fun v hv=>by simp at hv⟩
 |v::its,ps,hp=>by
  obtain⟨r,o,t1,t2,n,ev,e,hc,hd⟩:=hp 0 (by simp)
  obtain⟨fs,k,hl,hi⟩:=qa (its:=its) (ps:=ps.tail) fun i hi=>by
   have:=hp (i+1) (by simpa using hi);cases ps with
   |nil=>simpa using this
   |cons _ _=>simpa using this
  have ev':v = .ref r:=by simpa using ev
  subst ev'
  exact⟨.int (ps.getD 0 (0,0)).1 t1::fs,KatTups.cons e hc hd rfl k,by simp[hl],fun w hw=>by
   rcases Zk.mp hw with rfl |hw
   ·exact⟨_,_,rfl⟩
   ·exact hi w hw⟩
theorem zm(r:ax vs its){i:Nat}(hi:i < vs.length):aq (vs.getD i .non) (its.getD i Value.none):=by
 obtain⟨u,e,ru⟩:=r.get (gEG hi);rw[Z0,Z0,gEG hi,e];exact ru
theorem jF{vs:List V}{its:List Value}(r:ax vs its):∀ (l:List Nat),(∀i ∈ l,i < vs.length)->ax (l.map fun i=>vs.getD i .non) (l.map fun i=>its.getD i Value.none)
 |[],_=>.nil
 |i::l,h=>.cons (zm r (h i Zg)) (jF r l fun j hj=>h j (Zd _ hj))
theorem ow{n:Nat}{lt:Nat->Nat->Bool}(hn:0 < n):(∀i ∈ (d9 lt (kas_sort n)).toList,i < n)/\(d9 lt (kas_sort n)).toList.length=n:=by
 have h:Pm n (d9 lt (kas_sort n)):=(p9 hn).run;refine⟨fun i hi=>?_,?_⟩
 ·have:=h.mem_iff.mp (Y1.mp hi)
  simpa using this
 ·have:=h.size_eq;rw[Zt,this];simp
theorem oz{α:Type}{ps:List (Int × Int)}{d:α}{vs:List α}:(dr ps d vs).length=vs.length:=by
 unfold dr;split
 ·rfl
 ·rw[Ze,(ow (by lia)).2]
theorem oB:au X (.builtin "sorted") (fun xs H Q=>∃a vs ps,xs=[.ref a]/\SqL X.K H a vs/\PairsV H vs ps/\vs.length < 64/\∀p,H p=none->Q (.ref p) (upd H p (.lst (dr ps .non vs)))):=by
 intro pins s σ H xs us Q I r h;obtain⟨a,vs,ps,rfl,sq,pv,h64,q⟩:=h;obtain⟨u,rfl,ru⟩:=bq r;cases ru;obtain⟨its,rv,pl,hz⟩:=I.list sq;have hlen:=rv.length;have ph:=pv.heap I rv;have hl2:=pv.len;refine si pl.isList (by lia) (tuples' true) (sj ps) (fun h2 A s' kp E Q' hq=>?_) (fun A s' kp i j hi hj C hC=>?_) ?_
 ·obtain⟨fs,kt,hf,hi⟩:=qa (h:=s'.heap) fun i hi=>by
   obtain⟨r,o,t1,t2,n,e1,e2,e3,e4⟩:=ph i hi;exact⟨r,o,t1,t2,n,e1,kp _ _ e2,e3,e4⟩
  refine PySem.W.kat_kind (T:=.type "int") kt (by lia) (fun v hv=>?_) (by decide) hq;obtain⟨i,t,rfl⟩:=hi v hv;exact PySem.W.Looks.of_pure rfl
 ·obtain⟨r1,o1,t1,t2,n1,a1,a2,a3,a4⟩:=ph i hi;obtain⟨r2,o2,t3,t4,n2,b1,b2,b3,b4⟩:=ph j hj;show wpAny _ A (keyLt' (tuples' true) (its.getD i Value.none) (its.getD j Value.none)) C _ s';rw[a1,b1];exact uY (kp _ _ a2) a4 (kp _ _ b2) b4 hC
 ·have hv:ax (dr ps .non vs) (if its.length < 2 then its else (d9 (sj ps) (kas_sort its.length)).toList.map fun i=>its.getD i Value.none):=by
   unfold dr;rw[hlen];split
   ·exact rv
   ·exact jF rv _ fun i hi=>by rw[hlen];exact(ow (by lia)).1 i hi
  have eo:(if its.length < 2 then its.toArray else YQ ((d9 (sj ps) (kas_sort its.length)).toList.map fun i=>its.getD i Value.none))=(if its.length < 2 then its else (d9 (sj ps) (kas_sort its.length)).toList.map fun i=>its.getD i Value.none).toArray:=by split <;> rfl
  rw[eo];obtain⟨e,he⟩:=sortedAll_at s.heap its (if its.length < 2 then its else (d9 (sj ps) (kas_sort its.length)).toList.map fun i=>its.getD i Value.none).toArray;exact⟨.ref (s.heap.objs.size+1),_,I.laid (t':=s.toks) (a:=s.heap.objs.size+1) (o:=.lst (dr ps .non vs)) (fun b o z=>sortedAll_old z) (ZX _) ⟨by rw[oz];exact hz,_,e,hv,he⟩,rfl,q _ (I.hok.fresh (ZX _))⟩
noncomputable def oC(x:Int):List Int->List Int
 |[]=>[x]
 |y::l=>if x<=y then x::y::l else y::oC x l
noncomputable def gr:List Int->List Int
 |[]=>[]
 |x::l=>oC x (gr l)
theorem fT(x:Int):∀l,(oC x l).Perm (x::l)
 |[]=>List.Perm.refl _
 |y::l=>by
  unfold oC;split
  ·exact List.Perm.refl _
  ·exact((fT x l).cons y).trans (List.Perm.swap x y l)
theorem eL:∀l,(gr l).Perm l
 |[]=>List.Perm.refl _
 |x::l=>(fT x (gr l)).trans ((eL l).cons x)
theorem gu(x:Int):∀l:List Int,l.Pairwise (·<=·)->(oC x l).Pairwise (·<=·)
 |[],_=>by unfold oC;simp
 |y::l,h=>by
  unfold oC;rw[Z8] at h;split
  ·rename_i c;refine Z8.mpr ⟨fun z hz=>?_,Z8.mpr h⟩;rcases Zk.mp hz with rfl |hz
   ·exact c
   ·have:=h.1 z hz;lia
  ·rename_i c;refine Z8.mpr ⟨fun z hz=>?_,gu x l h.2⟩;rcases Zk.mp ((fT x l).mem_iff.mp hz) with rfl |hz
   ·lia
   ·exact h.1 z hz
theorem fk:∀l,(gr l).Pairwise (·<=·)
 |[]=>List.Pairwise.nil
 |x::l=>gu x _ (fk l)
theorem iz:∀ {a b:List Int},a.Perm b->a.Pairwise (·<=·)->b.Pairwise (·<=·)->a=b
 |[],b,p,_,_=>(List.Perm.nil_eq p)
 |x::a,[],p,_,_=>(List.Perm.nil_eq p.symm).symm
 |x::a,y::b,p,ha,hb=>by
  rw[Z8] at ha hb
  have e:x=y:=by
   have h1:=p.mem_iff.mp (Zg (a:=x) (l:=a));have h2:=p.mem_iff.mpr (Zg (a:=y) (l:=b));rcases Zk.mp h1 with rfl |h1
   ·rfl
   ·rcases Zk.mp h2 with h2 |h2
    ·exact h2.symm
    ·have:=ha.1 y h2;have:=hb.1 x h1
     lia
  subst e;rw[iz (List.Perm.cons_inv p) ha.2 hb.2]
theorem bf:∀ {ns:List Int} {us:List Value},ax (ns.map V.int) us->IntsAre us ns
 |[],_,h=>by cases h;exact .nil
 |n::ns,_,h=>by
  cases h with
  |cons r1 r2=>obtain⟨t,rfl⟩:=r1;exact .cons n t (bf r2)
theorem oE:au X (.builtin "sorted") (fun xs H Q=>∃a ns,xs=[.ref a]/\SqL X.K H a (ns.map V.int)/\ns.length < 64/\∀p,H p=none->Q (.ref p) (upd H p (.lst ((gr ns).map V.int)))):=by
 intro pins s σ H xs us Q I r h;obtain⟨a,ns,rfl,sq,h64,q⟩:=h;obtain⟨u,rfl,ru⟩:=bq r;cases ru;obtain⟨its,rv,pl,hz⟩:=I.list sq;have hlen:=rv.length;rw[Ze] at hlen hz;refine sorted_ints pl.isList (bf rv) (by lia) fun out ns' h1 h2 h3=>?_;have e:ns'=gr ns:=iz (h2.trans (eL ns).symm) h3 (fk ns);subst e;obtain⟨e,he⟩:=sortedAll_at s.heap its out;refine⟨.ref (s.heap.objs.size+1),_,I.laid (t':=s.toks) (a:=s.heap.objs.size+1) (o:=.lst ((gr ns).map V.int)) (fun b o z=>sortedAll_old z) (ZX _) ⟨by rw[Ze,(eL ns).length_eq];exact hz,out.toList,e,fO h1,by simpa using he⟩,rfl,q _ (I.hok.fresh (ZX _))⟩
noncomputable def oG:D->Option (Int × Int)
 |.tup [.int a,.int b]=>some (a,b)
 |_=>none
noncomputable def fU:List D->Option (List (Int × Int))
 |[]=>some []
 |d::ds=>match oG d,fU ds with
  |some p,some ps=>some (p::ps)
  |_,_=>none
noncomputable def fm:List D->Option (List Int)
 |[]=>some []
 |d::ds=>match d,fm ds with
  |.int i,some ms=>some (i::ms)
  |_,_=>none
noncomputable def zn(_:Bool)(ds:List D):Option (List D):=match fU ds with
 |some ps=>if ds.length < 64 then some (dr ps .non ds) else none
 | none=>(match fm ds with
  |some ns=>if ns.length < 64 then some ((gr ns).map D.int) else none
  | none=>none)
theorem cM:∀ {ds:List D} {ns:List Int},fm ds=some ns->ds=ns.map D.int
 |[],_,e=>by cases e;rfl
 |d::ds,ns,e=>by
  simp only[fm] at e;split at e
  ·rename_i i ms h1;cases e;rw[cM h1];rfl
  ·cases e
theorem b6:∀ {ns:List Int} {vs:List V},VDs K m H (ns.map D.int) vs->vs=ns.map V.int
 |[],_,h=>by rw[ZO,VDs] at h;exact h
 |n::ns,_,h=>by
  rw[Zq,VDs] at h;obtain⟨v,r,rfl,h1,h2⟩:=h;rw[h1.ints,b6 h2];rfl
theorem jG:∀ (ns:List Int),VDs K m H (ns.map D.int) (ns.map V.int)
 |[]=>by rw[ZO,ZO,VDs]
 |n::ns=>by rw[Zq,Zq,VDs];exact⟨_,_,rfl,aQ,jG ns⟩
theorem lX:∀ {ds:List D} {vs:List V} {ps:List (Int × Int)},fU ds=some ps->VDs K m H ds vs->PairsV H vs ps
 |[],vs,ps,e,h=>by rw[VDs] at h;subst h;cases e;exact .nil
 |d::ds,vs,ps,e,h=>by
  rw[VDs] at h;obtain⟨v,r,rfl,h1,h2⟩:=h;simp only[fU] at e;cases hd:oG d with
  |none=>rw[hd] at e;cases e
  |some p=>
   cases hr:fU ds with
   |none=>rw[hd,hr] at e;cases e
   |some qs=>
    rw[hd,hr] at e;cases e;unfold oG at hd;split at hd
    ·cases hd;obtain⟨a,xs,rfl,hH,vx⟩:=h1.tups;obtain⟨x,y,rfl,v1,v2⟩:=kB vx;cases v1.ints;cases v2.ints;exact .cons hH (lX hr h2)
    ·cases hd
theorem qb(h:VDs K m H ds vs):∀ (l:List Nat),(∀i ∈ l,i < ds.length)->VDs K m H (l.map fun i=>ds.getD i .non) (l.map fun i=>vs.getD i .non)
 |[],_=>by rw[ZO,ZO,VDs]
 |i::l,hl=>by
  rw[Zq,Zq,VDs];obtain⟨v,e,vv⟩:=h.get (gEG (hl i Zg));refine⟨_,_,rfl,?_,qb h l fun j hj=>hl j (Zd _ hj)⟩;rw[Z0,Z0,gEG (hl i Zg),e];exact vv
theorem jH:au X (.builtin "sorted") (r1 (rTm X.K fun tu ds=>if tu=false then zn tu ds else none)):=by
 refine au.imp (au.or oB oE) fun xs H Q h=>?_;obtain⟨_,rfl,m,S,tu,ds,a,vs,es,R,rfl,sq,vd,e,q⟩:=bz h;cases tu with
 |true=>cases e
 |false=>
  have e:zn false ds=some es:=by simpa using e
  unfold zn at e;cases hp:fU ds with
  |none=>
   rw[hp] at e;dsimp only at e;cases hi:fm ds with
   |none=>rw[hi] at e;cases e
   |some ns=>
    rw[hi] at e;dsimp only at e;split at e
    ·rename_i hl;cases e;have ed:=cM hi;subst ed;have ev:=b6 vd;subst ev;exact .inr ⟨a,ns,rfl,sq,hl,gO R (jG _) q⟩
    ·cases e
  |some ps=>
   rw[hp] at e;dsimp only at e;split at e
   ·rename_i hl;cases e;have hlen:=vd.length;refine .inl ⟨a,vs,ps,rfl,sq,lX hp vd,by lia,gO R ?_ q⟩;unfold dr;rw[<-hlen];split
    ·exact vd
    ·exact qb vd _ fun i hi=>(ow (by lia)).1 i hi
   ·cases e
end
end Ev
namespace Ev
open PySem PySem.Spec PyProof.Rows L2
noncomputable def lY:List Int->Int
 |[]=>0
 |n::ns=>ns.foldl (fun a b=>if a < b then b else a) n
noncomputable def zo:List Int->Int
 |[]=>0
 |n::ns=>ns.foldl (fun a b=>if b < a then b else a) n
theorem lZ:∀ (ns:List Int) (n:Int),(ns.foldl (fun a b=>if a < b then b else a) n) ∈ n::ns/\∀x ∈ n::ns,x<=ns.foldl (fun a b=>if a < b then b else a) n
 |[],n=>⟨Zg,fun x hx=>by simp at hx;subst hx;exact Xz _⟩
 |m::ns,n=>by
  obtain⟨h1,h2⟩:=lZ ns (if n < m then m else n);rw[YT];refine⟨?_,fun x hx=>?_⟩
  ·rcases Zk.mp h1 with h |h
   ·rw[h];split <;> simp
   ·exact Zd _ (Zd _ h)
  ·have h0:=h2 _ Zg;rcases Zk.mp hx with rfl |hx
   ·split at h0 <;> split <;> omega
   ·rcases Zk.mp hx with rfl |hx
    ·split at h0 <;> split <;> omega
    ·exact h2 x (Zd _ hx)
theorem l0:∀ (ns:List Int) (n:Int),(ns.foldl (fun a b=>if b < a then b else a) n) ∈ n::ns/\∀x ∈ n::ns,ns.foldl (fun a b=>if b < a then b else a) n<=x
 |[],n=>⟨Zg,fun x hx=>by simp at hx;subst hx;exact Xz _⟩
 |m::ns,n=>by
  obtain⟨h1,h2⟩:=l0 ns (if m < n then m else n);rw[YT];refine⟨?_,fun x hx=>?_⟩
  ·rcases Zk.mp h1 with h |h
   ·rw[h];split <;> simp
   ·exact Zd _ (Zd _ h)
  ·have h0:=h2 _ Zg;rcases Zk.mp hx with rfl |hx
   ·split at h0 <;> split <;> omega
   ·rcases Zk.mp hx with rfl |hx
    ·split at h0 <;> split <;> omega
    ·exact h2 x (Zd _ hx)
theorem oH{M:Int}(h1:M ∈ ns)(h2:∀a,a ∈ ns->a<=M):M=lY ns:=by
 cases ns with
 |nil=>simp at h1
 |cons n ns=>
  obtain⟨a,b⟩:=lZ ns n;have:=h2 _ a;have:=b _ h1;show M=ns.foldl _ n;omega
theorem Et{M:Int}(h1:M ∈ ns)(h2:∀a,a ∈ ns->M<=a):M=zo ns:=by
 cases ns with
 |nil=>simp at h1
 |cons n ns=>
  obtain⟨a,b⟩:=l0 ns n;have:=h2 _ a;have:=b _ h1;show M=ns.foldl _ n;omega
section
variable {X:Cx} {K:WN} {m:List Addr} {H:Hp} {S:Sto}
theorem sk(hc:X.calm=true):au X (.builtin "max") (fun xs H Q=>∃a ns,xs=[.ref a]/\SqL X.K H a (ns.map V.int)/\ns ≠ []/\Q (.int (lY ns)) H):=by
 intro pins s σ H xs us Q I r h;obtain⟨a,ns,rfl,sq,hne,q⟩:=h;obtain⟨u,rfl,ru⟩:=bq r;cases ru;obtain⟨its,rv,pl,hz⟩:=I.list sq;have hi:=bf rv;have hl:=pl.isList;obtain⟨ys,e⟩:=hi.allInts.items
 have hns:ns=ys.toList.map (·.1):=by
  have h1:=hi.numsOf;rw[<-V1,<-e];exact h1.symm
 have hsz:0 < ys.size:=by
  have h3:0 < ns.length:=Yx.mpr hne;rw[hns,Ze,Zt] at h3;exact h3
 rw[e] at hl;refine max_intList (I.ok.hd hc) hl hsz fun v h' tk hv hk=>?_;obtain⟨t,rfl⟩:=VM hv;obtain⟨b1,b2⟩:=argBest_gt (numAt ys) (ys.size - 1);have key:∀M:Int,M ∈ ns->(∀a,a ∈ ns->a<=M)->∃x H',Inv X pins σ H' { s with heap:=h',toks:=tk }/\aq x (.int M t)/\Q x H':=fun M h1 h2=>⟨.int (lY ns),H,I.kept hk,⟨t,by rw[oH h1 h2]⟩,q⟩;refine key _ ?_ fun a ha=>?_
 ·rw[hns,V0];exact VI (by rw[Ze,Zt];omega)
 ·rw[hns] at ha;obtain⟨j,hj,rfl⟩:=VT ha;rw[Ze,Zt] at hj;rw[<-V0];exact b2 j (by omega)
theorem kD(hh:A.handled=none)(hl:s.heap.IsTuple l (VL xs))(hne:0 < xs.size)
  (h:∀v h' tk,(VL xs)[argBest (fun i j=>decide (numAt xs i > numAt xs j)) (xs.size - 1)]?=some v->(∀b o,s.heap.get? b=some o->h'.get? b=some o)->Q v { s with heap:=h',toks:=tk }) :
  wpAny (model prog w) A (call (.builtin "max") [.ref l]) Q E s:=by
 have hlt:l < s.heap.objs.size:=by obtain⟨_,e,_⟩:=hl;exact Zj e
 refine call_max_walk (UR hl ?_);refine⟨_,[_,l],[_],_,_,_,_,rfl,Walks.tuple (A:=A.in1) hh _ l (Zl hlt) (VL xs),⟨⟨_,Zp _ rfl,rfl,rfl⟩,hl.push _⟩,fun c hc=>?_,by simpa[VL] using hne,CmpOf.ints_gt (numAt xs) (fun _ _=>VM),fun v h' tk hP hk=>?_⟩
 ·show c < (s.heap.push _).objs.size;rw[Yd];rcases Zk.mp hc with rfl |hc
  ·exact Yp _
  ·rcases Zk.mp hc with rfl |hc
   ·exact YF hlt
   ·cases hc
 ·refine h v h' tk (by simpa[VL] using hP) fun b o e=>hk b o (fun hm=>?_) (Za _ e);rcases Zk.mp hm with e1 |hm
  ·exact absurd (e1 ▸ Zj e) (ZF _)
  ·cases hm
theorem sr(hc:X.calm=true):au X (.builtin "max") (fun xs H Q=>∃a ns,xs=[.ref a]/\SqT X.K H a (ns.map V.int)/\ns ≠ []/\Q (.int (lY ns)) H):=by
 intro pins s σ H xs us Q I r h;obtain⟨a,ns,rfl,sq,hne,q⟩:=h;obtain⟨u,rfl,ru⟩:=bq r;cases ru;obtain⟨its,rv,pl,hz⟩:=I.tuple sq;have hi:=bf rv;have hl:s.heap.IsTuple a its.toArray:=pl;obtain⟨ys,e⟩:=hi.allInts.items
 have hns:ns=ys.toList.map (·.1):=by
  have h1:=hi.numsOf;rw[<-V1,<-e];exact h1.symm
 have hsz:0 < ys.size:=by
  have h3:0 < ns.length:=Yx.mpr hne;rw[hns,Ze,Zt] at h3;exact h3
 rw[e] at hl;refine kD (I.ok.hd hc) hl hsz fun v h' tk hv hk=>?_;obtain⟨t,rfl⟩:=VM hv;obtain⟨b1,b2⟩:=argBest_gt (numAt ys) (ys.size - 1);have key:∀M:Int,M ∈ ns->(∀a,a ∈ ns->a<=M)->∃x H',Inv X pins σ H' { s with heap:=h',toks:=tk }/\aq x (.int M t)/\Q x H':=fun M h1 h2=>⟨.int (lY ns),H,I.kept hk,⟨t,by rw[oH h1 h2]⟩,q⟩;refine key _ ?_ fun a ha=>?_
 ·rw[hns,V0];exact VI (by rw[Ze,Zt];omega)
 ·rw[hns] at ha;obtain⟨j,hj,rfl⟩:=VT ha;rw[Ze,Zt] at hj;rw[<-V0];exact b2 j (by omega)
theorem su(hc:X.calm=true):au X (.builtin "min") (fun xs H Q=>∃a ns,xs=[.ref a]/\SqL X.K H a (ns.map V.int)/\ns ≠ []/\Q (.int (zo ns)) H):=by
 intro pins s σ H xs us Q I r h;obtain⟨a,ns,rfl,sq,hne,q⟩:=h;obtain⟨u,rfl,ru⟩:=bq r;cases ru;obtain⟨its,rv,pl,hz⟩:=I.list sq;have hi:=bf rv;have hl:=pl.isList;obtain⟨ys,e⟩:=hi.allInts.items
 have hns:ns=ys.toList.map (·.1):=by
  have h1:=hi.numsOf;rw[<-V1,<-e];exact h1.symm
 have hsz:0 < ys.size:=by
  have h3:0 < ns.length:=Yx.mpr hne;rw[hns,Ze,Zt] at h3;exact h3
 rw[e] at hl;refine min_intList (I.ok.hd hc) hl hsz fun v h' tk hv hk=>?_;obtain⟨t,rfl⟩:=VM hv;obtain⟨b1,b2⟩:=argBest_lt (numAt ys) (ys.size - 1);have key:∀M:Int,M ∈ ns->(∀a,a ∈ ns->M<=a)->∃x H',Inv X pins σ H' { s with heap:=h',toks:=tk }/\aq x (.int M t)/\Q x H':=fun M h1 h2=>⟨.int (zo ns),H,I.kept hk,⟨t,by rw[Et h1 h2]⟩,q⟩;refine key _ ?_ fun a ha=>?_
 ·rw[hns,V0];exact VI (by rw[Ze,Zt];omega)
 ·rw[hns] at ha;obtain⟨j,hj,rfl⟩:=VT ha;rw[Ze,Zt] at hj;rw[<-V0];exact b2 j (by omega)
noncomputable def l3(tu:Bool)(ds:List D)(S:Sto):Option (D × Sto):=match fm ds with
 |some (n::ns)=>some (.int (lY (n::ns)),S)
 |_=>none
noncomputable def ma(tu:Bool)(ds:List D)(S:Sto):Option (D × Sto):=match tu,fm ds with
 |false,some (n::ns)=>some (.int (zo (n::ns)),S)
 |_,_=>none
theorem sv(hc:X.calm=true):au X (.builtin "max") (r1 (rSq X.K l3)):=by
 refine au.imp (au.or (sk hc) (sr hc)) fun xs H Q h=>?_;obtain⟨_,rfl,m,S,tu,ds,a,vs,d,S',R,rfl,sq,vd,e,q⟩:=bz h;unfold l3 at e;split at e
 ·rename_i n ns hi;cases e;have ed:=cM hi;subst ed;have ev:=b6 vd;subst ev;rcases eK sq with sq |sq
  ·exact .inl ⟨a,n::ns,rfl,sq,by simp,q m H _ (Aft.refl R) aQ⟩
  ·exact .inr ⟨a,n::ns,rfl,sq,by simp,q m H _ (Aft.refl R) aQ⟩
 ·cases e
theorem sx(hc:X.calm=true):au X (.builtin "min") (r1 (rSq X.K ma)):=by
 refine au.imp (su hc) fun xs H Q h=>?_;obtain⟨_,rfl,m,S,tu,ds,a,vs,d,S',R,rfl,sq,vd,e,q⟩:=bz h;unfold ma at e;split at e
 ·rename_i n ns hi;cases e;have ed:=cM hi;subst ed;have ev:=b6 vd;subst ev;exact⟨a,n::ns,rfl,sq,by simp,q m H _ (Aft.refl R) aQ⟩
 ·cases e
noncomputable def md(tu:Bool)(ds:List D)(S:Sto):Option (D × Sto):=match tu,fm ds with
 |false,some ns=>some (.int (XB ns),S)
 |_,_=>none
theorem sy(hc:X.calm=true):au X (.builtin "sum") (fun xs H Q=>∃ (a:Addr) (ns:List Int),xs=[.ref a]/\SqL X.K H a (ns.map V.int)/\Q (.int (XB ns)) H):=by
 intro pins s σ H xs us Q I r h;obtain⟨a,ns,rfl,sq,q⟩:=h;obtain⟨u,rfl,ru⟩:=bq r;cases ru;obtain⟨its,rv,pl,hz⟩:=I.list sq;have hi:=bf rv;have hl:=pl.isList;obtain⟨ys,e⟩:=hi.allInts.items
 have hns:ns=ys.toList.map (·.1):=by
  have h1:=hi.numsOf;rw[<-V1,<-e];exact h1.symm
 rw[e] at hl;refine sum_intListG (I.ok.hd hc) hl fun h' tk t' hk=>⟨.int (XB ns),H,I.kept hk,⟨t',?_⟩,q⟩;rw[preSum_eq,hns,YR (by rw[Ze,Zt];exact Zh _)]
theorem sF(hc:X.calm=true):au X (.builtin "sum") (r1 (rSq X.K md)):=by
 refine au.imp (sy hc) fun xs H Q h=>?_;obtain⟨_,rfl,m,S,tu,ds,a,vs,d,S',R,rfl,sq,vd,e,q⟩:=bz h;unfold md at e;split at e
 ·rename_i ns hi;cases e;have ed:=cM hi;subst ed;have ev:=b6 vd;subst ev;exact⟨a,ns,rfl,sq,q m H _ (Aft.refl R) aQ⟩
 ·cases e
noncomputable def zq(d:D)(S:Sto):Option (D × Sto):=match d with
 |.int i=>some (.int i,S)
 |.bl b=>some (.int (if b then 1 else 0),S)
 |_=>none
theorem sG:au X (.type "int") (r1 (rS1 X.K zq)):=by
 refine au.imp rC fun xs H Q h=>?_;obtain⟨x,rfl,m,S,a,d,S',R,va,e,q⟩:=bz h;cases a with
 |int i=>cases e;exact .inl ⟨i,by rw[va.ints],q m H _ (Aft.refl R) aQ⟩
 |bl b=>cases e;exact .inr ⟨b,by rw[va.bls],q m H _ (Aft.refl R) aQ⟩
 |_=>cases e
noncomputable def oJ(d:D)(S:Sto):Option (D × Sto):=match d with
 |.int i=>if i.natAbs<=1000 then some (.str (Str.ofString (toString i)),S) else none
 |_=>none
theorem sH:au X (.type "str") (r1 (rS1 X.K oJ)):=by
 intro pins s σ H xs us Q I r h;obtain⟨x,rfl,m,S,a,d,S',R,va,e,q⟩:=bz h;unfold oJ at e;split at e
 ·rename_i i;split at e
  ·rename_i hi;cases e;obtain⟨u,rfl,ru⟩:=bq r;rw[va.ints] at ru;obtain⟨t,rfl⟩:=ru;refine PySem.P.str_of_int (Y6 (Nat.log2_le_self _) (by omega)) ⟨.str (Str.ofString (toString i)),H,I.tok _,⟨_,rfl⟩,q m H _ (Aft.refl R) eJ⟩
  ·cases e
 ·cases e
end
theorem uZ(a d:Value):argsOk "max" ⟨[a],[(Str.ofString "default", d)]⟩:=by unfold argsOk;kernel_rfl
section
variable {prog:Program} {w:World} {A:Around} {R:Result->Shared->Prop} {I S:Addr} {fp wr:List Addr} {n:Nat} {P:Nat->Value->Prop} {St:Nat->Heap->Prop} {bt:Nat->Nat->Bool} {kw:List (Str × Value)}
theorem qc:(toString "max" ++ toString ".loop" : String) = "max.loop" := by decide
theorem iA(W:Walks prog w A.in1 I fp wr n P St)(gc:CmpOf prog w A.in1 .Gt P bt)(gS:S ∉ fp):∀ (m i:Nat) (s:Shared) (b:Value) (c:Nat),i+1+m=n->St (i+1) s.heap->P (argBest bt i) b->s.heap.get? S=some { cls:=.type "list", dict:=none,data:=.seq #[b,b] c,slots:=#[] } ->
  (∀v h' tk,P (argBest bt (n - 1)) v->(∀a o,a ∉ wr->a ≠ S->s.heap.get? a=some o->h'.get? a=some o)->R (.ok (.ret v)) { s with heap:=h',toks:=tk })->codeAny (model prog w) A (.builtin "max.loop" ⟨[.ref I,.none,.ref S],kw⟩) R s
 |0,i,s,b,c,e,st,pb,gs,r=>by
  have sw:S ∉ wr:=fun h=>gS (W.sub _ h);refine Vw X8 ?_;rw[Around.under_plainId Wd _];show wpAny _ A.in1 (V8 (.ref S) >>= _) _ _ s;refine Ur (UV gs rfl ?_);show wpAny _ A.in1 (tryCatch (pyNext (.ref I)) _ >>= _) _ _ s;refine Ur (UZ (W.done s _ _ (by rw[<-e];exact st) fun h' tk kk=>?_));show wpAny _ A.in1 (updateSeq S (fun _=>#[]) >>= _) _ _ _;refine Ur (U1 (kk S _ sw gs) rfl (Ur (UE (UO ?_))));exact r b _ tk (by rw[<-e];exact pb) fun a o aw aS z=>(Zw _ _ (Ne.symm aS)).trans (kk a o aw z)
 |m+1,i,s,b,c,e,st,pb,gs,r=>by
  have sw:S ∉ wr:=fun h=>gS (W.sub _ h);refine Vw X8 ?_;rw[Around.under_plainId Wd _];show wpAny _ A.in1 (V8 (.ref S) >>= _) _ _ s;refine Ur (UV gs rfl ?_);show wpAny _ A.in1 (tryCatch (pyNext (.ref I)) _ >>= _) _ _ s;refine Ur (UZ (W.item (i+1) s _ _ (by lia) st fun v h' tk pv st' kk=>?_));have gs':=kk S _ sw gs;show wpAny _ A.in1 (tryCatch (holding [v,v] (richCompare .Gt v b >>= _)) _ >>= _) _ _ _;refine Ur (UZ (UB (Ur (gc (i+1) (argBest bt i) v b _ _ _ pv pb ?_))));refine Ur (UB (UY ?_));refine Ur (UE (UO ?_));cases hb:bt (i+1) (argBest bt i) with
  |true=>
   simp only[if_true];refine Ur (U1 gs' rfl (Ur (UE ?_)));rw[qc];refine UO ⟨V2 Wd _,iA W gc gS m (i+1) _ v _ (by lia) (W.frame _ _ _ st' fun a af o z=>?_) (by simp only[argBest,hb,if_true];exact pv) (ZH _ gs' rfl) fun v' h'' tk'' pv' k2=>?_⟩
   ·exact(Zw _ _ (fun z:S=a=>gS (by rw[z];exact af))).trans z
   ·exact r v' h'' tk'' pv' fun a o aw aS z=>k2 a o aw aS ((Zw _ _ (Ne.symm aS)).trans (kk a o aw z))
  |false=>
   simp only[ZM,if_false];refine Ur (UE ?_);rw[qc];refine UO ⟨V2 Wd _,iA W gc gS m (i+1) _ b c (by lia) st' (by simp only[argBest,hb,ZM,if_false];exact pb) gs' fun v' h'' tk'' pv' k2=>?_⟩;exact r v' h'' tk'' pv' fun a o aw aS z=>k2 a o aw aS (kk a o aw z)
theorem sI(W:Walks prog w A.in1 I fp wr n P St)(gc:CmpOf prog w A.in1 .Gt P bt)(gS:S ∉ fp)(gn:0 < n){c:Nat}(st:St 0 s.heap)(gs:s.heap.get? S=some { cls:=.type "list", dict:=none,data:=.seq #[] c,slots:=#[] })
  (r:∀v h' tk,P (argBest bt (n - 1)) v->(∀a o,a ∉ wr->a ≠ S->s.heap.get? a=some o->h'.get? a=some o)->R (.ok (.ret v)) { s with heap:=h',toks:=tk }):codeAny (model prog w) A (.builtin "max.loop" ⟨[.ref I,.none,.ref S],kw⟩) R s:=by
 have sw:S ∉ wr:=fun h=>gS (W.sub _ h);refine Vw X8 ?_;rw[Around.under_plainId Wd _];show wpAny _ A.in1 (V8 (.ref S) >>= _) _ _ s;refine Ur (UV gs rfl ?_);show wpAny _ A.in1 (tryCatch (pyNext (.ref I)) _ >>= _) _ _ s;refine Ur (UZ (W.item 0 s _ _ gn st fun v h' tk pv st' kk=>?_));have gs':=kk S _ sw gs;show wpAny _ A.in1 (updateSeq S (fun _=>#[v,v]) >>= _) _ _ _;refine Ur (U1 gs' rfl ?_);rw[qc];refine UO ⟨V2 Wd _,iA W gc gS (n - 1) 0 _ v _ (by lia) (W.frame _ _ _ st' fun a af o z=>?_) pv (ZH _ gs' rfl) fun v' h'' tk'' pv' k2=>?_⟩
 ·exact(Zw _ _ (fun z:S=a=>gS (by rw[z];exact af))).trans z
 ·exact r v' h'' tk'' pv' fun a o aw aS z=>k2 a o aw aS ((Zw _ _ (Ne.symm aS)).trans (kk a o aw z))
theorem u0(W:Walks prog w A.in1 I fp wr 0 P St)(gS:S ∉ fp){c:Nat}(st:St 0 s.heap)(gs:s.heap.get? S=some { cls:=.type "list", dict:=none,data:=.seq #[] c,slots:=#[] })
  (r:∀h' tk,(∀a o,a ∉ wr->s.heap.get? a=some o->h'.get? a=some o)->R (.ok (.ret d)) { s with heap:=h',toks:=tk }):codeAny (model prog w) A (.builtin "max.loop" ⟨[.ref I,.none,.ref S],[(Str.ofString "default", d)]⟩) R s:=by
 refine Vw X8 ?_;rw[Around.under_plainId Wd _];show wpAny _ A.in1 (V8 (.ref S) >>= _) _ _ s;refine Ur (UV gs rfl ?_);show wpAny _ A.in1 (tryCatch (pyNext (.ref I)) _ >>= _) _ _ s;refine Ur (UZ (W.done s _ _ st fun h' tk kk=>?_));exact Ur (UU (UO (r h' tk kk)))
variable {E:Value->Shared->Prop} {s:Shared} {l:Addr} {xs:Array (Int × Tok)}
theorem u4(hh:A.handled=none)(hl:s.heap.IsList l (VL xs))
  (h1:0 < xs.size->∀v h' tk,(VL xs)[argBest (fun i j=>decide (numAt xs i > numAt xs j)) (xs.size - 1)]?=some v->(∀b o,s.heap.get? b=some o->h'.get? b=some o)->Q v { s with heap:=h',toks:=tk })
  (h2:xs.size=0->∀h' tk,(∀b o,s.heap.get? b=some o->h'.get? b=some o)->Q d { s with heap:=h',toks:=tk }):wpAny (model prog w) A (call (.builtin "max") [.ref l] [(Str.ofString "default", d)]) Q E s:=by
 refine kmb_tree F.kind_max F.plain_max F.entry_max (uZ _ _) ?_;show wpAny _ A.in1 (Builtin.Builtins.bindParams "max" ["key", "default"] 0 ⟨[],[(Str.ofString "default", d)]⟩ >>= _) _ _ s;refine Ur (UM (show Builtin.Builtins.bindParams "max" ["key", "default"] 0 ⟨[],[(Str.ofString "default", d)]⟩=pure [none,some d] from rfl) ?_);refine Ur (UO ?_);refine Ur (iter_intList hl fun s2 e st fpl lI=>?_);subst e;have W:=Walks.list (prog:=prog) (w:=w) (A:=A.in1) hh s.heap.objs.size l lI (VL xs);refine Ur (UL ?_);have gS:∀b ∈ [s.heap.objs.size,l],b < (s.heap.push { cls:=.type "list_iterator", data:=.fields #[.ref l,.int 0 0] }).objs.size:=fpl;rw[qc];by_cases hz:xs.size=0
 ·have e0:(VL xs).size=0:=by simpa[VL] using hz
  rw[e0] at W;refine UO ⟨V2 Wd _,u0 W (fun hm=>ZF _ (fpl _ hm)) (W.frame _ _ _ st fun b _ o e=>Za _ e) (Zp _ rfl) fun h' tk hk=>?_⟩;exact h2 hz h' tk (old_kept fun b o hb e=>hk b o hb (Za _ e))
 ·refine UO ⟨V2 Wd _,sI W (CmpOf.ints_gt (numAt xs) (fun _ _=>VM)) (fun hm=>ZF _ (fpl _ hm)) (by simp[VL];lia) (W.frame _ _ _ st fun b _ o e=>Za _ e) (Zp _ rfl) fun v h' tk pv hk=>?_⟩;exact h1 (by lia) v h' tk (by simpa[VL] using pv) (old_kept fun b o hb e=>hk b o hb (Zl (Zj e)) (Za _ e))
end
noncomputable def Eu(c:Int):List Int->Int
 |[]=>c
 |n::ns=>lY (n::ns)
noncomputable def gw(c:Int)(tu:Bool)(ds:List D)(S:Sto):Option (D × Sto):=match tu,fm ds with
 |false,some ns=>some (.int (Eu c ns),S)
 |_,_=>none
section
variable {X:Cx} {K:WN} {m:List Addr} {H:Hp} {S:Sto} {e:Expr} {t:TA} {p pos kp vp:Pos} {c:Int} {j:Nat}
theorem Ew(hc:X.calm=true)(hg:Gl X "max")(hm:X.mg "max" = none)(hdb:(("max" : Str) == ("__debug__" : Str))=false)(ha:PA X [e] t)(he:Ue [e] X.env=(false,eval e X.env)::Ue [] X.env) :
  PE X (.Call (.Name "max" p) [e] [⟨some "default", .Constant (.int c) j vp,kp⟩] pos) (tCB (r1 (rSq X.K (gw c))) t):=by
 intro pins s σ H Q I h;refine Uo (cP I hg hm XJ ?_ (by decide) hdb);refine callWith_kw (thn (ha pos pins s σ H _ I h) fun us s1 ⟨vs,H1,I1,r,q1⟩=>?_) (by rw[he];rfl) (by rw[he];rfl) rfl rfl;refine thn (yC (nm:=some "default") (kpos:=kp) (fK (X:=X) (i:=c) (j:=j) (pos:=vp)) DU pos pins s1 σ H1 _ I1 (show bK (tC (.int c)) eY σ H1 (fun zs H2=>zs=[.int c]/\H2=H1) from ⟨rfl,rfl⟩)) fun ks s2 ⟨zs,H2,I2,rz,ez,eH⟩=>?_;subst ez eH;obtain⟨u,rfl,ru⟩:=bq rz;obtain⟨tk,rfl⟩:=ru;obtain⟨_,rfl,m,S,tu,ds,a,ws,d,S',R,rfl,sq,vd,e',q⟩:=bz q1;obtain⟨u',rfl,ru'⟩:=bq r;cases ru';unfold gw at e';split at e'
 ·rename_i ns hi;cases e';have ed:=cM hi;subst ed;have ev:=b6 vd;subst ev;have sq:SqL X.K H2 a (ns.map V.int):=sq;obtain⟨its,rv,pl,hz⟩:=I2.list sq;have hi:=bf rv;have hl:=pl.isList;obtain⟨ys,ey⟩:=hi.allInts.items
  have hns:ns=ys.toList.map (·.1):=by
   have h1:=hi.numsOf;rw[<-V1,<-ey];exact h1.symm
  have hlen:ns.length=ys.size:=by rw[hns,Ze,Zt]
  rw[ey] at hl;refine u4 (I2.ok.hd hc) hl (fun hsz v h' tk' hv hk=>?_) (fun hsz h' tk' hk=>?_)
  ·obtain⟨t',rfl⟩:=VM hv;obtain⟨b1,b2⟩:=argBest_gt (numAt ys) (ys.size - 1)
   have et:Eu c ns=lY ns:=by
    cases ns with
    |nil=>rw[Z2] at hlen;lia
    |cons n ns=>rfl
   have key:∀M:Int,M ∈ ns->(∀a,a ∈ ns->a<=M)->∃x H',Inv X pins σ H' { s2 with heap:=h',toks:=tk' }/\aq x (.int M t')/\Q x H':=fun M h1 h2=>⟨.int (Eu c ns),H2,I2.kept hk,⟨t',by rw[oH h1 h2,et]⟩,q m H2 _ (Aft.refl R) aQ⟩;refine key _ ?_ fun a ha=>?_
   ·rw[hns,V0];exact VI (by rw[Ze,Zt];lia)
   ·rw[hns] at ha;obtain⟨j,hj,rfl⟩:=VT ha;rw[Ze,Zt] at hj;rw[<-V0];exact b2 j (by lia)
  ·have en:ns=[]:=ZR.mp (by lia);subst en;exact⟨.int c,H2,I2.kept hk,⟨tk,rfl⟩,q m H2 _ (Aft.refl R) aQ⟩
 ·cases e'
end
section
variable {X:Cx} {K:WN} {m:List Addr} {H:Hp} {S:Sto}
noncomputable def bS(d:D)(S:Sto):Bool:=match d with
 |.ref n=>(ai S n).isSome
 |_=>false
noncomputable def isTup:D->Bool
 |.tup _=>true
 |_=>false
noncomputable def ji(c:D->Sto->Bool)(f:D->List D->Sto->Option (D × Sto))(x:XE)(y:XA):XE:=fun ρ S=>bnd (x ρ S) fun d S1=>if c d S1=true then bnd (y ρ S1) fun as S2=>f d as S2 else none
def rM(K:WN)(f:D->List D->Sto->Option (D × Sto)):V->List V->Hp->VK->Prop:=fun v vs H Q=>∃m S a as d S',Rel K m S H/\VD K m H a v/\VDs K m H as vs/\f a as S=some (d,S')/\∀m' H' u,Aft K m H S' m' H'->VD K m' H' d u->Q u H'
theorem fV(hT:∀ {m H S d v},Rel K m S H->VD K m H d v->c d S=true->tyV K T v H)(h:tE K (ji c f x y) σ H Q):tBM K T (rM K f) (tE K x) (tAr K y) σ H Q:=by
 obtain⟨m,ρ,S,d,S',E,R,e,q⟩:=h;obtain⟨a,S1,e1,e⟩:=aa e;split at e
 ·rename_i hc;obtain⟨as,S2,e2,e⟩:=aa e;refine⟨m,ρ,S,a,S1,E,R,e1,fun m1 H1 v A1 va=>⟨hT A1.rel va hc,m1,ρ,S1,as,S2,E.mono R A1.ext,A1.rel,e2,fun m2 H2 vs A2 vb=>?_⟩⟩;exact⟨m2,S2,a,as,d,S',A2.rel,va.mono A1.rel A2.ext,vb,e,fun m3 H3 u A3 vd=>q m3 H3 u ((A1.trans A2).trans A3) vd⟩
 ·cases e
theorem zr(hT:∀ {m H S d v},Rel K m S H->VD K m H d v->c d S=true->tyV K T v H)(h:tE K (ji c f x rT) σ H Q):IV K T (rM K f) (tE K x) σ H Q:=by
 obtain⟨m,ρ,S,d,S',E,R,e,q⟩:=h;obtain⟨a,S1,e1,e⟩:=aa e;split at e
 ·rename_i hc;obtain⟨as,S2,e2,e⟩:=aa e;cases e2;exact⟨m,ρ,S,a,S1,E,R,e1,fun m1 H1 v A1 va=>⟨hT A1.rel va hc,m1,S1,a,[],d,S',A1.rel,va,.nil,e,fun m3 H3 u A3 vd=>q m3 H3 u (A1.trans A3) vd⟩⟩
 ·cases e
theorem iB(R:Rel K m S H)(vd:VD K m H d v)(h:bS d S=true):tyV K "list" v H:=by
 cases d with
 |ref n=>
  simp only[bS] at h;obtain⟨ds,hs⟩:=ZE.mp h;obtain⟨p,vs,hp,sq,vds⟩:=R.seq hs;obtain⟨p',hp',rfl⟩:=vd.refs;rw[hp] at hp';cases hp';exact .inl ⟨rfl,vs,sq⟩
 |_=>cases h
theorem Ex(R:Rel K m S H)(vd:VD K m H d v)(h:(fun d (_:Sto)=>isTup d) d S=true):tyV K "tuple" v H:=by
 cases d with
 |tup ds=>
  obtain⟨a,vs,rfl,sq,_⟩:=vd.tups;exact .inr (.inl ⟨rfl,.inr ⟨vs,sq⟩⟩)
 |_=>cases h
noncomputable def chg(n:Nat)(S:Sto)(f:List D->Option (D × List D)):Option (D × Sto):=match S[n]? with
 |some (.lst ds)=>(f ds).map fun r=>(r.1,S.set n (.lst r.2))
 |_=>none
theorem du{n:Nat}(h:chg n S f=some (d,S')):∃ds es,S[n]?=some (.lst ds)/\f ds=some (d,es)/\S'=S.set n (.lst es):=by
 unfold chg at h;cases hn:S[n]? with
 |none=>rw[hn] at h;cases h
 |some o=>
  rw[hn] at h;cases o with
  |lst ds=>
   dsimp only at h;cases hf:f ds with
   |none=>rw[hf] at h;cases h
   |some r=>rw[hf] at h;cases h;exact⟨ds,r.2,rfl,hf,rfl⟩
  |_=>cases h
noncomputable def u5(d:D)(as:List D)(S:Sto):Option (D × Sto):=match d,as with
 |.ref n,[e]=>chg n S fun ds=>if ds.length < 100000 then some (.non,ds++[e]) else none
 |_,_=>none
noncomputable def u6(d:D)(as:List D)(S:Sto):Option (D × Sto):=match d,as with
 |.ref n,[]=>chg n S fun ds=>(ds[ds.length - 1]?).map fun x=>(x,ds.dropLast)
 |_,_=>none
noncomputable def iC(d:D)(as:List D)(S:Sto):Option (D × Sto):=match d,as with
 |.ref n,[.int i]=>chg n S fun ds=>match ixN ds.length i with
  |some k=>(ds[k]?).map fun x=>(x,ds.eraseIdx k)
  |none=>none
 |_,_=>none
theorem eM{n:Nat}(R:Rel K m S H)(vd:VD K m H (.ref n) v)(hn:S[n]?=some (.lst ds)):∃a vs,v = .ref a/\m[n]?=some a/\H a=some (.lst vs)/\VDs K m H ds vs:=by
 obtain⟨a,vs,ha,hH,q⟩:=R.lst hn;obtain⟨a',ha',e⟩:=vd.refs;rw[ha] at ha';cases ha';exact⟨a,vs,e,ha,hH,q⟩
theorem b7{n:Nat}(R:Rel K m S H)(ha:m[n]?=some a)(vd:VDs K m H es ws):Aft K m H (S.set n (.lst es)) m (upd H a (.lst ws)):=let ⟨x,y⟩:=R.write ha vd;⟨x,y⟩
theorem Ey:MtR X "list.append" (rM X.K u5):=by
 intro pins s σ H x xs v us Q I rx rs h;refine jy pins s σ H x xs v us Q I rx rs ?_;obtain⟨m,S,a,as,d,S',R,va,vs,e,q⟩:=h;unfold u5 at e;split at e
 ·rename_i n z;obtain⟨ds,es,hn,hf,rfl⟩:=du e;split at hf
  ·rename_i hl;cases hf;obtain⟨p,ws,rfl,hp,hH,vds⟩:=eM R va hn;obtain⟨y,rfl,vy⟩:=uU vs;refine⟨p,ws,y,rfl,rfl,hH,by rw[Uc,<-vds.length];lia,q m _ _ (b7 R hp (vds.append (.cons vy .nil))) eG⟩
  ·cases hf
 ·cases e
theorem zt(h:VDs K m H ds vs)(e:ds[ds.length - 1]?=some x):∃v,vs[vs.length - 1]?=some v/\VD K m H x v:=by rw[<-h.length];exact h.get e
theorem iE:∀ {ds:List D} {vs:List V} (k:Nat),VDs K m H ds vs->VDs K m H (ds.eraseIdx k) (vs.eraseIdx k)
 |[],vs,k,h=>by rw[VDs] at h;subst h;exact .nil
 |d::ds,vs,0,h=>by
  rw[VDs] at h;obtain⟨y,r,rfl,p,q⟩:=h;exact q
 |d::ds,vs,k+1,h=>by
  rw[VDs] at h;obtain⟨y,r,rfl,p,q⟩:=h;exact .cons p (iE k q)
theorem me(h:VDs K m H ds vs):VDs K m H ds.dropLast vs.dropLast:=by
 rw[<-eB,<-eB,<-h.length];exact iE _ h
theorem zu:MtR X "list.pop" (rM X.K u6):=by
 intro pins s σ H x xs v us Q I rx rs h;refine D0 pins s σ H x xs v us Q I rx rs ?_;obtain⟨m,S,a,as,d,S',R,va,vs,e,q⟩:=h;unfold u6 at e;split at e
 ·rename_i n;obtain⟨ds,es,hn,hf,rfl⟩:=du e;cases hl:ds[ds.length - 1]? with
  |none=>rw[hl] at hf;cases hf
  |some z=>
   rw[hl] at hf;cases hf;obtain⟨p,ws,rfl,hp,hH,vds⟩:=eM R va hn;rw[VDs] at vs;subst vs;obtain⟨y,hy,vy⟩:=zt vds hl;have A:=b7 R hp (me vds);exact⟨p,ws,y,rfl,rfl,hH,hy,q m _ _ A (vy.mono R A.ext)⟩
 ·cases e
theorem sJ:MtR X "list.pop" (rM X.K iC):=by
 intro pins s σ H x xs v us Q I rx rs h;refine ur pins s σ H x xs v us Q I rx rs ?_;obtain⟨m,S,a,as,d,S',R,va,vs,e,q⟩:=h;unfold iC at e;split at e
 ·rename_i n i;obtain⟨ds,es,hn,hf,rfl⟩:=du e;cases hk:ixN ds.length i with
  |none=>rw[hk] at hf;cases hf
  |some k=>
   rw[hk] at hf;dsimp only at hf;cases hl:ds[k]? with
   |none=>rw[hl] at hf;cases hf
   |some z=>
    rw[hl] at hf;cases hf;obtain⟨p,ws,rfl,hp,hH,vds⟩:=eM R va hn;obtain⟨y,rfl,vi⟩:=uU vs;cases vi.ints;obtain⟨y,hy,vy⟩:=vds.get hl;have A:=b7 R hp (iE k vds);obtain⟨h1,h2,h3,h4⟩:=j6 hk;have hz:=(I.lst hH).choose_spec.choose_spec.2.2;have hle:=vds.length;rw[Uc] at hz;exact⟨p,ws,i,k,y,rfl,rfl,hH,by lia,by lia,by rw[<-vds.length];exact h1,hy,q m _ _ A (vy.mono R A.ext)⟩
 ·cases e
noncomputable def u7(d:D)(as:List D)(S:Sto):Option (D × Sto):=match d,as with
 |.tup ds,[x]=>if ci x=true/\ds.all ci=true then some (.int (ds.countP fun z=>eqF z x:Nat),S) else none
 |_,_=>none
theorem zv:MtR X "tuple.count" (rM X.K u7):=by
 intro pins s σ H x xs v us Q I rx rs h;refine rP X.K rfl pins s σ H x xs v us Q I rx rs ?_;obtain⟨m,S,a,as,d,S',R,va,vs,e,q⟩:=h;unfold u7 at e;split at e
 ·rename_i ds z;split at e
  ·rename_i hf;cases e;obtain⟨p,ws,rfl,sq,vds⟩:=va.tups;obtain⟨y,rfl,vy⟩:=uU vs;exact⟨p,ws,y,rfl,rfl,.of sq,gP vy hf.1,fh vds hf.2,q m H _ (Aft.refl R) (by rw[jE vy hf.1 vds hf.2];exact aQ)⟩
  ·cases e
 ·cases e
noncomputable def qd:D->Bool
 |.str _=>true
 |_=>false
noncomputable def iG:List D->Option (List Str)
 |[]=>some []
 |.str x::ds=>(iG ds).map (x::·)
 |_=>none
theorem qe{K:WN}{m:List Addr}{H:Hp}:∀ {ds:List D} {ys:List Str} {vs:List V},iG ds=some ys->VDs K m H ds vs->vs=ys.map V.str
 |[],ys,vs,e,h=>by
  cases e;have:=h.length;cases vs with
  |nil=>rfl
  |cons _ _=>simp at this
 |.str x::ds,ys,vs,e,h=>by
  simp only[iG] at e;cases hs:iG ds with
  |none=>rw[hs] at e;cases e
  |some zs=>
   rw[hs] at e;cases e;rw[VDs] at h;obtain⟨v,ws,rfl,vv,h⟩:=h;rw[vv.strs,qe hs h];rfl
noncomputable def iH(d:D)(as:List D)(S:Sto):Option (D × Sto):=match d,as with
 | .str x,[.ref n]=>(match S[n]? with
  | some (.lst ds)=>(match iG ds with
   |some ys=>if (ys.map (·.length)).sum+ys.length * x.length<=100000 then some (.str (Txt.join x ys),S) else none
   | none=>none)
  | _=>none)
 |_,_=>none
theorem Ez(R:Rel K m S H)(vd:VD K m H d v)(h:(fun d (_:Sto)=>qd d) d S=true):tyV K "str" v H:=by
 cases d with
 |str x=>rw[vd.strs];rfl
 |_=>cases h
theorem mf:∀ {ys:List Str} {us:List Value},ax (ys.map V.str) us->StrsAre us ys
 |[],us,h=>by cases h;exact .nil
 |y::ys,us,h=>by
  cases h with
  |cons a b=>obtain⟨t,rfl⟩:=a;exact .cons _ _ (mf b)
theorem u8:MtR X "str.join" (rM X.K iH):=by
 intro pins s σ H x xs v us Q I rx rs h;obtain⟨m,S,a,as,d,S',R,va,vs,e,q⟩:=h;unfold iH at e;split at e
 ·rename_i x0 n;split at e
  ·rename_i ds hn;split at e
   ·rename_i ys hy;split at e
    ·rename_i hl;cases e;have ex:=va.strs;subst ex;obtain⟨t,rfl⟩:=rx;obtain⟨y,rfl,vy⟩:=uU vs;obtain⟨p,hp,rfl⟩:=vy.refs;obtain⟨p',hp',ws,hH,vds⟩:=R.ob _ _ hn;rw[hp] at hp';cases hp';have ews:=qe hy vds;subst ews;obtain⟨u,rfl,ru⟩:=bq rs;cases ru;obtain⟨_,its,k,r,eo⟩:=I.hok p _ hH;refine join_list (items:=its.toArray) ⟨_,eo,rfl,k,rfl⟩ (by rw[Yw];exact mf r) (by omega) fun t' k=>⟨.str _,H,I.tok _,⟨_,rfl⟩,q m H _ (Aft.refl R) eJ⟩
    ·cases e
   ·cases e
  ·cases e
 ·cases e
noncomputable def eN(o i v:D)(S:Sto):Option Sto:=match o,i with
 | .ref n,.int k=>(match S[n]? with
  |some (.lst ds)=>(ixN ds.length k).map fun j=>S.set n (.lst (ds.set j v))
  | _=>none)
 |_,_=>none
def u9(K:WN):yt:=fun o i v H Q=>∃m S a b c S',Rel K m S H/\VD K m H a o/\VD K m H b i/\VD K m H c v/\eN a b c S=some S'/\∀m' H',Aft K m H S' m' H'->Q H'
theorem vf:DA X (u9 X.K):=by
 intro pins s σ H o i v ov iv u Q I ro ri rv h;refine uo pins s σ H o i v ov iv u Q I ro ri rv ?_;obtain⟨m,S,a,b,c,S',R,va,vb,vc,e,q⟩:=h;unfold eN at e;split at e
 ·rename_i n k;cases hn:S[n]? with
  |none=>rw[hn] at e;cases e
  |some ob=>
   rw[hn] at e;cases ob with
   |lst ds=>
    dsimp only at e;cases hj:ixN ds.length k with
    |none=>rw[hj] at e;cases e
    |some j=>
     rw[hj] at e;cases e;obtain⟨p,ws,rfl,hp,hH,vds⟩:=eM R va hn;cases vb.ints;exact⟨p,ws,k,j,rfl,rfl,hH,by rw[<-vds.length];exact hj,q m _ (b7 R hp (vds.set vc))⟩
   |_=>cases e
 ·cases e
mutual
noncomputable def cj(t:D->Option Dw.D):List D->Option (List Dw.D)
 |[]=>some []
 |d::ds=>match t d,cj t ds with
  |some x,some xs=>some (x::xs)
  |_,_=>none
end
noncomputable def ee:Nat->Sto->D->Option Dw.D
 |0,_,_=>none
 |n+1,S,d=>match d with
  |.non=>some .non
  |.bl b=>some (.bl b)
  |.int i=>some (.int i)
  |.str x=>some (.str x)
  |.tup ds=>(cj (ee n S) ds).map .tup
  | .ref k=>(match S[k]? with
   |some (.lst ds)=>(cj (ee n S) ds).map .lst
   |some (.dic ks ds)=>(cj (ee n S) ds).map (.dic ks)
   | _=>none)
theorem fo(ht:∀d x v,t d=some x->VD K m H d v->Dw.Br [] H x v):∀ {ds:List D} {xs:List Dw.D} {vs:List V},cj t ds=some xs->VDs K m H ds vs->Dw.BrL [] H xs vs
 |[],xs,vs,e,h=>by rw[VDs] at h;simp only[cj] at e;cases e;rw[h,Dw.BrL]
 |d::ds,xs,vs,e,h=>by
  rw[VDs] at h;obtain⟨y,r,rfl,p,q⟩:=h;simp only[cj] at e;cases h1:t d with
  |none=>rw[h1] at e;cases e
  |some x=>
   cases h2:cj t ds with
   |none=>rw[h1,h2] at e;cases e
   |some ys=>
    rw[h1,h2] at e;cases e;rw[Dw.BrL];exact⟨y,r,rfl,ht _ _ _ h1 p,fo ht h2 q⟩
theorem jI:∀ {ds:List D} {xs:List Dw.D},cj t ds=some xs->xs.length=ds.length
 |[],xs,e=>by simp only[cj] at e;cases e;rfl
 |d::ds,xs,e=>by
  simp only[cj] at e;cases h1:t d with
  |none=>rw[h1] at e;cases e
  |some x=>
   cases h2:cj t ds with
   |none=>rw[h1,h2] at e;cases e
   |some ys=>rw[h1,h2] at e;cases e;simp[jI h2]
theorem gR(R:Rel K m S H):∀ (n:Nat) (d:D) (x:Dw.D) (v:V),ee n S d=some x->VD K m H d v->Dw.Br [] H x v
 |0,_,_,_,e,_=>by simp[ee] at e
 |n+1,d,x,v,e,h=>by
  cases d with
  |non=>simp only[ee] at e;cases e;rw[Dw.Br];exact h.nons
  |bl _=>simp only[ee] at e;cases e;rw[Dw.Br];exact h.bls
  |int _=>simp only[ee] at e;cases e;rw[Dw.Br];exact h.ints
  |str _=>simp only[ee] at e;cases e;rw[Dw.Br];exact h.strs
  |tup ds=>
   simp only[ee] at e;cases ht:cj (ee n S) ds with
   |none=>rw[ht] at e;cases e
   |some xs=>
    rw[ht] at e;cases e;obtain⟨a,vs,rfl,sq,p⟩:=h.tups;rw[Dw.Br];exact⟨a,vs,rfl,sq,fo (gR R n) ht p⟩
  |ref k=>
   simp only[ee] at e;obtain⟨a,ha,rfl⟩:=h.refs;cases hk:S[k]? with
   |none=>rw[hk] at e;cases e
   |some o=>
    rw[hk] at e;obtain⟨a',ha',r⟩:=R.ob k o hk;rw[ha] at ha';cases ha';cases o with
    |lst ds=>
     dsimp only at e;cases ht:cj (ee n S) ds with
     |none=>rw[ht] at e;cases e
     |some xs=>
      rw[ht] at e;cases e;obtain⟨vs,hH,p⟩:=r;rw[Dw.Br];exact⟨a,vs,rfl,by simp,hH,fo (gR R n) ht p⟩
    |frz ds=>cases e
    |dic ks ds=>
     dsimp only at e;cases ht:cj (ee n S) ds with
     |none=>rw[ht] at e;cases e
     |some xs=>
      rw[ht] at e;cases e;obtain⟨vs,hH,hl,p⟩:=r;rw[Dw.Br];exact⟨a,vs,rfl,by simp,hH,by rw[jI ht];exact hl,fo (gR R n) ht p⟩
open Classical in
noncomputable def mh(d:D)(S:Sto):Option (D × Sto):=match ee 100 S d with
 |some t=>if Dw.Shn t then some (.str (Dw.bx t).shown,S) else none
 |none=>none
theorem oK{k:Nat}(hr:Room k X.A):au X (.builtin "repr") (r1 (rS1 X.K mh)):=by
 refine au.imp (Dw.nU hr) fun xs H Q h=>?_;obtain⟨x,rfl,m,S,a,d,S',R,va,e,q⟩:=bz h;unfold mh at e;cases ht:ee 100 S a with
 |none=>rw[ht] at e;cases e
 |some t=>
  rw[ht] at e;dsimp only at e;split at e
  ·rename_i hs;cases e;exact⟨x,[],t,rfl,gR R 100 a t x ht va,hs,q m H _ (Aft.refl R) eJ⟩
  ·cases e
end
section
variable {X:Cx} {K:WN} {m:List Addr} {H:Hp} {S:Sto}
noncomputable def iI{α:Type}(xs:List α)(k:Nat)(y:α):List α:=xs.take k++y::xs.drop k
theorem EA:MtM X "list.insert" (fun x vs H Q=>∃l xs i y,x = .ref l/\vs=[.int i,y]/\H l=some (.lst xs)/\0<=i/\i<=100000/\xs.length < sizeLine/\Q .non (upd H l (.lst (iI xs (min i.toNat xs.length) y)))):=by
 intro pins s σ H x vs v us Q I rx rv h;obtain⟨l,xs,i,y,rfl,rfl,hH,h0,h1,hz,q⟩:=h;cases rx;cases rv with
 |cons ri rv=>
  obtain⟨u,rfl,ru⟩:=ax.one (show ax [y] _ from rv);obtain⟨t,rfl⟩:=ri;obtain⟨z,its,n,r,hl,e⟩:=I.lstM hH
  have fit:¬ (!Builtin.List.listFitsIndex i)=true:=by
   unfold Builtin.List.listFitsIndex;simp;omega
  refine Vs Wj ⟨_,e,rfl⟩ F.entry_list_insert (F.args_list_insert_3 _ _ _) (PySem.AutoListH.list_insert_list_int_val_1 l its.toArray n i t u fit (by rw[Zc];omega)) ⟨e,?_⟩;have hle:xs.length=its.length:=hl;refine⟨.non,_,I.lset (its':=iI its (min i.toNat its.length) u) hH e ?_ ?_ ?_,rfl,q⟩
  ·simp only[if_neg (show ¬ i < 0 by omega),Zc];unfold iI;simp[Z9];rw[YR (by rw[Z5];omega)]
  ·rw[hle];exact ax.append (ax.take _ r) (.cons ru (ax.drop _ r))
  ·unfold iI;rw[Zm,Zs,ZG,Z5];omega
noncomputable def vg(d:D)(as:List D)(S:Sto):Option (D × Sto):=match d,as with
 |.ref n,[.int i,e]=>if 0<=i/\i<=100000 then chg n S fun ds=>if ds.length < 100000 then some (.non,iI ds (min i.toNat ds.length) e) else none else none
 |_,_=>none
theorem EB(k:Nat)(h:VDs K m H ds vs)(hx:VD K m H x y):VDs K m H (iI ds k x) (iI vs k y):=(h.take k).append (.cons hx (h.drop k))
theorem zw:MtR X "list.insert" (rM X.K vg):=by
 intro pins s σ H x xs v us Q I rx rs h;refine EA pins s σ H x xs v us Q I rx rs ?_;obtain⟨m,S,a,as,d,S',R,va,vs,e,q⟩:=h;unfold vg at e;split at e
 ·rename_i n i z;split at e
  ·rename_i hi;obtain⟨ds,es,hn,hf,rfl⟩:=du e;split at hf
   ·rename_i hl;cases hf;obtain⟨p,ws,rfl,hp,hH,vds⟩:=eM R va hn;obtain⟨y1,y2,rfl,v1,v2⟩:=kB vs;cases v1.ints;refine⟨p,ws,i,y2,rfl,rfl,hH,hi.1,hi.2,by rw[Uc,<-vds.length];omega,?_⟩;rw[<-vds.length];exact q m _ _ (b7 R hp (EB _ vds v2)) eG
   ·cases hf
  ·cases e
 ·cases e
end
section
variable {X:Cx} {K:WN} {m:List Addr} {H:Hp} {S:Sto}
noncomputable def vh(d:D)(as:List D)(S:Sto):Option (D × Sto):=match d,as with
 | .ref n,[.ref k]=>(match S[k]? with
  |some (.lst ys)=>chg n S fun ds=>if ds.length+ys.length<=100000 then some (.non,ds++ys) else none
  | _=>none)
 |_,_=>none
theorem zx:MtR X "list.extend" (rM X.K vh):=by
 intro pins s σ H x xs v us Q I rx rs h;refine rG pins s σ H x xs v us Q I rx rs ?_;obtain⟨m,S,a,as,d,S',R,va,vs,e,q⟩:=h;unfold vh at e;split at e
 ·rename_i n k;split at e
  ·rename_i ys hk;obtain⟨ds,es,hn,hf,rfl⟩:=du e;split at hf
   ·rename_i hl;cases hf;obtain⟨p,ws,rfl,hp,hH,vds⟩:=eM R va hn;obtain⟨y,rfl,v1⟩:=uU vs;obtain⟨p2,ws2,rfl,hp2,hH2,kB⟩:=eM R v1 hk;exact⟨p,p2,ws,ws2,rfl,rfl,hH,hH2,by rw[Uc,<-vds.length,<-kB.length];lia,q m _ _ (b7 R hp (vds.append kB)) eG⟩
   ·cases hf
  ·cases e
 ·cases e
end
abbrev Nxt:=Nat->Sto->Option (Option D)
abbrev XI:=Rho->Sto->Option (Nxt × Sto)
structure ExtB(B:List Addr)(m:List Addr)(H:Hp)(m':List Addr)(H':Hp):Prop where
 pre:m <+: m'
 keep:∀a o,H a=some o->a ∉ m->a ∉ B->H' a=some o
 new:∀a,a ∈ m'->a ∉ m->H a=none
 nb:∀b,b ∈ B->b ∉ m'
def AtB(B:List Addr)(m:List Addr)(H:Hp):Prop:=∀b,b ∈ B->(∃vs,H b=some (.lst vs))/\b ∉ m
theorem Ext.toB(hB:AtB B m H)(x:Ext m H m' H'):ExtB B m H m' H':=⟨x.pre,fun a o h n _=>x.keep a o h n,x.new,fun b hb z=>by
 obtain⟨⟨vs,e⟩,n⟩:=hB b hb;have:=x.new b z n;rw[e] at this;cases this⟩
theorem ExtB.trans(x:ExtB B m H m1 H1)(y:ExtB B m1 H1 m2 H2):ExtB B m H m2 H2:=by
 refine⟨x.pre.trans y.pre,fun a o h n nb=>?_,fun a h n=>?_,y.nb⟩
 ·have n1:a ∉ m1:=fun z=>by have:=x.new a z n;rw[this] at h;cases h
  exact y.keep a o (x.keep a o h n nb) n1 nb
 ·by_cases h1:a ∈ m1
  ·exact x.new a h1 n
  ·cases e:H a with
   |none=>rfl
   |some o=>
    by_cases hb:a ∈ B
    ·exact absurd h (y.nb a hb)
    ·have:=x.keep a o e n hb;rw[y.new a h h1] at this;cases this
theorem AtB.ext(hB:AtB B m H)(x:Ext m H m' H'):AtB B m' H':=fun b hb=>by
 obtain⟨⟨vs,e⟩,n⟩:=hB b hb;exact⟨⟨vs,x.keep _ _ e n⟩,(x.toB hB).nb b hb⟩
def IOk(K:WN)(B:List Addr)(J:It)(nx:Nxt)(m0:List Addr)(H0:Hp):Prop:=∀ (m:List Addr) (S:Sto) (H:Hp) (i:Nat),ExtB B m0 H0 m H->Rel K m S H ->
 (nx i S=some none->J.stop i H)/\(∀d,nx i S=some (some d)->J.go i H/\∀x H',J.yld i H x H'->Aft K m H S m H'/\VD K m H' d x)
def tIt(K:WN)(B:List Addr)(x:XI):TI:=fun σ H R=>∃m ρ S nx S',EnvR K m H ρ σ/\Rel K m S H/\AtB B m H/\x ρ S=some (nx,S')/\∀m' H' J,Aft K m H S' m' H'->IOk K B J nx m' H'->R J H'
noncomputable def nxL(ds:List D):Nxt:=fun i _=>some ds[i]?
noncomputable def nxS(n:Nat):Nxt:=fun i S=>(ai S n).map fun ds=>ds[i]?
noncomputable def nxR(lo:Int)(n:Nat):Nxt:=fun i _=>some (if i < n then some (.int (lo+i)) else none)
noncomputable def Jl(i:Nat)(d:D):D:=.tup [.int i,d]
noncomputable def enm(ds:List D)(i:Nat):Option (Option D):=if i<=ds.length then some (ds[i]?.map (Jl i)) else none
noncomputable def sK(ds:List D):Nxt:=fun i _=>enm ds i
noncomputable def vj(n:Nat):Nxt:=fun i S=>(ai S n).bind fun ds=>enm ds i
section
variable {X:Cx} {K:WN} {m B:List Addr} {H:Hp} {S:Sto}
theorem zy(R:Rel K m0 S0 H0)(hB:AtB B m0 H0)(x:ExtB B m0 H0 m H)(h:H0 a=some (.tup xs)):H a=some (.tup xs):=x.keep _ _ h (R.notTup h) fun z=>by
 obtain⟨⟨vs,e⟩,_⟩:=hB a z;rw[e] at h;cases h
theorem VDs.monoB(R:Rel K m0 S0 H0)(hB:AtB B m0 H0)(x:ExtB B m0 H0 m H)(h:VDs K m0 H0 ds vs):VDs K m H ds vs:=VDs.mono0 x.pre (fun _ _=>zy R hB x) h
theorem VD.monoB(R:Rel K m0 S0 H0)(hB:AtB B m0 H0)(x:ExtB B m0 H0 m H)(h:VD K m0 H0 d v):VD K m H d v:=VD.mono0 x.pre (fun _ _=>zy R hB x) h
theorem EnvR.monoB(R:Rel K m0 S0 H0)(hB:AtB B m0 H0)(x:ExtB B m0 H0 m H)(h:EnvR K m0 H0 ρ σ):EnvR K m H ρ σ:=
 ⟨h.len,fun i d e=>let ⟨v,p,q⟩:=h.at_ i d e;⟨v,p,VD.monoB R hB x q⟩⟩
theorem mi(h:∀m S H i o,ExtB B m0 H0 m H->Rel K m S H->nx i S=some o->∃ds vs,o=ds[i]?/\SqL K H a vs/\VDs K m H ds vs):IOk K B (Itl K a) nx m0 H0:=by
 intro m S H i x R;refine⟨fun e=>?_,fun d e=>?_⟩
 ·obtain⟨ds,vs,e',sq,vd⟩:=h m S H i _ x R e;exact⟨vs,sq,by rw[<-vd.length];exact Zz.mp e'.symm⟩
 ·obtain⟨ds,vs,e',sq,vd⟩:=h m S H i _ x R e;obtain⟨v,hv,vv⟩:=vd.get e'.symm;refine⟨⟨vs,v,sq,hv⟩,fun y H' ⟨eH,hy⟩=>?_⟩;subst eH;have:=hy vs sq;rw[hv] at this;cases this;exact⟨Aft.refl R,vv⟩
theorem zz(R0:Rel K m0 S0 H0)(hB:AtB B m0 H0)(sq:H0 a=some (.tup vs))(vd:VDs K m0 H0 ds vs):IOk K B (Itt K a) (nxL ds) m0 H0:=by
 intro m S H i x R;have sq':SqT K H a vs:=.of (zy R0 hB x sq);have vd':=vd.monoB R0 hB x;refine⟨fun e=>⟨vs,sq',?_⟩,fun d e=>?_⟩
 ·rw[<-vd'.length];exact Zz.mp (Option.some.inj e)
 ·obtain⟨v,hv,vv⟩:=vd'.get (Option.some.inj e);refine⟨⟨vs,v,sq',hv⟩,fun y H' ⟨eH,hy⟩=>?_⟩;subst eH;have:=hy vs sq';rw[hv] at this;cases this;exact⟨Aft.refl R,vv⟩
theorem qf{lo:Int}{n:Nat}:IOk K B (Itr lo n) (nxR lo n) m0 H0:=by
 intro m S H i x R;unfold nxR;refine⟨fun e=>?_,fun d e=>?_⟩
 ·split at e
  ·cases e
  ·show n<=i;lia
 ·split at e
  ·rename_i hi;cases e;exact⟨hi,fun y H' ⟨eH,hy⟩=>by subst eH;subst hy;exact⟨Aft.refl R,aQ⟩⟩
  ·cases e
theorem kE(h:∀m S H i o,ExtB B m0 H0 m H->Rel K m S H->nx i S=some o->∃ds vs,enm ds i=some o/\sqf K H a vs/\VDs K m H ds vs):IOk K B (Ite K a sqf) nx m0 H0:=by
 intro m S H i x R;refine⟨fun e=>?_,fun d e=>?_⟩
 ·obtain⟨ds,vs,e',sq,vd⟩:=h m S H i _ x R e;unfold enm at e';split at e'
  ·rename_i hl;refine⟨vs,sq,?_⟩;rw[<-vd.length];cases hd:ds[i]? with
   |none=>have:=Zz.mp hd;lia
   |some z=>rw[hd] at e';cases e'
  ·cases e'
 ·obtain⟨ds,vs,e',sq,vd⟩:=h m S H i _ x R e;unfold enm at e';split at e'
  ·cases hd:ds[i]? with
   |none=>rw[hd] at e';cases e'
   |some z=>
    rw[hd] at e';cases e';obtain⟨v,hv,vv⟩:=vd.get hd;refine⟨⟨vs,v,sq,hv⟩,fun y H' ⟨T,hT,ey,hy⟩=>?_⟩;subst ey;have eH:=hy vs v sq hv;subst eH;have xb:=Ext.beside R hT (.tup [.int i,v]);exact⟨⟨xb,R.beside hT _⟩,im ak (.cons aQ (.cons (vv.mono R xb) .nil))⟩
  ·cases e'
noncomputable def Mg(d:D):Option Nxt:=match d with
 |.tup ds=>some (nxL ds)
 |.ref n=>some (nxS n)
 |_=>none
noncomputable def xIV(x:XE):XI:=fun ρ S=>bnd (x ρ S) fun d S1=>match d with
 |.tup ds=>some (nxL ds,S1)
 |.ref n=>if (ai S1 n).isSome=true then some (nxS n,S1) else none
 |_=>none
noncomputable def xIT(x:XA):XI:=fun ρ S=>bnd (x ρ S) fun ds S1=>some (nxL ds,S1)
noncomputable def xEV(x:XE):XI:=fun ρ S=>bnd (x ρ S) fun d S1=>match d with
 |.tup ds=>some (sK ds,S1)
 |.ref n=>if (ai S1 n).isSome=true then some (vj n,S1) else none
 |_=>none
noncomputable def xET(x:XA):XI:=fun ρ S=>bnd (x ρ S) fun ds S1=>some (sK ds,S1)
noncomputable def lim(i:Int):Bool:=decide (-(2 ^ 62)<=i) && decide (i < 2 ^ 62)
noncomputable def xR1(x:XE):XI:=fun ρ S=>bnd (x ρ S) fun d S1=>match d with
 |.int j=>if lim j=true then some (nxR 0 j.toNat,S1) else none
 |_=>none
noncomputable def xR2(x y:XE):XI:=fun ρ S=>bnd (x ρ S) fun d S1=>bnd (y ρ S1) fun e S2=>match d,e with
 |.int i,.int j=>if lim i=true/\lim j=true then some (nxR i (j - i).toNat,S2) else none
 |_,_=>none
theorem fW{i:Int}(h:lim i=true):-(2 ^ 62)<=i/\i < 2 ^ 62:=by simpa[lim] using h
theorem cx{n:Nat}(ha:m0[n]?=some a)(x:m0 <+: m)(R:Rel K m S H)(hs:ai S n=some ds):∃vs,SqL K H a vs/\VDs K m H ds vs:=by
 obtain⟨p,vs,hp,sq,vd⟩:=R.seq hs;have:=e9 x ha;rw[this] at hp;cases hp;exact⟨vs,sq,vd⟩
theorem Jm(hB:AtB B m H)(h:H a=none):a ∉ B:=fun z=>by
 obtain⟨⟨vs,e⟩,_⟩:=hB a z;rw[h] at e;cases e
theorem LL(h:tIt K B (xIV x) σ H R):ud K (tE K x) σ H R\/Iy K (tE K x) σ H R:=by
 obtain⟨m,ρ,S,nx,S',E,Rl,hB,e,q⟩:=h;obtain⟨d,S1,e1,e⟩:=aa e;cases d with
 |tup ds=>
  cases e;refine .inr ⟨m,ρ,S,_,_,E,Rl,e1,fun m1 H1 v A1 vd=>?_⟩;obtain⟨a,vs,rfl,sq,vds⟩:=vd.tups;exact⟨a,rfl,⟨vs,.of sq⟩,q m1 H1 _ A1 (zz A1.rel (hB.ext A1.ext) sq vds)⟩
 |ref n=>
  dsimp only at e;split at e
  ·rename_i hs;cases e;refine .inl ⟨m,ρ,S,_,_,E,Rl,e1,fun m1 H1 v A1 vd=>?_⟩;obtain⟨a,ha,rfl⟩:=vd.refs;obtain⟨ds,hds⟩:=ZE.mp hs;obtain⟨vs,sq,vds⟩:=cx ha (ZP _) A1.rel hds;refine⟨a,rfl,⟨vs,sq⟩,q m1 H1 _ A1 (mi fun m2 S2 H2 i o x2 R2 e2=>?_)⟩;unfold nxS at e2;cases h2:ai S2 n with
   |none=>rw[h2] at e2;cases e2
   |some es=>
    rw[h2] at e2;cases e2;obtain⟨ws,sq2,vd2⟩:=cx ha x2.pre R2 h2;exact⟨es,ws,rfl,sq2,vd2⟩
  ·cases e
 |_=>cases e
theorem LM(h:tIt K B (xIT x) σ H R):ud K (cK K x) σ H R:=by
 obtain⟨m,ρ,S,nx,S',E,Rl,hB,e,q⟩:=h;obtain⟨ds,S1,e1,e⟩:=aa e;cases e;refine⟨m,ρ,S,_,_,E,Rl,e1,fun m1 H1 a vs A1 sq n1 n2 n3 vd=>⟨a,rfl,⟨vs,.of sq⟩,q m1 H1 _ A1 (mi fun m2 S2 H2 i o x2 R2 e2=>?_)⟩⟩;cases e2;exact⟨ds,vs,rfl,.of (x2.keep _ _ sq n1 (Jm hB n3)),vd.monoB A1.rel (hB.ext A1.ext) x2⟩
theorem Jn(h:tIt K B (xEV x) σ H R):D5 K (bK (tE K x) eY) σ H R\/Jc K (bK (tE K x) eY) σ H R:=by
 obtain⟨m,ρ,S,nx,S',E,Rl,hB,e,q⟩:=h;obtain⟨d,S1,e1,e⟩:=aa e;cases d with
 |tup ds=>
  cases e;refine .inr ⟨m,ρ,S,_,_,E,Rl,e1,fun m1 H1 v A1 vd=>?_⟩;obtain⟨a,vs,rfl,sq,vds⟩:=vd.tups;refine⟨a,vs,rfl,.of sq,q m1 H1 _ A1 (kE fun m2 S2 H2 i o x2 R2 e2=>⟨ds,vs,e2,.of (zy A1.rel (hB.ext A1.ext) x2 sq),vds.monoB A1.rel (hB.ext A1.ext) x2⟩)⟩
 |ref n=>
  dsimp only at e;split at e
  ·rename_i hs;cases e;refine .inl ⟨m,ρ,S,_,_,E,Rl,e1,fun m1 H1 v A1 vd=>?_⟩;obtain⟨a,ha,rfl⟩:=vd.refs;obtain⟨ds,hds⟩:=ZE.mp hs;obtain⟨vs,sq,vds⟩:=cx ha (ZP _) A1.rel hds;refine⟨a,vs,rfl,sq,q m1 H1 _ A1 (kE fun m2 S2 H2 i o x2 R2 e2=>?_)⟩;unfold vj at e2;cases h2:ai S2 n with
   |none=>rw[h2] at e2;cases e2
   |some es=>
    rw[h2] at e2;obtain⟨ws,sq2,vd2⟩:=cx ha x2.pre R2 h2;exact⟨es,ws,e2,sq2,vd2⟩
  ·cases e
 |_=>cases e
theorem Jo(h:tIt K B (xET x) σ H R):D5 K (bK (cK K x) eY) σ H R:=by
 obtain⟨m,ρ,S,nx,S',E,Rl,hB,e,q⟩:=h;obtain⟨ds,S1,e1,e⟩:=aa e;cases e;exact⟨m,ρ,S,_,_,E,Rl,e1,fun m1 H1 a vs A1 sq n1 n2 n3 vd=>⟨a,vs,rfl,.of sq,q m1 H1 _ A1 (kE fun m2 S2 H2 i o x2 R2 e2=>⟨ds,vs,e2,.of (x2.keep _ _ sq n1 (Jm hB n3)),vd.monoB A1.rel (hB.ext A1.ext) x2⟩)⟩⟩
theorem Jp(h:tIt K B (xR1 x) σ H R):Co (bK (tE K x) eY) σ H R:=by
 obtain⟨m,ρ,S,nx,S',E,Rl,hB,e,q⟩:=h;obtain⟨d,S1,e1,e⟩:=aa e;refine⟨m,ρ,S,d,S1,E,Rl,e1,fun m1 H1 v A1 vd=>?_⟩;cases d with
 |int j=>
  dsimp only at e;split at e
  ·rename_i hl;cases e;exact⟨j,by rw[vd.ints],(fW hl).1,(fW hl).2,q m1 H1 _ A1 qf⟩
  ·cases e
 |_=>cases e
theorem Jq(h:tIt K B (xR2 x y) σ H R):Cp (bK (tE K x) (bK (tE K y) eY)) σ H R:=by
 obtain⟨m,ρ,S,nx,S',E,Rl,hB,e,q⟩:=h;obtain⟨d,S1,e1,e⟩:=aa e;obtain⟨c,S2,e2,e⟩:=aa e;refine⟨m,ρ,S,d,S1,E,Rl,e1,fun m1 H1 v A1 vd=>⟨m1,ρ,S1,c,S2,E.mono Rl A1.ext,A1.rel,e2,fun m2 H2 w A2 vc=>?_⟩⟩;cases d with
 |int i=>
  cases c with
  |int j=>
   dsimp only at e;split at e
   ·rename_i hl;cases e;exact⟨i,j,by rw[vd.ints,vc.ints],⟨(fW hl.1).1,(fW hl.1).2,(fW hl.2).1,(fW hl.2).2⟩,q m2 H2 _ (A1.trans A2) qf⟩
   ·cases e
  |_=>cases e
 |_=>cases e
inductive Tg where
 |name (i:Nat) |tup (ts:List Tg)
mutual
noncomputable def aG:Tg->D->Rho->Option Rho
 |.name i,d,ρ=>if i < ρ.length then some (ρ.set i (some d)) else none
 |.tup ts,.tup ds,ρ=>aB ts ds ρ
 |_,_,_=>none
noncomputable def aB:List Tg->List D->Rho->Option Rho
 |[],[],ρ=>some ρ
 |t::ts,d::ds,ρ=>match aG t d ρ with
  |some ρ'=>aB ts ds ρ'
  |none=>none
 |_,_,_=>none
end
def tTg(K:WN)(t:Tg):TG:=fun x σ H Q=>∃m S ρ d ρ',Rel K m S H/\EnvR K m H ρ σ/\VD K m H d x/\aG t d ρ=some ρ'/\∀σ',EnvR K m H ρ' σ'->Q σ' H
def vk(K:WN)(ts:List Tg):TGs:=fun xs σ H Q=>∃m S ρ ds ρ',Rel K m S H/\EnvR K m H ρ σ/\VDs K m H ds xs/\aB ts ds ρ=some ρ'/\∀σ',EnvR K m H ρ' σ'->Q σ' H
theorem EnvR.set{i:Nat}(E:EnvR K m H ρ σ)(h:VD K m H d v):EnvR K m H (ρ.set i (some d)) (σ.set i (some v)):=by
 refine⟨by simp[E.len],fun j d' e=>?_⟩;rw[Yb] at e;rw[Yb,<-E.len];by_cases hj:i=j
 ·rw[if_pos hj] at e ⊢;split at e
  ·rename_i hl;rw[if_pos hl];cases e;exact⟨v,rfl,h⟩
  ·cases e
 ·rw[if_neg hj] at e ⊢;exact E.at_ j d' e
theorem kF{i:Nat}(h:tTg K (.name i) x σ H Q):jq i x σ H Q:=by
 obtain⟨m,S,ρ,d,ρ',R,E,vd,e,q⟩:=h;simp only[aG] at e;split at e
 ·cases e;exact q _ (E.set vd)
 ·cases e
theorem EC{n:Nat}(hn:n=ts.length)(h:tTg K (.tup ts) x σ H Q):DC K n (vk K ts) x σ H Q:=by
 obtain⟨m,S,ρ,d,ρ',R,E,vd,e,q⟩:=h;cases d with
 |tup ds=>
  simp only[aG] at e;obtain⟨a,vs,rfl,sq,vds⟩:=vd.tups;refine⟨a,vs,rfl,.of sq,?_,m,S,ρ,ds,ρ',R,E,vds,e,q⟩
  have len:∀ (ts:List Tg) (ds:List D) (ρ ρ':Rho),aB ts ds ρ=some ρ'->ts.length=ds.length:=by
   intro ts
   induction ts with
   |nil=>intro ds ρ ρ' e;cases ds with |nil=>rfl |cons _ _=>simp[aB] at e
   |cons t ts ih=>
    intro ds ρ ρ' e;cases ds with
    |nil=>simp[aB] at e
    |cons d ds=>
     simp only[aB] at e;split at e
     ·simp[ih _ _ _ e]
     ·cases e
  rw[hn,<-vds.length];exact(len _ _ _ _ e).symm
 |_=>simp[aG] at e
theorem zA(h:vk K [] xs σ H Q):DB xs σ H Q:=by
 obtain⟨m,S,ρ,ds,ρ',R,E,vd,e,q⟩:=h;cases ds with
 |nil=>simp[aB] at e;subst e;rw[VDs] at vd;exact⟨vd,q _ E⟩
 |cons _ _=>simp[aB] at e
theorem vm(h:vk K (t::ts) xs σ H Q):pQ (tTg K t) (vk K ts) xs σ H Q:=by
 obtain⟨m,S,ρ,ds,ρ',R,E,vd,e,q⟩:=h;cases ds with
 |nil=>simp[aB] at e
 |cons d ds=>
  simp only[aB] at e;rw[VDs] at vd;obtain⟨y,r,rfl,p,p'⟩:=vd;cases hb:aG t d ρ with
  |none=>rw[hb] at e;cases e
  |some ρ1=>
   rw[hb] at e;exact⟨y,r,rfl,m,S,ρ,d,ρ1,R,E,p,hb,fun σ' E'=>⟨m,S,ρ1,ds,ρ',R,E',p',e,q⟩⟩
theorem PG.imp(h:PG X e t)(f:∀x σ H Q,t' x σ H Q->t x σ H Q):PG X e t':=fun pins s σ H v u Q I r q=>h pins s σ H v u Q I r (f v σ H Q q)
theorem PGs.imp(h:PGs X es t)(f:∀x σ H Q,t' x σ H Q->t x σ H Q):PGs X es t':=fun pins s σ H v u Q I r q=>h pins s σ H v u Q I r (f v σ H Q q)
end
end Ev
namespace L2
open PySem PySem.Spec PyProof.Rows
noncomputable def Itz(K:WN)(a b:Addr):It:=
 ⟨fun i H=>∃xs ys x y,SqL K H a xs/\SqL K H b ys/\xs[i]?=some x/\ys[i]?=some y,
   fun i H v H'=>∃T,H T=none/\v = .ref T/\∀xs ys x y,SqL K H a xs->SqL K H b ys->xs[i]?=some x->ys[i]?=some y->H'=upd H T (.tup [x,y]),
   fun i H=>∃xs ys,SqL K H a xs/\SqL K H b ys/\(xs[i]?=none\/ys[i]?=none)⟩
structure ZipSt(a b z TI TO i1 i2:Addr)(i:Nat)(h:Heap):Prop where
 z:IsZip h z TI TO .none
 ti:IsPair h TI (.ref i1) (.ref i2)
 to:∃x y,IsPair h TO x y
 h1:h.IsListIter i1 a i
 h2:h.IsListIter i2 b i
structure ZipFive(z TI TO i1 i2:Addr):Prop where
 TIz:TI ≠ z
 TOz:TO ≠ z
 i1z:i1 ≠ z
 i2z:i2 ≠ z
 TITO:TI ≠ TO
 TIi1:TI ≠ i1
 TIi2:TI ≠ i2
 TOi1:TO ≠ i1
 TOi2:TO ≠ i2
 i12:i1 ≠ i2
theorem cy{h:Heap}{l c:Addr}{xs:Array Value}{o:Obj}(hl:h.IsList l xs)(hc:h.get? c=some o)(n:o.cls ≠ .type "list"):l ≠ c:=fun z=>by
 subst z;obtain⟨o',ho,hc',_⟩:=hl;rw[hc] at ho;cases ho;exact n hc'
theorem jJ{h:Heap}{a b z TI TO i1 i2:Addr}{i:Nat}{xs ys:Array Value}(D:ZipFive z TI TO i1 i2)(st:ZipSt a b z TI TO i1 i2 i h)(ha:h.IsList a xs)(hb:h.IsList b ys):ZipApart z TI TO i1 i2 a b:=by
 obtain⟨x,y,hTO⟩:=st.to;obtain⟨o1,e1,c1,_⟩:=id st.h1;obtain⟨o2,e2,c2,_⟩:=id st.h2;have n1:o1.cls ≠ .type "list" := by rw[c1];decide
 have n2:o2.cls ≠ .type "list" := by rw[c2];decide
 have nz:(Value.type "zip") ≠ .type "list" := by decide
 have nt:(Value.type "tuple") ≠ .type "list" := by decide
 exact⟨D.TIz,D.TOz,D.i1z,D.i2z,D.TITO,D.TIi1,D.TIi2,D.TOi1,D.TOi2,D.i12,cy ha st.z nz,cy ha hTO nt,cy ha e1 n1,cy ha e2 n2,cy hb st.z nz,cy hb hTO nt,cy hb e1 n1,cy hb e2 n2⟩
theorem vn{P:Program}{w:World}{K:WN}{elts:List Expr}{x1:Nat}{tp:Pos}(a b z TI TO i1 i2:Addr)(D:ZipFive z TI TO i1 i2) :
  Turn P w K (.Tuple elts x1 tp) (Itz K a b) [z,TI,TO,i1,i2] z (ZipSt a b z TI TO i1 i2) where
 mem:=by simp
 obj:=fun i h st c hc=>by
  obtain⟨x,y,hTO⟩:=st.to;obtain⟨o1,e1,_,d1⟩:=id st.h1;obtain⟨o2,e2,_,d2⟩:=id st.h2;simp only[Zk,Yg,or_false] at hc;rcases hc with rfl |rfl |rfl |rfl |rfl
  ·exact⟨_,st.z,fun v z=>by have z':Data.fields _=Data.cell v:=z;cases z'⟩
  ·exact⟨_,st.ti,fun v z=>by have z':Data.seq _ _=Data.cell v:=z;cases z'⟩
  ·exact⟨_,hTO,fun v z=>by have z':Data.seq _ _=Data.cell v:=z;cases z'⟩
  ·exact⟨o1,e1,fun v z=>by rw[d1] at z;cases z⟩
  ·exact⟨o2,e2,fun v z=>by rw[d2] at z;cases z⟩
 keep:=fun i h h' st k=>by
  obtain⟨x,y,hTO⟩:=st.to;exact⟨k z (by simp) _ st.z,k TI (by simp) _ st.ti,⟨x,y,k TO (by simp) _ hTO⟩,st.h1.at fun o e=>k i1 (by simp) o e,st.h2.at fun o e=>k i2 (by simp) o e⟩
 item:=by
  intro X hP hw hK hc i pins s σ H E I hf st hg;subst hP hw hK;obtain⟨xs,ys,x,y,hq1,hq2,hx,hy⟩:=hg;obtain⟨its1,rv1,p1,_⟩:=I.list hq1;obtain⟨its2,rv2,p2,_⟩:=I.list hq2;obtain⟨u1,hu1,ru1⟩:=rv1.get hx;obtain⟨u2,hu2,ru2⟩:=rv2.get hy;have hL1:s.heap.IsList a its1.toArray:=p1.isList;have hL2:s.heap.IsList b its2.toArray:=p2.isList;have A:=jJ D st hL1 hL2;obtain⟨v1,v2,hTO⟩:=id st.to;refine wpAny_pyNext_zip_item A st.z st.ti hTO st.h1 st.h2 hL1 hL2 (by simpa using hu1) (by simpa using hu2) fun h' a1 a2 a3 a4 a5 a6 a7=>?_;refine⟨_,rfl,?_⟩;refine wpAny_letOwnedTupleGo_zip a1 fun h2 hz2 hs2=>?_;have lt:∀ {c o},s.heap.get? c=some o->c < s.heap.objs.size:=fun e=>Zj e;have lz:=lt st.z;have lTI:=lt st.ti;have lTO:=lt hTO;have l1:i1 < s.heap.objs.size:=by obtain⟨_,e,_⟩:=id st.h1;exact lt e
  have l2:i2 < s.heap.objs.size:=by obtain⟨_,e,_⟩:=id st.h2;exact lt e
  have hT2:IsPair h2 s.heap.objs.size u1 u2:=hs2.extBut _ _ (Yj lz) a5;have fresh:=I.hok.fresh (Zh s.heap.objs.size);refine⟨.ref s.heap.objs.size,upd H s.heap.objs.size (.tup [x,y]),?_,rfl,⟨_,fresh,rfl,fun xs' ys' x' y' hq1' hq2' hx' hy'=>?_⟩,⟨hz2,hs2.extBut _ _ D.TIz (a7 _ _ D.TIz D.TITO D.TIi1 D.TIi2 st.ti),⟨_,_,hs2.extBut _ _ D.TOz a2⟩,a3.extBut hs2.extBut D.i1z,a4.extBut hs2.extBut D.i2z⟩,fun c hc=>?_⟩
  ·exact I.turnedLaid (t':=s.toks) hf (fun c ob hc ec=>hs2.extBut _ _ (fun z=>hc (by simp[z])) (a7 c ob (fun z=>hc (by simp[z])) (fun z=>hc (by simp[z])) (fun z=>hc (by simp[z])) (fun z=>hc (by simp[z])) ec)) (Zh _)
    ⟨by show 2<=sizeLine;decide,[u1,u2],.cons ru1 (.cons ru2 .nil),⟨_,hT2,rfl,_,rfl,rfl⟩⟩
  ·rw[I.list_inj hq1' hq1,hx] at hx';rw[I.list_inj hq2' hq2,hy] at hy';cases hx';cases hy';rfl
  ·have:=hf c hc;simp only[Zk,Yg,or_false] at hc
   have ne:c ≠ s.heap.objs.size:=by
    rcases hc with h |h |h |h |h <;> rw[h]
    ·exact Zl lz
    ·exact Zl lTI
    ·exact Zl lTO
    ·exact Zl l1
    ·exact Zl l2
   rw[ah ne];exact this.1
 done:=by
  intro X hP hw hK hc i pins s σ H E I hf st hg;subst hP hw hK;obtain⟨xs,ys,hq1,hq2,he⟩:=hg;obtain⟨its1,rv1,p1,_⟩:=I.list hq1;obtain⟨its2,rv2,p2,_⟩:=I.list hq2;have hL1:s.heap.IsList a its1.toArray:=p1.isList;have hL2:s.heap.IsList b its2.toArray:=p2.isList;have A:=jJ D st hL1 hL2;obtain⟨v1,v2,hTO⟩:=id st.to
  have en:its1.toArray[i]?=none\/its2.toArray[i]?=none:=by
   rcases he with he |he
   ·left;have:=Zz.mp he;rw[YB,Zc,<-rv1.length];exact this
   ·right;have:=Zz.mp he;rw[YB,Zc,<-rv2.length];exact this
  refine wpAny_pyNext_zip_end (I.ok.hd hc) A st.z st.ti hTO st.h1 st.h2 hL1 hL2 en fun h' k=>⟨rfl,?_⟩;exact I.turnedAll (t':=s.toks) hf fun c ob hc q=>k c ob (fun z=>hc (by simp[z])) (fun z=>hc (by simp[z])) (fun z=>hc (by simp[z])) (fun z=>hc (by simp[z])) q
 self:=fun _ _ _ _ _ st h=>wpAny_pyIter_zip st.z h
theorem vo(n:Nat):ZipFive (n+4) (n+2) (n+3) n (n+1):=by
 constructor
 ·exact fun z=>by have z':n+2=n+4:=z;lia
 ·exact fun z=>by have z':n+3=n+4:=z;lia
 ·exact fun z=>by have z':n=n+4:=z;lia
 ·exact fun z=>by have z':n+1=n+4:=z;lia
 ·exact fun z=>by have z':n+2=n+3:=z;lia
 ·exact fun z=>by have z':n+2=n:=z;lia
 ·exact fun z=>by have z':n+2=n+1:=z;lia
 ·exact fun z=>by have z':n+3=n:=z;lia
 ·exact fun z=>by have z':n+3=n+1:=z;lia
 ·exact fun z=>by have z':n=n+1:=z;lia
def Jr(K:WN)(ta:TA):TI:=fun σ H R=>ta σ H fun vs H1=>∃a b xs ys,vs=[.ref a,.ref b]/\SqL K H1 a xs/\SqL K H1 b ys/\R (Itz K a b) H1
theorem ED{X:Cx}{elts:List Expr}{x1:Nat}{tp:Pos}{a b:Expr}{ta:TA}{p pos:Pos}(hg:Gl X "zip")(hm:X.mg "zip" = none)(ha:PA X [a,b] ta)(hs:Ue [a,b] X.env=[(false,eval a X.env),(false,eval b X.env)])(hs2:Ue [b] X.env=[(false,eval b X.env)]):PI X (.Tuple elts x1 tp) (.Call (.Name "zip" p) [a,b] [] pos) (Jr X.K ta):=by
 intro pins s σ H R I h;refine Call_ (cP I hg hm PyProof.Rows.boot_zip (XV (thn (ha pos pins s σ H _ I h) fun us s1 ⟨vs,H1,I1,r1,q1⟩=>?_) (by rw[hs,hs2]) (by rw[hs2];rfl)));obtain⟨l1,l2,xs,ys,e,hl1,hl2,q⟩:=q1;subst e;cases r1 with
 |cons r rr=>
  cases rr with
  |cons r' rr=>
   cases rr;cases r;cases r';obtain⟨its1,rv1,p1,_⟩:=I1.list hl1;obtain⟨its2,rv2,p2,_⟩:=I1.list hl2;refine call_zip_2 p1.isList p2.isList fun h' z1 z2 z3 z4 z5 hsz hk=>wpAny_pyIter_zip z1 ?_;have I2:Inv X pins σ H1 { s1 with heap:=h' }:=I1.kept (t':=s1.toks) hk;have fr:∀b,s1.heap.objs.size<=b->dg X pins H1 b:=fun b hb=>I1.fpOk hb (I1.hok.fresh hb);refine⟨_,[s1.heap.objs.size+4,s1.heap.objs.size+2,s1.heap.objs.size+3,s1.heap.objs.size,s1.heap.objs.size+1],_,_,H1,rfl,I2,vn l1 l2 _ _ _ _ _ (vo _),⟨z1,z2,⟨_,_,z3⟩,z4,z5⟩,fun b hb=>fr b ?_,q⟩
   ·simp only[Zk,Yg,or_false] at hb;rcases hb with h |h |h |h |h <;> rw[h]
    ·exact Yq _ _
    ·exact Yq _ _
    ·exact Yq _ _
    ·exact Zh _
    ·exact Yq _ _
end L2
namespace Ev
open PySem PySem.Spec PyProof.Rows L2
noncomputable def zp(xs ys:List D)(i:Nat):Option D:=match xs[i]? with
 | some x=>(match ys[i]? with
  |some y=>some (.tup [x,y])
  | none=>none)
 |none=>none
noncomputable def nxZ(n k:Nat):Nxt:=fun i S=>(ai S n).bind fun xs=>(ai S k).map fun ys=>zp xs ys i
noncomputable def EF(x y:XE):XI:=fun ρ S=>bnd (x ρ S) fun d S1=>bnd (y ρ S1) fun e S2=>match d,e with
 |.ref n,.ref k=>if (ai S2 n).isSome=true/\(ai S2 k).isSome=true then some (nxZ n k,S2) else none
 |_,_=>none
section
variable {X:Cx} {K:WN} {m B:List Addr} {H:Hp} {S:Sto}
theorem zB{a b n k:Nat}(ha:m0[n]?=some a)(hb:m0[k]?=some b):IOk K B (Itz K a b) (nxZ n k) m0 H0:=by
 intro m S H i x R
 have key:∀o,nxZ n k i S=some o->∃xs ys vs ws,o=zp xs ys i/\SqL K H a vs/\VDs K m H xs vs/\SqL K H b ws/\VDs K m H ys ws:=fun o e=>by
  unfold nxZ at e;cases h1:ai S n with
  |none=>rw[h1] at e;cases e
  |some xs=>
   cases h2:ai S k with
   |none=>rw[h1,h2] at e;cases e
   |some ys=>
    rw[h1,h2] at e;cases e;obtain⟨vs,s1,v1⟩:=cx ha x.pre R h1;obtain⟨ws,s2,v2⟩:=cx hb x.pre R h2;exact⟨xs,ys,vs,ws,rfl,s1,v1,s2,v2⟩
 refine⟨fun e=>?_,fun d e=>?_⟩
 ·obtain⟨xs,ys,vs,ws,e',s1,v1,s2,v2⟩:=key _ e;refine⟨vs,ws,s1,s2,?_⟩;unfold zp at e';cases hx:xs[i]? with
  |none=>exact .inl (Zz.mpr (by rw[<-v1.length];exact Zz.mp hx))
  |some x=>
   cases hy:ys[i]? with
   |none=>exact .inr (Zz.mpr (by rw[<-v2.length];exact Zz.mp hy))
   |some y=>rw[hx,hy] at e';cases e'
 ·obtain⟨xs,ys,vs,ws,e',s1,v1,s2,v2⟩:=key _ e;unfold zp at e';cases hx:xs[i]? with
  |none=>rw[hx] at e';cases e'
  |some x'=>
   cases hy:ys[i]? with
   |none=>rw[hx,hy] at e';cases e'
   |some y'=>
    rw[hx,hy] at e';cases e';obtain⟨u,hu,vu⟩:=v1.get hx;obtain⟨w,hw,vw⟩:=v2.get hy;refine⟨⟨vs,ws,u,w,s1,s2,hu,hw⟩,fun y H' ⟨T,hT,ey,hyy⟩=>?_⟩;subst ey;have eH:=hyy vs ws u w s1 s2 hu hw;subst eH;have xb:=Ext.beside R hT (.tup [u,w]);exact⟨⟨xb,R.beside hT _⟩,im ak (.cons (vu.mono R xb) (.cons (vw.mono R xb) .nil))⟩
theorem EG(h:tIt K B (EF x y) σ H R):Jr K (bK (tE K x) (bK (tE K y) eY)) σ H R:=by
 obtain⟨m,ρ,S,nx,S',E,Rl,hB,e,q⟩:=h;obtain⟨d,S1,e1,e⟩:=aa e;obtain⟨c,S2,e2,e⟩:=aa e;refine⟨m,ρ,S,d,S1,E,Rl,e1,fun m1 H1 v A1 vd=>⟨m1,ρ,S1,c,S2,E.mono Rl A1.ext,A1.rel,e2,fun m2 H2 w A2 vc=>?_⟩⟩;cases d with
 |ref n=>
  cases c with
  |ref k=>
   dsimp only at e;split at e
   ·rename_i hl;cases e;obtain⟨a,ha,rfl⟩:=vd.refs;obtain⟨b,hb,rfl⟩:=vc.refs;have ha2:=e9 A2.ext.pre ha;obtain⟨xs,hxs⟩:=ZE.mp hl.1;obtain⟨ys,hys⟩:=ZE.mp hl.2;obtain⟨vs,s1,_⟩:=cx ha2 (ZP _) A2.rel hxs;obtain⟨ws,s2,_⟩:=cx hb (ZP _) A2.rel hys;exact⟨a,b,vs,ws,rfl,s1,s2,q m2 H2 _ (A1.trans A2) (zB ha2 hb)⟩
   ·cases e
  |_=>cases e
 |_=>cases e
end
inductive Fl where
 |nx |bk |ct |rt (d:D)
abbrev XS:=Rho->Sto->Option (Fl × Rho × Sto)
def qg(K:WN)(m:List Addr)(H:Hp)(fl:Fl)(ρ:Rho)(D:Ends):Prop:=match fl with
 |.nx=>∀σ,EnvR K m H ρ σ->D.nx σ H
 |.bk=>∀σ,EnvR K m H ρ σ->D.bk σ H
 |.ct=>∀σ,EnvR K m H ρ σ->D.ct σ H
 |.rt d=>∀v,VD K m H d v->D.rt v H
def tSt(K:WN)(x:XS):TS:=fun D σ H=>∃m ρ S fl ρ' S',EnvR K m H ρ σ/\Rel K m S H/\x ρ S=some (fl,ρ',S')/\∀m' H',Aft K m H S' m' H'->qg K m' H' fl ρ' D
section
variable {X:Cx} {K:WN} {m:List Addr} {H:Hp} {S:Sto}
noncomputable def vq(x y:XS):XS:=fun ρ S=>match x ρ S with
 |none=>none
 |some (.nx,ρ1,S1)=>y ρ1 S1
 |some r=>some r
noncomputable def vt:XS:=fun ρ S=>some (.nx,ρ,S)
theorem qh{D:Ends}{σ:L2.St}{H:Hp}(h:tSt K vt D σ H):tY D σ H:=by
 obtain⟨m,ρ,S,fl,ρ',S',E,R,e,q⟩:=h;cases e;exact q m H (Aft.refl R) σ E
theorem EH{x y:XS}{D:Ends}{σ:L2.St}{H:Hp}(h:tSt K (vq x y) D σ H):Iu (tSt K x) (tSt K y) D σ H:=by
 obtain⟨m,ρ,S,fl,ρ',S',E,R,e,q⟩:=h;unfold vq at e;cases hx:x ρ S with
 |none=>rw[hx] at e;cases e
 |some r=>
  obtain⟨f1,ρ1,S1⟩:=r;rw[hx] at e;refine⟨m,ρ,S,f1,ρ1,S1,E,R,hx,fun m1 H1 A1=>?_⟩;cases f1 with
  |nx=>exact fun σ1 E1=>⟨m1,ρ1,S1,fl,ρ',S',E1,A1.rel,e,fun m2 H2 A2=>q m2 H2 (A1.trans A2)⟩
  |bk=>cases e;exact q m1 H1 A1
  |ct=>cases e;exact q m1 H1 A1
  |rt d=>cases e;exact q m1 H1 A1
noncomputable def mj(x:XE):XS:=fun ρ S=>match x ρ S with
 |none=>none
 |some (_,S1)=>some (.nx,ρ,S1)
noncomputable def vA(x:XE):XS:=fun ρ S=>match x ρ S with
 |none=>none
 |some (d,S1)=>some (.rt d,ρ,S1)
noncomputable def CA:XS:=fun ρ S=>some (.rt .non,ρ,S)
noncomputable def Js:XS:=fun ρ S=>some (.bk,ρ,S)
noncomputable def Jt:XS:=fun ρ S=>some (.ct,ρ,S)
theorem zC{x:XE}{D:Ends}{σ:L2.St}{H:Hp}(h:tSt K (mj x) D σ H):Cm (tE K x) D σ H:=by
 obtain⟨m,ρ,S,fl,ρ',S',E,R,e,q⟩:=h;unfold mj at e;cases hx:x ρ S with
 |none=>rw[hx] at e;cases e
 |some r=>
  obtain⟨d,S1⟩:=r;rw[hx] at e;cases e;exact⟨m,ρ,S,d,_,E,R,hx,fun m1 H1 v A1 _=>q m1 H1 A1 σ (E.mono R A1.ext)⟩
theorem EI{x:XE}{D:Ends}{σ:L2.St}{H:Hp}(h:tSt K (vA x) D σ H):Iv (tE K x) D σ H:=by
 obtain⟨m,ρ,S,fl,ρ',S',E,R,e,q⟩:=h;unfold vA at e;cases hx:x ρ S with
 |none=>rw[hx] at e;cases e
 |some r=>
  obtain⟨d,S1⟩:=r;rw[hx] at e;cases e;exact⟨m,ρ,S,d,_,E,R,hx,fun m1 H1 v A1 vd=>q m1 H1 A1 v vd⟩
theorem zD{D:Ends}{σ:L2.St}{H:Hp}(h:tSt K CA D σ H):Cn D σ H:=by
 obtain⟨m,ρ,S,fl,ρ',S',E,R,e,q⟩:=h;cases e;exact q m H (Aft.refl R) .non eG
theorem EJ{D:Ends}{σ:L2.St}{H:Hp}(h:tSt K Js D σ H):tZ D σ H:=by
 obtain⟨m,ρ,S,fl,ρ',S',E,R,e,q⟩:=h;cases e;exact q m H (Aft.refl R) σ E
theorem EK{D:Ends}{σ:L2.St}{H:Hp}(h:tSt K Jt D σ H):Ck D σ H:=by
 obtain⟨m,ρ,S,fl,ρ',S',E,R,e,q⟩:=h;cases e;exact q m H (Aft.refl R) σ E
noncomputable def xIf(c:XT)(x y:XS):XS:=fun ρ S=>match c ρ S with
 |none=>none
 |some (b,S1)=>if b=true then x ρ S1 else y ρ S1
theorem Ju{c:XT}{x y:XS}{D:Ends}{σ:L2.St}{H:Hp}(h:tSt K (xIf c x y) D σ H):Iw (tT K c) (tSt K x) (tSt K y) D σ H:=by
 obtain⟨m,ρ,S,fl,ρ',S',E,R,e,q⟩:=h;unfold xIf at e;cases hc:c ρ S with
 |none=>rw[hc] at e;cases e
 |some r=>
  obtain⟨b,S1⟩:=r;rw[hc] at e;dsimp only at e;refine⟨m,ρ,S,b,S1,E,R,hc,fun m1 H1 A1=>?_⟩;dsimp only;split
  ·rename_i hb;rw[if_pos hb] at e;exact⟨m1,ρ,S1,fl,ρ',S',E.mono R A1.ext,A1.rel,e,fun m2 H2 A2=>q m2 H2 (A1.trans A2)⟩
  ·rename_i hb;rw[if_neg hb] at e;exact⟨m1,ρ,S1,fl,ρ',S',E.mono R A1.ext,A1.rel,e,fun m2 H2 A2=>q m2 H2 (A1.trans A2)⟩
noncomputable def iJ(x:XE)(t:Tg):XS:=fun ρ S=>match x ρ S with
 |none=>none
 |some (d,S1)=>(aG t d ρ).map fun ρ1=>(.nx,ρ1,S1)
theorem oM{x:XE}{t:Tg}{D:Ends}{σ:L2.St}{H:Hp}(h:tSt K (iJ x t) D σ H):rh (tE K x) (tTg K t) D σ H:=by
 obtain⟨m,ρ,S,fl,ρ',S',E,R,e,q⟩:=h;unfold iJ at e;cases hx:x ρ S with
 |none=>rw[hx] at e;cases e
 |some r=>
  obtain⟨d,S1⟩:=r;rw[hx] at e;dsimp only at e;cases hb:aG t d ρ with
  |none=>rw[hb] at e;cases e
  |some ρ1=>
   rw[hb] at e;cases e;exact⟨m,ρ,S,d,_,E,R,hx,fun m1 H1 v A1 vd=>⟨m1,_,ρ,d,_,A1.rel,E.mono R A1.ext,vd,hb,fun σ' E'=>q m1 H1 A1 σ' E'⟩⟩
noncomputable def ml(v o i:XE):XS:=fun ρ S=>match v ρ S with
 |none=>none
 |some (dv,S1)=>match o ρ S1 with
  |none=>none
  |some (d_o,S2)=>match i ρ S2 with
   |none=>none
   |some (di,S3)=>(eN d_o di dv S3).map fun S4=>(.nx,ρ,S4)
theorem zE{v o i:XE}{D:Ends}{σ:L2.St}{H:Hp}(h:tSt K (ml v o i) D σ H):rh (tE K v) (t9 (tE K o) (tE K i) (u9 K)) D σ H:=by
 obtain⟨m,ρ,S,fl,ρ',S',E,R,e,q⟩:=h;unfold ml at e;cases h1:v ρ S with
 |none=>rw[h1] at e;cases e
 |some r1=>
  obtain⟨dv,S1⟩:=r1;rw[h1] at e;dsimp only at e;cases h2:o ρ S1 with
  |none=>rw[h2] at e;cases e
  |some r2=>
   obtain⟨d2,S2⟩:=r2;rw[h2] at e;dsimp only at e;cases h3:i ρ S2 with
   |none=>rw[h3] at e;cases e
   |some r3=>
    obtain⟨d3,S3⟩:=r3;rw[h3] at e;dsimp only at e;cases h4:eN d2 d3 dv S3 with
    |none=>rw[h4] at e;cases e
    |some S4=>
     rw[h4] at e;cases e;refine⟨m,ρ,S,dv,S1,E,R,h1,fun m1 H1 v1 A1 vd1=>⟨m1,ρ,S1,d2,S2,E.mono R A1.ext,A1.rel,h2,fun m2 H2 v2 A2 vd2=>⟨m2,ρ,S2,d3,S3,E.mono R (A1.trans A2).ext,A2.rel,h3,fun m3 H3 v3 A3 vd3=>?_⟩⟩⟩;exact⟨m3,S3,d2,d3,dv,_,A3.rel,vd2.mono A2.rel A3.ext,vd3,vd1.mono A1.rel (A2.trans A3).ext,h4,fun m4 H4 A4=>q m4 H4 (((A1.trans A2).trans A3).trans A4) σ (E.mono R (((A1.trans A2).trans A3).trans A4).ext)⟩
noncomputable def iK(dv:D)(o i:XE)(ρ:Rho)(S:Sto):Option Sto:=match o ρ S with
 |none=>none
 | some r=>(match i ρ r.2 with
  |none=>none
  | some u=>eN r.1 u.1 dv u.2)
theorem sL(h:iK dv o i ρ S=some S4):∃r u,o ρ S=some r/\i ρ r.2=some u/\eN r.1 u.1 dv u.2=some S4:=by
 unfold iK at h;cases h1:o ρ S with
 |none=>rw[h1] at h;cases h
 |some r=>
  rw[h1] at h;dsimp only at h;cases h2:i ρ r.2 with
  |none=>rw[h2] at h;cases h
  |some u=>rw[h2] at h;exact⟨r,u,rfl,h2,h⟩
noncomputable def zF:D->Option (D × D)
 |.tup [a,b]=>some (a,b)
 |_=>none
noncomputable def vB(v o i q j:XE):XS:=fun ρ S=>match v ρ S with
 |none=>none
 | some r=>(match zF r.1 with
  |none=>none
  | some d=>(match iK d.1 o i ρ r.2 with
   |none=>none
   | some S2=>(iK d.2 q j ρ S2).map fun S3=>(.nx,ρ,S3)))
theorem vC(E:EnvR K m H ρ σ)(R:Rel K m S H)(vd:VD K m H dv v)(h:iK dv o i ρ S=some S4)(q:∀m' H',Aft K m H S4 m' H'->Q σ H'):t9 (tE K o) (tE K i) (u9 K) v σ H Q:=by
 obtain⟨r,u,h1,h2,h3⟩:=sL h;exact⟨m,ρ,S,r.1,r.2,E,R,h1,fun m1 H1 v1 A1 vd1=>⟨m1,ρ,r.2,u.1,u.2,E.mono R A1.ext,A1.rel,h2,fun m2 H2 v2 A2 vd2=>⟨m2,u.2,r.1,u.1,dv,S4,A2.rel,vd1.mono A1.rel A2.ext,vd2,vd.mono R (A1.trans A2).ext,h3,fun m3 H3 A3=>q m3 H3 ((A1.trans A2).trans A3)⟩⟩⟩
theorem EL{v o i q j:XE}{D:Ends}{σ:L2.St}{H:Hp}(h:tSt K (vB v o i q j) D σ H):rh (tE K v) (DC K 2 (pQ (t9 (tE K o) (tE K i) (u9 K)) (pQ (t9 (tE K q) (tE K j) (u9 K)) DB))) D σ H:=by
 obtain⟨m,ρ,S,fl,ρ',S',E,R,e,z⟩:=h;unfold vB at e;cases h1:v ρ S with
 |none=>rw[h1] at e;cases e
 |some r=>
  rw[h1] at e;dsimp only at e;cases h2:zF r.1 with
  |none=>rw[h2] at e;cases e
  |some d=>
   rw[h2] at e;dsimp only at e;cases h3:iK d.1 o i ρ r.2 with
   |none=>rw[h3] at e;cases e
   |some S2=>
    rw[h3] at e;dsimp only at e;cases h4:iK d.2 q j ρ S2 with
    |none=>rw[h4] at e;cases e
    |some S3=>
     rw[h4] at e;cases e
     have hd:r.1 = .tup [d.1,d.2]:=by
      unfold zF at h2;split at h2
      ·rename_i a b e;rw[e];cases h2;rfl
      ·cases h2
     refine⟨m,ρ,S,r.1,r.2,E,R,h1,fun m1 H1 w A1 vd=>?_⟩;rw[hd] at vd;obtain⟨p,vs,rfl,sq,vds⟩:=vd.tups;obtain⟨x,y,rfl,vx,vy⟩:=kB vds;refine⟨p,[x,y],rfl,.of sq,rfl,x,[y],rfl,vC (E.mono R A1.ext) A1.rel vx h3 fun m2 H2 A2=>⟨y,[],rfl,vC (E.mono R (A1.trans A2).ext) A2.rel (vy.mono A1.rel A2.ext) h4 fun m3 H3 A3=>⟨rfl,?_⟩⟩⟩;exact z m3 H3 ((A1.trans A2).trans A3) σ (E.mono R ((A1.trans A2).trans A3).ext)
noncomputable def dA(nx:Nxt)(tg:Tg)(b:XS):Nat->Nat->XS
 |0,_=>fun _ _=>none
 |k+1,i=>fun ρ S=>match nx i S with
  |none=>none
  |some none=>some (.nx,ρ,S)
  |some (some d)=>match aG tg d ρ with
   |none=>none
   |some ρ1=>match b ρ1 S with
    |none=>none
    |some (.nx,ρ2,S2)=>dA nx tg b k (i+1) ρ2 S2
    |some (.ct,ρ2,S2)=>dA nx tg b k (i+1) ρ2 S2
    |some (.bk,ρ2,S2)=>some (.nx,ρ2,S2)
    |some (.rt d,ρ2,S2)=>some (.rt d,ρ2,S2)
noncomputable def vD(it:XI)(tg:Tg)(b:XS)(k:Nat):XS:=fun ρ S=>match it ρ S with
 |none=>none
 |some (nx,S1)=>dA nx tg b k 0 ρ S1
theorem zG{nx:Nxt}{tg:Tg}{b:XS}{J:It}{m1:List Addr}{H1:Hp}{D:Ends}(hI:IOk K [] J nx m1 H1)(k:Nat){m:List Addr}{ρ:Rho}{S:Sto}{σ:L2.St}{H:Hp}{fl:Fl}{ρ':Rho}{S':Sto}(E:EnvR K m H ρ σ)(R:Rel K m S H)(x:Ext m1 H1 m H)(e:dA nx tg b k 0 ρ S=some (fl,ρ',S'))(q:∀m' H',Aft K m H S' m' H'->qg K m' H' fl ρ' D) :
  ∃W:Nat->Nat->L2.St->Hp->Prop,(∃m,W 0 m σ H)/\∀i m σ H,W i m σ H ->
   (J.stop i H/\D.nx σ H)\/(J.go i H/\∃N:L2.St->Hp->Prop,(∀σ' H',N σ' H'->∃m',m' < m/\W (i+1) m' σ' H')/\∀x H',J.yld i H x H'->tTg K tg x σ H' fun σ2 H2=>tSt K b { D with nx:=N,ct:=N,bk:=D.nx } σ2 H2):=by
 refine⟨fun i k σ H=>∃m ρ S fl ρ' S',EnvR K m H ρ σ/\Rel K m S H/\Ext m1 H1 m H/\dA nx tg b k i ρ S=some (fl,ρ',S')/\∀m' H',Aft K m H S' m' H'->qg K m' H' fl ρ' D,⟨k,m,ρ,S,fl,ρ',S',E,R,x,e,q⟩,?_⟩;intro i k σ H ⟨m,ρ,S,fl,ρ',S',E,R,x,e,q⟩;cases k with
 |zero=>simp[dA] at e
 |succ k=>
  simp only[dA] at e;cases hn:nx i S with
  |none=>rw[hn] at e;cases e
  |some o=>
   rw[hn] at e;obtain⟨h1,h2⟩:=hI m S H i (x.toB fun b hb=>absurd hb (by simp)) R;cases o with
   |none=>cases e;exact .inl ⟨h1 hn,q m H (Aft.refl R) σ E⟩
   |some d=>
    obtain⟨go,hy⟩:=h2 d hn;dsimp only at e;cases hb:aG tg d ρ with
    |none=>rw[hb] at e;cases e
    |some ρ1=>
     rw[hb] at e;dsimp only at e;cases hx:b ρ1 S with
     |none=>rw[hx] at e;cases e
     |some r=>
      obtain⟨f2,ρ2,S2⟩:=r;rw[hx] at e;refine .inr ⟨go,fun σ' H'=>∃m ρ S fl ρ' S',EnvR K m H' ρ σ'/\Rel K m S H'/\Ext m1 H1 m H'/\dA nx tg b k (i+1) ρ S=some (fl,ρ',S')/\∀m' H'',Aft K m H' S' m' H''->qg K m' H'' fl ρ' D,fun σ' H' z=>⟨k,Yp k,z⟩,fun y H' yl=>?_⟩;obtain⟨A,vd⟩:=hy y H' yl;refine⟨m,S,ρ,d,ρ1,A.rel,E.mono R A.ext,vd,hb,fun σ2 E2=>⟨m,ρ1,S,f2,ρ2,S2,E2,A.rel,hx,fun m3 H3 A3=>?_⟩⟩;cases f2 with
      |nx=>exact fun σ3 E3=>⟨m3,ρ2,S2,fl,ρ',S',E3,A3.rel,(x.trans A.ext).trans A3.ext,e,fun m4 H4 A4=>q m4 H4 ((A.trans A3).trans A4)⟩
      |ct=>exact fun σ3 E3=>⟨m3,ρ2,S2,fl,ρ',S',E3,A3.rel,(x.trans A.ext).trans A3.ext,e,fun m4 H4 A4=>q m4 H4 ((A.trans A3).trans A4)⟩
      |bk=>cases e;exact fun σ3 E3=>q m3 H3 (A.trans A3) σ3 E3
      |rt d=>cases e;exact fun v vd=>q m3 H3 (A.trans A3) v vd
theorem EM{it:XI}{tg:Tg}{b:XS}{k:Nat}{D:Ends}{σ:L2.St}{H:Hp}(h:tSt K (vD it tg b k) D σ H):Iz (tIt K [] it) (tTg K tg) (tSt K b) D σ H:=by
 obtain⟨m,ρ,S,fl,ρ',S',E,R,e,q⟩:=h;unfold vD at e;cases hi:it ρ S with
 |none=>rw[hi] at e;cases e
 |some r=>
  obtain⟨nx,S1⟩:=r;rw[hi] at e;exact⟨m,ρ,S,nx,S1,E,R,fun b hb=>absurd hb (by simp),hi,fun m1 H1 J A1 hI=>zG hI k (E.mono R A1.ext) A1.rel (Ext.refl _ _) e fun m2 H2 A2=>q m2 H2 (A1.trans A2)⟩
noncomputable def cC(c:XT)(b:XS):Nat->XS
 |0=>fun _ _=>none
 |k+1=>fun ρ S=>match c ρ S with
  |none=>none
  |some (false,S1)=>some (.nx,ρ,S1)
  |some (true,S1)=>match b ρ S1 with
   |none=>none
   |some (.nx,ρ2,S2)=>cC c b k ρ2 S2
   |some (.ct,ρ2,S2)=>cC c b k ρ2 S2
   |some (.bk,ρ2,S2)=>some (.nx,ρ2,S2)
   |some (.rt d,ρ2,S2)=>some (.rt d,ρ2,S2)
theorem vE{c:XT}{b:XS}{k:Nat}{D:Ends}{σ:L2.St}{H:Hp}(h:tSt K (cC c b k) D σ H):ua (tT K c) (tSt K b) D σ H:=by
 refine⟨fun k σ H=>tSt K (cC c b k) D σ H,⟨k,h⟩,fun k σ H h=>?_⟩;obtain⟨m,ρ,S,fl,ρ',S',E,R,e,q⟩:=h;cases k with
 |zero=>simp[cC] at e
 |succ k=>
  simp only[cC] at e;cases hc:c ρ S with
  |none=>rw[hc] at e;cases e
  |some r=>
   obtain⟨bb,S1⟩:=r;rw[hc] at e;refine⟨m,ρ,S,bb,S1,E,R,hc,fun m1 H1 A1=>?_⟩;cases bb with
   |false=>cases e;exact q m1 H1 A1 σ (E.mono R A1.ext)
   |true=>
    dsimp only at e;cases hx:b ρ S1 with
    |none=>rw[hx] at e;cases e
    |some r=>
     obtain⟨f2,ρ2,S2⟩:=r;rw[hx] at e;refine⟨fun σ' H'=>tSt K (cC c b k) D σ' H',fun σ' H' z=>⟨k,Yp k,z⟩,m1,ρ,S1,f2,ρ2,S2,E.mono R A1.ext,A1.rel,hx,fun m3 H3 A3=>?_⟩;cases f2 with
     |nx=>exact fun σ3 E3=>⟨m3,ρ2,S2,fl,ρ',S',E3,A3.rel,e,fun m4 H4 A4=>q m4 H4 ((A1.trans A3).trans A4)⟩
     |ct=>exact fun σ3 E3=>⟨m3,ρ2,S2,fl,ρ',S',E3,A3.rel,e,fun m4 H4 A4=>q m4 H4 ((A1.trans A3).trans A4)⟩
     |bk=>cases e;exact fun σ3 E3=>q m3 H3 (A1.trans A3) σ3 E3
     |rt d=>cases e;exact fun v vd=>q m3 H3 (A1.trans A3) v vd
end
mutual
noncomputable def cz:Tg->Rho->Bool
 |.name i,ρ=>match ρ[i]? with
  |some none=>true
  |_=>false
 |.tup ts,ρ=>dB ts ρ
noncomputable def dB:List Tg->Rho->Bool
 |[],_=>true
 |t::ts,ρ=>cz t ρ && dB ts ρ
end
structure LeR(ρ ρ':Rho):Prop where
 len:ρ.length=ρ'.length
 at_:∀ (i:Nat) (d:D),ρ[i]?=some (some d)->ρ'[i]?=some (some d)
theorem LeR.refl(ρ:Rho):LeR ρ ρ:=⟨rfl,fun _ _ h=>h⟩
mutual
theorem mo:∀ {t:Tg} {d:D} {ρ ρ':Rho},LeR ρ0 ρ->cz t ρ0=true->aG t d ρ=some ρ'->LeR ρ0 ρ'
 |.name i,d,ρ,ρ',l,f,e=>by
  simp only[aG] at e;split at e
  ·cases e;refine⟨by simp[l.len],fun j d' h=>?_⟩;rw[Yb];by_cases hj:i=j
   ·subst hj;simp only[cz] at f;rw[h] at f;cases f
   ·rw[if_neg hj];exact l.at_ j d' h
  ·cases e
 |.tup ts,.tup ds,ρ,ρ',l,f,e=>by
  simp only[aG] at e;simp only[cz] at f;exact jK l f e
 |.tup ts,.non,_,_,_,_,e=>by simp[aG] at e
 |.tup ts,.bl _,_,_,_,_,e=>by simp[aG] at e
 |.tup ts,.int _,_,_,_,_,e=>by simp[aG] at e
 |.tup ts,.str _,_,_,_,_,e=>by simp[aG] at e
 |.tup ts,.ref _,_,_,_,_,e=>by simp[aG] at e
theorem jK:∀ {ts:List Tg} {ds:List D} {ρ ρ':Rho},LeR ρ0 ρ->dB ts ρ0=true->aB ts ds ρ=some ρ'->LeR ρ0 ρ'
 |[],[],ρ,ρ',l,_,e=>by simp only[aB] at e;cases e;exact l
 |[],_::_,_,_,_,_,e=>by simp[aB] at e
 |_::_,[],_,_,_,_,e=>by simp[aB] at e
 |t::ts,d::ds,ρ,ρ',l,f,e=>by
  simp only[aB] at e;simp only[dB,bAE] at f;cases hb:aG t d ρ with
  |none=>rw[hb] at e;cases e
  |some ρ1=>rw[hb] at e;exact jK (mo l f.1 hb) f.2 e
end
section
variable {X:Cx} {K:WN} {m:List Addr} {H:Hp} {S:Sto}
theorem EnvR.weaken(E:EnvR K m H ρ' σ)(l:LeR ρ ρ'):EnvR K m H ρ σ:=⟨l.len.trans E.len,fun i d h=>E.at_ i d (l.at_ i d h)⟩
noncomputable def bw(nx:Nxt)(tg:Tg)(c:XA)(ρ:Rho):Nat->Nat->Sto->Option (List D × Sto)
 |0,_,_=>none
 |k+1,i,S=>match nx i S with
  |none=>none
  |some none=>some ([],S)
  |some (some d)=>match aG tg d ρ with
   |none=>none
   |some ρ1=>bnd (c ρ1 S) fun es S1=>bnd (bw nx tg c ρ k (i+1) S1) fun rs S2=>some (es++rs,S2)
noncomputable def vF(t:XT)(c:XA):XA:=fun ρ S=>bnd (t ρ S) fun b S1=>if b=true then c ρ S1 else some ([],S1)
noncomputable def CB(x:XE):XA:=fun ρ S=>bnd (x ρ S) fun d S1=>some ([d],S1)
noncomputable def fX(it:XI)(tg:Tg)(c:XA)(k:Nat):XA:=fun ρ S=>if cz tg ρ=true then bnd (it ρ S) fun nx S1=>bw nx tg c ρ k 0 S1 else none
noncomputable def iL(own:Nat)(it:XI)(tg:Tg)(c:XA)(k:Nat):XA:=fun ρ S=>bnd (it ρ S) fun nx S1=>if cz tg (ρ++Zi own none)=true then
 (bnd (bw nx tg c (ρ++Zi own none) k 0 S1) fun es S2=>if es.length<=100000 then some (es,S2) else none) else none
def tCl(K:WN)(acc:Addr)(c:XA):TS:=fun D σ H=>∃m ρ S es S' zs vs,EnvR K m H ρ σ/\Rel K m S H/\acc ∉ m/\H acc=some (.lst vs)/\VDs K m H zs vs/\zs.length+es.length<=100000/\c ρ S=some (es,S') ∧
 ∀m' H' σ' vs',ExtB [acc] m H m' H'->Rel K m' S' H'->H' acc=some (.lst vs')->VDs K m' H' (zs++es) vs'->EnvR K m' H' ρ σ'->D.nx σ' H'
theorem vG(h:H acc=some (.lst vs))(n:acc ∉ m):AtB [acc] m H:=fun b hb=>by simp at hb;subst hb;exact⟨⟨vs,h⟩,n⟩
theorem ExtB.refl(n:acc ∉ m):ExtB [acc] m H m H:=⟨ZP m,fun _ _ h _ _=>h,fun _ h n=>absurd h n,fun b hb=>by simp at hb;subst hb;exact n⟩
theorem ExtB.put(n:acc ∉ m)(o:HO):ExtB [acc] m H m (upd H acc o):=⟨ZP m,fun a u h _ nb=>by
 rw[ah (fun z=>nb (by simp[z]))];exact h,fun _ h n=>absurd h n,fun b hb=>by simp at hb;subst hb;exact n⟩
theorem Rel.extB(R:Rel K m S H)(hB:AtB [acc] m H)(x:ExtB [acc] m H m H')(k:∀b ∈ m,H' b=H b):Rel K m S H':=by
 refine⟨R.len,R.nd,fun i o e=>?_⟩;obtain⟨b,hb,r⟩:=R.ob i o e;have hm:b ∈ m:=Zn hb;refine⟨b,hb,?_⟩;cases o with
 |lst ds=>obtain⟨vs,p,q⟩:=r;exact⟨vs,(k b hm).trans p,VDs.monoB R hB x q⟩
 |frz ds=>obtain⟨o,vs,p,q⟩:=r;exact⟨o,vs,(k b hm).trans p,VDs.monoB R hB x q⟩
 |dic ks ds=>obtain⟨vs,p,l,q⟩:=r;exact⟨vs,(k b hm).trans p,l,VDs.monoB R hB x q⟩
theorem zH{acc:Addr}{x:XE}{D:Ends}{σ:L2.St}{H:Hp}(h:tCl K acc (CB x) D σ H):Cu acc (tE K x) D σ H:=by
 obtain⟨m,ρ,S,es,S',zs,vs,E,R,na,ha,vz,hl,e,q⟩:=h;obtain⟨d,S1,e1,e⟩:=aa e;cases e;refine⟨m,ρ,S,d,_,E,R,e1,fun m1 H1 v A1 vd=>?_⟩;have hB:=vG ha na;have ha1:H1 acc=some (.lst vs):=A1.ext.keep _ _ ha na;have xB:=A1.ext.toB hB;have na1:acc ∉ m1:=xB.nb acc (by simp);have xp:=ExtB.put (H:=H1) na1 (.lst (vs++[v]));have hB1:=vG ha1 na1;have lz:=vz.length;simp only[YV] at hl;refine⟨vs,ha1,by rw[Uc];lia,q m1 _ σ (vs++[v]) (xB.trans xp) (A1.rel.extB hB1 xp fun b hb=>ah fun z=>na1 (z ▸ hb)) ak ?_ ((E.mono R A1.ext).monoB A1.rel hB1 xp)⟩;exact VDs.append ((vz.mono R A1.ext).monoB A1.rel hB1 xp) (.cons (vd.monoB A1.rel hB1 xp) .nil)
theorem zI{acc:Addr}{t:XT}{c:XA}{D:Ends}{σ:L2.St}{H:Hp}(h:tCl K acc (vF t c) D σ H):c7 (tT K t) (tCl K acc c) D σ H:=by
 obtain⟨m,ρ,S,es,S',zs,vs,E,R,na,ha,vz,hl,e,q⟩:=h;obtain⟨b,S1,e1,e⟩:=aa e;refine⟨m,ρ,S,b,S1,E,R,e1,fun m1 H1 A1=>?_⟩;have hB:=vG ha na;have ha1:H1 acc=some (.lst vs):=A1.ext.keep _ _ ha na;have xB:=A1.ext.toB hB;have na1:acc ∉ m1:=xB.nb acc (by simp);dsimp only;split
 ·rename_i hb;rw[if_pos hb] at e;exact⟨m1,ρ,S1,es,S',zs,vs,E.mono R A1.ext,A1.rel,na1,ha1,vz.mono R A1.ext,hl,e,fun m2 H2 σ2 vs2 x2 R2 h2 v2 E2=>q m2 H2 σ2 vs2 (xB.trans x2) R2 h2 v2 E2⟩
 ·rename_i hb;rw[if_neg hb] at e;cases e;refine q m1 H1 σ vs xB A1.rel ha1 ?_ (E.mono R A1.ext);rw[ZQ];exact vz.mono R A1.ext
theorem mq{t:TS}{D:Ends}{σ:L2.St}{H:Hp}(h:t D σ H):c7 yO t D σ H:=by
 show if true=true then t D σ H else D.nx σ H
 rw[if_pos rfl];exact h
theorem EN{acc:Addr}{c:XA}{D:Ends}{σ:L2.St}{H:Hp}(h:tCl K acc c D σ H):c7 yO (tCl K acc c) D σ H:=by
 exact mq h
theorem qi(hI:IOk K [acc] J nx m1 H1)(hts:∀D σ H,tCl K acc c D σ H->ts D σ H)(k:Nat)
  (fr:cz tg ρ=true) (E:EnvR K m H ρ σ) (R:Rel K m S H) (x:ExtB [acc] m1 H1 m H) (ha:H acc=some (.lst vs)) (vz:VDs K m H zs vs) (hl:zs.length+es.length<=100000) (e:bw nx tg c ρ k 0 S=some (es,S'))
  (q:∀m' H' σ' vs',ExtB [acc] m H m' H'->Rel K m' S' H'->H' acc=some (.lst vs')->VDs K m' H' (zs++es) vs'->EnvR K m' H' ρ σ'->EE.nx σ' H'):lu J (tTg K tg) ts EE σ H:=by
 refine⟨fun i k σ H=>∃m S S' es zs vs,EnvR K m H ρ σ/\Rel K m S H/\ExtB [acc] m1 H1 m H/\H acc=some (.lst vs)/\VDs K m H zs vs/\zs.length+es.length<=100000/\bw nx tg c ρ k i S=some (es,S') ∧
  ∀m' H' σ' vs',ExtB [acc] m H m' H'->Rel K m' S' H'->H' acc=some (.lst vs')->VDs K m' H' (zs++es) vs'->EnvR K m' H' ρ σ'->EE.nx σ' H',⟨k,m,S,S',es,zs,vs,E,R,x,ha,vz,hl,e,q⟩,?_⟩
 intro i k σ H ⟨m,S,S',es,zs,vs,E,R,x,ha,vz,hl,e,q⟩;have na:acc ∉ m:=x.nb acc (by simp);have hB:=vG ha na;cases k with
 |zero=>simp[bw] at e
 |succ k=>
  simp only[bw] at e;cases hn:nx i S with
  |none=>rw[hn] at e;cases e
  |some o=>
   rw[hn] at e;obtain⟨h1,h2⟩:=hI m S H i x R;cases o with
   |none=>
    cases e;exact .inl ⟨h1 hn,q m H σ vs (ExtB.refl na) R ha (by rw[ZQ];exact vz) E⟩
   |some d=>
    obtain⟨go,hy⟩:=h2 d hn;dsimp only at e;cases hb:aG tg d ρ with
    |none=>rw[hb] at e;cases e
    |some ρ1=>
     rw[hb] at e;dsimp only at e;obtain⟨e1,S1,c1,e⟩:=aa e;obtain⟨rs,S2,c2,e⟩:=aa e;cases e;rw[Zm] at hl
     refine .inr ⟨go,fun σ' H'=>∃m S S' es zs vs,EnvR K m H' ρ σ'/\Rel K m S H'/\ExtB [acc] m1 H1 m H'/\H' acc=some (.lst vs)/\VDs K m H' zs vs/\zs.length+es.length<=100000/\bw nx tg c ρ k (i+1) S=some (es,S') ∧
      ∀m' H'' σ' vs',ExtB [acc] m H' m' H''->Rel K m' S' H''->H'' acc=some (.lst vs')->VDs K m' H'' (zs++es) vs'->EnvR K m' H'' ρ σ'->EE.nx σ' H'',fun σ' H' z=>⟨k,Yp k,z⟩,fun y H' yl=>?_⟩
     obtain⟨A,vd⟩:=hy y H' yl;have xA:=A.ext.toB hB;have ha':H' acc=some (.lst vs):=A.ext.keep _ _ ha na;refine⟨m,S,ρ,d,ρ1,A.rel,E.mono R A.ext,vd,hb,fun σ2 E2=>hts _ _ _ ⟨m,ρ1,S,e1,S1,zs,vs,E2,A.rel,na,ha',vz.mono R A.ext,by lia,c1,fun m3 H3 σ3 vs3 x3 R3 h3 v3 E3=>?_⟩⟩;refine⟨m3,S1,_,rs,zs++e1,vs3,E3.weaken (mo (LeR.refl ρ) fr hb),R3,(x.trans xA).trans x3,h3,v3,by rw[Zm];lia,c2,fun m4 H4 σ4 vs4 x4 R4 h4 v4 E4=>?_⟩;refine q m4 H4 σ4 vs4 ((xA.trans x3).trans x4) R4 h4 ?_ E4;rw[<-Z9];exact v4
theorem vH{acc:Addr}{it:XI}{tg:Tg}{t:TT}{c c':XA}{k:Nat}{D:Ends}{σ:L2.St}{H:Hp}(hts:∀D σ H,tCl K acc c D σ H->c7 t (tCl K acc c') D σ H)(h:tCl K acc (fX it tg c k) D σ H):ux (tIt K [acc] it) (tTg K tg) t (tCl K acc c') D σ H:=by
 obtain⟨m,ρ,S,es,S',zs,vs,E,R,na,ha,vz,hl,e,q⟩:=h;unfold fX at e;split at e
 ·rename_i fr;obtain⟨nx,S1,e1,e⟩:=aa e;have hB:=vG ha na;refine⟨m,ρ,S,nx,S1,E,R,hB,e1,fun m1 H1 J A1 hI=>?_⟩;have xB:=A1.ext.toB hB;have na1:acc ∉ m1:=xB.nb acc (by simp);exact qi hI hts k fr (E.mono R A1.ext) A1.rel (ExtB.refl na1) (A1.ext.keep _ _ ha na) (vz.mono R A1.ext) hl e fun m2 H2 σ2 vs2 x2 R2 h2 v2 E2=>q m2 H2 σ2 vs2 (xB.trans x2) R2 h2 v2 E2
 ·cases e
theorem EnvR.more(E:EnvR K m H ρ σ)(n:Nat):EnvR K m H (ρ++Zi n none) (σ++Zi n none):=by
 refine⟨by simp[E.len],fun i d e=>?_⟩;by_cases hi:i < ρ.length
 ·rw[Zx hi] at e;rw[Zx (by rw[<-E.len];exact hi)];exact E.at_ i d e
 ·rw[Zu (by lia),Z4] at e;split at e <;> cases e
theorem qj{own:Nat}{k:Nat}(hts:∀acc D σ H,tCl K acc c D σ H->c7 t (tCl K acc c') D σ H)(h:cK K (iL own it tg c k) σ H Q):uy own (tIt K [] it) (tTg K tg) (fun acc=>c7 t (tCl K acc c')) σ H Q:=by
 obtain⟨m,ρ,S,es,S',E,R,e,q⟩:=h;obtain⟨nx,S1,e1,e⟩:=aa e;split at e
 ·rename_i fr;obtain⟨es',S2,e2,e⟩:=aa e;split at e
  ·rename_i hl;cases e;refine⟨m,ρ,S,nx,S1,E,R,fun b hb=>absurd hb (by simp),e1,fun m1 H1 J A1 hI acc hacc=>?_⟩;have x0:=Ext.beside A1.rel hacc (.lst []);have R0:=A1.rel.beside hacc (.lst []);have na:=A1.rel.no hacc
   have hI':IOk K [acc] J nx m1 (upd H1 acc (.lst [])):=by
    intro m2 S2 H2 i x2 R2;refine hI m2 S2 H2 i ⟨x2.pre,fun a o h n _=>?_,fun a h n=>?_,fun b hb=>absurd hb (by simp)⟩ R2
    ·have ne:a ≠ acc:=aJ h hacc;exact x2.keep a o (by rw[ah ne];exact h) n (by simp[ne])
    ·have:=x2.new a h n;by_cases hz:a=acc
     ·subst hz;exact hacc
     ·rw[ah hz] at this;exact this
   refine qi (zs:=[]) (vs:=[]) hI' (hts acc) k fr ((E.mono R A1.ext |>.mono A1.rel x0).more own) R0 (ExtB.refl na) ak .nil (by simpa using hl) e2 fun m2 H2 σ2 vs2 x2 R2 h2 v2 E2=>?_
   have xx:Ext m1 H1 m2 H2:=⟨x2.pre,fun a o h n=>by
    have ne:a ≠ acc:=aJ h hacc;exact x2.keep a o (by rw[ah ne];exact h) n (by simp[ne]),fun a h n=>by
    have:=x2.new a h n;by_cases hz:a=acc
    ·subst hz;exact hacc
    ·rw[ah hz] at this;exact this⟩
   have hn:H acc=none:=by
    cases eh:H acc with
    |none=>rfl
    |some o=>
     by_cases hm:acc ∈ m
     ·exact absurd (A1.ext.pre.subset hm) na
     ·have:=A1.ext.keep acc o eh hm;rw[hacc] at this;cases this
   exact q m2 H2 acc vs2 (A1.trans ⟨xx,R2⟩) h2 (x2.nb acc (by simp)) (fun b hb z=>na (A1.ext.pre.subset (z ▸ hb))) hn (by simpa using v2)
  ·cases e
 ·cases e
end
section
variable {X:Cx} {K:WN} {m:List Addr} {H:Hp} {S:Sto}
noncomputable def vI(x y:XE):XE:=fun ρ S=>bnd (x ρ S) fun d S1=>match d with
 |.bl true=>y ρ S1
 |.bl false=>some (.bl false,S1)
 |_=>none
noncomputable def xOr(x y:XE):XE:=fun ρ S=>bnd (x ρ S) fun d S1=>match d with
 |.bl true=>some (.bl true,S1)
 |.bl false=>y ρ S1
 |_=>none
noncomputable def sM:D->Sto->Option (D × Sto)
 |.bl b,S=>some (.bl (!b),S)
 |_,_=>none
noncomputable def EO:D->Sto->Option (D × Sto)
 |.int i,S=>some (.int (-i),S)
 |_,_=>none
noncomputable def ER(c:XT)(x y:XE):XE:=fun ρ S=>bnd (c ρ S) fun b S1=>if b=true then x ρ S1 else y ρ S1
theorem vJ(h:tE K (vI x y) σ H Q):Ch (tE K x) (tE K y) σ H Q:=by
 obtain⟨m,ρ,S,d,S',E,R,e,q⟩:=h;obtain⟨a,S1,e1,e⟩:=aa e;refine⟨m,ρ,S,a,S1,E,R,e1,fun m1 H1 v A1 va=>?_⟩;cases a with
 |bl b=>
  refine⟨b,va.bls,?_⟩;cases b with
  |true=>exact⟨m1,ρ,S1,d,S',E.mono R A1.ext,A1.rel,e,fun m2 H2 w A2 vd=>q m2 H2 w (A1.trans A2) vd⟩
  |false=>cases e;exact q m1 H1 _ A1 bB
 |_=>cases e
theorem CC(h:tE K (xOr x y) σ H Q):Ir (tE K x) (tE K y) σ H Q:=by
 obtain⟨m,ρ,S,d,S',E,R,e,q⟩:=h;obtain⟨a,S1,e1,e⟩:=aa e;refine⟨m,ρ,S,a,S1,E,R,e1,fun m1 H1 v A1 va=>?_⟩;cases a with
 |bl b=>
  refine⟨b,va.bls,?_⟩;cases b with
  |false=>exact⟨m1,ρ,S1,d,S',E.mono R A1.ext,A1.rel,e,fun m2 H2 w A2 vd=>q m2 H2 w (A1.trans A2) vd⟩
  |true=>cases e;exact q m1 H1 _ A1 bB
 |_=>cases e
theorem ES(h:tE K (xUn sM x) σ H Q):Ci (tE K x) σ H Q:=by
 obtain⟨m,ρ,S,d,S',E,R,e,q⟩:=h;obtain⟨a,S1,e1,e⟩:=aa e;refine⟨m,ρ,S,a,S1,E,R,e1,fun m1 H1 v A1 va=>?_⟩;cases a with
 |bl b=>cases e;exact⟨b,va.bls,q m1 H1 _ A1 bB⟩
 |_=>cases e
theorem zJ:UnR X (unaryOp .USub) (rS1 X.K EO):=by
 intro pins s σ H x v Q I rx h;refine DP pins s σ H x v Q I rx ?_;obtain⟨m,S,a,d,S',R,va,e,q⟩:=h;cases a with
 |int i=>cases e;exact⟨i,va.ints,q m H _ (Aft.refl R) aQ⟩
 |_=>cases e
theorem ET(h:tE K (ER c x y) σ H Q):tIf (tT K c) (tE K x) (tE K y) σ H Q:=by
 obtain⟨m,ρ,S,d,S',E,R,e,q⟩:=h;obtain⟨b,S1,e1,e⟩:=aa e;refine⟨m,ρ,S,b,S1,E,R,e1,fun m1 H1 A1=>?_⟩;dsimp only;split
 ·rename_i hb;rw[if_pos hb] at e;exact⟨m1,ρ,S1,d,S',E.mono R A1.ext,A1.rel,e,fun m2 H2 w A2 vd=>q m2 H2 w (A1.trans A2) vd⟩
 ·rename_i hb;rw[if_neg hb] at e;exact⟨m1,ρ,S1,d,S',E.mono R A1.ext,A1.rel,e,fun m2 H2 w A2 vd=>q m2 H2 w (A1.trans A2) vd⟩
noncomputable def sN(f g:D->D->Sto->Option (D × Sto))(x y z:XE):XE:=fun ρ S=>bnd (x ρ S) fun a S1=>bnd (y ρ S1) fun b S2=>bnd (f a b S2) fun r S3=>match r with
 |.bl true=>bnd (z ρ S3) fun c S4=>g b c S4
 |.bl false=>some (.bl false,S3)
 |_=>none
theorem vK(h:tE K (sN f g x y z) σ H Q):nA (rS K f) (rS K g) (tE K x) (tE K y) (tE K z) σ H Q:=by
 obtain⟨m,ρ,S,d,S',E,R,e,q⟩:=h;obtain⟨a,S1,e1,e⟩:=aa e;obtain⟨b,S2,e2,e⟩:=aa e;obtain⟨r,S3,e3,e⟩:=aa e;refine⟨m,ρ,S,a,S1,E,R,e1,fun m1 H1 v A1 va=>⟨m1,ρ,S1,b,S2,E.mono R A1.ext,A1.rel,e2,fun m2 H2 w A2 vb=>?_⟩⟩;refine⟨m2,S2,a,b,r,S3,A2.rel,va.mono A1.rel A2.ext,vb,e3,fun m3 H3 u A3 vr=>?_⟩;cases r with
 |bl k=>
  refine⟨k,vr.bls,?_⟩;cases k with
  |true=>
   dsimp only at e;obtain⟨c,S4,e4,e⟩:=aa e;exact⟨m3,ρ,S3,c,S4,E.mono R ((A1.trans A2).trans A3).ext,A3.rel,e4,fun m4 H4 y A4 vc=>⟨m4,S4,b,c,d,S',A4.rel,vb.mono A2.rel (A3.trans A4).ext,vc,e,fun m5 H5 t A5 vd=>q m5 H5 t ((((A1.trans A2).trans A3).trans A4).trans A5) vd⟩⟩
  |false=>cases e;exact q m3 H3 _ ((A1.trans A2).trans A3) bB
 |_=>cases e
noncomputable def vL(x y:XT):XT:=fun ρ S=>bnd (x ρ S) fun b S1=>if b=true then y ρ S1 else some (false,S1)
noncomputable def EU(x y:XT):XT:=fun ρ S=>bnd (x ρ S) fun b S1=>if b=true then some (true,S1) else y ρ S1
noncomputable def vM(x:XT):XT:=fun ρ S=>bnd (x ρ S) fun b S1=>some (!b,S1)
theorem vN(h:tT K (vL x y) σ H Q):Ip (tT K x) (tT K y) σ H Q:=by
 obtain⟨m,ρ,S,d,S',E,R,e,q⟩:=h;obtain⟨b,S1,e1,e⟩:=aa e;refine⟨m,ρ,S,b,S1,E,R,e1,fun m1 H1 A1=>?_⟩;dsimp only;split
 ·rename_i hb;rw[if_pos hb] at e;exact⟨m1,ρ,S1,d,S',E.mono R A1.ext,A1.rel,e,fun m2 H2 A2=>q m2 H2 (A1.trans A2)⟩
 ·rename_i hb;rw[if_neg hb] at e;cases e;exact q m1 H1 A1
theorem CD(h:tT K (EU x y) σ H Q):tOr (tT K x) (tT K y) σ H Q:=by
 obtain⟨m,ρ,S,d,S',E,R,e,q⟩:=h;obtain⟨b,S1,e1,e⟩:=aa e;refine⟨m,ρ,S,b,S1,E,R,e1,fun m1 H1 A1=>?_⟩;dsimp only;split
 ·rename_i hb;rw[if_pos hb] at e;cases e;exact q m1 H1 A1
 ·rename_i hb;rw[if_neg hb] at e;exact⟨m1,ρ,S1,d,S',E.mono R A1.ext,A1.rel,e,fun m2 H2 A2=>q m2 H2 (A1.trans A2)⟩
theorem EV(h:tT K (vM x) σ H Q):Iq (tT K x) σ H Q:=by
 obtain⟨m,ρ,S,d,S',E,R,e,q⟩:=h;obtain⟨b,S1,e1,e⟩:=aa e;cases e;exact⟨m,ρ,S,b,_,E,R,e1,fun m1 H1 A1=>q m1 H1 A1⟩
abbrev Calls:=Nat->List D->Sto->Option (D × Sto)
def spC(K:WN)(g:List D->Sto->Option (D × Sto))(n:Nat):Sp:=fun vs H Q _=>∃m ds S d S',VDs K m H ds vs/\Rel K m S H/\ds.length=n/\g ds S=some (d,S')/\∀m' H' v,Aft K m H S' m' H'->VD K m' H' d v->Q v H'
noncomputable def mr(g:List D->Sto->Option (D × Sto))(n:Nat)(x:XA):XE:=fun ρ S=>bnd (x ρ S) fun ds S1=>if ds.length=n then g ds S1 else none
theorem zK{n:Nat}(h:tE K (mr g n x) σ H Q):Cs (spC K g n) [] E0 (tAr K x) σ H Q:=by
 obtain⟨m,ρ,S,d,S',E,R,e,q⟩:=h;obtain⟨ds,S1,e1,e⟩:=aa e;split at e
 ·rename_i hl;refine⟨m,ρ,S,ds,S1,E,R,e1,fun m1 H1 vs A1 vd=>⟨m1,ds,S1,d,S',by rw[ZQ];exact vd,A1.rel,hl,e,fun m2 H2 v A2 vv=>q m2 H2 v (A1.trans A2) vv⟩⟩
 ·cases e
end
noncomputable def rgV(a b:Int):List V:=(ZI (b - a).toNat).map fun(i:Nat)=>V.int (a+i)
section
variable {X:Cx}
theorem kG:au X (.type "range") (fun xs H Q=>∃i j:Int,xs=[.int i,.int j]/\∀p,H p=none->Q (.ref p) (upd H p (.rng i j))):=by
 intro pins s σ H xs us Q I r h;obtain⟨i,j,rfl,q⟩:=h;cases r with
 |cons r1 rs=>
  cases rs with
  |cons r2 rs=>
   cases rs;obtain⟨t,rfl⟩:=r1;obtain⟨u,rfl⟩:=r2;exact call_range_2 ⟨.ref s.heap.objs.size,_,I.laid (t':=s.toks+1) (o:=.rng i j) (fun b o e=>Za _ e) (Zh _) ⟨_,_,_,Zp _ rfl⟩,rfl,q _ (I.hok.fresh (Zh _))⟩
theorem qk(lo:Int):∀ (m k:Nat) (l:List Value),l.length=m->(∀ (j:Nat) x,l[j]?=some x->∃tk,x=Value.int (lo+((k+j:Nat):Int)) tk)->ax ((List.range' k m).map fun(i:Nat)=>V.int (lo+i)) l
 |0,k,l,hl,_=>by cases l with |nil=>exact .nil |cons _ _=>cases hl
 |m+1,k,l,hl,hx=>by
  cases l with
  |nil=>cases hl
  |cons x l=>
   rw[List.range'_succ,Zq];obtain⟨t,e⟩:=hx 0 x rfl;refine .cons ⟨t,by simpa using e⟩ (qk lo m (k+1) l (by simpa using hl) fun j y hy=>?_);obtain⟨t',e'⟩:=hx (j+1) y (by simpa using hy);exact⟨t',by rw[e',show((k+(j+1):Nat):Int)=((k+1+j:Nat):Int) from by lia]⟩
theorem jj(hc:X.calm=true):au X (.type "list") (fun xs H Q=>∃ (p:Addr) (a b:Int),xs=[.ref p]/\H p=some (.rng a b)/\-100000<=a/\a<=b/\b<=a+1000/\a<=100000/\∀l,H l=none->Q (.ref l) (upd H l (.lst (rgV a b)))):=by
 intro pins s σ H xs us Q I r h;obtain⟨p,a,b,rfl,hp,h1,h2,h3,h4,q⟩:=h;obtain⟨u,rfl,ru⟩:=bq r;cases ru;obtain⟨t,u,v,e⟩:=(show aX X.prog X.w H s.heap p (.rng a b) from I.hok p _ hp);have hsm:Builtin.Range.small a b 1=true:=small_one (by lia) (by lia) (by lia) (by lia);refine call_list_range (n:=(b - a).toNat) (I.ok.hd hc) e hsm (by rw[V5];split <;> lia) (by lia) fun h' tk acc' c' hk hS' hacc=>?_;refine⟨.ref s.heap.objs.size,_,I.laid (t':=tk) (o:=.lst (rgV a b)) hk (Zh _) ?_,rfl,q _ (I.hok.fresh (Zh _))⟩;have hsz:acc'.size=(b - a).toNat:=hacc.1;refine⟨by unfold rgV;rw[Ze,Xa];exact Yy (jz (by lia)),acc'.toList,c',?_,by simpa using hS'⟩;unfold rgV;rw[List.range_eq_range'];refine qk a _ 0 acc'.toList (by simpa using hsz) fun j x hx=>?_;obtain⟨tk',e⟩:=hacc.2 j x (by simpa using hx);exact⟨tk',by rw[e,show a+(j:Nat) * 1=a+((0+j:Nat):Int) from by lia]⟩
end
mutual
inductive CE where
 |non |bl (b:Bool) |int (i:Int) |str (x:Str) |var (i:Nat) |con (k:Nat) (v:Int)
 |tup (es:List CE) |lst (es:List CE) |dic0 |dic1 (i j:Int)
 |bin (o:BOp) (a b:CE) |neg (a:CE)
 |cmp (o:COp) (a b:CE) |chn (o p:COp) (a b c:CE)
 |and (a b:CE) |or (a b:CE) |not (a:CE) |ite (c a b:CE)
 |ix (a b:CE) |sl (a:CE) (lo hi:Option CE)
 |call (f:Nat) (es:List CE)
 |inst (t:Ty) (a:CE)
 |len (a:CE) |all (a:CE) |any (a:CE) |tupOf (a:CE) |listOf (a:CE) |listR (a:CE) |listR2 (a b:CE) |srt (a:CE) |mxL (a:CE) |mxD (a:CE) (c:Int) |mnL (a:CE) |sm (a:CE) |intOf (a:CE) |strI (a:CE) |mx (a b:CE) |mn (a b:CE) |rep (a:CE)
 |comp (own:List Str) (elt:CE) (cls:List Cl)
 |app (o e:CE) |ext (o e:CE) |pop (o:CE) |popAt (o e:CE) |ins (o i e:CE) |cnt (o e:CE) |join (o e:CE)
inductive CI where
 |val (a:CE) |r1 (a:CE) |r2 (a b:CE) |en (a:CE) |zp (a b:CE)
inductive Cl where
 |mk (tg:Tg) (it:CI) (cond:Option CE)
end
noncomputable def ac:CE->Bool
 |.lst _=>true |.comp _ _ _=>true |.listOf _=>true |.listR _=>true |.listR2 _ _=>true |.srt _=>true
 |_=>false
noncomputable def LF:Nat:=1000000
noncomputable def xNo{α:Type}:Rho->Sto->Option (α × Sto):=fun _ _=>none
noncomputable def iM(x:XE):XA:=fun ρ S=>bnd (x ρ S) fun d S1=>(aM d S1).map fun r=>(r.2,S1)
noncomputable def cN(tu:Bool)(ds:List D):Option (List D):=if tu=false then zn tu ds else none
noncomputable def sO(f:Bool->List D->Option (List D))(x:XA):XA:=fun ρ S=>bnd (x ρ S) fun ds S1=>(f false ds).map fun es=>(es,S1)
noncomputable def sP(f:Bool->List D->Option (List D))(x:XE):XA:=fun ρ S=>bnd (x ρ S) fun d S1=>match aM d S1 with
 |some r=>(f r.1 r.2).map fun es=>(es,S1)
 |none=>none
noncomputable def vO(i:Int):Key:=Sum.inl i
noncomputable def sQ(x:XE):XA:=fun ρ S=>bnd (x ρ S) fun d S1=>match d with
 |.int i=>if 0<=i/\i<=1000 then some ((ZI i.toNat).map fun j=>.int (Int.ofNat j),S1) else none
 |_=>none
noncomputable def rgD(a b:Int):List D:=(ZI (b - a).toNat).map fun(i:Nat)=>D.int (a+i)
noncomputable def jL(x y:XE):XA:=fun ρ S=>bnd (x ρ S) fun d S1=>bnd (y ρ S1) fun e S2=>match d,e with
 |.int i,.int j=>if -100000<=i/\i<=j/\j<=i+1000/\i<=100000 then some (rgD i j,S2) else none
 |_,_=>none
noncomputable def vP:XE:=fun _ S=>some (.ref S.length,S++[.dic [] []])
noncomputable def vQ(i j:Int):XE:=fun _ S=>some (.ref S.length,S++[.dic [vO i] [.int j]])
noncomputable def cnd(t:CE->XT):Option CE->XA->XA
 |some c,x=>vF (t c) x
 |none,x=>x
noncomputable def opt(t:CE->XE):Option CE->XO
 |some l=>oi (t l)
 |none=>oh
mutual
noncomputable def evE(C:Calls)(ar:Nat->Nat):Nat->CE->XE
 |0,_=>xNo
 |n+1,e=>match e with
  |.non=>xC .non
  |.bl b=>xC (.bl b)
  |.int i=>xC (.int i)
  |.str x=>xC (.str x)
  |.var i=>rR i
  |.con _ v=>xC (.int v)
  |.tup es=>gC gD (evA C ar n es)
  |.lst es=>cg (jD (evA C ar n es))
  |.dic0=>vP
  |.dic1 i j=>vQ i j
  |.bin o a b=>lJ (bv o) (evE C ar n a) (evE C ar n b)
  |.neg a=>xUn EO (evE C ar n a)
  |.cmp o a b=>lJ (aF o) (evE C ar n a) (evE C ar n b)
  |.chn o p a b c=>sN (aF o) (aF p) (evE C ar n a) (evE C ar n b) (evE C ar n c)
  |.and a b=>vI (evE C ar n a) (evE C ar n b)
  |.or a b=>xOr (evE C ar n a) (evE C ar n b)
  |.not a=>xUn sM (evE C ar n a)
  |.ite c a b=>ER (evT C ar n c) (evE C ar n a) (evE C ar n b)
  |.ix a b=>if ac a=true then nZ (bJ C ar n a) (evE C ar n b) else lJ ixS (evE C ar n a) (evE C ar n b)
  |.sl a lo hi=>xSl (evE C ar n a) (opt (evE C ar n) lo) (opt (evE C ar n) hi)
  |.call f es=>mr (C f) (ar f) (evA C ar n es)
  |.inst t a=>xUn (lU t) (evE C ar n a)
  |.len a=>if ac a=true then ik ir (bJ C ar n a) else il ir (evE C ar n a)
  |.all a=>if ac a=true then ik lQ (bJ C ar n a) else il lQ (evE C ar n a)
  |.any a=>if ac a=true then ik lR (bJ C ar n a) else il lR (evE C ar n a)
  |.tupOf a=>if ac a=true then ik lP (bJ C ar n a) else il lP (evE C ar n a)
  |.listOf a=>cg (if ac a=true then bJ C ar n a else iM (evE C ar n a))
  |.listR a=>cg (sQ (evE C ar n a))
  |.listR2 a b=>cg (jL (evE C ar n a) (evE C ar n b))
  |.srt a=>cg (if ac a=true then sO cN (bJ C ar n a) else sP cN (evE C ar n a))
  |.mxL a=>if ac a=true then ik l3 (bJ C ar n a) else il l3 (evE C ar n a)
  |.mxD a c=>if ac a=true then ik (gw c) (bJ C ar n a) else il (gw c) (evE C ar n a)
  |.mnL a=>if ac a=true then ik ma (bJ C ar n a) else il ma (evE C ar n a)
  |.sm a=>if ac a=true then ik md (bJ C ar n a) else il md (evE C ar n a)
  |.intOf a=>xUn zq (evE C ar n a)
  |.strI a=>xUn oJ (evE C ar n a)
  |.mx a b=>gC (two uS) (evA C ar n [a,b])
  |.mn a b=>gC (two uT) (evA C ar n [a,b])
  |.rep a=>xUn mh (evE C ar n a)
  | .comp own elt cls=>cg (match cls with
   |[]=>xNo
   | ⟨tg,it,cond⟩::rest=>iL own.length (evI C ar n it) tg (cnd (evT C ar n) cond (ef C ar n elt rest)) LF)
  |.app o a=>ji bS u5 (evE C ar n o) (evA C ar n [a])
  |.ext o a=>ji bS vh (evE C ar n o) (evA C ar n [a])
  |.pop o=>ji bS u6 (evE C ar n o) rT
  |.popAt o a=>ji bS iC (evE C ar n o) (evA C ar n [a])
  |.ins o i a=>ji bS vg (evE C ar n o) (evA C ar n [i,a])
  |.cnt o a=>ji (fun d _=>isTup d) u7 (evE C ar n o) (evA C ar n [a])
  |.join o a=>ji (fun d _=>qd d) iH (evE C ar n o) (evA C ar n [a])
noncomputable def evA(C:Calls)(ar:Nat->Nat):Nat->List CE->XA
 |0,_=>xNo
 |n+1,es=>match es with
  |[]=>rT
  |e::es=>p7 (evE C ar n e) (evA C ar n es)
noncomputable def bJ(C:Calls)(ar:Nat->Nat):Nat->CE->XA
 |0,_=>xNo
 |n+1,e=>match e with
  |.lst es=>jD (evA C ar n es)
  |.listOf a=>if ac a=true then bJ C ar n a else iM (evE C ar n a)
  |.listR a=>sQ (evE C ar n a)
  |.listR2 a b=>jL (evE C ar n a) (evE C ar n b)
  |.srt a=>if ac a=true then sO cN (bJ C ar n a) else sP cN (evE C ar n a)
  |.comp own elt cls=>match cls with
   |[]=>xNo
   |⟨tg,it,cond⟩::rest=>iL own.length (evI C ar n it) tg (cnd (evT C ar n) cond (ef C ar n elt rest)) LF
  |_=>xNo
noncomputable def ef(C:Calls)(ar:Nat->Nat):Nat->CE->List Cl->XA
 |0,_,_=>xNo
 |n+1,elt,cls=>match cls with
  |[]=>CB (evE C ar n elt)
  |⟨tg,it,cond⟩::rest=>fX (evI C ar n it) tg (cnd (evT C ar n) cond (ef C ar n elt rest)) LF
noncomputable def evI(C:Calls)(ar:Nat->Nat):Nat->CI->XI
 |0,_=>xNo
 |n+1,it=>match it with
  |.val a=>if ac a=true then xIT (bJ C ar n a) else xIV (evE C ar n a)
  |.r1 a=>xR1 (evE C ar n a)
  |.r2 a b=>xR2 (evE C ar n a) (evE C ar n b)
  |.zp a b=>EF (evE C ar n a) (evE C ar n b)
  |.en a=>if ac a=true then xET (bJ C ar n a) else xEV (evE C ar n a)
noncomputable def evT(C:Calls)(ar:Nat->Nat):Nat->CE->XT
 |0,_=>xNo
 |n+1,e=>match e with
  |.cmp o a b=>xB (lJ (aF o) (evE C ar n a) (evE C ar n b))
  |.chn o p a b c=>xB (sN (aF o) (aF p) (evE C ar n a) (evE C ar n b) (evE C ar n c))
  |.and a b=>vL (evT C ar n a) (evT C ar n b)
  |.or a b=>EU (evT C ar n a) (evT C ar n b)
  |.not a=>vM (evT C ar n a)
  |.ite _ _ _=>xNo
  |e=>zi (evE C ar n e)
end
structure Tab where
 con:List (Str × Int)
 fns:List (Str × Nat)
structure Blk where
 sc:Scope
 fs:Option Scope
 N:List Str
noncomputable def Blk.glo(b:Blk)(x:Str):Bool:=b.sc.names.lookup x == some .globalImplicit && !(x == ("__debug__" : Str))
noncomputable def Blk.vis(b:Blk)(x:Str):Bool:=(match b.sc.names.lookup x with
 |some .local=>true
 |some .cell=>true
 |some .free=>true
 | _=>false) && !(x == ("__debug__" : Str)) && !(x == ("__classdict__" : Str))
noncomputable def Blk.own(b:Blk)(x:Str):Bool:=match b.sc.names.lookup x with
 |some .local=>true
 | some .cell=>(match b.fs with
  |none=>true
  | some sc=>sc.names.lookup x == some .cell)
 |_=>false
theorem bc{P:Prop}[Decidable P]{f:P->Bool}(h:(if p:P then f p else false)=true):∃p,f p=true:=by
 by_cases p:P
 ·rw[dif_pos p] at h;exact⟨p,h⟩
 ·rw[dif_neg p] at h;cases h
theorem an2{a b:Bool}(h:(a && b)=true):a=true/\b=true:=by cases a;cases h;exact⟨rfl,h⟩
theorem an3{a b c:Bool}(h:(a && b && c)=true):a=true/\b=true/\c=true:=⟨(an2 (an2 h).1).1,(an2 (an2 h).1).2,(an2 h).2⟩
theorem an4{a b c d:Bool}(h:(a && b && c && d)=true):a=true/\b=true/\c=true/\d=true:=⟨(an3 (an2 h).1).1,(an3 (an2 h).1).2.1,(an3 (an2 h).1).2.2,(an2 h).2⟩
theorem an5{a b c d e:Bool}(h:(a && b && c && d && e)=true):a=true/\b=true/\c=true/\d=true/\e=true:=⟨(an4 (an2 h).1).1,(an4 (an2 h).1).2.1,(an4 (an2 h).1).2.2.1,(an4 (an2 h).1).2.2.2,(an2 h).2⟩
theorem an6{a b c d e f:Bool}(h:(a && b && c && d && e && f)=true):a=true/\b=true/\c=true/\d=true/\e=true/\f=true:=⟨(an5 (an2 h).1).1,(an5 (an2 h).1).2.1,(an5 (an2 h).1).2.2.1,(an5 (an2 h).1).2.2.2.1,(an5 (an2 h).1).2.2.2.2,(an2 h).2⟩
noncomputable def l1{α:Type}(l:List α)(k:α->Bool):Bool:=match l with
 |[]=>false
 |x::t=>t.isEmpty && k x
noncomputable def lC{α:Type}(l:List α)(k:α->List α->Bool):Bool:=match l with
 |[]=>false
 |x::t=>k x t
theorem bE{α:Type}{l:List α}{k:α->List α->Bool}(h:lC l k=true):∃x t,l=x::t/\k x t=true:=by
 cases l with
 |nil=>cases h
 |cons x t=>exact⟨x,t,rfl,h⟩
theorem bH{α:Type}{l:List α}(h:l.isEmpty=true):l=[]:=by cases l;rfl;cases h
theorem bC{α:Type}{l:List α}{k:α->Bool}(h:l1 l k=true):∃x,l=[x]/\k x=true:=by
 cases l with
 |nil=>cases h
 |cons x t=>obtain⟨h1,h2⟩:=an2 h;cases bH h1;exact⟨x,rfl,h2⟩
noncomputable def ao(e:Expr):Bool:=!(e.ctorIdx == 22 || e.ctorIdx == 26 || e.ctorIdx == 7)
noncomputable def kH(e:Expr)(k:BoolOp->List Expr->Pos->Bool):Bool:=if h:e.ctorIdx=0 then @Expr.BoolOp.elim (fun _=>Bool) e h k else false
theorem jM{e:Expr}{k:BoolOp->List Expr->Pos->Bool}(h:kH e k=true):∃x0 x1 x2,e = .BoolOp x0 x1 x2/\k x0 x1 x2=true:=by
 obtain⟨h1,h⟩:=bc h;exact Expr.BoolOp.elim (motive_1:=fun e=>∀h',@Expr.BoolOp.elim (fun _=>Bool) e h' k=true->∃x0 x1 x2,e = .BoolOp x0 x1 x2/\k x0 x1 x2=true) e h1 (fun x0 x1 x2 _ hh=>⟨x0,x1,x2,rfl,hh⟩) h1 h
noncomputable def vR(e:Expr)(k:Expr->Wv->Expr->Pos->Bool):Bool:=if h:e.ctorIdx=2 then @Expr.BinOp.elim (fun _=>Bool) e h k else false
theorem vS{e:Expr}{k:Expr->Wv->Expr->Pos->Bool}(h:vR e k=true):∃x0 x1 x2 x3,e = .BinOp x0 x1 x2 x3/\k x0 x1 x2 x3=true:=by
 obtain⟨h1,h⟩:=bc h;exact Expr.BinOp.elim (motive_1:=fun e=>∀h',@Expr.BinOp.elim (fun _=>Bool) e h' k=true->∃x0 x1 x2 x3,e = .BinOp x0 x1 x2 x3/\k x0 x1 x2 x3=true) e h1 (fun x0 x1 x2 x3 _ hh=>⟨x0,x1,x2,x3,rfl,hh⟩) h1 h
noncomputable def fq(e:Expr)(k:UnaryOp->Expr->Pos->Bool):Bool:=if h:e.ctorIdx=3 then @Expr.UnaryOp.elim (fun _=>Bool) e h k else false
theorem iO{e:Expr}{k:UnaryOp->Expr->Pos->Bool}(h:fq e k=true):∃x0 x1 x2,e = .UnaryOp x0 x1 x2/\k x0 x1 x2=true:=by
 obtain⟨h1,h⟩:=bc h;exact Expr.UnaryOp.elim (motive_1:=fun e=>∀h',@Expr.UnaryOp.elim (fun _=>Bool) e h' k=true->∃x0 x1 x2,e = .UnaryOp x0 x1 x2/\k x0 x1 x2=true) e h1 (fun x0 x1 x2 _ hh=>⟨x0,x1,x2,rfl,hh⟩) h1 h
noncomputable def vT(e:Expr)(k:Expr->Expr->Expr->Pos->Bool):Bool:=if h:e.ctorIdx=5 then @Expr.IfExp.elim (fun _=>Bool) e h k else false
theorem vU{e:Expr}{k:Expr->Expr->Expr->Pos->Bool}(h:vT e k=true):∃x0 x1 x2 x3,e = .IfExp x0 x1 x2 x3/\k x0 x1 x2 x3=true:=by
 obtain⟨h1,h⟩:=bc h;exact Expr.IfExp.elim (motive_1:=fun e=>∀h',@Expr.IfExp.elim (fun _=>Bool) e h' k=true->∃x0 x1 x2 x3,e = .IfExp x0 x1 x2 x3/\k x0 x1 x2 x3=true) e h1 (fun x0 x1 x2 x3 _ hh=>⟨x0,x1,x2,x3,rfl,hh⟩) h1 h
noncomputable def vV(e:Expr)(k:List (Option Expr)->List Expr->Pos->Bool):Bool:=if h:e.ctorIdx=6 then @Expr.Dict.elim (fun _=>Bool) e h k else false
theorem ql{e:Expr}{k:List (Option Expr)->List Expr->Pos->Bool}(h:vV e k=true):∃x0 x1 x2,e = .Dict x0 x1 x2/\k x0 x1 x2=true:=by
 obtain⟨h1,h⟩:=bc h;exact Expr.Dict.elim (motive_1:=fun e=>∀h',@Expr.Dict.elim (fun _=>Bool) e h' k=true->∃x0 x1 x2,e = .Dict x0 x1 x2/\k x0 x1 x2=true) e h1 (fun x0 x1 x2 _ hh=>⟨x0,x1,x2,rfl,hh⟩) h1 h
noncomputable def fY(e:Expr)(k:Expr->List X0->Scope->Pos->Bool):Bool:=if h:e.ctorIdx=8 then @Expr.ListComp.elim (fun _=>Bool) e h k else false
theorem gx{e:Expr}{k:Expr->List X0->Scope->Pos->Bool}(h:fY e k=true):∃x0 x1 x2 x3,e = .ListComp x0 x1 x2 x3/\k x0 x1 x2 x3=true:=by
 obtain⟨h1,h⟩:=bc h;exact Expr.ListComp.elim (motive_1:=fun e=>∀h',@Expr.ListComp.elim (fun _=>Bool) e h' k=true->∃x0 x1 x2 x3,e = .ListComp x0 x1 x2 x3/\k x0 x1 x2 x3=true) e h1 (fun x0 x1 x2 x3 _ hh=>⟨x0,x1,x2,x3,rfl,hh⟩) h1 h
noncomputable def iP(e:Expr)(k:Expr->List CmpOp->List Expr->Pos->Bool):Bool:=if h:e.ctorIdx=15 then @Expr.Compare.elim (fun _=>Bool) e h k else false
theorem iQ{e:Expr}{k:Expr->List CmpOp->List Expr->Pos->Bool}(h:iP e k=true):∃x0 x1 x2 x3,e = .Compare x0 x1 x2 x3/\k x0 x1 x2 x3=true:=by
 obtain⟨h1,h⟩:=bc h;exact Expr.Compare.elim (motive_1:=fun e=>∀h',@Expr.Compare.elim (fun _=>Bool) e h' k=true->∃x0 x1 x2 x3,e = .Compare x0 x1 x2 x3/\k x0 x1 x2 x3=true) e h1 (fun x0 x1 x2 x3 _ hh=>⟨x0,x1,x2,x3,rfl,hh⟩) h1 h
noncomputable def qm(e:Expr)(k:Expr->List Expr->List Keyword->Pos->Bool):Bool:=if h:e.ctorIdx=16 then @Expr.Call.elim (fun _=>Bool) e h k else false
theorem qo{e:Expr}{k:Expr->List Expr->List Keyword->Pos->Bool}(h:qm e k=true):∃x0 x1 x2 x3,e = .Call x0 x1 x2 x3/\k x0 x1 x2 x3=true:=by
 obtain⟨h1,h⟩:=bc h;exact Expr.Call.elim (motive_1:=fun e=>∀h',@Expr.Call.elim (fun _=>Bool) e h' k=true->∃x0 x1 x2 x3,e = .Call x0 x1 x2 x3/\k x0 x1 x2 x3=true) e h1 (fun x0 x1 x2 x3 _ hh=>⟨x0,x1,x2,x3,rfl,hh⟩) h1 h
noncomputable def b8(e:Expr)(k:Const->Nat->Pos->Bool):Bool:=if h:e.ctorIdx=19 then @Expr.Constant.elim (fun _=>Bool) e h k else false
theorem bT{e:Expr}{k:Const->Nat->Pos->Bool}(h:b8 e k=true):∃x0 x1 x2,e = .Constant x0 x1 x2/\k x0 x1 x2=true:=by
 obtain⟨h1,h⟩:=bc h;exact Expr.Constant.elim (motive_1:=fun e=>∀h',@Expr.Constant.elim (fun _=>Bool) e h' k=true->∃x0 x1 x2,e = .Constant x0 x1 x2/\k x0 x1 x2=true) e h1 (fun x0 x1 x2 _ hh=>⟨x0,x1,x2,rfl,hh⟩) h1 h
noncomputable def cS(e:Expr)(k:Expr->Str->Pos->Bool):Bool:=if h:e.ctorIdx=20 then @Expr.Attribute.elim (fun _=>Bool) e h k else false
theorem cT{e:Expr}{k:Expr->Str->Pos->Bool}(h:cS e k=true):∃x0 x1 x2,e = .Attribute x0 x1 x2/\k x0 x1 x2=true:=by
 obtain⟨h1,h⟩:=bc h;exact Expr.Attribute.elim (motive_1:=fun e=>∀h',@Expr.Attribute.elim (fun _=>Bool) e h' k=true->∃x0 x1 x2,e = .Attribute x0 x1 x2/\k x0 x1 x2=true) e h1 (fun x0 x1 x2 _ hh=>⟨x0,x1,x2,rfl,hh⟩) h1 h
noncomputable def cm(e:Expr)(k:Expr->Expr->Pos->Bool):Bool:=if h:e.ctorIdx=21 then @Expr.Subscript.elim (fun _=>Bool) e h k else false
theorem bZ{e:Expr}{k:Expr->Expr->Pos->Bool}(h:cm e k=true):∃x0 x1 x2,e = .Subscript x0 x1 x2/\k x0 x1 x2=true:=by
 obtain⟨h1,h⟩:=bc h;exact Expr.Subscript.elim (motive_1:=fun e=>∀h',@Expr.Subscript.elim (fun _=>Bool) e h' k=true->∃x0 x1 x2,e = .Subscript x0 x1 x2/\k x0 x1 x2=true) e h1 (fun x0 x1 x2 _ hh=>⟨x0,x1,x2,rfl,hh⟩) h1 h
noncomputable def vW(e:Expr)(k:Str->Pos->Bool):Bool:=if h:e.ctorIdx=23 then @Expr.Name.elim (fun _=>Bool) e h k else false
theorem qp{e:Expr}{k:Str->Pos->Bool}(h:vW e k=true):∃x0 x1,e = .Name x0 x1/\k x0 x1=true:=by
 obtain⟨h1,h⟩:=bc h;exact Expr.Name.elim (motive_1:=fun e=>∀h',@Expr.Name.elim (fun _=>Bool) e h' k=true->∃x0 x1,e = .Name x0 x1/\k x0 x1=true) e h1 (fun x0 x1 _ hh=>⟨x0,x1,rfl,hh⟩) h1 h
noncomputable def CF(e:Expr)(k:List Expr->Pos->Bool):Bool:=if h:e.ctorIdx=24 then @Expr.List.elim (fun _=>Bool) e h k else false
theorem zL{e:Expr}{k:List Expr->Pos->Bool}(h:CF e k=true):∃x0 x1,e = .List x0 x1/\k x0 x1=true:=by
 obtain⟨h1,h⟩:=bc h;exact Expr.List.elim (motive_1:=fun e=>∀h',@Expr.List.elim (fun _=>Bool) e h' k=true->∃x0 x1,e = .List x0 x1/\k x0 x1=true) e h1 (fun x0 x1 _ hh=>⟨x0,x1,rfl,hh⟩) h1 h
noncomputable def vX(e:Expr)(k:List Expr->Nat->Pos->Bool):Bool:=if h:e.ctorIdx=25 then @Expr.Tuple.elim (fun _=>Bool) e h k else false
theorem vY{e:Expr}{k:List Expr->Nat->Pos->Bool}(h:vX e k=true):∃x0 x1 x2,e = .Tuple x0 x1 x2/\k x0 x1 x2=true:=by
 obtain⟨h1,h⟩:=bc h;exact Expr.Tuple.elim (motive_1:=fun e=>∀h',@Expr.Tuple.elim (fun _=>Bool) e h' k=true->∃x0 x1 x2,e = .Tuple x0 x1 x2/\k x0 x1 x2=true) e h1 (fun x0 x1 x2 _ hh=>⟨x0,x1,x2,rfl,hh⟩) h1 h
noncomputable def vZ(e:Expr)(k:Option Expr->Option Expr->Option Expr->Pos->Bool):Bool:=if h:e.ctorIdx=26 then @Expr.Slice.elim (fun _=>Bool) e h k else false
theorem v5{e:Expr}{k:Option Expr->Option Expr->Option Expr->Pos->Bool}(h:vZ e k=true):∃x0 x1 x2 x3,e = .Slice x0 x1 x2 x3/\k x0 x1 x2 x3=true:=by
 obtain⟨h1,h⟩:=bc h;exact Expr.Slice.elim (motive_1:=fun e=>∀h',@Expr.Slice.elim (fun _=>Bool) e h' k=true->∃x0 x1 x2 x3,e = .Slice x0 x1 x2 x3/\k x0 x1 x2 x3=true) e h1 (fun x0 x1 x2 x3 _ hh=>⟨x0,x1,x2,x3,rfl,hh⟩) h1 h
noncomputable def oO(e:Expr):Bool:=!(e.ctorIdx == 22 || qm e fun f es ks _=>f.ctorIdx == 23 && es.isEmpty && ks.isEmpty)
noncomputable def zM(e:Expr):Bool:=!(e.ctorIdx == 0 || e.ctorIdx == 5 || e.ctorIdx == 15 || fq e fun o _ _=>decide (o = .Not))
noncomputable def iR(own N:List Str):List Nat:=(ZI N.length).filter fun i=>match N[i]? with
 |some x=>own.contains x
 |none=>false
noncomputable def Blk.inner(b:Blk)(own:List Str)(scope:Scope):Blk:=⟨dj scope b.sc,some scope,cb (iR own b.N) b.N++own⟩
noncomputable def v7(e:Expr):Option (Str × Pos):=if h:e.ctorIdx=23 then some (@Expr.Name.elim (fun _=>Str × Pos) e h fun x p=>(x,p)) else none
noncomputable def mv(e:Expr):Option (List Expr × Nat × Pos):=if h:e.ctorIdx=25 then some (@Expr.Tuple.elim (fun _=>List Expr × Nat × Pos) e h fun es k p=>(es,k,p)) else none
theorem CG{α:Type}{P:Prop}[Decidable P]{f:P->α}{r:α}(h:(if p:P then some (f p) else none)=some r):∃p,f p=r:=by
 by_cases p:P
 ·rw[dif_pos p] at h;cases h;exact⟨p,rfl⟩
 ·rw[dif_neg p] at h;cases h
theorem kI{e:Expr}{x:Str}{p:Pos}(h:v7 e=some (x,p)):e = .Name x p:=by
 obtain⟨h1,h⟩:=CG h;exact Expr.Name.elim (motive_1:=fun e=>∀h',Expr.Name.elim (motive_1:=fun _=>Str × Pos) e h' (fun x p=>(x,p))=(x,p)->e = .Name x p) e h1 (fun _ _ _ hh=>by cases hh;rfl) h1 h
theorem ft{e:Expr}{es:List Expr}{k:Nat}{p:Pos}(h:mv e=some (es,k,p)):e = .Tuple es k p:=by
 obtain⟨h1,h⟩:=CG h;exact Expr.Tuple.elim (motive_1:=fun e=>∀h',Expr.Tuple.elim (motive_1:=fun _=>List Expr × Nat × Pos) e h' (fun es k p=>(es,k,p))=(es,k,p)->e = .Tuple es k p) e h1 (fun _ _ _ _ hh=>by cases hh;rfl) h1 h
noncomputable def oA{α:Type}(o:Option α)(k:α->Bool):Bool:=match o with
 |some r=>k r
 |none=>false
theorem iS{α:Type}{o:Option α}{k:α->Bool}(h:oA o k=true):∃r,o=some r/\k r=true:=by
 cases o with
 |none=>cases h
 |some r=>exact⟨r,rfl,h⟩
theorem zN{a b:Bool}(h:(a || b)=true):a=true\/b=true:=by cases a;exact .inr h;exact .inl rfl
mutual
noncomputable def oP(b:Blk)(e:Expr):Tg->Bool
 |.name i=>oA (v7 e) fun r=>b.N[i]? == some r.1 && b.own r.1
 |.tup ts=>oA (mv e) fun r=>iT b r.1 ts
noncomputable def iT(b:Blk)(es:List Expr):List Tg->Bool
 |[]=>es.isEmpty
 |t::ts=>lC es fun e es=>oP b e t && ao e && iT b es ts
end
noncomputable def EW(e:Expr):Bool:=b8 e fun c _ _=>decide (c = .none)
noncomputable def sBl(v:Bool)(e:Expr):Bool:=b8 e fun c _ _=>decide (c = .bool v)
noncomputable def oQ(v:Int)(e:Expr):Bool:=b8 e fun c _ _=>decide (c = .int v)
noncomputable def oU(v:Str)(e:Expr):Bool:=b8 e fun c _ _=>decide (c = .str v)
noncomputable def cA(k:Str->Bool)(e:Expr):Bool:=vW e fun x _=>k x
noncomputable def zO(k:List Expr->Bool)(e:Expr):Bool:=vX e fun es _ _=>k es
noncomputable def sR(k:List Expr->Bool)(e:Expr):Bool:=CF e fun es _=>k es
noncomputable def zP(o:Wv)(k l:Expr->Bool)(e:Expr):Bool:=vR e fun x op y _=>decide (op=o) && k x && l y
noncomputable def Jv(k:Expr->Bool)(e:Expr):Bool:=fq e fun o x _=>decide (o = .USub) && k x
noncomputable def v8(k:Expr->Bool)(e:Expr):Bool:=fq e fun o x _=>decide (o = .Not) && k x
noncomputable def sS(o:CmpOp)(k l:Expr->Bool)(e:Expr):Bool:=iP e fun x os ys _=>l1 os fun op=>l1 ys fun y=>decide (op=o) && k x && l y && ao y
noncomputable def EX(o p:CmpOp)(k l m:Expr->Bool)(e:Expr):Bool:=iP e fun x os ys _=>lC os fun op os=>l1 os fun op'=>lC ys fun y ys=>l1 ys fun z=>decide (op=o) && decide (op'=p) && k x && l y && m z && ao z
noncomputable def oV(o:BoolOp)(k l:Expr->Bool)(e:Expr):Bool:=kH e fun op vs _=>lC vs fun x vs=>l1 vs fun y=>decide (op=o) && k x && l y
noncomputable def v9(o:BoolOp)(k l:Expr->Bool)(e:Expr):Bool:=kH e fun op vs p=>lC vs fun x vs=>lC vs fun y vs=>lC vs fun z ys=>decide (op=o) && k x && l (.BoolOp o (y::z::ys) p)
noncomputable def Jw(k l m:Expr->Bool)(e:Expr):Bool:=vT e fun x y z _=>k x && l y && m z
noncomputable def sIx(k l:Expr->Bool)(e:Expr):Bool:=cm e fun x y _=>k x && l y && ao y
noncomputable def sSl(k:Expr->Bool)(l m:Option Expr->Bool)(e:Expr):Bool:=cm e fun x s _=>vZ s fun y z w _=>w.isNone && k x && l y && m z
noncomputable def sCN(e:Expr)(k:Str->List Expr->List Keyword->Bool):Bool:=qm e fun f es ks _=>vW f fun x _=>k x es ks
noncomputable def CH(k:Str->Bool)(l:List Expr->Bool)(e:Expr):Bool:=sCN e fun x es ks=>lC es fun e es=>ks.isEmpty && k x && l (e::es)
noncomputable def oW(b:Blk)(f:Str)(k:List Expr->Bool)(e:Expr):Bool:=sCN e fun x es ks=>lC es fun e es=>ks.isEmpty && x == f && b.glo x && k (e::es)
noncomputable def bj(b:Blk)(f:Str)(k:Expr->Bool)(e:Expr):Bool:=sCN e fun x es ks=>l1 es fun e=>ks.isEmpty && x == f && b.glo x && k e && ao e
noncomputable def Jx(c:Int)(ks:List Keyword):Bool:=l1 ks fun w=>w.arg == some (Str.ofString "default") && oQ c w.value
noncomputable def CJ(b:Blk)(c:Int)(k:Expr->Bool)(e:Expr):Bool:=sCN e fun x es ks=>l1 es fun e=>Jx c ks && x == "max" && b.glo x && k e && ao e
noncomputable def eO(b:Blk)(f:Str)(k l:Expr->Bool)(e:Expr):Bool:=sCN e fun x es ks=>lC es fun e es=>l1 es fun e'=>ks.isEmpty && (x == f && b.glo x && k e && ao e && l e' && ao e')
noncomputable def jk(m:Str)(k:Expr->Bool)(l:List Expr->Bool)(e:Expr):Bool:=qm e fun f es ks p=>cS f fun x m' ap=>ks.isEmpty && m' == m && oO x && (ap.endLine == p.line) && k x && l es
noncomputable def CK(k:Expr->Expr->Expr->List Expr->List X0->Scope->Bool)(e:Expr):Bool:=fY e fun e gs scope _=>lC gs fun g gs=>decide (g.is_async=0) && k e g.target g.iter g.ifs gs scope
noncomputable def CL(e:Expr):Bool:=vV e fun ks vs _=>ks.isEmpty && vs.isEmpty
noncomputable def CM(k l:Expr->Bool)(e:Expr):Bool:=vV e fun ks vs _=>l1 ks fun x=>l1 vs fun y=>match x with
 |some x=>k x && l y
 |none=>false
theorem bU{x y:Str}(h:(x == y)=true):x=y:=eq_of_beq h
section
variable {e:Expr} {k l m:Expr->Bool}
theorem wa(h:EW e=true):∃a p,e = .Constant .none a p:=by
 obtain⟨c,a,p,rfl,h⟩:=bT h;cases of_decide_eq_true h;exact⟨a,p,rfl⟩
theorem wb{v:Bool}(h:sBl v e=true):∃a p,e = .Constant (.bool v) a p:=by
 obtain⟨c,a,p,rfl,h⟩:=bT h;cases of_decide_eq_true h;exact⟨a,p,rfl⟩
theorem fZ{v:Int}(h:oQ v e=true):∃a p,e = .Constant (.int v) a p:=by
 obtain⟨c,a,p,rfl,h⟩:=bT h;cases of_decide_eq_true h;exact⟨a,p,rfl⟩
theorem kJ{v:Str}(h:oU v e=true):∃a p,e = .Constant (.str v) a p:=by
 obtain⟨c,a,p,rfl,h⟩:=bT h;cases of_decide_eq_true h;exact⟨a,p,rfl⟩
theorem aZ{k:Str->Bool}(h:cA k e=true):∃x p,e = .Name x p/\k x=true:=qp h
theorem oX{k:List Expr->Bool}(h:zO k e=true):∃x a p,e = .Tuple x a p/\k x=true:=vY h
theorem iU{k:List Expr->Bool}(h:sR k e=true):∃x p,e = .List x p/\k x=true:=zL h
theorem oY{o:Wv}(h:zP o k l e=true):∃x y p,e = .BinOp x o y p/\k x=true/\l y=true:=by
 obtain⟨x,op,y,p,rfl,h⟩:=vS h;obtain⟨h1,z0⟩:=an3 h;cases of_decide_eq_true h1;exact⟨x,y,p,rfl,z0⟩
theorem EY(h:Jv k e=true):∃x p,e = .UnaryOp .USub x p/\k x=true:=by
 obtain⟨op,x,p,rfl,h⟩:=iO h;obtain⟨h1,z0⟩:=an2 h;cases of_decide_eq_true h1;exact⟨x,p,rfl,z0⟩
theorem kK(h:v8 k e=true):∃x p,e = .UnaryOp .Not x p/\k x=true:=by
 obtain⟨op,x,p,rfl,h⟩:=iO h;obtain⟨h1,z0⟩:=an2 h;cases of_decide_eq_true h1;exact⟨x,p,rfl,z0⟩
theorem iV{o:CmpOp}(h:sS o k l e=true):∃x y p,e = .Compare x [o] [y] p/\k x=true/\l y=true/\ao y=true:=by
 obtain⟨x,os,ys,p,rfl,h⟩:=iQ h;obtain⟨op,rfl,h⟩:=bC h;obtain⟨y,rfl,h⟩:=bC h;obtain⟨h1,z0⟩:=an4 h;cases of_decide_eq_true h1;exact⟨x,y,p,rfl,z0⟩
theorem wc{o p:CmpOp}(h:EX o p k l m e=true):∃x y z q,e = .Compare x [o,p] [y,z] q/\k x=true/\l y=true/\m z=true/\ao z=true:=by
 obtain⟨x,os,ys,q,rfl,h⟩:=iQ h;obtain⟨op,os,rfl,h⟩:=bE h;obtain⟨op',rfl,h⟩:=bC h;obtain⟨y,ys,rfl,h⟩:=bE h;obtain⟨z,rfl,h⟩:=bC h;obtain⟨h1,h2,z0⟩:=an6 h;cases of_decide_eq_true h1;cases of_decide_eq_true h2;exact⟨x,y,z,q,rfl,z0⟩
theorem f8{o:BoolOp}(h:oV o k l e=true):∃x y p,e = .BoolOp o [x,y] p/\k x=true/\l y=true:=by
 obtain⟨op,vs,p,rfl,h⟩:=jM h;obtain⟨x,vs,rfl,h⟩:=bE h;obtain⟨y,rfl,h⟩:=bC h;obtain⟨h1,z0⟩:=an3 h;cases of_decide_eq_true h1;exact⟨x,y,p,rfl,z0⟩
theorem kL{o:BoolOp}(h:v9 o k l e=true):∃x y z ys p,e = .BoolOp o (x::y::z::ys) p/\k x=true/\l (.BoolOp o (y::z::ys) p)=true:=by
 obtain⟨op,vs,p,rfl,h⟩:=jM h;obtain⟨x,vs,rfl,h⟩:=bE h;obtain⟨y,vs,rfl,h⟩:=bE h;obtain⟨z,vs,rfl,h⟩:=bE h;obtain⟨h1,z0⟩:=an3 h;cases of_decide_eq_true h1;exact⟨x,y,z,vs,p,rfl,z0⟩
theorem EZ(h:Jw k l m e=true):∃x y z p,e = .IfExp x y z p/\k x=true/\l y=true/\m z=true:=by
 obtain⟨x,y,z,p,rfl,h⟩:=vU h;exact⟨x,y,z,p,rfl,an3 h⟩
theorem CN(h:sIx k l e=true):∃x y p,e = .Subscript x y p/\k x=true/\l y=true/\ao y=true:=by
 obtain⟨x,y,p,rfl,h⟩:=bZ h;exact⟨x,y,p,rfl,an3 h⟩
theorem Jy{l m:Option Expr->Bool}(h:sSl k l m e=true):∃x y z p q,e = .Subscript x (.Slice y z none p) q/\k x=true/\l y=true/\m z=true:=by
 obtain⟨x,s,q,rfl,h⟩:=bZ h;obtain⟨y,z,w,p,rfl,h⟩:=v5 h;obtain⟨h1,z0⟩:=an4 h;cases w;exact⟨x,y,z,p,q,rfl,z0⟩;cases h1
theorem gy{k:Str->List Expr->List Keyword->Bool}(h:sCN e k=true):∃x p es ks q,e = .Call (.Name x p) es ks q/\k x es ks=true:=by
 obtain⟨f,es,ks,q,rfl,h⟩:=qo h;obtain⟨x,p,rfl,h⟩:=qp h;exact⟨x,p,es,ks,q,rfl,h⟩
theorem zQ{k:Str->Bool}{l:List Expr->Bool}(h:CH k l e=true):∃x x1 es p q,e = .Call (.Name x p) (x1::es) [] q/\k x=true/\l (x1::es)=true:=by
 obtain⟨x,p,es,ks,q,rfl,h⟩:=gy h;obtain⟨x1,es,rfl,h⟩:=bE h;obtain⟨h1,z0⟩:=an3 h;cases bH h1;exact⟨x,x1,es,p,q,rfl,z0⟩
theorem mw{b:Blk}{f:Str}{k:List Expr->Bool}(h:oW b f k e=true):∃x es p q,e = .Call (.Name f p) (x::es) [] q/\b.glo f=true/\k (x::es)=true:=by
 obtain⟨x,p,es,ks,q,rfl,h⟩:=gy h;obtain⟨x1,es,rfl,h⟩:=bE h;obtain⟨h1,h2,z0⟩:=an4 h;cases bH h1;cases bU h2;exact⟨x1,es,p,q,rfl,z0⟩
theorem aL{b:Blk}{f:Str}(h:bj b f k e=true):∃x p q,e = .Call (.Name f p) [x] [] q/\b.glo f=true/\k x=true/\ao x=true:=by
 obtain⟨x,p,es,ks,q,rfl,h⟩:=gy h;obtain⟨x1,rfl,h⟩:=bC h;obtain⟨h1,h2,z0⟩:=an5 h;cases bH h1;cases bU h2;exact⟨x1,p,q,rfl,z0⟩
theorem E5{c:Int}{ks:List Keyword}(h:Jx c ks=true):∃j p q,ks=[⟨some "default", .Constant (.int c) j p,q⟩]:=by
 obtain⟨⟨a,v,q⟩,rfl,h⟩:=bC h;obtain⟨h1,z0⟩:=an2 h;obtain⟨j,p,e⟩:=fZ z0;obtain e1:=eq_of_beq h1;exact⟨j,p,q,by rw[show v=_ from e,show a=_ from e1]⟩
theorem zR{b:Blk}{c:Int}(h:CJ b c k e=true):∃x p q j p' q',e = .Call (.Name "max" p) [x] [⟨some "default", .Constant (.int c) j p',q'⟩] q/\b.glo "max" = true/\k x=true/\ao x=true:=by
 obtain⟨x,p,es,ks,q,rfl,h⟩:=gy h;obtain⟨x1,rfl,h⟩:=bC h;obtain⟨h1,h2,z0⟩:=an5 h;obtain⟨j,p',q',rfl⟩:=E5 h1;cases bU h2;exact⟨x1,p,q,j,p',q',rfl,z0⟩
theorem bD{b:Blk}{f:Str}(h:eO b f k l e=true):∃x y p q,e = .Call (.Name f p) [x,y] [] q/\b.glo f=true/\k x=true/\ao x=true/\l y=true/\ao y=true:=by
 obtain⟨x,p,es,ks,q,rfl,h⟩:=gy h;obtain⟨x1,es,rfl,h⟩:=bE h;obtain⟨y,rfl,h⟩:=bC h;obtain⟨h1,y0⟩:=an2 h;obtain⟨h2,z0⟩:=an6 y0;cases bH h1;cases bU h2;exact⟨x1,y,p,q,rfl,z0⟩
theorem cD{m:Str}{l:List Expr->Bool}(h:jk m k l e=true):∃x ap es p,e = .Call (.Attribute x m ap) es [] p/\oO x=true/\(ap.endLine == p.line)=true/\k x=true/\l es=true:=by
 obtain⟨f,es,ks,p,rfl,h⟩:=qo h;obtain⟨x,m',ap,rfl,h⟩:=cT h;obtain⟨h1,h2,z0⟩:=an6 h;cases bH h1;cases bU h2;exact⟨x,ap,es,p,rfl,z0⟩
theorem qr{k:Expr->Expr->Expr->List Expr->List X0->Scope->Bool}(h:CK k e=true):∃el t i ifs gs scope p,e = .ListComp el (⟨t,i,ifs,0⟩::gs) scope p/\k el t i ifs gs scope=true:=by
 obtain⟨el,gs,scope,p,rfl,h⟩:=gx h;obtain⟨⟨t,i,ifs,as⟩,gs,rfl,h⟩:=bE h;obtain⟨h1,z0⟩:=an2 h;cases of_decide_eq_true h1;exact⟨el,t,i,ifs,gs,scope,p,rfl,z0⟩
theorem zS(h:CL e=true):∃p,e = .Dict [] [] p:=by
 obtain⟨ks,vs,p,rfl,h⟩:=ql h;obtain⟨h1,h2⟩:=an2 h;cases bH h1;cases bH h2;exact⟨p,rfl⟩
theorem zT(h:CM k l e=true):∃x y p,e = .Dict [some x] [y] p/\k x=true/\l y=true:=by
 obtain⟨ks,vs,p,rfl,h⟩:=ql h;obtain⟨x,rfl,h⟩:=bC h;obtain⟨y,rfl,h⟩:=bC h;cases x with
 |none=>cases h
 |some x=>exact⟨x,y,p,rfl,an2 h⟩
end
noncomputable def wd(f:Expr->CE->Bool)(l:Option Expr):Option CE->Bool
 |none=>l.isNone
 |some c=>oA l fun e=>f e c
noncomputable def we(f:Expr->CE->Bool)(l:List Expr):Option CE->Bool
 |none=>l.isEmpty
 |some c=>l1 l fun e=>f e c
noncomputable def clC(cls:List Cl)(k:Tg->CI->Option CE->List Cl->Bool):Bool:=match cls with
 |[]=>false
 |⟨tg,it,cond⟩::rest=>k tg it cond rest
theorem CO{cls:List Cl}{k:Tg->CI->Option CE->List Cl->Bool}(h:clC cls k=true):∃tg it cond rest,cls=⟨tg,it,cond⟩::rest/\k tg it cond rest=true:=by
 cases cls with
 |nil=>cases h
 |cons g rest=>obtain⟨tg,it,cond⟩:=g;exact⟨tg,it,cond,rest,rfl,h⟩
mutual
noncomputable def am(T:Tab):Nat->Blk->Expr->CE->Bool
 |0,_,_,_=>false
 |n+1,b,e,c=>match c with
  |.non=>EW e
  |.bl v=>sBl v e
  |.int i=>oQ i e
  |.str x=>oU x e
  |.var i=>cA (fun x=>b.N[i]? == some x && b.vis x) e
  |.con k v=>cA (fun x=>T.con[k]? == some (x,v) && b.glo x) e
  |.tup cs=>zO (fun es=>cE T n b es cs) e
  |.lst cs=>sR (fun es=>cE T n b es cs) e
  |.dic0=>CL e
  |.dic1 i j=>CM (oQ i) (oQ j) e
  |.bin o a c=>zP o.op (fun x=>am T n b x a) (fun x=>am T n b x c) e
  |.neg a=>Jv (fun x=>am T n b x a) e
  |.cmp o a c=>sS o.op (fun x=>am T n b x a) (fun x=>am T n b x c) e
  |.chn o p a c d=>EX o.op p.op (fun x=>am T n b x a) (fun x=>am T n b x c) (fun x=>am T n b x d) e
  |.and a c=>oV .And (fun x=>am T n b x a) (fun x=>am T n b x c) e || v9 .And (fun x=>am T n b x a) (fun x=>am T n b x c) e
  |.or a c=>oV .Or (fun x=>am T n b x a) (fun x=>am T n b x c) e || v9 .Or (fun x=>am T n b x a) (fun x=>am T n b x c) e
  |.not a=>v8 (fun x=>am T n b x a) e
  |.ite t a c=>Jw (fun x=>cU T n b x t) (fun x=>am T n b x a) (fun x=>am T n b x c) e
  |.ix a c=>sIx (fun x=>am T n b x a) (fun x=>am T n b x c) e
  |.sl a lo hi=>sSl (fun x=>am T n b x a) (fun l=>wd (am T n b) l lo) (fun l=>wd (am T n b) l hi) e
  |.call f cs=>CH (fun x=>oA T.fns[f]? (fun y=>y.1 == x) && b.glo x) (fun es=>cE T n b es cs) e
  |.inst t a=>eO b "isinstance" (fun x=>am T n b x a) (cA fun y=>y == Str.ofString t.nm && b.glo y) e
  |.len a=>bj b "len" (fun x=>am T n b x a) e
  |.all a=>bj b "all" (fun x=>am T n b x a) e
  |.any a=>bj b "any" (fun x=>am T n b x a) e
  |.tupOf a=>bj b "tuple" (fun x=>am T n b x a) e
  |.listOf a=>bj b "list" (fun x=>am T n b x a) e
  |.listR a=>bj b "list" (bj b "range" fun x=>am T n b x a) e
  |.listR2 a c=>bj b "list" (eO b "range" (fun x=>am T n b x a) (fun x=>am T n b x c)) e
  |.srt a=>bj b "sorted" (fun x=>am T n b x a) e
  |.mxL a=>bj b "max" (fun x=>am T n b x a) e
  |.mxD a c=>CJ b c (fun x=>am T n b x a) e
  |.mnL a=>bj b "min" (fun x=>am T n b x a) e
  |.sm a=>bj b "sum" (fun x=>am T n b x a) e
  |.intOf a=>bj b "int" (fun x=>am T n b x a) e
  |.strI a=>bj b "str" (fun x=>am T n b x a) e
  |.mx a c=>oW b "max" (fun es=>cE T n b es [a,c]) e
  |.mn a c=>oW b "min" (fun es=>cE T n b es [a,c]) e
  |.rep a=>bj b "repr" (fun x=>am T n b x a) e
  |.comp own elt cls=>clC cls fun tg it cond rest=>CK (fun el t i ifs gs scope=>cmB own (iR own b.N) b.N scope b.sc && fu T n b t i it && oP (b.inner own scope) t tg && we (cU T n (b.inner own scope)) ifs cond && jN T n (b.inner own scope) el gs elt rest) e
  |.app o a=>jk "append" (fun x=>am T n b x o) (fun es=>cE T n b es [a]) e
  |.ext o a=>jk "extend" (fun x=>am T n b x o) (fun es=>cE T n b es [a]) e
  |.pop o=>jk "pop" (fun x=>am T n b x o) (fun es=>es.isEmpty) e
  |.popAt o a=>jk "pop" (fun x=>am T n b x o) (fun es=>cE T n b es [a]) e
  |.ins o i a=>jk "insert" (fun x=>am T n b x o) (fun es=>cE T n b es [i,a]) e
  |.cnt o a=>jk "count" (fun x=>am T n b x o) (fun es=>cE T n b es [a]) e
  |.join o a=>jk "join" (fun x=>am T n b x o) (fun es=>cE T n b es [a]) e
noncomputable def cE(T:Tab):Nat->Blk->List Expr->List CE->Bool
 |0,_,_,_=>false
 |n+1,b,es,cs=>match cs with
  |[]=>es.isEmpty
  |c::cs=>lC es fun e es=>am T n b e c && ao e && cE T n b es cs
noncomputable def jN(T:Tab):Nat->Blk->Expr->List X0->CE->List Cl->Bool
 |0,_,_,_,_,_=>false
 |n+1,b,e,gs,elt,cls=>match cls with
  |[]=>gs.isEmpty && am T n b e elt
  |⟨tg,it,cond⟩::rest=>lC gs fun g gs=>decide (g.is_async=0) && fu T n b g.target g.iter it && oP b g.target tg && we (cU T n b) g.ifs cond && jN T n b e gs elt rest
noncomputable def fu(T:Tab):Nat->Blk->Expr->Expr->CI->Bool
 |0,_,_,_,_=>false
 |n+1,b,t,e,c=>match c with
  |.val a=>am T n b e a && ao e
  |.r1 a=>bj b "range" (fun x=>am T n b x a) e
  |.r2 a c=>eO b "range" (fun x=>am T n b x a) (fun x=>am T n b x c) e
  |.zp a c=>eO b "zip" (fun x=>am T n b x a) (fun x=>am T n b x c) e && zO (fun _=>true) t
  |.en a=>bj b "enumerate" (fun x=>am T n b x a) e && zO (fun _=>true) t
noncomputable def cU(T:Tab):Nat->Blk->Expr->CE->Bool
 |0,_,_,_=>false
 |n+1,b,e,c=>match c with
  |.cmp o a c=>sS o.op (fun x=>am T n b x a) (fun x=>am T n b x c) e
  |.chn o p a c d=>EX o.op p.op (fun x=>am T n b x a) (fun x=>am T n b x c) (fun x=>am T n b x d) e
  |.and a c=>oV .And (fun x=>cU T n b x a) (fun x=>cU T n b x c) e || v9 .And (fun x=>cU T n b x a) (fun x=>cU T n b x c) e
  |.or a c=>oV .Or (fun x=>cU T n b x a) (fun x=>cU T n b x c) e || v9 .Or (fun x=>cU T n b x a) (fun x=>cU T n b x c) e
  |.not a=>v8 (fun x=>cU T n b x a) e
  |.ite _ _ _=>false
  |c=>am T n b e c && zM e
end
theorem dW{T:Tab}{n:Nat}{b:Blk}{t e:Expr}{c:CI}(h:fu T n b t e c=true)(hp:∀e,ao e=true->∀env x,VH e env x=pure x):∀env x,VH e env x=pure x:=by
 cases n with
 |zero=>cases h
 |succ n=>
  cases c with
  |val a=>exact hp e (an2 h).2
  |r1 a=>obtain⟨x,p,q,rfl,_⟩:=aL h;intro _ _;rfl
  |r2 a c=>obtain⟨x,y,p,q,rfl,_⟩:=bD h;intro _ _;rfl
  |zp a c=>obtain⟨x,y,p,q,rfl,_⟩:=bD (an2 h).1;intro _ _;rfl
  |en a=>obtain⟨x,p,q,rfl,_⟩:=aL (an2 h).1;intro _ _;rfl
noncomputable def quY:List Str:=["__getattribute__", "__getattr__", "__class__"]
def zU(qs:List Str)(h:Heap)(C:Addr)(bm:List Value):Prop:=∃N nm q bs hdct sn sub ab col dd k0 k1 k2 k3 k5 mN,h.get? C=some (VG nm q C N bs bm hdct sn sub ab col dd k0 k1 k2 k3 k5 "ValueError.__new__")/\h.Ns N mN/\∀n ∈ qs,mN n=none
abbrev iW:=zU quN
abbrev a9:=zU quY
theorem zU.keeps(x:zU qs h C bm)(k:∀b o,h.get? b=some o->h'.get? b=some o):zU qs h' C bm:=by
 obtain⟨N,nm,q,bs,hdct,sn,sub,ab,col,dd,k0,k1,k2,k3,k5,mN,hC,hN,hq⟩:=x;exact⟨N,nm,q,bs,hdct,sn,sub,ab,col,dd,k0,k1,k2,k3,k5,mN,k _ _ hC,hN.keeps k,hq⟩
theorem zU.y(x:iW h C bm):a9 h C bm:=by
 obtain⟨N,nm,q,bs,hdct,sn,sub,ab,col,dd,k0,k1,k2,k3,k5,mN,hC,hN,hq⟩:=x;exact⟨N,nm,q,bs,hdct,sn,sub,ab,col,dd,k0,k1,k2,k3,k5,mN,hC,hN,fun n hn=>hq n (.tail _ hn)⟩
section
variable {prog:Program} {w:World} {M:Model} {A:Around} {E:Value->Shared->Prop} {h:Heap} {g:Array Wt} {d:Drawn} {t:Nat} {os:OsState} {a C R:Addr} {o:Obj} {vs:Array Value}
theorem oZ(hn:n ∈ quY)(hC:a9 h C (.ref R::bmV))(hR:a9 h R bmV)(hB:Ul (.type "ValueError") n=pure y)(hq:Q y ⟨h,g,d,t,os⟩):wpAny M A (Ul (.ref C) n) Q E ⟨h,g,d,t,os⟩:=by
 obtain⟨N,nm,q,bs,hdct,sn,sub,ab,col,dd,k0,k1,k2,k3,k5,mN,hC,hN,hqn⟩:=hC;obtain⟨N',nm',q',bs',hdct',sn',sub',ab',col',dd',k0',k1',k2',k3',k5',mN',hR,hN',hqn'⟩:=hR;have hrest:VQ bmV n=pure y:=by rw[Um,PySem.F.excBase_ValueError.mroIs] at hB;exact hB
 rw[Um];refine Ur (UJ hC ?_);rw[VR];refine Ur (Uv hC hN ?_);rw[hqn n hn];show wpAny M A (VQ (.ref R::bmV) n) Q E _;rw[VR];refine Ur (Uv hR hN' ?_);rw[hqn' n hn];show wpAny M A (VQ bmV n) Q E _;rw[hrest];exact UO hq
theorem my:Ul (.type "ValueError") "__class__" = pure (some (.builtin "object.__class__")):=by rw[typeLookup_type,Vp];kernel_rfl
theorem E6(hC:a9 h C (.ref R::bmV))(hx:h.get? a=some o)(hc:o.cls = .ref C)(hq:Q (.ok (.ret (.ref C))) ⟨h,g,d,t,os⟩) :
  codeAny (model prog w) A (.call (.builtin "getset_descriptor.__get__") ⟨[.builtin "object.__class__", .ref a,.ref C],[]⟩) Q ⟨h,g,d,t,os⟩:=by
 obtain⟨N,nm,q,bs,hdct,sn,sub,ab,col,dd,k0,k1,k2,k3,k5,mN,hC,hN,hqn⟩:=hC;have hT5:(⟨h,g,d,t,os⟩:Shared).TypeIs (.builtin "object.__class__") "getset_descriptor" := Wq
 have hcB:(Value.ref C :: .ref R::bmV).contains (.type (".".intercalate ("object.__class__".cutAt '.').dropLast))=true:=by
  rw[PySem.F.owner_object_class,ZB,ZB];rfl
 refine Vx PySem.F.slot_gs_get.plain PySem.F.entry_gs_get (PySem.F.slot_gs_get.check _ _ _ _ _ _ _ _ hT5 (PySem.F.args_gs_get _ _ _) ?_)
 repeat (any_goals (first |assumption |(with_reducible refine UH hx ?_;rw[hc]) |(with_reducible refine UC hC ?_;rw[hcB]) |wp_step))
 refine⟨Code.quiet_builtin _ (by decide +kernel),Vw PySem.F.entry_object_class ?_⟩
 repeat (any_goals (first |assumption |(with_reducible refine UH hx ?_;rw[hc]) |wp_step))
theorem wg(hC:a9 h C (.ref R::bmV))(hR:a9 h R bmV)(hx:h.get? a=some o)(hc:o.cls = .ref C)(hq:Q (.done (.ret (.ref C))) ⟨h,g,d,t,os⟩) :
  wpAny (model prog w) A (Builtin.«object.__getattribute__» ⟨[.ref a,.str "__class__" tk],[]⟩) Q E ⟨h,g,d,t,os⟩:=by
 have hT5:(⟨h,g,d,t,os⟩:Shared).TypeIs (.builtin "object.__class__") "getset_descriptor" := Wq;have f5:=Wq;have f6:=PySem.F.slot_gs_get.lookup;have f7:=PySem.F.slot_gs_set.lookup;have hm:("__class__" : Str) ∈ quY:=.tail _ (.tail _ (.head _))
 repeat (any_goals (first |assumption |(with_reducible refine UH hx ?_;rw[hc]) |with_reducible refine oZ hm hC hR my ?_ |wp_step))
 refine E6 hC hx hc ?_
 repeat (any_goals (first |assumption |wp_step))
theorem wj(hC:a9 h C (.ref R::bmV))(hx:h.get? a=some o)(hc:o.cls = .ref C)(hq:Q () ⟨h,g,d,t,os⟩):wpAny M A (Vv "BaseException.__getattribute__" ⟨[.ref a,nameV],[]⟩) Q E ⟨h,g,d,t,os⟩:=by
 obtain⟨N,nm,q,bs,hdct,sn,sub,ab,col,dd,k0,k1,k2,k3,k5,mN,hC,hN,hqn⟩:=hC;have hk:builtinKind "BaseException.__getattribute__" = some .slot:=by decide +kernel
 have hsplit:splitId "BaseException.__getattribute__" = some ("BaseException", "__getattribute__"):=by decide +kernel
 have hcB:(Value.ref C :: .ref R::bmV).contains (.type "BaseException")=true:=by rw[ZB,ZB];rfl
 have ha:=X3 (.ref a) nameV;simp only[Vv,hk,hsplit];refine Ur ?_
 ·unfold VN
  repeat (first |(with_reducible refine UH hx ?_;rw[hc]) |(with_reducible refine UC hC ?_;rw[hcB]) |wp_step)
  exact hq
theorem Jz(hC:a9 h C (.ref R::bmV))(hR:a9 h R bmV)(hx:h.get? a=some o)(hc:o.cls = .ref C)(hq:Q (.ref C) ⟨h,g,d,t,os⟩) :
  wpAny (model prog w) A (getAttrBy (.ref a) (.str "__class__" tk) false) Q E ⟨h,g,d,t,os⟩:=by
 have FB:=X6;have f3:=FB.ga.bind (.ref a);have hx2:(Value.builtin "BaseException.__getattribute__" == Value.builtin "object.__getattribute__")=false:=by decide +kernel
 have hm1:("__getattribute__" : Str) ∈ quY:=.head _;have hm2:("__getattr__" : Str) ∈ quY:=.tail _ (.head _)
 repeat (any_goals (first |assumption |(with_reducible refine UH hx ?_;rw[hc]) |with_reducible refine oZ hm1 hC hR FB.ga.lookup ?_ |with_reducible refine oZ hm2 hC hR FB.noGetattr ?_ |wp_step))
 refine Vx FB.ga.plain X7 (wj hC hx hc (wg hC hR hx hc ?_))
 repeat (any_goals (first |assumption |wp_step))
theorem zV(hC:a9 h C (.ref R::bmV))(hR:a9 h R bmV)(hx:h.get? a=some o)(hc:o.cls = .ref C)(hq:Q (some (.ref C)) ⟨h,g,d,t+1,os⟩):wpAny (model prog w) A (getAttr? (.ref a) "__class__") Q E ⟨h,g,d,t,os⟩:=by
 unfold getAttr? getAttrBy?
 repeat (any_goals (first |assumption |with_reducible apply Jz hC hR hx hc |wp_step))
end
def fv(h:Heap)(e C:Addr):Prop:=∃o vs,h.get? e=some o/\o.cls = .ref C/\o.data = .fields vs
def fA(h:Heap)(D:Addr):Prop:=∃dd cd sl,h.get? D=some ⟨.type "type", dd,.cls cd,sl⟩
section
variable {prog:Program} {w:World} {M:Model} {A:Around} {E:Value->Shared->Prop} {s:Shared} {e C R D:Addr}
theorem qt{K:WN}{oc:Value}{dd:Option Addr}{cd:ClassData}{sl:Array (Option Value)}(hk:K.lookup C=some ⟨oc,dd,.cls cd,sl⟩):PySem.W.KitX K (.ref e) (.ref C) (fun h=>a9 h C (.ref R::bmV)/\a9 h R bmV/\fv h e C) where
 ty:=fun M h _ ⟨_,_,o,_,h1,h2,_⟩=>h2 ▸ (PySem.W.Looks.ld h1).andThen .now
 it:=fun M h _ ⟨hC,_⟩=>by
  obtain⟨N,nm,q,bs,hdct,sn,sub,ab,col,dd,k0,k1,k2,k3,k5,mN,hC,_⟩:=hC;intro A' Q' E' s' k q;unfold isType loadHead;exact Ur (wpAny_loadPart (k _ _ hC) (UO q))
 ne:=fun h tp dd its n sl X htp=>by
  refine Xd.mpr fun q=>?_;have e:C=tp:=Value.ref.inj (beq_iff_eq.mp q);subst e;rw[X _ _ hk] at htp;cases htp
 ca:=fun {_ _ _ _ _ s} _ ⟨hC,hR,o,_,h1,h2,_⟩ hq=>by
  obtain⟨h,g,d,t,os⟩:=s;exact zV hC hR h1 h2 hq
theorem isx{D:Addr}{Q:Value->Shared->Prop}(hC:a9 s.heap C (.ref R::bmV))(hR:a9 s.heap R bmV)(he:fv s.heap e C)(hD:fA s.heap D)(hr:D ≠ R)(h:∀tk,Q (.bool (C == D)) { s with toks:=tk }) :
  wpAny (model prog w) A (call (.builtin "isinstance") [.ref e,.ref D]) Q E s:=by
 have hC':=hC;obtain⟨N,nm,q,bs,hdct,sn,sub,ab,col,dd,k0,k1,k2,k3,k5,mN,hc,_⟩:=hC';obtain⟨dd',cd',sl',hd⟩:=hD
 have KX:PySem.W.Frag.In [(C,VG nm q C N bs (.ref R::bmV) hdct sn sub ab col dd k0 k1 k2 k3 k5 "ValueError.__new__"),(D,⟨.type "type", dd',.cls cd',sl'⟩)] s.heap:=by
  intro b o hb;rw[ZA] at hb;split at hb
  ·rename_i z;cases hb;rw[show b=C from by simpa using z];exact hc
  ·rw[ZA] at hb;split at hb
   ·rename_i z;cases hb;rw[show b=D from by simpa using z];exact hd
   ·cases hb
 have l1:YC C [(C,VG nm q C N bs (.ref R::bmV) hdct sn sub ab col dd k0 k1 k2 k3 k5 "ValueError.__new__"),(D,(⟨.type "type", dd',.cls cd',sl'⟩:Obj))]=some (VG nm q C N bs (.ref R::bmV) hdct sn sub ab col dd k0 k1 k2 k3 k5 "ValueError.__new__"):=by
  rw[ZA,beq_self_eq_true]
 refine W3 (qt (R:=R) l1) KX ⟨hC,hR,he⟩ ?_ (fun z=>nomatch z) h;unfold W5;by_cases z:C=D
 ·subst z;rw[if_pos (beq_self_eq_true _),beq_self_eq_true]
 ·have z1:(C == D)=false:=by simpa using z
  rw[if_neg (by simpa using z),z1]
  have l2:YC D [(C,VG nm q C N bs (.ref R::bmV) hdct sn sub ab col dd k0 k1 k2 k3 k5 "ValueError.__new__"),(D,(⟨.type "type", dd',.cls cd',sl'⟩:Obj))]=some ⟨.type "type", dd',.cls cd',sl'⟩:=by
   rw[ZA,show(D == C)=false from by simpa using Ne.symm z,ZA,beq_self_eq_true]
  unfold W4;dsimp only;rw[if_pos (by unfold WR PySem.W.typeIn;dsimp only;rw[l2];rfl)];unfold Vf Va WR;dsimp only;rw[l1];show some ((Value.ref C :: .ref R::bmV).contains (.ref D))=_;rw[ZB,ZB];have z2:((Value.ref D) == Value.ref C)=false:=by simpa using Ne.symm z
  have z3:((Value.ref D) == Value.ref R)=false:=by simpa using hr
  rw[z2,z3];rfl
theorem isv{Q:Value->Shared->Prop}(hC:a9 s.heap C (.ref R::bmV))(hR:a9 s.heap R bmV)(he:fv s.heap e C)(h:∀tk,Q (.bool true) { s with toks:=tk }) :
  wpAny (model prog w) A (call (.builtin "isinstance") [.ref e,.type "ValueError"]) Q E s:=by
 have hC':=hC;obtain⟨N,nm,q,bs,hdct,sn,sub,ab,col,dd,k0,k1,k2,k3,k5,mN,hc,_⟩:=hC'
 have KX:PySem.W.Frag.In [(C,VG nm q C N bs (.ref R::bmV) hdct sn sub ab col dd k0 k1 k2 k3 k5 "ValueError.__new__")] s.heap:=by
  intro b o hb;rw[ZA] at hb;split at hb
  ·rename_i z;cases hb;rw[show b=C from by simpa using z];exact hc
  ·cases hb
 have l1:YC C [(C,VG nm q C N bs (.ref R::bmV) hdct sn sub ab col dd k0 k1 k2 k3 k5 "ValueError.__new__")]=some (VG nm q C N bs (.ref R::bmV) hdct sn sub ab col dd k0 k1 k2 k3 k5 "ValueError.__new__"):=by
  rw[ZA,beq_self_eq_true]
 refine W3 (qt (R:=R) l1) KX ⟨hC,hR,he⟩ ?_ (fun z=>nomatch z) h;unfold W5;rw[if_neg (by simp)];unfold W4;dsimp only;rw[if_pos (by decide +kernel)];unfold Vf Va WR;dsimp only;rw[l1];show some ((Value.ref C :: .ref R::bmV).contains (.type "ValueError"))=_;rw[ZB,ZB];rfl
theorem wk{h:Heap}{g:Array Wt}{d:Drawn}{t:Nat}{os:OsState}{Q:Bool->Shared->Prop}(hC:a9 h C (.ref R::bmV))(hR:a9 h R bmV)(he:fv h e C)(hq:Q true ⟨h,g,d,t,os⟩):wpAny M A (excMatches (.ref e) (.ref R)) Q E ⟨h,g,d,t,os⟩:=by
 obtain⟨N,nm,q,bs,hdct,sn,sub,ab,col,dd,k0,k1,k2,k3,k5,mN,hC,_⟩:=hC;obtain⟨N',nm',q',bs',hdct',sn',sub',ab',col',dd',k0',k1',k2',k3',k5',mN',hR,_⟩:=hR;obtain⟨oe,vs,he,hcls,_⟩:=he;have hcB:(Value.ref R::bmV).contains (.type "BaseException")=true:=by rw[ZB];rfl
 have hcC:(Value.ref C :: .ref R::bmV).contains (.ref R)=true:=by simp
 have f:=tc_notTuple;unfold excMatches
 repeat (first |(with_reducible refine UH he ?_;rw[hcls]) |with_reducible refine UH hR ?_ |with_reducible refine UH hC ?_ |(with_reducible refine UC hR ?_;rw[hcB]) |(with_reducible refine UC hC ?_;rw[hcC]) |wp_step)
 exact hq
end
structure XLeft(P:Program)(w:World)(outer:List Env)(H H':Hp)(s:Shared)(B:Heap)(s':Shared):Prop where
 os:s'.os=s.os
 bare:AllBare s'.gens
 un:Un (frs outer) [] H H' s.heap s'.heap
 keep:∀b o,s.heap.get? b=some o->H b=none->b ∉ frs outer->B.get? b=some o
 there:∀b o,s.heap.get? b=some o->b ∉ frs outer->∃o',B.get? b=some o'
 hok:HOk P w H' B
def CXE(P:Program)(w:World):CXT:=fun outer H s E ev s'=>∃e c a0 H' B,ev = .ref e/\Heap.FlyingW B outer e c a0 s'.heap/\XLeft P w outer H H' s B s'/\E c none H'
theorem JA:hU (CXE P w) X E0:=fun _ _ _ _ _ _ _ ⟨_,_,_,_,_,_,_,_,h⟩=>h.elim
section
variable {P:Program} {w:World} {outer:List Env} {H H':Hp} {s s':Shared} {B:Heap} {e:Addr} {c a0:Value} {h':Heap}
theorem XLeft.later(x:XLeft P w outer H H' s B s')(f0:Heap.FlyingW B outer e c a0 s'.heap)(f:B.StaysIn h')(ff:h'.FunFrames B outer)(u:s'.heap.UpToSlots h'){t:Nat}(hg:AllBare g):XLeft P w outer H H' s B ⟨h',g,d,t,s'.os⟩ where
 os:=x.os
 bare:=hg
 un:=by
  have sl:∀b o,s'.heap.get? b=some o->b ∈ frs outer->∃sl,h'.get? b=some { o with slots:=sl }:=fun b o q hb=>by
   obtain⟨_,o',q',nf⟩:=f0.2.2.1.mem hb;rw[q] at q';cases q';exact u b o q nf
  refine⟨fun b o q n hb _=>f b o (x.keep b o q n hb),fun b o q n hb hx=>?_,x.un.free,fun b o q hx=>?_,x.un.tups,x.un.frzs,x.un.tbls⟩
  ·obtain⟨z,q1⟩:=x.un.slot b o q n hb hx;obtain⟨z2,q2⟩:=sl b _ q1 hb;exact⟨z2,q2⟩
  ·by_cases hb:b ∈ frs outer
   ·obtain⟨_,o',q',_⟩:=ff.mem hb;exact⟨o',q'⟩
   ·obtain⟨o',q'⟩:=x.there b o q hb;exact⟨o',f b o' q'⟩
 keep:=x.keep
 there:=x.there
 hok:=x.hok
end
section
variable {P:Program} {w:World} {K:WN} {mg:Str->Option Value} {base:Heap} {N:List Str} {qual:Str} {scope:Scope} {f:Addr} {cd:Value} {A:Around} {outer:List Env} {s0:Shared} {H0:Hp} {E:XK}
noncomputable abbrev cxE(P:Program)(w:World)(K:WN)(mg:Str->Option Value)(base:Heap)(N:List Str)(qual:Str)(scope:Scope)(f:Addr)(cd:Value)(A:Around)(outer:List Env)(s0:Shared)(H0:Hp)(E:XK):Cx:=jd (CXE P w) P w K mg base N qual scope f cd A outer s0 H0 E
theorem mz:frs (envOfC qual scope s0.heap.objs.size f cd::outer)=s0.heap.objs.size::frs outer:=rfl
theorem JB:hU (CXE P w) (cxE P w K mg base N qual scope f cd A outer s0 H0 E) E:=by
 rintro pins σ H s _ s' I ⟨e,c,a0,H',B,rfl,fl,x,hE⟩;have hfr:(A.deeper (envOfC qual scope s0.heap.objs.size f cd)).frames=some (envOfC qual scope s0.heap.objs.size f cd::outer):=I.ok.frames;show wpAny (model P w) (A.deeper (envOfC qual scope s0.heap.objs.size f cd)) (leaving (envOfC qual scope s0.heap.objs.size f cd) (.ref e)) _ _ s'
 have nL:∀b o,s0.heap.get? b=some o->b ∉ frs outer->b ∉ frs (envOfC qual scope s0.heap.objs.size f cd::outer):=fun b o q hb hm=>by
  rw[mz] at hm;rcases Zk.mp hm with z |z
  ·exact absurd (Zj q) (by rw[z];exact ZF _)
  ·exact hb z
 have ib:Un (frs outer) [] H0 H s0.heap s.heap:=I.base;refine wpAny_leaves_onW hfr rfl fl fun h' x1 x2=>⟨e,c,a0,H',B,rfl,x1,?_,hE⟩;refine⟨x.os.trans I.os,x.bare,⟨fun b o q n hb hx=>?_,fun b o q n hb hx=>?_,fun b o q n hx=>?_,fun b o q hx=>?_,fun b xs q=>x.un.tups b xs (ib.tups b xs q),fun b o u q=>x.un.frzs b o u (ib.frzs b o u q),fun b ps q=>?_⟩,fun b o q n hb=>?_,fun b o q hb=>?_,x.hok⟩
 ·exact x1.1 b o (x.keep b o (ib.keep b o q n hb hx) (ib.free b o q n hx) (nL b o q hb))
 ·obtain⟨z,q1⟩:=ib.slot b o q n hb hx;obtain⟨z2,q2⟩:=x.un.slot b _ q1 (ib.free b o q n hx) (show b ∈ s0.heap.objs.size::frs outer from Zd _ hb) hx
  obtain⟨_,o',q',nf⟩:=fl.2.2.1.mem (b:=b) (ZZ.mpr (by
   obtain⟨y,hy,hz⟩:=ZZ.mp hb;exact⟨y,Zd _ hy,hz⟩))
  rw[q2] at q';cases q';obtain⟨z3,q3⟩:=x2 b _ q2 nf;exact⟨z3,q3⟩
 ·obtain⟨o',q1⟩:=ib.there b o q hx;exact x.un.free b o' q1 (ib.free b o q n hx) hx
 ·by_cases hb:b ∈ frs outer
  ·obtain⟨_,o',q',_⟩:=x1.2.2.1.mem hb;exact⟨o',q'⟩
  ·obtain⟨o',q1⟩:=ib.there b o q hx;obtain⟨o2,q2⟩:=x.there b o' q1 (nL b o q hb);exact⟨o2,x1.1 b o2 q2⟩
 ·obtain⟨m1,e1⟩:=ib.tbls b ps q;obtain⟨m2,e2⟩:=x.un.tbls b _ e1;exact⟨m1++m2,by rw[e2,Y5]⟩
 ·exact x.keep b o (ib.keep b o q n hb (by simp)) (ib.free b o q n (by simp)) (nL b o q hb)
 ·obtain⟨o',q1⟩:=ib.there b o q (by simp);exact x.there b o' q1 (nL b o q hb)
theorem JC(I:Inv (cxE P w K mg base N qual scope f cd A outer s0 H0 E) pins σ H s)(mk:Heap.MadeExcOf s.heap h1 e c args)(hE:E c none H) :
  (cxE P w K mg base N qual scope f cd A outer s0 H0 E).xe (.ref e) { s with heap:=h1 }:=by
 have hfr:(A.deeper (envOfC qual scope s0.heap.objs.size f cd)).frames=some (envOfC qual scope s0.heap.objs.size f cd::outer):=I.ok.frames;show wpAny (model P w) (A.deeper (envOfC qual scope s0.heap.objs.size f cd)) (leaving (envOfC qual scope s0.heap.objs.size f cd) (.ref e)) _ _ { s with heap:=h1 };have stk:s.heap.FunFrames base (envOfC qual scope s0.heap.objs.size f cd::outer):=I.stack;have sf:∀b ∈ frs (envOfC qual scope s0.heap.objs.size f cd::outer),H b=none:=I.stkFree
 have nL:∀b o,s0.heap.get? b=some o->b ∉ frs outer->b ∉ frs (envOfC qual scope s0.heap.objs.size f cd::outer):=fun b o q hb hm=>by
  rw[mz] at hm;rcases Zk.mp hm with z |z
  ·exact absurd (Zj q) (by rw[z];exact ZF _)
  ·exact hb z
 have ib:Un (frs outer) [] H0 H s0.heap s.heap:=I.base;have hin:∀env ∈ (envOfC qual scope s0.heap.objs.size f cd::outer),∀b,env.frame=some b->b ∈ frs (envOfC qual scope s0.heap.objs.size f cd::outer):=fun env he b hb=>ZZ.mpr ⟨env,he,hb⟩;refine wpAny_leaves_madeW hfr rfl (fun b o q=>Vb _ q) (WY stk hin) mk fun h' t x1 x2 x3 x4=>⟨e,c,.ref t,H,_,rfl,x1,?_,hE⟩
 have up:∀b o,s.heap.get? b=some o->b ∈ frs (envOfC qual scope s0.heap.objs.size f cd::outer)->∃sl,h'.get? b=some { o with slots:=sl }:=fun b o q hb=>by
  obtain⟨_,o',q',nf⟩:=stk.mem hb;rw[q] at q';cases q';exact x4 b o (mk.keeps b o q) nf
 refine⟨I.os,I.bare,⟨fun b o q n hb hx=>?_,fun b o q n hb hx=>?_,fun b o q n hx=>ib.free b o q n hx,fun b o q hx=>?_,ib.tups,ib.frzs,ib.tbls⟩,fun b o q n hb=>?_,fun b o q hb=>?_,fun a o q=>?_⟩
 ·exact x1.1 b o (W0 _ (ib.keep b o q n hb hx) (nL b o q hb))
 ·obtain⟨z,q1⟩:=ib.slot b o q n hb hx;obtain⟨z2,q2⟩:=up b _ q1 (show b ∈ s0.heap.objs.size::frs outer from Zd _ hb);exact⟨z2,q2⟩
 ·obtain⟨o',q1⟩:=ib.there b o q hx;by_cases hb:b ∈ frs (envOfC qual scope s0.heap.objs.size f cd::outer)
  ·obtain⟨z2,q2⟩:=up b _ q1 hb;exact⟨_,q2⟩
  ·exact⟨o',x1.1 b o' (W0 _ q1 hb)⟩
 ·exact W0 _ (ib.keep b o q n hb (by simp)) (nL b o q hb)
 ·obtain⟨o',q1⟩:=ib.there b o q (by simp);exact⟨o',W0 _ q1 (nL b o q hb)⟩
 ·refine(I.hok a o q).stay (fun b u hb qu=>W0 _ qu fun hm=>?_) (fun _ z=>z) fun _ _ z=>z;have hf:=sf b hm;rcases hb with rfl |hb
  ·rw[q] at hf;cases hf
  ·rw[hb] at hf;cases hf
end
theorem mB(x:aX P w H h a o):∃u,h.get? a=some u:=by
 cases o with
 |lst xs=>obtain⟨_,_,_,_,e⟩:=x;exact⟨_,e⟩
 |tup xs=>obtain⟨_,_,_,o,e,_⟩:=x;exact⟨_,e⟩
 |dK kvs=>obtain⟨_,_,_,_,o,_,_,e,_⟩:=x;exact⟨_,e⟩
 |dT kvs=>obtain⟨_,_,_,_,o,_,_,e,_⟩:=x;exact⟨_,e⟩
 |set S n=>obtain⟨o,_,_,_,e,_⟩:=x;exact⟨_,e⟩
 |ins C dx fs=>obtain⟨_,_,_,e,_⟩:=x;exact⟨_,e⟩
 |own y=>exact x
 |xd fs=>obtain⟨_,⟨_,_,_,e,_⟩,_⟩:=x;exact⟨_,e⟩
 |rng lo hi=>obtain⟨_,_,_,e⟩:=x;exact⟨_,e⟩
 |frz ob u=>obtain⟨e,_⟩:=x;exact⟨_,e⟩
 |tbl ps=>exact⟨_,x⟩
 |met f y=>exact⟨_,x⟩
 |ext φ=>obtain⟨_,e,_⟩:=x;exact e
noncomputable abbrev exO(e C:Addr):HO:=.ext fun h=>fv h e C
section
variable {P:Program} {w:World} {l:List Env} {H H':Hp} {s s':Shared} {B:Heap} {e C:Addr} {a0:Value} {h6:Heap}
theorem XLeft.got(x:XLeft P w l H H' s B s')(f0:Heap.FlyingW B l e (.ref C) a0 s'.heap)(f:Heap.FlyingW B l e (.ref C) a0 h6)(u:s'.heap.UpToSlots h6):Un (frs l) [] H (upd H' e (exO e C)) s.heap h6/\HOk P w (upd H' e (exO e C)) h6:=by
 have un:=(x.later f0 f.1 f.2.2.1 u (g:=s'.gens) (d:=s'.drawn) (t:=s'.toks) x.bare).un
 have ne:H' e=none:=by
  cases q:H' e with
  |none=>rfl
  |some o=>obtain⟨z,q2⟩:=mB (x.hok e o q);rw[f.2.1] at q2;cases q2
 obtain⟨oe,vs,he,hc,hd,_⟩:=f.first
 have nb:∀b o,s.heap.get? b=some o->H b=none->b ≠ e:=fun b o q n z=>by
  subst z;by_cases hb:b ∈ frs l
  ·obtain⟨_,o2,q2,nf⟩:=f.2.2.1.mem hb;rw[he] at q2;cases q2;exact nf vs hd
  ·have:=x.keep b o q n hb;rw[f.2.1] at this;cases this
 have up:∀b u,H' b=some u->upd H' e (exO e C) b=some u:=fun b u q=>by rw[ah (aJ q ne)];exact q
 refine⟨⟨un.keep,un.slot,fun b o q n hx=>by rw[ah (nb b o q n)];exact un.free b o q n hx,un.there,fun b xs q=>up b _ (un.tups b xs q),fun b o v q=>up b _ (un.frzs b o v q),fun b ps q=>?_⟩,fun b o q=>?_⟩
 ·obtain⟨m,q1⟩:=un.tbls b ps q;exact⟨m,up b _ q1⟩
 ·by_cases hb:b=e
  ·subst hb;rw[ak] at q;cases q;exact⟨⟨oe,vs,he,hc,hd⟩,⟨oe,he⟩,fun h1 h2 ⟨o,vs,q1,q2⟩ k=>⟨o,vs,k o q1,q2⟩⟩
  ·rw[ah hb] at q;exact(x.hok b o q).stay (fun c v _ z=>f.1 c v z) (fun c z=>up c _ z) fun c xs z=>up c _ z
end
section
variable {X:Cx} {pins:List (Addr × Obj)} {σ:L2.St} {H:Hp} {s:Shared}
noncomputable abbrev Cx.mk(X:Cx)(e:Addr):Cx:={ X with A:=X.A.mark (some (.ref e)),calm:=false,xe:=fun _ _=>False }
theorem kM(I:L2.Inv X pins σ H s)(e:Addr):L2.Inv (Cx.mk X e) pins σ H s:=
 ⟨⟨I.ok.mod,I.ok.kind,I.ok.glob,I.ok.blt,I.ok.above,I.ok.inj,I.ok.has,I.ok.cab,fun z=>(nomatch z),I.ok.frames,I.ok.stk,I.ok.exf,I.ok.bs,I.ok.bsz,I.ok.noex,I.ok.exfs,I.ok.funs,I.ok.frf⟩,I.os,I.bare,I.base,I.loc,I.cell,I.free,I.freeC,I.pin,I.hok,I.len⟩
theorem wm(ok:X.Ok)(I:L2.Inv (Cx.mk X e) pins σ H s):L2.Inv X pins σ H s:=⟨ok,I.os,I.bare,I.base,I.loc,I.cell,I.free,I.freeC,I.pin,I.hok,I.len⟩
theorem qv{i:Nat}(I:L2.Inv X pins σ H s)(hN:X.N.Nodup)(hi:X.N[i]?=some x)(hk:X.env.scope.names.lookup x=some .local)
  (h:∀s',L2.Inv X pins (σ.set i none) H s'->Q () s'):wpAny M A (do Vn X.env x .none;unbindBehindTheSuite X.env x pos) Q E s:=by
 obtain⟨m,hn,hl⟩:=id I.loc;have hcls:(X.env.scope.kind == .class || (X.env.scope.kind == .module && X.env.locals != X.env.globals))=false:=by rw[I.ok.kind];rfl
 have hiσ:i < σ.length:=by rw[I.len];exact(Zf.mp hi).1
 have cne:=I.cne;refine wpAny_nameGoes_keeps hk hn hcls fun h' v hn' hs=>?_;refine h _ ⟨I.ok,I.os,I.bare,⟨fun b o e n hb hx=>?_,fun b o e n hb hx=>?_,I.base.free,fun b o e hx=>?_,I.base.tups,I.base.frzs,I.base.tbls⟩,⟨_,hn',fun j y v' e1 e2 e3=>?_⟩,fun y c e=>?_,I.free,I.freeC,fun p hp=>?_,fun b ob e=>?_,by simpa using I.len⟩
 ·exact(hs.2 b (Zl (Zo (Zj e) I.ok.above))).trans (I.base.keep b o e n hb hx)
 ·obtain⟨sl,e1⟩:=I.base.slot b o e n hb hx;exact⟨sl,(hs.2 b (Zl (Zo (Zj e) I.ok.above))).trans e1⟩
 ·obtain⟨o',e1⟩:=I.base.there b o e hx;exact⟨o',(hs.2 b (Zl (Zo (Zj e) I.ok.above))).trans e1⟩
 ·by_cases hj:j=i
  ·subst hj;rw[Zy hiσ] at e2;cases e2
  ·rw[ZT (Ne.symm hj)] at e2;obtain⟨u',r',q⟩:=hl j y v' e1 e2 e3;refine⟨u',r',?_⟩;rcases q with ⟨k,e⟩ |⟨k,c,e,z⟩
   ·refine .inl ⟨k,?_⟩;have:y ≠ x:=fun e=>hj (gW hN e1 (e ▸ hi));simp[this,e]
   ·exact .inr ⟨k,c,e,z.sameBut hs (cne y c e)⟩
 ·obtain⟨w',z⟩:=I.cell y c e;exact⟨w',z.sameBut hs (cne y c e)⟩
 ·obtain⟨e,n,ne,nf,d⟩:=I.pin p hp;exact⟨(hs.2 p.1 ne).trans e,n,ne,nf,d⟩
 ·refine(I.hok b ob e).stay (fun c w' hc q=>(hs.2 c ?_).trans q) (fun _ q=>q) fun _ _ q=>q;rintro rfl;rcases hc with rfl |hc
  ·rw[I.free] at e;cases e
  ·rw[I.free] at hc;cases hc
end
structure CtxOk(T:Tab)(C:Calls)(ar:Nat->Nat)(k:Nat)(b:Blk)(X:Cx):Prop where
 calm:X.calm=true
 xe:X.xe=fun _ _=>False
 hN:X.N=b.N
 hs:X.env.scope=b.sc
 nd:b.N.Nodup
 fn:∀x,(match b.fs with |none=>true |some sc=>sc.names.lookup x == some .cell)=true->X.fn x=true
 room:Room k X.A
 con:∀ (i:Nat) (x:Str) (v:Int),T.con[i]?=some (x,v)->∃tk,X.mg x=some (.int v tk)
 bl:∀x,x ∈ df->X.mg x=none
 fns:∀ (i:Nat) (y:Str × Nat),T.fns[i]?=some y->ar i=y.2/\∃f fd ps,X.mg y.1=some (.ref f)/\W2 X.K (.ref f)=true/\bX X.K fd ps []/\FnOk X.prog X.w X.K X.mg X.base (CXE X.prog X.w) k f fd ps (spC X.K (C i) (ar i))
section
variable {T:Tab} {C:Calls} {ar:Nat->Nat} {k:Nat} {b:Blk} {X:Cx}
theorem ae{e:Expr}{es:List Expr}{env:Env}(h:ao e=true):Ue (e::es) env=(false,eval e env)::Ue es env:=by
 cases e <;> first |rfl |(exact absurd h Zb)
theorem iX{e:Expr}(h:ao e=true):p0 e:=by
 intro o i;cases e <;> first |rfl |(exact absurd h Zb)
theorem bL{e:Expr}{op:CmpOp}(h:ao e=true):Vk op e=false:=by
 cases e <;> first |rfl |(exact absurd h Zb)
theorem iY{e f:Expr}{op op':CmpOp}(h:ao e=true):lastMarks [op,op'] [f,e]=false:=by
 show Vk op' e=false;exact bL h
theorem cV{e:Expr}{env:Env}(h:ao e=true):∀x,VH e env x=pure x:=by
 intro x;cases e <;> first |rfl |(exact absurd h Zb)
theorem aU{e:Expr}{m:Str}{env:Env}{w:Sem Value}(h:oO e=true):Vi e m env w=w:=by
 cases e with
 |Call f as ks p=>
  cases f with
  |Name x q=>
   cases as with
   |nil=>cases ks with |nil=>exact absurd h Zb |cons _ _=>rfl
   |cons _ _=>rfl
  |_=>rfl
 |_=>first |rfl |(exact absurd h Zb)
theorem eP{e:Expr}{env:Env}(h:zM e=true):∀whole,isTrue e env whole=(do let v <-whole;standAt e.pos;holding [v] (truthy v)):=by
 intro whole;cases e with
 |UnaryOp op x p=>cases op <;> first |rfl |(exact absurd h Zb)
 |_=>first |rfl |(exact absurd h Zb)
theorem dX{es:List Expr}{env:Env}{pos:Pos}(h:∀e ∈ es,ao e=true):(backTo pos (Ue es env)).any (·.1)=false:=by
 induction es with
 |nil=>rfl
 |cons e es ih=>
  rw[ae (h e Zg)];show(false || (backTo pos (Ue es env)).any (·.1))=false;rw[ih fun e he=>h e (Zd _ he)];rfl
theorem aV:∀ {n:Nat} {es:List Expr} {cs:List CE},cE T n b es cs=true->∀e ∈ es,ao e=true
 |0,_,_,h=>absurd h Zb
 |n+1,es,[],h=>fun x hx=>by rw[bH h] at hx;cases hx
 |n+1,es,c::cs,h=>by
  obtain⟨e,es,rfl,h⟩:=bE h;obtain⟨_,h1,h⟩:=an3 h;intro x hx;rcases Zk.mp hx with rfl |hx
  ·exact h1
  ·exact aV h x hx
theorem CtxOk.gl(G:CtxOk T C ar k b X){x:Str}(h:b.glo x=true):Gl X x/\(x == ("__debug__" : Str))=false:=by
 unfold Blk.glo at h;rw[bAE] at h;refine⟨?_,by simpa using h.2⟩;show X.env.scope.names.lookup x=_;rw[G.hs]
 simpa using h.1
theorem CtxOk.vis(G:CtxOk T C ar k b X){x:Str}(h:b.vis x=true):Vis X.env.scope x/\(x == ("__debug__" : Str))=false/\(x == ("__classdict__" : Str))=false:=by
 unfold Blk.vis at h;rw[bAE,bAE] at h;refine⟨?_,by simpa using h.1.2,by simpa using h.2⟩;unfold Vis;rw[G.hs];have h1:=h.1.1;split at h1
 ·rename_i e;exact .inl e
 ·rename_i e;exact .inr (.inl e)
 ·rename_i e;exact .inr (.inr e)
 ·cases h1
theorem CtxOk.own(G:CtxOk T C ar k b X){x:Str}(h:b.own x=true):L2.Loc X.env.scope x/\(X.fn x=true\/X.env.scope.names.lookup x=some .local):=by
 unfold Blk.own at h;unfold L2.Loc;rw[G.hs];split at h
 ·rename_i e;exact⟨.inl e,.inr e⟩
 ·rename_i e;refine⟨.inr e,.inl (G.fn x ?_)⟩;cases hf:b.fs with
  |none=>rfl
  |some sc=>rw[hf] at h;exact h
 ·cases h
theorem CtxOk.inner(G:CtxOk T C ar k b X){own:List Str}{scope:Scope}(S:CmScope own (iR own b.N) b.N scope b.sc){C':Addr}{ex:List Addr}{s:Shared}{H:Hp}:CtxOk T C ar k (b.inner own scope) (cxC X own (iR own b.N) scope C' ex s H):=
 ⟨G.calm,rfl,by show cb (iR own b.N) X.N++own=_;rw[G.hN];rfl,by show dj scope X.env.scope=_;rw[G.hs];rfl,S.nd,fun x h=>h,G.room,G.con,G.bl,G.fns⟩
theorem jO{e:Expr}{es:List Expr}{env:Env}(h:ao e=true):Vg (e::es) env=(false,assign e env)::Vg es env:=by
 cases e <;> first |rfl |(exact absurd h Zb)
mutual
theorem dY(G:CtxOk T C ar k b X):∀ {e:Expr} {t:Tg},oP b e t=true->PG X e (tTg X.K t)
 |e,.name i,h=>by
  obtain⟨r,hx,h⟩:=iS h;obtain⟨h1,h2⟩:=an2 h;rw[kI hx];have o:=G.own h2;exact PG.imp (pP (i:=i) (x:=r.1) (by rw[G.hN];exact G.nd) (by rw[G.hN];exact eq_of_beq h1) o.1 o.2) fun x σ H Q q=>kF q
 |e,.tup ts,h=>by
  obtain⟨r,hx,h⟩:=iS h;rw[ft hx];have hl:=jP h;exact PG.imp (t7 G.calm (mE G h) rfl hl.2) fun x σ H Q q=>EC hl.1 q
theorem mE(G:CtxOk T C ar k b X):∀ {es:List Expr} {ts:List Tg},iT b es ts=true->PGs X es (vk X.K ts)
 |es,[],h=>by
  rw[bH h];exact PGs.imp pR fun x σ H Q q=>zA q
 |es,t::ts,h=>by
  obtain⟨e,es,rfl,h⟩:=bE h;obtain⟨h1,h2,h⟩:=an3 h;exact PGs.imp (gZ (dY G h1) (mE G h) (by rw[jO h2];rfl)) fun x σ H Q q=>vm q
theorem jP:∀ {es:List Expr} {ts:List Tg},iT b es ts=true->(Vg es X.env).length=ts.length/\(Vg es X.env).findIdx? (·.1)=none
 |es,[],h=>by
  rw[bH h];exact⟨rfl,rfl⟩
 |es,t::ts,h=>by
  obtain⟨e,es,rfl,h⟩:=bE h;obtain⟨h1,h2,h⟩:=an3 h;have ih:=jP h;rw[jO h2];refine⟨congrArg (·+1) ih.1,?_⟩;rw[List.findIdx?_cons];simp[ih.2]
end
end
structure Snd(T:Tab)(C:Calls)(ar:Nat->Nat)(k n:Nat):Prop where
 e:∀ (b:Blk) (X:Cx) (e:Expr) (c:CE),CtxOk T C ar k b X->am T n b e c=true->PE X e (tE X.K (evE C ar n c))
 tm:∀ (b:Blk) (X:Cx) (e:Expr) (c:CE),CtxOk T C ar k b X->ac c=true->am T n b e c=true->PE X e (cK X.K (bJ C ar n c))
 a:∀ (b:Blk) (X:Cx) (es:List Expr) (cs:List CE),CtxOk T C ar k b X->cE T n b es cs=true->PA X es (tAr X.K (evA C ar n cs))
 t:∀ (b:Blk) (X:Cx) (e:Expr) (c:CE),CtxOk T C ar k b X->cU T n b e c=true->PT X e (tT X.K (evT C ar n c))
 i:∀ (B:List Addr) (b:Blk) (X:Cx) (t e:Expr) (c:CI),CtxOk T C ar k b X->fu T n b t e c=true->PI X t e (tIt X.K B (evI C ar n c))
 cl:∀ (b:Blk) (X:Cx) (e:Expr) (gs:List X0) (elt:CE) (cls:List Cl),CtxOk T C ar k b X->jN T n b e gs elt cls=true ->
  ∀ (gens:List X0) (scope:Scope) (pos:Pos) (acc:Addr) (d:Nat),gens.drop (d+1)=gs->PTl X e gens scope pos acc d (tCl X.K acc (ef C ar n elt cls))
section
variable {T:Tab} {C:Calls} {ar:Nat->Nat} {k n:Nat} {b:Blk} {X:Cx}
theorem bh{e:Expr}{es:List Expr}{te:TE}{t:TA}(ha:PE X e te)(hr:PA X es t)(hp:ao e=true):PA X (e::es) (bK te t):=yA ha hr (ae hp)
theorem JD(ih:Snd T C ar k n)(es:List Expr)(cs:List CE)(G:CtxOk T C ar k b X)(h:cE T (n+1) b es cs=true):PA X es (tAr X.K (evA C ar (n+1) cs)):=by
 cases cs with
 |nil=>rw[bH h];exact PA.imp j5 fun σ H Q q=>Ea q
 |cons c cs=>
  obtain⟨e,es,rfl,h⟩:=bE h;obtain⟨h1,h2,h⟩:=an3 h;exact PA.imp (bh (ih.e b X e c G h1) (ih.a b X es cs G h) h2) fun σ H Q q=>y9 q
theorem aW{e:Expr}{te:TE}(h:PE X e te)(hp:ao e=true):PA X [e] (bK te eY):=bh h j5 hp
theorem b0{x:Str}{id:String}{e:Expr}{te:TE}{r:V->Hp->VK->Prop}{p pos:Pos}(hc:au X (.builtin id) (r1 r))(G:CtxOk T C ar k b X)(hg:b.glo x=true)(hb:x ∈ df)(hv:Vo x=some (.builtin id))(hn:x ≠ "__name__")(h:PE X e te)(hp:ao e=true) :
  PE X (.Call (.Name x p) [e] [] pos) (tUn r te):=
 PE.imp (b9 hc (G.gl hg).1 (G.bl x hb) hv (aW h hp) hn (G.gl hg).2 (ae hp) rfl) fun σ H Q q=>q
theorem fB{x:Str}{id:String}{e:Expr}{te:TE}{r:V->Hp->VK->Prop}{p pos:Pos}(hc:au X (.type id) (r1 r))(G:CtxOk T C ar k b X)(hg:b.glo x=true)(hb:x ∈ df)(hv:Vo x=some (.type id))(hn:x ≠ "__name__")(h:PE X e te)(hp:ao e=true) :
  PE X (.Call (.Name x p) [e] [] pos) (tUn r te):=
 PE.imp (cG hc (G.gl hg).1 (G.bl x hb) hv (aW h hp) hn (G.gl hg).2 (ae hp) rfl) fun σ H Q q=>q
theorem dC{x:Str}{e:Expr}{a:CE}{f:Bool->List D->Sto->Option (D × Sto)}{ks:List Keyword}{p pos:Pos}(ih:Snd T C ar k n)(G:CtxOk T C ar k b X)(hq:∀te:TE,PE X e te->PE X (.Call (.Name x p) [e] ks pos) (tUn (rSq X.K f) te))(h:am T n b e a=true) :
  PE X (.Call (.Name x p) [e] ks pos) (tE X.K (if ac a=true then ik f (bJ C ar n a) else il f (evE C ar n a))):=by
 split
 ·rename_i ht;exact PE.imp (hq _ (ih.tm b X e a G ht h)) fun σ H Q q=>D8 q
 ·exact PE.imp (hq _ (ih.e b X e a G h)) fun σ H Q q=>Ec q
theorem qw{x y:Str}(h:(x == y)=true):x=y:=eq_of_beq h
theorem fC{K:WN}{x:XE}{σ:L2.St}{H:Hp}{Q Q':VK}(h:tE K x σ H Q)(f:∀v H',Q v H'->Q' v H'):tE K x σ H Q':=by
 obtain⟨m,ρ,S,d,S',E,R,e,q⟩:=h;exact⟨m,ρ,S,d,S',E,R,e,fun m' H' v A vd=>f _ _ (q m' H' v A vd)⟩
theorem wn{x:XE}{σ:L2.St}{H:Hp}{Q:VK}{K:WN}(h:cK K (iM x) σ H Q):tUn (rTm K fun _ ds=>some ds) (tE K x) σ H Q:=by
 obtain⟨m,ρ,S,ds,S',E,R,e,q⟩:=h;obtain⟨d,S1,e1,e⟩:=aa e;cases hi:aM d S1 with
 |none=>rw[hi] at e;cases e
 |some r=>
  rw[hi] at e;cases e;refine⟨m,ρ,S,d,_,E,R,e1,fun m1 H1 v A1 vd=>?_⟩;obtain⟨a,vs,ev,sq,vds⟩:=cL (tu:=r.1) (ds:=r.2) A1.rel vd hi;refine⟨m1,_,r.1,r.2,a,vs,r.2,A1.rel,ev,sq,vds,rfl,fun m2 H2 p ws A2 hp n1 n2 n3 vw=>?_⟩
  have hn:H p=none:=by
   cases eh:H p with
   |none=>rfl
   |some o=>
    by_cases hm:p ∈ m
    ·exact absurd rfl (n2 p (A1.ext.pre.subset hm))
    ·have:=A1.ext.keep p o eh hm;rw[n3] at this;cases this
  exact q m2 H2 p ws (A1.trans A2) hp n1 (fun b hb=>n2 b (A1.ext.pre.subset hb)) hn vw
theorem wo{x:XA}{σ:L2.St}{H:Hp}{Q:VK}{K:WN}(h:cK K x σ H Q):tUn (rTm K fun _ ds=>some ds) (cK K x) σ H Q:=by
 obtain⟨m,ρ,S,ds,S',E,R,e,q⟩:=h;refine⟨m,ρ,S,ds,S',E,R,e,fun m1 H1 a vs A1 ha na _ _ vd=>?_⟩;refine⟨m1,_,false,ds,a,vs,ds,A1.rel,rfl,show SqL K H1 a vs from SqL.of ha,vd,rfl,fun m2 H2 p ws A2 hp n1 n2 n3 vw=>?_⟩
 have hn:H p=none:=by
  cases eh:H p with
  |none=>rfl
  |some o=>
   by_cases hm:p ∈ m
   ·exact absurd rfl (n2 p (A1.ext.pre.subset hm))
   ·have:=A1.ext.keep p o eh hm;rw[n3] at this;cases this
 exact q m2 H2 p ws (A1.trans A2) hp n1 (fun b hb=>n2 b (A1.ext.pre.subset hb)) hn vw
noncomputable def ifT(C:Calls)(ar:Nat->Nat)(n:Nat)(K:WN):Option CE->TT
 |none=>yO
 |some c=>tT K (evT C ar n c)
theorem iZ(ih:Snd T C ar k n)(G:CtxOk T C ar k b X){ifs:List Expr}{cond:Option CE}(h:we (cU T n b) ifs cond=true):PTs X ifs (ifT C ar n X.K cond):=by
 cases cond with
 |none=>rw[bH h];exact yP
 |some c=>obtain⟨e,rfl,h⟩:=bC h;exact yQ (ih.t b X e c G h)
theorem o0{K:WN}{cond:Option CE}{acc:Addr}{c:XA}{D:Ends}{σ:L2.St}{H:Hp}(q:tCl K acc (cnd (evT C ar n) cond c) D σ H):c7 (ifT C ar n K cond) (tCl K acc c) D σ H:=by
 cases cond with
 |none=>exact EN q
 |some c=>exact zI q
theorem mF(ih:Snd T C ar k n)(G:CtxOk T C ar k b X){l:Option Expr}{lo:Option CE}(h:wd (am T n b) l lo=true):PO X l (tOI X.K (opt (evE C ar n) lo)):=by
 cases lo with
 |none=>
  cases l with
  |none=>exact PO.imp yE fun σ H Q q=>zg q
  |some _=>cases h
 |some c=>obtain⟨e,rfl,h⟩:=iS h;exact PO.imp (yF (ih.e b X e c G h)) fun σ H Q q=>zh q
theorem E7(ih:Snd T C ar k n)(e:Expr)(gs:List X0)(elt:CE)(cls:List Cl)(G:CtxOk T C ar k b X)(h:jN T (n+1) b e gs elt cls=true)(gens:List X0)(scope:Scope)(pos:Pos)(acc:Addr)(d:Nat)(hd:gens.drop (d+1)=gs) :
  PTl X e gens scope pos acc d (tCl X.K acc (ef C ar (n+1) elt cls)):=by
 have imp:∀ {t t':TS},PTl X e gens scope pos acc d t->(∀D σ H,t' D σ H->t D σ H)->PTl X e gens scope pos acc d t':=fun h f pins s σ H D I q=>h pins s σ H D I (f D σ H q);cases cls with
 |nil=>
  obtain⟨h0,h⟩:=an2 h;cases bH h0
  have hn:gens[d+1]?=none:=by
   have:=congrArg ZJ hd;simp at this;exact Zz.mpr (by omega)
  exact imp (uw G.xe hn (ih.e b X e elt G h)) fun D σ H q=>zH q
 |cons g rest=>
  obtain⟨tg,it,cond⟩:=g;obtain⟨⟨t,i,ifs,as⟩,gs',rfl,h⟩:=bE h;obtain⟨h0,h1,h2,h3,h4⟩:=an5 h;cases of_decide_eq_true h0
  have hn:gens[d+1]?=some ⟨t,i,ifs,0⟩:=by
   have:=congrArg (·[0]?) hd
   simpa using this
  have hd':gens.drop (d+1+1)=gs':=by
   have:=congrArg (List.drop 1) hd
   simpa[List.drop_drop] using this
  have hpl:=dW h1 (fun e he env=>cV he) X.env;exact imp (yR hn (ih.i [acc] b X t i it G h1) (dY G h2) (iZ ih G h3) (ih.cl b X e gs' elt rest G h4 gens scope pos acc (d+1) hd') G.xe G.calm hpl) fun D σ H q=>vH (fun D σ H z=>o0 z) q
theorem JE(ih:Snd T C ar k n)(B:List Addr)(t e:Expr)(c:CI)(G:CtxOk T C ar k b X)(h:fu T (n+1) b t e c=true):PI X t e (tIt X.K B (evI C ar (n+1) c)):=by
 cases c with
 |val a=>
  have h:=an2 h;show PI X t _ (tIt X.K B (if ac a=true then xIT (bJ C ar n a) else xIV (evE C ar n a)));split
  ·rename_i ht;exact PI.imp (pS (ih.tm b X _ a G ht h.1)) fun σ H R q=>LM q
  ·exact PI.imp (PI.or (pS (ih.e b X _ a G h.1)) (DF (ih.e b X _ a G h.1))) fun σ H R q=>LL q
 |r1 a=>
  obtain⟨x,p,q,rfl,h2,h3,h4⟩:=aL h;exact PI.imp (rl (G.gl h2).1 (G.bl _ (by decide)) (aW (ih.e b X x a G h3) h4) (ae h4)) fun σ H R q=>Jp q
 |r2 a c=>
  obtain⟨x,y,p,q,rfl,h2,h3,h4,h5,h6⟩:=bD h;exact PI.imp (rm (G.gl h2).1 (G.bl _ (by decide)) (bh (ih.e b X x a G h3) (aW (ih.e b X y c G h5) h6) h4) (by rw[ae h4,ae h6];rfl) (ae h6)) fun σ H R q=>Jq q
 |zp a c=>
  have h:=an2 h;obtain⟨x,y,p,q,rfl,h2,h3,h4,h5,h6⟩:=bD h.1;obtain⟨elts,x1,tp,rfl,_⟩:=oX h.2;exact PI.imp (ED (G.gl h2).1 (G.bl _ (by decide)) (bh (ih.e b X x a G h3) (aW (ih.e b X y c G h5) h6) h4) (by rw[ae h4,ae h6];rfl) (ae h6)) fun σ H R q=>EG q
 |en a=>
  have h:=an2 h;obtain⟨x,p,q,rfl,h2,h3,h4⟩:=aL h.1;obtain⟨elts,x1,tp,rfl,_⟩:=oX h.2;show PI X _ _ (tIt X.K B (if ac a=true then xET (bJ C ar n a) else xEV (evE C ar n a)));split
  ·rename_i ht;exact PI.imp (uF (G.gl h2).1 (G.bl _ (by decide)) (aW (ih.tm b X x a G ht h3) h4) (ae h4)) fun σ H R q=>Jo q
  ·exact PI.imp (PI.or (uF (G.gl h2).1 (G.bl _ (by decide)) (aW (ih.e b X x a G h3) h4) (ae h4)) (D6 (G.gl h2).1 (G.bl _ (by decide)) (aW (ih.e b X x a G h3) h4) (ae h4))) fun σ H R q=>Jn q
end
section
variable {T:Tab} {C:Calls} {ar:Nat->Nat} {k n:Nat} {b:Blk} {X:Cx}
theorem mG{k:Nat}{A:Around}(r:Room k A):A.units+64 < cLine:=r.units
theorem fD(K:WN)(m:List Addr)(H:Hp):∀l:List Nat,VDs K m H (l.map fun j=>D.int (Int.ofNat j)) (l.map fun(j:Nat)=>V.int j)
 |[]=>by rw[ZO,ZO,VDs]
 |a::l=>by rw[Zq,Zq,VDs];exact⟨_,_,rfl,aQ,fD K m H l⟩
theorem pL{H:Hp}{p:Addr}{x y:HO}:upd (upd H p x) p y=upd H p y:=by
 funext b
 unfold upd;split <;> rfl
theorem Rel.adoptO{K:WN}{m:List Addr}{S:Sto}{H:Hp}{a:Addr}(R:Rel K m S H)(n:a ∉ m){ob:Ob}(h:ObR K (m++[a]) H a ob):Rel K (m++[a]) (S++[ob]) H:=by
 have p:=Z7 m [a];have g:∀ {es:List D} {ws:List V},VDs K m H es ws->VDs K (m++[a]) H es ws:=fun z=>VDs.mono0 p (fun _ _ t=>t) z;refine⟨by simp[R.len],Xb.mpr ⟨R.nd,by simp,fun x hx y hy=>by simp at hy;subst hy;exact fun z=>n (z ▸ hx)⟩,fun i o e=>?_⟩;by_cases hi:i < S.length
 ·rw[Zx hi] at e;obtain⟨b,hb,r⟩:=R.ob i o e;refine⟨b,e9 p hb,?_⟩;cases o with
  |lst ds=>obtain⟨vs,p,q⟩:=r;exact⟨vs,p,g q⟩
  |frz ds=>obtain⟨o,vs,p,q⟩:=r;exact⟨o,vs,p,g q⟩
  |dic ks ds=>obtain⟨vs,p,l,q⟩:=r;exact⟨vs,p,l,g q⟩
 ·rw[Zu (by lia)] at e
  have hz:i - S.length=0:=by
   have:=(Zf.mp e).1;simp at this;lia
  rw[hz] at e;have e':ob=o:=by simpa using e
  subst e';refine⟨a,?_,h⟩;rw[Zu (by rw[R.len];lia),R.len,hz];rfl
theorem qx{K:WN}{m:List Addr}{H:Hp}{S:Sto}{p:Addr}{ks:List Key}{ds:List D}{vs:List V}{Q:VK}(R:Rel K m S H)(hp:H p=none)(vd:VDs K m H ds vs)(hl:ks.length=ds.length)(q:∀m' H' u,Aft K m H (S++[.dic ks ds]) m' H'->VD K m' H' (.ref S.length) u->Q u H'):Q (.ref p) (upd H p (.dK (ks.zip vs))):=by
 have x:=Ext.beside R hp (.dK (ks.zip vs));have R1:=R.beside hp (.dK (ks.zip vs));refine q (m++[p]) _ _ ⟨x.adopt hp,?_⟩ ?_
 ·exact R1.adoptO (R.no hp) (ob:=.dic ks ds) ⟨vs,ak,hl,VDs.mono0 (Z7 m [p]) (fun _ _ t=>t) (vd.mono R x)⟩
 ·rw[VD];exact⟨p,by rw[Zu (by rw[R.len];exact Zh _),R.len,YO];rfl,rfl⟩
theorem f9{es:List Expr}{a:CE}(h:cE T n b es [a]=true):∃y,es=[y]:=by
 cases n with
 |zero=>exact absurd h Zb
 |succ n=>
  obtain⟨e,es,rfl,h⟩:=bE h;have h:=(an2 h).2;cases n with
  |zero=>exact absurd h Zb
  |succ n=>cases bH h;exact⟨e,rfl⟩
theorem zW(ih:Snd T C ar k n){own:List Str}{elt:CE}{tg:Tg}{it:CI}{cond:Option CE}{rest:List Cl}{e t i:Expr}{ifs:List Expr}{gs:List X0}{scope:Scope}{pos:Pos}(G:CtxOk T C ar k b X)
  (h0:cmB own (iR own b.N) b.N scope b.sc=true) (h1:fu T n b t i it=true) (h2:oP (b.inner own scope) t tg=true) (h3:we (cU T n (b.inner own scope)) ifs cond=true) (h4:jN T n (b.inner own scope) e gs elt rest=true) :
  PE X (.ListComp e (⟨t,i,ifs,0⟩::gs) scope pos) (cK X.K (iL own.length (evI C ar n it) tg (cnd (evT C ar n) cond (ef C ar n elt rest)) LF)):=by
 have S:CmScope own (iR own b.N) b.N scope b.sc:=uG _ h0;have S':CmScope own (iR own b.N) X.N scope X.env.scope:=by rw[G.hN,G.hs];exact S
 have hpl:=dW h1 (fun e he env=>cV he) X.env
 refine PE.imp (yS (g:=tTg X.K tg) (ti:=ifT C ar n X.K cond) (t:=fun acc=>tCl X.K acc (ef C ar n elt rest)) G.calm S' (ih.i [] b X t i it G h1) (fun C' ex s H=>dY (G.inner S (C':=C') (ex:=ex) (s:=s) (H:=H)) h2) (fun C' ex s H=>iZ ih (G.inner S (C':=C') (ex:=ex) (s:=s) (H:=H)) h3)
  (fun C' ex s H acc=>ih.cl _ _ e gs elt rest (G.inner S (C':=C') (ex:=ex) (s:=s) (H:=H)) h4 _ scope pos acc 0 rfl) hpl) fun σ H Q q=>?_
 exact qj (fun acc D σ H z=>o0 z) q
theorem E8{x:XE}{σ:L2.St}{H:Hp}{Q:VK}{K:WN}(h:cK K (sQ x) σ H Q):tE K x σ H fun v H1=>∃i:Nat,v = .int i/\i<=1000/\∀p,H1 p=none->∀l,upd H1 p (.rng 0 i) l=none->Q (.ref l) (upd (upd H1 p (.rng 0 i)) l (.lst ((ZI i).map fun(j:Nat)=>V.int j))):=by
 obtain⟨m,ρ,S,ds,S',E,R,e,q⟩:=h;obtain⟨d,S1,e1,e⟩:=aa e;cases d with
 |int i=>
  dsimp only at e;split at e
  ·rename_i hi;cases e;refine⟨m,ρ,S,.int i,_,E,R,e1,fun m1 H1 v A1 vd=>⟨i.toNat,by rw[vd.ints];congr 1;lia,by lia,fun p hp l hl=>?_⟩⟩;have A2:Aft K m1 H1 S' m1 (upd H1 p (.rng 0 i.toNat)):=⟨Ext.beside A1.rel hp _,A1.rel.beside hp _⟩;have A3:Aft K m1 (upd H1 p (.rng 0 i.toNat)) S' m1 (upd (upd H1 p (.rng 0 i.toNat)) l (.lst ((ZI i.toNat).map fun(j:Nat)=>V.int j))):=⟨Ext.beside A2.rel hl _,A2.rel.beside hl _⟩;have nl:l ∉ m1:=A2.rel.no hl
   have n1:H1 l=none:=by
    cases hh:H1 l with
    |none=>rfl
    |some o=>rw[(Ext.beside A1.rel hp (.rng 0 i.toNat)).keep l o hh nl] at hl;cases hl
   have nH:H l=none:=by
    cases hh:H l with
    |none=>rfl
    |some o=>
     by_cases hm:l ∈ m
     ·exact absurd (A1.ext.pre.subset hm) nl
     ·rw[A1.ext.keep l o hh hm] at n1;cases n1
   refine q m1 _ l _ (A1.trans (A2.trans A3)) ak nl (fun b hb z=>nl (z ▸ A1.ext.pre.subset hb)) nH ?_;exact fD _ _ _ _
  ·cases e
 |_=>cases e
theorem wq{K:WN}{m:List Addr}{H:Hp}(a:Int):∀l:List Nat,VDs K m H (l.map fun(i:Nat)=>D.int (a+i)) (l.map fun(i:Nat)=>V.int (a+i))
 |[]=>by rw[ZO,ZO,VDs]
 |i::l=>by rw[Zq,Zq,VDs];exact⟨_,_,rfl,aQ,wq a l⟩
theorem zX{x y:XE}{σ:L2.St}{H:Hp}{Q:VK}{K:WN}(h:cK K (jL x y) σ H Q):tE K x σ H fun v H1=>tE K y σ H1 fun u H2=>∃i j,v = .int i/\u = .int j/\-100000<=i/\i<=j/\j<=i+1000/\i<=100000/\∀p,H2 p=none->∀l,upd H2 p (.rng i j) l=none->Q (.ref l) (upd (upd H2 p (.rng i j)) l (.lst (rgV i j))):=by
 obtain⟨m,ρ,S,ds,S',E,R,e,q⟩:=h;obtain⟨d,S1,e1,e⟩:=aa e;obtain⟨d2,S2,e2,e⟩:=aa e;cases d with
 |int i=>
  cases d2 with
  |int j=>
   dsimp only at e;split at e
   ·rename_i hi;cases e;refine⟨m,ρ,S,.int i,_,E,R,e1,fun m1 H1 v A1 vd=>⟨m1,ρ,S1,.int j,_,E.mono R A1.ext,A1.rel,e2,fun m2 H2 u A2 vu=>⟨i,j,vd.ints,vu.ints,hi.1,hi.2.1,hi.2.2.1,hi.2.2.2,fun p hp l hl=>?_⟩⟩⟩;have A12:=A1.trans A2;have A3:Aft K m2 H2 _ m2 (upd H2 p (.rng i j)):=⟨Ext.beside A2.rel hp _,A2.rel.beside hp _⟩;have A4:Aft K m2 (upd H2 p (.rng i j)) _ m2 (upd (upd H2 p (.rng i j)) l (.lst (rgV i j))):=⟨Ext.beside A3.rel hl _,A3.rel.beside hl _⟩;have nl:l ∉ m2:=A3.rel.no hl
    have n1:H2 l=none:=by
     cases hh:H2 l with
     |none=>rfl
     |some o=>rw[(Ext.beside A2.rel hp (.rng i j)).keep l o hh nl] at hl;cases hl
    have nH:H l=none:=by
     cases hh:H l with
     |none=>rfl
     |some o=>
      by_cases hm:l ∈ m
      ·exact absurd (A12.ext.pre.subset hm) nl
      ·rw[A12.ext.keep l o hh hm] at n1;cases n1
    refine q m2 _ l _ (A12.trans (A3.trans A4)) ak nl (fun b hb z=>nl (z ▸ A12.ext.pre.subset hb)) nH ?_;exact wq _ _
   ·cases e
  |_=>cases e
 |_=>cases e
theorem zY{σ:L2.St}{H:Hp}{Q:VK}{K:WN}(h:tE K vP σ H Q):uA σ H Q:=by
 obtain⟨m,ρ,S,d,S',E,R,e,q⟩:=h;cases e;exact fun p hp=>qx R hp (show VDs K m H [] [] by rw[VDs]) rfl q
theorem zZ{σ:L2.St}{H:Hp}{Q:VK}{K:WN}{i j:Int}(h:tE K (vQ i j) σ H Q):uD [(tC (.int i),tC (.int j))] σ H Q:=by
 obtain⟨m,ρ,S,d,S',E,R,e,q⟩:=h;cases e;intro p hp;refine⟨ak,[(vO i,.int j)],rfl,by simp,?_⟩;rw[pL];exact qx R hp (ks:=[vO i]) (vs:=[.int j]) (show VDs K m H [.int j] [.int j] by rw[VDs];exact⟨_,_,rfl,aQ,by rw[VDs]⟩) rfl q
theorem E9{f:Bool->List D->Option (List D)}{x:XE}{σ:L2.St}{H:Hp}{Q:VK}{K:WN}(h:cK K (sP f x) σ H Q):tUn (rTm K f) (tE K x) σ H Q:=by
 obtain⟨m,ρ,S,ds,S',E,R,e,q⟩:=h;obtain⟨d,S1,e1,e⟩:=aa e;cases hi:aM d S1 with
 |none=>rw[hi] at e;cases e
 |some r=>
  rw[hi] at e;dsimp only at e;cases hf:f r.1 r.2 with
  |none=>rw[hf] at e;cases e
  |some es=>
  rw[hf] at e;cases e;refine⟨m,ρ,S,d,_,E,R,e1,fun m1 H1 v A1 vd=>?_⟩;obtain⟨a,vs,ev,sq,vds⟩:=cL (tu:=r.1) (ds:=r.2) A1.rel vd hi;refine⟨m1,_,r.1,r.2,a,vs,ds,A1.rel,ev,sq,vds,hf,fun m2 H2 p ws A2 hp n1 n2 n3 vw=>?_⟩
  have hn:H p=none:=by
   cases eh:H p with
   |none=>rfl
   |some o=>
    by_cases hm:p ∈ m
    ·exact absurd rfl (n2 p (A1.ext.pre.subset hm))
    ·have:=A1.ext.keep p o eh hm;rw[n3] at this;cases this
  exact q m2 H2 p ws (A1.trans A2) hp n1 (fun b hb=>n2 b (A1.ext.pre.subset hb)) hn vw
theorem Fa{f:Bool->List D->Option (List D)}{x:XA}{σ:L2.St}{H:Hp}{Q:VK}{K:WN}(h:cK K (sO f x) σ H Q):tUn (rTm K f) (cK K x) σ H Q:=by
 obtain⟨m,ρ,S,es,S',E,R,e,q⟩:=h;obtain⟨ds,S1,e1,e⟩:=aa e;cases hf:f false ds with
 |none=>rw[hf] at e;cases e
 |some es'=>
 rw[hf] at e;cases e;refine⟨m,ρ,S,ds,_,E,R,e1,fun m1 H1 a vs A1 ha na _ _ vd=>?_⟩;refine⟨m1,_,false,ds,a,vs,es,A1.rel,rfl,show SqL K H1 a vs from SqL.of ha,vd,hf,fun m2 H2 p ws A2 hp n1 n2 n3 vw=>?_⟩
 have hn:H p=none:=by
  cases eh:H p with
  |none=>rfl
  |some o=>
   by_cases hm:p ∈ m
   ·exact absurd rfl (n2 p (A1.ext.pre.subset hm))
   ·have:=A1.ext.keep p o eh hm;rw[n3] at this;cases this
 exact q m2 H2 p ws (A1.trans A2) hp n1 (fun b hb=>n2 b (A1.ext.pre.subset hb)) hn vw
theorem wt(ih:Snd T C ar k n)(e:Expr)(c:CE)(G:CtxOk T C ar k b X)(ht:ac c=true)(h:am T (n+1) b e c=true):PE X e (cK X.K (bJ C ar (n+1) c)):=by
 cases c with
 |lst cs=>
  obtain⟨es,p,rfl,hh⟩:=iU h;exact PE.imp (hJ (ih.a b X es cs G hh)) fun σ H Q q=>za q
 |listOf a=>
  obtain⟨x,p,q,rfl,h2,h3,h4⟩:=aL h;show PE X _ (cK X.K (if ac a=true then bJ C ar n a else iM (evE C ar n a)));split
  ·rename_i ht;exact PE.imp (fB iu G h2 (by decide) XH (by decide) (ih.tm b X x a G ht h3) h4) fun σ H Q q=>wo q
  ·exact PE.imp (fB iu G h2 (by decide) XH (by decide) (ih.e b X x a G h3) h4) fun σ H Q q=>wn q
 |listR a=>
  obtain⟨x,p,q,rfl,h2,h3,h4⟩:=aL h;obtain⟨y,p',q',rfl,h5,h6,h7⟩:=aL h3
  exact PE.imp (cG (kj G.calm) (G.gl h2).1 (G.bl _ (by decide)) XH (aW (cG lH (G.gl h5).1 (G.bl _ (by decide)) XN (aW (ih.e b X y a G h6) h7) (by decide) (G.gl h5).2 (ae h7) rfl) h4) (by decide) (G.gl h2).2 (ae h4) rfl) fun σ H Q q=>fC (E8 q) fun v H1 ⟨i,ev,hi,z⟩=>by
    subst ev;exact⟨i,rfl,fun p hp=>⟨p,i,rfl,ak,hi,fun l hl=>z p hp l hl⟩⟩
 |listR2 a c=>
  obtain⟨x,p,q,rfl,h2,h3,h4⟩:=aL h;obtain⟨y,z,p',q',rfl,h5,h6,h7,h8,h9⟩:=bD h3
  exact PE.imp (cG (jj G.calm) (G.gl h2).1 (G.bl _ (by decide)) XH (aW (cG kG (G.gl h5).1 (G.bl _ (by decide)) XN (bh (ih.e b X y a G h6) (aW (ih.e b X z c G h8) h9) h7) (by decide) (G.gl h5).2 (ae h7) (dX fun e he=>by rw[ZN.mp he];exact h9)) h4) (by decide) (G.gl h2).2 (ae h4) rfl) fun σ H Q q=>fC (zX q) fun v H1 q1=>fC q1 fun u H2 ⟨i,j,ev,eu,z1,z2,z3,z4,z5⟩=>by
    subst ev eu;exact⟨i,j,rfl,fun p hp=>⟨p,i,j,rfl,ak,z1,z2,z3,z4,fun l hl=>z5 p hp l hl⟩⟩
 |srt a=>
  obtain⟨x,p,q,rfl,h2,h3,h4⟩:=aL h;show PE X _ (cK X.K (if ac a=true then sO cN (bJ C ar n a) else sP cN (evE C ar n a)));split
  ·rename_i ht;exact PE.imp (b0 jH G h2 (by decide) XQ (by decide) (ih.tm b X x a G ht h3) h4) fun σ H Q q=>Fa (f:=cN) q
  ·exact PE.imp (b0 jH G h2 (by decide) XQ (by decide) (ih.e b X x a G h3) h4) fun σ H Q q=>E9 (f:=cN) q
 |comp own elt cls=>
  obtain⟨tg,it,cond,rest,rfl,hc⟩:=CO h;obtain⟨el,t,i,ifs,gs,scope,p,rfl,hh⟩:=qr hc;obtain⟨h0,h1,h2,h3,h4⟩:=an5 hh;exact zW ih G h0 h1 h2 h3 h4
 |_=>cases ht
theorem cX{y:Expr}{pos:Pos}(h:ao y=true):((backTo pos (Ue [y] X.env)).all (fun x=>!x.1) && (Vj pos (VO [] X.env)).all (fun x=>x.1.isSome) && decide (([y]:List Expr).length+([]:List Keyword).length+(if ([]:List Keyword).isEmpty then 0 else 1) < 30))=true:=by
 rw[ae h];rfl
theorem Fb{es:List Expr}{a c:CE}(h:cE T n b es [a,c]=true):∃y z,es=[y,z]:=by
 cases n with
 |zero=>exact absurd h Zb
 |succ n=>
  obtain⟨e,es,rfl,h⟩:=bE h;obtain⟨z,rfl⟩:=f9 (an2 h).2;exact⟨e,z,rfl⟩
theorem JF(ih:Snd T C ar k n)(e:Expr)(c:CE)(G:CtxOk T C ar k b X)(h:am T (n+1) b e c=true):PE X e (tE X.K (evE C ar (n+1) c)):=by
 have hu:=mG G.room
 have tmp:ac c=true->evE C ar (n+1) c=cg (bJ C ar (n+1) c)->PE X e (tE X.K (evE C ar (n+1) c)):=fun ht he=>by
  rw[he];exact PE.imp (wt ih e c G ht h) fun σ H Q q=>lK q
 cases c with
 |non=>obtain⟨_,_,rfl⟩:=wa h;exact PE.imp tR fun σ H Q q=>uJ (fun _ _=>eG) q
 |bl v=>obtain⟨_,_,rfl⟩:=wb h;exact PE.imp tQ fun σ H Q q=>uJ (fun _ _=>bB) q
 |int v=>obtain⟨_,_,rfl⟩:=fZ h;exact PE.imp fK fun σ H Q q=>uJ (fun _ _=>aQ) q
 |str v=>obtain⟨_,_,rfl⟩:=kJ h;exact PE.imp gY fun σ H Q q=>uJ (fun _ _=>eJ) q
 |var i=>
  obtain⟨x,p,rfl,hh⟩:=aZ h;have hh:=an2 hh;have v:=G.vis hh.2;exact PE.imp (gX (i:=i) (by rw[G.hN];exact eq_of_beq hh.1) v.1 v.2.1 v.2.2) fun σ H Q q=>D9 q
 |con k' v=>
  obtain⟨x,p,rfl,hh⟩:=aZ h;have hh:=an2 hh;have g:=G.gl hh.2;obtain⟨tk,hm⟩:=G.con k' x v (eq_of_beq hh.1);exact PE.imp (j4 (v:=.int v) g.1 hm ⟨tk,rfl⟩ g.2) fun σ H Q q=>uJ (fun _ _=>aQ) q
 |tup cs=>obtain⟨es,_,_,rfl,hh⟩:=oX h;exact PE.imp (DS (ih.a b X es cs G hh)) fun σ H Q q=>Eb q
 |lst cs=>exact tmp rfl rfl
 |dic0=>obtain⟨p,rfl⟩:=zS h;exact PE.imp uB fun σ H Q q=>zY q
 |dic1 i j=>
  obtain⟨x,y,p,rfl,h1,h2⟩:=zT h;obtain⟨_,_,rfl⟩:=fZ h1;obtain⟨_,_,rfl⟩:=fZ h2;exact PE.imp (uH fK fK) fun σ H Q q=>zZ q
 |bin o a c'=>obtain⟨l,r,p,rfl,h2,h3⟩:=oY h;exact PE.imp (ue (zf o) (ih.e b X l a G h2) (ih.e b X r c' G h3)) fun σ H Q q=>km q
 |neg a=>obtain⟨x,p,rfl,hh⟩:=EY h;exact PE.imp (IA zJ (ih.e b X x a G hh)) fun σ H Q q=>p6 q
 |cmp o a c'=>obtain⟨l,r,p,rfl,h2,h3,h4⟩:=iV h;exact PE.imp (yw (dU hu o) (ih.e b X l a G h2) (ih.e b X r c' G h3) (bL h4)) fun σ H Q q=>km q
 |chn o p' a c' d=>obtain⟨l,r,s,p,rfl,h2,h3,h4,h5⟩:=wc h;exact PE.imp (ug (dU hu o) (dU hu p') (ih.e b X l a G h2) (ih.e b X r c' G h3) (ih.e b X s d G h4) (iY h5)) fun σ H Q q=>vK q
 |and a c'=>
  rcases zN h with h |h
  ·obtain⟨x,y,p,rfl,h1,h2⟩:=f8 h;exact PE.imp (tW (ih.e b X x a G h1) (tV (ih.e b X y c' G h2))) fun σ H Q q=>vJ q
  ·obtain⟨x,y,z,ys,p,rfl,h1,h2⟩:=kL h;exact PE.imp (tW (ih.e b X x a G h1) (ih.e b X _ c' G h2)) fun σ H Q q=>vJ q
 |or a c'=>
  rcases zN h with h |h
  ·obtain⟨x,y,p,rfl,h1,h2⟩:=f8 h;exact PE.imp (Cj (ih.e b X x a G h1) (tV (ih.e b X y c' G h2))) fun σ H Q q=>CC q
  ·obtain⟨x,y,z,ys,p,rfl,h1,h2⟩:=kL h;exact PE.imp (Cj (ih.e b X x a G h1) (ih.e b X _ c' G h2)) fun σ H Q q=>CC q
 |not a=>obtain⟨x,p,rfl,hh⟩:=kK h;exact PE.imp (Dy (ih.e b X x a G hh)) fun σ H Q q=>ES q
 |ite t a c'=>obtain⟨x,y,z,p,rfl,h1,h2,h3⟩:=EZ h;exact PE.imp (tX (ih.t b X x t G h1) (ih.e b X y a G h2) (ih.e b X z c' G h3)) fun σ H Q q=>ET q
 |ix a c'=>
  obtain⟨x,y,p,rfl,h1,h2,h3⟩:=CN h;show PE X _ (tE X.K (if ac a=true then nZ (bJ C ar n a) (evE C ar n c') else lJ ixS (evE C ar n a) (evE C ar n c')));split
  ·rename_i ht;exact PE.imp (ul um (ih.tm b X x a G ht h1) (ih.e b X y c' G h2) (iX h3)) fun σ H Q q=>Em q
  ·exact PE.imp (ul LJ (ih.e b X x a G h1) (ih.e b X y c' G h2) (iX h3)) fun σ H Q q=>km q
 |sl a lo hi=>obtain⟨x,y,z,p,p',rfl,h1,h2,h3⟩:=Jy h;exact PE.imp (uk LK (ih.e b X x a G h1) (mF ih G h2) (mF ih G h3)) fun σ H Q q=>Jh q
 |call f cs=>
  obtain⟨x,e,es,p,p',rfl,h12,h3⟩:=zQ (k:=fun x=>oA T.fns[f]? (fun y=>y.1 == x) && b.glo x) (l:=fun es=>cE T n b es cs) (e:=e) h;obtain⟨h1,h2⟩:=an2 h12
  ·obtain⟨y,hy,h1⟩:=iS h1;have hx:=qw h1;subst hx;obtain⟨ha,fa,fd,ps,hm,hk,hb,F⟩:=G.fns f y hy;have hpl:=aV h3;have g:=G.gl h2;exact PE.imp (yB F G.room g.1 hm hk hb .nil JA (ih.a b X (e::es) cs G h3) g.2 (ae (hpl e Zg)) (dX fun e he=>hpl e (Zd _ he))) fun σ H Q q=>zK q
 |inst t a=>
  obtain⟨x,y,p,p',rfl,h2,h5,h6,h7,_⟩:=bD h;obtain⟨y,p'',rfl,h8⟩:=aZ h7;obtain⟨h3,h4⟩:=an2 h8;have hy:=qw h3;subst hy
  have ty:PE X (.Name (Str.ofString t.nm) p'') (tC (.ty t.nm)):=by
   have g:=G.gl h4;cases t with
   |int=>exact dN g.1 (G.bl _ (by decide)) XF rfl (by decide) g.2
   |bool=>exact dN g.1 (G.bl _ (by decide)) PyProof.Rows.boot_bool rfl (by decide) g.2
   |tuple=>exact dN g.1 (G.bl _ (by decide)) XU rfl (by decide) g.2
   |list=>exact dN g.1 (G.bl _ (by decide)) XH rfl (by decide) g.2
   |str=>exact dN g.1 (G.bl _ (by decide)) XR rfl (by decide) g.2
  exact PE.imp (b9 (kl X.K) (G.gl h2).1 (G.bl _ (by decide)) XG (bh (ih.e b X x a G h5) (aW ty rfl) h6) (by decide) (G.gl h2).2 (ae h6) rfl) fun σ H Q q=>zl q
 |len a=>obtain⟨x,p,p',rfl,h2,h3,h4⟩:=aL h;exact dC ih G (fun te z=>b0 r9 G h2 (by decide) PySem.boot_len (by decide) z h4) h3
 |all a=>obtain⟨x,p,p',rfl,h2,h3,h4⟩:=aL h;exact dC ih G (fun te z=>b0 (se G.calm) G h2 (by decide) PyProof.Rows.boot_all (by decide) z h4) h3
 |any a=>obtain⟨x,p,p',rfl,h2,h3,h4⟩:=aL h;exact dC ih G (fun te z=>b0 (sg G.calm) G h2 (by decide) PyProof.Rows.boot_any (by decide) z h4) h3
 |mxL a=>obtain⟨x,p,p',rfl,h2,h3,h4⟩:=aL h;exact dC ih G (fun te z=>b0 (sv G.calm) G h2 (by decide) XJ (by decide) z h4) h3
 |mxD a c=>
  obtain⟨x,p,q,j,p',q',rfl,h2,h3,h4⟩:=zR h;exact dC ih G (fun te z=>PE.imp (Ew G.calm (G.gl h2).1 (G.bl _ (by decide)) (G.gl h2).2 (aW z h4) (ae h4)) fun σ H Q q=>q) h3
 |mnL a=>obtain⟨x,p,p',rfl,h2,h3,h4⟩:=aL h;exact dC ih G (fun te z=>b0 (sx G.calm) G h2 (by decide) XM (by decide) z h4) h3
 |sm a=>obtain⟨x,p,p',rfl,h2,h3,h4⟩:=aL h;exact dC ih G (fun te z=>b0 (sF G.calm) G h2 (by decide) PyProof.Rows.boot_sum (by decide) z h4) h3
 |intOf a=>obtain⟨x,p,p',rfl,h2,h3,h4⟩:=aL h;exact PE.imp (fB sG G h2 (by decide) XF (by decide) (ih.e b X x a G h3) h4) fun σ H Q q=>p6 q
 |strI a=>obtain⟨x,p,p',rfl,h2,h3,h4⟩:=aL h;exact PE.imp (fB sH G h2 (by decide) XR (by decide) (ih.e b X x a G h3) h4) fun σ H Q q=>p6 q
 |tupOf a=>obtain⟨x,p,p',rfl,h2,h3,h4⟩:=aL h;exact dC ih G (fun te z=>fB sd G h2 (by decide) XU (by decide) z h4) h3
 |listOf a=>exact tmp rfl rfl
 |listR a=>exact tmp rfl rfl
 |listR2 a c=>exact tmp rfl rfl
 |srt a=>exact tmp rfl rfl
 |mx a c'=>
  obtain⟨x,es,p,p',rfl,h2,h3⟩:=mw (b:=b) (f := "max") (k:=fun es=>cE T n b es [a,c']) (e:=e) h;have hpl:=aV h3;exact PE.imp (b9 (om G.calm) (G.gl h2).1 (G.bl _ (by decide)) XJ (ih.a b X (x::es) [a,c'] G h3) (by decide) (G.gl h2).2 (ae (hpl x Zg)) (dX fun e he=>hpl e (Zd _ he))) fun σ H Q q=>uI q
 |mn a c'=>
  obtain⟨x,es,p,p',rfl,h2,h3⟩:=mw (b:=b) (f := "min") (k:=fun es=>cE T n b es [a,c']) (e:=e) h;have hpl:=aV h3;exact PE.imp (b9 (oo G.calm) (G.gl h2).1 (G.bl _ (by decide)) XM (ih.a b X (x::es) [a,c'] G h3) (by decide) (G.gl h2).2 (ae (hpl x Zg)) (dX fun e he=>hpl e (Zd _ he))) fun σ H Q q=>uI q
 |rep a=>obtain⟨x,p,p',rfl,h2,h3,h4⟩:=aL h;exact PE.imp (b0 (oK G.room) G h2 (by decide) PyProof.Rows.boot_repr (by decide) (ih.e b X x a G h3) h4) fun σ H Q q=>p6 q
 |comp own elt cls=>exact tmp rfl rfl
 |app o a=>
  obtain⟨x,ap,es,p,rfl,h2,h3,h4,h5⟩:=cD h;obtain⟨y,rfl⟩:=f9 h5;have hpl:=aV h5 y (by simp);exact PE.imp (gp Wc Wf PySem.F.type_list_append Ey (ih.e b X x o G h4) (ih.a b X [y] [a] G h5) (aU h2) (cX hpl) h3 (ae hpl) rfl) fun σ H Q q=>fV (fun R vd c=>iB R vd c) q
 |ext o a=>
  obtain⟨x,ap,es,p,rfl,h2,h3,h4,h5⟩:=cD h;obtain⟨y,rfl⟩:=f9 h5;have hpl:=aV h5 y (by simp);exact PE.imp (gp Wc Wh PySem.F.type_list_extend zx (ih.e b X x o G h4) (ih.a b X [y] [a] G h5) (aU h2) (cX hpl) h3 (ae hpl) rfl) fun σ H Q q=>fV (fun R vd c=>iB R vd c) q
 |pop o=>
  obtain⟨x,ap,es,p,rfl,h2,h3,h4,h5⟩:=cD h;cases es with
  |cons _ _=>cases h5
  |nil=>exact PE.imp (DZ Wc Wl Wr zu (ih.e b X x o G h4) (aU h2) h3) fun σ H Q q=>zr (fun R vd c=>iB R vd c) q
 |popAt o a=>
  obtain⟨x,ap,es,p,rfl,h2,h3,h4,h5⟩:=cD h;obtain⟨y,rfl⟩:=f9 h5;have hpl:=aV h5 y (by simp);exact PE.imp (gp Wc Wl Wr sJ (ih.e b X x o G h4) (ih.a b X [y] [a] G h5) (aU h2) (cX hpl) h3 (ae hpl) rfl) fun σ H Q q=>fV (fun R vd c=>iB R vd c) q
 |ins o i a=>
  obtain⟨x,ap,es,p,rfl,h2,h3,h4,h5⟩:=cD h;obtain⟨y,z,rfl⟩:=Fb h5;have hpl:=aV h5 y (by simp);have hpz:=aV h5 z (by simp);exact PE.imp (gp Wc Wj PySem.F.type_list_insert zw (ih.e b X x o G h4) (ih.a b X [y,z] [i,a] G h5) (aU h2) (by rw[ae hpl,ae hpz];rfl) h3 (ae hpl) (by rw[ae hpz];rfl)) fun σ H Q q=>fV (fun R vd c=>iB R vd c) q
 |cnt o a=>
  obtain⟨x,ap,es,p,rfl,h2,h3,h4,h5⟩:=cD h;obtain⟨y,rfl⟩:=f9 h5;have hpl:=aV h5 y (by simp);exact PE.imp (gp PySem.F.plainAttrs_tuple Wn PySem.F.type_tuple_count zv (ih.e b X x o G h4) (ih.a b X [y] [a] G h5) (aU h2) (cX hpl) h3 (ae hpl) rfl) fun σ H Q q=>fV (fun R vd c=>Ex R vd c) q
 |join o a=>
  obtain⟨x,ap,es,p,rfl,h2,h3,h4,h5⟩:=cD h;obtain⟨y,rfl⟩:=f9 h5;have hpl:=aV h5 y (by simp);exact PE.imp (gp PySem.F.plainAttrs_str PySem.F.slot_str_join PySem.F.type_str_join u8 (ih.e b X x o G h4) (ih.a b X [y] [a] G h5) (aU h2) (cX hpl) h3 (ae hpl) rfl) fun σ H Q q=>fV (fun R vd c=>Ez R vd c) q
end
section
variable {T:Tab} {C:Calls} {ar:Nat->Nat} {k n:Nat} {b:Blk} {X:Cx}
theorem qy{op:BoolOp}{vs:List Expr}{p:Pos}{t:TT}(h:PT X (.BoolOp op vs p) t):PW X (.BoolOp op vs p) t:=fun whole pins s σ H Q I q=>h pins s σ H Q I q
theorem JG(ih:Snd T C ar k n)(e:Expr)(c:CE)(G:CtxOk T C ar k b X)(h:cU T (n+1) b e c=true):PT X e (tT X.K (evT C ar (n+1) c)):=by
 have hu:=mG G.room
 have dflt:evT C ar (n+1) c=zi (evE C ar n c)->(am T n b e c && zM e)=true->PT X e (tT X.K (evT C ar (n+1) c)):=fun e1 hh=>by
  rw[e1];have hh:=an2 hh;exact PT.imp (ui (ih.e b X e c G hh.1) (eP hh.2)) fun σ H Q q=>Eo q
 cases c with
 |cmp o a c'=>obtain⟨l,r,p,rfl,h2,h3,h4⟩:=iV h;exact PT.imp (gK (dU hu o) (ih.e b X l a G h2) (ih.e b X r c' G h3) (bL h4)) fun σ H Q q=>km (Ji q)
 |chn o p' a c' d=>obtain⟨l,r,s,p,rfl,h2,h3,h4,h5⟩:=wc h;exact PT.imp (uh (dU hu o) (dU hu p') (ih.e b X l a G h2) (ih.e b X r c' G h3) (ih.e b X s d G h4) (iY h5)) fun σ H Q q=>vK (Ji q)
 |and a c'=>
  rcases zN h with h |h
  ·obtain⟨x,y,p,rfl,h1,h2⟩:=f8 h;exact PT.imp (tU (ih.t b X x a G h1) (yp (ih.t b X y c' G h2))).pt fun σ H Q q=>vN q
  ·obtain⟨x,y,z,ys,p,rfl,h1,h2⟩:=kL h;exact PT.imp (tU (ih.t b X x a G h1) (qy (ih.t b X _ c' G h2))).pt fun σ H Q q=>vN q
 |or a c'=>
  rcases zN h with h |h
  ·obtain⟨x,y,p,rfl,h1,h2⟩:=f8 h;exact PT.imp (pM (ih.t b X x a G h1) (nk (ih.t b X y c' G h2))).pt fun σ H Q q=>CD q
  ·obtain⟨x,y,z,ys,p,rfl,h1,h2⟩:=kL h;exact PT.imp (pM (ih.t b X x a G h1) (qy (ih.t b X _ c' G h2))).pt fun σ H Q q=>CD q
 |not a=>obtain⟨x,p,rfl,h1⟩:=kK h;exact PT.imp (nq (ih.t b X x a G h1)) fun σ H Q q=>EV q
 |ite _ _ _=>cases h
 |_=>exact dflt rfl h
theorem snd:∀n,Snd T C ar k n
 |0=>⟨fun b X e c _ h=>absurd h Zb,fun b X e c _ _ h=>absurd h Zb,fun b X e c _ h=>absurd h Zb,fun b X e c _ h=>absurd h Zb,fun B b X t e c _ h=>absurd h Zb,fun b X e gs elt cls _ h=>absurd h Zb⟩
 |n+1=>⟨fun b X e c G h=>JF (snd n) e c G h,fun b X e c G ht h=>wt (snd n) e c G ht h,fun b X es cs G h=>JD (snd n) es cs G h,fun b X e c G h=>JG (snd n) e c G h,fun B b X t e c G h=>JE (snd n) B t e c G h,fun b X e gs elt cls G h=>E7 (snd n) e gs elt cls G h⟩
end
inductive CS where
 |asg (t:Tg) (e:CE) |setI (v o i:CE) |swp (v o i q j:CE) |ex (e:CE) |ret (e:CE) |retN
 |ifs (c:CE) (a b:List CS) |for_ (t:Tg) (it:CI) (b:List CS) |while_ (c:CE) (b:List CS)
 |pass |brk |cnt |never
noncomputable def z6:XS:=fun _ _=>none
mutual
noncomputable def evS(C:Calls)(ar:Nat->Nat):Nat->CS->XS
 |0,_=>z6
 |n+1,s=>match s with
  |.asg t e=>iJ (evE C ar n e) t
  |.setI v o i=>ml (evE C ar n v) (evE C ar n o) (evE C ar n i)
  |.swp v o i q j=>vB (evE C ar n v) (evE C ar n o) (evE C ar n i) (evE C ar n q) (evE C ar n j)
  |.ex e=>mj (evE C ar n e)
  |.ret e=>vA (evE C ar n e)
  |.retN=>CA
  |.ifs c a b=>xIf (evT C ar n c) (de C ar n a) (de C ar n b)
  |.for_ t it b=>vD (evI C ar n it) t (de C ar n b) LF
  |.while_ c b=>cC (evT C ar n c) (de C ar n b) LF
  |.pass=>vt
  |.brk=>Js
  |.cnt=>Jt
  |.never=>z6
noncomputable def de(C:Calls)(ar:Nat->Nat):Nat->List CS->XS
 |0,_=>z6
 |n+1,ss=>match ss with
  |[]=>vt
  |s::ss=>vq (evS C ar n s) (de C ar n ss)
end
noncomputable def wu:Expr->Bool
 |.Starred _ _=>true
 |_=>false
noncomputable def dZ(sc:Scope)(line:Nat)(ts:List Expr):List Str:=ts.filterMap fun
 |.Name id pos=>if sc.names.lookup id == some .local && pos.line == line then some id else none
 |_=>none
noncomputable def i0(sc:Scope)(ts vs:List Expr):Option (Option (List Str)):=
 if (!(ts.length == 2 || ts.length == 3) || vs.length != ts.length)=true then some none
 else if (vs.any wu)=true then some none
 else if ((dZ sc ((ts.head?.map (·.pos.line)).getD 0) ts).length != ts.length || (dZ sc ((ts.head?.map (·.pos.line)).getD 0) ts).eraseDups.length != (dZ sc ((ts.head?.map (·.pos.line)).getD 0) ts).length)=true then some none
 else if (vs.all (foldedForSure 8))=true then some none
 else if (vs.all (constantsAlone 8))=true then none
 else some (some (dZ sc ((ts.head?.map (·.pos.line)).getD 0) ts))
theorem CP{k k2:Nat}(hk:env.blockKind = .function)(hs:env.scope=sc)(h:i0 sc ts vs=some r):Uf [.Tuple ts k p] (.Tuple vs k2 p2) env=pure r:=by
 unfold i0 at h;unfold Uf
 have e1:(vs.any fun |.Starred ..=>true |_=>false)=vs.any wu:=by
  congr 1
 have e2:(ts.filterMap fun
   |.Name id pos=>if env.kindOf id == some .local && pos.line == ((ts.head?.map (·.pos.line)).getD 0) then some id else none
   | _=>none)=dZ sc ((ts.head?.map (·.pos.line)).getD 0) ts:=by
  unfold dZ Env.kindOf;rw[hs]
 have e3:(env.blockKind != .function)=false:=by rw[hk];rfl
 simp only[e3,Xr];split at h
 ·rename_i c1;rw[if_pos c1];cases h;rfl
 rename_i c1;rw[if_neg c1];split at h
 ·rename_i c2;cases h;exact if_pos (e1.trans c2)
 rename_i c2;refine Eq.trans (if_neg fun z=>c2 (e1.symm.trans z)) ?_;split at h
 ·rename_i c3;cases h;rw[<-e2] at c3;exact if_pos c3
 rename_i c3;rw[<-e2] at c3 h;refine Eq.trans (if_neg c3) ?_;split at h
 ·rename_i c4;cases h;exact if_pos c4
 rename_i c4;refine Eq.trans (if_neg c4) ?_;split at h
 ·cases h
 rename_i c5;cases h;exact if_neg c5
noncomputable def o3:Expr->Option (Scope × Pos)
 |.ListComp _ _ s p=>some (s,p)
 |.SetComp _ _ s p=>some (s,p)
 |.DictComp _ _ _ s p=>some (s,p)
 |_=>none
noncomputable def swW(sc:Scope)(v:Expr)(t:Str)(pos:Pos):Bool:=match o3 v with
 |none=>false
 |some (s,p)=>sc.names.lookup t == some .local && pos.line == p.line && !(s.names.any fun y=>y.1 == t && (y.2 == .local || y.2 == .cell))
theorem ww{line:Nat}(hk:env.blockKind = .function)(hs:env.scope=sc):Ug v (some (.Name t pos)) line env=pure (swW sc v t pos):=by
 unfold Ug swW o3;have e3:(env.blockKind == .function)=true:=by rw[hk];rfl
 cases v <;> first |rfl |(simp only[e3,Bool.true_and,Env.kindOf,hs];rfl)
theorem i3{line:Nat}(h:∀x p,tg ≠ .Name x p):Uh [tg] v line env=pure false:=by
 show Ug v (some tg) line env=pure false;unfold Ug;cases v <;> first |rfl |(cases tg <;> first |rfl |(exact absurd rfl (h _ _)))
theorem fE(h:(∀es k p,v ≠ .Tuple es k p)\/(∃x p,tg = .Name x p)\/(∃o i p,tg = .Subscript o i p)):Uf [tg] v env=pure none:=by
 unfold Uf;rcases h with h |⟨x,p,rfl⟩ |⟨o,i,p,rfl⟩
 ·split
  ·rename_i e;split at e
   ·exact absurd rfl (h _ _ _)
   ·exact absurd rfl (h _ _ _)
   ·cases e
  ·rfl
 ·rfl
 ·rfl
noncomputable def nmL:List Expr->Option (List Str)
 |[]=>some []
 |e::es=>match v7 e,nmL es with
  |some r,some xs=>some (r.1::xs)
  |_,_=>none
theorem dD(h:nmL es=some (x::xs)):∃p es',es = .Name x p::es'/\nmL es'=some xs:=by
 cases es with
 |nil=>cases h
 |cons e es=>
  rw[nmL] at h;split at h
  ·rename_i r ys h1 h2;cases h;exact⟨_,es,by rw[kI h1],h2⟩
  ·cases h
theorem qz(h:nmL es=some []):es=[]:=by
 cases es with
 |nil=>rfl
 |cons e es=>
  rw[nmL] at h;split at h <;> cases h
noncomputable def tgL:List Tg->Option (List Nat)
 |[]=>some []
 |.name i::ts=>match tgL ts with
  |some is=>some (i::is)
  |none=>none
 |.tup _::_=>none
theorem wx:∀ {ts:List Tg} {is:List Nat},tgL ts=some is->ts=is.map Tg.name
 |[],_,h=>by cases h;rfl
 |.name i::ts,is,h=>by
  rw[tgL] at h;cases e:tgL ts with
  |none=>rw[e] at h;cases h
  |some js=>rw[e] at h;cases h;rw[wx e];rfl
 |.tup _::_,_,h=>by cases h
noncomputable def JH(b:Blk)(ns:List Str)(is:List Nat):Bool:=match ns with
 | [x,y]=>(match is with
  |[i,j]=>b.N[i]? == some x && b.N[j]? == some y && i != j && b.sc.names.lookup x == some .local && b.sc.names.lookup y == some .local
  | _=>false)
 | [x,y,z]=>(match is with
  |[i,j,l]=>b.N[i]? == some x && b.N[j]? == some y && b.N[l]? == some z && i != j && i != l && j != l && b.sc.names.lookup x == some .local && b.sc.names.lookup y == some .local && b.sc.names.lookup z == some .local
  | _=>false)
 |_=>false
noncomputable def LN(e:Expr):Bool:=fY e fun _ _ _ _=>true
noncomputable def LP(e:Expr):Bool:=e.ctorIdx == 24
noncomputable def o4(T:Tab)(n:Nat)(b:Blk)(tg e:Expr)(t:Tg)(c:CE):Bool:=match t with
 | .name i=>(match v7 tg with
  |some r=>am T n b e c && b.N[i]? == some r.1 && b.own r.1 && (!(swW b.sc e r.1 r.2) || (LN e && b.sc.names.lookup r.1 == some .local))
  | none=>false)
 | .tup gs=>(match mv tg with
  | some r=>am T n b e c && (match mv e with
   | some q=>(match i0 b.sc r.1 q.1 with
    |some none=>iT b r.1 gs
    | some (some ns)=>(match tgL gs with
     |some is=>nmL r.1 == some ns && q.1.length == ns.length && JH b ns is
     | none=>false)
    | none=>false)
   | none=>!(LP e) && iT b r.1 gs)
  | none=>false)
noncomputable def kN(e:Stmt)(k:Option Expr->Pos->Bool):Bool:=if h:e.ctorIdx=3 then @Stmt.Return.elim (fun _=>Bool) e h k else false
theorem jQ(h:kN e k=true):∃x0 x1,e = .Return x0 x1/\k x0 x1=true:=by
 obtain⟨h1,h⟩:=bc h;exact Stmt.Return.elim (motive_2:=fun e=>∀h',@Stmt.Return.elim (fun _=>Bool) e h' k=true->∃x0 x1,e = .Return x0 x1/\k x0 x1=true) e h1 (fun x0 x1 _ hh=>⟨x0,x1,rfl,hh⟩) h1 h
noncomputable def gU(e:Stmt)(k:List Expr->Expr->Pos->Bool):Bool:=if h:e.ctorIdx=5 then @Stmt.Assign.elim (fun _=>Bool) e h k else false
theorem gb(h:gU e k=true):∃x0 x1 x2,e = .Assign x0 x1 x2/\k x0 x1 x2=true:=by
 obtain⟨h1,h⟩:=bc h;exact Stmt.Assign.elim (motive_2:=fun e=>∀h',@Stmt.Assign.elim (fun _=>Bool) e h' k=true->∃x0 x1 x2,e = .Assign x0 x1 x2/\k x0 x1 x2=true) e h1 (fun x0 x1 x2 _ hh=>⟨x0,x1,x2,rfl,hh⟩) h1 h
noncomputable def JI(e:Stmt)(k:Expr->Expr->List Stmt->List Stmt->Pos->Bool):Bool:=if h:e.ctorIdx=9 then @Stmt.For.elim (fun _=>Bool) e h k else false
theorem Fc(h:JI e k=true):∃x0 x1 x2 x3 x4,e = .For x0 x1 x2 x3 x4/\k x0 x1 x2 x3 x4=true:=by
 obtain⟨h1,h⟩:=bc h;exact Stmt.For.elim (motive_2:=fun e=>∀h',@Stmt.For.elim (fun _=>Bool) e h' k=true->∃x0 x1 x2 x3 x4,e = .For x0 x1 x2 x3 x4/\k x0 x1 x2 x3 x4=true) e h1 (fun x0 x1 x2 x3 x4 _ hh=>⟨x0,x1,x2,x3,x4,rfl,hh⟩) h1 h
noncomputable def wy(e:Stmt)(k:Expr->List Stmt->List Stmt->Pos->Bool):Bool:=if h:e.ctorIdx=11 then @Stmt.While.elim (fun _=>Bool) e h k else false
theorem wz(h:wy e k=true):∃x0 x1 x2 x3,e = .While x0 x1 x2 x3/\k x0 x1 x2 x3=true:=by
 obtain⟨h1,h⟩:=bc h;exact Stmt.While.elim (motive_2:=fun e=>∀h',@Stmt.While.elim (fun _=>Bool) e h' k=true->∃x0 x1 x2 x3,e = .While x0 x1 x2 x3/\k x0 x1 x2 x3=true) e h1 (fun x0 x1 x2 x3 _ hh=>⟨x0,x1,x2,x3,rfl,hh⟩) h1 h
noncomputable def jIf(e:Stmt)(k:Expr->List Stmt->List Stmt->Pos->Bool):Bool:=if h:e.ctorIdx=12 then @Stmt.If.elim (fun _=>Bool) e h k else false
theorem JJ(h:jIf e k=true):∃x0 x1 x2 x3,e = .If x0 x1 x2 x3/\k x0 x1 x2 x3=true:=by
 obtain⟨h1,h⟩:=bc h;exact Stmt.If.elim (motive_2:=fun e=>∀h',@Stmt.If.elim (fun _=>Bool) e h' k=true->∃x0 x1 x2 x3,e = .If x0 x1 x2 x3/\k x0 x1 x2 x3=true) e h1 (fun x0 x1 x2 x3 _ hh=>⟨x0,x1,x2,x3,rfl,hh⟩) h1 h
noncomputable def CQ(e:Stmt)(k:Expr->Pos->Bool):Bool:=if h:e.ctorIdx=24 then @Stmt.Expr.elim (fun _=>Bool) e h k else false
theorem z7(h:CQ e k=true):∃x0 x1,e = .Expr x0 x1/\k x0 x1=true:=by
 obtain⟨h1,h⟩:=bc h;exact Stmt.Expr.elim (motive_2:=fun e=>∀h',@Stmt.Expr.elim (fun _=>Bool) e h' k=true->∃x0 x1,e = .Expr x0 x1/\k x0 x1=true) e h1 (fun x0 x1 _ hh=>⟨x0,x1,rfl,hh⟩) h1 h
noncomputable def CT(e:Stmt)(k:Pos->Bool):Bool:=if h:e.ctorIdx=25 then @Stmt.Pass.elim (fun _=>Bool) e h k else false
theorem z8(h:CT e k=true):∃x0,e = .Pass x0/\k x0=true:=by
 obtain⟨h1,h⟩:=bc h;exact Stmt.Pass.elim (motive_2:=fun e=>∀h',@Stmt.Pass.elim (fun _=>Bool) e h' k=true->∃x0,e = .Pass x0/\k x0=true) e h1 (fun x0 _ hh=>⟨x0,rfl,hh⟩) h1 h
noncomputable def wD(e:Stmt)(k:Pos->Bool):Bool:=if h:e.ctorIdx=26 then @Stmt.Break.elim (fun _=>Bool) e h k else false
theorem wG(h:wD e k=true):∃x0,e = .Break x0/\k x0=true:=by
 obtain⟨h1,h⟩:=bc h;exact Stmt.Break.elim (motive_2:=fun e=>∀h',@Stmt.Break.elim (fun _=>Bool) e h' k=true->∃x0,e = .Break x0/\k x0=true) e h1 (fun x0 _ hh=>⟨x0,rfl,hh⟩) h1 h
noncomputable def jR(e:Stmt)(k:Pos->Bool):Bool:=if h:e.ctorIdx=27 then @Stmt.Continue.elim (fun _=>Bool) e h k else false
theorem mH(h:jR e k=true):∃x0,e = .Continue x0/\k x0=true:=by
 obtain⟨h1,h⟩:=bc h;exact Stmt.Continue.elim (motive_2:=fun e=>∀h',@Stmt.Continue.elim (fun _=>Bool) e h' k=true->∃x0,e = .Continue x0/\k x0=true) e h1 (fun x0 _ hh=>⟨x0,rfl,hh⟩) h1 h
noncomputable def kO(e:Expr):Bool:=e.ctorIdx == 8 || e.ctorIdx == 9 || e.ctorIdx == 10
noncomputable def zAsg(k:Expr->Expr->Bool)(s:Stmt):Bool:=gU s fun ts v _=>l1 ts fun tg=>k tg v
noncomputable def CU(k l m:Expr->Bool)(s:Stmt):Bool:=gU s fun ts z _=>l1 ts fun tg=>cm tg fun x y _=>k z && l x && m y && ao y
noncomputable def wH(e:Expr)(l m:Expr->Bool):Bool:=cm e fun x y _=>l x && m y && ao y
noncomputable def JK(k:Expr->Bool)(l m l' m':Expr->Bool)(b:Blk)(s:Stmt):Bool:=gU s fun ts z _=>l1 ts fun tg=>oA (mv tg) fun r=>lC r.1 fun t1 t=>l1 t fun t2=>oA (mv z) fun w=>k z && wH t1 l m && wH t2 l' m' && (match i0 b.sc r.1 w.1 with |some none=>true |_=>false)
noncomputable def zEx(k:Expr->Bool)(s:Stmt):Bool:=CQ s fun v _=>k v && !(kO v)
noncomputable def zRet(k:Expr->Bool)(s:Stmt):Bool:=kN s fun v _=>oA v k
noncomputable def CV(s:Stmt):Bool:=kN s fun v _=>v.isNone
noncomputable def zIf(k:Expr->Bool)(l m:List Stmt->Bool)(s:Stmt):Bool:=jIf s fun t p q _=>k t && l p && m q
noncomputable def JL(k:Expr->Expr->Bool)(l:List Stmt->Bool)(s:Stmt):Bool:=JI s fun tg i p q _=>q.isEmpty && k tg i && l p
noncomputable def wJ(k:Expr->Bool)(l:List Stmt->Bool)(s:Stmt):Bool:=wy s fun t p q _=>q.isEmpty && k t && l p
noncomputable def CW(s:Stmt):Bool:=CT s fun _=>true
noncomputable def JM(s:Stmt):Bool:=wD s fun _=>true
noncomputable def JN(s:Stmt):Bool:=jR s fun _=>true
section
variable {s:Stmt} {k l m:Expr->Bool}
theorem i4{k:Expr->Expr->Bool}(h:zAsg k s=true):∃tg v p,s = .Assign [tg] v p/\k tg v=true:=by
 obtain⟨ts,v,p,rfl,h⟩:=gb h;obtain⟨tg,rfl,h⟩:=bC h;exact⟨tg,v,p,rfl,h⟩
theorem z9(h:CU k l m s=true):∃x y q z p,s = .Assign [.Subscript x y q] z p/\k z=true/\l x=true/\m y=true/\ao y=true:=by
 obtain⟨ts,v,p,rfl,h⟩:=gb h;obtain⟨tg,rfl,h⟩:=bC h;obtain⟨x,y,q,rfl,h⟩:=bZ h;exact⟨x,y,q,v,p,rfl,an4 h⟩
theorem wK(h:wH e l m=true):∃x y q,e = .Subscript x y q/\l x=true/\m y=true/\ao y=true:=by
 obtain⟨x,y,q,rfl,h⟩:=bZ h;exact⟨x,y,q,rfl,an3 h⟩
theorem Fd(h:JK k l m l' m' b s=true):∃t1 t2 kt pt es ke pe p,s = .Assign [.Tuple [t1,t2] kt pt] (.Tuple es ke pe) p/\k (.Tuple es ke pe)=true/\wH t1 l m=true/\wH t2 l' m'=true/\i0 b.sc [t1,t2] es=some none:=by
 obtain⟨ts,z,p,rfl,h⟩:=gb h;obtain⟨tg,rfl,h⟩:=bC h;obtain⟨⟨r1,r2,r3⟩,hr,h⟩:=iS h;obtain⟨t1,t,e1,h⟩:=bE h;obtain⟨t2,e2,h⟩:=bC h;obtain⟨⟨w1,w2,w3⟩,hw,h⟩:=iS h;obtain⟨h1,h2,h3,h4⟩:=an4 h;have e1:r1=t1::t:=e1;subst e2;subst e1;rw[ft hr];rw[ft hw] at h1 ⊢;refine⟨t1,t2,r2,r3,w1,w2,w3,p,rfl,h1,h2,h3,?_⟩;have h4:(match i0 b.sc [t1,t2] w1 with |some none=>true |_=>false)=true:=h4;split at h4
 ·rename_i e;exact e
 ·cases h4
theorem CY(h:zEx k s=true):∃v p,s = .Expr v p/\k v=true/\kO v=false:=by
 obtain⟨v,p,rfl,h⟩:=z7 h;obtain⟨h1,h2⟩:=an2 h;exact⟨v,p,rfl,h1,by cases e:kO v;rfl;rw[e] at h2;cases h2⟩
theorem gf(h:zRet k s=true):∃v p,s = .Return (some v) p/\k v=true:=by
 obtain⟨v,p,rfl,h⟩:=jQ h;obtain⟨v,rfl,h⟩:=iS h;exact⟨v,p,rfl,h⟩
theorem Aa(h:CV s=true):∃p,s = .Return none p:=by
 obtain⟨v,p,rfl,h⟩:=jQ h;cases v;exact⟨p,rfl⟩;cases h
theorem qA{l m:List Stmt->Bool}(h:zIf k l m s=true):∃t p q r,s = .If t p q r/\k t=true/\l p=true/\m q=true:=by
 obtain⟨t,p,q,r,rfl,h⟩:=JJ h;exact⟨t,p,q,r,rfl,an3 h⟩
theorem Fe{k:Expr->Expr->Bool}{l:List Stmt->Bool}(h:JL k l s=true):∃tg i p q,s = .For tg i p [] q/\k tg i=true/\l p=true:=by
 obtain⟨tg,i,p,q,r,rfl,h⟩:=Fc h;obtain⟨h1,z0⟩:=an3 h;cases bH h1;exact⟨tg,i,p,r,rfl,z0⟩
theorem wL{l:List Stmt->Bool}(h:wJ k l s=true):∃t p q,s = .While t p [] q/\k t=true/\l p=true:=by
 obtain⟨t,p,q,r,rfl,h⟩:=wz h;obtain⟨h1,z0⟩:=an3 h;cases bH h1;exact⟨t,p,r,rfl,z0⟩
theorem Ab(h:CW s=true):∃p,s = .Pass p:=by obtain⟨p,rfl,_⟩:=z8 h;exact⟨p,rfl⟩
theorem Ff(h:JM s=true):∃p,s = .Break p:=by obtain⟨p,rfl,_⟩:=wG h;exact⟨p,rfl⟩
theorem Fg(h:JN s=true):∃p,s = .Continue p:=by obtain⟨p,rfl,_⟩:=mH h;exact⟨p,rfl⟩
end
mutual
noncomputable def Fh(T:Tab):Nat->Blk->Stmt->CS->Bool
 |0,_,_,_=>false
 |n+1,b,s,c=>match c with
  |.asg t e=>zAsg (fun tg v=>o4 T n b tg v t e) s
  |.setI v o i=>CU (fun x=>am T n b x v) (fun x=>am T n b x o) (fun x=>am T n b x i) s
  |.swp v o i q j=>JK (fun x=>am T n b x v) (fun x=>am T n b x o) (fun x=>am T n b x i) (fun x=>am T n b x q) (fun x=>am T n b x j) b s
  |.ex e=>zEx (fun x=>am T n b x e) s
  |.ret e=>zRet (fun x=>am T n b x e) s
  |.retN=>CV s
  |.ifs c x y=>zIf (fun e=>cU T n b e c) (fun p=>i5 T n b p x) (fun p=>i5 T n b p y) s
  |.for_ t it x=>JL (fun tg i=>fu T n b tg i it && oP b tg t) (fun p=>i5 T n b p x) s
  |.while_ c x=>wJ (fun e=>cU T n b e c) (fun p=>i5 T n b p x) s
  |.pass=>CW s
  |.brk=>JM s
  |.cnt=>JN s
  |.never=>true
noncomputable def i5(T:Tab):Nat->Blk->List Stmt->List CS->Bool
 |0,_,_,_=>false
 |n+1,b,ss,cs=>match cs with
  |[]=>ss.isEmpty
  |c::cs=>lC ss fun s ss=>Fh T n b s c && i5 T n b ss cs
end
section
variable {T:Tab} {C:Calls} {ar:Nat->Nat} {k n:Nat} {b:Blk} {X:Cx}
theorem Ac{k':Nat}(h:am T (n+1) b (.Tuple es k' p) (.tup cs)=true):cE T n b es cs=true:=h
theorem wM{k':Nat}(h:am T (n+1) b (.Tuple es k' p) c=true):∃cs,c = .tup cs:=by
 cases c with
 |tup cs=>exact⟨cs,rfl⟩
 |comp own elt cls=>
  cases cls with
  |nil=>exact absurd h Zb
  |cons g rest=>obtain⟨tg,it,cond⟩:=g;exact absurd h Zb
 |_=>exact absurd h Zb
theorem eR:∀ (ts:List Tg) (ds:List D) (ρ ρ':Rho),aB ts ds ρ=some ρ'->ts.length=ds.length
 |[],[],_,_,_=>rfl
 |[],_::_,_,_,e=>by simp[aB] at e
 |_::_,[],_,_,e=>by simp[aB] at e
 |t::ts,d::ds,ρ,ρ',e=>by
  simp only[aB] at e;split at e
  ·simp[eR _ _ _ _ e]
  ·cases e
theorem mJ{K:WN}{x:XA}{ts:List Tg}{D:Ends}{σ:L2.St}{H:Hp}(h:tSt K (iJ (gC gD x) (.tup ts)) D σ H):tAr K x σ H fun vs H1=>∃m1 ρ ρ' ds,EnvR K m1 H1 ρ σ/\VDs K m1 H1 ds vs/\aB ts ds ρ=some ρ'/\∀σ',EnvR K m1 H1 ρ' σ'->D.nx σ' H1:=by
 obtain⟨m,ρ,S,fl,ρ',S',E,R,e,q⟩:=h;unfold iJ at e;cases hx:gC gD x ρ S with
 |none=>rw[hx] at e;cases e
 |some r=>
  rw[hx] at e;obtain⟨ds,S1,e1,e2⟩:=aa hx;unfold gD at e2;split at e2
  ·cases e2;dsimp only at e;simp only[aG] at e;cases hb:aB ts ds ρ with
   |none=>rw[hb] at e;cases e
   |some ρ1=>
    rw[hb] at e;cases e;exact⟨m,ρ,S,ds,_,E,R,e1,fun m1 H1 vs A1 vd=>⟨m1,ρ,_,ds,E.mono R A1.ext,vd,hb,fun σ' E'=>q m1 H1 A1 σ' E'⟩⟩
  ·cases e2
theorem mL{K:WN}{x:XA}{σ:L2.St}{H:Hp}{Q Q':List V->Hp->Prop}(h:tAr K x σ H Q)(f:∀v H',Q v H'->Q' v H'):tAr K x σ H Q':=by
 obtain⟨m,ρ,S,d,S',E,R,e,q⟩:=h;exact⟨m,ρ,S,d,S',E,R,e,fun m' H' v A vd=>f _ _ (q m' H' v A vd)⟩
theorem i6{ρ ρ':Rho}{i:Nat}{d:D}(h:(if i < ρ.length then some (ρ.set i (some d)) else none)=some ρ'):ρ'=ρ.set i (some d):=by
 split at h
 ·cases h;rfl
 ·cases h
theorem Ae{K:WN}{x:XA}{i j:Nat}{D:Ends}{σ:L2.St}{H:Hp}(h:tSt K (iJ (gC gD x) (.tup [.name i,.name j])) D σ H):Ix i j (tAr K x) D σ H:=by
 refine mL (mJ h) fun vs H1 ⟨m1,ρ,ρ',ds,E,vd,e,q⟩=>?_;have hl:=eR _ _ _ _ e
 match ds,hl with
 |[a,c],_=>
  obtain⟨v,w,rfl,va,vc⟩:=kB vd;refine⟨v,w,rfl,q _ ?_⟩;simp only[aB,aG] at e;split at e
  ·rename_i r1 h1;have:=i6 h1;subst this;split at e
   ·rename_i r2 h2;have:=i6 h2;subst this;cases e;exact(E.set va).set vc
   ·cases e
  ·cases e
theorem LQ{K:WN}{m:List Addr}{H:Hp}{a b c:D}{vs:List V}(h:VDs K m H [a,b,c] vs):∃v w z,vs=[v,w,z]/\VD K m H a v/\VD K m H b w/\VD K m H c z:=by
 rw[VDs] at h;obtain⟨v,r,rfl,p,q⟩:=h;obtain⟨w,z,rfl,p',q'⟩:=kB q;exact⟨v,w,z,rfl,p,p',q'⟩
theorem Af{K:WN}{x:XA}{i j l:Nat}{D:Ends}{σ:L2.St}{H:Hp}(h:tSt K (iJ (gC gD x) (.tup [.name i,.name j,.name l])) D σ H):Cv i j l (tAr K x) D σ H:=by
 refine mL (mJ h) fun vs H1 ⟨m1,ρ,ρ',ds,E,vd,e,q⟩=>?_;have hl:=eR _ _ _ _ e
 match ds,hl with
 |[a,c,d],_=>
  obtain⟨v,w,z,rfl,va,vc,vd'⟩:=LQ vd;refine⟨v,w,z,rfl,q _ ?_⟩;simp only[aB,aG] at e;split at e
  ·rename_i r1 h1;have:=i6 h1;subst this;split at e
   ·rename_i r2 h2;have:=i6 h2;subst this;split at e
    ·rename_i r3 h3;have:=i6 h3;subst this;cases e;exact((E.set va).set vc).set vd'
    ·cases e
   ·cases e
  ·cases e
theorem wN(h:am T (n+1) b (.ListComp e gs scope p) c=true):∃own elt tg it cond rest t i ifs gs',c = .comp own elt (⟨tg,it,cond⟩::rest)/\gs=⟨t,i,ifs,0⟩::gs' ∧
  cmB own (iR own b.N) b.N scope b.sc=true/\fu T n b t i it=true/\oP (b.inner own scope) t tg=true/\we (cU T n (b.inner own scope)) ifs cond=true/\jN T n (b.inner own scope) e gs' elt rest=true:=by
 cases c with
 |comp own elt cls=>
  ·obtain⟨tg,it,cond,rest,rfl,hc⟩:=CO h;obtain⟨el,t,i,ifs,gs',scope',p',he,hh⟩:=qr hc;cases he;obtain⟨h0,h1,h2,h3,h4⟩:=an5 hh;exact⟨own,elt,tg,it,cond,rest,t,i,ifs,gs',rfl,rfl,h0,h1,h2,h3,h4⟩
 |_=>exact absurd h Zb
end
section
variable {T:Tab} {C:Calls} {ar:Nat->Nat} {k n:Nat} {b:Blk} {X:Cx}
theorem kP(h:X.env.scope.kind = .function):X.env.blockKind = .function:=by
 unfold Env.blockKind;rw[h];rfl
theorem Ag{α:Type}{l:List α}(h:l.length=2):∃a b,l=[a,b]:=by
 match l,h with
 |[a,b],_=>exact⟨a,b,rfl⟩
theorem sU{α:Type}{l:List α}(h:l.length=3):∃a b c,l=[a,b,c]:=by
 match l,h with
 |[a,b,c],_=>exact⟨a,b,c,rfl⟩
theorem Fi(G:CtxOk T C ar k b X)(hk:X.env.scope.kind = .function){tg e:Expr}{t:Tg}{c:CE}{p:Pos}(h:o4 T n b tg e t c=true):PS X (.Assign [tg] e p) (tSt X.K (iJ (evE C ar n c) t)):=by
 have hb:=kP hk;unfold o4 at h;cases t with
 |name i=>
  dsimp only at h;cases hx:v7 tg with
  |none=>rw[hx] at h;cases h
  |some r=>
  obtain⟨x,px⟩:=r;rw[hx] at h;rw[kI hx];simp only[bAE] at h;obtain⟨⟨⟨h1,h2⟩,h3⟩,h4⟩:=h;have hi:X.N[i]?=some x:=by rw[G.hN];simpa using h2
  have nd:X.N.Nodup:=by rw[G.hN];exact G.nd
  have o:=G.own h3;have sw:=ww (sc:=b.sc) (v:=e) (t:=x) (pos:=px) (line:=p.line) hb G.hs;cases hw:swW b.sc e x px with
  |false=>
   rw[hw] at sw;exact PS.imp (DD nd hi o.1 ((snd n).e b X e c G h1) sw o.2) fun D σ H q=>fC (oM q) fun v H' z=>kF z
  |true=>
   rw[hw] at h4 sw;simp only[Bool.not_true,Bool.false_or,bAE] at h4;obtain⟨h5,h4⟩:=h4;obtain⟨el,gs,scope,pp,rfl,_⟩:=gx h5
   ·cases n with
    |zero=>exact absurd h1 Zb
    |succ n=>
     obtain⟨own,elt,tg',it,cond,rest,tt,ii,ifs,gs',rfl,rfl,c0,c1,c2,c3,c4⟩:=wN h1;have S:CmScope own (iR own b.N) b.N scope b.sc:=uG _ c0;have S':CmScope own (iR own b.N) X.N scope X.env.scope:=by rw[G.hN,G.hs];exact S
     have hpl:=dW c1 (fun e he env=>cV he) X.env;have hx:X.env.scope.names.lookup x=some .local:=by rw[G.hs];simpa using h4
     refine PS.imp (yT (g:=tTg X.K tg') (ti:=ifT C ar n X.K cond) (t:=fun acc=>tCl X.K acc (ef C ar n elt rest)) G.calm S' nd hi hx ((snd n).i [] b X tt ii it G c1) (fun C' ex s H=>dY (G.inner S (C':=C') (ex:=ex) (s:=s) (H:=H)) c2) (fun C' ex s H=>iZ (snd n) (G.inner S (C':=C') (ex:=ex) (s:=s) (H:=H)) c3)
      (fun C' ex s H acc=>(snd n).cl _ _ el gs' elt rest (G.inner S (C':=C') (ex:=ex) (s:=s) (H:=H)) c4 _ scope pp acc 0 rfl) sw hpl) fun D σ H q=>?_
     exact qj (fun acc D σ H z=>o0 z) (lK (fC (oM q) fun v H' z=>kF z))
 |tup gs=>
  dsimp only at h;cases hx:mv tg with
  |none=>rw[hx] at h;cases h
  |some r=>
  obtain⟨ts,kt,pt⟩:=r;rw[hx] at h;rw[ft hx];simp only[bAE] at h;obtain⟨h1,h3⟩:=h;have so:Uh [.Tuple ts kt pt] e p.line X.env=pure false:=i3 fun x p z=>nomatch z
  have plain:∀ (hw:Uf [.Tuple ts kt pt] e X.env=pure none) (hg:iT b ts gs=true),PS X (.Assign [.Tuple ts kt pt] e p) (tSt X.K (iJ (evE C ar n c) (.tup gs))):=fun hw hg=>
   PS.imp (fM ((snd n).e b X e c G h1) (dY G (e:=.Tuple ts kt pt) (t:=.tup gs) hg) so hw rfl) fun D σ H q=>oM q
  cases hy:mv e with
  |none=>
   rw[hy] at h3;simp only[bAE] at h3;exact plain (fE (.inl fun es k p z=>by rw[z] at hy;cases hy)) h3.2
  |some q=>
   obtain⟨es,ke,pe⟩:=q;rw[hy] at h3;obtain rfl:=ft hy;cases n with
   |zero=>exact absurd h1 Zb
   |succ n=>
    obtain⟨cs,rfl⟩:=wM h1;have ha:=Ac h1;dsimp only at h3;cases hr:i0 b.sc ts es with
    |none=>rw[hr] at h3;cases h3
    |some w=>
     have hw:=CP (k:=kt) (p:=pt) (k2:=ke) (p2:=pe) hb G.hs hr;rw[hr] at h3;cases w with
     |none=>exact plain hw h3
     |some ns=>
      dsimp only at h3;cases ht:tgL gs with
      |none=>rw[ht] at h3;cases h3
      |some is=>
       rw[ht] at h3;simp only[bAE] at h3;obtain⟨⟨hn0,hl0⟩,h3⟩:=h3;have hn:nmL ts=some ns:=by simpa using hn0
       have hl:es.length=ns.length:=by simpa using hl0
       clear hn0 hl0;obtain rfl:=wx ht;unfold JH at h3;split at h3
       ·rename_i x y;split at h3
        ·rename_i i j;obtain⟨p1,t1,rfl,hn1⟩:=dD hn;obtain⟨p2,t2,rfl,hn2⟩:=dD hn1;obtain rfl:=qz hn2;obtain⟨a1,a2,rfl⟩:=Ag hl;simp only[bAE] at h3;obtain⟨⟨⟨⟨q2,q3⟩,q4⟩,q5⟩,q6⟩:=h3;exact PS.imp (DE (i:=i) (j:=j) G.calm (by rw[G.hN];exact G.nd) (by rw[G.hN];simpa using q2) (by rw[G.hN];simpa using q3) (by simpa using q4) (by rw[G.hs];simpa using q5) (by rw[G.hs];simpa using q6) ((snd n).a b X _ cs G ha) hw so) fun D σ H q=>Ae q
        ·cases h3
       ·rename_i x y z;split at h3
        ·rename_i i j l;obtain⟨p1,t1,rfl,hn1⟩:=dD hn;obtain⟨p2,t2,rfl,hn2⟩:=dD hn1;obtain⟨p3,t3,rfl,hn3⟩:=dD hn2;obtain rfl:=qz hn3;obtain⟨a1,a2,a3,rfl⟩:=sU hl;simp only[bAE] at h3;obtain⟨⟨⟨⟨⟨⟨⟨⟨q2,q3⟩,q3'⟩,q4⟩,q4'⟩,q4''⟩,q5⟩,q6⟩,q7⟩:=h3;exact PS.imp (yZ (i:=i) (j:=j) (k:=l) G.calm (by rw[G.hN];exact G.nd) (by rw[G.hN];simpa using q2) (by rw[G.hN];simpa using q3) (by rw[G.hN];simpa using q3') (by simpa using q4) (by simpa using q4') (by simpa using q4'') (by rw[G.hs];simpa using q5) (by rw[G.hs];simpa using q6) (by rw[G.hs];simpa using q7) ((snd n).a b X _ cs G ha) hw so) fun D σ H q=>Af q
        ·cases h3
       ·cases h3
theorem mM{line:Nat}(h:kO v=false):Ug v none line X.env=pure false:=by
 unfold Ug;cases v <;> first |rfl |(exact absurd h (fun z=>Zb z.symm))
structure SndS(T:Tab)(C:Calls)(ar:Nat->Nat)(k n:Nat):Prop where
 s:∀ (b:Blk) (X:Cx) (s:Stmt) (c:CS),CtxOk T C ar k b X->X.env.scope.kind = .function->Fh T n b s c=true->PS X s (tSt X.K (evS C ar n c))
 ss:∀ (b:Blk) (X:Cx) (s:List Stmt) (c:List CS),CtxOk T C ar k b X->X.env.scope.kind = .function->i5 T n b s c=true->PSs X s (tSt X.K (de C ar n c))
theorem JO{K:WN}{D:Ends}{σ:L2.St}{H:Hp}(h:tSt K z6 D σ H):False:=by
 obtain⟨m,ρ,S,fl,ρ',S',E,R,e,q⟩:=h;cases e
theorem Fj:∀n,SndS T C ar k n
 |0=>⟨fun b X s c _ _ h=>absurd h Zb,fun b X s c _ _ h=>absurd h Zb⟩
 |n+1=>by
  have ih:=Fj n;refine⟨fun b X s c G hk h=>?_,fun b X ss cs G hk h=>?_⟩
  ·have hp:PassesOwn (model X.prog X.w) X.A X.env X.xe:=by rw[G.xe];exact PassesOwn.never
   cases c with
   |asg t e=>obtain⟨tg,v,p,rfl,h1⟩:=i4 h;exact Fi G hk h1
   |setI v o i=>
    obtain⟨x,y,px,z,p,rfl,h1,h2,h3,pl⟩:=z9 h
    exact PS.imp (fM ((snd n).e b X z v G h1) (nu ((snd n).e b X x o G h2) ((snd n).e b X y i G h3) vf (fun v=>by
     cases y <;> first | rfl | (exact absurd pl Zb))) (i3 fun x p z=>nomatch z) (fE (.inr (.inr ⟨_,_,_,rfl⟩))) rfl) fun D σ H q=>zE q
   |swp v o i q j=>
    obtain⟨t1,t2,kt,pt,es,ke,pe,p,rfl,h1,h2,h3,h4⟩:=Fd h;obtain⟨x1,y1,q1,rfl,a1,a2,pl1⟩:=wK h2;obtain⟨x2,y2,q2,rfl,b1,b2,pl2⟩:=wK h3;have hb:=kP hk
    exact PS.imp (fM ((snd n).e b X _ v G h1) (t7 G.calm (gZ (nu ((snd n).e b X x1 o G a1) ((snd n).e b X y1 i G a2) vf (fun v=>by
     cases y1 <;> first | rfl | (exact absurd pl1 Zb))) (gZ (nu ((snd n).e b X x2 q G b1) ((snd n).e b X y2 j G b2) vf (fun v=>by
     cases y2 <;> first | rfl | (exact absurd pl2 Zb))) pR))) (i3 fun x p z=>nomatch z) (CP hb G.hs h4) rfl) fun D σ H q=>EL q
   |ex e=>obtain⟨v,p,rfl,h1,h2⟩:=CY h;exact PS.imp (pN ((snd n).e b X v e G h1) (mM h2)) fun D σ H q=>zC q
   |ret e=>obtain⟨v,p,rfl,h1⟩:=gf h;exact PS.imp (fL ((snd n).e b X _ _ G h1)) fun D σ H q=>EI q
   |retN=>obtain⟨p,rfl⟩:=Aa h;exact PS.imp yr fun D σ H q=>zD q
   |ifs c x y=>obtain⟨t,p,q,r,rfl,h1,h2,h3⟩:=qA h;exact PS.imp (pO ((snd n).t b X _ _ G h1) (ih.ss b X _ _ G hk h2) (ih.ss b X _ _ G hk h3)) fun D σ H q=>Ju q
   |for_ t it x=>
    obtain⟨tg,i,p,pos,rfl,h1,h2⟩:=Fe h;have h1:=an2 h1;exact PS.imp (DG hp G.calm ((snd n).i [] b X _ _ _ G h1.1) (dY G h1.2) (ih.ss b X _ _ G hk h2) (dW h1.1 (fun e he env=>cV he) X.env)) fun D σ H q=>EM q
   |while_ c x=>obtain⟨t,p,q,rfl,h1,h2⟩:=wL h;exact PS.imp (ub hp ((snd n).t b X _ _ G h1) (ih.ss b X _ _ G hk h2)) fun D σ H q=>vE q
   |pass=>obtain⟨p,rfl⟩:=Ab h;exact PS.imp yq fun D σ H q=>qh q
   |brk=>obtain⟨p,rfl⟩:=Ff h;exact PS.imp t5 fun D σ H q=>EJ q
   |cnt=>obtain⟨p,rfl⟩:=Fg h;exact PS.imp ll fun D σ H q=>EK q
   |never=>exact PS.imp t6 fun D σ H q=>(JO q).elim
  ·cases cs with
   |nil=>rw[bH h];exact PSs.imp eX fun D σ H q=>qh q
   |cons c cs=>
    obtain⟨s,ss,rfl,h⟩:=bE h;have h:=an2 h;exact PSs.imp (bu (ih.s b X s c G hk h.1) (ih.ss b X ss cs G hk h.2)) fun D σ H q=>EH q
end
noncomputable def wIs(b:Blk)(x:Str)(e:Expr):Bool:=eO b "isinstance" (cA fun y=>b.N[0]? == some y && b.vis y) (cA fun y=>y == x && b.glo y) e
noncomputable def o5(k:Str->Expr->Bool):List Str->List Expr->Bool
 |[],es=>es.isEmpty
 |x::xs,es=>lC es fun e es=>ao e && k x e && o5 k xs es
noncomputable def wV(b:Blk)(i:Nat)(e:Expr):Bool:=cA (fun y=>b.N[i]? == some y && b.vis y) e
noncomputable def wTg(b:Blk)(i:Nat)(e:Expr):Bool:=cA (fun y=>b.N[i]? == some y && b.own y) e
noncomputable def wMt(b:Blk)(m:Str)(e:Expr):Bool:=jk m (wV b 1) (fun es=>l1 es fun e=>sBl true e) e
noncomputable def qB(b:Blk)(cs:List Str)(s:Stmt):Bool:=zAsg (fun tg v=>wTg b 1 tg && zP .Add (wV b 1) (sR (o5 (wIs b) cs)) v) s
noncomputable def JP(b:Blk)(cs:List Str)(s:Stmt):Bool:=zAsg (fun tg v=>wTg b 1 tg && sR (o5 (wIs b) cs) v) s
noncomputable def JQ(b:Blk)(s:Stmt):Bool:=zIf (oV .Or (sS .NotEq (wMt b "count") (oQ 1)) (v8 (wIs b "ValueError"))) (fun ss=>l1 ss fun s=>zRet (oU "other") s) (fun ss=>ss.isEmpty) s
noncomputable def JR(b:Blk)(ws:List Str)(s:Stmt):Bool:=zAsg (fun tg v=>wTg b 2 tg && sR (o5 oU ws) v) s
noncomputable def JS(b:Blk)(ws:List Str)(s:Stmt):Bool:=zRet (sIx (zP .Add (wV b 2) (sR (o5 oU ws))) (wMt b "index")) s
noncomputable def jl(b:Blk)(cs ws:List Str)(ss:List Stmt):Bool:=
 dn b.N && b.N.length == 3 && b.glo "isinstance" && lC ss fun s1 ss=>lC ss fun s2 ss=>lC ss fun s3 ss=>lC ss fun s4 ss=>lC ss fun s5 ss=>lC ss fun s6 ss=>l1 ss fun s7=>
  JP b (cs.take 4) s1 && qB b ((cs.drop 4).take 4) s2 && qB b ((cs.drop 8).take 4) s3 && qB b (cs.drop 12) s4 && JQ b s5 && (JR b (ws.take 12) s6 && JS b (ws.drop 12) s7)
def ExH(H:Hp)(a C:Addr):Prop:=∃φ,H a=some (.ext φ)/\∀h,φ h->fv h a C
theorem ExH.at{X:Cx}{pins:List (Addr × Obj)}{σ:L2.St}{H:Hp}{s:Shared}{a C:Addr}(x:ExH H a C)(I:L2.Inv X pins σ H s):fv s.heap a C:=let ⟨_,h1,h2⟩:=x;h2 _ (I.hok a _ h1).1
theorem JT{H:Hp}{a C:Addr}(h:H a=some (exO a C)):ExH H a C:=⟨_,h,fun _ z=>z⟩
def dE(H H2:Hp):Prop:=∀p o,H p=some o->H2 p=some o
theorem dE.upd(h:H p=none):dE H (L2.upd H p o):=fun q u e=>by rw[ah (aJ e h)];exact e
theorem dE.trans(a:dE H H1)(b:dE H1 H2):dE H H2:=fun p o e=>b p o (a p o e)
section
variable {X:Cx}
theorem sV:MtR X "list.count" (fun x vs H Q=>∃l xs y,x = .ref l/\vs=[y]/\H l=some (.lst xs)/\bA y=true/\xs.all bA=true/\Q (.int ((xs.countP fun z=>eqV z y:Nat):Int)) H):=by
 intro pins s σ H x vs v us Q I rx rv h;obtain⟨p,xs,y,rfl,rfl,hq,fy,fs,q⟩:=h;cases rx;obtain⟨u,rfl,ru⟩:=rv.one;obtain⟨_,its,n,r,e⟩:=I.hok p _ hq;refine Vs Wg ⟨_,e,rfl⟩ PySem.F.entry_list_count (PySem.F.args_list_count_2 _ _) (SeqAt.list_countAt p its.toArray n none #[] u (eqU y)) ⟨e,fun w hw=>bR ru fy r fs w (by simpa using hw),?_⟩;refine⟨.int _,H,I.tok _,⟨_,rfl⟩,?_⟩
 have z:(its.toArray.toList.countP (eqU y))=xs.countP fun z=>eqV z y:=by
  rw[Yw];exact eF r fs
 rw[z];exact q
theorem sW:MtR X "list.index" (fun x vs H Q=>∃l xs y,∃j:Nat,∃z,x = .ref l/\vs=[y]/\H l=some (.lst xs)/\bA y=true/\xs.all bA=true/\j < 100/\xs[j]?=some z/\eqV z y=true/\(∀ (m:Nat) z,m < j->xs[m]?=some z->eqV z y=false)/\Q (.int (j:Int)) H):=by
 intro pins s σ H x vs v us Q I rx rv h;obtain⟨p,xs,y,j,z,rfl,rfl,hq,fy,fs,hj,hz,hit,hno,q⟩:=h;cases rx;obtain⟨u,rfl,ru⟩:=rv.one;obtain⟨_,its,n,r,e⟩:=I.hok p _ hq
 have at_:∀m (hm:m < its.toArray.size),∃w,xs[m]?=some w/\eqU y its.toArray[m]=eqV w y:=fun m hm=>by
  have hm':m < xs.length:=by rw[r.length];simpa using hm
  obtain⟨u',hu,rr⟩:=r.get (i:=m) (gEG hm');refine⟨xs[m],gEG hm',?_⟩
  have e1:its.toArray[m]=u':=by
   have:=Zf.mp hu;obtain⟨_,z⟩:=this
   simpa using z
  rw[e1];exact j9 rr (ZD.mp fs _ (YL hm'))
 have hjs:j < its.toArray.size:=by have:=(Zf.mp hz).1;rw[r.length] at this;simpa using this
 refine Vs Wi ⟨_,e,rfl⟩ PySem.F.entry_list_index (PySem.F.args_list_index_2 _ _) (SeqAt.list_indexAt p its.toArray n none #[] u (eqU y) j hjs (by lia) ?_ ?_) ⟨e,fun w hw=>bR ru fy r fs w (by simpa using hw),?_⟩
 ·obtain⟨w,hw,e1⟩:=at_ j hjs;rw[hz] at hw;cases hw;rw[e1];exact hit
 ·intro m hm hlt;obtain⟨w,hw,e1⟩:=at_ m hm;rw[e1];exact hno m w hlt hw
 ·exact⟨.int _,H,I.tok _,⟨_,rfl⟩,q⟩
end
section
variable {X:Cx} {b:Blk} {a C R:Addr}
theorem jm(hs:X.env.scope=b.sc)(h:b.glo x=true):Gl X x/\(x == ("__debug__" : Str))=false:=by
 unfold Blk.glo at h;rw[bAE] at h;refine⟨?_,by simpa using h.2⟩;show X.env.scope.names.lookup x=_;rw[hs]
 simpa using h.1
theorem c9(hs:X.env.scope=b.sc)(hN:X.N=b.N){i:Nat}(h:wV b i e=true):PE X e (rg i):=by
 obtain⟨x,p,rfl,hh⟩:=aZ h;obtain⟨h1,h2⟩:=an2 hh;unfold Blk.vis at h2;rw[bAE,bAE] at h2;refine gX (i:=i) (by rw[hN];exact eq_of_beq h1) ?_ (by simpa using h2.1.2) (by simpa using h2.2);unfold Vis;rw[hs];have h3:=h2.1.1;split at h3
 ·rename_i e;exact .inl e
 ·rename_i e;exact .inr (.inl e)
 ·rename_i e;exact .inr (.inr e)
 ·cases h3
theorem mO(hC:a9 X.base C (.ref R::bmV))(hR:a9 X.base R bmV):au X (.builtin "isinstance") (fun xs H Q=>∃D,xs=[.ref a,.ref D]/\ExH H a C/\fA X.base D/\D ≠ R/\Q (.bl (C == D)) H):=by
 intro pins s σ H xs us Q I rs h;obtain⟨D,rfl,ha,⟨dd,cd,sl,hD⟩,hr,q⟩:=h;cases rs with
 |cons r1 rs=>
  cases rs with
  |cons r2 rs=>
   cases rs;cases r1;cases r2;exact isx (hC.keeps I.bk) (hR.keeps I.bk) (ha.at I) ⟨dd,cd,sl,I.bk _ _ hD⟩ hr fun tk=>⟨.bl _,H,I.tok _,rfl,q⟩
theorem wP(hC:a9 X.base C (.ref R::bmV))(hR:a9 X.base R bmV):au X (.builtin "isinstance") (fun xs H Q=>xs=[.ref a,.ty "ValueError"]/\ExH H a C/\Q (.bl true) H):=by
 intro pins s σ H xs us Q I rs h;obtain⟨rfl,ha,q⟩:=h;cases rs with
 |cons r1 rs=>
  cases rs with
  |cons r2 rs=>
   cases rs;cases r1;cases r2;exact isv (hC.keeps I.bk) (hR.keeps I.bk) (ha.at I) fun tk=>⟨.bl _,H,I.tok _,rfl,q⟩
theorem LR(hs:X.env.scope=b.sc)(hN:X.N=b.N)(hb:X.mg "isinstance" = none)(hC:a9 X.base C (.ref R::bmV))(hR:a9 X.base R bmV){x:Str}{D:Addr}{e:Expr}(hm:X.mg x=some (.ref D))(h:wIs b x e=true) :
  PE X e (fun σ H Q=>σ[0]?=some (some (.ref a))/\ExH H a C/\fA X.base D/\D ≠ R/\Q (.bl (C == D)) H):=by
 obtain⟨x1,y,p,p',rfl,h2,h5,h6,h7,_⟩:=bD h;obtain⟨y,p'',rfl,h8⟩:=aZ h7;obtain⟨h3,h4⟩:=an2 h8;have hy:=eq_of_beq h3;subst hy;exact PE.imp (b9 (mO (a:=a) hC hR) (jm hs h2).1 hb XG (bh (c9 hs hN h5) (aW (j4 (v:=.ref D) (jm hs h4).1 hm rfl (jm hs h4).2) rfl) h6) (by decide) (jm hs h2).2 (ae h6) rfl) fun σ H Q q=>⟨_,q.1,D,rfl,q.2.1,q.2.2.1,q.2.2.2.1,q.2.2.2.2⟩
theorem JU(hs:X.env.scope=b.sc)(hN:X.N=b.N)(hb:X.mg "isinstance" = none)(hv:X.mg "ValueError" = none)(hC:a9 X.base C (.ref R::bmV))(hR:a9 X.base R bmV)(h:wIs b "ValueError" e=true) :
  PE X e (fun σ H Q=>σ[0]?=some (some (.ref a))/\ExH H a C/\Q (.bl true) H):=by
 obtain⟨x1,y,p,p',rfl,h2,h5,h6,h7,_⟩:=bD h;obtain⟨y,p'',rfl,h8⟩:=aZ h7;obtain⟨h3,h4⟩:=an2 h8;have hy:=eq_of_beq h3;subst hy;exact PE.imp (b9 (wP (a:=a) hC hR) (jm hs h2).1 hb XG (bh (c9 hs hN h5) (aW (dN (v:=.ty "ValueError") (jm hs h4).1 hv PyProof.Rows.Boot.«ValueError» rfl (by decide) (jm hs h4).2) rfl) h6) (by decide) (jm hs h2).2 (ae h6) rfl) fun σ H Q q=>⟨_,q.1,rfl,q.2.1,q.2.2⟩
inductive Cls2(X:Cx)(R:Addr):List Str->List Addr->Prop
 |nil:Cls2 X R [] []
 |cons {x:Str} {D:Addr} {xs:List Str} {Ds:List Addr}:X.mg x=some (.ref D)->fA X.base D->D ≠ R->Cls2 X R xs Ds->Cls2 X R (x::xs) (D::Ds)
theorem wQ(hs:X.env.scope=b.sc)(hN:X.N=b.N)(hb:X.mg "isinstance" = none)(hC:a9 X.base C (.ref R::bmV))(hR:a9 X.base R bmV):∀ {cs:List Str} {Ds:List Addr} {es:List Expr},Cls2 X R cs Ds->o5 (wIs b) cs es=true ->
  PA X es (fun σ H Q=>σ[0]?=some (some (.ref a))/\ExH H a C/\Q (Ds.map fun D=>.bl (C == D)) H)
 |_,_,es,.nil,h=>by rw[bH h];exact PA.imp j5 fun σ H Q q=>q.2.2
 |_,_,es,.cons h1 h2 h3 t,h=>by
  obtain⟨e,es,rfl,h⟩:=bE h;obtain⟨p1,p2,p3⟩:=an3 h;exact PA.imp (bh (LR hs hN hb hC hR h1 p2) (wQ hs hN hb hC hR t p3) p1) fun σ H Q q=>⟨q.1,q.2.1,h2,h3,q.1,q.2.1,q.2.2⟩
theorem o6:∀ {ws:List Str} {es:List Expr},o5 oU ws es=true->PA X es (fun σ H Q=>Q (ws.map V.str) H)
 |[],es,h=>by rw[bH h];exact PA.imp j5 fun σ H Q q=>q
 |w::ws,es,h=>by
  obtain⟨e,es,rfl,h⟩:=bE h;obtain⟨p1,p2,p3⟩:=an3 h;obtain⟨_,_,rfl⟩:=kJ p2;exact PA.imp (bh gY (o6 p3) p1) fun σ H Q q=>q
theorem Fk(hs:X.env.scope=b.sc)(hN:X.N=b.N)(hf:X.fn=fun _=>true)(hnd:b.N.Nodup){i:Nat}(h:wTg b i e=true):∃x p,e = .Name x p/\PG X e (jq i):=by
 obtain⟨x,p,rfl,hh⟩:=aZ h;obtain⟨h1,h2⟩:=an2 hh;refine⟨x,p,rfl,pP (by rw[hN];exact hnd) (by rw[hN];exact eq_of_beq h1) ?_ (.inl (by rw[hf]))⟩;unfold Blk.own at h2;unfold L2.Loc;rw[hs];split at h2
 ·rename_i e;exact .inl e
 ·rename_i e;exact .inr e
 ·cases h2
theorem o7{line:Nat}(hk:X.env.blockKind = .function)(hs:X.env.scope=b.sc)(h:o3 e=none):Uh [.Name x p] e line X.env=pure false:=by
 have z:=ww (sc:=b.sc) (v:=e) (t:=x) (pos:=p) (line:=line) hk hs;unfold swW at z;rw[h] at z;exact z
def sX(a C:Addr)(σ:L2.St)(H:Hp):Prop:=σ.length=3/\σ[0]?=some (some (.ref a))/\ExH H a C
theorem dF{i:Nat}(x:sX a C σ H)(hi:i ≠ 0)(e:dE H H2):sX a C (σ.set i (some v)) H2:=⟨by simpa using x.1,by rw[ZT hi];exact x.2.1,let ⟨φ,h1,h2⟩:=x.2.2;⟨φ,e _ _ h1,h2⟩⟩
variable (hk:X.env.blockKind = .function) (hs:X.env.scope=b.sc) (hN:X.N=b.N) (hf:X.fn=fun _=>true) (hnd:b.N.Nodup) (hb:X.mg "isinstance" = none) (hv:X.mg "ValueError" = none) (hC:a9 X.base C (.ref R::bmV)) (hR:a9 X.base R bmV)
include hk hs hN hf hnd hb hC hR in
theorem JV(c2:Cls2 X R cs Ds)(hl:Ds.length<=100)(h:JP b cs s=true):PS X s (fun D σ H=>sX a C σ H/\∀q H2,dE H H2->H2 q=some (.lst (Ds.map fun D=>.bl (C == D)))->D.nx (σ.set 1 (some (.ref q))) H2):=by
 obtain⟨tg,v,p,rfl,h⟩:=i4 h;obtain⟨h1,h2⟩:=an2 h;obtain⟨x,p1,rfl,g⟩:=Fk hs hN hf hnd h1;obtain⟨es,p2,rfl,h2⟩:=iU h2;refine PS.imp (fM (hJ (wQ (a:=a) hs hN hb hC hR c2 h2)) g (o7 hk hs rfl) (fE (.inr (.inl ⟨_,_,rfl⟩))) rfl) fun D σ H ⟨e,q⟩=>?_;exact⟨e.2.1,e.2.2,by rw[Ze,Uc];lia,fun l hl=>q l _ (dE.upd hl) ak⟩
include hk hs hN hf hnd hb hC hR in
theorem o8(c2:Cls2 X R cs Ds)(hl:Ds.length<=100)(h:qB b cs s=true):PS X s (fun D σ H=>sX a C σ H/\∃l xs,σ[1]?=some (some (.ref l))/\H l=some (.lst xs)/\xs.length<=100/\∀q H2,dE H H2->H2 q=some (.lst (xs++Ds.map fun D=>.bl (C == D)))->D.nx (σ.set 1 (some (.ref q))) H2):=by
 obtain⟨tg,v,p,rfl,h⟩:=i4 h;obtain⟨h1,h2⟩:=an2 h;obtain⟨x,p1,rfl,g⟩:=Fk hs hN hf hnd h1;obtain⟨y,z,p3,rfl,h3,h4⟩:=oY h2;obtain⟨es,p2,rfl,h4⟩:=iU h4;refine PS.imp (fM (ue nK (c9 hs hN h3) (hJ (wQ (a:=a) hs hN hb hC hR c2 h4))) g (o7 hk hs rfl) (fE (.inr (.inl ⟨_,_,rfl⟩))) rfl) fun D σ H ⟨e,l,xs,hl1,hl2,hl3,q⟩=>?_;refine⟨_,hl1,e.2.1,e.2.2,by rw[Ze,Uc];lia,fun p hp=>?_⟩;refine⟨l,p,xs,_,rfl,rfl,dE.upd hp _ _ hl2,ak,by rw[Ze,Uc];lia,fun r hr=>?_⟩;exact q r _ ((dE.upd hp).trans (dE.upd hr)) ak
include hs hN in
theorem JW(h:wMt b "count" e=true):PE X e (fun σ H Q=>∃l xs,σ[1]?=some (some (.ref l))/\H l=some (.lst xs)/\xs.all bA=true/\Q (.int ((xs.countP fun z=>eqV z (.bl true):Nat):Int)) H):=by
 obtain⟨x,ap,es,p,rfl,h2,h3,h4,h5⟩:=cD h;obtain⟨y,rfl,h5⟩:=bC h5;obtain⟨_,_,rfl⟩:=wb h5;exact PE.imp (gp Wc Wg PySem.F.type_list_count sV (c9 hs hN h4) (aW tQ rfl) (aU h2) (cX rfl) h3 (ae rfl) rfl) fun σ H Q ⟨l,xs,h1,h2,h3,q⟩=>⟨_,h1,.inl ⟨rfl,xs,SqL.of h2⟩,l,xs,.bl true,rfl,rfl,h2,rfl,h3,q⟩
include hs hN in
theorem JX(h:wMt b "index" e=true):PE X e (fun σ H Q=>∃l xs,∃j:Nat,∃z,σ[1]?=some (some (.ref l))/\H l=some (.lst xs)/\xs.all bA=true/\j < 100/\xs[j]?=some z/\eqV z (.bl true)=true/\(∀ (m:Nat) z,m < j->xs[m]?=some z->eqV z (.bl true)=false)/\Q (.int (j:Int)) H):=by
 obtain⟨x,ap,es,p,rfl,h2,h3,h4,h5⟩:=cD h;obtain⟨y,rfl,h5⟩:=bC h5;obtain⟨_,_,rfl⟩:=wb h5;exact PE.imp (gp Wc Wi PySem.F.type_list_index sW (c9 hs hN h4) (aW tQ rfl) (aU h2) (cX rfl) h3 (ae rfl) rfl) fun σ H Q ⟨l,xs,j,z,h1,h2,h3,q⟩=>⟨_,h1,.inl ⟨rfl,xs,SqL.of h2⟩,l,xs,.bl true,j,z,rfl,rfl,h2,rfl,h3,q⟩
include hs hN hb hv hC hR in
theorem JY(h:JQ b s=true):PS X s (fun D σ H=>sX a C σ H/\(∃l xs,σ[1]?=some (some (.ref l))/\H l=some (.lst xs)/\xs.all bA=true/\(xs.countP fun z=>eqV z (.bl true))=1)/\D.nx σ H):=by
 obtain⟨t,p,q,r,rfl,h1,h2,h3⟩:=qA h;obtain⟨s,rfl,h2⟩:=bC h2;obtain⟨v,p',rfl,h2⟩:=gf h2;obtain⟨_,_,rfl⟩:=kJ h2;rw[bH h3];obtain⟨x,y,p2,rfl,h4,h5⟩:=f8 h1;obtain⟨l,z,p3,rfl,h6,h7,h8⟩:=iV h4;obtain⟨_,_,rfl⟩:=fZ h7;obtain⟨w,p4,rfl,h9⟩:=kK h5
 have hw:zM w=true:=by
  obtain⟨_,_,_,_,rfl,_⟩:=bD h9;rfl
 refine PS.imp (pO (pM (gK Cq (JW hs hN h6) fK (bL rfl)) (nk (nq (tS (JU (a:=a) hs hN hb hv hC hR h9) (eP hw))))).pt (bN (fL gY)) eX) fun D σ H ⟨e,⟨l,xs,h1,h2,h3,h4⟩,q⟩=>?_;refine⟨l,xs,h1,h2,h3,rfl,_,rfl,?_⟩;rw[h4];show if (!decide (V.int ((1:Nat):Int)=V.int 1))=true then _ else _
 rw[if_neg (by decide)];refine⟨e.2.1,e.2.2,true,rfl,?_⟩;show if (!true)=true then _ else _
 rw[if_neg (by decide)];exact q
include hk hs hN hf hnd in
theorem JZ(hl:ws.length<=100)(h:JR b ws s=true):PS X s (fun D σ H=>∀q H2,dE H H2->H2 q=some (.lst (ws.map V.str))->D.nx (σ.set 2 (some (.ref q))) H2):=by
 obtain⟨tg,v,p,rfl,h⟩:=i4 h;obtain⟨h1,h2⟩:=an2 h;obtain⟨x,p1,rfl,g⟩:=Fk hs hN hf hnd h1;obtain⟨es,p2,rfl,h2⟩:=iU h2;refine PS.imp (fM (hJ (o6 h2)) g (o7 hk hs rfl) (fE (.inr (.inl ⟨_,_,rfl⟩))) rfl) fun D σ H q=>?_;exact⟨by rw[Ze,Uc];lia,fun l hl=>q l _ (dE.upd hl) ak⟩
include hs hN in
theorem J0(hl:ws.length<=100)(h:JS b ws s=true):PS X s (fun D σ H=>∃l xs m ys,∃j:Nat,∃z w,σ[1]?=some (some (.ref l))/\H l=some (.lst xs)/\xs.all bA=true/\j < 100/\xs[j]?=some z/\eqV z (.bl true)=true/\(∀ (m:Nat) z,m < j->xs[m]?=some z->eqV z (.bl true)=false) ∧
  σ[2]?=some (some (.ref m))/\H m=some (.lst ys)/\ys.length<=100/\(ys++ws.map V.str)[j]?=some w/\∀H2,dE H H2->D.rt w H2):=by
 obtain⟨v,p,rfl,h⟩:=gf h;obtain⟨x,y,p1,rfl,h1,h2,h3⟩:=CN h;obtain⟨x1,x2,p2,rfl,h4,h5⟩:=oY h1;obtain⟨es,p3,rfl,h5⟩:=iU h5;refine PS.imp (fL (ul yH (ue nK (c9 hs hN h4) (hJ (o6 h5))) (JX hs hN h2) (iX h3))) fun D σ H ⟨l,xs,m,ys,j,z,w,a1,a2,a3,a4,a5,a6,a7,b1,b2,b3,b4,q⟩=>?_;refine⟨_,b1,by rw[Ze,Uc];lia,fun p hp=>⟨m,p,ys,_,rfl,rfl,dE.upd hp _ _ b2,ak,by rw[Ze,Uc];lia,fun r hr=>?_⟩⟩;refine⟨l,xs,j,z,a1,dE.upd hr _ _ (dE.upd hp _ _ a2),a3,a4,a5,a6,a7,r,_,(j:Int),w,rfl,rfl,SqL.of ak,?_,q _ ((dE.upd hp).trans (dE.upd hr))⟩;have hj:=(Zf.mp b4).1;unfold atI ixN;rw[if_pos (Int.natCast_nonneg j),if_pos (by lia)]
 simpa using b4
include hk hs hN hf hb hv hC hR in
theorem Ah{cs ws:List Str}{Ds:List Addr}{i:Nat}{w:Str}{ss:List Stmt}(c1:Cls2 X R (cs.take 4) (Ds.take 4))(c2:Cls2 X R ((cs.drop 4).take 4) ((Ds.drop 4).take 4))(c3:Cls2 X R ((cs.drop 8).take 4) ((Ds.drop 8).take 4))(c4:Cls2 X R (cs.drop 12) (Ds.drop 12))
  (hl:Ds.length<=100) (hws:ws.length<=100) (hnd:Ds.Nodup) (hi:Ds[i]?=some C) (hw:ws[i]?=some w) (h:jl b cs ws ss=true) :
  PSs X ss (fun D σ H=>sX a C σ H/\∀H2,dE H H2->D.rt (.str w) H2):=by
 unfold jl at h;obtain⟨h1,h2,_,k0⟩:=an4 h;clear h;obtain⟨s1,ss1,e1,k1⟩:=bE k0;subst e1;obtain⟨s2,ss2,e2,k2⟩:=bE k1;subst e2;obtain⟨s3,ss3,e3,k3⟩:=bE k2;subst e3;obtain⟨s4,ss4,e4,k4⟩:=bE k3;subst e4;obtain⟨s5,ss5,e5,k5⟩:=bE k4;subst e5;obtain⟨s6,ss6,e6,k6⟩:=bE k5;subst e6;obtain⟨s7,e7,k7⟩:=bC k6;subst e7;obtain⟨g1,g2,g3,g4,g5,g6⟩:=an6 k7;obtain⟨g6,g7⟩:=an2 g6;have nd:=dq h1;have t1:(Ds.take 4).length<=100:=by rw[ZG];lia
 have t2:((Ds.drop 4).take 4).length<=100:=by rw[ZG];lia
 have t3:((Ds.drop 8).take 4).length<=100:=by rw[ZG];lia
 have t4:(Ds.drop 12).length<=100:=by rw[Z5];lia
 refine PSs.imp (bu (JV (a:=a) hk hs hN hf nd hb hC hR c1 t1 g1) (bu (o8 (a:=a) hk hs hN hf nd hb hC hR c2 t2 g2) (bu (o8 (a:=a) hk hs hN hf nd hb hC hR c3 t3 g3) (bu (o8 (a:=a) hk hs hN hf nd hb hC hR c4 t4 g4) (bu (JY (a:=a) hs hN hb hv hC hR g5)
  (bu (JZ hk hs hN hf nd (by rw[ZG];lia) g6) (bN (J0 hs hN (by rw[Z5];lia) g7))))))) ) fun D σ H ⟨e,q⟩=>?_
 have el:=e.1;refine⟨e,fun q1 H1 x1 y1=>?_⟩;have e1:=dF (v:=.ref q1) e (by decide:1 ≠ 0) x1;refine⟨e1,q1,_,by rw[Zy (by lia)],y1,by rw[Ze];exact t1,fun q2 H2 x2 y2=>?_⟩;have e2:=dF (v:=.ref q2) e1 (by decide:1 ≠ 0) x2;refine⟨e2,q2,_,by rw[Zy (by have:=e1.1;lia)],y2,by rw[Zm,Ze,Ze,ZG,ZG];lia,fun q3 H3 x3 y3=>?_⟩;have e3:=dF (v:=.ref q3) e2 (by decide:1 ≠ 0) x3;refine⟨e3,q3,_,by rw[Zy (by have:=e2.1;lia)],y3,by rw[Zm,Zm,Ze,Ze,Ze,ZG,ZG,ZG];lia,fun q4 H4 x4 y4=>?_⟩;have e4:=dF (v:=.ref q4) e3 (by decide:1 ≠ 0) x4
 have all:(((Ds.take 4).map (fun D=>V.bl (C == D))++((Ds.drop 4).take 4).map (fun D=>V.bl (C == D)))++((Ds.drop 8).take 4).map (fun D=>V.bl (C == D)))++(Ds.drop 12).map (fun D=>V.bl (C == D))=Ds.map fun D=>V.bl (C == D):=by
  rw[<-ZV,<-ZV,<-ZV]
  congr 1
  have z1:Ds.take 4++(Ds.drop 4).take 4=Ds.take 8:=by rw[show 8=4+4 from rfl,Xs]
  have z2:Ds.take 8++(Ds.drop 8).take 4=Ds.take 12:=by rw[show 12=8+4 from rfl,Xs]
  rw[z1,z2,YX]
 rw[all] at y4;have fl:(Ds.map fun D=>V.bl (C == D)).all bA=true:=by rw[Xc];exact ZD.mpr fun _ _=>rfl
 have hev:∀D:Addr,eqV (V.bl (C == D)) (.bl true)=(C == D):=fun D=>by cases C == D <;> rfl
 have at_:∀ (m:Nat) z,(Ds.map fun D=>V.bl (C == D))[m]?=some z->∃D,Ds[m]?=some D/\z = .bl (C == D):=fun m z hz=>by
  rw[ZC] at hz;cases hd:Ds[m]? with
  |none=>rw[hd] at hz;cases hz
  |some D=>rw[hd] at hz;cases hz;exact⟨D,rfl,rfl⟩
 refine⟨e4,⟨q4,_,by rw[Zy (by have:=e3.1;lia)],y4,fl,?_⟩,fun q5 H5 x5 y5=>?_⟩
 ·rw[List.countP_map]
  have:((fun z=>eqV z (V.bl true)) ∘ fun D=>V.bl (C == D))=fun D=>D == C:=by
   funext D
   show eqV (V.bl (C == D)) (.bl true)=_;rw[hev,Bool.beq_comm]
  rw[this];show Ds.count C=1;rw[hnd.count,if_pos (Zn hi)]
 ·have e5:=dF (v:=.ref q5) e4 (by decide:2 ≠ 0) x5;have hil:=(Zf.mp hi).1;refine⟨q4,_,q5,_,i,.bl (C == C),.str w,?_,x5 _ _ y4,fl,by lia,by rw[ZC,hi];rfl,by rw[hev,beq_self_eq_true],fun m z hm hz=>?_,?_,y5,by rw[Ze,ZG];lia,?_,fun H6 x6=>?_⟩
  ·rw[ZT (by decide),Zy (by have:=e3.1;lia)]
  ·obtain⟨D,hD,rfl⟩:=at_ m z hz;rw[hev];refine Xd.mpr fun q=>?_;have z:C=D:=by simpa using q
   subst z;obtain⟨i1,j1⟩:=Zf.mp hD;obtain⟨i2,j2⟩:=Zf.mp hi;have z2:m=i:=(Ym hnd).mp (j1.trans j2.symm)
   lia
  ·rw[Zy (by have:=e4.1;lia)]
  ·rw[<-ZV,YX,ZC,hw];rfl
  ·exact q H6 ((((x1.trans x2).trans x3).trans x4).trans (x5.trans x6))
end
section
variable {X:Cx}
theorem Fm(h:PS X.nox s t):PS X s t:=fun pins s σ H D I hw=>
 UI (h pins s σ H D (I.wish _) hw) (fun _ _ z=>SP.unwish z) fun _ _ z=>False.elim z
end
noncomputable abbrev cxM(P:Program)(w:World)(K:WN)(mg:Str->Option Value)(base:Heap)(N:List Str)(qual:Str)(scope:Scope)(f:Addr)(cd:Value)(A:Around)(outer:List Env)(s:Shared)(H:Hp):Cx:=
 { jd CX0 P w K mg base N qual scope f cd { A with handled:=none } outer s H E0 with A:=A.deeper (envOfC qual scope s.heap.objs.size f cd),calm:=false,xe:=fun _ _=>False }
section
variable {P:Program} {w:World} {K:WN} {mg:Str->Option Value} {base:Heap} {A:Around} {outer:List Env} {s:Shared} {H:Hp}
theorem mP{x qual:Str}{st:Stmt}{f:Addr}{fd:Ws}{N ps:List Str}{us:List Value}{vs:List V}{Q:VK}(F:Fun K x qual st f fd)(S:FnScope N ps (ag st))(hd:A.depth < recursionLimit)(e0:Env0 P w K mg base A outer s H)(hb:BindsTo s fd ⟨us,[]⟩ (ps.zip us))(r:ax vs us)(hl:vs.length=ps.length)
  (hbody:∀cdv,∃t,PSs (cxM P w K mg base N qual (ag st) f cdv A outer s H) (aI st) t/\t { nx:=fun _ H'=>Q .non H',rt:=Q } (cw N vs) H) :
  codeAny (model P w) A (.call (.ref f) ⟨us,[]⟩) (fun r s'=>match r with |.ok (.ret u)=>L2.CE outer P w H s Q u s' |_=>False) s:=by
 obtain⟨oc,od,kV,doc,pm,an,cdv,ct,osl,rfl,lk,hcd⟩:=F.ex;have KX:K.In s.heap:=e0.mod.kin.keeps fun b o e=>(e0.bs b o e).1;have lim:s.heap.NoLimit:=e0.mod.nolimit.keeps fun b o e=>(e0.bs b o e).1
 have hkind:∀y ∈ ps.zip us,(ag st).names.lookup y.1=some .local\/((ag st).names.lookup y.1=some .cell/\((Vu (s.heap.objs.size+1) (ag st).names []).lookup y.1).isSome=true):=fun⟨n,v⟩ hy=>by
  rcases S.par n (Ys hy).1 with q |q
  ·exact .inl q
  ·exact .inr ⟨q,WQ _ _ _ (.inl q)⟩
 refine Vy hd (KX _ _ lk) rfl S.co S.gen rfl (WU KX hcd) (hb _ _ _ _ ?_);refine UK S.kind hkind fun env he s1 x=>?_;subst he;refine⟨lim.keeps x.toInCall.keep,codeAny_func ?_⟩;obtain⟨t,ht,hq⟩:=hbody cdv;have e1:Env0 P w K mg base { A with handled:=none } outer s H:=⟨e0.frames,e0.mod,e0.bs,e0.bsz,e0.funs,e0.frf,e0.hok,e0.bare⟩;have I0:L2.Inv (jd CX0 P w K mg base N qual (ag st) f cdv { A with handled:=none } outer s H E0) [] (cw N vs) H s1:=jw S rfl e1 hl r x
 have I:L2.Inv (cxM P w K mg base N qual (ag st) f cdv A outer s H) [] (cw N vs) H s1:=
  ⟨⟨I0.ok.mod,I0.ok.kind,I0.ok.glob,I0.ok.blt,I0.ok.above,I0.ok.inj,I0.ok.has,I0.ok.cab,fun z=>(nomatch z),I0.ok.frames,I0.ok.stk,I0.ok.exf,I0.ok.bs,I0.ok.bsz,I0.ok.noex,I0.ok.exfs,I0.ok.funs,I0.ok.frf⟩,I0.os,I0.bare,I0.base,I0.loc,I0.cell,I0.free,I0.freeC,I0.pin,I0.hok,I0.len⟩
 refine UI (ht [] s1 (cw N vs) H _ I hq) (fun fl s' hs=>?_) fun e s' hs=>hs.elim
 have fin:∀ {σ':L2.St} {H':Hp} {v:V} {u:Value},L2.Inv (cxM P w K mg base N qual (ag st) f cdv A outer s H) [] σ' H' s'->aq v u->Q v H'->L2.CE outer P w H s Q u s':=
  fun {σ' H' v u} J rv q=>⟨v,H',J.os,J.bare,J.base,J.hok,rv,q⟩
 cases fl with
 |ret u=>
  obtain⟨v,σ',H',J,rv,q⟩:=hs;exact fin J rv q
 |next=>
  obtain⟨σ',H',J,q⟩:=hs;exact fin (v:=V.non) (u:=Value.none) J rfl q
 |brk=>
  obtain⟨_,_,_,q⟩:=hs;exact False.elim q
 |cont=>
  obtain⟨_,_,_,q⟩:=hs;exact False.elim q
end
noncomputable def eS:List Str:=["meadow", "sky", "landings", "order", "lot", "text", "name", "glider", "minute", "aim", "many", "bound", "deed", "row", "way"]
structure XInf(K:WN)(mg:Str->Option Value)(R:Addr)(Ds:List Addr):Prop where
 ring:mg "RingError" = some (.ref R)
 ve:mg "ValueError" = none
 isi:mg "isinstance" = none
 hR:∀h,K.In h->iW h R bmV
 hC:∀h,K.In h->∀ (i:Nat) C,Ds[i]?=some C->i < 14->iW h C (.ref R::bmV)
 hT:∀h,K.In h->∀D ∈ Ds,fA h D
 nd:Ds.Nodup
 nr:∀D ∈ Ds,D ≠ R
 nm:∀ (i:Nat) x,eA[i]?=some x->∃D,Ds[i]?=some D/\mg x=some (.ref D)
 len:Ds.length=15
section
variable {X:Cx} {R:Addr}
theorem qC:∀ {xs:List Str} {Ds:List Addr},xs.length=Ds.length->(∀ (i:Nat) x,xs[i]?=some x->∃D,Ds[i]?=some D/\X.mg x=some (.ref D))->(∀D ∈ Ds,fA X.base D/\D ≠ R)->Cls2 X R xs Ds
 |[],[],_,_,_=>.nil
 |x::xs,D::Ds,hl,h,g=>by
  obtain⟨D',e,hm⟩:=h 0 x rfl;cases e;exact .cons hm (g D Zg).1 (g D Zg).2 (qC (by simpa using hl) (fun i y hy=>h (i+1) y (by simpa using hy)) fun D hD=>g D (Zd _ hD))
theorem gg{n:Nat}(h:Cls2 X R xs Ds):Cls2 X R (xs.take n) (Ds.take n):=by
 induction h generalizing n with
 |nil=>rw[Xu,Xu];exact .nil
 |cons a b c _ ih=>cases n with
  |zero=>exact .nil
  |succ n=>exact .cons a b c ih
theorem gh{n:Nat}(h:Cls2 X R xs Ds):Cls2 X R (xs.drop n) (Ds.drop n):=by
 induction h generalizing n with
 |nil=>rw[Xv,Xv];exact .nil
 |cons a b c d ih=>cases n with
  |zero=>exact .cons a b c d
  |succ n=>exact ih
end
section
variable {X:Cx} {pins:List (Addr × Obj)} {σ:L2.St} {H:Hp} {s:Shared}
theorem wR{b:Addr}:∀env ∈ X.stack,∀b,env.frame=some b->b ∈ frs X.stack:=fun env he b hb=>ZZ.mpr ⟨env,he,hb⟩
theorem wU{h1 h':Heap}{e t:Addr}{c:Value}{args:List Value}(I:L2.Inv X pins σ H s)(mk:Heap.MadeExcOf s.heap h1 e c args)(hL:Heap.LeftW (WZ s.heap (frs X.stack)) X.stack e c (.ref t) h1 h') :
  XLeft X.prog X.w X.stack H H s (WZ s.heap (frs X.stack)) { s with heap:=h' }:=by
 have stk:=I.stack;have sf:=I.stkFree
 have up:∀b o,s.heap.get? b=some o->b ∈ frs X.stack->∃sl,h'.get? b=some { o with slots:=sl }:=fun b o q hb=>by
  obtain⟨_,o',q',nf⟩:=stk.mem hb;rw[q] at q';cases q';exact hL.2.2.2 b o (mk.keeps b o q) nf
 refine⟨rfl,I.bare,⟨fun b o q n hb hx=>hL.1 b o (W0 _ q hb),fun b o q n hb hx=>up b o q hb,fun b o q n hx=>n,fun b o q hx=>?_,fun _ _ q=>q,fun _ _ _ q=>q,fun b ps q=>⟨#[],by simpa using q⟩⟩,fun b o q n hb=>W0 _ q hb,fun b o q hb=>⟨o,W0 _ q hb⟩,fun a o q=>?_⟩
 ·by_cases hb:b ∈ frs X.stack
  ·obtain⟨z2,q2⟩:=up b _ q hb;exact⟨_,q2⟩
  ·exact⟨o,hL.1 b o (W0 _ q hb)⟩
 ·refine(I.hok a o q).stay (fun b u hb qu=>W0 _ qu fun hm=>?_) (fun _ z=>z) fun _ _ z=>z;have hf:=sf b hm;rcases hb with rfl |hb
  ·rw[q] at hf;cases hf
  ·rw[hb] at hf;cases hf
theorem Ai{h1:Heap}{args:List Value}{e C R:Addr}{i:Nat}{n ring:Str}{b₀:Stmt}{suite:List Stmt}{np hpos:Pos}{D:Ends}(hst:X.stack=X.env::X.outer)(hfm:X.env.frame=some X.env.locals)(I:L2.Inv X pins σ H s)(mk:Heap.MadeExcOf s.heap h1 e (.ref C) args)
  (hC:a9 X.base C (.ref R::bmV)) (hR:a9 X.base R bmV) (hg:Gl X ring) (hm:X.mg ring=some (.ref R)) (hdb:(ring == ("__debug__" : Str))=false) (hN:X.N.Nodup) (hi:X.N[i]?=some n) (hl:X.env.scope.names.lookup n=some .local)
  (hb:∀s6,L2.Inv (Cx.mk X e) pins (σ.set i (some (.ref e))) (upd H e (exO e C)) s6->wpAny (model X.prog X.w) (Cx.mk X e).A (execs (b₀::suite) X.env) (fun f s7=>∃u v σ7 H7,f = .ret u/\L2.Inv (Cx.mk X e) pins σ7 H7 s7/\aq v u/\D.rt v H7) (fun _ _=>False) s6) :
  wpAny (model X.prog X.w) X.A (VZ (.ref e) X.env) (fun _ s₂=>wpAny (model X.prog X.w) X.A (Ub (.ref e) none) (fun _ s₃=>wpAny (model X.prog X.w) X.A (handleBy (.ref e) X.env [.ExceptHandler (some (.Name ring np)) (some n) (b₀::suite) hpos]) (SP X pins D) X.xe s₃) X.xe s₂) X.xe { s with heap:=h1 }:=by
 have hfr:X.A.frames=some (X.env::X.outer):=by rw[<-hst];exact I.ok.frames
 obtain⟨t,he,htn,ht⟩:=mk.there;have hl0:=WY I.stack (wR (X:=X) (b:=e))
 have hen:(WZ s.heap (frs X.stack)).get? e=none:=by
  cases q:(WZ s.heap (frs X.stack)).get? e with
  |none=>rfl
  |some o=>have:=Vb _ q;rw[mk.new] at this;cases this
 unfold VZ;simp only[hfm];refine Ur (UA (x:=.none) he rfl rfl ?_);rw[if_neg (by decide)];refine wpAny_newEntryW hfr (by rw[<-hst];exact hl0.of_keeps fun b o hb _=>⟨o,mk.keeps b o hb,rfl⟩) hfm he (fun b o q=>mk.keeps b o (Vb _ q)) hen rfl (by show 1 < 6;decide) rfl fun h' hL=>?_;rw[<-hst] at hL;have x:=wU I mk hL;have fl5:Heap.FlyingW (WZ s.heap (frs X.stack)) X.stack e (.ref C) (.ref t) h':=⟨hL.1,hen,hL.2.1,hL.2.2.1⟩;obtain⟨un5,ok5⟩:=x.got fl5 fl5 (Heap.UpToSlots.refl _);have I5:L2.Inv X pins σ (upd H e (exO e C)) { s with heap:=h' }:=I.call' x.os un5 ok5 x.bare (fun b z=>absurd z (by simp));have I5m:=kM I5 e;refine wpAny_handleBy_cons (VA (cv (X:=Cx.mk X e) I5m hg hm ?_ hdb)) (by intro q;cases q);have hE:fv h' e C:=by obtain⟨oe,vs,he,hc,hd,_⟩:=fl5.first;exact⟨oe,vs,he,hc,hd⟩
 have st:X.base.StaysIn (WZ s.heap (frs X.stack)):=fun b o q=>x.keep b o (I.bs b o q).1 (I.bs b o q).2 fun hm=>by
  rw[(I.stack.mem hm).1] at q;cases q
 have kb:∀b o,X.base.get? b=some o->h'.get? b=some o:=fun b o q=>fl5.1 b o (st b o q);refine wk (hC.keeps kb) (hR.keeps kb) hE ?_;refine Vz ?_;refine lands_againW fl5 fun h6 fl6 sm6=>?_;obtain⟨un6,ok6⟩:=x.got fl5 fl6 sm6;have I6:L2.Inv X pins σ (upd H e (exO e C)) { s with heap:=h6 }:=I.call' x.os un6 ok6 x.bare (fun b z=>absurd z (by simp));refine bF (X:=Cx.mk X e) (kM I6 e) hN hi (.inl hl) (show aq (.ref e) (.ref e) from rfl) (fun s7 I7=>?_) (.inr hl);refine UI (hb s7 I7) (fun f s8 ⟨u,v,σ8,H8,hf,I8,rv,q⟩=>?_) fun _ _ z=>z.elim;subst hf;exact qv (wm I.ok I8) hN hi hl fun s9 I9=>⟨v,_,H8,I9,rv,q⟩
end
section
variable {prog:Program} {w:World} {A:Around} {E:Value->Shared->Prop} {h:Heap} {g:Array Wt} {d:Drawn} {t:Nat} {os:OsState}
variable {nm q:Str} {C N:Addr} {bs bm bmB:List Value} {hdct:Bool} {sn:List Str} {sub:List Value} {ab:Bool} {col:Option Bool} {dd:Option Addr} {k0 k1 k2 k3 k5:Option Value} {B newId initId:String}
theorem gF(F:X2 B newId initId bmB)(T:OwnTail h bmB bm){mN:Str->Option Value}{rest:List Value}{fI:Addr}{oI:Obj}{Q:Fin->Shared->Prop}
  (hC:h.get? C=some (VG nm q C N bs bm hdct sn sub ab col dd k0 k1 k2 k3 k5 newId)) (hn:h.Ns N mN) (hi:mN "__init__" = some (.ref fI))
  (hfI:h.get? fI=some oI) (hfc:oI.cls = .type "function")
  (hq:∀h' e,Heap.MadeExcOf h h' e (.ref C) rest->h.objs.size<=e ->
   wpAny (model prog w) A (call (.ref fI) (.ref e::rest)) (fun r s'=>r = .none/\Q (.done (.ret (.ref e))) s') E ⟨h',g,d,t,os⟩) (hrest:rest.length<=sizeLine) :
  wpAny (model prog w) A (Builtin.«type.__call__» ⟨.ref C::rest,[]⟩) Q E ⟨h,g,d,t,os⟩:=by
 repeat (first |with_reducible refine UH hC ?_ |with_reducible refine wpAny_madeBy_exc hC ?_ |wp_step)
 refine codeAny_call_builtin_code (Code.quiet_builtin _ F.quiet) (wpAny_check_new_subT F T hC ?_);refine codeAny_exc_new_subT F T hC ?_ hrest;show wpAny _ _ _ _ _ _
 have hC₁:=Za { cls:=.ref C,data:=.fields #[.ref h.objs.size,.none,.none,.none,.bool false,.none] }
  (Za { cls:=.type "tuple", data:=.seq rest.toArray } hC)
 have hfI₁:=Za { cls:=.ref C,data:=.fields #[.ref h.objs.size,.none,.none,.none,.bool false,.none] }
  (Za { cls:=.type "tuple", data:=.seq rest.toArray } hfI)
 have hn₁:((h.push { cls:=.type "tuple", data:=.seq rest.toArray }).push { cls:=.ref C,data:=.fields #[.ref h.objs.size,.none,.none,.none,.bool false,.none] }).Ns N mN:=
  let ⟨o,es,ep,e,r⟩:=hn;⟨o,es,ep,Za _ (Za _ e),r⟩
 have hget:((h.push { cls:=.type "tuple", data:=.seq rest.toArray }).push
   { cls:=.ref C,data:=.fields #[.ref h.objs.size,.none,.none,.none,.bool false,.none] }).get? (h.objs.size+1)=some
   { cls:=.ref C,data:=.fields #[.ref h.objs.size,.none,.none,.none,.bool false,.none] }:=by heap_get
 have hcC:(Value.ref C::bm).contains (.ref C)=true:=by simp
 have T₁:=T.keeps (h':=(h.push { cls:=.type "tuple", data:=.seq rest.toArray }).push { cls:=.ref C,data:=.fields #[.ref h.objs.size,.none,.none,.none,.bool false,.none] })
  fun b o e=>Za _ (Za _ e)
 unfold VN
 repeat (first |with_reducible refine UH hget ?_ |(with_reducible refine UC hC₁ ?_;rw[hcC]) |wp_step)
 show wpAny _ _ (Ul (.ref C) _) _ _ _;refine wpAny_typeLookup_tail hC₁ hn₁ T₁ F.mroIs F.init.lookup ?_;rw[hi];refine UB (Ur ?_);unfold bindSpecial;refine Ur (U0 (T := "function") ⟨_,hfI₁,hfc⟩ ?_);rw[if_pos (by decide)];refine UO (Ur (UI (hq _ (h.objs.size+1) ⟨fun b o hb=>Za _ (Za _ hb),Yr (ZX _),h.objs.size,hget,Yr (Zh _),?_⟩ (ZX _)) (fun r s' hr=>?_) fun _ _ x=>x))
 ·exact Za _ (Xe rfl rfl)
 ·obtain⟨rfl,hQ⟩:=hr
  wp_walk
  exact hQ
theorem o9(F:X2 B newId initId bmB)(T:OwnTail h bmB bm){mN:Str->Option Value}{rest:List Value}{fI:Addr}{oI:Obj}{Q:Value->Shared->Prop}
  (hC:h.get? C=some (VG nm q C N bs bm hdct sn sub ab col dd k0 k1 k2 k3 k5 newId)) (hn:h.Ns N mN) (hi:mN "__init__" = some (.ref fI))
  (hfI:h.get? fI=some oI) (hfc:oI.cls = .type "function")
  (hq:∀h' e,Heap.MadeExcOf h h' e (.ref C) rest->h.objs.size<=e ->
   wpAny (model prog w) (A.under (.builtin "type.__call__" ⟨.ref C::rest,[]⟩)) (call (.ref fI) (.ref e::rest)) (fun r s'=>r = .none/\Q (.ref e) s') E ⟨h',g,d,t,os⟩) (hrest:rest.length<=sizeLine) :
  wpAny (model prog w) A (call (.ref C) rest) Q E ⟨h,g,d,t,os⟩:=by
 have f1:=tc_lookup;have f2:=tc_bind (.ref C);have hT:(⟨h,g,d,t,os⟩:Shared).TypeIs (.ref C) "type" := ⟨_,hC,rfl⟩;refine Ut (codeAny_of_tree ?_);show wpAny _ _ (callAny (.ref C) _) _ _ _
 repeat (any_goals (first |assumption |with_reducible refine UH hC ?_ |wp_step))
 refine⟨rfl,?_⟩;refine codeAny_call_builtin_at (Code.quiet_builtin _ (by decide +kernel)) entry_typeCall (wpAny_check_type_call_sub hC (gF (hrest:=hrest) F T hC hn hi hfI hfc fun h' e hm hz=>?_));exact hq h' e hm hz
end
section
variable {M:Model} {A:Around} {E:Value->Shared->Prop} {env:Env}
variable {nm q:Str} {C N:Addr} {bs bm:List Value} {hdct:Bool} {sn:List Str} {sub:List Value} {ab:Bool} {col:Option Bool} {dd:Option Addr} {k0 k1 k2 k3 k5:Option Value} {newId:String}
theorem cn{s:Shared}{x:Sem Value}{Q:Flow->Shared->Prop}(hbase:bm.contains (.type "BaseException")=true)(hh:A.handled=none)
  (h:wpAny M A x (fun v s₁=>∃e t dx,v = .ref e/\s₁.heap.get? C=some (VG nm q C N bs bm hdct sn sub ab col dd k0 k1 k2 k3 k5 newId) ∧
   s₁.heap.get? e=some { cls:=.ref C,dict:=some dx,data:=.fields #[.ref t,.none,.none,.none,.bool false,.none] }/\E (.ref e) s₁) E s) :
  wpAny M A (raiseStmt env (some x) none) Q E s:=by
 have hcB:(Value.ref C::bm).contains (.type "BaseException")=true:=by rw[ZB,hbase,Bool.or_true]
 unfold raiseStmt;refine Ur (UI h (fun v s₁ h₁=>?_) fun _ _ x=>x);obtain⟨e,t,dx,rfl,hC,he,hE⟩:=h₁;obtain⟨hp,g,d,tk,os⟩:=s₁
 repeat (first |with_reducible refine UH he ?_ |with_reducible refine UH hC ?_ |(with_reducible refine UC hC ?_;rw[hcB]) |wp_step)
 exact wpAny_raiseNew_none hh hE
end
section
variable {prog:Program} {w:World} {A:Around} {E:Value->Shared->Prop} {s:Shared} {env:Env}
variable {nm q:Str} {C N fI:Addr} {bs bm bmB:List Value} {hdct:Bool} {sn:List Str} {sub:List Value} {ab:Bool} {col:Option Bool} {dd:Option Addr} {k0 k1 k2 k3 k5:Option Value} {B newId initId:String}
theorem gG(F:X2 B newId initId bmB){mN:Str->Option Value}{x:Str}{np cpos pos:Pos}{args:List Expr}{Q:Flow->Shared->Prop}
  (hbase:bm.contains (.type "BaseException")=true) (hh:A.handled=none) (hplain:(backTo cpos (Ue args env)).any (·.1)=false) (hi:mN "__init__" = some (.ref fI))
  (h:wpAny (model prog w) A (eval (.Name x np) env) (fun f s₁=>f = .ref C/\wpAny (model prog w) A (evalArgs (.ref C) true (backTo cpos (Ue args env)) [])
   (fun a s₂=>a.kw=[]/\a.pos.length<=sizeLine/\s₂.heap.get? C=some (VG nm q C N bs bm hdct sn sub ab col dd k0 k1 k2 k3 k5 newId)/\s₂.heap.Ns N mN/\OwnTail s₂.heap bmB bm/\(∃oI,s₂.heap.get? fI=some oI/\oI.cls = .type "function") ∧
    ∀h' e,Heap.MadeExcOf s₂.heap h' e (.ref C) a.pos->s₂.heap.objs.size<=e ->
     wpAny (model prog w) (A.under (.builtin "type.__call__" ⟨.ref C::a.pos,[]⟩)) (call (.ref fI) (.ref e::a.pos)) (fun r s'=>r = .none/\∃t dx,s'.heap.get? C=some (VG nm q C N bs bm hdct sn sub ab col dd k0 k1 k2 k3 k5 newId)/\s'.heap.get? e=some { cls:=.ref C,dict:=some dx,data:=.fields #[.ref t,.none,.none,.none,.bool false,.none] }/\E (.ref e) s') E { s₂ with heap:=h' }) E s₁) E s) :
  wpAny (model prog w) A (exec (.Raise (some (.Call (.Name x np) args [] cpos)) none pos) env) Q E s:=by
 rw[arm_exec_Raise]
 first
  |refine Ur (UX (cn (C:=C) (nm:=nm) (q:=q) (N:=N) (bs:=bs) (bm:=bm) (hdct:=hdct) (sn:=sn) (sub:=sub) (ab:=ab) (col:=col) (dd:=dd) (k0:=k0) (k1:=k1) (k2:=k2) (k3:=k3) (k5:=k5) (newId:=newId) hbase hh (Ur (UI (Up (UI h (fun f s₁ h₁=>?_) fun _ _ x=>x)) (fun v s₃ h₃=>Ur (UX (UO h₃))) fun _ _ x=>x))))
  |(simp only[evalOpt,XC];refine Ur (UX (cn (C:=C) (nm:=nm) (q:=q) (N:=N) (bs:=bs) (bm:=bm) (hdct:=hdct) (sn:=sn) (sub:=sub) (ab:=ab) (col:=col) (dd:=dd) (k0:=k0) (k1:=k1) (k2:=k2) (k3:=k3) (k5:=k5) (newId:=newId) hbase hh (Ur (UI (Up (UI h (fun f s₁ h₁=>?_) fun _ _ x=>x)) (fun v s₃ h₃=>Ur (UX (UO h₃))) fun _ _ x=>x)))))
  |(refine Ur (UX (cn (C:=C) (nm:=nm) (q:=q) (N:=N) (bs:=bs) (bm:=bm) (hdct:=hdct) (sn:=sn) (sub:=sub) (ab:=ab) (col:=col) (dd:=dd) (k0:=k0) (k1:=k1) (k2:=k2) (k3:=k3) (k5:=k5) (newId:=newId) hbase hh ?_));refine Ur (UI (Up (UI h (fun f s₁ h₁=>?_) fun _ _ x=>x)) (fun v s₃ h₃=>Ur (UX (UO h₃))) fun _ _ x=>x))
 obtain⟨rfl,h₁⟩:=h₁;unfold callWith;refine Ur (UB (UI h₁ (fun a s₂ h₂=>Ur (UX ?_)) fun _ _ x=>x));obtain⟨apos,akw⟩:=a;obtain⟨hkw,hlen,hC,hn,T,⟨oI,hfI,hfc⟩,h₂⟩:=h₂;obtain rfl:akw=[]:=hkw;obtain⟨hp,g,d,tk,os⟩:=s₂;simp only[hplain];refine Ur (wpAny_keeperOf_exc hC ?_);refine Ur (o9 (hrest:=hlen) F T hC hn hi hfI hfc fun h' e hm hz=>UI (h₂ h' e hm hz) (fun r s' ⟨hr,t,dx,x1,x2,x3⟩=>⟨hr,Ur (UB (wpAny_point (UO ⟨e,t,dx,rfl,x1,x2,x3⟩)))⟩) fun _ _ z=>z)
end
noncomputable def quM:List Str:=["__getattribute__", "__getattr__", "__class__", "__setattr__", "stuck"]
noncomputable def cO(h:Heap)(a:Addr):Addr:=match h.get? a with
 |some ⟨_,_,.cls cd,_⟩=>cd.ns
 |_=>0
noncomputable def objs(h:Heap):List Addr->WN
 |[]=>[]
 |a::l=>(match h.get? a with |some o=>[(a,o)] |none=>[])++objs h l
noncomputable def gH(h:Heap):Addr:=match h.nsMap (cO h (adX h "NoWay")) "__init__" with
 |some (.ref f)=>f
 |_=>0
noncomputable def Aj(h:Heap)(f:Addr):Addr:=match h.get? f with
 |some ⟨_,_,.func fd,_⟩=>(match fd.code with |.ref c=>c |_=>0)
 |_=>0
noncomputable def kcs(h:Heap):WN:=objs h [Vr,adX h "RingError", cO h (adX h "RingError")]
noncomputable def nwL(h:Heap):List Addr:=[Vr,gH h,Aj h (gH h),adX h "RingError", cO h (adX h "RingError"),adX h "NoWay", cO h (adX h "NoWay")]
noncomputable def nws(h:Heap):WN:=objs h (nwL h)
noncomputable def Ak:WN->Bool
 |[]=>true
 |(_,⟨_,_,.seq _ _,_⟩)::_=>false
 |_::K=>Ak K
noncomputable def Al(h:Heap):Option jo:=match h.nsMap (cO h (adX h "NoWay")) "__init__" with
 |some (.ref f)=>yi h (h.get? f)
 |_=>none
noncomputable def Fn(h:Heap)(C:Addr)(bm:List Value):Bool:=match h.get? C with
 | some ⟨.type "type", _,.cls cd,sl⟩=>(match cd.mro,sl.toList with
  |.ref C'::bm',[_,_,_,_,some (.builtin n),_]=>C' == C && bm' == bm && n == "ValueError.__new__" && !cd.hasDel && cd.hasDict && h.isNs cd.ns && quM.all fun q=>(h.nsMap cd.ns q).isNone
  | _,_=>false)
 |_=>false
noncomputable def J1:Option PySem.W.CFound->Bool
 |some (.val (.builtin n))=>n == "ValueError.__init__"
 |_=>false
noncomputable def CZ(h:Heap)(f:Addr):Bool:=match h.get? f with
 |some ⟨.type "function", _,_,_⟩=>true
 |_=>false
noncomputable def Am(h:Heap):Bool:=Fn h (adX h "NoWay") (.ref (adX h "RingError")::bmV) && (quM.all fun q=>(h.nsMap (cO h (adX h "RingError")) q).isNone) && CZ h (gH h) && Ak (nws h) && (Vd (kcs h) (adX h "RingError") (.type "type") && J1 (WV (kcs h) (.ref (adX h "RingError")) (.type "type") "__init__") && Ve (kcs h) (.ref (adX h "RingError")) "__getattribute__" == some (some (.builtin "type.__getattribute__")))
section
variable {X:Cx} {R:Addr} {KC:WN} {name x:Str} {id:String} {r:List V->Hp->VK->Prop} {e:Expr} {es:List Expr} {t:TA} {np apos cpos:Pos}
theorem An(hK:KC.In X.base)(hr:Vd KC R (.type "type")=true)(hf:WV KC (.ref R) (.type "type") name=some (.val (.builtin id)))(hsp:Ve KC (.ref R) "__getattribute__" = some (some (.builtin "type.__getattribute__")))(hh:PySem.W.handedIn (.builtin id)=true)
  (hc:au X (.builtin id) r) (hg:Gl X x) (hm:X.mg x=some (.ref R)) (hd:(x == ("__debug__" : Str))=false) (ha:PA X (e::es) t)
  (hfew:((backTo cpos (Ue (e::es) X.env)).all (fun x=>!x.1) && (Vj cpos (VO [] X.env)).all (fun x=>x.1.isSome)
   && decide ((e::es).length+([]:List Keyword).length+(if ([]:List Keyword).isEmpty then 0 else 1) < 30))=true)
  (hline:(apos.endLine == cpos.line)=true) (hs:Ue (e::es) X.env=(false,eval e X.env)::Ue es X.env) (hplain:(backTo cpos (Ue es X.env)).any (·.1)=false) :
  PE X (.Call (.Attribute (.Name x np) name apos) (e::es) [] cpos) (tCB r t):=by
 intro pins s σ H Q I h;rw[arm_eval_Call,aU rfl];refine Ur (cv I hg hm ?_ hd);refine Ur (UX ?_);have hform:methodCallForm ((e::es).length+([]:List Keyword).length) (backTo cpos (Ue (e::es) X.env)) (Vj cpos (VO [] X.env))=true:=hfew;have hpos:methodCallPos true (.Name x np) X.env apos cpos=pure cpos:=by unfold methodCallPos;simp[hline]
 have Kh:KC.In s.heap:=fun a o q=>I.bk a o (hK a o q);unfold methodCall;rw[hform];refine Ur (UB (PySem.W.method_cls Kh hsp (PySem.W.cls_value Kh hr hf hh ?_)));refine Ur (UM hpos ?_);have hA:=ha cpos pins { s with toks:=s.toks+1 } σ H _ (I.tok _) h;rw[hs] at hA ⊢;refine XY (by show(false || (backTo cpos (Ue es X.env)).any (·.1))=false;rw[hplain] <;> rfl) (XZ ?_);exact thn hA fun us s2 ⟨vs,H2,I2,r2,q2⟩=>hc pins s2 σ H2 vs us Q I2 r2 q2
end
def cY(h:Heap)(C R fI:Addr):Prop:=∃N nm q bs hdct sn sub ab col dd k0 k1 k2 k3 k5 mN,h.get? C=some (VG nm q C N bs (.ref R::bmV) hdct sn sub ab col dd k0 k1 k2 k3 k5 "ValueError.__new__")/\h.Ns N mN/\mN "__init__" = some (.ref fI)/\∀n ∈ quM,mN n=none
theorem cY.keeps{h h':Heap}{C R fI:Addr}(x:cY h C R fI)(k:∀b o,h.get? b=some o->h'.get? b=some o):cY h' C R fI:=by
 obtain⟨N,nm,q,bs,hdct,sn,sub,ab,col,dd,k0,k1,k2,k3,k5,mN,hC,hN,hi,hq⟩:=x;exact⟨N,nm,q,bs,hdct,sn,sub,ab,col,dd,k0,k1,k2,k3,k5,mN,k _ _ hC,hN.keeps k,hi,hq⟩
def ExN(e C:Addr)(dx:Option Addr)(h:Heap):Prop:=∃t,h.get? e=some { cls:=.ref C,dict:=dx,data:=.fields #[.ref t,.none,.none,.none,.bool false,.none] }
noncomputable abbrev exN(e C:Addr)(dx:Option Addr):HO:=.ext (ExN e C dx)
theorem pc{P:Program}{w:World}{H:Hp}{h:Heap}{e C:Addr}{dx:Option Addr}(x:ExN e C dx h):aX P w H h e (exN e C dx):=by
 obtain⟨t,q⟩:=x;exact⟨⟨t,q⟩,⟨_,q⟩,fun h1 h2 ⟨t,q1⟩ k=>⟨t,k _ q1⟩⟩
theorem Fo{H:Hp}{e:Addr}{o:HO}(h:H e=some o):upd H e o=H:=by
 funext b
 by_cases hb:b=e
 ·subst hb;rw[ak,h]
 ·rw[ah hb]
section
variable {X:Cx} {C R fI:Addr}
theorem pd(hC:cY X.base C R fI)(hR:iW X.base R bmV):au X (.builtin "ValueError.__init__") (fun vs H Q=>∃e x,vs=[.ref e,.str x]/\H e=some (exN e C none)/\Q .non H):=by
 intro pins s σ H vs us Q I rv h;obtain⟨e,x,rfl,he,q⟩:=h;cases rv with
 |cons r1 rv=>
 cases rv with
 |cons r2 rv=>
 cases rv;cases r1;obtain⟨tk,rfl⟩:=r2;obtain⟨⟨t,ho⟩,_⟩:=I.hok e _ he;obtain⟨N,nm,qq,bs,hdct,sn,sub,ab,col,dd,k0,k1,k2,k3,k5,mN,hC,hN,hi,hq⟩:=hC.keeps I.bk;obtain⟨N',nm',q',bs',hdct',sn',sub',ab',col',dd',k0',k1',k2',k3',k5',mN',hR,hN',hqn'⟩:=hR.keeps I.bk;have T:OwnTail s.heap bmV (.ref R::bmV):=.own hR hN' (hqn' _ (.head _)) .base;have F:=Wb;obtain⟨hp,g,d,tk0,os⟩:=s;refine Ut (Vx F.init.plain F.initEntry (wpAny_check_init_subT F T hC ho rfl ?_));dsimp only at I ho
 wp_walk
 have w:=fun h' (k:∀b u,b ≠ e->hp.get? b=some u->h'.get? b=some u) (z:ExN e C none h')=>I.write (t':=tk0) (x:=e) (e:=e) (o:=exN e C none) (by rw[he];trivial) (.inl rfl) k (let ⟨t,q⟩:=z;⟨_,q⟩) (pc z);rw[Fo he] at w;refine⟨.non,H,w _ (fun b u hb hu=>?_) ⟨hp.objs.size,?_⟩,rfl,q⟩
 ·rw[Zw _ _ (Ne.symm hb)];exact Za _ hu
 ·rw[ZH _ (Za _ ho) rfl];rfl
end
end Ev
namespace Ev
open PySem PySem.Spec PyProof.Rows L2
open Builtin Builtin.ObjectAttr
def gI(h:Heap)(R:Addr):Prop:=∃N nm q bs hdct sn sub ab col dd k0 k1 k2 k3 k5 mN,h.get? R=some (VG nm q R N bs bmV hdct sn sub ab col dd k0 k1 k2 k3 k5 "ValueError.__new__")/\h.Ns N mN/\∀n ∈ quM,mN n=none
theorem gI.keeps{h h':Heap}{R:Addr}(x:gI h R)(k:∀b o,h.get? b=some o->h'.get? b=some o):gI h' R:=by
 obtain⟨N,nm,q,bs,hdct,sn,sub,ab,col,dd,k0,k1,k2,k3,k5,mN,hC,hN,hq⟩:=x;exact⟨N,nm,q,bs,hdct,sn,sub,ab,col,dd,k0,k1,k2,k3,k5,mN,k _ _ hC,hN.keeps k,hq⟩
section
variable {prog:Program} {w:World} {M:Model} {A:Around} {E:Value->Shared->Prop} {h:Heap} {g:Array Wt} {d:Drawn} {t:Nat} {os:OsState}
variable {C R fI x:Addr} {n name:Str} {y:Option Value} {v:Value} {o:Obj}
theorem wW{Q:Option Value->Shared->Prop}(hn:n ∈ quM)(hC:cY h C R fI)(hR:gI h R)(hB:Ul (.type "ValueError") n=pure y)(hq:Q y ⟨h,g,d,t,os⟩):wpAny M A (Ul (.ref C) n) Q E ⟨h,g,d,t,os⟩:=by
 obtain⟨N,nm,q,bs,hdct,sn,sub,ab,col,dd,k0,k1,k2,k3,k5,mN,hC,hN,_,hqn⟩:=hC;obtain⟨N',nm',q',bs',hdct',sn',sub',ab',col',dd',k0',k1',k2',k3',k5',mN',hR,hN',hqn'⟩:=hR;have hrest:VQ bmV n=pure y:=by rw[Um,PySem.F.excBase_ValueError.mroIs] at hB;exact hB
 rw[Um];refine Ur (UJ hC ?_);rw[VR];refine Ur (Uv hC hN ?_);rw[hqn n hn];show wpAny M A (VQ (.ref R::bmV) n) Q E _;rw[VR];refine Ur (Uv hR hN' ?_);rw[hqn' n hn];show wpAny M A (VQ bmV n) Q E _;rw[hrest];exact UO hq
theorem pf:Ul (.type "ValueError") "__setattr__" = pure (some (.builtin "object.__setattr__")):=PySem.F.store_ValueError.slot.lookup
theorem mQ:Ul (.type "ValueError") "stuck" = pure none:=by rw[typeLookup_type,Vp];kernel_rfl
theorem kQ{tk:Tok}{Q:Fin->Shared->Prop}(hm:name ∈ quM)(hC:cY h C R fI)(hR:gI h R)(hdct:∀cd dd sl,h.get? C=some ⟨.type "type", dd,.cls cd,sl⟩->cd.hasDict=true)(hB:Ul (.type "ValueError") name=pure none)(hx:h.get? x=some o)(hc:o.cls = .ref C)(hnc:∀c,o.data ≠ .cls c)(hdn:o.dict=none)
  (hq:∀h' tk' oD,h'.get? h.objs.size=some oD->h'.Ns1 h.objs.size (fun y=>if y=name then some v else none)->h'.get? x=some { o with dict:=some h.objs.size }->(∀b u,b ≠ x->h.get? b=some u->h'.get? b=some u)->Q (.done (.ret .none)) ⟨h',g,d,tk',os⟩) :
  wpAny (model prog w) A (Builtin.«object.__setattr__» ⟨[.ref x,.str name tk,v],[]⟩) Q E ⟨h,g,d,t,os⟩:=by
 have SF:=Wp;have hpass:=SF.passes (.ref x);have hC0:=hC;obtain⟨N,nm,q,bs,hd0,sn,sub,ab,col,dd,k0,k1,k2,k3,k5,mN,hCg,hN,_,hqn⟩:=hC0;have hd1:hd0=true:=hdct _ _ _ hCg;subst hd1;unfold Builtin.«object.__setattr__»
 repeat (first |rw[refuse_eq] |(rw[refuseLoop_ref,refuseLoop_ref,hpass]) |(with_reducible refine UH hx ?_;rw[hc]) |with_reducible refine UJ hCg ?_ |with_reducible refine wW hm hC hR hB ?_ |with_reducible refine UH hCg ?_ |wp_step)
 rw[hdn,if_neg (by simp[typeHasDict])];split
 ·rename_i hcd;cases hcd
 split
 ·rename_i c hcd;exact absurd hcd (hnc c)
 ·have hx₁:(h.push { cls:=.type "dict", data:=.dict #[] }).get? x=some o:=Za _ hx;have hxs:x ≠ h.objs.size:=Zl (Zj hx);refine Ur (wpAny_alloc' ?_);refine Ur (wpAny_update' hx₁ ?_);refine UO ?_
  have hgd:((h.push { cls:=.type "dict", data:=.dict #[] }).update x fun o=>{ cls:=o.cls,dict:=some h.objs.size,data:=o.data,slots:=o.slots }).get? h.objs.size
    = some { cls:=.type "dict", data:=.dict #[] }:=
   (Yh _ _ _ _ hxs.symm).trans (Xe rfl rfl)
  have hnd:((h.push { cls:=.type "dict", data:=.dict #[] }).update x fun o=>{ cls:=o.cls,dict:=some h.objs.size,data:=o.data,slots:=o.slots }).Ns h.objs.size (fun _=>none):=
   ⟨_,#[],_,hgd,rfl,fun e he=>absurd he (by simp),fun _=>rfl⟩
  show wpAny _ _ (storeInDict h.objs.size (.str name tk) name v) _ _ _;unfold storeInDict newKeyGuard;refine Ur (UO (Ur (wpAny_nsSet1 (Heap.Ns1.of_empty hnd) fun h' hn' hs=>?_)));obtain⟨oD,esD,epD,hoD,hdD,hcD⟩:=hn'.count (Within.cons name v Within.nil);refine Ur (wpAny_lookBehind hoD (by rw[hdD];exact pastItsLine_dict (Zv hcD (by rw[Zs,Z2,Uc];omega))) ?_)
  wp_walk
  have hx':h'.get? x=some { cls:=o.cls,dict:=some h.objs.size,data:=o.data,slots:=o.slots }:=?_;refine hq h' _ oD hoD ?_ hx' fun b ob hbx hb=>?_
  ·obtain⟨o',es,ep,e1,e2,e3,eu,e4⟩:=hn';exact⟨o',es,ep,e1,e2,e3,eu,fun y=>by rw[e4 y]⟩
  ·exact(hs.2 b (Zl (Zj hb))).trans ((Yh _ _ _ _ hbx).trans (Za _ hb))
  ·refine(hs.2 x hxs).trans (ZH _ hx₁ ?_);have hfr:=(Y7.mp hx).2;obtain⟨oc,od,odt,osl⟩:=o;cases odt <;> first |rfl |exact hfr
theorem sY{nameV:Value}{Q:Unit->Shared->Prop}(hC:cY h C R fI)(hx:h.get? x=some o)(hc:o.cls = .ref C)(hq:Q () ⟨h,g,d,t,os⟩) :
  wpAny M A (Vv "object.__setattr__" ⟨[.ref x,nameV,v],[]⟩) Q E ⟨h,g,d,t,os⟩:=by
 have SF:=Wp;obtain⟨N,nm,q,bs,hd0,sn,sub,ab,col,dd,k0,k1,k2,k3,k5,mN,hCg,hN,_,hqn⟩:=hC;have hcB:(Value.ref C :: .ref R::bmV).contains (.type "object")=true:=by rw[ZB,ZB];rfl
 have ha:=SF.args (.ref x) nameV v;simp only[Vv,SF.kind,SF.split];refine Ur ?_
 ·unfold VN
  repeat (first |(with_reducible refine UH hx ?_;rw[hc]) |(with_reducible refine UC hCg ?_;rw[hcB]) |wp_step)
  exact hq
theorem mU{Q:Unit->Shared->Prop}(hm:name ∈ quM)(hC:cY h C R fI)(hR:gI h R)(hdct:∀cd dd sl,h.get? C=some ⟨.type "type", dd,.cls cd,sl⟩->cd.hasDict=true)(hB:Ul (.type "ValueError") name=pure none)(hx:h.get? x=some o)(hc:o.cls = .ref C)(hnc:∀c,o.data ≠ .cls c)(hdn:o.dict=none)
  (hq:∀h' tk' oD,h'.get? h.objs.size=some oD->h'.Ns1 h.objs.size (fun y=>if y=name then some v else none)->h'.get? x=some { o with dict:=some h.objs.size }->(∀b u,b ≠ x->h.get? b=some u->h'.get? b=some u)->Q () ⟨h',g,d,tk',os⟩) :
  wpAny (model prog w) A (setAttr (.ref x) name v) Q E ⟨h,g,d,t,os⟩:=by
 have SF:=Wp;have f3:=SF.slot.bind (.ref x);have hm1:("__setattr__" : Str) ∈ quM:=.tail _ (.tail _ (.tail _ (.head _)));unfold setAttr callSpecial? specialOf
 repeat (any_goals (first |assumption |(with_reducible refine UH hx ?_;rw[hc]) |with_reducible refine wW hm1 hC hR pf ?_ |wp_step))
 refine Vx SF.slot.plain SF.entry (sY hC hx hc (kQ hm hC hR hdct hB hx hc hnc hdn fun h' tk' oD e1 e2 e3 e4=>?_))
 repeat (any_goals (first |assumption |wp_step))
 exact hq h' tk' oD e1 e2 e3 e4
end
section
variable {prog:Program} {w:World} {M:Model} {A:Around} {E:Value->Shared->Prop} {h:Heap} {g:Array Wt} {d:Drawn} {t:Nat} {os:OsState}
variable {C R fI a dx:Addr} {v:Value} {o:Obj} {mA:Str->Option Value}
theorem wX{nameV:Value}{Q:Unit->Shared->Prop}(hC:cY h C R fI)(hx:h.get? a=some o)(hc:o.cls = .ref C)(hq:Q () ⟨h,g,d,t,os⟩):wpAny M A (Vv "BaseException.__getattribute__" ⟨[.ref a,nameV],[]⟩) Q E ⟨h,g,d,t,os⟩:=by
 obtain⟨N,nm,q,bs,hd0,sn,sub,ab,col,dd,k0,k1,k2,k3,k5,mN,hCg,hN,_,hqn⟩:=hC;have hk:builtinKind "BaseException.__getattribute__" = some .slot:=by decide +kernel
 have hsplit:splitId "BaseException.__getattribute__" = some ("BaseException", "__getattribute__"):=by decide +kernel
 have hcB:(Value.ref C :: .ref R::bmV).contains (.type "BaseException")=true:=by rw[ZB,ZB];rfl
 have ha:=X3 (.ref a) nameV;simp only[Vv,hk,hsplit];refine Ur ?_
 ·unfold VN
  repeat (first |(with_reducible refine UH hx ?_;rw[hc]) |(with_reducible refine UC hCg ?_;rw[hcB]) |wp_step)
  exact hq
theorem wY{tk:Tok}{Q:Fin->Shared->Prop}{vs:Array Value}(hC:cY h C R fI)(hR:gI h R)(hdct:∀cd dd sl,h.get? C=some ⟨.type "type", dd,.cls cd,sl⟩->cd.hasDict=true)(hx:h.get? a=some o)(hc:o.cls = .ref C)(hda:o.data = .fields vs)(hd:o.dict=some dx)(hns:h.Ns1 dx mA)(hv:mA "stuck" = some v)(hq:Q (.done (.ret v)) ⟨h,g,d,t,os⟩) :
  wpAny (model prog w) A (Builtin.«object.__getattribute__» ⟨[.ref a,.str "stuck" tk],[]⟩) Q E ⟨h,g,d,t,os⟩:=by
 have hm:("stuck" : Str) ∈ quM:=.tail _ (.tail _ (.tail _ (.tail _ (.head _))));have hC0:=hC;obtain⟨N,nm,q,bs,hd0,sn,sub,ab,col,dd,k0,k1,k2,k3,k5,mN,hCg,hN,_,hqn⟩:=hC0;have hd1:hd0=true:=hdct _ _ _ hCg;subst hd1
 repeat (any_goals (first |assumption |(with_reducible refine UH hx ?_;rw[hc]) |with_reducible refine wW hm hC hR mQ ?_ |with_reducible refine UH hCg ?_ |wp_step))
 rw[hda];dsimp only;unfold instanceDict
 repeat (any_goals (first |assumption |(with_reducible refine UH hx ?_;rw[hc]) |with_reducible refine UH hCg ?_ |wp_step))
 rw[hd];refine UO ?_;show wpAny _ _ (nsGet dx "stuck") _ _ _;refine wpAny_nsGet hns.ns ?_;rw[hv]
 repeat (any_goals (first |assumption |wp_step))
theorem J2{tk:Tok}{Q:Value->Shared->Prop}{vs:Array Value}(hC:cY h C R fI)(hR:gI h R)(hdct:∀cd dd sl,h.get? C=some ⟨.type "type", dd,.cls cd,sl⟩->cd.hasDict=true)(hx:h.get? a=some o)(hc:o.cls = .ref C)(hda:o.data = .fields vs)(hd:o.dict=some dx)(hns:h.Ns1 dx mA)(hv:mA "stuck" = some v)(hh:handedOut v=pure v)(hq:Q v ⟨h,g,d,t,os⟩) :
  wpAny (model prog w) A (getAttrBy (.ref a) (.str "stuck" tk) true true) Q E ⟨h,g,d,t,os⟩:=by
 have FB:=X6;have f3:=FB.ga.bind (.ref a);have hx2:(Value.builtin "BaseException.__getattribute__" == Value.builtin "object.__getattribute__")=false:=by decide +kernel
 have hm1:("__getattribute__" : Str) ∈ quM:=.head _;have hm2:("__getattr__" : Str) ∈ quM:=.tail _ (.head _)
 repeat (any_goals (first |assumption |(with_reducible refine UH hx ?_;rw[hc]) |with_reducible refine wW hm1 hC hR FB.ga.lookup ?_ |with_reducible refine wW hm2 hC hR FB.noGetattr ?_ |wp_step))
 refine Vx FB.ga.plain X7 (wX hC hx hc (wY hC hR hdct hx hc hda hd hns hv ?_))
 repeat (any_goals (first |assumption |rw[hh] |wp_step))
theorem Ao{Q:Value->Shared->Prop}{vs:Array Value}(hC:cY h C R fI)(hR:gI h R)(hdct:∀cd dd sl,h.get? C=some ⟨.type "type", dd,.cls cd,sl⟩->cd.hasDict=true)(hx:h.get? a=some o)(hc:o.cls = .ref C)(hda:o.data = .fields vs)(hd:o.dict=some dx)(hns:h.Ns1 dx mA)(hv:mA "stuck" = some v)(hh:handedOut v=pure v)(hq:Q v ⟨h,g,d,t+1,os⟩) :
  wpAny (model prog w) A (getAttr (.ref a) "stuck" true) Q E ⟨h,g,d,t,os⟩:=by
 refine Ur (wpAny_mkText ?_);exact J2 hC hR hdct hx hc hda hd hns hv hh hq
end
end Ev
namespace Ev
open PySem PySem.Spec PyProof.Rows L2
def ExD(e C dx:Addr)(h:Heap):Prop:=∃vs,h.get? e=some { cls:=.ref C,dict:=some dx,data:=.fields vs }
noncomputable abbrev exD(e C dx:Addr):HO:=.ext (ExD e C dx)
theorem Fp{P:Program}{w:World}{H:Hp}{h:Heap}{e C dx:Addr}(x:ExD e C dx h):aX P w H h e (exD e C dx):=by
 obtain⟨t,q⟩:=x;exact⟨⟨t,q⟩,⟨_,q⟩,fun h1 h2 ⟨t,q1⟩ k=>⟨t,k _ q1⟩⟩
section
variable {M:Model} {A:Around} {E:Value->Shared->Prop} {s:Shared}
structure NtN(l:List Env)(e C dx:Addr)(h h':Heap):Prop where
 at_:∃vs T oT ts,h'.get? e=some { cls:=.ref C,dict:=some dx,data:=.fields vs }/\vs[1]?=some (.ref T)/\T ≠ e/\h.get? T=none/\h'.get? T=some oT/\oT.data = .fields ts/\3 < ts.size
 keep:∀b o,b ≠ e->b ∉ frs l->h.get? b=some o->h'.get? b=some o
 slot:∀b o,b ≠ e->h.get? b=some o->∃sl,h'.get? b=some { o with slots:=sl }
theorem J3{base:Heap}{env:Env}{outer:List Env}{L e C dx t:Addr}{Q:Unit->Shared->Prop}(hfr:A.frames=some (env::outer))(hl:s.heap.FunFrames base (env::outer))(hf:env.frame=some L)
  (he:s.heap.get? e=some { cls:=.ref C,dict:=some dx,data:=.fields #[.ref t,.none,.none,.none,.bool false,.none] })
  (h:∀h',NtN (env::outer) e C dx s.heap h'->Q () { s with heap:=h' }) :
  wpAny M A (VZ (.ref e) env) (fun _ s'=>wpAny M A (Ub (.ref e) none) Q E s') E s:=by
 unfold VZ;simp only[hf];refine Ur (UA (x:=.none) he rfl rfl ?_);rw[if_neg (by decide)]
 have hene:e ∉ (env::outer).filterMap (·.frame):=fun hm=>by
  obtain⟨_,o,ho,hnf⟩:=hl.mem hm;rw[he] at ho;injection ho with ho;subst ho;exact hnf _ rfl
 refine Ur (wpAny_frameOf_fun hfr hl hf fun h₁ hs₁=>?_);refine Ur (wpAny_entryPlaceOf fun pl hpl=>?_);unfold EntryCells.newEntry newFields;refine Ur (UL ?_ (hpl.sizeOk5 _ _ _ _ _));have he₁:=(hs₁.2.1 e hene).trans he;have he₂:=Za (h:=h₁) { cls:=.type "traceback", dict:=none,data:=.fields ([Value.none,.ref L,.none,rawInt L,.none]++(if pl.isEmpty then Zi 6 Value.none else pl)).toArray } he₁;refine UW he₂ rfl (by show 1 < 6;decide) ?_;have hTe:h₁.objs.size ≠ e:=Yj (Zj he₁);have he₃:=ZH (Obj.mapFields (·.setIfInBounds 1 (Value.ref h₁.objs.size))) he₂ rfl
 have hT₃:=(Zw (h₁.push { cls:=.type "traceback", dict:=none,data:=.fields ([Value.none,.ref L,.none,rawInt L,.none]++(if pl.isEmpty then Zi 6 Value.none else pl)).toArray })
  (Obj.mapFields (·.setIfInBounds 1 (Value.ref h₁.objs.size))) (Ne.symm hTe)).trans (Zp h₁ rfl)
 unfold Ub;refine Ur (UA (x:=.ref h₁.objs.size) he₃ rfl rfl ?_);rw[if_pos (show(Value.ref h₁.objs.size != Value.none)=true from by simp)];refine UW hT₃ rfl (by simp only[Zc,Zm,Zs,Z2] <;> omega) (h _ ?_)
 have keep:∀b o,b ≠ e->h₁.get? b=some o ->
   (((h₁.push { cls:=.type "traceback", dict:=none,data:=.fields ([Value.none,.ref L,.none,rawInt L,.none]++(if pl.isEmpty then Zi 6 Value.none else pl)).toArray }).update e (Obj.mapFields (·.setIfInBounds 1 (Value.ref h₁.objs.size)))).update h₁.objs.size
    (Obj.mapFields (·.setIfInBounds 3 ((none:Option Addr).elim Value.none fun f=>rawInt f)))).get? b=some o:=fun b o hbe hb=>by
  have hbT:h₁.objs.size ≠ b:=Yj (Zj hb);rw[Zw _ _ hbT,Zw _ _ (Ne.symm hbe)];exact Za _ hb
 refine⟨⟨_,h₁.objs.size,_,_,(by rw[Zw _ _ hTe];exact he₃),rfl,hTe,?_,ZH _ hT₃ (Obj.isFreed_of_fields (Obj.data_mapFields rfl _)),Obj.data_mapFields rfl _,?_⟩,fun b o hbe hbf hb=>keep b o hbe ((hs₁.2.1 b hbf).trans hb),fun b o hbe hb=>?_⟩
 ·cases q:s.heap.get? h₁.objs.size with
  |none=>rfl
  |some o=>obtain⟨sl,z⟩:=hs₁.2.2 _ o q;exact absurd (Zj z) (ZF _)
 ·rw[YK];simp only[Zc,Zm,Zs,Z2] <;> omega
 ·obtain⟨sl,hs⟩:=hs₁.2.2 b o hb;exact⟨sl,keep b _ hbe hs⟩
end
theorem J4{M:Model}{A:Around}{E:Value->Shared->Prop}{s:Shared}{l:List Env}{e C dx:Addr}{h0:Heap}{Q:Unit->Shared->Prop}(nt:NtN l e C dx h0 s.heap)(h:∀h',NtN l e C dx h0 h'->Q () { s with heap:=h' }):wpAny M A (Ub (.ref e) none) Q E s:=by
 obtain⟨⟨vs,T,oT,ts,e1,e2,e3,e4,e5,e6,e7⟩,kp,sl⟩:=nt;unfold Ub;refine Ur (UA (x:=.ref T) e1 rfl e2 ?_);rw[if_pos (show(Value.ref T != Value.none)=true from by simp)];refine UW e5 e6 e7 (h _ ?_);have ot:∀b,b ≠ T->(s.heap.update T (Obj.mapFields (·.setIfInBounds 3 ((none:Option Addr).elim Value.none fun f=>rawInt f)))).get? b=s.heap.get? b:=fun b hb=>Zw _ _ (Ne.symm hb);have nT:∀b o,h0.get? b=some o->b ≠ T:=fun b o q z=>by rw[z,e4] at q;cases q
 refine⟨⟨vs,T,_,_,(ot e (Ne.symm e3)).trans e1,e2,e3,e4,ZH _ e5 (Obj.isFreed_of_fields (Obj.data_mapFields e6 _)),Obj.data_mapFields e6 _,by rw[YK];exact e7⟩,fun b o hb hf q=>(ot b (nT b o q)).trans (kp b o hb hf q),fun b o hb q=>?_⟩;obtain⟨z,y⟩:=sl b o hb q;exact⟨z,(ot b (nT b o q)).trans y⟩
section
variable {X:Cx} {pins:List (Addr × Obj)} {σ:L2.St} {H:Hp} {s:Shared}
theorem C0{e C dx:Addr}{h':Heap}(I:L2.Inv X pins σ H s)(he:H e=some (exN e C (some dx)))(nt:NtN X.stack e C dx s.heap h'):L2.Inv X pins σ (upd H e (exD e C dx)) { s with heap:=h' }:=by
 have sf:=I.stkFree;have ne:∀b,H b=none->b ≠ e:=fun b hb z=>by rw[z,he] at hb;cases hb
 obtain⟨⟨vs,T,oT,ts,e1,e2,e3,e4,e5,e6,e7⟩,kp,sl⟩:=nt;refine I.call' (ch:=[]) rfl ⟨fun b o q n hb hx=>kp b o (ne b n) hb q,fun b o q n hb hx=>sl b o (ne b n) q,fun b o q n hx=>by rw[ah (ne b n)];exact n,fun b o q hx=>?_,fun b xs q=>?_,fun b o u q=>?_,fun b ps q=>?_⟩ (fun a o q=>?_) I.bare (fun b z=>absurd z (by simp))
 ·by_cases hb:b=e
  ·subst hb;exact⟨_,e1⟩
  ·obtain⟨z,y⟩:=sl b o hb q;exact⟨_,y⟩
 ·have hb:b ≠ e:=fun z=>by rw[z,he] at q;cases q
  rw[ah hb];exact q
 ·have hb:b ≠ e:=fun z=>by rw[z,he] at q;cases q
  rw[ah hb];exact q
 ·have hb:b ≠ e:=fun z=>by rw[z,he] at q;cases q
  exact⟨#[],by rw[ah hb];simpa using q⟩
 ·by_cases ha:a=e
  ·subst ha;rw[ak] at q;cases q;exact Fp ⟨_,e1⟩
  ·rw[ah ha] at q;refine(I.hok a o q).stay (fun b u hb qu=>?_) (fun b z=>?_) fun b xs z=>?_
   ·have hbe:b ≠ e:=fun z=>by
     subst z;rcases hb with rfl |hb
     ·exact ha rfl
     ·rw[he] at hb;cases hb
    refine kp b u hbe (fun hm=>?_) qu;have hf:=sf b hm;rcases hb with rfl |hb
    ·rw[q] at hf;cases hf
    ·rw[hb] at hf;cases hf
   ·have hb:b ≠ e:=fun y=>by subst y;rw[he] at z;cases z
    rw[ah hb];exact z
   ·have hb:b ≠ e:=fun y=>by subst y;rw[he] at z;cases z
    rw[ah hb];exact z
theorem Ap{e C R dx:Addr}{i:Nat}{n ring:Str}{b₀:Stmt}{suite:List Stmt}{np hpos:Pos}{D:Ends}(hst:X.stack=X.env::X.outer)(hfm:X.env.frame=some X.env.locals)(I:L2.Inv X pins σ H s)(he:H e=some (exN e C (some dx)))
  (hC:a9 X.base C (.ref R::bmV)) (hR:a9 X.base R bmV) (hg:Gl X ring) (hm:X.mg ring=some (.ref R)) (hdb:(ring == ("__debug__" : Str))=false) (hN:X.N.Nodup) (hi:X.N[i]?=some n) (hl:X.env.scope.names.lookup n=some .local)
  (hb:∀s6,L2.Inv (Cx.mk X e) pins (σ.set i (some (.ref e))) (upd H e (exD e C dx)) s6->wpAny (model X.prog X.w) (Cx.mk X e).A (execs (b₀::suite) X.env) (fun f s7=>∃u v σ7 H7,f = .ret u/\L2.Inv (Cx.mk X e) pins σ7 H7 s7/\aq v u/\D.rt v H7) (fun _ _=>False) s6) :
  wpAny (model X.prog X.w) X.A (VZ (.ref e) X.env) (fun _ s₂=>wpAny (model X.prog X.w) X.A (Ub (.ref e) none) (fun _ s₃=>wpAny (model X.prog X.w) X.A (handleBy (.ref e) X.env [.ExceptHandler (some (.Name ring np)) (some n) (b₀::suite) hpos]) (SP X pins D) X.xe s₃) X.xe s₂) X.xe s:=by
 have hfr:X.A.frames=some (X.env::X.outer):=by rw[<-hst];exact I.ok.frames
 obtain⟨⟨t,ho⟩,_⟩:=I.hok e _ he;refine J3 hfr (by rw[<-hst];exact I.stack) hfm ho fun h' nt=>?_;rw[<-hst] at nt;have I5:=C0 I he nt;have I5m:=kM I5 e;refine wpAny_handleBy_cons (VA (cv (X:=Cx.mk X e) I5m hg hm ?_ hdb)) (by intro q;cases q);have hE:fv h' e C:=by obtain⟨⟨vs,_,_,_,e1,_⟩,_⟩:=nt;exact⟨_,vs,e1,rfl,rfl⟩
 have kb:∀b o,X.base.get? b=some o->h'.get? b=some o:=I5.bk;refine wk (hC.keeps kb) (hR.keeps kb) hE ?_;refine Vz ?_;refine J4 nt fun h6 nt6=>?_;have I6:=C0 I he nt6;refine bF (X:=Cx.mk X e) (kM I6 e) hN hi (.inl hl) (show aq (.ref e) (.ref e) from rfl) (fun s7 I7=>?_) (.inr hl);refine UI (hb s7 I7) (fun f s8 ⟨u,v,σ8,H8,hf,I8,rv,q⟩=>?_) fun _ _ z=>z.elim;subst hf;exact qv (wm I.ok I8) hN hi hl fun s9 I9=>⟨v,_,H8,I9,rv,q⟩
end
def sZ(h:Heap)(C:Addr):Prop:=∀cd dd sl,h.get? C=some ⟨.type "type", dd,.cls cd,sl⟩->cd.hasDict=true
theorem sZ.keeps{h h':Heap}{C R fI:Addr}(x:sZ h C)(hC:cY h C R fI)(k:∀b o,h.get? b=some o->h'.get? b=some o):sZ h' C:=by
 obtain⟨N,nm,q,bs,hdct,sn,sub,ab,col,dd,k0,k1,k2,k3,k5,mN,hC,_⟩:=hC;intro cd dd sl e;have z:=k _ _ hC;rw[e] at z;cases z;exact x _ _ _ hC
section
variable {X:Cx} {C R fI:Addr} {pins:List (Addr × Obj)} {σ:L2.St} {H:Hp} {s:Shared}
theorem Fq{e t:Addr}{h':Heap}{tk:Nat}{oD:Obj}{y:V}{u:Value}(I:L2.Inv X pins σ H s)(he:H e=some (exN e C none))(ry:aq y u)(e1:h'.get? s.heap.objs.size=some oD)(e2:h'.Ns1 s.heap.objs.size (fun z=>if z = "stuck" then some u else none))
  (e3:h'.get? e=some { cls:=.ref C,dict:=some s.heap.objs.size,data:=.fields #[.ref t,.none,.none,.none,.bool false,.none] }) (e4:∀b u,b ≠ e->s.heap.get? b=some u->h'.get? b=some u) :
  L2.Inv X pins σ (upd (upd H s.heap.objs.size (.xd [("stuck", y)])) e (exN e C (some s.heap.objs.size))) { s with heap:=h',toks:=tk }:=by
 obtain⟨⟨t0,ho⟩,_⟩:=I.hok e _ he;have lt:=Zj ho;have fr:oD.isFreed=false:=(Y7.mp e1).2;have g1:(s.heap.push oD).get? s.heap.objs.size=some oD:=Zp _ fr
 have I1:L2.Inv X pins σ (upd H s.heap.objs.size (.xd [("stuck", y)])) { s with heap:=s.heap.push oD,toks:=tk }:=by
  refine I.laid (fun b u q=>Za _ q) (Zh _) ⟨fun z=>if z = "stuck" then some u else none,?_,fun f=>?_⟩
  ·obtain⟨o',es,ep,q1,r⟩:=e2;rw[e1] at q1;cases q1;exact⟨oD,es,ep,g1,r⟩
  ·show yn (YC f [("stuck", y)]) (if f = "stuck" then some u else none);by_cases hf:f = "stuck"
   ·subst hf;rw[if_pos rfl,ZA,beq_self_eq_true];exact ry
   ·rw[if_neg hf,ZA,beq_eq_false_iff_ne.mpr hf]
    trivial
 refine I1.write (x:=e) (e:=e) (o:=exN e C (some s.heap.objs.size)) (by rw[ah (Zl lt),he];trivial) (.inl rfl) (fun b u hb q=>?_) ⟨_,e3⟩ (pc ⟨t,e3⟩);by_cases hbs:b=s.heap.objs.size
 ·subst hbs;have q':(s.heap.push oD).get? s.heap.objs.size=some u:=q;rw[g1] at q';cases q';exact e1
 ·refine e4 b u hb ?_;have q':(s.heap.push oD).get? b=some u:=q
  rwa [YE _ _ _ hbs] at q'
theorem mV(hC:cY X.base C R fI)(hR:gI X.base R)(hD:sZ X.base C){o value:Expr}{ta tv:TE}{pos pos':Pos}(ha:PE X o ta)(hv:PE X value tv)(hs:Ug value (some (.Attribute o "stuck" pos')) pos.line X.env=pure false) :
  PS X (.Assign [.Attribute o "stuck" pos'] value pos) (fun D σ H=>tv σ H fun y H1=>ta σ H1 fun x H2=>∃e,x = .ref e/\H2 e=some (exN e C none)/\∀dx,H2 dx=none->D.nx σ (upd (upd H2 dx (.xd [("stuck", y)])) e (exN e C (some dx)))):=by
 intro pins s σ H D I h;refine plainObj_wpAny_Assign_Attribute (thn (hv pins s σ H _ I h) fun u s1 ⟨y,H1,I1,ry,q⟩=>thn (ha pins s1 σ H1 _ I1 q) fun ov s2 ⟨x,H2,I2,rx,e,ex,he,q2⟩=>?_) hs;subst ex;obtain rfl:ov=Value.ref e:=rx;obtain⟨⟨t,ho⟩,_⟩:=I2.hok e _ he;have hm:("stuck" : Str) ∈ quM:=.tail _ (.tail _ (.tail _ (.tail _ (.head _))));have fr:=I2.hok.fresh (Zh s2.heap.objs.size);obtain⟨hp,g,d,tk,os⟩:=s2;refine mU hm (hC.keeps I2.bk) (hR.keeps I2.bk) (hD.keeps hC I2.bk) mQ ho rfl (fun c z=>nomatch z) rfl fun h' tk' oD e1 e2 e3 e4=>?_;exact⟨σ,_,Fq (s:=⟨hp,g,d,tk,os⟩) I2 he ry e1 e2 e3 e4,q2 _ fr⟩
end
section
variable {X:Cx} {R C a:Addr} {Ds:List Addr} {fw i j:Nat} {fdw:Ws} {psW NW:List Str} {xw n w x:Str} {stw:Stmt} {wp p2 p3 p pos:Pos}
theorem qD(xi:XInf X.K X.mg R Ds)(hj:Ds[j]?=some C)(hw:eS[j]?=some w)(hC:a9 X.base C (.ref R::bmV))(hR:a9 X.base R bmV)(hdep:X.A.depth < recursionLimit)(FW:Fun X.K xw xw stw fw fdw)(SW:FnScope NW psW (ag stw))(bW:bX X.K fdw psW [])(h1W:psW.length=1)(cW:jl ⟨ag stw,none,NW⟩ eA eS (aI stw)=true)(hgW:Gl X xw)(hmW:X.mg xw=some (.ref fw))(hdw:(xw == ("__debug__" : Str))=false)
  (hi:X.N[i]?=some n) (hl:X.env.scope.names.lookup n=some .local) (hn1:(n == ("__debug__" : Str))=false) (hn2:(n == ("__classdict__" : Str))=false) :
  PE (Cx.mk X a) (.Call (.Name xw wp) [.Name n p2] [] p3) (fun σ H Q=>σ[i]?=some (some (.ref a))/\ExH H a C/\∀H3,dE H H3->Q (.str w) H3):=by
 intro pins s σ H Q I ⟨e1,e2,q⟩;refine Uo (cv (X:=Cx.mk X a) I hgW hmW ?_ hdw);refine WO (h₀:=X.base) I.ok.mod.kin FW.kp (UI ((aW (X:=Cx.mk X a) (gX (i:=i) hi (.inl hl) hn1 hn2) rfl) p3 pins s σ H (fun vs H7=>vs=[.ref a]/\H7=H) I ⟨_,e1,rfl,rfl⟩) (fun us s7 ⟨vs,H7,I7,r,hvs,hH7⟩=>⟨I7.kIn,?_⟩) fun _ _ z=>z.elim) rfl rfl;subst hvs hH7;have hlW:us.length=psW.length:=by rw[<-r.length,h1W];rfl
 have hbW:=bW s7 us I7.kIn (by rw[ZQ];exact hlW);rw[ZQ] at hbW;refine Ut (VB (mP (Q:=fun v H8=>v = .str w/\dE H7 H8) FW SW hdep I7.env0 hbW r (by rw[h1W];rfl) fun cdv=>?_) fun r s8 hq=>?_)
 ·have c2:Cls2 (cxM X.prog X.w X.K X.mg X.base NW xw (ag stw) fw cdv (Cx.mk X a).A X.stack s7 H7) R eA Ds:=qC (by rw[xi.len];rfl) xi.nm fun D hD=>⟨xi.hT _ I.ok.mod.kin D hD,xi.nr D hD⟩;refine⟨_,Ah (X:=cxM X.prog X.w X.K X.mg X.base NW xw (ag stw) fw cdv (Cx.mk X a).A X.stack s7 H7) (b:=⟨ag stw,none,NW⟩) (a:=a) (C:=C) (kP SW.kind) rfl rfl rfl xi.isi xi.ve hC hR (gg c2) (gg (gh c2)) (gg (gh c2)) (gh c2) (by rw[xi.len];decide) (by decide) xi.nd hj hw cW,⟨?_,?_,e2⟩,fun H2 x2=>⟨rfl,x2⟩⟩
  ·unfold jl at cW;have:=(an4 cW).2.1;have hl3:NW.length=3:=by simpa using this
   unfold L2.cw;rw[Zm,Yl,Ze,hl3];rfl
  ·rfl
 ·cases r with
  |ok fl=>
   cases fl with
   |ret u=>
    obtain⟨v,H8,I8,rv,rfl,z⟩:=I7.after hq;exact⟨_,H8,I8,rv,q H8 z⟩
   |next=>exact False.elim hq
   |brk=>exact False.elim hq
   |cont=>exact False.elim hq
  |error ev=>exact False.elim hq
theorem Fs(hC:a9 X.base C (.ref R::bmV))(hR:a9 X.base R bmV){D:Addr}(hT:fA X.base D)(hr:D ≠ R)(hgI:Gl X "isinstance")(hb:X.mg "isinstance" = none)(hgN:Gl X x)(hmN:X.mg x=some (.ref D))(hdN:(x == ("__debug__" : Str))=false)
  (hi:X.N[i]?=some n) (hl:X.env.scope.names.lookup n=some .local) (hn1:(n == ("__debug__" : Str))=false) (hn2:(n == ("__classdict__" : Str))=false) :
  PE (Cx.mk X a) (.Call (.Name "isinstance" wp) [.Name n p2,.Name x p3] [] pos) (fun σ H Q=>σ[i]?=some (some (.ref a))/\ExH H a C/\Q (.bl (C == D)) H):=
 PE.imp (b9 (X:=Cx.mk X a) (mO (X:=Cx.mk X a) (a:=a) (C:=C) (R:=R) hC hR) hgI hb XG (bh (X:=Cx.mk X a) (gX (i:=i) hi (.inl hl) hn1 hn2) (aW (j4 (v:=.ref D) hgN hmN rfl hdN) rfl) rfl) (by decide) (by decide) rfl rfl) fun σ H Q q=>⟨_,q.1,D,rfl,q.2.1,hT,hr,q.2.2⟩
theorem wZ{fI dx q:Addr}(hC:cY X.base C R fI)(hR:gI X.base R)(hD:sZ X.base C)(hi:X.N[i]?=some n)(hl:X.env.scope.names.lookup n=some .local)(hn1:(n == ("__debug__" : Str))=false)(hn2:(n == ("__classdict__" : Str))=false) :
  PE (Cx.mk X a) (.Attribute (.Name n p2) "stuck" pos) (fun σ H Q=>σ[i]?=some (some (.ref a))/\H a=some (exD a C dx)/\H dx=some (.xd [("stuck", .ref q)])/\Q (.ref q) H):=by
 intro pins s σ H Q I ⟨e1,e2,e3,h⟩;refine yz (aU rfl) (thn ((gX (X:=Cx.mk X a) (i:=i) hi (.inl hl) hn1 hn2) pins s σ H (fun v H1=>v = .ref a/\H1=H) I ⟨_,e1,rfl,rfl⟩) fun u s1 ⟨x,H1,I1,rx,hx,hH⟩=>?_);subst hx hH;obtain rfl:u=Value.ref a:=rx;obtain⟨⟨vs,ho⟩,_⟩:=I1.hok a _ e2;obtain⟨mA,hns,hr⟩:=I1.hok dx _ e3
 have hv:mA "stuck" = some (.ref q):=by
  have z:=hr "stuck";rw[ZA,beq_self_eq_true] at z;cases hm:mA "stuck" with
  |none=>rw[hm] at z;exact z.elim
  |some u=>rw[hm] at z;cases z;rfl
 obtain⟨hp,g,d,tk,os⟩:=s1;exact Ao (hC.keeps I1.bk) (hR.keeps I1.bk) (hD.keeps hC I1.bk) ho rfl rfl rfl hns hv (PySem.W.handedOut_of rfl) ⟨.ref q,H1,I1.tok _,rfl,h⟩
end
noncomputable def mW(b:Blk)(ss:List Stmt):Bool:=dn b.N && b.N.length == 2 && lC ss fun s1 ss=>l1 ss fun s2=>
 zEx (fun e=>jk "__init__" (cA fun x=>x == ("RingError" : Str) && b.glo x) (fun es=>lC es fun a es=>l1 es fun c=>wV b 0 a && ao a && b8 c fun k _ _=>(match k with |.str _=>true |_=>false)) e) s1 &&
 zAsg (fun tg v=>cS tg (fun o m _=>m == ("stuck" : Str) && wV b 0 o) && wV b 1 v) s2
structure NWay(K:WN)(mg:Str->Option Value)(base:Heap)(R C fI:Addr)(KC:WN):Prop where
 cls:cY base C R fI
 bas:iW base R bmV
 bsR:gI base R
 hsD:sZ base C
 kin:KC.In base
 rd:Vd KC R (.type "type")=true
 fc:WV KC (.ref R) (.type "type") "__init__" = some (.val (.builtin "ValueError.__init__"))
 sp:Ve KC (.ref R) "__getattribute__" = some (some (.builtin "type.__getattribute__"))
 fob:∃oI,base.get? fI=some oI/\oI.cls = .type "function"
section
variable {X:Cx} {b:Blk} {R C fI e:Addr} {KC:WN}
theorem Aq(nw:NWay X.K X.mg X.base R C fI KC)(hs:X.env.scope=b.sc)(hN:X.N=b.N)(hm:X.mg "RingError" = some (.ref R)){ss:List Stmt}{v:V}(h:mW b ss=true) :
  PSs X ss (fun D σ H=>σ[0]?=some (some (.ref e))/\σ[1]?=some (some v)/\H e=some (exN e C none)/\∀dx,H dx=none->D.nx σ (upd (upd H dx (.xd [("stuck", v)])) e (exN e C (some dx)))):=by
 unfold mW at h;obtain⟨_,_,h⟩:=an3 h;obtain⟨s1,ss1,rfl,h⟩:=bE h;obtain⟨s2,rfl,h⟩:=bC h;obtain⟨h1,h2⟩:=an2 h;obtain⟨ex,p,rfl,h3,h4⟩:=CY h1;obtain⟨o,ap,es,cp,rfl,h5,h6,h7,h8⟩:=cD h3;obtain⟨x,np,rfl,h9⟩:=aZ h7;obtain⟨h10,h11⟩:=an2 h9;cases eq_of_beq h10;obtain⟨a1,es,rfl,h12⟩:=bE h8;obtain⟨c,rfl,h13⟩:=bC h12;obtain⟨h14,h15,h16⟩:=an3 h13;obtain⟨k,kd,kp,rfl,h17⟩:=bT h16;cases k with
 |str txt=>
  obtain⟨tg,vv,ap2,rfl,h18⟩:=i4 h2;obtain⟨h19,h20⟩:=an2 h18;obtain⟨o2,m2,p2,rfl,h21⟩:=cT h19;obtain⟨h22,h23⟩:=an2 h21;cases eq_of_beq h22;have gl:=jm hs h11;have hv:=c9 hs hN h20;have hv0:=c9 hs hN h14;obtain⟨y0,py0,rfl,_⟩:=aZ h14;obtain⟨y,py,rfl,_⟩:=aZ h20;refine PSs.imp (bu (pN (An nw.kin nw.rd nw.fc nw.sp (by decide +kernel) (pd nw.cls nw.bas) gl.1 hm gl.2 (bh hv0 (aW gY rfl) h15) rfl h6 (ae h15) rfl) (mM h4)) (bN (mV nw.cls nw.bsR nw.hsD (c9 hs hN h23) hv rfl))) fun D σ H ⟨e1,e2,e3,q⟩=>?_;exact⟨_,e1,e,txt,rfl,e3,_,e2,_,e1,e,rfl,e3,q⟩
 |_=>cases h17
end
theorem cY.y{h:Heap}{C R fI:Addr}(x:cY h C R fI):a9 h C (.ref R::bmV):=by
 obtain⟨N,nm,q,bs,hdct,sn,sub,ab,col,dd,k0,k1,k2,k3,k5,mN,hC,hN,hi,hq⟩:=x;refine⟨N,nm,q,bs,hdct,sn,sub,ab,col,dd,k0,k1,k2,k3,k5,mN,hC,hN,fun n hn=>hq n ?_⟩;simp only[quY,Zk,Yg,or_false] at hn;rcases hn with rfl |rfl |rfl
 ·exact .head _
 ·exact .tail _ (.head _)
 ·exact .tail _ (.tail _ (.head _))
section
variable {X:Cx} {R C fI:Addr} {KC:WN} {Ds:List Addr} {k fw i iv:Nat} {fdw fdI:Ws} {psW NW psI NI:List Str} {xw n qI:Str} {stw stI:Stmt} {av:Expr} {kd kd2:Nat} {np cpos rp np2 q1 q2 q3 q4 q5 wp p2 p3 kp cp2 bp kp2 rp2 ip q6 q7 rp3 hp tp:Pos}
theorem td{e dx q:Addr}(xi:XInf X.K X.mg R Ds)(nw:NWay X.K X.mg X.base R C fI KC)(hj:Ds[14]?=some C)(hT:fA X.base C)(hdep:X.A.depth < recursionLimit)
  (FW:Fun X.K xw xw stw fw fdw) (SW:FnScope NW psW (ag stw)) (bW:bX X.K fdw psW []) (h1W:psW.length=1) (cW:jl ⟨ag stw,none,NW⟩ eA eS (aI stw)=true) (hgW:Gl X xw) (hmW:X.mg xw=some (.ref fw)) (hdw:(xw == ("__debug__" : Str))=false)
  (hgI:Gl X "isinstance") (hgN:Gl X "NoWay") (hmN:X.mg "NoWay" = some (.ref C))
  (hi:X.N[i]?=some n) (hl:X.env.scope.names.lookup n=some .local) (hn1:(n == ("__debug__" : Str))=false) (hn2:(n == ("__classdict__" : Str))=false) :
  PSs (Cx.mk X e) [.If (.BoolOp .Or [.UnaryOp .Not (.Call (.Name "isinstance" q1) [.Name n q2,.Name "NoWay" q3] [] q4) q5,.Compare (.Call (.Name xw wp) [.Name n p2] [] p3) [.NotEq] [.Constant (.str "way") kd kp] cp2] bp) [.Return (some (.Constant .none kd2 kp2)) rp2] [] ip,.Return (some (.Attribute (.Name n q6) "stuck" q7)) rp3]
   (fun D σ H=>σ[i]?=some (some (.ref e))/\H e=some (exD e C dx)/\H dx=some (.xd [("stuck", .ref q)])/\∀H3,dE H H3->D.rt (.ref q) H3):=by
 have hC:=nw.cls.y;have hR:=nw.bas.y;have mD:C ∈ Ds:=Zn hj;refine PSs.imp (bu (pO (pM (nq (tS (Fs (a:=e) (C:=C) (R:=R) hC hR hT (xi.nr C mD) hgI xi.isi hgN hmN (by decide) hi hl hn1 hn2) (eP rfl))) (nk (gK Cq (qD (a:=e) (w := "way") xi hj rfl hC hR hdep FW SW bW h1W cW hgW hmW hdw hi hl hn1 hn2) gY (bL rfl)))).pt (bN (fL tR)) eX) (bN (fL (wZ (a:=e) (dx:=dx) (q:=q) nw.cls nw.bsR nw.hsD hi hl hn1 hn2)))) fun D σ H ⟨e1,e2,e3,h⟩=>?_;have eh:ExH H e C:=⟨_,e2,fun h ⟨vs,z⟩=>⟨_,vs,z,rfl,rfl⟩⟩;refine⟨e1,eh,C == C,rfl,?_⟩;show if (!(C == C))=true then _ else _
 rw[beq_self_eq_true,if_neg (by decide)];refine⟨e1,eh,fun H3 x3=>⟨rfl,_,rfl,?_⟩⟩;show if (!decide (V.str (Str.ofString "way")=V.str (Str.ofString "way")))=true then _ else _
 rw[if_neg (by simp)];exact⟨e1,x3 _ _ e2,x3 _ _ e3,h H3 x3⟩
theorem Ft(hst:X.stack=X.env::X.outer)(hfm:X.env.frame=some X.env.locals)(hc:X.calm=true)(xi:XInf X.K X.mg R Ds)(nw:NWay X.K X.mg X.base R C fI KC)(hj:Ds[14]?=some C)(hr:Room k X.A)
  (FI:Fun X.K "__init__" qI stI fI fdI) (SI:FnScope NI psI (ag stI)) (bI:bX X.K fdI psI []) (h2I:psI.length=2) (cI:mW ⟨ag stI,none,NI⟩ (aI stI)=true)
  (FW:Fun X.K xw xw stw fw fdw) (SW:FnScope NW psW (ag stw)) (bW:bX X.K fdw psW []) (h1W:psW.length=1) (cW:jl ⟨ag stw,none,NW⟩ eA eS (aI stw)=true) (hgW:Gl X xw) (hmW:X.mg xw=some (.ref fw)) (hdw:(xw == ("__debug__" : Str))=false)
  (hgr:Gl X "RingError") (hgI:Gl X "isinstance") (hgN:Gl X "NoWay") (hmN:X.mg "NoWay" = some (.ref C)) (hv:PE X.nox av (rg iv)) (hpa:ao av=true)
  (hN:X.N.Nodup) (hi:X.N[i]?=some n) (hl:X.env.scope.names.lookup n=some .local) (hn1:(n == ("__debug__" : Str))=false) (hn2:(n == ("__classdict__" : Str))=false) :
  PS X (.Try [.Raise (some (.Call (.Name "NoWay" np) [av] [] cpos)) none rp] [.ExceptHandler (some (.Name "RingError" np2)) (some n) [.If (.BoolOp .Or [.UnaryOp .Not (.Call (.Name "isinstance" q1) [.Name n q2,.Name "NoWay" q3] [] q4) q5,.Compare (.Call (.Name xw wp) [.Name n p2] [] p3) [.NotEq] [.Constant (.str "way") kd kp] cp2] bp) [.Return (some (.Constant .none kd2 kp2)) rp2] [] ip,.Return (some (.Attribute (.Name n q6) "stuck" q7)) rp3] hp] [] [] tp)
   (fun D σ H=>∃q,σ[iv]?=some (some (.ref q))/\∀H2,dE H H2->D.rt (.ref q) H2):=by
 intro pins s σ H D I ⟨q,hq,h⟩;obtain⟨N,nm,qq,bs,hdct,sn,sub,ab,col,dd,k0,k1,k2,k3,k5,mN,hC,hNs,hini,hqn⟩:=nw.cls;obtain⟨N',nm',q',bs',hdct',sn',sub',ab',col',dd',k0',k1',k2',k3',k5',mN',hR,hN',hqn'⟩:=nw.bas;have T:OwnTail X.base bmV (.ref R::bmV):=.own hR hN' (hqn' _ (.head _)) .base;obtain⟨oI,hoI,hcI⟩:=nw.fob;have he:Ue [av] X.env=[(false,eval av X.env)]:=ae hpa;refine wpAny_Try_except ?_;refine Uy ?_
 refine gG (C:=C) (nm:=nm) (q:=qq) (N:=N) (bs:=bs) (bm:=.ref R::bmV) (hdct:=hdct) (sn:=sn) (sub:=sub) (ab:=ab) (col:=col) (dd:=dd) (k0:=k0) (k1:=k1) (k2:=k2) (k3:=k3) (k5:=k5)
  Wb (mN:=mN) (T.hasType PySem.F.excBase_ValueError.hasBase) (I.ok.hd hc) (by rw[he];rfl) hini (cv I hgN hmN ⟨rfl,?_⟩ (by decide))
 have hp:=(aW hv hpa) cpos pins s σ H (fun vs H1=>vs=[.ref q]/\H1=H) (I.wish _) ⟨_,hq,rfl,rfl⟩;rw[show Ue [av] X.nox.env=[(false,eval av X.env)] from he] at hp;rw[he];refine XZ (UI hp (fun us s2 ⟨vs,H1,I1,r,e1,e2⟩=>?_) fun _ _ z=>z.elim);subst e1 e2;have I1:L2.Inv X pins σ H1 s2:=I1.unwish;obtain⟨u,rfl,ru⟩:=bq r;cases ru;refine⟨rfl,by show 1<=sizeLine;rw[Uc];decide,I1.bk _ _ hC,hNs.keeps I1.bk,T.keeps I1.bk,⟨oI,I1.bk _ _ hoI,hcI⟩,fun h' e mk hz=>?_⟩;have ne:H1 e=none:=I1.hok.fresh hz;obtain⟨t,he0,_⟩:=mk.there;have I3:L2.Inv X pins σ (upd H1 e (exN e C none)) { s2 with heap:=h' }:=I1.laid mk.keeps hz (pc ⟨t,he0⟩);have hbI:=bI { s2 with heap:=h' } [.ref e,.ref q] I3.kIn (by rw[ZQ,h2I];rfl);rw[ZQ] at hbI;refine Ut (VB (mP (A:=X.A.under (.builtin "type.__call__" ⟨[.ref C,.ref q],[]⟩)) (vs:=[.ref e,.ref q]) (Q:=fun v H8=>v = .non/\∃dx,upd H1 e (exN e C none) dx=none/\H8=upd (upd (upd H1 e (exN e C none)) dx (.xd [("stuck", .ref q)])) e (exN e C (some dx))) FI SI (by rw[nF];have:=hr.dp;omega) (I3.env0.make C [.ref q] []) hbI (.cons rfl (.cons rfl .nil)) (by rw[h2I];rfl) fun cdv=>⟨_,Aq (X:=cxM X.prog X.w X.K X.mg X.base NI qI (ag stI) fI cdv (X.A.under (.builtin "type.__call__" ⟨[.ref C,.ref q],[]⟩)) X.stack { s2 with heap:=h' } (upd H1 e (exN e C none))) (b:=⟨ag stI,none,NI⟩) (e:=e) (v:=.ref q) nw rfl rfl xi.ring cI,?_⟩) fun r s8 hq=>?_)
 ·exact⟨rfl,rfl,ak,fun dx hdx=>⟨rfl,dx,hdx,rfl⟩⟩
 cases r with
 |error ev=>exact False.elim hq
 |ok fl=>
 cases fl with
 |next=>exact False.elim hq
 |brk=>exact False.elim hq
 |cont=>exact False.elim hq
 |ret u=>
 obtain⟨v,H8,I8,rv,rfl,dx,hdx,rfl⟩:=I3.after hq;have dne:dx ≠ e:=fun z=>by rw[z,ak] at hdx;cases hdx
 have he8:upd (upd (upd H1 e (exN e C none)) dx (.xd [("stuck", .ref q)])) e (exN e C (some dx)) e=some (exN e C (some dx)):=ak;obtain⟨⟨t8,ho8⟩,_⟩:=I8.hok e _ he8;have hT:fA X.base C:=xi.hT _ I.ok.mod.kin C (Zn hj);refine⟨rv,t8,dx,I8.bk _ _ hC,ho8,Ap hst hfm I8 he8 nw.cls.y nw.bas.y hgr xi.ring (by decide) hN hi hl fun s6 I6=>?_⟩;have hiσ:i < σ.length:=by rw[I.len];exact(Zf.mp hi).1
 have S:=td (e:=e) (dx:=dx) (q:=q) (kd:=kd) (kd2:=kd2) (q1:=q1) (q2:=q2) (q3:=q3) (q4:=q4) (q5:=q5) (wp:=wp) (p2:=p2) (p3:=p3) (kp:=kp) (cp2:=cp2) (bp:=bp) (kp2:=kp2) (rp2:=rp2) (ip:=ip) (q6:=q6) (q7:=q7) (rp3:=rp3) xi nw hj hT hr.depth FW SW bW h1W cW hgW hmW hdw hgI hgN hmN hi hl hn1 hn2 pins s6 (σ.set i (some (.ref e))) _ { nx:=fun _ _=>False,rt:=D.rt,bk:=fun _ _=>False,ct:=fun _ _=>False } I6 ⟨Zy hiσ,ak,by rw[ah dne,ah dne,ak],fun H3 x3=>h H3 fun b o hb=>x3 b o ?_⟩
 ·refine UI S (fun f s7 z=>?_) fun _ _ z=>z;cases f with
  |ret u=>obtain⟨v,σ7,H7,I7,rv,z⟩:=z;exact⟨u,v,σ7,H7,rfl,I7,rv,z⟩
  |next=>obtain⟨_,_,_,z⟩:=z;exact z.elim
  |brk=>obtain⟨_,_,_,z⟩:=z;exact z.elim
  |cont=>obtain⟨_,_,_,z⟩:=z;exact z.elim
 ·have n1:b ≠ e:=fun z=>by rw[z,ne] at hb;cases hb
  have n2:b ≠ dx:=fun z=>by rw[ah dne] at hdx;rw[z,hdx] at hb;cases hb
  rw[ah n1,ah n1,ah n2,ah n1];exact hb
end
noncomputable def pj(e:Stmt)(k:Option Expr->Option Expr->Pos->Bool):Bool:=if h:e.ctorIdx=16 then @Stmt.Raise.elim (fun _=>Bool) e h k else false
theorem mX(h:pj e k=true):∃x0 x1 x2,e = .Raise x0 x1 x2/\k x0 x1 x2=true:=by
 obtain⟨h1,h⟩:=bc h;exact Stmt.Raise.elim (motive_2:=fun e=>∀h',@Stmt.Raise.elim (fun _=>Bool) e h' k=true->∃x0 x1 x2,e = .Raise x0 x1 x2/\k x0 x1 x2=true) e h1 (fun x0 x1 x2 _ hh=>⟨x0,x1,x2,rfl,hh⟩) h1 h
noncomputable def J5(e:Stmt)(k:List Stmt->List ExceptHandler->List Stmt->List Stmt->Pos->Bool):Bool:=if h:e.ctorIdx=17 then @Stmt.Try.elim (fun _=>Bool) e h k else false
theorem Fu(h:J5 e k=true):∃x0 x1 x2 x3 x4,e = .Try x0 x1 x2 x3 x4/\k x0 x1 x2 x3 x4=true:=by
 obtain⟨h1,h⟩:=bc h;exact Stmt.Try.elim (motive_2:=fun e=>∀h',@Stmt.Try.elim (fun _=>Bool) e h' k=true->∃x0 x1 x2 x3 x4,e = .Try x0 x1 x2 x3 x4/\k x0 x1 x2 x3 x4=true) e h1 (fun x0 x1 x2 x3 x4 _ hh=>⟨x0,x1,x2,x3,x4,rfl,hh⟩) h1 h
noncomputable def dc:Str := "_law_word"
noncomputable abbrev Cx.pnd(X:Cx)(pins:List (Addr × Obj))(E:Value->Shared->Prop):Cx:={ X with pn:=X.pn++pins,xe:=E }
section
variable {X:Cx} {pins pins':List (Addr × Obj)} {σ:L2.St} {H:Hp} {s:Shared} {E:Value->Shared->Prop}
theorem Fv(I:L2.Inv X pins σ H s):L2.Inv (Cx.pnd X pins E) [] σ H s:=
 ⟨⟨I.ok.mod,I.ok.kind,I.ok.glob,I.ok.blt,I.ok.above,I.ok.inj,I.ok.has,I.ok.cab,I.ok.hd,I.ok.frames,I.ok.stk,I.ok.exf,I.ok.bs,I.ok.bsz,I.ok.noex,I.ok.exfs,I.ok.funs,I.ok.frf⟩,I.os,I.bare,I.base,I.loc,I.cell,I.free,I.freeC,fun p hp=>I.pin p (by simpa using hp),I.hok,I.len⟩
theorem w8(I:L2.Inv (Cx.pnd X pins E) pins' σ H s):L2.Inv X pins σ H s:=
 ⟨⟨I.ok.mod,I.ok.kind,I.ok.glob,I.ok.blt,I.ok.above,I.ok.inj,I.ok.has,I.ok.cab,I.ok.hd,I.ok.frames,I.ok.stk,I.ok.exf,I.ok.bs,I.ok.bsz,I.ok.noex,I.ok.exfs,I.ok.funs,I.ok.frf⟩,I.os,I.bare,I.base,I.loc,I.cell,I.free,I.freeC,fun p hp=>I.pin p (ZL _ hp),I.hok,I.len⟩
end
section
variable {X:Cx} {x:Str} {np cpos pos:Pos} {a:Expr} {C R:Addr} {it:Nat}
theorem tf{E:XK}(hx:∀pins σ H s h1 e args,Inv X pins σ H s->Heap.MadeExcOf s.heap h1 e (.ref C) args->E (.ref C) none H->X.xe (.ref e) { s with heap:=h1 })(hc:X.calm=true)(hg:Gl X x)(hm:X.mg x=some (.ref C))(hC:iW X.base C (.ref R::bmV))(hR:iW X.base R bmV)
  (ha:PA X [a] (bK (rg it) eY)) (he:Ue [a] X.env=[(false,eval a X.env)]) (hd:(x == ("__debug__" : Str))=false):PS X (.Raise (some (.Call (.Name x np) [a] [] cpos)) none pos) (fun D σ H=>(∃v,σ[it]?=some (some v))/\E (.ref C) none H):=by
 intro pins s σ H D I ⟨⟨v,hv⟩,h⟩;have h:bK (rg it) eY σ H fun vs H1=>vs.length=1/\E (.ref C) none H1:=⟨v,hv,rfl,h⟩;obtain⟨N,nm,q,bs,hdct,sn,sub,ab,col,dd,k0,k1,k2,k3,k5,mN,hC,hN,hqn⟩:=hC;obtain⟨N',nm',q',bs',hdct',sn',sub',ab',col',dd',k0',k1',k2',k3',k5',mN',hR,hN',hqn'⟩:=hR;have T:OwnTail X.base bmV (.ref R::bmV):=.own hR hN' (hqn' _ (.head _)) .base
 refine wpAny_Raise_call_subT (C:=C) (nm:=nm) (q:=q) (N:=N) (bs:=bs) (bm:=.ref R::bmV) (hdct:=hdct) (sn:=sn) (sub:=sub) (ab:=ab) (col:=col) (dd:=dd) (k0:=k0) (k1:=k1) (k2:=k2) (k3:=k3) (k5:=k5)
  Wb (mN:=mN) (T.hasType PySem.F.excBase_ValueError.hasBase) (I.ok.hd hc) (by rw[he];rfl) (hqn _ (.head _)) (cv I hg hm ⟨rfl,?_⟩ hd)
 have hp:=ha cpos pins s σ H _ I h;rw[he] at hp ⊢;exact XZ (UI hp (fun vs s2 ⟨xs,H1,I1,r,q⟩=>⟨rfl,by rw[<-r.length,q.1];decide,I1.bk _ _ hC,hN.keeps I1.bk,T.keeps I1.bk,fun h' e mk=>hx pins σ H1 s2 h' e vs I1 mk q.2⟩) fun _ _ y=>y)
end
noncomputable def Fw(b:Blk)(it c:Nat)(s:Stmt):Bool:=pj s fun v k _=>k.isNone && oA v fun e=>sCN e fun x es ks=>l1 es fun a=>ks.isEmpty && eA[c]? == some x && b.glo x && wV b it a
noncomputable def zRs(b:Blk)(iw it:Nat):Nat->List Stmt->Bool
 |_,[]=>false
 |c,[s]=>Fw b it c s
 |c,s::s'::ss=>zIf (sS .Eq (wV b iw) (oQ c)) (fun p=>l1 p fun s=>Fw b it c s) (fun q=>q.isEmpty) s && zRs b iw it (c+1) (s'::ss)
def rIx(z:Int):Nat->List Stmt->Nat
 |c,[]=>c
 |c,[_]=>c
 |c,_::s'::ss=>if z=(c:Int) then c else rIx z (c+1) (s'::ss)
section
variable {X:Cx} {b:Blk} {R:Addr} {Ds:List Addr} {E:XK} {iw it:Nat}
theorem w9(hx:∀C pins σ H s h1 e args,Inv X pins σ H s->Heap.MadeExcOf s.heap h1 e (.ref C) args->E (.ref C) none H->X.xe (.ref e) { s with heap:=h1 })(hc:X.calm=true)(hs:X.env.scope=b.sc)(hN:X.N=b.N)(hR:iW X.base R bmV)
  (hD:∀ (j:Nat) C,Ds[j]?=some C->j < 14->iW X.base C (.ref R::bmV)) (nm:∀ (i:Nat) x,eA[i]?=some x->∃D,Ds[i]?=some D/\X.mg x=some (.ref D)) :
  ∀ (ss:List Stmt) (c:Nat),c+ss.length<=14->zRs b iw it c ss=true->PSs X ss (fun D σ H=>∃z v,σ[iw]?=some (some (.int z))/\σ[it]?=some (some v)/\∀C,Ds[rIx z c ss]?=some C->E (.ref C) none H):=by
 have one:∀ (s:Stmt) (c:Nat),c < 14->Fw b it c s=true->PS X s (fun D σ H=>(∃v,σ[it]?=some (some v))/\∀C,Ds[c]?=some C->E (.ref C) none H):=fun s c hc14 h=>by
  obtain⟨v,k,p,rfl,h⟩:=mX h;obtain⟨h1,h2⟩:=an2 h;obtain⟨e,rfl,h3⟩:=iS h2;obtain⟨x,np,es,ks,cp,rfl,h4⟩:=gy h3;obtain⟨a,rfl,h5⟩:=bC h4;obtain⟨h6,h7,h8,h9⟩:=an4 h5;cases bH h6;obtain⟨C,hC,hm⟩:=nm c x (eq_of_beq h7);cases k with
  |some _=>cases h1
  |none=>
  have gl:=jm hs h8;have pv:=c9 hs hN h9;obtain⟨y,py,rfl,_⟩:=aZ h9;exact PS.imp (tf (E:=E) (hx C) hc gl.1 hm (hD c C hC hc14) hR (aW pv rfl) rfl gl.2) fun D σ H ⟨q1,q2⟩=>⟨q1,q2 C hC⟩
 intro ss
 induction ss with
 |nil=>intro c _ h;cases h
 |cons s ss ih=>
  intro c hl h;rw[Zs] at hl;cases ss with
  |nil=>
   exact PSs.imp (bN (one s c (by omega) h)) fun D σ H ⟨z,v,e1,e2,q⟩=>⟨⟨v,e2⟩,q⟩
  |cons s' ss=>
   obtain⟨h1,h2⟩:=an2 h;obtain⟨t,p,q,r,rfl,h3,h4,h5⟩:=qA h1;obtain⟨s1,rfl,h4⟩:=bC h4;rw[bH h5];obtain⟨l,z,p3,rfl,h6,h7,h8⟩:=iV h3;obtain⟨_,_,rfl⟩:=fZ h7;refine PSs.imp (bu (pO (gK IG (c9 hs hN h6) fK (bL rfl)) (bN (one s1 c (by omega) h4)) eX) (ih (c+1) (by rw[Zs] at hl ⊢;omega) h2)) fun D σ H ⟨z,v,e1,e2,q⟩=>?_;refine⟨_,e1,rfl,_,rfl,?_⟩;show if decide (V.int z=V.int (c:Int))=true then _ else _
   by_cases hz:z=(c:Int)
   ·rw[if_pos (by rw[hz];simp)];exact⟨⟨v,e2⟩,fun C hC=>q C (by rw[rIx,if_pos hz];exact hC)⟩
   ·rw[if_neg (fun y=>hz (by simpa using y))];exact⟨z,v,e1,e2,fun C hC=>q C (by rw[rIx,if_neg hz];exact hC)⟩
end
section
variable {X:Cx} {b:Blk} {R:Addr} {Ds:List Addr} {fw i iw it:Nat} {fdw:Ws} {psW NW:List Str} {xw n:Str} {stw:Stmt} {np wp p2 p3 p4 hp tp:Pos}
theorem Fx(hst:X.stack=X.env::X.outer)(hfm:X.env.frame=some X.env.locals)(hc:X.calm=true)(hs:X.env.scope=b.sc)(hNb:X.N=b.N)(xi:XInf X.K X.mg R Ds)(hdep:X.A.depth < recursionLimit)
  (FW:Fun X.K xw xw stw fw fdw) (SW:FnScope NW psW (ag stw)) (bW:bX X.K fdw psW []) (h1W:psW.length=1) (cW:jl ⟨ag stw,none,NW⟩ eA eS (aI stw)=true) (hgW:Gl X xw) (hmW:X.mg xw=some (.ref fw)) (hdw:(xw == ("__debug__" : Str))=false)
  (hgr:Gl X "RingError") (hN:X.N.Nodup) (hi:X.N[i]?=some n) (hl:X.env.scope.names.lookup n=some .local) (hn1:(n == ("__debug__" : Str))=false) (hn2:(n == ("__classdict__" : Str))=false) (kin:X.K.In X.base) {ss:List Stmt} (h14:ss.length=14) (hz:zRs b iw it 0 ss=true) :
  PS X (.Try ss [.ExceptHandler (some (.Name "RingError" np)) (some n) [.Return (some (.Call (.Name xw wp) [.Name n p2] [] p3)) p4] hp] [] [] tp)
   (fun D σ H=>∃z v w,σ[iw]?=some (some (.int z))/\σ[it]?=some (some v)/\rIx z 0 ss < 14/\eS[rIx z 0 ss]?=some w/\∀H2,dE H H2->D.rt (.str w) H2):=by
 intro pins s σ H D I ⟨z,v,w,e1,e2,e3,e4,h⟩;refine wpAny_Try_except ?_;have hR:=xi.hR _ kin
 let EE:XK:=fun c _ H'=>∃j C w,c = .ref C/\Ds[j]?=some C/\j < 14/\eS[j]?=some w/\∀H3,dE H' H3->D.rt (.str w) H3
 let xe:Value->Shared->Prop:=fun ev s₁=>wpAny (model X.prog X.w) X.A (VZ ev X.env) (fun _ s₂=>wpAny (model X.prog X.w) X.A (Ub ev none) (fun _ s₃=>wpAny (model X.prog X.w) X.A (handleBy ev X.env [.ExceptHandler (some (.Name "RingError" np)) (some n) [.Return (some (.Call (.Name xw wp) [.Name n p2] [] p3)) p4] hp]) (SP X pins D) X.xe s₃) X.xe s₂) X.xe s₁
 have B:=w9 (X:=Cx.pnd X pins xe) (b:=b) (R:=R) (Ds:=Ds) (E:=EE) (iw:=iw) (it:=it) (fun C pins' σ' H' s' h1 e args I' mk hE=>?_) hc hs hNb hR (fun j C hj h14=>xi.hC _ kin j C hj h14) xi.nm ss 0 (by omega) hz
 ·refine UI (B [] s σ H { nx:=fun _ _=>False,rt:=fun _ _=>False,bk:=fun _ _=>False,ct:=fun _ _=>False } (Fv I) ⟨z,v,e1,e2,fun C hC=>⟨_,C,w,rfl,hC,e3,e4,h⟩⟩) (fun f s7 y=>?_) fun _ _ y=>y;cases f with
  |ret u=>obtain⟨_,_,_,_,_,y⟩:=y;exact y.elim
  |next=>obtain⟨_,_,_,y⟩:=y;exact y.elim
  |brk=>obtain⟨_,_,_,y⟩:=y;exact y.elim
  |cont=>obtain⟨_,_,_,y⟩:=y;exact y.elim
 ·obtain⟨j,C',w',hcc,hj,hj14,hw,q⟩:=hE;cases hcc;have I1:=w8 I';have hC:=(xi.hC _ kin j C hj hj14).y;refine Ai hst hfm I1 mk hC hR.y hgr xi.ring (by decide) hN hi hl fun s6 I6=>?_;have hiσ:i < σ'.length:=by rw[I1.len];exact(Zf.mp hi).1
  have ne:H' e=none:=by
   cases y:H' e with
   |none=>rfl
   |some o=>obtain⟨u,y2⟩:=mB (I1.hok e o y);rw[mk.new] at y2;cases y2
  have S:=(bN (fL (pos:=p4) (qD (a:=e) (wp:=wp) (p2:=p2) (p3:=p3) xi hj hw hC hR.y hdep FW SW bW h1W cW hgW hmW hdw hi hl hn1 hn2))) pins s6 (σ'.set i (some (.ref e))) _ { nx:=fun _ _=>False,rt:=D.rt,bk:=fun _ _=>False,ct:=fun _ _=>False } I6 ⟨Zy hiσ,JT ak,fun H3 x3=>q H3 ((dE.upd ne).trans x3)⟩;refine UI S (fun f s7 y=>?_) fun _ _ y=>y;cases f with
  |ret u=>obtain⟨v,σ7,H7,I7,rv,y⟩:=y;exact⟨u,v,σ7,H7,rfl,I7,rv,y⟩
  |next=>obtain⟨_,_,_,y⟩:=y;exact y.elim
  |brk=>obtain⟨_,_,_,y⟩:=y;exact y.elim
  |cont=>obtain⟨_,_,_,y⟩:=y;exact y.elim
end
def rI(z:Int):Nat:=if 0<=z/\z < 13 then z.toNat else 13
theorem xa{z:Int}:∀ {ss:List Stmt} {c:Nat},c+ss.length=14->c < 14->(0<=z->z < 13->(c:Int)<=z)->rIx z c ss=rI z
 |[],c,h,h2,q=>by simp at h;omega
 |[s],c,h,_,q=>by
  have hc:c=13:=by simp at h;omega
  subst hc;unfold rIx rI;by_cases hz:0<=z/\z < 13
  ·have:=q hz.1 hz.2;omega
  ·rw[if_neg hz]
 |s::s'::ss,c,h,_,q=>by
  rw[Zs,Zs] at h;unfold rIx;by_cases hz:z=(c:Int)
  ·rw[if_pos hz];unfold rI;rw[if_pos (by omega)];omega
  ·rw[if_neg hz];exact xa (ss:=s'::ss) (by rw[Zs];omega) (by omega) fun a b=>by have:=q a b;omega
theorem J6{z:Int}:rI z < 14:=by unfold rI;split <;> omega
inductive RS where
 |pl (s:CS) |rsd (iw it:Nat) |stk (iv:Nat)
inductive RR where
 |val (d:D) |exc (i:Nat)
structure DefE where
 x:Str
 st:Stmt
 N:List Str
 ps:List Str
 body:List CS
 rb:Option (List RS)
noncomputable def FU:Nat:=60
noncomputable def fF(aj:List DefE)(f:Nat):Nat:=match aj[f]? with
 |some d=>d.ps.length
 |none=>0
abbrev eT:=Nat->List D->Sto->Option (RR × Sto)
noncomputable def toC(g:eT):Calls:=fun f ds S=>match g f ds S with
 |some (.val d,S')=>some (d,S')
 |_=>none
noncomputable def Ar(C:Calls)(ar:Nat->Nat)(d:DefE)(ds:List D)(S:Sto):Option (D × Sto):=
 match de C ar FU d.body (ds.map some++Zi (d.N.length - ds.length) none) S with
 |some (.rt v,_,S')=>some (v,S')
 |some (.nx,_,S')=>some (.non,S')
 |_=>none
noncomputable def gJ(g:eT)(ar:Nat->Nat):List RS->Rho->Sto->Option (RR × Sto)
 |[],_,S=>some (.val .non,S)
 | .pl s::r,ρ,S=>(match evS (toC g) ar 59 s ρ S with
  |some (.nx,ρ',S')=>gJ g ar r ρ' S'
  |some (.rt v,_,S')=>some (.val v,S')
  | _=>none)
 | .rsd iw it::_,ρ,S=>(match ρ[iw]?,ρ[it]? with
  |some (some (.int z)),some (some _)=>(eS[rI z]?).map fun w=>(.val (.str w),S)
  | _,_=>none)
 | .stk iv::_,ρ,S=>(match ρ[iv]? with
  |some (some (.tup ds))=>some (.val (.tup ds),S)
  | _=>none)
noncomputable def evX(aj:List DefE):Nat->eT
 |0=>fun _ _ _=>none
 |k+1=>fun f ds S=>match aj[f]? with
  | some d=>(match d.rb with
   |none=>(Ar (toC (evX aj k)) (fF aj) d ds S).map fun r=>(.val r.1,r.2)
   | some rs=>gJ (evX aj k) (fF aj) rs (ds.map some++Zi (d.N.length - ds.length) none) S)
  |none=>none
noncomputable def evC(aj:List DefE)(k:Nat):Calls:=toC (evX aj k)
noncomputable def qE(N ps:List Str)(sc:Scope):Bool:=sc.kind == .function && sc.isCoroutine == false && sc.isGenerator == false && dn N && N.take ps.length == ps && (ps.all fun x=>sc.names.lookup x == some .local || sc.names.lookup x == some .cell) && sc.names.all fun y=>y.2 != .free
theorem kR(h:qE N ps sc=true):FnScope N ps sc:=by
 unfold qE at h;simp only[bAE,ZD] at h;obtain⟨⟨⟨⟨⟨⟨h1,h2⟩,h3⟩,h4⟩,h5⟩,h6⟩,h7⟩:=h;refine⟨by simpa using h1,by simpa using h2,by simpa using h3,dq h4,by simpa using h5,fun x hx=>?_,fun y hy=>by simpa using h7 y hy⟩;have:=h6 x hx
 simpa using this
noncomputable def J7(b:Blk)(body:Str->List Stmt->Bool)(h:ExceptHandler):Bool:=match h with
 |.ExceptHandler t n ss _=>(oA t fun e=>cA (fun x=>x == ("RingError" : Str) && b.glo x) e) && oA n fun n=>b.sc.names.lookup n == some .local && b.N.contains n && !(n == ("__debug__" : Str)) && !(n == ("__classdict__" : Str)) && body n ss
noncomputable def sWd(b:Blk)(n:Str)(e:Expr):Bool:=sCN e fun x es ks=>l1 es fun a=>ks.isEmpty && x == dc && b.glo x && cA (fun y=>y == n) a
noncomputable def Fy(k:List Stmt->Bool)(b:Blk)(body:Str->List Stmt->Bool)(s:Stmt):Bool:=J5 s fun ss hs o f _=>o.isEmpty && f.isEmpty && k ss && l1 hs fun h=>J7 b body h
noncomputable def J8(b:Blk)(iv:Nat)(ss:List Stmt):Bool:=l1 ss fun s=>pj s fun v k _=>k.isNone && oA v fun e=>sCN e fun x es ks=>l1 es fun a=>ks.isEmpty && x == ("NoWay" : Str) && b.glo x && wV b iv a
noncomputable def J9(b:Blk)(n:Str)(ss:List Stmt):Bool:=lC ss fun s ss=>l1 ss fun s2=>
 zIf (oV .Or (v8 (eO b "isinstance" (cA fun y=>y == n) (cA fun y=>y == ("NoWay" : Str) && b.glo y))) (sS .NotEq (sWd b n) (oU "way"))) (fun p=>l1 p fun s=>zRet EW s) (fun q=>q.isEmpty) s &&
 zRet (fun e=>cS e fun o m _=>m == ("stuck" : Str) && cA (fun y=>y == n) o) s2
noncomputable def xc(T:Tab)(b:Blk):List RS->List Stmt->Bool
 |[],ss=>ss.isEmpty
 |.pl c::rs,ss=>lC ss fun s ss=>Fh T 59 b s c && xc T b rs ss
 |.rsd iw it::rs,ss=>l1 ss fun s=>Fy (fun ss=>ss.length == 14 && zRs b iw it 0 ss) b (fun n ss=>l1 ss fun s=>zRet (sWd b n) s) s
 |.stk iv::rs,ss=>l1 ss fun s=>Fy (J8 b iv) b (J9 b) s
noncomputable def xf(T:Tab)(d:DefE):Bool:=qE d.N d.ps (ag d.st) && (match d.rb with
 |none=>i5 T FU ⟨ag d.st,none,d.N⟩ (aI d.st) d.body
 | some rs=>xc T ⟨ag d.st,none,d.N⟩ rs (aI d.st))
noncomputable def jS(con:List (Str × Int))(aj:List DefE):Tab:=⟨con,aj.map fun d=>(d.x,d.ps.length)⟩
noncomputable def qF(d:DefE):Bool:=d.x == dc && d.ps.length == 1 && jl ⟨ag d.st,none,d.N⟩ eA eS (aI d.st)
def As(K:WN)(mg:Str->Option Value)(R:Addr)(Ds:List Addr):Prop:=∃C fI KC qI fdI psI NI stI,Ds[14]?=some C/\mg "NoWay" = some (.ref C)/\(∀h,K.In h->NWay K mg h R C fI KC)/\Fun K "__init__" qI stI fI fdI/\FnScope NI psI (ag stI)/\bX K fdI psI []/\psI.length=2/\mW ⟨ag stI,none,NI⟩ (aI stI)=true
structure TextOk(K:WN)(mg:Str->Option Value)(con:List (Str × Int))(aj:List DefE):Prop where
 con:∀ (i:Nat) (x:Str) (v:Int),con[i]?=some (x,v)->∃tk,mg x=some (.int v tk)
 bl:∀x,x ∈ df->mg x=none
 fn:∀ (i:Nat) (d:DefE),aj[i]?=some d->∃f fd,mg d.x=some (.ref f)/\W2 K (.ref f)=true/\bX K fd d.ps []/\Fun K d.x d.x d.st f fd
 xs:∃R Ds,XInf K mg R Ds/\As K mg R Ds
def spX(K:WN)(Ds:List Addr)(g:List D->Sto->Option (RR × Sto))(n:Nat):Sp:=fun vs H Q E=>∃m ds S r S',VDs K m H ds vs/\Rel K m S H/\ds.length=n/\g ds S=some (r,S')/\∀m' H',Aft K m H S' m' H'->(match r with
 |.val d=>∀v,VD K m' H' d v->Q v H'
 | .exc i=>∃C,Ds[i]?=some C/\i < 14/\E (.ref C) none H')
theorem xg{K:WN}{Ds:List Addr}{g:eT}{f n:Nat}{vs:List V}{H:Hp}{Q:VK}{E:XK}(h:spC K (toC g f) n vs H Q E):spX K Ds (g f) n vs H Q E:=by
 obtain⟨m,ds,S,d,S',vd,R,hl,e,q⟩:=h;unfold toC at e;split at e
 ·rename_i d' S2 hg;cases e;exact⟨m,ds,S,.val d,S',vd,R,hl,hg,fun m' H' A v vv=>q m' H' v A vv⟩
 ·cases e
section
variable {P:Program} {w:World} {K:WN} {mg:Str->Option Value} {base:Heap} {con:List (Str × Int)} {aj:List DefE}
theorem jT(vd:VDs K m H ds vs):EnvR K m H (ds.map some++Zi (N.length - ds.length) none) (L2.cw N vs):=by
 have hl:=vd.length;unfold L2.cw;refine⟨by simp[hl],fun i d e=>?_⟩;by_cases hi:i < ds.length
 ·rw[Zx (by simpa using hi),ZC] at e;cases h:ds[i]? with
  |none=>rw[h] at e;cases e
  |some d'=>
   rw[h] at e;cases e;obtain⟨v,hv,vv⟩:=vd.get h;exact⟨v,by rw[Zx (by simp;lia),ZC,hv];rfl,vv⟩
 ·rw[Zu (by simpa using hi),Z4] at e;split at e <;> cases e
def tRs(K:WN)(Ds:List Addr)(E:XK)(g:eT)(ar:Nat->Nat)(rs:List RS):TS:=fun D σ H=>(∀σ H,D.rt .non H->D.nx σ H)/\∃m ρ S r S',EnvR K m H ρ σ/\Rel K m S H/\gJ g ar rs ρ S=some (r,S')/\∀m' H',Aft K m H S' m' H'->(match r with
 |.val d=>∀v,VD K m' H' d v->D.rt v H'
 | .exc i=>∃C,Ds[i]?=some C/\i < 14/\E (.ref C) none H')
theorem kS(A:Aft K m H S2 m2 H2)(x:dE H2 H3):Aft K m H S2 m2 H3:=by
 have E:Ext m2 H2 m2 H3:=⟨ZP _,fun a o h _=>x a o h,fun _ h n=>absurd h n⟩
 exact A.trans ⟨E,A.rel.ext_keep E fun b hb=>by
  obtain⟨o,_,ho,_⟩:=A.rel.ex hb;rw[ho];exact x b o ho⟩
structure RCx(T:Tab)(g:eT)(ar:Nat->Nat)(k:Nat)(b:Blk)(X:Cx)(E:XK)(R:Addr)(Ds:List Addr):Prop where
 G:CtxOk T (toC g) ar k b X.nox
 xi:XInf X.K X.mg R Ds
 ni:As X.K X.mg R Ds
 kin:X.K.In X.base
 fns:∀ (i:Nat) (y:Str × Nat),T.fns[i]?=some y->∃f fd ps,X.mg y.1=some (.ref f)/\W2 X.K (.ref f)=true/\bX X.K fd ps []/\FnOk X.prog X.w X.K X.mg X.base (CXE X.prog X.w) k f fd ps (spX X.K Ds (g i) (ar i))
 pass:hU (CXE X.prog X.w) X E
 made:∀pins σ H s h1 e c args,L2.Inv X pins σ H s->Heap.MadeExcOf s.heap h1 e c args->E c none H->X.xe (.ref e) { s with heap:=h1 }
 stk:X.stack=X.env::X.outer
 frm:X.env.frame=some X.env.locals
 kind:X.env.scope.kind = .function
 word:∃fw fdw psW NW stw,X.mg dc=some (.ref fw)/\Fun X.K dc dc stw fw fdw/\FnScope NW psW (ag stw)/\bX X.K fdw psW []/\psW.length=1/\jl ⟨ag stw,none,NW⟩ eA eS (aI stw)=true
theorem C1{n:Str}{e:Expr}(h:sWd b n e=true):∃wp p2 p3,e = .Call (.Name dc wp) [.Name n p2] [] p3/\b.glo dc=true:=by
 obtain⟨xw,wp,es2,ks,p3,rfl,l12⟩:=gy h;obtain⟨a,rfl,l13⟩:=bC l12;obtain⟨k10,k11,k12,k13⟩:=an4 l13;cases bH k10;cases eq_of_beq k11;obtain⟨n2,p2,rfl,k14⟩:=aZ k13;cases eq_of_beq k14;exact⟨wp,p2,p3,rfl,k12⟩
theorem C2{k:List Stmt->Bool}{bo:Str->List Stmt->Bool}{s:Stmt}(h:Fy k b bo s=true):∃ (ss:List Stmt) (hs:List Stmt) (tp:Pos) (n:Str) (np hp:Pos) (body:List Stmt),s = .Try ss [.ExceptHandler (some (.Name "RingError" np)) (some n) body hp] [] [] tp/\k ss=true/\∃i:Nat,b.N[i]?=some n/\b.sc.names.lookup n=some .local/\(n == ("__debug__" : Str))=false/\(n == ("__classdict__" : Str))=false/\b.glo "RingError" = true/\bo n body=true:=by
 obtain⟨ss,hs,o,fi,tp,rfl,c1⟩:=Fu h;obtain⟨h1,h2,h3,h4⟩:=an4 c1;obtain⟨hd,rfl,c4⟩:=bC h4;cases bH h1;cases bH h2;obtain⟨ty,nm,body,hp⟩:=hd;unfold J7 at c4;obtain⟨k1,k2⟩:=an2 c4;obtain⟨e1,rfl,k3⟩:=iS k1;obtain⟨rn,np,rfl,k4⟩:=aZ k3;obtain⟨k5,k6⟩:=an2 k4;cases eq_of_beq k5;obtain⟨n,rfl,k7⟩:=iS k2;obtain⟨l5,l6,l7,l8,l9⟩:=an5 k7;obtain⟨i,hi⟩:=Ye (YY.mp l6);exact⟨ss,[],tp,n,np,hp,body,rfl,h3,i,hi,by simpa using l5,by simpa using l7,by simpa using l8,k6,l9⟩
theorem Fz{iv:Nat}{ss:List Stmt}(h:J8 b iv ss=true):∃av np cp rp,ss=[.Raise (some (.Call (.Name "NoWay" np) [av] [] cp)) none rp]/\b.glo "NoWay" = true/\wV b iv av=true:=by
 obtain⟨s,rfl,h⟩:=bC h;obtain⟨v,k,p,rfl,h⟩:=mX h;obtain⟨h1,h2⟩:=an2 h;obtain⟨e,rfl,h3⟩:=iS h2;obtain⟨x,np,es,ks,cp,rfl,h4⟩:=gy h3;obtain⟨a,rfl,h5⟩:=bC h4;obtain⟨h6,h7,h8,h9⟩:=an4 h5;cases bH h6;cases eq_of_beq h7;cases k with
 |some _=>cases h1
 |none=>exact⟨a,np,cp,p,rfl,h8,h9⟩
theorem FA{n:Str}{ss:List Stmt}(h:J9 b n ss=true):∃q1 q2 q3 q4 q5 wp p2 p3 kd kp cp2 bp kd2 kp2 rp2 ip q6 q7 rp3,ss=[.If (.BoolOp .Or [.UnaryOp .Not (.Call (.Name "isinstance" q1) [.Name n q2,.Name "NoWay" q3] [] q4) q5,.Compare (.Call (.Name dc wp) [.Name n p2] [] p3) [.NotEq] [.Constant (.str "way") kd kp] cp2] bp) [.Return (some (.Constant .none kd2 kp2)) rp2] [] ip,.Return (some (.Attribute (.Name n q6) "stuck" q7)) rp3]/\b.glo dc=true/\b.glo "isinstance" = true:=by
 obtain⟨s1,ss,rfl,h⟩:=bE h;obtain⟨s2,rfl,h⟩:=bC h;obtain⟨h1,h2⟩:=an2 h;obtain⟨t,p,q,r,rfl,h3,h4,h5⟩:=qA h1;obtain⟨s0,rfl,h4⟩:=bC h4;obtain⟨v0,rp2,rfl,h4⟩:=gf h4;obtain⟨kd2,kp2,rfl⟩:=wa h4;cases bH h5;obtain⟨x,y,bp,rfl,h6,h7⟩:=f8 h3;obtain⟨w,q5,rfl,h8⟩:=kK h6;obtain⟨a1,a2,q1,q4,rfl,g1,g2,_,g3,_⟩:=bD h8;obtain⟨y1,q2,rfl,e1⟩:=aZ g2;cases eq_of_beq e1;obtain⟨y2,q3,rfl,e2⟩:=aZ g3;obtain⟨e2,_⟩:=an2 e2;cases eq_of_beq e2;obtain⟨l,z,cp2,rfl,g4,g5,_⟩:=iV h7;obtain⟨kd,kp,rfl⟩:=kJ g5;obtain⟨wp,p2,p3,rfl,g6⟩:=C1 g4;obtain⟨v2,rp3,rfl,g7⟩:=gf h2;obtain⟨o,m,q7,rfl,g8⟩:=cT g7;obtain⟨g9,g10⟩:=an2 g8;cases eq_of_beq g9;obtain⟨y3,q6,rfl,e3⟩:=aZ g10;cases eq_of_beq e3;exact⟨q1,q2,q3,q4,q5,wp,p2,p3,kd,kp,cp2,bp,kd2,kp2,rp2,_,q6,q7,rp3,rfl,g6,g1⟩
theorem C3{k:Nat}(rc:RCx T g ar k b X E R Ds):∀ (rs:List RS) (ss:List Stmt),xc T b rs ss=true->PSs X ss (tRs X.K Ds E g ar rs)
 |[],ss,h=>by
  rw[bH h];refine PSs.imp eX fun D σ H ⟨hD,m,ρ,S,r,S',Ev,Rl,e,q⟩=>?_;cases e;exact hD σ H (q m H (Aft.refl Rl) _ eG)
 |.pl c::rs,ss,h=>by
  obtain⟨s,ss,rfl,h⟩:=bE h;obtain⟨h1,h2⟩:=an2 h;refine PSs.imp (bu (Fm ((Fj 59).s b X.nox s c rc.G rc.kind h1)) (C3 rc rs ss h2)) fun D σ H ⟨hD,m,ρ,S,r,S',Ev,Rl,e,q⟩=>?_;simp only[gJ] at e;split at e
  ·rename_i ρ1 S1 hs;exact⟨m,ρ,S,.nx,ρ1,S1,Ev,Rl,hs,fun m1 H1 A1 σ1 E1=>⟨hD,m1,ρ1,S1,r,S',E1,A1.rel,e,fun m2 H2 A2=>q m2 H2 (A1.trans A2)⟩⟩
  ·rename_i v ρ1 S1 hs;cases e;exact⟨m,ρ,S,_,_,_,Ev,Rl,hs,fun m1 H1 A1 u vu=>q m1 H1 A1 u vu⟩
  ·cases e
 |.rsd iw it::rs,ss,h=>by
  obtain⟨s,rfl,c0⟩:=bC h;obtain⟨ss,hs,tp,n,np,hp,body,rfl,h1,i,hi,l5,l7,l8,k6,hb⟩:=C2 c0;obtain⟨s0,rfl,l10⟩:=bC hb;obtain⟨v2,rp2,rfl,l11⟩:=gf l10;obtain⟨wp,p2,p3,rfl,k12⟩:=C1 l11;obtain⟨h2,h3⟩:=an2 h1;obtain⟨fw,fdw,psW,NW,stw,w1,w2,w3,w4,w5,w6⟩:=rc.word;have h14:ss.length=14:=by simpa using h2
  refine PSs.imp (bN (Fx (b:=b) (i:=i) (iw:=iw) (it:=it) rc.stk rc.frm rc.G.calm rc.G.hs rc.G.hN rc.xi rc.G.room.depth w2 w3 w4 w5 w6 (rc.G.gl k12).1 w1 (rc.G.gl k12).2 (rc.G.gl k6).1 (by rw[show X.N=b.N from rc.G.hN];exact rc.G.nd) (by rw[show X.N=b.N from rc.G.hN];exact hi) (by rw[show X.env.scope=b.sc from rc.G.hs];exact l5) l7 l8 rc.kin h14 h3)) fun D σ H ⟨hD,m,ρ,S,r,S',Ev,Rl,e,q⟩=>?_;simp only[gJ] at e;split at e
  ·rename_i z d hz hd;obtain⟨u,hu,vu⟩:=Ev.at_ _ _ hz;obtain⟨u2,hu2,vu2⟩:=Ev.at_ _ _ hd;rw[vu.ints] at hu;cases hw:eS[rI z]? with
   |none=>rw[hw] at e;cases e
   |some w=>
    rw[hw] at e;cases e;have ix:=xa (z:=z) (ss:=ss) (c:=0) (by omega) (by omega) (fun a _=>a);exact⟨z,u2,w,hu,hu2,by rw[ix];exact J6,by rw[ix];exact hw,fun H2 x2=>q m H2 (kS (Aft.refl Rl) x2) _ eJ⟩
  ·cases e
 |.stk iv::rs,ss,h=>by
  obtain⟨s,rfl,c0⟩:=bC h;obtain⟨ss,hs,tp,n,np,hp,body,rfl,h1,i,hi,l5,l7,l8,k6,hb⟩:=C2 c0;obtain⟨av,np1,cp,rp,rfl,g1,g2⟩:=Fz h1;obtain⟨q1,q2,q3,q4,q5,wp,p2,p3,kd,kp,cp2,bp,kd2,kp2,rp2,ip,q6,q7,rp3,rfl,k12,g3⟩:=FA hb;obtain⟨fw,fdw,psW,NW,stw,w1,w2,w3,w4,w5,w6⟩:=rc.word;obtain⟨C,fI,KC,qI,fdI,psI,NI,stI,n1,n2,n3,n4,n5,n6,n7,n8⟩:=rc.ni;have hv:=c9 rc.G.hs rc.G.hN g2;obtain⟨ay,ap,rfl,_⟩:=aZ g2;refine PSs.imp (bN (Ft (i:=i) (iv:=iv) rc.stk rc.frm rc.G.calm rc.xi (n3 _ rc.kin) n1 rc.G.room n4 n5 n6 n7 n8 w2 w3 w4 w5 w6 (rc.G.gl k12).1 w1 (rc.G.gl k12).2 (rc.G.gl k6).1 (rc.G.gl g3).1 (rc.G.gl g1).1 n2 hv rfl (by rw[show X.N=b.N from rc.G.hN];exact rc.G.nd) (by rw[show X.N=b.N from rc.G.hN];exact hi) (by rw[show X.env.scope=b.sc from rc.G.hs];exact l5) l7 l8)) fun D σ H ⟨hD,m,ρ,S,r,S',Ev,Rl,e,q⟩=>?_;simp only[gJ] at e;split at e
  ·rename_i ds hz;cases e;obtain⟨u,hu,vu⟩:=Ev.at_ _ _ hz;obtain⟨l,vs,rfl,hH,vd⟩:=vu.tups;exact⟨l,hu,fun H2 x2=>q m H2 (kS (Aft.refl Rl) x2) _ (VD.mono Rl (kS (Aft.refl Rl) x2).ext vu)⟩
  ·cases e
theorem Au{i n:Nat}:FnOk P w K mg base (CXE P w) 0 f fd ps (spX K Ds (evX aj 0 i) n):=
 ⟨fun vs H Q E h=>(by obtain⟨m,ds,S,d,S',_,_,_,e,_⟩:=h;cases e),fun A outer s H args us vs Q E _ _ _ _ h=>(by obtain⟨m,ds,S,d,S',_,_,_,e,_⟩:=h;cases e)⟩
theorem qG(T:TextOk K mg con aj)(xi:XInf K mg R Ds)(ni:As K mg R Ds)(kin:K.In base)(hc:aj.all (xf (jS con aj))=true)(hw:aj.any qF=true):∀ (k i:Nat) (d:DefE),aj[i]?=some d->∀f fd,mg d.x=some (.ref f)->Fun K d.x d.x d.st f fd->FnOk P w K mg base (CXE P w) k f fd d.ps (spX K Ds (evX aj k i) d.ps.length)
 |0,i,d,_,f,fd,_,_=>Au
 |k+1,i,d,hd,f,fd,hm,F=>by
  have ih:=qG T xi ni kin hc hw k;have ck:=ZD.mp hc d (Zn hd);unfold xf at ck;rw[bAE] at ck;have S:=kR ck.1
  have word:∃fw fdw psW NW stw,mg dc=some (.ref fw)/\Fun K dc dc stw fw fdw/\FnScope NW psW (ag stw)/\bX K fdw psW []/\psW.length=1/\jl ⟨ag stw,none,NW⟩ eA eS (aI stw)=true:=by
   obtain⟨dw,hmem,hq⟩:=Yn.mp hw;obtain⟨j,hj⟩:=Ye hmem;unfold qF at hq;obtain⟨q1,q2,q3⟩:=an3 hq;obtain⟨fw,fdw,m1,m2,m3,m4⟩:=T.fn j dw hj;have ck2:=ZD.mp hc dw hmem;unfold xf at ck2;rw[bAE] at ck2;rw[<-eq_of_beq q1];exact⟨fw,fdw,dw.ps,dw.N,dw.st,m1,m4,kR ck2.1,m3,by simpa using q2,q3⟩
  obtain⟨oc,od,kV,doc,pm,an,cdv,ct,osl,rfl,lk,hcd⟩:=F.ex;refine IP lk hcd S (fun vs H Q E h=>?_) fun A outer s H vs Q E hr h=>?_
  ·obtain⟨m,ds,S,d',S',vd,_,hl,_⟩:=h;rw[<-vd.length,hl]
  ·have FX:∀ (j:Nat) (y:Str × Nat),(jS con aj).fns[j]?=some y->fF aj j=y.2/\∃f fd ps,mg y.1=some (.ref f)/\W2 K (.ref f)=true/\bX K fd ps []/\FnOk P w K mg base (CXE P w) k f fd ps (spX K Ds (evX aj k j) (fF aj j)):=fun j y hy=>by
    have hy':(aj.map fun d=>(d.x,d.ps.length))[j]?=some y:=hy;rw[ZC] at hy';cases hj:aj[j]? with
    |none=>rw[hj] at hy';cases hy'
    |some e=>
     rw[hj] at hy';cases hy';have ha:fF aj j=e.ps.length:=by unfold fF;rw[hj]
     obtain⟨f',fd',m',k',b',F'⟩:=T.fn j e hj;refine⟨ha,f',fd',e.ps,m',k',b',?_⟩;rw[ha];exact ih j e hj f' fd' m' F'
   have G:CtxOk (jS con aj) (toC (evX aj k)) (fF aj) k ⟨ag d.st,none,d.N⟩ (jd (CXE P w) P w K mg base d.N d.x (ag d.st) f cdv A outer s H E).nox:=by
    refine⟨rfl,rfl,rfl,rfl,S.nd,fun _ _=>rfl,hr,T.con,T.bl,fun j y hy=>?_⟩;obtain⟨ha,f',fd',ps',m',k',b',F'⟩:=FX j y hy;exact⟨ha,f',fd',ps',m',k',b',F'.imp fun vs H Q E q=>xg q⟩
   obtain⟨m,ds,S0,r,S',vd,Rl,hl,e,q⟩:=h;simp only[evX,hd] at e;cases hrb:d.rb with
   |none=>
    rw[hrb] at e ck;dsimp only at e ck;refine⟨_,((Fj FU).ss _ _ (aI d.st) d.body G S.kind ck.2).nox,?_⟩;unfold Ar at e;cases hx:de (toC (evX aj k)) (fF aj) FU d.body (ds.map some++Zi (d.N.length - ds.length) none) S0 with
    |none=>rw[hx] at e;cases e
    |some z=>
     obtain⟨fl,ρ',S1⟩:=z;rw[hx] at e;refine⟨m,_,S0,fl,ρ',S1,jT vd,Rl,hx,fun m' H' A'=>?_⟩;cases fl with
     |nx=>cases e;exact fun σ _=>q m' H' A' .non eG
     |rt v=>cases e;exact fun u vu=>q m' H' A' u vu
     |bk=>cases e
     |ct=>cases e
   |some rs=>
    rw[hrb] at e ck;dsimp only at e ck
    have rc:RCx (jS con aj) (evX aj k) (fF aj) k ⟨ag d.st,none,d.N⟩ (jd (CXE P w) P w K mg base d.N d.x (ag d.st) f cdv A outer s H E) E R Ds:=
     ⟨G,xi,ni,kin,fun j y hy=>(FX j y hy).2,JB,fun pins σ H s h1 e c args I mk hE=>JC I mk hE,rfl,rfl,S.kind,word⟩
    exact⟨_,C3 rc rs (aI d.st) ck.2,fun _ _ z=>z,m,_,S0,r,S',jT vd,Rl,e,q⟩
end
noncomputable def qH(d:DefE):Option jo:=some ((d.x,d.x),(bM d.st,aI d.st),(ag d.st,VS),([],.none),(Vq,some d.x))
theorem qJ:∀ {l:List Nat},Dq l=true->l.Nodup
 |[],_=>Xq
 |a::l,h=>by
  obtain⟨h1,h2⟩:=an2 h;refine ZU.mpr ⟨fun hm=>?_,qJ h2⟩;rw[YY.mpr hm] at h1;cases h1
noncomputable def dG(h:Heap)(x:Str):WN:=match h.nsMap VS x with
 | some (.ref C)=>(match h.get? C with
  | some ⟨c0,dd,.cls cd,sl⟩=>(C,⟨c0,dd,.cls cd,sl⟩)::(match h.get? cd.ns with
   |some ⟨c1,d1,.dict es ep,s1⟩=>[(cd.ns,⟨c1,d1,.dict es ep,s1⟩)]
   | _=>[])
  | _=>[])
 |_=>[]
abbrev xh:=Bool × List (Option jo) × List (Option Int) × List Bool × Bool
noncomputable def qK(ini:DefE):Option jo:=some ((ini.x, "NoWay.__init__"),(bM ini.st,aI ini.st),(ag ini.st,VS),([],.none),(Vq,some "NoWay.__init__"))
noncomputable def FC(con:List (Str × Int))(aj:List DefE)(h:Heap):xh:=(h.isNs VS,Al h::aj.map (fun d=>yj h d.x),con.map (fun c=>Io h c.1),(df.map fun x=>(h.nsMap VS x).isNone),ym h && Am h)
noncomputable def xj(con:List (Str × Int))(aj:List DefE)(ini:DefE):xh:=(true,qK ini::aj.map qH,con.map (fun c=>some c.2),(df.map fun _=>true),true)
noncomputable def jU(d:DefE):Bool:=d.x == ("__init__" : Str) && d.ps.length == 2 && qE d.N d.ps (ag d.st) && mW ⟨ag d.st,none,d.N⟩ (aI d.st)
def C4(d:DefE):Prop:=∀ (kV doc pm:Value) (an:Option Addr) (cdv ct:Value) (us:List Value),us.length=d.ps.length->Vm (WX d.x d.x (bM d.st) (aI d.st) (ag d.st) .none kV doc pm an cdv ct) ⟨us,[]⟩=pure (d.ps.zip us)
def mY(d:DefE):Prop:=∀ (kV doc pm:Value) (an:Option Addr) (cdv ct:Value) (us:List Value),us.length=d.ps.length->Vm (WX d.x "NoWay.__init__" (bM d.st) (aI d.st) (ag d.st) .none kV doc pm an cdv ct) ⟨us,[]⟩=pure (d.ps.zip us)
def tj:List DefE->Prop
 |[]=>True
 |d::ds=>C4 d/\tj ds
theorem tj.at:∀ {ds:List DefE} {d:DefE},tj ds->d ∈ ds->C4 d
 |e::ds,d,h,hd=>by
  rcases Zk.mp hd with rfl |hd
  ·exact h.1
  ·exact tj.at h.2 hd
noncomputable def jV(h:Heap)(f:Addr):WN:=match h.get? f with
 | some o=>(f,o)::(match o.data with
  | .func fd=>(match fd.code with
   |.ref c=>(match h.get? c with |some oc=>[(c,oc)] |none=>[])
   | _=>[])
  | _=>[])
 |none=>[]
noncomputable def i7(h:Heap)(d:DefE):WN:=match h.nsMap VS d.x with
 |some (.ref f)=>jV h f
 |_=>[]
def Ka(K:WN):Prop:=∀a o,K.lookup a=some o->∀its n,o.data ≠ .seq its n
structure Says(con:List (Str × Int))(aj:List DefE)(h:Heap):Prop where
 ns:∃m,h.Ns VS m
 frag:∃K:WN,K.In h/\Ka K/\∀mg,h.Ns VS mg->TextOk K mg con aj
theorem dH{K:WN}{a:Addr}{o:Obj}(h:K.lookup a=some o):(a,o) ∈ K:=by
 induction K with
 |nil=>cases h
 |cons p K ih=>
  obtain⟨b,q⟩:=p;rw[ZA] at h;cases hb:a == b with
  |true=>
   rw[hb] at h;cases h;have:a=b:=by simpa using hb
   subst this;exact Zg
  |false=>rw[hb] at h;exact Zd _ (ih h)
theorem xk{K:WN}{a:Addr}{o:Obj}(h:(a,o) ∈ K):∃o',K.lookup a=some o':=by
 induction K with
 |nil=>cases h
 |cons p K ih=>
  obtain⟨b,q⟩:=p;rw[ZA];cases hb:a == b with
  |true=>exact⟨_,rfl⟩
  |false=>
   rcases Zk.mp h with e |h
   ·cases e;simp at hb
   ·exact ih h
theorem xl(e:(a,o) ∈ jV h f):h.get? a=some o:=by
 unfold jV at e;cases hf:h.get? f with
 |none=>rw[hf] at e;cases e
 |some of=>
  rw[hf] at e;dsimp only at e;rcases Zk.mp e with q |e
  ·cases q;exact hf
  ·split at e
   ·split at e
    ·rename_i c hc;cases hc':h.get? c with
     |none=>rw[hc'] at e;cases e
     |some oc=>
      rw[hc'] at e;dsimp only at e;rcases Zk.mp e with q |e
      ·cases q;exact hc'
      ·cases e
    ·cases e
   ·cases e
theorem xm{h:Heap}{a:Addr}{mg:Str->Option Value}(N:h.Ns a mg):h.nsMap a=mg:=by
 obtain⟨o,es,ep,ho,hd,_,hm⟩:=N
 funext x
 unfold Heap.nsMap;rw[ho];dsimp only;rw[hd];exact hm x
theorem xn(e:yj h d.x=qH d):∃f oc od kV doc pm an c ct osl cc cd vs a t r cs,h.nsMap VS d.x=some (.ref f)/\h.get? f=some ⟨oc,od,.func (WX d.x d.x (bM d.st) (aI d.st) (ag d.st) .none kV doc pm an (.ref c) ct),osl⟩ ∧
  h.get? c=some ⟨cc,cd,.fields vs,cs⟩/\vs.toList=a :: .str d.x t::r:=by
 unfold yj qH at e;split at e
 ·rename_i f hf;unfold yi at e;split at e
  ·rename_i oc od nm qn ps b sc gl cl dv kV doc pm an cdv ct bi osl hg;simp only[Option.some.injEq,Prod.mk.injEq] at e;obtain⟨⟨rfl,rfl⟩,⟨rfl,rfl⟩,⟨rfl,rfl⟩,⟨rfl,rfl⟩,rfl,e⟩:=e;unfold tO at e;split at e
   ·rename_i c;split at e
    ·rename_i cc cd vs cs hc;split at e
     ·rename_i a n t r hv;cases e;exact⟨f,oc,od,kV,doc,pm,an,c,ct,osl,cc,cd,vs,a,t,r,cs,hf,hg,hc,hv⟩
     ·cases e
    ·cases e
   ·cases e
  ·cases e
 ·cases e
theorem kT{h:Heap}{a:Addr}{o:Obj}:∀ {l:List Addr},(a,o) ∈ objs h l->h.get? a=some o
 |[],e=>by cases e
 |b::l,e=>by
  unfold objs at e;rcases ZK.mp e with e |e
  ·cases hb:h.get? b with
   |none=>rw[hb] at e;cases e
   |some ob=>
    rw[hb] at e;rcases Zk.mp e with z |e
    ·cases z;exact hb
    ·cases e
  ·exact kT e
theorem qL{h:Heap}{a:Addr}{o:Obj}(e:h.get? a=some o):∀ {l:List Addr},a ∈ l->(a,o) ∈ objs h l
 |b::l,m=>by
  unfold objs;rcases Zk.mp m with rfl |m
  ·rw[e];exact ZL _ Zg
  ·exact Zr _ (qL e m)
theorem gz{h:Heap}{a:Addr}{o:Obj}:∀ {l:List Addr},(a,o) ∈ objs h l->a ∈ l
 |[],e=>by cases e
 |b::l,e=>by
  unfold objs at e;rcases ZK.mp e with e |e
  ·cases hb:h.get? b with
   |none=>rw[hb] at e;cases e
   |some ob=>
    rw[hb] at e;rcases Zk.mp e with z |e
    ·cases z;exact Zg
    ·cases e
  ·exact Zd _ (gz e)
theorem qM:∀ {K:WN},Ak K=true->∀a o,(a,o) ∈ K->∀its n,o.data ≠ .seq its n
 |[],_,_,_,e,_,_=>by cases e
 |(b,⟨c,d,dat,sl⟩)::K,h,a,o,e,its,n=>by
  have hK:Ak K=true:=by cases dat <;> first |exact h |cases h
  rcases Zk.mp e with z |e
  ·cases z;intro q;dsimp only at q;subst q;cases h
  ·exact qM hK a o e its n
theorem xo{h:Heap}{ini:DefE}(e:Al h=qK ini):∃oc od kV doc pm an c ct osl cc cd vs a t r cs,h.get? (gH h)=some ⟨oc,od,.func (WX ini.x "NoWay.__init__" (bM ini.st) (aI ini.st) (ag ini.st) .none kV doc pm an (.ref c) ct),osl⟩ ∧
  h.get? c=some ⟨cc,cd,.fields vs,cs⟩/\vs.toList=a :: .str "NoWay.__init__" t::r/\Aj h (gH h)=c/\h.nsMap (cO h (adX h "NoWay")) "__init__" = some (.ref (gH h)):=by
 unfold Al qK at e;split at e
 ·rename_i f hf;have hi:gH h=f:=by unfold gH;rw[hf]
  unfold yi at e;split at e
  ·rename_i oc od nm qn ps b sc gl cl dv kV doc pm an cdv ct bi osl hg;simp only[Option.some.injEq,Prod.mk.injEq] at e;obtain⟨⟨rfl,rfl⟩,⟨rfl,rfl⟩,⟨rfl,rfl⟩,⟨rfl,rfl⟩,rfl,e⟩:=e;unfold tO at e;split at e
   ·rename_i c;split at e
    ·rename_i cc cd vs cs hc;split at e
     ·rename_i a n t r hv;cases e;rw[hi];exact⟨oc,od,kV,doc,pm,an,c,ct,osl,cc,cd,vs,a,t,r,cs,hg,hc,hv,by unfold Aj;rw[hg],hf⟩
     ·cases e
    ·cases e
   ·cases e
  ·cases e
 ·cases e
theorem mZ(e:(a,o) ∈ dG h x):h.get? a=some o/\∀its n,o.data ≠ .seq its n:=by
 unfold dG at e;split at e
 ·split at e
  ·rename_i C _ c0 dd cd sl hC;rcases Zk.mp e with q |e
   ·cases q;exact⟨hC,fun _ _ z=>nomatch z⟩
   ·split at e
    ·rename_i c1 d1 es ep s1 hN;rcases Zk.mp e with q |e
     ·cases q;exact⟨hN,fun _ _ z=>nomatch z⟩
     ·cases e
    ·cases e
  ·cases e
 ·cases e
theorem kU(e:Dp h x=true):∃dd cd sl,h.nsMap VS x=some (.ref (adX h x))/\(adX h x,(⟨.type "type", dd,.cls cd,sl⟩:Obj)) ∈ dG h x:=by
 unfold Dp at e;split at e
 ·rename_i C hx;split at e
  ·rename_i dd cd sl hC;have z:adX h x=C:=by unfold adX;rw[hx]
   refine⟨dd,cd,sl,by rw[hx,z],?_⟩;unfold dG;rw[hx,z];dsimp only;rw[hC];exact Zg
  ·cases e
 ·cases e
theorem qN{h:Heap}{bm:List Value}{x:Str}(e:yk h bm x=true){K:WN}(lk:∀a o,(a,o) ∈ dG h x->K.lookup a=some o):h.nsMap VS x=some (.ref (adX h x))/\∀h',K.In h'->iW h' (adX h x) bm:=by
 unfold yk at e;split at e
 ·rename_i C hx;split at e
  ·rename_i dd cd sl hC;split at e
   ·rename_i C' bm' k0 k1 k2 k3 n k5 hm hs;simp only[bAE,beq_iff_eq,Bool.not_eq_true',ZD] at e;obtain⟨⟨⟨⟨⟨rfl,rfl⟩,rfl⟩,hdel⟩,hns⟩,hq⟩:=e;have z:adX h x=C':=by unfold adX;rw[hx]
    refine⟨by rw[hx,z],fun h' KX=>?_⟩;rw[z];have N:=Heap.Ns.of_isNs hns;obtain⟨oN,es,ep,hN,hd,r⟩:=id N;obtain⟨c1,d1,dat,s1⟩:=oN;dsimp only at hd;subst hd
    have m1:(C',(⟨.type "type", dd,.cls cd,sl⟩:Obj)) ∈ dG h x:=by
     unfold dG;rw[hx];dsimp only;rw[hC];exact Zg
    have m2:(cd.ns,(⟨c1,d1,.dict es ep,s1⟩:Obj)) ∈ dG h x:=by
     unfold dG;rw[hx];dsimp only;rw[hC];dsimp only;rw[hN];exact Zd _ Zg
    have g1:=KX _ _ (lk _ _ m1);have g2:=KX _ _ (lk _ _ m2);obtain⟨nm,bs,mro,ns,qn,hdd,sn,sub,ab,col,del⟩:=cd;dsimp only at hm hdel hns hq N hN r m1 m2 g1 g2;subst hm hdel
    have hsl:sl=#[k0,k1,k2,k3,some (.builtin "ValueError.__new__"),k5]:=by
     obtain⟨l⟩:=sl;simp only at hs;rw[hs]
    subst hsl;exact⟨ns,nm,qn,bs,hdd,sn,sub,ab,col,dd,k0,k1,k2,k3,k5,h.nsMap ns,g1,⟨_,es,ep,g2,rfl,r⟩,fun n hn=>by simpa using hq n hn⟩
   ·cases e
  ·cases e
 ·cases e
theorem Av{h:Heap}(e:ym h=true){K:WN}{mg:Str->Option Value}(hm:h.nsMap VS=mg)(hb:mg "isinstance" = none)(lk:∀x,x ∈ ("RingError" : Str)::eA->∀a o,(a,o) ∈ dG h x->K.lookup a=some o):XInf K mg (adX h "RingError") (eA.map (adX h)):=by
 unfold ym at e;obtain⟨e1,e2,e3,e4,e5⟩:=an5 e;subst hm;have r1:=qN e1 (lk _ Zg);have nd:=ZU.mp (qJ e4);refine⟨r1.1,by simpa using e5,hb,r1.2,fun h' KX i C hi h14=>?_,fun h' KX D hD=>?_,nd.2,fun D hD z=>nd.1 (z ▸ hD),fun i x hx=>?_,by rw[Ze];rfl⟩
 ·rw[ZC] at hi;cases hx:eA[i]? with
  |none=>rw[hx] at hi;cases hi
  |some x=>
   rw[hx] at hi;cases hi;have hmem:x ∈ eA.take 14:=Zn (i:=i) (by rw[YJ h14];exact hx);exact(qN (ZD.mp e2 x hmem) (lk x (Zd _ (Zn hx)))).2 h' KX
 ·obtain⟨x,hx,rfl⟩:=Xx.mp hD;obtain⟨dd,cd,sl,_,m⟩:=kU (ZD.mp e3 x hx);exact⟨dd,cd,sl,KX _ _ (lk x (Zd _ hx) _ _ m)⟩
 ·obtain⟨dd,cd,sl,m,_⟩:=kU (ZD.mp e3 x (Zn hx));exact⟨adX h x,by rw[ZC,hx];rfl,m⟩
theorem Aw{h:Heap}{C R fI:Addr}(e:Fn h C (.ref R::bmV)=true)(hi:h.nsMap (cO h C) "__init__" = some (.ref fI)):cY h C R fI/\sZ h C:=by
 unfold Fn at e;split at e
 ·rename_i dd cd sl hC;split at e
  ·rename_i C' bm' k0 k1 k2 k3 n k5 hm hs;simp only[bAE,beq_iff_eq,Bool.not_eq_true',ZD] at e;obtain⟨⟨⟨⟨⟨⟨rfl,rfl⟩,rfl⟩,hdel⟩,hdct⟩,hns⟩,hq⟩:=e;have en:cO h C'=cd.ns:=by unfold cO;rw[hC]
   rw[en] at hi;have N:=Heap.Ns.of_isNs hns;obtain⟨nm,bs,mro,ns,qn,hdd,sn,sub,ab,col,del⟩:=cd;dsimp only at hm hdel hns hq hi N hdct;subst hm hdel hdct
   have hsl:sl=#[k0,k1,k2,k3,some (.builtin "ValueError.__new__"),k5]:=by
    obtain⟨l⟩:=sl;simp only at hs;rw[hs]
   subst hsl;refine⟨⟨ns,nm,qn,bs,true,sn,sub,ab,col,dd,k0,k1,k2,k3,k5,h.nsMap ns,hC,N,hi,fun n hn=>by simpa using hq n hn⟩,fun cd' dd' sl' z=>?_⟩;rw[hC] at z;cases z;rfl
  ·cases e
 ·cases e
theorem cY.on{h h':Heap}{C R fI:Addr}(x:cY h C R fI)(k:∀a o,h.get? a=some o->a=C\/a=cO h C->h'.get? a=some o):cY h' C R fI:=by
 obtain⟨N,nm,q,bs,hdct,sn,sub,ab,col,dd,k0,k1,k2,k3,k5,mN,hC,⟨o,es,ep,ho,r⟩,hi,hq⟩:=x;have en:cO h C=N:=by unfold cO;rw[hC]
 exact⟨N,nm,q,bs,hdct,sn,sub,ab,col,dd,k0,k1,k2,k3,k5,mN,k _ _ hC (.inl rfl),⟨o,es,ep,k _ _ ho (.inr en.symm),r⟩,hi,hq⟩
theorem Ax{h h':Heap}{R:Addr}(x:iW h R bmV)(hq:(quM.all fun q=>(h.nsMap (cO h R) q).isNone)=true)(k:∀a o,h.get? a=some o->a=R\/a=cO h R->h'.get? a=some o):gI h' R:=by
 obtain⟨N,nm,q,bs,hdct,sn,sub,ab,col,dd,k0,k1,k2,k3,k5,mN,hC,hN,_⟩:=x;have en:cO h R=N:=by unfold cO;rw[hC]
 have em:=xm hN;obtain⟨o,es,ep,ho,r⟩:=hN;refine⟨N,nm,q,bs,hdct,sn,sub,ab,col,dd,k0,k1,k2,k3,k5,mN,k _ _ hC (.inl rfl),⟨o,es,ep,k _ _ ho (.inr en.symm),r⟩,fun n hn=>?_⟩;have z:=ZD.mp hq n hn;rw[en,em] at z
 simpa using z
noncomputable def kW(h:Heap)(aj:List DefE):WN:=aj.flatMap (i7 h)++((("RingError" : Str)::eA).flatMap (dG h)++nws h)
theorem Ay{h:Heap}{K:WN}{mg:Str->Option Value}{R:Addr}{Ds:List Addr}{ini:DefE}(hbI:mY ini)(hcI:jU ini=true)(eI:Al h=qK ini)(e:Am h=true)(xi:XInf K mg (adX h "RingError") (eA.map (adX h)))(hmg:mg "NoWay" = some (.ref (adX h "NoWay")))(kh:K.In h)(lk:∀a o,h.get? a=some o->a ∈ nwL h->K.lookup a=some o):As K mg (adX h "RingError") (eA.map (adX h)):=by
 unfold Am at e;obtain⟨n1,n2,n3,n4,n5⟩:=an5 e;obtain⟨r1,r2,r3⟩:=an3 n5;obtain⟨oc,od,kV,doc,pm,an,c,ct,osl,cc,cd,vs,a',t,r,cs,g1,g2,g3,g4,g5⟩:=xo eI;obtain⟨hCI,hHD⟩:=Aw n1 g5;have mR:adX h "RingError" ∈ nwL h:=by unfold nwL;simp
 have mRn:cO h (adX h "RingError") ∈ nwL h:=by unfold nwL;simp
 have mC:adX h "NoWay" ∈ nwL h:=by unfold nwL;simp
 have mCn:cO h (adX h "NoWay") ∈ nwL h:=by unfold nwL;simp
 have mI:gH h ∈ nwL h:=by unfold nwL;simp
 have mD:Aj h (gH h) ∈ nwL h:=by unfold nwL;simp
 have mS:Vr ∈ nwL h:=by unfold nwL;simp
 rw[g4] at mD;have l1:=lk _ _ g1 mI;have l2:=lk _ _ g2 mD;have kp:W2 K (.ref (gH h))=true:=by unfold W2;dsimp only;rw[l1]
 have cdI:WT K (.ref c) "NoWay.__init__" = true:=by
  unfold WT;dsimp only;rw[l2];dsimp only;rw[g3];simp
 unfold jU at hcI;obtain⟨c1,c2,c3,c4⟩:=an4 hcI;have ex:ini.x = "__init__" := eq_of_beq c1;have F:=uu (st:=ini.st) (x:=ini.x) (qual := "NoWay.__init__") l1 cdI kp;refine⟨adX h "NoWay", gH h,kcs h, "NoWay.__init__", _,ini.ps,ini.N,ini.st,rfl,hmg,fun h' K'=>?_,ex ▸ F,kR c3,F.binds hbI,by simpa using c2,c4⟩;have kn:∀a o,h.get? a=some o->a ∈ nwL h->h'.get? a=some o:=fun a o q m=>K' _ _ (lk a o q m);refine⟨hCI.on fun a o q m=>kn a o q (by rcases m with rfl |rfl <;> assumption),xi.hR h' K',Ax (xi.hR h kh) n2 fun a o q m=>kn a o q (by rcases m with rfl |rfl <;> assumption),fun cd' dd' sl' z=>?_,fun a o q=>?_,r1,?_,by simpa using r3,?_⟩
 ·obtain⟨N,nm,q,bs,hdct,sn,sub,ab,col,dd,k0,k1,k2,k3,k5,mN,hC,_⟩:=hCI;have y:=kn _ _ hC mC;rw[z] at y;cases y;exact hHD _ _ _ hC
 ·have m:=kT (dH q);refine kn a o m ?_;obtain⟨o',q'⟩:∃o',(a,o') ∈ kcs h:=⟨o,dH q⟩;have:a ∈ [Vr,adX h "RingError", cO h (adX h "RingError")]:=gz q';simp only[Zk,Yg,or_false] at this;rcases this with rfl |rfl |rfl <;> assumption
 ·cases hf:WV (kcs h) (.ref (adX h "RingError")) (.type "type") "__init__" with
  |none=>rw[hf] at r2;cases r2
  |some r=>
   rw[hf] at r2;cases r with
   |get _ _ _ _=>cases r2
   |val v=>
    cases v with
    |builtin n=>rw[show n = "ValueError.__init__" from eq_of_beq r2]
    |_=>cases r2
 ·unfold CZ at n3;split at n3
  ·rename_i d0 dat sl hf;exact⟨_,kn _ _ hf mI,rfl⟩
  ·cases n3
theorem Az{con:List (Str × Int)}{aj:List DefE}{ini:DefE}(hb:tj aj)(hbI:mY ini)(hcI:jU ini=true){h:Heap}(e:FC con aj h=xj con aj ini):Says con aj h:=by
 unfold FC xj at e;simp only[Prod.mk.injEq] at e;obtain⟨e0,e1,e2,e3,e4⟩:=e;obtain⟨eI,e1⟩:=Xw.inj e1;obtain⟨e4,e5⟩:=an2 e4;have N:=Heap.Ns.of_isNs e0;have D:∀d ∈ aj,yj h d.x=qH d:=fun d hd=>YG.mp e1 d hd
 have inK:∀a o,(a,o) ∈ kW h aj->h.get? a=some o:=fun a o he=>by
  rcases ZK.mp he with he |he
  rotate_left
  ·rcases ZK.mp he with he |he
   ·obtain⟨x,_,he⟩:=ZY.mp he;exact(mZ he).1
   ·exact kT he
  obtain⟨d,hd,he⟩:=ZY.mp he;obtain⟨f,oc,od,kV,doc,pm,an,c,ct,osl,cc,cd,vs,a',t,r,cs,g1,g2,g3,g4⟩:=xn (D d hd);unfold i7 at he;rw[g1] at he;exact xl he
 have lk:∀a o,(a,o) ∈ kW h aj->(kW h aj).lookup a=some o:=fun a o he=>by
  obtain⟨o',q⟩:=xk he;have z:=inK a o' (dH q);rw[inK a o he] at z;cases z;exact q
 have kh:(kW h aj).In h:=fun a o q=>inK a o (dH q);refine⟨⟨_,N⟩,kW h aj,kh,fun a o q its n hs=>?_,fun mg G=>?_⟩
 ·rcases ZK.mp (dH q) with he |he
  rotate_left
  ·rcases ZK.mp he with he |he
   ·obtain⟨x,_,he⟩:=ZY.mp he;exact(mZ he).2 its n hs
   ·unfold Am at e5;exact qM (an5 e5).2.2.2.1 a o he its n hs
  obtain⟨d,hd,he⟩:=ZY.mp he;obtain⟨f,oc,od,kV,doc,pm,an,c,ct,osl,cc,cd,vs,a',t,r,cs,g1,g2,g3,g4⟩:=xn (D d hd);unfold i7 at he;rw[g1] at he;dsimp only at he;unfold jV at he;rw[g2] at he;dsimp only at he;rw[g3] at he;dsimp only at he;rcases Zk.mp he with z |he
  ·cases z;cases hs
  ·rcases Zk.mp he with z |he
   ·cases z;cases hs
   ·cases he
 ·have hm:=xm G
  have bl:∀x,x ∈ df->mg x=none:=fun x hx=>by
   have z:=YG.mp e3 x hx;rw[hm] at z
   simpa using z
  have xi:=Av e4 hm (bl _ (by decide)) fun x hx a o ho=>lk a o (Zr _ (ZL _ (ZY.mpr ⟨x,hx,ho⟩)))
  have hNW:mg "NoWay" = some (.ref (adX h "NoWay")):=by
   unfold ym at e4;obtain⟨_,_,_,w,_⟩:=kU (ZD.mp (an5 e4).2.2.1 "NoWay" (by unfold eA;simp));rw[<-hm];exact w
  refine⟨fun i x v hi=>?_,bl,fun i d hi=>?_,_,_,xi,Ay (R:=adX h "RingError") (Ds:=eA.map (adX h)) hbI hcI eI e5 xi hNW kh fun a o q m=>lk a o (Zr _ (Zr _ (qL q m)))⟩
  ·have z:=YG.mp e2 (x,v) (Zn hi);unfold Io at z;rw[hm] at z;dsimp only at z;split at z
   ·rename_i v' t hv;cases z;exact⟨t,hv⟩
   ·cases z
  ·have hd:=Zn hi;obtain⟨f,oc,od,kV,doc,pm,an,c,ct,osl,cc,cd,vs,a',t,r,cs,g1,g2,g3,g4⟩:=xn (D d hd)
   have m1:(f,_) ∈ kW h aj:=ZL _ <| ZY.mpr ⟨d,hd,by
    show _ ∈ i7 h d;unfold i7;rw[g1];dsimp only;unfold jV;rw[g2];exact Zg⟩
   have m2:(c,_) ∈ kW h aj:=ZL _ <| ZY.mpr ⟨d,hd,by
    show _ ∈ i7 h d;unfold i7;rw[g1];dsimp only;unfold jV;rw[g2];dsimp only;rw[g3];exact Zd _ Zg⟩
   have l1:=lk _ _ m1;have l2:=lk _ _ m2;have kp:W2 (kW h aj) (.ref f)=true:=by unfold W2;dsimp only;rw[l1]
   have cdI:WT (kW h aj) (.ref c) d.x=true:=by
    unfold WT;dsimp only;rw[l2];dsimp only;rw[g4];simp
   have F:=uu (st:=d.st) (x:=d.x) (qual:=d.x) l1 cdI kp;refine⟨f,_,by rw[<-hm];exact g1,kp,F.binds (hb.at hd),F⟩
theorem pk(x:Says con aj h)(k:∀b o,h.get? b=some o->h'.get? b=some o):Says con aj h':=by
 obtain⟨⟨m,N⟩,K,KX,ns,T⟩:=x
 have back:∀mg,h'.Ns VS mg->h.Ns VS mg:=fun mg ⟨o,es,ep,ho,r⟩=>by
  obtain⟨o',es',ep',ho',r'⟩:=N;have z:=k _ _ ho';rw[ho] at z;cases z;exact⟨o,es,ep,ho',r⟩
 refine⟨⟨m,let ⟨o,es,ep,ho,r⟩:=N;⟨o,es,ep,k _ _ ho,r⟩⟩,K,fun a o q=>k _ _ (KX a o q),ns,fun mg G=>T mg (back mg G)⟩
noncomputable def gi(con:List (Str × Int))(aj:List DefE)(ini:DefE)(hb:tj aj)(hbI:mY ini)(hcI:jU ini=true):PySem.W.Hook:=
 ⟨xh,fun s=>FC con aj s.heap,fun _=>xj con aj ini,fun _ h=>Says con aj h,fun _ _ e=>Az hb hbI hcI e,fun _ _ _ x k=>pk x k⟩
theorem i8{K:WN}{m:List Addr}{H:Hp}:∀ns:List Int,VDs K m H (ns.map D.int) (ns.map V.int)
 |[]=>by rw[ZO,ZO,VDs]
 |a::l=>by rw[Zq,Zq,VDs];exact⟨_,_,rfl,aQ,i8 l⟩
theorem AA{l:PySem.W.OpenLaw}{n k i:Nat}{q:Program}{loose:List Str}{XP:(Str->Option Value)->Heap->Prop}{d:DefRec}{con:List (Str × Int)}{aj:List DefE}{ini:DefE}{hb:tj aj}{hbI:mY ini}{hcI:jU ini=true}{dl:DefE}{x:Str}
  (hn:l.most=some n) (hn2:n<=sizeLine) (hdf:d.params.defaults=[]) (hr:Room k callerA) (hx:d.name=dl.x) (hi:aj[i]?=some dl) (hps:dl.ps=[x]) (hc:aj.all (xf (jS con aj))=true) (hw:aj.any qF=true)
  (main:∀ns:List Int,ns.length<=n->∃S',evC aj k i [.ref 0] [.frz (ns.map D.int)]=some (.bl true,S')) :
  PySem.W.WalkO q loose XP (gi con aj ini hb hbI hcI).says l.row.toRowW d [] (fun f vs=>PySem.call f vs):=by
 refine Att.attach_call hn hdf fun w s₀ s₁ mg mb fa o pm cd doc a vs ns G Y ho hd hcd hmg hobj hints hlen hg=>?_;obtain⟨_,K,KX,noS,T⟩:=(show Says con aj s₁.heap from Y);have T:=T mg G.T.g;obtain⟨R,Ds,xi,ni⟩:=T.xs;obtain⟨f,fd,hm,kp,_,F⟩:=T.fn i dl hi;rw[hx] at hmg;rw[hmg] at hm;cases hm
 have bd:∀ (s:Shared) (u:Value),BindsTo s fd ⟨[u],[]⟩ [(x,u)]:=fun s u=>by
  obtain⟨oc,od,kV,doc,pm,an,cdv,ct,osl,rfl,lk,hcd⟩:=F.ex;have z:=(hb.at (Zn hi)) kV doc pm an cdv ct [u] (by rw[hps];rfl);rw[hps] at z;exact .of_eq z
 refine ut (CX:=CXE l.row.toRowW.prog w) (sp:=spX K Ds (evX aj k i) dl.ps.length) KX G.T.g G.T.b G.T.builtins G.T.nolimit hg hobj hints (Zv hlen hn2) hr (fun base kin _=>by
  have:=qG (P:=l.row.toRowW.prog) (w:=w) (base:=base) T xi ni kin hc hw k i dl hi fa fd hmg F;rw[hps] at this ⊢;exact this) bd (fun H hO hS=>?_) fun H e s' ⟨_,_,_,_,_,_,_,_,z⟩=>z
 have fz:∃o,H a=some (.frz o (.lst (ns.map V.int))):=by
  rcases hS with (z |⟨o,z⟩) |⟨o,its,n',hk,hc,hdd,hdt,_⟩
  ·rcases hO a with y |⟨o',xs,y⟩
   ·rw[y] at z;cases z
   ·rw[y] at z;cases z
  ·exact⟨o,z⟩
  ·exact absurd hdt (noS a o hk its n')
 obtain⟨o,fz⟩:=fz;obtain⟨S',e⟩:=main ns hlen;refine xg ⟨[a],[.ref 0],[.frz (ns.map D.int)],.bl true,S',?_,⟨rfl,by simp,fun j ob ej=>?_⟩,by rw[hps];rfl,e,fun m' H' v A vv=>vv.bls⟩
 ·rw[VDs];exact⟨_,_,rfl,by rw[VD];exact⟨a,rfl,rfl⟩,by rw[VDs]⟩
 ·cases j with
  |zero=>cases ej;exact⟨a,rfl,o,_,fz,i8 ns⟩
  |succ j=>simp at ej
end Ev
namespace Lw
open PySem Ev
noncomputable def ek:List CS:=[.ifs (.cmp .lt (.var 1) (.len (.var 0))) [.ret (.ix (.var 0) (.var 1))] [],.ret (.int 0)]
noncomputable def jW:List CS:=[.ifs (.cmp .ge (.var 0) (.bin .pow (.int 10) (.int 18))) [.ret (.lst [.bin .sub (.var 0) (.bin .pow (.int 10) (.int 18))])] [],.asg (.name 1) (.int 0),.for_ (.name 2) (.r1 (.int 64)) [.asg (.name 3) (.bin .mod (.bin .mul (.bin .add (.bin .add (.bin .mod (.var 0) (.int 2147483629)) (.bin .mul (.int 7919) (.var 2))) (.int 1)) (.int 48271)) (.int 2147483647)),.asg (.name 3) (.bin .mod (.bin .add (.bin .add (.bin .mul (.var 3) (.var 3)) (.bin .mul (.int 69621) (.var 2))) (.int 7)) (.int 2147483587)),.asg (.name 1) (.bin .add (.bin .mul (.var 1) (.int 2147483587)) (.var 3))],.ret (.lst [.var 1])]
noncomputable def i9:List CS:=[.asg (.name 2) (.bin .mod (.ix (.var 0) (.int 0)) (.var 1)),.setI (.bin .fdiv (.ix (.var 0) (.int 0)) (.var 1)) (.var 0) (.int 0),.ret (.var 2)]
noncomputable def pq:List CS:=[.never,.never,.never,.never,.never,.asg (.name 2) (.lst [.str "meadow", .str "sky", .str "landings", .str "order", .str "lot", .str "text", .str "name", .str "glider", .str "minute", .str "aim", .str "many", .str "bound"]),.never]
noncomputable def fG:List RS:=[.rsd 0 1]
noncomputable def dI:List RS:=[.stk 0]
noncomputable def C5:List CS:=[.asg (.name 1) (.lst [.str "meadow", .str "sky", .str "landings", .str "order", .str "lot", .str "text", .str "name", .str "glider", .str "minute", .str "aim", .str "many", .str "bound"]),.asg (.name 1) (.bin .add (.var 1) (.lst [.str "deed", .str "row"])),.for_ (.name 2) (.r1 (.mx (.int 1) (.mn (.len (.var 0)) (.int 4)))) [.asg (.name 3) (.call 1 [.call 0 [.var 0,.var 2]]),.asg (.name 4) (.join (.str "") (.comp ["_law_turn"] (.ix (.str "abc xyz") (.call 2 [.var 3,.int 7])) [⟨.name 8,.r1 (.call 2 [.var 3,.int 9]),none⟩])),.for_ (.tup [.name 5,.name 6]) (.en (.var 1)) [.ifs (.cmp .ne (.call 4 [.var 5,.var 4]) (.var 6)) [.ret (.bl false)] []],.asg (.name 7) (.comp ["_law_lap"] (.tupOf (.comp ["_law_turn"] (.bin .add (.var 4) (.strI (.var 9))) [⟨.name 9,.r1 (.call 2 [.var 3,.int 8]),none⟩])) [⟨.name 8,.r1 (.int 3),none⟩]),.ifs (.cmp .ne (.comp ["_law_row"] (.call 5 [.var 8]) [⟨.name 8,.val (.bin .add (.var 7) (.lst [.tup []])),none⟩]) (.bin .add (.var 7) (.lst [.tup []]))) [.ret (.bl false)] []],.ret (.bl true)]
noncomputable def cF:DefE:=⟨"_law_cell_at", top 18,["_law_script", "_law_k"],["_law_script", "_law_k"],ek,none⟩
noncomputable def gj:DefE:=⟨"_law_pot", top 19,["_law_cell", "_law_number", "_law_j", "_law_more"],["_law_cell"],jW,none⟩
noncomputable def eU:DefE:=⟨"_law_take", top 20,["_law_pot_here", "_law_far", "_law_found"],["_law_pot_here", "_law_far"],i9,none⟩
noncomputable def pw:DefE:=⟨"_law_word", top 21,["_law_e", "_law_some", "_law_words"],["_law_e"],pq,none⟩
noncomputable def fH:DefE:=⟨"_law_raised", top 22,["_law_way", "_law_text", "_law_e"],["_law_way", "_law_text"],[],some fG⟩
noncomputable def dJ:DefE:=⟨"_law_stuck_of", top 23,["_law_names", "_law_e"],["_law_names"],[],some dI⟩
noncomputable def qO:DefE:=⟨"law", top 24,["_law_script", "_law_words", "_law_k", "_law_pot_here", "_law_text", "_law_way", "_law_word_here", "_law_rows"],["_law_script"],C5,none⟩
noncomputable def aj:List DefE:=[cF,gj,eU,pw,fH,dJ,qO]
noncomputable def con:List (Str × Int):=[]
noncomputable def ini:DefE:=⟨"__init__", L2.yL (top 16) 0,["self", "stuck"],["self", "stuck"],[],none⟩
theorem chk:aj.all (xf (jS con aj))=true:=by kernel_rfl
theorem fu:jU ini=true:=by kernel_rfl
theorem m6:mY ini:=by
 intro _ _ _ _ _ _ us hl
 match us,hl with
 |[a,b],_=>rfl
theorem LS:aj.any qF=true:=by kernel_rfl
theorem us1:∀ {us:List Value},us.length=1->∃a0,us=[a0]
 |[a0],_=>⟨a0,rfl⟩
theorem us2:∀ {us:List Value},us.length=2->∃a0 a1,us=[a0,a1]
 |[a0,a1],_=>⟨a0,a1,rfl⟩
theorem bind:tj aj:=by
 repeat' apply And.intro
 all_goals first |trivial |(intro _ _ _ _ _ _ us hl;first |(obtain⟨_,rfl⟩:=us1 hl;rfl) |(obtain⟨_,_,rfl⟩:=us2 hl;rfl))
end Lw
section
open PySem PySem.W PyProof.Rows
set_option maxHeartbeats 0 in
theorem Lw.partC:Cut.PartC PySem.Challenge.rw_downrings_k06_errors_and_their_fields.row.toRowW.prog (Hook.obs (Ev.gi Lw.con Lw.aj Lw.ini Lw.bind Lw.m6 Lw.fu)) (Hook.val (Ev.gi Lw.con Lw.aj Lw.ini Lw.bind Lw.m6 Lw.fu)):=fun w=>by kernel_rfl
set_option maxHeartbeats 0 in
theorem Lw.head(hmain:∀ns:List Int,ns.length<=63->∃S',Ev.evC Lw.aj 40 6 [.ref 0] [.frz (ns.map Ev.D.int)]=some (.bl true,S')):PySem.Challenge.rw_downrings_k06_errors_and_their_fields.Holds:=by
 w_on;refine holds_law Lw.said fun said=>?_
 refine holds_open (q:=Lw.view) (loose:=Lw.loose) (Xt:=(fun s=>xlAt Lw.view [] s && recOk (RowW.records PySem.Challenge.rw_downrings_k06_errors_and_their_fields.row.toRowW) s)) (XP:=XL Lw.view []) (Yf:=(Hook.obs (Ev.gi Lw.con Lw.aj Lw.ini Lw.bind Lw.m6 Lw.fu))) (Ya:=(Hook.val (Ev.gi Lw.con Lw.aj Lw.ini Lw.bind Lw.m6 Lw.fu))) (YP:=Hook.says (Ev.gi Lw.con Lw.aj Lw.ini Lw.bind Lw.m6 Lw.fu)) (N:=20000) ?hl (Hook.of _) (Hook.keeps _) (fun s e=>xl_of s (Y3.mp e).1) XL.keeps (by rfl) (by rfl) (by rfl) (fun s e=>recFacts_of (Y3.mp e).2) (by rfl) (by first |assumption |decide +kernel) (by decide +kernel) ⟨rfl,rfl,rfl,rfl,rfl,by decide +kernel⟩ ?hw ?hc
 case hw=>w_witness2
 case hl=>exact Cut.left_cut Lw.opn Lw.partA Lw.partB Lw.partC
 case hc=>exact Ev.AA (l:=PySem.Challenge.rw_downrings_k06_errors_and_their_fields) (n:=63) (k:=40) (i:=6) (dl:=Lw.qO) rfl (by decide) rfl ⟨rfl,by decide,by decide,rfl⟩ rfl rfl rfl Lw.chk Lw.LS hmain
end
namespace Ev
open PySem PySem.Spec PyProof.Rows L2
def Ok{α:Type}(x:Option (α × Sto))(Q:α->Sto->Prop):Prop:=∃a S,x=some (a,S)/\Q a S
def OkS(x:Option (Fl × Rho × Sto))(Q:Fl->Rho->Sto->Prop):Prop:=∃f ρ S,x=some (f,ρ,S)/\Q f ρ S
section
variable {α β:Type} {S S':Sto} {ρ ρ':Rho}
theorem az{a:α}:Ok (some (a,S)) Q=Q a S:=by
 apply propext;exact⟨fun⟨_,_,e,q⟩=>by cases e;exact q,fun q=>⟨a,S,rfl,q⟩⟩
theorem aR:Ok none Q=False:=propext ⟨fun⟨_,_,e,_⟩=>(nomatch e),fun h=>h.elim⟩
theorem bg:Ok (bnd x f) Q=Ok x fun a S=>Ok (f a S) Q:=by
 apply propext;constructor
 ·rintro⟨b,S',e,q⟩;obtain⟨a,S,e1,e2⟩:=aa e;exact⟨a,S,e1,b,S',e2,q⟩
 ·rintro⟨a,S,e1,b,S',e2,q⟩;exact⟨b,S',by rw[e1];exact e2,q⟩
theorem cq{c:Prop}[Decidable c]:Ok (if c then x else y) Q=if c then Ok x Q else Ok y Q:=by split <;> rfl
theorem FD{x:Option β}{f:β->α × Sto}{Q:α->Sto->Prop}:Ok (x.map f) Q=∃b,x=some b/\Q (f b).1 (f b).2:=by
 apply propext;cases x with
 |none=>exact⟨fun⟨_,_,e,_⟩=>(nomatch e),fun⟨_,e,_⟩=>(nomatch e)⟩
 |some b=>exact⟨fun⟨a,S,e,q⟩=>⟨b,rfl,by have e':=Option.some.inj e;rw[e'];exact q⟩,fun⟨b',e,q⟩=>by cases e;exact⟨_,_,rfl,q⟩⟩
theorem Ok.mono(h:Ok x Q)(f:∀a S,Q a S->Q' a S):Ok x Q':=let ⟨a,S,e,q⟩:=h;⟨a,S,e,f a S q⟩
theorem OkS.mono(h:OkS x Q)(f:∀a ρ S,Q a ρ S->Q' a ρ S):OkS x Q':=let ⟨a,ρ,S,e,q⟩:=h;⟨a,ρ,S,e,f a ρ S q⟩
def nxt(y:XS)(Q:Fl->Rho->Sto->Prop)(f:Fl)(ρ:Rho)(S:Sto):Prop:=match f with
 |.nx=>OkS (y ρ S) Q
 |f=>Q f ρ S
theorem AB:OkS (vq x y ρ S) Q=OkS (x ρ S) (nxt y Q):=by
 apply propext;unfold vq;constructor
 ·rintro⟨f,ρ1,S1,e,q⟩;split at e
  ·cases e
  ·rename_i ρ2 S2 h;exact⟨_,_,_,h,f,ρ1,S1,e,q⟩
  ·rename_i r n h;cases e;cases f with
   |nx=>exact absurd rfl (n ρ1 S1)
   |_=>exact⟨_,_,_,h,q⟩
 ·rintro⟨f,ρ1,S1,e,q⟩;rw[e];cases f with
  |nx=>exact q
  |_=>exact⟨_,_,_,rfl,q⟩
theorem FE:OkS (xIf c x y ρ S) Q=Ok (c ρ S) fun b S1=>if b=true then OkS (x ρ S1) Q else OkS (y ρ S1) Q:=by
 apply propext;unfold xIf;constructor
 ·rintro⟨f,ρ1,S1,e,q⟩;cases h:c ρ S with
  |none=>rw[h] at e;cases e
  |some r=>
   obtain⟨b,S2⟩:=r;rw[h] at e;refine⟨b,S2,rfl,?_⟩;dsimp only at e ⊢;split
   ·rename_i hb;rw[if_pos hb] at e;exact⟨f,ρ1,S1,e,q⟩
   ·rename_i hb;rw[if_neg hb] at e;exact⟨f,ρ1,S1,e,q⟩
 ·rintro⟨b,S2,e,q⟩;rw[e];dsimp only;split
  ·rename_i hb;rw[if_pos hb] at q;exact q
  ·rename_i hb;rw[if_neg hb] at q;exact q
theorem AC:OkS (iJ x t ρ S) Q=Ok (x ρ S) fun d S1=>∃ρ1,aG t d ρ=some ρ1/\Q .nx ρ1 S1:=by
 apply propext;unfold iJ;constructor
 ·rintro⟨f,ρ1,S1,e,q⟩;cases h:x ρ S with
  |none=>rw[h] at e;cases e
  |some r=>
   obtain⟨d,S2⟩:=r;rw[h] at e;dsimp only at e;cases h2:aG t d ρ with
   |none=>rw[h2] at e;cases e
   |some ρ2=>rw[h2] at e;cases e;exact⟨d,_,rfl,ρ1,h2,q⟩
 ·rintro⟨d,S2,e,ρ1,e2,q⟩;rw[e];dsimp only;rw[e2];exact⟨_,_,_,rfl,q⟩
theorem xq:OkS (mj x ρ S) Q=Ok (x ρ S) fun _ S1=>Q .nx ρ S1:=by
 apply propext;unfold mj;constructor
 ·rintro⟨f,ρ1,S1,e,q⟩;cases h:x ρ S with
  |none=>rw[h] at e;cases e
  |some r=>rw[h] at e;cases e;exact⟨_,_,rfl,q⟩
 ·rintro⟨d,S2,e,q⟩;rw[e];exact⟨_,_,_,rfl,q⟩
theorem AE:OkS (vA x ρ S) Q=Ok (x ρ S) fun d S1=>Q (.rt d) ρ S1:=by
 apply propext;unfold vA;constructor
 ·rintro⟨f,ρ1,S1,e,q⟩;cases h:x ρ S with
  |none=>rw[h] at e;cases e
  |some r=>rw[h] at e;cases e;exact⟨_,_,rfl,q⟩
 ·rintro⟨d,S2,e,q⟩;rw[e];exact⟨_,_,_,rfl,q⟩
theorem xr:OkS (ml v o i ρ S) Q=Ok (v ρ S) fun a S1=>Ok (o ρ S1) fun b S2=>Ok (i ρ S2) fun c S3=>∃S4,eN b c a S3=some S4/\Q .nx ρ S4:=by
 apply propext;unfold ml;constructor
 ·rintro⟨f,ρ1,S1,e,q⟩;cases h:v ρ S with
  |none=>rw[h] at e;cases e
  |some r=>
   rw[h] at e;dsimp only at e;cases h2:o ρ r.2 with
   |none=>rw[h2] at e;cases e
   |some r2=>
    rw[h2] at e;dsimp only at e;cases h3:i ρ r2.2 with
    |none=>rw[h3] at e;cases e
    |some r3=>
     rw[h3] at e;dsimp only at e;cases h4:eN r2.1 r3.1 r.1 r3.2 with
     |none=>rw[h4] at e;cases e
     |some S4=>rw[h4] at e;cases e;exact⟨_,_,rfl,_,_,h2,_,_,h3,_,h4,q⟩
 ·rintro⟨a,S1,e1,b,S2,e2,c,S3,e3,S4,e4,q⟩;rw[e1];dsimp only;rw[e2];dsimp only;rw[e3];dsimp only;rw[e4];exact⟨_,_,_,rfl,q⟩
theorem AF{k:Nat}:OkS (vD it tg b k ρ S) Q=Ok (it ρ S) fun nx S1=>OkS (dA nx tg b k 0 ρ S1) Q:=by
 apply propext;unfold vD;constructor
 ·rintro⟨f,ρ1,S1,e,q⟩;cases h:it ρ S with
  |none=>rw[h] at e;cases e
  |some r=>rw[h] at e;exact⟨_,_,rfl,_,_,_,e,q⟩
 ·rintro⟨d,S2,e,q⟩;rw[e];exact q
def out(Q:D->Sto->Prop)(f:Fl)(_:Rho)(S:Sto):Prop:=match f with
 |.rt v=>Q v S
 |.nx=>Q .non S
 |_=>False
theorem FF:out Q (.rt d) ρ S=Q d S:=rfl
theorem FG:out Q .nx ρ S=Q .non S:=rfl
theorem qP{k f:Nat}(hd:aj[f]?=some d)(hρ:ds.map some++Zi (d.N.length - ds.length) none=ρ)(h:OkS (de (evC aj k) (fF aj) 60 d.body ρ S) (out Q))(hr:d.rb=none:=by rfl):Ok (evC aj (k+1) f ds S) Q:=by
 subst hρ;obtain⟨fl,ρ1,S1,e,q⟩:=h;have e:de (toC (evX aj k)) (fF aj) FU d.body _ S=some (fl,ρ1,S1):=e;have z:evX aj (k+1) f ds S=(Ar (toC (evX aj k)) (fF aj) d ds S).map fun r=>(.val r.1,r.2):=by simp only[evX,hd,hr]
 unfold evC toC;rw[z];unfold Ar;rw[e];cases fl with
 |rt v=>exact⟨_,_,rfl,q⟩
 |nx=>exact⟨_,_,rfl,q⟩
 |bk=>exact q.elim
 |ct=>exact q.elim
theorem jX{N:Nat}(I:Nat->List D->Sto->Prop)
  (step:∀i acc S,i < N->I i acc S->∃d ρ1,nx i S=some (some d)/\aG tg d ρ=some ρ1/\Ok (c ρ1 S) fun es S1=>I (i+1) (acc++es) S1) (stop:∀acc S,I N acc S->nx N S=some none) :
  ∀ (n i k:Nat) (acc:List D) (S:Sto),N=i+n->n < k->I i acc S->Ok (bw nx tg c ρ k i S) fun es S'=>I N (acc++es) S'
 |0,i,k+1,acc,S,hN,hk,h=>by
  obtain rfl:N=i:=by lia
  simp only[bw,stop acc S h];exact⟨_,_,rfl,by show I _ (acc++[]) S;rw[ZQ];exact h⟩
 |n+1,i,k+1,acc,S,hN,hk,h=>by
  obtain⟨d,ρ1,e1,e2,es,S1,e3,h'⟩:=step i acc S (by lia) h;simp only[bw,e1,e2,e3,bnd];obtain⟨rs,S2,e4,h2⟩:=jX I step stop n (i+1) k (acc++es) S1 (by lia) (by lia) h';simp only[e4];exact⟨_,_,rfl,by show I _ (acc++(es++rs)) S2;rw[<-Z9];exact h2⟩
theorem m7{k:Nat}(N:Nat)(I:Nat->List D->Sto->Prop)(hk:N < k)
  (step:∀i acc S,i < N->I i acc S->∃d ρ1,nx i S=some (some d)/\aG tg d ρ=some ρ1/\Ok (c ρ1 S) fun es S1=>I (i+1) (acc++es) S1) (stop:∀acc S,I N acc S->nx N S=some none) (h:I 0 [] S) :
  Ok (bw nx tg c ρ k 0 S) (I N):=(jX I step stop N 0 k [] S (by lia) hk h).mono fun es S' z=>by rw[Yt] at z;exact z
theorem ja{N:Nat}(I:Nat->Rho->Sto->Prop)
  (step:∀i ρ S,i < N->I i ρ S->∃d ρ1,nx i S=some (some d)/\aG tg d ρ=some ρ1/\OkS (b ρ1 S) fun fl ρ2 S2=>match fl with |.nx=>I (i+1) ρ2 S2 |.ct=>I (i+1) ρ2 S2 |.bk=>Q .nx ρ2 S2 |.rt d=>Q (.rt d) ρ2 S2)
  (stop:∀ρ S,I N ρ S->nx N S=some none/\Q .nx ρ S) :
  ∀ (n i k:Nat) (ρ:Rho) (S:Sto),N=i+n->n < k->I i ρ S->OkS (dA nx tg b k i ρ S) Q
 |0,i,k+1,ρ,S,hN,hk,h=>by
  obtain rfl:N=i:=by lia
  simp only[dA,(stop ρ S h).1];exact⟨_,_,_,rfl,(stop ρ S h).2⟩
 |n+1,i,k+1,ρ,S,hN,hk,h=>by
  obtain⟨d,ρ1,e1,e2,fl,ρ2,S2,e3,h'⟩:=step i ρ S (by lia) h;simp only[dA,e1,e2,e3];cases fl with
  |nx=>exact ja I step stop n (i+1) k ρ2 S2 (by lia) (by lia) h'
  |ct=>exact ja I step stop n (i+1) k ρ2 S2 (by lia) (by lia) h'
  |bk=>exact⟨_,_,_,rfl,h'⟩
  |rt d=>exact⟨_,_,_,rfl,h'⟩
theorem qQ{k:Nat}(N:Nat)(I:Nat->Rho->Sto->Prop)(hk:N < k)
  (step:∀i ρ S,i < N->I i ρ S->∃d ρ1,nx i S=some (some d)/\aG tg d ρ=some ρ1/\OkS (b ρ1 S) fun fl ρ2 S2=>match fl with |.nx=>I (i+1) ρ2 S2 |.ct=>I (i+1) ρ2 S2 |.bk=>Q .nx ρ2 S2 |.rt d=>Q (.rt d) ρ2 S2)
  (stop:∀ρ S,I N ρ S->nx N S=some none/\Q .nx ρ S) (h:I 0 ρ S):OkS (dA nx tg b k 0 ρ S) Q:=ja I step stop N 0 k ρ S (by lia) hk h
end
def Kp(p:Nat)(S S':Sto):Prop:=∀i o,i ≠ p->S[i]?=some o->S'[i]?=some o
def Sm(S S':Sto):Prop:=∀ (i:Nat) (o:Ob),S[i]?=some o->S'[i]?=some o
theorem Sm.kp{p:Nat}(h:Sm S S'):Kp p S S':=fun i o _ e=>h i o e
theorem Sm.refl(S:Sto):Sm S S:=fun _ _ e=>e
theorem Sm.trans(a:Sm S S1)(b:Sm S1 S2):Sm S S2:=fun i o e=>b i o (a i o e)
theorem Sm.app(S X:Sto):Sm S (S++X):=fun i o e=>by
 have hi:=(Zf.mp e).1;rw[Zx hi];exact e
theorem Kp.refl(p:Nat)(S:Sto):Kp p S S:=fun _ _ _ e=>e
theorem Kp.trans{p:Nat}(a:Kp p S S1)(b:Kp p S1 S2):Kp p S S2:=fun i o n e=>b i o n (a i o n e)
theorem AG{n:Nat}:Ok (mr g n x ρ S) Q=Ok (x ρ S) fun ds S1=>ds.length=n/\Ok (g ds S1) Q:=by
 unfold mr;rw[bg]
 congr 1
 funext ds S1
 rw[cq,aR];apply propext;split
 ·rename_i h;exact⟨fun z=>⟨h,z⟩,fun z=>z.2⟩
 ·rename_i h;exact⟨fun z=>z.elim,fun z=>(h z.1).elim⟩
theorem FH:Ok (vI x y ρ S) Q=Ok (x ρ S) fun d S1=>∃b,d = .bl b/\if b=true then Ok (y ρ S1) Q else Q (.bl false) S1:=by
 unfold vI;rw[bg]
 congr 1
 funext d S1
 apply propext;cases d with
 |bl b=>cases b <;> simp[az]
 |_=>simp[aR]
theorem Kb:Ok (xOr x y ρ S) Q=Ok (x ρ S) fun d S1=>∃b,d = .bl b/\if b=true then Q (.bl true) S1 else Ok (y ρ S1) Q:=by
 unfold xOr;rw[bg]
 congr 1
 funext d S1
 apply propext;cases d with
 |bl b=>cases b <;> simp[az]
 |_=>simp[aR]
theorem FJ:Ok (sM d S) Q=∃b,d = .bl b/\Q (.bl (!b)) S:=by
 apply propext;cases d with
 |bl b=>simp[sM,az]
 |_=>simp[sM,aR]
theorem FK:Ok (sN f g x y z ρ S) Q=Ok (x ρ S) fun a S1=>Ok (y ρ S1) fun b S2=>Ok (f a b S2) fun r S3=>∃c,r = .bl c/\if c=true then Ok (z ρ S3) fun e S4=>Ok (g b e S4) Q else Q (.bl false) S3:=by
 unfold sN;rw[bg]
 congr 1
 funext a S1
 rw[bg]
 congr 1
 funext b S2
 rw[bg]
 congr 1
 funext r S3
 apply propext;cases r with
 |bl c=>cases c <;> simp[az,bg]
 |_=>simp[aR]
theorem FL{i:Nat}:Ok (rR i ρ S) Q=∃d,ρ[i]?=some (some d)/\Q d S:=by
 apply propext;unfold rR;cases h:ρ[i]? with
 |none=>simp[aR]
 |some o=>cases o with
  |none=>simp[aR]
  |some d=>simp[az]
theorem Kc{i j:Int}:Ok (aF .le (.int i) (.int j) S) Q=Q (.bl (decide (i<=j))) S:=az
theorem Kd{i j:Int}:Ok (aF .lt (.int i) (.int j) S) Q=Q (.bl (decide (i < j))) S:=az
theorem Ke{i j:Int}:Ok (aF .gt (.int i) (.int j) S) Q=Q (.bl (decide (j < i))) S:=az
theorem Kf{i j:Int}:Ok (aF .ge (.int i) (.int j) S) Q=Q (.bl (decide (j<=i))) S:=az
theorem FM{i j:Int}:Ok (bv .add (.int i) (.int j) S) Q=Q (.int (i+j)) S:=az
theorem FN{i j:Int}:Ok (bv .sub (.int i) (.int j) S) Q=Q (.int (i - j)) S:=az
theorem Kg:Ok (xB x ρ S) Q=Ok (x ρ S) fun d S1=>∃b,d = .bl b/\Q b S1:=by
 unfold xB;rw[bg]
 congr 1
 funext d S1
 apply propext;cases d with
 |bl b=>simp[az]
 |_=>simp[aR]
theorem AH{own k:Nat}:Ok (iL own it tg c k ρ S) Q=Ok (it ρ S) fun nx S1=>cz tg (ρ++Zi own none)=true/\Ok (bw nx tg c (ρ++Zi own none) k 0 S1) fun es S2=>es.length<=100000/\Q es S2:=by
 unfold iL;rw[bg]
 congr 1
 funext nx S1
 rw[cq,aR];apply propext
 have e:Ok (bnd (bw nx tg c (ρ++Zi own none) k 0 S1) fun es S2=>if es.length<=100000 then some (es,S2) else none) Q=Ok (bw nx tg c (ρ++Zi own none) k 0 S1) fun es S2=>es.length<=100000/\Q es S2:=by
  rw[bg]
  congr 1
  funext es S2
  rw[cq,aR,az];apply propext;split
  ·rename_i h;exact⟨fun z=>⟨h,z⟩,fun z=>z.2⟩
  ·rename_i h;exact⟨fun z=>z.elim,fun z=>(h z.1).elim⟩
 rw[e];split
 ·rename_i h;exact⟨fun z=>⟨h,z⟩,fun z=>z.2⟩
 ·rename_i h;exact⟨fun z=>z.elim,fun z=>(h z.1).elim⟩
theorem xt{k:Nat}:Ok (fX it tg c k ρ S) Q=(cz tg ρ=true/\Ok (it ρ S) fun nx S1=>Ok (bw nx tg c ρ k 0 S1) Q):=by
 unfold fX;rw[cq,aR,bg];apply propext;split
 ·rename_i h;exact⟨fun z=>⟨h,z⟩,fun z=>z.2⟩
 ·rename_i h;exact⟨fun z=>z.elim,fun z=>(h z.1).elim⟩
theorem AI:Ok (jD x ρ S) Q=Ok (x ρ S) fun ds S1=>ds.length<=1000/\Q ds S1:=by
 unfold jD;rw[bg]
 congr 1
 funext ds S1
 rw[cq,aR,az];apply propext;split
 ·rename_i h;exact⟨fun z=>⟨h,z⟩,fun z=>z.2⟩
 ·rename_i h;exact⟨fun z=>z.elim,fun z=>(h z.1).elim⟩
theorem AJ:Ok (gD ds S) Q=(ds.length<=1000/\Q (.tup ds) S):=by
 unfold gD;rw[cq,aR,az];apply propext;split
 ·rename_i h;exact⟨fun z=>⟨h,z⟩,fun z=>z.2⟩
 ·rename_i h;exact⟨fun z=>z.elim,fun z=>(h z.1).elim⟩
theorem xu:Ok (cg x ρ S) Q=Ok (x ρ S) fun ds S1=>Q (.ref S1.length) (S1++[.lst ds]):=by
 unfold cg;rw[bg]
 congr 1
 funext ds S1
 rw[az]
theorem FO(h:Ok (x ρ S) fun d S1=>∃i:Nat,d = .int i/\i<=1000/\Q ((ZI i).map fun j=>.int (Int.ofNat j)) S1):Ok (sQ x ρ S) Q:=by
 unfold sQ;rw[bg];refine h.mono fun d S1 ⟨i,e,hi,q⟩=>?_;subst e;dsimp only;rw[if_pos (by lia),az,Yc];exact q
theorem AK(h:Ok (x ρ S) fun d S1=>Ok (y ρ S1) fun e S2=>∃i j,d = .int i/\e = .int j/\-100000<=i/\i<=j/\j<=i+1000/\i<=100000/\Q (rgD i j) S2):Ok (jL x y ρ S) Q:=by
 unfold jL;rw[bg];refine h.mono fun d S1 h=>?_;rw[bg];refine h.mono fun e S2 ⟨i,j,ei,ej,h1,h2,h3,h4,q⟩=>?_;subst ei ej;dsimp only;rw[if_pos ⟨h1,h2,h3,h4⟩,az];exact q
theorem AL(i j:Int)(S:Sto):aF .eq (.int i) (.int j) S=some (.bl (decide (i=j)),S):=by
 simp only[aF,eqS];have:eqD 60 S (.int i) (.int j)=some (i == j):=rfl;rw[this];rfl
theorem AM(i j:Int)(S:Sto):aF .ne (.int i) (.int j) S=some (.bl (!decide (i=j)),S):=p8 (x:=.int i) (y:=.int j) (b:=decide (i=j)) rfl
theorem FP{i j:Int}:Ok (aF .eq (.int i) (.int j) S) Q=Q (.bl (decide (i=j))) S:=by rw[AL,az]
theorem FQ{i j:Int}:Ok (aF .ne (.int i) (.int j) S) Q=Q (.bl (!decide (i=j))) S:=by rw[AM,az]
theorem AN{i:Nat}:aG (.name i) d ρ=if i < ρ.length then some (ρ.set i (some d)) else none:=by simp only[aG]
theorem xv:aG (.tup ts) (.tup ds) ρ=aB ts ds ρ:=by simp only[aG]
theorem qR:aB [] [] ρ=some ρ:=by simp only[aB]
theorem m8{i:Nat}:aB (.name i::ts) (d::ds) ρ=if i < ρ.length then aB ts ds (ρ.set i (some d)) else none:=by
 simp only[aB,aG];split
 ·rename_i ρ' h;split at h
  ·rename_i hc;cases h;rw[if_pos hc]
  ·cases h
 ·rename_i h;split at h
  ·cases h
  ·rename_i hc;rw[if_neg hc]
theorem FR{i j:Nat}(h1:i < ρ.length)(h2:j < ρ.length):aG (.tup [.name i,.name j]) (.tup [a,b]) ρ=some ((ρ.set i (some a)).set j (some b)):=by
 rw[xv,m8,if_pos h1,m8,if_pos (by rw[YS];exact h2),qR]
theorem eV{a:Nat}(h:S[a]?=some (.lst es)):ai S a=some es:=by simp only[ai,h]
section
variable {S S' S1 S2:Sto} {p:Nat} {Q:D->Sto->Prop} {ρ:Rho}
theorem FS{i j:Int}:Ok (bv .mod (.int i) (.int j) S) Q=(0 < j/\Q (.int (i % j)) S):=by
 simp only[bv,Eh,cq,az,aR];apply propext;split
 ·rename_i h;exact⟨fun z=>⟨h,z⟩,fun z=>z.2⟩
 ·rename_i h;exact⟨fun z=>z.elim,fun z=>(h z.1).elim⟩
theorem AO{i j:Int}:Ok (bv .fdiv (.int i) (.int j) S) Q=((0 < j/\j < 1237940039285380274899124224)/\Q (.int (i / j)) S):=by
 simp only[bv,uM,cq,az,aR];apply propext;split
 ·rename_i h;exact⟨fun z=>⟨h,z⟩,fun z=>z.2⟩
 ·rename_i h;exact⟨fun z=>z.elim,fun z=>(h z.1).elim⟩
theorem FT{i j:Int}:Ok (bv .mul (.int i) (.int j) S) Q=(fg i j=true/\Q (.int (i * j)) S):=by
 simp only[bv,jh,cq,az,aR];apply propext;split
 ·rename_i h;exact⟨fun z=>⟨h,z⟩,fun z=>z.2⟩
 ·rename_i h;exact⟨fun z=>z.elim,fun z=>(h z.1).elim⟩
theorem FV{i j:Int}:Ok (bv .pow (.int i) (.int j) S) Q=((0<=j/\j<=1000000/\i.natAbs < 2 ^ 64)/\Q (.int (i ^ j.toNat)) S):=by
 simp only[bv,Ei,cq,az,aR];apply propext;split
 ·rename_i h;exact⟨fun z=>⟨h,z⟩,fun z=>z.2⟩
 ·rename_i h;exact⟨fun z=>z.elim,fun z=>(h z.1).elim⟩
theorem qS{i j:Int}(h1:-(2 ^ 64) < j)(h2:j < 2 ^ 64):fg i j=true:=by simp only[fg,YU,bAE,decide_eq_true_eq];exact .inr ⟨h1,h2⟩
theorem kY{i j:Int}(h1:-(2 ^ 64) < i)(h2:i < 2 ^ 64):fg i j=true:=by simp only[fg,YU,bAE,decide_eq_true_eq];exact .inl ⟨h1,h2⟩
def Pot(p:Nat)(S:Sto):Prop:=∃n:Int,S[p]?=some (.lst [.int n])
structure Dr(p:Nat)(S S':Sto):Prop where
 kp:Kp p S S'
 pot:Pot p S'
theorem Dr.refl(h:Pot p S):Dr p S S:=⟨Kp.refl p S,h⟩
theorem Dr.trans(a:Dr p S S1)(b:Dr p S1 S2):Dr p S S2:=⟨a.kp.trans b.kp,b.pot⟩
theorem Dr.sm(h:Pot p S)(s:Sm S S'):Dr p S S':=⟨s.kp,let ⟨n,e⟩:=h;⟨n,s _ _ e⟩⟩
theorem Dr.thenSm(a:Dr p S S1)(s:Sm S1 S2):Dr p S S2:=a.trans (Dr.sm a.pot s)
theorem FY:Kp p S (S.set p o):=fun i u n e=>by rw[ZT (Ne.symm n)];exact e
theorem FZ(h:p < S.length):(S.set p o)[p]?=some o:=by rw[Zy h]
theorem C6{n:Nat}{lo:Int}{tg:Tg}{b:XS}{Q:Fl->Rho->Sto->Prop}(hl:n<=100000)(I:Nat->Rho->Sto->Prop)
  (step:∀ (i:Nat) ρ S,i < n->I i ρ S->∃ρ1,aG tg (.int (lo+i)) ρ=some ρ1/\OkS (b ρ1 S) fun fl ρ2 S2=>match fl with |.nx=>I (i+1) ρ2 S2 |.ct=>I (i+1) ρ2 S2 |.bk=>Q .nx ρ2 S2 |.rt d=>Q (.rt d) ρ2 S2)
  (q:∀ρ S',I n ρ S'->Q .nx ρ S') (h0:I 0 ρ S):OkS (dA (nxR lo n) tg b LF 0 ρ S) Q:=by
 refine qQ n I (by unfold LF;lia) (fun i ρ S' hi iv=>?_) (fun ρ S' iv=>⟨?_,q ρ S' iv⟩) h0
 ·obtain⟨ρ1,e2,z⟩:=step i ρ S' hi iv;exact⟨_,ρ1,by show some (if i < n then some (D.int (lo+i)) else none)=_;rw[if_pos hi],e2,z⟩
 ·show some (if n < n then some (D.int (lo+n)) else none)=_;rw[if_neg (ZF n)]
theorem pA{n:Nat}{lo:Int}{tg:Tg}{c:XA}{Q:List D->Sto->Prop}(hl:n<=100000)(I:Nat->List D->Sto->Prop)
  (step:∀ (i:Nat) acc S',i < n->I i acc S'->∃ρ1,aG tg (.int (lo+i)) ρ=some ρ1/\Ok (c ρ1 S') fun es S1=>I (i+1) (acc++es) S1) (q:∀es S',I n es S'->es.length<=100000/\Q es S') (h0:I 0 [] S) :
  Ok (bw (nxR lo n) tg c ρ LF 0 S) fun es S2=>es.length<=100000/\Q es S2:=by
 refine(m7 n I (by unfold LF;lia) (fun i acc S' hi iv=>?_) (fun acc S' iv=>?_) h0).mono q
 ·obtain⟨ρ1,e2,z⟩:=step i acc S' hi iv;exact⟨_,ρ1,by show some (if i < n then some (D.int (lo+i)) else none)=_;rw[if_pos hi],e2,z⟩
 ·show some (if n < n then some (D.int (lo+n)) else none)=_;rw[if_neg (ZF n)]
theorem F0:Ok (nZ x y ρ S) Q=Ok (x ρ S) fun ds S1=>Ok (y ρ S1) fun i S2=>∃k,i = .int k/\∃d,atI ds k=some d/\Q d S2:=by
 unfold nZ;rw[bg]
 congr 1
 funext ds S1
 rw[bg]
 congr 1
 funext i S2
 apply propext;cases i with
 |int k=>simp[FD]
 |_=>simp[aR]
theorem F1{i:Int}(h0:0<=i)(h1:i < ds.length):∃d,atI ds i=some d/\ds[i.toNat]?=some d:=by
 have hi:i.toNat < ds.length:=by lia
 refine⟨ds[i.toNat],?_,gEG hi⟩;unfold atI ixN;rw[if_pos h0,if_pos (by lia)];exact gEG hi
theorem dM:(S++[o])[S.length]?=some o:=by rw[Zu (Zh _),YO];rfl
theorem pZ{i:Nat}(h:ds[i]?=some d):atI ds (i:Int)=some d:=by
 have hi:=(Zf.mp h).1;unfold atI ixN;rw[if_pos (by lia),if_pos (by lia),Yc];exact h
theorem AQ:aF .eq (.tup ds) (.tup []) S=some (.bl ds.isEmpty,S):=by
 simp only[aF,eqS]
 have:eqD 60 S (.tup ds) (.tup [])=some ds.isEmpty:=by
  cases ds <;> rfl
 rw[this];rfl
theorem AR:aF .ne (.tup ds) (.tup []) S=some (.bl (!ds.isEmpty),S):=p8 (x:=.tup ds) (y:=.tup []) (b:=ds.isEmpty) (by cases ds <;> rfl)
theorem F2:Ok (bv .add (.tup xs) (.tup ys) S) Q=(xs.length+ys.length<=1000/\Q (.tup (xs++ys)) S):=by
 simp only[bv,fS,cq,az,aR];apply propext;split
 ·rename_i h;exact⟨fun z=>⟨h,z⟩,fun z=>z.2⟩
 ·rename_i h;exact⟨fun z=>z.elim,fun z=>(h z.1).elim⟩
end
abbrev WP(α:Type):=Rho->Sto->(α->Sto->Prop)->Prop
def Sd{α:Type}(w:WP α)(x:Rho->Sto->Option (α × Sto)):Prop:=∀ρ S Q,w ρ S Q->Ok (x ρ S) Q
theorem aP{α β:Type}{x:Option (α × Sto)}{f:α->Sto->Option (β × Sto)}{Q:β->Sto->Prop}(h:Ok x fun a S=>Ok (f a S) Q):Ok (bnd x f) Q:=bg ▸ h
theorem be{α:Type}{a:α}{S:Sto}{Q:α->Sto->Prop}(h:Q a S):Ok (some (a,S)) Q:=⟨_,_,rfl,h⟩
def wIf(b:Bool)(A B:Prop):Prop:=match b with
 |true=>A
 |false=>B
def wBl(d:D)(Q:Bool->Prop):Prop:=match d with
 |.bl b=>Q b
 |.non=>False |.int _=>False |.str _=>False |.tup _=>False |.ref _=>False
def cu(d:D)(Q:Int->Prop):Prop:=match d with
 |.int i=>Q i
 |.non=>False |.bl _=>False |.str _=>False |.tup _=>False |.ref _=>False
theorem jb{d:D}{Q:Bool->Prop}(h:wBl d Q):∃b,d = .bl b/\Q b:=by cases d <;> first |exact h.elim |exact⟨_,rfl,h⟩
theorem bQ{d:D}{Q:Int->Prop}(h:cu d Q):∃b,d = .int b/\Q b:=by cases d <;> first |exact h.elim |exact⟨_,rfl,h⟩
def LU(o:Option D)(Q:D->Prop):Prop:=match o with
 |some d=>Q d
 |none=>False
def pB:Rho->Nat->(D->Prop)->Prop
 |[],_,_=>False
 |o::_,0,Q=>LU o Q
 |_::ρ,i+1,Q=>pB ρ i Q
theorem qT:∀ {ρ:Rho} {i:Nat} {Q:D->Prop},pB ρ i Q->∃d,ρ[i]?=some (some d)/\Q d
 |[],_,_,h=>h.elim
 |some d::_,0,_,h=>⟨d,rfl,h⟩
 |none::_,0,_,h=>h.elim
 |o::ρ,i+1,_,h=>by rw[YN];exact qT (ρ:=ρ) h
def Ki(i:Nat):WP D:=fun ρ S Q=>pB ρ i fun d=>Q d S
theorem Kj{i:Nat}:Sd (Ki i) (rR i):=fun ρ S Q h=>by
 rw[FL];exact qT h
def wC(d:D):WP D:=fun _ S Q=>Q d S
theorem s_c{d:D}:Sd (wC d) (xC d):=fun _ _ _ h=>be h
def AS(g:D->D->Sto->(D->Sto->Prop)->Prop)(x y:WP D):WP D:=fun ρ S Q=>x ρ S fun a S1=>y ρ S1 fun b S2=>g a b S2 Q
theorem xy{g:D->D->Sto->(D->Sto->Prop)->Prop}{f:D->D->Sto->Option (D × Sto)}{w v:WP D}{x y:XE}(hw:Sd w x)(hv:Sd v y)(hg:∀ {a b S Q},g a b S Q->Ok (f a b S) Q):Sd (AS g w v) (lJ f x y):=
 fun _ _ _ h=>aP ((hw _ _ _ h).mono fun _ _ h=>aP ((hv _ _ _ h).mono fun _ _ h=>hg h))
def wUn{α β:Type}(g:α->Sto->(β->Sto->Prop)->Prop)(x:WP α):WP β:=fun ρ S Q=>x ρ S fun a S1=>g a S1 Q
theorem AU{α β:Type}{g:α->Sto->(β->Sto->Prop)->Prop}{f:α->Sto->Option (β × Sto)}{w:WP α}{x:Rho->Sto->Option (α × Sto)}(hw:Sd w x)(hg:∀ {a S Q},g a S Q->Ok (f a S) Q):Sd (wUn g w) (fun ρ S=>bnd (x ρ S) f):=
 fun _ _ _ h=>aP ((hw _ _ _ h).mono fun _ _ h=>hg h)
def wOk{α β:Type}(f:α->Sto->Option (β × Sto))(a:α)(S:Sto)(Q:β->Sto->Prop):Prop:=Ok (f a S) Q
def wII:BOp->Int->Int->Sto->(D->Sto->Prop)->Prop
 |.add,i,j,S,Q=>Q (.int (i+j)) S
 |.sub,i,j,S,Q=>Q (.int (i - j)) S
 |.mul,i,j,S,Q=>fg i j=true/\Q (.int (i * j)) S
 |.mod,i,j,S,Q=>0 < j/\Q (.int (i % j)) S
 |.fdiv,i,j,S,Q=>(0 < j/\j < 1237940039285380274899124224)/\Q (.int (i / j)) S
 |.pow,i,j,S,Q=>(0<=j/\j<=1000000/\i.natAbs < 2 ^ 64)/\Q (.int (i ^ j.toNat)) S
theorem F3{o:BOp}{i j:Int}{S:Sto}{Q:D->Sto->Prop}(h:wII o i j S Q):Ok (bv o (.int i) (.int j) S) Q:=by
 cases o with
 |add=>rw[FM];exact h
 |sub=>rw[FN];exact h
 |mul=>rw[FT];exact h
 |mod=>rw[FS];exact h
 |fdiv=>rw[AO];exact h
 |pow=>rw[FV];exact h
def wTT:BOp->List D->List D->Sto->(D->Sto->Prop)->Prop
 |.add,xs,ys,S,Q=>xs.length+ys.length<=1000/\Q (.tup (xs++ys)) S
 |.sub,_,_,_,_=>False
 |.mul,_,_,_,_=>False
 |.mod,_,_,_,_=>False
 |.fdiv,_,_,_,_=>False
 |.pow,_,_,_,_=>False
theorem F4{o:BOp}{i j:List D}{S:Sto}{Q:D->Sto->Prop}(h:wTT o i j S Q):Ok (bv o (.tup i) (.tup j) S) Q:=by
 cases o with
 |add=>rw[F2];exact h
 |_=>exact h.elim
def xz(o:BOp)(i:Int)(y:D)(S:Sto)(Q:D->Sto->Prop):Prop:=match y with
 |.int j=>wII o i j S Q
 |.non=>False |.bl _=>False |.str _=>False |.ref _=>False
 |.tup ys=>Ok (bv o (.int i) (.tup ys) S) Q
def qU(o:BOp)(xs:List D)(y:D)(S:Sto)(Q:D->Sto->Prop):Prop:=match y with
 |.tup ys=>wTT o xs ys S Q
 |.non=>False |.bl _=>False |.str _=>False |.ref _=>False
 |.int j=>Ok (bv o (.tup xs) (.int j) S) Q
def pC(o:BOp)(x y:D)(S:Sto)(Q:D->Sto->Prop):Prop:=match x with
 |.int i=>xz o i y S Q
 |.tup xs=>qU o xs y S Q
 |.non=>Ok (bv o .non y S) Q
 |.bl b=>Ok (bv o (.bl b) y S) Q
 |.str b=>Ok (bv o (.str b) y S) Q
 |.ref b=>Ok (bv o (.ref b) y S) Q
theorem AV{o:BOp}{x y:D}{S:Sto}{Q:D->Sto->Prop}(h:pC o x y S Q):Ok (bv o x y S) Q:=by
 cases x with
 |int i=>cases y with
  |int j=>exact F3 h
  |tup ys=>exact h
  |_=>exact h.elim
 |tup xs=>cases y with
  |int j=>exact h
  |tup ys=>exact F4 h
  |_=>exact h.elim
 |_=>exact h
def wCI:COp->Int->Int->Sto->(D->Sto->Prop)->Prop
 |.eq,i,j,S,Q=>Q (.bl (decide (i=j))) S
 |.ne,i,j,S,Q=>Q (.bl (!decide (i=j))) S
 |.lt,i,j,S,Q=>Q (.bl (decide (i < j))) S
 |.le,i,j,S,Q=>Q (.bl (decide (i<=j))) S
 |.gt,i,j,S,Q=>Q (.bl (decide (j < i))) S
 |.ge,i,j,S,Q=>Q (.bl (decide (j<=i))) S
 |.is,_,_,_,_=>False
 |.isnot,_,_,_,_=>False
 |.isin,_,_,_,_=>False
 |.notin,_,_,_,_=>False
theorem F5{o:COp}{i j:Int}{S:Sto}{Q:D->Sto->Prop}(h:wCI o i j S Q):Ok (aF o (.int i) (.int j) S) Q:=by
 cases o with
 |eq=>rw[FP];exact h
 |ne=>rw[FQ];exact h
 |lt=>rw[Kd];exact h
 |le=>rw[Kc];exact h
 |gt=>rw[Ke];exact h
 |ge=>rw[Kf];exact h
 |_=>exact h.elim
def F6(o:COp)(i:Int)(y:D)(S:Sto)(Q:D->Sto->Prop):Prop:=match y with
 |.int j=>wCI o i j S Q
 |.non=>Ok (aF o (.int i) .non S) Q
 |.bl b=>Ok (aF o (.int i) (.bl b) S) Q
 |.str b=>Ok (aF o (.int i) (.str b) S) Q
 |.ref b=>Ok (aF o (.int i) (.ref b) S) Q
 |.tup b=>Ok (aF o (.int i) (.tup b) S) Q
def tq(o:COp)(xs:List D)(y:D)(S:Sto)(Q:D->Sto->Prop):Prop:=match o with
 |.eq=>match y with
  |.tup ys=>match ys with
   |[]=>Q (.bl xs.isEmpty) S
   |y::ys=>Ok (aF .eq (.tup xs) (.tup (y::ys)) S) Q
  |.non=>Ok (aF .eq (.tup xs) .non S) Q
  |.bl b=>Ok (aF .eq (.tup xs) (.bl b) S) Q
  |.str b=>Ok (aF .eq (.tup xs) (.str b) S) Q
  |.ref b=>Ok (aF .eq (.tup xs) (.ref b) S) Q
  |.int b=>Ok (aF .eq (.tup xs) (.int b) S) Q
 |.ne=>match y with
  |.tup ys=>match ys with
   |[]=>Q (.bl (!xs.isEmpty)) S
   |y::ys=>Ok (aF .ne (.tup xs) (.tup (y::ys)) S) Q
  |.non=>Ok (aF .ne (.tup xs) .non S) Q
  |.bl b=>Ok (aF .ne (.tup xs) (.bl b) S) Q
  |.str b=>Ok (aF .ne (.tup xs) (.str b) S) Q
  |.ref b=>Ok (aF .ne (.tup xs) (.ref b) S) Q
  |.int b=>Ok (aF .ne (.tup xs) (.int b) S) Q
 |.is=>Ok (aF .is (.tup xs) y S) Q
 |.isnot=>Ok (aF .isnot (.tup xs) y S) Q
 |.isin=>Ok (aF .isin (.tup xs) y S) Q
 |.notin=>Ok (aF .notin (.tup xs) y S) Q
 |.lt=>False |.le=>False |.gt=>False |.ge=>False
def wCx(o:COp)(x y:D)(S:Sto)(Q:D->Sto->Prop):Prop:=match x with
 |.int i=>F6 o i y S Q
 |.tup xs=>tq o xs y S Q
 |.non=>Ok (aF o .non y S) Q
 |.bl b=>Ok (aF o (.bl b) y S) Q
 |.str b=>Ok (aF o (.str b) y S) Q
 |.ref b=>Ok (aF o (.ref b) y S) Q
theorem F7{o:COp}{x y:D}{S:Sto}{Q:D->Sto->Prop}(h:wCx o x y S Q):Ok (aF o x y S) Q:=by
 cases x with
 |int i=>cases y with
  |int j=>exact F5 h
  |_=>exact h
 |tup xs=>cases o with
  |eq=>cases y with
   |tup ys=>cases ys with
    |nil=>rw[AQ,az];exact h
    |cons y ys=>exact h
   |_=>exact h
  |ne=>cases y with
   |tup ys=>cases ys with
    |nil=>rw[AR,az];exact h
    |cons y ys=>exact h
   |_=>exact h
  |lt=>exact h.elim
  |le=>exact h.elim
  |gt=>exact h.elim
  |ge=>exact h.elim
  |_=>exact h
 |_=>exact h
def wCm(o:COp)(x y:D)(S:Sto)(Q:D->Sto->Prop):Prop:=match o with
 |.is=>Ok (aF .is x y S) Q
 |.isnot=>Ok (aF .isnot x y S) Q
 |.isin=>Ok (aF .isin x y S) Q
 |.notin=>Ok (aF .notin x y S) Q
 |.eq=>wCx .eq x y S Q
 |.ne=>wCx .ne x y S Q
 |.lt=>wCx .lt x y S Q
 |.le=>wCx .le x y S Q
 |.gt=>wCx .gt x y S Q
 |.ge=>wCx .ge x y S Q
theorem kZ{o:COp}{x y:D}{S:Sto}{Q:D->Sto->Prop}(h:wCm o x y S Q):Ok (aF o x y S) Q:=by
 cases o <;> first |exact F7 h |exact h
def F8(o p:COp)(x y z:WP D):WP D:=fun ρ S Q=>x ρ S fun a S1=>y ρ S1 fun b S2=>wCm o a b S2 fun r S3=>wBl r fun c=>wIf c (z ρ S3 fun e S4=>wCm p b e S4 Q) (Q (.bl false) S3)
theorem C7{o p:COp}{w v u:WP D}{x y z:XE}(hw:Sd w x)(hv:Sd v y)(hu:Sd u z):Sd (F8 o p w v u) (sN (aF o) (aF p) x y z):=fun _ _ _ h=>by
 rw[FK];refine(hw _ _ _ h).mono fun a S1 h=>(hv _ _ _ h).mono fun b S2 h=>(kZ h).mono fun r S3 h=>?_;obtain⟨c,e,h⟩:=jb h;refine⟨c,e,?_⟩;cases c with
 |true=>exact(hu _ _ _ h).mono fun e S4 h=>kZ h
 |false=>exact h
def Kk(x y:WP D):WP D:=fun ρ S Q=>x ρ S fun d S1=>wBl d fun b=>wIf b (y ρ S1 Q) (Q (.bl false) S1)
theorem Kl{w v:WP D}{x y:XE}(hw:Sd w x)(hv:Sd v y):Sd (Kk w v) (vI x y):=fun _ _ _ h=>by
 rw[FH];refine(hw _ _ _ h).mono fun a S1 h=>?_;obtain⟨c,e,h⟩:=jb h;refine⟨c,e,?_⟩;cases c with
 |true=>exact hv _ _ _ h
 |false=>exact h
def wOr(x y:WP D):WP D:=fun ρ S Q=>x ρ S fun d S1=>wBl d fun b=>wIf b (Q (.bl true) S1) (y ρ S1 Q)
theorem LV{w v:WP D}{x y:XE}(hw:Sd w x)(hv:Sd v y):Sd (wOr w v) (xOr x y):=fun _ _ _ h=>by
 rw[Kb];refine(hw _ _ _ h).mono fun a S1 h=>?_;obtain⟨c,e,h⟩:=jb h;refine⟨c,e,?_⟩;cases c with
 |false=>exact hv _ _ _ h
 |true=>exact h
def Km(x:WP D):WP D:=fun ρ S Q=>x ρ S fun d S1=>wBl d fun b=>Q (.bl (!b)) S1
theorem Kn{w:WP D}{x:XE}(hw:Sd w x):Sd (Km w) (xUn sM x):=fun _ _ _ h=>aP ((hw _ _ _ h).mono fun a S1 h=>by
 rw[FJ];exact jb h)
def Ko(x:WP D):WP D:=fun ρ S Q=>x ρ S fun d S1=>cu d fun i=>Q (.int (-i)) S1
theorem Kq{w:WP D}{x:XE}(hw:Sd w x):Sd (Ko w) (xUn EO x):=fun _ _ _ h=>aP ((hw _ _ _ h).mono fun a S1 h=>by
 obtain⟨i,rfl,h⟩:=bQ h;exact be h)
def Kr{α:Type}(c:WP Bool)(x y:WP α):WP α:=fun ρ S Q=>c ρ S fun b S1=>wIf b (x ρ S1 Q) (y ρ S1 Q)
theorem Ks{c:WP Bool}{w v:WP D}{t:XT}{x y:XE}(hc:Sd c t)(hw:Sd w x)(hv:Sd v y):Sd (Kr c w v) (ER t x y):=fun _ _ _ h=>aP ((hc _ _ _ h).mono fun b S1 h=>by
 cases b with
 |true=>exact hw _ _ _ h
 | false=>exact hv _ _ _ h)
def wO:Option (WP D)->WP (Option Int)
 |none=>fun _ S Q=>Q none S
 |some w=>fun ρ S Q=>w ρ S fun d S1=>cu d fun i=>Q (some i) S1
def pD(lo hi:Option Int)(d:D)(S:Sto)(Q:D->Sto->Prop):Prop:=match d with
 |.tup ds=>Q (.tup (nS ds lo hi)) S
 |.ref n=>Ok (slS lo hi (.ref n) S) Q
 |.non=>False |.bl _=>False |.str _=>False |.int _=>False
def wSl(x:WP D)(lo hi:WP (Option Int)):WP D:=fun ρ S Q=>x ρ S fun d S1=>lo ρ S1 fun l S2=>hi ρ S2 fun h S3=>pD l h d S3 Q
theorem LW:Sd (wO none) oh:=fun _ _ _ h=>be h
theorem LX{w:WP D}{x:XE}(hw:Sd w x):Sd (wO (some w)) (oi x):=fun _ _ _ h=>aP ((hw _ _ _ h).mono fun d S1 h=>by
 obtain⟨i,rfl,h⟩:=bQ h;exact be h)
theorem LY{w:WP D}{l u:WP (Option Int)}{x:XE}{lo hi:XO}(hw:Sd w x)(hl:Sd l lo)(hu:Sd u hi):Sd (wSl w l u) (xSl x lo hi):=fun _ _ _ h=>aP ((hw _ _ _ h).mono fun d S1 h=>aP ((hl _ _ _ h).mono fun a S2 h=>aP ((hu _ _ _ h).mono fun b S3 h=>by
 cases d with
 |tup ds=>exact be h
 |ref n=>exact h
 | _=>exact h.elim)))
def C8(g:List D->Sto->Option (D × Sto))(n:Nat)(x:WP (List D)):WP D:=fun ρ S Q=>x ρ S fun ds S1=>ds.length=n/\Ok (g ds S1) Q
theorem F9{g:List D->Sto->Option (D × Sto)}{n:Nat}{w:WP (List D)}{x:XA}(hw:Sd w x):Sd (C8 g n w) (mr g n x):=fun _ _ _ h=>by
 rw[AG];exact hw _ _ _ h
def eW(x:WP (List D)):WP D:=fun ρ S Q=>x ρ S fun ds S1=>Q (.ref S1.length) (S1++[.lst ds])
theorem cZ{w:WP (List D)}{x:XA}(hw:Sd w x):Sd (eW w) (cg x):=fun _ _ _ h=>by rw[xu];exact hw _ _ _ h
def c6:Nat->List CE->Prop->Prop
 |_,[],A=>A
 |0,_::_,_=>False
 |n+1,_::es,A=>c6 n es A
theorem fJ:∀ {n:Nat} {es:List CE} {A:Prop},c6 n es A->es.length<=n/\A
 |n,[],_,h=>⟨Xl _,by cases n <;> exact h⟩
 |0,_::_,_,h=>h.elim
 |n+1,_::es,_,h=>by rw[Zs];exact⟨Xh (fJ (es:=es) h).1,(fJ (es:=es) h).2⟩
def wSh{α:Type}(es:List CE)(x:WP α):WP α:=fun ρ S Q=>c6 60 es (x ρ S Q)
def m9(c:D->Sto->Bool)(f:D->List D->Sto->Option (D × Sto))(x:WP D)(y:WP (List D)):WP D:=fun ρ S Q=>x ρ S fun d S1=>c d S1=true/\y ρ S1 fun as S2=>Ok (f d as S2) Q
theorem jc{c:D->Sto->Bool}{f:D->List D->Sto->Option (D × Sto)}{w:WP D}{v:WP (List D)}{x:XE}{y:XA}(hw:Sd w x)(hv:Sd v y):Sd (m9 c f w v) (ji c f x y):=fun _ _ _ h=>aP ((hw _ _ _ h).mono fun d S1 h=>by
 rw[if_pos h.1];exact aP (hv _ _ _ h.2))
def Ga(x:WP D):WP (List D):=fun ρ S Q=>x ρ S fun d S1=>∃i:Nat,d = .int i/\i<=1000/\Q ((ZI i).map fun j=>.int (Int.ofNat j)) S1
def xD(x y:WP D):WP (List D):=fun ρ S Q=>x ρ S fun d S1=>y ρ S1 fun e S2=>∃i j,d = .int i/\e = .int j/\-100000<=i/\i<=j/\j<=i+1000/\i<=100000/\Q (rgD i j) S2
theorem xE{w w':WP D}{x y:XE}(hw:Sd w x)(hw':Sd w' y):Sd (xD w w') (jL x y):=fun _ _ _ h=>AK ((hw _ _ _ h).mono fun _ _ h=>hw' _ _ _ h)
theorem C9{w:WP D}{x:XE}(hw:Sd w x):Sd (Ga w) (sQ x):=fun _ _ _ h=>FO (hw _ _ _ h)
def Gb:WP (List D):=fun _ S Q=>Q [] S
theorem Da:Sd Gb rT:=fun _ _ _ h=>be h
def Db(x:WP D)(y:WP (List D)):WP (List D):=fun ρ S Q=>x ρ S fun a S1=>y ρ S1 fun as S2=>Q (a::as) S2
theorem Gc{w:WP D}{v:WP (List D)}{x:XE}{y:XA}(hw:Sd w x)(hv:Sd v y):Sd (Db w v) (p7 x y):=fun _ _ _ h=>aP ((hw _ _ _ h).mono fun d S1 h=>aP ((hv _ _ _ h).mono fun ds S2 h=>be h))
def LZ(o:Option D)(A:Prop):Prop:=match o with
 |none=>A
 |some _=>False
def wFr:Rho->Nat->Prop->Prop
 |[],_,_=>False
 |o::_,0,A=>LZ o A
 |_::ρ,i+1,A=>wFr ρ i A
theorem k8:∀ {ρ:Rho} {i:Nat} {A:Prop},wFr ρ i A->ρ[i]?=some none/\A
 |[],_,_,h=>h.elim
 |none::_,0,_,h=>⟨rfl,h⟩
 |some _::_,0,_,h=>h.elim
 |o::ρ,i+1,_,h=>by rw[YN];exact k8 (ρ:=ρ) h
def nc:List Tg->Rho->Prop->Prop
 |[],_,A=>A
 |.name i::ts,ρ,A=>wFr ρ i (nc ts ρ A)
 |.tup us::ts,ρ,A=>cz (.tup us) ρ=true/\nc ts ρ A
def wFt:Tg->Rho->Prop->Prop
 |.name i,ρ,A=>wFr ρ i A
 |.tup ts,ρ,A=>nc ts ρ A
theorem jY{i:Nat}{ρ:Rho}(h:ρ[i]?=some none):cz (.name i) ρ=true:=by rw[cz,h]
theorem k9:∀ {ts:List Tg} {ρ:Rho} {A:Prop},nc ts ρ A->dB ts ρ=true/\A
 |[],_,_,h=>⟨by rw[dB],h⟩
 |.name i::ts,ρ,_,h=>by
  obtain⟨e,h⟩:=k8 h;obtain⟨e2,h⟩:=k9 h;exact⟨by rw[dB,jY e,e2];rfl,h⟩
 |.tup us::ts,ρ,_,h=>by
  obtain⟨e,h⟩:=h;obtain⟨e2,h⟩:=k9 h;exact⟨by rw[dB,e,e2];rfl,h⟩
theorem pE{t:Tg}{ρ:Rho}{A:Prop}(h:wFt t ρ A):cz t ρ=true/\A:=by
 cases t with
 |name i=>exact⟨jY (k8 h).1,(k8 h).2⟩
 |tup ts=>rw[cz];exact k9 h
def ng:List Str->Rho->(Rho->Prop)->Prop
 |[],r,Q=>Q r
 |_::own,r,Q=>ng own (none::r) Q
def nh:Rho->Rho->(Rho->Prop)->Prop
 |[],r,Q=>Q r
 |o::ρ,r,Q=>nh ρ r fun r'=>Q (o::r')
theorem qV:∀ {ρ r:Rho} {Q:Rho->Prop},nh ρ r Q->Q (ρ++r)
 |[],_,_,h=>h
 |o::ρ,r,Q,h=>qV (ρ:=ρ) (Q:=fun r'=>Q (o::r')) h
theorem qW:∀ {own:List Str} {k:Nat} {Q:Rho->Prop},ng own (Zi k none) Q->Q (Zi (own.length+k) none)
 |[],k,_,h=>by rw[Z2,Nat.zero_add];exact h
 |_::own,k,Q,h=>by
  have:=qW (own:=own) (k:=k+1) h;rw[Zs,show own.length+1+k=own.length+(k+1) by lia];exact this
def Dc(own:List Str)(it:WP Nxt)(tg:Tg)(c:XA)(k:Nat):WP (List D):=fun ρ S Q=>it ρ S fun nx S1=>ng own [] fun r=>nh ρ r fun ρ'=>wFt tg ρ' (Ok (bw nx tg c ρ' k 0 S1) fun es S2=>es.length<=100000/\Q es S2)
theorem xF{own:List Str}{k:Nat}{w:WP Nxt}{it:XI}{tg:Tg}{c:XA}(hw:Sd w it):Sd (Dc own w tg c k) (iL own.length it tg c k):=fun _ _ _ h=>by
 rw[AH]
 exact(hw _ _ _ h).mono fun nx S1 h=>by
  have h:=qV (qW (own:=own) (k:=0) h);exact pE h
def xG(it:WP Nxt)(tg:Tg)(c:XA)(k:Nat):WP (List D):=fun ρ S Q=>wFt tg ρ (it ρ S fun nx S1=>Ok (bw nx tg c ρ k 0 S1) Q)
theorem AW{k:Nat}{w:WP Nxt}{it:XI}{tg:Tg}{c:XA}(hw:Sd w it):Sd (xG w tg c k) (fX it tg c k):=fun _ _ _ h=>by
 rw[xt];exact⟨(pE h).1,hw _ _ _ (pE h).2⟩
def xH(d:D)(S1:Sto)(Q:Nxt->Sto->Prop):Prop:=match d with
 |.tup ds=>Q (nxL ds) S1
 |.ref n=>(ai S1 n).isSome=true/\Q (nxS n) S1
 |.non=>False |.bl _=>False |.str _=>False |.int _=>False
theorem L0{w:WP D}{x:XE}(hw:Sd w x):Sd (fun ρ S Q=>w ρ S fun d S1=>xH d S1 Q) (xIV x):=fun _ _ _ h=>aP ((hw _ _ _ h).mono fun d S1 h=>by
 cases d with
 |tup ds=>exact be h
 |ref n=>dsimp only;rw[if_pos h.1];exact be h.2
 | _=>exact h.elim)
def xI(d:D)(S1:Sto)(Q:Nxt->Sto->Prop):Prop:=match d with
 |.tup ds=>Q (sK ds) S1
 |.ref n=>(ai S1 n).isSome=true/\Q (vj n) S1
 |.non=>False |.bl _=>False |.str _=>False |.int _=>False
theorem L1{w:WP D}{x:XE}(hw:Sd w x):Sd (fun ρ S Q=>w ρ S fun d S1=>xI d S1 Q) (xEV x):=fun _ _ _ h=>aP ((hw _ _ _ h).mono fun d S1 h=>by
 cases d with
 |tup ds=>exact be h
 |ref n=>dsimp only;rw[if_pos h.1];exact be h.2
 | _=>exact h.elim)
def wOn{α β:Type}(f:α->β)(x:WP α):WP β:=fun ρ S Q=>x ρ S fun a S1=>Q (f a) S1
theorem xJ{α β:Type}{f:α->β}{w:WP α}{x:Rho->Sto->Option (α × Sto)}(hw:Sd w x):Sd (wOn f w) (fun ρ S=>bnd (x ρ S) fun a S1=>some (f a,S1)):=fun _ _ _ h=>aP ((hw _ _ _ h).mono fun d S1 h=>be h)
def wR1(x:WP D):WP Nxt:=fun ρ S Q=>x ρ S fun d S1=>cu d fun j=>lim j=true/\Q (nxR 0 j.toNat) S1
theorem L3{w:WP D}{x:XE}(hw:Sd w x):Sd (wR1 w) (xR1 x):=fun _ _ _ h=>aP ((hw _ _ _ h).mono fun d S1 h=>by
 obtain⟨i,rfl,h⟩:=bQ h;dsimp only;rw[if_pos h.1];exact be h.2)
def wR2(x y:WP D):WP Nxt:=fun ρ S Q=>x ρ S fun d S1=>y ρ S1 fun e S2=>cu d fun i=>cu e fun j=>(lim i=true/\lim j=true)/\Q (nxR i (j - i).toNat) S2
theorem L4{w v:WP D}{x y:XE}(hw:Sd w x)(hv:Sd v y):Sd (wR2 w v) (xR2 x y):=fun _ _ _ h=>aP ((hw _ _ _ h).mono fun d S1 h=>aP ((hv _ _ _ h).mono fun e S2 h=>by
 obtain⟨i,rfl,h'⟩:=bQ h;obtain⟨j,rfl,h''⟩:=bQ h';dsimp only;rw[if_pos h''.1];exact be h''.2))
def Kt(x y:WP D):WP Nxt:=fun ρ S Q=>x ρ S fun d S1=>y ρ S1 fun e S2=>∃n k,d = .ref n/\e = .ref k/\((ai S2 n).isSome=true/\(ai S2 k).isSome=true)/\Q (nxZ n k) S2
theorem Ku{w v:WP D}{x y:XE}(hw:Sd w x)(hv:Sd v y):Sd (Kt w v) (EF x y):=fun _ _ _ h=>aP ((hw _ _ _ h).mono fun d S1 h=>aP ((hv _ _ _ h).mono fun e S2 h=>by
 obtain⟨n,k,rfl,rfl,h,q⟩:=h;dsimp only;rw[if_pos h];exact be q))
def al(d:D)(S:Sto)(Q:Bool->Sto->Prop):Prop:=match d with
 |.bl b=>Q b S
 |.tup ds=>Q (!ds.isEmpty) S
 |.int i=>Q (i != 0) S
 |.non=>Q false S
 |.str y=>Ok (kz (.str y) S) Q
 |.ref y=>Ok (kz (.ref y) S) Q
theorem xK{d:D}{S:Sto}{Q:Bool->Sto->Prop}(h:al d S Q):Ok (kz d S) Q:=by cases d <;> first |exact be h |exact h
def wB(x:WP D):WP Bool:=fun ρ S Q=>x ρ S fun d S1=>wBl d fun b=>Q b S1
theorem s_b{w:WP D}{x:XE}(hw:Sd w x):Sd (wB w) (xB x):=fun _ _ _ h=>by
 rw[Kg];exact(hw _ _ _ h).mono fun d S1 h=>jb h
def Dd(x y:WP Bool):WP Bool:=fun ρ S Q=>x ρ S fun b S1=>wIf b (y ρ S1 Q) (Q false S1)
def Kv(x y:WP Bool):WP Bool:=fun ρ S Q=>x ρ S fun b S1=>wIf b (Q true S1) (y ρ S1 Q)
def De(x:WP Bool):WP Bool:=fun ρ S Q=>x ρ S fun b S1=>Q (!b) S1
theorem Gd{w v:WP Bool}{x y:XT}(hw:Sd w x)(hv:Sd v y):Sd (Dd w v) (vL x y):=fun _ _ _ h=>aP ((hw _ _ _ h).mono fun b S1 h=>by
 cases b with
 |true=>exact hv _ _ _ h
 | false=>exact be h)
theorem Kw{w v:WP Bool}{x y:XT}(hw:Sd w x)(hv:Sd v y):Sd (Kv w v) (EU x y):=fun _ _ _ h=>aP ((hw _ _ _ h).mono fun b S1 h=>by
 cases b with
 |false=>exact hv _ _ _ h
 | true=>exact be h)
theorem Gf{w:WP Bool}{x:XT}(hw:Sd w x):Sd (De w) (vM x):=fun _ _ _ h=>aP ((hw _ _ _ h).mono fun b S1 h=>be h)
def Df(t:WP Bool)(c:WP (List D)):WP (List D):=fun ρ S Q=>t ρ S fun b S1=>wIf b (c ρ S1 Q) (Q [] S1)
theorem Gg{t:WP Bool}{c:WP (List D)}{x:XT}{y:XA}(ht:Sd t x)(hc:Sd c y):Sd (Df t c) (vF x y):=fun _ _ _ h=>aP ((ht _ _ _ h).mono fun b S1 h=>by
 cases b with
 |true=>exact hc _ _ _ h
 | false=>exact be h)
def AX(f:Bool->List D->Option (List D))(ds:List D)(S:Sto)(Q:List D->Sto->Prop):Prop:=∃es,f false ds=some es/\Q es S
def AY(f:Bool->List D->Option (List D))(d:D)(S:Sto)(Q:List D->Sto->Prop):Prop:=∃r es,aM d S=some r/\f r.1 r.2=some es/\Q es S
def pF(d:D)(S:Sto)(Q:List D->Sto->Prop):Prop:=Ok ((aM d S).map fun r=>(r.2,S)) Q
theorem Kx{f:Bool->List D->Option (List D)}{w:WP (List D)}{x:XA}(hw:Sd w x):Sd (fun ρ S Q=>w ρ S fun ds S1=>AX f ds S1 Q) (sO f x):=fun _ _ _ h=>aP ((hw _ _ _ h).mono fun ds S1 ⟨es,e,h⟩=>by rw[e];exact be h)
theorem Ky{f:Bool->List D->Option (List D)}{w:WP D}{x:XE}(hw:Sd w x):Sd (fun ρ S Q=>w ρ S fun ds S1=>AY f ds S1 Q) (sP f x):=fun _ _ _ h=>aP ((hw _ _ _ h).mono fun ds S1 ⟨r,es,e1,e,h⟩=>by
 rw[e1];dsimp only;rw[e];exact be h)
def wNo{α:Type}:WP α:=fun _ _ _=>False
theorem la{α:Type}{x:Rho->Sto->Option (α × Sto)}:Sd wNo x:=fun _ _ _ h=>h.elim
def aH(b:Bool)(x:WP (List D))(y:WP D)(ρ:Rho)(S:Sto)(KT:List D->Sto->Prop)(KV:D->Sto->Prop):Prop:=match b with
 |true=>x ρ S KT
 |false=>y ρ S KV
def wOf{α:Type}(b:Bool)(x:WP (List D))(y:WP D)(gt:List D->Sto->(α->Sto->Prop)->Prop)(gv:D->Sto->(α->Sto->Prop)->Prop):WP α:=fun ρ S Q=>aH b x y ρ S (fun ds S1=>gt ds S1 Q) (fun d S1=>gv d S1 Q)
theorem s_of{α:Type}{b:Bool}{w:WP (List D)}{v:WP D}{gt:List D->Sto->(α->Sto->Prop)->Prop}{gv:D->Sto->(α->Sto->Prop)->Prop}{x y:Rho->Sto->Option (α × Sto)}(hw:Sd (fun ρ S Q=>w ρ S fun ds S1=>gt ds S1 Q) x)(hv:Sd (fun ρ S Q=>v ρ S fun d S1=>gv d S1 Q) y):Sd (wOf b w v gt gv) (if b=true then x else y):=by
 cases b with
 |true=>exact hw
 |false=>exact hv
theorem L5{b:Bool}{w:WP (List D)}{v u:WP D}{x:XA}{y z:XE}(hw:Sd w x)(hu:Sd u z)(hv:Sd v y):Sd (fun ρ S Q=>aH b w u ρ S (fun ds S1=>v ρ S1 fun i S2=>cu i fun k=>∃d,atI ds k=some d/\Q d S2) (fun d S1=>v ρ S1 fun i S2=>Ok (ixS d i S2) Q)) (if b=true then nZ x y else lJ ixS z y):=fun ρ S Q h=>by
 cases b with
 |true=>
  show Ok (nZ x y ρ S) Q;rw[F0];exact(hw _ _ _ h).mono fun ds S1 h=>(hv _ _ _ h).mono fun i S2 h=>bQ h
 |false=>exact aP ((hu _ _ _ h).mono fun ds S1 h=>aP (hv _ _ _ h))
noncomputable def wO2(t:CE->WP D):Option CE->Option (WP D)
 |none=>none
 |some e=>some (t e)
def AZ(t:CE->WP Bool):Option CE->WP (List D)->WP (List D)
 |some c,x=>Df (t c) x
 |none,x=>x
def xL(x y:D)(S:Sto)(Q:D->Sto->Prop):Prop:=cu x fun i=>cu y fun j=>Q (.int (if j > i then j else i)) S
def xM(x y:D)(S:Sto)(Q:D->Sto->Prop):Prop:=cu x fun i=>cu y fun j=>Q (.int (if j < i then j else i)) S
def w2(g:D->D->Sto->(D->Sto->Prop)->Prop):List D->Sto->(D->Sto->Prop)->Prop
 |[],_,_=>False
 |[_],_,_=>False
 |[x,y],S,Q=>g x y S Q
 |_::_::_::_,_,_=>False
theorem Dg{g:D->D->Sto->(D->Sto->Prop)->Prop}{f:D->D->Sto->Option (D × Sto)}(hg:∀ {a b S Q},g a b S Q->Ok (f a b S) Q):∀ {ds:List D} {S:Sto} {Q:D->Sto->Prop},w2 g ds S Q->Ok (two f ds S) Q
 |[],_,_,h=>h.elim
 |[_],_,_,h=>h.elim
 |[x,y],_,_,h=>hg h
 |_::_::_::_,_,_,h=>h.elim
def Dh:WP D:=fun _ S Q=>Q (.ref (ZJ S)) (S++[.dic [] []])
def Di(i j:Int):WP D:=fun _ S Q=>Q (.ref (ZJ S)) (S++[.dic [vO i] [.int j]])
def wCf(i:CI->WP Nxt)(own:List Str)(t:CE->XT)(e:List Cl->XA):List Cl->WP (List D)
 |[]=>wNo
 |⟨tg,it,cond⟩::rest=>Dc own (i it) tg (cnd t cond (e rest)) LF
mutual
def wE(C:Calls)(ar:Nat->Nat):Nat->CE->WP D
 |0,_=>wNo
 |n+1,e=>match e with
  |.non=>wC .non
  |.bl b=>wC (.bl b)
  |.int i=>wC (.int i)
  |.str x=>wC (.str x)
  |.var i=>Ki i
  |.con _ v=>wC (.int v)
  |.tup es=>wSh es (wOn D.tup (wA C ar n es))
  |.lst es=>eW (wSh es (wA C ar n es))
  |.dic0=>Dh
  |.dic1 i j=>Di i j
  |.bin o a b=>AS (pC o) (wE C ar n a) (wE C ar n b)
  |.neg a=>Ko (wE C ar n a)
  |.cmp o a b=>AS (wCm o) (wE C ar n a) (wE C ar n b)
  |.chn o p a b c=>F8 o p (wE C ar n a) (wE C ar n b) (wE C ar n c)
  |.and a b=>Kk (wE C ar n a) (wE C ar n b)
  |.or a b=>wOr (wE C ar n a) (wE C ar n b)
  |.not a=>Km (wE C ar n a)
  |.ite c a b=>Kr (wT C ar n c) (wE C ar n a) (wE C ar n b)
  |.ix a b=>fun ρ S Q=>aH (ac a) (wTm C ar n a) (wE C ar n a) ρ S (fun ds S1=>wE C ar n b ρ S1 fun i S2=>cu i fun k=>∃d,atI ds k=some d/\Q d S2) (fun d S1=>wE C ar n b ρ S1 fun i S2=>Ok (ixS d i S2) Q)
  |.sl a lo hi=>wSl (wE C ar n a) (wO (wO2 (wE C ar n) lo)) (wO (wO2 (wE C ar n) hi))
  |.call f es=>C8 (C f) (ar f) (wA C ar n es)
  |.inst t a=>wUn (wOk (lU t)) (wE C ar n a)
  |.len a=>wOf (ac a) (wTm C ar n a) (wE C ar n a) (wOk (ir false)) (wOk (aK ir))
  |.all a=>wOf (ac a) (wTm C ar n a) (wE C ar n a) (wOk (lQ false)) (wOk (aK lQ))
  |.any a=>wOf (ac a) (wTm C ar n a) (wE C ar n a) (wOk (lR false)) (wOk (aK lR))
  |.tupOf a=>wOf (ac a) (wTm C ar n a) (wE C ar n a) (wOk (lP false)) (wOk (aK lP))
  |.listOf a=>eW (wOf (ac a) (wTm C ar n a) (wE C ar n a) (fun ds S Q=>Q ds S) pF)
  |.listR a=>eW (Ga (wE C ar n a))
  |.listR2 a b=>eW (xD (wE C ar n a) (wE C ar n b))
  |.srt a=>eW (wOf (ac a) (wTm C ar n a) (wE C ar n a) (AX cN) (AY cN))
  |.mxL a=>wOf (ac a) (wTm C ar n a) (wE C ar n a) (wOk (l3 false)) (wOk (aK l3))
  |.mxD a c=>wOf (ac a) (wTm C ar n a) (wE C ar n a) (wOk (gw c false)) (wOk (aK (gw c)))
  |.mnL a=>wOf (ac a) (wTm C ar n a) (wE C ar n a) (wOk (ma false)) (wOk (aK ma))
  |.sm a=>wOf (ac a) (wTm C ar n a) (wE C ar n a) (wOk (md false)) (wOk (aK md))
  |.intOf a=>wUn (wOk zq) (wE C ar n a)
  |.strI a=>wUn (wOk oJ) (wE C ar n a)
  |.mx a b=>wUn (w2 xL) (wA C ar n [a,b])
  |.mn a b=>wUn (w2 xM) (wA C ar n [a,b])
  |.rep a=>wUn (wOk mh) (wE C ar n a)
  |.comp own elt cls=>eW (wCf (wI C ar n) own (evT C ar n) (ef C ar n elt) cls)
  |.app o a=>m9 bS u5 (wE C ar n o) (wA C ar n [a])
  |.ext o a=>m9 bS vh (wE C ar n o) (wA C ar n [a])
  |.pop o=>m9 bS u6 (wE C ar n o) Gb
  |.popAt o a=>m9 bS iC (wE C ar n o) (wA C ar n [a])
  |.ins o i a=>m9 bS vg (wE C ar n o) (wA C ar n [i,a])
  |.cnt o a=>m9 (fun d _=>isTup d) u7 (wE C ar n o) (wA C ar n [a])
  |.join o a=>m9 (fun d _=>qd d) iH (wE C ar n o) (wA C ar n [a])
def wA(C:Calls)(ar:Nat->Nat):Nat->List CE->WP (List D)
 |0,_=>wNo
 |n+1,es=>match es with
  |[]=>Gb
  |e::es=>Db (wE C ar n e) (wA C ar n es)
def wTm(C:Calls)(ar:Nat->Nat):Nat->CE->WP (List D)
 |0,_=>wNo
 |n+1,e=>match e with
  |.lst es=>wSh es (wA C ar n es)
  |.listOf a=>wOf (ac a) (wTm C ar n a) (wE C ar n a) (fun ds S Q=>Q ds S) pF
  |.listR a=>Ga (wE C ar n a)
  |.listR2 a b=>xD (wE C ar n a) (wE C ar n b)
  |.srt a=>wOf (ac a) (wTm C ar n a) (wE C ar n a) (AX cN) (AY cN)
  |.comp own elt cls=>wCf (wI C ar n) own (evT C ar n) (ef C ar n elt) cls
  |.non=>wNo
  |.bl _=>wNo
  |.int _=>wNo
  |.str _=>wNo
  |.var _=>wNo
  |.con _ _=>wNo
  |.tup _=>wNo
  |.dic0=>wNo
  |.dic1 _ _=>wNo
  |.bin _ _ _=>wNo
  |.neg _=>wNo
  |.cmp _ _ _=>wNo
  |.chn _ _ _ _ _=>wNo
  |.and _ _=>wNo
  |.or _ _=>wNo
  |.not _=>wNo
  |.ite _ _ _=>wNo
  |.ix _ _=>wNo
  |.sl _ _ _=>wNo
  |.call _ _=>wNo
  |.inst _ _=>wNo
  |.len _=>wNo
  |.all _=>wNo
  |.any _=>wNo
  |.tupOf _=>wNo
  |.mxL _=>wNo
  |.mxD _ _=>wNo
  |.mnL _=>wNo
  |.sm _=>wNo
  |.intOf _=>wNo
  |.strI _=>wNo
  |.mx _ _=>wNo
  |.mn _ _=>wNo
  |.rep _=>wNo
  |.app _ _=>wNo
  |.ext _ _=>wNo
  |.pop _=>wNo
  |.popAt _ _=>wNo
  |.ins _ _ _=>wNo
  |.cnt _ _=>wNo
  |.join _ _=>wNo
def wI(C:Calls)(ar:Nat->Nat):Nat->CI->WP Nxt
 |0,_=>wNo
 |n+1,it=>match it with
  |.val a=>wOf (ac a) (wTm C ar n a) (wE C ar n a) (fun ds S Q=>Q (nxL ds) S) xH
  |.r1 a=>wR1 (wE C ar n a)
  |.r2 a b=>wR2 (wE C ar n a) (wE C ar n b)
  |.zp a b=>Kt (wE C ar n a) (wE C ar n b)
  |.en a=>wOf (ac a) (wTm C ar n a) (wE C ar n a) (fun ds S Q=>Q (sK ds) S) xI
def wT(C:Calls)(ar:Nat->Nat):Nat->CE->WP Bool
 |0,_=>wNo
 |n+1,e=>match e with
  |.cmp o a b=>wB (AS (wCm o) (wE C ar n a) (wE C ar n b))
  |.chn o p a b c=>wB (F8 o p (wE C ar n a) (wE C ar n b) (wE C ar n c))
  |.and a b=>Dd (wT C ar n a) (wT C ar n b)
  |.or a b=>Kv (wT C ar n a) (wT C ar n b)
  |.not a=>De (wT C ar n a)
  |.ite _ _ _=>wNo
  |.non=>wUn al (wE C ar n (.non))
  |.bl b=>wUn al (wE C ar n (.bl b))
  |.int i=>wUn al (wE C ar n (.int i))
  |.str x=>wUn al (wE C ar n (.str x))
  |.var i=>wUn al (wE C ar n (.var i))
  |.con k v=>wUn al (wE C ar n (.con k v))
  |.tup es=>wUn al (wE C ar n (.tup es))
  |.lst es=>wUn al (wE C ar n (.lst es))
  |.dic0=>wUn al (wE C ar n (.dic0))
  |.dic1 i j=>wUn al (wE C ar n (.dic1 i j))
  |.bin o a b=>wUn al (wE C ar n (.bin o a b))
  |.neg a=>wUn al (wE C ar n (.neg a))
  |.ix a b=>wUn al (wE C ar n (.ix a b))
  |.sl a lo hi=>wUn al (wE C ar n (.sl a lo hi))
  |.call f es=>wUn al (wE C ar n (.call f es))
  |.inst t a=>wUn al (wE C ar n (.inst t a))
  |.len a=>wUn al (wE C ar n (.len a))
  |.all a=>wUn al (wE C ar n (.all a))
  |.any a=>wUn al (wE C ar n (.any a))
  |.tupOf a=>wUn al (wE C ar n (.tupOf a))
  |.listOf a=>wUn al (wE C ar n (.listOf a))
  |.listR a=>wUn al (wE C ar n (.listR a))
  |.listR2 a b=>wUn al (wE C ar n (.listR2 a b))
  |.srt a=>wUn al (wE C ar n (.srt a))
  |.mxL a=>wUn al (wE C ar n (.mxL a))
  |.mxD a c=>wUn al (wE C ar n (.mxD a c))
  |.mnL a=>wUn al (wE C ar n (.mnL a))
  |.sm a=>wUn al (wE C ar n (.sm a))
  |.intOf a=>wUn al (wE C ar n (.intOf a))
  |.strI a=>wUn al (wE C ar n (.strI a))
  |.mx a b=>wUn al (wE C ar n (.mx a b))
  |.mn a b=>wUn al (wE C ar n (.mn a b))
  |.rep a=>wUn al (wE C ar n (.rep a))
  |.comp own elt cls=>wUn al (wE C ar n (.comp own elt cls))
  |.app o a=>wUn al (wE C ar n (.app o a))
  |.ext o a=>wUn al (wE C ar n (.ext o a))
  |.pop o=>wUn al (wE C ar n (.pop o))
  |.popAt o a=>wUn al (wE C ar n (.popAt o a))
  |.ins o i a=>wUn al (wE C ar n (.ins o i a))
  |.cnt o a=>wUn al (wE C ar n (.cnt o a))
  |.join o a=>wUn al (wE C ar n (.join o a))
end
def wCl(C:Calls)(ar:Nat->Nat)(n:Nat)(elt:CE):List Cl->WP (List D)
 |[]=>wOn (fun d=>[d]) (wE C ar n elt)
 |⟨tg,it,cond⟩::rest=>xG (wI C ar n it) tg (cnd (evT C ar n) cond (ef C ar n elt rest)) LF
theorem lb{C:Calls}{ar:Nat->Nat}:∀ {n:Nat} {es:List CE} {ρ:Rho} {S S':Sto} {ds:List D},evA C ar n es ρ S=some (ds,S')->ds.length=es.length
 |0,_,_,_,_,_,h=>by simp only[evA,xNo] at h;cases h
 |n+1,[],_,_,_,_,h=>by simp only[evA,rT] at h;cases h;rfl
 |n+1,e::es,_,_,_,_,h=>by
  simp only[evA,p7] at h;obtain⟨a,S1,e1,h⟩:=aa h;obtain⟨as,S2,e2,h⟩:=aa h;cases h;rw[Zs,Zs,lb e2]
structure SndW(C:Calls)(ar:Nat->Nat)(n:Nat):Prop where
 e:∀ {e:CE},Sd (wE C ar n e) (evE C ar n e)
 a:∀ {es:List CE},Sd (wA C ar n es) (evA C ar n es)
 m:∀ {e:CE},Sd (wTm C ar n e) (bJ C ar n e)
 i:∀ {i:CI},Sd (wI C ar n i) (evI C ar n i)
 t:∀ {e:CE},Sd (wT C ar n e) (evT C ar n e)
section
variable {C:Calls} {ar:Nat->Nat} {n:Nat}
theorem Kz(h:SndW C ar n){es:List CE}:Sd (wSh es (wOn D.tup (wA C ar n es))) (gC gD (evA C ar n es)):=fun ρ S Q w=>by
 obtain⟨le,w⟩:=fJ w;obtain⟨ds,S1,e1,q⟩:=h.a _ _ _ w;refine aP ⟨ds,S1,e1,?_⟩;have l:=lb e1;show Ok (gD ds S1) Q;rw[AJ];exact⟨by lia,q⟩
theorem xN(h:SndW C ar n){es:List CE}:Sd (wSh es (wA C ar n es)) (jD (evA C ar n es)):=fun ρ S Q w=>by
 obtain⟨le,w⟩:=fJ w;obtain⟨ds,S1,e1,q⟩:=h.a _ _ _ w;rw[AI];have l:=lb e1;exact⟨ds,S1,e1,by lia,q⟩
theorem Dj(h:SndW C ar n){o:Option CE}:Sd (wO (wO2 (wE C ar n) o)) (opt (evE C ar n) o):=by
 cases o with
 |none=>exact LW
 |some e=>exact LX h.e
theorem A0{a b:D}{S:Sto}{Q:D->Sto->Prop}(h:xL a b S Q):Ok (uS a b S) Q:=by
 obtain⟨i,rfl,h'⟩:=bQ h;obtain⟨j,rfl,h''⟩:=bQ h';exact be h''
theorem A6{a b:D}{S:Sto}{Q:D->Sto->Prop}(h:xM a b S Q):Ok (uT a b S) Q:=by
 obtain⟨i,rfl,h'⟩:=bQ h;obtain⟨j,rfl,h''⟩:=bQ h';exact be h''
end
section
variable {C:Calls} {ar:Nat->Nat} {n:Nat}
theorem KA(h:SndW C ar n){o:Option CE}{w:WP (List D)}{x:XA}(hw:Sd w x):Sd (AZ (wT C ar n) o w) (cnd (evT C ar n) o x):=by
 cases o with
 |none=>exact hw
 |some c=>exact Gg h.t hw
theorem xO{α β:Type}{f:α->Sto->Option (β × Sto)}{a:α}{S:Sto}{Q:β->Sto->Prop}(h:wOk f a S Q):Ok (f a S) Q:=h
theorem s_q(h:SndW C ar n){f:Bool->List D->Sto->Option (D × Sto)}{a:CE}:Sd (wOf (ac a) (wTm C ar n a) (wE C ar n a) (wOk (f false)) (wOk (aK f))) (if ac a=true then ik f (bJ C ar n a) else il f (evE C ar n a)):=
 s_of (AU (f:=f false) h.m xO) (AU (f:=aK f) h.e xO)
theorem Dk(h:SndW C ar n){a:CE}:Sd (wOf (ac a) (wTm C ar n a) (wE C ar n a) (fun ds S Q=>Q ds S) pF) (if ac a=true then bJ C ar n a else iM (evE C ar n a)):=s_of h.m (fun _ _ _ w=>aP (h.e _ _ _ w))
theorem Dm(h:SndW C ar n){a:CE}:Sd (wOf (ac a) (wTm C ar n a) (wE C ar n a) (AX cN) (AY cN)) (if ac a=true then sO cN (bJ C ar n a) else sP cN (evE C ar n a)):=s_of (Kx h.m) (Ky h.e)
theorem s_u{g:D->Sto->Option (D × Sto)}{w:WP D}{x:XE}(hw:Sd w x):Sd (wUn (wOk g) w) (xUn g x):=AU (f:=g) hw xO
theorem L6{w:WP (List D)}{x:XA}(hw:Sd w x):Sd (wUn (w2 xL) w) (gC (two uS) x):=fun _ _ _ h=>aP ((hw _ _ _ h).mono fun _ _ h=>Dg (fun z=>A0 z) h)
theorem L7{w:WP (List D)}{x:XA}(hw:Sd w x):Sd (wUn (w2 xM) w) (gC (two uT) x):=fun _ _ _ h=>aP ((hw _ _ _ h).mono fun _ _ h=>Dg (fun z=>A6 z) h)
theorem Gh:Sd Dh vP:=fun _ _ _ h=>be h
theorem Gi{i j:Int}:Sd (Di i j) (vQ i j):=fun _ _ _ h=>be h
theorem KB{w:WP D}{x:XE}(hw:Sd w x):Sd (wUn al w) (zi x):=AU (f:=kz) hw xK
theorem nj:∀n,SndW C ar n
 |0=>⟨la,la,la,la,la⟩
 |n+1=>by
  have h:=nj n;refine⟨fun {e}=>?_,fun {es}=>?_,fun {e}=>?_,fun {i}=>?_,fun {e}=>?_⟩
  ·cases e with
   |non=>exact s_c
   |bl b=>exact s_c
   |int b=>exact s_c
   |str b=>exact s_c
   |var b=>exact Kj
   |con b v=>exact s_c
   |tup es=>exact Kz h
   |lst es=>exact cZ (xN h)
   |dic0=>exact Gh
   |dic1 i j=>exact Gi
   |bin o a b=>exact xy h.e h.e AV
   |neg a=>exact Kq h.e
   |cmp o a b=>exact xy h.e h.e kZ
   |chn o p a b c=>exact C7 h.e h.e h.e
   |and a b=>exact Kl h.e h.e
   |or a b=>exact LV h.e h.e
   |not a=>exact Kn h.e
   |ite c a b=>exact Ks h.t h.e h.e
   |ix a b=>exact L5 h.m h.e h.e
   |sl a lo hi=>exact LY h.e (Dj h) (Dj h)
   |call f es=>exact F9 h.a
   |inst t a=>exact s_u h.e
   |len a=>exact s_q h
   |all a=>exact s_q h
   |any a=>exact s_q h
   |tupOf a=>exact s_q h
   |listOf a=>exact cZ (Dk h)
   |listR a=>exact cZ (C9 h.e)
   |listR2 a b=>exact cZ (xE h.e h.e)
   |srt a=>exact cZ (Dm h)
   |mxL a=>exact s_q h
   |mxD a c=>exact s_q h
   |mnL a=>exact s_q h
   |sm a=>exact s_q h
   |intOf a=>exact s_u h.e
   |strI a=>exact s_u h.e
   |mx a b=>exact L6 h.a
   |mn a b=>exact L7 h.a
   |rep a=>exact s_u h.e
   |comp own elt cls=>cases cls with
    |nil=>exact cZ la
    |cons c rest=>cases c with |mk tg it cond=>exact cZ (xF h.i)
   |app o a=>exact jc h.e h.a
   |pop o=>exact jc h.e Da
   |popAt o a=>exact jc h.e h.a
   |ins o i a=>exact jc h.e h.a
   |ext o a=>exact jc h.e h.a
   |cnt o a=>exact jc h.e h.a
   |join o a=>exact jc h.e h.a
  ·cases es with
   |nil=>exact Da
   |cons e es=>exact Gc h.e h.a
  ·cases e with
   |lst es=>exact xN h
   |listOf a=>exact Dk h
   |listR a=>exact C9 h.e
   |listR2 a b=>exact xE h.e h.e
   |srt a=>exact Dm h
   |comp own elt cls=>cases cls with
    |nil=>exact la
    |cons c rest=>cases c with |mk tg it cond=>exact xF h.i
   |_=>exact la
  ·cases i with
   |val a=>exact s_of (xJ h.m) (L0 h.e)
   |r1 a=>exact L3 h.e
   |r2 a b=>exact L4 h.e h.e
   |zp a b=>exact Ku h.e h.e
   |en a=>exact s_of (xJ h.m) (L1 h.e)
  ·cases e with
   |cmp o a b=>exact s_b (xy h.e h.e kZ)
   |chn o p a b c=>exact s_b (C7 h.e h.e h.e)
   |and a b=>exact Gd h.t h.t
   |or a b=>exact Kw h.t h.t
   |not a=>exact Gf h.t
   |ite a b c=>exact la
   |_=>exact KB h.e
theorem L8{elt:CE}{cls:List Cl}:Sd (wCl C ar n elt cls) (ef C ar (n+1) elt cls):=by
 cases cls with
 |nil=>exact xJ (nj n).e
 |cons c rest=>cases c with |mk tg it cond=>exact AW (nj n).i
theorem Gj{elt:CE}{cls:List Cl}{o:Option CE}{ρ:Rho}{S:Sto}{Q:List D->Sto->Prop}(h:AZ (wT C ar (n+1)) o (wCl C ar n elt cls) ρ S Q):Ok (cnd (evT C ar (n+1)) o (ef C ar (n+1) elt cls) ρ S) Q:=KA (nj (n+1)) L8 _ _ _ h
def wNm:Nat->D->Rho->(Rho->Prop)->Prop
 |_,_,[],_=>False
 |0,d,_::ρ,Q=>Q (some d::ρ)
 |i+1,d,o::ρ,Q=>wNm i d ρ fun ρ'=>Q (o::ρ')
theorem lc:∀ {i:Nat} {d:D} {ρ:Rho} {Q:Rho->Prop},wNm i d ρ Q->i < ρ.length/\Q (ρ.set i (some d))
 |i,_,[],_,h=>by cases i <;> exact h.elim
 |0,d,_::ρ,Q,h=>⟨by simp,h⟩
 |i+1,d,o::ρ,Q,h=>by
  have:=lc (ρ:=ρ) (Q:=fun ρ'=>Q (o::ρ')) h;exact⟨by rw[Zs];lia,this.2⟩
def wBs:List Tg->List D->Rho->(Rho->Prop)->Prop
 |[],[],ρ,Q=>Q ρ
 |[],_::_,_,_=>False
 |.name _::_,[],_,_=>False
 |.tup _::_,[],_,_=>False
 |.name i::ts,d::ds,ρ,Q=>wNm i d ρ fun ρ1=>wBs ts ds ρ1 Q
 |.tup us::ts,d::ds,ρ,Q=>∃ρ1,aG (.tup us) d ρ=some ρ1/\wBs ts ds ρ1 Q
def wTp(ts:List Tg)(d:D)(ρ:Rho)(Q:Rho->Prop):Prop:=match d with
 |.tup ds=>wBs ts ds ρ Q
 |.non=>False |.bl _=>False |.str _=>False |.int _=>False |.ref _=>False
def wBd:Tg->D->Rho->(Rho->Prop)->Prop
 |.name i,d,ρ,Q=>wNm i d ρ Q
 |.tup ts,d,ρ,Q=>wTp ts d ρ Q
theorem xP{i:Nat}{d:D}{ρ:Rho}{Q:Rho->Prop}(h:wNm i d ρ Q):∃ρ1,aG (.name i) d ρ=some ρ1/\Q ρ1:=⟨_,by rw[AN,if_pos (lc h).1],(lc h).2⟩
theorem pG:∀ {ts:List Tg} {ds:List D} {ρ:Rho} {Q:Rho->Prop},wBs ts ds ρ Q->∃ρ1,aB ts ds ρ=some ρ1/\Q ρ1
 |[],[],ρ,Q,h=>⟨ρ,qR,h⟩
 |[],_::_,_,_,h=>h.elim
 |.name _::_,[],_,_,h=>h.elim
 |.tup _::_,[],_,_,h=>h.elim
 |.name i::ts,d::ds,ρ,Q,h=>by
  obtain⟨ρ1,e,q⟩:=xP h;obtain⟨ρ2,e2,q⟩:=pG q;exact⟨ρ2,by rw[aB,e];exact e2,q⟩
 |.tup us::ts,d::ds,ρ,Q,h=>by
  obtain⟨ρ1,e,q⟩:=h;obtain⟨ρ2,e2,q⟩:=pG q;exact⟨ρ2,by rw[aB,e];exact e2,q⟩
theorem Gk{t:Tg}{d:D}{ρ:Rho}{Q:Rho->Prop}(h:wBd t d ρ Q):∃ρ1,aG t d ρ=some ρ1/\Q ρ1:=by
 cases t with
 |name i=>exact xP h
 |tup ts=>cases d with
  |tup ds=>rw[xv];exact pG h
  |_=>exact h.elim
abbrev WS:=Rho->Sto->(Fl->Rho->Sto->Prop)->Prop
def rW(y:WS)(ρ:Rho)(S:Sto)(Q:Fl->Rho->Sto->Prop):Prop:=y ρ S Q
def wNx(y:WS)(Q:Fl->Rho->Sto->Prop)(f:Fl)(ρ:Rho)(S:Sto):Prop:=match f with
 |.nx=>rW y ρ S Q
 |.rt d=>Q (.rt d) ρ S
 |.bk=>Q .bk ρ S
 |.ct=>Q .ct ρ S
mutual
def wS(C:Calls)(ar:Nat->Nat):Nat->CS->WS
 |0,_=>fun _ _ _=>False
 |n+1,s=>match s with
  |.asg t e=>fun ρ S Q=>wE C ar n e ρ S fun d S1=>wBd t d ρ fun ρ1=>Q .nx ρ1 S1
  |.setI v o i=>fun ρ S Q=>wE C ar n v ρ S fun a S1=>wE C ar n o ρ S1 fun b S2=>wE C ar n i ρ S2 fun c S3=>∃S4,eN b c a S3=some S4/\Q .nx ρ S4
  |.swp v o i q j=>fun ρ S Q=>wE C ar n v ρ S fun d S1=>∃a b,d = .tup [a,b]/\wE C ar n o ρ S1 fun x S2=>wE C ar n i ρ S2 fun y S3=>∃S4,eN x y a S3=some S4/\wE C ar n q ρ S4 fun z S5=>wE C ar n j ρ S5 fun w S6=>∃S7,eN z w b S6=some S7/\Q .nx ρ S7
  |.ex e=>fun ρ S Q=>wE C ar n e ρ S fun _ S1=>Q .nx ρ S1
  |.ret e=>fun ρ S Q=>wE C ar n e ρ S fun d S1=>Q (.rt d) ρ S1
  |.retN=>fun ρ S Q=>Q (.rt .non) ρ S
  |.ifs c a b=>fun ρ S Q=>wT C ar n c ρ S fun t S1=>wIf t (rW (wSs C ar n a) ρ S1 Q) (rW (wSs C ar n b) ρ S1 Q)
  |.for_ t it b=>fun ρ S Q=>wI C ar n it ρ S fun nx S1=>OkS (dA nx t (de C ar n b) LF 0 ρ S1) Q
  |.while_ c b=>fun ρ S Q=>OkS (cC (evT C ar n c) (de C ar n b) LF ρ S) Q
  |.pass=>fun ρ S Q=>Q .nx ρ S
  |.brk=>fun ρ S Q=>Q .bk ρ S
  |.cnt=>fun ρ S Q=>Q .ct ρ S
  |.never=>fun _ _ _=>False
def wSs(C:Calls)(ar:Nat->Nat):Nat->List CS->WS
 |0,_=>fun _ _ _=>False
 |n+1,ss=>match ss with
  |[]=>fun ρ S Q=>Q .nx ρ S
  |s::ss=>fun ρ S Q=>wS C ar n s ρ S (wNx (wSs C ar n ss) Q)
end
structure SdS(C:Calls)(ar:Nat->Nat)(n:Nat):Prop where
 s:∀ {s:CS} {ρ S Q},wS C ar n s ρ S Q->OkS (evS C ar n s ρ S) Q
 ss:∀ {ss:List CS} {ρ S Q},wSs C ar n ss ρ S Q->OkS (de C ar n ss ρ S) Q
theorem xQ:∀n,SdS C ar n
 |0=>⟨fun h=>by simp only[wS] at h,fun h=>by simp only[wSs] at h⟩
 |n+1=>by
  have h:=xQ n;have g:SndW C ar n:=nj n;refine⟨fun {s ρ S Q} w=>?_,fun {ss ρ S Q} w=>?_⟩
  ·cases s with
   |asg t e=>simp only[evS,AC];simp only[wS] at w;exact(g.e _ _ _ w).mono fun d S1 w=>Gk w
   |setI v o i=>simp only[evS,xr];simp only[wS] at w;exact(g.e _ _ _ w).mono fun a S1 w=>(g.e _ _ _ w).mono fun b S2 w=>g.e _ _ _ w
   |swp v o i q j=>
    obtain⟨d,S1,e1,a,b,rfl,w⟩:=g.e _ _ _ w;obtain⟨x,S2,e2,w⟩:=g.e _ _ _ w;obtain⟨y,S3,e3,S4,e4,w⟩:=g.e _ _ _ w;obtain⟨z,S5,e5,w⟩:=g.e _ _ _ w;obtain⟨u,S6,e6,S7,e7,w⟩:=g.e _ _ _ w;refine⟨.nx,ρ,S7,?_,w⟩;show vB (evE C ar n v) (evE C ar n o) (evE C ar n i) (evE C ar n q) (evE C ar n j) ρ S=_;unfold vB;rw[e1];have h1:iK a (evE C ar n o) (evE C ar n i) ρ S1=some S4:=by unfold iK;rw[e2];dsimp only;rw[e3];exact e4
    have h2:iK b (evE C ar n q) (evE C ar n j) ρ S4=some S7:=by unfold iK;rw[e5];dsimp only;rw[e6];exact e7
    dsimp only[zF];rw[h1];dsimp only;rw[h2];rfl
   |ex e=>simp only[evS,xq];simp only[wS] at w;exact g.e _ _ _ w
   |ret e=>simp only[evS,AE];simp only[wS] at w;exact g.e _ _ _ w
   |retN=>simp only[wS] at w;simp only[evS];exact⟨_,_,_,rfl,w⟩
   |ifs c a b=>
    simp only[evS,FE];simp only[wS] at w;refine(g.t _ _ _ w).mono fun t S1 w=>?_;cases t with
    |true=>exact h.ss w
    |false=>exact h.ss w
   |for_ t it b=>simp only[evS,AF];simp only[wS] at w;exact g.i _ _ _ w
   |while_ c b=>simp only[wS] at w;simp only[evS];exact w
   |pass=>simp only[wS] at w;simp only[evS];exact⟨_,_,_,rfl,w⟩
   |brk=>simp only[wS] at w;simp only[evS];exact⟨_,_,_,rfl,w⟩
   |cnt=>simp only[wS] at w;simp only[evS];exact⟨_,_,_,rfl,w⟩
   |never=>simp only[wS] at w
  ·cases ss with
   |nil=>simp only[wSs] at w;simp only[de];exact⟨_,_,_,rfl,w⟩
   |cons s ss=>
    simp only[wSs] at w;simp only[de,AB];refine(h.s w).mono fun f ρ1 S1 w=>?_;cases f with
    |nx=>exact h.ss w
    |_=>exact w
theorem Gm{ss:List CS}{ρ:Rho}{S:Sto}{Q:Fl->Rho->Sto->Prop}(h:rW (wSs C ar n ss) ρ S Q):OkS (de C ar n ss ρ S) Q:=(xQ n).ss h
theorem xR{s:CS}{ss:List CS}{ρ:Rho}{S:Sto}{Q:Fl->Rho->Sto->Prop}(h:wS C ar n s ρ S (wNx (wSs C ar n ss) Q)):rW (wSs C ar (n+1) (s::ss)) ρ S Q:=h
theorem A7{ρ:Rho}{S:Sto}{Q:Fl->Rho->Sto->Prop}(h:Q .nx ρ S):rW (wSs C ar (n+1) []) ρ S Q:=h
end
section
variable {C:Calls} {ar:Nat->Nat} {A B:Prop} {S S1:Sto} {Q:D->Sto->Prop} {Ql:List D->Sto->Prop} {Qn:Nxt->Sto->Prop} {Qb:Bool->Prop} {Qi:Int->Prop} {Qd:D->Prop} {Qr:Rho->Prop} {Qt:Bool->Sto->Prop} {Qs:Fl->Rho->Sto->Prop} {t:Bool} {d x y:D} {i j:Int} {n m f:Nat} {s:Str} {o:BOp} {c p:COp} {ds xs ys:List D} {l h:Option Int} {tg:Tg} {ts:List Tg} {ρ ρ2:Rho} {es:List CE} {a b e:CE} {oa ob cd:Option CE} {own:List Str} {it:CI} {rest:List Cl} {ty:Ty} {w wl:WP (List D)} {wv:WP D} {sa sb:List CS} {ws:WS} {od:Option D} {g:D->D->Sto->(D->Sto->Prop)->Prop}
theorem Gn:wE C ar (n+1) (.non) ρ S Q=(Q .non S):=rfl
theorem KD:wE C ar (n+1) (.bl t) ρ S Q=(Q (.bl t) S):=rfl
theorem Go:wE C ar (n+1) (.int i) ρ S Q=(Q (.int i) S):=rfl
theorem Gp:wE C ar (n+1) (.str s) ρ S Q=(Q (.str s) S):=rfl
theorem Gq:wE C ar (n+1) (.con m i) ρ S Q=(Q (.int i) S):=rfl
theorem Gr:wE C ar (n+1) (.var m) ρ S Q=(pB ρ m fun d=>Q d S):=rfl
theorem Gs:wE C ar (n+1) (.tup es) ρ S Q=(c6 60 es (wA C ar n es ρ S fun ds S1=>Q (.tup ds) S1)):=rfl
theorem Gu:wE C ar (n+1) (.lst es) ρ S Q=(c6 60 es (wA C ar n es ρ S fun ds S1=>Q (.ref S1.length) (S1++[.lst ds]))):=rfl
theorem A8:wE C ar (n+1) (.dic0) ρ S Q=(Q (.ref (ZJ S)) (S++[.dic [] []])):=rfl
theorem A9:wE C ar (n+1) (.dic1 i j) ρ S Q=(Q (.ref (ZJ S)) (S++[.dic [vO i] [.int j]])):=rfl
theorem Gv:wE C ar (n+1) (.bin o a b) ρ S Q=(wE C ar n a ρ S fun x S1=>wE C ar n b ρ S1 fun y S2=>pC o x y S2 Q):=rfl
theorem Gw:wE C ar (n+1) (.neg a) ρ S Q=(wE C ar n a ρ S fun d S1=>cu d fun i=>Q (.int (-i)) S1):=rfl
theorem Gx:wE C ar (n+1) (.cmp c a b) ρ S Q=(wE C ar n a ρ S fun x S1=>wE C ar n b ρ S1 fun y S2=>wCm c x y S2 Q):=rfl
theorem Gy:wE C ar (n+1) (.chn c p a b e) ρ S Q=(wE C ar n a ρ S fun x S1=>wE C ar n b ρ S1 fun y S2=>wCm c x y S2 fun r S3=>wBl r fun t=>wIf t (wE C ar n e ρ S3 fun z S4=>wCm p y z S4 Q) (Q (.bl false) S3)):=rfl
theorem Gz:wE C ar (n+1) (.and a b) ρ S Q=(wE C ar n a ρ S fun d S1=>wBl d fun t=>wIf t (wE C ar n b ρ S1 Q) (Q (.bl false) S1)):=rfl
theorem KF:wE C ar (n+1) (.or a b) ρ S Q=(wE C ar n a ρ S fun d S1=>wBl d fun t=>wIf t (Q (.bl true) S1) (wE C ar n b ρ S1 Q)):=rfl
theorem GA:wE C ar (n+1) (.not a) ρ S Q=(wE C ar n a ρ S fun d S1=>wBl d fun t=>Q (.bl (!t)) S1):=rfl
theorem GB:wE C ar (n+1) (.ite e a b) ρ S Q=(wT C ar n e ρ S fun t S1=>wIf t (wE C ar n a ρ S1 Q) (wE C ar n b ρ S1 Q)):=rfl
theorem KG:wE C ar (n+1) (.ix a b) ρ S Q=(aH (ac a) (wTm C ar n a) (wE C ar n a) ρ S (fun ds S1=>wE C ar n b ρ S1 fun i S2=>cu i fun k=>∃d,atI ds k=some d/\Q d S2) (fun d S1=>wE C ar n b ρ S1 fun i S2=>Ok (ixS d i S2) Q)):=rfl
theorem Ba:wE C ar (n+1) (.sl a none none) ρ S Q=(wE C ar n a ρ S fun d S1=>pD none none d S1 Q):=rfl
theorem Bb:wE C ar (n+1) (.sl a none (some b)) ρ S Q=(wE C ar n a ρ S fun d S1=>wE C ar n b ρ S1 fun y S2=>cu y fun j=>pD none (some j) d S2 Q):=rfl
theorem Bc:wE C ar (n+1) (.sl a (some b) none) ρ S Q=(wE C ar n a ρ S fun d S1=>wE C ar n b ρ S1 fun y S2=>cu y fun j=>pD (some j) none d S2 Q):=rfl
theorem Bd:wE C ar (n+1) (.sl a (some b) (some e)) ρ S Q=(wE C ar n a ρ S fun d S1=>wE C ar n b ρ S1 fun y S2=>cu y fun j=>wE C ar n e ρ S2 fun z S3=>cu z fun k=>pD (some j) (some k) d S3 Q):=rfl
theorem Be:wE C ar (n+1) (.call f es) ρ S Q=(wA C ar n es ρ S fun ds S1=>ds.length=ar f/\Ok (C f ds S1) Q):=rfl
theorem Bf:wE C ar (n+1) (.inst ty a) ρ S Q=(wE C ar n a ρ S fun d S1=>Ok (lU ty d S1) Q):=rfl
theorem GC:wE C ar (n+1) (.len a) ρ S Q=(aH (ac a) (wTm C ar n a) (wE C ar n a) ρ S (fun ds S1=>Ok (ir false ds S1) Q) (fun d S1=>Ok (aK ir d S1) Q)):=rfl
theorem GD:wE C ar (n+1) (.all a) ρ S Q=(aH (ac a) (wTm C ar n a) (wE C ar n a) ρ S (fun ds S1=>Ok (lQ false ds S1) Q) (fun d S1=>Ok (aK lQ d S1) Q)):=rfl
theorem GF:wE C ar (n+1) (.any a) ρ S Q=(aH (ac a) (wTm C ar n a) (wE C ar n a) ρ S (fun ds S1=>Ok (lR false ds S1) Q) (fun d S1=>Ok (aK lR d S1) Q)):=rfl
theorem xS:wE C ar (n+1) (.tupOf a) ρ S Q=(aH (ac a) (wTm C ar n a) (wE C ar n a) ρ S (fun ds S1=>Ok (lP false ds S1) Q) (fun d S1=>Ok (aK lP d S1) Q)):=rfl
theorem GG:wE C ar (n+1) (.mxL a) ρ S Q=(aH (ac a) (wTm C ar n a) (wE C ar n a) ρ S (fun ds S1=>Ok (l3 false ds S1) Q) (fun d S1=>Ok (aK l3 d S1) Q)):=rfl
theorem GH:wE C ar (n+1) (.mxD a i) ρ S Q=(aH (ac a) (wTm C ar n a) (wE C ar n a) ρ S (fun ds S1=>Ok (gw i false ds S1) Q) (fun d S1=>Ok (aK (gw i) d S1) Q)):=rfl
theorem GI:wE C ar (n+1) (.mnL a) ρ S Q=(aH (ac a) (wTm C ar n a) (wE C ar n a) ρ S (fun ds S1=>Ok (ma false ds S1) Q) (fun d S1=>Ok (aK ma d S1) Q)):=rfl
theorem KH:wE C ar (n+1) (.sm a) ρ S Q=(aH (ac a) (wTm C ar n a) (wE C ar n a) ρ S (fun ds S1=>Ok (md false ds S1) Q) (fun d S1=>Ok (aK md d S1) Q)):=rfl
theorem tw:wE C ar (n+1) (.listOf a) ρ S Q=(aH (ac a) (wTm C ar n a) (wE C ar n a) ρ S (fun ds S1=>Q (.ref S1.length) (S1++[.lst ds])) (fun d S1=>Ok ((aM d S1).map fun r=>(r.2,S1)) fun ds S1=>Q (.ref S1.length) (S1++[.lst ds]))):=rfl
theorem xT:wE C ar (n+1) (.listR a) ρ S Q=(wE C ar n a ρ S fun d S1=>∃i:Nat,d = .int i/\i<=1000/\Q (.ref S1.length) (S1++[.lst ((ZI i).map fun j=>.int (Int.ofNat j))])):=rfl
theorem tx:wE C ar (n+1) (.listR2 a b) ρ S Q=(wE C ar n a ρ S fun d S1=>wE C ar n b ρ S1 fun e S2=>∃i j,d = .int i/\e = .int j/\-100000<=i/\i<=j/\j<=i+1000/\i<=100000/\Q (.ref S2.length) (S2++[.lst (rgD i j)])):=rfl
theorem GJ:wE C ar (n+1) (.srt a) ρ S Q=(aH (ac a) (wTm C ar n a) (wE C ar n a) ρ S (fun ds S1=>∃es,cN false ds=some es/\Q (.ref S1.length) (S1++[.lst es])) (fun d S1=>∃r es,aM d S1=some r/\cN r.1 r.2=some es/\Q (.ref S1.length) (S1++[.lst es]))):=rfl
theorem xU:wE C ar (n+1) (.intOf a) ρ S Q=(wE C ar n a ρ S fun d S1=>Ok (zq d S1) Q):=rfl
theorem Bg:wE C ar (n+1) (.strI a) ρ S Q=(wE C ar n a ρ S fun d S1=>Ok (oJ d S1) Q):=rfl
theorem KI:wE C ar (n+1) (.mx a b) ρ S Q=(wA C ar n [a,b] ρ S fun ds S1=>w2 xL ds S1 Q):=rfl
theorem KJ:wE C ar (n+1) (.mn a b) ρ S Q=(wA C ar n [a,b] ρ S fun ds S1=>w2 xM ds S1 Q):=rfl
theorem GK:wE C ar (n+1) (.rep a) ρ S Q=(wE C ar n a ρ S fun d S1=>Ok (mh d S1) Q):=rfl
theorem Bh:wE C ar (n+1) (.comp own a (⟨tg,it,cd⟩::rest)) ρ S Q=(wI C ar n it ρ S fun nx S1=>ng own [] fun r=>nh ρ r fun ρ'=>wFt tg ρ' (Ok (bw nx tg (cnd (evT C ar n) cd (ef C ar n a rest)) ρ' LF 0 S1) fun es S2=>es.length<=100000/\Q (.ref S2.length) (S2++[.lst es]))):=rfl
theorem GL:wE C ar (n+1) (.app a b) ρ S Q=(wE C ar n a ρ S fun d S1=>bS d S1=true/\wA C ar n [b] ρ S1 fun as S2=>Ok (u5 d as S2) Q):=rfl
theorem GM:wE C ar (n+1) (.pop a) ρ S Q=(wE C ar n a ρ S fun d S1=>bS d S1=true/\Ok (u6 d [] S1) Q):=rfl
theorem xV:wE C ar (n+1) (.popAt a b) ρ S Q=(wE C ar n a ρ S fun d S1=>bS d S1=true/\wA C ar n [b] ρ S1 fun as S2=>Ok (iC d as S2) Q):=rfl
theorem GN:wE C ar (n+1) (.ext a e) ρ S Q=(wE C ar n a ρ S fun d S1=>bS d S1=true/\wA C ar n [e] ρ S1 fun as S2=>Ok (vh d as S2) Q):=rfl
theorem GO:wE C ar (n+1) (.ins a b e) ρ S Q=(wE C ar n a ρ S fun d S1=>bS d S1=true/\wA C ar n [b,e] ρ S1 fun as S2=>Ok (vg d as S2) Q):=rfl
theorem GP:wE C ar (n+1) (.cnt a b) ρ S Q=(wE C ar n a ρ S fun d S1=>isTup d=true/\wA C ar n [b] ρ S1 fun as S2=>Ok (u7 d as S2) Q):=rfl
theorem Bi:wE C ar (n+1) (.join a b) ρ S Q=(wE C ar n a ρ S fun d S1=>qd d=true/\wA C ar n [b] ρ S1 fun as S2=>Ok (iH d as S2) Q):=rfl
theorem L9:wA C ar (n+1) [] ρ S Ql=Ql [] S:=rfl
theorem Ma:wA C ar (n+1) (a::es) ρ S Ql=(wE C ar n a ρ S fun d S1=>wA C ar n es ρ S1 fun ds S2=>Ql (d::ds) S2):=rfl
theorem GQ:wTm C ar (n+1) (.lst es) ρ S Ql=c6 60 es (wA C ar n es ρ S Ql):=rfl
theorem tz:wTm C ar (n+1) (.listOf a) ρ S Ql=(aH (ac a) (wTm C ar n a) (wE C ar n a) ρ S (fun ds S1=>Ql ds S1) (fun d S1=>Ok ((aM d S1).map fun r=>(r.2,S1)) Ql)):=rfl
theorem xW:wTm C ar (n+1) (.listR a) ρ S Ql=(wE C ar n a ρ S fun d S1=>∃i:Nat,d = .int i/\i<=1000/\Ql ((ZI i).map fun j=>.int (Int.ofNat j)) S1):=rfl
theorem tD:wTm C ar (n+1) (.listR2 a b) ρ S Ql=(wE C ar n a ρ S fun d S1=>wE C ar n b ρ S1 fun e S2=>∃i j,d = .int i/\e = .int j/\-100000<=i/\i<=j/\j<=i+1000/\i<=100000/\Ql (rgD i j) S2):=rfl
theorem GR:wTm C ar (n+1) (.srt a) ρ S Ql=(aH (ac a) (wTm C ar n a) (wE C ar n a) ρ S (fun ds S1=>∃es,cN false ds=some es/\Ql es S1) (fun d S1=>∃r es,aM d S1=some r/\cN r.1 r.2=some es/\Ql es S1)):=rfl
theorem Bj:wTm C ar (n+1) (.comp own a (⟨tg,it,cd⟩::rest)) ρ S Ql=(wI C ar n it ρ S fun nx S1=>ng own [] fun r=>nh ρ r fun ρ'=>wFt tg ρ' (Ok (bw nx tg (cnd (evT C ar n) cd (ef C ar n a rest)) ρ' LF 0 S1) fun es S2=>es.length<=100000/\Ql es S2)):=rfl
theorem GS:wI C ar (n+1) (.val a) ρ S Qn=(aH (ac a) (wTm C ar n a) (wE C ar n a) ρ S (fun ds S1=>Qn (nxL ds) S1) (fun d S1=>xH d S1 Qn)):=rfl
theorem KL:wI C ar (n+1) (.en a) ρ S Qn=(aH (ac a) (wTm C ar n a) (wE C ar n a) ρ S (fun ds S1=>Qn (sK ds) S1) (fun d S1=>xI d S1 Qn)):=rfl
theorem KM:wI C ar (n+1) (.r1 a) ρ S Qn=(wE C ar n a ρ S fun d S1=>cu d fun j=>lim j=true/\Qn (nxR 0 j.toNat) S1):=rfl
theorem KN:wI C ar (n+1) (.zp a b) ρ S Qn=(wE C ar n a ρ S fun d S1=>wE C ar n b ρ S1 fun e S2=>∃x y,d = .ref x/\e = .ref y/\((ai S2 x).isSome=true/\(ai S2 y).isSome=true)/\Qn (nxZ x y) S2):=rfl
theorem KO:wI C ar (n+1) (.r2 a b) ρ S Qn=(wE C ar n a ρ S fun d S1=>wE C ar n b ρ S1 fun e S2=>cu d fun i=>cu e fun j=>(lim i=true/\lim j=true)/\Qn (nxR i (j - i).toNat) S2):=rfl
theorem GU:wT C ar (n+1) (.cmp c a b) ρ S Qt=(wE C ar n a ρ S fun x S1=>wE C ar n b ρ S1 fun y S2=>wCm c x y S2 fun d S3=>wBl d fun t=>Qt t S3):=rfl
theorem GV:wT C ar (n+1) (.chn c p a b e) ρ S Qt=(wE C ar n a ρ S fun x S1=>wE C ar n b ρ S1 fun y S2=>wCm c x y S2 fun r S3=>wBl r fun t=>wIf t (wE C ar n e ρ S3 fun z S4=>wCm p y z S4 fun d S5=>wBl d fun t=>Qt t S5) (wBl (.bl false) fun t=>Qt t S3)):=rfl
theorem GW:wT C ar (n+1) (.and a b) ρ S Qt=(wT C ar n a ρ S fun t S1=>wIf t (wT C ar n b ρ S1 Qt) (Qt false S1)):=rfl
theorem KP:wT C ar (n+1) (.or a b) ρ S Qt=(wT C ar n a ρ S fun t S1=>wIf t (Qt true S1) (wT C ar n b ρ S1 Qt)):=rfl
theorem GX:wT C ar (n+1) (.not a) ρ S Qt=(wT C ar n a ρ S fun t S1=>Qt (!t) S1):=rfl
theorem KQ:wT C ar (n+1) (.bl t) ρ S Qt=(wE C ar n (.bl t) ρ S fun d S1=>al d S1 Qt):=rfl
theorem GY:wT C ar (n+1) (.var m) ρ S Qt=(wE C ar n (.var m) ρ S fun d S1=>al d S1 Qt):=rfl
theorem Bk:wT C ar (n+1) (.call f es) ρ S Qt=(wE C ar n (.call f es) ρ S fun d S1=>al d S1 Qt):=rfl
theorem Bl:wT C ar (n+1) (.inst ty a) ρ S Qt=(wE C ar n (.inst ty a) ρ S fun d S1=>al d S1 Qt):=rfl
theorem GZ:wT C ar (n+1) (.all a) ρ S Qt=(wE C ar n (.all a) ρ S fun d S1=>al d S1 Qt):=rfl
theorem G0:wT C ar (n+1) (.any a) ρ S Qt=(wE C ar n (.any a) ρ S fun d S1=>al d S1 Qt):=rfl
theorem G1:wT C ar (n+1) (.len a) ρ S Qt=(wE C ar n (.len a) ρ S fun d S1=>al d S1 Qt):=rfl
theorem KR:wT C ar (n+1) (.ix a b) ρ S Qt=(wE C ar n (.ix a b) ρ S fun d S1=>al d S1 Qt):=rfl
theorem G2:wT C ar (n+1) (.lst es) ρ S Qt=(wE C ar n (.lst es) ρ S fun d S1=>al d S1 Qt):=rfl
theorem G3:wT C ar (n+1) (.tup es) ρ S Qt=(wE C ar n (.tup es) ρ S fun d S1=>al d S1 Qt):=rfl
theorem Mb:wCl C ar n a [] ρ S Ql=(wE C ar n a ρ S fun d S1=>Ql [d] S1):=rfl
theorem Mc:wCl C ar n a (⟨tg,it,cd⟩::rest) ρ S Ql=(wFt tg ρ (wI C ar n it ρ S fun nx S1=>Ok (bw nx tg (cnd (evT C ar n) cd (ef C ar n a rest)) ρ LF 0 S1) Ql)):=rfl
theorem Md:AZ (wT C ar n) none w ρ S Ql=w ρ S Ql:=rfl
theorem Me:AZ (wT C ar n) (some a) w ρ S Ql=(wT C ar n a ρ S fun t S1=>wIf t (w ρ S1 Ql) (Ql [] S1)):=rfl
theorem G4:wS C ar (n+1) (.asg tg a) ρ S Qs=(wE C ar n a ρ S fun d S1=>wBd tg d ρ fun ρ1=>Qs .nx ρ1 S1):=rfl
theorem Bm:wS C ar (n+1) (.setI a b e) ρ S Qs=(wE C ar n a ρ S fun x S1=>wE C ar n b ρ S1 fun y S2=>wE C ar n e ρ S2 fun z S3=>∃S4,eN y z x S3=some S4/\Qs .nx ρ S4):=rfl
theorem G5{f g:CE}:wS C ar (n+1) (.swp e a b f g) ρ S Qs=(wE C ar n e ρ S fun d S1=>∃s t,d = .tup [s,t]/\wE C ar n a ρ S1 fun x S2=>wE C ar n b ρ S2 fun y S3=>∃S4,eN x y s S3=some S4/\wE C ar n f ρ S4 fun z S5=>wE C ar n g ρ S5 fun w S6=>∃S7,eN z w t S6=some S7/\Qs .nx ρ S7):=rfl
theorem KS:wS C ar (n+1) (.ex a) ρ S Qs=(wE C ar n a ρ S fun _ S1=>Qs .nx ρ S1):=rfl
theorem G6:wS C ar (n+1) (.ret a) ρ S Qs=(wE C ar n a ρ S fun d S1=>Qs (.rt d) ρ S1):=rfl
theorem Bn:wS C ar (n+1) .retN ρ S Qs=Qs (.rt .non) ρ S:=rfl
theorem G7:wS C ar (n+1) (.ifs a sa sb) ρ S Qs=(wT C ar n a ρ S fun t S1=>wIf t (rW (wSs C ar n sa) ρ S1 Qs) (rW (wSs C ar n sb) ρ S1 Qs)):=rfl
theorem G8:wS C ar (n+1) (.for_ tg it sa) ρ S Qs=(wI C ar n it ρ S fun nx S1=>OkS (dA nx tg (de C ar n sa) LF 0 ρ S1) Qs):=rfl
theorem xX:wS C ar (n+1) (.while_ a sa) ρ S Qs=OkS (cC (evT C ar n a) (de C ar n sa) LF ρ S) Qs:=rfl
theorem Bo:wS C ar (n+1) .pass ρ S Qs=Qs .nx ρ S:=rfl
theorem G9:wS C ar (n+1) .brk ρ S Qs=Qs .bk ρ S:=rfl
theorem Ha:wS C ar (n+1) .cnt ρ S Qs=Qs .ct ρ S:=rfl
theorem KU:wNx ws Qs .nx ρ S=rW ws ρ S Qs:=rfl
theorem KW:wNx ws Qs (.rt d) ρ S=Qs (.rt d) ρ S:=rfl
theorem KY:wNx ws Qs .bk ρ S=Qs .bk ρ S:=rfl
theorem KZ:wNx ws Qs .ct ρ S=Qs .ct ρ S:=rfl
theorem Hb:wIf (true && t) A B=wIf t A B:=rfl
theorem Hc:wIf (false && t) A B=B:=rfl
theorem Hd:wIf (true || t) A B=A:=rfl
theorem Bp:wIf (false || t) A B=wIf t A B:=rfl
theorem Bq:wIf (!(true && t)) A B=wIf (!t) A B:=rfl
theorem Bs:wIf (!(false && t)) A B=A:=rfl
theorem Bt:wIf (!(true || t)) A B=B:=rfl
theorem Bu:wIf (!(false || t)) A B=wIf (!t) A B:=rfl
theorem K0:wIf true A B=A:=rfl
theorem K1:wIf false A B=B:=rfl
theorem He:wIf (!true) A B=B:=rfl
theorem Hf:wIf (!false) A B=A:=rfl
theorem K2:wBl (.bl t) Qb=Qb t:=rfl
theorem Hg:cu (.int i) Qi=Qi i:=rfl
theorem Hh:pB (some d::ρ) 0 Qd=Qd d:=rfl
theorem Hi:pB (od::ρ) (n+1) Qd=pB ρ n Qd:=rfl
theorem K3:wFr (none::ρ) 0 A=A:=rfl
theorem K4:wFr (od::ρ) (n+1) A=wFr ρ n A:=rfl
theorem Hj:nc [] ρ A=A:=rfl
theorem Hk:nc (.name m::ts) ρ A=wFr ρ m (nc ts ρ A):=rfl
theorem K5:wFt (.name m) ρ A=wFr ρ m A:=rfl
theorem K6:wFt (.tup ts) ρ A=nc ts ρ A:=rfl
theorem Hl:ng [] ρ Qr=Qr ρ:=rfl
theorem Hm:ng (s::own) ρ Qr=ng own (none::ρ) Qr:=rfl
theorem Hn:nh [] ρ Qr=Qr ρ:=rfl
theorem Ho:nh (od::ρ) ρ2 Qr=nh ρ ρ2 fun r=>Qr (od::r):=rfl
theorem K7:c6 (n+1) [] A=A:=rfl
theorem K8:c6 (n+1) (a::es) A=c6 n es A:=rfl
theorem K9:wNm 0 d (od::ρ) Qr=Qr (some d::ρ):=rfl
theorem La:wNm (n+1) d (od::ρ) Qr=wNm n d ρ fun r=>Qr (od::r):=rfl
theorem Lb:wBs [] [] ρ Qr=Qr ρ:=rfl
theorem Lc:wBs (.name m::ts) (d::ds) ρ Qr=wNm m d ρ fun r=>wBs ts ds r Qr:=rfl
theorem Lf:wBd (.name m) d ρ Qr=wNm m d ρ Qr:=rfl
theorem Lg:wBd (.tup ts) d ρ Qr=wTp ts d ρ Qr:=rfl
theorem Lh:wTp ts (.tup ds) ρ Qr=wBs ts ds ρ Qr:=rfl
theorem Bv:wII .add i j S Q=Q (.int (i+j)) S:=rfl
theorem Bw:wII .sub i j S Q=Q (.int (i - j)) S:=rfl
theorem Bx:wII .mul i j S Q=(fg i j=true/\Q (.int (i * j)) S):=rfl
theorem Bz:wII .mod i j S Q=(0 < j/\Q (.int (i % j)) S):=rfl
theorem xY:wII .fdiv i j S Q=((0 < j/\j < 1237940039285380274899124224)/\Q (.int (i / j)) S):=rfl
theorem BA:wII .pow i j S Q=((0<=j/\j<=1000000/\i.natAbs < 2 ^ 64)/\Q (.int (i ^ j.toNat)) S):=rfl
theorem BB:wTT .add xs ys S Q=(xs.length+ys.length<=1000/\Q (.tup (xs++ys)) S):=rfl
theorem BC:xz o i (.int j) S Q=wII o i j S Q:=rfl
theorem BD:qU o xs (.tup ys) S Q=wTT o xs ys S Q:=rfl
theorem BE:qU o xs (.int j) S Q=Ok (bv o (.tup xs) (.int j) S) Q:=rfl
theorem Hq:pC o (.int i) y S Q=xz o i y S Q:=rfl
theorem Hr:pC o (.tup xs) y S Q=qU o xs y S Q:=rfl
theorem Hs:pC o (.ref n) y S Q=Ok (bv o (.ref n) y S) Q:=rfl
theorem Ht:pC o (.str s) y S Q=Ok (bv o (.str s) y S) Q:=rfl
theorem Hu:wCI .eq i j S Q=Q (.bl (decide (i=j))) S:=rfl
theorem Hv:wCm .eq x y S Q=wCx .eq x y S Q:=rfl
theorem Hw:wCI .ne i j S Q=Q (.bl (!decide (i=j))) S:=rfl
theorem Hx:wCm .ne x y S Q=wCx .ne x y S Q:=rfl
theorem Hy:wCI .lt i j S Q=Q (.bl (decide (i < j))) S:=rfl
theorem Hz:wCm .lt x y S Q=wCx .lt x y S Q:=rfl
theorem HA:wCI .le i j S Q=Q (.bl (decide (i<=j))) S:=rfl
theorem HB:wCm .le x y S Q=wCx .le x y S Q:=rfl
theorem HC:wCI .gt i j S Q=Q (.bl (decide (j < i))) S:=rfl
theorem HD:wCm .gt x y S Q=wCx .gt x y S Q:=rfl
theorem HE:wCI .ge i j S Q=Q (.bl (decide (j<=i))) S:=rfl
theorem HF:wCm .ge x y S Q=wCx .ge x y S Q:=rfl
theorem HG:wCm .is x y S Q=Ok (aF .is x y S) Q:=rfl
theorem tF:wCm .isnot x y S Q=Ok (aF .isnot x y S) Q:=rfl
theorem xZ:wCm .isin x y S Q=Ok (aF .isin x y S) Q:=rfl
theorem tG:wCm .notin x y S Q=Ok (aF .notin x y S) Q:=rfl
theorem Li:wCx c (.int i) y S Q=F6 c i y S Q:=rfl
theorem Lj:wCx c (.tup xs) y S Q=tq c xs y S Q:=rfl
theorem Lk:wCx c .non y S Q=Ok (aF c .non y S) Q:=rfl
theorem Ll:wCx c (.bl t) y S Q=Ok (aF c (.bl t) y S) Q:=rfl
theorem Lm:wCx c (.str s) y S Q=Ok (aF c (.str s) y S) Q:=rfl
theorem Ln:wCx c (.ref n) y S Q=Ok (aF c (.ref n) y S) Q:=rfl
theorem HH:F6 c i (.int j) S Q=wCI c i j S Q:=rfl
theorem HI:tq .eq xs (.tup []) S Q=Q (.bl xs.isEmpty) S:=rfl
theorem HJ:tq .ne xs (.tup []) S Q=Q (.bl (!xs.isEmpty)) S:=rfl
theorem BF:tq .eq xs (.tup (y::ys)) S Q=Ok (aF .eq (.tup xs) (.tup (y::ys)) S) Q:=rfl
theorem BG:tq .ne xs (.tup (y::ys)) S Q=Ok (aF .ne (.tup xs) (.tup (y::ys)) S) Q:=rfl
theorem HK:pD l h (.tup ds) S Q=Q (.tup (nS ds l h)) S:=rfl
theorem HL:pD l h (.ref n) S Q=Ok (slS l h (.ref n) S) Q:=rfl
theorem HM:xH (.tup ds) S Qn=Qn (nxL ds) S:=rfl
theorem HN:xH (.ref n) S Qn=((ai S n).isSome=true/\Qn (nxS n) S):=rfl
theorem HP:xI (.tup ds) S Qn=Qn (sK ds) S:=rfl
theorem HQ:xI (.ref n) S Qn=((ai S n).isSome=true/\Qn (vj n) S):=rfl
theorem BH:al (.bl t) S Qt=Qt t S:=rfl
theorem BI:al (.tup ds) S Qt=Qt (!ds.isEmpty) S:=rfl
theorem BJ:al (.int i) S Qt=Qt (i != 0) S:=rfl
theorem BK:al (.ref n) S Qt=Ok (kz (.ref n) S) Qt:=rfl
theorem Mf:w2 g [x,y] S Q=g x y S Q:=rfl
theorem HR:xL (.int i) (.int j) S Q=Q (.int (if j > i then j else i)) S:=rfl
theorem HS:xM (.int i) (.int j) S Q=Q (.int (if j < i then j else i)) S:=rfl
theorem BL:aH (ac (.lst es)) wl wv ρ S Ql Q=wl ρ S Ql:=rfl
theorem pH:aH (ac (.listOf a)) wl wv ρ S Ql Q=wl ρ S Ql:=rfl
theorem tH:aH (ac (.listR a)) wl wv ρ S Ql Q=wl ρ S Ql:=rfl
theorem pJ:aH (ac (.listR2 a b)) wl wv ρ S Ql Q=wl ρ S Ql:=rfl
theorem BM:aH (ac (.srt a)) wl wv ρ S Ql Q=wl ρ S Ql:=rfl
theorem x8:aH (ac (.comp own a rest)) wl wv ρ S Ql Q=wl ρ S Ql:=rfl
theorem BN:aH (ac (.non)) wl wv ρ S Ql Q=wv ρ S Q:=rfl
theorem HU:aH (ac (.bl t)) wl wv ρ S Ql Q=wv ρ S Q:=rfl
theorem BO:aH (ac (.int i)) wl wv ρ S Ql Q=wv ρ S Q:=rfl
theorem BP:aH (ac (.str s)) wl wv ρ S Ql Q=wv ρ S Q:=rfl
theorem BQ:aH (ac (.var m)) wl wv ρ S Ql Q=wv ρ S Q:=rfl
theorem BR:aH (ac (.con m i)) wl wv ρ S Ql Q=wv ρ S Q:=rfl
theorem BS:aH (ac (.tup es)) wl wv ρ S Ql Q=wv ρ S Q:=rfl
theorem x9:aH (ac (.dic0)) wl wv ρ S Ql Q=wv ρ S Q:=rfl
theorem ya:aH (ac (.dic1 i j)) wl wv ρ S Ql Q=wv ρ S Q:=rfl
theorem BU:aH (ac (.bin o a b)) wl wv ρ S Ql Q=wv ρ S Q:=rfl
theorem BV:aH (ac (.neg a)) wl wv ρ S Ql Q=wv ρ S Q:=rfl
theorem BW:aH (ac (.cmp c a b)) wl wv ρ S Ql Q=wv ρ S Q:=rfl
theorem BX:aH (ac (.chn c p a b e)) wl wv ρ S Ql Q=wv ρ S Q:=rfl
theorem BZ:aH (ac (.and a b)) wl wv ρ S Ql Q=wv ρ S Q:=rfl
theorem HV:aH (ac (.or a b)) wl wv ρ S Ql Q=wv ρ S Q:=rfl
theorem B0:aH (ac (.not a)) wl wv ρ S Ql Q=wv ρ S Q:=rfl
theorem B1:aH (ac (.ite e a b)) wl wv ρ S Ql Q=wv ρ S Q:=rfl
theorem HW:aH (ac (.ix a b)) wl wv ρ S Ql Q=wv ρ S Q:=rfl
theorem HX:aH (ac (.sl a oa ob)) wl wv ρ S Ql Q=wv ρ S Q:=rfl
theorem yb:aH (ac (.call f es)) wl wv ρ S Ql Q=wv ρ S Q:=rfl
theorem yc:aH (ac (.inst ty a)) wl wv ρ S Ql Q=wv ρ S Q:=rfl
theorem B2:aH (ac (.len a)) wl wv ρ S Ql Q=wv ρ S Q:=rfl
theorem B3:aH (ac (.all a)) wl wv ρ S Ql Q=wv ρ S Q:=rfl
theorem B4:aH (ac (.any a)) wl wv ρ S Ql Q=wv ρ S Q:=rfl
theorem tI:aH (ac (.tupOf a)) wl wv ρ S Ql Q=wv ρ S Q:=rfl
theorem B5:aH (ac (.mxL a)) wl wv ρ S Ql Q=wv ρ S Q:=rfl
theorem B6:aH (ac (.mxD a i)) wl wv ρ S Ql Q=wv ρ S Q:=rfl
theorem B7:aH (ac (.mnL a)) wl wv ρ S Ql Q=wv ρ S Q:=rfl
theorem HY:aH (ac (.sm a)) wl wv ρ S Ql Q=wv ρ S Q:=rfl
theorem tJ:aH (ac (.intOf a)) wl wv ρ S Ql Q=wv ρ S Q:=rfl
theorem yd:aH (ac (.strI a)) wl wv ρ S Ql Q=wv ρ S Q:=rfl
theorem HZ:aH (ac (.mx a b)) wl wv ρ S Ql Q=wv ρ S Q:=rfl
theorem Ia:aH (ac (.mn a b)) wl wv ρ S Ql Q=wv ρ S Q:=rfl
theorem B8:aH (ac (.rep a)) wl wv ρ S Ql Q=wv ρ S Q:=rfl
theorem B9:aH (ac (.app a b)) wl wv ρ S Ql Q=wv ρ S Q:=rfl
theorem Ca:aH (ac (.pop a)) wl wv ρ S Ql Q=wv ρ S Q:=rfl
theorem tK:aH (ac (.popAt a b)) wl wv ρ S Ql Q=wv ρ S Q:=rfl
theorem Cb:aH (ac (.ext a e)) wl wv ρ S Ql Q=wv ρ S Q:=rfl
theorem Cc:aH (ac (.ins a b e)) wl wv ρ S Ql Q=wv ρ S Q:=rfl
theorem Cd:aH (ac (.cnt a b)) wl wv ρ S Ql Q=wv ρ S Q:=rfl
theorem ye:aH (ac (.join a b)) wl wv ρ S Ql Q=wv ρ S Q:=rfl
theorem cr{α:Type}{z:Option (α × Sto)}{r:α}{S2:Sto}{K:α->Sto->Prop}(e:z=some (r,S2))(q:K r S2):Ok z K:=⟨r,S2,e,q⟩
theorem jZ(h1:t=true->A)(h2:t=false->B):wIf t A B:=by
 cases t with
 |true=>exact h1 rfl
 |false=>exact h2 rfl
end
end Ev
local macro_rules |`(tactic|k_go)=>`(tactic|dsimp only[↓Ev.Gn,↓Ev.KD,↓Ev.Go,↓Ev.Gp,↓Ev.Gq,↓Ev.Gr,↓Ev.Gs,↓Ev.Gu,↓Ev.A8,↓Ev.A9,↓Ev.Gv,↓Ev.Gw,↓Ev.Gx,↓Ev.Gy,↓Ev.Gz,↓Ev.KF,↓Ev.GA,↓Ev.GB,↓Ev.KG,↓Ev.Ba,↓Ev.Bb,↓Ev.Bc,↓Ev.Bd,↓Ev.Be,↓Ev.Bf,↓Ev.GC,↓Ev.GD,↓Ev.GF,↓Ev.xS,↓Ev.GG,↓Ev.GH,↓Ev.GI,↓Ev.KH,↓Ev.tw,↓Ev.xT,↓Ev.tx,↓Ev.GJ,↓Ev.xU,↓Ev.Bg,↓Ev.KI,↓Ev.KJ,↓Ev.GK,↓Ev.Bh,↓Ev.GL,↓Ev.GM,↓Ev.xV,↓Ev.GN,↓Ev.GO,↓Ev.GP,↓Ev.Bi,↓Ev.L9,↓Ev.Ma,↓Ev.GQ,↓Ev.tz,↓Ev.xW,↓Ev.tD,↓Ev.GR,↓Ev.Bj,↓Ev.GS,↓Ev.KL,↓Ev.KM,↓Ev.KN,↓Ev.KO,↓Ev.GU,↓Ev.GV,↓Ev.GW,↓Ev.KP,↓Ev.GX,↓Ev.KQ,↓Ev.GY,↓Ev.Bk,↓Ev.Bl,↓Ev.GZ,↓Ev.G0,↓Ev.G1,↓Ev.KR,↓Ev.G2,↓Ev.G3,↓Ev.Mb,↓Ev.Mc,↓Ev.Md,↓Ev.Me,↓Ev.G4,↓Ev.Bm,↓Ev.G5,↓Ev.KS,↓Ev.G6,↓Ev.Bn,↓Ev.G7,↓Ev.G8,↓Ev.xX,↓Ev.Bo,↓Ev.G9,↓Ev.Ha,↓Ev.KU,↓Ev.KW,↓Ev.KY,↓Ev.KZ,↓Ev.Hb,↓Ev.Hc,↓Ev.Hd,↓Ev.Bp,↓Ev.Bq,↓Ev.Bs,↓Ev.Bt,↓Ev.Bu,↓Ev.K0,↓Ev.K1,↓Ev.He,↓Ev.Hf,↓Ev.K2,↓Ev.Hg,↓Ev.Hh,↓Ev.Hi,↓Ev.K3,↓Ev.K4,↓Ev.Hj,↓Ev.Hk,↓Ev.K5,↓Ev.K6,↓Ev.Hl,↓Ev.Hm,↓Ev.Hn,↓Ev.Ho,↓Ev.K7,↓Ev.K8,↓Ev.K9,↓Ev.La,↓Ev.Lb,↓Ev.Lc,↓Ev.Lf,↓Ev.Lg,↓Ev.Lh,↓Ev.Bv,↓Ev.Bw,↓Ev.Bx,↓Ev.Bz,↓Ev.xY,↓Ev.BA,↓Ev.BB,↓Ev.BC,↓Ev.BD,↓Ev.BE,↓Ev.Hq,↓Ev.Hr,↓Ev.Hs,↓Ev.Ht,↓Ev.Hu,↓Ev.Hv,↓Ev.Hw,↓Ev.Hx,↓Ev.Hy,↓Ev.Hz,↓Ev.HA,↓Ev.HB,↓Ev.HC,↓Ev.HD,↓Ev.HE,↓Ev.HF,↓Ev.HG,↓Ev.tF,↓Ev.xZ,↓Ev.tG,↓Ev.Li,↓Ev.Lj,↓Ev.Lk,↓Ev.Ll,↓Ev.Lm,↓Ev.Ln,↓Ev.HH,↓Ev.HI,↓Ev.HJ,↓Ev.BF,↓Ev.BG,↓Ev.HK,↓Ev.HL,↓Ev.HM,↓Ev.HN,↓Ev.HP,↓Ev.HQ,↓Ev.BH,↓Ev.BI,↓Ev.BJ,↓Ev.BK,↓Ev.Mf,↓Ev.HR,↓Ev.HS,↓Ev.BL,↓Ev.pH,↓Ev.tH,↓Ev.pJ,↓Ev.BM,↓Ev.x8,↓Ev.BN,↓Ev.HU,↓Ev.BO,↓Ev.BP,↓Ev.BQ,↓Ev.BR,↓Ev.BS,↓Ev.x9,↓Ev.ya,↓Ev.BU,↓Ev.BV,↓Ev.BW,↓Ev.BX,↓Ev.BZ,↓Ev.HV,↓Ev.B0,↓Ev.B1,↓Ev.HW,↓Ev.HX,↓Ev.yb,↓Ev.yc,↓Ev.B2,↓Ev.B3,↓Ev.B4,↓Ev.tI,↓Ev.B5,↓Ev.B6,↓Ev.B7,↓Ev.HY,↓Ev.tJ,↓Ev.yd,↓Ev.HZ,↓Ev.Ia,↓Ev.B8,↓Ev.B9,↓Ev.Ca,↓Ev.tK,↓Ev.Cb,↓Ev.Cc,↓Ev.Cd,↓Ev.ye,↓Ev.FF,↓Ev.FG])
local macro_rules |`(tactic|k_is)=>`(tactic|((with_reducible first |refine Ev.Gm ?_ |refine Ev.Gj ?_ |refine Ev.wcl_ok ?_ |skip);(try dsimp only[List.set_cons_zero,List.set_cons_succ]);(try k_go);(repeat ((with_reducible first |refine Ev.xR ?_ |refine Ev.A7 ?_);(try k_go)))))
namespace Lw
open PySem Ev
variable {p:Nat} {S:Sto} {k:Nat} {Q:D->Sto->Prop}
theorem lf{f:Int}(h:Pot p S)(h0:0 < f)(h1:f < 1237940039285380274899124224)(q:∀ (r:Int) S',0<=r->r < f->Dr p S S'->Q (.int r) S'):Ok (evC aj (k+1) 2 [.ref p,.int f] S) Q:=by
 obtain⟨n,e⟩:=h;have lt:p < S.length:=(Zf.mp e).1;refine qP (d:=eU) (ρ:=[some (.ref p),some (.int f),none]) rfl rfl ?_;dsimp only[eU,i9];k_is;have ix:ixS (.ref p) (.int 0) S=some (.int n,S):=by simp only[ixS,aM,ai,e];rfl
 refine cr ix ?_;k_is;refine⟨h0,?_⟩;k_is;refine cr ix ?_;k_is;refine⟨⟨h0,h1⟩,?_⟩;k_is;refine⟨S.set p (.lst [.int (n / f)]),by simp only[eN,e];rfl,?_⟩;exact q _ _ (Xp _ (by omega)) (Y8 _ h0) ⟨FY,_,FZ lt⟩
theorem Ce{c:Nat}{ns:List Int}(h:S[0]?=some (.frz (ns.map D.int)))(q:∀i:Int,Q (.int i) S):Ok (evC aj (k+1) 0 [.ref 0,.int c] S) Q:=by
 refine qP (d:=cF) (ρ:=[some (.ref 0),some (.int c)]) rfl rfl ?_;dsimp only[cF,ek];k_is;have ln:aK ir (.ref 0) S=some (.int ns.length,S):=by simp only[aK,aM,ai,h,Yu,ir,Ze]
 refine cr ln ?_;k_is;refine jZ (fun hc=>?_) fun hc=>?_
 ·k_is;have hc':=of_decide_eq_true hc;obtain⟨d,e1,e2⟩:=F1 (ds:=ns.map D.int) (i:=c) (by omega) (by rw[Ze];omega);have ix:ixS (.ref 0) (.int c) S=some (d,S):=by simp only[ixS,aM,ai,h,Yu,e1]
  refine cr ix ?_;rw[ZC] at e2;cases hn:ns[(c:Int).toNat]? with
  |none=>rw[hn] at e2;cases e2
  |some i=>rw[hn] at e2;cases e2;exact q i
 ·k_is;exact q 0
theorem Ib{c:Int}(q:∀n:Int,Q (.ref S.length) (S++[.lst [.int n]])):Ok (evC aj (k+1) 1 [.int c] S) Q:=by
 refine qP (d:=gj) (ρ:=[some (.int c),none,none,none]) rfl rfl ?_;dsimp only[gj,jW];k_is;refine⟨⟨by decide,by decide,by decide⟩,?_⟩;k_is;refine jZ (fun _=>?_) fun _=>?_
 ·k_is;refine⟨⟨by decide,by decide,by decide⟩,?_⟩;k_is;exact q _
 ·k_is;refine⟨by decide,?_⟩;refine C6 (by decide) (fun i ρ S'=>S'=S/\∃n:Int,∃u v,ρ=[some (.int c),some (.int n),u,v]) (fun i ρ S' hi ⟨es,n,u,v,er⟩=>?_) (fun ρ S' ⟨es,n,u,v,er⟩=>?_) ⟨rfl,0,none,none,rfl⟩
  ·subst es er;refine⟨_,rfl,?_⟩;k_is;refine⟨by decide,?_⟩;k_is;refine⟨kY (by decide) (by decide),?_⟩;k_is;refine⟨qS (by decide) (by decide),by decide,?_⟩;k_is;have a1:=Xp ((c % 2147483629+7919 * (0+(i:Int))+1) * 48271) (show(2147483647:Int) ≠ 0 by decide);have a2:=Y8 ((c % 2147483629+7919 * (0+(i:Int))+1) * 48271) (show(0:Int) < 2147483647 by decide);refine⟨kY (by omega) (by omega),?_⟩;k_is;refine⟨kY (by decide) (by decide),?_⟩;k_is;refine⟨by decide,?_⟩;k_is;refine⟨qS (by decide) (by decide),?_⟩;k_is;exact⟨rfl,_,_,_,rfl⟩
  ·subst es er;k_is;exact q n
end Lw
namespace Ev
open PySem
def OkX(o:Option (RR × Sto))(Q:RR->Sto->Prop):Prop:=∃r S',o=some (r,S')/\Q r S'
section
variable {aj:List DefE} {k f:Nat} {d:DefE} {ds:List D} {ρ:Rho} {S:Sto} {g:eT} {ar:Nat->Nat} {r:List RS} {Q:RR->Sto->Prop}
theorem Lp(hd:aj[f]?=some d)(hr:d.rb=some rs)(hρ:ds.map some++Zi (d.N.length - ds.length) none=ρ)(h:OkX (gJ (evX aj k) (fF aj) rs ρ S) Q):OkX (evX aj (k+1) f ds S) Q:=by
 subst hρ;have z:evX aj (k+1) f ds S=gJ (evX aj k) (fF aj) rs (ds.map some++Zi (d.N.length - ds.length) none) S:=by simp only[evX,hd,hr]
 rw[z];exact h
theorem c_of_x{Q:D->Sto->Prop}(h:OkX (evX aj k f ds S) fun r S'=>match r with |.val d=>Q d S' |.exc _=>False):Ok (evC aj k f ds S) Q:=by
 obtain⟨r,S',e,q⟩:=h;cases r with
 |val d=>exact⟨d,S',by unfold evC toC;rw[e],q⟩
 |exc i=>exact q.elim
theorem Ic{iw it:Nat}{z:Int}{d:D}{w:Str}(h1:ρ[iw]?=some (some (.int z)))(h2:ρ[it]?=some (some d))(hw:eS[rI z]?=some w)(q:Q (.val (.str w)) S):OkX (gJ g ar (.rsd iw it::r) ρ S) Q:=⟨.val (.str w),S,by simp only[gJ,h1,h2,hw];rfl,q⟩
theorem Ie{iv:Nat}{ds:List D}(h1:ρ[iv]?=some (some (.tup ds)))(q:Q (.val (.tup ds)) S):OkX (gJ g ar (.stk iv::r) ρ S) Q:=⟨.val (.tup ds),S,by simp only[gJ,h1],q⟩
end
end Ev
namespace Lw
open PySem Ev
variable {p:Nat} {S S':Sto} {k:Nat} {Q:D->Sto->Prop}
theorem Ig{α:Type}{nx:Nxt}{tg:Tg}{c:XA}{ρ:Rho}{Q:List D->Sto->Prop}(l:List α)(E:α->D)(f:α->List D)(hl:l.length<=1000)(hf:∀a ∈ l,(f a).length<=1)
  (hnx:∀i S',Sm S S'->nx i S'=some ((l[i]?).map E))
  (step:∀ (i:Nat) a S',l[i]?=some a->Sm S S'->∃ρ1,aG tg (E a) ρ=some ρ1/\Ok (c ρ1 S') fun es S1=>es=f a/\Sm S' S1) (q:∀S',Sm S S'->Q (l.flatMap f) S') :
  Ok (bw nx tg c ρ LF 0 S) fun es S2=>es.length<=100000/\Q es S2:=by
 refine(m7 l.length (fun i acc S'=>Sm S S'/\acc=(l.take i).flatMap f) (by unfold LF;lia) (fun i acc S' hi ⟨sm,ea⟩=>?_) (fun acc S' ⟨sm,ea⟩=>?_) ⟨Sm.refl S,by simp⟩).mono fun es S' ⟨sm,ea⟩=>?_
 ·obtain⟨ρ1,e2,es,S1,e3,e4,sm'⟩:=step i l[i] S' (gEG hi) sm;refine⟨E l[i],ρ1,by rw[hnx i S' sm,gEG hi];rfl,e2,es,S1,e3,sm.trans sm',?_⟩;rw[ea,e4,List.take_succ_eq_append_getElem hi,List.flatMap_append];simp
 ·rw[hnx _ S' sm,YZ (Zh _)];rfl
 ·rw[List.take_length] at ea;subst ea;refine⟨?_,q S' sm⟩
  have:∀m:List α,(∀a ∈ m,(f a).length<=1)->(m.flatMap f).length<=m.length:=fun m=>by
   induction m with
   |nil=>intro _;simp
   |cons a m ih=>
    intro h;rw[Xf,Zm,Zs];have:=h a Zg;have:=ih fun b hb=>h b (Zd _ hb)
    lia
  have:=this l hf
  lia
theorem Ih{α:Type}{n:Nat}{l:List α}{E:α->D}(h:S[n]?=some (.lst (l.map E))):∀i S',Sm S S'->nxS n i S'=some ((l[i]?).map E):=fun i S' sm=>by
 show(ai S' n).map (fun ds=>ds[i]?)=_;rw[eV (sm _ _ h),Yu,ZC]
theorem yf{α:Type}(l:List α)(f:α->D):(l.flatMap fun a=>[f a])=l.map f:=by
 induction l with
 |nil=>rfl
 |cons a l ih=>rw[Xf,ih];rfl
theorem lg{a b:Nat}(ha:S[a]?=some (.lst xs))(hb:S[b]?=some (.lst ys))(hl:xs.length+ys.length<=100000):bv .add (.ref a) (.ref b) S=some (.ref (ZJ S),S++[.lst (xs++ys)]):=by
 simp only[bv,fS,Eg,ha,hb];rw[if_pos hl]
theorem pK{i:Int}(h0:0<=i)(h1:i < 1000):lim i=true:=by simp only[lim,bAE,decide_eq_true_eq];lia
theorem Cf(x y:Str)(S:Sto):aF .ne (.str x) (.str y) S=some (.bl (!(x == y)),S):=p8 (x:=.str x) (y:=.str y) (b:=x == y) rfl
theorem Ii{n:Nat}{ds:List D}{tg:Tg}{b:XS}{ρ:Rho}{Q:Fl->Rho->Sto->Prop}(hl:ds.length<=100000)(I:Nat->Rho->Sto->Prop)(hI:∀i ρ S',I i ρ S'->S'[n]?=some (.lst ds))
  (step:∀ (i:Nat) d ρ S',ds[i]?=some d->I i ρ S'->∃ρ1,aG tg (.tup [.int i,d]) ρ=some ρ1/\OkS (b ρ1 S') fun fl ρ2 S2=>match fl with |.nx=>I (i+1) ρ2 S2 |.ct=>I (i+1) ρ2 S2 |.bk=>Q .nx ρ2 S2 |.rt d=>Q (.rt d) ρ2 S2)
  (q:∀ρ S',I ds.length ρ S'->Q .nx ρ S') (h0:I 0 ρ S):OkS (dA (vj n) tg b LF 0 ρ S) Q:=by
 refine qQ ds.length I (by unfold LF;lia) (fun i ρ S' hi iv=>?_) (fun ρ S' iv=>⟨?_,q ρ S' iv⟩) h0
 ·obtain⟨ρ1,e2,z⟩:=step i ds[i] ρ S' (gEG hi) iv;refine⟨.tup [.int i,ds[i]],ρ1,?_,e2,z⟩;show(ai S' n).bind (fun ds=>enm ds i)=_;rw[eV (hI i ρ S' iv)];show enm ds i=_;unfold enm;rw[if_pos (by lia),gEG hi];rfl
 ·show(ai S' n).bind (fun ds'=>enm ds' ds.length)=_;rw[eV (hI _ ρ S' iv)];show enm ds ds.length=_;unfold enm;rw[if_pos (Zh _),YZ (Zh _)];rfl
end Lw
namespace Lw
open PySem Ev
variable {p:Nat} {S:Sto} {k:Nat} {Q:D->Sto->Prop}
theorem tL{z:Int}{x w:Str}(hw:eS[rI z]?=some w)(q:Q (.str w) S):Ok (evC aj (k+1) 4 [.int z,.str x] S) Q:=
 c_of_x (Lp (d:=fH) (rs:=fG) (ρ:=[some (.int z),some (.str x),none]) rfl rfl rfl (Ic rfl rfl hw q))
theorem yg{ds:List D}(q:Q (.tup ds) S):Ok (evC aj (k+1) 5 [.tup ds] S) Q:=
 c_of_x (Lp (d:=dJ) (rs:=dI) (ρ:=[some (.tup ds),none]) rfl rfl rfl (Ie rfl q))
theorem yh(ys:List Str):iG (ys.map D.str)=some ys:=by
 induction ys with
 |nil=>rfl
 |cons y ys ih=>simp only[Zq,iG,ih];rfl
theorem qX:∀ {ys:List Str},(∀y ∈ ys,y.length=1)->(ys.map (·.length)).sum=ys.length
 |[],_=>rfl
 |y::ys,h=>by
  rw[Zq,List.sum_cons,h y Zg,qX fun z hz=>h z (Zd _ hz),Zs];omega
noncomputable def ws:List Str:=["meadow", "sky", "landings", "order", "lot", "text", "name", "glider", "minute", "aim", "many", "bound", "deed", "row"]
theorem Lq:∀i < 14,eS[rI (i:Nat)]?=ws[i]?:=by decide
noncomputable def bV(r:List Str):D:=.tup (r.map D.str)
theorem qY:∀ (r:List Str) (n:Nat),eqL (eqD (n+1) S) (r.map D.str) (r.map D.str)=some true
 |[],_=>rfl
 |x::r,n=>by
  have e:eqD (n+1) S (.str x) (.str x)=some (x == x):=rfl;rw[Zq,eqL,e,qY r n,beq_self_eq_true];rfl
theorem qZ:∀ (rs:List (List Str)),eqL (eqD 59 S) (rs.map bV) (rs.map bV)=some true
 |[]=>rfl
 |r::rs=>by
  have e:eqD 59 S (bV r) (bV r)=some true:=by
   simp only[bV,eqD,if_true];exact qY r 57
  rw[Zq,eqL,e,qZ rs];rfl
theorem Cg{a b:Nat}{rs:List (List Str)}(ha:S[a]?=some (.lst (rs.map bV)))(hb:S[b]?=some (.lst (rs.map bV))):aF .ne (.ref a) (.ref b) S=some (.bl false,S):=by
 have:eqD 60 S (.ref a) (.ref b)=some true:=by
  show(match ai S a,ai S b with
   |some xs,some ys=>if a=b then some true else if xs.length=ys.length then eqL (eqD 59 S) xs ys else some false
   | _,_=>none)=some true
  rw[eV ha,eV hb];dsimp only;split
  ·rfl
  ·rw[if_pos rfl];exact qZ rs
 exact p8 this
theorem str_int{i:Int}(h:i.natAbs<=1000):oJ (.int i) S=some (.str (Str.ofString (toString i)),S):=by simp only[oJ,if_pos h]
theorem q8{x y:Str}(h:x.length+y.length<=100000):bv .add (.str x) (.str y) S=some (.str (x++y),S):=by simp only[bv,fS,if_pos h]
theorem tM:∀i < 8,(Str.ofString (toString ((0:Int)+((i:Nat):Int)))).length<=100:=by decide
theorem main(ns:List Int)(hn:ns.length<=63):∃S',evC aj 40 6 [.ref 0] [.frz (ns.map D.int)]=some (.bl true,S'):=by
 have key:Ok (evC aj (39+1) 6 [.ref 0] [.frz (ns.map D.int)]) fun d _=>d = .bl true:=by
  refine qP (d:=qO) (ρ:=[some (.ref 0),none,none,none,none,none,none,none]) rfl rfl ?_;dsimp only[qO,C5];k_is;have e1:∀ (u v:List D),u.length+v.length<=100000->bv .add (.ref 1) (.ref 2) ([Ob.frz (ns.map D.int)]++[Ob.lst u]++[Ob.lst v])=some (.ref 3,[Ob.frz (ns.map D.int)]++[Ob.lst u]++[Ob.lst v]++[Ob.lst (u++v)]):=fun u v h=>lg (a:=1) (b:=2) rfl rfl h;refine cr (e1 _ _ (by decide)) ?_;have h0:([Ob.frz (ns.map D.int)]++[Ob.lst [D.str (Str.ofString "meadow"),D.str (Str.ofString "sky"),D.str (Str.ofString "landings"),D.str (Str.ofString "order"),D.str (Str.ofString "lot"),D.str (Str.ofString "text"),D.str (Str.ofString "name"),D.str (Str.ofString "glider"),D.str (Str.ofString "minute"),D.str (Str.ofString "aim"),D.str (Str.ofString "many"),D.str (Str.ofString "bound")]]++[Ob.lst [D.str (Str.ofString "deed"),D.str (Str.ofString "row")]]++[Ob.lst ([D.str (Str.ofString "meadow"),D.str (Str.ofString "sky"),D.str (Str.ofString "landings"),D.str (Str.ofString "order"),D.str (Str.ofString "lot"),D.str (Str.ofString "text"),D.str (Str.ofString "name"),D.str (Str.ofString "glider"),D.str (Str.ofString "minute"),D.str (Str.ofString "aim"),D.str (Str.ofString "many"),D.str (Str.ofString "bound")]++[D.str (Str.ofString "deed"),D.str (Str.ofString "row")])])[0]?=some (Ob.frz (ns.map D.int)):=rfl;have h3:([Ob.frz (ns.map D.int)]++[Ob.lst [D.str (Str.ofString "meadow"),D.str (Str.ofString "sky"),D.str (Str.ofString "landings"),D.str (Str.ofString "order"),D.str (Str.ofString "lot"),D.str (Str.ofString "text"),D.str (Str.ofString "name"),D.str (Str.ofString "glider"),D.str (Str.ofString "minute"),D.str (Str.ofString "aim"),D.str (Str.ofString "many"),D.str (Str.ofString "bound")]]++[Ob.lst [D.str (Str.ofString "deed"),D.str (Str.ofString "row")]]++[Ob.lst ([D.str (Str.ofString "meadow"),D.str (Str.ofString "sky"),D.str (Str.ofString "landings"),D.str (Str.ofString "order"),D.str (Str.ofString "lot"),D.str (Str.ofString "text"),D.str (Str.ofString "name"),D.str (Str.ofString "glider"),D.str (Str.ofString "minute"),D.str (Str.ofString "aim"),D.str (Str.ofString "many"),D.str (Str.ofString "bound")]++[D.str (Str.ofString "deed"),D.str (Str.ofString "row")])])[3]?=some (Ob.lst (ws.map D.str)):=rfl
  generalize [Ob.frz (ns.map D.int)]++[Ob.lst [D.str (Str.ofString "meadow"),D.str (Str.ofString "sky"),D.str (Str.ofString "landings"),D.str (Str.ofString "order"),D.str (Str.ofString "lot"),D.str (Str.ofString "text"),D.str (Str.ofString "name"),D.str (Str.ofString "glider"),D.str (Str.ofString "minute"),D.str (Str.ofString "aim"),D.str (Str.ofString "many"),D.str (Str.ofString "bound")]]++[Ob.lst [D.str (Str.ofString "deed"),D.str (Str.ofString "row")]]++[Ob.lst ([D.str (Str.ofString "meadow"),D.str (Str.ofString "sky"),D.str (Str.ofString "landings"),D.str (Str.ofString "order"),D.str (Str.ofString "lot"),D.str (Str.ofString "text"),D.str (Str.ofString "name"),D.str (Str.ofString "glider"),D.str (Str.ofString "minute"),D.str (Str.ofString "aim"),D.str (Str.ofString "many"),D.str (Str.ofString "bound")]++[D.str (Str.ofString "deed"),D.str (Str.ofString "row")])]=S0 at *;k_is;have lq:aK ir (.ref 0) S0=some (.int ns.length,S0):=by simp only[aK,aM,ai,h0,Yu,ir,Ze]
  refine cr lq ?_;k_is
  obtain⟨c,hc,c8⟩:∃c:Nat,(if (if (4:Int) < ns.length then (4:Int) else ns.length) > 1 then (if (4:Int) < ns.length then (4:Int) else ns.length) else 1)=(c:Int)/\c<=4:=by
   refine⟨(if (if (4:Int) < ns.length then (4:Int) else ns.length) > 1 then (if (4:Int) < ns.length then (4:Int) else ns.length) else 1).toNat,?_,?_⟩
   ·split <;> split <;> lia
   ·split <;> split <;> lia
  rw[hc];refine⟨pK (by lia) (by lia),?_⟩;rw[Yc];refine C6 (by lia) (fun i ρ S'=>S'[0]?=some (Ob.frz (ns.map D.int))/\S'[3]?=some (Ob.lst (ws.map D.str))/\∃b c d e f g,ρ=[some (.ref 0),some (.ref 3),b,c,d,e,f,g]) (fun i ρ S1 hi hq=>?_) (fun ρ S1 hq=>?_) ⟨h0,h3,none,none,none,none,none,none,rfl⟩
  ·obtain⟨h0,h3,b,c',d,e,f,g,er⟩:=hq;subst er;refine⟨_,rfl,?_⟩;k_is;rw[Int.zero_add];refine⟨rfl,Ce (k:=38) h0 fun x=>?_⟩;refine⟨rfl,Ib (k:=38) fun nn=>?_⟩;k_is;have pt:Pot (ZJ S1) (S1++[Ob.lst [D.int nn]]):=⟨nn,dM⟩;have n0:0 ≠ ZJ S1:=fun z=>by rw[ZR.mp z.symm] at h0;simp at h0
   have n3:3 ≠ ZJ S1:=fun z=>by have:=(Zf.mp h3).1;omega
   have h1:(S1++[Ob.lst [D.int nn]])[0]?=some (Ob.frz (ns.map D.int)):=Sm.app _ _ _ _ h0;have h4:(S1++[Ob.lst [D.int nn]])[3]?=some (Ob.lst (ws.map D.str)):=Sm.app _ _ _ _ h3;generalize S1++[Ob.lst [D.int nn]]=S2 at *;generalize ZJ S1=p at *;refine⟨rfl,rfl,lf (k:=38) pt (by decide) (by decide) fun c0 S3 c1 c2 d3=>?_⟩;k_is;refine⟨pK (by lia) (by lia),?_⟩;refine pA (by lia) (fun i acc S'=>Dr p S2 S'/\∃ys:List Str,acc=ys.map D.str/\ys.length=i/\∀y ∈ ys,y.length=1) (fun i acc S4 hi hq=>?_) (fun es S4 hq=>?_) ⟨d3,[],rfl,rfl,fun y hy=>by cases hy⟩
   ·obtain⟨d4,ys,rfl,ly,hy⟩:=hq;refine⟨_,rfl,?_⟩;k_is;refine⟨rfl,lf (k:=38) d4.pot (by decide) (by decide) fun r S5 r1 r2 d5=>?_⟩;obtain⟨m,rfl⟩:∃m:Nat,r=(m:Int):=⟨r.toNat,by lia⟩;have hm:m < (Str.ofString "abc xyz").cps.toList.length:=by show m < 7;lia
    have ix:ixS (.str (Str.ofString "abc xyz")) (.int (m:Int)) S5=some (.str ⟨#[(Str.ofString "abc xyz").cps.toList[m]]⟩,S5):=by
     simp only[ixS];rw[if_pos (by decide),Ev.pZ (gEG hm)];rfl
    refine cr ix ?_;k_is;refine⟨d4.trans d5,ys++[⟨#[(Str.ofString "abc xyz").cps.toList[m]]⟩],by rw[ZV];rfl,by rw[Zm,ly];rfl,fun y hy'=>?_⟩;rcases ZK.mp hy' with z |z
    ·exact hy y z
    ·rw[ZN.mp z];rfl
   obtain⟨d4,ys,rfl,ly,hy⟩:=hq;refine⟨by rw[Ze,ly];lia,?_⟩;have sm:=qX hy;have s5:Sm S4 (S4++[Ob.lst (ys.map D.str)]):=Sm.app _ _
   have jn:iH (.str (Str.ofString "")) [.ref (ZJ S4)] (S4++[Ob.lst (ys.map D.str)])=some (.str (PySem.Txt.join (Str.ofString "") ys),S4++[Ob.lst (ys.map D.str)]):=by
    simp only[iH,dM,yh];rw[if_pos (by rw[sm,show(Str.ofString "").length=0 from rfl];lia)]
   refine cr jn ?_;have lx:(PySem.Txt.join (Str.ofString "") ys).length<=1000:=Zv (PyProof.Rows.len_join_le (n:=100) (by show(ys.map (·.length)).sum+ys.length<=101;rw[sm];lia) (by decide)) (by decide);have d5:=d4.thenSm s5;generalize PySem.Txt.join (Str.ofString "") ys=x at *;generalize S4++[Ob.lst (ys.map D.str)]=S5 at *;clear sm jn s5 d4 hy ly;k_is;have h5:=d5.kp _ _ n3 h4;refine⟨by rw[eV h5];rfl,?_⟩;refine Ii (ds:=ws.map D.str) (by decide) (fun j ρ S'=>S'=S5/\∃e f,ρ=[some (.ref 0),some (.ref 3),some (.int i),some (.ref p),some (.str x),e,f,g]) (fun j ρ S' iv=>iv.1 ▸ h5) (fun j d ρ S6 hd hq=>?_) (fun ρ S6 hq=>?_) ⟨rfl,_,_,rfl⟩
   ·obtain⟨rfl,e,f,rfl⟩:=hq;rw[ZC] at hd;cases hw:ws[j]? with
    |none=>rw[hw] at hd;cases hd
    |some w=>
    rw[hw] at hd;cases hd;have hj:j < 14:=(Zf.mp hw).1;refine⟨_,FR (by simp) (by simp),?_⟩;k_is;refine⟨rfl,tL (k:=38) (w:=w) (by rw[Lq j hj];exact hw) ?_⟩;k_is;refine cr (Cf _ _ _) ?_;rw[beq_self_eq_true];k_is;exact⟨rfl,_,_,rfl⟩
   obtain⟨rfl,e,f,rfl⟩:=hq;k_is;refine⟨by decide,?_⟩;refine pA (by decide) (fun j acc S'=>Dr p S6 S'/\∃rs:List (List Str),acc=rs.map bV/\rs.length=j) (fun j acc S7 hj hq=>?_) (fun es S7 hq=>?_) ⟨Dr.refl d5.pot,[],rfl,rfl⟩
   ·obtain⟨d7,rs,rfl,lr⟩:=hq;refine⟨_,rfl,?_⟩;k_is;refine⟨rfl,lf (k:=38) d7.pot (by decide) (by decide) fun r S8 r1 r2 d8=>?_⟩;k_is;refine⟨pK (by lia) (by lia),?_⟩;refine pA (by lia) (fun i acc S'=>S'=S8/\∃ys:List Str,acc=ys.map D.str/\ys.length=i) (fun i acc S9 hi hq=>?_) (fun es S9 hq=>?_) ⟨rfl,[],rfl,rfl⟩
    ·obtain⟨rfl,ys,rfl,ly⟩:=hq;refine⟨_,rfl,?_⟩;k_is;refine cr (str_int (by lia)) (cr (q8 (by have:=tM i (by lia);lia)) ?_);k_is;exact⟨rfl,ys++[_],by rw[ZV];rfl,by rw[Zm,ly];rfl⟩
    ·obtain⟨rfl,ys,rfl,ly⟩:=hq;refine⟨by rw[Ze,ly];lia,?_⟩;refine cr (show lP false (ys.map D.str) S9=some (.tup (ys.map D.str),S9) from rfl) ?_;k_is;exact⟨d7.trans d8,rs++[ys],by rw[ZV];rfl,by rw[Zm,lr];rfl⟩
   obtain⟨d7,rs,rfl,lr⟩:=hq;refine⟨by rw[Ze,lr];decide,?_⟩;k_is;have s8:Sm S7 (S7++[Ob.lst (rs.map bV)]):=Sm.app _ _;have a8:(S7++[Ob.lst (rs.map bV)])[ZJ S7]?=some (.lst (rs.map bV)):=dM;generalize S7++[Ob.lst (rs.map bV)]=S8 at *;generalize ZJ S7=N8 at *;have er:rs.map bV++[D.tup []]=(rs++[[]]).map bV:=by rw[ZV];rfl
   have l4:(rs++[[]]).length=4:=by rw[Zm,lr];rfl
   have s9:Sm S8 (S8++[Ob.lst [D.tup []]]):=Sm.app _ _;refine cr (lg (s9 _ _ a8) dM (by rw[Ze,lr];decide)) ?_;rw[er];generalize S8++[Ob.lst [D.tup []]]=S9 at *;have sA:Sm S9 (S9++[Ob.lst ((rs++[[]]).map bV)]):=Sm.app _ _;have aA:(S9++[Ob.lst ((rs++[[]]).map bV)])[ZJ S9]?=some (.lst ((rs++[[]]).map bV)):=dM;generalize S9++[Ob.lst ((rs++[[]]).map bV)]=SA at *;generalize ZJ S9=NA at *;refine⟨by rw[eV aA];rfl,?_⟩;refine Ig (rs++[[]]) bV (fun r=>[bV r]) (by lia) (fun _ _=>Zh _) (Ih aA) (fun i r S' hr sm=>⟨_,rfl,?_⟩) fun SB sB=>?_
   ·rw[show bV r = .tup (r.map D.str) from rfl];k_is;exact⟨rfl,yg (k:=38) ⟨rfl,Sm.refl _⟩⟩
   rw[yf];have sC:Sm SB (SB++[Ob.lst ((rs++[[]]).map bV)]):=Sm.app _ _;have aC:(SB++[Ob.lst ((rs++[[]]).map bV)])[ZJ SB]?=some (.lst ((rs++[[]]).map bV)):=dM;generalize SB++[Ob.lst ((rs++[[]]).map bV)]=SC at *;generalize ZJ SB=NC at *;have sD:Sm SC (SC++[Ob.lst [D.tup []]]):=Sm.app _ _;have s8D:=(((s9.trans sA).trans sB).trans sC).trans sD;refine cr (lg (s8D _ _ a8) dM (by rw[Ze,lr];decide)) ?_;rw[er];generalize SC++[Ob.lst [D.tup []]]=SD at *;have sE:Sm SD (SD++[Ob.lst ((rs++[[]]).map bV)]):=Sm.app _ _;refine cr (Cg (sE _ _ (sD _ _ aC)) dM) ?_;k_is;have dz:=(d5.trans (d7.thenSm (s8.trans (s8D.trans sE))));exact⟨dz.kp _ _ n0 h1,dz.kp _ _ n3 h4,_,_,_,_,_,_,rfl⟩
  ·obtain⟨h0,h3,b,c',d,e,f,g,er⟩:=hq;subst er;k_is
 obtain⟨d,S',e,rfl⟩:=key;exact⟨S',e⟩
end Lw
theorem PySem.Challenge.cw_downrings_k06_errors_and_their_fields_holds : PySem.Challenge.rw_downrings_k06_errors_and_their_fields.Holds :=
 Lw.head Lw.main
