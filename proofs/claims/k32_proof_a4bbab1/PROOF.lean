import PyProof.Rows.All
import KE.KIsAll
import KE.KMinBuiltin
import KE.KRevSl
import KE.KSortTup
import PySem.Challenge.RW_downrings_k32_what_is_no_order
set_option Elab.async false
set_option linter.all false
set_option maxRecDepth 100000
set_option maxHeartbeats 4000000
local macro_rules|`(abbrev $n:declId $s:optDeclSig $v:declVal)=>`(noncomputable def $n $s:optDeclSig $v:declVal)
open List renaming length_map → Za, getElem?_eq_some_iff → Zb, length_append → Zc, mem_cons_of_mem → Ze, length → Zf, mem_cons_self → Zh, mem_of_getElem? → Zj, range → Zk, size_toArray → Zl, mem_cons → Zm, length_singleton → Zn, getElem?_set_ne → Zo, getElem?_append_right → Zp, getElem?_map → Zr, replicate → Zs, getElem?_append_left → Zt, map_cons → Zu, mem_append_right → Zx, getElem?_eq_none → ZA, length_cons → ZB, all_eq_true → ZD, mem_singleton → ZE, getElem?_set_self → ZG, length_range → ZI, mem_append → ZJ, map_append → ZK, mem_map → ZL, getElem_mem → ZM, length_take → ZO, lookup_cons → ZQ, mem_range → ZR, append_nil → ZS, map_map → ZU, mem_append_left → ZV, contains_cons → ZX, length_set → ZY, mem_flatMap → Z1, length_nil → Z2, eraseIdx_cons_succ → Z3, all_cons → Z4, map_nil → Z5, take_succ_eq_append_getElem → Z6, take_of_length_le → Z7, replicate_succ → Z8, map_congr_left → Z9, mem_filter → Yb, nodup_cons → Yd, prefix_refl → Ye, not_mem_nil → Yg, all_map → Yh, length_eq_zero_iff → Yi, getD_eq_getElem?_getD → Yl, getElem?_eq_none_iff → Ym, flatten_cons → Yn, append_assoc → Yo, getElem?_range → Yp, getElem?_replicate → Yr, drop → Ys, getElem?_cons_succ → Yt, mem_filterMap → Yu, prefix_append → Yv, pairwise_cons → Yw, getElem?_set → Yy, pairwise_map → Yz, getElem?_of_mem → YB, forall_mem_cons → YC, length_drop → YD, drop_length → YE, any_cons → YF, reverse_cons → YH, length_replicate → YI, getElem_inj → YJ, countP_cons → YK, any_eq_true → YL, nodup_range → YN, of_mem_zip → YO, filterMap_cons → YR, length_reverse → YS, forIn_nil → YU, perm_ext_iff_of_nodup → YW, drop_eq_getElem_cons → YX, nodup_append → Y1, map_inj_left → Y3, flatMap_cons → Y4, set_comm → Y6, getElem?_take_of_lt → Y7, map_take → Y9, take_length → Xb, filter_cons → Xc, toArray → Xe, drop_eq_nil_of_le → Xf, getElem_cons_succ → Xg, range_succ → Xh, take_append_drop → Xj, contains_iff_mem → Xk, length_filter_le → Xl, lookup → Xn, drop_zero → Xo, getLast?_append → Xq, mem_of_mem_take → Xr, map_id → Xs, toList_toArray → Xu, flatMap_append → Xv, replicate_zero → Xw, length_pos_iff → Xy, take_nil → Xz, filterMap_map → XF, ext_getElem? → XQ, cons → XW, flatten_nil → XY, foldl_cons → X0, nil_append → X1, forIn_cons → X2, countP_map → X4, foldl → X6, nodup_nil → X7, count → X8, take_left → X9, take_add → Wd, drop_nil → We
open Bool renaming false_ne_true → Zd, false_eq_true → ZW, eq_iff_iff → Yc, false_and → Yq, or_eq_true → YQ, and_false → YV, eq_false_iff → Y0, and_comm → Y5, true_and → Y8, and_eq_true_iff → Xp, and_self → XB, or_false → Wb, and_true → Wc
open Nat renaming le_refl → Zg, lt_of_lt_of_le → Zv, le_trans → Zw, ne_of_lt → ZF, lt_irrefl → ZN, sub_self → Yj, le_succ → Yk, le_of_lt → YG, zero_add → YT, le_of_succ_le → YY, zero_le → YZ, lt_succ_of_lt → Y2, lt_succ_self → Xa, min_eq_left → Xi, lt_of_le_of_lt → XG, ne_of_gt → XJ, succ_mul → XM, succ_le_succ → XU, succ_ne_self → XV, le_max_right → XX, min_eq_right → XZ, le_max_left → X3, mul_le_mul → Wa, sub_zero → Wg, log2_lt → Wk
open PySem.Heap renaming get?_push_of_some → Zi, lt_size → Zq, get?_push_size → Zy, get?_update_other → ZZ, get?_update_self → Yx, size_push → YA, size_update → YM, get?_update_ne → Xx, get?_push_ne → XN
open Option renaming map_some → Zz, isSome_iff_exists → ZT, getD_some → Z0, map_eq_some_iff → Xd, map → XC, getD_none → XR, bind → Wj
open Int renaming toNat_natCast → ZC, le_refl → ZP, emod_lt_of_pos → XH, emod_nonneg → X5, ediv_one → Wf, le_trans → Wh, zero_add → Wi
open Array renaming length_toList → ZH, mem_toList_iff → Xm, append_assoc → XD
open PyProof.Rows renaming boot_enumerate → Wl, boot_isinstance → Wm, boot_list → Wn, boot_max → Wo, boot_sorted → Wp, boot_str → Wq, boot_tuple → Wr, callWith_type1 → Ws, slot_tuple_getitem → Wt
open PySem.Calls renaming Name_function_global → Wu, call_function_entry → Wv, evalArgs_plain → Ww
open PySem renaming Comprehension → Wx, DictEntry → Wy, FuncData → WQ, GenState → WR, NameKind → WT, Operator → WU, Spec → Ve, assignEach → VC, assignInOrder → VE, backToKw → VF, behindInMarks → VG, binaryOp → VH, bindName → VI, bootBuiltins → VJ, builtinsNs → VL, call_meets → VM, call_repr_slot → VN, cellsFrom → VO, codeAny_builtin → VP, codeAny_call_builtin → VQ, codeAny_call_function → VR, codeAny_mono → VS, compareOp → VT, concat_meets → VU, dictText_mem_le → VW, evalPart_none → VX, excClassObj → VY, foldedSetIterable → VZ, importedModules → V0, intItems → V1, intItems_at → V2, keywordEach → V3, letOwnedTupleGo → V4, lookupAlong → V5, mainGlobals → V6, mem_of_lookup → V7, newFunctionEnv → V8, noFill_tuple_add → V9, not_mem_of_deeper → Ua, numAt_eq → Ub, nums_intItems → Uc, plainId_quiet → Ud, pushCells → Ue, pushCells_keeps → Uf, seqIndex_neg → Ug, seqIndex_of → Uh, seqItems? → Ui, seq_tuple_add → Uj, sizeLine_eq → Uk, sliceBounds → Ul, starEach → Um, strLen_append → Uo, swappedStores → Up, swapsWith → Uq, swapsWithSole → Ur, sysModules → Us, textFrom → Ut, treeTable → Uu, typeLookup → Uv, wpAny_Call_Name_kw → Uw, wpAny_Return_some → Ux, wpAny_bind → Uy, wpAny_bindName → Uz, wpAny_call_entry → UA, wpAny_comprehension_free → UB, wpAny_eqBool_int → UC, wpAny_execs_cons → UD, wpAny_execs_nil → UE, wpAny_field → UF, wpAny_holding → UG, wpAny_isSubtype_exc → UH, wpAny_letGo → UI, wpAny_letOwnedTupleGo_enum → UJ, wpAny_loadPart' → UK, wpAny_loadPart_at → UL, wpAny_mono → UM, wpAny_newFunctionEnv_cells → UN, wpAny_newList → UO, wpAny_newObj_type → UP, wpAny_of_eq → UQ, wpAny_passesOwn → UR, wpAny_pure → US, wpAny_pyIter_enum → UT, wpAny_pyIter_tuple → UU, wpAny_pyNext_enum_endD → UV, wpAny_pyNext_enum_itemD → UW, wpAny_rule → UX, wpAny_seqItems → UY, wpAny_sequenceKey → UZ, wpAny_standAt → U0, wpAny_truthy_bool → U1, wpAny_tryCatch → U2, wpAny_typeOf → U3, wpAny_updateSeq → U4
open PySem.F renaming args_tuple_add_2 → Wz, args_tuple_iterator_next_1 → WA, entry_max_loop → WB, entry_tuple_add → WC, entry_tuple_iterator_next → WD, plainAttrs_list → WE, plain_max_loop → WF, slot_list_append → WG, slot_list_count → WH, slot_list_index → WI, slot_list_ne_refl → WJ, slot_list_pop → WK, slot_tuple_add → WL, slot_tuple_count → WM, slot_tuple_iterator_next → WN, typeOf_object_class → WO
open PySem.PyData renaming depth → WV, depthAll → WW, depthAll_keys_le → WX, depthAll_vals_le → WY, depthKv → WZ, shown → W0, shownAll → W1, shownKv → W2, shownKv_eq → W3, shownKv_key_le → W4, shownKv_val_le → W5
open PySem.SeqAt renaming EqAt → W6, RcAt → W7, RcNeAt → W8, in_listAt → W9, in_tupleAt → Va, notIn_listAt → Vb, notIn_tupleAt → Vc
open PySem.W renaming Frag → Vf, callWith_K → Vg, cellsFrom_some → Vh, clsIn → Vi, codeIn → Vj, codeRec_of → Vk, findIn → Vl, fnOf → Vm, hideAll_get → Vn, instObj → Vo, kas_sort → Vp, keepIn → Vq, kia_one → Vr, kitCls → Vs, kitOne → Vt, kitx_dict → Vu, kitx_list → Vv, lookIn → Vw, methodObj → Vx, mroIn → Vy, of_hideAll → Vz, plainGet → VA, subIn → VB
namespace Cut
open PySem PySem.W
abbrev qc(tb:String->Option Builtin)(p:Program)(w:World)(n₀:Nat)(ann:Option Value):Nat->Shared->Thread->Option (Shared × Thread)
 |0,s,t=>some (s,t)
 |n+1,s,t=>match through t with
  |true=>none
  |false=>match stepOk n₀ ann t with
   |false=>none
   |true=>match step (denote tb) p w s t with
    |.go s' t'=>qc tb p w n₀ ann n s' t'
    |.halt _ _=>none
theorem yF{tb:String->Option Builtin}{p:Program}{w:World}{n₀:Nat}{ann:Option Value}{m:Nat}:∀ {n:Nat} {s s':Shared} {t t':Thread},qc tb p w n₀ ann n s t=some (s',t')->topRun tb p w n₀ ann (m+n) s t=topRun tb p w n₀ ann m s' t'
 |0,s,s',t,t',h=>by cases h;rfl
 |n+1,s,s',t,t',h=>by
  rw[<-Nat.add_assoc];unfold qc at h
  conv=>lhs;unfold topRun
  cases e1:through t with
  |true=>rw[e1] at h;cases h
  |false=>
   rw[e1] at h;dsimp only at h ⊢;cases e2:stepOk n₀ ann t with
   |false=>rw[e2] at h;cases h
   |true=>
    rw[e2] at h;dsimp only at h ⊢;cases e3:step (denote tb) p w s t with
    |halt o s1=>rw[e3] at h;cases h
    |go s1 t1=>
     rw[e3] at h;exact yF h
section
variable (p:Program) (w:World)
abbrev s0:Shared:=(fencedOpening Uu p w 20000).getD {}
abbrev n0:Nat:=(s0 p w).heap.objs.size
abbrev an:Option Value:=(s0 p w).heap.nsMap V6 "__annotations__"
abbrev st(n:Nat):Shared × Thread:=(qc Uu p w (n0 p w) (an p w) n (s0 p w) (topStub p)).getD (s0 p w,topStub p)
abbrev ent(n:String)(t:Nat)(v:Value):Wy:=⟨reduceHash (w.params.strHash (Str.ofString n).cps),.str (Str.ofString n) t,v⟩
abbrev nm:List String:=["NoMeadow", "NoSky", "NoLandings", "NoOrder", "NoLot", "NoText", "NoName", "NoGlider", "NoMinute", "NoAim", "TooMany", "Bound", "NoDeed", "NoRow"]
abbrev cls(x:String × Nat):List Obj:=
 let n:=Str.ofString x.1;let b:=28+12 * x.2;let t:=207+16 * x.2;let l:Int:=4+2 * x.2
 let m:=Value.str (Str.ofString "downrings.errors") 187
 let f:=λt=>Value.str p.main.file t
 [⟨.type "tuple", none,.seq #[.ref 24] 0,#[]⟩,
   ⟨.type "builtin_function_or_method", none,.fields #[.builtin "type.__prepare__", .type "type"],#[]⟩,
   ⟨.type "dict", none,.dict #[ent w "__module__" (t+7) m,ent w "__qualname__" (t+9) (.str n (t+8)),ent w "__firstlineno__" (t+11) (.int l (t+10)),ent w "__static_attributes__" (t+12) (.ref (b+7))] 4,#[]⟩,
   ⟨.type "tuple", none,.seq #[] 0,#[]⟩,
   ⟨.none,none,.fields #[],#[]⟩,
   ⟨.type "code", none,.fields #[.str n (t+2),.str n (t+3),f (t+4),.int l 0,.int 0 0,.int 0 0,.int 0 0,.int 0 0,.ref (b+3),.bool false,.int 181 0,.ref (b+4),.none,.none,.none,.none,.int (t+5:Nat) 0,.int l 0,f (t+6)],#[]⟩,
   ⟨.type "frame", none,.plain,#[some (.ref (b+5)),some (.ref 3),some (.ref (b+2)),none,some m,none,some (.ref 0)]⟩,
   ⟨.type "tuple", none,.seq #[] 0,#[]⟩,
   ⟨.type "dict", none,.dict #[ent w "__module__" (t+7) m,ent w "__firstlineno__" (t+11) (.int l (t+10)),ent w "__static_attributes__" (t+12) (.ref (b+7)),ent w "__doc__" (t+13) .none] 2,#[]⟩,
   ⟨.type "type", none,.cls { name:=n,bases:=[.ref 24],mro:=[.ref (b+9),.ref 24,.type "ValueError", .type "Exception", .type "BaseException", .type "object"],ns:=b+8,qualname:=n },#[some (.ref b),none,some (.str n t),some (.str n (t+8)),some (.builtin "ValueError.__new__"),some (.bool true)]⟩,
   ⟨.type "super", none,.fields #[.ref (b+9),.ref (b+9),.ref (b+9)],#[]⟩,
   ⟨.type "builtin_function_or_method", none,.fields #[.builtin "object.__init_subclass__", .ref (b+9)],#[]⟩]
abbrev PM(o:Obj):Obj:=match o with
 |⟨c,d,.dict es n,s⟩=>⟨c,d,.dict (es++(nm.zipIdx.map λx=>ent w x.1 (222+16 * x.2) (.ref (37+12 * x.2))).toArray) (n+14),s⟩
 |o=>o
abbrev Mz(o:Obj):Obj:=match o with
 |⟨c,d,.fields vs,s⟩=>⟨c,d,.fields (vs++(nm.zipIdx.flatMap λx=>[Value.int (4+2 * x.2:Nat) 0,.int 0 0,.ref (33+12 * x.2)]).toArray),s⟩
 |o=>o
abbrev MA(o:Obj):Obj:=match o with
 |⟨c,d,.cls k,s⟩=>⟨c,d,.cls { k with subclasses:=nm.zipIdx.map λx=>.ref (37+12 * x.2) },s⟩
 |o=>o
abbrev mid:Shared:=match (st p w 208).1 with
 |⟨⟨os,l⟩,g,d,_,o⟩=>⟨⟨((((os.toList.modify 3 (PM w)).modify 12 Mz).modify 24 MA)++(nm.zipIdx.flatMap (cls p w))).toArray,l⟩,g,d,431,o⟩
abbrev MB:Thread:=match (st p w 208).2 with
 |⟨_,.body ss env,_,k⟩=>⟨do return .done (<-(execs (ss.drop 16) env).onRaise (leaving env)),.body ss env,⟨30,0,31,8⟩,k⟩
 |t=>t
abbrev HD(s:Shared)(o:Option Shared):Option Shared:=bif s.gens.size == 0 && s.heap.isNs V6 then (o.bind λu=>bif laidKept s.heap u.heap && (gensDone u && (namesBound p u.heap && staticsOk (V0 p.main.body) s.heap u.heap)) then some u else none) else none
end
theorem MC{tb:String->Option Builtin}{p:Program}{w:World}{N:Nat}{s:Shared}:topFrom tb p w N s=HD p s (topRun tb p w s.heap.objs.size (s.heap.nsMap V6 "__annotations__") N s (topStub p)):=by
 unfold topFrom HD;rw[Y5];cases s.gens.size == 0 && s.heap.isNs V6 with
 |false=>rfl
 |true=>
  show Wj _ _=Wj _ _
  congr 1
  funext u
  rw[Y5,Y5 (_ && _) (gensDone u),Y5 _ (namesBound p u.heap)];cases laidKept s.heap u.heap && (gensDone u && (namesBound p u.heap && staticsOk (V0 p.main.body) s.heap u.heap)) <;> rfl
@[inline]abbrev PartA(p:Program):Prop:=∀w,qc Uu p w (n0 p w) (an p w) 3189 (s0 p w) (topStub p)=some (mid p w,MB p w)
abbrev fin(p:Program)(w:World):Option Shared:=HD p (s0 p w) (topRun Uu p w (n0 p w) (an p w) 16811 (mid p w) (MB p w))
@[inline]abbrev PartB(p q:Program)(loose:List Str)(Xt:Shared->Bool):Prop:=∀w,(fin p w).map (openSeen q loose (V0 p.main.body) Xt true)=some (openGood q loose)
@[inline]abbrev PartC(p:Program){α:Type}(Yf:Shared->α)(Ya:World->α):Prop:=∀w,(fin p w).map Yf=some (Ya w)
theorem two{p:Program}{α β γ:Type}{f:Shared->α}{g:Shared->β}{a:World->α}{b:World->β}(k:α->β->γ)(h:PartC p f a)(i:PartC p g b):PartC p (λs=>k (f s) (g s)) (λw=>k (a w) (b w)):=λw=>by
 obtain⟨u,hu,e1⟩:=Xd.mp (h w);have e2:=i w;rw[hu] at e2 ⊢;have e2:=Option.some.inj e2;show some (k (f u) (g u))=_;rw[e1,e2]
theorem left_cut{p q:Program}{loose:List Str}{Xt:Shared->Bool}{α:Type}{Yf:Shared->α}{Ya:World->α}(h0:∀w,(fencedOpening Uu p w 20000).isSome=true)(hA:PartA p)(hB:PartB p q loose Xt)(hC:PartC p Yf Ya):LeftO p q loose Xt Yf Ya 20000:=λw=>by
 obtain⟨s,hs⟩:=ZT.mp (h0 w);have e0:s0 p w=s:=by unfold s0;rw[hs];rfl
 obtain⟨u,hu,e1⟩:=Xd.mp (hB w);have e2:=hC w;rw[hu] at e2;have e2:Yf u=Ya w:=Option.some.inj e2;have a:=yF (m:=16811) (hA w);unfold fin at hu;unfold n0 an at a hu;rw[<-a,e0] at hu;unfold openEnds;rw[hs];show XC _ (topFrom Uu p w 20000 s)=_;rw[MC];refine(congrArg _ hu).trans ?_;show some (openSeen q loose (V0 p.main.body) Xt true u,Yf u)=_;rw[e1,e2]
end Cut
theorem gEG{α:Type _}{l:List α}{i:Nat}(h:i < l.length):l[i]?=some l[i]:=List.getElem?_eq_getElem h
theorem bAE(a b:Bool):((a && b)=true)=(a=true/\b=true):=Bool.and_eq_true a b
namespace L2
open PySem PySem.Spec PyProof.Rows
abbrev dI(s:Stmt):Arguments:=match s with
 |.FunctionDef _ a _ _ _ _ _ _ _ _=>a
 |_=>{ posonlyargs:=[],args:=[],vararg:=none,kwonlyargs:=[],kw_defaults:=[],kwarg:=none,defaults:=[] }
abbrev bg(s:Stmt):List Stmt:=match s with
 |.FunctionDef _ _ b _ _ _ _ _ _ _=>b
 |_=>[]
abbrev aq(s:Stmt):Scope:=match s with
 |.FunctionDef _ _ _ _ _ _ sc _ _ _=>sc
 |_=>{ kind:=.function,names:=[],isGenerator:=false,isCoroutine:=false }
end L2
namespace Ev
open PySem PySem.Spec PyProof.Rows L2
abbrev fD:List Str:=["len", "isinstance", "all", "any", "tuple", "list", "max", "min", "repr", "range", "enumerate", "int", "bool", "str", "sorted", "zip"]
abbrev bmV:List Value:=[.type "ValueError", .type "Exception", .type "BaseException", .type "object"]
abbrev quN:List Str:=["__init__", "__getattribute__", "__getattr__", "__class__"]
abbrev eU:List Str:=["NoMeadow", "NoSky", "NoLandings", "NoOrder", "NoLot", "NoText", "NoName", "NoGlider", "NoMinute", "NoAim", "TooMany", "Bound", "NoDeed", "NoRow", "NoWay"]
@[inline]abbrev qd:=(Str × Str) × (Arguments × List Stmt) × (Scope × Addr) × (List (Str × Addr) × Value) × (Addr × Option Str)
abbrev GD(h:Heap):Value->Option Str
 | .ref c=>(match h.get? c with
  |some ⟨_,_,.fields vs,_⟩=>(match vs.toList with |_ :: .str n _::_=>some n |_=>none)
  | _=>none)
 |_=>none
abbrev MD(h:Heap):Option Obj->Option qd
 |some ⟨_,_,.func ⟨nm,qn,ps,.stmts b,sc,gl,cl,dv,_,_,_,_,cd,_,bi⟩,_⟩=>some ((nm,qn),(ps,b),(sc,gl),(cl,dv),(bi,GD h cd))
 |_=>none
abbrev sG(h:Heap)(x:Str):Option qd:=match h.nsMap V6 x with
 |some (.ref f)=>MD h (h.get? f)
 |_=>none
abbrev CK(h:Heap)(x:Str):Option Int:=match h.nsMap V6 x with
 |some (.int v _)=>some v
 |_=>none
abbrev adX(h:Heap)(x:Str):Addr:=match h.nsMap V6 x with
 |some (.ref C)=>C
 |_=>0
abbrev CL(h:Heap)(bm:List Value)(x:Str):Bool:=match h.nsMap V6 x with
 | some (.ref C)=>(match h.get? C with
  | some ⟨.type "type", _,.cls cd,sl⟩=>(match cd.mro,sl.toList with
   |.ref C'::bm',[_,_,_,_,some (.builtin n),_]=>C' == C && bm' == bm && n == "ValueError.__new__" && !cd.hasDel && h.isNs cd.ns && quN.all λq=>(h.nsMap cd.ns q).isNone
   | _,_=>false)
  | _=>false)
 |_=>false
abbrev HE(h:Heap)(x:Str):Bool:=match h.nsMap V6 x with
 | some (.ref C)=>(match h.get? C with
  |some ⟨.type "type", _,.cls _,_⟩=>true
  | _=>false)
 |_=>false
abbrev HF:List Nat->Bool
 |[]=>true
 |a::l=>!(l.contains a) && HF l
abbrev yG(h:Heap):Bool:=CL h bmV "RingError" && (eU.take 14).all (CL h (.ref (adX h "RingError")::bmV)) && eU.all (HE h) && HF (adX h "RingError" :: eU.map (adX h)) && (h.nsMap V6 "ValueError").isNone
end Ev
namespace Lw
open PySem
abbrev con:List (Str × Int):=[("LAST_MINUTE", 9999),("MOST_RINGS", 8),("MOST_SINK", 60),("MOST_KINDS", 4),("MOST_GAP", 99),("MOST_SHUTS", 4),("MOST_GLIDERS", 7),("MOST_WEIGHT", 99)]
def nx:List (String × Nat):=[("is_whole", 19),("is_within", 20),("is_minute", 21),("is_tuple", 22),("are_unlike", 23),("is_meadow", 30),("are_gaps", 31),("is_gap_row", 32),("no_glider_between_helps", 33),("are_shuts", 34),("is_stretch", 35),("is_kind", 36),("first_not_shut", 37),("is_sky", 41),("is_ahead", 42),("are_gliders", 43),("is_glider", 44),("are_fixed", 45),("check_sky", 46),("landing_ahead", 48),("gap_end", 49),("waits_at", 50),("how_many_wait", 51),("joining_minutes", 52),("is_too_high", 53),("ring_needed", 54),("soonest", 56),("is_order", 57),("soonest_landings", 58),("soonest_minute", 59),("leaves_too_late", 60),("_law_cell_at", 62),("_law_pot", 63),("_law_take", 64),("_law_whole", 65),("_law_gaps", 66),("_law_meadow", 67),("_law_sky", 68),("_law_open", 69),("_law_waits", 70),("_law_need", 71),("_law_step", 72),("_law_soonest", 73),("_law_shuffled", 74),("_law_order", 75),("_law_word", 76),("_law_told", 77),("_law_is_order", 78),("_law_bent", 79),("law", 80)]
abbrev top(i:Nat):Stmt:=PySem.Challenge.pw_downrings_k32_what_is_no_order.main.body.getD i (.Pass ⟨0,0,0,0⟩)
end Lw
section
open PySem PySem.W PyProof.Rows
noncomputable abbrev Lw.view:Program:={ PySem.Challenge.pw_downrings_k32_what_is_no_order with main:={ PySem.Challenge.pw_downrings_k32_what_is_no_order.main with body:=[Lw.top 80] } }
noncomputable abbrev Lw.loose:List PySem.Str:=(Lw.nx.take 49).map (λx=>.ofString x.1)++Lw.con.map (·.1)++("RingError" : PySem.Str)::Ev.eU
set_option maxHeartbeats 0 in
theorem Lw.said:PySem.Challenge.rw_downrings_k32_what_is_no_order.wellSaid=true:=by kernel_rfl
set_option maxHeartbeats 0 in
theorem Lw.opn:∀w,(fencedOpening Uu PySem.Challenge.rw_downrings_k32_what_is_no_order.row.toRowW.prog w 20000).isSome=true:=λw=>by kernel_rfl
set_option maxHeartbeats 0 in
theorem Lw.partA:Cut.PartA PySem.Challenge.rw_downrings_k32_what_is_no_order.row.toRowW.prog:=λw=>by kernel_rfl
set_option maxHeartbeats 0 in
theorem Lw.partB:Cut.PartB PySem.Challenge.rw_downrings_k32_what_is_no_order.row.toRowW.prog Lw.view Lw.loose (λs=>xlAt Lw.view [] s && recOk (RowW.records PySem.Challenge.rw_downrings_k32_what_is_no_order.row.toRowW) s):=λw=>by kernel_rfl
end
namespace Lw
open PySem
abbrev ob(l:List (String × Nat))(s:Shared):=l.map λx=>Ev.sG s.heap (.ofString x.1)
abbrev vb(l:List (String × Nat)):List (Option Ev.qd):=l.map λx=>let n:=Str.ofString x.1;some ((n,n),(L2.dI (top x.2),L2.bg (top x.2)),(L2.aq (top x.2),V6),([],.none),(VL,some n))
set_option maxHeartbeats 0 in
theorem HG:Cut.PartC PySem.Challenge.rw_downrings_k32_what_is_no_order.row.toRowW.prog (ob (nx.take 33)) (λ_=>vb (nx.take 33)):=λw=>by kernel_rfl
set_option maxHeartbeats 0 in
theorem HH:Cut.PartC PySem.Challenge.rw_downrings_k32_what_is_no_order.row.toRowW.prog (λs=>(s.heap.isNs V6,ob (nx.drop 33) s,con.map (λc=>Ev.CK s.heap c.1),(Ev.fD.map λx=>(s.heap.nsMap V6 x).isNone),Ev.yG s.heap)) (λ_=>(true,vb (nx.drop 33),con.map (λc=>some c.2),(Ev.fD.map λ_=>true),true)):=λw=>by kernel_rfl
end Lw
namespace L2
open PySem PySem.Spec PyProof.Rows
@[inline]abbrev Key:=Sum Int Str
abbrev jL:Key->Value->Bool
 |.inl k,v=>Value.isInt k v
 |.inr x,v=>Value.isStrOf x v
abbrev PN(w:World):Key->Int
 |.inl k=>hashInt k
 |.inr x=>hashStr w x
theorem aZ:∀ {k:Key} {v:Value},jL k v=true->(∃i t,k=Sum.inl i/\v=Value.int i t)\/(∃x t,k=Sum.inr x/\v=Value.str x t)
 |.inl i,v,h=>by
  obtain⟨t,e⟩:=Value.isInt_shape (k:=i) (v:=v) h;exact .inl ⟨i,t,rfl,e⟩
 |.inr x,v,h=>by
  obtain⟨t,e⟩:=Value.isStrOf_shape (x:=x) (v:=v) h;exact .inr ⟨x,t,rfl,e⟩
theorem wR(i:Int)(t:Tok):jL (.inl i) (.int i t)=true:=by simp[jL,Value.isInt]
theorem wU(x:Str)(t:Tok):jL (.inr x) (.str x t)=true:=by simp[jL,Value.isStrOf]
theorem HI(a b:Int):decide ((Sum.inl a:Key)=Sum.inl b)=(a == b):=by
 by_cases e:a=b
 ·subst e;simp
 ·have h:¬ (Sum.inl a:Key)=Sum.inl b:=λq=>e (Sum.inl.inj q);rw[decide_eq_false h];exact(beq_eq_false_iff_ne.mpr e).symm
theorem HJ(a b:Str):decide ((Sum.inr a:Key)=Sum.inr b)=decide (a=b):=by
 by_cases e:a=b
 ·subst e;simp
 ·have h:¬ (Sum.inr a:Key)=Sum.inr b:=λq=>e (Sum.inr.inj q);rw[decide_eq_false h,decide_eq_false e]
theorem HK(a:Int)(b:Str):decide ((Sum.inl a:Key)=Sum.inr b)=false:=decide_eq_false (λq=>nomatch q)
theorem HL(a:Str)(b:Int):decide ((Sum.inr a:Key)=Sum.inl b)=false:=decide_eq_false (λq=>nomatch q)
abbrev bB(prog:Program)(w:World):PySem.KeyKind prog w Key where
 is:=jL
 hash:=PN w
 inj:=λv a b ha hb=>by
  rcases aZ ha with ⟨i,t,rfl,rfl⟩ |⟨x,t,rfl,rfl⟩
  ·rcases aZ hb with ⟨j,u,rfl,e⟩ |⟨y,u,rfl,e⟩
   ·injection e with e1 _;rw[e1]
   ·exact nomatch e
  ·rcases aZ hb with ⟨j,u,rfl,e⟩ |⟨y,u,rfl,e⟩
   ·exact nomatch e
   ·injection e with e1 _;rw[e1]
 byValue:=λk v h=>by
  rcases aZ h with ⟨i,t,rfl,rfl⟩ |⟨x,t,rfl,rfl⟩ <;> rfl
 pyHash:=λhv h=>by
  rcases aZ hv with ⟨i,t,rfl,rfl⟩ |⟨x,t,rfl,rfl⟩
  ·exact wpAny_pyHash_int h
  ·exact wpAny_pyHash_str h
 eqBool:=λhu hv h=>by
  rcases aZ hu with ⟨i,t,rfl,rfl⟩ |⟨x,t,rfl,rfl⟩
  ·rcases aZ hv with ⟨j,u,rfl,rfl⟩ |⟨y,u,rfl,rfl⟩
   ·rw[HI] at h;exact UC h
   ·rw[HK] at h;exact SeqAt.EqAt.int_str i t y u _ _ _ _ h
  ·rcases aZ hv with ⟨j,u,rfl,rfl⟩ |⟨y,u,rfl,rfl⟩
   ·rw[HL] at h;exact SeqAt.EqAt.str_int x t j u _ _ _ _ h
   ·rw[HJ] at h;exact wpAny_eqBool_str h
 «strs»:=λk x t v h=>by
  rcases aZ h with ⟨i,u,rfl,e⟩ |⟨y,u,rfl,e⟩
  ·exact nomatch e
  ·injection e with e1 _;subst e1;cases v <;> rfl
theorem qe(prog:Program)(w:World)(i:Int)(t:Tok):(bB prog w).is (.inl i) (.int i t)=true:=wR i t
theorem qf(prog:Program)(w:World)(x:Str)(t:Tok):(bB prog w).is (.inr x) (.str x t)=true:=wU x t
inductive V where
 |non |bl (b:Bool) |int (i:Int) |str (x:Str) |byt (b:Array UInt8) |flt (b:UInt64) |ref (a:Addr) |ty (n:String)
 deriving DecidableEq
def aI:V->Value->Prop
 |.non,u=>u=Value.none
 |.bl b,u=>u=Value.bool b
 |.int i,u=>∃t,u=Value.int i t
 |.str x,u=>∃t,u=Value.str x t
 |.byt b,u=>∃t,u=Value.bytes b t
 |.flt b,u=>∃t,u=Value.float b t
 |.ref a,u=>u=Value.ref a
 |.ty n,u=>u=Value.type n
@[inline]abbrev aO:List V->List Value->Prop:=Paired aI
theorem aO.length{xs:List V}{us:List Value}(r:aO xs us):xs.length=us.length:=Paired.length r
theorem aO.get:∀ {xs:List V} {us:List Value} {i:Nat} {x:V},aO xs us->xs[i]?=some x->∃u,us[i]?=some u/\aI x u
 |_,_,_,_,.nil,e=>by simp at e
 |_,_,0,_,.cons r _,e=>by simp at e;subst e;exact⟨_,rfl,r⟩
 |_,_,i+1,x,.cons _ t,e=>by
  obtain⟨u,h1,h2⟩:=aO.get (i:=i) (x:=x) t (by simpa using e);exact⟨u,by simpa using h1,h2⟩
theorem aO.set{x:V}{u:Value}(r:aI x u):∀ {xs:List V} {us:List Value} (i:Nat),aO xs us->aO (xs.set i x) (us.set i u)
 |_,_,_,.nil=>.nil
 |_,_,0,.cons _ t=>.cons r t
 |_,_,i+1,.cons q t=>.cons q (aO.set r i t)
theorem aO.append:∀ {xs ys:List V} {us ws:List Value},aO xs us->aO ys ws->aO (xs++ys) (us++ws)
 |_,_,_,_,.nil,s=>s
 |_,_,_,_,.cons r t,s=>.cons r (aO.append t s)
theorem aO.take:∀ {xs:List V} {us:List Value} (n:Nat),aO xs us->aO (xs.take n) (us.take n)
 |_,_,0,_=>.nil
 |_,_,_+1,.nil=>.nil
 |_,_,n+1,.cons r t=>.cons r (aO.take n t)
theorem aO.drop:∀ {xs:List V} {us:List Value} (n:Nat),aO xs us->aO (xs.drop n) (us.drop n)
 |_,_,0,r=>r
 |_,_,_+1,.nil=>.nil
 |_,_,n+1,.cons _ t=>aO.drop n t
def HM:Option V->Option Value->Prop
 |some v,some u=>aI v u
 |none,none=>True
 |_,_=>False
def KV{κ:Type}:List (κ × V)->List (κ × Value)->Prop:=Paired λ(p:κ × V) (q:κ × Value)=>p.1=q.1/\aI p.2 q.2
abbrev kV:Key->V
 |.inl i=>.int i
 |.inr x=>.str x
def oq(h:Heap)(a:Addr)(items:Array Value):Prop:=∃o,h.get? a=some o/\o.cls = .type "tuple"/\∃n,o.data = .seq items n/\o.dict=none
theorem oq.isTup(x:oq h a items):IsTup h a items:=let ⟨o,e,c,n,d,_⟩:=x;⟨o,e,c,n,d⟩
theorem oq.lt(x:oq h a items):a < h.objs.size:=x.isTup.lt
theorem oq.new(h:Heap)(items:Array Value):oq (h.push { cls:=.type "tuple", data:=.seq items }) h.objs.size items:=⟨_,Zy _ rfl,rfl,_,rfl,rfl⟩
inductive HO where
  |lst (xs:List V)
  |tup (xs:List V)
  |dK (kvs:List (Key × V)) |dT (kvs:List (List Key × V))
  |set (S:Int->Bool) (n:Nat)
  |ins (C dx:Addr) (fs:List (Str × V))
  |own (x:Addr)
  |xd (fs:List (Str × V))
  |met (f x:Addr)
  |rng (lo hi:Int)
  |frz (o:Obj) (u:HO)
  |tbl (ps:Array Value)
  |ext (φ:Heap->Prop)
@[inline]abbrev Hp:=Addr->Option HO
abbrev upd(H:Hp)(a:Addr)(o:HO):Hp:=λb=>if b=a then some o else H b
theorem aV{H:Hp}{a:Addr}{o:HO}:upd H a o a=some o:=by unfold upd;rw[if_pos rfl]
theorem az{H:Hp}{a b:Addr}{o:HO}(h:b ≠ a):upd H a o b=H b:=by unfold upd;rw[if_neg h]
theorem uS:upd (upd H a o) a u=upd H a u:=by
 funext b;unfold upd;split <;> rfl
theorem aU{H:Hp}{a b:Addr}{o:HO}(h:H a=some o)(h':H b=none):a ≠ b:=by
 intro e;subst e;rw[h] at h';cases h'
section
variable (P:Program) (w:World)
def bp(H:Hp)(h:Heap)(a:Addr):HO->Prop
 |.lst xs=>xs.length<=sizeLine/\∃ (its:List Value) (n:Nat),aO xs its/\h.get? a=some { cls:=.type "list", data:=.seq its.toArray n }
 |.tup xs=>xs.length<=sizeLine/\∃its:List Value,aO xs its/\oq h a its.toArray
 |.dK kvs=>kvs.length<=sizeLine/\(a == Us)=false/\∃vs,KV kvs vs/\h.DictOf (bB P w) a vs
 |.dT kvs=>kvs.length<=sizeLine/\(a == Us)=false/\∃xs:List (List Key × Addr × Value),
   Paired (λ(p:List Key × V) (q:List Key × Addr × Value)=>p.1=q.1/\H q.2.1=some (.tup (p.1.map kV))/\aI p.2 q.2.2) kvs xs ∧
   ∃o es ep,h.get? a=some o/\o.ExactDict/\o.data = .dict es ep/\es.toList=xs.map (entryOfKey (tupleKind (bB P w)))/\(xs.map (·.1)).Nodup
 |.set S n=>h.SetOf (intKind P w) a S n
 |.ins C dx fs=>H dx=some (.own a)/\fs.length<=1000/\dx ≠ a/\h.get? a=some (Vo C dx) ∧
   ∃mA,h.Ns1 dx mA/\(∀f,HM (fs.lookup f) (mA f))/\PySem.Within mA (fs.map (·.1))
 |.own _=>∃o,h.get? a=some o
 |.xd fs=>∃mA,h.Ns1 a mA/\∀f,HM (fs.lookup f) (mA f)
 |.rng lo hi=>∃t u v,h.get? a=some { cls:=.type "range", data:=.fields #[.int lo t,.int hi u,.int 1 v] }
 |.frz o u=>h.get? a=some o/\bp H h a u
 |.tbl ps=>h.get? a=some { cls:=.none,data:=.fields ps }
 |.met f x=>h.get? a=some (Vx (.ref f) (.ref x))
 |.ext φ=>φ h/\(∃o,h.get? a=some o)/\∀h1 h2:Heap,φ h1->(∀o,h1.get? a=some o->h2.get? a=some o)->φ h2
def HOk(H:Hp)(h:Heap):Prop:=∀a o,H a=some o->bp P w H h a o
end
section
variable {P:Program} {w:World} {H H':Hp} {h h':Heap} {a:Addr} {o:HO}
theorem bp.lt(x:bp P w H h a o):a < h.objs.size:=by
 cases o with
 |lst xs=>obtain⟨_,_,_,_,e⟩:=x;exact Zq e
 |tup xs=>obtain⟨_,_,_,p⟩:=x;exact p.lt
 |dK kvs=>obtain⟨_,_,_,_,o,_,_,e,_⟩:=x;exact Zq e
 |dT kvs=>obtain⟨_,_,_,_,o,_,_,e,_⟩:=x;exact Zq e
 |set S n=>obtain⟨o,_,_,_,e,_⟩:=x;exact Zq e
 |ins C dx fs=>obtain⟨_,_,_,e,_⟩:=x;exact Zq e
 |own y=>obtain⟨_,e⟩:=x;exact Zq e
 |xd fs=>obtain⟨_,⟨_,_,_,e,_⟩,_⟩:=x;exact Zq e
 |rng lo hi=>obtain⟨_,_,_,e⟩:=x;exact Zq e
 |frz ob u=>obtain⟨e,_⟩:=x;exact Zq e
 |tbl ps=>exact Zq (show h.get? a=some _ from x)
 |met f y=>exact Zq (show h.get? a=some _ from x)
 |ext φ=>obtain⟨_,⟨_,e⟩,_⟩:=x;exact Zq e
theorem Paired.mapP{α β:Type}{F G:α->β->Prop}:∀ {l₁:List α} {l₂:List β},Paired F l₁ l₂->(∀a b,F a b->G a b)->Paired G l₁ l₂
 |_,_,.nil,_=>.nil
 |_,_,.cons r t,f=>.cons (f _ _ r) (Paired.mapP t f)
theorem bp.stay(x:bp P w H h a o)(k:∀b u,(b=a\/H b=some (.own a))->h.get? b=some u->h'.get? b=some u)
  (ho:∀b,H b=some (.own a)->H' b=some (.own a)) (ht:∀b xs,H b=some (.tup xs)->H' b=some (.tup xs)):bp P w H' h' a o:=by
 induction o with
 |lst xs=>obtain⟨z,its,n,r,e⟩:=x;exact⟨z,its,n,r,k _ _ (.inl rfl) e⟩
 |tup xs=>obtain⟨z,its,r,ob,e,c⟩:=x;exact⟨z,its,r,ob,k _ _ (.inl rfl) e,c⟩
 |dK kvs=>obtain⟨z,y,vs,r,ob,es,ep,e,c⟩:=x;exact⟨z,y,vs,r,ob,es,ep,k _ _ (.inl rfl) e,c⟩
 |dT kvs=>
  obtain⟨z,y,xs,r,ob,es,ep,e,c⟩:=x;exact⟨z,y,xs,Paired.mapP r λp q z=>⟨z.1,ht _ _ z.2.1,z.2.2⟩,ob,es,ep,k _ _ (.inl rfl) e,c⟩
 |set S n=>obtain⟨ob,es,ep,t,e,c⟩:=x;exact⟨ob,es,ep,t,k _ _ (.inl rfl) e,c⟩
 |ins C dx fs=>
  obtain⟨d,z,ne,e,mA,⟨od,es,ep,e2,c⟩,r⟩:=x;exact⟨ho _ d,z,ne,k _ _ (.inl rfl) e,mA,⟨od,es,ep,k _ _ (.inr d) e2,c⟩,r⟩
 |own y=>obtain⟨ob,e⟩:=x;exact⟨ob,k _ _ (.inl rfl) e⟩
 |xd fs=>obtain⟨mA,⟨od,es,ep,e,c⟩,r⟩:=x;exact⟨mA,⟨od,es,ep,k _ _ (.inl rfl) e,c⟩,r⟩
 |rng lo hi=>obtain⟨t,u,v,e⟩:=x;exact⟨t,u,v,k _ _ (.inl rfl) e⟩
 |frz ob u ih=>obtain⟨e,q⟩:=x;exact⟨k _ _ (.inl rfl) e,ih q⟩
 |tbl ps=>
  have e:h.get? a=some { cls:=.none,data:=.fields ps }:=x;show h'.get? a=some { cls:=.none,data:=.fields ps };exact k a _ (.inl rfl) e
 |met f y=>
  have e:h.get? a=some (Vx (.ref f) (.ref y)):=x;show h'.get? a=some (Vx (.ref f) (.ref y));exact k a _ (.inl rfl) e
 |ext φ=>obtain⟨p,⟨o,e⟩,st⟩:=x;exact⟨st _ _ p λo q=>k _ _ (.inl rfl) q,⟨o,k _ _ (.inl rfl) e⟩,st⟩
theorem HOk.lt(x:HOk P w H h)(e:H a=some o):a < h.objs.size:=(x a o e).lt
theorem HOk.fresh(x:HOk P w H h)(e:h.objs.size<=a):H a=none:=by
 cases q:H a with
 |none=>rfl
 |some u=>exact absurd (Zv (x.lt q) e) (ZN _)
theorem HOk.kept(x:HOk P w H h)(k:∀b u,h.get? b=some u->h'.get? b=some u):HOk P w H h':=λa o e=>
 (x a o e).stay (λb u _ q=>k b u q) (λ_ q=>q) λ_ _ q=>q
theorem HOk.laid(x:HOk P w H h)(k:∀b u,h.get? b=some u->h'.get? b=some u)(hp:h.objs.size<=a)(new:bp P w (upd H a o) h' a o):HOk P w (upd H a o) h':=λb u e=>by
 have hn:=x.fresh hp;by_cases hb:b=a
 ·subst hb;rw[aV] at e;cases e;exact new
 ·rw[az hb] at e;exact(x b u e).stay (λc v _ q=>k c v q) (λc q=>by rw[az (aU q hn)];exact q) λc xs q=>by rw[az (aU q hn)];exact q
end
def Rd(H:Hp)(a:Addr)(u:HO):Prop:=H a=some u\/∃o,H a=some (.frz o u)
theorem Rd.ok{P:Program}{w:World}{H:Hp}{h:Heap}{a:Addr}{u:HO}(r:Rd H a u)(x:HOk P w H h):bp P w H h a u:=by
 rcases r with r |⟨o,r⟩
 ·exact x a u r
 ·obtain⟨_,q⟩:=x a _ r;exact q
def Mut:Option HO->Prop
 |some (.lst _)=>True
 |some (.dK _)=>True
 |some (.dT _)=>True
 |some (.set _ _)=>True
 |some (.ins _ _ _)=>True
 |some (.ext _)=>True
 |_=>False
section
variable {P:Program} {w:World} {H:Hp} {h h':Heap} {x e:Addr} {o':HO}
theorem HOk.write(ok:HOk P w H h)(mu:Mut (H x))(he:e=x\/H e=some (.own x))(k:∀b u,b ≠ e->h.get? b=some u->h'.get? b=some u)(heo:∃u,h'.get? e=some u)
  (new:bp P w (upd H x o') h' x o'):HOk P w (upd H x o') h':=λb u q=>by
 have nown:∀c y,H c=some (.own y)->c ≠ x:=λc y r z=>by subst z;rw[r] at mu;exact mu
 have ntup:∀c xs,H c=some (.tup xs)->c ≠ x:=λc xs r z=>by subst z;rw[r] at mu;exact mu
 by_cases hb:b=x
 ·subst hb;rw[aV] at q;cases q;exact new
 ·rw[az hb] at q;by_cases hbe:b=e
  ·have q':H b=some (.own x):=by
    rcases he with z |z
    ·exact absurd (hbe.trans z) hb
    ·rw[hbe];exact z
   rw[q] at q';cases q';obtain⟨v,hv⟩:=heo;exact⟨v,by rw[hbe];exact hv⟩
  ·refine(ok b u q).stay (λc v hc r=>k c v ?_ r) (λc r=>by rw[az (nown c b r)];exact r) λc xs r=>by rw[az (ntup c xs r)];exact r
   rcases hc with rfl |hc
   ·exact hbe
   ·rintro rfl;rcases he with z |z
    ·exact nown c b hc z
    ·rw[hc] at z;cases z;exact hb rfl
end
structure Un(fs ex:List Addr)(H H':Hp)(h h':Heap):Prop where
 keep:∀b o,h.get? b=some o->H b=none->b ∉ fs->b ∉ ex->h'.get? b=some o
 slot:∀b o,h.get? b=some o->H b=none->b ∈ fs->b ∉ ex->∃sl,h'.get? b=some { o with slots:=sl }
 free:∀b o,h.get? b=some o->H b=none->b ∉ ex->H' b=none
 there:∀b o,h.get? b=some o->b ∉ ex->∃o',h'.get? b=some o'
 tups:∀b xs,H b=some (.tup xs)->H' b=some (.tup xs)
 frzs:∀b o u,H b=some (.frz o u)->H' b=some (.frz o u)
 tbls:∀b ps,H b=some (.tbl ps)->∃more,H' b=some (.tbl (ps++more))
section
variable {fs fs' ex ex':List Addr} {H H1 H2:Hp} {h h1 h2 h':Heap} {a x e:Addr} {o:HO}
theorem Un.any(u:Un fs ex H H1 h h1){b:Addr}{ob:Obj}(q:h.get? b=some ob)(n:H b=none)(hx:b ∉ ex):∃sl,h1.get? b=some { ob with slots:=sl }:=by
 by_cases hb:b ∈ fs
 ·exact u.slot b ob q n hb hx
 ·exact⟨ob.slots,u.keep b ob q n hb hx⟩
theorem Un.kept(k:∀b u,h.get? b=some u->h'.get? b=some u):Un fs ex H H h h':=
 ⟨λb ob q _ _ _=>k b ob q,λb ob q _ _ _=>⟨ob.slots,k b ob q⟩,λ_ _ _ n _=>n,λb ob q _=>⟨ob,k b ob q⟩,λ_ _ q=>q,λ_ _ _ q=>q,λ_ ps q=>⟨#[],by rw[q];simp⟩⟩
theorem Un.refl:Un fs ex H H h h:=Un.kept λ_ _ q=>q
theorem Un.laid(k:∀b u,h.get? b=some u->h'.get? b=some u)(hp:h.objs.size<=a)(hn:H a=none):Un fs ex H (upd H a o) h h' where
 keep:=λb u q _ _ _=>k b u q
 slot:=λb u q _ _ _=>⟨u.slots,k b u q⟩
 free:=λb u q n _=>by rw[az (ZF (Zv (Zq q) hp))];exact n
 there:=λb u q _=>⟨u,k b u q⟩
 tups:=λb xs q=>by rw[az (aU q hn)];exact q
 frzs:=λb u xs q=>by rw[az (aU q hn)];exact q
 tbls:=λb ps q=>⟨#[],by rw[az (aU q hn),q];simp⟩
theorem Un.write(mu:Mut (H x))(he:e=x\/H e=some (.own x))(k:∀b u,b ≠ e->h.get? b=some u->h'.get? b=some u)(heo:∃u,h'.get? e=some u):Un fs ex H (upd H x o) h h':=by
 have hx:∀b,H b=none->b ≠ x:=λb n z=>by subst z;rw[n] at mu;exact mu
 have hb:∀b,H b=none->b ≠ e:=λb n z=>by
  subst z;rcases he with r |r
  ·exact hx b n r
  ·rw[n] at r;cases r
 have hm:∀b u,H b=some u->¬ Mut (some u)->b ≠ x:=λb u q nm z=>by subst z;rw[q] at mu;exact nm mu
 refine⟨λb u q n _ _=>k b u (hb b n) q,λb u q n _ _=>⟨u.slots,k b u (hb b n) q⟩,λb u q n _=>by rw[az (hx b n)];exact n,λb u q _=>?_,
  λb xs q=>by rw[az (hm b _ q λz=>z)];exact q,λb u xs q=>by rw[az (hm b _ q λz=>z)];exact q,λb ps q=>⟨#[],by rw[az (hm b _ q λz=>z),q];simp⟩⟩
 by_cases hbe:b=e
 ·subst hbe;exact heo
 ·exact⟨u,k b u hbe q⟩
end
abbrev trk(h:Heap)(H:Hp):List Addr:=(Zk h.objs.size).filter λa=>(H a).isSome
abbrev ot(h:Heap)(H:Hp):Heap:=PySem.W.hideAll h (trk h H)
theorem wW(h:Heap)(H:Hp):(ot h H).objs.size=h.objs.size:=PySem.W.hideAll_size _ _
theorem yH(e:h.get? b=some o)(n:H b=none):(ot h H).get? b=some o:=
 Vn _ e λhm=>by
  have q:(H b).isSome=true:=(Yb.mp hm).2;rw[n] at q;simp at q
theorem CM(e:(ot h H).get? b=some o):h.get? b=some o/\H b=none:=by
 have e':h.get? b=some o:=Vz (trk h H) e;refine⟨e',?_⟩;cases q:H b with
 |none=>rfl
 |some x=>
  have hm:b ∈ trk h H:=Yb.mpr ⟨ZR.mpr (Zq e'),by simp[q]⟩;have z:(ot h H).get? b=none:=PySem.W.hideAll_none (trk h H) hm;rw[z] at e;cases e
structure Mod(K:Vf)(mg:Str->Option Value)(base:Heap):Prop where
 kin:K.In base
 glob:base.Ns V6 mg
 blt:∃mb,base.Ns VL mb/\∀x:Str,x ≠ "__name__"->mb x=VJ x
 nolimit:base.NoLimit
structure Cx where
 prog:Program
 w:World
 K:Vf
 mg:Str->Option Value
 base:Heap
 A:Around
 N:List Str
 s₀:Shared
 H₀:Hp
 env:Env
 outer:List Env
 stack:List Env
 ex:List Addr
 fn:Str->Bool
 calm:Bool
 pn:List (Addr × Obj)
 xe:Value->Shared->Prop
abbrev frs(l:List Env):List Addr:=l.filterMap (·.frame)
noncomputable abbrev Cx.fs(X:Cx):List Addr:=frs X.outer
def Vis(sc:Scope)(x:Str):Prop:=sc.names.lookup x=some .local\/sc.names.lookup x=some .cell\/sc.names.lookup x=some .free
def Loc(sc:Scope)(x:Str):Prop:=sc.names.lookup x=some .local\/sc.names.lookup x=some .cell
def PP(env:Env)(h:Heap)(m:Str->Option Value)(x:Str)(u:Value):Prop:=
 (env.kindOf x=some .local/\m x=some u)\/((env.kindOf x=some .cell\/env.kindOf x=some .free)/\∃c,env.cells.lookup x=some c/\h.IsCell c (some u))
structure Cx.Ok(X:Cx):Prop where
 mod:Mod X.K X.mg X.base
 kind:X.env.scope.kind = .function
 glob:X.env.globals=V6
 blt:X.env.builtins=VL
 above:X.s₀.heap.objs.size<=X.env.locals
 inj:∀x y c,X.env.cells.lookup x=some c->X.env.cells.lookup y=some c->x=y
 has:∀x,(X.env.kindOf x=some .cell\/X.env.kindOf x=some .free)->∃c,X.env.cells.lookup x=some c
 cab:∀x c,X.fn x=true->X.env.cells.lookup x=some c->X.s₀.heap.objs.size<=c
 hd:X.calm=true->X.A.handled=none
 frames:X.A.frames=some X.stack
 stk:X.stack=X.outer\/(X.stack=X.env::X.outer/\X.env.frame=some X.env.locals)
 exf:∀b ∈ X.ex,b ≠ X.env.locals/\∀x c,X.env.cells.lookup x=some c->c ≠ b
 bs:∀b o,X.base.get? b=some o->X.s₀.heap.get? b=some o/\X.H₀ b=none
 bsz:X.base.objs.size<=X.s₀.heap.objs.size
 noex:∀b o,X.base.get? b=some o->b ∉ X.ex
 exfs:∀b ∈ X.ex,b ∉ X.fs
 funs:X.s₀.heap.FunFrames X.base X.outer
 frf:∀b ∈ X.fs,X.H₀ b=none
structure Inv(X:Cx)(pins:List (Addr × Obj))(σ:List (Option V))(H:Hp)(s:Shared):Prop where
 ok:X.Ok
 os:s.os=X.s₀.os
 bare:AllBare s.gens
 base:Un X.fs X.ex X.H₀ H X.s₀.heap s.heap
 loc:∃m,s.heap.Ns X.env.locals m/\∀ (i:Nat) (x:Str) (v:V),X.N[i]?=some x->σ[i]?=some (some v)->Vis X.env.scope x->∃u,aI v u/\PP X.env s.heap m x u
 cell:∀x c,X.env.cells.lookup x=some c->∃v,s.heap.IsCell c v
 free:H X.env.locals=none
 freeC:∀x c,X.env.cells.lookup x=some c->H c=none
 pin:∀p ∈ X.pn++pins,s.heap.get? p.1=some p.2/\H p.1=none/\p.1 ≠ X.env.locals/\p.1 ∉ X.fs/\∀v,p.2.data ≠ .cell v
 hok:HOk X.prog X.w H s.heap
 len:σ.length=X.N.length
section
variable {X:Cx} {pins:List (Addr × Obj)} {σ:List (Option V)} {H H':Hp} {s:Shared} {h':Heap}
theorem Cx.Ok.nofr(ok:X.Ok)(e:X.base.get? b=some o):b ∉ X.fs:=λhb=>by
 have:=(ok.funs.mem hb).1;rw[e] at this;cases this
theorem Inv.bs(I:Inv X pins σ H s):∀b o,X.base.get? b=some o->s.heap.get? b=some o/\H b=none:=λb o e=>
 ⟨I.base.keep b o (I.ok.bs b o e).1 (I.ok.bs b o e).2 (I.ok.nofr e) (I.ok.noex b o e),I.base.free b o (I.ok.bs b o e).1 (I.ok.bs b o e).2 (I.ok.noex b o e)⟩
theorem Inv.bk(I:Inv X pins σ H s):∀b o,X.base.get? b=some o->s.heap.get? b=some o:=λb o e=>(I.bs b o e).1
theorem Inv.mod(I:Inv X pins σ H s):Mod X.K X.mg X.base:=I.ok.mod
theorem Inv.kIn(I:Inv X pins σ H s):X.K.In s.heap:=I.ok.mod.kin.keeps I.bk
theorem Inv.lt(I:Inv X pins σ H s):X.env.locals < s.heap.objs.size:=let ⟨_,hn,_⟩:=I.loc;hn.lt
theorem Inv.sz(I:Inv X pins σ H s):X.s₀.heap.objs.size<=s.heap.objs.size:=Zw I.ok.above (YG I.lt)
theorem Inv.nofs(I:Inv X pins σ H s)(h:s.heap.objs.size<=a):a ∉ X.fs:=λhb=>by
 obtain⟨_,o,ho,_⟩:=I.ok.funs.mem hb;exact absurd (Zv (Zq ho) (Zw I.sz h)) (ZN _)
theorem Inv.cne(I:Inv X pins σ H s):∀x c,X.env.cells.lookup x=some c->c ≠ X.env.locals:=λx c e z=>by
 obtain⟨v,o,ho,hd⟩:=I.cell x c e;obtain⟨m,⟨o',es,ep,ho',hd',_⟩,_⟩:=I.loc;rw[z,ho'] at ho;cases ho;rw[hd'] at hd;cases hd
theorem Inv.funs(I:Inv X pins σ H s):s.heap.FunFrames X.base X.outer:=by
 have all:∀ (l:List Env),(∀b ∈ frs l,b ∈ X.fs)->X.s₀.heap.FunFrames X.base l->s.heap.FunFrames X.base l:=by
  intro l
  induction l with
  |nil=>intro _ _;trivial
  |cons env r ih=>
   intro hs hl;obtain⟨hk,⟨L,o,hf,hn,ho,hd⟩,hr⟩:=hl;have hL:L ∈ X.fs:=hs L (by unfold frs;rw[YR,hf];exact Zh);obtain⟨sl,e⟩:=I.base.slot L o ho (I.ok.frf L hL) hL λz=>I.ok.exfs L z hL;exact⟨hk,⟨L,_,hf,hn,e,hd⟩,ih (λb hb=>hs b (by unfold frs;rw[YR,hf];exact Ze _ hb)) hr⟩
 exact all X.outer (λ_ hb=>hb) I.ok.funs
theorem Inv.stack(I:Inv X pins σ H s):s.heap.FunFrames X.base X.stack:=by
 rcases I.ok.stk with e |⟨e,hf⟩
 ·rw[e];exact I.funs
 ·rw[e];obtain⟨m,hn,_⟩:=I.loc;refine .cons (by rw[I.ok.kind];decide) hf hn ?_ I.funs;exact Heap.get?_none_of_le (Zw I.ok.bsz I.ok.above)
theorem Inv.stkSub(I:Inv X pins σ H s):∀b ∈ frs X.stack,b ∈ X.env.locals::X.fs:=λb hb=>by
 rcases I.ok.stk with e |⟨e,hf⟩
 ·rw[e] at hb;exact Ze _ hb
 ·rw[e] at hb;unfold frs at hb;rw[YR,hf] at hb;exact hb
theorem Inv.stkFree(I:Inv X pins σ H s):∀b ∈ frs X.stack,H b=none:=λb hb=>by
 rcases Zm.mp (I.stkSub b hb) with e |hb
 ·rw[e];exact I.free
 ·obtain⟨_,o,ho,_⟩:=I.ok.funs.mem hb;exact I.base.free b o ho (I.ok.frf b hb) λz=>I.ok.exfs b z hb
theorem Inv.step{g':Array WR}{t':Nat}{d':Drawn}{ch:List Addr}(I:Inv X pins σ H s)
  (hch:∀b ∈ ch,(b ∈ X.ex\/X.s₀.heap.objs.size<=b)/\b ≠ X.env.locals/\(∀x c,X.env.cells.lookup x=some c->c ≠ b)/\∀p ∈ X.pn++pins,p.1 ≠ b)
  (keep:∀b o,b ≠ X.env.locals->b ∉ X.fs->b ∉ ch->s.heap.get? b=some o->H b=none->h'.get? b=some o)
  (slot:∀b o,b ≠ X.env.locals->b ∈ X.fs->b ∉ ch->s.heap.get? b=some o->H b=none->∃sl,h'.get? b=some { o with slots:=sl }) (free:∀b o,b ∉ ch->s.heap.get? b=some o->H b=none->H' b=none)
  (there:∀b o,b ∉ ch->s.heap.get? b=some o->∃o',h'.get? b=some o')
  (tups:∀b xs,H b=some (.tup xs)->H' b=some (.tup xs)) (frzs:∀b o u,H b=some (.frz o u)->H' b=some (.frz o u)) (tbls:∀b ps,H b=some (.tbl ps)->∃more,H' b=some (.tbl (ps++more)))
  (ns:∀m,s.heap.Ns X.env.locals m->h'.Ns X.env.locals m) (hok:HOk X.prog X.w H' h') (hg:AllBare g') :
  Inv X pins σ H' { s with heap:=h',gens:=g',drawn:=d',toks:=t' }:=by
 have neL:∀b o,X.s₀.heap.get? b=some o->b ≠ X.env.locals:=λb o e=>ZF (Zv (Zq e) I.ok.above)
 have neC:∀b o,X.s₀.heap.get? b=some o->b ∉ X.ex->b ∉ ch:=λb o e hx hb=>by
  rcases (hch b hb).1 with z |z
  ·exact hx z
  ·exact absurd (Zv (Zq e) z) (ZN _)
 have cellK:∀x c,X.env.cells.lookup x=some c->∀v,s.heap.IsCell c v->h'.IsCell c v:=λx c e v ⟨o,ho,hd⟩=>by
  have nch:c ∉ ch:=λz=>(hch c z).2.2.1 x c e rfl;by_cases hc:c ∈ X.fs
  ·obtain⟨sl,q⟩:=slot c o (I.cne x c e) hc nch ho (I.freeC x c e);exact⟨_,q,hd⟩
  ·exact⟨o,keep c o (I.cne x c e) hc nch ho (I.freeC x c e),hd⟩
 refine⟨I.ok,I.os,hg,⟨λb o e n hb hx=>?_,λb o e n hb hx=>?_,λb o e n hx=>?_,λb o e hx=>?_,λb xs e=>tups b xs (I.base.tups b xs e),λb o xs e=>frzs b o xs (I.base.frzs b o xs e),λb ps e=>?_⟩,?_,λx c e=>?_,?_,λx c e=>?_,λp hp=>?_,hok,I.len⟩
 ·exact keep b o (neL b o e) hb (neC b o e hx) (I.base.keep b o e n hb hx) (I.base.free b o e n hx)
 ·obtain⟨sl,e1⟩:=I.base.slot b o e n hb hx;obtain⟨sl',e2⟩:=slot b _ (neL b o e) hb (neC b o e hx) e1 (I.base.free b o e n hx);exact⟨sl',e2⟩
 ·obtain⟨o',e1⟩:=I.base.there b o e hx;exact free b o' (neC b o e hx) e1 (I.base.free b o e n hx)
 ·obtain⟨o',e1⟩:=I.base.there b o e hx;exact there b o' (neC b o e hx) e1
 ·obtain⟨m1,e1⟩:=I.base.tbls b ps e;obtain⟨m2,e2⟩:=tbls b _ e1;exact⟨m1++m2,by rw[e2,XD]⟩
 ·obtain⟨m,hn,hl⟩:=I.loc;refine⟨m,ns m hn,λi x v e1 e2 e3=>?_⟩;obtain⟨u,r,l⟩:=hl i x v e1 e2 e3;refine⟨u,r,?_⟩;rcases l with l |⟨k,c,e,z⟩
  ·exact .inl l
  ·exact .inr ⟨k,c,e,cellK x c e _ z⟩
 ·obtain⟨v,z⟩:=I.cell x c e;exact⟨v,cellK x c e v z⟩
 ·obtain⟨m,⟨o,_,_,ho,_⟩,_⟩:=I.loc;exact free _ o (λz=>(hch _ z).2.1 rfl) ho I.free
 ·obtain⟨v,o,ho,hd⟩:=I.cell x c e;exact free c o (λz=>(hch c z).2.2.1 x c e rfl) ho (I.freeC x c e)
 ·obtain⟨e,n,ne,nf,d⟩:=I.pin p hp;have nch:p.1 ∉ ch:=λz=>(hch p.1 z).2.2.2 p hp rfl;exact⟨keep p.1 p.2 ne nf nch e n,free p.1 p.2 nch e n,ne,nf,d⟩
theorem Inv.un{t':Nat}(I:Inv X pins σ H s)(u:Un X.fs [] H H' s.heap h')(hok:HOk X.prog X.w H' h'):Inv X pins σ H' { s with heap:=h',toks:=t' }:=by
 obtain⟨m,⟨o,es,ep,ho,r⟩,_⟩:=id I.loc;obtain⟨sl,hL⟩:=u.any ho I.free (by simp)
 exact I.step (g':=s.gens) (d':=s.drawn) (ch:=[]) (λ_ z=>nomatch z) (λb o _ hb _ e n=>u.keep b o e n hb (by simp)) (λb o _ hb _ e n=>u.slot b o e n hb (by simp)) (λb o _ e n=>u.free b o e n (by simp)) (λb o _ e=>u.there b o e (by simp)) u.tups u.frzs u.tbls (λm' hm=>by
  obtain⟨o',es',ep',ho',r'⟩:=hm;rw[ho] at ho';cases ho';exact⟨_,es',ep',hL,r'⟩) hok I.bare
theorem Inv.call{g':Array WR}{t':Nat}{d':Drawn}{ch:List Addr}(I:Inv X pins σ H s)(u:Un (frs X.stack) ch H H' s.heap h')(hok:HOk X.prog X.w H' h')(hg:AllBare g')
  (hch:∀b ∈ ch,(b ∈ X.ex\/X.s₀.heap.objs.size<=b)/\b ≠ X.env.locals/\(∀x c,X.env.cells.lookup x=some c->c ≠ b)/\∀p ∈ X.pn++pins,p.1 ≠ b) :
  Inv X pins σ H' { s with heap:=h',gens:=g',drawn:=d',toks:=t' }:=by
 obtain⟨m,⟨o,es,ep,ho,r⟩,_⟩:=id I.loc;obtain⟨sl,hL⟩:=u.any ho I.free λz=>(hch _ z).2.1 rfl
 exact I.step (ch:=ch) hch (λb o hL hb hc e n=>u.keep b o e n (λz=>(Zm.mp (I.stkSub b z)).elim hL hb) hc) (λb o _ _ hc e n=>u.any e n hc) (λb o hc e n=>u.free b o e n hc) (λb o hc e=>u.there b o e hc) u.tups u.frzs u.tbls (λm' hm=>by
  obtain⟨o',es',ep',ho',r'⟩:=hm;rw[ho] at ho';cases ho';exact⟨_,es',ep',hL,r'⟩) hok hg
theorem Inv.turned{t':Nat}{it:Addr}(I:Inv X pins σ H s)(k:∀b o,b ≠ it->s.heap.get? b=some o->h'.get? b=some o)(hn:H it=none)(hL:it ≠ X.env.locals)
  (h1:it ∈ X.ex\/X.s₀.heap.objs.size<=it) (h2:∀x c,X.env.cells.lookup x=some c->c ≠ it) (h3:∀p ∈ X.pn++pins,p.1 ≠ it):Inv X pins σ H { s with heap:=h',toks:=t' }:=by
 have nit:∀b u,H b=some u->b ≠ it:=λb u e z=>by rw[z,hn] at e;cases e
 refine I.step (g':=s.gens) (d':=s.drawn) (ch:=[it]) (λb hb=>?_) (λb o _ _ hc e _=>k b o (λz=>hc (by simp[z])) e) (λb o _ _ hc e _=>⟨o.slots,k b o (λz=>hc (by simp[z])) e⟩) (λ_ _ _ _ n=>n)
  (λb o hc e=>⟨o,k b o (λz=>hc (by simp[z])) e⟩) (λ_ _ e=>e) (λ_ _ _ e=>e) (λb ps e=>⟨#[],by rw[e];simp⟩) (λm hm=>?_) (λb u e=>?_) I.bare
 ·have e:b=it:=by simpa using hb
  subst e;exact⟨h1,hL,h2,h3⟩
 ·obtain⟨o,es,ep,ho,r⟩:=hm;exact⟨o,es,ep,k _ o (Ne.symm hL) ho,r⟩
 ·refine(I.hok b u e).stay (λc v hc q=>k c v ?_ q) (λ_ q=>q) λ_ _ q=>q;rcases hc with z |z
  ·rw[z];exact nit b u e
  ·exact nit c _ z
theorem Inv.tok(I:Inv X pins σ H s)(t:Nat):Inv X pins σ H { s with toks:=t }:=I.un (h':=s.heap) (t':=t) Un.refl I.hok
theorem Inv.kept{t':Nat}(I:Inv X pins σ H s)(k:∀b u,s.heap.get? b=some u->h'.get? b=some u):Inv X pins σ H { s with heap:=h',toks:=t' }:=I.un (Un.kept k) (I.hok.kept k)
theorem Inv.laid{a:Addr}{o:HO}{t':Nat}(I:Inv X pins σ H s)(k:∀b u,s.heap.get? b=some u->h'.get? b=some u)(hp:s.heap.objs.size<=a)(new:bp X.prog X.w (upd H a o) h' a o) :
  Inv X pins σ (upd H a o) { s with heap:=h',toks:=t' }:=I.un (Un.laid k hp (I.hok.fresh hp)) (I.hok.laid k hp new)
theorem Inv.write{t':Nat}(I:Inv X pins σ H s)(mu:Mut (H x))(he:e=x\/H e=some (.own x))(k:∀b u,b ≠ e->s.heap.get? b=some u->h'.get? b=some u)(heo:∃u,h'.get? e=some u)
  (new:bp X.prog X.w (upd H x o) h' x o):Inv X pins σ (upd H x o) { s with heap:=h',toks:=t' }:=I.un (Un.write mu he k heo) (I.hok.write mu he k heo new)
theorem Inv.pins_of(I:Inv X pins σ H s)(h:∀p ∈ pins',s.heap.get? p.1=some p.2/\H p.1=none/\p.1 ≠ X.env.locals/\p.1 ∉ X.fs/\∀v,p.2.data ≠ .cell v):Inv X pins' σ H s:=
 ⟨I.ok,I.os,I.bare,I.base,I.loc,I.cell,I.free,I.freeC,λp hp=>(ZJ.mp hp).elim (λz=>I.pin p (ZV _ z)) (h p),I.hok,I.len⟩
theorem kH{N:List Str}(hN:N.Nodup){i j:Nat}{x:Str}(a:N[i]?=some x)(b:N[j]?=some x):i=j:=by
 obtain⟨h1,e1⟩:=Zb.mp a;obtain⟨h2,e2⟩:=Zb.mp b;exact(YJ hN).mp (e1.trans e2.symm)
theorem m8{M:Model}{A:Around}{E:Value->Shared->Prop}{i:Nat}{x:Str}{v:V}{u:Value}{Q:Unit->Shared->Prop}(I:Inv X pins σ H s)(hN:X.N.Nodup)(hi:X.N[i]?=some x)(hx:Loc X.env.scope x)(r:aI v u)
  (h:∀s',Inv X pins (σ.set i (some v)) H s'->(∃a,Heap.SameBut a s.heap s'.heap/\(a=X.env.locals\/X.env.cells.lookup x=some a))->Q () s') (hf:X.fn x=true\/X.env.scope.names.lookup x=some .local:=by first |exact .inl rfl |exact .inr rfl |assumption):wpAny M A (storeName X.env x u) Q E s:=by
 obtain⟨m,hn,hl⟩:=id I.loc;have hcls:(X.env.scope.kind == .class || (X.env.scope.kind == .module && X.env.locals != X.env.globals))=false:=by rw[I.ok.kind];rfl
 have hiσ:i < σ.length:=by rw[I.len];exact(Zb.mp hi).1
 have cne:=I.cne
 have tracked:∀ {a:Addr} {h':Heap},(∃o,s.heap.get? a=some o/\H a=none)->Heap.SameBut a s.heap h'->HOk X.prog X.w H h':=λ{a h'} ha hs b ob e=>by
  obtain⟨_,_,hfree⟩:=ha;refine(I.hok b ob e).stay (λc w' hc q=>(hs.2 c ?_).trans q) (λ_ q=>q) λ_ _ q=>q;rintro rfl;rcases hc with rfl |hc
  ·rw[hfree] at e;cases e
  ·rw[hfree] at hc;cases hc
 rcases hx with hk |hk
 ·refine wpAny_storeName_local hk hn (λh' hn' hs=>?_) hcls;obtain⟨oL,_,_,hoL,_⟩:=id hn;refine h _ ⟨I.ok,I.os,I.bare,⟨λb o e n hb hx=>?_,λb o e n hb hx=>?_,I.base.free,λb o e hx=>?_,I.base.tups,I.base.frzs,I.base.tbls⟩,⟨_,hn',λj y v' e1 e2 e3=>?_⟩,λy c e=>?_,I.free,I.freeC,λp hp=>?_,tracked ⟨oL,hoL,I.free⟩ hs,by simpa using I.len⟩ ⟨_,hs,.inl rfl⟩
  ·exact(hs.2 b (ZF (Zv (Zq e) I.ok.above))).trans (I.base.keep b o e n hb hx)
  ·obtain⟨sl,e1⟩:=I.base.slot b o e n hb hx;exact⟨sl,(hs.2 b (ZF (Zv (Zq e) I.ok.above))).trans e1⟩
  ·obtain⟨o',e1⟩:=I.base.there b o e hx;exact⟨o',(hs.2 b (ZF (Zv (Zq e) I.ok.above))).trans e1⟩
  ·by_cases hj:j=i
   ·subst hj;rw[hi] at e1;cases e1;rw[ZG hiσ] at e2;cases e2;exact⟨u,r,.inl ⟨hk,by simp⟩⟩
   ·rw[Zo (Ne.symm hj)] at e2;obtain⟨u',r',q⟩:=hl j y v' e1 e2 e3;refine⟨u',r',?_⟩;rcases q with ⟨k,e⟩ |⟨k,c,e,z⟩
    ·refine .inl ⟨k,?_⟩;have:y ≠ x:=λe=>hj (kH hN e1 (e ▸ hi));simp[this,e]
    ·exact .inr ⟨k,c,e,z.sameBut hs (cne y c e)⟩
  ·obtain⟨w',z⟩:=I.cell y c e;exact⟨w',z.sameBut hs (cne y c e)⟩
  ·obtain⟨e,n,ne,nf,d⟩:=I.pin p hp;exact⟨(hs.2 p.1 ne).trans e,n,ne,nf,d⟩
 ·have hfn:X.fn x=true:=by
   rcases hf with z |z
   ·exact z
   ·rw[z] at hk;cases hk
  obtain⟨c,hc⟩:=I.ok.has x (.inl hk);obtain⟨w',z⟩:=I.cell x c hc;refine wpAny_storeName_cell I.ok.kind hk hc z (λh' hc' hs=>?_);obtain⟨oc,hoc,hocd⟩:=id z;refine h { s with heap:=h' } ⟨I.ok,I.os,I.bare,⟨λb o e n hb hx=>?_,λb o e n hb hx=>?_,I.base.free,λb o e hx=>?_,I.base.tups,I.base.frzs,I.base.tbls⟩,⟨m,hn.sameBut hs (Ne.symm (cne x c hc)),λj y v' e1 e2 e3=>?_⟩,λy c' e=>?_,I.free,I.freeC,λp hp=>?_,tracked ⟨oc,hoc,I.freeC x c hc⟩ hs,by simpa using I.len⟩ ⟨c,hs,.inr hc⟩
  ·exact(hs.2 b (ZF (Zv (Zq e) (I.ok.cab x c hfn hc)))).trans (I.base.keep b o e n hb hx)
  ·obtain⟨sl,e1⟩:=I.base.slot b o e n hb hx;exact⟨sl,(hs.2 b (ZF (Zv (Zq e) (I.ok.cab x c hfn hc)))).trans e1⟩
  ·obtain⟨o',e1⟩:=I.base.there b o e hx;exact⟨o',(hs.2 b (ZF (Zv (Zq e) (I.ok.cab x c hfn hc)))).trans e1⟩
  ·by_cases hj:j=i
   ·subst hj;rw[hi] at e1;cases e1;rw[ZG hiσ] at e2;cases e2;exact⟨u,r,.inr ⟨.inl hk,c,hc,hc'⟩⟩
   ·rw[Zo (Ne.symm hj)] at e2;obtain⟨u',r',q⟩:=hl j y v' e1 e2 e3;refine⟨u',r',?_⟩;rcases q with q |⟨k,c',e,z'⟩
    ·exact .inl q
    ·refine .inr ⟨k,c',e,z'.sameBut hs ?_⟩;rintro rfl;exact hj (kH hN e1 (I.ok.inj _ _ _ e hc ▸ hi))
  ·by_cases hcc:c'=c
   ·subst hcc;exact⟨_,hc'⟩
   ·obtain⟨w2,z2⟩:=I.cell y c' e;exact⟨w2,z2.sameBut hs hcc⟩
  ·obtain⟨e,n,ne,nf,d⟩:=I.pin p hp;refine⟨(hs.2 p.1 ?_).trans e,n,ne,nf,d⟩;intro q;rw[q,hoc] at e;have q':oc=p.2:=Option.some.inj e;exact d w' (by rw[<-q'];exact hocd)
theorem cw{i:Nat}(I:Inv X pins σ H s)(hN:X.N.Nodup)(hi:X.N[i]?=some x)(hx:Loc X.env.scope x)(r:aI v u)
  (h:∀s',Inv X pins (σ.set i (some v)) H s'->Q () s') (hf:X.fn x=true\/X.env.scope.names.lookup x=some .local:=by first |exact .inl rfl |exact .inr rfl |assumption):wpAny M A (storeName X.env x u) Q E s:=
 m8 I hN hi hx r (λs' I' _=>h s' I') hf
theorem Inv.call'(I:Inv X pins σ H s)(ho:s'.os=s.os)(u:Un (frs X.stack) ch H H' s.heap s'.heap)(hok:HOk X.prog X.w H' s'.heap)(hg:AllBare s'.gens)
  (hch:∀b ∈ ch,(b ∈ X.ex\/X.s₀.heap.objs.size<=b)/\b ≠ X.env.locals/\(∀x c,X.env.cells.lookup x=some c->c ≠ b)/\∀p ∈ X.pn++pins,p.1 ≠ b):Inv X pins σ H' s':=by
 obtain⟨h',g',d',t',o'⟩:=s';have e:o'=s.os:=ho;subst e;exact I.call (g':=g') (t':=t') (d':=d') u hok hg hch
end
@[inline]abbrev XK:=Value->Option Addr->Hp->Prop
@[inline]abbrev St:=List (Option V)
@[inline]abbrev VK:=V->Hp->Prop
@[inline]abbrev TE:=St->Hp->VK->Prop
@[inline]abbrev TT:=St->Hp->(Bool->Hp->Prop)->Prop
@[inline]abbrev TA:=St->Hp->(List V->Hp->Prop)->Prop
structure Ends where
 nx:St->Hp->Prop
 rt:VK
 bk:St->Hp->Prop:=λ_ _=>False
 ct:St->Hp->Prop:=λ_ _=>False
@[inline]abbrev TS:=Ends->St->Hp->Prop
def EP(X:Cx)(pins:List (Addr × Obj))(σ:St)(Q:VK)(u:Value)(s':Shared):Prop:=∃v H',Inv X pins σ H' s'/\aI v u/\Q v H'
def TP(X:Cx)(pins:List (Addr × Obj))(σ:St)(Q:Bool->Hp->Prop)(b:Bool)(s':Shared):Prop:=∃H',Inv X pins σ H' s'/\Q b H'
def AP(X:Cx)(pins:List (Addr × Obj))(σ:St)(Q:List V->Hp->Prop)(us:List Value)(s':Shared):Prop:=∃vs H',Inv X pins σ H' s'/\aO vs us/\Q vs H'
def SP(X:Cx)(pins:List (Addr × Obj))(D:Ends)(f:Flow)(s':Shared):Prop:=
 match f with
 |.next=>∃σ' H',Inv X pins σ' H' s'/\D.nx σ' H'
 |.brk=>∃σ' H',Inv X pins σ' H' s'/\D.bk σ' H'
 |.cont=>∃σ' H',Inv X pins σ' H' s'/\D.ct σ' H'
 |.ret u=>∃v σ' H',Inv X pins σ' H' s'/\aI v u/\D.rt v H'
def PE(X:Cx)(e:Expr)(t:TE):Prop:=
 ∀ (pins:List (Addr × Obj)) (s:Shared) (σ:St) (H:Hp) (Q:VK),Inv X pins σ H s->t σ H Q->wpAny (model X.prog X.w) X.A (eval e X.env) (EP X pins σ Q) X.xe s
def PT(X:Cx)(e:Expr)(t:TT):Prop:=
 ∀ (pins:List (Addr × Obj)) (s:Shared) (σ:St) (H:Hp) (Q:Bool->Hp->Prop),Inv X pins σ H s->t σ H Q->wpAny (model X.prog X.w) X.A (isTrue e X.env (eval e X.env)) (TP X pins σ Q) X.xe s
def PW(X:Cx)(e:Expr)(t:TT):Prop:=
 ∀ (whole:Sem Value) (pins:List (Addr × Obj)) (s:Shared) (σ:St) (H:Hp) (Q:Bool->Hp->Prop),Inv X pins σ H s->t σ H Q->wpAny (model X.prog X.w) X.A (isTrue e X.env whole) (TP X pins σ Q) X.xe s
theorem PW.pt(h:PW X e t):PT X e t:=h _
def PA(X:Cx)(es:List Expr)(t:TA):Prop:=
 ∀ (pos:Pos) (pins:List (Addr × Obj)) (s:Shared) (σ:St) (H:Hp) (Q:List V->Hp->Prop),Inv X pins σ H s->t σ H Q->wpAny (model X.prog X.w) X.A (spliced (backTo pos (Um es X.env))) (AP X pins σ Q) X.xe s
def PS(X:Cx)(st:Stmt)(t:TS):Prop:=
 ∀ (pins:List (Addr × Obj)) (s:Shared) (σ:St) (H:Hp) (D:Ends),Inv X pins σ H s->t D σ H->wpAny (model X.prog X.w) X.A (exec st X.env) (SP X pins D) X.xe s
def PSs(X:Cx)(st:List Stmt)(t:TS):Prop:=
 ∀ (pins:List (Addr × Obj)) (s:Shared) (σ:St) (H:Hp) (D:Ends),Inv X pins σ H s->t D σ H->wpAny (model X.prog X.w) X.A (execs st X.env) (SP X pins D) X.xe s
theorem thn{α:Type}{t:Sem α}{Q Q':α->Shared->Prop}{M:Model}{A:Around}{E:Value->Shared->Prop}{s:Shared}(h:wpAny M A t Q E s)(hQ:∀a s,Q a s->Q' a s):wpAny M A t Q' E s:=UM h hQ λ_ _ x=>x
section
variable {X:Cx}
def CN(i:Nat):TE:=λσ H Q=>∃v,σ[i]?=some (some v)/\Q v H
def tC(v:V):TE:=λ_ H Q=>Q v H
theorem ou{i:Nat}(hN:X.N[i]?=some x)(hv:Vis X.env.scope x)(hd:(x == ("__debug__" : Str))=false:=by decide)(hcd:(x == ("__classdict__" : Str))=false:=by decide):PE X (.Name x pos) (CN i):=by
 intro pins s σ H Q I h;obtain⟨v,e,h⟩:=h;obtain⟨m,hn,hl⟩:=I.loc;obtain⟨u,r,l⟩:=hl i x v hN e hv;have fin:EP X pins σ Q u s:=⟨v,H,I,r,h⟩;rcases l with ⟨hk,hm⟩ |⟨hk,c,hc,hcell⟩
 ·exact wpAny_Name (wpAny_loadName_local I.ok.kind hk hn hm fin) hd
 ·rcases hk with hk |hk
  ·exact wpAny_Name (wpAny_loadName_cell I.ok.kind hk hc hcell fin) hd
  ·exact wpAny_Name (wpAny_loadName_free I.ok.kind hk hc hcell fin hcd) hd
theorem ji{i j pos}:PE X (.Constant (.int i) j pos) (tC (.int i)):=λ_ _ _ H _ I h=>wpAny_Constant_int ⟨.int i,H,I.tok _,⟨_,rfl⟩,h⟩
theorem yI{b j pos}:PE X (.Constant (.bool b) j pos) (tC (.bl b)):=λ_ _ _ H _ I h=>Constant_bool ⟨.bl b,H,I,rfl,h⟩
theorem HN{j pos}:PE X (.Constant .none j pos) (tC .non):=λ_ _ _ H _ I h=>Constant_none ⟨.non,H,I,rfl,h⟩
theorem ow{x j pos}:PE X (.Constant (.str x) j pos) (tC (.str x)):=λ_ _ _ H _ I h=>Calls.Constant_str ⟨.str x,H,I.tok _,⟨_,rfl⟩,h⟩
def Gl(X:Cx)(x:Str):Prop:=X.env.kindOf x=some .globalImplicit
theorem gx(I:Inv X pins σ H s)(hg:Gl X x)(hm:X.mg x=some u)(h:Q u s)
  (hd:(x == ("__debug__" : Str))=false:=by decide):wpAny (model X.prog X.w) X.A (eval (.Name x pos) X.env) Q E s:=
 Wu I.ok.kind hg (Calls.loadGlobal_global (by rw[I.ok.glob];exact I.mod.glob.keeps I.bk) hm h) hd
theorem fE(I:Inv X pins σ H s)(hg:Gl X x)(hm:X.mg x=none)(hv:VJ x=some u)(h:Q u s)
  (hn:x ≠ "__name__" := by decide) (hd:(x == ("__debug__" : Str))=false:=by decide):wpAny (model X.prog X.w) X.A (eval (.Name x pos) X.env) Q E s:=by
 obtain⟨mb,h1,h2⟩:=I.mod.blt;exact Wu I.ok.kind hg (Calls.loadGlobal_builtin (by rw[I.ok.glob];exact I.mod.glob.keeps I.bk) hm (by rw[I.ok.blt];exact h1.keeps I.bk) ((h2 x hn).trans hv) h) hd
theorem uT(hg:Gl X x)(hm:X.mg x=some u)(r:aI v u)(hd:(x == ("__debug__" : Str))=false:=by decide):PE X (.Name x pos) (tC v):=
 λ_ _ _ H _ I h=>gx I hg hm ⟨v,H,I,r,h⟩ hd
theorem gy(hg:Gl X x)(hm:X.mg x=none)(hv:VJ x=some u)(r:aI v u)(hn:x ≠ "__name__" := by decide)(hd:(x == ("__debug__" : Str))=false:=by decide):PE X (.Name x pos) (tC v):=
 λ_ _ _ H _ I h=>fE I hg hm hv ⟨v,H,I,r,h⟩ hn hd
variable {a b:Expr} {ta tb:TE} {pos:Pos}
def tB(t:TE):TT:=λσ H Q=>t σ H λx H1=>∃c,x = .bl c/\Q c H1
theorem HP{e:Expr}{t:TE}(h:PE X e t)(he:∀whole,isTrue e X.env whole=(do let v <-whole;standAt e.pos;holding [v] (truthy v)):=by intro _;rfl):PT X e (tB t):=by
 intro pins s σ H Q I hw;refine isTrue_plain (thn (h pins s σ H _ I hw) λv s1 ⟨x,H1,I1,r1,q1⟩=>?_) (he _);obtain⟨d,rfl,q⟩:=q1;cases r1;exact U1 ⟨H1,I1,q⟩
variable {tA tB':TT} {rest:List Expr}
def ME(t u:TT):TT:=λσ H Q=>t σ H λc H1=>if c=true then u σ H1 Q else Q false H1
def tOr(t u:TT):TT:=λσ H Q=>t σ H λc H1=>if c=true then Q true H1 else u σ H1 Q
def MF(t:TT):TT:=λσ H Q=>t σ H λc H1=>Q (!c) H1
theorem CO(ha:PT X a tA):PW X (.BoolOp .And [a] pos) tA:=by
 intro wh pins s σ H Q I h;refine isTrue_and (thn (ha pins s σ H Q I h) λc s1 e=>?_);cases c with
 |true=>exact isTrue_and_nil e
 |false=>exact e
theorem yJ(ha:PT X a tA):PW X (.BoolOp .Or [a] pos) tA:=by
 intro wh pins s σ H Q I h;refine isTrue_or (thn (ha pins s σ H Q I h) λc s1 e=>?_);cases c with
 |false=>exact isTrue_or_nil e
 |true=>exact e
theorem yK(ha:PT X a tA)(hb:PW X (.BoolOp .And (b::rest) pos) tB'):PW X (.BoolOp .And (a::b::rest) pos) (ME tA tB'):=by
 intro wh pins s σ H Q I h;refine isTrue_and (thn (ha pins s σ H _ I h) λc s1 ⟨H1,I1,q1⟩=>?_);cases c with
 |true=>exact hb wh pins s1 σ H1 Q I1 q1
 |false=>exact⟨H1,I1,q1⟩
theorem uU(ha:PT X a tA)(hb:PW X (.BoolOp .Or (b::rest) pos) tB'):PW X (.BoolOp .Or (a::b::rest) pos) (tOr tA tB'):=by
 intro wh pins s σ H Q I h;refine isTrue_or (thn (ha pins s σ H _ I h) λc s1 ⟨H1,I1,q1⟩=>?_);cases c with
 |true=>exact⟨H1,I1,q1⟩
 |false=>exact hb wh pins s1 σ H1 Q I1 q1
theorem yL(ha:PT X a tA):PT X (.UnaryOp .Not a pos) (MF tA):=by
 intro pins s σ H Q I h;exact isTrue_not (ha pins s σ H (λc H1=>Q (!c) H1) I h)
def GF(ta tb:TE):TE:=λσ H Q=>ta σ H λx H1=>∃c,x = .bl c/\if c=true then tb σ H1 Q else Q (.bl false) H1
def MG(ta tb:TE):TE:=λσ H Q=>ta σ H λx H1=>∃c,x = .bl c/\if c=true then Q (.bl true) H1 else tb σ H1 Q
def GG(ta:TE):TE:=λσ H Q=>ta σ H λx H1=>∃c,x = .bl c/\Q (.bl (!c)) H1
theorem yM{op}(h:PE X a t):PE X (.BoolOp op [a] pos) t:=λpins s σ H Q I hw=>BoolOp_one (h pins s σ H Q I hw)
theorem yN(ha:PE X a ta)(hb:PE X (.BoolOp .And (b::rest) pos) tb):PE X (.BoolOp .And (a::b::rest) pos) (GF ta tb):=by
 intro pins s σ H Q I h;refine BoolOp_and (thn (ha pins s σ H _ I h) λv s1 ⟨x,H1,I1,r1,q1⟩=>?_);obtain⟨c,rfl,q1⟩:=q1;cases r1;refine U1 ?_;cases c with
 |true=>exact hb pins s1 σ H1 Q I1 q1
 |false=>exact⟨.bl false,H1,I1,rfl,q1⟩
theorem GH(ha:PE X a ta)(hb:PE X (.BoolOp .Or (b::rest) pos) tb):PE X (.BoolOp .Or (a::b::rest) pos) (MG ta tb):=by
 intro pins s σ H Q I h;refine BoolOp_or (thn (ha pins s σ H _ I h) λv s1 ⟨x,H1,I1,r1,q1⟩=>?_);obtain⟨c,rfl,q1⟩:=q1;cases r1;refine U1 ?_;cases c with
 |false=>exact hb pins s1 σ H1 Q I1 q1
 |true=>exact⟨.bl true,H1,I1,rfl,q1⟩
theorem HQ(ha:PE X a ta):PE X (.UnaryOp .Not a pos) (GG ta):=by
 intro pins s σ H Q I h;refine UnaryOp_ (thn (ha pins s σ H _ I h) λv s1 ⟨x,H1,I1,r1,q1⟩=>?_);obtain⟨c,rfl,q1⟩:=q1;cases r1;exact not_of (U1 ⟨.bl (!c),H1,I1,rfl,q1⟩)
def tIf(t:TT)(ta tb:TE):TE:=λσ H Q=>t σ H λc H1=>if c=true then ta σ H1 Q else tb σ H1 Q
theorem yO{c:Expr}(hc:PT X c tA)(ha:PE X a ta)(hb:PE X b tb):PE X (.IfExp c a b pos) (tIf tA ta tb):=by
 intro pins s σ H Q I h;refine wpAny_IfExp (thn (hc pins s σ H _ I h) λd s1 ⟨H1,I1,q1⟩=>?_);cases d with
 |true=>exact ha pins s1 σ H1 Q I1 q1
 |false=>exact hb pins s1 σ H1 Q I1 q1
end
def SqL(K:Vf)(H:Hp)(a:Addr)(xs:List V):Prop:=
 Rd H a (.lst xs) ∨
  ∃ (o:Obj) (its:Array Value) (n:Nat),K.lookup a=some o/\o.cls = .type "list"/\o.dict=none/\o.data = .seq its n/\its.size<=sizeLine/\aO xs its.toList
def SqT(K:Vf)(H:Hp)(a:Addr)(xs:List V):Prop:=
 Rd H a (.tup xs) ∨
  ∃ (o:Obj) (its:Array Value) (n:Nat),K.lookup a=some o/\o.cls = .type "tuple"/\o.data = .seq its n/\its.size<=sizeLine/\aO xs its.toList
abbrev PQ:Value->Option V
 |.none=>some .non
 |.bool b=>some (.bl b)
 |.int i _=>some (.int i)
 |.str x _=>some (.str x)
 |.bytes b _=>some (.byt b)
 |.float b _=>some (.flt b)
 |.ref a=>some (.ref a)
 |.type n=>some (.ty n)
 |_=>none
theorem aI.abs(r:aI x u):PQ u=some x:=by
 cases x with
 |non=>cases r;rfl
 |bl _=>cases r;rfl
 |int _=>obtain⟨t,rfl⟩:=r;rfl
 |str _=>obtain⟨t,rfl⟩:=r;rfl
 |byt _=>obtain⟨t,rfl⟩:=r;rfl
 |flt _=>obtain⟨t,rfl⟩:=r;rfl
 |ref _=>cases r;rfl
 |ty _=>cases r;rfl
theorem aI.inj{x y:V}{u:Value}(r:aI x u)(q:aI y u):x=y:=Option.some.inj (r.abs.symm.trans q.abs)
theorem aO.inj:∀ {xs ys:List V} {us:List Value},aO xs us->aO ys us->xs=ys
 |_,_,_,.nil,.nil=>rfl
 |_,_,_,.cons r t,.cons r' t'=>by rw[r.inj r',aO.inj t t']
section
variable {X:Cx} {pins:List (Addr × Obj)} {σ:St} {H:Hp} {s:Shared} {a:Addr} {xs ys:List V}
theorem SqL.of{K:Vf}(h:H a=some (.lst xs)):SqL K H a xs:=.inl (.inl h)
theorem SqT.of{K:Vf}(h:H a=some (.tup xs)):SqT K H a xs:=.inl (.inl h)
theorem Inv.list(I:Inv X pins σ H s)(h:SqL X.K H a xs):∃its:List Value,aO xs its/\PlainL s.heap a its.toArray/\xs.length<=sizeLine:=by
 rcases h with h |⟨o,its,n,hk,hc,hd,hs,hz,r⟩
 ·obtain⟨z,its,n,r,e⟩:=h.ok I.hok;exact⟨its,r,⟨_,n,e,rfl,rfl,rfl⟩,z⟩
 ·refine⟨its.toList,r,⟨o,n,I.kIn a o hk,hc,hd,by simpa using hs⟩,?_⟩;have e:=r.length;simp only[ZH] at e
  lia
theorem Inv.tuple(I:Inv X pins σ H s)(h:SqT X.K H a xs):∃its:List Value,aO xs its/\IsTup s.heap a its.toArray/\xs.length<=sizeLine:=by
 rcases h with h |⟨o,its,n,hk,hc,hs,hz,r⟩
 ·obtain⟨z,its,r,p⟩:=h.ok I.hok;exact⟨its,r,p.isTup,z⟩
 ·refine⟨its.toList,r,⟨o,I.kIn a o hk,hc,n,by simpa using hs⟩,?_⟩;have e:=r.length;simp only[ZH] at e
  lia
theorem Inv.list_inj(I:Inv X pins σ H s)(h:SqL X.K H a xs)(h':SqL X.K H a ys):xs=ys:=by
 obtain⟨its,r,⟨o,n,e,_,_,d⟩,_⟩:=I.list h;obtain⟨its',r',⟨o',n',e',_,_,d'⟩,_⟩:=I.list h';rw[e] at e';cases e';rw[d] at d';injection d' with d1 _;have:its=its':=by simpa using congrArg Array.toList d1
 subst this;exact r.inj r'
theorem Inv.tuple_inj(I:Inv X pins σ H s)(h:SqT X.K H a xs)(h':SqT X.K H a ys):xs=ys:=by
 obtain⟨its,r,⟨o,e,_,n,d⟩,_⟩:=I.tuple h;obtain⟨its',r',⟨o',e',_,n',d'⟩,_⟩:=I.tuple h';rw[e] at e';cases e';rw[d] at d';injection d' with d1 _;have:its=its':=by simpa using congrArg Array.toList d1
 subst this;exact r.inj r'
end
noncomputable abbrev Cx.wish(X:Cx)(E:Value->Shared->Prop):Cx:={ X with xe:=E }
noncomputable abbrev Cx.nox(X:Cx):Cx:=X.wish λ_ _=>False
theorem Cx.Ok.wish{X:Cx}(ok:X.Ok)(E:Value->Shared->Prop):(X.wish E).Ok:=
 ⟨ok.mod,ok.kind,ok.glob,ok.blt,ok.above,ok.inj,ok.has,ok.cab,ok.hd,ok.frames,ok.stk,ok.exf,ok.bs,ok.bsz,ok.noex,ok.exfs,ok.funs,ok.frf⟩
theorem Cx.Ok.unwish{X:Cx}{E:Value->Shared->Prop}(ok:(X.wish E).Ok):X.Ok:=
 ⟨ok.mod,ok.kind,ok.glob,ok.blt,ok.above,ok.inj,ok.has,ok.cab,ok.hd,ok.frames,ok.stk,ok.exf,ok.bs,ok.bsz,ok.noex,ok.exfs,ok.funs,ok.frf⟩
section
variable {X:Cx} {pins:List (Addr × Obj)} {σ:St} {H:Hp} {s:Shared} {E:Value->Shared->Prop}
theorem Inv.wish(I:Inv X pins σ H s)(E:Value->Shared->Prop):Inv (X.wish E) pins σ H s:=⟨I.ok.wish E,I.os,I.bare,I.base,I.loc,I.cell,I.free,I.freeC,I.pin,I.hok,I.len⟩
theorem Inv.unwish(I:Inv (X.wish E) pins σ H s):Inv X pins σ H s:=⟨I.ok.unwish,I.os,I.bare,I.base,I.loc,I.cell,I.free,I.freeC,I.pin,I.hok,I.len⟩
theorem SP.unwish{D:Ends}{f:Flow}{s':Shared}(h:SP (X.wish E) pins D f s'):SP X pins D f s':=by
 cases f with
 |next=>obtain⟨σ',H',I,q⟩:=h;exact⟨σ',H',I.unwish,q⟩
 |brk=>obtain⟨σ',H',I,q⟩:=h;exact⟨σ',H',I.unwish,q⟩
 |cont=>obtain⟨σ',H',I,q⟩:=h;exact⟨σ',H',I.unwish,q⟩
 |ret u=>obtain⟨v,σ',H',I,r,q⟩:=h;exact⟨v,σ',H',I.unwish,r,q⟩
theorem PT.nox(h:PT X.nox e t):PT X e t:=λpins s σ H Q I hw=>
 UM (h pins s σ H Q (I.wish _) hw) (λ_ _ ⟨H',I',q⟩=>⟨H',I'.unwish,q⟩) λ_ _ z=>False.elim z
theorem PSs.nox{st:List Stmt}{t:TS}(h:PSs X.nox st t):PSs X st t:=λpins s σ H D I hw=>
 UM (h pins s σ H D (I.wish _) hw) (λ_ _ q=>q.unwish) λ_ _ z=>False.elim z
end
section
variable {X:Cx} {st:Stmt} {rest:List Stmt} {t u:TS} {e:Expr} {te:TE} {pos:Pos}
def GI:TS:=λD σ H=>D.nx σ H
def MH(t u:TS):TS:=λD σ H=>t { D with nx:=u D } σ H
theorem iK:PSs X [] GI:=λ_ _ σ H _ I h=>UE ⟨σ,H,I,h⟩
theorem bL(h1:PS X st t)(h2:PSs X rest u):PSs X (st::rest) (MH t u):=by
 intro pins s σ H D I h;refine UD (thn (h1 pins s σ H { D with nx:=u D } I h) λf s1 q=>?_);cases f with
 |next=>
  obtain⟨σ',H',I',q⟩:=q;exact h2 pins s1 σ' H' D I' q
 |ret v=>exact q
 |brk=>exact q
 |cont=>exact q
theorem iL(h1:PS X st t):PSs X [st] t:=by
 intro pins s σ H D I h;refine UD (thn (h1 pins s σ H D I h) λf s1 q=>?_);cases f with
 |next=>exact UE q
 |ret v=>exact q
 |brk=>exact q
 |cont=>exact q
def GJ:TS:=λD σ H=>D.ct σ H
theorem qg:PS X (.Continue pos) GJ:=λ_ _ σ H _ I h=>wpAny_Continue ⟨σ,H,I,h⟩
theorem Inv.quiet{pins:List (Addr × Obj)}{σ:St}{H:Hp}{s:Shared}(I:Inv X pins σ H s):interactive X.env=false:=by simp[interactive,I.ok.kind]
def GK(te:TE):TS:=λD σ H=>te σ H λ_ H1=>D.nx σ H1
theorem uV(he:PE X e te)(hs:Uq e none pos.line X.env=pure false:=by rfl):PS X (.Expr e pos) (GK te):=by
 intro pins s σ H D I h;exact wpAny_Expr_any (thn (he pins s σ H _ I h) λv s1 ⟨x,H1,I1,r1,q1⟩=>⟨σ,H1,I1,q1⟩) I.quiet hs
def MI(te:TE):TS:=λD σ H=>te σ H D.rt
theorem sH(he:PE X e te):PS X (.Return (some e) pos) (MI te):=by
 intro pins s σ H D I h;exact Ux (thn (he pins s σ H _ I h) λv s1 ⟨x,H1,I1,r1,q1⟩=>⟨x,σ,H1,I1,r1,q1⟩)
def MJ(c:TT)(t u:TS):TS:=λD σ H=>c σ H λb H1=>if b=true then t D σ H1 else u D σ H1
theorem uW{c:Expr}{a b:List Stmt}{tc:TT}(hc:PT X c tc)(ha:PSs X a t)(hb:PSs X b u):PS X (.If c a b pos) (MJ tc t u):=by
 intro pins s σ H D I h;refine wpAny_If (thn (hc pins s σ H _ I h) λd s1 ⟨H1,I1,q1⟩=>?_);cases d with
 |true=>exact ha pins s1 σ H1 D I1 q1
 |false=>exact hb pins s1 σ H1 D I1 q1
def HR:TS:=λ_ _ _=>False
theorem qh:PS X st HR:=λ_ _ _ _ _ _ h=>h.elim
end
@[inline]abbrev TG:=V->St->Hp->(St->Hp->Prop)->Prop
@[inline]abbrev TGs:=List V->St->Hp->(St->Hp->Prop)->Prop
def PG(X:Cx)(target:Expr)(t:TG):Prop:=
 ∀ (pins:List (Addr × Obj)) (s:Shared) (σ:St) (H:Hp) (v:V) (u:Value) (Q:St->Hp->Prop),Inv X pins σ H s->aI v u->t v σ H Q ->
  wpAny (model X.prog X.w) X.A (assign target X.env u) (λ_ s'=>∃σ' H',Inv X pins σ' H' s'/\Q σ' H') X.xe s
def PGs(X:Cx)(ts:List Expr)(t:TGs):Prop:=
 ∀ (pins:List (Addr × Obj)) (s:Shared) (σ:St) (H:Hp) (vs:List V) (us:List Value) (Q:St->Hp->Prop),Inv X pins σ H s->aO vs us->t vs σ H Q ->
  wpAny (model X.prog X.w) X.A (VE ((VC ts X.env).map (·.2)) us) (λ_ s'=>∃σ' H',Inv X pins σ' H' s'/\Q σ' H') X.xe s
@[inline]abbrev CP:=V->V->V->Hp->(Hp->Prop)->Prop
def HS(X:Cx)(t:CP):Prop:=
 ∀ (pins:List (Addr × Obj)) (s:Shared) (σ:St) (H:Hp) (o i v:V) (ov iv u:Value) (Q:Hp->Prop),Inv X pins σ H s->aI o ov->aI i iv->aI v u->t o i v H Q ->
  wpAny (model X.prog X.w) X.A (setItem ov iv u) (λ_ s'=>∃H',Inv X pins σ H' s'/\Q H') X.xe s
section
variable {X:Cx} {pos:Pos}
def m9(i:Nat):TG:=λv σ H Q=>Q (σ.set i (some v)) H
theorem uX{i:Nat}(hN:X.N.Nodup)(hi:X.N[i]?=some x)(hx:Loc X.env.scope x)(hf:X.fn x=true\/X.env.scope.names.lookup x=some .local:=by first |exact .inl rfl |exact .inr rfl |assumption):PG X (.Name x pos) (m9 i):=by
 intro pins s σ H v u Q I r h;exact wpAny_assign_Name (cw I hN hi hx r (λs' I'=>⟨_,H,I',h⟩) hf)
def ML:TGs:=λvs σ H Q=>vs=[]/\Q σ H
def GL(t:TG)(u:TGs):TGs:=λvs σ H Q=>∃v r,vs=v::r/\t v σ H λσ' H'=>u r σ' H' Q
theorem CQ:PGs X [] ML:=by
 intro pins s σ H vs us Q I r h;obtain⟨e,h⟩:=h;subst e;cases r;exact assignInOrder_nil ⟨σ,H,I,h⟩
theorem yP{e:Expr}{es:List Expr}{t:TG}{u:TGs}(h1:PG X e t)(h2:PGs X es u)
  (hs:(VC (e::es) X.env).map (·.2)=assign e X.env::(VC es X.env).map (·.2):=by rfl):PGs X (e::es) (GL t u):=by
 intro pins s σ H vs us Q I r h;obtain⟨v,vr,e1,h⟩:=h;subst e1;cases r with
 |cons r rr=>
  rw[hs];refine assignInOrder_cons (thn (h1 pins s σ H _ _ _ I r h) λ_ s1 ⟨σ1,H1,I1,q1⟩=>?_);exact h2 pins s1 σ1 H1 _ _ Q I1 rr q1
def MM(K:Vf)(n:Nat)(t:TGs):TG:=λv σ H Q=>∃a xs,v = .ref a/\SqT K H a xs/\xs.length=n/\t xs σ H Q
theorem HU{k:Nat}{n:Nat}(hc:X.calm=true)(h:PGs X es t)
  (hn:(VC es X.env).length=n:=by rfl) (hst:(VC es X.env).findIdx? (·.1)=none:=by rfl):PG X (.Tuple es k pos) (MM X.K n t):=by
 intro pins s σ H v u Q I r hw;obtain⟨a,xs,e1,hq,hl,hw⟩:=hw;subst e1;cases r;obtain⟨its,rv,ht,hz⟩:=I.tuple hq;refine assign_Tuple_tuple (I.ok.hd hc) ht (by simp[hn,<-hl,rv.length]) hst λh' hx=>?_;have I1:Inv X pins σ H { s with heap:=h' }:=I.kept (t':=s.toks) λb o e=>hx b o (ZF (Zq e)) e;exact h pins _ σ H xs _ Q I1 (by simpa using rv) hw
def MN(to ti:TE)(t:CP):TG:=λv σ H Q=>to σ H λo H1=>ti σ H1 λi H2=>t o i v H2 λH3=>Q σ H3
theorem HV{o i:Expr}{to ti:TE}{t:CP}(ho:PE X o to)(hi:PE X i ti)(hs:HS X t)
  (ha:∀v,assign (.Subscript o i pos) X.env v=(do
   let ov <-holding [v] (eval o X.env)
   let iv <-holding [v,ov] (eval i X.env)
   standAt pos
   holding [v,ov,iv] (setItem ov iv v)
   release [v,ov,iv] []):=by intro _;rfl):PG X (.Subscript o i pos) (MN to ti t):=by
 intro pins s σ H v u Q I r h;rw[ha];refine Uy (UG (thn (ho pins s σ H _ I h) λov s1 ⟨x,H1,I1,r1,q1⟩=>?_));refine Uy (UG (thn (hi pins s1 σ H1 _ I1 q1) λiv s2 ⟨y,H2,I2,r2,q2⟩=>?_));refine Uy (U0 (Uy (UG (thn (hs pins s2 σ H2 x y v ov iv u _ I2 r1 r2 r q2) λ_ s3 ⟨H3,I3,q3⟩=>?_))));exact wpAny_release ⟨σ,H3,I3,q3⟩
def yQ(te:TE)(g:TG):TS:=λD σ H=>te σ H λx H1=>g x σ H1 D.nx
theorem oz{tg e:Expr}{te:TE}{g:TG}(he:PE X e te)(hg:PG X tg g)(hs:Ur [tg] e pos.line X.env=pure false:=by rfl)(hw:Up [tg] e X.env=pure none:=by rfl)
  (h1:(VC [tg] X.env).map (·.2)=[assign tg X.env]:=by rfl):PS X (.Assign [tg] e pos) (yQ te g):=by
 intro pins s σ H D I h;refine wpAny_Assign_stores (thn (he pins s σ H _ I h) λv s1 ⟨x,H1,I1,r1,q1⟩=>?_) hs hw;rw[h1];exact thn (hg pins s1 σ H1 x v _ I1 r1 q1) λ_ s2 q=>q
theorem HW{i:Nat}{x:Str}{e:Expr}{te:TE}{pos':Pos}(hN:X.N.Nodup)(hi:X.N[i]?=some x)(hx:Loc X.env.scope x)(he:PE X e te)(hs:Uq e (some (.Name x pos')) pos.line X.env=pure false:=by rfl)(hf:X.fn x=true\/X.env.scope.names.lookup x=some .local:=by first |exact .inl rfl |exact .inr rfl |assumption) :
  PS X (.Assign [.Name x pos'] e pos) (yQ te (m9 i)):=by
 intro pins s σ H D I h;refine wpAny_Assign_Name (thn (he pins s σ H _ I h) λv s1 ⟨y,H1,I1,r1,q1⟩=>?_) hs;exact cw I1 hN hi hx r1 (λs2 I2=>⟨_,H1,I2,q1⟩) hf
def MO(i j:Nat)(ta:TA):TS:=λD σ H=>ta σ H λvs H1=>∃v w,vs=[v,w]/\D.nx ((σ.set i (some v)).set j (some w)) H1
theorem HX{i j:Nat}{x y:Str}{a b:Expr}{ta:TA}{px py pt:Pos}{kt k2 pt2}(hc:X.calm=true)(hN:X.N.Nodup)(hi:X.N[i]?=some x)(hj:X.N[j]?=some y)(hij:i ≠ j)
  (hx:X.env.scope.names.lookup x=some .local) (hy:X.env.scope.names.lookup y=some .local) (ha:PA X [a,b] ta)
  (hw:Up [.Tuple [.Name x px,.Name y py] kt pt] (.Tuple [a,b] k2 pt2) X.env=pure (some [x,y]))
  (hs:Ur [.Tuple [.Name x px,.Name y py] kt pt] (.Tuple [a,b] k2 pt2) pos.line X.env=pure false:=by rfl) :
  PS X (.Assign [.Tuple [.Name x px,.Name y py] kt pt] (.Tuple [a,b] k2 pt2) pos) (MO i j ta):=by
 intro pins s σ H D I h;rw[exec_Assign_arm];refine Uy (U0 ?_);rw[hs];refine Uy (US ?_);rw[if_neg (by decide)];refine Uy (Tuple_ (thn (ha _ pins s σ H _ I h) λus s1 ⟨vs,H1,I1,r1,q1⟩=>?_));obtain⟨v,w,e1,q1⟩:=q1;subst e1
 obtain⟨u1,u2,rfl,rv,rw'⟩:∃u1 u2,us=[u1,u2]/\aI v u1/\aI w u2:=by
  cases r1 with
  |cons p q=>
   cases q with
   |cons p' q'=>
    cases q';exact⟨_,_,rfl,p,p'⟩
 refine UP ?_ (by show 2<=sizeLine;decide);have I2:Inv X pins σ H1 { s1 with heap:=s1.heap.push { cls:=.type "tuple", data:=.seq [u1,u2].toArray } }:=I1.kept (t':=s1.toks) λb o e=>Zi _ e;rw[hw];refine Uy (US ?_);show wpAny (model X.prog X.w) X.A (do rule "assign.swapped-stores"; let items <-unpackItems (.ref s1.heap.objs.size) 2 none;VE [λv=>VI X.env y v,λv=>VI X.env x v] items.reverse;pure Flow.next) _ _ _;refine Uy (UX (Uy (unpackItems_tuple (items:=#[u1,u2]) (I.ok.hd hc) (IsTup.new s1.heap _) λh' hx'=>?_)));have I3:=I2.kept (h':=h') (t':=s1.toks) λb o e=>hx' b o (ZF (Zq e)) e;show wpAny _ _ (VE [λv=>VI X.env y v,λv=>VI X.env x v] [u2,u1] >>= λ_=>pure Flow.next) _ _ _;refine Uy (assignInOrder_cons (Uz (cw I3 hN hj (.inl hy) rw' (λs2 I4=>?_) (.inr hy))));refine assignInOrder_cons (Uz (cw I4 hN hi (.inl hx) rv (λs3 I5=>assignInOrder_nil (US ?_)) (.inr hx)));rw[Y6 _ _ (Ne.symm hij)] at I5;exact⟨_,H1,I5,q1⟩
end
structure It where
 go:Nat->Hp->Prop
 yld:Nat->Hp->V->Hp->Prop
 stop:Nat->Hp->Prop
def gU(X:Cx)(pins:List (Addr × Obj))(H:Hp)(b:Addr):Prop:=
 H b=none/\b ≠ X.env.locals/\b ∉ X.fs/\(b ∈ X.ex\/X.s₀.heap.objs.size<=b)/\(∀x c,X.env.cells.lookup x=some c->c ≠ b)/\∀p ∈ X.pn++pins,p.1 ≠ b
theorem Inv.fpOk(I:Inv X pins σ H s)(hb:s.heap.objs.size<=b)(hn:H' b=none):gU X pins H' b:=by
 refine⟨hn,XJ (Zv I.lt hb),I.nofs hb,.inr (Zw I.sz hb),λx c e z=>?_,λp hp z=>?_⟩
 ·obtain⟨v,q⟩:=I.cell x c e;exact absurd (Zv q.lt (by rw[z];exact hb)) (ZN _)
 ·exact absurd (Zv (Zq (I.pin p hp).1) (by rw[z];exact hb)) (ZN _)
structure Turn(P:Program)(w:World)(K:Vf)(tg:Expr)(J:It)(fp:List Addr)(it:Addr)(tn:Nat->Heap->Prop):Prop where
 mem:it ∈ fp
 obj:∀i h,tn i h->∀b ∈ fp,∃o,h.get? b=some o/\∀v,o.data ≠ .cell v
 keep:∀i h h',tn i h->(∀b ∈ fp,∀o,h.get? b=some o->h'.get? b=some o)->tn i h'
 item:∀ (X:Cx),X.prog=P->X.w=w->X.K=K->X.calm=true->∀ (i:Nat) (pins:List (Addr × Obj)) (s:Shared) (σ:St) (H:Hp) (E:Value->Shared->Prop),Inv X pins σ H s->(∀b ∈ fp,gU X pins H b)->tn i s.heap->J.go i H ->
  wpAny (model P w) X.A (pyNext (.ref it)) (λr s1=>∃u,r=some u ∧
   wpAny (model P w) X.A (V4 tg (.ref it) u) (λ_ s2=>∃x H',Inv X pins σ H' s2/\aI x u/\J.yld i H x H'/\tn (i+1) s2.heap/\∀b ∈ fp,H' b=none) E s1) E s
 done:∀ (X:Cx),X.prog=P->X.w=w->X.K=K->X.calm=true->∀ (i:Nat) (pins:List (Addr × Obj)) (s:Shared) (σ:St) (H:Hp) (E:Value->Shared->Prop),Inv X pins σ H s->(∀b ∈ fp,gU X pins H b)->tn i s.heap->J.stop i H ->
  wpAny (model P w) X.A (pyNext (.ref it)) (λr s1=>r=none/\Inv X pins σ H s1) E s
 self:∀ (A:Around) (i:Nat) (s:Shared) (Q:Value->Shared->Prop) (E:Value->Shared->Prop),tn i s.heap->Q (.ref it) s->wpAny (model P w) A (pyIter (.ref it)) Q E s
@[inline]abbrev TI:=St->Hp->(It->Hp->Prop)->Prop
def PIE(X:Cx)(pins:List (Addr × Obj))(σ:St)(tg:Expr)(R:It->Hp->Prop)(itv:Value)(s2:Shared):Prop:=
 ∃ (it:Addr) (fp:List Addr) (tn:Nat->Heap->Prop) (J:It) (H':Hp),itv = .ref it/\Inv X pins σ H' s2/\Turn X.prog X.w X.K tg J fp it tn/\tn 0 s2.heap/\(∀b ∈ fp,gU X pins H' b)/\R J H'
def PI(X:Cx)(tg iter:Expr)(wi:TI):Prop:=
 ∀ (pins:List (Addr × Obj)) (s:Shared) (σ:St) (H:Hp) (R:It->Hp->Prop),Inv X pins σ H s->wi σ H R ->
  wpAny (model X.prog X.w) X.A (eval iter X.env) (λv s1=>wpAny (model X.prog X.w) X.A (pyIter v) (PIE X pins σ tg R) X.xe s1) X.xe s
theorem yR(ho:s.heap.get? it=some o)(hc:o.cls = .type n)(hd:o.data = .fields vs)
  (hn:["enumerate", "zip", "dict_itemiterator", "dict_reverseitemiterator", "odict_iterator", "itertools.zip_longest", "itertools.pairwise"].contains n=false) (hQ:Q () s):wpAny M A (V4 tg (.ref it) u) Q E s:=by
 unfold V4
 cases tg <;> first
  |exact US hQ
  | (cases u <;> first
    |exact US hQ
    | (refine Uy (wpAny_load ho ?_)
       rw[hc,hd];show wpAny M A (if (["enumerate", "zip", "dict_itemiterator", "dict_reverseitemiterator", "odict_iterator", "itertools.zip_longest", "itertools.pairwise"].contains n && vs[0]? == some (rawInt _))=true then _ else _) Q E s;rw[if_neg (by intro h;rw[hn,Yq] at h;cases h)];exact US hQ))
abbrev Itl(K:Vf)(a:Addr):It:=
 ⟨λi H=>∃xs x,SqL K H a xs/\xs[i]?=some x,λi H x H'=>H'=H/\∀xs,SqL K H a xs->xs[i]?=some x,λi H=>∃xs,SqL K H a xs/\xs.length<=i⟩
abbrev Itt(K:Vf)(a:Addr):It:=
 ⟨λi H=>∃xs x,SqT K H a xs/\xs[i]?=some x,λi H x H'=>H'=H/\∀xs,SqT K H a xs->xs[i]?=some x,λi H=>∃xs,SqT K H a xs/\xs.length<=i⟩
abbrev Itr(lo:Int)(n:Nat):It:=⟨λi _=>i < n,λi H x H'=>H'=H/\x = .int (lo+i),λi _=>n<=i⟩
theorem wX{P:Program}{w:World}{K:Vf}{tg:Expr}(a it:Addr):Turn P w K tg (Itl K a) [it] it (λi h=>h.IsListIter it a i) where
 mem:=by simp
 obj:=λi h st b hb=>by
  have e:b=it:=by simpa using hb
  subst e;obtain⟨o,e,c,d⟩:=st;exact⟨o,e,λv z=>by rw[d] at z;cases z⟩
 keep:=λi h h' st k=>st.at λo e=>k it (by simp) o e
 item:=by
  intro X hP hw hK hc i pins s σ H E I hf st hg;subst hP hw hK;obtain⟨xs,x,hq,hx⟩:=hg;obtain⟨its,rv,p,hz⟩:=I.list hq;obtain⟨u,hu,ru⟩:=rv.get hx;obtain⟨f0,f1,f2,f3,f4,f5⟩:=hf it (by simp);refine wpAny_pyNext_list_item st p.isList (x:=u) (by simpa using hu) λh' st' sb=>?_;have I1:Inv X pins σ H { s with heap:=h' }:=I.turned (t':=s.toks) (λb o hb e=>(sb.2 b hb).trans e) f0 f1 f3 f4 f5;obtain⟨o,e,c,d⟩:=id st';exact⟨u,rfl,yR (s:={ s with heap:=h' }) e c d (by decide) ⟨x,H,I1,ru,⟨rfl,λys hy=>by rw[I.list_inj hy hq];exact hx⟩,st',λb hb=>(hf b hb).1⟩⟩
 done:=by
  intro X hP hw hK hc i pins s σ H E I hf st hg;subst hP hw hK;obtain⟨xs,hq,hx⟩:=hg;obtain⟨its,rv,p,hz⟩:=I.list hq;obtain⟨f0,f1,f2,f3,f4,f5⟩:=hf it (by simp);have hl:=rv.length;exact wpAny_pyNext_list_end (I.ok.hd hc) st p.isList (by simp;lia) λh' eb=>⟨rfl,I.turned (t':=s.toks) (λb o hb e=>eb b o hb e) f0 f1 f3 f4 f5⟩
 self:=λ_ _ _ _ _ st h=>wpAny_pyIter_listiter st h
theorem sI{P:Program}{w:World}{K:Vf}{tg:Expr}(a it:Addr):Turn P w K tg (Itt K a) [it] it (λi h=>h.IsTupleIter it a i) where
 mem:=by simp
 obj:=λi h st b hb=>by
  have e:b=it:=by simpa using hb
  subst e;obtain⟨o,e,c,d⟩:=st;exact⟨o,e,λv z=>by rw[d] at z;cases z⟩
 keep:=λi h h' st k=>st.at λo e=>k it (by simp) o e
 item:=by
  intro X hP hw hK hc i pins s σ H E I hf st hg;subst hP hw hK;obtain⟨xs,x,hq,hx⟩:=hg;obtain⟨its,rv,p,hz⟩:=I.tuple hq;obtain⟨u,hu,ru⟩:=rv.get hx;obtain⟨f0,f1,f2,f3,f4,f5⟩:=hf it (by simp);refine wpAny_pyNext_tuple_item st (show s.heap.IsTuple a its.toArray from p) (x:=u) (by simpa using hu) λh' st' sb=>?_;have I1:Inv X pins σ H { s with heap:=h' }:=I.turned (t':=s.toks) (λb o hb e=>(sb.2 b hb).trans e) f0 f1 f3 f4 f5;obtain⟨o,e,c,d⟩:=id st';exact⟨u,rfl,yR (s:={ s with heap:=h' }) e c d (by decide) ⟨x,H,I1,ru,⟨rfl,λys hy=>by rw[I.tuple_inj hy hq];exact hx⟩,st',λb hb=>(hf b hb).1⟩⟩
 done:=by
  intro X hP hw hK hc i pins s σ H E I hf st hg;subst hP hw hK;obtain⟨xs,hq,hx⟩:=hg;obtain⟨its,rv,p,hz⟩:=I.tuple hq;obtain⟨f0,f1,f2,f3,f4,f5⟩:=hf it (by simp);have hl:=rv.length;exact wpAny_pyNext_tuple_end (I.ok.hd hc) st (show s.heap.IsTuple a its.toArray from p) (by simp;lia) λh' eb=>⟨rfl,I.turned (t':=s.toks) (λb o hb e=>eb b o hb e) f0 f1 f3 f4 f5⟩
 self:=λ_ _ _ _ _ st h=>wpAny_pyIter_tupleiter st h
theorem sJ{P:Program}{w:World}{K:Vf}{tg:Expr}(it:Addr)(lo:Int)(n:Nat):Turn P w K tg (Itr lo n) [it] it (λi h=>IsRangeIter h it (lo+(i:Nat) * 1) ((n:Int) - (i:Nat)) 1) where
 mem:=by simp
 obj:=λi h st b hb=>by
  have e:b=it:=by simpa using hb
  subst e
  exact⟨_,st,λv z=>by
   have z':Data.fields _=Data.cell v:=z;cases z'⟩
 keep:=λi h h' st k=>k it (by simp) _ st
 item:=by
  intro X hP hw hK hc i pins s σ H E I hf st hg;subst hP hw hK;obtain⟨f0,f1,f2,f3,f4,f5⟩:=hf it (by simp);have W:=Walks.range (prog:=X.prog) (w:=X.w) (I.ok.hd hc) it lo 1 n;refine W.item i s _ _ hg st λv h' tk hv st' kk=>?_;obtain⟨t,rfl⟩:=hv;have I1:Inv X pins σ H { s with heap:=h',toks:=tk }:=I.turned (λb o hb e=>kk b o (by simpa using hb) e) f0 f1 f3 f4 f5;refine⟨_,rfl,yR (s:={ s with heap:=h',toks:=tk }) (n := "range_iterator") st' rfl rfl (by decide) ⟨.int (lo+i),H,I1,⟨t,?_⟩,⟨rfl,rfl⟩,st',λb hb=>(hf b hb).1⟩⟩;rw[Int.mul_one]
 done:=by
  intro X hP hw hK hc i pins s σ H E I hf st hg;subst hP hw hK;obtain⟨f0,f1,f2,f3,f4,f5⟩:=hf it (by simp);exact wpAny_pyNext_range_end (I.ok.hd hc) st (by have:n<=i:=hg;lia) λh' eb=>⟨rfl,I.turned (t':=s.toks) (λb o hb e=>eb b o hb e) f0 f1 f3 f4 f5⟩
 self:=λ_ _ _ _ _ st h=>wpAny_pyIter_rangeiter st h
section
variable {X:Cx} {tg:Expr}
def yS(K:Vf)(tl:TE):TI:=λσ H R=>tl σ H λx H1=>∃a,x = .ref a/\(∃xs,SqL K H1 a xs)/\R (Itl K a) H1
def MP(K:Vf)(tl:TE):TI:=λσ H R=>tl σ H λx H1=>∃a,x = .ref a/\(∃xs,SqT K H1 a xs)/\R (Itt K a) H1
theorem uY{l:Expr}{tl:TE}(hl:PE X l tl):PI X tg l (yS X.K tl):=by
 intro pins s σ H R I h;refine thn (hl pins s σ H _ I h) λv s1 ⟨x,H1,I1,r1,q1⟩=>?_;obtain⟨a,e,⟨xs,hq⟩,q⟩:=q1;subst e;cases r1;obtain⟨its,rv,p,hz⟩:=I1.list hq;refine wpAny_pyIter_list p.isList ?_;refine⟨s1.heap.objs.size,[s1.heap.objs.size],_,_,H1,rfl,I1.kept (t':=s1.toks) λb o e=>Zi _ e,wX a _,⟨_,Zy _ rfl,rfl,rfl⟩,λb hb=>?_,q⟩;have e:b=s1.heap.objs.size:=by simpa using hb
 subst e;exact I1.fpOk (Zg _) (I1.hok.fresh (Zg _))
theorem HY{l:Expr}{tl:TE}(hl:PE X l tl):PI X tg l (MP X.K tl):=by
 intro pins s σ H R I h;refine thn (hl pins s σ H _ I h) λv s1 ⟨x,H1,I1,r1,q1⟩=>?_;obtain⟨a,e,⟨xs,hq⟩,q⟩:=q1;subst e;cases r1;obtain⟨its,rv,p,hz⟩:=I1.tuple hq;refine UU (show s1.heap.IsTuple a its.toArray from p) ?_;refine⟨s1.heap.objs.size,[s1.heap.objs.size],_,_,H1,rfl,I1.kept (t':=s1.toks) λb o e=>Zi _ e,sI a _,⟨_,Zy _ rfl,rfl,rfl⟩,λb hb=>?_,q⟩;have e:b=s1.heap.objs.size:=by simpa using hb
 subst e;exact I1.fpOk (Zg _) (I1.hok.fresh (Zg _))
theorem qi{lo hi:Int}{tk:Nat}(I:Inv X pins σ H s)(h1:-(2 ^ 62)<=lo)(h2:lo < 2 ^ 62)(h3:-(2 ^ 62)<=hi)(h4:hi < 2 ^ 62)
  (q:R (Itr lo (hi - lo).toNat) H):wpAny (model X.prog X.w) X.A (pyIter (.ref s.heap.objs.size)) (PIE X pins σ tg R) E { s with heap:=s.heap.push { cls:=.type "range", data:=.fields #[.int lo t,.int hi u,.int 1 v] },toks:=tk }:=by
 refine wpAny_pyIter_range (IsRange.new ..) (small_one h1 h2 h3 h4) ?_;have I1:Inv X pins σ H { s with heap:=s.heap.push { cls:=.type "range", data:=.fields #[.int lo t,.int hi u,.int 1 v] },toks:=tk }:=I.kept λb o e=>Zi _ e
 refine⟨(s.heap.push { cls:=.type "range", data:=.fields #[.int lo t,.int hi u,.int 1 v] }).objs.size,[(s.heap.push { cls:=.type "range", data:=.fields #[.int lo t,.int hi u,.int 1 v] }).objs.size],_,_,H,rfl,
  I1.kept (t':=tk) λb o e=>Zi _ e,sJ _ lo (hi - lo).toNat,?_,λb hb=>?_,q⟩
 ·have e1:lo+((0:Nat):Int) * 1=lo:=by simp
  have e2:(((hi - lo).toNat:Nat):Int) - ((0:Nat):Int)=Builtin.Range.rangeSize lo hi 1:=by rw[rangeSize_one];split <;> lia
  show IsRangeIter _ _ (lo+((0:Nat):Int) * 1) ((((hi - lo).toNat:Nat):Int) - ((0:Nat):Int)) 1;rw[e1,e2];exact Zy _ rfl
 ·have e:b=(s.heap.push { cls:=.type "range", data:=.fields #[.int lo t,.int hi u,.int 1 v] }).objs.size:=by simpa using hb
  subst e;exact I1.fpOk (Zg _) (I1.hok.fresh (Zg _))
def GM(ta:TA):TI:=λσ H R=>ta σ H λvs H1=>∃j:Int,vs=[.int j]/\-(2 ^ 62)<=j/\j < 2 ^ 62/\R (Itr 0 j.toNat) H1
def GN(ta:TA):TI:=λσ H R=>ta σ H λvs H1=>∃i j:Int,vs=[.int i,.int j]/\(-(2 ^ 62)<=i/\i < 2 ^ 62/\-(2 ^ 62)<=j/\j < 2 ^ 62)/\R (Itr i (j - i).toNat) H1
theorem wY(hg:Gl X "range")(hm:X.mg "range" = none)(ha:PA X [a] ta)(hs:Um [a] X.env=[(false,eval a X.env)]:=by rfl):PI X tg (.Call (.Name "range" p) [a] [] pos) (GM ta):=by
 intro pins s σ H R I h;refine Call_ (fE I hg hm boot_range (Ws (thn (ha pos pins s σ H _ I h) λus s1 ⟨vs,H1,I1,r1,q1⟩=>?_) hs rfl));obtain⟨j,e,q1,q2,q⟩:=q1;subst e;cases r1 with
 |cons r rr=>
  cases rr;obtain⟨t,rfl⟩:=r;exact call_range_1 (qi I1 (by lia) (by lia) q1 q2 (by simpa using q))
theorem wZ(hg:Gl X "range")(hm:X.mg "range" = none)(ha:PA X [a,b] ta)(hs:Um [a,b] X.env=[(false,eval a X.env),(false,eval b X.env)]:=by rfl)(hs2:Um [b] X.env=[(false,eval b X.env)]:=by rfl) :
  PI X tg (.Call (.Name "range" p) [a,b] [] pos) (GN ta):=by
 intro pins s σ H R I h;refine Call_ (fE I hg hm boot_range (Ws (thn (ha pos pins s σ H _ I h) λus s1 ⟨vs,H1,I1,r1,q1⟩=>?_) (by rw[hs,hs2]) (by rw[hs2];rfl)));obtain⟨i,j,e,⟨q1,q2,q3,q4⟩,q⟩:=q1;subst e;cases r1 with
 |cons r rr=>
  cases rr with
  |cons r' rr=>
   cases rr;obtain⟨t,rfl⟩:=r;obtain⟨t',rfl⟩:=r';exact call_range_2 (qi I1 q1 q2 q3 q4 q)
def MQ(wi:TI)(g:TG)(tb:TS):TS:=λD σ H=>wi σ H λJ H1=>∃W:Nat->Nat->St->Hp->Prop,(∃m,W 0 m σ H1)/\∀i m σ H,W i m σ H ->
 (J.stop i H/\D.nx σ H)\/(J.go i H/\∃N:St->Hp->Prop,(∀σ' H',N σ' H'->∃m',m' < m/\W (i+1) m' σ' H')/\∀x H',J.yld i H x H'->g x σ H' λσ2 H2=>tb { D with nx:=N,ct:=N,bk:=D.nx } σ2 H2)
abbrev kI(fp:List Addr)(h:Heap):List (Addr × Obj):=fp.filterMap λb=>(h.get? b).map λo=>(b,o)
theorem eV(hb:b ∈ fp)(e:h.get? b=some o):(b,o) ∈ kI fp h:=Yu.mpr ⟨b,hb,by rw[e];rfl⟩
theorem w8(hp:p ∈ kI fp h):p.1 ∈ fp/\h.get? p.1=some p.2:=by
 obtain⟨b,hb,e⟩:=Yu.mp hp;cases q:h.get? b with
 |none=>rw[q] at e;cases e
 |some o=>
  rw[q] at e;have e':(b,o)=p:=Option.some.inj e;subst e';exact⟨hb,q⟩
theorem Inv.pinned(I:Inv X pins σ H s)(hf:∀b ∈ fp,gU X pins H b)(ho:∀b ∈ fp,∃o,s.heap.get? b=some o/\∀v,o.data ≠ .cell v):Inv X (pins++kI fp s.heap) σ H s:=
 I.pins_of λp hp=>(ZJ.mp hp).elim (λz=>I.pin p (Zx _ z)) λz=>by
  obtain⟨hb,e⟩:=w8 z;obtain⟨f0,f1,f2,_⟩:=hf p.1 hb;obtain⟨o,e',d⟩:=ho p.1 hb;rw[e] at e';cases e';exact⟨e,f0,f1,f2,d⟩
theorem Inv.unpinned(I:Inv X (pins++pl) σ H s):Inv X pins σ H s:=I.pins_of λp hp=>I.pin p (Zx _ (ZV _ hp))
theorem HZ(hp:PassesOwn (model X.prog X.w) X.A X.env X.xe)(hc:X.calm=true)(hi:PI X tg iter wi)(hg:PG X tg g)(hb:PSs X body tb)
  (hs:∀x,VZ iter X.env x=pure x:=by intro _;rfl):PS X (.For tg iter body [] pos) (MQ wi g tb):=by
 intro pins s σ H D I h;refine wpAny_For (thn (hi pins s σ H _ I h) λv s1 h1=>thn h1 λitv s2 h2=>?_) hs;obtain⟨it,fp,tn,J,H2,e,I2,T,st2,f2,W,⟨m0,w0⟩,turn⟩:=h2;subst e;have stat:∀ {H':Hp},(∀b ∈ fp,H' b=none)->∀b ∈ fp,gU X pins H' b:=λhn b hb=>⟨hn b hb,(f2 b hb).2⟩;refine codeAny_forLoop_any (λn s'=>∃i σ' H',Inv X pins σ' H' s'/\tn i s'.heap/\(∀b ∈ fp,H' b=none)/\W i n σ' H') ?_ m0 ⟨0,σ,H2,I2,st2,λb hb=>(f2 b hb).1,w0⟩;rintro n s3 ⟨i,σ3,H3,I3,st3,fr3,w3⟩;rcases turn i n σ3 H3 w3 with ⟨stop,qn⟩ |⟨go,N,hN,step⟩
 ·refine UR hp (thn (T.done X rfl rfl rfl hc i pins s3 σ3 H3 X.xe I3 (stat fr3) st3 stop) λr s4 ⟨hr,I4⟩=>?_);subst hr;exact UE ⟨σ3,H3,I4,qn⟩
 ·refine UR hp (thn (T.item X rfl rfl rfl hc i pins s3 σ3 H3 X.xe I3 (stat fr3) st3 go) λr s4 ⟨u,hr,h4⟩=>?_);subst hr;refine UR hp (thn h4 λ_ s5 ⟨x,H5,I5,r5,y5,st5,fr5⟩=>?_);have I5':=I5.pinned (stat fr5) (T.obj _ _ st5);refine UR hp (thn (hg _ s5 σ3 H5 x u _ I5' r5 (step x H5 y5)) λ_ s6 ⟨σ6,H6,I6,q6⟩=>?_);refine UR hp (thn (hb _ s6 σ6 H6 _ I6 q6) λf s7 q7=>?_)
  have again:∀ {σ7:St} {H7:Hp},Inv X (pins++kI fp s5.heap) σ7 H7 s7->N σ7 H7->∃m,m < n/\∃i σ' H',Inv X pins σ' H' s7/\tn i s7.heap/\(∀b ∈ fp,H' b=none)/\W i m σ' H':=λ{σ7 H7} I7 n7=>by
   obtain⟨m',hm,w7⟩:=hN σ7 H7 n7;refine⟨m',hm,i+1,σ7,H7,I7.unpinned,T.keep _ _ _ st5 λb hb o e=>(I7.pin (b,o) (Zx _ (Zx _ (eV hb e)))).1,λb hb=>?_,w7⟩;obtain⟨o,e,d⟩:=T.obj _ _ st5 b hb;exact(I7.pin (b,o) (Zx _ (Zx _ (eV hb e)))).2.1
  cases f with
  |next=>obtain⟨σ7,H7,I7,n7⟩:=q7;exact again I7 n7
  |cont=>obtain⟨σ7,H7,I7,n7⟩:=q7;exact again I7 n7
  |brk=>obtain⟨σ7,H7,I7,q7⟩:=q7;exact⟨σ7,H7,I7.unpinned,q7⟩
  |ret v=>obtain⟨x7,σ7,H7,I7,r7,q7⟩:=q7;exact⟨x7,σ7,H7,I7.unpinned,r7,q7⟩
end
@[inline]abbrev R2:=V->V->Hp->VK->Prop
def OpR(X:Cx)(f:Value->Value->Sem Value)(r:R2):Prop:=
 ∀ (pins:List (Addr × Obj)) (s:Shared) (σ:St) (H:Hp) (x y:V) (v u:Value) (Q:VK),Inv X pins σ H s->aI x v->aI y u->r x y H Q ->
  wpAny (model X.prog X.w) X.A (f v u) (EP X pins σ Q) X.xe s
def UnR(X:Cx)(f:Value->Sem Value)(r:V->Hp->VK->Prop):Prop:=
 ∀ (pins:List (Addr × Obj)) (s:Shared) (σ:St) (H:Hp) (x:V) (v:Value) (Q:VK),Inv X pins σ H s->aI x v->r x H Q ->
  wpAny (model X.prog X.w) X.A (f v) (EP X pins σ Q) X.xe s
def aX(X:Cx)(f:Value)(r:List V->Hp->VK->Prop):Prop:=
 ∀ (pins:List (Addr × Obj)) (s:Shared) (σ:St) (H:Hp) (xs:List V) (us:List Value) (Q:VK),Inv X pins σ H s->aO xs us->r xs H Q ->
  wpAny (model X.prog X.w) X.A (call f us) (EP X pins σ Q) X.xe s
def PR(X:Cx)(r:V->Hp->(Bool->Hp->Prop)->Prop):Prop:=
 ∀ (pins:List (Addr × Obj)) (s:Shared) (σ:St) (H:Hp) (x:V) (v:Value) (Q:Bool->Hp->Prop),Inv X pins σ H s->aI x v->r x H Q ->
  wpAny (model X.prog X.w) X.A (truthy v) (TP X pins σ Q) X.xe s
def tOp(r:R2)(ta tb:TE):TE:=λσ H Q=>ta σ H λx H1=>tb σ H1 λy H2=>r x y H2 Q
def tUn(r:V->Hp->VK->Prop)(ta:TE):TE:=λσ H Q=>ta σ H λx H1=>r x H1 Q
def rI(C:Int->Int->Prop)(g:Int->Int->V):R2:=λx y H Q=>∃i j,x = .int i/\y = .int j/\C i j/\Q (g i j) H
def rI0(g:Int->Int->V):R2:=λx y H Q=>∃i j,x = .int i/\y = .int j/\Q (g i j) H
def rU(g:Int->V):V->Hp->VK->Prop:=λx H Q=>∃i,x = .int i/\Q (g i) H
section
variable {X:Cx} {a b c:Expr} {ta tb tc:TE} {pos:Pos}
theorem Ia(ha:PE X a ta)(hb:PE X b tb){pins:List (Addr × Obj)}{s:Shared}{σ:St}{H:Hp}{R:V->V->Hp->Prop}(I:Inv X pins σ H s)
  (h:ta σ H λx H1=>tb σ H1 λy H2=>R x y H2) {Q:Value->Shared->Prop} {f:Value->Value->Sem Value}
  (hf:∀v u s2 x y H2,Inv X pins σ H2 s2->aI x v->aI y u->R x y H2->wpAny (model X.prog X.w) X.A (f v u) Q X.xe s2) :
  wpAny (model X.prog X.w) X.A (eval a X.env) (λv s₁=>wpAny (model X.prog X.w) X.A (eval b X.env) (λu s₂=>wpAny (model X.prog X.w) X.A (f v u) Q X.xe s₂) X.xe s₁) X.xe s:=by
 refine thn (ha pins s σ H _ I h) λv s1 ⟨x,H1,I1,r1,q1⟩=>?_;refine thn (hb pins s1 σ H1 _ I1 q1) λu s2 ⟨y,H2,I2,r2,q2⟩=>?_;exact hf v u s2 x y H2 I2 r1 r2 q2
theorem GO{op:WU}{r:R2}(ho:OpR X (VH op) r)(ha:PE X a ta)(hb:PE X b tb):PE X (.BinOp a op b pos) (tOp r ta tb):=by
 intro pins s σ H Q I h;exact wpAny_BinOp (Ia ha hb I h λv u s2 x y H2 I2 rx ry q=>ho pins s2 σ H2 x y v u Q I2 rx ry q)
theorem GP(ho:UnR X (unaryOp op) r)(ha:PE X a ta):PE X (.UnaryOp op a pos) (tUn r ta):=by
 intro pins s σ H Q I h;exact UnaryOp_ (thn (ha pins s σ H _ I h) λv s1 ⟨x,H1,I1,r1,q1⟩=>ho pins s1 σ H1 x v Q I1 r1 q1)
theorem opI{f:Value->Value->Sem Value}{C:Int->Int->Prop}{g:Int->Int->Int}
  (rule:∀ (i j:Int) (t u:Tok) (s:Shared) (Q:Value->Shared->Prop) (E:Value->Shared->Prop),C i j->Q (.int (g i j) s.toks) { s with toks:=s.toks+1 }->wpAny (model X.prog X.w) X.A (f (.int i t) (.int j u)) Q E s) :
  OpR X f (rI C λi j=>.int (g i j)):=by
 intro pins s σ H x y v u Q I rx ry h;obtain⟨i,j,rfl,rfl,hc,q⟩:=h;obtain⟨t,rfl⟩:=rx;obtain⟨t',rfl⟩:=ry;exact rule i j t t' s _ _ hc ⟨.int (g i j),H,I.tok _,⟨_,rfl⟩,q⟩
theorem MR{f:Value->Value->Sem Value}{g:Int->Int->Int}
  (rule:∀ (i j:Int) (t u:Tok) (s:Shared) (Q:Value->Shared->Prop) (E:Value->Shared->Prop),Q (.int (g i j) s.toks) { s with toks:=s.toks+1 }->wpAny (model X.prog X.w) X.A (f (.int i t) (.int j u)) Q E s) :
  OpR X f (rI0 λi j=>.int (g i j)):=by
 intro pins s σ H x y v u Q I rx ry h;obtain⟨i,j,rfl,rfl,q⟩:=h;obtain⟨t,rfl⟩:=rx;obtain⟨t',rfl⟩:=ry;exact rule i j t t' s _ _ ⟨.int (g i j),H,I.tok _,⟨_,rfl⟩,q⟩
theorem CT{f:Value->Value->Sem Value}{g:Int->Int->Bool}
  (rule:∀ (i j:Int) (t u:Tok) (s:Shared) (Q:Value->Shared->Prop) (E:Value->Shared->Prop),Q (.bool (g i j)) s->wpAny (model X.prog X.w) X.A (f (.int i t) (.int j u)) Q E s) :
  OpR X f (rI0 λi j=>.bl (g i j)):=by
 intro pins s σ H x y v u Q I rx ry h;obtain⟨i,j,rfl,rfl,q⟩:=h;obtain⟨t,rfl⟩:=rx;obtain⟨t',rfl⟩:=ry;exact rule i j t t' s _ _ ⟨.bl (g i j),H,I,rfl,q⟩
def PU(i j:Int):Prop:=0<=j/\j<=1000000/\i.natAbs < 2 ^ 64
def MS(i j:Int):Prop:=(-(2 ^ 64) < i/\i < 2 ^ 64)\/(-(2 ^ 64) < j/\j < 2 ^ 64)
theorem MS.ok{i j:Int}(h:MS i j):IntMulOk i j:=by
 rcases h with ⟨h1,h2⟩ |⟨h1,h2⟩
 ·exact .of_left (intBits_le_64 h1 h2)
 ·exact .of_right (intBits_le_64 h1 h2)
theorem Ib:OpR X (VH .Add) (rI0 λi j=>.int (i+j)):=MR λ_ _ _ _ _ _ _ q=>add_int q
theorem Ic:OpR X (VH .Sub) (rI0 λi j=>.int (i - j)):=MR λ_ _ _ _ _ _ _ q=>sub_int q
theorem Ie:OpR X (VH .Mult) (rI MS λi j=>.int (i * j)):=opI λ_ _ _ _ _ _ _ hc q=>mul_int q hc.ok
theorem Ig:OpR X (VH .Mod) (rI (λ_ j=>0 < j) λi j=>.int (i % j)):=opI λi j _ _ _ _ _ hc q=>by
 have h1:(0:Int) < j:=hc;exact mod_int' (by lia) (by rw[Int.fmod_eq_emod_of_nonneg i (by lia)];exact q)
theorem Ih:OpR X (VH .Pow) (rI PU λi j=>.int (i ^ j.toNat)):=opI λ_ _ _ _ _ _ _ hc q=>pow_int_small hc.1 hc.2.1 hc.2.2 q
theorem unI{f:Value->Sem Value}{g:Int->Int}
  (rule:∀ (i:Int) (t:Tok) (s:Shared) (Q:Value->Shared->Prop) (E:Value->Shared->Prop),Q (.int (g i) s.toks) { s with toks:=s.toks+1 }->wpAny (model X.prog X.w) X.A (f (.int i t)) Q E s) :
  UnR X f (rU λi=>.int (g i)):=by
 intro pins s σ H x v Q I rx h;obtain⟨i,rfl,q⟩:=h;obtain⟨t,rfl⟩:=rx;exact rule i t s _ _ ⟨.int (g i),H,I.tok _,⟨_,rfl⟩,q⟩
theorem yT:UnR X (unaryOp .USub) (rU λi=>.int (-i)):=unI λ_ _ _ _ _ q=>neg_int q
end
abbrev PV:V->V->Bool
 |.non,.non=>true |.non,.int _=>true |.int _,.non=>true |.non,.bl _=>true |.bl _,.non=>true |.non,.str _=>true |.str _,.non=>true
 |.int _,.int _=>true |.bl _,.bl _=>true |.str _,.str _=>true |.byt _,.byt _=>true
 |.int _,.str _=>true |.str _,.int _=>true |.bl _,.str _=>true |.str _,.bl _=>true
 |_,_=>false
def rNe:R2:=λx y H Q=>PV x y=true/\Q (.bl (!decide (x=y))) H
theorem CU{i j:Int}:decide (V.int i=V.int j)=(i == j):=by
 rw[Yc];simp
theorem Ii:decide (V.bl i=V.bl j)=(i == j):=by
 rw[Yc];simp
theorem CV:decide (V.str i=V.str j)=(i == j):=by
 rw[Yc];simp
theorem CW:decide (V.byt i=V.byt j)=(i.toList == j.toList):=by
 rw[Yc];cases i;cases j;simp
section
variable {X:Cx} {a b c:Expr} {ta tb tc:TE} {pos:Pos}
theorem bD(I:Inv X pins σ H s)(q:Q (.bl k) H)(e:k=k'):EP X pins σ Q (.bool k') s:=by
 subst e;exact⟨.bl k,H,I,rfl,q⟩
theorem MU:OpR X (VT .NotEq) rNe:=by
 intro pins s σ H x y v u Q I rx ry h;obtain⟨hs,q⟩:=h;cases x with
 |non=>
  cases rx;cases y with
  |non=>cases ry;exact PySem.EqNone.ne_none_none (bD I q (by simp))
  |bl j=>cases ry;exact PySem.EqNone.ne_none_bool (bD I q (by simp))
  |int j=>obtain⟨t',rfl⟩:=ry;exact PySem.EqNone.ne_none_int (bD I q (by simp))
  |str j=>obtain⟨t',rfl⟩:=ry;exact PySem.EqNone.ne_none_str (bD I q (by simp))
  |_=>exact absurd (show false=true from hs) Zd
 |bl i=>
  cases rx;cases y with
  |non=>cases ry;exact PySem.EqNone.ne_bool_none (bD I q (by simp))
  |bl j=>cases ry;exact ne_bool (bD I q (congrArg not Ii))
  |str j=>obtain⟨t',rfl⟩:=ry;exact PySem.EqMixed.ne_bool_str (bD I q (by simp))
  |_=>exact absurd (show false=true from hs) Zd
 |int i=>
  obtain⟨t,rfl⟩:=rx;cases y with
  |non=>cases ry;exact PySem.EqNone.ne_int_none (bD I q (by simp))
  |int j=>obtain⟨t',rfl⟩:=ry;exact ne_int (bD I q (congrArg not CU))
  |str j=>obtain⟨t',rfl⟩:=ry;exact PySem.EqMixed.ne_int_str (bD I q (by simp))
  |_=>exact absurd (show false=true from hs) Zd
 |str i=>
  obtain⟨t,rfl⟩:=rx;cases y with
  |non=>cases ry;exact PySem.EqNone.ne_str_none (bD I q (by simp))
  |bl j=>cases ry;exact PySem.EqMixed.ne_str_bool (bD I q (by simp))
  |int j=>obtain⟨t',rfl⟩:=ry;exact PySem.EqMixed.ne_str_int (bD I q (by simp))
  |str j=>obtain⟨t',rfl⟩:=ry;exact ne_str (bD I q (congrArg not CV))
  |_=>exact absurd (show false=true from hs) Zd
 |byt i=>
  obtain⟨t,rfl⟩:=rx;cases y with
  |byt j=>obtain⟨t',rfl⟩:=ry;exact PySem.W.ne_bytes (bD I q (congrArg not CW))
  |_=>exact absurd (show false=true from hs) Zd
 |_=>cases y <;> exact absurd (show false=true from hs) Zd
theorem MV:OpR X (VT .Lt) (rI0 λi j=>.bl (decide (i < j))):=CT λ_ _ _ _ _ _ _ q=>lt_int q
theorem MW:OpR X (VT .LtE) (rI0 λi j=>.bl (decide (i<=j))):=CT λ_ _ _ _ _ _ _ q=>le_int q
theorem GQ:OpR X (VT .Gt) (rI0 λi j=>.bl (decide (j < i))):=CT λ_ _ _ _ _ _ _ q=>gt_int q
theorem MX:OpR X (VT .GtE) (rI0 λi j=>.bl (decide (j<=i))):=CT λ_ _ _ _ _ _ _ q=>ge_int q
theorem Ij:OpR X (VT .Is) (λx y H Q=>y = .non/\Q (.bl (decide (x = .non))) H):=by
 intro pins s σ H x y v u Q I rx ry h;obtain⟨rfl,q⟩:=h;cases ry;refine is_none_gen (bD I q ?_)
 cases x <;> first
  |(cases rx;rfl)
  |(obtain⟨t,rfl⟩:=rx;rfl)
theorem CY:OpR X (VT .IsNot) (λx y H Q=>y = .non/\Q (.bl (!decide (x = .non))) H):=by
 intro pins s σ H x y v u Q I rx ry h;obtain⟨rfl,q⟩:=h;cases ry;refine isnot_none_gen (bD I q ?_)
 cases x <;> first
  |(cases rx;rfl)
  |(obtain⟨t,rfl⟩:=rx;rfl)
theorem CZ{op:CmpOp}{r:R2}(ho:OpR X (VT op) r)(ha:PE X a ta)(hb:PE X b tb)(hm:VG op b=false):PE X (.Compare a [op] [b] pos) (tOp r ta tb):=by
 intro pins s σ H Q I h;exact wpAny_Compare1 (Ia ha hb I h λv u s2 x y H2 I2 rx ry q=>ho pins s2 σ H2 x y v u Q I2 rx ry q) hm
def GR(t:TE):TT:=λσ H Q=>t σ H λx H'=>∃k,x = .bl k/\Q k H'
theorem oB(ho:OpR X (VT op) r)(ha:PE X a ta)(hb:PE X b tb)(hm:VG op b=false):PT X (.Compare a [op] [b] pos) (GR (tOp r ta tb)):=by
 intro pins s σ H Q I h
 refine wpAny_isTrue_Compare1 (thn (ha pins s σ H _ I h) λv s1 ⟨x,H1,I1,r1,q1⟩=>thn (hb pins s1 σ H1 _ I1 q1) λu s2 ⟨y,H2,I2,r2,q2⟩=>
  thn (ho pins s2 σ H2 x y v u _ I2 r1 r2 q2) λc s3 ⟨z,H3,I3,r3,k,e,q3⟩=>?_) hm
 subst e;cases r3;exact U1 ⟨H3,I3,q3⟩
def sK(r r':R2)(ta tb tc:TE):TE:=λσ H Q=>ta σ H λx H1=>tb σ H1 λy H2=>r x y H2 λz H3=>∃k,z = .bl k ∧
 (if k=true then tc σ H3 λw' H4=>r' y w' H4 Q else Q (.bl false) H3)
theorem yU(ho:OpR X (VT op) r)(ho':OpR X (VT op') r')(ha:PE X a ta)(hb:PE X b tb)(hc:PE X c tc)
  (hm:lastMarks [op,op'] [b,c]=false:=by with_unfolding_all rfl):PE X (.Compare a [op,op'] [b,c] pos) (sK r r' ta tb tc):=by
 intro pins s σ H Q I h
 refine Compare_chain (thn (ha pins s σ H _ I h) λv s1 ⟨x,H1,I1,r1,q1⟩=>chain_link (thn (hb pins s1 σ H1 _ I1 q1) λu s2 ⟨y,H2,I2,r2,q2⟩=>
  thn (ho pins s2 σ H2 x y v u _ I2 r1 r2 q2) λd s3 ⟨z,H3,I3,r3,k,e,q3⟩=>?_)) hm
 subst e;cases r3;refine U1 ?_;cases k with
 |false=>exact ite_ff ⟨.bl false,H3,I3,rfl,q3⟩
 |true=>exact ite_tt (chain_last (thn (hc pins s3 σ H3 _ I3 q3) λw' s4 ⟨z',H4,I4,r4,q4⟩=>ho' pins s4 σ H4 y z' u w' Q I4 r2 r4 q4))
theorem yV(ho:OpR X (VT op) r)(ho':OpR X (VT op') r')(ha:PE X a ta)(hb:PE X b tb)(hc:PE X c tc)
  (hm:lastMarks [op,op'] [b,c]=false:=by with_unfolding_all rfl):PT X (.Compare a [op,op'] [b,c] pos) (GR (sK r r' ta tb tc)):=by
 intro pins s σ H Q I h
 refine isTrue_chain (thn (ha pins s σ H _ I h) λv s1 ⟨x,H1,I1,r1,q1⟩=>test_link (thn (hb pins s1 σ H1 _ I1 q1) λu s2 ⟨y,H2,I2,r2,q2⟩=>
  thn (ho pins s2 σ H2 x y v u _ I2 r1 r2 q2) λd s3 ⟨z,H3,I3,r3,k,e,q3⟩=>?_)) hm
 subst e;cases r3;refine U1 ?_;cases k with
 |false=>
  obtain⟨k',e',q'⟩:=q3;cases e';exact ite_ff ⟨H3,I3,q'⟩
 |true=>
  refine ite_tt (test_last (thn (hc pins s3 σ H3 _ I3 q3) λw' s4 ⟨z',H4,I4,r4,q4⟩=>thn (ho' pins s4 σ H4 y z' u w' _ I4 r2 r4 q4) λd' s5 ⟨z2,H5,I5,r5,k2,e2,q5⟩=>?_));subst e2;cases r5;exact U1 ⟨H5,I5,q5⟩
def C0(K:Vf)(x:V)(H:Hp)(k:Bool):Prop:=
 match x with
 |.non=>k=false
 |.bl b=>k=b
 |.int i=>k=(i != 0)
 |.str y=>y.length<=sizeLine/\k=((y.length:Int) != 0)
 |.byt y=>y.size<=sizeLine/\k=((y.size:Int) != 0)
 |.ref p=>(∃xs,SqL K H p xs/\k = !xs.isEmpty)\/(∃xs,SqT K H p xs/\k = !xs.isEmpty)\/∃kvs,H p=some (.dK kvs)/\k = !kvs.isEmpty
 |_=>False
theorem sL{κ:Type}{kvs:List (κ × V)}{vs:List (κ × Value)}(r:KV kvs vs):(!vs.isEmpty) = !kvs.isEmpty:=by
 cases r <;> rfl
theorem kJ{xs:List V}{its:List Value}(r:aO xs its):(!its.toArray.isEmpty) = !xs.isEmpty:=by
 cases r <;> simp
theorem jj:(sizeLine:Nat) < 2 ^ 63:=by rw[Uk];decide
theorem Ik:PR X (λx H Q=>∃k,C0 X.K x H k/\Q k H):=by
 intro pins s σ H x v Q I rx h;obtain⟨k,e,q⟩:=h;have hl:=jj;have hs:sizeLine=16777216:=Uk;cases x with
 |non=>
  cases rx;have e':k=false:=e;subst e';exact truthy_none ⟨H,I,q⟩
 |bl b=>
  cases rx;have e':k=b:=e;subst e';exact U1 ⟨H,I,q⟩
 |int i=>
  obtain⟨t,rfl⟩:=rx;have e':k=(i != 0):=e;subst e';exact PySem.P.truthy_int ⟨H,I,q⟩
 |str y=>
  obtain⟨t,rfl⟩:=rx;obtain⟨hy,e'⟩:y.length<=sizeLine/\k=((y.length:Int) != 0):=e;subst e';exact PySem.P.truthy_str (by lia) ⟨H,I.tok _,q⟩
 |byt y=>
  obtain⟨t,rfl⟩:=rx;obtain⟨hy,e'⟩:y.size<=sizeLine/\k=((y.size:Int) != 0):=e;subst e';exact PySem.W.truthy_bytes (by lia) ⟨H,I.tok _,q⟩
 |ref p=>
  cases rx;have e':(∃xs,SqL X.K H p xs/\k = !xs.isEmpty)\/(∃xs,SqT X.K H p xs/\k = !xs.isEmpty)\/∃kvs,H p=some (.dK kvs)/\k = !kvs.isEmpty:=e;rcases e' with ⟨xs,hx,e'⟩ |⟨xs,hx,e'⟩ |⟨kvs,hx,e'⟩
  ·subst e';obtain⟨its,r,pl,hz⟩:=I.list hx;have hlen:=r.length;exact wpAny_truthy_list pl.isList (by simp only[Zl];lia) ⟨H,I.tok _,by rw[kJ r];exact q⟩
  ·subst e';obtain⟨its,r,pl,hz⟩:=I.tuple hx;have hlen:=r.length;exact truthy_tuple pl (by simp only[Zl];lia) ⟨H,I.tok _,by rw[kJ r];exact q⟩
  ·subst e';obtain⟨hz,hS,vs,r,m⟩:kvs.length<=sizeLine/\(p == Us)=false/\∃vs,KV kvs vs/\s.heap.DictOf (bB X.prog X.w) p vs:=I.hok p _ hx;have hlen:kvs.length=vs.length:=Paired.length r;exact wpAny_truthy_dict hS m (by lia) ⟨H,I.tok _,by rw[sL r];exact q⟩
 |_=>exact(show False from e).elim
theorem yW(ha:PE X a ta)(he:∀whole,isTrue a X.env whole=(do let v <-whole;standAt a.pos;holding [v] (truthy v))) :
  PT X a (λσ H Q=>ta σ H λx H'=>∃k,C0 X.K x H' k/\Q k H'):=by
 intro pins s σ H Q I h;exact isTrue_plain (thn (ha pins s σ H _ I h) λv s1 ⟨x,H1,I1,r1,q1⟩=>Ik pins s1 σ H1 x v Q I1 r1 q1) (he _)
theorem sM:OpR X (VH .Add) (λx y H Q=>∃i j,x = .str i/\y = .str j/\i.length+j.length<=sizeLine/\Q (.str (i++j)) H):=by
 intro pins s σ H x y v u Q I rx ry h;obtain⟨i,j,rfl,rfl,hz,q⟩:=h;obtain⟨t,rfl⟩:=rx;obtain⟨t',rfl⟩:=ry;exact add_str (λt' tk=>⟨.str (i++j),H,I.tok _,⟨_,rfl⟩,q⟩) hz
theorem cx(r:aO [x] us):∃u,us=[u]/\aI x u:=by
 cases r with
 |cons r1 r2=>cases r2;exact⟨_,rfl,r1⟩
theorem uZ(r:aO [x,y] us):∃u w',us=[u,w']/\aI x u/\aI y w':=by
 cases r with
 |cons r1 r2=>
  cases r2 with
  |cons r3 r4=>cases r4;exact⟨_,_,rfl,r1,r3⟩
theorem w9(hc:X.calm=true):aX X (.builtin "max") (λxs H Q=>∃i j,xs=[.int i,.int j]/\Q (.int (if j > i then j else i)) H):=by
 intro pins s σ H xs us Q I r h;obtain⟨i,j,rfl,q⟩:=h;obtain⟨u,w',rfl,⟨t,rfl⟩,⟨t',rfl⟩⟩:=uZ r;refine max_two_ints (I.ok.hd hc) λh' tk k=>⟨_,H,I.kept k,?_,q⟩;by_cases hj:j > i
 ·rw[if_pos hj,if_pos hj];exact⟨_,rfl⟩
 ·rw[if_neg hj,if_neg hj];exact⟨_,rfl⟩
theorem xa(hc:X.calm=true):aX X (.builtin "min") (λxs H Q=>∃i j,xs=[.int i,.int j]/\Q (.int (if j < i then j else i)) H):=by
 intro pins s σ H xs us Q I r h;obtain⟨i,j,rfl,q⟩:=h;obtain⟨u,w',rfl,⟨t,rfl⟩,⟨t',rfl⟩⟩:=uZ r;refine min_two_ints (I.ok.hd hc) λh' tk k=>⟨_,H,I.kept k,?_,q⟩;by_cases hj:j < i
 ·rw[if_pos hj,if_pos hj];exact⟨_,rfl⟩
 ·rw[if_neg hj,if_neg hj];exact⟨_,rfl⟩
end
structure ObjM(h:Heap)(x dx C:Addr)(mA:Str->Option Value):Prop where
 obj:h.get? x=some (Vo C dx)
 ns:h.Ns1 dx mA
 ne:dx ≠ x
theorem xc{h:Heap}{dx:Addr}{mA:Str->Option Value}(n:h.Ns1 dx mA):∃od,h.get? dx=some od/\∀name,Vw name od=some (mA name):=by
 obtain⟨o,es,ep,ho,hd,hk,_,hm⟩:=n;refine⟨o,ho,λname=>?_⟩;have e:=hm name;unfold nsFind findBy at e;rw[<-Array.find?_toList] at e;unfold Vw;rw[hd];dsimp only;split
 ·rename_i y q;rw[q] at e;exact congrArg some e
 ·rename_i q;rw[q] at e
  have a:es.toList.any (·.refKey)=false:=by
   rw[List.any_eq_false];intro y hy;obtain⟨z,t,hkey⟩:=hk y (Xm.mp hy);simp[DictEntry.refKey,hkey]
  have a':¬ es.toList.any (·.refKey)=true:=by rw[a];exact Zd
  rw[if_neg a'];exact congrArg some e
theorem ObjM.look(I:ObjM h x dx C mA):∃od,PySem.W.InstAt h x (Vo C dx) C (some od)/\∀name,Vw name od=some (mA name):=
 let ⟨od,ho,hl⟩:=xc I.ns
 ⟨od,⟨I.obj,rfl,rfl,ho⟩,hl⟩
section
variable {P:Program} {w:World} {H H':Hp} {h h':Heap} {a C dx:Addr} {fs fs':List (Str × V)}
theorem C1(hok:HOk P w H h)(e:H a=some (.ins C dx fs)):∃mA,ObjM h a dx C mA/\(∀f,HM (fs.lookup f) (mA f))/\PySem.Within mA (fs.map (·.1))/\fs.length<=1000/\H dx=some (.own a):=by
 obtain⟨d,z,ne,ob,mA,n,r,q⟩:=(show bp P w H h a (.ins C dx fs) from hok a _ e);exact⟨mA,⟨ob,n,ne⟩,r,q,z,d⟩
end
structure Cls(K:Vf)(C:Addr):Prop where
 pg:VA K C Str.empty=true
 hd:PySem.W.hasDictIn K C=true
 po:PySem.W.plainOver K C=true
 sa:Vl K (.ref C) "__setattr__" = some (some (.builtin "object.__setattr__"))
theorem Cls.get{K:Vf}{C:Addr}(c:Cls K C)(f:Str):VA K C f=true:=c.pg
section
variable {X:Cx} {pins:List (Addr × Obj)} {σ:St} {H:Hp} {s:Shared} {A:Around} {E:Value->Shared->Prop} {Q:Value->Shared->Prop} {c:Value} {b:Bool}
inductive TyOf(K:Vf)(H:Hp):V->Value->Prop where
 |non:TyOf K H .non (.type "NoneType")
 |bl (x:Bool):TyOf K H (.bl x) (.type "bool")
 |int (i:Int):TyOf K H (.int i) (.type "int")
 |str (x:Str):TyOf K H (.str x) (.type "str")
 |flt (x:UInt64):TyOf K H (.flt x) (.type "float")
 |lst {a:Addr} {xs:List V} (e:H a=some (.lst xs)):TyOf K H (.ref a) (.type "list")
 |frz {a:Addr} {o:Obj} {xs:List V} (e:H a=some (.frz o (.lst xs))):TyOf K H (.ref a) (.type "list")
 |tup {a:Addr} {xs:List V} (e:H a=some (.tup xs)):TyOf K H (.ref a) (.type "tuple")
 |dK {a:Addr} {kvs:List (Key × V)} (e:H a=some (.dK kvs)):TyOf K H (.ref a) (.type "dict")
 |dT {a:Addr} {kvs:List (List Key × V)} (e:H a=some (.dT kvs)):TyOf K H (.ref a) (.type "dict")
 |ins {a C dx:Addr} {fs:List (Str × V)} (e:H a=some (.ins C dx fs)) (cl:Cls K C) (ha:Vl K (.ref C) "__class__" = some (some (.builtin "object.__class__")))
   (hn:PySem.W.specialIn K (.builtin "object.__class__") "__get__" = some (some (.builtin "getset_descriptor.__get__"))) (htk:PySem.W.takesIn K (.builtin "object.__class__")=some true)
   (hm:Vy K C (.type "object")=some true):TyOf K H (.ref a) (.ref C)
theorem xg(I:Inv X pins σ H s)(rx:aI x u)(ty:TyOf X.K H x t)(e:Vt X.K t c=some b)(h:∀tk,Q (.bool b) { s with toks:=tk }) :
  wpAny (model X.prog X.w) A (call (.builtin "isinstance") [u,c]) Q E s:=by
 cases ty with
 |non=>cases (show u=Value.none from rx);exact Vr PySem.W.kitx_none I.kIn True.intro e (λz=>nomatch z) h
 |bl y=>cases (show u=Value.bool y from rx);exact Vr PySem.W.kitx_bool I.kIn True.intro e (λz=>nomatch z) h
 |int i=>obtain⟨t,q⟩:=(show ∃t,u=Value.int i t from rx);cases q;exact Vr PySem.W.kitx_int I.kIn True.intro e (λz=>nomatch z) h
 |str y=>obtain⟨t,q⟩:=(show ∃t,u=Value.str y t from rx);cases q;exact Vr PySem.W.kitx_str I.kIn True.intro e (λz=>nomatch z) h
 |flt y=>obtain⟨t,q⟩:=(show ∃t,u=Value.float y t from rx);cases q;exact Vr PySem.W.kitx_float I.kIn True.intro e (λz=>nomatch z) h
 |@lst a xs ea=>
  cases (show u=Value.ref a from rx);obtain⟨_,_,n,_,h1⟩:=(show bp X.prog X.w H s.heap a (.lst xs) from I.hok a _ ea);exact Vr Vv I.kIn ⟨_,h1,rfl⟩ e (λz=>nomatch z) h
 |@frz a ob xs ea=>
  cases (show u=Value.ref a from rx);obtain⟨_,_,_,n,_,h1⟩:=(show bp X.prog X.w H s.heap a (.frz ob (.lst xs)) from I.hok a _ ea);exact Vr Vv I.kIn ⟨_,h1,rfl⟩ e (λz=>nomatch z) h
 |@tup a xs ea=>
  cases (show u=Value.ref a from rx);obtain⟨_,_,_,p⟩:=(show bp X.prog X.w H s.heap a (.tup xs) from I.hok a _ ea);obtain⟨o,h1,h2,_⟩:=p;exact Vr PySem.W.kitx_tuple I.kIn ⟨o,h1,h2⟩ e (λz=>nomatch z) h
 |@dK a kvs ea=>
  cases (show u=Value.ref a from rx);obtain⟨_,_,vs,_,p⟩:=(show bp X.prog X.w H s.heap a (.dK kvs) from I.hok a _ ea);obtain⟨o,es,ep,h1,h2,_⟩:=p;exact Vr Vu I.kIn ⟨o,h1,h2.1⟩ e (λz=>nomatch z) h
 |@dT a kvs ea=>
  cases (show u=Value.ref a from rx);obtain⟨_,_,xs,_,o,es,ep,h1,h2,_⟩:=(show bp X.prog X.w H s.heap a (.dT kvs) from I.hok a _ ea);exact Vr Vu I.kIn ⟨o,h1,h2.1⟩ e (λz=>nomatch z) h
 |@ins a C dx fs ea cl ha hn htk hm=>
  cases (show u=Value.ref a from rx);obtain⟨mA,O,_⟩:=C1 I.hok ea;obtain⟨od,J,_⟩:=O.look;exact Vr (PySem.W.kitx_own (cl.get _) cl.hd ha hn htk hm) I.kIn J e (λz=>nomatch z) h
end
structure Room(k:Nat)(A:Around):Prop where
 hd:A.handled=none
 dp:A.depth+3 * k+5 < recursionLimit
 un:A.units+16 * k+200 < cLine
 gd:A.guards=some []
theorem Room.deeper{k:Nat}(r:Room (k+1) A)(env:Env):Room k (A.deeper env):=
 ⟨r.hd,by have:=r.dp;show A.depth+1+3 * k+5 < _;lia,by have:=r.un;show A.units+3+16 * k+200 < _;lia,r.gd⟩
theorem Room.depth{k:Nat}(r:Room k A):A.depth < recursionLimit:=by have:=r.dp;lia
theorem Room.units{k:Nat}(r:Room k A):A.units+64 < cLine:=by have:=r.un;lia
def jk:TA:=λ_ H Q=>Q [] H
def cS(ta:TE)(tr:TA):TA:=λσ H Q=>ta σ H λx H1=>tr σ H1 λxs H2=>Q (x::xs) H2
section
variable {X:Cx} {e:Expr} {es:List Expr} {te:TE} {t:TA} {pos:Pos}
theorem oC:PA X [] jk:=λ_ _ _ _ H Q I h=>Calls.spliced_nil ⟨[],H,I,.nil,h⟩
theorem C2(ha:PE X e te)(hr:PA X es t)(hs:Um (e::es) X.env=(false,eval e X.env)::Um es X.env:=by rfl):PA X (e::es) (cS te t):=by
 intro pos pins s σ H Q I h;rw[hs];show wpAny _ _ (spliced ((false,eval e X.env)::backTo pos (Um es X.env))) _ _ s;refine Calls.spliced_cons (thn (ha pins s σ H _ I h) λu s1 ⟨x,H1,I1,r1,q1⟩=>?_);exact thn (hr pos pins s1 σ H1 _ I1 q1) λus s2 ⟨xs,H2,I2,r2,q2⟩=>⟨x::xs,H2,I2,.cons r1 r2,q2⟩
def MY(t:TA):TE:=λσ H Q=>t σ H λxs H1=>xs.length<=sizeLine/\∀p,H1 p=none->Q (.ref p) (upd H1 p (.tup xs))
def MZ(t:TA):TE:=λσ H Q=>t σ H λxs H1=>xs.length<=sizeLine/\∀p,H1 p=none->Q (.ref p) (upd H1 p (.lst xs))
theorem Il{x1}(h:PA X es t):PE X (.Tuple es x1 pos) (MY t):=by
 intro pins s σ H Q I hq;refine wpAny_Tuple_spliced (thn (h pos pins s σ H _ I hq) λus s1 ⟨xs,H1,I1,r,z,q⟩=>⟨by rw[<-r.length];exact z,?_⟩);have hf:H1 s1.heap.objs.size=none:=I1.hok.fresh (Zg _);refine⟨.ref s1.heap.objs.size,upd H1 s1.heap.objs.size (.tup xs),I1.laid (t':=s1.toks) (λb u e=>Zi _ e) (Zg _) ?_,rfl,q _ hf⟩;exact⟨z,us,r,oq.new _ _⟩
theorem oD(h:PA X es t):PE X (.List es pos) (MZ t):=by
 intro pins s σ H Q I hq;refine wpAny_List_spliced (thn (h pos pins s σ H _ I hq) λus s1 ⟨xs,H1,I1,r,z,q⟩=>⟨by rw[<-r.length];exact z,?_⟩);have hf:H1 s1.heap.objs.size=none:=I1.hok.fresh (Zg _);refine⟨.ref s1.heap.objs.size,upd H1 s1.heap.objs.size (.lst xs),I1.laid (t':=s1.toks) (λb u e=>Zi _ e) (Zg _) ?_,rfl,q _ hf⟩;exact⟨z,us,0,r,Zy _ rfl⟩
end
@[inline]abbrev Sp:=List V->Hp->VK->XK->Prop
@[inline]abbrev CXT:=List Env->Hp->Shared->XK->Value->Shared->Prop
structure Env0(P:Program)(w:World)(K:Vf)(mg:Str->Option Value)(base:Heap)(A:Around)(outer:List Env)(s:Shared)(H:Hp):Prop where
 frames:A.frames=some outer
 mod:Mod K mg base
 bs:∀b o,base.get? b=some o->s.heap.get? b=some o/\H b=none
 bsz:base.objs.size<=s.heap.objs.size
 funs:s.heap.FunFrames base outer
 frf:∀b ∈ frs outer,H b=none
 hok:HOk P w H s.heap
 bare:AllBare s.gens
def CE(outer:List Env)(P:Program)(w:World)(H:Hp)(s:Shared)(Q:VK)(u:Value)(s':Shared):Prop:=
 ∃v H',s'.os=s.os/\AllBare s'.gens/\Un (frs outer) [] H H' s.heap s'.heap/\HOk P w H' s'.heap/\aI v u/\Q v H'
def CR(CX:CXT)(outer:List Env)(P:Program)(w:World)(H:Hp)(s:Shared)(Q:VK)(E:XK)(r:Result)(s':Shared):Prop:=
 match r with
 |.ok (.ret u)=>CE outer P w H s Q u s'
 |.ok _=>False
 |.error e=>CX outer H s E e s'
structure FnOk(P:Program)(w:World)(K:Vf)(mg:Str->Option Value)(base:Heap)(CX:CXT)(k:Nat)(f:Addr)(fd:WQ)(ps:List Str)(sp:Sp):Prop where
 len:∀vs H Q E,sp vs H Q E->vs.length=ps.length
 run:∀ (A:Around) (outer:List Env) (s:Shared) (H:Hp) (args:Args) (us:List Value) (vs:List V) (Q:VK) (E:XK),Room k A->Env0 P w K mg base A outer s H->BindsTo s fd args (ps.zip us)->aO vs us->sp vs H Q E ->
  codeAny (model P w) A (.call (.ref f) args) (CR CX outer P w H s Q E) s
theorem FnOk.imp{P:Program}{w:World}{K:Vf}{mg:Str->Option Value}{base:Heap}{CX:CXT}{k:Nat}{f:Addr}{fd:WQ}{ps:List Str}{sp sp':Sp}(F:FnOk P w K mg base CX k f fd ps sp)
  (h:∀vs H Q E,sp' vs H Q E->sp vs H Q E):FnOk P w K mg base CX k f fd ps sp':=
 ⟨λvs H Q E q=>F.len vs H Q E (h _ _ _ _ q),λA outer s H args us vs Q E hr he hb hv hs=>F.run A outer s H args us vs Q E hr he hb hv (h _ _ _ _ hs)⟩
section
variable {X:Cx} {pins:List (Addr × Obj)} {σ:St} {H:Hp} {s s':Shared}
theorem Inv.env0(I:Inv X pins σ H s):Env0 X.prog X.w X.K X.mg X.base X.A X.stack s H:=
 ⟨I.ok.frames,I.ok.mod,I.bs,Zw I.ok.bsz I.sz,I.stack,I.stkFree,I.hok,I.bare⟩
theorem Inv.after(I:Inv X pins σ H s)(h:CE X.stack X.prog X.w H s Q u s'):EP X pins σ Q u s':=by
 obtain⟨v,H',os,bare,un,hok,r,q⟩:=h;obtain⟨hh,g,d,t,os'⟩:=s';obtain rfl:os'=s.os:=os;exact⟨v,H',I.call (h':=hh) (g':=g) (d':=d) (t':=t) (ch:=[]) un hok bare (λb z=>absurd z (by simp)),r,q⟩
end
def GS(sp:Sp)(dvs:List V)(E:XK)(t:TA):TE:=λσ H Q=>t σ H λvs H1=>sp (vs++dvs) H1 Q E
def fv(K:Vf)(fd:WQ)(ps:List Str)(ds:List Value):Prop:=
 ∀ (s:Shared) (us:List Value),K.In s.heap->(us++ds).length=ps.length->BindsTo s fd ⟨us,[]⟩ (ps.zip (us++ds))
theorem fv.all{K:Vf}{fd:WQ}{ps:List Str}(h:∀us:List Value,us.length=ps.length->bindArgs fd ⟨us,[]⟩=pure (ps.zip us)):fv K fd ps []:=λs us _ hl=>by
 rw[ZS] at hl ⊢;exact .of_eq (h us hl)
def kK(CX:CXT)(X:Cx)(E:XK):Prop:=∀ (pins:List (Addr × Obj)) (σ:St) (H:Hp) (s:Shared) (e:Value) (s':Shared),Inv X pins σ H s->CX X.stack H s E e s'->X.xe e s'
section
variable {X:Cx} {CX:CXT} {k:Nat} {f C:Addr} {fd:WQ} {ps:List Str} {sp:Sp} {dvs:List V} {ds:List Value} {E:XK} {x m:Str} {p pos apos:Pos} {e o:Expr} {es:List Expr} {ta:TE} {t:TA}
theorem Im(F:FnOk X.prog X.w X.K X.mg X.base CX k f fd ps sp)(hr:Room k X.A)(hb:fv X.K fd ps ds)(hd:aO dvs ds)(hx:kK CX X E)
  (I:Inv X pins σ H s) (r:aO vs us) (h:sp (vs++dvs) H Q E):wpAny (model X.prog X.w) X.A (call (.ref f) us) (EP X pins σ Q) X.xe s:=by
 have r2:aO (vs++dvs) (us++ds):=r.append hd;have hl:(us++ds).length=ps.length:=by rw[<-r2.length];exact F.len _ _ _ _ h
 refine wpAny_call (VS (F.run X.A X.stack s H ⟨us,[]⟩ (us++ds) (vs++dvs) Q E hr I.env0 (hb s us I.kIn hl) r2 h) λr s' hq=>?_);cases r with
 |error e=>exact hx pins σ H s e s' I hq
 |ok fl=>
  cases fl with
  |ret u=>exact I.after hq
  |next=>exact False.elim hq
  |brk=>exact False.elim hq
  |cont=>exact False.elim hq
theorem u0(F:FnOk X.prog X.w X.K X.mg X.base CX k f fd ps sp)(hr:Room k X.A)(hg:Gl X x)(hm:X.mg x=some (.ref f))(hk:Vq X.K (.ref f)=true)(hb:fv X.K fd ps ds)(hd:aO dvs ds)(hx:kK CX X E)
  (ha:PA X (e::es) t) (hdb:(x == ("__debug__" : Str))=false:=by decide) (he:Um (e::es) X.env=(false,eval e X.env)::Um es X.env:=by rfl) (hpl:(backTo pos (Um es X.env)).any (·.1)=false:=by rfl) :
  PE X (.Call (.Name x p) (e::es) [] pos) (GS sp dvs E t):=by
 intro pins s σ H Q I h;refine Uw (gx I hg hm ?_ hdb);refine Vg (h₀:=X.base) I.ok.mod.kin hk (thn (ha pos pins s σ H _ I h) λus s1 ⟨vs,H1,I1,r,q⟩=>⟨I1.kIn,?_⟩) he hpl;exact Im F hr hb hd hx I1 r q
end
def PK(X:Cx)(kws:List Keyword)(t:TA):Prop:=
 ∀ (pos:Pos) (pins:List (Addr × Obj)) (s:Shared) (σ:St) (H:Hp) (Q:List V->Hp->Prop),Inv X pins σ H s->t σ H Q->wpAny (model X.prog X.w) X.A (evalAll ((VF pos (V3 kws X.env)).map (·.2))) (AP X pins σ Q) X.xe s
section
variable {X:Cx} {CX:CXT} {k:Nat} {f C:Addr} {fd:WQ} {ps ks:List Str} {sp:Sp} {E:XK} {x m:Str} {p pos apos kpos:Pos} {e o:Expr} {es:List Expr} {kws:List Keyword} {te ta:TE} {t tk:TA} {nm:Option Str}
theorem Io:PK X [] jk:=λ_ _ _ _ H Q I h=>wpAny_evalAll_nil ⟨[],H,I,.nil,h⟩
theorem C3(ha:PE X e te)(hr:PK X kws t):PK X (⟨nm,e,kpos⟩::kws) (cS te t):=by
 intro pos pins s σ H Q I h;show wpAny _ _ (evalAll ((do let v <-eval e X.env;standAt pos;pure v)::(VF pos (V3 kws X.env)).map (·.2))) _ _ s;refine wpAny_evalAll_cons (Uy (thn (ha pins s σ H _ I h) λu s1 ⟨x,H1,I1,r1,q1⟩=>Uy (U0 (US ?_))));exact thn (hr pos pins s1 σ H1 _ I1 q1) λus s2 ⟨xs,H2,I2,r2,q2⟩=>⟨x::xs,H2,I2,.cons r1 r2,q2⟩
variable {g:List Value->List Value->List Value} {gV:List V->List V->List V}
end
structure FnScope(N P:List Str)(sc:Scope):Prop where
 kind:sc.kind = .function
 co:sc.isCoroutine=false
 gen:sc.isGenerator=false
 nd:N.Nodup
 pre:N.take P.length=P
 par:∀x ∈ P,sc.names.lookup x=some .local\/sc.names.lookup x=some .cell
 nofree:∀y ∈ sc.names,y.2 ≠ .free
theorem nc{kindOf:Str->Option WT}{x:Str}:∀ {binds:List (Str × Value)} {m:Str->Option Value},(∀v,(x,v) ∉ binds)->bindL kindOf binds m x=m x
 |[],_,_=>rfl
 |(n,v)::r,m,h=>by
  unfold bindL;rw[nc λw hw=>h w (Ze _ hw)];split
  ·have:x ≠ n:=by rintro rfl;exact h v Zh
   simp[this]
  ·rfl
theorem ng{kindOf:Str->Option WT}{x:Str}:∀ {binds:List (Str × Value)} {m:Str->Option Value},(∀v,(x,v) ∉ binds)->bindC kindOf binds m x=m x
 |[],_,_=>rfl
 |(n,v)::r,m,h=>by
  unfold bindC;rw[ng λw hw=>h w (Ze _ hw)];split
  ·rfl
  ·have:x ≠ n:=by rintro rfl;exact h v Zh
   simp[this]
theorem nh{kindOf:Str->Option WT}{x:Str}{v:Value}:∀ {P:List Str} {vs:List Value} {i:Nat} {m:Str->Option Value},P.Nodup->P[i]?=some x->vs[i]?=some v->kindOf x=some .local ->
  bindL kindOf (P.zip vs) m x=some v
 |[],_,_,_,_,h,_,_=>by simp at h
 |_::_,[],_,_,_,_,h,_=>by simp at h
 |p::P,w::vs,0,m,nd,h1,h2,hk=>by
  simp at h1 h2;subst h1;subst h2;show bindL kindOf ((p,w)::P.zip vs) m p=_;unfold bindL;rw[nc λv hv=>(Yd.mp nd).1 (YO hv).1,if_pos hk];simp
 |p::P,w::vs,i+1,m,nd,h1,h2,hk=>by
  show bindL kindOf ((p,w)::P.zip vs) m x=_;unfold bindL;exact nh (i:=i) (Yd.mp nd).2 (by simpa using h1) (by simpa using h2) hk
theorem ni{kindOf:Str->Option WT}{x:Str}{v:Value}:∀ {P:List Str} {vs:List Value} {i:Nat} {m:Str->Option Value},P.Nodup->P[i]?=some x->vs[i]?=some v->kindOf x ≠ some .local ->
  bindC kindOf (P.zip vs) m x=some v
 |[],_,_,_,_,h,_,_=>by simp at h
 |_::_,[],_,_,_,_,h,_=>by simp at h
 |p::P,w::vs,0,m,nd,h1,h2,hk=>by
  simp at h1 h2;subst h1;subst h2;show bindC kindOf ((p,w)::P.zip vs) m p=_;unfold bindC;rw[ng λv hv=>(Yd.mp nd).1 (YO hv).1,if_neg hk];simp
 |p::P,w::vs,i+1,m,nd,h1,h2,hk=>by
  show bindC kindOf ((p,w)::P.zip vs) m x=_;unfold bindC;exact ni (i:=i) (Yd.mp nd).2 (by simpa using h1) (by simpa using h2) hk
abbrev dJ(N:List Str)(vs:List V):St:=vs.map some++Zs (N.length - vs.length) none
abbrev mW(CX:CXT)(P:Program)(w:World)(K:Vf)(mg:Str->Option Value)(base:Heap)(N:List Str)(qual:Str)(scope:Scope)(f:Addr)(cd:Value)(A:Around)(outer:List Env)(s:Shared)(H:Hp)(E:XK):Cx where
 prog:=P
 w:=w
 K:=K
 mg:=mg
 base:=base
 A:=A.deeper (envOfC qual scope s.heap.objs.size f cd)
 N:=N
 s₀:=s
 H₀:=H
 env:=envOfC qual scope s.heap.objs.size f cd
 outer:=outer
 stack:=envOfC qual scope s.heap.objs.size f cd::outer
 ex:=[]
 calm:=true
 fn:=λ_=>true
 pn:=[]
 xe:=λe s'=>wpAny (model P w) (A.deeper (envOfC qual scope s.heap.objs.size f cd)) (leaving (envOfC qual scope s.heap.objs.size f cd) e) (λ_ s''=>CX outer H s E e s'') (λe' s''=>CX outer H s E e' s'') s'
theorem qj{sc:Scope}{n:Nat}{x:Str}(h:sc.names.lookup x=some .cell):∃c,(VO n sc.names []).lookup x=some c:=by
 have q:=Vh sc.names n [] (.inl h);exact ZT.mp q
theorem nj{CX:CXT}{P:Program}{w:World}{K:Vf}{mg:Str->Option Value}{base:Heap}{N ps:List Str}{qual:Str}{scope:Scope}{f:Addr}{cd:Value}{A:Around}{outer:List Env}{s s1:Shared}{H:Hp}{E:XK}{us:List Value}{vs:List V}
  (S:FnScope N ps scope) (hd:A.handled=none) (e0:Env0 P w K mg base A outer s H) (hl:vs.length=ps.length) (r:aO vs us)
  (x:InCallC s s.heap.objs.size (bindL (envOfC qual scope s.heap.objs.size f cd).kindOf (ps.zip us) λ_=>none) (VO (s.heap.objs.size+1) scope.names []) (bindC (envOfC qual scope s.heap.objs.size f cd).kindOf (ps.zip us) λ_=>none) s1) :
  Inv (mW CX P w K mg base N qual scope f cd A outer s H E) [] (dJ N vs) H s1:=by
 have hpl:ps.length<=N.length:=by have:=congrArg Zf S.pre;rw[ZO] at this;lia
 obtain⟨h1,tk,rfl,hk⟩:=x.done;have noA:∀b:Addr,b ∉ (mW CX P w K mg base N qual scope f cd A outer s H E).ex:=λb z=>absurd (show b ∈ ([]:List Addr) from z) (by simp)
 refine⟨⟨e0.mod,S.kind,rfl,rfl,Zg _,λy z c h1 h2=>?_,λy hy=>?_,λy c _ h=>?_,λ_=>hd,Around.frames_deeper e0.frames,.inr ⟨rfl,rfl⟩,λb z=>absurd z (noA b),e0.bs,e0.bsz,λb _ _=>noA b,λb z=>absurd z (noA b),e0.funs,e0.frf⟩,
  rfl,e0.bare,Un.kept hk,⟨_,x.toInCall.ns,λi y v h1 h2 h3=>?_⟩,λy c h=>⟨_,x.cell y c h⟩,e0.hok.fresh (Zg _),λy c h=>?_,λp hp=>absurd (show p ∈ ([]:List (Addr × Obj)) from hp) (by simp),e0.hok.kept hk,?_⟩
 ·exact name_of_addr x.apart (V7 h1) (V7 h2)
 ·have hy:scope.names.lookup y=some .cell\/scope.names.lookup y=some .free:=hy;rcases hy with hy |hy
  ·exact qj hy
  ·exact absurd rfl (S.nofree _ (V7 hy))
 ·exact YG (x.above y c (V7 h))
 ·have hi:i < vs.length:=by
   unfold dJ at h2;by_cases hi:i < vs.length
   ·exact hi
   ·rw[Zp (by simpa using hi)] at h2;rw[Yr] at h2;split at h2 <;> cases h2
  have ha:vs[i]?=some v:=by
   unfold dJ at h2;rw[Zt (by simpa using hi),Zr] at h2;cases e:vs[i]? with
   |none=>rw[e] at h2;cases h2
   |some a=>rw[e] at h2;cases h2;rfl
  obtain⟨u,hu,rv⟩:=r.get ha
  have hp:ps[i]?=some y:=by
   rw[<-S.pre,Y7 (by lia)];exact h1
  have ndP:ps.Nodup:=by rw[<-S.pre];exact S.nd.sublist (List.take_sublist _ _)
  refine⟨u,rv,?_⟩;rcases S.par y (Zj hp) with k |k
  ·exact .inl ⟨k,nh ndP hp hu k⟩
  ·obtain⟨c,e⟩:=qj (n:=s.heap.objs.size+1) k;refine .inr ⟨.inl k,c,e,?_⟩;have q:=x.cell y c e;rw[ni ndP hp hu (by show scope.names.lookup y ≠ _;rw[k];decide)] at q;exact q
 ·exact e0.hok.fresh (YG (x.above y c (V7 h)))
 ·unfold dJ;show _=N.length;rw[Zc,Za,YI]
  lia
theorem M0{CX:CXT}{P:Program}{w:World}{K:Vf}{mg:Str->Option Value}{base:Heap}{k:Nat}{f:Addr}{name qual:Str}{params:Arguments}{body:List Stmt}{scope:Scope}{dV kV doc pm cdv ct oc:Value}{an od:Option Addr}
  {osl:Array (Option Value)} {N ps:List Str} {sp:Sp} (lk:K.lookup f=some ⟨oc,od,.func (Vm name qual params body scope dV kV doc pm an cdv ct),osl⟩) (hcd:Vj K cdv qual=true) (S:FnScope N ps scope)
  (len:∀vs H Q E,sp vs H Q E->vs.length=ps.length)
  (hbody:∀ (A:Around) (outer:List Env) (s:Shared) (H:Hp) (vs:List V) (Q:VK) (E:XK),Room k (A.deeper (envOfC qual scope s.heap.objs.size f cdv))->sp vs H Q E ->
   ∃t,PSs (mW CX P w K mg base N qual scope f cdv A outer s H E) body t/\t { nx:=λ_ H'=>Q .non H',rt:=Q } (dJ N vs) H) :
  FnOk P w K mg base CX (k+1) f (Vm name qual params body scope dV kV doc pm an cdv ct) ps sp:=by
 refine⟨len,λA outer s H args us vs Q E hr e0 hb r hsp=>?_⟩;have hl:=len _ _ _ _ hsp;have KX:K.In s.heap:=e0.mod.kin.keeps λb o e=>(e0.bs b o e).1;have lim:s.heap.NoLimit:=e0.mod.nolimit.keeps λb o e=>(e0.bs b o e).1
 have hkind:∀y ∈ ps.zip us,scope.names.lookup y.1=some .local\/(scope.names.lookup y.1=some .cell/\((VO (s.heap.objs.size+1) scope.names []).lookup y.1).isSome=true):=λ⟨n,v⟩ hy=>by
  rcases S.par n (YO hy).1 with q |q
  ·exact .inl q
  ·exact .inr ⟨q,Vh _ _ _ (.inl q)⟩
 refine VR hr.depth (KX _ _ lk) rfl S.co S.gen rfl (Vk KX hcd) (hb _ _ _ _ ?_);refine UN S.kind hkind λenv he s1 x=>?_;subst he;refine⟨lim.keeps x.toInCall.keep,codeAny_func ?_⟩;obtain⟨t,ht,hq⟩:=hbody A outer s H vs Q E (hr.deeper _) hsp;have I:Inv (mW CX P w K mg base N qual scope f cdv A outer s H E) [] (dJ N vs) H s1:=nj S hr.hd e0 hl r x;refine UM (ht [] s1 (dJ N vs) H _ I hq) (λfl s' hs=>?_) λe s' hs=>hs
 have fin:∀ {σ':St} {H':Hp} {v:V} {u:Value},Inv (mW CX P w K mg base N qual scope f cdv A outer s H E) [] σ' H' s'->aI v u->Q v H'->CE outer P w H s Q u s':=
  λ{σ' H' v u} J rv q=>⟨v,H',J.os,J.bare,J.base,J.hok,rv,q⟩
 cases fl with
 |ret u=>
  obtain⟨v,σ',H',J,rv,q⟩:=hs;exact fin J rv q
 |next=>
  obtain⟨σ',H',J,q⟩:=hs;exact fin (v:=V.non) (u:=Value.none) J rfl q
 |brk=>
  obtain⟨_,_,_,q⟩:=hs;exact False.elim q
 |cont=>
  obtain⟨_,_,_,q⟩:=hs;exact False.elim q
section
variable {X:Cx} {x:Str} {p pos:Pos} {e:Expr} {es:List Expr} {t:TA} {id T:String} {r:List V->Hp->VK->Prop}
def tCB(r:List V->Hp->VK->Prop)(t:TA):TE:=λσ H Q=>t σ H λvs H1=>r vs H1 Q
theorem eG(hc:aX X (.builtin id) r)(hg:Gl X x)(hm:X.mg x=none)(hv:VJ x=some (.builtin id))(ha:PA X (e::es) t)(hn:x ≠ "__name__" := by decide)(hdb:(x == ("__debug__" : Str))=false:=by decide)
  (he:Um (e::es) X.env=(false,eval e X.env)::Um es X.env:=by rfl) (hpl:(backTo pos (Um es X.env)).any (·.1)=false:=by rfl):PE X (.Call (.Name x p) (e::es) [] pos) (tCB r t):=by
 intro pins s σ H Q I h;refine Uw (fE I hg hm hv ?_ hn hdb);exact PyProof.Rows.callWith_builtin1 (thn (ha pos pins s σ H _ I h) λus s1 ⟨vs,H1,I1,r1,q1⟩=>hc pins s1 σ H1 vs us Q I1 r1 q1) he hpl
theorem jl(hc:aX X (.type T) r)(hg:Gl X x)(hm:X.mg x=none)(hv:VJ x=some (.type T))(ha:PA X (e::es) t)(hn:x ≠ "__name__" := by decide)(hdb:(x == ("__debug__" : Str))=false:=by decide)
  (he:Um (e::es) X.env=(false,eval e X.env)::Um es X.env:=by rfl) (hpl:(backTo pos (Um es X.env)).any (·.1)=false:=by rfl):PE X (.Call (.Name x p) (e::es) [] pos) (tCB r t):=by
 intro pins s σ H Q I h;refine Uw (fE I hg hm hv ?_ hn hdb);exact Ws (thn (ha pos pins s σ H _ I h) λus s1 ⟨vs,H1,I1,r1,q1⟩=>hc pins s1 σ H1 vs us Q I1 r1 q1) he hpl
end
end L2
namespace HT
open PySem PyProof.Rows
section
open PySem.SeqAt
open PySem.AutoSeq1 (wpAny_loadPart')
open PySem.MeetsSeq PySem.MeetsSeq2 PySem.MeetsSeq3
end
section
variable {prog:Program} {w:World} {A:Around} {E:Value->Shared->Prop} {s:Shared}
theorem C4(ht:IsTup s.heap t vs.toArray)(hb:IsTup s.heap b ws.toArray)(hv:vs ≠ [])
  (h1:ws=[]->Q (.ref t) s) (h2:ws ≠ []->Q (.ref s.heap.objs.size) { s with heap:=s.heap.push { cls:=.type "tuple", data:=.seq (vs++ws).toArray } })
  (hsz:vs.length+ws.length<=sizeLine):wpAny (model prog w) A (VH .Add (.ref t) (.ref b)) Q E s:=by
 obtain⟨⟨cls,dd,data,sl⟩,ho,hc,n,hd⟩:=id ht;obtain⟨⟨cls2,dd2,data2,sl2⟩,ho2,hc2,n2,hd2⟩:=id hb;simp only at hc hd hc2 hd2;subst hc hd hc2 hd2;have e:vs.toArray++ws.toArray=(vs++ws).toArray:=by simp
 by_cases hw:ws=[]
 ·exact VU ⟨_,ho,rfl⟩ ⟨_,ho2,rfl⟩ V9 Uj WL WC (Wz _ _)
   (tuple_addW1 t b vs.toArray ws.toArray n n2 dd dd2 sl sl2 (by simpa using hv) (by simp[hw])) ⟨ho,ho2,h1 hw⟩
 ·refine VU ⟨_,ho,rfl⟩ ⟨_,ho2,rfl⟩ V9 Uj WL WC (Wz _ _)
   (tuple_addW2 t b vs.toArray ws.toArray n n2 dd dd2 sl sl2 (by simpa using hv) (by simpa using hw) (by rw[Zl,Zl];exact hsz)) ⟨ho,ho2,?_⟩
  rw[e];exact h2 hw
abbrev sIx(n d:Nat):Option Int->Nat
 |none=>d
 |some v=>if v < 0 then (v+(n:Int)).toNat else min v.toNat n
theorem yX(n d:Nat):sIx n d none=d:=rfl
theorem Ip(n d:Nat)(hd:d<=n)(o:Option Int):sIx n d o<=n:=by
 cases o with
 |none=>exact hd
 |some v=>
  show(if v < 0 then (v+(n:Int)).toNat else min v.toNat n)<=n;by_cases hv:v < 0
  ·rw[if_pos hv];lia
  ·rw[if_neg hv];exact Nat.min_le_right _ _
theorem vf(v:Int)(n d:Nat):(if v < 0 then max (v+(n:Int)) 0 else min v (n:Int))=((sIx n d (some v):Nat):Int):=by
 show(if v < 0 then max (v+(n:Int)) 0 else min v (n:Int))=(((if v < 0 then (v+(n:Int)).toNat else min v.toNat n):Nat):Int);by_cases hv:v < 0
 ·simp only[if_pos hv];lia
 ·simp only[if_neg hv];lia
theorem sN(lo hi:Option Int)(n:Nat):Builtin.Slice.sliceAdjust lo hi 1 (n:Int)=(((sIx n 0 lo:Nat):Int),((sIx n n hi:Nat):Int)):=by
 have h1:¬ ((1:Int) < 0):=by lia
 unfold Builtin.Slice.sliceAdjust;simp only[h1,if_false];refine Prod.ext ?_ ?_
 ·cases lo with
  |none=>rfl
  |some v=>exact vf v n 0
 ·cases hi with
  |none=>rfl
  |some v=>exact vf v n n
theorem sO(i j:Nat):Builtin.Slice.slicePlaces (i:Int) (j:Int) 1=j - i:=by
 unfold Builtin.Slice.slicePlaces;have h1:(1:Int) > 0:=by lia
 simp only[h1,if_true,Wf];split <;> lia
theorem kL(p:IsPart v o)(h:Q o s):wpAny (model prog w) A (Builtin.Slice.slicePartIndex v) Q E s:=by
 cases p with
 |none=>exact slicePart_none h
 |int i t=>exact slicePart_int h
theorem eI{sl:Addr}{vl vu:Value}{lo hi:Option Int}{n:Nat}{Q:Int × Int × Nat->Shared->Prop}(hs:s.heap.IsSliceOf sl vl vu .none)(pl:IsPart vl lo)(pu:IsPart vu hi)
  (h:Q (((sIx n 0 lo:Nat):Int),1,sIx n n hi - sIx n 0 lo) s):wpAny (model prog w) A (Builtin.Slice.sliceApplied (.ref sl) (pure (n:Int))) Q E s:=by
 obtain⟨os,hos,hcs,hds⟩:=id hs;unfold Builtin.Slice.sliceApplied Builtin.Slice.sliceFields;refine Uy (Uy (UF hos hds (x:=vl) rfl (Uy (UF hos hds (x:=vu) rfl (Uy (UF hos hds (x:=.none) rfl (US ?_)))))));refine Uy (slicePart_none ?_);show wpAny _ _ (if ((1:Int) == 0)=true then _ else _) _ _ s;rw[if_neg (by decide)];refine Uy (kL pl (Uy (kL pu (Uy (US ?_)))));show wpAny _ _ (match Builtin.Slice.sliceAdjust lo hi 1 (n:Int) with |(lo,hi)=>pure (lo,(1:Int),Builtin.Slice.slicePlaces lo hi 1)) _ _ s;rw[sN lo hi n];show wpAny _ _ (pure (((sIx n 0 lo:Nat):Int),(1:Int),Builtin.Slice.slicePlaces ((sIx n 0 lo:Nat):Int) ((sIx n n hi:Nat):Int) 1)) _ _ s;rw[sO];exact US h
theorem yY(xs:Array Value)(i k:Nat):((Zk k).filterMap λ(m:Nat)=>xs[((i:Int)+(m:Int) * 1).toNat]?).toArray=((xs.toList.drop i).take k).toArray:=by
 have e:(λ(m:Nat)=>xs[((i:Int)+(m:Int) * 1).toNat]?)=λm=>xs[i+m]?:=by
  funext m
  have:((i:Int)+(m:Int) * 1).toNat=i+m:=by lia
  rw[this]
 rw[e];have:=pick_run xs i k;rw[XF] at this;have e2:((λx=>xs[x]?) ∘ λx=>i+x)=λm=>xs[i+m]?:=rfl;rw[e2] at this;rw[this]
theorem iM{t sl:Addr}{items:Array Value}{vl vu:Value}{lo hi:Option Int}{Q:Value->Shared->Prop}(ht:IsTup s.heap t items)(hs:s.heap.IsSliceOf sl vl vu .none)(pl:IsPart vl lo)(pu:IsPart vu hi)
  (hw:¬ (sIx items.size 0 lo=0/\sIx items.size items.size hi=items.size))
  (h:Q (.ref s.heap.objs.size) { s with heap:=s.heap.push { cls:=.type "tuple", data:=.seq ((items.toList.drop (sIx items.size 0 lo)).take (sIx items.size items.size hi - sIx items.size 0 lo)).toArray } })
  (hsz:items.size<=sizeLine):wpAny (model prog w) A (getItem (.ref t) (.ref sl)) Q E s:=by
 have htake:sizeOk (.seq ((items.toList.drop (sIx items.size 0 lo)).take (sIx items.size items.size hi - sIx items.size 0 lo)).toArray):=by
  show((items.toList.drop (sIx items.size 0 lo)).take (sIx items.size items.size hi - sIx items.size 0 lo)).toArray.size<=sizeLine;rw[Zl,ZO,YD,ZH]
  lia
 have hj:sIx items.size items.size hi<=items.size:=Ip _ _ (Zg _) hi;obtain⟨os,hos,hcs,hds⟩:=id hs;have hTs:s.TypeIs (.ref sl) "slice" := ⟨os,hos,hcs⟩;unfold getItem
 try with_reducible refine UG ?_
 first |refine Uy (US ?_) |skip
 refine Uy (UZ ht.typeIs (by decide) ?_)
 refine Uy (wpAny_callSpecial?_slot (name:=Str.ofString "__getitem__") ht.typeIs Wt
  (UA Wt ht.typeIs entry_tuple_getitem ?_ (args_tuple_getitem _ _)))
 show wpAny _ _ (Builtin.Tuple.tupleItemsOf (.ref t) >>= _) _ _ s;refine Uy (tupleItemsOf_ ht ?_);refine Uy (U3 hTs ?_);rw[if_pos (by decide)];refine Uy (eI hs pl pu ?_)
 have hno:¬ ((((sIx items.size 0 lo:Nat):Int) == 0 && (1:Int) == 1 && (sIx items.size items.size hi - sIx items.size 0 lo) == items.size)=true):=by
  intro q;rw[bAE,bAE] at q;have q1:((sIx items.size 0 lo:Nat):Int)=0:=eq_of_beq q.1.1;have q2:sIx items.size items.size hi - sIx items.size 0 lo=items.size:=eq_of_beq q.2;exact hw ⟨by lia,by lia⟩
 show wpAny _ _ (if (((sIx items.size 0 lo:Nat):Int) == 0 && (1:Int) == 1 && (sIx items.size items.size hi - sIx items.size 0 lo) == items.size)=true then _ else _) _ _ s;rw[if_neg hno,yY]
 first
  |exact Uy (m:=Builtin.Tuple.tupleExact _) (UP (US ⟨_,rfl,US h⟩) htake)
  |exact Uy (m:=Builtin.Tuple.tupleExact _) (UP (Uy (US (US ⟨_,rfl,US h⟩))) htake)
  |exact Uy (Uy (m:=Builtin.Tuple.tupleExact _) (UP (US (US ⟨_,rfl,US h⟩)) htake))
  |exact Uy (Uy (m:=Builtin.Tuple.tupleExact _) (UP (US ⟨_,rfl,US h⟩) htake))
end
end HT
namespace L2
open PySem PySem.Spec PyProof.Rows
@[inline]abbrev TO:=St->Hp->(Option Int->Hp->Prop)->Prop
def PO(X:Cx)(e:Option Expr)(t:TO):Prop:=
 ∀ (pins:List (Addr × Obj)) (s:Shared) (σ:St) (H:Hp) (Q:Option Int->Hp->Prop),Inv X pins σ H s->t σ H Q ->
  wpAny (model X.prog X.w) X.A (evalPart e X.env) (λu s'=>∃o H',Inv X pins σ H' s'/\IsPart u o/\Q o H') X.xe s
def vg:TO:=λ_ H Q=>Q none H
def GU(t:TE):TO:=λσ H Q=>t σ H λx H1=>∃i,x = .int i/\Q (some i) H1
section
variable {X:Cx} {e:Expr} {te:TE} {lo hi:Option Expr} {tl th:TO} {pos p2:Pos}
theorem C5:PO X none vg:=by
 intro pins s σ H Q I h;rw[VX];exact US ⟨none,H,I,.none,h⟩
theorem vh(h:PE X e te):PO X (some e) (GU te):=by
 intro pins s σ H Q I hw;rw[evalPart_some];refine thn (h pins s σ H _ I hw) λu s1 ⟨x,H1,I1,r1,q1⟩=>?_;obtain⟨i,rfl,q⟩:=q1;obtain⟨t,rfl⟩:=r1;exact⟨some i,H1,I1,.int i t,q⟩
def SlR(X:Cx)(r:V->Option Int->Option Int->Hp->VK->Prop):Prop:=
 ∀ (pins:List (Addr × Obj)) (s:Shared) (σ:St) (H:Hp) (x:V) (v vl vu:Value) (lo hi:Option Int) (sl:Addr) (Q:VK),Inv X pins σ H s->aI x v->s.heap.IsSliceOf sl vl vu .none->IsPart vl lo->IsPart vu hi->r x lo hi H Q ->
  ∃T id,Uv (.type T) "__getitem__" = pure (some (.builtin id))/\s.TypeIs v T/\wpAny (model X.prog X.w) X.A (getItem v (.ref sl)) (EP X pins σ Q) X.xe s
theorem SlR.or{r r':V->Option Int->Option Int->Hp->VK->Prop}(h:SlR X r)(h':SlR X r'):SlR X (λx lo hi H Q=>r x lo hi H Q\/r' x lo hi H Q):=by
 intro pins s σ H x v vl vu lo hi sl Q I rx hs pl pu q;rcases q with q |q
 ·exact h pins s σ H x v vl vu lo hi sl Q I rx hs pl pu q
 ·exact h' pins s σ H x v vl vu lo hi sl Q I rx hs pl pu q
def tSl(r:V->Option Int->Option Int->Hp->VK->Prop)(te:TE)(tl th:TO):TE:=λσ H Q=>te σ H λx H1=>tl σ H1 λl H2=>th σ H2 λu H3=>r x l u H3 Q
theorem yZ(hr:SlR X r)(he:PE X e te)(hl:PO X lo tl)(hu:PO X hi th):PE X (.Subscript e (.Slice lo hi none p2) pos) (tSl r te tl th):=by
 intro pins s σ H Q I h;refine Subscript_ (thn (he pins s σ H _ I h) λv s1 ⟨x,H1,I1,r1,q1⟩=>?_);refine wpAny_Slice (thn (hl pins s1 σ H1 _ I1 q1) λvl s2 ⟨l,H2,I2,pl,q2⟩=>thn (hu pins s2 σ H2 _ I2 q2) λvu s3 ⟨u,H3,I3,pu,q3⟩=>?_);rw[VX];refine US ?_;have I4:Inv X pins σ H3 { s3 with heap:=s3.heap.push { cls:=.type "slice", data:=.fields #[vl,vu,.none] } }:=I3.kept (t':=s3.toks) λb ob q=>Zi _ q;obtain⟨T,id,hT,ht,hg⟩:=hr pins { s3 with heap:=s3.heap.push { cls:=.type "slice", data:=.fields #[vl,vu,.none] } } σ H3 x v vl vu l u s3.heap.objs.size Q I4 r1 (Heap.IsSliceOf.new ..) pl pu q3;show wpAny (model X.prog X.w) X.A (subscriptTail e (.Slice lo hi none p2) v (.ref s3.heap.objs.size)) (EP X pins σ Q) X.xe { s3 with heap:=s3.heap.push { cls:=.type "slice", data:=.fields #[vl,vu,.none] } };exact tail_any (ops:=[.ref s3.heap.objs.size,v]) ht hT hg (by with_unfolding_all rfl)
abbrev kM(xs:List V)(lo hi:Option Int):List V:=(xs.drop (HT.sIx xs.length 0 lo)).take (HT.sIx xs.length xs.length hi - HT.sIx xs.length 0 lo)
theorem jM(xs:List V)(lo hi:Option Int):(kM xs lo hi).length<=xs.length:=by
 unfold kM;rw[ZO,YD]
 lia
def PX(K:Vf):V->Option Int->Option Int->Hp->VK->Prop:=λx lo hi H Q=>∃a xs,x = .ref a/\SqT K H a xs ∧
 ¬ (HT.sIx xs.length 0 lo=0/\HT.sIx xs.length xs.length hi=xs.length)/\∀p,H p=none->Q (.ref p) (upd H p (.tup (kM xs lo hi)))
theorem Iq:SlR X (PX X.K):=by
 intro pins s σ H x v vl vu lo hi sl Q I rx hs pl pu h;obtain⟨a,xs,rfl,hx,hw,q⟩:=h;cases rx;obtain⟨its,r,ht,hz⟩:=I.tuple hx;have hlen:its.toArray.size=xs.length:=by rw[Zl];exact r.length.symm
 refine⟨"tuple", _,PyProof.Rows.slot_tuple_getitem.lookup,ht.typeIs,?_⟩;refine HT.iM ht hs pl pu (by rw[hlen];exact hw) ?_ (by rw[hlen];exact hz);rw[hlen];refine⟨.ref s.heap.objs.size,_,I.laid (t':=s.toks) (o:=.tup (kM xs lo hi)) (λb ob q=>Zi _ q) (Zg _) ?_,rfl,q _ (I.hok.fresh (Zg _))⟩;exact⟨Zw (jM xs lo hi) hz,_,(r.drop (HT.sIx xs.length 0 lo)).take (HT.sIx xs.length xs.length hi - HT.sIx xs.length 0 lo),oq.new _ _⟩
def M1(K:Vf):R2:=λx y H Q=>∃a b xs ys,x = .ref a/\y = .ref b/\SqT K H a xs/\SqT K H b ys/\xs ≠ []/\xs.length+ys.length<=sizeLine ∧
 (ys=[]->Q (.ref a) H)/\(ys ≠ []->∀p,H p=none->Q (.ref p) (upd H p (.tup (xs++ys))))
theorem aO.nil_iff(r:aO xs us):us=[] ↔ xs=[]:=by
 cases r with
 |nil=>simp
 |cons _ _=>simp
theorem C6:OpR X (VH .Add) (M1 X.K):=by
 intro pins s σ H x y v u Q I rx ry h;obtain⟨a,b,xs,ys,rfl,rfl,ha,hb,hx,hz,q1,q2⟩:=h;cases rx;cases ry;obtain⟨its,r1,p1,_⟩:=I.tuple ha;obtain⟨its2,r2,p2,_⟩:=I.tuple hb;refine HT.C4 p1 p2 (λz=>hx (r1.nil_iff.mp z)) (λz=>⟨.ref a,H,I,rfl,q1 (r2.nil_iff.mp z)⟩) (λz=>?_) (by rw[<-r1.length,<-r2.length];exact hz);refine⟨.ref s.heap.objs.size,_,I.laid (t':=s.toks) (o:=.tup (xs++ys)) (λb ob q=>Zi _ q) (Zg _) ?_,rfl,q2 (λw=>z (r2.nil_iff.mpr w)) _ (I.hok.fresh (Zg _))⟩;exact⟨by rw[Zc];exact hz,_,r1.append r2,oq.new _ _⟩
end
abbrev ixN(n:Nat)(i:Int):Option Nat:=if 0<=i then (if i < n then some i.toNat else none) else if -(n:Int)<=i then some (i+n).toNat else none
abbrev atI{α:Type}(xs:List α)(i:Int):Option α:=(ixN xs.length i).bind λj=>xs[j]?
theorem oE{n:Nat}{i:Int}{j:Nat}(h:ixN n i=some j):seqIndex? i n=some j/\j < n/\-(n:Int)<=i/\i < n:=by
 unfold ixN at h;by_cases h0:0<=i
 ·rw[if_pos h0] at h;by_cases h1:i < n
  ·rw[if_pos h1] at h;have e:i.toNat=j:=Option.some.inj h;exact⟨by rw[Uh h0 h1,e],by lia,by lia,h1⟩
  ·rw[if_neg h1] at h;cases h
 ·rw[if_neg h0] at h;by_cases h1:-(n:Int)<=i
  ·rw[if_pos h1] at h;have e:(i+n).toNat=j:=Option.some.inj h;exact⟨by rw[Ug (by lia) h1,e],by lia,h1,by lia⟩
  ·rw[if_neg h1] at h;cases h
theorem oG{α:Type}{xs:List α}{i:Int}{v:α}(h:atI xs i=some v):∃j,seqIndex? i xs.length=some j/\xs[j]?=some v/\j < xs.length/\-(xs.length:Int)<=i/\i < xs.length:=by
 unfold atI at h;cases e:ixN xs.length i with
 |none=>rw[e] at h;cases h
 |some j=>
  rw[e] at h;obtain⟨h1,h2,h3,h4⟩:=oE e;exact⟨j,h1,h,h2,h3,h4⟩
theorem vj{α:Type}{xs:List α}{j:Nat}{v:α}(h:xs[j]?=some v):atI xs (j:Int)=some v:=by
 have hj:j < xs.length:=(Zb.mp h).1
 have e:ixN xs.length (j:Int)=some j:=by
  unfold ixN;rw[if_pos (by lia),if_pos (by lia)];simp
 unfold atI;rw[e];exact h
def vm(b:Expr):Prop:=∀o i,subscripted b false o i=operate [o,i] (getItem o i)
def IxR(X:Cx)(r:R2):Prop:=
 ∀ (value slice:Expr) (pins:List (Addr × Obj)) (s:Shared) (σ:St) (H:Hp) (x y:V) (v u:Value) (Q:VK),Inv X pins σ H s->aI x v->aI y u->r x y H Q ->
  subscripted slice false v u=operate [v,u] (getItem v u)->wpAny (model X.prog X.w) X.A (subscriptTail value slice v u) (EP X pins σ Q) X.xe s
def MtR(X:Cx)(id:String)(r:V->List V->Hp->VK->Prop):Prop:=
 ∀ (pins:List (Addr × Obj)) (s:Shared) (σ:St) (H:Hp) (x:V) (xs:List V) (v:Value) (us:List Value) (Q:VK),Inv X pins σ H s->aI x v->aO xs us->r x xs H Q ->
  wpAny (model X.prog X.w) X.A (call (.builtin id) (v::us)) (EP X pins σ Q) X.xe s
section
variable {X:Cx} {a b:Expr} {ta tb:TE} {pos:Pos}
theorem IxR.or{r r':R2}(h:IxR X r)(h':IxR X r'):IxR X (λx y H Q=>r x y H Q\/r' x y H Q):=by
 intro value slice pins s σ H x y v u Q I rx ry q hs;rcases q with q |q
 ·exact h value slice pins s σ H x y v u Q I rx ry q hs
 ·exact h' value slice pins s σ H x y v u Q I rx ry q hs
theorem y6(hr:IxR X r)(ha:PE X a ta)(hb:PE X b tb)(hs:vm b):PE X (.Subscript a b pos) (tOp r ta tb):=by
 intro pins s σ H Q I h;exact Subscript_ (Ia ha hb I h λv u s2 x y H2 I2 rx ry q=>hr a b pins s2 σ H2 x y v u Q I2 rx ry q (hs _ _))
def M2(K:Vf):R2:=λx y H Q=>∃p xs i v,x = .ref p/\y = .int i/\SqL K H p xs/\atI xs i=some v/\Q v H
def M3(K:Vf):R2:=λx y H Q=>∃p xs i v,x = .ref p/\y = .int i/\SqT K H p xs/\atI xs i=some v/\Q v H
def M4:R2:=λx y H Q=>∃z i c,x = .str z/\y = .int i/\z.length<=sizeLine/\atI z.cps.toList i=some c/\Q (.str ⟨#[c]⟩) H
theorem C7:IxR X (M2 X.K):=by
 intro value slice pins s σ H x y v u Q I rx ry h hs;obtain⟨p,xs,i,z,rfl,rfl,hq,he,q⟩:=h;cases rx;obtain⟨t,rfl⟩:=ry;obtain⟨its,r,pl,hz⟩:=I.list hq;obtain⟨j,h1,h2,h3,h4,h5⟩:=oG he;obtain⟨w,ew,rw'⟩:=r.get h2;have hl:=r.length;have hn:=jj;have fin:EP X pins σ Q w s:=⟨z,H,I,rw',q⟩;by_cases h0:0<=i
 ·have hj:i.toNat=j:=by
   rw[Uh h0 h5] at h1;exact Option.some.inj h1
  exact item_listR pl.isList h0 (by lia) (by rw[hj];simpa using ew) fin hs
 ·have hj:(i+(its.toArray.size:Int)).toNat=j:=by
   rw[Ug (by lia) h4] at h1;rw[Zl,<-hl];exact Option.some.inj h1
  exact subscriptTail_builtinR (x:=w) pl.isList.typeIs slot_list_getitem.lookup
   (wpAny_getItem_list_neg (Q:=λr s'=>r=w/\EP X pins σ Q r s') pl.isList (by lia) (by rw[Zl] <;> lia) (by lia) (by rw[hj];simpa using ew) ⟨rfl,fin⟩) hs
theorem y7:IxR X (M3 X.K):=by
 intro value slice pins s σ H x y v u Q I rx ry h hs;obtain⟨p,xs,i,z,rfl,rfl,hq,he,q⟩:=h;cases rx;obtain⟨t,rfl⟩:=ry;obtain⟨its,r,pl,hz⟩:=I.tuple hq;obtain⟨j,h1,h2,h3,h4,h5⟩:=oG he;obtain⟨w,ew,rw'⟩:=r.get h2;have hl:=r.length;have hn:=jj;have fin:EP X pins σ Q w s:=⟨z,H,I,rw',q⟩
 exact subscriptTail_builtinR (x:=w) pl.typeIs slot_tuple_getitem.lookup
  (getItem_tuple (j:=j) (Q:=λr s'=>r=w/\EP X pins σ Q r s') pl (by lia) (by lia) (by rw[Zl,<-hl];exact h1) (by simpa using ew) ⟨rfl,fin⟩) hs
theorem Ir:IxR X M4:=by
 intro value slice pins s σ H x y v u Q I rx ry h hs;obtain⟨z,i,c,rfl,rfl,hz,he,q⟩:=h;obtain⟨t,rfl⟩:=rx;obtain⟨t',rfl⟩:=ry;obtain⟨j,h1,h2,h3,h4,h5⟩:=oG he;have hl:z.cps.toList.length=z.length:=by simp[Str.length]
 rw[hl] at h1 h4 h5;have hn:=jj
 exact tail_any (typeIs_str s z t) slot_str_getitem.lookup (getItem_str (c:=c) (by
  have e1:decide (i < -(2 ^ 63:Int))=false:=decide_eq_false (by lia);have e2:decide (i ≥ 2 ^ 63)=false:=decide_eq_false (by lia);rw[e1,e2,Wb]) (by rw[h1];simpa using h2) ⟨.str ⟨#[c]⟩,H,I.tok _,⟨_,rfl⟩,q⟩) hs
def rIx(K:Vf):R2:=λx y H Q=>M2 K x y H Q\/M3 K x y H Q\/M4 x y H Q
theorem y8:IxR X (rIx X.K):=C7.or (y7.or Ir)
theorem sP(its:List Value)(n j:Nat)(u:Value):Obj.mapSeq (·.setIfInBounds j u) { cls:=.type "list", data:=.seq its.toArray n }={ cls:=.type "list", data:=.seq (its.set j u).toArray n }:=by
 simp[Obj.mapSeq]
theorem Inv.lst{pins:List (Addr × Obj)}{σ:St}{H:Hp}{s:Shared}{p:Addr}{xs:List V}(I:Inv X pins σ H s)(h:H p=some (.lst xs)) :
  ∃ (its:List Value) (n:Nat),aO xs its/\s.heap.get? p=some { cls:=.type "list", data:=.seq its.toArray n }/\xs.length<=sizeLine:=by
 obtain⟨z,its,n,r,e⟩:=I.hok p _ h;exact⟨its,n,r,e,z⟩
theorem Inv.lstUpd{pins:List (Addr × Obj)}{σ:St}{H:Hp}{s:Shared}{p:Addr}{xs ys:List V}{its its':List Value}{n n':Nat}{f:Obj->Obj}(I:Inv X pins σ H s)(h:H p=some (.lst xs))
  (ho:s.heap.get? p=some { cls:=.type "list", data:=.seq its.toArray n }) (hf:f { cls:=.type "list", data:=.seq its.toArray n }={ cls:=.type "list", data:=.seq its'.toArray n' }) (r:aO ys its') (hz:ys.length<=sizeLine) (t:Nat) :
  Inv X pins σ (upd H p (.lst ys)) { s with heap:=s.heap.update p f,toks:=t }:=by
 have e:(s.heap.update p f).get? p=some { cls:=.type "list", data:=.seq its'.toArray n' }:=by
  rw[Yx f ho (by rw[hf] <;> rfl),hf]
 refine I.write (x:=p) (e:=p) (by rw[h];trivial) (.inl rfl) (λb u hb q=>(ZZ _ _ (Ne.symm hb)).trans q) ⟨_,e⟩ ?_;exact⟨hz,its',n',r,e⟩
def M5:V->V->V->Hp->(Hp->Prop)->Prop:=λo i v H Q=>∃p xs k j,o = .ref p/\i = .int k/\H p=some (.lst xs)/\ixN xs.length k=some j/\Q (upd H p (.lst (xs.set j v)))
theorem y9:HS X M5:=by
 intro pins s σ H o i v ov iv u Q I ro ri rv h;obtain⟨p,xs,k,j,rfl,rfl,hp,hj,q⟩:=h;cases ro;obtain⟨t,rfl⟩:=ri;obtain⟨its,n,r,ho,hz⟩:=I.lst hp;obtain⟨h1,h2,h3,h4⟩:=oE hj;have hl:=r.length;have hn:=jj
 have I':Inv X pins σ (upd H p (.lst (xs.set j v))) { s with heap:=s.heap.update p (Obj.mapSeq (·.setIfInBounds j u)) }:=
  I.lstUpd hp ho (sP its n j u) (r.set rv j) (by rw[ZY];exact hz) s.toks
 by_cases h0:0<=k
 ·have hk:k.toNat=j:=by
   rw[Uh h0 h4] at h1;exact Option.some.inj h1
  exact PySem.W.ki_setAt ho h0 (by lia) (by rw[Zl,<-hl];exact h4) (by rw[hk];exact⟨_,I',q⟩)
 ·have hk:(k+(its.toArray.size:Int)).toNat=j:=by
   rw[Ug (by lia) h3] at h1;rw[Zl,<-hl];exact Option.some.inj h1
  exact PySem.W.ki_setBack ho (by lia) (by rw[Zl,<-hl];exact h3) (by lia) (by rw[hk];exact⟨_,I',q⟩)
theorem oH(lo hi:Option Int)(n:Nat):(Ul lo hi none n).1=((HT.sIx n 0 lo:Nat):Int)/\(Ul lo hi none n).2.1=((HT.sIx n n hi:Nat):Int)/\(Ul lo hi none n).2.2=1:=by
 refine⟨?_,?_,rfl⟩
 ·cases lo with
  |none=>simp[Ul,HT.sIx]
  |some i=>
   simp only[Ul,HT.sIx,XR,show(1:Int) > 0 by decide,if_true];by_cases h:i < 0
   ·simp only[h,if_true] <;> lia
   ·simp only[h,if_false] <;> lia
 ·cases hi with
  |none=>simp[Ul,HT.sIx]
  |some i=>
   simp only[Ul,HT.sIx,XR,show(1:Int) > 0 by decide,if_true];by_cases h:i < 0
   ·simp only[h,if_true] <;> lia
   ·simp only[h,if_false] <;> lia
theorem mX(its:List Value)(lo hi:Option Int):slicePick its.toArray lo hi none=((its.drop (HT.sIx its.length 0 lo)).take (HT.sIx its.length its.length hi - HT.sIx its.length 0 lo)).toArray:=by
 obtain⟨h1,h2,h3⟩:=oH lo hi its.toArray.size;unfold slicePick;rw[h1,h2,h3];simp only[sliceRange_one,pick_run,Zl] <;> rfl
def PY(K:Vf):V->Option Int->Option Int->Hp->VK->Prop:=λx lo hi H Q=>∃a xs,x = .ref a/\SqL K H a xs/\∀p,H p=none->Q (.ref p) (upd H p (.lst (kM xs lo hi)))
theorem C8:SlR X (PY X.K):=by
 intro pins s σ H x v vl vu lo hi sl Q I rx hs pl pu h;obtain⟨a,xs,rfl,hx,q⟩:=h;cases rx;obtain⟨its,r,ht,hz⟩:=I.list hx;have hlen:=r.length;refine⟨"list", _,slot_list_getitem.lookup,ht.isList.typeIs,?_⟩;refine wpAny_getItem_list_slice ht.isList hs pl pu .none (by simp) ?_ (by rw[Zl] <;> lia);rw[mX,<-hlen];refine⟨.ref s.heap.objs.size,_,I.laid (t':=s.toks) (o:=.lst (kM xs lo hi)) (λb ob q=>Zi _ q) (Zg _) ?_,rfl,q _ (I.hok.fresh (Zg _))⟩;exact⟨Zw (jM xs lo hi) hz,_,0,(r.drop (HT.sIx xs.length 0 lo)).take (HT.sIx xs.length xs.length hi - HT.sIx xs.length 0 lo),Zy _ rfl⟩
abbrev bS:V->Bool
 |.non=>true
 |.bl _=>true
 |.int _=>true
 |.str _=>true
 |_=>false
abbrev eqV:V->V->Bool
 |.non,.non=>true
 |.bl a,.bl b=>a == b
 |.bl a,.int b=>(if a then 1 else 0) == b
 |.int a,.bl b=>a == (if b then 1 else 0)
 |.int a,.int b=>a == b
 |.str a,.str b=>a == b
 |_,_=>false
theorem Iu(ry:aI y u)(rx:aI x v)(fy:bS y=true)(fx:bS x=true):W6 A s u v (eqV y x):=by
 cases y with
 |non=>
  cases ry;cases x with
  |non=>cases rx;exact SeqAt.EqAt.same _
  |bl b=>cases rx;exact SeqAt.EqAt.none_bool b
  |int b=>obtain⟨t,rfl⟩:=rx;exact SeqAt.EqAt.none_int b t
  |str b=>obtain⟨t,rfl⟩:=rx;exact SeqAt.EqAt.none_str b t
  |_=>exact absurd (show false=true from fx) Zd
 |bl a=>
  cases ry;cases x with
  |non=>cases rx;exact SeqAt.EqAt.bool_none a
  |bl b=>cases rx;exact SeqAt.EqAt.bool_bool a b
  |int b=>obtain⟨t,rfl⟩:=rx;exact SeqAt.EqAt.bool_int a b t
  |str b=>obtain⟨t,rfl⟩:=rx;exact SeqAt.EqAt.bool_str a b t
  |_=>exact absurd (show false=true from fx) Zd
 |int a=>
  obtain⟨t',rfl⟩:=ry;cases x with
  |non=>cases rx;exact SeqAt.EqAt.int_none a t'
  |bl b=>cases rx;exact SeqAt.EqAt.int_bool a t' b
  |int b=>obtain⟨t,rfl⟩:=rx;exact SeqAt.EqAt.int_int a t' b t
  |str b=>obtain⟨t,rfl⟩:=rx;exact SeqAt.EqAt.int_str a t' b t
  |_=>exact absurd (show false=true from fx) Zd
 |str a=>
  obtain⟨t',rfl⟩:=ry;cases x with
  |non=>cases rx;exact SeqAt.EqAt.str_none a t'
  |bl b=>cases rx;exact SeqAt.EqAt.str_bool a t' b
  |int b=>obtain⟨t,rfl⟩:=rx;exact SeqAt.EqAt.str_int a t' b t
  |str b=>obtain⟨t,rfl⟩:=rx;exact SeqAt.EqAt.str_str a t' b t
  |_=>exact absurd (show false=true from fx) Zd
 |_=>exact absurd (show false=true from fy) Zd
abbrev eqU(x:V)(u:Value):Bool:=match u with
 |.none=>eqV .non x
 |.bool b=>eqV (.bl b) x
 |.int i _=>eqV (.int i) x
 |.str z _=>eqV (.str z) x
 |_=>false
theorem oI(r:aI y u)(f:bS y=true):eqU x u=eqV y x:=by
 cases y with
 |non=>cases r;rfl
 |bl b=>cases r;rfl
 |int i=>obtain⟨t,rfl⟩:=r;rfl
 |str z=>obtain⟨t,rfl⟩:=r;rfl
 |_=>exact absurd (show false=true from f) Zd
theorem iO:∀ {xs:List V} {us:List Value},aO xs us->xs.all bS=true->us.any (eqU x)=xs.any λy=>eqV y x
 |_,_,.nil,_=>rfl
 |y::xs,u::us,.cons r t,f=>by
  rw[Z4,bAE] at f;rw[YF,YF,oI r f.1,iO t f.2]
theorem cy(rx:aI x v)(fx:bS x=true):∀ {xs:List V} {us:List Value},aO xs us->xs.all bS=true->∀u ∈ us,W6 A s u v (eqU x u)
 |_,_,.nil,_=>λu hu=>by cases hu
 |y::xs,u::us,.cons r t,f=>λu' hu=>by
  rw[Z4,bAE] at f;rcases Zm.mp hu with rfl |hu
  ·rw[oI r f.1];exact Iu r rx f.1 fx
  ·exact cy rx fx t f.2 u' hu
abbrev inV(x:V)(xs:List V):Bool:=xs.any λy=>eqV y x
def rIn(K:Vf)(neg:Bool):R2:=λx y H Q=>∃p xs,y = .ref p/\(SqL K H p xs\/SqT K H p xs)/\bS x=true/\xs.all bS=true/\Q (.bl (if neg then !inV x xs else inV x xs)) H
theorem xh:OpR X (VT .In) (rIn X.K false):=by
 intro pins s σ H x y v u Q I rx ry h;obtain⟨p,xs,rfl,hq,fx,fs,q⟩:=h;cases ry;rcases hq with hq |hq
 ·obtain⟨its,r,pl,hz⟩:=I.list hq;refine W9 (eqU x) pl.isList (λw hw=>cy rx fx r fs w (by simpa using hw)) ⟨.bl _,H,I,rfl,?_⟩;rw[show its.toArray.any (eqU x)=its.any (eqU x) by simp,iO r fs];exact q
 ·obtain⟨its,r,pl,hz⟩:=I.tuple hq;refine Va (eqU x) pl (λw hw=>cy rx fx r fs w (by simpa using hw)) ⟨.bl _,H,I,rfl,?_⟩;rw[show its.toArray.any (eqU x)=its.any (eqU x) by simp,iO r fs];exact q
theorem oJ:OpR X (VT .NotIn) (rIn X.K true):=by
 intro pins s σ H x y v u Q I rx ry h;obtain⟨p,xs,rfl,hq,fx,fs,q⟩:=h;cases ry;rcases hq with hq |hq
 ·obtain⟨its,r,pl,hz⟩:=I.list hq;refine Vb (eqU x) pl.isList (λw hw=>cy rx fx r fs w (by simpa using hw)) ⟨.bl _,H,I,rfl,?_⟩;rw[show its.toArray.any (eqU x)=its.any (eqU x) by simp,iO r fs];exact q
 ·obtain⟨its,r,pl,hz⟩:=I.tuple hq;refine Vc (eqU x) pl (λw hw=>cy rx fx r fs w (by simpa using hw)) ⟨.bl _,H,I,rfl,?_⟩;rw[show its.toArray.any (eqU x)=its.any (eqU x) by simp,iO r fs];exact q
theorem oK:aX X (.builtin "len") (λxs H Q=>∃p ys,xs=[.ref p]/\(SqL X.K H p ys\/SqT X.K H p ys)/\Q (.int ys.length) H):=by
 intro pins s σ H xs us Q I r h;obtain⟨p,ys,rfl,hq,q⟩:=h;obtain⟨u,rfl,rx⟩:=cx r;cases rx;have hn:=jj;rcases hq with hq |hq
 ·obtain⟨its,r',pl,hz⟩:=I.list hq;have hlen:=r'.length;exact Calls.call_len_list pl.isList (by simp only[Zl] <;> lia) ⟨.int ys.length,H,I.tok _,⟨s.toks+1,by rw[Zl,hlen]⟩,q⟩
 ·obtain⟨its,r',pl,hz⟩:=I.tuple hq;have hlen:=r'.length;exact len_tuple pl (by simp only[Zl] <;> lia) ⟨.int ys.length,H,I.tok _,⟨s.toks+1,by rw[Zl,hlen]⟩,q⟩
theorem oM:aX X (.type "list") (λxs H Q=>∃p ys,xs=[.ref p]/\(SqL X.K H p ys\/SqT X.K H p ys)/\∀l,H l=none->Q (.ref l) (upd H l (.lst ys))):=by
 intro pins s σ H xs us Q I r h;obtain⟨p,ys,rfl,hq,q⟩:=h;obtain⟨u,rfl,rx⟩:=cx r;cases rx
 have fin:∀ (its:List Value),aO ys its->ys.length<=sizeLine->∀ (h':Heap) (c':Nat),(∀b o',s.heap.get? b=some o'->h'.get? b=some o') ->
   h'.get? s.heap.objs.size=some { cls:=.type "list", dict:=none,data:=.seq its.toArray c',slots:=#[] }->EP X pins σ Q (.ref s.heap.objs.size) { s with heap:=h' }:=λits r' hz h' c' kp e=>
  ⟨.ref s.heap.objs.size,_,I.laid (t':=s.toks) kp (Zg _) (show bp X.prog X.w _ h' _ (.lst ys) from ⟨hz,its,c',r',e⟩),rfl,q _ (I.hok.fresh (Zg _))⟩
 rcases hq with hq |hq
 ·obtain⟨its,r',pl,hz⟩:=I.list hq;have hlen:=r'.length;obtain⟨o,ho,hc,n,hd⟩:=pl.isList;exact call_list_seq p (.inl rfl) ho hc hd (λh' c' kp e=>fin its r' hz h' c' kp e) (by simp only[Zl] <;> lia)
 ·obtain⟨its,r',pl,hz⟩:=I.tuple hq;have hlen:=r'.length;obtain⟨o,ho,hc,n,hd⟩:=pl;exact call_list_seq p (.inr rfl) ho hc hd (λh' c' kp e=>fin its r' hz h' c' kp e) (by simp only[Zl] <;> lia)
theorem mY:aX X (.type "tuple") (λxs H Q=>∃p ys,xs=[.ref p]/\((SqL X.K H p ys/\∀l,H l=none->Q (.ref l) (upd H l (.tup ys)))\/(SqT X.K H p ys/\Q (.ref p) H))):=by
 intro pins s σ H xs us Q I r h;obtain⟨p,ys,rfl,h⟩:=h;obtain⟨u,rfl,rx⟩:=cx r;cases rx;rcases h with ⟨hq,q⟩ |⟨hq,q⟩
 ·obtain⟨its,r',pl,hz⟩:=I.list hq;have hlen:=r'.length;refine call_tuple_list pl.isList (λh' kp=>?_) (by simp only[Zl] <;> lia);have I1:Inv X pins σ H { s with heap:=h' }:=I.kept (t':=s.toks) kp
  have I2:Inv X pins σ (upd H h'.objs.size (.tup ys)) { s with heap:=h'.push { cls:=.type "tuple", data:=.seq its.toArray } }:=
   I1.laid (t':=s.toks) (λb o e=>Zi _ e) (Zg _) (show bp X.prog X.w _ _ _ (.tup ys) from ⟨hz,its,r',oq.new _ _⟩)
  exact⟨.ref h'.objs.size,_,I2,rfl,q _ (I1.hok.fresh (Zg _))⟩
 ·obtain⟨its,r',pl,hz⟩:=I.tuple hq;exact call_tuple_same pl ⟨.ref p,H,I,rfl,q⟩
def tyV(K:Vf)(T:String)(x:V)(H:Hp):Prop:=match x with
 |.str _=>T = "str"
 |.int _=>T = "int"
 |.ref p=>(T = "list"/\∃xs,SqL K H p xs)\/(T = "tuple"/\((∃o,K.lookup p=some o/\o.cls = .type "tuple"/\o.dict=none)\/∃xs,H p=some (.tup xs))) ∨
   (T = "dict"/\((∃kvs,H p=some (.dK kvs))\/∃kvs,H p=some (.dT kvs)))\/(T = "set"/\∃S n,H p=some (.set S n))
 |_=>False
theorem Iv(I:Inv X pins σ H s)(r:aI x v)(ty:tyV X.K T x H) :
  s.TypeIs v T/\∀a,v = .ref a->∃ob,s.heap.get? a=some ob/\ob.dict=none:=by
 cases x with
 |str z=>
  obtain⟨t,rfl⟩:=r;cases (show T = "str" from ty);exact⟨typeIs_str s z t,λ_ e=>nomatch e⟩
 |int i=>
  obtain⟨t,rfl⟩:=r;cases (show T = "int" from ty);exact⟨typeIs_int s i t,λ_ e=>nomatch e⟩
 |ref p=>
  cases r;rcases ty with ⟨rfl,xs,hq⟩ |⟨rfl,⟨o,hk,hc,hd⟩ |⟨xs,hk⟩⟩ |⟨rfl,hk⟩ |⟨rfl,S,n,hk⟩
  ·obtain⟨its,_,pl,_⟩:=I.list hq;refine⟨pl.isList.typeIs,λa e=>?_⟩;cases e;obtain⟨o,n,e,c,hd,_⟩:=pl;exact⟨o,e,hd⟩
  ·refine⟨⟨o,I.kIn p o hk,hc⟩,λa e=>?_⟩;cases e;exact⟨o,I.kIn _ o hk,hd⟩
  ·obtain⟨_,its,_,o,e,hc,_,_,hd⟩:=I.hok p _ hk;refine⟨⟨o,e,hc⟩,λa e2=>?_⟩;cases e2;exact⟨o,e,hd⟩
  ·have z:∃o,s.heap.get? p=some o/\o.ExactDict:=by
    rcases hk with ⟨kvs,hk⟩ |⟨kvs,hk⟩
    ·obtain⟨_,_,_,_,o,_,_,e,ex,_⟩:=I.hok p _ hk;exact⟨o,e,ex⟩
    ·obtain⟨_,_,_,_,o,_,_,e,ex,_⟩:=I.hok p _ hk;exact⟨o,e,ex⟩
   obtain⟨o,e,ex⟩:=z;refine⟨⟨o,e,ex.1⟩,λa e2=>?_⟩;cases e2;exact⟨o,e,ex.2.1⟩
  ·obtain⟨o,_,_,_,e,ex,_⟩:=I.hok p _ hk;refine⟨⟨o,e,ex.1⟩,λa e2=>?_⟩;cases e2;exact⟨o,e,ex.2.1⟩
 |_=>exact False.elim ty
def tBM(K:Vf)(T:String)(r:V->List V->Hp->VK->Prop)(to:TE)(t:TA):TE:=λσ H Q=>to σ H λx H1=>tyV K T x H1/\t σ H1 λxs H2=>r x xs H2 Q
variable {o e:Expr} {es:List Expr} {to:TE} {t:TA} {name:Str} {apos cpos:Pos} {T id:String} {r:V->List V->Hp->VK->Prop}
theorem qk(pa:PlainAttrs T)(slot:Slot T name id)(hty:typeOf (.builtin id)=pure (.type "method_descriptor"))(hm:MtR X id r)(ho:PE X o to)(ha:PA X (e::es) t)
  (hbase:attributeBase o name X.env (eval o X.env)=eval o X.env:=by rfl)
  (hfew:((backTo cpos (Um (e::es) X.env)).all (λx=>!x.1) && (VF cpos (V3 [] X.env)).all (λx=>x.1.isSome)
   && decide ((e::es).length+([]:List Keyword).length+(if ([]:List Keyword).isEmpty then 0 else 1) < 30))=true:=by rfl)
  (hline:(apos.endLine == cpos.line)=true:=by rfl) (hs:Um (e::es) X.env=(false,eval e X.env)::Um es X.env:=by rfl) (hplain:(backTo cpos (Um es X.env)).any (·.1)=false:=by rfl) :
  PE X (.Call (.Attribute o name apos) (e::es) [] cpos) (tBM X.K T r to t):=by
 intro pins s σ H Q I h;refine wpAny_Call_method_late hbase hfew hline rfl (thn (ho pins s σ H _ I h) λv s1 ⟨x,H1,I1,r1,ty,q1⟩=>?_);obtain⟨h1,h2⟩:=Iv I1 r1 ty;refine⟨T,id,pa,slot,hty,h1,h2,?_⟩;have hA:=ha cpos pins s1 σ H1 _ I1 q1;rw[hs] at hA ⊢;refine Calls.callWith_builtin (by show(false || (backTo cpos (Um es X.env)).any (·.1))=false;rw[hplain] <;> rfl) (Ww ?_);exact thn hA λus s2 ⟨vs,H2,I2,r2,q2⟩=>hm pins s2 σ H2 x vs v us Q I2 r1 r2 q2
end
def MtM(X:Cx)(id:String)(r:V->List V->Hp->VK->Prop):Prop:=
 ∀ (pins:List (Addr × Obj)) (s:Shared) (σ:St) (H:Hp) (x:V) (xs:List V) (v:Value) (us:List Value) (Q:VK),Inv X pins σ H s->aI x v->aO xs us->r x xs H Q ->
  wpAny (model X.prog X.w) X.A (call (.builtin id) (v::us)) (EP X pins σ Q) X.xe s
theorem aO.one:∀ {x:V} {us:List Value},aO [x] us->∃u,us=[u]/\aI x u
 |_,_,.cons r .nil=>⟨_,rfl,r⟩
theorem aO.eraseIdx:∀ {xs:List V} {us:List Value} (i:Nat),aO xs us->aO (xs.eraseIdx i) (us.eraseIdx i)
 |_,_,_,.nil=>.nil
 |_,_,0,.cons _ t=>t
 |_,_,i+1,.cons r t=>.cons r (aO.eraseIdx i t)
theorem aO.rep(h:aO xs us):∀k:Nat,aO (Zs k xs).flatten (Zs k us).flatten
 |0=>.nil
 |k+1=>by
  rw[Z8,Z8,Yn,Yn];exact aO.append h (aO.rep h k)
theorem nk{α:Type}:∀ (l:List α) (i:Nat),(l.eraseIdx i).length<=l.length
 |[],_=>Zg _
 |_::_,0=>Yk _
 |_::r,i+1=>XU (nk r i)
theorem nq(its:List Value):∀ (k:Nat) (acc:List Value),
  X6 (λx1 x2=>x1++x2) acc.toArray (Zs k its.toArray)=(acc++(Zs k its).flatten).toArray
 |0,acc=>by simp
 |k+1,acc=>by
  have e:acc.toArray++its.toArray=(acc++its).toArray:=by simp
  have e2:(acc++its)++(Zs k its).flatten=acc++(Zs (k+1) its).flatten:=by
   rw[Z8,Yn,Yo]
  rw[<-e2,<-nq its k (acc++its),<-e,Z8,X0]
section
variable {X:Cx} {pins:List (Addr × Obj)} {σ:St} {H:Hp} {s:Shared} {l b:Addr} {xs ys zs:List V}
theorem Inv.lset{its its':List Value}{n:Nat}{f:Array Value->Array Value}{t':Nat}(I:Inv X pins σ H s)(hH:H l=some (.lst xs))
  (e:s.heap.get? l=some { cls:=.type "list", data:=.seq its.toArray n }) (hf:f its.toArray=its'.toArray) (hv:aO ys its') (hz:ys.length<=sizeLine) :
  Inv X pins σ (upd H l (.lst ys)) { s with heap:=s.heap.update l (Obj.mapSeq f),toks:=t' }:=by
 have q:=PySem.IsL.update e f;rw[hf] at q;refine I.write (x:=l) (e:=l) (by rw[hH];exact trivial) (.inl rfl) (λb' u hb hu=>(ZZ s.heap (Obj.mapSeq f) (Ne.symm hb)).trans hu) ⟨_,q⟩ ?_;exact⟨hz,its',_,hv,q⟩
theorem Inv.lnew{t':Nat}(I:Inv X pins σ H s)(hv:aO ys its)(hz:ys.length<=sizeLine) :
  Inv X pins σ (upd H s.heap.objs.size (.lst ys)) { s with heap:=s.heap.push { cls:=.type "list", data:=.seq its.toArray },toks:=t' }:=
 I.laid (λ_ _ q=>Zi _ q) (Zg _) ⟨hz,its,0,hv,Zy _ rfl⟩
theorem Inv.fresh(I:Inv X pins σ H s):H s.heap.objs.size=none:=I.hok.fresh (Zg _)
theorem Inv.lstM(I:Inv X pins σ H s)(hH:H l=some (.lst xs)):xs.length<=sizeLine/\∃ (its:List Value) (n:Nat),aO xs its/\xs.length=its.length/\s.heap.get? l=some { cls:=.type "list", data:=.seq its.toArray n }:=by
 obtain⟨z,its,n,r,e⟩:=I.hok l _ hH;exact⟨z,its,n,r,r.length,e⟩
theorem zd{n:Nat}(h:n<=sizeLine):Builtin.List.listTooLong n=false:=by
 unfold Builtin.List.listTooLong;exact decide_eq_false (by lia)
end
section
variable {X:Cx}
def C9:V->List V->Hp->VK->Prop:=λx vs H Q=>∃l xs y,x = .ref l/\vs=[y]/\H l=some (.lst xs)/\xs.length < sizeLine/\Q .non (upd H l (.lst (xs++[y])))
theorem nt:MtM X "list.append" C9:=by
 intro pins s σ H x vs v us Q I rx rv h;obtain⟨l,xs,y,rfl,rfl,hH,hz,q⟩:=h;cases rx;obtain⟨u,rfl,ru⟩:=rv.one;obtain⟨z,its,n,r,hl,e⟩:=I.lstM hH;refine VM WG ⟨_,e,rfl⟩ F.entry_list_append (F.args_list_append_2 _ _) (PySem.list_append l its.toArray n u (by rw[Zl];lia)) ⟨e,?_⟩;refine⟨.non,_,I.lset (its':=its++[u]) hH e (by simp) (r.append (.cons ru .nil)) ?_,rfl,q⟩;rw[Zc,Zn]
 lia
def Iw:V->List V->Hp->VK->Prop:=λx vs H Q=>∃l xs i k y,x = .ref l/\vs=[.int i]/\H l=some (.lst xs)/\-(2 ^ 63)<=i/\i < 2 ^ 63/\seqIndex? i xs.length=some k/\xs[k]?=some y/\Q y (upd H l (.lst (xs.eraseIdx k)))
theorem ze:MtM X "list.pop" Iw:=by
 intro pins s σ H x vs v us Q I rx rv h;obtain⟨l,xs,i,k,y,rfl,rfl,hH,h1,h2,hk,hy,q⟩:=h;cases rx;obtain⟨u,rfl,ru⟩:=rv.one;obtain⟨t,rfl⟩:=ru;obtain⟨z,its,n,r,hl,e⟩:=I.lstM hH;obtain⟨w,hw,rw'⟩:=r.get hy
 refine VM WK ⟨_,e,rfl⟩ F.entry_list_pop (F.args_list_pop_2 _ _)
  (MeetsSeq.list_pop_at l its.toArray n i t k w (fitsIndex_both h1 h2) (by rw[Zl,<-hl];exact hk) (by rw[<-Array.getElem?_toList];exact hw) (by rw[Zl];lia)) ⟨e,?_⟩
 refine⟨y,_,I.lset (its':=its.eraseIdx k) hH e ?_ (r.eraseIdx k) ?_,rw',q⟩
 ·show its.toArray.eraseIdxIfInBounds k=(its.eraseIdx k).toArray;rw[List.eraseIdxIfInBounds_toArray]
 ·have:=nk xs k
  lia
def PZ:R2:=λx y H Q=>∃l b xs zs,x = .ref l/\y = .ref b/\H l=some (.lst xs)/\H b=some (.lst zs)/\xs.length+zs.length<=sizeLine/\∀p,H p=none->Q (.ref p) (upd H p (.lst (xs++zs)))
theorem zf:OpR X (VH .Add) PZ:=by
 intro pins s σ H x y v u Q I rx ry h;obtain⟨l,b,xs,zs,rfl,rfl,hH,hB,hz,q⟩:=h;cases rx;cases ry;obtain⟨z,its,n,r,hl,e⟩:=I.lstM hH;obtain⟨z2,its2,n2,r2,hl2,e2⟩:=I.lstM hB;refine PySem.P.add_list e e2 ?_ (by rw[Zl,Zl];lia);have ea:its.toArray++its2.toArray=(its++its2).toArray:=by simp
 rw[ea];exact⟨.ref _,_,I.lnew (t':=s.toks) (r.append r2) (by rw[Zc];lia),rfl,q _ I.fresh⟩
def P0:R2:=λx y H Q=>∃l k xs,x = .ref l/\y = .int k/\H l=some (.lst xs)/\-(2 ^ 63)<=k/\k < 2 ^ 63/\xs.length * k.toNat<=sizeLine ∧
 ∀p,H p=none->Q (.ref p) (upd H p (.lst (Zs k.toNat xs).flatten))
theorem Da{α:Type}(xs:List α)(k:Nat):(Zs k xs).flatten.length=k * xs.length:=by
 induction k with
 |zero=>simp
 |succ k ih=>rw[Z8,Yn,Zc,ih,XM,Nat.add_comm]
theorem Ix:OpR X (VH .Mult) P0:=by
 intro pins s σ H x y v u Q I rx ry h;obtain⟨l,k,xs,rfl,rfl,hH,h1,h2,hz,q⟩:=h;cases rx;obtain⟨t,rfl⟩:=ry;obtain⟨z,its,n,r,hl,e⟩:=I.lstM hH;have hlen:its.toArray.size * k.toNat<=sizeLine:=by rw[Zl,<-hl];exact hz
 have hcap:¬ its.toArray.size * k.toNat > (2 ^ 63 - 1) / 8:=by
  have:(sizeLine:Nat)<=(2 ^ 63 - 1) / 8:=by decide
  lia
 have hfit:¬ (!Builtin.List.listFitsIndex k)=true:=by
  rw[fitsIndex_both h1 h2];exact Zd
 have hlong:¬ Builtin.List.listTooLong (its.toArray.size * k.toNat)=true:=by
  rw[zd hlen];exact Zd
 have hnew:X6 (λx1 x2=>x1++x2) #[] (Zs (if its.toArray.isEmpty=true then 0 else k.toNat) its.toArray)=(Zs k.toNat its).flatten.toArray:=by
  have f0:∀m:Nat,X6 (λx1 x2=>x1++x2) #[] (Zs m its.toArray)=(Zs m its).flatten.toArray:=λm=>by
   have:=nq its m [];rw[X1] at this;exact this
  rw[f0];cases its with
  |nil=>simp
  |cons a r'=>rw[if_neg (by simp)]
 refine wpAny_binaryOp_repeat_ref (T := "list") (U := "int") (by decide) ⟨_,e,rfl⟩ (λs'=>typeIs_int s' k t) noFill_list_mul F.fills_int_mul F.slot_int_rmul repeat_list F.slot_int_index.lookup
  (VM F.slot_int_rmul (typeIs_int s k t) F.entry_int_rmul (F.args_int_rmul_2 _ _) (int___rmul___int_list k t l its.toArray n)
   ⟨e,rfl,⟨_,e,rfl⟩,VM F.slot_list_mul ⟨_,e,rfl⟩ F.entry_list_mul (F.args_list_mul_2 _ _) (AutoListH.list___mul___list_int_3 l its.toArray n k t hfit hcap hlong) ⟨e,?_⟩⟩)
 rw[hnew];exact⟨.ref _,_,I.lnew (t':=s.toks) (r.rep k.toNat) (by rw[Da,Nat.mul_comm];exact hz),rfl,q _ I.fresh⟩
end
end L2
namespace Att
open PySem PySem.W PySem.Calls PyProof.Rows
theorem j7:∀ (ns:List Int) (vs:List Value),WellAll P h vs (ns.map WData.int)->IntsAre vs ns:=by
 intro ns
 induction ns with
 |nil=>
  intro vs w;rw[Z5] at w;cases w;exact .nil
 |cons n ns ih=>
  intro vs w;rw[Zu] at w;cases w with
  |cons a b=>
   cases a;exact .cons _ _ (ih _ b)
theorem xj{l:OpenLaw}{n:Nat}(hn:l.most=some n){P:Params}{h:Heap}{args:List WData}{vals:List Value}
  (hpre:l.row.toRowW.claim.pre args=true) (hwl:WellAll P h vals args) :
  ∃a vs ns,vals=[Value.ref a]/\args=[WData.list (ns.map WData.int)]/\h.get? a=some { cls:=.type "list", data:=.seq vs.toArray }/\IntsAre vs ns/\ns.length<=n:=by
 have hsh:WShape.hasAll [] args [.list .int]=true:=(pre_splitW hpre).1;have hc:l.pre.holds [] { args:=args }=true:=(pre_splitW hpre).2;obtain⟨d,r,rfl,h1,h2⟩:=hasAllW_cons hsh;obtain rfl:=hasAllW_nil h2;obtain⟨xs,rfl,h3⟩:=hasW_list h1;obtain⟨ns,rfl⟩:=items_int h3
 have hlen:ns.length<=n:=by
  unfold OpenLaw.pre at hc
  have h4:(WTm.not (.lt (.lit (.int (n:Int))) (.len (.arg 0)))).holds [] { args:=[.list (ns.map .int)] }=true:=by
   have h4:=(holds_andW hc).1;rw[hn] at h4;exact h4
  have h5:=condW_of h4 (w_not (w_lt w_lit (w_len_list (w_arg rfl))));rw[Za] at h5;refine Nat.le_of_not_lt λq=>?_;have q':(n:Int) < ((ns.length:Nat):Int):=by lia
  first
   |(rw[decide_eq_true q'] at h5;exact absurd h5 (by decide))
   |(simp at h5;lia)
 cases hwl with
 |cons w1 w2=>
  cases w2;cases w1 with
  |list ho hall=>exact⟨_,_,ns,rfl,rfl,ho,j7 ns _ hall,hlen⟩
theorem xk(l:OpenLaw)(args:List WData):l.row.toRowW.claim.post args (.bool true) args=true:=
 postW_of (r:=l.row.toRowW) (X:=(true == true))
  (show WShape.has [] (.bool true) .bool=true by first |rfl |decide |simp[WShape.has,WShape.arms,WShape.armsAll])
  (show(WTm.eq .res (.lit (.bool true))).value [] { args:=args,res:=some (.bool true),after:=args }=some (.bool (true == true)) from w_eq_bool (w_res rfl) w_lit) rfl
theorem attach_call{l:OpenLaw}{n:Nat}{q:Program}{loose:List Str}{XP:(Str->Option Value)->Heap->Prop}{YP:World->Heap->Prop}{d:DefRec}
  (hn:l.most=some n) (hdf:d.params.defaults=[])
  (call:∀ (w:World) (s₀ s₁:Shared) (mg mb:Str->Option Value) (fa:Addr) (o:Obj) (pm cd doc:Value) (a:Addr) (vs:List Value) (ns:List Int),
   Ground q loose [] XP w s₀ mg mb s₁.heap->YP w s₁.heap ->
   s₁.heap.get? fa=some o->o.data = .func (docDef d.name d.params d.body d.scope pm cd doc)->s₁.heap.CodeRec cd d.name->mg d.name=some (.ref fa) ->
   s₁.heap.get? a=some { cls:=.type "list", data:=.seq vs.toArray }->IntsAre vs ns->ns.length<=n->s₁.gens=#[] ->
   codeAny (model l.prog w) callerA (.call (.ref fa) ⟨[.ref a],[]⟩) (λr s'=>r = .ok (.ret (.bool true))/\OldK s₁.heap s'.heap/\s'.os=s₁.os/\AllBare s'.gens) s₁) :
  WalkO q loose XP YP l.row.toRowW d [] (λf vs=>PySem.call f vs):=by
 intro w s₀ s₁ mg mb G Y fa o pm cd doc dV kV ho hd hcd hD hmg hg args vals as hpre hlay hrd hwl hlo;obtain rfl:dV = .none:=Dflts.none hD hdf;obtain rfl:kV = .none:=Dflts.noKw hD;obtain⟨a,vs,ns,rfl,rfl,hobj,hints,hlen⟩:=xj hn hpre hwl;refine enter_call (VS (call w s₀ s₁ mg mb fa o pm cd doc a vs ns G Y ho (fd_plain hd) hcd hmg hobj hints hlen hg) λr s' hq=>?_);obtain⟨rfl,h2,h3,h4⟩:=hq;exact⟨.inl ⟨.bool true,.bool true,[],rfl,λ_=>rfl,.bool true,xk l _,λ_=>⟨List.Pairwise.nil,λ_ hm=>(nomatch hm)⟩⟩,h2,h3,h4⟩
end Att
namespace L2
open PySem PySem.Spec PyProof.Rows
theorem gz:∀ {vs:List Value} {ns:List Int},IntsAre vs ns->aO (ns.map V.int) vs
 |_,_,.nil=>.nil
 |_,_,.cons n t h=>.cons ⟨t,rfl⟩ (gz h)
def M6(H:Hp):Prop:=∀b,H b=none\/∃o xs,H b=some (.frz o (.lst xs))
theorem zg{P:Program}{w:World}{K:Vf}{mg mb:Str->Option Value}{CX:CXT}{k:Nat}{fa a:Addr}{fd:WQ}{x:Str}{sp:Sp}{s₁:Shared}{vs:List Value}{ns:List Int}
  (KX:K.In s₁.heap) (hns:s₁.heap.Ns V6 mg) (hb:s₁.heap.Ns VL mb) (hbb:∀x:Str,x ≠ "__name__"->mb x=VJ x) (hlim:s₁.heap.NoLimit) (hg:s₁.gens=#[])
  (ha:s₁.heap.get? a=some { cls:=.type "list", data:=.seq vs.toArray }) (hi:IntsAre vs ns) (hl:ns.length<=sizeLine) (hr:Room k callerA)
  (F:∀base:Heap,K.In base->base.Ns V6 mg->FnOk P w K mg base CX k fa fd [x] sp) (hbind:∀ (s:Shared) (u:Value),BindsTo s fd ⟨[u],[]⟩ [(x,u)])
  (hsp:∀H:Hp,M6 H->SqL K H a (ns.map V.int)->sp [.ref a] H (λv _=>v = .bl true) λ_ _ _=>False)
  (hCX:∀H e s',CX [] H s₁ (λ_ _ _=>False) e s'->False) :
  codeAny (model P w) callerA (.call (.ref fa) ⟨[.ref a],[]⟩) (λr s'=>r = .ok (.ret (.bool true))/\OldK s₁.heap s'.heap/\s'.os=s₁.os/\AllBare s'.gens) s₁:=by
 have rv:=gz hi;have lenV:=hi.length
 have core:∀H:Hp,M6 H->SqL K H a (ns.map V.int)->HOk P w H s₁.heap->(∀b,H b ≠ none->b=a)->(H a ≠ none->K.lookup a=none) ->
   codeAny (model P w) callerA (.call (.ref fa) ⟨[.ref a],[]⟩) (λr s'=>r = .ok (.ret (.bool true))/\OldK s₁.heap s'.heap/\s'.os=s₁.os/\AllBare s'.gens) s₁:=by
  intro H hO hS hok hA hK;have base_of:∀ {b:Addr} {o:Obj},s₁.heap.get? b=some o->H b=none->(ot s₁.heap H).get? b=some o:=λe n=>yH e n
  have noA:∀ {b:Addr} {o:Obj} {es:Array Wy} {ep:Nat},s₁.heap.get? b=some o->o.data = .dict es ep->H b=none:=λ{b o es ep} e d=>by
   cases q:H b with
   |none=>rfl
   |some u=>
    have e':b=a:=hA b (by rw[q];simp);subst e';rw[ha] at e;cases e;have d':Data.seq vs.toArray _=Data.dict es ep:=d;cases d'
  have nsK:∀ {b:Addr} {m:Str->Option Value},s₁.heap.Ns b m->(ot s₁.heap H).Ns b m:=λ{b m} ⟨o,es,ep,e,d,r⟩=>⟨o,es,ep,base_of e (noA e d),d,r⟩
  have hKb:K.In (ot s₁.heap H):=λb o e=>base_of (KX b o e) (by
   cases q:H b with
   |none=>rfl
   |some u=>
    have e':b=a:=hA b (by rw[q];simp);subst e';rw[hK (by rw[q];simp)] at e;cases e)
  have hM:Mod K mg (ot s₁.heap H):=⟨hKb,nsK hns,⟨mb,nsK hb,hbb⟩,let ⟨mc,h1,h2⟩:=hlim;⟨mc,nsK h1,h2⟩⟩;have e0:Env0 P w K mg (ot s₁.heap H) callerA [] s₁ H:=⟨rfl,hM,λb o e=>CM e,Nat.le_of_eq (wW _ _),trivial,λb hb=>absurd (show b ∈ ([]:List Addr) from hb) (by simp),hok,.of_eq hg⟩;refine VS ((F _ hKb (nsK hns)).run callerA [] s₁ H ⟨[.ref a],[]⟩ [.ref a] [.ref a] _ _ hr e0 (hbind s₁ (.ref a)) (.cons rfl .nil) (hsp H hO hS)) λr s' h=>?_;cases r with
  |error e=>exact(hCX H e s' h).elim
  |ok fl=>
   cases fl with
   |next=>exact False.elim h
   |brk=>exact False.elim h
   |cont=>exact False.elim h
   |ret u=>
    obtain⟨v,H',os,bare,un,hok',r',q⟩:=h;have q':v = .bl true:=q;subst q';obtain rfl:u=Value.bool true:=r';refine⟨rfl,OldK.of_keep λb o e=>?_,os,bare⟩;cases q:H b with
    |none=>exact un.keep b o e q (by intro z;exact absurd (show b ∈ ([]:List Addr) from z) (by simp)) (by simp)
    |some u=>
     rcases hO b with z |⟨ob,xs,z⟩
     ·rw[q] at z;cases z
     ·have z2:=un.frzs b ob _ z;obtain⟨e1,_⟩:=hok b _ z;obtain⟨e2,_⟩:=hok' b _ z2;rw[e] at e1;cases e1;exact e2
 cases hk:K.lookup a with
 |some o=>
  have e:=KX a o hk;rw[ha] at e;cases e;refine core (λ_=>none) (λ_=>.inl rfl) (.inr ⟨_,vs.toArray,_,hk,rfl,rfl,rfl,by rw[Zl,lenV];exact hl,by simpa using rv⟩) (λb u z=>by have z':(none:Option HO)=some u:=z;cases z') (λb z=>absurd rfl z) λz=>absurd rfl z
 |none=>
  refine core (λb=>if b=a then some (.frz { cls:=.type "list", data:=.seq vs.toArray } (.lst (ns.map V.int))) else none) (λb=>?_) (.inl (.inr ⟨{ cls:=.type "list", data:=.seq vs.toArray },if_pos rfl⟩)) (λb u z=>?_) (λb z=>?_) λ_=>hk
  ·by_cases hb:b=a
   ·exact .inr ⟨_,_,if_pos hb⟩
   ·exact .inl (if_neg hb)
  ·by_cases hb:b=a
   ·have z':=(if_pos hb).symm.trans z;cases z';subst hb;exact⟨ha,by rw[Za];exact hl,vs,_,rv,ha⟩
   ·have z':=(if_neg hb).symm.trans z;cases z'
  ·by_cases hb:b=a
   ·exact hb
   ·exact absurd (if_neg hb) z
@[inline]abbrev CX0:CXT:=λ_ _ _ _ _ _=>False
@[inline]abbrev E0:XK:=λ_ _ _=>False
structure Fun(K:Vf)(x qual:Str)(st:Stmt)(f:Addr)(fd:WQ):Prop where
 ex:∃ (oc:Value) (od:Option Addr) (kV doc pm:Value) (an:Option Addr) (cdv ct:Value) (osl:Array (Option Value)),
  fd=Vm x qual (dI st) (bg st) (aq st) .none kV doc pm an cdv ct/\K.lookup f=some ⟨oc,od,.func fd,osl⟩/\Vj K cdv qual=true
 kp:Vq K (.ref f)=true
section
variable {P:Program} {w:World} {K:Vf} {mg:Str->Option Value} {base:Heap}
theorem Fun.binds{x qual:Str}{st:Stmt}{f:Addr}{fd:WQ}{ps:List Str}(F:Fun K x qual st f fd)
  (h:∀ (kV doc pm:Value) (an:Option Addr) (cdv ct:Value) (us:List Value),us.length=ps.length->bindArgs (Vm x qual (dI st) (bg st) (aq st) .none kV doc pm an cdv ct) ⟨us,[]⟩=pure (ps.zip us)):fv K fd ps []:=by
 obtain⟨oc,od,kV,doc,pm,an,cdv,ct,osl,rfl,lk,hcd⟩:=F.ex;exact .all (h kV doc pm an cdv ct)
theorem Iy{x qual:Str}{st:Stmt}{f:Addr}{oc:Value}{od an:Option Addr}{osl:Array (Option Value)}{kV doc pm cdv ct:Value}(l:K.lookup f=some ⟨oc,od,.func (Vm x qual (dI st) (bg st) (aq st) .none kV doc pm an cdv ct),osl⟩)
  (c:Vj K cdv qual=true) (k:Vq K (.ref f)=true):Fun K x qual st f (Vm x qual (dI st) (bg st) (aq st) .none kV doc pm an cdv ct):=⟨⟨oc,od,kV,doc,pm,an,cdv,ct,osl,rfl,l,c⟩,k⟩
end
theorem xl{n:Nat}(h:n<=1000):n < sizeLine:=XG h (by decide)
abbrev oO(ifs:List Expr)(env:Env):Sem Bool:=
 forIn ifs true λc r=>if r=true then do let ok <-isTrue c env (eval c env);pure (ForInStep.yield ok) else pure (ForInStep.yield r)
theorem Db{d:Nat}
  (hg:gens[d]?=some ⟨tg,iter,ifs,0⟩)
  (h:wpAny M A (pyNext it) (λr s1=>match r with
   |none=>Q (.done .next) s1
   | some v=>wpAny M A (V4 tg it v) (λ_ s2=>wpAny M A (assign tg env v) (λ_ s3=>wpAny M A (oO ifs env) (λok s4=>if ok=true then (match gens[d+1]? with
     |none=>wpAny M A (eval elt env) (λx s5=>wpAny M A (call (.builtin "list.append") [acc,x]) (λ_ s6=>Q (.again (.compLoop (.ListComp elt gens scope pos) d it acc env)) s6) E s5) E s4
     | some g'=>g'.is_async=0/\wpAny M A (eval g'.iter env) (λx s5=>wpAny M A (VZ g'.iter env x) (λx' s6=>wpAny M A (pyIter x') (λit' s7=>
       wpAny M A (runOwn (.compStart (.ListComp elt gens scope pos) (d+1) it' acc env) env) (λ_ s8=>Q (.again (.compLoop (.ListComp elt gens scope pos) d it acc env)) s8) E s7) E s6) E s5) E s4)
    else Q (.again (.compLoop (.ListComp elt gens scope pos) d it acc env)) s4) E s3) E s2) E s1) E s) :
  wpAny M A (compTurn (.ListComp elt gens scope pos) d it acc env) Q E s:=by
 unfold compTurn;simp only[hg];refine Uy (U0 ?_);show wpAny M A (pyNext it >>= _) Q E s;refine Uy (UM h (λr s1 h1=>?_) λ_ _ x=>x);cases r with
 |none=>exact US h1
 |some v=>
  refine Uy (UM h1 (λ_ s2 h2=>?_) λ_ _ x=>x);refine Uy (UM h2 (λ_ s3 h3=>?_) λ_ _ x=>x);refine Uy (UM h3 (λok s4 h4=>?_) λ_ _ x=>x);cases ok with
  |false=>exact US h4
  |true=>
   simp only[if_true] at h4 ⊢;cases hn:gens[d+1]? with
   |none=>
    rw[hn] at h4;refine Uy (Uy (UM h4 (λx s5 h5=>?_) λ_ _ x=>x));exact Uy (UM h5 (λ_ s6 h6=>US (US h6)) λ_ _ x=>x)
   |some g'=>
    rw[hn] at h4;obtain⟨ha,h4⟩:=h4;refine Uy (UM h4 (λx s5 h5=>Uy (U0 ?_)) λ_ _ x=>x);rw[ha];show wpAny M A (VZ g'.iter env x >>= _) Q E s5;refine Uy (UM h5 (λx' s6 h6=>?_) λ_ _ x=>x);refine Uy (UG (UM h6 (λit' s7 h7=>?_) λ_ _ x=>x));exact Uy (UM h7 (λ_ s8 h8=>US h8) λ_ _ x=>x)
abbrev bU(cells:List (Str × Addr)):List (Str × WT)->List (Str × Addr)->List (Str × Addr)
 |[],acc=>acc
 |(n,k)::r,acc=>if k == .free then bU cells r ((n,(cells.lookup n).getD 0)::acc) else bU cells r acc
theorem hY:∀ (names:List (Str × WT)) (acc:List (Str × Addr)),(∀y ∈ names,y.2 = .free->∃c,env.cells.lookup y.1=some c) ->
  (forIn names acc λ(x:Str × WT) (cs:List (Str × Addr))=>(match x with |(name,kind)=>if kind == .free then (do let a <-cellOf env name;pure (ForInStep.yield ((name,a)::cs))) else pure (ForInStep.yield cs):Sem (ForInStep (List (Str × Addr)))))
   = (pure (bU env.cells names acc):Sem (List (Str × Addr)))
 |[],acc,_=>by rw[YU];rfl
 |(n,k)::r,acc,h=>by
  rw[X2];have hr:∀y ∈ r,y.2 = .free->∃c,env.cells.lookup y.1=some c:=λy hy=>h y (Ze _ hy);cases hk:(k == NameKind.free) with
  |true=>
   obtain⟨c,hc⟩:=h (n,k) Zh (by simpa using hk);have e:cellOf env n=pure c:=by unfold cellOf;rw[show env.cells.lookup n=some c from hc]
   simp only[hk,if_true,e,pure_bind];rw[hY r _ hr]
   conv=>rhs;rw[bU]
   simp only[hk,if_true];rw[show env.cells.lookup n=some c from hc];rfl
  |false=>
   simp only[hk,ZW,if_false,pure_bind];rw[hY r _ hr]
   conv=>rhs;rw[bU]
   simp only[hk,ZW,if_false]
theorem vn(h:∀y ∈ scope.names,y.2 = .free->∃c,env.cells.lookup y.1=some c):closureFor scope env=pure (bU env.cells scope.names []):=by
 have e:=hY (env:=env) scope.names [] h;unfold closureFor;refine Eq.trans ?_ e
 first
  |rfl
  |(rw[bind_pure])
  |(simp only[bind_pure])
theorem jm:∀ {names:List (Str × WT)} {acc:List (Str × Addr)} {x:Str} {c:Addr},(x,c) ∈ bU cells names acc->(x,c) ∈ acc\/((x,NameKind.free) ∈ names/\c=(cells.lookup x).getD 0)
 |[],_,_,_,h=>.inl h
 |(n,k)::r,acc,x,c,h=>by
  unfold bU at h;split at h
  ·rename_i hk;have hk':k = .free:=by simpa using hk
   rcases jm h with e |⟨e,q⟩
   ·rcases Zm.mp e with e |e
    ·cases e;exact .inr ⟨by rw[hk'];exact Zh,rfl⟩
    ·exact .inl e
   ·exact .inr ⟨Ze _ e,q⟩
  ·rcases jm h with e |⟨e,q⟩
   ·exact .inl e
   ·exact .inr ⟨Ze _ e,q⟩
theorem fF:∀ {l:List (Str × Addr)},(∃c,(x,c) ∈ l)->∃c,l.lookup x=some c
 |[],⟨_,h⟩=>nomatch h
 |(n,c)::r,⟨c',h⟩=>by
  rw[ZQ];cases hb:x == n with
  |true=>exact⟨c,rfl⟩
  |false=>
   rcases Zm.mp h with e |e
   ·cases e;simp at hb
   ·exact fF ⟨c',e⟩
theorem gA:∀ {names:List (Str × WT)} {acc:List (Str × Addr)},(x,NameKind.free) ∈ names\/(∃c,(x,c) ∈ acc)->∃c,(x,c) ∈ bU cells names acc
 |[],_,h=>h.elim (λe=>nomatch e) id
 |(n,k)::r,acc,h=>by
  unfold bU;split
  ·rename_i hk;refine gA ?_;rcases h with h |⟨c,h⟩
   ·rcases Zm.mp h with e |e
    ·cases e;exact .inr ⟨_,Zh⟩
    ·exact .inl e
   ·exact .inr ⟨c,Ze _ h⟩
  ·rename_i hk;refine gA ?_;rcases h with h |⟨c,h⟩
   ·rcases Zm.mp h with e |e
    ·cases e;exact absurd rfl hk
    ·exact .inl e
   ·exact .inr ⟨c,h⟩
theorem cq:∀ (names:List (Str × WT)) (n:Nat) (acc:List (Str × Addr)),VO n names acc=VO n names []++acc
 |[],_,_=>rfl
 |(y,k)::r,n,acc=>by
  unfold VO;split
  ·rw[cq r (n+1) ((y,n)::acc),cq r (n+1) [(y,n)],Yo];rfl
  ·exact cq r n acc
theorem dS:∀ (names:List (Str × WT)) (n:Nat) (acc:List (Str × Addr)) (x:Str) (c:Addr),(x,c) ∈ VO n names acc->(x,c) ∈ acc\/(x,NameKind.cell) ∈ names
 |[],_,_,_,_,h=>.inl h
 |(y,k)::r,n,acc,x,c,h=>by
  unfold VO at h;split at h
  ·rename_i hk;have hk':k = .cell:=by simpa using hk
   rcases dS r _ _ x c h with e |e
   ·rcases Zm.mp e with e |e
    ·cases e;exact .inr (by rw[hk'];exact Zh)
    ·exact .inl e
   ·exact .inr (Ze _ e)
  ·rcases dS r _ _ x c h with e |e
   ·exact .inl e
   ·exact .inr (Ze _ e)
abbrev mZ(sc:Scope)(n:Str)(k:WT):WT:=if (k == .free && sc.kind == .function && sc.names.lookup n == some .cell) then .cell else k
abbrev fG(scope sc:Scope):Scope:={ scope with names:=scope.names.map λy=>(y.1,mZ sc y.1 y.2) }
theorem Dc(scope:Scope)(env:Env):relabel scope env=fG scope env.scope:=by
 unfold relabel fG
 congr 1
 refine Z9 λy _=>?_;obtain⟨n,k⟩:=y;unfold mZ;dsimp only;show(if (k == NameKind.free && env.scope.kind == ScopeKind.function && Xn n env.scope.names == some NameKind.cell)=true then (n,NameKind.cell) else (n,k))=_;split <;> rfl
theorem fH(sc:Scope)(x:Str):∀names:List (Str × WT),(names.map λy=>(y.1,mZ sc y.1 y.2)).lookup x=(names.lookup x).map (mZ sc x)
 |[]=>rfl
 |(n,k)::r=>by
  rw[Zu,ZQ,ZQ];dsimp only;cases hb:x == n with
  |true=>
   have q:x=n:=by simpa using hb
   subst q;rfl
  |false=>exact fH sc x r
abbrev sQ(scope:Scope)(C:Addr)(env:Env):Env:=
 { scope:=fG scope env.scope,locals:=C,globals:=env.globals,cells:=VO (C+1) scope.names (bU env.cells scope.names []),qual:=env.qual,func:=none,code:=env.code,frame:=env.frame,builtins:=env.builtins }
theorem xm
  (h:Q { scope:=scope,locals:=s.heap.objs.size,globals:=env.globals,cells:=VO (s.heap.objs.size+1) scope.names cl,qual:=env.qual,func:=none,code:=env.code,frame:=env.frame,builtins:=env.builtins }
   { s with heap:=Ue (s.heap.push { cls:=.type "dict", data:=.dict #[] }) scope.names }) :
  wpAny M A (V8 scope env.globals cl [] env.qual none .none (some env)) Q E s:=by
 simp only[V8,Option.isSome_some,if_true];refine Uy (wpAny_alloc ?_);refine Uy (wpAny_layCells _ (λname kind cells=>by cases hkc:kind == NameKind.cell <;> simp[hkc]) _ _ _ _ ?_);rw[show({ s with heap:=s.heap.push { cls:=.type "dict", data:=.dict #[] } }:Shared).heap.objs.size=s.heap.objs.size+1 from YA ..];simp only[YU]
 first
  |exact Uy (US (US h))
  |exact US h
abbrev zh(i:Nat):Str:=⟨#[i]⟩
abbrev c7:List Nat->List Str->List Str
 |[],N=>N
 |i::hs,N=>c7 hs (N.set i (zh i))
theorem jp:∀ (hs:List Nat) (N:List Str),(c7 hs N).length=N.length
 |[],_=>rfl
 |i::hs,N=>by rw[c7,jp hs,ZY]
theorem nu:∀ (hs:List Nat) (N:List Str) {i:Nat} {x:Str},(c7 hs N)[i]?=some x->N[i]?=some x\/∃j ∈ hs,x=zh j
 |[],_,_,_,h=>.inl h
 |k::hs,N,i,x,h=>by
  rw[c7] at h;rcases nu hs (N.set k (zh k)) h with e |⟨j,hj,e⟩
  ·rw[Yy] at e;split at e
   ·split at e
    ·exact .inr ⟨k,Zh,(Option.some.inj e).symm⟩
    ·cases e
   ·exact .inl e
  ·exact .inr ⟨j,Ze _ hj,e⟩
structure CmScope(own:List Str)(hs:List Nat)(N:List Str)(scope sc:Scope):Prop where
 kind:scope.kind = .function
 nd:(c7 hs N++own).Nodup
 uniq:(scope.names.map (·.1)).Nodup
 dis:∀x ∈ c7 hs N,scope.names.lookup x ≠ some .local/\scope.names.lookup x ≠ some .cell
 fr:∀y ∈ scope.names,y.2 = .free->sc.names.lookup y.1=some .cell\/sc.names.lookup y.1=some .free
 hd:∀i ∈ hs,scope.names.lookup (zh i)=none
theorem cZ:∀ {l:List (Str × WT)} {x:Str} {k:WT},(l.map (·.1)).Nodup->(x,k) ∈ l->l.lookup x=some k
 |(n,k')::r,x,k,nd,h=>by
  rw[Zu,Yd] at nd;rw[ZQ];rcases Zm.mp h with e |e
  ·cases e;simp
  ·have ne:(x == n)=false:=by
    cases hb:x == n with
    |false=>rfl
    |true=>
     have q:x=n:=by simpa using hb
     subst q;exact absurd (ZL.mpr ⟨(x,k),e,rfl⟩) nd.1
   rw[ne];exact cZ nd.2 e
abbrev cxC(X:Cx)(own:List Str)(hs:List Nat)(scope:Scope)(C:Addr)(ex:List Addr)(s:Shared)(H:Hp):Cx where
 prog:=X.prog
 w:=X.w
 K:=X.K
 mg:=X.mg
 base:=X.base
 A:=X.A
 N:=c7 hs X.N++own
 s₀:=s
 H₀:=H
 env:=sQ scope C X.env
 outer:=X.stack
 stack:=X.stack
 ex:=ex
 fn:=λx=>scope.names.lookup x == some .cell
 calm:=X.calm
 pn:=[]
 xe:=λ_ _=>False
section
variable {X:Cx} {pins:List (Addr × Obj)} {σ:St} {H:Hp} {s:Shared} {own:List Str} {hs:List Nat} {scope:Scope} {fp:List Addr}
theorem Inv.compStart(I:Inv X pins σ H s)(S:CmScope own hs X.N scope X.env.scope)(hf:∀b ∈ fp,gU X pins H b)(hfo:∀b ∈ fp,b < s.heap.objs.size) :
  Inv (cxC X own hs scope s.heap.objs.size fp s H) [] (σ++Zs own.length none) H { s with heap:=Ue (s.heap.push { cls:=.type "dict", data:=.dict #[] }) scope.names }:=by
 have keep:∀b o,s.heap.get? b=some o->(Ue (s.heap.push { cls:=.type "dict", data:=.dict #[] }) scope.names).get? b=some o:=λb o e=>Uf _ _ b o (Zi _ e);have ok:=cellsFrom_ok scope.names (s.heap.push { cls:=.type "dict", data:=.dict #[] }) (s.heap.objs.size+1) [] ⟨λ_ _ hm=>(nomatch hm),List.Pairwise.nil⟩ (by rw[YA];exact Zg _);rw[YA] at ok;have cells:(sQ scope s.heap.objs.size X.env).cells=VO (s.heap.objs.size+1) scope.names []++bU X.env.cells scope.names []:=cq _ _ _;have hasX:∀x,(x,NameKind.free) ∈ scope.names->∃c,X.env.cells.lookup x=some c:=λx h=>I.ok.has x (S.fr (x,.free) h rfl)
 have old:∀x c,(x,c) ∈ bU X.env.cells scope.names []->X.env.cells.lookup x=some c/\(x,NameKind.free) ∈ scope.names:=λx c h=>by
  rcases jm h with e |⟨e,q⟩
  ·exact nomatch e
  ·obtain⟨c',hc⟩:=hasX x e;rw[hc] at q;exact⟨by rw[hc,q];rfl,e⟩
 have oldlt:∀x c,X.env.cells.lookup x=some c->c < s.heap.objs.size:=λx c h=>let ⟨_,z⟩:=I.cell x c h;z.lt
 have which:∀x c,(sQ scope s.heap.objs.size X.env).cells.lookup x=some c->((x,c) ∈ VO (s.heap.objs.size+1) scope.names [])\/(X.env.cells.lookup x=some c/\(x,NameKind.free) ∈ scope.names):=λx c h=>by
  have m:=V7 h;rw[cells] at m;rcases ZJ.mp m with e |e
  ·exact .inl e
  ·exact .inr (old x c e)
 have neu:∀x c,(x,c) ∈ VO (s.heap.objs.size+1) scope.names []->s.heap.objs.size+1<=c:=λx c h=>(ok.empty x c h).2
 have noFs:∀b ∈ fp,b ∉ frs X.stack:=λb hb z=>by
  rcases Zm.mp (I.stkSub b z) with e |e
  ·exact(hf b hb).2.1 e
  ·exact(hf b hb).2.2.1 e
 have xok:(cxC X own hs scope s.heap.objs.size fp s H).Ok:=by
  refine⟨I.ok.mod,S.kind,I.ok.glob,I.ok.blt,Zg _,?_,?_,?_,I.ok.hd,I.ok.frames,.inl rfl,?_,I.bs,Zw I.ok.bsz I.sz,?_,noFs,I.stack,I.stkFree⟩
  ·intro x y c h1 h2;rcases which x c h1 with a |⟨a,_⟩ <;> rcases which y c h2 with b |⟨b,_⟩
   ·exact name_of_addr ok.apart a b
   ·exact absurd (Zv (oldlt y c b) (YY (neu x c a))) (ZN _)
   ·exact absurd (Zv (oldlt x c a) (YY (neu y c b))) (ZN _)
   ·exact I.ok.inj x y c a b
  ·intro x hx;have hx':(fG scope X.env.scope).names.lookup x=some .cell\/(fG scope X.env.scope).names.lookup x=some .free:=hx;have e:=fH X.env.scope x scope.names
   have key:(x,NameKind.cell) ∈ scope.names\/(x,NameKind.free) ∈ scope.names:=by
    cases hl:scope.names.lookup x with
    |none=>rw[hl] at e;rcases hx' with z |z <;> (rw[show(fG scope X.env.scope).names.lookup x=none from e] at z;cases z)
    |some k=>
     have m:=V7 hl;rw[hl] at e;cases k with
     |cell=>exact .inl m
     |free=>exact .inr m
     |_=>rcases hx' with z |z <;> (rw[show(fG scope X.env.scope).names.lookup x=_ from e] at z;simp[mZ] at z)
   rcases key with h |h
   ·have q:=Vh scope.names (s.heap.objs.size+1) (bU X.env.cells scope.names []) (x:=x) (.inl (cZ S.uniq h));exact ZT.mp q
   ·obtain⟨c,hc⟩:=gA (cells:=X.env.cells) (acc:=[]) (.inl h);have q:∃c,(x,c) ∈ (sQ scope s.heap.objs.size X.env).cells:=⟨c,by rw[cells];exact Zx _ hc⟩;exact fF q
  ·intro x c hfn hl
   have hfn':scope.names.lookup x=some .cell:=by
    have z:(scope.names.lookup x == some NameKind.cell)=true:=hfn
    simpa using z
   rcases which x c hl with a |⟨_,b⟩
   ·exact Zw (Yk _) (neu x c a)
   ·rw[cZ S.uniq b] at hfn';cases hfn'
  ·intro b hb;refine⟨ZF (hfo b hb),λx c h z=>?_⟩;rcases which x c h with a |⟨a,_⟩
   ·exact absurd (Zv (z ▸ hfo b hb) (YY (neu x c a))) (ZN _)
   ·exact(hf b hb).2.2.2.2.1 x c a z
  ·intro b o e hb;rcases (hf b hb).2.2.2.1 with z |z
   ·exact I.ok.noex b o e z
   ·have h1:=Zq e;exact absurd (Zv h1 (Zw I.ok.bsz z)) (ZN _)
 have m0:(Ue (s.heap.push { cls:=.type "dict", data:=.dict #[] }) scope.names).Ns s.heap.objs.size (λ_=>none):=(Heap.Ns.new s.heap (.type "dict")).keeps (Uf _ _);refine⟨xok,rfl,I.bare,Un.kept keep,⟨_,m0,?_⟩,?_,I.hok.fresh (Zg _),?_,λp hp=>absurd (show p ∈ ([]:List (Addr × Obj)) from hp) (by simp),I.hok.kept keep,?_⟩
 ·intro i x v h1 h2 h3
  have hi:i < σ.length:=by
   by_cases hi:i < σ.length
   ·exact hi
   ·rw[Zp (by lia),Yr] at h2;split at h2 <;> cases h2
  rw[Zt hi] at h2;have hN:i < X.N.length:=by rw[<-I.len];exact hi
  have h1h:(c7 hs X.N)[i]?=some x:=by
   have h1:(c7 hs X.N++own)[i]?=some x:=h1
   rwa [Zt (by rw[jp];exact hN)] at h1
  have dx:=S.dis x (Zj h1h);have e:=fH X.env.scope x scope.names;have h3':(fG scope X.env.scope).names.lookup x=some .local\/(fG scope X.env.scope).names.lookup x=some .cell\/(fG scope X.env.scope).names.lookup x=some .free:=h3
  have hfree:scope.names.lookup x=some .free:=by
   cases hl:scope.names.lookup x with
   |none=>rw[hl] at e;rcases h3' with z |z |z <;> (rw[show(fG scope X.env.scope).names.lookup x=none from e] at z;cases z)
   |some k=>
    rw[hl] at e dx;cases k with
    |free=>rfl
    |«local»=>exact absurd rfl dx.1
    |cell=>exact absurd rfl dx.2
    |_=>rcases h3' with z |z |z <;> (rw[show(fG scope X.env.scope).names.lookup x=_ from e] at z;simp[mZ] at z)
  have h1':X.N[i]?=some x:=by
   rcases nu hs X.N h1h with z |⟨j,hj,z⟩
   ·exact z
   ·rw[z,S.hd j hj] at hfree;cases hfree
  have mfree:=V7 hfree;have kX:=S.fr (x,.free) mfree rfl;obtain⟨m,hn,hl⟩:=I.loc;obtain⟨u,r,l⟩:=hl i x v h1' h2 (kX.elim (λz=>.inr (.inl z)) λz=>.inr (.inr z));refine⟨u,r,.inr ⟨?_,?_⟩⟩
  ·have k3:(fG scope X.env.scope).names.lookup x=some (mZ X.env.scope x .free):=by rw[hfree] at e;exact e
   have k4:mZ X.env.scope x .free = .cell\/mZ X.env.scope x .free = .free:=by unfold mZ;split <;> simp
   rcases k4 with z |z
   ·exact .inl (by show(fG scope X.env.scope).names.lookup x=_;rw[k3,z])
   ·exact .inr (by show(fG scope X.env.scope).names.lookup x=_;rw[k3,z])
  ·rcases l with ⟨lk,_⟩ |⟨_,c,hc,z⟩
   ·have lk':X.env.scope.names.lookup x=some .local:=lk;rcases kX with q |q <;> (rw[q] at lk';cases lk')
   ·refine⟨c,?_,z.keeps keep⟩;obtain⟨c',hc'⟩:=gA (cells:=X.env.cells) (acc:=[]) (.inl mfree);obtain⟨c2,hl2⟩:=fF (l:=(sQ scope s.heap.objs.size X.env).cells) ⟨c',by rw[cells];exact Zx _ hc'⟩;rcases which x c2 hl2 with a |⟨a,_⟩
    ·rcases dS _ _ _ _ _ a with q |q
     ·exact nomatch q
     ·rw[cZ S.uniq q] at hfree;cases hfree
    ·rw[hc] at a;cases a;exact hl2
 ·intro x c h;rcases which x c h with a |⟨a,_⟩
  ·exact⟨_,(ok.empty x c a).1⟩
  ·obtain⟨v,z⟩:=I.cell x c a;exact⟨v,z.keeps keep⟩
 ·intro x c h;rcases which x c h with a |⟨a,_⟩
  ·exact I.hok.fresh (Zw (Yk _) (neu x c a))
  ·exact I.freeC x c a
 ·show(σ++Zs own.length none).length=(c7 hs X.N++own).length;rw[Zc,Zc,YI,jp,I.len]
end
def ql(J:It)(g:TG)(tb:TS)(D:Ends)(σ:St)(H:Hp):Prop:=∃W:Nat->Nat->St->Hp->Prop,(∃m,W 0 m σ H)/\∀i m σ H,W i m σ H ->
 (J.stop i H/\D.nx σ H)\/(J.go i H/\∃N:St->Hp->Prop,(∀σ' H',N σ' H'->∃m',m' < m/\W (i+1) m' σ' H')/\∀x H',J.yld i H x H'->g x σ H' λσ2 H2=>tb { D with nx:=N,ct:=N,bk:=D.nx } σ2 H2)
def PTs(Y:Cx)(ifs:List Expr)(t:TT):Prop:=
 ∀ (pins:List (Addr × Obj)) (s:Shared) (σ:St) (H:Hp) (Q:Bool->Hp->Prop),Inv Y pins σ H s->t σ H Q->wpAny (model Y.prog Y.w) Y.A (oO ifs Y.env) (TP Y pins σ Q) Y.xe s
def Dd:TT:=λ_ H Q=>Q true H
theorem De:PTs Y [] Dd:=λ_ _ _ H _ I h=>by
 unfold oO;rw[YU];exact US ⟨H,I,h⟩
theorem Df(hc:PT Y c t):PTs Y [c] t:=λpins s σ H Q I h=>by
 unfold oO;rw[X2];simp only[if_true,YU];refine Uy (Uy (thn (hc pins s σ H Q I h) λb s1 q=>US ?_));exact US q
def PTl(Y:Cx)(elt:Expr)(gens:List Wx)(scope:Scope)(pos:Pos)(acc:Addr)(d:Nat)(t:TS):Prop:=
 ∀ (pins:List (Addr × Obj)) (s:Shared) (σ:St) (H:Hp) (D:Ends),Inv Y pins σ H s->t D σ H ->
  match gens[d+1]? with
  |none=>wpAny (model Y.prog Y.w) Y.A (eval elt Y.env) (λx s5=>wpAny (model Y.prog Y.w) Y.A (call (.builtin "list.append") [.ref acc,x]) (λ_ s6=>∃σ' H',Inv Y pins σ' H' s6/\D.nx σ' H') (λ_ _=>False) s5) (λ_ _=>False) s
  | some g'=>g'.is_async=0/\wpAny (model Y.prog Y.w) Y.A (eval g'.iter Y.env) (λx s5=>wpAny (model Y.prog Y.w) Y.A (VZ g'.iter Y.env x) (λx' s6=>wpAny (model Y.prog Y.w) Y.A (pyIter x') (λit' s7=>
    wpAny (model Y.prog Y.w) Y.A (runOwn (.compStart (.ListComp elt gens scope pos) (d+1) it' (.ref acc) Y.env) Y.env) (λ_ s8=>∃σ' H',Inv Y pins σ' H' s8/\D.nx σ' H') (λ_ _=>False) s7) (λ_ _=>False) s6) (λ_ _=>False) s5) (λ_ _=>False) s
def fA(ti:TT)(t:TS):TS:=λD σ H=>ti σ H λc H'=>if c=true then t D σ H' else D.nx σ H'
def GV(acc:Addr)(te:TE):TS:=λD σ H=>te σ H λx H1=>∃xs,H1 acc=some (.lst xs)/\xs.length < sizeLine/\D.nx σ (upd H1 acc (.lst (xs++[x])))
section
variable {Y:Cx} {elt:Expr} {gens:List Wx} {scope:Scope} {pos:Pos} {acc:Addr} {d:Nat}
theorem zi(hx:Y.xe=λ_ _=>False)(hn:gens[d+1]?=none)(he:PE Y elt te):PTl Y elt gens scope pos acc d (GV acc te):=by
 intro pins s σ H D I h;rw[hn];have hE:=he pins s σ H _ I h;rw[hx] at hE;refine thn hE λx s5 ⟨v,H5,I5,r5,xs,h1,h2,q⟩=>?_;have z:=nt pins s5 σ H5 (.ref acc) [v] (.ref acc) [x] (λy H'=>y = .non/\D.nx σ H') I5 rfl (.cons r5 .nil) ⟨acc,xs,v,rfl,rfl,h1,h2,rfl,q⟩;rw[hx] at z;exact thn z λy s6 ⟨v6,H6,I6,r6,e6,q6⟩=>⟨σ,H6,I6,q6⟩
theorem kN{A:Around}{R:Result->Shared->Prop}{prog:Program}{w:World}{s:Shared}{tg iter:Expr}{ifs:List Expr}{it acc:Value}{env:Env}(hg:gens[d]?=some ⟨tg,iter,ifs,0⟩)
  (h0:codeAny (model prog w) A (.compLoop (.ListComp elt gens scope pos) d it acc env) R s)
  (h:wpAny (model prog w) A (pyIter it) (λit' s'=>codeAny (model prog w) A (.compLoop (.ListComp elt gens scope pos) d it' acc env) R s') (notedBy (model prog w) A env λx s'=>R (.error x) s') s) :
  codeAny (model prog w) A (.compStart (.ListComp elt gens scope pos) d it acc env) R s:=by
 refine codeAny_of_tree ?_;show wpAny _ _ ((compStart (.ListComp elt gens scope pos) d it acc env).onRaise (λx=>do noteFrame x env;standAt theWindowsPlace)) _ _ s;refine wpAny_notedAt ?_;unfold compStart;have hcl:(clausesOf (.ListComp elt gens scope pos))[d]?=some ⟨tg,iter,ifs,0⟩:=hg;simp only[hcl,Option.elim];show wpAny _ _ (ask >>= _) _ _ s;refine Uy (wpAny_askSetting (wpAny_ite ?_));split
 ·first
   |exact Uy (US (US (And.intro rfl h0)))
   |exact US (And.intro rfl h0)
 ·first
   |exact Uy (UX (Uy (U0 (Uy (UM h (λit' s' h'=>US (And.intro rfl h')) λ_ _ x=>x)))))
   |(refine Uy (UX ?_);show wpAny _ _ (standAt iter.pos >>= _) _ _ s;exact Uy (U0 (Uy (UM h (λit' s' h'=>US (And.intro rfl h')) λ_ _ x=>x))))
theorem nv
  (hx:Y.xe=λ_ _=>False) (hc:Y.calm=true) (hg:gens[d]?=some ⟨tg,iter,ifs,0⟩) (T:Turn Y.prog Y.w Y.K tg J fp it tn) (I2:Inv Y pins σ H s) (st2:tn 0 s.heap) (f2:∀b ∈ fp,gU Y pins H b)
  (hgt:PG Y tg g) (hts:PTs Y ifs ti) (htl:PTl Y elt gens scope pos acc d t) (hW:ql J g (fA ti t) D σ H) :
  codeAny (model Y.prog Y.w) Y.A (.compLoop (.ListComp elt gens scope pos) d (.ref it) (.ref acc) Y.env) (λr s'=>r = .ok .next/\∃σ' H',Inv Y pins σ' H' s'/\D.nx σ' H') s:=by
 obtain⟨W,⟨m0,w0⟩,turn⟩:=hW;have stat:∀ {H':Hp},(∀b ∈ fp,H' b=none)->∀b ∈ fp,gU Y pins H' b:=λhn b hb=>⟨hn b hb,(f2 b hb).2⟩;refine codeAny_loop rfl (λn s'=>∃i σ' H',Inv Y pins σ' H' s'/\tn i s'.heap/\(∀b ∈ fp,H' b=none)/\W i n σ' H') (λn s3 hI=>?_) m0 ⟨0,σ,H,I2,st2,λb hb=>(f2 b hb).1,w0⟩;obtain⟨i,σ3,H3,I3,st3,fr3,w3⟩:=hI;show wpAny _ _ ((compTurn (.ListComp elt gens scope pos) d (.ref it) (.ref acc) Y.env).onRaise (λx=>do noteFrame x Y.env;theTreesLotGoes x)) _ _ s3;refine wpAny_noted (UM (E:=λ_ _=>False) ?_ (λ_ _ q=>q) λ_ _ z=>z.elim);refine Db hg ?_;rcases turn i n σ3 H3 w3 with ⟨stop,qn⟩ |⟨go,N,hN,step⟩
 ·refine thn (T.done Y rfl rfl rfl hc i pins s3 σ3 H3 _ I3 (stat fr3) st3 stop) λr s4 ⟨hr,I4⟩=>?_;subst hr;exact⟨rfl,σ3,H3,I4,qn⟩
 ·refine thn (T.item Y rfl rfl rfl hc i pins s3 σ3 H3 _ I3 (stat fr3) st3 go) λr s4 ⟨u,hr,h4⟩=>?_;subst hr;refine thn h4 λ_ s5 ⟨x,H5,I5,r5,y5,st5,fr5⟩=>?_;have I5':=I5.pinned (stat fr5) (T.obj _ _ st5)
  have again:∀ {σ7:St} {H7:Hp} {s7:Shared},Inv Y (pins++kI fp s5.heap) σ7 H7 s7->N σ7 H7->∃m,m < n/\∃i σ' H',Inv Y pins σ' H' s7/\tn i s7.heap/\(∀b ∈ fp,H' b=none)/\W i m σ' H':=λ{σ7 H7 s7} I7 n7=>by
   obtain⟨m',hm,w7⟩:=hN σ7 H7 n7;refine⟨m',hm,i+1,σ7,H7,I7.unpinned,T.keep _ _ _ st5 λb hb o e=>(I7.pin (b,o) (Zx _ (Zx _ (eV hb e)))).1,λb hb=>?_,w7⟩;obtain⟨o,e,dd⟩:=T.obj _ _ st5 b hb;exact(I7.pin (b,o) (Zx _ (Zx _ (eV hb e)))).2.1
  have hG:=hgt _ s5 σ3 H5 x u _ I5' r5 (step x H5 y5);rw[hx] at hG;refine thn hG λ_ s6 ⟨σ6,H6,I6,q6⟩=>?_;have hT:=hts _ s6 σ6 H6 _ I6 q6;rw[hx] at hT;refine thn hT λok s7 ⟨H7,I7,q7⟩=>?_;cases ok with
  |false=>
   simp only[ZW,if_false] at q7 ⊢;exact⟨by trivial,again I7 q7⟩
  |true=>
   simp only[if_true] at q7 ⊢;have hL:=htl _ s7 σ6 H7 _ I7 q7;cases hn:gens[d+1]? with
   |none=>
    rw[hn] at hL;exact thn hL λx s8 h8=>thn h8 λ_ s9 ⟨σ9,H9,I9,q9⟩=>⟨by trivial,again I9 q9⟩
   |some g'=>
    rw[hn] at hL;obtain⟨ha,hL⟩:=hL;exact⟨ha,thn hL λx s8 h8=>thn h8 λx' s9 h9=>thn h9 λit' s10 h10=>thn h10 λ_ s11 ⟨σ9,H9,I9,q9⟩=>⟨by trivial,again I9 q9⟩⟩
def zj(wi:TI)(g:TG)(ti:TT)(t:TS):TS:=λD σ H=>wi σ H λJ H1=>ql J g (fA ti t) D σ H1
theorem Dg(hn:gens[d+1]?=some ⟨tg,iter,ifs,0⟩)
  (hi:PI Y tg iter wi) (hgt:PG Y tg g) (hts:PTs Y ifs ti) (htl:PTl Y elt gens scope pos acc (d+1) t) (hx:Y.xe=λ_ _=>False:=by rfl) (hc:Y.calm=true:=by rfl) (hs:∀x,VZ iter Y.env x=pure x:=by intro _;rfl) :
  PTl Y elt gens scope pos acc d (zj wi g ti t):=by
 intro pins s σ H D I h;rw[hn];refine⟨rfl,?_⟩;have hI:=hi pins s σ H _ I h;rw[hx] at hI;refine thn hI λv s5 h5=>UQ (hs v) (thn h5 λitv s6 h6=>?_);obtain⟨it,fp,tn,J,H6,e,I6,T,st6,f6,W⟩:=h6;subst e;have L:=nv (elt:=elt) (gens:=gens) (scope:=scope) (pos:=pos) (acc:=acc) hx hc hn T I6 st6 f6 hgt hts htl W;refine wpAny_runOwn (VS (kN hn L (T.self _ 0 s6 _ _ st6 L)) λr s8 hr=>?_);obtain⟨rfl,q⟩:=hr;exact q
end
def zk(own:Nat)(wi:TI)(g:TG)(tb:Addr->TS):TE:=λσ H Q=>wi σ H λJ H1=>∀acc,H1 acc=none ->
 ql J g (tb acc) { nx:=λ_ H'=>Q (.ref acc) H',rt:=λ_ _=>False } (σ++Zs own none) (upd H1 acc (.lst []))
section
variable {X:Cx} {elt tg iter:Expr} {ifs:List Expr} {rest:List Wx} {scope:Scope} {pos:Pos} {own:List Str} {hs:List Nat} {wi:TI} {g:TG} {ti:TT} {t:Addr->TS}
theorem kO{pins:List (Addr × Obj)}{σ:St}{Q:VK}{itv:Value}{s2:Shared}{E:Value->Shared->Prop}(hc:X.calm=true)(S:CmScope own hs X.N scope X.env.scope)
  (hgt:∀C ex s H,PG (cxC X own hs scope C ex s H) tg g) (hts:∀C ex s H,PTs (cxC X own hs scope C ex s H) ifs ti)
  (htl:∀C ex s H acc,PTl (cxC X own hs scope C ex s H) elt (⟨tg,iter,ifs,0⟩::rest) scope pos acc 0 (t acc))
  (h2:PIE X pins σ tg (λJ H1=>∀acc,H1 acc=none->ql J g (fA ti (t acc)) { nx:=λ_ H'=>Q (.ref acc) H',rt:=λ_ _=>False } (σ++Zs own.length none) (upd H1 acc (.lst []))) itv s2)
  {RR:Value->Addr->Result->Shared->Prop} (hRR:∀acc C H' s',Inv X pins σ H' s'->gU X pins H' C->(∃m,s'.heap.Ns C m)->Q (.ref acc) H'->RR (.ref acc) C (.ok .next) s') :
  wpAny (model X.prog X.w) X.A (newList []) (λacc s3=>wpAny (model X.prog X.w) X.A (V8 scope X.env.globals (bU X.env.cells scope.names []) [] X.env.qual none .none (some X.env)) (λcenv s4=>
   codeAny (model X.prog X.w) X.A (.compStart (.ListComp elt (⟨tg,iter,ifs,0⟩::rest) scope pos) 0 itv acc { cenv with scope:=relabel scope X.env }) (RR acc cenv.locals) s4) E s3) E s2:=by
 obtain⟨it,fp,tn,J,H2,e,I2,T,st2,f2,R⟩:=h2;subst e;refine UP ?_;have I3:Inv X pins σ (upd H2 s2.heap.objs.size (.lst [])) { s2 with heap:=s2.heap.push { cls:=.type "list", dict:=none,data:=.seq ([]:List Value).toArray } }:=I2.lnew (its:=[]) (t':=s2.toks) .nil (YZ _);have W:=R s2.heap.objs.size (I2.hok.fresh (Zg _));generalize hs3:({ s2 with heap:=s2.heap.push { cls:=.type "list", dict:=none,data:=.seq ([]:List Value).toArray } }:Shared)=s3 at I3 ⊢;have e3:s3.heap=s2.heap.push { cls:=.type "list", dict:=none,data:=.seq ([]:List Value).toArray }:=by rw[<-hs3]
 have k3:∀b o,s2.heap.get? b=some o->s3.heap.get? b=some o:=λb o e=>by rw[e3];exact Zi _ e
 have st3:tn 0 s3.heap:=T.keep _ _ _ st2 λb _ o e=>k3 b o e;have fne:∀b ∈ fp,b < s2.heap.objs.size:=λb hb=>let ⟨o,e,_⟩:=T.obj _ _ st2 b hb;Zq e;have f3:∀b ∈ fp,gU X pins (upd H2 s2.heap.objs.size (.lst [])) b:=λb hb=>⟨by rw[az (ZF (fne b hb))];exact(f2 b hb).1,(f2 b hb).2⟩;have fo3:∀b ∈ fp,b < s3.heap.objs.size:=λb hb=>let ⟨o,e,_⟩:=T.obj _ _ st3 b hb;Zq e;refine xm ?_;have I4:=I3.compStart S f3 fo3;generalize hH3:upd H2 s2.heap.objs.size (.lst [])=H3 at I3 I4 f3 W
 have eE:({ scope:=relabel scope X.env,locals:=s3.heap.objs.size,globals:=X.env.globals,cells:=VO (s3.heap.objs.size+1) scope.names (bU X.env.cells scope.names []),qual:=X.env.qual,func:=none,code:=X.env.code,frame:=X.env.frame,builtins:=X.env.builtins }:Env)=sQ scope s3.heap.objs.size X.env:=by
  unfold sQ;rw[Dc]
 generalize hs4:({ s3 with heap:=Ue (s3.heap.push { cls:=.type "dict", data:=.dict #[] }) scope.names }:Shared)=s4 at I4 ⊢;have k4:∀b o,s3.heap.get? b=some o->s4.heap.get? b=some o:=λb o e=>by rw[<-hs4];exact Uf _ _ b o (Zi _ e)
 have st4:tn 0 s4.heap:=T.keep _ _ _ st3 λb _ o e=>k4 b o e
 have f4:∀b ∈ fp,gU (cxC X own hs scope s3.heap.objs.size fp s3 H3) [] H3 b:=λb hb=>by
  refine⟨(f3 b hb).1,ZF (fo3 b hb),I4.ok.exfs b hb,.inl hb,λx c hl=>(I4.ok.exf b hb).2 x c hl,λp hp=>absurd (show p ∈ ([]:List (Addr × Obj)) from hp) (by simp)⟩
 have L:=nv (Y:=cxC X own hs scope s3.heap.objs.size fp s3 H3) (elt:=elt) (gens:=⟨tg,iter,ifs,0⟩::rest) (d:=0) (scope:=scope) (pos:=pos) (acc:=s2.heap.objs.size) rfl hc rfl T I4 st4 f4 (hgt _ _ _ _) (hts _ _ _ _) (htl _ _ _ _ _) W;have C:=kN (elt:=elt) (gens:=⟨tg,iter,ifs,0⟩::rest) (d:=0) (scope:=scope) (pos:=pos) rfl L (T.self _ 0 s4 _ _ st4 L);show codeAny (model X.prog X.w) X.A (.compStart (.ListComp elt (⟨tg,iter,ifs,0⟩::rest) scope pos) 0 (.ref it) (.ref s2.heap.objs.size) { scope:=relabel scope X.env,locals:=s3.heap.objs.size,globals:=X.env.globals,cells:=VO (s3.heap.objs.size+1) scope.names (bU X.env.cells scope.names []),qual:=X.env.qual,func:=none,code:=X.env.code,frame:=X.env.frame,builtins:=X.env.builtins }) (RR (.ref s2.heap.objs.size) s3.heap.objs.size) s4;rw[eE];refine VS C λr s' hr=>?_;obtain⟨rfl,σ',H',I',q⟩:=hr;obtain⟨mC,nC,_⟩:=id I'.loc;have freeC:H' s3.heap.objs.size=none:=I'.free;refine hRR _ _ H' s' ?_ (I3.fpOk (Zg _) freeC) ⟨mC,nC⟩ q;exact I3.call' (ch:=fp) I'.os I'.base I'.hok I'.bare λb hb=>⟨(f3 b hb).2.2.2.1,(f3 b hb).2.1,(f3 b hb).2.2.2.2.1,(f3 b hb).2.2.2.2.2⟩
theorem Dh(hc:X.calm=true)(S:CmScope own hs X.N scope X.env.scope)(hi:PI X tg iter wi)
  (hgt:∀C ex s H,PG (cxC X own hs scope C ex s H) tg g) (hts:∀C ex s H,PTs (cxC X own hs scope C ex s H) ifs ti)
  (htl:∀C ex s H acc,PTl (cxC X own hs scope C ex s H) elt (⟨tg,iter,ifs,0⟩::rest) scope pos acc 0 (t acc))
  (hs:∀x,VZ iter X.env x=pure x:=by intro _;rfl) :
  PE X (.ListComp elt (⟨tg,iter,ifs,0⟩::rest) scope pos) (zk own.length wi g λacc=>fA ti (t acc)):=by
 intro pins s σ H Q I h;rw[eval_ListComp];refine UB (use:=none) (cl:=bU X.env.cells scope.names []) rfl hs (vn λy hy hk=>I.ok.has y.1 (S.fr y hy hk)) S.kind (λy hy hk=>cZ S.uniq (by rw[<-hk];exact hy)) ?_;refine thn (hi pins s σ H _ I h) λv s1 h1=>thn h1 λitv s2 h2=>?_;refine kO hc S hgt hts htl h2 (RR:=λacc C=>compPost (model X.prog X.w) X.A X.xe none (EP X pins σ Q) acc C) λacc C H' s' I' f' m' q=>?_;obtain⟨m,nm⟩:=m';refine⟨m,nm,λh' sb=>⟨.ref acc,H',?_,rfl,q⟩⟩;exact I'.turned (t':=s'.toks) (λb o hb e=>(sb.2 b hb).trans e) f'.1 f'.2.1 f'.2.2.2.1 f'.2.2.2.2.1 f'.2.2.2.2.2
theorem Di{i:Nat}(hc:X.calm=true)(S:CmScope own hs X.N scope X.env.scope)(hN:X.N.Nodup)(hix:X.N[i]?=some x)(hx:X.env.scope.names.lookup x=some .local)(hi:PI X tg iter wi)
  (hgt:∀C ex s H,PG (cxC X own hs scope C ex s H) tg g) (hts:∀C ex s H,PTs (cxC X own hs scope C ex s H) ifs ti)
  (htl:∀C ex s H acc,PTl (cxC X own hs scope C ex s H) elt (⟨tg,iter,ifs,0⟩::rest) scope pos acc 0 (t acc))
  (hsw:Uq (.ListComp elt (⟨tg,iter,ifs,0⟩::rest) scope pos) (some (.Name x pos')) spos.line X.env=pure true:=by rfl)
  (hs:∀x,VZ iter X.env x=pure x:=by intro _;rfl) :
  PS X (.Assign [.Name x pos'] (.ListComp elt (⟨tg,iter,ifs,0⟩::rest) scope pos) spos) (yQ (zk own.length wi g λacc=>fA ti (t acc)) (m9 i)):=by
 intro pins s σ H D I h;rw[exec_Assign_Name_used _ _ _ _ hsw];refine Uy (U0 (Uy ?_));show wpAny _ X.A (do let _ <-comprehension (.ListComp elt (⟨tg,iter,ifs,0⟩::rest) scope pos) scope X.env _ (newList []) false (eval iter X.env) (some (assign (.Name x pos') X.env))) _ _ s
 refine Uy (UM (UB (use:=some (assign (.Name x pos') X.env)) (Q:=λ_ s'=>SP X pins D .next s') (cl:=bU X.env.cells scope.names []) rfl hs (vn λy hy hk=>I.ok.has y.1 (S.fr y hy hk)) S.kind (λy hy hk=>cZ S.uniq (by rw[<-hk];exact hy))
  ?_) (λ_ s' hq=>US (US hq)) λ_ _ e=>e)
 refine thn (hi pins s σ H _ I h) λv s1 h1=>thn h1 λitv s2 h2=>?_;refine kO (Q:=λy H'=>m9 i y σ H' D.nx) hc S hgt hts htl h2 (RR:=λacc C=>compPost (model X.prog X.w) X.A X.xe (some (assign (.Name x pos') X.env)) (λ_ s'=>SP X pins D .next s') acc C) λacc C H' s' I' f' m' q=>?_;obtain⟨m,nm⟩:=m';show wpAny _ X.A (assign (.Name x pos') X.env (.ref acc)) _ _ _;refine wpAny_assign_Name (m8 (v:=.ref acc) I' hN hix (.inl hx) rfl (λs'' I'' hch=>?_) (.inr hx));obtain⟨a,sb1,ha⟩:=hch
 have ne:C ≠ a:=by
  rcases ha with e |e
  ·rw[e];exact f'.2.1
  ·exactλz=>f'.2.2.2.2.1 x a e z.symm
 refine⟨m,nm.sameBut sb1 ne,λh' sb=>⟨_,H',?_,q⟩⟩;exact I''.turned (t':=s''.toks) (λb o hb e=>(sb.2 b hb).trans e) f'.1 f'.2.1 f'.2.2.2.1 f'.2.2.2.2.1 f'.2.2.2.2.2
end
end L2
namespace HT
open PySem PyProof.Rows
section
variable {prog:Program} {w:World} {A:Around} {E:Value->Shared->Prop} {s:Shared}
theorem zl{t b:Addr}{ws:List Value}{Q:Value->Shared->Prop}(ht:IsTup s.heap t ([]:List Value).toArray)(hb:IsTup s.heap b ws.toArray)(h:Q (.ref b) s):wpAny (model prog w) A (VH .Add (.ref t) (.ref b)) Q E s:=by
 obtain⟨⟨cls,dd,data,sl⟩,ho,hc,n,hd⟩:=id ht;obtain⟨⟨cls2,dd2,data2,sl2⟩,ho2,hc2,n2,hd2⟩:=id hb;simp only at hc hd hc2 hd2;subst hc hd hc2 hd2
 exact VU ⟨_,ho,rfl⟩ ⟨_,ho2,rfl⟩ V9 Uj WL WC (Wz _ _)
   (tuple_addW0 t b _ ws.toArray n n2 dd dd2 sl sl2 (by simp)) ⟨ho,ho2,h⟩
theorem gW{t sl:Addr}{items:Array Value}{vl vu:Value}{lo hi:Option Int}{Q:Value->Shared->Prop}(ht:IsTup s.heap t items)(hs:s.heap.IsSliceOf sl vl vu .none)(pl:IsPart vl lo)(pu:IsPart vu hi)
  (hw:sIx items.size 0 lo=0/\sIx items.size items.size hi=items.size) (h:Q (.ref t) s):wpAny (model prog w) A (getItem (.ref t) (.ref sl)) Q E s:=by
 obtain⟨os,hos,hcs,hds⟩:=id hs;have hTs:s.TypeIs (.ref sl) "slice" := ⟨os,hos,hcs⟩;obtain⟨o,ho,hc,n,hd⟩:=id ht;unfold getItem
 try with_reducible refine UG ?_
 first |refine Uy (US ?_) |skip
 refine Uy (UZ ht.typeIs (by decide) ?_)
 refine Uy (wpAny_callSpecial?_slot (name:=Str.ofString "__getitem__") ht.typeIs Wt
  (UA Wt ht.typeIs entry_tuple_getitem ?_ (args_tuple_getitem _ _)))
 show wpAny _ _ (Builtin.Tuple.tupleItemsOf (.ref t) >>= _) _ _ s;refine Uy (tupleItemsOf_ ht ?_);refine Uy (U3 hTs ?_);rw[if_pos (by decide)];refine Uy (eI hs pl pu ?_)
 have hyes:((((sIx items.size 0 lo:Nat):Int) == 0 && (1:Int) == 1 && (sIx items.size items.size hi - sIx items.size 0 lo) == items.size)=true):=by
  rw[hw.1,hw.2];simp
 show wpAny _ _ (if (((sIx items.size 0 lo:Nat):Int) == 0 && (1:Int) == 1 && (sIx items.size items.size hi - sIx items.size 0 lo) == items.size)=true then _ else _) _ _ s;rw[if_pos hyes];have hT:s.TypeIs (.ref t) "tuple" := ht.typeIs
 first
  | (refine Uy (m:=Builtin.Tuple.tupleIsExact _) ?_
     unfold Builtin.Tuple.tupleIsExact;refine Uy (U3 hT (US ?_));rw[if_pos (by decide)];exact Uy (UX (US ⟨_,rfl,US h⟩)))
end
end HT
namespace L2
open PySem PySem.Spec PyProof.Rows
theorem zm{s:Shared}{h':Heap}{o:Obj}(hk:∀b x,b ∉ [s.heap.objs.size]->(s.heap.push o).get? b=some x->h'.get? b=some x):∀b x,s.heap.get? b=some x->h'.get? b=some x:=
 λb x e=>hk b x (λhm=>by rw[ZE.mp hm] at e;exact ZN _ (Zq e)) (Zi _ e)
section
variable {X:Cx}
def M7(K:Vf):R2:=λx y H Q=>∃a b xs ys,x = .ref a/\y = .ref b/\SqT K H a xs/\SqT K H b ys/\xs.length+ys.length<=sizeLine ∧
 (xs=[]->Q (.ref b) H)/\(xs ≠ []->ys=[]->Q (.ref a) H)/\(xs ≠ []->ys ≠ []->∀p,H p=none->Q (.ref p) (upd H p (.tup (xs++ys))))
theorem Dj:OpR X (VH .Add) (M7 X.K):=by
 intro pins s σ H x y v u Q I rx ry h;obtain⟨a,b,xs,ys,rfl,rfl,ha,hb,hz,q0,q1,q2⟩:=h;by_cases hx:xs=[]
 ·subst hx;cases rx;cases ry;obtain⟨its,r1,p1,_⟩:=I.tuple ha;obtain⟨its2,r2,p2,_⟩:=I.tuple hb;cases r1;exact HT.zl p1 p2 ⟨.ref b,H,I,rfl,q0 rfl⟩
 ·exact C6 pins s σ H _ _ v u Q I rx ry ⟨a,b,xs,ys,rfl,rfl,ha,hb,hx,hz,q1 hx,q2 hx⟩
def P1(K:Vf):V->Option Int->Option Int->Hp->VK->Prop:=λx lo hi H Q=>∃a xs,x = .ref a/\SqT K H a xs ∧
 ((HT.sIx xs.length 0 lo=0/\HT.sIx xs.length xs.length hi=xs.length)->Q (.ref a) H) ∧
 (¬ (HT.sIx xs.length 0 lo=0/\HT.sIx xs.length xs.length hi=xs.length)->∀p,H p=none->Q (.ref p) (upd H p (.tup (kM xs lo hi))))
theorem Dk:SlR X (P1 X.K):=by
 intro pins s σ H x v vl vu lo hi sl Q I rx hs pl pu h;obtain⟨a,xs,rfl,hx,q1,q2⟩:=h;by_cases hw:(HT.sIx xs.length 0 lo=0/\HT.sIx xs.length xs.length hi=xs.length)
 ·cases rx;obtain⟨its,r,ht,hz⟩:=I.tuple hx;have hlen:its.toArray.size=xs.length:=by rw[Zl];exact r.length.symm
  refine⟨"tuple", _,PyProof.Rows.slot_tuple_getitem.lookup,ht.typeIs,?_⟩;exact HT.gW ht hs pl pu (by rw[hlen];exact hw) ⟨.ref a,H,I,rfl,q1 hw⟩
 ·exact Iq pins s σ H _ v vl vu lo hi sl Q I rx hs pl pu ⟨a,xs,rfl,hx,hw,q2 hw⟩
theorem qm:aX X (.builtin "isinstance") (λxs H Q=>∃x n t b,xs=[x,.ty n]/\TyOf X.K H x t/\Vt X.K t (.type n)=some b/\Q (.bl b) H):=by
 intro pins s σ H xs us Q I r h;obtain⟨x,n,t,b,rfl,ty,e,q⟩:=h;obtain⟨u,w',rfl,rx,ry⟩:=uZ r;cases ry;exact xg I rx ty e λtk=>⟨.bl b,H,I.tok tk,rfl,q⟩
theorem kP:∀ {bs:List Bool} {us:List Value},aO (bs.map V.bl) us->us=bs.map Value.bool
 |[],_,.nil=>rfl
 |_::_,_,.cons r t=>by rw[Zu,kP t];cases r;rfl
theorem xn(hc:X.calm=true):aX X (.builtin "all") (λxs H Q=>∃ (l:Addr) (bs:List Bool),xs=[.ref l]/\SqL X.K H l (bs.map V.bl)/\Q (.bl (bs.all id)) H):=by
 intro pins s σ H xs us Q I r h;obtain⟨l,bs,rfl,hl,q⟩:=h;obtain⟨u,rfl,ru⟩:=cx r;cases ru;obtain⟨its,rv,p,hz⟩:=I.list hl;have e:=kP rv;subst e;have hL:=p.isList;have hlt:l < s.heap.objs.size:=by obtain⟨_,e,_⟩:=hL;exact Zq e
 refine call_all_walk (wpAny_pyIter_list hL ?_)
 refine⟨s.heap.objs.size,[s.heap.objs.size,l],[s.heap.objs.size],_,_,_,λi=>(bs[i]?).getD true,rfl,Walks.list (A:=X.A.in1) (I.ok.hd hc) _ l (ZF hlt) _,
  ⟨⟨_,Zy _ rfl,rfl,rfl⟩,hL.push _⟩,λi v s' Q' E' hP hQ=>?_,λh' tk hk=>?_⟩
 ·have hP':(bs.map Value.bool)[i]?=some v:=by simpa using hP
  rw[Zr] at hP';cases hb:bs[i]? with
  |none=>rw[hb] at hP';cases hP'
  |some b=>
   rw[hb] at hP';have ev:Value.bool b=v:=Option.some.inj hP';subst ev;simp only[hb,Z0] at hQ;exact U1 hQ
 ·have e:((Zk (bs.map Value.bool).toArray.size).all λi=>(bs[i]?).getD true)=bs.all id:=by
   rw[Zl,Za,Yc];simp only[ZD,ZR,id];constructor
   ·intro h b hb;obtain⟨i,hi,rfl⟩:=List.mem_iff_getElem.mp hb;have:=h i hi
    rwa [gEG hi,Z0] at this
   ·intro h i hi;rw[gEG hi,Z0];exact h _ (ZM hi)
  rw[e];exact⟨.bl (bs.all id),H,I.kept (t':=tk) (zm hk),rfl,q⟩
theorem Iz:OpR X (VT .Is) (λx y H Q=>∃b c,x = .bl b/\y = .bl c/\Q (.bl (b == c)) H):=by
 intro pins s σ H x y v u Q I rx ry h;obtain⟨b,c,rfl,rfl,q⟩:=h;cases rx;cases ry;exact is_bool ⟨.bl _,H,I,rfl,q⟩
theorem xo:OpR X (VT .IsNot) (λx y H Q=>∃b c,x = .bl b/\y = .bl c/\Q (.bl (b != c)) H):=by
 intro pins s σ H x y v u Q I rx ry h;obtain⟨b,c,rfl,rfl,q⟩:=h;cases rx;cases ry;exact isnot_bool ⟨.bl _,H,I,rfl,q⟩
theorem kQ(hc:X.calm=true):∀ {pins:List (Addr × Obj)} {s:Shared} {σ:St} {H:Hp} {Q:VK} {r:Addr} {n:Nat} {t u v:Tok},Inv X pins σ H s->IsRange s.heap r 0 n 1 t u v->n<=1000->(∀l,H l=none->Q (.ref l) (upd H l (.lst ((Zk n).map λ(i:Nat)=>V.int i)))) ->
  wpAny (model X.prog X.w) X.A (call (.type "list") [.ref r]) (EP X pins σ Q) X.xe s:=by
 intro pins s σ H Q r n t u v I hr hn q;have hsm:Builtin.Range.small 0 n 1=true:=small_one (by lia) (by lia) (by lia) (by lia);refine call_list_range (n:=n) (I.ok.hd hc) hr hsm (by rw[rangeSize_one];split <;> lia) (by lia) λh' tk acc' c' hk hS' hacc=>?_;refine⟨.ref s.heap.objs.size,_,I.laid (t':=tk) (o:=.lst ((Zk n).map λ(i:Nat)=>V.int i)) hk (Zg _) ?_,rfl,q _ (I.hok.fresh (Zg _))⟩;have hsz:acc'.size=n:=hacc.1;refine⟨by rw[Za,ZI];exact YG (xl hn),acc'.toList,c',?_,by simpa using hS'⟩
 have go:∀ (m:Nat) (k:Nat) (l:List Value),l.length=m->(∀j x,l[j]?=some x->∃tk,x=Value.int (((k+j:Nat):Nat):Int) tk)->aO ((List.range' k m).map λ(i:Nat)=>V.int i) l:=by
  intro m
  induction m with
  |zero=>intro k l hl _;cases l with |nil=>exact .nil |cons _ _=>cases hl
  |succ m ih=>
   intro k l hl hx;cases l with
   |nil=>cases hl
   |cons x l=>
    rw[List.range'_succ,Zu];obtain⟨t,e⟩:=hx 0 x rfl;refine .cons ⟨t,by simpa using e⟩ (ih (k+1) l (by simpa using hl) λj y hy=>?_);obtain⟨t',e'⟩:=hx (j+1) y (by simpa using hy);exact⟨t',by rw[e',show((k+(j+1):Nat):Int)=((k+1+j:Nat):Int) from by lia]⟩
 rw[List.range_eq_range'];refine go n 0 acc'.toList (by simpa using hsz) λj x hx=>?_;obtain⟨tk',e⟩:=hacc.2 j x (by simpa using hx);exact⟨tk',by rw[e,show(0:Int)+(j:Nat) * 1=((0+j:Nat):Int) from by lia]⟩
end
section
variable {κ:Type} [DecidableEq κ]
abbrev qo(kvs:List (κ × V))(k:κ)(v:V):List (κ × V):=
 if (kvs.any λkv=>decide (kv.1=k))=true then kvs.map (λkv=>if kv.1=k then (kv.1,v) else kv) else kvs++[(k,v)]
theorem qp(kvs:List (κ × V))(k:κ)(v:V):(qo kvs k v).length<=kvs.length+1:=by
 unfold qo;split
 ·rw[Za];omega
 ·rw[Zc,ZB,Z2];omega
theorem KV.any{kvs:List (κ × V)}{vs:List (κ × Value)}(r:KV kvs vs)(k:κ):(kvs.any λkv=>decide (kv.1=k))=vs.any λkv=>decide (kv.1=k):=by
 unfold KV at r
 induction r with
 |nil=>rfl
 |cons h t ih=>rw[YF,YF,ih,h.1]
theorem KV.repl(r:KV kvs vs)(k:κ)(ry:aI y u) :
  KV (kvs.map λkv=>if kv.1=k then (kv.1,y) else kv) (vs.map λkv=>if kv.1=k then (kv.1,u) else kv):=by
 unfold KV at r ⊢
 induction r with
 |nil=>exact .nil
 |@cons p q ps qs h t ih=>
  rw[Zu,Zu];refine .cons ?_ ih;obtain⟨h1,h2⟩:=h;by_cases e:p.1=k
  ·rw[if_pos e,if_pos (h1.symm.trans e)];exact⟨h1,ry⟩
  ·rw[if_neg e,if_neg (λz=>e (h1.trans z))];exact⟨h1,h2⟩
theorem KV.put(r:KV kvs vs)(k:κ)(ry:aI y u):KV (qo kvs k y) (stored vs k u):=by
 unfold qo stored;rw[r.any k];by_cases e:(vs.any λkv=>decide (kv.1=k))=true
 ·rw[if_pos e,if_pos e];exact r.repl k ry
 ·rw[if_neg e,if_neg e];exact Paired.snoc r ⟨rfl,ry⟩
end
theorem M8(r:aI (kV k) u):(bB P w).is k u=true:=by
 cases k with
 |inl i=>obtain⟨t,e⟩:=(show ∃t,u=Value.int i t from r);subst e;exact qe P w i t
 |inr x=>obtain⟨t,e⟩:=(show ∃t,u=Value.str x t from r);subst e;exact qf P w x t
section
variable {P:Program} {w:World} {H:Hp} {h:Heap} {a:Addr}
theorem M9(ok:HOk P w H h)(e:Rd H a u):bp P w H h a u:=e.ok ok
theorem Na(ok:HOk P w H h)(e:Rd H a (.dK kvs)):kvs.length<=sizeLine/\(a == Us)=false/\∃vs,KV kvs vs/\h.DictOf (bB P w) a vs:=
 show bp P w H h a (.dK kvs) from M9 ok e
theorem Nb(ok:HOk P w H h)(e:H a=some (.dK kvs)):kvs.length<=sizeLine/\(a == Us)=false/\∃vs,KV kvs vs/\h.DictOf (bB P w) a vs:=Na ok (.inl e)
end
section
variable {X:Cx} {pins:List (Addr × Obj)} {σ:St} {H:Hp} {s:Shared} {a:Addr} {y v:V} {u r:Value} {o:Option V} {A:Around} {E:Value->Shared->Prop}
theorem Inv.big(I:Inv X pins σ H s):Us < s.heap.objs.size:=by
 have h:V6 < s.heap.objs.size:=(I.mod.glob.keeps I.bk).lt;exact Nat.lt_trans (by decide) h
theorem Dm{t':Nat}(I:Inv X pins σ H s)(mu:Mut (H a))(hs:Heap.SameBut a s.heap h')(he:∃q,h'.get? a=some q)(new:bp X.prog X.w (upd H a ob) h' a ob) :
  Inv X pins σ (upd H a ob) { s with heap:=h',toks:=t' }:=
 I.write (x:=a) (e:=a) mu (.inl rfl) (λb q hb z=>(hs.2 b hb).trans z) he new
theorem IA(z:kvs.length<=sizeLine)(hd:(a == Us)=false)(rel:KV kvs vs)(dd:h'.DictOf (bB P w) a vs) :
  bp P w H' h' a (.dK kvs):=⟨z,hd,vs,rel,dd⟩
end
theorem qq(h:Heap)(hb:Us < h.objs.size):bp P w H (h.push { cls:=.type "dict", data:=.dict #[] }) h.objs.size (.dK []):=
 ⟨YZ _,beq_eq_false_iff_ne.mpr (Ne.symm (ZF hb)),[],.nil,Heap.DictOf.new h⟩
def zn:TE:=λ_ H Q=>∀p,H p=none->Q (.ref p) (upd H p (.dK []))
section
variable {X:Cx} {pos:Pos}
theorem zo:PE X (.Dict [] [] pos) zn:=λpins s σ H Q I h=>
 wpAny_Dict_empty ⟨.ref s.heap.objs.size,_,I.laid (a:=s.heap.objs.size) (o:=.dK []) (t':=s.toks) (λ_ _ q=>Zi _ q) (Zg _) (qq s.heap I.big),rfl,h _ (I.hok.fresh (Zg _))⟩
end
def sR:List (TE × TE)->St->Hp->(List (V × V)->Hp->Prop)->Prop
 |[],_,H,Q=>Q [] H
 |(tk,tv)::r,σ,H,Q=>tk σ H λx H1=>tv σ H1 λy H2=>sR r σ H2 λps H3=>Q ((x,y)::ps) H3
@[inline]abbrev VV:List (V × V)->List (Value × Value)->Prop:=Paired λp q=>aI p.1 q.1/\aI p.2 q.2
def PPs(X:Cx)(pos:Pos)(keys:List (Option Expr))(values:List Expr)(trs:List (TE × TE)):Prop:=
 ∀ (pins:List (Addr × Obj)) (s:Shared) (σ:St) (H:Hp) (Q:List (V × V)->Hp->Prop),Inv X pins σ H s->sR trs σ H Q ->
  wpAny (model X.prog X.w) X.A (evalPairs (pairTrees keys values X.env pos)) (λvs s'=>∃ps H',Inv X pins σ H' s'/\VV ps vs/\Q ps H') X.xe s
theorem Dn:PPs X pos [] [] []:=λpins s σ H Q I h=>pairTrees_nil_walk ⟨[],H,I,.nil,h⟩
theorem zp(hk:PE X k tk)(hv:PE X v tv)(hr:PPs X pos ks vs trs) :
  PPs X pos (some k::ks) (v::vs) ((tk,tv)::trs):=λpins s σ H Q I h=>
 pairTrees_cons_walk (thn (hk pins s σ H _ I h) λu s1 ⟨x,H1,I1,rx,q1⟩=>thn (hv pins s1 σ H1 _ I1 q1) λw2 s2 ⟨y,H2,I2,ry,q2⟩=>
  thn (hr pins s2 σ H2 _ I2 q2) λws s3 ⟨ps,H3,I3,rel,q3⟩=>⟨(x,y)::ps,H3,I3,.cons ⟨rx,ry⟩ rel,q3⟩)
abbrev kR(kvs more:List (Key × V)):List (Key × V):=more.foldl (λacc kv=>qo acc kv.1 kv.2) kvs
theorem KV.merge:∀ {more:List (Key × V)} {rs:List (Key × Value)} {kvs:List (Key × V)} {vs:List (Key × Value)},KV more rs->KV kvs vs->KV (kR kvs more) (merged vs rs):=by
 intro more rs kvs vs r;unfold KV at r
 induction r generalizing kvs vs with
 |nil=>intro q;exact q
 |@cons p q ps qs h t ih=>
  intro r0
  have e:KV (qo kvs p.1 p.2) (stored vs q.1 q.2):=by
   have:=r0.put p.1 h.2;rw[<-h.1];exact this
  exact ih e
theorem gY:∀ (more kvs:List (Key × V)),(kR kvs more).length<=kvs.length+more.length
 |[],kvs=>by show kvs.length<=kvs.length+0;omega
 |p::r,kvs=>by
  have h1:=gY r (qo kvs p.1 p.2);have h2:=qp kvs p.1 p.2;show(kR (qo kvs p.1 p.2) r).length<=_;rw[ZB];omega
theorem kS:∀ {kvs:List (Key × V)} {ws:List (Value × Value)},VV (kvs.map λkv=>(kV kv.1,kv.2)) ws->∃rs,Carries (bB P w) ws rs/\KV kvs rs
 |[],_,r=>by rw[Z5] at r;cases r;exact⟨[],True.intro,.nil⟩
 |p::kvs,_,r=>by
  rw[Zu] at r;cases r with
  |@cons a b as bs h t=>
   obtain⟨rs,c,q⟩:=kS (P:=P) (w:=w) t;obtain⟨b1,b2⟩:=b;exact⟨(p.1,b2)::rs,⟨M8 h.1,rfl,c⟩,.cons ⟨rfl,h.2⟩ q⟩
def zq(trs:List (TE × TE)):TE:=λσ H Q=>∀p,H p=none->sR trs σ (upd H p (.dK [])) λps H2=>H2 p=some (.dK [])/\∃kvs:List (Key × V),ps=kvs.map (λkv=>(kV kv.1,kv.2))/\kvs.length<=15/\Q (.ref p) (upd H2 p (.dK (kR [] kvs)))
theorem Dp(h:PPs X pos keys values trs)(hall:keys.all (·.isSome)=true)(hl:keys.length=values.length)(h0:keys ≠ [])
  (h15:keys.length<=15):PE X (.Dict keys values pos) (zq trs):=by
 intro pins s σ H Q I q;have hn:=I.hok.fresh (Zg s.heap.objs.size);have I1:=I.laid (a:=s.heap.objs.size) (o:=.dK []) (h':=s.heap.push { cls:=.type "dict", data:=.dict #[] }) (t':=s.toks) (λ_ _ q=>Zi _ q) (Zg _) (qq s.heap I.big);refine wpAny_Dict_walk (knd:=bB X.prog X.w) hall hl h0 h15 (thn (h pins _ σ _ _ I1 (q _ hn)) λws s2 ⟨ps,H2,I2,rel,e,kvs,ep,lk,q2⟩=>?_);subst ep;obtain⟨rs,c,rk⟩:=kS (P:=X.prog) (w:=X.w) rel;obtain⟨z,hd,vs0,r0,dd⟩:=Nb I2.hok e;cases r0;refine⟨rs,c,dd,λh' dd' hs=>⟨.ref s.heap.objs.size,_,?_,rfl,q2⟩⟩
 have hz:(kR [] kvs).length<=sizeLine:=by
  have h1:=gY kvs [];rw[Z2] at h1;rw[Uk];omega
 have he:∃q,h'.get? s.heap.objs.size=some q:=let ⟨q,_,_,hq,_⟩:=dd';⟨q,hq⟩;exact Dm I2 (by rw[e];exact True.intro) hs he (IA hz hd (rk.merge .nil) dd')
end L2
namespace HT
open PySem PyProof.Rows
open AutoSeq1 (wpAny_loadPart')
section
variable {prog:Program} {w:World} {A:Around} {E:Value->Shared->Prop} {s:Shared}
theorem j8{i:Nat}(hit:s.heap.IsTupleIter it t i)(ht:s.heap.IsTuple t items)(hx:items[i]?=some x)
  (hQ:∀h',h'.IsTupleIter it t (i+1)->Heap.SameBut it s.heap h'->Q x { s with heap:=h' }):wpAny (model prog w) A (Builtin.SmallTypes.nextOf (.ref it)) Q E s:=by
 obtain⟨o,ho,hc,hd⟩:=id hit;obtain⟨ol,hol,_,nl,hdl⟩:=ht;unfold Builtin.SmallTypes.nextOf
 refine Uy (wpAny_callSpecial?_slot (name:=Str.ofString "__next__") hit.typeIs WN
  (UA WN hit.typeIs WD ?_ (WA _)))
 show wpAny _ _ (field (.ref it) 0 >>= _) _ _ s;refine Uy (UF ho hd (x:=.ref t) rfl ?_);show wpAny _ _ (if (Value.ref t == Value.none)=true then _ else _) _ _ s;rw[if_neg (show ¬ ((Value.ref t == Value.none)=true) from Zd)];show wpAny _ _ (field (.ref it) 1 >>= _) _ _ s;refine Uy (UF ho hd (x:=.int i 0) rfl ?_);show wpAny _ _ (Ui (.ref t) >>= _) _ _ s;refine Uy (UY hol hdl ?_);simp only[ZC,hx];refine Uy (wpAny_setField ho hd (by simp) (US ⟨x,rfl,US (hQ _ ?_ (Heap.SameBut.update ..))⟩))
 exact⟨_,Yx _ ho (Obj.isFreed_of_fields (Obj.data_mapFields hd _)),(Obj.cls_mapFields ..).trans hc,by
  rw[Obj.data_mapFields hd];simp[rawInt]⟩
theorem kT{i:Nat}(hh:A.handled=none)(hit:s.heap.IsTupleIter it t i)(ht:s.heap.IsTuple t items)(hx:items[i]?=none)
  (hE:∀h' e,Heap.ExtBut it s.heap h'->(∃o,h'.get? e=some o/\o.cls = .type "StopIteration")->E (.ref e) { s with heap:=h' }):wpAny (model prog w) A (Builtin.SmallTypes.nextOf (.ref it)) Q E s:=by
 obtain⟨o,ho,hc,hd⟩:=id hit;obtain⟨ol,hol,_,nl,hdl⟩:=ht;unfold Builtin.SmallTypes.nextOf
 refine Uy (wpAny_callSpecial?_slot (name:=Str.ofString "__next__") hit.typeIs WN
  (UA WN hit.typeIs WD ?_ (WA _)))
 show wpAny _ _ (field (.ref it) 0 >>= _) _ _ s;refine Uy (UF ho hd (x:=.ref t) rfl ?_);show wpAny _ _ (if (Value.ref t == Value.none)=true then _ else _) _ _ s;rw[if_neg (show ¬ ((Value.ref t == Value.none)=true) from Zd)];show wpAny _ _ (field (.ref it) 1 >>= _) _ _ s;refine Uy (UF ho hd (x:=.int i 0) rfl ?_);show wpAny _ _ (Ui (.ref t) >>= _) _ _ s;refine Uy (UY hol hdl ?_);simp only[ZC,hx];refine Uy (UX (Uy (wpAny_setField ho hd (by simp) ?_)));show wpAny _ _ (newExc (.type "StopIteration") [] >>= _) _ _ _;refine Uy ?_;simp only[newExc,newTuple];refine Uy (UP ?_ (by size_fits));refine Uy (m:=firstArgMember _ _) (UQ (a:=Value.none) (by first |rfl |(simp only[firstArgMember];rfl)) ?_);refine UP ?_ (by size_fits);simp only[raiseNew];refine Uy (wpAny_handled ?_)
 first |rw[show A.in1.handled=none from hh] |rw[hh]
 refine Uy (US (wpAny_throw ?_));exact hE _ _ (((Heap.SameBut.update ..).extBut.push _).push _) ⟨_,Zy _ rfl,rfl⟩
end
theorem zr(hh:A.handled=none)(it l:Addr)(hne:l ≠ it)(items:Array Value) :
  Draws prog w A it [it,l] items.size (λi v=>items[i]?=some v) (λi h=>h.IsTupleIter it l i/\h.IsTuple l items) where
 live:=λ_ _ st=>let ⟨o,ho,_⟩:=st.1;⟨o,ho⟩
 frame:=λ_ _ _ st hk=>⟨st.1.at λo e=>hk it (by simp) o e,let ⟨o,e,r⟩:=st.2;⟨o,hk l (by simp) o e,r⟩⟩
 item:=λi s Q E hi st hQ=>by
  refine j8 st.1 st.2 (x:=items[i]) (by simp[hi]) λh' hit' hs'=>?_;exact hQ _ h' s.toks (by simp[hi]) ⟨hit',let ⟨o,e,r⟩:=st.2;⟨o,hs'.extBut l o hne e,r⟩⟩ hs'
 done:=λs Q E st hE=>kT hh st.1 st.2 (by simp) hE
theorem qr(l:Addr)(items:Array Value)(n:Nat)(dct:Option Addr)(sl:Array (Option Value)) :
  Meets (Builtin.«enumerate.__new__» ⟨[.type "enumerate", .ref l],[]⟩) (λ_ R s=>s.heap.get? l=some { cls:=.type "tuple", dict:=dct,data:=.seq items n,slots:=sl } ∧
   R (.ok (.ret (.ref (s.heap.push { cls:=.type "tuple_iterator", data:=.fields #[.ref l,.int 0 0] }).objs.size)))
    { s with heap:=(s.heap.push { cls:=.type "tuple_iterator", data:=.fields #[.ref l,.int 0 0] }).push { cls:=.type "enumerate", data:=.fields #[.none,.bool false,.ref s.heap.objs.size,rawInt 0,.none,.none] } }):=
 .of_wp λprog w A R s h=>by
  obtain⟨hp,g,d,tk,os⟩:=s;obtain⟨hl,h⟩:=h;have hsub:=sub_enumerate;have hL:Heap.IsTuple (Shared.heap ⟨hp,g,d,tk,os⟩) l items:=⟨_,hl,rfl,n,rfl⟩
  wp_walk using UK hl
  refine wpAny_stack_any λst=>US ?_;split
  ·rename_i c _ _ _ _ _;cases (c == Value.type "enumerate")
   ·wp_walk using UK hl,UU hL
    exact⟨_,rfl,h⟩
   ·wp_walk using UK hl,UU hL
    exact⟨_,rfl,h⟩
  ·wp_walk using UK hl,UU hL
   exact⟨_,rfl,h⟩
theorem sS(hL:IsTup s.heap l items)
  (h:∀h',IsEnum h' (s.heap.objs.size+1) s.heap.objs.size 0 .none->h'.IsTupleIter s.heap.objs.size l 0->h'.objs.size=s.heap.objs.size+2 ->
   (∀b o,s.heap.get? b=some o->h'.get? b=some o)->Q (.ref (s.heap.objs.size+1)) { s with heap:=h' }) :
  wpAny (model prog w) A (call (.type "enumerate") [.ref l]) Q E s:=by
 obtain⟨⟨c,dct,dt,sl⟩,hl,hc,n,hd⟩:=hL;replace hc:c = .type "tuple" := hc;replace hd:dt = .seq items n:=hd;subst hc hd
 refine callType_new PySem.F.called_enumerate (by decide) (PySem.F.typeCall_enumerate_1 _) (PySem.F.newCall_enumerate_1 _) (λobj=>PySem.F.args_object_init_2 obj _) PySem.F.entry_enumerate_new
  (qr l items n dct sl) ⟨hl,?_⟩
 have hz:(s.heap.push { cls:=.type "tuple_iterator", data:=.fields #[.ref l,.int 0 0] }).objs.size=s.heap.objs.size+1:=YA ..;show _/\_;rw[hz]
 have he:IsEnum ((s.heap.push { cls:=.type "tuple_iterator", data:=.fields #[.ref l,.int 0 0] }).push
   { cls:=.type "enumerate", data:=.fields #[.none,.bool false,.ref s.heap.objs.size,rawInt 0,.none,.none] }) (s.heap.objs.size+1) s.heap.objs.size 0 .none:=by
  have:=Zy (s.heap.push { cls:=.type "tuple_iterator", data:=.fields #[.ref l,.int 0 0] })
   (o:={ cls:=.type "enumerate", data:=.fields #[.none,.bool false,.ref s.heap.objs.size,rawInt 0,.none,.none] }) rfl
  rw[hz] at this;exact this
 exact⟨⟨_,he,rfl⟩,h _ he ⟨_,Zi _ (Zy _ rfl),rfl,rfl⟩ (by rw[YA,hz]) λb o x=>Zi _ (Zi _ x)⟩
end HT
namespace L2
open PySem PySem.Spec PyProof.Rows
abbrev Ite(K:Vf)(a:Addr)(sq:Vf->Hp->Addr->List V->Prop):It:=
 ⟨λi H=>∃xs x,sq K H a xs/\xs[i]?=some x,λi H x H'=>∃T,H T=none/\x = .ref T/\∀xs v,sq K H a xs->xs[i]?=some v->H'=upd H T (.tup [.int i,v]),λi H=>∃xs,sq K H a xs/\xs.length=i⟩
theorem Inv.turnedLaid{X:Cx}{pins:List (Addr × Obj)}{σ:St}{H:Hp}{s:Shared}{h':Heap}{T:Addr}{o:HO}{t':Nat}{ch:List Addr}(I:Inv X pins σ H s)(hf:∀b ∈ ch,gU X pins H b)
  (k:∀b ob,b ∉ ch->s.heap.get? b=some ob->h'.get? b=some ob) (hp:s.heap.objs.size<=T) (new:bp X.prog X.w (upd H T o) h' T o):Inv X pins σ (upd H T o) { s with heap:=h',toks:=t' }:=by
 have fr:=I.hok.fresh hp;have neT:∀b ob,s.heap.get? b=some ob->b ≠ T:=λb ob e=>ZF (Zv (Zq e) hp)
 refine I.step (g':=s.gens) (d':=s.drawn) (ch:=ch) (λb hb=>⟨(hf b hb).2.2.2.1,(hf b hb).2.1,(hf b hb).2.2.2.2.1,(hf b hb).2.2.2.2.2⟩) (λb ob _ _ hc e _=>k b ob hc e) (λb ob _ _ hc e _=>⟨ob.slots,k b ob hc e⟩)
  (λb ob _ e n=>by rw[az (neT b ob e)];exact n) (λb ob hc e=>⟨ob,k b ob hc e⟩) (λb xs q=>by rw[az (aU q fr)];exact q) (λb u xs q=>by rw[az (aU q fr)];exact q)
  (λb ps q=>⟨#[],by rw[az (aU q fr),q];simp⟩) (λm hm=>?_) (λb u q=>?_) I.bare
 ·obtain⟨ob,es,ep,ho',r'⟩:=hm;exact⟨ob,es,ep,k _ ob (λz=>(hf _ z).2.1 rfl) ho',r'⟩
 ·by_cases hb:b=T
  ·subst hb;rw[aV] at q;cases q;exact new
  ·rw[az hb] at q;refine(I.hok b u q).stay (λc v hc q'=>k c v (λz=>?_) q') (λc q=>by rw[az (aU q fr)];exact q) λc xs q=>by rw[az (aU q fr)];exact q
   have n:=(hf c z).1;rcases hc with w |w
   ·rw[w,q] at n;cases n
   ·rw[w] at n;cases n
theorem Inv.turnedAll{X:Cx}{pins:List (Addr × Obj)}{σ:St}{H:Hp}{s:Shared}{h':Heap}{t':Nat}{ch:List Addr}(I:Inv X pins σ H s)(hf:∀b ∈ ch,gU X pins H b)
  (k:∀b ob,b ∉ ch->s.heap.get? b=some ob->h'.get? b=some ob):Inv X pins σ H { s with heap:=h',toks:=t' }:=by
 refine I.step (g':=s.gens) (d':=s.drawn) (ch:=ch) (λb hb=>⟨(hf b hb).2.2.2.1,(hf b hb).2.1,(hf b hb).2.2.2.2.1,(hf b hb).2.2.2.2.2⟩) (λb ob _ _ hc e _=>k b ob hc e) (λb ob _ _ hc e _=>⟨ob.slots,k b ob hc e⟩)
  (λb ob _ e n=>n) (λb ob hc e=>⟨ob,k b ob hc e⟩) (λb xs q=>q) (λb u xs q=>q)
  (λb ps q=>⟨#[],by rw[q];simp⟩) (λm hm=>?_) (λb u q=>?_) I.bare
 ·obtain⟨ob,es,ep,ho',r'⟩:=hm;exact⟨ob,es,ep,k _ ob (λz=>(hf _ z).2.1 rfl) ho',r'⟩
 ·refine(I.hok b u q).stay (λc v hc q'=>k c v (λz=>?_) q') (λc q=>q) λc xs q=>q;have n:=(hf c z).1;rcases hc with w |w
  ·rw[w,q] at n;cases n
  ·rw[w] at n;cases n
theorem sU{P:Program}{w:World}{K:Vf}{elts:List Expr}{x1:Nat}{tp:Pos}(a e it:Addr)(hei:e ≠ it) :
  Turn P w K (.Tuple elts x1 tp) (Ite K a SqL) [e,it] e (λi h=>(∃old,IsEnum h e it i old)/\h.IsListIter it a i) where
 mem:=by simp
 obj:=λi h st b hb=>by
  obtain⟨⟨old,he⟩,o,eo,c,d⟩:=st;rcases Zm.mp hb with z |z
  ·subst z;exact⟨_,he,λv z=>by have z':Data.fields _=Data.cell v:=z;cases z'⟩
  ·have z':=ZE.mp z;subst z';exact⟨o,eo,λv z=>by rw[d] at z;cases z⟩
 keep:=λi h h' st k=>⟨let ⟨old,he⟩:=st.1;⟨old,k e (by simp) _ he⟩,st.2.at λo eo=>k it (by simp) o eo⟩
 item:=by
  intro X hP hw hK hc i pins s σ H E I hf st hg;subst hP hw hK;obtain⟨xs,x,hq,hx⟩:=hg;obtain⟨its,rv,p,hz⟩:=I.list hq;obtain⟨u,hu,ru⟩:=rv.get hx;obtain⟨⟨old,he⟩,hit⟩:=st;have hL:s.heap.IsList a its.toArray:=p.isList
  have hae:e ≠ a:=λz=>by
   subst z;obtain⟨o,ho,hc',n,hd'⟩:=id hL;rw[he] at ho;cases ho;have z':Data.fields _=Data.seq its.toArray n:=hd';cases z'
  have hai:a ≠ it:=λz=>by
   subst z;obtain⟨o,ho,hc',n,hd'⟩:=id hL;obtain⟨o',ho',c',d'⟩:=id hit;rw[ho'] at ho;cases ho;rw[d'] at hd';cases hd'
  have hi:i < its.toArray.size:=by
   have:=(Zb.mp hu).1
   simpa using this
  refine UW (Draws.list (A:=X.A.in1) (I.ok.hd hc) it a hai its.toArray) he ⟨hit,hL⟩ hi hei (by simp[hei,hae]) λy h' tk hP ho hs' hT hsz hk=>?_
  have ey:y=u:=by
   have z:its.toArray[i]?=some u:=by simpa using hu
   rw[z] at hP;exact(Option.some.inj hP).symm
  subst ey;refine⟨_,rfl,?_⟩;refine UJ ho λh2 he2 hs2=>?_;have helt:e < s.heap.objs.size:=Zq he;have hilt:it < s.heap.objs.size:=by obtain⟨o,eo,_⟩:=hit;exact Zq eo
  have hT2:h2.get? s.heap.objs.size=some { cls:=.type "tuple", data:=.seq #[.int i tk,y] }:=(hs2.2 _ (XJ helt)).trans hT;have fresh:=I.hok.fresh (Zg s.heap.objs.size);refine⟨.ref s.heap.objs.size,upd H s.heap.objs.size (.tup [.int i,x]),?_,rfl,⟨_,fresh,rfl,λys v hy hv=>?_⟩,⟨⟨y,by simpa using he2⟩,hs'.1.at λo eo=>(hs2.2 it (Ne.symm hei)).trans eo⟩,λb hb=>?_⟩
  ·exact I.turnedLaid (t':=tk+1) hf (λb ob hb eb=>(hs2.2 b λz=>hb (by simp[z])).trans (hk b ob (λz=>hb (by simp[z])) (λz=>hb (by simp[z])) eb)) (Zg _)
    ⟨by show 2<=sizeLine;decide,[.int i tk,y],.cons ⟨tk,rfl⟩ (.cons ru .nil),⟨_,hT2,rfl,_,rfl,rfl⟩⟩
  ·rw[I.list_inj hy hq,hx] at hv;cases hv;rfl
  ·rcases Zm.mp hb with z |z
   ·rw[z,az (ZF helt)];exact(hf e (by simp)).1
   ·rw[ZE.mp z,az (ZF hilt)];exact(hf it (by simp)).1
 done:=by
  intro X hP hw hK hc i pins s σ H E I hf st hg;subst hP hw hK;obtain⟨xs,hq,hx⟩:=hg;obtain⟨its,rv,p,hz⟩:=I.list hq;obtain⟨⟨old,he⟩,hit⟩:=st;have hL:s.heap.IsList a its.toArray:=p.isList
  have hai:a ≠ it:=λz=>by
   subst z;obtain⟨o,ho,hc',n,hd'⟩:=id hL;obtain⟨o',ho',c',d'⟩:=id hit;rw[ho'] at ho;cases ho;rw[d'] at hd';cases hd'
  have hn:its.toArray.size=i:=by rw[Zl,<-rv.length,hx]
  subst hn;refine UV (Draws.list (A:=X.A.in1) (I.ok.hd hc) it a hai its.toArray) he ⟨hit,hL⟩ λh' eb=>⟨rfl,?_⟩;exact I.turnedAll (t':=s.toks) hf λb ob hb q=>eb b ob (λz=>hb (by simp[z])) q
 self:=λ_ _ _ _ _ st h=>let ⟨⟨old,he⟩,_⟩:=st;UT he h
theorem sV{P:Program}{w:World}{K:Vf}{elts:List Expr}{x1:Nat}{tp:Pos}(a e it:Addr)(hei:e ≠ it) :
  Turn P w K (.Tuple elts x1 tp) (Ite K a SqT) [e,it] e (λi h=>(∃old,IsEnum h e it i old)/\h.IsTupleIter it a i) where
 mem:=by simp
 obj:=λi h st b hb=>by
  obtain⟨⟨old,he⟩,o,eo,c,d⟩:=st;rcases Zm.mp hb with z |z
  ·subst z;exact⟨_,he,λv z=>by have z':Data.fields _=Data.cell v:=z;cases z'⟩
  ·have z':=ZE.mp z;subst z';exact⟨o,eo,λv z=>by rw[d] at z;cases z⟩
 keep:=λi h h' st k=>⟨let ⟨old,he⟩:=st.1;⟨old,k e (by simp) _ he⟩,st.2.at λo eo=>k it (by simp) o eo⟩
 item:=by
  intro X hP hw hK hc i pins s σ H E I hf st hg;subst hP hw hK;obtain⟨xs,x,hq,hx⟩:=hg;obtain⟨its,rv,p,hz⟩:=I.tuple hq;obtain⟨u,hu,ru⟩:=rv.get hx;obtain⟨⟨old,he⟩,hit⟩:=st;have hL:s.heap.IsTuple a its.toArray:=p
  have hae:e ≠ a:=λz=>by
   subst z;obtain⟨o,ho,hc',n,hd'⟩:=id hL;rw[he] at ho;cases ho;have z':Data.fields _=Data.seq its.toArray n:=hd';cases z'
  have hai:a ≠ it:=λz=>by
   subst z;obtain⟨o,ho,hc',n,hd'⟩:=id hL;obtain⟨o',ho',c',d'⟩:=id hit;rw[ho'] at ho;cases ho;rw[d'] at hd';cases hd'
  have hi:i < its.toArray.size:=by
   have:=(Zb.mp hu).1
   simpa using this
  refine UW (HT.zr (A:=X.A.in1) (I.ok.hd hc) it a hai its.toArray) he ⟨hit,hL⟩ hi hei (by simp[hei,hae]) λy h' tk hP ho hs' hT hsz hk=>?_
  have ey:y=u:=by
   have z:its.toArray[i]?=some u:=by simpa using hu
   rw[z] at hP;exact(Option.some.inj hP).symm
  subst ey;refine⟨_,rfl,?_⟩;refine UJ ho λh2 he2 hs2=>?_;have helt:e < s.heap.objs.size:=Zq he;have hilt:it < s.heap.objs.size:=by obtain⟨o,eo,_⟩:=hit;exact Zq eo
  have hT2:h2.get? s.heap.objs.size=some { cls:=.type "tuple", data:=.seq #[.int i tk,y] }:=(hs2.2 _ (XJ helt)).trans hT;have fresh:=I.hok.fresh (Zg s.heap.objs.size);refine⟨.ref s.heap.objs.size,upd H s.heap.objs.size (.tup [.int i,x]),?_,rfl,⟨_,fresh,rfl,λys v hy hv=>?_⟩,⟨⟨y,by simpa using he2⟩,hs'.1.at λo eo=>(hs2.2 it (Ne.symm hei)).trans eo⟩,λb hb=>?_⟩
  ·exact I.turnedLaid (t':=tk+1) hf (λb ob hb eb=>(hs2.2 b λz=>hb (by simp[z])).trans (hk b ob (λz=>hb (by simp[z])) (λz=>hb (by simp[z])) eb)) (Zg _)
    ⟨by show 2<=sizeLine;decide,[.int i tk,y],.cons ⟨tk,rfl⟩ (.cons ru .nil),⟨_,hT2,rfl,_,rfl,rfl⟩⟩
  ·rw[I.tuple_inj hy hq,hx] at hv;cases hv;rfl
  ·rcases Zm.mp hb with z |z
   ·rw[z,az (ZF helt)];exact(hf e (by simp)).1
   ·rw[ZE.mp z,az (ZF hilt)];exact(hf it (by simp)).1
 done:=by
  intro X hP hw hK hc i pins s σ H E I hf st hg;subst hP hw hK;obtain⟨xs,hq,hx⟩:=hg;obtain⟨its,rv,p,hz⟩:=I.tuple hq;obtain⟨⟨old,he⟩,hit⟩:=st;have hL:s.heap.IsTuple a its.toArray:=p
  have hai:a ≠ it:=λz=>by
   subst z;obtain⟨o,ho,hc',n,hd'⟩:=id hL;obtain⟨o',ho',c',d'⟩:=id hit;rw[ho'] at ho;cases ho;rw[d'] at hd';cases hd'
  have hn:its.toArray.size=i:=by rw[Zl,<-rv.length,hx]
  subst hn;refine UV (HT.zr (A:=X.A.in1) (I.ok.hd hc) it a hai its.toArray) he ⟨hit,hL⟩ λh' eb=>⟨rfl,?_⟩;exact I.turnedAll (t':=s.toks) hf λb ob hb q=>eb b ob (λz=>hb (by simp[z])) q
 self:=λ_ _ _ _ _ st h=>let ⟨⟨old,he⟩,_⟩:=st;UT he h
def IB(K:Vf)(ta:TA):TI:=λσ H R=>ta σ H λvs H1=>∃a xs,vs=[.ref a]/\SqL K H1 a xs/\R (Ite K a SqL) H1
def Nc(K:Vf)(ta:TA):TI:=λσ H R=>ta σ H λvs H1=>∃a xs,vs=[.ref a]/\SqT K H1 a xs/\R (Ite K a SqT) H1
section
variable {X:Cx} {elts:List Expr} {x1:Nat} {tp:Pos}
theorem zt{a:Expr}{ta:TA}{p pos:Pos}(hg:Gl X "enumerate")(hm:X.mg "enumerate" = none)(ha:PA X [a] ta)(hs:Um [a] X.env=[(false,eval a X.env)]:=by rfl):PI X (.Tuple elts x1 tp) (.Call (.Name "enumerate" p) [a] [] pos) (IB X.K ta):=by
 intro pins s σ H R I h;refine Call_ (fE I hg hm Wl (Ws (thn (ha pos pins s σ H _ I h) λus s1 ⟨vs,H1,I1,r1,q1⟩=>?_) hs rfl));obtain⟨l,xs,e,hl,q⟩:=q1;subst e;obtain⟨u,rfl,ru⟩:=cx r1;cases ru;obtain⟨its,rv,pl,hz⟩:=I1.list hl;refine call_enumerate_list pl.isList λh' he hit hsz hk=>UT he ?_;have I2:Inv X pins σ H1 { s1 with heap:=h' }:=I1.kept (t':=s1.toks) hk;have fr:∀b,s1.heap.objs.size<=b->gU X pins H1 b:=λb hb=>I1.fpOk hb (I1.hok.fresh hb);refine⟨_,[s1.heap.objs.size+1,s1.heap.objs.size],_,_,H1,rfl,I2,sU l _ _ (XV _),⟨⟨_,he⟩,hit⟩,λb hb=>?_,q⟩;rcases Zm.mp hb with z |z
 ·rw[z];exact fr _ (Yk _)
 ·rw[ZE.mp z];exact fr _ (Zg _)
theorem IC{a:Expr}{ta:TA}{p pos:Pos}(hg:Gl X "enumerate")(hm:X.mg "enumerate" = none)(ha:PA X [a] ta)(hs:Um [a] X.env=[(false,eval a X.env)]:=by rfl):PI X (.Tuple elts x1 tp) (.Call (.Name "enumerate" p) [a] [] pos) (Nc X.K ta):=by
 intro pins s σ H R I h;refine Call_ (fE I hg hm Wl (Ws (thn (ha pos pins s σ H _ I h) λus s1 ⟨vs,H1,I1,r1,q1⟩=>?_) hs rfl));obtain⟨l,xs,e,hl,q⟩:=q1;subst e;obtain⟨u,rfl,ru⟩:=cx r1;cases ru;obtain⟨its,rv,pl,hz⟩:=I1.tuple hl;refine HT.sS pl λh' he hit hsz hk=>UT he ?_;have I2:Inv X pins σ H1 { s1 with heap:=h' }:=I1.kept (t':=s1.toks) hk;have fr:∀b,s1.heap.objs.size<=b->gU X pins H1 b:=λb hb=>I1.fpOk hb (I1.hok.fresh hb);refine⟨_,[s1.heap.objs.size+1,s1.heap.objs.size],_,_,H1,rfl,I2,sV l _ _ (XV _),⟨⟨_,he⟩,hit⟩,λb hb=>?_,q⟩;rcases Zm.mp hb with z |z
 ·rw[z];exact fr _ (Yk _)
 ·rw[ZE.mp z];exact fr _ (Zg _)
end
section
variable {X:Cx}
theorem qt:aX X (.type "range") (λxs H Q=>∃j:Int,xs=[.int j]/\∀p,H p=none->Q (.ref p) (upd H p (.rng 0 j))):=by
 intro pins s σ H xs us Q I r h;obtain⟨j,rfl,q⟩:=h;obtain⟨u,rfl,ru⟩:=cx r;obtain⟨t,rfl⟩:=ru;exact call_range_1 ⟨.ref s.heap.objs.size,_,I.laid (t':=s.toks+1+1) (o:=.rng 0 j) (λb o e=>Zi _ e) (Zg _) ⟨_,_,_,Zy _ rfl⟩,rfl,q _ (I.hok.fresh (Zg _))⟩
theorem oP(hc:X.calm=true):aX X (.type "list") (λxs H Q=>∃ (p:Addr) (n:Nat),xs=[.ref p]/\H p=some (.rng 0 n)/\n<=1000/\∀l,H l=none->Q (.ref l) (upd H l (.lst ((Zk n).map λ(i:Nat)=>V.int i)))):=by
 intro pins s σ H xs us Q I r h;obtain⟨p,n,rfl,hp,hn,q⟩:=h;obtain⟨u,rfl,ru⟩:=cx r;cases ru;obtain⟨t,u,v,e⟩:=(show bp X.prog X.w H s.heap p (.rng 0 n) from I.hok p _ hp);exact kQ hc I e hn q
end
section
variable {X:Cx}
def GW(i j k:Nat)(ta:TA):TS:=λD σ H=>ta σ H λvs H1=>∃v w z,vs=[v,w,z]/\D.nx (((σ.set i (some v)).set j (some w)).set k (some z)) H1
theorem Dq{i j k:Nat}{kt k2 pt2}(hc:X.calm=true)(hN:X.N.Nodup)(hi:X.N[i]?=some x)(hj:X.N[j]?=some y)(hk:X.N[k]?=some z)(hij:i ≠ j)(hik:i ≠ k)(hjk:j ≠ k)
  (hx:X.env.scope.names.lookup x=some .local) (hy:X.env.scope.names.lookup y=some .local) (hz:X.env.scope.names.lookup z=some .local) (ha:PA X [a,b,c] ta)
  (hw:Up [.Tuple [.Name x px,.Name y py,.Name z pz] kt pt] (.Tuple [a,b,c] k2 pt2) X.env=pure (some [x,y,z]))
  (hs:Ur [.Tuple [.Name x px,.Name y py,.Name z pz] kt pt] (.Tuple [a,b,c] k2 pt2) pos.line X.env=pure false:=by rfl) :
  PS X (.Assign [.Tuple [.Name x px,.Name y py,.Name z pz] kt pt] (.Tuple [a,b,c] k2 pt2) pos) (GW i j k ta):=by
 intro pins s σ H D I h;rw[exec_Assign_arm];refine Uy (U0 ?_);rw[hs];refine Uy (US ?_);rw[if_neg (by decide)];refine Uy (Tuple_ (thn (ha _ pins s σ H _ I h) λus s1 ⟨vs,H1,I1,r1,q1⟩=>?_));obtain⟨v,w,z',e1,q1⟩:=q1;subst e1
 obtain⟨u1,u2,u3,rfl,rv,rw',rz⟩:∃u1 u2 u3,us=[u1,u2,u3]/\aI v u1/\aI w u2/\aI z' u3:=by
  cases r1 with
  |cons p q=>
   cases q with
   |cons p' q'=>
    cases q' with
    |cons p'' q''=>
     cases q'';exact⟨_,_,_,rfl,p,p',p''⟩
 refine UP ?_ (by show 3<=sizeLine;decide);have I2:Inv X pins σ H1 { s1 with heap:=s1.heap.push { cls:=.type "tuple", data:=.seq [u1,u2,u3].toArray } }:=I1.kept (t':=s1.toks) λb o e=>Zi _ e;rw[hw];refine Uy (US ?_);show wpAny (model X.prog X.w) X.A (do rule "assign.swapped-stores"; let items <-unpackItems (.ref s1.heap.objs.size) 3 none;VE [λv=>VI X.env z v,λv=>VI X.env y v,λv=>VI X.env x v] items.reverse;pure Flow.next) _ _ _;refine Uy (UX (Uy (unpackItems_tuple (items:=#[u1,u2,u3]) (I.ok.hd hc) (IsTup.new s1.heap _) λh' hx'=>?_)));have I3:=I2.kept (h':=h') (t':=s1.toks) λb o e=>hx' b o (ZF (Zq e)) e;show wpAny _ _ (VE [λv=>VI X.env z v,λv=>VI X.env y v,λv=>VI X.env x v] [u3,u2,u1] >>= λ_=>pure Flow.next) _ _ _;refine Uy (assignInOrder_cons (Uz (cw I3 hN hk (.inl hz) rz (λs2 I4=>?_) (.inr hz))));refine assignInOrder_cons (Uz (cw I4 hN hj (.inl hy) rw' (λs3 I5=>?_) (.inr hy)));refine assignInOrder_cons (Uz (cw I5 hN hi (.inl hx) rv (λs4 I6=>assignInOrder_nil (US ?_)) (.inr hx)));refine⟨_,H1,?_,q1⟩;rw[Y6 _ _ (Ne.symm hjk),Y6 _ _ (Ne.symm hik),Y6 (some w) (some v) (Ne.symm hij)] at I6;exact I6
end
abbrev hZ:List Str->Bool
 |[]=>true
 |x::r=>!r.contains x && hZ r
theorem fI:∀ {l:List Str},hZ l=true->l.Nodup
 |[],_=>X7
 |x::r,h=>by
  unfold hZ at h;rw[bAE] at h;refine Yd.mpr ⟨λm=>?_,fI h.2⟩;have:=h.1;simp[m] at this
abbrev cmB(own:List Str)(hs:List Nat)(N:List Str)(scope sc:Scope):Bool:=
 (scope.kind == .function) && hZ (c7 hs N++own) && hZ (scope.names.map (·.1)) && ((c7 hs N).all λx=>scope.names.lookup x != some .local && scope.names.lookup x != some .cell) &&
 (scope.names.all λy=>y.2 != .free || (sc.names.lookup y.1 == some .cell || sc.names.lookup y.1 == some .free)) && hs.all λi=>(scope.names.lookup (zh i)).isNone
theorem zu(hs:List Nat)(h:cmB own hs N scope sc=true):CmScope own hs N scope sc:=by
 unfold cmB at h;simp only[bAE,ZD] at h;obtain⟨⟨⟨⟨⟨h1,h2⟩,h3⟩,h4⟩,h5⟩,h6⟩:=h;refine⟨by simpa using h1,fI h2,fI h3,λx hx=>?_,λy hy hk=>?_,λi hi=>by simpa using h6 i hi⟩
 ·have:=h4 x hx
  simpa using this
 ·have:=h5 y hy;rw[hk] at this
  simpa using this
section
variable {X:Cx} {tg l a:Expr} {tl:TE} {ta:TA} {es:List Expr} {t:TGs} {p pos:Pos} {n k:Nat} {elts:List Expr} {x1:Nat} {tp:Pos} {o e:Expr} {to:TE} {tt:TA} {name:Str} {apos cpos:Pos}
def GX(K:Vf):List V->Hp->VK->Prop:=λxs H Q=>∃x n t b,xs=[x,.ty n]/\TyOf K H x t/\Vt K t (.type n)=some b/\Q (.bl b) H
theorem oQ(K:Vf)(hK:X.K=K:=by rfl):aX X (.builtin "isinstance") (GX K):=hK ▸ qm
end
theorem zv(hk:PE X k tk)(hv:PE X v tv):PE X (.Dict [some k] [v] pos) (zq [(tk,tv)]):=Dp (zp hk hv Dn) rfl rfl (by simp) (by simp)
theorem ia:∀ {xs:List V} {us:List Value},aO xs us->xs.all bS=true->us.countP (eqU x)=xs.countP λy=>eqV y x
 |_,_,.nil,_=>rfl
 |y::xs,u::us,.cons r t,f=>by
  rw[Z4,bAE] at f;rw[YK,YK,oI r f.1,ia t f.2]
section
variable {X:Cx}
def Dt(K:Vf):V->List V->Hp->VK->Prop:=λx vs H Q=>∃p xs y,x = .ref p/\vs=[y]/\SqT K H p xs/\bS y=true/\xs.all bS=true/\Q (.int ((xs.countP λz=>eqV z y:Nat):Int)) H
theorem xq(K:Vf)(hK:X.K=K:=by rfl):MtR X "tuple.count" (Dt K):=by
 subst hK;intro pins s σ H x vs v us Q I rx rv h;obtain⟨p,xs,y,rfl,rfl,hq,fy,fs,q⟩:=h;cases rx;obtain⟨u,rfl,ru⟩:=rv.one;obtain⟨its,r,⟨⟨cls,dd,data,sl⟩,e,hc,n,hd⟩,hz⟩:=I.tuple hq;simp only at hc hd;subst hc hd;refine VM WM ⟨_,e,rfl⟩ F.entry_tuple_count (F.args_tuple_count_2 _ _) (SeqAt.tuple_countAt p its.toArray n dd sl u (eqU y)) ⟨e,λw hw=>cy ru fy r fs w (by simpa using hw),?_⟩;refine⟨.int _,H,I.tok _,⟨_,rfl⟩,?_⟩
 have z:(its.toArray.toList.countP (eqU y))=xs.countP λz=>eqV z y:=by
  rw[Xu];exact ia r fs
 rw[z];exact q
end
end L2
namespace Dw
open PySem PySem.Spec PyProof.Rows L2
inductive D where
 |non |bl (b:Bool) |int (i:Int) |str (x:Str) |tup (ds:List D) |lst (ds:List D) |dic (ks:List Key) (ds:List D)
mutual
def Br(N:List Addr)(H:Hp):D->V->Prop
 |.non,v=>v = .non
 |.bl b,v=>v = .bl b
 |.int i,v=>v = .int i
 |.str x,v=>v = .str x
 |.tup ds,v=>∃a xs,v = .ref a/\H a=some (.tup xs)/\BrL N H ds xs
 |.lst ds,v=>∃a xs,v = .ref a/\a ∉ N/\H a=some (.lst xs)/\BrL N H ds xs
 |.dic ks ds,v=>∃a xs,v = .ref a/\a ∉ N/\H a=some (.dK (ks.zip xs))/\ks.length=ds.length/\BrL N H ds xs
def BrL(N:List Addr)(H:Hp):List D->List V->Prop
 |[],xs=>xs=[]
 |d::ds,xs=>∃x r,xs=x::r/\Br N H d x/\BrL N H ds r
end
mutual
noncomputable def dep:D->Nat
 |.tup ds=>iP ds+1
 |.lst ds=>iP ds+1
 |.dic _ ds=>iP ds+1
 |_=>0
noncomputable def iP:List D->Nat
 |[]=>0
 |d::ds=>max (dep d) (iP ds)
end
mutual
noncomputable def wid:D->Nat
 |.tup ds=>max ds.length (oT ds)
 |.lst ds=>max ds.length (oT ds)
 |.dic _ ds=>max ds.length (oT ds)
 |_=>0
noncomputable def oT:List D->Nat
 |[]=>0
 |d::ds=>max (wid d) (oT ds)
end
theorem BrL.len:∀ {ds:List D} {xs:List V},BrL N H ds xs->xs.length=ds.length
 |[],_,h=>by simp only[BrL] at h;rw[h];rfl
 |d::ds,_,h=>by
  simp only[BrL] at h;obtain⟨x,r,rfl,_,h2⟩:=h;rw[ZB,ZB,BrL.len h2]
abbrev isB:D->Bool |.bl _=>true |_=>false
abbrev isW(d:D):Bool:=match d with |.int _=>true |_=>false
abbrev bA(d:D)(a b:Int):Bool:=match d with |.int i=>decide (a<=i) && decide (i<=b) |_=>false
abbrev isT(d:D)(a b:Int):Bool:=match d with |.tup ds=>decide (a<=(ds.length:Int)) && decide ((ds.length:Int)<=b) |_=>false
theorem c9{a b:Int}(h:bA d a b=true):∃i,d = .int i/\a<=i/\i<=b:=by
 cases d with
 |int i=>simp[bA] at h;exact⟨i,rfl,h.1,h.2⟩
 |_=>simp[bA] at h
theorem nw{α:Type}(n:Nat)(f:Nat->List α):(Zk (n+1)).flatMap f=(Zk n).flatMap f++f n:=by
 rw[Xh,Xv];simp
theorem vo{α:Type}{n m:Nat}{f:Nat->List α}(h:∀i,i < n->(f i).length<=m):((Zk n).flatMap f).length<=n * m:=by
 induction n with
 |zero=>simp
 |succ n ih=>
  rw[nw,Zc];have:=ih λi hi=>h i (by omega);have:=h n (by omega);rw[XM];omega
abbrev dU(ds:List D)(lo hi:Option Int):List D:=(ds.drop (HT.sIx ds.length 0 lo)).take (HT.sIx ds.length ds.length hi - HT.sIx ds.length 0 lo)
theorem vq{n:Nat}:∀ {ds:List D},(∀d ∈ ds,dep d<=n)->iP ds<=n
 |[],_=>by rw[iP];omega
 |e::ds,h=>by
  rw[iP];have:=h e Zh;have:=vq (ds:=ds) λd hd=>h d (Ze _ hd);omega
theorem vt{n:Nat}:∀ {ds:List D},(∀d ∈ ds,wid d<=n)->oT ds<=n
 |[],_=>by rw[oT];omega
 |e::ds,h=>by
  rw[oT];have:=h e Zh;have:=vt (ds:=ds) λd hd=>h d (Ze _ hd);omega
structure Fit(n m:Nat)(d:D):Prop where
 de:dep d<=n
 wi:wid d<=m
theorem Fit.up{n m n' m':Nat}(h:Fit n m d)(hn:n<=n')(hm:m<=m'):Fit n' m' d:=⟨Zw h.de hn,Zw h.wi hm⟩
theorem Fit.tup{n m:Nat}(hl:ds.length<=m)(h:∀d ∈ ds,Fit n m d):Fit (n+1) m (.tup ds):=by
 refine⟨?_,?_⟩
 ·rw[dep];have:=vq (n:=n) λd hd=>(h d hd).de;omega
 ·rw[wid];have:=vt (n:=m) λd hd=>(h d hd).wi;omega
theorem IE(n:Nat)(a:Int)(h0:0<=a):HT.sIx n 0 (some a)=min a.toNat n:=by
 show(if a < 0 then (a+(n:Int)).toNat else min a.toNat n)=_;rw[if_neg (by omega)]
theorem sW(n:Nat)(a:Int)(h0:0<=a):HT.sIx n n (some a)=min a.toNat n:=by
 show(if a < 0 then (a+(n:Int)).toNat else min a.toNat n)=_;rw[if_neg (by omega)]
theorem Fit.lst{n m:Nat}(h:Fit n m (.tup ds)):Fit n m (.lst ds):=⟨by have:=h.de;simp only[dep] at this ⊢;exact this,by have:=h.wi;simp only[wid] at this ⊢;exact this⟩
abbrev jN(q:Int × Int):D:=.tup [.int q.1,.int q.2]
abbrev mg2(M:List (List Int))(i j:Nat):Int:=(((M[i]?).getD [])[j]?).getD 0
structure Mat(n:Nat)(M:List (List Int)):Prop where
 len:M.length=n
 row:∀r ∈ M,r.length=n
 ent:∀r ∈ M,∀x ∈ r,1<=x/\x<=99
theorem Mat.at{n:Nat}(h:Mat n M){i j:Nat}(hi:i < n)(hj:j < n):∃r,M[i]?=some r/\r.length=n/\r[j]?=some (mg2 M i j)/\1<=mg2 M i j/\mg2 M i j<=99:=by
 have hi':i < M.length:=by rw[h.len];exact hi
 have e1:M[i]?=some M[i]:=gEG hi';have hr:=h.row _ (ZM hi');have hj':j < M[i].length:=by omega
 have e2:mg2 M i j=M[i][j]:=by unfold mg2;rw[e1,Z0,gEG hj',Z0]
 have:=h.ent _ (ZM hi') _ (ZM hj');exact⟨M[i],e1,hr,by rw[e2,gEG hj'],by omega,by omega⟩
def qv(n k:Nat)(M:List (List Int)):Prop:=∀a b q,a < n->b < n->q < k->mg2 M a b<=mg2 M a q+mg2 M q b
theorem zw{n k:Nat}(h:Mat n M)(hk:k < n)(ht:qv n k M)(hm:∀i j,i < n->j < n->mg2 M' i j=min (mg2 M i j) (mg2 M i k+mg2 M k j)):qv n (k+1) M':=by
 intro a b q ha hb hq;have hqn:q < n:=by omega
 obtain⟨_,_,_,_,p1,_⟩:=h.at ha hb;obtain⟨_,_,_,_,p2,_⟩:=h.at ha hk;obtain⟨_,_,_,_,p3,_⟩:=h.at hk hb;obtain⟨_,_,_,_,p4,_⟩:=h.at hk hk;obtain⟨_,_,_,_,p5,_⟩:=h.at ha hqn;obtain⟨_,_,_,_,p6,_⟩:=h.at hqn hb;obtain⟨_,_,_,_,p7,_⟩:=h.at hk hqn;obtain⟨_,_,_,_,p8,_⟩:=h.at hqn hk;rw[hm a b ha hb,hm a q ha hqn,hm q b hqn hb];by_cases e:q=k
 ·subst e;omega
 ·have hq':q < k:=by omega
  have t1:=ht a b q ha hb hq';have t2:=ht k b q hk hb hq';have t3:=ht a k q ha hk hq';omega
abbrev kU(M:List (List Int)):List D:=M.map λr=>.tup (r.map .int)
abbrev a9(M:List (List Int))(n c i:Nat):List Int:=(Zk n).map λj=>if mg2 M i c+mg2 M c j < mg2 M i j then mg2 M i c+mg2 M c j else mg2 M i j
theorem qw(M:List (List Int))(n c i:Nat):(a9 M n c i).length=n:=by unfold a9;rw[Za,ZI]
theorem qx(M:List (List Int)){n c i j:Nat}(hj:j < n):(a9 M n c i)[j]?=some (if mg2 M i c+mg2 M c j < mg2 M i j then mg2 M i c+mg2 M c j else mg2 M i j):=by
 unfold a9;rw[Zr,Yp hj];rfl
theorem Du{n c:Nat}(h:Mat n M)(hc:c < n):∀i j,i < n->j < n->mg2 ((Zk n).map (a9 M n c)) i j=min (mg2 M i j) (mg2 M i c+mg2 M c j):=λi j hi hj=>by
 have e:mg2 ((Zk n).map (a9 M n c)) i j=if mg2 M i c+mg2 M c j < mg2 M i j then mg2 M i c+mg2 M c j else mg2 M i j:=by
  show((((Zk n).map (a9 M n c))[i]?.getD [])[j]?).getD 0=_;rw[Zr,Yp hi];show((a9 M n c i)[j]?).getD 0=_;rw[qx M hj];rfl
 rw[e];split <;> omega
theorem zx{n c:Nat}(h:Mat n M)(hc:c < n):Mat n ((Zk n).map (a9 M n c)):=by
 refine⟨by rw[Za,ZI],λr hr=>?_,λr hr x hx=>?_⟩
 ·obtain⟨u,_,rfl⟩:=ZL.mp hr;exact qw M n c u
 ·obtain⟨u,hu,rfl⟩:=ZL.mp hr;rw[ZR] at hu;unfold a9 at hx;obtain⟨j,hj,rfl⟩:=ZL.mp hx;rw[ZR] at hj;obtain⟨_,_,_,_,p1,q1⟩:=h.at hu hj;obtain⟨_,_,_,_,p2,q2⟩:=h.at hu hc;obtain⟨_,_,_,_,p3,q3⟩:=h.at hc hj;split <;> omega
abbrev zy(d:D):Int:=match d with |.int i=>i |_=>0
abbrev bQ(fs:List D):List Int:=fs.map zy
theorem sX(fs:List D):(bQ fs).length=fs.length:=by unfold bQ;rw[Za]
theorem bT:∀ (n:Nat) (l:List Int),l.Nodup->(∀x ∈ l,0<=x/\x < (n:Int))->l.length<=n
 |0,l,_,h=>by
  cases l with
  |nil=>exact Zg _
  |cons x l=>have:=h x Zh;lia
 |n+1,l,nd,h=>by
  by_cases hm:(n:Int) ∈ l
  ·have ih:=bT n (l.erase n) (nd.erase _) λx hx=>by
    have h1:=h x (List.mem_of_mem_erase hx);have h2:x ≠ (n:Int):=λe=>(List.Nodup.not_mem_erase nd) (e ▸ hx)
    lia
   rw[List.length_erase_of_mem hm] at ih;have:=List.length_pos_of_mem hm
   lia
  ·have ih:=bT n l nd λx hx=>by
    have h1:=h x hx;have h2:x ≠ (n:Int):=λe=>hm (e ▸ hx)
    lia
   lia
abbrev iQ(is:List Int):Bool:=decide is.Nodup
theorem qy(is:List Int):(is.map λi=>decide (((is.count i:Nat):Int)=1)).all id=iQ is:=by
 rw[Yc,Yh];unfold iQ;rw[ZD,decide_eq_true_eq,List.nodup_iff_count];constructor
 ·intro h a;by_cases hm:a ∈ is
  ·have:=of_decide_eq_true (h a hm)
   lia
  ·rw[List.count_eq_zero_of_not_mem hm];lia
 ·intro h a ha;have h1:=h a;have h2:=List.count_pos_iff.mpr ha;exact decide_eq_true (by lia)
abbrev cK(n:Nat)(d:D):Bool:=match d with
 |.tup fs=>decide (fs.length<=n) && (fs.all (λe=>bA e 0 ((n:Int) - 1)) && iQ (bQ fs))
 |_=>false
theorem IG(ds:List D)(n:Nat):isT (.tup ds) 0 n=decide (ds.length<=n):=by
 unfold isT;rw[Yc];simp
theorem xr{n:Nat}:bA d 0 ((n:Int) - 1)=true->∃i,d = .int i/\0<=i/\i < n:=λh=>by
 obtain⟨i,e,h0,h1⟩:=c9 h;exact⟨i,e,h0,by omega⟩
theorem sY{n:Nat}{i:Nat}(h:fs[i]?=some d)(hb:bA d 0 ((n:Int) - 1)=false):cK n (.tup fs)=false:=by
 have:fs.all (λe=>bA e 0 ((n:Int) - 1))=false:=by
  rw[Y0];intro z;have:=ZD.mp z d (Zj h);rw[hb] at this;cases this
 simp only[cK,this,Yq,YV]
theorem qz{n:Nat}(h:fs.all (λe=>bA e 0 ((n:Int) - 1))=true)(nd:(bQ fs).Nodup):cK n (.tup fs)=true:=by
 have hl:fs.length<=n:=by
  have:=bT n (bQ fs) nd λx hx=>by
   obtain⟨d,hd,rfl⟩:=ZL.mp hx;obtain⟨i,rfl,h0,h1⟩:=xr (ZD.mp h d hd);exact⟨h0,h1⟩
  rwa [sX] at this
 have:iQ (bQ fs)=true:=decide_eq_true nd;simp only[cK,this,h,decide_eq_true hl,Wc]
theorem kW(ds:List D)(k:Nat)(hk:k<=ds.length):dU ds none (some (k:Int))=ds.take k:=by
 unfold dU;rw[sW _ _ (by omega)];show(ds.drop 0).take (min ((k:Int).toNat) ds.length - 0)=_;rw[Xo,Wg,ZC,Xi hk]
abbrev ba:Key->PyData
 |.inl i=>.int i
 |.inr x=>.str x
mutual
noncomputable def aW:D->PyData
 |.non=>.none
 |.bl b=>.bool b
 |.int i=>.int i
 |.str x=>.str x
 |.tup ds=>.tuple (aJ ds)
 |.lst ds=>.list (aJ ds)
 |.dic ks ds=>.dict ((ks.map ba).zip (aJ ds))
noncomputable def aJ:List D->List PyData
 |[]=>[]
 |d::ds=>aW d::aJ ds
end
theorem b9:∀ds:List D,(aJ ds).length=ds.length
 |[]=>by simp[aJ]
 |d::ds=>by simp[aJ,b9 ds]
theorem gB{α β:Type}:∀ (ks:List α) (ds:List β),ks.length=ds.length->(ks.zip ds).map (·.1)=ks
 |[],[],_=>rfl
 |k::ks,d::ds,h=>by simp[gB ks ds (by simpa using h)]
 |[],_::_,h=>by simp at h
 |_::_,[],h=>by simp at h
theorem gC{α β:Type}:∀ (ks:List α) (ds:List β),ks.length=ds.length->(ks.zip ds).map (·.2)=ds
 |[],[],_=>rfl
 |k::ks,d::ds,h=>by simp[gC ks ds (by simpa using h)]
 |[],_::_,h=>by simp at h
 |_::_,[],h=>by simp at h
mutual
def shw:D->Prop
 |.int i=>i.natAbs.log2 < 1920
 |.tup ds=>oU ds
 |.lst ds=>oU ds
 |.dic ks ds=>(∀k ∈ ks,∀i,k=Sum.inl i->i.natAbs.log2 < 1920)/\oU ds
 |_=>True
def oU:List D->Prop
 |[]=>True
 |d::ds=>shw d/\oU ds
end
section
variable {P:Program} {w:World} {N:List Addr} {H:Hp} {h:Heap}
theorem ny:∀ {ks:List Key} {kvs:List (Key × Value)} {es:List Wy},Pairs (bB P w) es kvs->kvs.map (·.1)=ks->ReadsAll h (es.map (·.key)) (ks.map ba) []
 |[],[],_,.nil,_=>.nil
 |k::ks,_::_,_,.cons (e:=e) hk hv r,eq=>by
  simp only[Zu,XW.injEq] at eq;obtain⟨e1,e2⟩:=eq;have z:=ny (ks:=ks) r e2;have hk':jL k e.key=true:=by rw[<-e1];exact hk
  have one:Reads h e.key (ba k) []:=by
   rcases aZ hk' with ⟨i,t,rfl,q⟩ |⟨x,t,rfl,q⟩
   ·rw[q];exact .int _ _
   ·rw[q];exact .str _ _
  exact ReadsAll.cons one z
theorem cr:∀ {kvs:List (Key × Value)} {es:List Wy},Pairs (bB P w) es kvs->es.map (·.val)=kvs.map (·.2)
 |[],_,.nil=>rfl
 |_::_,_,.cons _ hv r=>by rw[Zu,Zu,hv,cr r]
theorem kh:∀ {ks:List Key} {xs:List V} {kvs:List (Key × Value)},ks.length=xs.length->KV (ks.zip xs) kvs->aO xs (kvs.map (·.2))/\kvs.map (·.1)=ks
 |[],[],_,_,.nil=>⟨.nil,rfl⟩
 |k::ks,x::xs,_,hl,.cons r t=>by
  obtain⟨h1,h2⟩:=kh (ks:=ks) (xs:=xs) (by simpa using hl) t;exact⟨.cons r.2 h1,by rw[Zu,h2,<-r.1]⟩
 |[],_::_,_,hl,_=>by simp at hl
 |_::_,[],_,hl,_=>by simp at hl
mutual
theorem df(ok:HOk P w H h):∀ (d:D) {v:V} {u:Value},Br N H d v->aI v u->∃as,Reads h u (aW d) as
 |.non,v,u,b,r=>by simp only[Br] at b;subst b;cases r;exact⟨_,by simp only[aW];exact .none⟩
 |.bl x,v,u,b,r=>by simp only[Br] at b;subst b;cases r;exact⟨_,by simp only[aW];exact .bool _⟩
 |.int i,v,u,b,r=>by simp only[Br] at b;subst b;obtain⟨t,rfl⟩:=r;exact⟨_,by simp only[aW];exact .int _ _⟩
 |.str x,v,u,b,r=>by simp only[Br] at b;subst b;obtain⟨t,rfl⟩:=r;exact⟨_,by simp only[aW];exact .str _ _⟩
 |.tup ds,v,u,b,r=>by
  simp only[Br] at b;obtain⟨a,xs,rfl,ha,hx⟩:=b;cases r;obtain⟨_,its,rv,o,e,c,n,q,_⟩:=ok a _ ha;obtain⟨as,z⟩:=gD ok ds hx rv;simp only[aW];exact⟨_,.tuple e c q (by simpa using z)⟩
 |.lst ds,v,u,b,r=>by
  simp only[Br] at b;obtain⟨a,xs,rfl,_,ha,hx⟩:=b;cases r;obtain⟨_,its,n,rv,e⟩:=ok a _ ha;obtain⟨as,z⟩:=gD ok ds hx rv;simp only[aW];exact⟨_,.list e rfl rfl (by simpa using z)⟩
 |.dic ks ds,v,u,b,r=>by
  simp only[Br] at b;obtain⟨a,xs,rfl,_,ha,hl,hx⟩:=b;cases r;obtain⟨_,_,kvs,rk,o,es,ep,e,ex,q,_,pr,_⟩:=ok a _ ha;obtain⟨rv,k1⟩:=kh (by rw[hl,hx.len]) rk;obtain⟨as,z⟩:=gD ok ds hx rv;simp only[aW];refine⟨_,.dict e ex.1 q (kvs:=(ks.map ba).zip (aJ ds)) (as:=[]) (bs:=as) ?_ ?_⟩
  ·rw[gB _ _ (by rw[Za,b9,hl])];exact ny pr k1
  ·rw[gC _ _ (by rw[Za,b9,hl]),cr pr];exact z
theorem gD(ok:HOk P w H h):∀ (ds:List D) {xs:List V} {us:List Value},BrL N H ds xs->aO xs us->∃as,ReadsAll h us (aJ ds) as
 |[],xs,us,b,r=>by simp only[BrL] at b;subst b;cases r;exact⟨_,by simp only[aJ];exact .nil⟩
 |d::ds,xs,us,b,r=>by
  simp only[BrL] at b;obtain⟨x,l,rfl,h1,h2⟩:=b;cases r with
  |cons r1 r2=>
   obtain⟨as,z1⟩:=df ok d h1 r1;obtain⟨bs,z2⟩:=gD ok ds h2 r2;simp only[aJ];exact⟨_,.cons z1 z2⟩
end
theorem kY{es:List Wy}:∀ {ks:List Key} {kvs:List (Key × Value)} {es:List Wy} {d:Nat} {bs:List Addr},Pairs (bB P w) es kvs->kvs.map (·.1)=ks->(∀k ∈ ks,∀i,k=Sum.inl i->i.natAbs.log2 < 1920)->(∀t ∈ W1 (ks.map ba),t.length<=sizeLine)->ReprAllK P w bs h d (es.map (·.key)) (W1 (ks.map ba))
 |[],[],_,_,_,.nil,_,_,_=>by simp only[Z5,W1];exact .nil
 |k::ks,_::_,_,d,bs,.cons (e:=e) hk hv r,eq,hi,hz=>by
  simp only[Zu,XW.injEq] at eq;obtain⟨e1,e2⟩:=eq;have hk':jL k e.key=true:=by rw[<-e1];exact hk
  simp only[Zu,W1] at hz ⊢;refine .cons ?_ (kY (es:=[]) r e2 (λk' m=>hi k' (Ze _ m)) λt m=>hz t (Ze _ m));rcases aZ hk' with ⟨i,t,rfl,q⟩ |⟨x,t,rfl,q⟩
  ·rw[q];simp only[ba,W0];exact .of_is (ReprIs.int t (hi _ Zh i rfl)) _ _ _
  ·rw[q];have hs:=hz _ Zh;simp only[ba,W0] at hs ⊢;exact .of_is (ReprIs.str x t hs) _ _ _
mutual
theorem Dv(ok:HOk P w H h):∀ (d:D) {v:V} {u:Value},Br N H d v->aI v u->shw d->(aW d).shown.length<=sizeLine->∃bs,ReadAtMost h (aW d).depth bs/\ReprK P w bs h (aW d).depth u (aW d).shown
 |.non,v,u,b,r,_,_=>by simp only[Br] at b;subst b;cases r;exact⟨[],(λ_ m=>nomatch m),by simp only[aW,W0];exact .of_is ReprIs.none _ _ _⟩
 |.bl x,v,u,b,r,_,_=>by simp only[Br] at b;subst b;cases r;exact⟨[],(λ_ m=>nomatch m),by simp only[aW,W0];exact .of_is (ReprIs.bool _) _ _ _⟩
 |.int i,v,u,b,r,hs,_=>by simp only[Br] at b;subst b;obtain⟨t,rfl⟩:=r;exact⟨[],(λ_ m=>nomatch m),by simp only[aW,W0];exact .of_is (ReprIs.int t (by simpa only[shw] using hs)) _ _ _⟩
 |.str x,v,u,b,r,_,hz=>by simp only[Br] at b;subst b;obtain⟨t,rfl⟩:=r;exact⟨[],(λ_ m=>nomatch m),by simp only[aW,W0] at hz ⊢;exact .of_is (ReprIs.str x t hz) _ _ _⟩
 |.tup ds,v,u,b,r,hs,hz=>by
  obtain⟨as,whole⟩:=df ok (.tup ds) b r;simp only[Br] at b;obtain⟨a,xs,rfl,ha,hx⟩:=b;cases r;obtain⟨_,its,rv,o,e,c,n,q,_⟩:=ok a _ ha;simp only[aW,W0,WV] at hz whole ⊢;obtain⟨bs,m,k⟩:=dg ok ds hx rv (by simpa only[shw] using hs) λt ht=>Zw (tupleText_mem_le ht) hz;have out:a ∉ bs:=Ua whole (by simp only[WV];lia) m;have mm:=ReadAtMost.cons whole (by simp only[WV];lia) m;simp only[WV] at mm;exact⟨a::bs,mm,ReprK.tuple e c q out (by simpa using k)⟩
 |.lst ds,v,u,b,r,hs,hz=>by
  obtain⟨as,whole⟩:=df ok (.lst ds) b r;simp only[Br] at b;obtain⟨a,xs,rfl,_,ha,hx⟩:=b;cases r;obtain⟨_,its,n,rv,e⟩:=ok a _ ha;simp only[aW,W0,WV] at hz whole ⊢;obtain⟨bs,m,k⟩:=dg ok ds hx rv (by simpa only[shw] using hs) λt ht=>Zw (listText_mem_le ht) hz;have out:a ∉ bs:=Ua whole (by simp only[WV];lia) m;have mm:=ReadAtMost.cons whole (by simp only[WV];lia) m;simp only[WV] at mm;refine⟨a::bs,mm,?_⟩;cases its with
  |nil=>
   cases k':W1 (aJ ds) with
   |nil=>simp only[listText_nil];exact ReprK.listEmpty e rfl rfl
   |cons _ _=>rw[k'] at k;cases k
  |cons y l=>exact ReprK.list e rfl rfl out (by simpa using k.length_eq) (λi y' q'=>k.item i y' (by simpa using q'))
 |.dic ks ds,v,u,b,r,hs,hz=>by
  obtain⟨as,whole⟩:=df ok (.dic ks ds) b r;simp only[Br] at b;obtain⟨a,xs,rfl,_,ha,hl,hx⟩:=b;cases r;obtain⟨_,sys,kvs,rk,o,es,ep,e,ex,q,_,pr,_⟩:=ok a _ ha;obtain⟨rv,k1⟩:=kh (by rw[hl,hx.len]) rk;simp only[shw] at hs;have lz:(ks.map ba).length=(aJ ds).length:=by rw[Za,b9,hl]
  simp only[aW,W0,WV] at hz whole ⊢;have f1:=gB (ks.map ba) (aJ ds) lz;have f2:=gC (ks.map ba) (aJ ds) lz;have dk:=WX ((ks.map ba).zip (aJ ds));have dv:=WY ((ks.map ba).zip (aJ ds));rw[f1] at dk;rw[f2] at dv
  obtain⟨bs,m,k⟩:=dg ok ds hx rv hs.2 λt ht=>by
   obtain⟨p,hp,hlen⟩:=W5 ((ks.map ba).zip (aJ ds)) t (by rw[f2];exact ht);exact Zw hlen (Zw (VW hp) hz)
  have kk:=kY (h:=h) (es:=[]) (d:=WW (ks.map ba)) (bs:=bs) pr k1 hs.1 λt ht=>by
   obtain⟨p,hp,hlen⟩:=W4 ((ks.map ba).zip (aJ ds)) t (by rw[f1];exact ht);exact Zw hlen (Zw (VW hp) hz)
  have m':=m.mono dv;have out:a ∉ bs:=Ua whole (by simp only[WV];lia) m';have mm:=ReadAtMost.cons whole (by simp only[WV];lia) m';simp only[WV] at mm;refine⟨a::bs,mm,?_⟩;rw[W3,f1,f2];refine ReprK.dict e ex.1 q sys out (ReprEntriesK.of_two es.toList _ _ (kk.more_le (λ_ z=>z) dk) ?_);rw[cr pr];exact k.more_le (λ_ z=>z) dv
theorem dg(ok:HOk P w H h):∀ (ds:List D) {xs:List V} {us:List Value},BrL N H ds xs->aO xs us->oU ds->(∀t ∈ W1 (aJ ds),t.length<=sizeLine)->∃bs,ReadAtMost h (WW (aJ ds)) bs/\ReprAllK P w bs h (WW (aJ ds)) us (W1 (aJ ds))
 |[],xs,us,b,r,_,_=>by simp only[BrL] at b;subst b;cases r;exact⟨[],(λ_ m=>nomatch m),by simp only[aJ,W1];exact .nil⟩
 |d::ds,xs,us,b,r,hs,hz=>by
  simp only[BrL] at b;obtain⟨x,l,rfl,h1,h2⟩:=b;cases r with
  |cons r1 r2=>
   simp only[aJ,W1,WW,oU] at hz hs ⊢;obtain⟨b1,m1,k1⟩:=Dv ok d h1 r1 hs.1 (hz _ Zh);obtain⟨b2,m2,k2⟩:=dg ok ds h2 r2 hs.2 λt ht=>hz t (Ze _ ht);refine⟨b1++b2,(m1.mono (X3 _ _)).append (m2.mono (XX _ _)),?_⟩;exact .cons ((k1.more λb z=>ZV _ z).level_le (X3 _ _)) (k2.more_le (λb z=>Zx _ z) (XX _ _))
end
end
section
variable {X:Cx}
structure Shn(d:D):Prop where
 sh:shw d
 sz:(aW d).shown.length<=sizeLine
 dp:(aW d).depth<=100
def IH:List V->Hp->VK->Prop:=λxs H Q=>∃x N d,xs=[x]/\Br N H d x/\Shn d/\Q (.str (aW d).shown) H
theorem sZ{k:Nat}(hr:Room k X.A):aX X (.builtin "repr") IH:=by
 intro pins s σ H xs us Q I r h;obtain⟨x,N,d,rfl,b,⟨hs,hz,hd⟩,q⟩:=h;obtain⟨u,rfl,ru⟩:=cx r;have hun:=hr.un;have hu1:X.A.units+1 < cLine:=by lia
 have gd1:X.A.in1.guards=some []:=hr.gd;have fin:∀h' t tk,(∀b o,s.heap.get? b=some o->h'.get? b=some o)->∃x' t',Value.str (aW d).shown t=Value.str x' t'/\EP X pins σ Q (Value.str (aW d).shown t) { s with heap:=h',toks:=tk }:=λh' t tk hk=>⟨_,_,rfl,.str _,H,I.kept (t':=tk) hk,⟨t,rfl⟩,q⟩;cases d with
 |non=>
  simp only[Br] at b;subst b;cases ru;exact P.repr_of_none ⟨.str _,H,I.tok _,⟨_,rfl⟩,by simpa only[aW,W0] using q⟩
 |bl y=>
  simp only[Br] at b;subst b;cases ru;exact P.repr_of_bool ⟨.str _,H,I.tok _,⟨_,rfl⟩,by simpa only[aW,W0] using q⟩
 |int i=>
  simp only[Br] at b;subst b;obtain⟨t,rfl⟩:=ru;exact P.repr_of_int (by simpa only[shw] using hs) ⟨.str _,H,I.tok _,⟨_,rfl⟩,by simpa only[aW,W0] using q⟩
 |str y=>
  simp only[Br] at b;subst b;obtain⟨t,rfl⟩:=ru;exact P.repr_of_str ⟨.str _,H,I.tok _,⟨_,rfl⟩,by simpa only[aW,W0] using q⟩ (by simpa only[aW,W0] using hz)
 |tup ds=>
  obtain⟨as,whole⟩:=df I.hok (.tup ds) b ru;simp only[Br] at b;obtain⟨a,ys,rfl,ha,hx⟩:=b;cases ru;obtain⟨_,its,rv,o,e,c,n,q',_⟩:=I.hok a _ ha;simp only[aW,W0,WV] at hz whole hd fin;obtain⟨bs,m,k'⟩:=dg I.hok ds hx rv (by simpa only[shw] using hs) λt ht=>Zw (tupleText_mem_le ht) hz;have out:a ∉ bs:=Ua whole (by simp only[WV];lia) m;refine VN hu1 ⟨o,e,c⟩ F.slot_tuple_repr ?_;exact call_tuple_reprK e c q' out (by simpa using k') gd1 (λb _=>Clear.nil b) (by show X.A.units+1+(_+1) < cLine;lia) (λ_ _ z=>z) (λh' t tk hk=>fin h' t tk hk) hz
 |lst ds=>
  obtain⟨as,whole⟩:=df I.hok (.lst ds) b ru;simp only[Br] at b;obtain⟨a,ys,rfl,_,ha,hx⟩:=b;cases ru;obtain⟨_,its,n,rv,e⟩:=I.hok a _ ha;simp only[aW,W0,WV] at hz whole hd fin;obtain⟨bs,m,k'⟩:=dg I.hok ds hx rv (by simpa only[shw] using hs) λt ht=>Zw (listText_mem_le ht) hz;have out:a ∉ bs:=Ua whole (by simp only[WV];lia) m;refine VN hu1 ⟨_,e,rfl⟩ F.slot_list_repr.toG ?_;cases its with
  |nil=>
   cases k2:W1 (aJ ds) with
   |nil=>
    rw[k2] at fin;simp only[listText_nil] at fin;exact call_list_repr_empty ⟨_,e,rfl⟩ e rfl (fin s.heap _ _ λ_ _ z=>z)
   |cons _ _=>rw[k2] at k';cases k'
  |cons y l=>
   exact call_list_reprK e rfl rfl out (by simpa using k'.length_eq) (λi y' q2=>k'.item i y' (by simpa using q2)) gd1 (λb _=>Clear.nil b) (by show X.A.units+1+(_+1) < cLine;lia) (λ_ _ z=>z) (λh' t tk hk=>fin h' t tk hk) hz
 |dic ks ds=>
  have bb:=b;obtain⟨as,whole⟩:=df I.hok (.dic ks ds) b ru;simp only[Br] at b;obtain⟨a,ys,rfl,_,ha,hl,hx⟩:=b;cases ru;obtain⟨_,sys,kvs,rk,o,es,ep,e,ex,q',_,pr,_⟩:=I.hok a _ ha;obtain⟨rv,k1⟩:=kh (by rw[hl,hx.len]) rk;simp only[shw] at hs;have lz:(ks.map ba).length=(aJ ds).length:=by rw[Za,b9,hl]
  simp only[aW,W0,WV] at hz whole hd fin;have f1:=gB (ks.map ba) (aJ ds) lz;have f2:=gC (ks.map ba) (aJ ds) lz;have dk:=WX ((ks.map ba).zip (aJ ds));have dv:=WY ((ks.map ba).zip (aJ ds));rw[f1] at dk;rw[f2] at dv
  obtain⟨bs,m,k'⟩:=dg I.hok ds hx rv hs.2 λt ht=>by
   obtain⟨p,hp,hlen⟩:=W5 ((ks.map ba).zip (aJ ds)) t (by rw[f2];exact ht);exact Zw hlen (Zw (VW hp) hz)
  have kk:=kY (h:=s.heap) (es:=[]) (d:=WW (ks.map ba)) (bs:=bs) pr k1 hs.1 λt ht=>by
   obtain⟨p,hp,hlen⟩:=W4 ((ks.map ba).zip (aJ ds)) t (by rw[f1];exact ht);exact Zw hlen (Zw (VW hp) hz)
  have m':=m.mono dv;have out:a ∉ bs:=Ua whole (by simp only[WV];lia) m';refine VN hu1 ⟨o,e,ex.1⟩ F.slot_dict_repr ?_
  have hE:ReprEntriesK X.prog X.w bs s.heap (WZ ((ks.map ba).zip (aJ ds))) es.toList (W2 ((ks.map ba).zip (aJ ds))):=by
   rw[W3,f1,f2];refine ReprEntriesK.of_two es.toList _ _ (kk.more_le (λ_ z=>z) dk) ?_;rw[cr pr];exact k'.more_le (λ_ z=>z) dv
  exact call_dict_reprK e ex.1 q' sys out hE gd1 (λb _=>Clear.nil b) (by show X.A.units+1+(_+1) < cLine;lia) (λ_ _ z=>z) (λh' t tk hk=>fin h' t tk hk) hz
end
mutual
noncomputable def sz:D->Nat
 |.non=>10
 |.bl _=>10
 |.int _=>60
 |.str x=>(reprText x).length
 |.tup ds=>szL ds+4
 |.lst ds=>szL ds+4
 |.dic ks ds=>szL ds+62 * ks.length+4
noncomputable def szL:List D->Nat
 |[]=>0
 |d::ds=>sz d+2+szL ds
end
mutual
def bnd(B:Nat):D->Prop
 |.int i=>i.natAbs < B
 |.tup ds=>fJ B ds
 |.lst ds=>fJ B ds
 |.dic ks ds=>(∀k ∈ ks,∃i,k=Sum.inl i/\i.natAbs < B)/\ks.length=ds.length/\fJ B ds
 |_=>True
def fJ(B:Nat):List D->Prop
 |[]=>True
 |d::ds=>bnd B d/\fJ B ds
end
theorem zz{i:Int}(h:i.natAbs < 10 ^ 50):i.natAbs.log2 < 1920:=by
 by_cases z:i.natAbs=0
 ·rw[z];decide
 ·have:i.natAbs.log2 < 167:=(Wk z).mpr (Zv h (by decide))
  lia
mutual
theorem vA:∀ (d:D),bnd (10 ^ 50) d->shw d
 |.non,_=>by simp only[shw]
 |.bl _,_=>by simp only[shw]
 |.str _,_=>by simp only[shw]
 |.int i,h=>by simp only[shw,bnd] at h ⊢;exact zz h
 |.tup ds,h=>by simp only[shw,bnd] at h ⊢;exact iR ds h
 |.lst ds,h=>by simp only[shw,bnd] at h ⊢;exact iR ds h
 |.dic ks ds,h=>by
  simp only[shw,bnd] at h ⊢;refine⟨λk hk i e=>?_,iR ds h.2.2⟩;obtain⟨j,e2,hj⟩:=h.1 k hk;rw[e] at e2;cases e2;exact zz hj
theorem iR:∀ (ds:List D),fJ (10 ^ 50) ds->oU ds
 |[],_=>by simp only[oU]
 |d::ds,h=>by simp only[oU,fJ] at h ⊢;exact⟨vA d h.1,iR ds h.2⟩
end
theorem vB:∀ (ts:List Str) (k:Nat) (acc:Str),(Ut k acc ts).length<=acc.length+piled ts
 |[],k,acc=>by show acc.length<=_;lia
 |t::r,k,acc=>by
  have ih:=vB r (k+1) (acc++(if k > 0 then ", " else "" : String)++t);show(Ut (k+1) (acc++(if k > 0 then ", " else "" : String)++t) r).length<=_;rw[piled_cons]
  have e:(acc++(if k > 0 then ", " else "" : String)++t).length<=acc.length+2+t.length:=by
   rw[Uo,Uo];have:(Str.ofString (if k > 0 then ", " else "" : String)).length<=2:=by split <;> decide
   lia
  lia
theorem vC(ts:List Str):(Str.join ", " ts).length<=piled ts:=by
 cases ts with
 |nil=>decide
 |cons t r=>have:=join_length_add (t::r) (by simp);lia
theorem Dx(ts:List Str):(listText ts).length<=piled ts+4:=by
 unfold listText;rw[Uo];have h1:=vB ts 0 "[";have h2:(Str.ofString "[").length=1:=by decide
 have h3:(Str.ofString "]").length=1:=by decide
 have h1':(Ut 0 (Str.ofString "[") ts).length<=(Str.ofString "[").length+piled ts:=h1;show(Ut 0 (Str.ofString "[") ts).length+(Str.ofString "]").length<=_
 lia
theorem zA(ts:List Str):(tupleText ts).length<=piled ts+4:=by
 unfold tupleText;rw[Uo,Uo];have h1:=vC ts;have h2:(Str.ofString "(").length=1:=by decide
 have h3:(Str.ofString (if ts.length == 1 then ",)" else ")" : String)).length<=2:=by split <;> decide
 show(Str.ofString "(").length+_+(Str.ofString (if ts.length == 1 then ",)" else ")" : String)).length<=_
 lia
theorem Dy(ts:List Str):(dictText ts).length<=piled ts+4:=by
 unfold dictText;rw[Uo,Uo];have h1:=vC ts;have h2:(Str.ofString "{").length=1:=by decide
 have h3:(Str.ofString "}").length=1:=by decide
 show(Str.ofString "{").length+_+(Str.ofString "}").length<=_
 lia
theorem zB{i:Int}(h:i.natAbs < 10 ^ 50):(Str.ofString (toString i)).length<=51:=by
 rw[ofString_len];exact int_text_length_le10 (by decide) h
theorem GY:∀ (ks:List Key) (ts:List Str) (hk:∀k ∈ ks,∃i,k=Sum.inl i/\i.natAbs < 10 ^ 50),ks.length=ts.length->piled (List.zipWith (λk v:Str=>k ++ ": " ++ v) (W1 (ks.map ba)) ts)<=piled ts+53 * ks.length
 |[],[],_,_=>by simp[W1,piled]
 |k::ks,t::ts,hk,hl=>by
  have ih:=GY ks ts (λk' m=>hk k' (Ze _ m)) (by simpa using hl);obtain⟨i,rfl,hi⟩:=hk _ Zh;simp only[Zu,W1,List.zipWith_cons_cons,piled_cons,ZB,ba,W0];have h1:=zB hi;rw[Uo,Uo];have h2:(Str.ofString ": ").length=2:=by decide
  show(Str.ofString (toString i)).length+(Str.ofString ": ").length+t.length+2+_<=_
  lia
 |[],_::_,_,hl=>by simp at hl
 |_::_,[],_,hl=>by simp at hl
theorem iS:∀ds:List PyData,(W1 ds).length=ds.length
 |[]=>by simp[W1]
 |d::ds=>by simp[W1,iS ds]
mutual
theorem qA:∀ (d:D),bnd (10 ^ 50) d->(aW d).shown.length<=sz d
 |.non,_=>by simp only[aW,W0,sz];decide
 |.bl b,_=>by simp only[aW,W0,sz];cases b <;> decide
 |.int i,h=>by
  simp only[aW,W0,sz,bnd] at h ⊢;have:=zB h;show(Str.ofString (toString i)).length<=60
  lia
 |.str x,_=>by simp only[aW,W0,sz];exact Zg _
 |.tup ds,h=>by
  simp only[aW,W0,sz,bnd] at h ⊢;have:=gF ds h;have:=zA (W1 (aJ ds))
  lia
 |.lst ds,h=>by
  simp only[aW,W0,sz,bnd] at h ⊢;have:=gF ds h;have:=Dx (W1 (aJ ds))
  lia
 |.dic ks ds,h=>by
  simp only[aW,W0,sz,bnd] at h ⊢;have h1:=gF ds h.2.2;have lz:(ks.map ba).length=(aJ ds).length:=by rw[Za,b9,h.2.1]
  have h2:=Dy (W2 ((ks.map ba).zip (aJ ds)));rw[W3,gB _ _ lz,gC _ _ lz] at h2;have h3:=GY ks (W1 (aJ ds)) h.1 (by rw[iS,b9,h.2.1]);rw[W3,gB _ _ lz,gC _ _ lz]
  lia
theorem gF:∀ (ds:List D),fJ (10 ^ 50) ds->piled (W1 (aJ ds))<=szL ds
 |[],_=>by simp[aJ,W1,piled,szL]
 |d::ds,h=>by
  simp only[aJ,W1,szL,fJ,piled_cons] at h ⊢;have h1:=qA d h.1;have h2:=gF ds h.2
  lia
end
theorem qB:∀ (ks:List Key) (ds:List PyData),WZ ((ks.map ba).zip ds)<=WW ds
 |[],ds=>by simp[WZ]
 |k::ks,[]=>by simp[WZ]
 |k::ks,d::ds=>by
  have ih:=qB ks ds;simp only[Zu,List.zip_cons_cons,WZ,WW];have:(ba k).depth=0:=by cases k <;> simp[ba,WV]
  rw[this]
  lia
mutual
theorem qC:∀ (d:D),(aW d).depth<=dep d
 |.non=>by simp[aW,WV]
 |.bl _=>by simp[aW,WV]
 |.int _=>by simp[aW,WV]
 |.str _=>by simp[aW,WV]
 |.tup ds=>by simp only[aW,WV,dep];have:=gG ds;lia
 |.lst ds=>by simp only[aW,WV,dep];have:=gG ds;lia
 |.dic ks ds=>by
  simp only[aW,WV,dep];have:=gG ds;have:=qB ks (aJ ds)
  lia
theorem gG:∀ (ds:List D),WW (aJ ds)<=iP ds
 |[]=>by simp[aJ,WW,iP]
 |d::ds=>by
  simp only[aJ,WW,iP];have:=qC d;have:=gG ds
  lia
end
structure Bd(B s:Nat)(d:D):Prop where
 bn:bnd B d
 sz:sz d<=s
mutual
theorem zC{B B':Nat}(h:B<=B'):∀ (d:D),bnd B d->bnd B' d
 |.non,_=>by simp only[bnd]
 |.bl _,_=>by simp only[bnd]
 |.str _,_=>by simp only[bnd]
 |.int i,z=>by simp only[bnd] at z ⊢;lia
 |.tup ds,z=>by simp only[bnd] at z ⊢;exact ki h ds z
 |.lst ds,z=>by simp only[bnd] at z ⊢;exact ki h ds z
 |.dic ks ds,z=>by
  simp only[bnd] at z ⊢;exact⟨λk hk=>let ⟨i,e,q⟩:=z.1 k hk;⟨i,e,by lia⟩,z.2.1,ki h ds z.2.2⟩
theorem ki{B B':Nat}(h:B<=B'):∀ (ds:List D),fJ B ds->fJ B' ds
 |[],_=>by simp only[fJ]
 |d::ds,z=>by simp only[fJ] at z ⊢;exact⟨zC h d z.1,ki h ds z.2⟩
end
theorem Bd.shn{B s:Nat}(h:Bd B s d)(hB:B<=10 ^ 50)(hs:s<=sizeLine)(hd:dep d<=100):Shn d:=
 have b:=zC hB d h.bn
 ⟨vA d b,Zw (qA d b) (Zw h.sz hs),Zw (qC d) hd⟩
theorem vD{B:Nat}:∀ {ds:List D},(∀d ∈ ds,bnd B d)->fJ B ds
 |[],_=>by simp only[fJ]
 |d::ds,h=>by simp only[fJ];exact⟨h d Zh,vD λe m=>h e (Ze _ m)⟩
theorem II{B s:Nat}(h:∀d ∈ ds,bnd B d)(hs:szL ds+4<=s):Bd B s (.tup ds):=⟨by simp only[bnd];exact vD h,by simp only[sz];exact hs⟩
theorem IJ{B s:Nat}(h:Bd B s (.tup ds)):Bd B s (.lst ds):=by
 have h1:=h.bn;have h2:=h.sz;exact⟨by simp only[bnd] at h1 ⊢;exact h1,by simp only[sz] at h2 ⊢;exact h2⟩
end Dw
namespace Ev
open PySem PySem.Spec PyProof.Rows L2
inductive D where
 |non |bl (b:Bool) |int (i:Int) |str (x:Str) |tup (ds:List D) |ref (n:Nat)
inductive Ob where
 |lst (ds:List D) |frz (ds:List D) |dic (ks:List Key) (ds:List D)
@[inline]abbrev Sto:=List Ob
@[inline]abbrev Rho:=List (Option D)
mutual
def VD(K:Vf)(m:List Addr)(H:Hp):D->V->Prop
 |.non,v=>v = .non
 |.bl b,v=>v = .bl b
 |.int i,v=>v = .int i
 |.str x,v=>v = .str x
 |.tup ds,v=>∃a xs,v = .ref a/\H a=some (.tup xs)/\VDs K m H ds xs
 |.ref n,v=>∃a,m[n]?=some a/\v = .ref a
def VDs(K:Vf)(m:List Addr)(H:Hp):List D->List V->Prop
 |[],xs=>xs=[]
 |d::ds,xs=>∃x r,xs=x::r/\VD K m H d x/\VDs K m H ds r
end
structure Ext(m:List Addr)(H:Hp)(m':List Addr)(H':Hp):Prop where
 pre:m <+: m'
 keep:∀a o,H a=some o->a ∉ m->H' a=some o
 new:∀a,a ∈ m'->a ∉ m->H a=none
def ObR(K:Vf)(m:List Addr)(H:Hp)(a:Addr):Ob->Prop
 |.lst ds=>∃vs,H a=some (.lst vs)/\VDs K m H ds vs
 |.frz ds=>∃o vs,H a=some (.frz o (.lst vs))/\VDs K m H ds vs
 |.dic ks ds=>∃vs,H a=some (.dK (ks.zip vs))/\ks.length=ds.length/\VDs K m H ds vs
structure Rel(K:Vf)(m:List Addr)(S:Sto)(H:Hp):Prop where
 len:m.length=S.length
 nd:m.Nodup
 ob:∀ (i:Nat) (o:Ob),S[i]?=some o->∃a,m[i]?=some a/\ObR K m H a o
structure EnvR(K:Vf)(m:List Addr)(H:Hp)(ρ:Rho)(σ:L2.St):Prop where
 len:ρ.length=σ.length
 at_:∀ (i:Nat) (d:D),ρ[i]?=some (some d)->∃v,σ[i]?=some (some v)/\VD K m H d v
theorem Ext.refl(m:List Addr)(H:Hp):Ext m H m H:=⟨Ye m,λ_ _ h _=>h,λ_ h n=>absurd h n⟩
theorem Ext.trans(x:Ext m H m1 H1)(y:Ext m1 H1 m2 H2):Ext m H m2 H2:=by
 refine⟨x.pre.trans y.pre,λa o h n=>?_,λa h n=>?_⟩
 ·have n1:a ∉ m1:=λz=>by have:=x.new a z n;rw[this] at h;cases h
  exact y.keep a o (x.keep a o h n) n1
 ·by_cases h1:a ∈ m1
  ·exact x.new a h1 n
  ·cases e:H a with
   |none=>rfl
   |some o=>
    have:=x.keep a o e n;rw[y.new a h h1] at this;cases this
section
variable {K:Vf} {m m':List Addr} {S S':Sto} {H H':Hp} {a:Addr}
theorem Rel.ex(R:Rel K m S H)(ha:a ∈ m):∃o ob,H a=some o/\ObR K m H a ob:=by
 obtain⟨i,hi,e⟩:=List.getElem_of_mem ha;have hi':i < S.length:=by rw[<-R.len];exact hi
 obtain⟨b,hb,r⟩:=R.ob i S[i] (gEG hi');have:b=a:=by rw[gEG hi] at hb;rw[<-e];exact(Option.some.inj hb).symm
 subst this;cases hS:S[i] with
 |lst ds=>rw[hS] at r;obtain⟨vs,h,q⟩:=r;exact⟨_,.lst ds,h,vs,h,q⟩
 |frz ds=>rw[hS] at r;obtain⟨o,vs,h,q⟩:=r;exact⟨_,.frz ds,h,o,vs,h,q⟩
 |dic ks ds=>rw[hS] at r;obtain⟨vs,h,q⟩:=r;exact⟨_,.dic ks ds,h,vs,h,q⟩
theorem Rel.no(R:Rel K m S H)(h:H a=none):a ∉ m:=λz=>by
 obtain⟨o,_,e,_⟩:=R.ex z;rw[h] at e;cases e
theorem Rel.notTup(R:Rel K m S H)(h:H a=some (.tup xs)):a ∉ m:=λz=>by
 obtain⟨o,ob,e,r⟩:=R.ex z;cases ob with
 |lst ds=>obtain⟨vs,q,_⟩:=r;rw[q] at h;cases h
 |frz ds=>obtain⟨o,vs,q,_⟩:=r;rw[q] at h;cases h
 |dic ks ds=>obtain⟨vs,q,_⟩:=r;rw[q] at h;cases h
theorem Tup.ext(R:Rel K m S H)(x:Ext m H m' H')(h:H a=some (.tup xs)):H' a=some (.tup xs):=x.keep _ _ h (R.notTup h)
theorem kj{i:Nat}(h:m <+: m')(e:m[i]?=some a):m'[i]?=some a:=by
 obtain⟨t,rfl⟩:=h;have hi:i < m.length:=(Zb.mp e).1;rw[Zt hi];exact e
mutual
theorem VD.mono0(pre:m <+: m')(tk:∀a xs,H a=some (.tup xs)->H' a=some (.tup xs)):∀ {d:D} {v:V},VD K m H d v->VD K m' H' d v
 |.non,v,h=>by rw[VD] at h ⊢;exact h
 |.bl _,v,h=>by rw[VD] at h ⊢;exact h
 |.int _,v,h=>by rw[VD] at h ⊢;exact h
 |.str _,v,h=>by rw[VD] at h ⊢;exact h
 |.tup ds,v,h=>by
  rw[VD] at h ⊢;obtain⟨a,xs,e,q,r⟩:=h;exact⟨a,xs,e,tk a xs q,VDs.mono0 pre tk r⟩
 |.ref n,v,h=>by
  rw[VD] at h ⊢;obtain⟨a,q,e⟩:=h;exact⟨a,kj pre q,e⟩
theorem VDs.mono0(pre:m <+: m')(tk:∀a xs,H a=some (.tup xs)->H' a=some (.tup xs)):∀ {ds:List D} {vs:List V},VDs K m H ds vs->VDs K m' H' ds vs
 |[],vs,h=>by rw[VDs] at h ⊢;exact h
 |d::ds,vs,h=>by
  rw[VDs] at h ⊢;obtain⟨y,r,e,p,q⟩:=h;exact⟨y,r,e,VD.mono0 pre tk p,VDs.mono0 pre tk q⟩
end
theorem VD.mono(R:Rel K m S H)(x:Ext m H m' H')(h:VD K m H d v):VD K m' H' d v:=VD.mono0 x.pre (λ_ _=>Tup.ext R x) h
theorem VDs.mono(R:Rel K m S H)(x:Ext m H m' H')(h:VDs K m H ds vs):VDs K m' H' ds vs:=VDs.mono0 x.pre (λ_ _=>Tup.ext R x) h
theorem EnvR.mono(R:Rel K m S H)(x:Ext m H m' H')(h:EnvR K m H ρ σ):EnvR K m' H' ρ σ:=
 ⟨h.len,λi d e=>let ⟨v,p,q⟩:=h.at_ i d e;⟨v,p,VD.mono R x q⟩⟩
theorem VDs.length:∀ {ds:List D} {vs:List V},VDs K m H ds vs->ds.length=vs.length
 |[],vs,h=>by rw[VDs] at h;rw[h];rfl
 |d::ds,vs,h=>by
  rw[VDs] at h;obtain⟨y,r,e,_,q⟩:=h;rw[e,ZB,ZB,VDs.length q]
theorem VDs.nil:VDs K m H [] []:=by rw[VDs]
theorem VDs.cons(h:VD K m H d v)(t:VDs K m H ds vs):VDs K m H (d::ds) (v::vs):=by rw[VDs];exact⟨v,vs,rfl,h,t⟩
theorem VDs.get:∀ {ds:List D} {vs:List V} {i:Nat} {d:D},VDs K m H ds vs->ds[i]?=some d->∃v,vs[i]?=some v/\VD K m H d v
 |[],_,_,_,_,e=>by simp at e
 |d::ds,vs,0,d',h,e=>by
  rw[VDs] at h;obtain⟨y,r,rfl,p,q⟩:=h;simp at e;subst e;exact⟨y,rfl,p⟩
 |d::ds,vs,i+1,d',h,e=>by
  rw[VDs] at h;obtain⟨y,r,rfl,p,q⟩:=h;obtain⟨v,p1,p2⟩:=VDs.get (i:=i) q (by simpa using e);exact⟨v,by simpa using p1,p2⟩
theorem VDs.append:∀ {ds es:List D} {vs ws:List V},VDs K m H ds vs->VDs K m H es ws->VDs K m H (ds++es) (vs++ws)
 |[],_,vs,_,h,t=>by rw[VDs] at h;subst h;exact t
 |d::ds,es,vs,ws,h,t=>by
  rw[VDs] at h;obtain⟨y,r,rfl,p,q⟩:=h;exact .cons p (VDs.append q t)
theorem VDs.drop:∀ {ds:List D} {vs:List V} (n:Nat),VDs K m H ds vs->VDs K m H (ds.drop n) (vs.drop n)
 |ds,vs,0,h=>h
 |[],vs,n+1,h=>by rw[VDs] at h;subst h;exact .nil
 |d::ds,vs,n+1,h=>by
  rw[VDs] at h;obtain⟨y,r,rfl,p,q⟩:=h;exact VDs.drop n q
theorem VDs.take:∀ {ds:List D} {vs:List V} (n:Nat),VDs K m H ds vs->VDs K m H (ds.take n) (vs.take n)
 |ds,vs,0,h=>by simp only[List.take_zero];exact .nil
 |[],vs,n+1,h=>by rw[VDs] at h;subst h;exact .nil
 |d::ds,vs,n+1,h=>by
  rw[VDs] at h;obtain⟨y,r,rfl,p,q⟩:=h;exact .cons p (VDs.take n q)
theorem VDs.set:∀ {ds:List D} {vs:List V} {i:Nat} {d:D} {v:V},VDs K m H ds vs->VD K m H d v->VDs K m H (ds.set i d) (vs.set i v)
 |[],vs,_,_,_,h,_=>by rw[VDs] at h;subst h;exact .nil
 |_::ds,vs,0,d,v,h,p=>by
  rw[VDs] at h;obtain⟨y,r,rfl,_,q⟩:=h;exact .cons p q
 |_::ds,vs,i+1,d,v,h,p=>by
  rw[VDs] at h;obtain⟨y,r,rfl,p',q⟩:=h;exact .cons p' (VDs.set q p)
theorem Ext.beside(R:Rel K m S H)(h:H a=none)(o:HO):Ext m H m (upd H a o):=
 ⟨Ye m,λb u e _=>by rw[az (aU e h)];exact e,λb z n=>absurd z n⟩
theorem Rel.ext_keep(R:Rel K m S H)(x:Ext m H m H')(k:∀b ∈ m,H' b=H b):Rel K m S H':=by
 refine⟨R.len,R.nd,λi o e=>?_⟩;obtain⟨b,hb,r⟩:=R.ob i o e;have hm:b ∈ m:=Zj hb;refine⟨b,hb,?_⟩;cases o with
 |lst ds=>obtain⟨vs,p,q⟩:=r;exact⟨vs,(k b hm).trans p,VDs.mono R x q⟩
 |frz ds=>obtain⟨o,vs,p,q⟩:=r;exact⟨o,vs,(k b hm).trans p,VDs.mono R x q⟩
 |dic ks ds=>obtain⟨vs,p,l,q⟩:=r;exact⟨vs,(k b hm).trans p,l,VDs.mono R x q⟩
theorem Rel.beside(R:Rel K m S H)(h:H a=none)(o:HO):Rel K m S (upd H a o):=
 R.ext_keep (Ext.beside R h o) λb hb=>az λz=>R.no h (z ▸ hb)
theorem Rel.adopt(R:Rel K m S H)(n:a ∉ m)(h:H a=some (.lst vs))(q:VDs K m H ds vs):Rel K (m++[a]) (S++[.lst ds]) H:=by
 have p:=Yv m [a];have g:∀ {es:List D} {ws:List V},VDs K m H es ws->VDs K (m++[a]) H es ws:=λz=>VDs.mono0 p (λ_ _ t=>t) z;refine⟨by simp[R.len],Y1.mpr ⟨R.nd,by simp,λx hx y hy=>by simp at hy;subst hy;exactλz=>n (z ▸ hx)⟩,λi o e=>?_⟩;by_cases hi:i < S.length
 ·rw[Zt hi] at e;obtain⟨b,hb,r⟩:=R.ob i o e;refine⟨b,kj p hb,?_⟩;cases o with
  |lst ds=>obtain⟨vs,p,q⟩:=r;exact⟨vs,p,g q⟩
  |frz ds=>obtain⟨o,vs,p,q⟩:=r;exact⟨o,vs,p,g q⟩
  |dic ks ds=>obtain⟨vs,p,l,q⟩:=r;exact⟨vs,p,l,g q⟩
 ·rw[Zp (by lia)] at e
  have hz:i - S.length=0:=by
   have:=(Zb.mp e).1;simp at this;lia
  rw[hz] at e;have e':Ob.lst ds=o:=by simpa using e
  subst e';refine⟨a,?_,vs,h,g q⟩;rw[Zp (by rw[R.len];lia),R.len,hz];rfl
theorem Ext.adopt(x:Ext m H m H')(h:H a=none):Ext m H (m++[a]) H':=
 ⟨Yv m [a],x.keep,λb hb nb=>by
  rcases ZJ.mp hb with z |z
  ·exact absurd z nb
  ·simp at z;subst z;exact h⟩
theorem Rel.write(R:Rel K m S H){i:Nat}(hi:m[i]?=some a)(q:VDs K m H ds vs):Ext m H m (upd H a (.lst vs))/\Rel K m (S.set i (.lst ds)) (upd H a (.lst vs)):=by
 have hm:a ∈ m:=Zj hi;have x:Ext m H m (upd H a (.lst vs)):=⟨Ye m,λb u e n=>by rw[az (show b ≠ a fromλz=>n (by rw[z];exact hm))];exact e,λb z n=>absurd z n⟩;refine⟨x,by simp[R.len],R.nd,λj o e=>?_⟩;rw[Yy] at e;by_cases hj:i=j
 ·subst hj;rw[if_pos rfl] at e;split at e
  ·have e':=Option.some.inj e;subst e';exact⟨a,hi,vs,aV,VDs.mono R x q⟩
  ·cases e
 ·rw[if_neg hj] at e;obtain⟨b,hb,r⟩:=R.ob j o e
  have ne:b ≠ a:=λz=>by
   subst z;have h1:=Zb.mp hi;have h2:=Zb.mp hb;exact hj ((YJ R.nd).mp (h1.2.trans h2.2.symm))
  refine⟨b,hb,?_⟩;cases o with
  |lst es=>obtain⟨ws,p,q⟩:=r;exact⟨ws,by rw[az ne];exact p,VDs.mono R x q⟩
  |frz es=>obtain⟨o,ws,p,q⟩:=r;exact⟨o,ws,by rw[az ne];exact p,VDs.mono R x q⟩
  |dic ks es=>obtain⟨ws,p,l,q⟩:=r;exact⟨ws,by rw[az ne];exact p,l,VDs.mono R x q⟩
theorem Rel.lst(R:Rel K m S H){i:Nat}(e:S[i]?=some (.lst ds)):∃a vs,m[i]?=some a/\H a=some (.lst vs)/\VDs K m H ds vs:=by
 obtain⟨a,ha,vs,p,q⟩:=R.ob i _ e;exact⟨a,vs,ha,p,q⟩
end
abbrev au(S:Sto)(n:Nat):Option (List D):=match S[n]? with
 |some (.lst ds)=>some ds
 |some (.frz ds)=>some ds
 |_=>none
theorem Rel.seq{K:Vf}{m:List Addr}{S:Sto}{H:Hp}(R:Rel K m S H){i:Nat}{ds:List D}(e:au S i=some ds):∃a vs,m[i]?=some a/\SqL K H a vs/\VDs K m H ds vs:=by
 unfold au at e;cases h:S[i]? with
 |none=>rw[h] at e;cases e
 |some o=>
  rw[h] at e;cases o with
  |lst es=>cases e;obtain⟨a,ha,vs,p,q⟩:=R.ob i _ h;exact⟨a,vs,ha,.inl (.inl p),q⟩
  |frz es=>cases e;obtain⟨a,ha,o,vs,p,q⟩:=R.ob i _ h;exact⟨a,vs,ha,.inl (.inr ⟨o,p⟩),q⟩
  |dic ks es=>cases e
@[inline]abbrev XE:=Rho->Sto->Option (D × Sto)
@[inline]abbrev XT:=Rho->Sto->Option (Bool × Sto)
@[inline]abbrev XA:=Rho->Sto->Option (List D × Sto)
def bnd{α β:Type}(x:Option (α × Sto))(f:α->Sto->Option (β × Sto)):Option (β × Sto):=match x with
 |none=>none
 |some (a,S)=>f a S
theorem ae{α β:Type}{x:Option (α × Sto)}{f:α->Sto->Option (β × Sto)}{r:β × Sto}(h:bnd x f=some r):∃a S,x=some (a,S)/\f a S=some r:=by
 unfold bnd at h;cases x with
 |none=>cases h
 |some p=>exact⟨p.1,p.2,rfl,h⟩
structure Aft(K:Vf)(m:List Addr)(H:Hp)(S':Sto)(m':List Addr)(H':Hp):Prop where
 ext:Ext m H m' H'
 rel:Rel K m' S' H'
def tE(K:Vf)(x:XE):TE:=λσ H Q=>∃m ρ S d S',EnvR K m H ρ σ/\Rel K m S H/\x ρ S=some (d,S')/\∀m' H' v,Aft K m H S' m' H'->VD K m' H' d v->Q v H'
def tT(K:Vf)(x:XT):TT:=λσ H Q=>∃m ρ S b S',EnvR K m H ρ σ/\Rel K m S H/\x ρ S=some (b,S')/\∀m' H',Aft K m H S' m' H'->Q b H'
def tAr(K:Vf)(x:XA):TA:=λσ H Q=>∃m ρ S ds S',EnvR K m H ρ σ/\Rel K m S H/\x ρ S=some (ds,S')/\∀m' H' vs,Aft K m H S' m' H'->VDs K m' H' ds vs->Q vs H'
def SqB(K:Vf)(tu:Bool)(H:Hp)(a:Addr)(vs:List V):Prop:=if tu=true then H a=some (.tup vs) else SqL K H a vs
def eW(K:Vf)(x:XA):TE:=λσ H Q=>∃m ρ S ds S',EnvR K m H ρ σ/\Rel K m S H/\x ρ S=some (ds,S')/\∀m' H' a vs,Aft K m H S' m' H'->H' a=some (.lst vs)->a ∉ m'->(∀b,b ∈ m->b ≠ a)->H a=none->VDs K m' H' ds vs->Q (.ref a) H'
section
variable {X:Cx} {e:Expr} {K:Vf} {m m1 m2:List Addr} {H H1 H2:Hp} {S S1 S2:Sto}
theorem PE.imp(h:PE X e t)(f:∀σ H Q,t' σ H Q->t σ H Q):PE X e t':=λpins s σ H Q I q=>h pins s σ H Q I (f σ H Q q)
theorem PT.imp(h:PT X e t)(f:∀σ H Q,t' σ H Q->t σ H Q):PT X e t':=λpins s σ H Q I q=>h pins s σ H Q I (f σ H Q q)
theorem PA.imp(h:PA X es t)(f:∀σ H Q,t' σ H Q->t σ H Q):PA X es t':=λp pins s σ H Q I q=>h p pins s σ H Q I (f σ H Q q)
theorem PS.imp{st:Stmt}{t t':TS}(h:PS X st t)(f:∀D σ H,t' D σ H->t D σ H):PS X st t':=λpins s σ H D I q=>h pins s σ H D I (f D σ H q)
theorem PSs.imp{st:List Stmt}{t t':TS}(h:PSs X st t)(f:∀D σ H,t' D σ H->t D σ H):PSs X st t':=λpins s σ H D I q=>h pins s σ H D I (f D σ H q)
theorem PI.imp(h:PI X tg it t)(f:∀σ H Q,t' σ H Q->t σ H Q):PI X tg it t':=λpins s σ H Q I q=>h pins s σ H Q I (f σ H Q q)
theorem PI.or(h:PI X tg it t)(h':PI X tg it t'):PI X tg it (λσ H Q=>t σ H Q\/t' σ H Q):=λpins s σ H Q I q=>q.elim (h pins s σ H Q I) (h' pins s σ H Q I)
theorem OpR.imp(h:OpR X f r)(g:∀x y H Q,r' x y H Q->r x y H Q):OpR X f r':=λpins s σ H x y v u Q I rx ry q=>h pins s σ H x y v u Q I rx ry (g _ _ _ _ q)
theorem OpR.or(h:OpR X f r)(h':OpR X f r'):OpR X f (λx y H Q=>r x y H Q\/r' x y H Q):=λpins s σ H x y v u Q I rx ry q=>
 q.elim (h pins s σ H x y v u Q I rx ry) (h' pins s σ H x y v u Q I rx ry)
theorem aX.imp(h:aX X f r)(g:∀x H Q,r' x H Q->r x H Q):aX X f r':=λpins s σ H xs us Q I rx q=>h pins s σ H xs us Q I rx (g _ _ _ q)
theorem aX.or(h:aX X f r)(h':aX X f r'):aX X f (λx H Q=>r x H Q\/r' x H Q):=λpins s σ H xs us Q I rx q=>
 q.elim (h pins s σ H xs us Q I rx) (h' pins s σ H xs us Q I rx)
theorem Aft.refl(R:Rel K m S H):Aft K m H S m H:=⟨Ext.refl m H,R⟩
theorem Aft.trans(x:Aft K m H S1 m1 H1)(y:Aft K m1 H1 S2 m2 H2):Aft K m H S2 m2 H2:=⟨x.ext.trans y.ext,y.rel⟩
def rS(K:Vf)(f:D->D->Sto->Option (D × Sto)):R2:=λv w H Q=>∃m S a b d S',Rel K m S H/\VD K m H a v/\VD K m H b w/\f a b S=some (d,S')/\∀m' H' u,Aft K m H S' m' H'->VD K m' H' d u->Q u H'
def rS1(K:Vf)(f:D->Sto->Option (D × Sto)):V->Hp->VK->Prop:=λv H Q=>∃m S a d S',Rel K m S H/\VD K m H a v/\f a S=some (d,S')/\∀m' H' u,Aft K m H S' m' H'->VD K m' H' d u->Q u H'
def rSA(K:Vf)(f:List D->Sto->Option (D × Sto)):List V->Hp->VK->Prop:=λvs H Q=>∃m S as d S',Rel K m S H/\VDs K m H as vs/\f as S=some (d,S')/\∀m' H' u,Aft K m H S' m' H'->VD K m' H' d u->Q u H'
def rSq(K:Vf)(f:Bool->List D->Sto->Option (D × Sto)):V->Hp->VK->Prop:=λv H Q=>∃m S tu ds a vs d S',Rel K m S H/\v = .ref a/\SqB K tu H a vs/\VDs K m H ds vs/\f tu ds S=some (d,S')/\∀m' H' u,Aft K m H S' m' H'->VD K m' H' d u->Q u H'
abbrev qD(f:D->D->Sto->Option (D × Sto))(x y:XE):XE:=λρ S=>bnd (x ρ S) λa S1=>bnd (y ρ S1) λb S2=>f a b S2
abbrev xUn(f:D->Sto->Option (D × Sto))(x:XE):XE:=λρ S=>bnd (x ρ S) λa S1=>f a S1
abbrev j9(f:List D->Sto->Option (D × Sto))(x:XA):XE:=λρ S=>bnd (x ρ S) λa S1=>f a S1
abbrev qE(f:Bool->List D->Sto->Option (D × Sto))(x:XA):XE:=λρ S=>bnd (x ρ S) λds S1=>f false ds S1
abbrev ao(d:D)(S:Sto):Option (Bool × List D):=match d with
 |.tup ds=>some (true,ds)
 |.ref n=>(au S n).map λds=>(false,ds)
 |_=>none
abbrev am(f:Bool->List D->Sto->Option (D × Sto))(d:D)(S:Sto):Option (D × Sto):=match ao d S with
 |some r=>f r.1 r.2 S
 |none=>none
abbrev qF(f:Bool->List D->Sto->Option (D × Sto))(x:XE):XE:=λρ S=>bnd (x ρ S) λd S1=>am f d S1
theorem oV{f:D->D->Sto->Option (D × Sto)}{x y:XE}{σ:L2.St}{H:Hp}{Q:VK}(h:tE K (qD f x y) σ H Q):tOp (rS K f) (tE K x) (tE K y) σ H Q:=by
 obtain⟨m,ρ,S,d,S',E,R,e,q⟩:=h;obtain⟨a,S1,e1,e⟩:=ae e;obtain⟨b,S2,e2,e⟩:=ae e;refine⟨m,ρ,S,a,S1,E,R,e1,λm1 H1 v A1 va=>⟨m1,ρ,S1,b,S2,E.mono R A1.ext,A1.rel,e2,λm2 H2 w A2 vb=>?_⟩⟩;exact⟨m2,S2,a,b,d,S',A2.rel,va.mono A1.rel A2.ext,vb,e,λm3 H3 u A3 vd=>q m3 H3 u ((A1.trans A2).trans A3) vd⟩
theorem vE{f:D->Sto->Option (D × Sto)}{x:XE}{σ:L2.St}{H:Hp}{Q:VK}(h:tE K (xUn f x) σ H Q):tUn (rS1 K f) (tE K x) σ H Q:=by
 obtain⟨m,ρ,S,d,S',E,R,e,q⟩:=h;obtain⟨a,S1,e1,e⟩:=ae e;exact⟨m,ρ,S,a,S1,E,R,e1,λm1 H1 v A1 va=>⟨m1,S1,a,d,S',A1.rel,va,e,λm3 H3 u A3 vd=>q m3 H3 u (A1.trans A3) vd⟩⟩
theorem zD{f:List D->Sto->Option (D × Sto)}{x:XA}{σ:L2.St}{H:Hp}{Q:VK}(h:tE K (j9 f x) σ H Q):tCB (rSA K f) (tAr K x) σ H Q:=by
 obtain⟨m,ρ,S,d,S',E,R,e,q⟩:=h;obtain⟨a,S1,e1,e⟩:=ae e;exact⟨m,ρ,S,a,S1,E,R,e1,λm1 H1 v A1 va=>⟨m1,S1,a,d,S',A1.rel,va,e,λm3 H3 u A3 vd=>q m3 H3 u (A1.trans A3) vd⟩⟩
theorem IK{f:Bool->List D->Sto->Option (D × Sto)}{x:XA}{σ:L2.St}{H:Hp}{Q:VK}(h:tE K (qE f x) σ H Q):tUn (rSq K f) (eW K x) σ H Q:=by
 obtain⟨m,ρ,S,d,S',E,R,e,q⟩:=h;obtain⟨ds,S1,e1,e⟩:=ae e;exact⟨m,ρ,S,ds,S1,E,R,e1,λm1 H1 a vs A1 sq _ _ _ vd=>⟨m1,S1,false,ds,a,vs,d,S',A1.rel,rfl,show SqL K H1 a vs from SqL.of sq,vd,e,λm3 H3 u A3 vd=>q m3 H3 u (A1.trans A3) vd⟩⟩
abbrev xt(i:Nat):XE:=λρ S=>match ρ[i]? with
 |some (some d)=>some (d,S)
 |_=>none
abbrev xC(d:D):XE:=λ_ S=>some (d,S)
theorem IM{i:Nat}(h:tE K (xt i) σ H Q):CN i σ H Q:=by
 obtain⟨m,ρ,S,d,S',E,R,e,q⟩:=h;unfold xt at e;cases hr:ρ[i]? with
 |none=>rw[hr] at e;cases e
 |some o=>
  rw[hr] at e;cases o with
  |none=>cases e
  |some d'=>
   cases e;obtain⟨v,e1,vd⟩:=E.at_ i d hr;exact⟨v,e1,q m H v (Aft.refl R) vd⟩
theorem zE(hv:∀m H,VD K m H d v)(h:tE K (xC d) σ H Q):tC v σ H Q:=by
 obtain⟨m,ρ,S,d',S',E,R,e,q⟩:=h;cases e;exact q m H v (Aft.refl R) (hv m H)
theorem oW:VD K m H .non .non:=by rw[VD]
theorem bN:VD K m H (.bl b) (.bl b):=by rw[VD]
theorem bq{i:Int}:VD K m H (.int i) (.int i):=by rw[VD]
theorem jq:VD K m H (.str x) (.str x):=by rw[VD]
theorem oX(h:H a=some (.tup vs))(q:VDs K m H ds vs):VD K m H (.tup ds) (.ref a):=by rw[VD];exact⟨a,vs,rfl,h,q⟩
theorem VD.ints{i:Int}(h:VD K m H (.int i) v):v = .int i:=by rw[VD] at h;exact h
theorem VD.bls(h:VD K m H (.bl i) v):v = .bl i:=by rw[VD] at h;exact h
theorem VD.strs(h:VD K m H (.str i) v):v = .str i:=by rw[VD] at h;exact h
theorem VD.nons(h:VD K m H .non v):v = .non:=by rw[VD] at h;exact h
theorem VD.tups(h:VD K m H (.tup ds) v):∃a vs,v = .ref a/\H a=some (.tup vs)/\VDs K m H ds vs:=by rw[VD] at h;exact h
theorem VD.refs{n:Nat}(h:VD K m H (.ref n) v):∃a,m[n]?=some a/\v = .ref a:=by rw[VD] at h;exact h
abbrev Dz:XA:=λ_ S=>some ([],S)
abbrev vF(x:XE)(y:XA):XA:=λρ S=>bnd (x ρ S) λa S1=>bnd (y ρ S1) λas S2=>some (a::as,S2)
theorem IP(h:tAr K Dz σ H Q):jk σ H Q:=by
 obtain⟨m,ρ,S,d',S',E,R,e,q⟩:=h;cases e;exact q m H [] (Aft.refl R) .nil
theorem DA{x:XE}{y:XA}{σ:L2.St}{H:Hp}{Q:List V->Hp->Prop}(h:tAr K (vF x y) σ H Q):cS (tE K x) (tAr K y) σ H Q:=by
 obtain⟨m,ρ,S,d',S',E,R,e,q⟩:=h;obtain⟨a,S1,e1,e⟩:=ae e;obtain⟨b,S2,e2,e⟩:=ae e;cases e;refine⟨m,ρ,S,a,S1,E,R,e1,λm1 H1 v A1 va=>⟨m1,ρ,S1,b,_,E.mono R A1.ext,A1.rel,e2,λm2 H2 w A2 vb=>?_⟩⟩;exact q m2 H2 _ (A1.trans A2) (.cons (va.mono A1.rel A2.ext) vb)
abbrev ka(ds:List D)(S:Sto):Option (D × Sto):=if ds.length<=1000 then some (.tup ds,S) else none
theorem kZ{n:Nat}(h:n<=1000):n<=sizeLine:=by rw[Uk];lia
theorem iT{ds:List D}{vs:List V}{Q:VK}(R:Rel K m S H)(vd:VDs K m H ds vs)(q:∀m' H' u,Aft K m H S m' H'->VD K m' H' (.tup ds) u->Q u H'):∀p,H p=none->Q (.ref p) (upd H p (.tup vs)):=λp hp=>
 q m _ _ ⟨Ext.beside R hp _,R.beside hp _⟩ (oX aV (vd.mono R (Ext.beside R hp _)))
theorem oY{ds:List D}{vs:List V}{Q:VK}(R:Rel K m S H)(vd:VDs K m H ds vs)(q:∀m' H' u,Aft K m H (S++[.lst ds]) m' H'->VD K m' H' (.ref S.length) u->Q u H'):∀p,H p=none->Q (.ref p) (upd H p (.lst vs)):=λp hp=>by
 have x:=Ext.beside R hp (.lst vs);refine q (m++[p]) _ _ ⟨x.adopt hp,(R.beside hp _).adopt (R.no hp) aV (vd.mono R x)⟩ ?_;rw[VD];exact⟨p,by rw[Zp (by rw[R.len];exact Zg _),R.len,Yj];rfl,rfl⟩
theorem iU{ds:List D}{vs:List V}{Q:VK}(R:Rel K m S H)(vd:VDs K m H ds vs)(q:∀m' H' a vs,Aft K m H S m' H'->H' a=some (.lst vs)->a ∉ m'->(∀b,b ∈ m->b ≠ a)->H a=none->VDs K m' H' ds vs->Q (.ref a) H'):∀p,H p=none->Q (.ref p) (upd H p (.lst vs)):=λp hp=>
 q m _ _ _ ⟨Ext.beside R hp _,R.beside hp _⟩ aV (R.no hp) (λb hb z=>R.no hp (z ▸ hb)) hp (vd.mono R (Ext.beside R hp _))
theorem IQ{x:XA}{σ:L2.St}{H:Hp}{Q:VK}(h:tE K (j9 ka x) σ H Q):MY (tAr K x) σ H Q:=by
 obtain⟨m,ρ,S,d',S',E,R,e,q⟩:=h;obtain⟨a,S1,e1,e⟩:=ae e;unfold ka at e;split at e
 ·rename_i hl;cases e;exact⟨m,ρ,S,a,_,E,R,e1,λm1 H1 vs A1 va=>⟨kZ (by rw[<-va.length];exact hl),iT A1.rel va λm' H' u A2 vu=>q m' H' u (A1.trans A2) vu⟩⟩
 ·cases e
abbrev nz(x:XA):XA:=λρ S=>bnd (x ρ S) λds S1=>if ds.length<=1000 then some (ds,S1) else none
theorem DB{x:XA}{σ:L2.St}{H:Hp}{Q:VK}(h:eW K (nz x) σ H Q):MZ (tAr K x) σ H Q:=by
 obtain⟨m,ρ,S,ds,S',E,R,e,q⟩:=h;obtain⟨a,S1,e1,e⟩:=ae e;split at e
 ·rename_i hl;cases e;refine⟨m,ρ,S,_,_,E,R,e1,λm1 H1 vs A1 va=>⟨kZ (by rw[<-va.length];exact hl),iU A1.rel va λm' H' u us A2 sq n1 n2 n3 vu=>?_⟩⟩
  have hn:H u=none:=by
   cases e:H u with
   |none=>rfl
   |some o=>
    by_cases hm:u ∈ m
    ·exact absurd rfl (n2 u (A1.ext.pre.subset hm))
    ·have:=A1.ext.keep u o e hm;rw[this] at n3;cases n3
  exact q m' H' u us (A1.trans A2) sq n1 (λb hb=>n2 b (A1.ext.pre.subset hb)) hn vu
 ·cases e
theorem eJ{d:D}{v:V}{tu:Bool}{ds:List D}(R:Rel K m S H)(vd:VD K m H d v)(e:ao d S=some (tu,ds)):∃a vs,v = .ref a/\SqB K tu H a vs/\VDs K m H ds vs:=by
 unfold ao at e;cases d with
 |tup es=>
  cases e;obtain⟨a,vs,e,q,r⟩:=vd.tups;exact⟨a,vs,e,q,r⟩
 |ref n=>
  obtain⟨a,ha,ev⟩:=vd.refs;cases hs:au S n with
  |none=>simp[hs] at e
  |some es=>
   simp[hs] at e;obtain⟨rfl,rfl⟩:=e;obtain⟨b,vs,hb,q,r⟩:=R.seq hs;rw[ha] at hb;cases hb;exact⟨a,vs,ev,q,r⟩
 |_=>cases e
theorem IR{f:Bool->List D->Sto->Option (D × Sto)}{x:XE}{σ:L2.St}{H:Hp}{Q:VK}(h:tE K (qF f x) σ H Q):tUn (rSq K f) (tE K x) σ H Q:=by
 obtain⟨m,ρ,S,d,S',E,R,e,q⟩:=h;obtain⟨a,S1,e1,e⟩:=ae e;refine⟨m,ρ,S,a,S1,E,R,e1,λm1 H1 v A1 va=>?_⟩;unfold am at e;split at e
 ·rename_i r hi;obtain⟨b,vs,ev,sq,vds⟩:=eJ (tu:=r.1) (ds:=r.2) A1.rel va hi;exact⟨m1,S1,r.1,r.2,b,vs,d,S',A1.rel,ev,sq,vds,e,λm3 H3 u A3 vd=>q m3 H3 u (A1.trans A3) vd⟩
 ·cases e
abbrev dW(x:XA):XE:=λρ S=>bnd (x ρ S) λds S1=>some (.ref S1.length,S1++[.lst ds])
theorem qG{x:XA}{σ:L2.St}{H:Hp}{Q:VK}(h:tE K (dW x) σ H Q):eW K x σ H Q:=by
 obtain⟨m,ρ,S,d,S',E,R,e,q⟩:=h;obtain⟨ds,S1,e1,e⟩:=ae e;cases e;refine⟨m,ρ,S,ds,S1,E,R,e1,λm1 H1 a vs A1 sq n1 n2 n3 vd=>?_⟩;refine q (m1++[a]) H1 _ ⟨⟨A1.ext.pre.trans (Yv _ _),A1.ext.keep,λb hb nb=>?_⟩,A1.rel.adopt n1 sq vd⟩ ?_
 ·rcases ZJ.mp hb with z |z
  ·exact A1.ext.new b z nb
  ·simp at z;subst z;exact n3
 ·rw[VD];exact⟨a,by rw[Zp (by rw[A1.rel.len];exact Zg _),A1.rel.len,Yj];rfl,rfl⟩
end
end Ev
namespace PySem.SeqAt
open AutoSeq1 (wpAny_loadPart')
open MeetsSeq MeetsSeq2 MeetsSeq3
theorem tf(l b:Addr)(items:Array Value)(n:Nat)(dd:Option Addr)(sl:Array (Option Value))(o:Obj)(hc:o.cls = .type "dict") :
  Meets (Builtin.«list.__ne__» ⟨[.ref l,.ref b],[]⟩) (λ_ R s=>s.heap.get? l=some { cls:=.type "list", dict:=dd,data:=.seq items n,slots:=sl }/\s.heap.get? b=some o/\R (.ok (.ret .notImplemented)) s):=
 .of_wp λprog w A R s h=>by
  obtain⟨hp,g,d,tk,os⟩:=s;obtain⟨hl,hb,h⟩:=h;obtain⟨cls,d2,dt,s2⟩:=o;simp only at hc;subst hc;have f1:=F.sub_dict_list
  wp_walk using UK hl,UK hb
  exact⟨_,rfl,h⟩
theorem tj(l b:Addr)(items:Array Value)(n:Nat)(dd:Option Addr)(sl:Array (Option Value))(o:Obj)(hc:o.cls = .type "dict") :
  Meets (Builtin.«dict.__ne__» ⟨[.ref b,.ref l],[]⟩) (λ_ R s=>s.heap.get? l=some { cls:=.type "list", dict:=dd,data:=.seq items n,slots:=sl }/\s.heap.get? b=some o/\R (.ok (.ret .notImplemented)) s):=
 .of_wp λprog w A R s h=>by
  obtain⟨hp,g,d,tk,os⟩:=s;obtain⟨hl,hb,h⟩:=h;obtain⟨cls,d2,dt,s2⟩:=o;simp only at hc;subst hc;have f1:=F.sub_list_dict
  wp_walk using UK hl,UK hb
  exact⟨_,rfl,h⟩
theorem dict_list(hb:s.heap.get? b=some o)(hc2:o.cls = .type "dict")(hl:s.heap.IsList l items)(hu:A.units < cLine):RcNeAt A s (.ref b) (.ref l) true:=λprog w E Q h=>by
 obtain⟨⟨cls,dd,data,sl⟩,ho,hc,n,hd⟩:=id hl;simp only at hc hd;subst hc hd;have hne:b ≠ l:=λe=>by subst e;rw[ho] at hb;cases hb;exact absurd hc2 (by simp)
 exact(rc_ne_decline_or (k:=false) ⟨_,hb,hc2⟩ ⟨_,ho,rfl⟩ (by decide) F.sub_list_dict F.slot_dict_ne WJ
  (λ_ hq=>VM F.slot_dict_ne ⟨_,hb,hc2⟩ F.entry_dict_ne (F.args_dict_ne_2 _ _) (tj l b items n dd sl o hc2) ⟨ho,hb,hq⟩)
  (λ_ hq=>VM WJ ⟨_,ho,rfl⟩ F.entry_list_ne (F.args_list_ne_2 _ _) (tf l b items n dd sl o hc2) ⟨ho,hb,hq⟩)
  (λ_ hq=>wpAny_isSame_ref_other' hne hb ho (by simp) hq) (.inr hu) h)
end PySem.SeqAt
namespace Ev
open PySem PySem.Spec PyProof.Rows L2
abbrev eqL(f:D->D->Option Bool):List D->List D->Option Bool
 |[],[]=>some true
 |[],_::_=>some false
 |_::_,[]=>some false
 |x::xs,y::ys=>match f x y,eqL f xs ys with
  |some a,some b=>some (a && b)
  |_,_=>none
abbrev eqD:Nat->Sto->D->D->Option Bool
 |0,_,_,_=>none
 |n+1,S,x,y=>match x,y with
  |.non,.non=>some true
  |.bl a,.bl b=>some (a == b)
  |.int a,.int b=>some (a == b)
  |.str a,.str b=>some (a == b)
  |.bl a,.int b=>some ((if a then 1 else 0) == b)
  |.int a,.bl b=>some (a == (if b then 1 else 0))
  |.tup xs,.tup ys=>eqL (eqD n S) xs ys
  |.ref a,.ref b=>match au S a,au S b with
   |some xs,some ys=>if a=b then some true else if xs.length=ys.length then eqL (eqD n S) xs ys else some false
   |_,_=>none
  |.tup _,.ref b=>match au S b with
   |some _=>some false
   |none=>none
  |.ref a,.tup _=>match au S a with
   |some _=>some false
   |none=>none
  |.ref a,_=>match au S a with
   |some _=>some false
   |none=>none
  |_,.ref a=>match au S a with
   |some _=>some false
   |none=>none
  |_,_=>some false
section
variable {X:Cx} {K:Vf} {m:List Addr} {H:Hp} {S:Sto}
theorem qH:∀ {xs ys:List D} {b:Bool},eqL f xs ys=some b->∃g:Nat->Bool,(∀j x y,xs[j]?=some x->ys[j]?=some y->f x y=some (g j))/\b=((Zk (min xs.length ys.length)).all g && xs.length == ys.length)
 |[],[],b,h=>by simp[eqL] at h;exact⟨λ_=>true,λj x y e=>by simp at e,by simp[<-h]⟩
 |[],_::_,b,h=>by simp[eqL] at h;exact⟨λ_=>true,λj x y e=>by simp at e,by simp[<-h]⟩
 |_::_,[],b,h=>by simp[eqL] at h;exact⟨λ_=>true,λj x y _ e=>by simp at e,by simp[<-h]⟩
 |x::xs,y::ys,b,h=>by
  simp only[eqL] at h;cases h1:f x y with
  |none=>simp[h1] at h
  |some a=>
   cases h2:eqL f xs ys with
   |none=>simp[h1,h2] at h
   |some c=>
    simp[h1,h2] at h;obtain⟨g,hg,hc⟩:=qH h2;refine⟨λj=>match j with |0=>a |j+1=>g j,λj x' y' e1 e2=>?_,?_⟩
    ·cases j with
     |zero=>simp at e1 e2;subst e1 e2;exact h1
     |succ j=>simp at e1 e2;exact hg j x' y' e1 e2
    ·rw[<-h,hc];simp only[ZB,Nat.succ_min_succ,List.range_succ_eq_map,Z4,Yh];rw[Bool.and_assoc]
     congr 1
     rw[show(xs.length+1 == ys.length+1)=(xs.length == ys.length) by simp];rfl
theorem DC(I:Inv X pins σ H s)(h1:H a=some (.tup xs))(h2:H a=some (.tup ys)):xs=ys:=by
 rw[h1] at h2;cases h2;rfl
theorem xu(nd:m.Nodup){i j:Nat}(h1:m[i]?=some a)(h2:m[j]?=some a):i=j:=by
 obtain⟨p1,q1⟩:=Zb.mp h1;obtain⟨p2,q2⟩:=Zb.mp h2;exact(YJ nd).mp (q1.trans q2.symm)
theorem qI(I:Inv X pins σ H s)(R:Rel X.K m S H):∀ (n:Nat) {x y:D} {v:V} {b:Bool},VD X.K m H x v->VD X.K m H y v->eqD n S x y=some b->b=true
 |0,_,_,_,_,_,_,h=>by simp[eqD] at h
 |n+1,x,y,v,b,h1,h2,h=>by
  have lists:∀ {xs ys:List D} {vs:List V} {b:Bool},VDs X.K m H xs vs->VDs X.K m H ys vs->eqL (eqD n S) xs ys=some b->b=true:=by
   intro xs
   induction xs with
   |nil=>
    intro ys vs b p q e;have l1:=p.length;have l2:=q.length;cases ys with
    |nil=>simp[eqL] at e;simp_all
    |cons _ _=>simp at l1 l2;lia
   |cons x xs ih=>
    intro ys vs b p q e;have l1:=p.length;have l2:=q.length;cases ys with
    |nil=>simp at l1 l2;lia
    |cons y ys=>
     rw[VDs] at p q;obtain⟨a,r,e1,p1,p2⟩:=p;obtain⟨a',r',e2,q1,q2⟩:=q;rw[e1] at e2;cases e2;simp only[eqL] at e;cases f1:eqD n S x y with
     |none=>simp[f1] at e
     |some c=>
      cases f2:eqL (eqD n S) xs ys with
      |none=>simp[f1,f2] at e
      |some d=>
       simp[f1,f2] at e;rw[<-e,qI I R n p1 q1 f1,ih p2 q2 f2];rfl
  cases x with
  |non=>cases h1.nons;cases y <;> simp[VD] at h2 <;> simp[eqD] at h <;> simp[h]
  |bl a=>cases h1.bls;cases y <;> simp[VD] at h2 <;> simp[eqD] at h <;> simp_all
  |int a=>cases h1.ints;cases y <;> simp[VD] at h2 <;> simp[eqD] at h <;> simp_all
  |str a=>cases h1.strs;cases y <;> simp[VD] at h2 <;> simp[eqD] at h <;> simp_all
  |tup xs=>
   obtain⟨a,vs,e,sq,p⟩:=h1.tups;subst e;cases y with
   |tup ys=>
    obtain⟨a',vs',e',sq',q⟩:=h2.tups;cases e';have:=DC I sq sq';subst this;simp only[eqD] at h;exact lists p q h
   |ref k=>
    obtain⟨a',ha,e'⟩:=h2.refs;cases e';have z:a ∈ m:=Zj ha;exact absurd z (R.notTup sq)
   |non=>cases h2.nons
   |bl _=>cases h2.bls
   |int _=>cases h2.ints
   |str _=>cases h2.strs
  |ref k=>
   obtain⟨a,ha,e⟩:=h1.refs;subst e;cases y with
   |ref k'=>
    obtain⟨a',ha',e'⟩:=h2.refs;cases e';have:=xu R.nd ha ha';subst this;simp only[eqD] at h;cases hs:au S k with
    |none=>rw[hs] at h;cases h
    |some es=>rw[hs] at h;simp at h;exact h.symm ▸ rfl
   |tup ys=>
    obtain⟨a',vs',e',sq,q⟩:=h2.tups;cases e';have z:a ∈ m:=Zj ha;exact absurd z (R.notTup sq)
   |non=>cases h2.nons
   |bl _=>cases h2.bls
   |int _=>cases h2.ints
   |str _=>cases h2.strs
theorem oZ(p:VDs K m H xs vs)(r:aO vs its){j:Nat}(hj:j < its.toArray.size):∃x v,xs[j]?=some x/\VD K m H x v/\aI v its.toArray[j]:=by
 have hj':j < its.length:=by simpa using hj
 have l1:=p.length;have l2:=r.length;obtain⟨v,hv,vd⟩:=p.get (i:=j) (d:=xs[j]'(by lia)) (gEG _);obtain⟨u,hu,ru⟩:=r.get hv;refine⟨_,v,gEG (by lia),vd,?_⟩;have e:its[j]?=some its[j]:=gEG hj';rw[e] at hu;cases hu
 simpa using ru
@[inline]abbrev IS(X:Cx)(m:List Addr)(H:Hp)(S:Sto)(s:Shared)(n:Nat):Prop:=∀ (A:Around) (x y:D) (v w:V) (u u':Value) (b:Bool),VD X.K m H x v->VD X.K m H y w->aI v u->aI w u'->eqD n S x y=some b->A.units+n < cLine->W6 A s u u' b
theorem qJ{pins:List (Addr × Obj)}{σ:L2.St}{s:Shared}{n:Nat}(ih:IS X m H S s n){A:Around}{xs ys:List D}{vs ws:List V}{i1 i2:List Value}{b:Bool}(p:VDs X.K m H xs vs)(q:VDs X.K m H ys ws)(r1:aO vs i1)(r2:aO ws i2)
  (h:eqL (eqD n S) xs ys=some b) (hu:A.units+(n+1) < cLine):∃g:Nat->Bool,(∀j (h1:j < i1.toArray.size) (h2:j < i2.toArray.size),W6 A.in1 s i1.toArray[j] i2.toArray[j] (g j))/\b=((Zk (min i1.toArray.size i2.toArray.size)).all g && i1.toArray.size == i2.toArray.size):=by
 obtain⟨g,hg,hb⟩:=qH h;have l1:i1.toArray.size=xs.length:=by rw[Zl,<-r1.length,<-p.length]
 have l2:i2.toArray.size=ys.length:=by rw[Zl,<-r2.length,<-q.length]
 refine⟨g,λj h1 h2=>?_,by rw[hb,l1,l2]⟩;obtain⟨x,v,e1,v1,ru1⟩:=oZ p r1 h1;obtain⟨y,w,e2,v2,ru2⟩:=oZ q r2 h2;exact ih _ _ _ _ _ _ _ _ v1 v2 ru1 ru2 (hg j x y e1 e2) (by show A.units+1+n < cLine;lia)
theorem zF{n:Nat}:(Zk n).all (λ_=>true)=true:=by simp
theorem zG{pins:List (Addr × Obj)}{σ:L2.St}{s:Shared}(I:Inv X pins σ H s)(R:Rel X.K m S H){n:Nat}(ih:IS X m H S s n){A:Around}{x y:D}{a a':Addr}{b:Bool}(hx:VD X.K m H x (.ref a))(hy:VD X.K m H y (.ref a'))(h:eqD (n+1) S x y=some b)(hu:A.units+(n+1) < cLine) :
  W7 A s (.ref a) (.ref a') b/\W8 A s (.ref a) (.ref a') (!b):=by
 have hu0:A.units < cLine:=by lia
 cases x with
 |non=>cases hx.nons
 |bl _=>cases hx.bls
 |int _=>cases hx.ints
 |str _=>cases hx.strs
 |tup xs=>
  obtain⟨_,vs,e,sq,p⟩:=hx.tups;cases e;obtain⟨i1,r1,t1,_⟩:=I.tuple (.of sq);cases y with
  |non=>cases hy.nons
  |bl _=>cases hy.bls
  |int _=>cases hy.ints
  |str _=>cases hy.strs
  |tup ys=>
   obtain⟨_,ws,e,sq',q⟩:=hy.tups;cases e;obtain⟨i2,r2,t2,_⟩:=I.tuple (.of sq');simp only[eqD] at h;obtain⟨g,hg,hb⟩:=qJ (pins:=pins) (σ:=σ) ih p q r1 r2 h hu;rw[hb];exact⟨SeqAt.RcAt.tuples t1 t2 hu0 hg,PySem.SeqAt.RcNeAt.tuples t1 t2 hu0 hg⟩
  |ref k=>
   simp only[eqD] at h;cases hs:au S k with
   |none=>rw[hs] at h;cases h
   |some es=>
    rw[hs] at h;cases h;obtain⟨b',ws,hb,sq',q⟩:=R.seq hs;obtain⟨c,hc,ec⟩:=hy.refs;cases ec;rw[hb] at hc;cases hc;obtain⟨i2,r2,t2,_⟩:=I.list sq';exact⟨SeqAt.RcAt.tuple_list t1 t2.isList hu0,PySem.SeqAt.RcNeAt.tuple_list t1 t2.isList hu0⟩
 |ref k=>
  obtain⟨c,hc,ec⟩:=hx.refs;cases ec;cases y with
  |non=>cases hy.nons
  |bl _=>cases hy.bls
  |int _=>cases hy.ints
  |str _=>cases hy.strs
  |tup ys=>
   obtain⟨_,ws,e,sq',q⟩:=hy.tups;cases e;obtain⟨i2,r2,t2,_⟩:=I.tuple (.of sq');simp only[eqD] at h;cases hs:au S k with
   |none=>rw[hs] at h;cases h
   |some es=>
    rw[hs] at h;cases h;obtain⟨b',vs,hb,sq,p⟩:=R.seq hs;rw[hb] at hc;cases hc;obtain⟨i1,r1,t1,_⟩:=I.list sq;exact⟨SeqAt.RcAt.list_tuple t1.isList t2 hu0,PySem.SeqAt.RcNeAt.list_tuple t1.isList t2 hu0⟩
  |ref k'=>
   obtain⟨c',hc',ec'⟩:=hy.refs;cases ec';simp only[eqD] at h;cases hs:au S k with
   |none=>rw[hs] at h;cases h
   |some es=>
    cases hs':au S k' with
    |none=>rw[hs,hs'] at h;cases h
    |some es'=>
     rw[hs,hs'] at h;dsimp only at h;obtain⟨b1,vs,hb,sq,p⟩:=R.seq hs;rw[hb] at hc;cases hc;obtain⟨b2,ws,hb',sq',q⟩:=R.seq hs';rw[hb'] at hc';cases hc';obtain⟨i1,r1,t1,_⟩:=I.list sq;obtain⟨i2,r2,t2,_⟩:=I.list sq';split at h
     ·rename_i hk;subst hk;rw[hb] at hb';cases hb';cases h;have z:=SeqAt.RcAt.lists (e:=λ_=>true) t1.isList t1.isList rfl hu0 λj h1 h2=>SeqAt.EqAt.same _;have z':=PySem.SeqAt.RcNeAt.lists (e:=λ_=>true) t1.isList t1.isList rfl hu0 λj h1 h2=>SeqAt.EqAt.same _;rw[zF] at z z';exact⟨z,z'⟩
     ·have l1:i1.toArray.size=es.length:=by rw[Zl,<-r1.length,<-p.length]
      have l2:i2.toArray.size=es'.length:=by rw[Zl,<-r2.length,<-q.length]
      split at h
      ·rename_i hl;obtain⟨g,hg,hb3⟩:=qJ (pins:=pins) (σ:=σ) ih p q r1 r2 h hu;have hsz:i1.toArray.size=i2.toArray.size:=by rw[l1,l2,hl]
       rw[hb3,<-hsz,Nat.min_self,beq_self_eq_true,Wc];exact⟨SeqAt.RcAt.lists t1.isList t2.isList hsz hu0 hg,PySem.SeqAt.RcNeAt.lists t1.isList t2.isList hsz hu0 hg⟩
      ·rename_i hl;cases h;have hsz:(i1.toArray.size != i2.toArray.size)=true:=by rw[l1,l2];simpa using hl
       exact⟨SeqAt.RcAt.lists_lengths t1.isList t2.isList hsz hu0,PySem.SeqAt.RcNeAt.lists_lengths t1.isList t2.isList hsz hu0⟩
theorem bh(I:Inv X pins σ H s)(R:Rel X.K m S H){k:Nat}(h:VD X.K m H (.ref k) v)(hs:au S k=some es):∃a i,v = .ref a/\s.heap.IsList a i:=by
 obtain⟨c,hc,ec⟩:=h.refs;obtain⟨b1,vs,hb,sq,p⟩:=R.seq hs;rw[hb] at hc;cases hc;obtain⟨i1,r1,t1,_⟩:=I.list sq;exact⟨_,_,ec,t1.isList⟩
theorem bC(I:Inv X pins σ H s)(h:VD X.K m H (.tup es) v):∃a i,v = .ref a/\s.heap.IsTuple a i:=by
 obtain⟨a,vs,e,sq,p⟩:=h.tups;obtain⟨i1,r1,t1,_⟩:=I.tuple (.of sq);exact⟨_,_,e,t1⟩
theorem o0(I:Inv X pins σ H s)(R:Rel X.K m S H):∀n,IS X m H S s n
 |0=>λA x y v w u u' b h1 h2 r1 r2 h _=>by simp[eqD] at h
 |n+1=>λA x y v w u u' b h1 h2 r1 r2 h hu=>by
  have hu0:A.units < cLine:=by lia
  have seq:∀ {a a':Addr},v = .ref a->w = .ref a'->W6 A s u u' b:=by
   intro a a' e e';subst e e';cases r1;cases r2;by_cases z:a=a'
   ·subst z;have:=qI I R (n+1) h1 h2 h;subst this;exact SeqAt.EqAt.same _
   ·exact SeqAt.EqAt.of_refs z (zG I R (o0 I R n) h1 h2 h hu).1
  cases x with
  |non=>
   cases h1.nons;cases r1;cases y with
   |non=>cases h2.nons;cases r2;simp[eqD] at h;subst h;exact SeqAt.EqAt.same _
   |bl j=>cases h2.bls;cases r2;simp[eqD] at h;subst h;exact SeqAt.EqAt.none_bool _
   |int j=>cases h2.ints;obtain⟨t,rfl⟩:=r2;simp[eqD] at h;subst h;exact SeqAt.EqAt.none_int _ _
   |str j=>cases h2.strs;obtain⟨t,rfl⟩:=r2;simp[eqD] at h;subst h;exact SeqAt.EqAt.none_str _ _
   |tup ys=>obtain⟨a,i,e,l⟩:=bC I h2;subst e;cases r2;simp[eqD] at h;subst h;exact SeqAt.EqAt.none_tuple l hu0
   |ref k=>
    simp only[eqD] at h;cases hs:au S k with
    |none=>rw[hs] at h;cases h
    |some es=>rw[hs] at h;cases h;obtain⟨a,i,e,l⟩:=bh I R h2 hs;subst e;cases r2;exact SeqAt.EqAt.none_list l hu0
  |bl i=>
   cases h1.bls;cases r1;cases y with
   |non=>cases h2.nons;cases r2;simp[eqD] at h;subst h;exact SeqAt.EqAt.bool_none _
   |bl j=>cases h2.bls;cases r2;simp only[eqD] at h;cases h;exact SeqAt.EqAt.bool_bool _ _
   |int j=>cases h2.ints;obtain⟨t,rfl⟩:=r2;simp only[eqD] at h;cases h;exact SeqAt.EqAt.bool_int _ _ _
   |str j=>cases h2.strs;obtain⟨t,rfl⟩:=r2;simp[eqD] at h;subst h;exact SeqAt.EqAt.bool_str _ _ _
   |tup ys=>obtain⟨a,i,e,l⟩:=bC I h2;subst e;cases r2;simp[eqD] at h;subst h;exact SeqAt.EqAt.bool_tuple _ l hu0
   |ref k=>
    simp only[eqD] at h;cases hs:au S k with
    |none=>rw[hs] at h;cases h
    |some es=>rw[hs] at h;cases h;obtain⟨a,i,e,l⟩:=bh I R h2 hs;subst e;cases r2;exact SeqAt.EqAt.bool_list _ l hu0
  |int i=>
   cases h1.ints;obtain⟨t1,rfl⟩:=r1;cases y with
   |non=>cases h2.nons;cases r2;simp[eqD] at h;subst h;exact SeqAt.EqAt.int_none _ _
   |bl j=>cases h2.bls;cases r2;simp only[eqD] at h;cases h;exact SeqAt.EqAt.int_bool _ _ _
   |int j=>cases h2.ints;obtain⟨t,rfl⟩:=r2;simp only[eqD] at h;cases h;exact SeqAt.EqAt.int_int _ _ _ _
   |str j=>cases h2.strs;obtain⟨t,rfl⟩:=r2;simp[eqD] at h;subst h;exact SeqAt.EqAt.int_str _ _ _ _
   |tup ys=>obtain⟨a,i,e,l⟩:=bC I h2;subst e;cases r2;simp[eqD] at h;subst h;exact SeqAt.EqAt.int_tuple _ _ l hu0
   |ref k=>
    simp only[eqD] at h;cases hs:au S k with
    |none=>rw[hs] at h;cases h
    |some es=>rw[hs] at h;cases h;obtain⟨a,i,e,l⟩:=bh I R h2 hs;subst e;cases r2;exact SeqAt.EqAt.int_list _ _ l hu0
  |str i=>
   cases h1.strs;obtain⟨t1,rfl⟩:=r1;cases y with
   |non=>cases h2.nons;cases r2;simp[eqD] at h;subst h;exact SeqAt.EqAt.str_none _ _
   |bl j=>cases h2.bls;cases r2;simp[eqD] at h;subst h;exact SeqAt.EqAt.str_bool _ _ _
   |int j=>cases h2.ints;obtain⟨t,rfl⟩:=r2;simp[eqD] at h;subst h;exact SeqAt.EqAt.str_int _ _ _ _
   |str j=>cases h2.strs;obtain⟨t,rfl⟩:=r2;simp only[eqD] at h;cases h;exact SeqAt.EqAt.str_str _ _ _ _
   |tup ys=>obtain⟨a,i,e,l⟩:=bC I h2;subst e;cases r2;simp[eqD] at h;subst h;exact SeqAt.EqAt.str_tuple _ _ l hu0
   |ref k=>
    simp only[eqD] at h;cases hs:au S k with
    |none=>rw[hs] at h;cases h
    |some es=>rw[hs] at h;cases h;obtain⟨a,i,e,l⟩:=bh I R h2 hs;subst e;cases r2;exact SeqAt.EqAt.str_list _ _ l hu0
  |tup xs=>
   obtain⟨a,i,e,l⟩:=bC I h1;subst e;cases r1;cases y with
   |non=>cases h2.nons;cases r2;simp[eqD] at h;subst h;exact SeqAt.EqAt.tuple_none l hu0
   |bl j=>cases h2.bls;cases r2;simp[eqD] at h;subst h;exact SeqAt.EqAt.tuple_bool _ l hu0
   |int j=>cases h2.ints;obtain⟨t,rfl⟩:=r2;simp[eqD] at h;subst h;exact SeqAt.EqAt.tuple_int _ _ l hu0
   |str j=>cases h2.strs;obtain⟨t,rfl⟩:=r2;simp[eqD] at h;subst h;exact SeqAt.EqAt.tuple_str _ _ l hu0
   |tup ys=>obtain⟨a',i',e',l'⟩:=bC I h2;exact seq rfl e'
   |ref k=>obtain⟨c,hc,ec⟩:=h2.refs;exact seq rfl ec
  |ref k=>
   obtain⟨c,hc,ec⟩:=h1.refs;cases y with
   |tup ys=>obtain⟨a',i',e',l'⟩:=bC I h2;exact seq ec e'
   |ref k=>obtain⟨c,hc,ec'⟩:=h2.refs;exact seq ec ec'
   |non=>
    simp only[eqD] at h;cases hs:au S k with
    |none=>rw[hs] at h;cases h
    |some es=>rw[hs] at h;cases h;obtain⟨a,i,e,l⟩:=bh I R h1 hs;subst e;cases r1;cases h2.nons;cases r2;exact SeqAt.EqAt.list_none l hu0
   |bl j=>
    simp only[eqD] at h;cases hs:au S k with
    |none=>rw[hs] at h;cases h
    |some es=>rw[hs] at h;cases h;obtain⟨a,i,e,l⟩:=bh I R h1 hs;subst e;cases r1;cases h2.bls;cases r2;exact SeqAt.EqAt.list_bool _ l hu0
   |int j=>
    simp only[eqD] at h;cases hs:au S k with
    |none=>rw[hs] at h;cases h
    |some es=>rw[hs] at h;cases h;obtain⟨a,i,e,l⟩:=bh I R h1 hs;subst e;cases r1;cases h2.ints;obtain⟨t,rfl⟩:=r2;exact SeqAt.EqAt.list_int _ _ l hu0
   |str j=>
    simp only[eqD] at h;cases hs:au S k with
    |none=>rw[hs] at h;cases h
    |some es=>rw[hs] at h;cases h;obtain⟨a,i,e,l⟩:=bh I R h1 hs;subst e;cases r1;cases h2.strs;obtain⟨t,rfl⟩:=r2;exact SeqAt.EqAt.list_str _ _ l hu0
theorem Nd(I:Inv X pins σ H s)(R:Rel X.K m S H)(n:Nat)(h1:VD X.K m H x v)(h2:VD X.K m H y w)(r1:aI v u)(r2:aI w u')(h:eqD (n+1) S x y=some b)(hu:A.units+(n+1) < cLine) :
  W7 A s u u' b/\W8 A s u u' (!b):=by
 have hu0:A.units < cLine:=by lia
 have seq:∀ {a a':Addr},v = .ref a->w = .ref a'->W7 A s u u' b/\W8 A s u u' (!b):=by
  intro a a' e e';subst e e';cases r1;cases r2;exact zG I R (o0 I R n) h1 h2 h hu
 cases x with
 |non=>
  cases h1.nons;cases r1;cases y with
  |non=>cases h2.nons;cases r2;simp[eqD] at h;subst h;exact⟨SeqAt.RcAt.none_none,PySem.SeqAt.RcNeAt.none_none⟩
  |bl j=>cases h2.bls;cases r2;simp[eqD] at h;subst h;exact⟨SeqAt.RcAt.none_bool _,PySem.SeqAt.RcNeAt.none_bool _⟩
  |int j=>cases h2.ints;obtain⟨t2,rfl⟩:=r2;simp[eqD] at h;subst h;exact⟨SeqAt.RcAt.none_int _ _,PySem.SeqAt.RcNeAt.none_int _ _⟩
  |str j=>cases h2.strs;obtain⟨t2,rfl⟩:=r2;simp[eqD] at h;subst h;exact⟨SeqAt.RcAt.none_str _ _,PySem.SeqAt.RcNeAt.none_str _ _⟩
  |tup ys=>obtain⟨a,i,e,l⟩:=bC I h2;subst e;cases r2;simp[eqD] at h;subst h;exact⟨SeqAt.RcAt.none_tuple l hu0,PySem.SeqAt.RcNeAt.none_tuple l hu0⟩
  |ref k=>
   simp only[eqD] at h;cases hs:au S k with
   |none=>rw[hs] at h;cases h
   |some es=>rw[hs] at h;cases h;obtain⟨a,i,e,l⟩:=bh I R h2 hs;subst e;cases r2;exact⟨SeqAt.RcAt.none_list l hu0,PySem.SeqAt.RcNeAt.none_list l hu0⟩
 |bl i=>
  cases h1.bls;cases r1;cases y with
  |non=>cases h2.nons;cases r2;simp[eqD] at h;subst h;exact⟨SeqAt.RcAt.bool_none _,PySem.SeqAt.RcNeAt.bool_none _⟩
  |bl j=>cases h2.bls;cases r2;simp only[eqD] at h;cases h;exact⟨SeqAt.RcAt.bool_bool _ _,PySem.SeqAt.RcNeAt.bool_bool _ _⟩
  |int j=>cases h2.ints;obtain⟨t2,rfl⟩:=r2;simp only[eqD] at h;cases h;exact⟨SeqAt.RcAt.bool_int _ _ _,PySem.SeqAt.RcNeAt.bool_int _ _ _⟩
  |str j=>cases h2.strs;obtain⟨t2,rfl⟩:=r2;simp[eqD] at h;subst h;exact⟨SeqAt.RcAt.bool_str _ _ _,PySem.SeqAt.RcNeAt.bool_str _ _ _⟩
  |tup ys=>obtain⟨a,i,e,l⟩:=bC I h2;subst e;cases r2;simp[eqD] at h;subst h;exact⟨SeqAt.RcAt.bool_tuple _ l hu0,PySem.SeqAt.RcNeAt.bool_tuple _ l hu0⟩
  |ref k=>
   simp only[eqD] at h;cases hs:au S k with
   |none=>rw[hs] at h;cases h
   |some es=>rw[hs] at h;cases h;obtain⟨a,i,e,l⟩:=bh I R h2 hs;subst e;cases r2;exact⟨SeqAt.RcAt.bool_list _ l hu0,PySem.SeqAt.RcNeAt.bool_list _ l hu0⟩
 |int i=>
  cases h1.ints;obtain⟨t1,rfl⟩:=r1;cases y with
  |non=>cases h2.nons;cases r2;simp[eqD] at h;subst h;exact⟨SeqAt.RcAt.int_none _ _,PySem.SeqAt.RcNeAt.int_none _ _⟩
  |bl j=>cases h2.bls;cases r2;simp only[eqD] at h;cases h;exact⟨SeqAt.RcAt.int_bool _ _ _,PySem.SeqAt.RcNeAt.int_bool _ _ _⟩
  |int j=>cases h2.ints;obtain⟨t2,rfl⟩:=r2;simp only[eqD] at h;cases h;exact⟨SeqAt.RcAt.int_int _ _ _ _,PySem.SeqAt.RcNeAt.int_int _ _ _ _⟩
  |str j=>cases h2.strs;obtain⟨t2,rfl⟩:=r2;simp[eqD] at h;subst h;exact⟨SeqAt.RcAt.int_str _ _ _ _,PySem.SeqAt.RcNeAt.int_str _ _ _ _⟩
  |tup ys=>obtain⟨a,i,e,l⟩:=bC I h2;subst e;cases r2;simp[eqD] at h;subst h;exact⟨SeqAt.RcAt.int_tuple _ _ l hu0,PySem.SeqAt.RcNeAt.int_tuple _ _ l hu0⟩
  |ref k=>
   simp only[eqD] at h;cases hs:au S k with
   |none=>rw[hs] at h;cases h
   |some es=>rw[hs] at h;cases h;obtain⟨a,i,e,l⟩:=bh I R h2 hs;subst e;cases r2;exact⟨SeqAt.RcAt.int_list _ _ l hu0,PySem.SeqAt.RcNeAt.int_list _ _ l hu0⟩
 |str i=>
  cases h1.strs;obtain⟨t1,rfl⟩:=r1;cases y with
  |non=>cases h2.nons;cases r2;simp[eqD] at h;subst h;exact⟨SeqAt.RcAt.str_none _ _,PySem.SeqAt.RcNeAt.str_none _ _⟩
  |bl j=>cases h2.bls;cases r2;simp[eqD] at h;subst h;exact⟨SeqAt.RcAt.str_bool _ _ _,PySem.SeqAt.RcNeAt.str_bool _ _ _⟩
  |int j=>cases h2.ints;obtain⟨t2,rfl⟩:=r2;simp[eqD] at h;subst h;exact⟨SeqAt.RcAt.str_int _ _ _ _,PySem.SeqAt.RcNeAt.str_int _ _ _ _⟩
  |str j=>cases h2.strs;obtain⟨t2,rfl⟩:=r2;simp only[eqD] at h;cases h;exact⟨SeqAt.RcAt.str_str _ _ _ _,PySem.SeqAt.RcNeAt.str_str _ _ _ _⟩
  |tup ys=>obtain⟨a,i,e,l⟩:=bC I h2;subst e;cases r2;simp[eqD] at h;subst h;exact⟨SeqAt.RcAt.str_tuple _ _ l hu0,PySem.SeqAt.RcNeAt.str_tuple _ _ l hu0⟩
  |ref k=>
   simp only[eqD] at h;cases hs:au S k with
   |none=>rw[hs] at h;cases h
   |some es=>rw[hs] at h;cases h;obtain⟨a,i,e,l⟩:=bh I R h2 hs;subst e;cases r2;exact⟨SeqAt.RcAt.str_list _ _ l hu0,PySem.SeqAt.RcNeAt.str_list _ _ l hu0⟩
 |tup xs=>
  obtain⟨a,i,e,l⟩:=bC I h1;cases y with
  |non=>subst e;cases r1;cases h2.nons;cases r2;simp[eqD] at h;subst h;exact⟨SeqAt.RcAt.tuple_none l hu0,PySem.SeqAt.RcNeAt.tuple_none l hu0⟩
  |bl j=>subst e;cases r1;cases h2.bls;cases r2;simp[eqD] at h;subst h;exact⟨SeqAt.RcAt.tuple_bool _ l hu0,PySem.SeqAt.RcNeAt.tuple_bool _ l hu0⟩
  |int j=>subst e;cases r1;cases h2.ints;obtain⟨t2,rfl⟩:=r2;simp[eqD] at h;subst h;exact⟨SeqAt.RcAt.tuple_int _ _ l hu0,PySem.SeqAt.RcNeAt.tuple_int _ _ l hu0⟩
  |str j=>subst e;cases r1;cases h2.strs;obtain⟨t2,rfl⟩:=r2;simp[eqD] at h;subst h;exact⟨SeqAt.RcAt.tuple_str _ _ l hu0,PySem.SeqAt.RcNeAt.tuple_str _ _ l hu0⟩
  |tup ys=>obtain⟨a',i',e',l'⟩:=bC I h2;exact seq e e'
  |ref k=>obtain⟨c,hc,ec⟩:=h2.refs;exact seq e ec
 |ref k=>
  obtain⟨c,hc,ec⟩:=h1.refs;cases y with
  |tup ys=>obtain⟨a',i',e',l'⟩:=bC I h2;exact seq ec e'
  |ref k=>obtain⟨c,hc,ec'⟩:=h2.refs;exact seq ec ec'
  |non=>
   simp only[eqD] at h;cases hs:au S k with
   |none=>rw[hs] at h;cases h
   |some es=>rw[hs] at h;cases h;obtain⟨a,i,e,l⟩:=bh I R h1 hs;subst e;cases r1;cases h2.nons;cases r2;exact⟨SeqAt.RcAt.list_none l hu0,PySem.SeqAt.RcNeAt.list_none l hu0⟩
  |bl j=>
   simp only[eqD] at h;cases hs:au S k with
   |none=>rw[hs] at h;cases h
   |some es=>rw[hs] at h;cases h;obtain⟨a,i,e,l⟩:=bh I R h1 hs;subst e;cases r1;cases h2.bls;cases r2;exact⟨SeqAt.RcAt.list_bool _ l hu0,PySem.SeqAt.RcNeAt.list_bool _ l hu0⟩
  |int j=>
   simp only[eqD] at h;cases hs:au S k with
   |none=>rw[hs] at h;cases h
   |some es=>rw[hs] at h;cases h;obtain⟨a,i,e,l⟩:=bh I R h1 hs;subst e;cases r1;cases h2.ints;obtain⟨t2,rfl⟩:=r2;exact⟨SeqAt.RcAt.list_int _ _ l hu0,PySem.SeqAt.RcNeAt.list_int _ _ l hu0⟩
  |str j=>
   simp only[eqD] at h;cases hs:au S k with
   |none=>rw[hs] at h;cases h
   |some es=>rw[hs] at h;cases h;obtain⟨a,i,e,l⟩:=bh I R h1 hs;subst e;cases r1;cases h2.strs;obtain⟨t2,rfl⟩:=r2;exact⟨SeqAt.RcAt.list_str _ _ l hu0,PySem.SeqAt.RcNeAt.list_str _ _ l hu0⟩
abbrev eqS(x y:D)(S:Sto):Option (D × Sto):=(eqD 60 S x y).map λb=>(.bl b,S)
abbrev dlD(S:Sto)(x y:D):Option Bool:=match x,y with
 |.ref a,.ref b=>match S[a]?,S[b]? with
  |some (.dic _ _),some (.lst _)=>some false
  |_,_=>none
 |_,_=>none
abbrev neD(S:Sto)(x y:D):Option Bool:=match eqD 60 S x y with
 |some b=>some b
 |none=>dlD S x y
abbrev neS(x y:D)(S:Sto):Option (D × Sto):=(neD S x y).map λb=>(.bl (!b),S)
theorem vG(h:eqD 60 S x y=some b):neS x y S=some (.bl (!b),S):=by unfold neS neD;rw[h];rfl
theorem IT(hu:X.A.units+64 < cLine):OpR X (VT .Eq) (rS X.K eqS):=by
 intro pins s σ H x y v u Q I rx ry h;obtain⟨m,S,a,b,d,S',R,va,vb,e,q⟩:=h;unfold eqS at e;cases he:eqD 60 S a b with
 |none=>rw[he] at e;cases e
 |some c=>
  rw[he] at e;cases e;exact(Nd I R 59 va vb rx ry he (by lia)).1 _ _ _ _ ⟨.bl c,H,I,rfl,q m H _ (Aft.refl R) bN⟩
theorem Ng(I:Inv X pins σ H s)(R:Rel X.K m S H)(hu:A.units < cLine)(h1:VD X.K m H x v)(h2:VD X.K m H y w)(r1:aI v u)(r2:aI w u')(h:dlD S x y=some c):W8 A s u u' (!c):=by
 cases x with
 |ref a=>
  cases y with
  |ref b=>
   unfold dlD at h;dsimp only at h;split at h
   ·rename_i ks ds es ha hb;cases h;obtain⟨a',i,e,l⟩:=bh (es:=es) I R h2 (by unfold au;rw[hb]);subst e;cases r2;obtain⟨c,hc,ec⟩:=h1.refs;subst ec;cases r1;obtain⟨a2,ha2,vs,hv,_⟩:=R.ob _ _ ha;rw[hc] at ha2;cases ha2;obtain⟨_,_,xs,_,o,es',ep,g1,g2,_⟩:=(show bp X.prog X.w H s.heap c (.dK _) from I.hok c _ hv);exact PySem.SeqAt.dict_list g1 g2.1 l hu
   ·cases h
  |_=>cases h
 |_=>cases h
theorem IU(hu:X.A.units+64 < cLine):OpR X (VT .NotEq) (rS X.K neS):=by
 intro pins s σ H x y v u Q I rx ry h;obtain⟨m,S,a,b,d,S',R,va,vb,e,q⟩:=h;unfold neS neD at e;cases he:eqD 60 S a b with
 |none=>
  rw[he] at e;cases hd:dlD S a b with
  |none=>dsimp only at e;rw[hd] at e;cases e
  |some c=>
   dsimp only at e;rw[hd] at e;cases e;exact Ng I R (by lia) va vb rx ry hd _ _ _ _ ⟨.bl (!c),H,I,rfl,q m H _ (Aft.refl R) bN⟩
 |some c=>
  rw[he] at e;cases e;exact(Nd I R 59 va vb rx ry he (by lia)).2 _ _ _ _ ⟨.bl (!c),H,I,rfl,q m H _ (Aft.refl R) bN⟩
end
abbrev IV(a b:Nat)(S:Sto):Option (D × Sto):=match S[a]? with
 | some (.lst xs)=>(match S[b]? with
  |some (.lst ys)=>if xs.length+ys.length<=100000 then some (.ref S.length,S++[.lst (xs++ys)]) else none
  | _=>none)
 |_=>none
abbrev kc:D->D->Sto->Option (D × Sto)
 |.int i,.int j,S=>some (.int (i+j),S)
 |.tup xs,.tup ys,S=>if xs.length+ys.length<=1000 then some (.tup (xs++ys),S) else none
 |.ref a,.ref b,S=>IV a b S
 |.str x,.str y,S=>if x.length+y.length<=100000 then some (.str (x++y),S) else none
 |_,_,_=>none
abbrev Nh:D->D->Sto->Option (D × Sto)
 |.int i,.int j,S=>some (.int (i - j),S)
 |_,_,_=>none
abbrev iV(i j:Int):Bool:=(decide (-(2 ^ 64) < i) && decide (i < 2 ^ 64)) || (decide (-(2 ^ 64) < j) && decide (j < 2 ^ 64))
abbrev qK:D->D->Sto->Option (D × Sto)
 |.int i,.int j,S=>if iV i j=true then some (.int (i * j),S) else none
 | .ref n,.int k,S=>(match S[n]? with
  |some (.lst xs)=>if 0<=k/\xs.length * k.toNat<=1000/\k<=1000 then some (.ref S.length,S++[.lst (Zs k.toNat xs).flatten]) else none
  | _=>none)
 |_,_,_=>none
abbrev IW:D->D->Sto->Option (D × Sto)
 |.int i,.int j,S=>if 0 < j then some (.int (i % j),S) else none
 |_,_,_=>none
abbrev zH:D->D->Sto->Option (D × Sto)
 |.int i,.int j,S=>if 0 < j/\j < 1298074214633706907132624082305024 then some (.int (i / j),S) else none
 |_,_,_=>none
abbrev IX:D->D->Sto->Option (D × Sto)
 |.int i,.int j,S=>if 0<=j/\j<=1000000/\i.natAbs < 2 ^ 64 then some (.int (i ^ j.toNat),S) else none
 |_,_,_=>none
inductive BOp where |add |sub |mul |mod |fdiv |pow
abbrev bO:BOp->D->D->Sto->Option (D × Sto)
 |.add=>kc |.sub=>Nh |.mul=>qK |.mod=>IW |.fdiv=>zH |.pow=>IX
abbrev BOp.op:BOp->WU
 |.add=>.Add |.sub=>.Sub |.mul=>.Mult |.mod=>.Mod |.fdiv=>.FloorDiv |.pow=>.Pow
section
variable {X:Cx} {K:Vf} {m:List Addr} {H:Hp} {S:Sto}
theorem gH{op:WU}{f:D->D->Sto->Option (D × Sto)}{C:Int->Int->Prop}{g:Int->Int->Int}(ho:OpR X (VH op) (rI C λi j=>.int (g i j)))
  (hf:∀a b S d S',f a b S=some (d,S')->∃i j,a = .int i/\b = .int j/\C i j/\d = .int (g i j)/\S'=S):OpR X (VH op) (rS X.K f):=by
 refine OpR.imp ho λx y H Q h=>?_;obtain⟨m,S,a,b,d,S',R,va,vb,e,q⟩:=h;obtain⟨i,j,rfl,rfl,c,rfl,rfl⟩:=hf _ _ _ _ _ e;exact⟨i,j,va.ints,vb.ints,c,q m H _ (Aft.refl R) bq⟩
theorem tq:OpR X (VH .Add) (λx y H Q=>∃m S xs ys,Rel X.K m S H/\VD X.K m H (.tup xs) x/\VD X.K m H (.tup ys) y/\xs.length+ys.length<=1000/\∀m' H' u,Aft X.K m H S m' H'->VD X.K m' H' (.tup (xs++ys)) u->Q u H'):=by
 refine OpR.imp Dj λx y H Q h=>?_;obtain⟨m,S,xs,ys,R,va,vb,hl,q⟩:=h;obtain⟨a,vs,rfl,sa,da⟩:=va.tups;obtain⟨b,ws,rfl,sb,db⟩:=vb.tups;have l1:=da.length;have l2:=db.length;refine⟨a,b,vs,ws,rfl,rfl,.of sa,.of sb,kZ (by lia),λe=>?_,λ_ e=>?_,λ_ _=>iT R (da.append db) q⟩
 ·subst e;have e:xs=[]:=Yi.mp (by simpa using l1);subst e;exact q m H _ (Aft.refl R) vb
 ·subst e;have e:ys=[]:=Yi.mp (by simpa using l2);subst e;rw[ZS] at q;exact q m H _ (Aft.refl R) va
theorem DD:OpR X (VH .Add) (rS X.K kc):=by
 refine OpR.imp (OpR.or Ib (OpR.or tq (OpR.or sM zf))) λx y H Q h=>?_;obtain⟨m,S,a,b,d,S',R,va,vb,e,q⟩:=h;cases a with
 |int i=>
  cases b with
  |int j=>cases e;exact .inl ⟨i,j,va.ints,vb.ints,q m H _ (Aft.refl R) bq⟩
  |_=>simp[kc] at e
 |tup xs=>
  cases b with
  |tup ys=>
   simp only[kc] at e;split at e
   ·rename_i hl;cases e;exact .inr (.inl ⟨m,S,xs,ys,R,va,vb,hl,q⟩)
   ·cases e
  |_=>simp[kc] at e
 |str i=>
  cases b with
  |str j=>
   simp only[kc] at e;split at e
   ·rename_i hl;cases e;exact .inr (.inr (.inl ⟨i,j,va.strs,vb.strs,by rw[Uk];lia,q m H _ (Aft.refl R) jq⟩))
   ·cases e
  |_=>simp[kc] at e
 |ref i=>
  cases b with
  |ref j=>
   simp only[kc,IV] at e;split at e
   ·rename_i xs hx;split at e
    ·rename_i ys hy;split at e
     ·rename_i hl;cases e;obtain⟨a,vs,ha,hH,q1⟩:=R.lst hx;obtain⟨c,ws,hc,hG,q2⟩:=R.lst hy;obtain⟨a',ha',e1⟩:=va.refs;obtain⟨c',hc',e2⟩:=vb.refs;rw[ha] at ha';cases ha';rw[hc] at hc';cases hc';exact .inr (.inr (.inr ⟨a,c,vs,ws,e1,e2,hH,hG,by rw[Uk,<-q1.length,<-q2.length];lia,oY R (q1.append q2) q⟩))
     ·cases e
    ·cases e
   ·cases e
  |_=>simp[kc] at e
 |_=>cases b <;> simp[kc] at e
theorem vH(h:VDs K m H ds vs):∀n:Nat,VDs K m H (Zs n ds).flatten (Zs n vs).flatten
 |0=>by rw[Xw,Xw,XY,XY,VDs]
 |n+1=>by rw[Z8,Z8,Yn,Yn];exact h.append (vH h n)
theorem DE:OpR X (VH .Mult) (rS X.K qK):=by
 refine OpR.imp (OpR.or Ix Ie) λx y H Q h=>?_;obtain⟨m,S,a,b,d,S',R,va,vb,e,q⟩:=h;cases a with
 |int i=>
  cases b with
  |int j=>
   simp only[qK] at e;split at e
   ·rename_i hc;cases e;simp only[iV,YQ,bAE,decide_eq_true_eq] at hc;exact .inr ⟨i,j,va.ints,vb.ints,hc,q m H _ (Aft.refl R) bq⟩
   ·cases e
  |_=>simp[qK] at e
 |ref n=>
  cases b with
  |int k=>
   simp only[qK] at e;split at e
   ·rename_i xs hx;split at e
    ·rename_i hc;cases e;obtain⟨l,vs,hl,hH,vd⟩:=R.lst hx;obtain⟨l',hl',e1⟩:=va.refs;rw[hl] at hl';cases hl';exact .inl ⟨l,k,vs,e1,vb.ints,hH,by lia,by lia,by rw[Uk,<-vd.length];lia,oY R (vH vd k.toNat) q⟩
    ·cases e
   ·cases e
  |_=>simp[qK] at e
 |_=>cases b <;> simp[qK] at e
theorem zI:OpR X (VH .FloorDiv) (rI (λ_ j=>0 < j/\j < 1298074214633706907132624082305024) λi j=>.int (i / j)):=opI λi j _ _ _ _ _ hc q=>by
 have h1:(0:Int) < j:=hc.1;have h2:j < 1298074214633706907132624082305024:=hc.2
 exact floordiv_int (by lia) (by rw[Int.fdiv_eq_ediv_of_nonneg i (by lia)];exact q) (.inl (PyProof.noPylong_of_log2 (by
  have h0:j.natAbs ≠ 0:=by lia
  have:j.natAbs.log2 < 110:=(Wk h0).mpr (by lia)
  lia)))
theorem DF(o:BOp):OpR X (VH o.op) (rS X.K (bO o)):=by
 cases o with
 |add=>exact DD
 |sub=>
  refine gH (C:=λ_ _=>True) (g:=λi j=>i - j) (OpR.imp Ic λx y H Q ⟨i,j,a,b,_,q⟩=>⟨i,j,a,b,q⟩) λa b S d S' e=>?_;cases a <;> cases b <;> simp[bO,Nh] at e;exact⟨_,_,rfl,rfl,trivial,e.1.symm,e.2.symm⟩
 |mul=>exact DE
 |mod=>
  refine gH Ig λa b S d S' e=>?_;cases a <;> cases b <;> simp[bO,IW] at e;rename_i i j;exact⟨i,j,rfl,rfl,e.1,e.2.1.symm,e.2.2.symm⟩
 |fdiv=>
  refine gH zI λa b S d S' e=>?_;cases a <;> cases b <;> simp[bO,zH] at e;rename_i i j;exact⟨i,j,rfl,rfl,e.1,e.2.1.symm,e.2.2.symm⟩
 |pow=>
  refine gH Ih λa b S d S' e=>?_;cases a <;> cases b <;> simp[bO,IX] at e;rename_i i j;exact⟨i,j,rfl,rfl,e.1,e.2.1.symm,e.2.2.symm⟩
abbrev xv(p:Int->Int->Bool):D->D->Sto->Option (D × Sto)
 |.int i,.int j,S=>some (.bl (p i j),S)
 |_,_,_=>none
abbrev GZ:D->Bool
 |.non=>true
 |_=>false
abbrev isB(neg:Bool):D->D->Sto->Option (D × Sto)
 |d,.non,S=>some (.bl (neg != GZ d),S)
 |.bl a,.bl b,S=>some (.bl (neg != (a == b)),S)
 |_,_,_=>none
abbrev cz:D->Bool
 |.non=>true |.bl _=>true |.int _=>true |.str _=>true |_=>false
abbrev eqF:D->D->Bool
 |.non,.non=>true
 |.bl a,.bl b=>a == b
 |.bl a,.int b=>(if a then 1 else 0) == b
 |.int a,.bl b=>a == (if b then 1 else 0)
 |.int a,.int b=>a == b
 |.str a,.str b=>a == b
 |_,_=>false
abbrev inF(x:D)(ds:List D):Bool:=ds.any λy=>eqF y x
abbrev inD(x:D)(ds:List D)(S:Sto):Option Bool:=if (ds.all λy=>(eqD 58 S y x).isSome)=true then some (ds.any λy=>eqD 58 S y x == some true) else none
abbrev inS(neg:Bool)(x y:D)(S:Sto):Option (D × Sto):=match ao y S with
 |some (_,ds)=>if cz x=true/\ds.all cz=true then some (.bl (neg != inF x ds),S) else (inD x ds S).map λb=>(.bl (neg != b),S)
 |none=>none
inductive COp where |eq |ne |lt |le |gt |ge |is |isnot |isin |notin
abbrev aE:COp->D->D->Sto->Option (D × Sto)
 |.eq=>eqS |.ne=>neS
 |.lt=>xv λi j=>decide (i < j) |.le=>xv λi j=>decide (i<=j) |.gt=>xv λi j=>decide (j < i) |.ge=>xv λi j=>decide (j<=i)
 |.is=>isB false |.isnot=>isB true |.isin=>inS false |.notin=>inS true
abbrev COp.op:COp->CmpOp
 |.eq=>.Eq |.ne=>.NotEq |.lt=>.Lt |.le=>.LtE |.gt=>.Gt |.ge=>.GtE |.is=>.Is |.isnot=>.IsNot |.isin=>.In |.notin=>.NotIn
theorem eX(ho:OpR X (VT op) (rI0 λi j=>.bl (p i j))):OpR X (VT op) (rS X.K (xv p)):=by
 refine OpR.imp ho λx y H Q h=>?_;obtain⟨m,S,a,b,d,S',R,va,vb,e,q⟩:=h;cases a <;> cases b <;> simp[xv] at e;obtain⟨rfl,rfl⟩:=e;exact⟨_,_,va.ints,vb.ints,q m H _ (Aft.refl R) bN⟩
theorem kl(h:VD K m H x v)(f:cz x=true):bS v=true:=by
 cases x <;> simp[cz] at f
 ·cases h.nons;rfl
 ·cases h.bls;rfl
 ·cases h.ints;rfl
 ·cases h.strs;rfl
theorem zJ(h:VD K m H x v)(f:cz x=true)(h':VD K m H y w)(f':cz y=true):eqV v w=eqF x y:=by
 cases x <;> simp[cz] at f <;> cases y <;> simp[cz] at f' <;> simp[VD] at h h' <;> subst h <;> subst h' <;> rfl
theorem iW:∀ {ds:List D} {vs:List V},VDs K m H ds vs->ds.all cz=true->vs.all bS=true
 |[],vs,h,_=>by rw[VDs] at h;rw[h];rfl
 |d::ds,vs,h,f=>by
  rw[VDs] at h;obtain⟨x,r,rfl,p,q⟩:=h;rw[Z4,bAE] at f;rw[Z4,kl p f.1,iW q f.2];rfl
theorem tw(h:VD K m H x v)(f:cz x=true):∀ {ds:List D} {vs:List V},VDs K m H ds vs->ds.all cz=true->inV v vs=inF x ds
 |[],vs,h,_=>by rw[VDs] at h;rw[h];rfl
 |d::ds,vs,h',f'=>by
  rw[VDs] at h';obtain⟨y,r,rfl,p,q⟩:=h';rw[Z4,bAE] at f';have ih:=tw h f q f'.2;unfold inV inF at ih ⊢;rw[YF,YF,zJ p f'.1 h f,ih]
theorem nB(h:VD K m H x v)(f:cz x=true):∀ {ds:List D} {vs:List V},VDs K m H ds vs->ds.all cz=true->(vs.countP λz=>eqV z v)=ds.countP λz=>eqF z x
 |[],vs,h,_=>by rw[VDs] at h;rw[h];rfl
 |d::ds,vs,h',f'=>by
  rw[VDs] at h';obtain⟨y,r,rfl,p,q⟩:=h';rw[Z4,bAE] at f';rw[YK,YK,zJ p f'.1 h f,nB h f q f'.2]
theorem ic(h:SqB K tu H a vs):SqL K H a vs\/SqT K H a vs:=by
 cases tu with
 |false=>exact .inl h
 |true=>exact .inr (.of h)
theorem o3(I:Inv X pins σ H s)(R:Rel X.K m S H)(vx:VD X.K m H x v)(rx:aI v u)(hu:A.units+58 < cLine)(vd:VDs X.K m H ds vs)(r:aO vs its)(h:inD x ds S=some b) :
  ∃e:Value->Bool,(∀w ∈ its,W6 A s w u (e w))/\its.any e=b:=by
 unfold inD at h;split at h
 ·rename_i hs;cases h;rw[ZD] at hs
  have at_:∀ (i:Nat) w,its[i]?=some w->∃y v',ds[i]?=some y/\VD X.K m H y v'/\aI v' w:=λi w hw=>by
   have hi:=(Zb.mp hw).1;obtain⟨y,v',e1,e2,e3⟩:=oZ vd r (j:=i) (by simpa using hi);refine⟨y,v',e1,e2,?_⟩
   have:its.toArray[i]=w:=by
    have:=(Zb.mp hw).2
    simpa using this
   rw[<-this];exact e3
  refine⟨λw=>@decide (∃ (i:Nat) (y:D),ds[i]?=some y/\its[i]?=some w/\eqD 58 S y x=some true) (Classical.propDecidable _),λw hw=>?_,?_⟩
  ·obtain⟨i,hi⟩:=YB hw;dsimp only;by_cases hq:∃ (i:Nat) (y:D),ds[i]?=some y/\its[i]?=some w/\eqD 58 S y x=some true
   ·rw[@decide_eq_true _ (Classical.propDecidable _) hq];obtain⟨j,y,e1,e2,e3⟩:=hq;obtain⟨y',v',f1,f2,f3⟩:=at_ j w e2;rw[e1] at f1;cases f1;exact o0 I R 58 A y x v' v w u true f2 vx f3 rx e3 hu
   ·rw[@decide_eq_false _ (Classical.propDecidable _) hq];obtain⟨y,v',f1,f2,f3⟩:=at_ i w hi;obtain⟨c,hc⟩:=ZT.mp (hs y (Zj f1));cases c with
    |true=>exact absurd ⟨i,y,f1,hi,hc⟩ hq
    |false=>exact o0 I R 58 A y x v' v w u false f2 vx f3 rx hc hu
  ·rw[Yc,YL,YL];constructor
   ·rintro⟨w,_,hw⟩;obtain⟨i,y,e1,_,e3⟩:=@of_decide_eq_true _ (Classical.propDecidable _) hw;exact⟨y,Zj e1,by rw[e3];rfl⟩
   ·rintro⟨y,hy,e⟩;obtain⟨i,hi⟩:=YB hy;obtain⟨v',hv,_⟩:=vd.get hi;obtain⟨w,hw,_⟩:=r.get hv;exact⟨w,Zj hw,@decide_eq_true _ (Classical.propDecidable _) ⟨i,y,hi,hw,by simpa using e⟩⟩
 ·cases h
theorem IY(hu:X.A.units+64 < cLine):OpR X (VT .In) (rS X.K (inS false)):=by
 intro pins s σ H x y v u Q I rx ry h;obtain⟨m,S,a,b,d,S',R,va,vb,e,q⟩:=h;unfold inS at e;split at e
 ·rename_i tu ds hi;obtain⟨p,vs,rfl,sq,vds⟩:=eJ R vb hi;split at e
  ·rename_i hf;cases e;refine xh pins s σ H x _ v u Q I rx ry ⟨p,vs,rfl,ic sq,kl va hf.1,iW vds hf.2,q m H _ (Aft.refl R) ?_⟩;rw[if_neg (by decide),tw va hf.1 vds hf.2]
   simpa using bN
  ·cases hd:inD a ds S with
   |none=>rw[hd] at e;cases e
   |some c=>
    rw[hd] at e;cases e;cases ry;have ha:X.A.in1.units+58 < cLine:=by show X.A.units+1+58 < cLine;lia
    rcases ic sq with hq |hq
    ·obtain⟨its,r,pl,hz⟩:=I.list hq;obtain⟨e,he,hb⟩:=o3 I R va rx ha vds r hd;refine W9 e pl.isList (λw hw=>he w (by simpa using hw)) ⟨.bl _,H,I,rfl,?_⟩;rw[show its.toArray.any e=its.any e by simp,hb];exact q m H _ (Aft.refl R) (by simpa using bN)
    ·obtain⟨its,r,pl,hz⟩:=I.tuple hq;obtain⟨e,he,hb⟩:=o3 I R va rx ha vds r hd;refine Va e pl (λw hw=>he w (by simpa using hw)) ⟨.bl _,H,I,rfl,?_⟩;rw[show its.toArray.any e=its.any e by simp,hb];exact q m H _ (Aft.refl R) (by simpa using bN)
 ·cases e
theorem xy(hu:X.A.units+64 < cLine):OpR X (VT .NotIn) (rS X.K (inS true)):=by
 intro pins s σ H x y v u Q I rx ry h;obtain⟨m,S,a,b,d,S',R,va,vb,e,q⟩:=h;unfold inS at e;split at e
 ·rename_i tu ds hi;obtain⟨p,vs,rfl,sq,vds⟩:=eJ R vb hi;split at e
  ·rename_i hf;cases e;refine oJ pins s σ H x _ v u Q I rx ry ⟨p,vs,rfl,ic sq,kl va hf.1,iW vds hf.2,q m H _ (Aft.refl R) ?_⟩;rw[if_pos rfl,tw va hf.1 vds hf.2]
   simpa using bN
  ·cases hd:inD a ds S with
   |none=>rw[hd] at e;cases e
   |some c=>
    rw[hd] at e;cases e;cases ry;have ha:X.A.in1.units+58 < cLine:=by show X.A.units+1+58 < cLine;lia
    rcases ic sq with hq |hq
    ·obtain⟨its,r,pl,hz⟩:=I.list hq;obtain⟨e,he,hb⟩:=o3 I R va rx ha vds r hd;refine Vb e pl.isList (λw hw=>he w (by simpa using hw)) ⟨.bl _,H,I,rfl,?_⟩;rw[show its.toArray.any e=its.any e by simp,hb];exact q m H _ (Aft.refl R) (by simpa using bN)
    ·obtain⟨its,r,pl,hz⟩:=I.tuple hq;obtain⟨e,he,hb⟩:=o3 I R va rx ha vds r hd;refine Vc e pl (λw hw=>he w (by simpa using hw)) ⟨.bl _,H,I,rfl,?_⟩;rw[show its.toArray.any e=its.any e by simp,hb];exact q m H _ (Aft.refl R) (by simpa using bN)
 ·cases e
theorem zK(h:VD K m H d v):decide (v=V.non)=GZ d:=by
 cases d with
 |non=>cases h.nons;rfl
 |bl _=>cases h.bls;rfl
 |int _=>cases h.ints;rfl
 |str _=>cases h.strs;rfl
 |tup _=>obtain⟨_,_,e,_⟩:=h.tups;subst e;rfl
 |ref _=>obtain⟨_,_,e⟩:=h.refs;subst e;rfl
theorem IZ:OpR X (VT .Is) (rS X.K (isB false)):=by
 refine OpR.imp (OpR.or Ij Iz) λx y H Q h=>?_;obtain⟨m,S,a,b,d,S',R,va,vb,e,q⟩:=h;cases b with
 |non=>
  simp[isB] at e;obtain⟨rfl,rfl⟩:=e;exact .inl ⟨vb.nons,q m H _ (Aft.refl R) (by rw[zK va];exact bN)⟩
 |bl j=>
  cases a with
  |bl i=>
   simp[isB] at e;obtain⟨rfl,rfl⟩:=e;exact .inr ⟨i,j,va.bls,vb.bls,q m H _ (Aft.refl R) bN⟩
  |_=>simp[isB] at e
 |_=>cases a <;> simp[isB] at e
theorem xz:OpR X (VT .IsNot) (rS X.K (isB true)):=by
 refine OpR.imp (OpR.or CY xo) λx y H Q h=>?_;obtain⟨m,S,a,b,d,S',R,va,vb,e,q⟩:=h;cases b with
 |non=>
  simp[isB] at e;obtain⟨rfl,rfl⟩:=e;exact .inl ⟨vb.nons,q m H _ (Aft.refl R) (by rw[zK va];exact bN)⟩
 |bl j=>
  cases a with
  |bl i=>
   simp[isB] at e;obtain⟨rfl,rfl⟩:=e;exact .inr ⟨i,j,va.bls,vb.bls,q m H _ (Aft.refl R) (by simpa[bne] using bN)⟩
  |_=>simp[isB] at e
 |_=>cases a <;> simp[isB] at e
theorem gI(hu:X.A.units+64 < cLine)(o:COp):OpR X (VT o.op) (rS X.K (aE o)):=by
 cases o with
 |eq=>exact IT hu
 |ne=>exact IU hu
 |lt=>exact eX MV
 |le=>exact eX MW
 |gt=>exact eX GQ
 |ge=>exact eX MX
 |is=>exact IZ
 |isnot=>exact xz
 |isin=>exact IY hu
 |notin=>exact xy hu
end
section
variable {X:Cx} {K:Vf} {m:List Addr} {H:Hp} {S:Sto}
abbrev ixS(d i:D)(S:Sto):Option (D × Sto):=match i with
 | .int k=>(match d with
  |.str z=>if z.length<=100000 then (atI z.cps.toList k).map λc=>(.str ⟨#[c]⟩,S) else none
  | d=>(match ao d S with
   |some (_,ds)=>(atI ds k).map λx=>(x,S)
   | none=>none))
 |_=>none
theorem Ja{k:Int}(h:VDs K m H ds vs)(e:atI ds k=some d):∃v,atI vs k=some v/\VD K m H d v:=by
 unfold atI at e ⊢;rw[<-h.length];cases hi:ixN ds.length k with
 |none=>rw[hi] at e;cases e
 |some j=>
  rw[hi] at e;exact h.get e
theorem zL{k:Int}(sq:SqB K tu H a vs)(vd:VDs K m H ds vs)(e:atI ds k=some d)(q:∀v,VD K m H d v->Q v H):rIx K (.ref a) (.int k) H Q:=by
 obtain⟨v,ev,vv⟩:=Ja vd e;cases tu with
 |false=>exact .inl ⟨a,vs,k,v,rfl,rfl,sq,ev,q v vv⟩
 |true=>exact .inr (.inl ⟨a,vs,k,v,rfl,rfl,.of sq,ev,q v vv⟩)
theorem P2:IxR X (rS X.K ixS):=by
 intro value slice pins s σ H x y v u Q I rx ry h hs;refine y8 value slice pins s σ H x y v u Q I rx ry ?_ hs;obtain⟨m,S,a,b,d,S',R,va,vb,e,q⟩:=h;cases b with
 |int k=>
  cases vb.ints
  have main:∀r,ao a S=some r->(atI r.2 k).map (λx=>(x,S))=some (d,S')->rIx X.K x (.int k) H Q:=by
   intro r hi e;cases ha:atI r.2 k with
   |none=>rw[ha] at e;cases e
   |some z=>
    rw[ha] at e;cases e;obtain⟨p,vs,rfl,sq,vds⟩:=eJ (tu:=r.1) (ds:=r.2) R va hi;exact zL sq vds ha λv vv=>q m H v (Aft.refl R) vv
  cases a with
  |str z=>
   simp only[ixS] at e;split at e
   ·rename_i hl;cases hc:atI z.cps.toList k with
    |none=>rw[hc] at e;cases e
    |some c=>
     rw[hc] at e;cases e;exact .inr (.inr ⟨z,k,c,va.strs,rfl,by rw[Uk];lia,hc,q m H _ (Aft.refl R) jq⟩)
   ·cases e
  |tup ds=>exact main (true,ds) rfl e
  |ref n=>
   simp only[ixS] at e;cases hi:ao (.ref n) S with
   |none=>rw[hi] at e;cases e
   |some r=>rw[hi] at e;exact main r hi e
  |_=>simp[ixS,ao] at e
 |_=>simp[ixS] at e
abbrev tx(x:XA)(y:XE):XE:=λρ S=>bnd (x ρ S) λds S1=>bnd (y ρ S1) λi S2=>match i with
 |.int k=>(atI ds k).map λd=>(d,S2)
 |_=>none
theorem Jb(h:tE K (tx x y) σ H Q):tOp (rIx K) (eW K x) (tE K y) σ H Q:=by
 obtain⟨m,ρ,S,d,S',E,R,e,q⟩:=h;obtain⟨ds,S1,e1,e⟩:=ae e;obtain⟨i,S2,e2,e⟩:=ae e;refine⟨m,ρ,S,ds,S1,E,R,e1,λm1 H1 a vs A1 sq n1 n2 n3 vd=>⟨m1,ρ,S1,i,S2,E.mono R A1.ext,A1.rel,e2,λm2 H2 w A2 vb=>?_⟩⟩;cases i with
 |int k=>
  cases vb.ints;dsimp only at e;cases ha:atI ds k with
  |none=>rw[ha] at e;cases e
  |some z=>
   rw[ha] at e;cases e;exact zL (tu:=false) (show SqL K H2 a vs from SqL.of (A2.ext.keep _ _ sq n1)) (vd.mono A1.rel A2.ext) ha λv vv=>q m2 H2 v (A1.trans A2) vv
 |_=>cases e
abbrev dU(ds:List D)(lo hi:Option Int):List D:=(ds.drop (HT.sIx ds.length 0 lo)).take (HT.sIx ds.length ds.length hi - HT.sIx ds.length 0 lo)
theorem tz(h:VDs K m H ds vs)(lo hi:Option Int):VDs K m H (dU ds lo hi) (kM vs lo hi):=by
 unfold dU kM;rw[<-h.length];exact(h.drop _).take _
abbrev slS(lo hi:Option Int)(d:D)(S:Sto):Option (D × Sto):=match d with
 |.tup ds=>some (.tup (dU ds lo hi),S)
 | .ref n=>(match au S n with
  |some ds=>some (.ref S.length,S++[.lst (dU ds lo hi)])
  | none=>none)
 |_=>none
def rSl(K:Vf):V->Option Int->Option Int->Hp->VK->Prop:=λv lo hi H Q=>∃m S a d S',Rel K m S H/\VD K m H a v/\slS lo hi a S=some (d,S')/\∀m' H' u,Aft K m H S' m' H'->VD K m' H' d u->Q u H'
theorem tD{vs:List V}{lo hi:Option Int}(h:HT.sIx vs.length 0 lo=0/\HT.sIx vs.length vs.length hi=vs.length):kM vs lo hi=vs:=by
 unfold kM;rw[h.1,h.2];simp
theorem P3:SlR X (rSl X.K):=by
 intro pins s σ H x v vl vu lo hi sl Q I rx hs pl pu h;refine(SlR.or Dk C8) pins s σ H x v vl vu lo hi sl Q I rx hs pl pu ?_;obtain⟨m,S,a,d,S',R,va,e,q⟩:=h;cases a with
 |tup ds=>
  cases e;obtain⟨p,vs,rfl,sq,vds⟩:=va.tups;refine .inl ⟨p,vs,rfl,.of sq,λhw=>?_,λ_=>iT R (tz vds lo hi) q⟩;have:=tz vds lo hi;rw[tD hw] at this;exact q m H _ (Aft.refl R) (oX sq this)
 |ref n=>
  simp only[slS] at e;cases hn:au S n with
  |none=>rw[hn] at e;cases e
  |some ds=>
   rw[hn] at e;cases e;obtain⟨p,vs,hp,sq,vds⟩:=R.seq hn;obtain⟨p',hp',rfl⟩:=va.refs;rw[hp] at hp';cases hp';exact .inr ⟨p,vs,rfl,sq,oY R (tz vds lo hi) q⟩
 |_=>cases e
@[inline]abbrev XO:=Rho->Sto->Option (Option Int × Sto)
def tOI(K:Vf)(x:XO):TO:=λσ H Q=>∃m ρ S o S',EnvR K m H ρ σ/\Rel K m S H/\x ρ S=some (o,S')/\∀m' H',Aft K m H S' m' H'->Q o H'
abbrev tG:XO:=λ_ S=>some (none,S)
abbrev tH(x:XE):XO:=λρ S=>bnd (x ρ S) λd S1=>match d with
 |.int i=>some (some i,S1)
 |_=>none
theorem DG(h:tOI K tG σ H Q):vg σ H Q:=by
 obtain⟨m,ρ,S,o,S',E,R,e,q⟩:=h;cases e;exact q m H (Aft.refl R)
theorem DH(h:tOI K (tH x) σ H Q):GU (tE K x) σ H Q:=by
 obtain⟨m,ρ,S,o,S',E,R,e,q⟩:=h;obtain⟨d,S1,e1,e⟩:=ae e;refine⟨m,ρ,S,d,S1,E,R,e1,λm1 H1 v A1 vd=>?_⟩;cases d with
 |int i=>cases e;exact⟨i,vd.ints,q m1 H1 A1⟩
 |_=>cases e
theorem PO.imp(h:PO X e t)(f:∀σ H Q,t' σ H Q->t σ H Q):PO X e t':=λpins s σ H Q I q=>h pins s σ H Q I (f σ H Q q)
abbrev xSl(x:XE)(lo hi:XO):XE:=λρ S=>bnd (x ρ S) λd S1=>bnd (lo ρ S1) λl S2=>bnd (hi ρ S2) λh S3=>slS l h d S3
theorem Ni{x:XE}{lo hi:XO}{σ:L2.St}{H:Hp}{Q:VK}(h:tE K (xSl x lo hi) σ H Q):tSl (rSl K) (tE K x) (tOI K lo) (tOI K hi) σ H Q:=by
 obtain⟨m,ρ,S,d,S',E,R,e,q⟩:=h;obtain⟨a,S1,e1,e⟩:=ae e;obtain⟨l,S2,e2,e⟩:=ae e;obtain⟨u,S3,e3,e⟩:=ae e;refine⟨m,ρ,S,a,S1,E,R,e1,λm1 H1 v A1 vd=>⟨m1,ρ,S1,l,S2,E.mono R A1.ext,A1.rel,e2,λm2 H2 A2=>⟨m2,ρ,S2,u,S3,E.mono R (A1.trans A2).ext,A2.rel,e3,λm3 H3 A3=>?_⟩⟩⟩;exact⟨m3,S3,a,d,S',A3.rel,vd.mono A1.rel (A2.trans A3).ext,e,λm4 H4 w A4 vw=>q m4 H4 w (((A1.trans A2).trans A3).trans A4) vw⟩
abbrev k8(d:D)(S:Sto):Option (Bool × Sto):=match d with
 |.non=>some (false,S)
 |.bl b=>some (b,S)
 |.int i=>some (i != 0,S)
 |.str y=>if y.length<=100000 then some ((y.length:Int) != 0,S) else none
 |.tup ds=>some (!ds.isEmpty,S)
 | .ref n=>(match au S n with
  |some ds=>some (!ds.isEmpty,S)
  | none=>none)
theorem k9(h:VDs K m H ds vs):ds.isEmpty=vs.isEmpty:=by
 have:=h.length;cases ds <;> cases vs <;> simp at this ⊢
theorem Jc(R:Rel K m S H)(vd:VD K m H d v)(e:k8 d S=some (b,S')):S'=S/\C0 K v H b:=by
 cases d with
 |non=>cases e;cases vd.nons;exact⟨rfl,rfl⟩
 |bl _=>cases e;cases vd.bls;exact⟨rfl,rfl⟩
 |int _=>cases e;cases vd.ints;exact⟨rfl,rfl⟩
 |str y=>
  simp only[k8] at e;split at e
  ·rename_i hl;cases e;cases vd.strs;exact⟨rfl,by rw[Uk];lia,rfl⟩
  ·cases e
 |tup ds=>
  cases e;obtain⟨a,vs,rfl,sq,vds⟩:=vd.tups;exact⟨rfl,.inr (.inl ⟨vs,.of sq,by rw[k9 vds]⟩)⟩
 |ref n=>
  simp only[k8] at e;cases hn:au S n with
  |none=>rw[hn] at e;cases e
  |some ds=>
   rw[hn] at e;cases e;obtain⟨p,vs,hp,sq,vds⟩:=R.seq hn;obtain⟨p',hp',rfl⟩:=vd.refs;rw[hp] at hp';cases hp';exact⟨rfl,.inl ⟨vs,sq,by rw[k9 vds]⟩⟩
abbrev DI(x:XE):XT:=λρ S=>bnd (x ρ S) λd S1=>k8 d S1
theorem Jd(h:tT K (DI x) σ H Q):(tE K x) σ H λv H'=>∃k,C0 K v H' k/\Q k H':=by
 obtain⟨m,ρ,S,b,S',E,R,e,q⟩:=h;obtain⟨d,S1,e1,e⟩:=ae e;refine⟨m,ρ,S,d,S1,E,R,e1,λm1 H1 v A1 vd=>?_⟩;obtain⟨rfl,t⟩:=Jc A1.rel vd e;exact⟨b,t,q m1 H1 A1⟩
abbrev xB(x:XE):XT:=λρ S=>bnd (x ρ S) λd S1=>match d with
 |.bl b=>some (b,S1)
 |_=>none
theorem Nj(h:tT K (xB x) σ H Q):(tE K x) σ H λv H'=>∃k,v = .bl k/\Q k H':=by
 obtain⟨m,ρ,S,b,S',E,R,e,q⟩:=h;obtain⟨d,S1,e1,e⟩:=ae e;refine⟨m,ρ,S,d,S1,E,R,e1,λm1 H1 v A1 vd=>?_⟩;cases d with
 |bl k=>cases e;exact⟨b,vd.bls,q m1 H1 A1⟩
 |_=>cases e
abbrev cb(_:Bool)(ds:List D)(S:Sto):Option (D × Sto):=some (.int ds.length,S)
abbrev eK(_:Bool)(ds:List D)(S:Sto):Option (D × Sto):=some (.tup ds,S)
abbrev zM:D->Bool
 |.bl _=>true
 |_=>false
abbrev xD:D->Bool
 |.bl b=>b
 |_=>false
abbrev kf(tu:Bool)(ds:List D)(S:Sto):Option (D × Sto):=if tu=false/\ds.all zM=true then some (.bl (ds.all xD),S) else none
def r1(r:V->Hp->VK->Prop):List V->Hp->VK->Prop
 |[x],H,Q=>r x H Q
 |_,_,_=>False
theorem cV(h:r1 r xs H Q):∃x,xs=[x]/\r x H Q:=by
 match xs,h with
 |[x],h=>exact⟨x,rfl,h⟩
theorem xE:aX X (.builtin "len") (r1 (rSq X.K cb)):=by
 refine aX.imp oK λxs H Q h=>?_;obtain⟨_,rfl,m,S,tu,ds,a,vs,d,S',R,rfl,sq,vd,e,q⟩:=cV h;cases e;exact⟨a,vs,rfl,ic sq,q m H _ (Aft.refl R) (by rw[vd.length];exact bq)⟩
theorem xF:aX X (.type "tuple") (r1 (rSq X.K eK)):=by
 refine aX.imp mY λxs H Q h=>?_;obtain⟨_,rfl,m,S,tu,ds,a,vs,d,S',R,rfl,sq,vd,e,q⟩:=cV h;cases e;cases tu with
 |false=>exact⟨a,vs,rfl,.inl ⟨sq,iT R vd q⟩⟩
 |true=>exact⟨a,vs,rfl,.inr ⟨.of sq,q m H _ (Aft.refl R) (oX sq vd)⟩⟩
theorem zN:∀ {ds:List D} {vs:List V},VDs K m H ds vs->ds.all zM=true->vs=(ds.map xD).map V.bl
 |[],vs,h,_=>by rw[VDs] at h;rw[h];rfl
 |d::ds,vs,h,f=>by
  rw[VDs] at h;obtain⟨x,r,rfl,p,q⟩:=h;rw[Z4,bAE] at f;cases d with
  |bl b=>rw[p.bls,zN q f.2];rfl
  |_=>simp[zM] at f
theorem Je(ds:List D):(ds.map xD).all id=ds.all xD:=by rw[Yh];rfl
theorem xG(hc:X.calm=true):aX X (.builtin "all") (r1 (rSq X.K kf)):=by
 refine aX.imp (xn hc) λxs H Q h=>?_;obtain⟨_,rfl,m,S,tu,ds,a,vs,d,S',R,rfl,sq,vd,e,q⟩:=cV h;unfold kf at e;split at e
 ·rename_i hf;cases e;obtain⟨rfl,hf⟩:=hf;refine⟨a,ds.map xD,rfl,?_,q m H _ (Aft.refl R) (by rw[Je];exact bN)⟩;rw[<-zN vd hf];exact sq
 ·cases e
def rTm(K:Vf)(f:Bool->List D->Option (List D)):V->Hp->VK->Prop:=λv H Q=>∃m S tu ds a vs es,Rel K m S H/\v = .ref a/\SqB K tu H a vs/\VDs K m H ds vs/\f tu ds=some es ∧
 ∀m' H' p ws,Aft K m H S m' H'->H' p=some (.lst ws)->p ∉ m'->(∀b,b ∈ m->b ≠ p)->H p=none->VDs K m' H' es ws->Q (.ref p) H'
theorem lb:aX X (.type "list") (r1 (rTm X.K λ_ ds=>some ds)):=by
 refine aX.imp oM λxs H Q h=>?_;obtain⟨_,rfl,m,S,tu,ds,a,vs,es,R,rfl,sq,vd,e,q⟩:=cV h;cases e;exact⟨a,vs,rfl,ic sq,iU R vd q⟩
abbrev zO:D->D->Sto->Option (D × Sto)
 |.int i,.int j,S=>some (.int (if j > i then j else i),S)
 |_,_,_=>none
abbrev zP:D->D->Sto->Option (D × Sto)
 |.int i,.int j,S=>some (.int (if j < i then j else i),S)
 |_,_,_=>none
abbrev two(f:D->D->Sto->Option (D × Sto)):List D->Sto->Option (D × Sto)
 |[a,b],S=>f a b S
 |_,_=>none
theorem zQ(h:VDs K m H [a,b] vs):∃v w,vs=[v,w]/\VD K m H a v/\VD K m H b w:=by
 rw[VDs] at h;obtain⟨v,r,rfl,p,q⟩:=h;rw[VDs] at q;obtain⟨w,r',rfl,p',q'⟩:=q;rw[VDs] at q';subst q';exact⟨v,w,rfl,p,p'⟩
theorem Jf(h:VDs K m H [a] vs):∃v,vs=[v]/\VD K m H a v:=by
 rw[VDs] at h;obtain⟨v,r,rfl,p,q⟩:=h;rw[VDs] at q;subst q;exact⟨v,rfl,p⟩
theorem qL(h:two f as S=some r):∃a b,as=[a,b]/\f a b S=some r:=by
 match as,h with
 |[a,b],h=>exact⟨a,b,rfl,h⟩
theorem tI(hc:X.calm=true):aX X (.builtin "max") (rSA X.K (two zO)):=by
 refine aX.imp (w9 hc) λxs H Q h=>?_;obtain⟨m,S,as,d,S',R,vd,e,q⟩:=h;obtain⟨a,b,rfl,e2⟩:=qL e;obtain⟨v,w,rfl,p,p'⟩:=zQ vd;cases a <;> cases b <;> simp[zO] at e2;obtain⟨rfl,rfl⟩:=e2;exact⟨_,_,by rw[p.ints,p'.ints],q m H _ (Aft.refl R) bq⟩
theorem tJ(hc:X.calm=true):aX X (.builtin "min") (rSA X.K (two zP)):=by
 refine aX.imp (xa hc) λxs H Q h=>?_;obtain⟨m,S,as,d,S',R,vd,e,q⟩:=h;obtain⟨a,b,rfl,e2⟩:=qL e;obtain⟨v,w,rfl,p,p'⟩:=zQ vd;cases a <;> cases b <;> simp[zP] at e2;obtain⟨rfl,rfl⟩:=e2;exact⟨_,_,by rw[p.ints,p'.ints],q m H _ (Aft.refl R) bq⟩
inductive Ty where |int |bool |tuple |list |str
abbrev Ty.nm:Ty->String
 |.int => "int" |.bool => "bool" |.tuple => "tuple" |.list => "list" |.str => "str"
abbrev tyN(d:D)(S:Sto):Option String:=match d with
 |.non=>some "NoneType" |.bl _=>some "bool" |.int _=>some "int" |.str _=>some "str" |.tup _=>some "tuple"
 | .ref n=>(match S[n]? with
  |some (.lst _)=>some "list"
  |some (.frz _)=>some "list"
  |some (.dic _ _)=>some "dict"
  | none=>none)
abbrev fK(t:Ty)(n:String):Bool:=n == t.nm || (match t with |.int=>n == "bool" |_=>false)
abbrev lc(t:Ty)(d:D)(S:Sto):Option (D × Sto):=(tyN d S).map λn=>(.bl (fK t n),S)
theorem DJ(K:Vf)(t:Ty):(Vt K (.type "NoneType") (.type t.nm)=some (fK t "NoneType"))/\(Vt K (.type "bool") (.type t.nm)=some (fK t "bool"))/\(Vt K (.type "int") (.type t.nm)=some (fK t "int")) ∧
  (Vt K (.type "str") (.type t.nm)=some (fK t "str"))/\(Vt K (.type "tuple") (.type t.nm)=some (fK t "tuple"))/\(Vt K (.type "list") (.type t.nm)=some (fK t "list"))/\(Vt K (.type "dict") (.type t.nm)=some (fK t "dict")):=by
 cases t <;> exact⟨by kernel_rfl,by kernel_rfl,by kernel_rfl,by kernel_rfl,by kernel_rfl,by kernel_rfl,by kernel_rfl⟩
theorem Nk(R:Rel K m S H)(vd:VD K m H d v)(e:tyN d S=some n):TyOf K H v (.type n):=by
 cases d with
 |non=>cases e;cases vd.nons;exact .non
 |bl _=>cases e;cases vd.bls;exact .bl _
 |int _=>cases e;cases vd.ints;exact .int _
 |str _=>cases e;cases vd.strs;exact .str _
 |tup ds=>cases e;obtain⟨a,vs,rfl,sq,_⟩:=vd.tups;exact .tup sq
 |ref k=>
  simp only[tyN] at e;obtain⟨a,ha,rfl⟩:=vd.refs;cases hk:S[k]? with
  |none=>rw[hk] at e;cases e
  |some o=>
   rw[hk] at e;obtain⟨a',ha',r⟩:=R.ob k o hk;rw[ha] at ha';cases ha';cases o with
   |lst ds=>cases e;obtain⟨vs,h,_⟩:=r;exact .lst h
   |frz ds=>cases e;obtain⟨o,vs,h,_⟩:=r;exact .frz h
   |dic ks ds=>cases e;obtain⟨vs,h,_⟩:=r;exact .dK h
theorem zR(e:tyN d S=some n):n = "NoneType"\/n = "bool"\/n = "int"\/n = "str"\/n = "tuple"\/n = "list"\/n = "dict" := by
 cases d with
 |ref k=>
  simp only[tyN] at e;cases hk:S[k]? with
  |none=>rw[hk] at e;cases e
  |some o=>rw[hk] at e;cases o <;> cases e <;> simp
 |_=>cases e <;> simp
theorem Jg(K:Vf)(t:Ty)(h:n = "NoneType"\/n = "bool"\/n = "int"\/n = "str"\/n = "tuple"\/n = "list"\/n = "dict"):Vt K (.type n) (.type t.nm)=some (fK t n):=by
 obtain⟨a,b,c,d,e,f,g⟩:=DJ K t;rcases h with rfl |rfl |rfl |rfl |rfl |rfl |rfl <;> assumption
def Nm(K:Vf)(t:Ty)(te:TE):TE:=tCB (GX K) (cS te (cS (tC (.ty t.nm)) jk))
theorem DK(h:tE K (xUn (lc t) x) σ H Q):Nm K t (tE K x) σ H Q:=by
 obtain⟨m,ρ,S,d,S',E,R,e,q⟩:=h;obtain⟨a,S1,e1,e⟩:=ae e;refine⟨m,ρ,S,a,S1,E,R,e1,λm1 H1 v A1 va=>?_⟩;unfold lc at e;cases hn:tyN a S1 with
 |none=>rw[hn] at e;cases e
 |some n=>
  rw[hn] at e;cases e;exact⟨v,t.nm,_,_,rfl,Nk A1.rel va hn,Jg K t (zR hn),q m1 H1 _ A1 bN⟩
end
end Ev
namespace Ev
open PySem PySem.Spec PyProof.Rows L2
open PySem.W (KasT kas_sort kas_asc kas_desc kas_tail3 kas_descPart kas_count kas_place kas_bin kas_rev kas_ask KatTups)
abbrev eY{α:Type}(lt:Nat->Nat->Bool):KasT α->α
 |.ret a=>a
 |.ask i j k=>eY lt (k (lt i j))
def KT{α:Type}(n:Nat)(P:α->Prop):KasT α->Prop
 |.ret a=>P a
 |.ask i j k=>i < n/\j < n/\∀b,KT n P (k b)
theorem KT.bind{α β:Type}{n:Nat}{P:α->Prop}{R:β->Prop}{f:α->KasT β}(hf:∀a,P a->KT n R (f a)):∀ {t:KasT α},KT n P t->KT n R (t.bind f)
 |.ret a,h=>hf a h
 |.ask i j k,h=>⟨h.1,h.2.1,λb=>KT.bind hf (h.2.2 b)⟩
theorem KT.run{α:Type}{n:Nat}{P:α->Prop}{lt:Nat->Nat->Bool}:∀ {t:KasT α},KT n P t->P (eY lt t)
 |.ret a,h=>h
 |.ask i j k,h=>KT.run (t:=k (lt i j)) (h.2.2 (lt i j))
theorem qM{α:Type}{n:Nat}{P:α->Prop}{lt:Nat->Nat->Bool}{cmp:Nat->Nat->(Bool->Shared->Prop)->Shared->Prop}{s:Shared}(hc:∀i j,i < n->j < n->∀C:Bool->Shared->Prop,C (lt i j) s->cmp i j C s){Q:α->Shared->Prop} :
  ∀ {t:KasT α},KT n P t->Q (eY lt t) s->t.kasWp cmp Q s
 |.ret a,_,q=>q
 |.ask i j k,h,q=>hc i j h.1 h.2.1 _ (qM hc (h.2.2 (lt i j)) q)
def Pm(n:Nat)(p:Array Nat):Prop:=p.Perm (Xe (Zk n))
theorem Pm.at{n i:Nat}(h:Pm n p)(hn:0 < n):p.getD i 0 < n:=by
 by_cases hi:i < p.size
 ·have e:p.getD i 0=p[i]:=by simp[Array.getD,hi]
  rw[e];have hm:p[i] ∈ p:=Array.getElem_mem hi;have:=h.mem_iff.mp hm
  simpa using this
 ·have e:p.getD i 0=0:=by simp[Array.getD,hi]
  omega
theorem Pm.rev{n i j:Nat}(h:Pm n p):Pm n (kas_rev p i j):=(mirror_perm p i j _).trans h
theorem tK{n:Nat}(h:Pm n p)(hn:0 < n):∀f m,KT n (λ_=>True) (kas_asc p f m)
 |0,_=>trivial
 | f+1,m=>⟨h.at hn,h.at hn,λb=>by
  cases b with
  |true=>exact trivial
  | false=>exact tK h hn f (m+1)⟩
theorem km{n:Nat}(hn:0 < n):∀f (p:Array Nat) m q,Pm n p->KT n (λr:Array Nat × Nat × Nat=>Pm n r.1) (kas_desc f p m q)
 |0,p,m,q,h=>h
 | f+1,p,m,q,h=>⟨h.at hn,h.at hn,λb=>by
  cases b with
  |true=>
   show KT n _ (if q > 0 then kas_desc f (kas_rev p (m - (q+1)) m) (m+1) 0 else kas_desc f p (m+1) 0);split
   ·exact km hn f _ _ _ h.rev
   ·exact km hn f _ _ _ h
  | false=>exact⟨h.at hn,h.at hn,λd=>by
   cases d with
   |true=>exact h
   | false=>exact km hn f _ _ _ h⟩⟩
theorem qN{n:Nat}{p:Array Nat}(hn:0 < n)(h:Pm n p)(m r:Nat):KT n (λr:Nat × Array Nat=>Pm n r.2) (kas_tail3 m r p):=KT.bind (P:=λ_=>True) (f:=λm=>KasT.ret (m,kas_rev p 0 _)) (λ_ _=>(show KT n (λr:Nat × Array Nat=>Pm n r.2) (KasT.ret (_,kas_rev p 0 _)) from h.rev)) (tK h.rev hn _ _)
theorem jO{n:Nat}{p:Array Nat}(hn:0 < n)(h:Pm n p)(m r:Nat):KT n (λr:Nat × Array Nat=>Pm n r.2) (kas_descPart m r p):=KT.bind (λa ha=>by
 show KT n _ (if a.2.2 > 0 then _ else _);split
 ·exact qN hn (Pm.rev ha) _ _
 ·exact qN hn ha _ _) (km hn _ _ _ _ h)
theorem zS{n:Nat}{p:Array Nat}(hn:0 < n)(h:Pm n p)(r:Nat):KT n (λr:Nat × Array Nat=>Pm n r.2) (kas_count r p):=KT.bind (λa _=>by
 show KT n _ (if (a == r)=true then _ else if a > 1 then _ else _);split
 ·exact h
 ·split
  ·exact⟨h.at hn,h.at hn,λb=>by
    cases b with
    |true=>exact h
    | false=>exact jO hn h.rev _ _⟩
  ·exact jO hn h _ _) (tK h hn _ _)
theorem lh{n:Nat}{p:Array Nat}(hn:0 < n)(h:Pm n p)(m:Nat):∀f l r,KT n (λ_=>True) (kas_place p m f l r)
 |0,_,_=>trivial
 |f+1,l,r=>by
  show KT n _ (if l ≥ r then _ else _);split
  ·exact trivial
  ·exact⟨h.at hn,h.at hn,λb=>by
    cases b with
    |true=>exact lh hn h m f _ _
    | false=>exact lh hn h m f _ _⟩
theorem zT{n:Nat}(hn:0 < n):∀f (p:Array Nat) m,Pm n p->KT n (Pm n) (kas_bin f p m)
 |0,p,_,h=>h
 |f+1,p,m,h=>KT.bind (λl _=>zT hn f _ _ ((bubble_perm p m _).trans h)) (lh hn h m _ _ _)
theorem o4{n:Nat}(hn:0 < n):KT n (Pm n) (kas_sort n):=KT.bind (λr hr=>by
 show KT n _ (if r.1 < n then _ else _);split
 ·exact zT hn _ _ _ hr
 ·exact hr) (zS hn (Array.Perm.refl _) n)
section
variable {prog:Program} {w:World} {A:Around} {E:Value->Shared->Prop} {s:Shared}
theorem o5{a:Addr}{vs:List Value}{n:Nat}{P:PySem.Fin->Shared->Prop}(ho:s.heap.get? a=some (seqObj "list" vs.toArray n))(h64:vs.length < 64)(κ:SortKind)(lt:Nat->Nat->Bool)
  (hk:2<=vs.length->∀ (Q:SortKind->Shared->Prop),Q κ { s with heap:=((s.heap.update a (Obj.mapSeq λ_=>#[])).push (seqObj "tuple" vs.toArray 0)).push (seqObj "list" #[] 0) }->wpAny (model prog w) A (keyKind' vs.toArray) Q E { s with heap:=((s.heap.update a (Obj.mapSeq λ_=>#[])).push (seqObj "tuple" vs.toArray 0)).push (seqObj "list" #[] 0) })
  (hlt:∀i j,i < vs.length->j < vs.length->∀C:Bool->Shared->Prop,C (lt i j) { s with heap:=((s.heap.update a (Obj.mapSeq λ_=>#[])).push (seqObj "tuple" vs.toArray 0)).push (seqObj "list" #[] 0) } ->
   kas_ask prog w A κ vs i j C { s with heap:=((s.heap.update a (Obj.mapSeq λ_=>#[])).push (seqObj "tuple" vs.toArray 0)).push (seqObj "list" #[] 0) })
  (h:P (.done (.ret .none)) { s with heap:=sortedHeap s.heap a vs (if vs.length < 2 then vs.toArray else Xe ((eY lt (kas_sort vs.length)).toList.map λi=>vs.getD i Value.none)) }) :
  wpAny (model prog w) A (Builtin.«list.sort» ⟨[.ref a],[]⟩) P E s:=by
 rw[list_sort_plain];have ha:a < s.heap.objs.size:=Zq ho;refine Uy (listItems_at ho rfl ?_);refine Uy (listUpdate_at ho rfl ?_);obtain⟨e1,ho1⟩:∃e1,(s.heap.update a (Obj.mapSeq λ_=>#[])).get? a=some (seqObj "list" #[] e1):=⟨_,get?_update_seq ho (λ_=>#[])⟩;refine Uy (seqEpoch_at ho1 rfl ?_);refine Uy (wpAny_newTuple ?_);refine Uy (UO ?_);refine UG ?_
 have ho6:(((s.heap.update a (Obj.mapSeq λ_=>#[])).push (seqObj "tuple" vs.toArray 0)).push (seqObj "list" #[] 0)).get? a=some (seqObj "list" #[] e1):=by
  rw[XN _ _ _ (by rw[size_push',YM];exact ZF (Y2 ha)),XN _ _ _ (by rw[YM];exact ZF ha)];exact ho1
 show wpAny (model prog w) A _ P E { s with heap:=((s.heap.update a (Obj.mapSeq λ_=>#[])).push (seqObj "tuple" vs.toArray 0)).push (seqObj "list" #[] 0) };dsimp only;have hsz:vs.toArray.size=vs.length:=by simp
 by_cases h2:vs.toArray.size < 2
 ·rw[if_pos h2,if_pos h2];refine Uy (US ?_);rw[StateT.run_pure];refine Uy (US ?_);dsimp only;refine Uy (seqEpoch_at ho6 rfl ?_);refine Uy (listUpdate_at ho6 rfl ?_ (hsz2:=by rw[Array.size_map];show(pairsOf vs).size<=_;rw[pairsOf_size,Uk];omega));simp only[bne_self_eq_false,ZW,if_false];rw[if_pos (by rw[<-hsz];exact h2)] at h
  have e:Array.map (λx:Keyed=>x.2) (vs.toArray.zip vs.toArray)=vs.toArray:=by
   apply Array.toList_inj.mp;rw[Array.toList_map,Array.toList_zip,List.map_snd_zip (by simp)]
  refine US ?_;show P _ { s with heap:=sortedHeap s.heap a vs (Array.map (λx:Keyed=>x.2) (vs.toArray.zip vs.toArray)) };rw[e];exact h
 ·have h2':2<=vs.length:=by omega
  rw[if_neg h2,if_neg h2];rw[if_neg (by omega)] at h;refine Uy (hk h2' _ ?_)
  refine Uy (UM (PySem.W.kat_run (κ:=κ) (ks:=vs) (Q:=λst' s'=>s'={ s with heap:=((s.heap.update a (Obj.mapSeq λ_=>#[])).push (seqObj "tuple" vs.toArray 0)).push (seqObj "list" #[] 0) }/\arrOf st'=(eY lt (kas_sort vs.length)).map (PySem.W.kas_item (vs.toArray.zip vs.toArray))/\(eY lt (kas_sort vs.length)).size=vs.length/\failedOf st'=none)
   (G:=λp s'=>s'={ s with heap:=((s.heap.update a (Obj.mapSeq λ_=>#[])).push (seqObj "tuple" vs.toArray 0)).push (seqObj "list" #[] 0) }/\p=eY lt (kas_sort vs.length)) rfl h2' h64 (λp st' s' a1 a2 a3 a4=>⟨a4.1,a4.2 ▸ a2,a4.2 ▸ a1,a3⟩) (qM hlt (o4 (by omega)) ⟨rfl,rfl⟩)) ?_ λ_ _ e=>e)
  rintro⟨⟨⟩,st'⟩ s' ⟨rfl,har,hsz',hf⟩;dsimp only;have hout:=PySem.W.kat_snds rfl har;refine Uy (seqEpoch_at ho6 rfl ?_);rw[hout];refine Uy (listUpdate_at ho6 rfl ?_ (hsz2:=by rw[Zl,Za,ZH,hsz',Uk];omega));rw[hf];simp only[bne_self_eq_false,ZW,if_false];exact US h
end
section
variable {prog:Program} {w:World} {A:Around} {E:Value->Shared->Prop} {s:Shared}
theorem xH(hl:s.heap.IsList l vs.toArray)(h64:vs.length < 64)(κ:SortKind)(lt:Nat->Nat->Bool)
  (hk:2<=vs.length->∀ (A:Around) (s':Shared),(∀b o,s.heap.get? b=some o->s'.heap.get? b=some o)->∀ (E:Value->Shared->Prop) (Q:SortKind->Shared->Prop),Q κ s'->wpAny (model prog w) A (keyKind' vs.toArray) Q E s')
  (hlt:∀ (A:Around) (s':Shared),(∀b o,s.heap.get? b=some o->s'.heap.get? b=some o)->∀i j,i < vs.length->j < vs.length->∀C:Bool->Shared->Prop,C (lt i j) s'->kas_ask prog w A κ vs i j C s')
  (h:Q (.ref (s.heap.objs.size+1)) { s with heap:=sortedAll s.heap vs (if vs.length < 2 then vs.toArray else Xe ((eY lt (kas_sort vs.length)).toList.map λi=>vs.getD i Value.none)) }) :
  wpAny (model prog w) A (call (.builtin "sorted") [.ref l]) Q E s:=by
 refine Wv kind_sorted plain_sorted entry_sorted (args_sorted1 _) ?_;unfold Builtin.«sorted»;refine Uy (m:=checkCount "sorted" 1 1 _) (US ?_);refine Uy (collect_list hl ?_);refine Uy (UO ?_)
 have hsz:((s.heap.push (seqObj "list" #[] 0)).update s.heap.objs.size (Obj.mapSeq (·++vs.toArray))).objs.size=s.heap.objs.size+1:=by
  rw[YM,size_push']
 have hoL:(((s.heap.push (seqObj "list" #[] 0)).update s.heap.objs.size (Obj.mapSeq (·++vs.toArray))).push (seqObj "list" vs.toArray 0)).get? (s.heap.objs.size+1)=some (seqObj "list" vs.toArray 0):=by
  rw[<-hsz];exact Zy _ rfl
 have keep:∀b o,s.heap.get? b=some o->(((((s.heap.push (seqObj "list" #[] 0)).update s.heap.objs.size (Obj.mapSeq (·++vs.toArray))).push (seqObj "list" vs.toArray 0)).update (s.heap.objs.size+1) (Obj.mapSeq λ_=>#[])).push (seqObj "tuple" vs.toArray 0)).get? b=some o:=λb o q=>by
  have hlt:b < s.heap.objs.size:=Zq q;refine Zi _ ?_;rw[Xx _ _ _ _ (ZF (Y2 hlt))];refine Zi _ ?_;rw[Xx _ _ _ _ (ZF hlt)];exact Zi _ q
 show wpAny _ _ _ _ _ { s with heap:=((s.heap.push (seqObj "list" #[] 0)).update s.heap.objs.size (Obj.mapSeq (·++vs.toArray))).push (seqObj "list" vs.toArray 0) };rw[hsz];refine Uy (UG (UA slot_list_sort ⟨_,hoL,rfl⟩ entry_list_sort (o5 hoL h64 κ lt (λh2 Q q=>hk h2 _ _ (λb o z=>Zi _ (keep b o z)) _ Q q) (λi j hi hj C c=>hlt _ _ (λb o z=>Zi _ (keep b o z)) i j hi hj C c) ⟨_,rfl,?_⟩) (args_list_sort _)));exact US ⟨_,rfl,h⟩
abbrev tL(x y:Int × Int):Bool:=if x.1 == y.1 then (if x.2 == y.2 then false else decide (x.2 < y.2)) else decide (x.1 < y.1)
theorem zU{a b c d:Int}{n k:Nat}(hx:s.heap.get? x=some ox)(dx:ox.data = .seq #[.int a t1,.int b t2] n)(hy:s.heap.get? y=some oy)(dy:oy.data = .seq #[.int c t3,.int d t4] k)
  (h:C (tL (a,b) (c,d)) s):wpAny (model prog w) A (keyLt' (tuples' true) (.ref x) (.ref y)) C E s:=by
 refine PySem.W.kat_lt hx dx hy dy ?_;show PySem.W.KatLex prog w A true _ C [(.int a t1,.int c t3),(.int b t2,.int d t4)] 0 s;unfold tL at h;refine UC ?_;cases h1:a == c with
 |true=>
  rw[if_pos rfl];simp only[h1,if_true] at h;refine UC ?_;cases h2:b == d with
  |true=>rw[if_pos rfl];simp only[h2,if_true] at h;exact h
  |false=>
   rw[if_neg Zd];simp only[h2,ZW,if_false] at h;exact PySem.W.kat_one _ _ (lt_int h)
 |false=>
  rw[if_neg Zd];simp only[h1,ZW,if_false] at h;exact oneLt_int h
end
end Ev
namespace HT
open PySem PySem.Spec PyProof.Rows
section
variable {prog:Program} {w:World} {A:Around} {E:Value->Shared->Prop} {s:Shared}
theorem jr{sl:Addr}{n:Nat}{tk:Tok}{Q:Int × Int × Nat->Shared->Prop}(hs:s.heap.IsSliceOf sl .none .none (.int (-1) tk))
  (h:Q ((n:Int) - 1,-1,n) s):wpAny (model prog w) A (Builtin.Slice.sliceApplied (.ref sl) (pure (n:Int))) Q E s:=by
 obtain⟨os,hos,hcs,hds⟩:=id hs;unfold Builtin.Slice.sliceApplied Builtin.Slice.sliceFields;refine Uy (Uy (UF hos hds (x:=.none) rfl (Uy (UF hos hds (x:=.none) rfl (Uy (UF hos hds (x:=.int (-1) tk) rfl (US ?_)))))));refine Uy (slicePart_int ?_);show wpAny _ _ (if ((-1:Int) == 0)=true then _ else _) _ _ s;rw[if_neg (by decide)];refine Uy (slicePart_none (Uy (slicePart_none (Uy (US ?_)))));show wpAny _ _ (match Builtin.Slice.sliceAdjust none none (-1) (n:Int) with |(lo,hi)=>pure (lo,(-1:Int),Builtin.Slice.slicePlaces lo hi (-1))) _ _ s
 have e1:Builtin.Slice.sliceAdjust none none (-1) (n:Int)=((n:Int) - 1,-1):=by
  unfold Builtin.Slice.sliceAdjust;simp
 rw[e1];show wpAny _ _ (pure ((n:Int) - 1,(-1:Int),Builtin.Slice.slicePlaces ((n:Int) - 1) (-1) (-1))) _ _ s
 have e2:Builtin.Slice.slicePlaces ((n:Int) - 1) (-1) (-1)=n:=by
  unfold Builtin.Slice.slicePlaces;have h1:¬ ((-1:Int) > 0):=by decide
  simp only[h1,if_false,show(- -1:Int)=1 from rfl,Wf];split <;> omega
 rw[e2];exact US h
theorem zV(xs:Array Value):((Zk xs.size).filterMap λ(m:Nat)=>xs[((xs.size:Int) - 1+(m:Int) * -1).toNat]?).toArray=xs.toList.reverse.toArray:=by
 have e:(Zk xs.size).filterMap (λ(m:Nat)=>xs[((xs.size:Int) - 1+(m:Int) * -1).toNat]?)=((Zk xs.size).map λk=>xs.size - 1 - k).filterMap (xs[·]?):=by
  rw[XF]
  congr 1
  funext m
  show xs[((xs.size:Int) - 1+(m:Int) * -1).toNat]?=xs[xs.size - 1 - m]?
  congr 1
  omega
 rw[e,PySem.W.krv_range,List.filterMap_reverse,PySem.W.krv_all]
theorem iX{t sl:Addr}{items:Array Value}{tk:Tok}{Q:Value->Shared->Prop}(ht:IsTup s.heap t items)(hs:s.heap.IsSliceOf sl .none .none (.int (-1) tk))
  (h:Q (.ref s.heap.objs.size) { s with heap:=s.heap.push { cls:=.type "tuple", data:=.seq items.toList.reverse.toArray } })
  (hsz:items.size<=sizeLine):wpAny (model prog w) A (getItem (.ref t) (.ref sl)) Q E s:=by
 have htake:sizeOk (.seq items.toList.reverse.toArray):=by
  show items.toList.reverse.toArray.size<=sizeLine;rw[Zl,YS,ZH];exact hsz
 obtain⟨os,hos,hcs,hds⟩:=id hs;have hTs:s.TypeIs (.ref sl) "slice" := ⟨os,hos,hcs⟩;unfold getItem
 try with_reducible refine UG ?_
 first |refine Uy (US ?_) |skip
 refine Uy (UZ ht.typeIs (by decide) ?_)
 refine Uy (wpAny_callSpecial?_slot (name:=Str.ofString "__getitem__") ht.typeIs Wt
  (UA Wt ht.typeIs entry_tuple_getitem ?_ (args_tuple_getitem _ _)))
 show wpAny _ _ (Builtin.Tuple.tupleItemsOf (.ref t) >>= _) _ _ s;refine Uy (tupleItemsOf_ ht ?_);refine Uy (U3 hTs ?_);rw[if_pos (by decide)];refine Uy (jr hs ?_);show wpAny _ _ (if (((items.size:Int) - 1) == 0 && (-1:Int) == 1 && items.size == items.size)=true then _ else _) _ _ s;rw[if_neg (by rw[show((-1:Int) == 1)=false from rfl,YV,Yq];exact Zd),zV]
 first
  |exact Uy (m:=Builtin.Tuple.tupleExact _) (UP (US ⟨_,rfl,US h⟩) htake)
  |exact Uy (m:=Builtin.Tuple.tupleExact _) (UP (Uy (US (US ⟨_,rfl,US h⟩))) htake)
  |exact Uy (Uy (m:=Builtin.Tuple.tupleExact _) (UP (US (US ⟨_,rfl,US h⟩)) htake))
  |exact Uy (Uy (m:=Builtin.Tuple.tupleExact _) (UP (US ⟨_,rfl,US h⟩) htake))
theorem qO{l:Addr}{vs:List Value}{Q:List Value->Shared->Prop}(hl:IsTup s.heap l vs.toArray)
  (h:Q vs { s with heap:=(s.heap.push (seqObj "list" #[] 0)).update s.heap.objs.size (Obj.mapSeq (·++vs.toArray)) }) (hsz:vs.length<=sizeLine) :
  wpAny (model prog w) A (collect (.ref l)) Q E s:=by
 obtain⟨o,ho,hc,n,hd⟩:=id hl;unfold collect;refine Uy (wpAny_runValue (VP entry_proto_collect' ?_));show wpAny _ _ (do again (.builtin "list.__iadd__" ⟨[<-newList [],.ref l],[]⟩)) _ _ s;refine Uy (UO (US ⟨Code.quiet_builtin _ (by decide +kernel),VP entry_list_iadd' ?_⟩));show wpAny _ _ (Builtin.List.listExtendWith (.ref s.heap.objs.size) (.ref l) (.ref s.heap.objs.size)) _ _ { s with heap:=s.heap.push (seqObj "list" #[] 0) };unfold Builtin.List.listExtendWith;have ho':(s.heap.push (seqObj "list" #[] 0)).get? l=some o:=Zi _ ho;refine Uy (U3 (T := "tuple") ⟨o,ho',hc⟩ ?_);have ht:(Value.type "tuple" == Value.type "tuple")=true:=by rfl
 rw[if_pos (by rw[ht];simp)];refine Uy (listItems_at ho' hd ?_);refine Uy (listItems_at (xs:=#[]) (n:=0) (Zy _ rfl) rfl ?_);rw[if_neg (by simp)];refine Uy (listUpdate_at (xs:=#[]) (n:=0) (Zy _ rfl) rfl ?_ (YZ _) (by show(#[]++vs.toArray).size<=sizeLine+1;simp only[Array.size_append,Zl,Z2];omega));refine US ?_
 show wpAny (model prog w) A (do
   let o <-load s.heap.objs.size
   match o.data with
   |.seq xs _=>pure xs.toList
   | _=>unsupported "internal:collect") Q E { s with heap:=(s.heap.push (seqObj "list" #[] 0)).update s.heap.objs.size (Obj.mapSeq (·++vs.toArray)) }
 refine Uy (wpAny_load (get?_update_seq (Zy _ rfl) _) ?_);show wpAny _ _ (pure ((#[]:Array Value)++vs.toArray).toList) Q E _;rw[show((#[]:Array Value)++vs.toArray).toList=vs by simp];exact US h
theorem tM{l:Addr}{vs:List Value}{ns:List Int}{Q:Value->Shared->Prop}(hl:IsTup s.heap l vs.toArray)(hI:IntsAre vs ns)(h64:vs.length < 64)
  (h:∀ (out:Array Value) (ns':List Int),IntsAre out.toList ns'->ns'.Perm ns->ns'.Pairwise (·<=·)->Q (.ref (s.heap.objs.size+1)) { s with heap:=sortedAll s.heap vs out }) :
  wpAny (model prog w) A (call (.builtin "sorted") [.ref l]) Q E s:=by
 refine Wv kind_sorted plain_sorted entry_sorted (args_sorted1 _) ?_;unfold Builtin.«sorted»;refine Uy (m:=checkCount "sorted" 1 1 _) (US ?_);refine Uy (qO hl ?_ (by rw[Uk];omega));refine Uy (UO ?_)
 have hsz:((s.heap.push (seqObj "list" #[] 0)).update s.heap.objs.size (Obj.mapSeq (·++vs.toArray))).objs.size=s.heap.objs.size+1:=by
  rw[YM,size_push']
 have hoL:(((s.heap.push (seqObj "list" #[] 0)).update s.heap.objs.size (Obj.mapSeq (·++vs.toArray))).push (seqObj "list" vs.toArray 0)).get? (s.heap.objs.size+1)=some (seqObj "list" vs.toArray 0):=by
  rw[<-hsz];exact Zy _ rfl
 show wpAny _ _ _ _ _ { s with heap:=((s.heap.push (seqObj "list" #[] 0)).update s.heap.objs.size (Obj.mapSeq (·++vs.toArray))).push (seqObj "list" vs.toArray 0) };rw[hsz];refine Uy (UG (UA slot_list_sort ⟨_,hoL,rfl⟩ entry_list_sort (list_sort_tree hoL hI h64 λout ns' a1 a2 a3=>⟨_,rfl,?_⟩) (args_list_sort _)));exact US ⟨_,rfl,h out ns' a1 a2 a3⟩
end
end HT
namespace Ev
open PySem PySem.Spec PyProof.Rows L2
section
variable {X:Cx} {e:Expr} {te:TE} {pos p2 p3 p4:Pos}
theorem aO.rev:∀ {xs:List V} {us:List Value},aO xs us->aO xs.reverse us.reverse
 |[],_,.nil=>.nil
 |_::_,_,.cons r t=>by rw[YH,YH];exact(aO.rev t).append (.cons r .nil)
theorem VDs.rev{K:Vf}:∀ {ds:List D} {vs:List V},VDs K m H ds vs->VDs K m H ds.reverse vs.reverse
 |[],vs,h=>by rw[VDs] at h;subst h;exact .nil
 |d::ds,vs,h=>by
  rw[VDs] at h;obtain⟨y,r,rfl,p,q⟩:=h;rw[YH,YH];exact(VDs.rev q).append (.cons p .nil)
abbrev zW(d:D)(S:Sto):Option (D × Sto):=match d with
 |.tup ds=>some (.tup ds.reverse,S)
 |_=>none
theorem Jh{k:Nat}(he:PE X e te):PE X (.Subscript e (.Slice none none (some (.UnaryOp .USub (.Constant (.int 1) k p3) p4)) p2) pos) (tUn (rS1 X.K zW) te):=by
 intro pins s σ H Q I h;refine Subscript_ (thn (he pins s σ H _ I h) λv s1 ⟨x,H1,I1,r1,q1⟩=>?_);refine wpAny_Slice ?_;rw[VX];refine US (US ?_);refine thn (vh (GP yT ji) pins s1 σ H1 (λo H2=>o=some (-1)/\H2=H1) I1 ⟨_,rfl,_,rfl,rfl,rfl⟩) λvk s2 ⟨o,H2,I2,pk,ho,hH⟩=>?_;subst ho hH;cases pk with
 |int i tk=>
  have I3:L2.Inv X pins σ H2 { s2 with heap:=s2.heap.push { cls:=.type "slice", data:=.fields #[.none,.none,.int (-1) tk] } }:=I2.kept (t':=s2.toks) λb ob q=>Zi _ q;obtain⟨m,S,a,d,S',R,va,e1,q⟩:=q1;cases a with
  |tup ds=>
   cases e1;obtain⟨p,vs,rfl,sq,vds⟩:=va.tups;cases r1;obtain⟨its,r,ht,hz⟩:=I3.tuple (.of sq);have hlen:its.toArray.size=vs.length:=by rw[Zl];exact r.length.symm
   refine tail_any (ops:=[.ref p,.ref s2.heap.objs.size]) ht.typeIs PyProof.Rows.slot_tuple_getitem.lookup (HT.iX ht (Heap.IsSliceOf.new ..) ?_ (by rw[hlen];exact hz)) (by with_unfolding_all rfl);refine⟨.ref _,_,I3.laid (o:=.tup vs.reverse) (λb ob q=>Zi _ q) (Zg _) ?_,rfl,iT R (VDs.rev vds) q _ (I3.hok.fresh (Zg _))⟩;exact⟨by rw[YS];exact hz,_,aO.rev r,oq.new _ _⟩
  |_=>cases e1
end
end Ev
namespace Ev
open PySem PySem.Spec PyProof.Rows L2
open PySem.W (kas_sort KatTups)
section
variable {X:Cx} {K:Vf} {m:List Addr} {H:Hp} {S:Sto}
inductive PairsV(H:Hp):List V->List (Int × Int)->Prop where
 |nil:PairsV H [] []
 |cons {r:Addr} {x y:Int} {vs:List V} {ps:List (Int × Int)}:H r=some (.tup [.int x,.int y])->PairsV H vs ps->PairsV H (.ref r::vs) ((x,y)::ps)
abbrev m6(ps:List (Int × Int))(i j:Nat):Bool:=tL (ps.getD i (0,0)) (ps.getD j (0,0))
abbrev dh{α:Type}(ps:List (Int × Int))(d:α)(vs:List α):List α:=if vs.length < 2 then vs else (eY (m6 ps) (kas_sort vs.length)).toList.map λi=>vs.getD i d
theorem PairsV.len{vs:List V}{ps:List (Int × Int)}(h:PairsV H vs ps):vs.length=ps.length:=by
 induction h with
 |nil=>rfl
 |cons _ _ ih=>simp[ih]
def G0(h:Heap)(v:Value)(q:Int × Int):Prop:=∃r o t1 t2 n,v = .ref r/\h.get? r=some o/\o.cls = .type "tuple"/\o.data = .seq #[.int q.1 t1,.int q.2 t2] n
theorem PairsV.heap{pins:List (Addr × Obj)}{s:Shared}{σ:L2.St}(I:Inv X pins σ H s){vs:List V}{ps:List (Int × Int)}(h:PairsV H vs ps):∀ {its:List Value},aO vs its->∀ (i:Nat),i < its.length->G0 s.heap (its.getD i Value.none) (ps.getD i (0,0)):=by
 induction h with
 |nil=>intro its r i hi;cases r;simp at hi
 |@cons r x y vs ps hr _ ih=>
  intro its rv i hi;cases rv with
  |@cons _ u _ us r1 r2=>
   cases i with
   |zero=>
    cases r1;obtain⟨it2,rr,⟨o,e,hc,n,hd⟩,_⟩:=I.tuple (SqT.of (K:=X.K) hr);obtain⟨a,b,rfl,⟨t1,rfl⟩,⟨t2,rfl⟩⟩:=uZ rr;exact⟨r,o,t1,t2,n,rfl,e,hc,hd⟩
   |succ i=>
    have:=ih r2 i (by simpa using hi)
    simpa using this
theorem vI{h:Heap}:∀ {its:List Value} {ps:List (Int × Int)},(∀i,i < its.length->G0 h (its.getD i Value.none) (ps.getD i (0,0)))->∃fs:List Value,KatTups h its fs/\fs.length=its.length/\∀v ∈ fs,∃i t,v = .int i t
 |[],_,_=>⟨[],KatTups.nil,rfl,λv hv=>by simp at hv⟩
 |v::its,ps,hp=>by
  obtain⟨r,o,t1,t2,n,ev,e,hc,hd⟩:=hp 0 (by simp)
  obtain⟨fs,k,hl,hi⟩:=vI (its:=its) (ps:=ps.tail) λi hi=>by
   have:=hp (i+1) (by simpa using hi);cases ps with
   |nil=>simpa using this
   |cons _ _=>simpa using this
  have ev':v = .ref r:=by simpa using ev
  subst ev'
  exact⟨.int (ps.getD 0 (0,0)).1 t1::fs,KatTups.cons e hc hd rfl k,by simp[hl],λw hw=>by
   rcases Zm.mp hw with rfl |hw
   ·exact⟨_,_,rfl⟩
   ·exact hi w hw⟩
theorem DM(r:aO vs its){i:Nat}(hi:i < vs.length):aI (vs.getD i .non) (its.getD i Value.none):=by
 obtain⟨u,e,ru⟩:=r.get (gEG hi);rw[Yl,Yl,gEG hi,e];exact ru
theorem nD{vs:List V}{its:List Value}(r:aO vs its):∀ (l:List Nat),(∀i ∈ l,i < vs.length)->aO (l.map λi=>vs.getD i .non) (l.map λi=>its.getD i Value.none)
 |[],_=>.nil
 |i::l,h=>.cons (DM r (h i Zh)) (nD r l λj hj=>h j (Ze _ hj))
theorem fL{n:Nat}{lt:Nat->Nat->Bool}(hn:0 < n):(∀i ∈ (eY lt (kas_sort n)).toList,i < n)/\(eY lt (kas_sort n)).toList.length=n:=by
 have h:Pm n (eY lt (kas_sort n)):=(o4 hn).run;refine⟨λi hi=>?_,?_⟩
 ·have:=h.mem_iff.mp (Xm.mp hi)
  simpa using this
 ·have:=h.size_eq;rw[ZH,this];simp
theorem tN{α:Type}{ps:List (Int × Int)}{d:α}{vs:List α}:(dh ps d vs).length=vs.length:=by
 unfold dh;split
 ·rfl
 ·rw[Za,(fL (by lia)).2]
theorem tP:aX X (.builtin "sorted") (λxs H Q=>∃a vs ps,xs=[.ref a]/\SqL X.K H a vs/\PairsV H vs ps/\vs.length < 64/\∀p,H p=none->Q (.ref p) (upd H p (.lst (dh ps .non vs)))):=by
 intro pins s σ H xs us Q I r h;obtain⟨a,vs,ps,rfl,sq,pv,h64,q⟩:=h;obtain⟨u,rfl,ru⟩:=cx r;cases ru;obtain⟨its,rv,pl,hz⟩:=I.list sq;have hlen:=rv.length;have ph:=pv.heap I rv;have hl2:=pv.len;refine xH pl.isList (by lia) (tuples' true) (m6 ps) (λh2 A s' kp E Q' hq=>?_) (λA s' kp i j hi hj C hC=>?_) ?_
 ·obtain⟨fs,kt,hf,hi⟩:=vI (h:=s'.heap) λi hi=>by
   obtain⟨r,o,t1,t2,n,e1,e2,e3,e4⟩:=ph i hi;exact⟨r,o,t1,t2,n,e1,kp _ _ e2,e3,e4⟩
  refine PySem.W.kat_kind (T:=.type "int") kt (by lia) (λv hv=>?_) (by decide) hq;obtain⟨i,t,rfl⟩:=hi v hv;exact PySem.W.Looks.of_pure rfl
 ·obtain⟨r1,o1,t1,t2,n1,a1,a2,a3,a4⟩:=ph i hi;obtain⟨r2,o2,t3,t4,n2,b1,b2,b3,b4⟩:=ph j hj;show wpAny _ A (keyLt' (tuples' true) (its.getD i Value.none) (its.getD j Value.none)) C _ s';rw[a1,b1];exact zU (kp _ _ a2) a4 (kp _ _ b2) b4 hC
 ·have hv:aO (dh ps .non vs) (if its.length < 2 then its else (eY (m6 ps) (kas_sort its.length)).toList.map λi=>its.getD i Value.none):=by
   unfold dh;rw[hlen];split
   ·exact rv
   ·exact nD rv _ λi hi=>by rw[hlen];exact(fL (by lia)).1 i hi
  have eo:(if its.length < 2 then its.toArray else Xe ((eY (m6 ps) (kas_sort its.length)).toList.map λi=>its.getD i Value.none))=(if its.length < 2 then its else (eY (m6 ps) (kas_sort its.length)).toList.map λi=>its.getD i Value.none).toArray:=by split <;> rfl
  rw[eo];obtain⟨e,he⟩:=sortedAll_at s.heap its (if its.length < 2 then its else (eY (m6 ps) (kas_sort its.length)).toList.map λi=>its.getD i Value.none).toArray;exact⟨.ref (s.heap.objs.size+1),_,I.laid (t':=s.toks) (a:=s.heap.objs.size+1) (o:=.lst (dh ps .non vs)) (λb o z=>sortedAll_old z) (Yk _) ⟨by rw[tN];exact hz,_,e,hv,he⟩,rfl,q _ (I.hok.fresh (Yk _))⟩
abbrev tQ(x:Int):List Int->List Int
 |[]=>[x]
 |y::l=>if x<=y then x::y::l else y::tQ x l
abbrev bP:List Int->List Int
 |[]=>[]
 |x::l=>tQ x (bP l)
theorem jt(x:Int):∀l,(tQ x l).Perm (x::l)
 |[]=>List.Perm.refl _
 |y::l=>by
  unfold tQ;split
  ·exact List.Perm.refl _
  ·exact((jt x l).cons y).trans (List.Perm.swap x y l)
theorem bu:∀l,(bP l).Perm l
 |[]=>List.Perm.refl _
 |x::l=>(jt x (bP l)).trans ((bu l).cons x)
theorem jP(x:Int):∀l:List Int,l.Pairwise (·<=·)->(tQ x l).Pairwise (·<=·)
 |[],_=>by unfold tQ;simp
 |y::l,h=>by
  unfold tQ;rw[Yw] at h;split
  ·rename_i c;refine Yw.mpr ⟨λz hz=>?_,Yw.mpr h⟩;rcases Zm.mp hz with rfl |hz
   ·exact c
   ·have:=h.1 z hz;lia
  ·rename_i c;refine Yw.mpr ⟨λz hz=>?_,jP x l h.2⟩;rcases Zm.mp ((jt x l).mem_iff.mp hz) with rfl |hz
   ·lia
   ·exact h.1 z hz
theorem cX:∀l,(bP l).Pairwise (·<=·)
 |[]=>List.Pairwise.nil
 |x::l=>jP x _ (cX l)
theorem eZ:∀ {a b:List Int},a.Perm b->a.Pairwise (·<=·)->b.Pairwise (·<=·)->a=b
 |[],b,p,_,_=>(List.Perm.nil_eq p)
 |x::a,[],p,_,_=>(List.Perm.nil_eq p.symm).symm
 |x::a,y::b,p,ha,hb=>by
  rw[Yw] at ha hb
  have e:x=y:=by
   have h1:=p.mem_iff.mp (Zh (a:=x) (l:=a));have h2:=p.mem_iff.mpr (Zh (a:=y) (l:=b));rcases Zm.mp h1 with rfl |h1
   ·rfl
   ·rcases Zm.mp h2 with h2 |h2
    ·exact h2.symm
    ·have:=ha.1 y h2;have:=hb.1 x h1
     lia
  subst e;rw[eZ (List.Perm.cons_inv p) ha.2 hb.2]
theorem bH:∀ {ns:List Int} {us:List Value},aO (ns.map V.int) us->IntsAre us ns
 |[],_,h=>by cases h;exact .nil
 |n::ns,_,h=>by
  cases h with
  |cons r1 r2=>obtain⟨t,rfl⟩:=r1;exact .cons n t (bH r2)
theorem tR:aX X (.builtin "sorted") (λxs H Q=>∃a ns,xs=[.ref a]/\SqL X.K H a (ns.map V.int)/\ns.length < 64/\∀p,H p=none->Q (.ref p) (upd H p (.lst ((bP ns).map V.int)))):=by
 intro pins s σ H xs us Q I r h;obtain⟨a,ns,rfl,sq,h64,q⟩:=h;obtain⟨u,rfl,ru⟩:=cx r;cases ru;obtain⟨its,rv,pl,hz⟩:=I.list sq;have hlen:=rv.length;rw[Za] at hlen hz;refine sorted_ints pl.isList (bH rv) (by lia) λout ns' h1 h2 h3=>?_;have e:ns'=bP ns:=eZ (h2.trans (bu ns).symm) h3 (cX ns);subst e;obtain⟨e,he⟩:=sortedAll_at s.heap its out;refine⟨.ref (s.heap.objs.size+1),_,I.laid (t':=s.toks) (a:=s.heap.objs.size+1) (o:=.lst ((bP ns).map V.int)) (λb o z=>sortedAll_old z) (Yk _) ⟨by rw[Za,(bu ns).length_eq];exact hz,out.toList,e,gz h1,by simpa using he⟩,rfl,q _ (I.hok.fresh (Yk _))⟩
abbrev lp:D->Option (Int × Int)
 |.tup [.int a,.int b]=>some (a,b)
 |_=>none
abbrev dX:List D->Option (List (Int × Int))
 |[]=>some []
 |d::ds=>match lp d,dX ds with
  |some p,some ps=>some (p::ps)
  |_,_=>none
abbrev fM:List D->Option (List Int)
 |[]=>some []
 |d::ds=>match d,fM ds with
  |.int i,some ms=>some (i::ms)
  |_,_=>none
abbrev tS(_:Bool)(ds:List D):Option (List D):=match dX ds with
 |some ps=>if ds.length < 64 then some (dh ps .non ds) else none
 | none=>(match fM ds with
  |some ns=>if ns.length < 64 then some ((bP ns).map D.int) else none
  | none=>none)
theorem fN:∀ {ds:List D} {ns:List Int},fM ds=some ns->ds=ns.map D.int
 |[],_,e=>by cases e;rfl
 |d::ds,ns,e=>by
  simp only[fM] at e;split at e
  ·rename_i i ms h1;cases e;rw[fN h1];rfl
  ·cases e
theorem eL:∀ {ns:List Int} {vs:List V},VDs K m H (ns.map D.int) vs->vs=ns.map V.int
 |[],_,h=>by rw[Z5,VDs] at h;exact h
 |n::ns,_,h=>by
  rw[Zu,VDs] at h;obtain⟨v,r,rfl,h1,h2⟩:=h;rw[h1.ints,eL h2];rfl
theorem ju:∀ (ns:List Int),VDs K m H (ns.map D.int) (ns.map V.int)
 |[]=>by rw[Z5,Z5,VDs]
 |n::ns=>by rw[Zu,Zu,VDs];exact⟨_,_,rfl,bq,ju ns⟩
theorem qP:∀ {ds:List D} {vs:List V} {ps:List (Int × Int)},dX ds=some ps->VDs K m H ds vs->PairsV H vs ps
 |[],vs,ps,e,h=>by rw[VDs] at h;subst h;cases e;exact .nil
 |d::ds,vs,ps,e,h=>by
  rw[VDs] at h;obtain⟨v,r,rfl,h1,h2⟩:=h;simp only[dX] at e;cases hd:lp d with
  |none=>rw[hd] at e;cases e
  |some p=>
   cases hr:dX ds with
   |none=>rw[hd,hr] at e;cases e
   |some qs=>
    rw[hd,hr] at e;cases e;unfold lp at hd;split at hd
    ·cases hd;obtain⟨a,xs,rfl,hH,vx⟩:=h1.tups;obtain⟨x,y,rfl,v1,v2⟩:=zQ vx;cases v1.ints;cases v2.ints;exact .cons hH (qP hr h2)
    ·cases hd
theorem vJ(h:VDs K m H ds vs):∀ (l:List Nat),(∀i ∈ l,i < ds.length)->VDs K m H (l.map λi=>ds.getD i .non) (l.map λi=>vs.getD i .non)
 |[],_=>by rw[Z5,Z5,VDs]
 |i::l,hl=>by
  rw[Zu,Zu,VDs];obtain⟨v,e,vv⟩:=h.get (gEG (hl i Zh));refine⟨_,_,rfl,?_,vJ h l λj hj=>hl j (Ze _ hj)⟩;rw[Yl,Yl,gEG (hl i Zh),e];exact vv
abbrev xI(ds:List D):Option (List D):=match fM ds with
 |some ns=>if ns.length < 64 then some ((bP ns).map D.int) else none
 |none=>none
theorem tU:aX X (.builtin "sorted") (λxs H Q=>∃a ns,xs=[.ref a]/\SqT X.K H a (ns.map V.int)/\ns.length < 64/\∀p,H p=none->Q (.ref p) (upd H p (.lst ((bP ns).map V.int)))):=by
 intro pins s σ H xs us Q I r h;obtain⟨a,ns,rfl,sq,h64,q⟩:=h;obtain⟨u,rfl,ru⟩:=cx r;cases ru;obtain⟨its,rv,pl,hz⟩:=I.tuple sq;have hlen:=rv.length;rw[Za] at hlen hz;refine HT.tM pl (bH rv) (by lia) λout ns' h1 h2 h3=>?_;have e:ns'=bP ns:=eZ (h2.trans (bu ns).symm) h3 (cX ns);subst e;obtain⟨e,he⟩:=sortedAll_at s.heap its out;refine⟨.ref (s.heap.objs.size+1),_,I.laid (t':=s.toks) (a:=s.heap.objs.size+1) (o:=.lst ((bP ns).map V.int)) (λb o z=>sortedAll_old z) (Yk _) ⟨by rw[Za,(bu ns).length_eq];exact hz,out.toList,e,gz h1,by simpa using he⟩,rfl,q _ (I.hok.fresh (Yk _))⟩
theorem nF:aX X (.builtin "sorted") (r1 (rTm X.K λtu ds=>if tu=false then tS tu ds else xI ds)):=by
 refine aX.imp (aX.or tU (aX.or tP tR)) λxs H Q h=>?_;obtain⟨_,rfl,m,S,tu,ds,a,vs,es,R,rfl,sq,vd,e,q⟩:=cV h;cases tu with
 |true=>
  left;have e:xI ds=some es:=by simpa using e
  unfold xI at e;cases hi:fM ds with
  |none=>rw[hi] at e;cases e
  |some ns=>
   rw[hi] at e;dsimp only at e;split at e
   ·rename_i hl;cases e;have ed:=fN hi;subst ed;have ev:=eL vd;subst ev;exact⟨a,ns,rfl,.of sq,hl,iU R (ju _) q⟩
   ·cases e
 |false=>
  right;have e:tS false ds=some es:=by simpa using e
  unfold tS at e;cases hp:dX ds with
  |none=>
   rw[hp] at e;dsimp only at e;cases hi:fM ds with
   |none=>rw[hi] at e;cases e
   |some ns=>
    rw[hi] at e;dsimp only at e;split at e
    ·rename_i hl;cases e;have ed:=fN hi;subst ed;have ev:=eL vd;subst ev;exact .inr ⟨a,ns,rfl,sq,hl,iU R (ju _) q⟩
    ·cases e
  |some ps=>
   rw[hp] at e;dsimp only at e;split at e
   ·rename_i hl;cases e;have hlen:=vd.length;refine .inl ⟨a,vs,ps,rfl,sq,qP hp vd,by lia,iU R ?_ q⟩;unfold dh;rw[<-hlen];split
    ·exact vd
    ·exact vJ vd _ λi hi=>(fL (by lia)).1 i hi
   ·cases e
end
end Ev
namespace Ev
open PySem PySem.Spec PyProof.Rows L2
abbrev ie:List Int->Int
 |[]=>0
 |n::ns=>ns.foldl (λa b=>if a < b then b else a) n
theorem iY:∀ (ns:List Int) (n:Int),(ns.foldl (λa b=>if a < b then b else a) n) ∈ n::ns/\∀x ∈ n::ns,x<=ns.foldl (λa b=>if a < b then b else a) n
 |[],n=>⟨Zh,λx hx=>by simp at hx;subst hx;exact ZP _⟩
 |m::ns,n=>by
  obtain⟨h1,h2⟩:=iY ns (if n < m then m else n);rw[X0];refine⟨?_,λx hx=>?_⟩
  ·rcases Zm.mp h1 with h |h
   ·rw[h];split <;> simp
   ·exact Ze _ (Ze _ h)
  ·have h0:=h2 _ Zh;rcases Zm.mp hx with rfl |hx
   ·split at h0 <;> split <;> omega
   ·rcases Zm.mp hx with rfl |hx
    ·split at h0 <;> split <;> omega
    ·exact h2 x (Ze _ hx)
theorem tV{M:Int}(h1:M ∈ ns)(h2:∀a,a ∈ ns->a<=M):M=ie ns:=by
 cases ns with
 |nil=>simp at h1
 |cons n ns=>
  obtain⟨a,b⟩:=iY ns n;have:=h2 _ a;have:=b _ h1;show M=ns.foldl _ n;omega
section
variable {X:Cx} {K:Vf} {m:List Addr} {H:Hp} {S:Sto}
theorem xJ(hc:X.calm=true):aX X (.builtin "max") (λxs H Q=>∃a ns,xs=[.ref a]/\SqL X.K H a (ns.map V.int)/\ns ≠ []/\Q (.int (ie ns)) H):=by
 intro pins s σ H xs us Q I r h;obtain⟨a,ns,rfl,sq,hne,q⟩:=h;obtain⟨u,rfl,ru⟩:=cx r;cases ru;obtain⟨its,rv,pl,hz⟩:=I.list sq;have hi:=bH rv;have hl:=pl.isList;obtain⟨ys,e⟩:=hi.allInts.items
 have hns:ns=ys.toList.map (·.1):=by
  have h1:=hi.numsOf;rw[<-Uc,<-e];exact h1.symm
 have hsz:0 < ys.size:=by
  have h3:0 < ns.length:=Xy.mpr hne;rw[hns,Za,ZH] at h3;exact h3
 rw[e] at hl;refine max_intList (I.ok.hd hc) hl hsz λv h' tk hv hk=>?_;obtain⟨t,rfl⟩:=V2 hv;obtain⟨b1,b2⟩:=argBest_gt (numAt ys) (ys.size - 1);have key:∀M:Int,M ∈ ns->(∀a,a ∈ ns->a<=M)->∃x H',Inv X pins σ H' { s with heap:=h',toks:=tk }/\aI x (.int M t)/\Q x H':=λM h1 h2=>⟨.int (ie ns),H,I.kept hk,⟨t,by rw[tV h1 h2]⟩,q⟩;refine key _ ?_ λa ha=>?_
 ·rw[hns,Ub];exact getD_mem (by rw[Za,ZH];omega)
 ·rw[hns] at ha;obtain⟨j,hj,rfl⟩:=mem_getD ha;rw[Za,ZH] at hj;rw[<-Ub];exact b2 j (by omega)
theorem o6(hh:A.handled=none)(hl:s.heap.IsTuple l (V1 xs))(hne:0 < xs.size)
  (h:∀v h' tk,(V1 xs)[argBest (λi j=>decide (numAt xs i > numAt xs j)) (xs.size - 1)]?=some v->(∀b o,s.heap.get? b=some o->h'.get? b=some o)->Q v { s with heap:=h',toks:=tk }) :
  wpAny (model prog w) A (call (.builtin "max") [.ref l]) Q E s:=by
 have hlt:l < s.heap.objs.size:=by obtain⟨_,e,_⟩:=hl;exact Zq e
 refine call_max_walk (UU hl ?_);refine⟨_,[_,l],[_],_,_,_,_,rfl,Walks.tuple (A:=A.in1) hh _ l (ZF hlt) (V1 xs),⟨⟨_,Zy _ rfl,rfl,rfl⟩,hl.push _⟩,λc hc=>?_,by simpa[V1] using hne,CmpOf.ints_gt (numAt xs) (λ_ _=>V2),λv h' tk hP hk=>?_⟩
 ·show c < (s.heap.push _).objs.size;rw[YA];rcases Zm.mp hc with rfl |hc
  ·exact Xa _
  ·rcases Zm.mp hc with rfl |hc
   ·exact Y2 hlt
   ·cases hc
 ·refine h v h' tk (by simpa[V1] using hP) λb o e=>hk b o (λhm=>?_) (Zi _ e);rcases Zm.mp hm with e1 |hm
  ·exact absurd (e1 ▸ Zq e) (ZN _)
  ·cases hm
theorem xK(hc:X.calm=true):aX X (.builtin "max") (λxs H Q=>∃a ns,xs=[.ref a]/\SqT X.K H a (ns.map V.int)/\ns ≠ []/\Q (.int (ie ns)) H):=by
 intro pins s σ H xs us Q I r h;obtain⟨a,ns,rfl,sq,hne,q⟩:=h;obtain⟨u,rfl,ru⟩:=cx r;cases ru;obtain⟨its,rv,pl,hz⟩:=I.tuple sq;have hi:=bH rv;have hl:s.heap.IsTuple a its.toArray:=pl;obtain⟨ys,e⟩:=hi.allInts.items
 have hns:ns=ys.toList.map (·.1):=by
  have h1:=hi.numsOf;rw[<-Uc,<-e];exact h1.symm
 have hsz:0 < ys.size:=by
  have h3:0 < ns.length:=Xy.mpr hne;rw[hns,Za,ZH] at h3;exact h3
 rw[e] at hl;refine o6 (I.ok.hd hc) hl hsz λv h' tk hv hk=>?_;obtain⟨t,rfl⟩:=V2 hv;obtain⟨b1,b2⟩:=argBest_gt (numAt ys) (ys.size - 1);have key:∀M:Int,M ∈ ns->(∀a,a ∈ ns->a<=M)->∃x H',Inv X pins σ H' { s with heap:=h',toks:=tk }/\aI x (.int M t)/\Q x H':=λM h1 h2=>⟨.int (ie ns),H,I.kept hk,⟨t,by rw[tV h1 h2]⟩,q⟩;refine key _ ?_ λa ha=>?_
 ·rw[hns,Ub];exact getD_mem (by rw[Za,ZH];omega)
 ·rw[hns] at ha;obtain⟨j,hj,rfl⟩:=mem_getD ha;rw[Za,ZH] at hj;rw[<-Ub];exact b2 j (by omega)
abbrev m7(tu:Bool)(ds:List D)(S:Sto):Option (D × Sto):=match fM ds with
 |some (n::ns)=>some (.int (ie (n::ns)),S)
 |_=>none
theorem xL(hc:X.calm=true):aX X (.builtin "max") (r1 (rSq X.K m7)):=by
 refine aX.imp (aX.or (xJ hc) (xK hc)) λxs H Q h=>?_;obtain⟨_,rfl,m,S,tu,ds,a,vs,d,S',R,rfl,sq,vd,e,q⟩:=cV h;unfold m7 at e;split at e
 ·rename_i n ns hi;cases e;have ed:=fN hi;subst ed;have ev:=eL vd;subst ev;rcases ic sq with sq |sq
  ·exact .inl ⟨a,n::ns,rfl,sq,by simp,q m H _ (Aft.refl R) bq⟩
  ·exact .inr ⟨a,n::ns,rfl,sq,by simp,q m H _ (Aft.refl R) bq⟩
 ·cases e
abbrev xM(d:D)(S:Sto):Option (D × Sto):=match d with
 |.int i=>if i.natAbs<=1000 then some (.str (Str.ofString (toString i)),S) else none
 |_=>none
theorem xN:aX X (.type "str") (r1 (rS1 X.K xM)):=by
 intro pins s σ H xs us Q I r h;obtain⟨x,rfl,m,S,a,d,S',R,va,e,q⟩:=cV h;unfold xM at e;split at e
 ·rename_i i;split at e
  ·rename_i hi;cases e;obtain⟨u,rfl,ru⟩:=cx r;rw[va.ints] at ru;obtain⟨t,rfl⟩:=ru;refine PySem.P.str_of_int (XG (Nat.log2_le_self _) (by lia)) ⟨.str (Str.ofString (toString i)),H,I.tok _,⟨_,rfl⟩,q m H _ (Aft.refl R) jq⟩
  ·cases e
 ·cases e
end
theorem zX(a d:Value):argsOk "max" ⟨[a],[(Str.ofString "default", d)]⟩:=by unfold argsOk;kernel_rfl
section
variable {prog:Program} {w:World} {A:Around} {R:Result->Shared->Prop} {I S:Addr} {fp wr:List Addr} {n:Nat} {P:Nat->Value->Prop} {St:Nat->Heap->Prop} {bt:Nat->Nat->Bool} {kw:List (Str × Value)}
theorem vK:(toString "max" ++ toString ".loop" : String) = "max.loop" := by decide
theorem ls(W:Walks prog w A.in1 I fp wr n P St)(gc:CmpOf prog w A.in1 .Gt P bt)(gS:S ∉ fp):∀ (m i:Nat) (s:Shared) (b:Value) (c:Nat),i+1+m=n->St (i+1) s.heap->P (argBest bt i) b->s.heap.get? S=some { cls:=.type "list", dict:=none,data:=.seq #[b,b] c,slots:=#[] } ->
  (∀v h' tk,P (argBest bt (n - 1)) v->(∀a o,a ∉ wr->a ≠ S->s.heap.get? a=some o->h'.get? a=some o)->R (.ok (.ret v)) { s with heap:=h',toks:=tk })->codeAny (model prog w) A (.builtin "max.loop" ⟨[.ref I,.none,.ref S],kw⟩) R s
 |0,i,s,b,c,e,st,pb,gs,r=>by
  have sw:S ∉ wr:=λh=>gS (W.sub _ h);refine VP WB ?_;rw[Around.under_plainId WF _];show wpAny _ A.in1 (Ui (.ref S) >>= _) _ _ s;refine Uy (UY gs rfl ?_);show wpAny _ A.in1 (tryCatch (pyNext (.ref I)) _ >>= _) _ _ s;refine Uy (U2 (W.done s _ _ (by rw[<-e];exact st) λh' tk kk=>?_));show wpAny _ A.in1 (updateSeq S (λ_=>#[]) >>= _) _ _ _;refine Uy (U4 (kk S _ sw gs) rfl (Uy (UI (US ?_))));exact r b _ tk (by rw[<-e];exact pb) λa o aw aS z=>(ZZ _ _ (Ne.symm aS)).trans (kk a o aw z)
 |m+1,i,s,b,c,e,st,pb,gs,r=>by
  have sw:S ∉ wr:=λh=>gS (W.sub _ h);refine VP WB ?_;rw[Around.under_plainId WF _];show wpAny _ A.in1 (Ui (.ref S) >>= _) _ _ s;refine Uy (UY gs rfl ?_);show wpAny _ A.in1 (tryCatch (pyNext (.ref I)) _ >>= _) _ _ s;refine Uy (U2 (W.item (i+1) s _ _ (by lia) st λv h' tk pv st' kk=>?_));have gs':=kk S _ sw gs;show wpAny _ A.in1 (tryCatch (holding [v,v] (richCompare .Gt v b >>= _)) _ >>= _) _ _ _;refine Uy (U2 (UG (Uy (gc (i+1) (argBest bt i) v b _ _ _ pv pb ?_))));refine Uy (UG (U1 ?_));refine Uy (UI (US ?_));cases hb:bt (i+1) (argBest bt i) with
  |true=>
   simp only[if_true];refine Uy (U4 gs' rfl (Uy (UI ?_)));rw[vK];refine US ⟨Ud WF _,ls W gc gS m (i+1) _ v _ (by lia) (W.frame _ _ _ st' λa af o z=>?_) (by simp only[argBest,hb,if_true];exact pv) (Yx _ gs' rfl) λv' h'' tk'' pv' k2=>?_⟩
   ·exact(ZZ _ _ (λz:S=a=>gS (by rw[z];exact af))).trans z
   ·exact r v' h'' tk'' pv' λa o aw aS z=>k2 a o aw aS ((ZZ _ _ (Ne.symm aS)).trans (kk a o aw z))
  |false=>
   simp only[ZW,if_false];refine Uy (UI ?_);rw[vK];refine US ⟨Ud WF _,ls W gc gS m (i+1) _ b c (by lia) st' (by simp only[argBest,hb,ZW,if_false];exact pb) gs' λv' h'' tk'' pv' k2=>?_⟩;exact r v' h'' tk'' pv' λa o aw aS z=>k2 a o aw aS (kk a o aw z)
theorem xO(W:Walks prog w A.in1 I fp wr n P St)(gc:CmpOf prog w A.in1 .Gt P bt)(gS:S ∉ fp)(gn:0 < n){c:Nat}(st:St 0 s.heap)(gs:s.heap.get? S=some { cls:=.type "list", dict:=none,data:=.seq #[] c,slots:=#[] })
  (r:∀v h' tk,P (argBest bt (n - 1)) v->(∀a o,a ∉ wr->a ≠ S->s.heap.get? a=some o->h'.get? a=some o)->R (.ok (.ret v)) { s with heap:=h',toks:=tk }):codeAny (model prog w) A (.builtin "max.loop" ⟨[.ref I,.none,.ref S],kw⟩) R s:=by
 have sw:S ∉ wr:=λh=>gS (W.sub _ h);refine VP WB ?_;rw[Around.under_plainId WF _];show wpAny _ A.in1 (Ui (.ref S) >>= _) _ _ s;refine Uy (UY gs rfl ?_);show wpAny _ A.in1 (tryCatch (pyNext (.ref I)) _ >>= _) _ _ s;refine Uy (U2 (W.item 0 s _ _ gn st λv h' tk pv st' kk=>?_));have gs':=kk S _ sw gs;show wpAny _ A.in1 (updateSeq S (λ_=>#[v,v]) >>= _) _ _ _;refine Uy (U4 gs' rfl ?_);rw[vK];refine US ⟨Ud WF _,ls W gc gS (n - 1) 0 _ v _ (by lia) (W.frame _ _ _ st' λa af o z=>?_) pv (Yx _ gs' rfl) λv' h'' tk'' pv' k2=>?_⟩
 ·exact(ZZ _ _ (λz:S=a=>gS (by rw[z];exact af))).trans z
 ·exact r v' h'' tk'' pv' λa o aw aS z=>k2 a o aw aS ((ZZ _ _ (Ne.symm aS)).trans (kk a o aw z))
theorem zY(W:Walks prog w A.in1 I fp wr 0 P St)(gS:S ∉ fp){c:Nat}(st:St 0 s.heap)(gs:s.heap.get? S=some { cls:=.type "list", dict:=none,data:=.seq #[] c,slots:=#[] })
  (r:∀h' tk,(∀a o,a ∉ wr->s.heap.get? a=some o->h'.get? a=some o)->R (.ok (.ret d)) { s with heap:=h',toks:=tk }):codeAny (model prog w) A (.builtin "max.loop" ⟨[.ref I,.none,.ref S],[(Str.ofString "default", d)]⟩) R s:=by
 refine VP WB ?_;rw[Around.under_plainId WF _];show wpAny _ A.in1 (Ui (.ref S) >>= _) _ _ s;refine Uy (UY gs rfl ?_);show wpAny _ A.in1 (tryCatch (pyNext (.ref I)) _ >>= _) _ _ s;refine Uy (U2 (W.done s _ _ st λh' tk kk=>?_));exact Uy (UX (US (r h' tk kk)))
variable {E:Value->Shared->Prop} {s:Shared} {l:Addr} {xs:Array (Int × Tok)}
theorem zZ(hh:A.handled=none)(hl:s.heap.IsList l (V1 xs))
  (h1:0 < xs.size->∀v h' tk,(V1 xs)[argBest (λi j=>decide (numAt xs i > numAt xs j)) (xs.size - 1)]?=some v->(∀b o,s.heap.get? b=some o->h'.get? b=some o)->Q v { s with heap:=h',toks:=tk })
  (h2:xs.size=0->∀h' tk,(∀b o,s.heap.get? b=some o->h'.get? b=some o)->Q d { s with heap:=h',toks:=tk }):wpAny (model prog w) A (call (.builtin "max") [.ref l] [(Str.ofString "default", d)]) Q E s:=by
 refine kmb_tree F.kind_max F.plain_max F.entry_max (zX _ _) ?_;show wpAny _ A.in1 (Builtin.Builtins.bindParams "max" ["key", "default"] 0 ⟨[],[(Str.ofString "default", d)]⟩ >>= _) _ _ s;refine Uy (UQ (show Builtin.Builtins.bindParams "max" ["key", "default"] 0 ⟨[],[(Str.ofString "default", d)]⟩=pure [none,some d] from rfl) ?_);refine Uy (US ?_);refine Uy (iter_intList hl λs2 e st fpl lI=>?_);subst e;have W:=Walks.list (prog:=prog) (w:=w) (A:=A.in1) hh s.heap.objs.size l lI (V1 xs);refine Uy (UP ?_);have gS:∀b ∈ [s.heap.objs.size,l],b < (s.heap.push { cls:=.type "list_iterator", data:=.fields #[.ref l,.int 0 0] }).objs.size:=fpl;rw[vK];by_cases hz:xs.size=0
 ·have e0:(V1 xs).size=0:=by simpa[V1] using hz
  rw[e0] at W;refine US ⟨Ud WF _,zY W (λhm=>ZN _ (fpl _ hm)) (W.frame _ _ _ st λb _ o e=>Zi _ e) (Zy _ rfl) λh' tk hk=>?_⟩;exact h2 hz h' tk (old_kept λb o hb e=>hk b o hb (Zi _ e))
 ·refine US ⟨Ud WF _,xO W (CmpOf.ints_gt (numAt xs) (λ_ _=>V2)) (λhm=>ZN _ (fpl _ hm)) (by simp[V1];lia) (W.frame _ _ _ st λb _ o e=>Zi _ e) (Zy _ rfl) λv h' tk pv hk=>?_⟩;exact h1 (by lia) v h' tk (by simpa[V1] using pv) (old_kept λb o hb e=>hk b o hb (ZF (Zq e)) (Zi _ e))
end
abbrev xP(c:Int):List Int->Int
 |[]=>c
 |n::ns=>ie (n::ns)
abbrev gZ(c:Int)(tu:Bool)(ds:List D)(S:Sto):Option (D × Sto):=match tu,fM ds with
 |false,some ns=>some (.int (xP c ns),S)
 |_,_=>none
section
variable {X:Cx} {K:Vf} {m:List Addr} {H:Hp} {S:Sto} {e:Expr} {t:TA} {p pos kp vp:Pos} {c:Int} {j:Nat}
theorem Ji(hc:X.calm=true)(hg:Gl X "max")(hm:X.mg "max" = none)(hdb:(("max" : Str) == ("__debug__" : Str))=false)(ha:PA X [e] t)(he:Um [e] X.env=(false,eval e X.env)::Um [] X.env) :
  PE X (.Call (.Name "max" p) [e] [⟨some "default", .Constant (.int c) j vp,kp⟩] pos) (tCB (r1 (rSq X.K (gZ c))) t):=by
 intro pins s σ H Q I h;refine Uw (fE I hg hm Wo ?_ (by decide) hdb);refine callWith_kw (thn (ha pos pins s σ H _ I h) λus s1 ⟨vs,H1,I1,r,q1⟩=>?_) (by rw[he];rfl) (by rw[he];rfl) rfl rfl;refine thn (C3 (nm:=some "default") (kpos:=kp) (ji (X:=X) (i:=c) (j:=j) (pos:=vp)) Io pos pins s1 σ H1 _ I1 (show cS (tC (.int c)) jk σ H1 (λzs H2=>zs=[.int c]/\H2=H1) from ⟨rfl,rfl⟩)) λks s2 ⟨zs,H2,I2,rz,ez,eH⟩=>?_;subst ez eH;obtain⟨u,rfl,ru⟩:=cx rz;obtain⟨tk,rfl⟩:=ru;obtain⟨_,rfl,m,S,tu,ds,a,ws,d,S',R,rfl,sq,vd,e',q⟩:=cV q1;obtain⟨u',rfl,ru'⟩:=cx r;cases ru';unfold gZ at e';split at e'
 ·rename_i ns hi;cases e';have ed:=fN hi;subst ed;have ev:=eL vd;subst ev;have sq:SqL X.K H2 a (ns.map V.int):=sq;obtain⟨its,rv,pl,hz⟩:=I2.list sq;have hi:=bH rv;have hl:=pl.isList;obtain⟨ys,ey⟩:=hi.allInts.items
  have hns:ns=ys.toList.map (·.1):=by
   have h1:=hi.numsOf;rw[<-Uc,<-ey];exact h1.symm
  have hlen:ns.length=ys.size:=by rw[hns,Za,ZH]
  rw[ey] at hl;refine zZ (I2.ok.hd hc) hl (λhsz v h' tk' hv hk=>?_) (λhsz h' tk' hk=>?_)
  ·obtain⟨t',rfl⟩:=V2 hv;obtain⟨b1,b2⟩:=argBest_gt (numAt ys) (ys.size - 1)
   have et:xP c ns=ie ns:=by
    cases ns with
    |nil=>rw[Z2] at hlen;lia
    |cons n ns=>rfl
   have key:∀M:Int,M ∈ ns->(∀a,a ∈ ns->a<=M)->∃x H',Inv X pins σ H' { s2 with heap:=h',toks:=tk' }/\aI x (.int M t')/\Q x H':=λM h1 h2=>⟨.int (xP c ns),H2,I2.kept hk,⟨t',by rw[tV h1 h2,et]⟩,q m H2 _ (Aft.refl R) bq⟩;refine key _ ?_ λa ha=>?_
   ·rw[hns,Ub];exact getD_mem (by rw[Za,ZH];lia)
   ·rw[hns] at ha;obtain⟨j,hj,rfl⟩:=mem_getD ha;rw[Za,ZH] at hj;rw[<-Ub];exact b2 j (by lia)
  ·have en:ns=[]:=Yi.mp (by lia);subst en;exact⟨.int c,H2,I2.kept hk,⟨tk,rfl⟩,q m H2 _ (Aft.refl R) bq⟩
 ·cases e'
end
section
variable {X:Cx} {K:Vf} {m:List Addr} {H:Hp} {S:Sto}
abbrev fO(d:D)(S:Sto):Bool:=match d with
 |.ref n=>(au S n).isSome
 |_=>false
abbrev isTup:D->Bool
 |.tup _=>true
 |_=>false
abbrev z8(c:D->Sto->Bool)(f:D->List D->Sto->Option (D × Sto))(x:XE)(y:XA):XE:=λρ S=>bnd (x ρ S) λd S1=>if c d S1=true then bnd (y ρ S1) λas S2=>f d as S2 else none
def rM(K:Vf)(f:D->List D->Sto->Option (D × Sto)):V->List V->Hp->VK->Prop:=λv vs H Q=>∃m S a as d S',Rel K m S H/\VD K m H a v/\VDs K m H as vs/\f a as S=some (d,S')/\∀m' H' u,Aft K m H S' m' H'->VD K m' H' d u->Q u H'
theorem tW(hT:∀ {m H S d v},Rel K m S H->VD K m H d v->c d S=true->tyV K T v H)(h:tE K (z8 c f x y) σ H Q):tBM K T (rM K f) (tE K x) (tAr K y) σ H Q:=by
 obtain⟨m,ρ,S,d,S',E,R,e,q⟩:=h;obtain⟨a,S1,e1,e⟩:=ae e;split at e
 ·rename_i hc;obtain⟨as,S2,e2,e⟩:=ae e;refine⟨m,ρ,S,a,S1,E,R,e1,λm1 H1 v A1 va=>⟨hT A1.rel va hc,m1,ρ,S1,as,S2,E.mono R A1.ext,A1.rel,e2,λm2 H2 vs A2 vb=>?_⟩⟩;exact⟨m2,S2,a,as,d,S',A2.rel,va.mono A1.rel A2.ext,vb,e,λm3 H3 u A3 vd=>q m3 H3 u ((A1.trans A2).trans A3) vd⟩
 ·cases e
theorem z9(R:Rel K m S H)(vd:VD K m H d v)(h:fO d S=true):tyV K "list" v H:=by
 cases d with
 |ref n=>
  simp only[fO] at h;obtain⟨ds,hs⟩:=ZT.mp h;obtain⟨p,vs,hp,sq,vds⟩:=R.seq hs;obtain⟨p',hp',rfl⟩:=vd.refs;rw[hp] at hp';cases hp';exact .inl ⟨rfl,vs,sq⟩
 |_=>cases h
theorem Jj(R:Rel K m S H)(vd:VD K m H d v)(h:(λd (_:Sto)=>isTup d) d S=true):tyV K "tuple" v H:=by
 cases d with
 |tup ds=>
  obtain⟨a,vs,rfl,sq,_⟩:=vd.tups;exact .inr (.inl ⟨rfl,.inr ⟨vs,sq⟩⟩)
 |_=>cases h
abbrev chg(n:Nat)(S:Sto)(f:List D->Option (D × List D)):Option (D × Sto):=match S[n]? with
 |some (.lst ds)=>(f ds).map λr=>(r.1,S.set n (.lst r.2))
 |_=>none
theorem qQ{n:Nat}(h:chg n S f=some (d,S')):∃ds es,S[n]?=some (.lst ds)/\f ds=some (d,es)/\S'=S.set n (.lst es):=by
 unfold chg at h;cases hn:S[n]? with
 |none=>rw[hn] at h;cases h
 |some o=>
  rw[hn] at h;cases o with
  |lst ds=>
   dsimp only at h;cases hf:f ds with
   |none=>rw[hf] at h;cases h
   |some r=>rw[hf] at h;cases h;exact⟨ds,r.2,rfl,hf,rfl⟩
  |_=>cases h
abbrev qR(d:D)(as:List D)(S:Sto):Option (D × Sto):=match d,as with
 |.ref n,[e]=>chg n S λds=>if ds.length < 100000 then some (.non,ds++[e]) else none
 |_,_=>none
abbrev e9(d:D)(as:List D)(S:Sto):Option (D × Sto):=match d,as with
 |.ref n,[.int i]=>chg n S λds=>match ixN ds.length i with
  |some k=>(ds[k]?).map λx=>(x,ds.eraseIdx k)
  |none=>none
 |_,_=>none
theorem tX{n:Nat}(R:Rel K m S H)(vd:VD K m H (.ref n) v)(hn:S[n]?=some (.lst ds)):∃a vs,v = .ref a/\m[n]?=some a/\H a=some (.lst vs)/\VDs K m H ds vs:=by
 obtain⟨a,vs,ha,hH,q⟩:=R.lst hn;obtain⟨a',ha',e⟩:=vd.refs;rw[ha] at ha';cases ha';exact⟨a,vs,e,ha,hH,q⟩
theorem jv{n:Nat}(R:Rel K m S H)(ha:m[n]?=some a)(vd:VDs K m H es ws):Aft K m H (S.set n (.lst es)) m (upd H a (.lst ws)):=let ⟨x,y⟩:=R.write ha vd;⟨x,y⟩
theorem Jk:MtR X "list.append" (rM X.K qR):=by
 intro pins s σ H x xs v us Q I rx rs h;refine nt pins s σ H x xs v us Q I rx rs ?_;obtain⟨m,S,a,as,d,S',R,va,vs,e,q⟩:=h;unfold qR at e;split at e
 ·rename_i n z;obtain⟨ds,es,hn,hf,rfl⟩:=qQ e;split at hf
  ·rename_i hl;cases hf;obtain⟨p,ws,rfl,hp,hH,vds⟩:=tX R va hn;obtain⟨y,rfl,vy⟩:=Jf vs;refine⟨p,ws,y,rfl,rfl,hH,by rw[Uk,<-vds.length];lia,q m _ _ (jv R hp (vds.append (.cons vy .nil))) oW⟩
  ·cases hf
 ·cases e
theorem qS:∀ {ds:List D} {vs:List V} (k:Nat),VDs K m H ds vs->VDs K m H (ds.eraseIdx k) (vs.eraseIdx k)
 |[],vs,k,h=>by rw[VDs] at h;subst h;exact .nil
 |d::ds,vs,0,h=>by
  rw[VDs] at h;obtain⟨y,r,rfl,p,q⟩:=h;exact q
 |d::ds,vs,k+1,h=>by
  rw[VDs] at h;obtain⟨y,r,rfl,p,q⟩:=h;exact .cons p (qS k q)
theorem xQ:MtR X "list.pop" (rM X.K e9):=by
 intro pins s σ H x xs v us Q I rx rs h;refine ze pins s σ H x xs v us Q I rx rs ?_;obtain⟨m,S,a,as,d,S',R,va,vs,e,q⟩:=h;unfold e9 at e;split at e
 ·rename_i n i;obtain⟨ds,es,hn,hf,rfl⟩:=qQ e;cases hk:ixN ds.length i with
  |none=>rw[hk] at hf;cases hf
  |some k=>
   rw[hk] at hf;dsimp only at hf;cases hl:ds[k]? with
   |none=>rw[hl] at hf;cases hf
   |some z=>
    rw[hl] at hf;cases hf;obtain⟨p,ws,rfl,hp,hH,vds⟩:=tX R va hn;obtain⟨y,rfl,vi⟩:=Jf vs;cases vi.ints;obtain⟨y,hy,vy⟩:=vds.get hl;have A:=jv R hp (qS k vds);obtain⟨h1,h2,h3,h4⟩:=oE hk;have hz:=(I.lst hH).choose_spec.choose_spec.2.2;have hle:=vds.length;rw[Uk] at hz;exact⟨p,ws,i,k,y,rfl,rfl,hH,by lia,by lia,by rw[<-vds.length];exact h1,hy,q m _ _ A (vy.mono R A.ext)⟩
 ·cases e
abbrev tY(d:D)(as:List D)(S:Sto):Option (D × Sto):=match d,as with
 |.tup ds,[x]=>if cz x=true/\ds.all cz=true then some (.int (ds.countP λz=>eqF z x:Nat),S) else none
 |_,_=>none
theorem DN:MtR X "tuple.count" (rM X.K tY):=by
 intro pins s σ H x xs v us Q I rx rs h;refine xq X.K rfl pins s σ H x xs v us Q I rx rs ?_;obtain⟨m,S,a,as,d,S',R,va,vs,e,q⟩:=h;unfold tY at e;split at e
 ·rename_i ds z;split at e
  ·rename_i hf;cases e;obtain⟨p,ws,rfl,sq,vds⟩:=va.tups;obtain⟨y,rfl,vy⟩:=Jf vs;exact⟨p,ws,y,rfl,rfl,.of sq,kl vy hf.1,iW vds hf.2,q m H _ (Aft.refl R) (by rw[nB vy hf.1 vds hf.2];exact bq)⟩
  ·cases e
 ·cases e
abbrev lu(o i v:D)(S:Sto):Option Sto:=match o,i with
 | .ref n,.int k=>(match S[n]? with
  |some (.lst ds)=>(ixN ds.length k).map λj=>S.set n (.lst (ds.set j v))
  | _=>none)
 |_,_=>none
def Nn(K:Vf):CP:=λo i v H Q=>∃m S a b c S',Rel K m S H/\VD K m H a o/\VD K m H b i/\VD K m H c v/\lu a b c S=some S'/\∀m' H',Aft K m H S' m' H'->Q H'
theorem Np:HS X (Nn X.K):=by
 intro pins s σ H o i v ov iv u Q I ro ri rv h;refine y9 pins s σ H o i v ov iv u Q I ro ri rv ?_;obtain⟨m,S,a,b,c,S',R,va,vb,vc,e,q⟩:=h;unfold lu at e;split at e
 ·rename_i n k;cases hn:S[n]? with
  |none=>rw[hn] at e;cases e
  |some ob=>
   rw[hn] at e;cases ob with
   |lst ds=>
    dsimp only at e;cases hj:ixN ds.length k with
    |none=>rw[hj] at e;cases e
    |some j=>
     rw[hj] at e;cases e;obtain⟨p,ws,rfl,hp,hH,vds⟩:=tX R va hn;cases vb.ints;exact⟨p,ws,k,j,rfl,rfl,hH,by rw[<-vds.length];exact hj,q m _ (jv R hp (vds.set vc))⟩
   |_=>cases e
 ·cases e
mutual
noncomputable def b7(t:D->Option Dw.D):List D->Option (List Dw.D)
 |[]=>some []
 |d::ds=>match t d,b7 t ds with
  |some x,some xs=>some (x::xs)
  |_,_=>none
end
abbrev cL:Nat->Sto->D->Option Dw.D
 |0,_,_=>none
 |n+1,S,d=>match d with
  |.non=>some .non
  |.bl b=>some (.bl b)
  |.int i=>some (.int i)
  |.str x=>some (.str x)
  |.tup ds=>(b7 (cL n S) ds).map .tup
  | .ref k=>(match S[k]? with
   |some (.lst ds)=>(b7 (cL n S) ds).map .lst
   |some (.dic ks ds)=>(b7 (cL n S) ds).map (.dic ks)
   | _=>none)
theorem iZ(ht:∀d x v,t d=some x->VD K m H d v->Dw.Br [] H x v):∀ {ds:List D} {xs:List Dw.D} {vs:List V},b7 t ds=some xs->VDs K m H ds vs->Dw.BrL [] H xs vs
 |[],xs,vs,e,h=>by rw[VDs] at h;simp only[b7] at e;cases e;rw[h,Dw.BrL]
 |d::ds,xs,vs,e,h=>by
  rw[VDs] at h;obtain⟨y,r,rfl,p,q⟩:=h;simp only[b7] at e;cases h1:t d with
  |none=>rw[h1] at e;cases e
  |some x=>
   cases h2:b7 t ds with
   |none=>rw[h1,h2] at e;cases e
   |some ys=>
    rw[h1,h2] at e;cases e;rw[Dw.BrL];exact⟨y,r,rfl,ht _ _ _ h1 p,iZ ht h2 q⟩
theorem nG:∀ {ds:List D} {xs:List Dw.D},b7 t ds=some xs->xs.length=ds.length
 |[],xs,e=>by simp only[b7] at e;cases e;rfl
 |d::ds,xs,e=>by
  simp only[b7] at e;cases h1:t d with
  |none=>rw[h1] at e;cases e
  |some x=>
   cases h2:b7 t ds with
   |none=>rw[h1,h2] at e;cases e
   |some ys=>rw[h1,h2] at e;cases e;simp[nG h2]
theorem ko(R:Rel K m S H):∀ (n:Nat) (d:D) (x:Dw.D) (v:V),cL n S d=some x->VD K m H d v->Dw.Br [] H x v
 |0,_,_,_,e,_=>by simp[cL] at e
 |n+1,d,x,v,e,h=>by
  cases d with
  |non=>simp only[cL] at e;cases e;rw[Dw.Br];exact h.nons
  |bl _=>simp only[cL] at e;cases e;rw[Dw.Br];exact h.bls
  |int _=>simp only[cL] at e;cases e;rw[Dw.Br];exact h.ints
  |str _=>simp only[cL] at e;cases e;rw[Dw.Br];exact h.strs
  |tup ds=>
   simp only[cL] at e;cases ht:b7 (cL n S) ds with
   |none=>rw[ht] at e;cases e
   |some xs=>
    rw[ht] at e;cases e;obtain⟨a,vs,rfl,sq,p⟩:=h.tups;rw[Dw.Br];exact⟨a,vs,rfl,sq,iZ (ko R n) ht p⟩
  |ref k=>
   simp only[cL] at e;obtain⟨a,ha,rfl⟩:=h.refs;cases hk:S[k]? with
   |none=>rw[hk] at e;cases e
   |some o=>
    rw[hk] at e;obtain⟨a',ha',r⟩:=R.ob k o hk;rw[ha] at ha';cases ha';cases o with
    |lst ds=>
     dsimp only at e;cases ht:b7 (cL n S) ds with
     |none=>rw[ht] at e;cases e
     |some xs=>
      rw[ht] at e;cases e;obtain⟨vs,hH,p⟩:=r;rw[Dw.Br];exact⟨a,vs,rfl,by simp,hH,iZ (ko R n) ht p⟩
    |frz ds=>cases e
    |dic ks ds=>
     dsimp only at e;cases ht:b7 (cL n S) ds with
     |none=>rw[ht] at e;cases e
     |some xs=>
      rw[ht] at e;cases e;obtain⟨vs,hH,hl,p⟩:=r;rw[Dw.Br];exact⟨a,vs,rfl,by simp,hH,by rw[nG ht];exact hl,iZ (ko R n) ht p⟩
open Classical in
abbrev jQ(d:D)(S:Sto):Option (D × Sto):=match cL 100 S d with
 |some t=>if Dw.Shn t then some (.str (Dw.aW t).shown,S) else none
 |none=>none
theorem tZ{k:Nat}(hr:Room k X.A):aX X (.builtin "repr") (r1 (rS1 X.K jQ)):=by
 refine aX.imp (Dw.sZ hr) λxs H Q h=>?_;obtain⟨x,rfl,m,S,a,d,S',R,va,e,q⟩:=cV h;unfold jQ at e;cases ht:cL 100 S a with
 |none=>rw[ht] at e;cases e
 |some t=>
  rw[ht] at e;dsimp only at e;split at e
  ·rename_i hs;cases e;exact⟨x,[],t,rfl,ko R 100 a t x ht va,hs,q m H _ (Aft.refl R) jq⟩
  ·cases e
end
@[inline]abbrev Nxt:=Nat->Sto->Option (Option D)
@[inline]abbrev XI:=Rho->Sto->Option (Nxt × Sto)
structure ExtB(B:List Addr)(m:List Addr)(H:Hp)(m':List Addr)(H':Hp):Prop where
 pre:m <+: m'
 keep:∀a o,H a=some o->a ∉ m->a ∉ B->H' a=some o
 new:∀a,a ∈ m'->a ∉ m->H a=none
 nb:∀b,b ∈ B->b ∉ m'
def AtB(B:List Addr)(m:List Addr)(H:Hp):Prop:=∀b,b ∈ B->(∃vs,H b=some (.lst vs))/\b ∉ m
theorem Ext.toB(hB:AtB B m H)(x:Ext m H m' H'):ExtB B m H m' H':=⟨x.pre,λa o h n _=>x.keep a o h n,x.new,λb hb z=>by
 obtain⟨⟨vs,e⟩,n⟩:=hB b hb;have:=x.new b z n;rw[e] at this;cases this⟩
theorem ExtB.trans(x:ExtB B m H m1 H1)(y:ExtB B m1 H1 m2 H2):ExtB B m H m2 H2:=by
 refine⟨x.pre.trans y.pre,λa o h n nb=>?_,λa h n=>?_,y.nb⟩
 ·have n1:a ∉ m1:=λz=>by have:=x.new a z n;rw[this] at h;cases h
  exact y.keep a o (x.keep a o h n nb) n1 nb
 ·by_cases h1:a ∈ m1
  ·exact x.new a h1 n
  ·cases e:H a with
   |none=>rfl
   |some o=>
    by_cases hb:a ∈ B
    ·exact absurd h (y.nb a hb)
    ·have:=x.keep a o e n hb;rw[y.new a h h1] at this;cases this
theorem AtB.ext(hB:AtB B m H)(x:Ext m H m' H'):AtB B m' H':=λb hb=>by
 obtain⟨⟨vs,e⟩,n⟩:=hB b hb;exact⟨⟨vs,x.keep _ _ e n⟩,(x.toB hB).nb b hb⟩
def IOk(K:Vf)(B:List Addr)(J:It)(nx:Nxt)(m0:List Addr)(H0:Hp):Prop:=∀ (m:List Addr) (S:Sto) (H:Hp) (i:Nat),ExtB B m0 H0 m H->Rel K m S H ->
 (nx i S=some none->J.stop i H)/\(∀d,nx i S=some (some d)->J.go i H/\∀x H',J.yld i H x H'->Aft K m H S m H'/\VD K m H' d x)
def tIt(K:Vf)(B:List Addr)(x:XI):TI:=λσ H R=>∃m ρ S nx S',EnvR K m H ρ σ/\Rel K m S H/\AtB B m H/\x ρ S=some (nx,S')/\∀m' H' J,Aft K m H S' m' H'->IOk K B J nx m' H'->R J H'
abbrev nxL(ds:List D):Nxt:=λi _=>some ds[i]?
abbrev nxS(n:Nat):Nxt:=λi S=>(au S n).map λds=>ds[i]?
abbrev nxR(lo:Int)(n:Nat):Nxt:=λi _=>some (if i < n then some (.int (lo+i)) else none)
abbrev jN(i:Nat)(d:D):D:=.tup [.int i,d]
abbrev enm(ds:List D)(i:Nat):Option (Option D):=if i<=ds.length then some (ds[i]?.map (jN i)) else none
abbrev t0(ds:List D):Nxt:=λi _=>enm ds i
abbrev DP(n:Nat):Nxt:=λi S=>(au S n).bind λds=>enm ds i
section
variable {X:Cx} {K:Vf} {m B:List Addr} {H:Hp} {S:Sto}
theorem DQ(R:Rel K m0 S0 H0)(hB:AtB B m0 H0)(x:ExtB B m0 H0 m H)(h:H0 a=some (.tup xs)):H a=some (.tup xs):=x.keep _ _ h (R.notTup h) λz=>by
 obtain⟨⟨vs,e⟩,_⟩:=hB a z;rw[e] at h;cases h
theorem VDs.monoB(R:Rel K m0 S0 H0)(hB:AtB B m0 H0)(x:ExtB B m0 H0 m H)(h:VDs K m0 H0 ds vs):VDs K m H ds vs:=VDs.mono0 x.pre (λ_ _=>DQ R hB x) h
theorem VD.monoB(R:Rel K m0 S0 H0)(hB:AtB B m0 H0)(x:ExtB B m0 H0 m H)(h:VD K m0 H0 d v):VD K m H d v:=VD.mono0 x.pre (λ_ _=>DQ R hB x) h
theorem EnvR.monoB(R:Rel K m0 S0 H0)(hB:AtB B m0 H0)(x:ExtB B m0 H0 m H)(h:EnvR K m0 H0 ρ σ):EnvR K m H ρ σ:=
 ⟨h.len,λi d e=>let ⟨v,p,q⟩:=h.at_ i d e;⟨v,p,VD.monoB R hB x q⟩⟩
theorem qT(h:∀m S H i o,ExtB B m0 H0 m H->Rel K m S H->nx i S=some o->∃ds vs,o=ds[i]?/\SqL K H a vs/\VDs K m H ds vs):IOk K B (Itl K a) nx m0 H0:=by
 intro m S H i x R;refine⟨λe=>?_,λd e=>?_⟩
 ·obtain⟨ds,vs,e',sq,vd⟩:=h m S H i _ x R e;exact⟨vs,sq,by rw[<-vd.length];exact Ym.mp e'.symm⟩
 ·obtain⟨ds,vs,e',sq,vd⟩:=h m S H i _ x R e;obtain⟨v,hv,vv⟩:=vd.get e'.symm;refine⟨⟨vs,v,sq,hv⟩,λy H' ⟨eH,hy⟩=>?_⟩;subst eH;have:=hy vs sq;rw[hv] at this;cases this;exact⟨Aft.refl R,vv⟩
theorem DR(R0:Rel K m0 S0 H0)(hB:AtB B m0 H0)(sq:H0 a=some (.tup vs))(vd:VDs K m0 H0 ds vs):IOk K B (Itt K a) (nxL ds) m0 H0:=by
 intro m S H i x R;have sq':SqT K H a vs:=.of (DQ R0 hB x sq);have vd':=vd.monoB R0 hB x;refine⟨λe=>⟨vs,sq',?_⟩,λd e=>?_⟩
 ·rw[<-vd'.length];exact Ym.mp (Option.some.inj e)
 ·obtain⟨v,hv,vv⟩:=vd'.get (Option.some.inj e);refine⟨⟨vs,v,sq',hv⟩,λy H' ⟨eH,hy⟩=>?_⟩;subst eH;have:=hy vs sq';rw[hv] at this;cases this;exact⟨Aft.refl R,vv⟩
theorem vL{lo:Int}{n:Nat}:IOk K B (Itr lo n) (nxR lo n) m0 H0:=by
 intro m S H i x R;unfold nxR;refine⟨λe=>?_,λd e=>?_⟩
 ·split at e
  ·cases e
  ·show n<=i;lia
 ·split at e
  ·rename_i hi;cases e;exact⟨hi,λy H' ⟨eH,hy⟩=>by subst eH;subst hy;exact⟨Aft.refl R,bq⟩⟩
  ·cases e
theorem o7(h:∀m S H i o,ExtB B m0 H0 m H->Rel K m S H->nx i S=some o->∃ds vs,enm ds i=some o/\sqf K H a vs/\VDs K m H ds vs):IOk K B (Ite K a sqf) nx m0 H0:=by
 intro m S H i x R;refine⟨λe=>?_,λd e=>?_⟩
 ·obtain⟨ds,vs,e',sq,vd⟩:=h m S H i _ x R e;unfold enm at e';split at e'
  ·rename_i hl;refine⟨vs,sq,?_⟩;rw[<-vd.length];cases hd:ds[i]? with
   |none=>have:=Ym.mp hd;lia
   |some z=>rw[hd] at e';cases e'
  ·cases e'
 ·obtain⟨ds,vs,e',sq,vd⟩:=h m S H i _ x R e;unfold enm at e';split at e'
  ·cases hd:ds[i]? with
   |none=>rw[hd] at e';cases e'
   |some z=>
    rw[hd] at e';cases e';obtain⟨v,hv,vv⟩:=vd.get hd;refine⟨⟨vs,v,sq,hv⟩,λy H' ⟨T,hT,ey,hy⟩=>?_⟩;subst ey;have eH:=hy vs v sq hv;subst eH;have xb:=Ext.beside R hT (.tup [.int i,v]);exact⟨⟨xb,R.beside hT _⟩,oX aV (.cons bq (.cons (vv.mono R xb) .nil))⟩
  ·cases e'
abbrev QG(d:D):Option Nxt:=match d with
 |.tup ds=>some (nxL ds)
 |.ref n=>some (nxS n)
 |_=>none
abbrev xIV(x:XE):XI:=λρ S=>bnd (x ρ S) λd S1=>match d with
 |.tup ds=>some (nxL ds,S1)
 |.ref n=>if (au S1 n).isSome=true then some (nxS n,S1) else none
 |_=>none
abbrev xIT(x:XA):XI:=λρ S=>bnd (x ρ S) λds S1=>some (nxL ds,S1)
abbrev xEV(x:XE):XI:=λρ S=>bnd (x ρ S) λd S1=>match d with
 |.tup ds=>some (t0 ds,S1)
 |.ref n=>if (au S1 n).isSome=true then some (DP n,S1) else none
 |_=>none
abbrev xET(x:XA):XI:=λρ S=>bnd (x ρ S) λds S1=>some (t0 ds,S1)
abbrev lim(i:Int):Bool:=decide (-(2 ^ 62)<=i) && decide (i < 2 ^ 62)
abbrev xR1(x:XE):XI:=λρ S=>bnd (x ρ S) λd S1=>match d with
 |.int j=>if lim j=true then some (nxR 0 j.toNat,S1) else none
 |_=>none
abbrev xR2(x y:XE):XI:=λρ S=>bnd (x ρ S) λd S1=>bnd (y ρ S1) λe S2=>match d,e with
 |.int i,.int j=>if lim i=true/\lim j=true then some (nxR i (j - i).toNat,S2) else none
 |_,_=>none
theorem jw{i:Int}(h:lim i=true):-(2 ^ 62)<=i/\i < 2 ^ 62:=by simpa[lim] using h
theorem kq{n:Nat}(ha:m0[n]?=some a)(x:m0 <+: m)(R:Rel K m S H)(hs:au S n=some ds):∃vs,SqL K H a vs/\VDs K m H ds vs:=by
 obtain⟨p,vs,hp,sq,vd⟩:=R.seq hs;have:=kj x ha;rw[this] at hp;cases hp;exact⟨vs,sq,vd⟩
theorem Nq(hB:AtB B m H)(h:H a=none):a ∉ B:=λz=>by
 obtain⟨⟨vs,e⟩,_⟩:=hB a z;rw[h] at e;cases e
theorem P4(h:tIt K B (xIV x) σ H R):yS K (tE K x) σ H R\/MP K (tE K x) σ H R:=by
 obtain⟨m,ρ,S,nx,S',E,Rl,hB,e,q⟩:=h;obtain⟨d,S1,e1,e⟩:=ae e;cases d with
 |tup ds=>
  cases e;refine .inr ⟨m,ρ,S,_,_,E,Rl,e1,λm1 H1 v A1 vd=>?_⟩;obtain⟨a,vs,rfl,sq,vds⟩:=vd.tups;exact⟨a,rfl,⟨vs,.of sq⟩,q m1 H1 _ A1 (DR A1.rel (hB.ext A1.ext) sq vds)⟩
 |ref n=>
  dsimp only at e;split at e
  ·rename_i hs;cases e;refine .inl ⟨m,ρ,S,_,_,E,Rl,e1,λm1 H1 v A1 vd=>?_⟩;obtain⟨a,ha,rfl⟩:=vd.refs;obtain⟨ds,hds⟩:=ZT.mp hs;obtain⟨vs,sq,vds⟩:=kq ha (Ye _) A1.rel hds;refine⟨a,rfl,⟨vs,sq⟩,q m1 H1 _ A1 (qT λm2 S2 H2 i o x2 R2 e2=>?_)⟩;unfold nxS at e2;cases h2:au S2 n with
   |none=>rw[h2] at e2;cases e2
   |some es=>
    rw[h2] at e2;cases e2;obtain⟨ws,sq2,vd2⟩:=kq ha x2.pre R2 h2;exact⟨es,ws,rfl,sq2,vd2⟩
  ·cases e
 |_=>cases e
theorem P5(h:tIt K B (xIT x) σ H R):yS K (eW K x) σ H R:=by
 obtain⟨m,ρ,S,nx,S',E,Rl,hB,e,q⟩:=h;obtain⟨ds,S1,e1,e⟩:=ae e;cases e;refine⟨m,ρ,S,_,_,E,Rl,e1,λm1 H1 a vs A1 sq n1 n2 n3 vd=>⟨a,rfl,⟨vs,.of sq⟩,q m1 H1 _ A1 (qT λm2 S2 H2 i o x2 R2 e2=>?_)⟩⟩;cases e2;exact⟨ds,vs,rfl,.of (x2.keep _ _ sq n1 (Nq hB n3)),vd.monoB A1.rel (hB.ext A1.ext) x2⟩
theorem Nr(h:tIt K B (xEV x) σ H R):IB K (cS (tE K x) jk) σ H R\/Nc K (cS (tE K x) jk) σ H R:=by
 obtain⟨m,ρ,S,nx,S',E,Rl,hB,e,q⟩:=h;obtain⟨d,S1,e1,e⟩:=ae e;cases d with
 |tup ds=>
  cases e;refine .inr ⟨m,ρ,S,_,_,E,Rl,e1,λm1 H1 v A1 vd=>?_⟩;obtain⟨a,vs,rfl,sq,vds⟩:=vd.tups;refine⟨a,vs,rfl,.of sq,q m1 H1 _ A1 (o7 λm2 S2 H2 i o x2 R2 e2=>⟨ds,vs,e2,.of (DQ A1.rel (hB.ext A1.ext) x2 sq),vds.monoB A1.rel (hB.ext A1.ext) x2⟩)⟩
 |ref n=>
  dsimp only at e;split at e
  ·rename_i hs;cases e;refine .inl ⟨m,ρ,S,_,_,E,Rl,e1,λm1 H1 v A1 vd=>?_⟩;obtain⟨a,ha,rfl⟩:=vd.refs;obtain⟨ds,hds⟩:=ZT.mp hs;obtain⟨vs,sq,vds⟩:=kq ha (Ye _) A1.rel hds;refine⟨a,vs,rfl,sq,q m1 H1 _ A1 (o7 λm2 S2 H2 i o x2 R2 e2=>?_)⟩;unfold DP at e2;cases h2:au S2 n with
   |none=>rw[h2] at e2;cases e2
   |some es=>
    rw[h2] at e2;obtain⟨ws,sq2,vd2⟩:=kq ha x2.pre R2 h2;exact⟨es,ws,e2,sq2,vd2⟩
  ·cases e
 |_=>cases e
theorem Nt(h:tIt K B (xET x) σ H R):IB K (cS (eW K x) jk) σ H R:=by
 obtain⟨m,ρ,S,nx,S',E,Rl,hB,e,q⟩:=h;obtain⟨ds,S1,e1,e⟩:=ae e;cases e;exact⟨m,ρ,S,_,_,E,Rl,e1,λm1 H1 a vs A1 sq n1 n2 n3 vd=>⟨a,vs,rfl,.of sq,q m1 H1 _ A1 (o7 λm2 S2 H2 i o x2 R2 e2=>⟨ds,vs,e2,.of (x2.keep _ _ sq n1 (Nq hB n3)),vd.monoB A1.rel (hB.ext A1.ext) x2⟩)⟩⟩
theorem Nu(h:tIt K B (xR1 x) σ H R):GM (cS (tE K x) jk) σ H R:=by
 obtain⟨m,ρ,S,nx,S',E,Rl,hB,e,q⟩:=h;obtain⟨d,S1,e1,e⟩:=ae e;refine⟨m,ρ,S,d,S1,E,Rl,e1,λm1 H1 v A1 vd=>?_⟩;cases d with
 |int j=>
  dsimp only at e;split at e
  ·rename_i hl;cases e;exact⟨j,by rw[vd.ints],(jw hl).1,(jw hl).2,q m1 H1 _ A1 vL⟩
  ·cases e
 |_=>cases e
theorem Nv(h:tIt K B (xR2 x y) σ H R):GN (cS (tE K x) (cS (tE K y) jk)) σ H R:=by
 obtain⟨m,ρ,S,nx,S',E,Rl,hB,e,q⟩:=h;obtain⟨d,S1,e1,e⟩:=ae e;obtain⟨c,S2,e2,e⟩:=ae e;refine⟨m,ρ,S,d,S1,E,Rl,e1,λm1 H1 v A1 vd=>⟨m1,ρ,S1,c,S2,E.mono Rl A1.ext,A1.rel,e2,λm2 H2 w A2 vc=>?_⟩⟩;cases d with
 |int i=>
  cases c with
  |int j=>
   dsimp only at e;split at e
   ·rename_i hl;cases e;exact⟨i,j,by rw[vd.ints,vc.ints],⟨(jw hl.1).1,(jw hl.1).2,(jw hl.2).1,(jw hl.2).2⟩,q m2 H2 _ (A1.trans A2) vL⟩
   ·cases e
  |_=>cases e
 |_=>cases e
inductive Tg where
 |name (i:Nat) |tup (ts:List Tg)
mutual
noncomputable def aB:Tg->D->Rho->Option Rho
 |.name i,d,ρ=>if i < ρ.length then some (ρ.set i (some d)) else none
 |.tup ts,.tup ds,ρ=>aP ts ds ρ
 |_,_,_=>none
noncomputable def aP:List Tg->List D->Rho->Option Rho
 |[],[],ρ=>some ρ
 |t::ts,d::ds,ρ=>match aB t d ρ with
  |some ρ'=>aP ts ds ρ'
  |none=>none
 |_,_,_=>none
end
def tTg(K:Vf)(t:Tg):TG:=λx σ H Q=>∃m S ρ d ρ',Rel K m S H/\EnvR K m H ρ σ/\VD K m H d x/\aB t d ρ=some ρ'/\∀σ',EnvR K m H ρ' σ'->Q σ' H
def Aa(K:Vf)(ts:List Tg):TGs:=λxs σ H Q=>∃m S ρ ds ρ',Rel K m S H/\EnvR K m H ρ σ/\VDs K m H ds xs/\aP ts ds ρ=some ρ'/\∀σ',EnvR K m H ρ' σ'->Q σ' H
theorem EnvR.set{i:Nat}(E:EnvR K m H ρ σ)(h:VD K m H d v):EnvR K m H (ρ.set i (some d)) (σ.set i (some v)):=by
 refine⟨by simp[E.len],λj d' e=>?_⟩;rw[Yy] at e;rw[Yy,<-E.len];by_cases hj:i=j
 ·rw[if_pos hj] at e ⊢;split at e
  ·rename_i hl;rw[if_pos hl];cases e;exact⟨v,rfl,h⟩
  ·cases e
 ·rw[if_neg hj] at e ⊢;exact E.at_ j d' e
theorem o8{i:Nat}(h:tTg K (.name i) x σ H Q):m9 i x σ H Q:=by
 obtain⟨m,S,ρ,d,ρ',R,E,vd,e,q⟩:=h;simp only[aB] at e;split at e
 ·cases e;exact q _ (E.set vd)
 ·cases e
theorem Jl{n:Nat}(hn:n=ts.length)(h:tTg K (.tup ts) x σ H Q):MM K n (Aa K ts) x σ H Q:=by
 obtain⟨m,S,ρ,d,ρ',R,E,vd,e,q⟩:=h;cases d with
 |tup ds=>
  simp only[aB] at e;obtain⟨a,vs,rfl,sq,vds⟩:=vd.tups;refine⟨a,vs,rfl,.of sq,?_,m,S,ρ,ds,ρ',R,E,vds,e,q⟩
  have len:∀ (ts:List Tg) (ds:List D) (ρ ρ':Rho),aP ts ds ρ=some ρ'->ts.length=ds.length:=by
   intro ts
   induction ts with
   |nil=>intro ds ρ ρ' e;cases ds with |nil=>rfl |cons _ _=>simp[aP] at e
   |cons t ts ih=>
    intro ds ρ ρ' e;cases ds with
    |nil=>simp[aP] at e
    |cons d ds=>
     simp only[aP] at e;split at e
     ·simp[ih _ _ _ e]
     ·cases e
  rw[hn,<-vds.length];exact(len _ _ _ _ e).symm
 |_=>simp[aB] at e
theorem DS(h:Aa K [] xs σ H Q):ML xs σ H Q:=by
 obtain⟨m,S,ρ,ds,ρ',R,E,vd,e,q⟩:=h;cases ds with
 |nil=>simp[aP] at e;subst e;rw[VDs] at vd;exact⟨vd,q _ E⟩
 |cons _ _=>simp[aP] at e
theorem Ab(h:Aa K (t::ts) xs σ H Q):GL (tTg K t) (Aa K ts) xs σ H Q:=by
 obtain⟨m,S,ρ,ds,ρ',R,E,vd,e,q⟩:=h;cases ds with
 |nil=>simp[aP] at e
 |cons d ds=>
  simp only[aP] at e;rw[VDs] at vd;obtain⟨y,r,rfl,p,p'⟩:=vd;cases hb:aB t d ρ with
  |none=>rw[hb] at e;cases e
  |some ρ1=>
   rw[hb] at e;exact⟨y,r,rfl,m,S,ρ,d,ρ1,R,E,p,hb,λσ' E'=>⟨m,S,ρ1,ds,ρ',R,E',p',e,q⟩⟩
theorem PG.imp(h:PG X e t)(f:∀x σ H Q,t' x σ H Q->t x σ H Q):PG X e t':=λpins s σ H v u Q I r q=>h pins s σ H v u Q I r (f v σ H Q q)
theorem PGs.imp(h:PGs X es t)(f:∀x σ H Q,t' x σ H Q->t x σ H Q):PGs X es t':=λpins s σ H v u Q I r q=>h pins s σ H v u Q I r (f v σ H Q q)
end
inductive Fl where
 |nx |bk |ct |rt (d:D)
@[inline]abbrev XS:=Rho->Sto->Option (Fl × Rho × Sto)
def Ac(K:Vf)(m:List Addr)(H:Hp)(fl:Fl)(ρ:Rho)(D:Ends):Prop:=match fl with
 |.nx=>∀σ,EnvR K m H ρ σ->D.nx σ H
 |.bk=>∀σ,EnvR K m H ρ σ->D.bk σ H
 |.ct=>∀σ,EnvR K m H ρ σ->D.ct σ H
 |.rt d=>∀v,VD K m H d v->D.rt v H
def tSt(K:Vf)(x:XS):TS:=λD σ H=>∃m ρ S fl ρ' S',EnvR K m H ρ σ/\Rel K m S H/\x ρ S=some (fl,ρ',S')/\∀m' H',Aft K m H S' m' H'->Ac K m' H' fl ρ' D
section
variable {X:Cx} {K:Vf} {m:List Addr} {H:Hp} {S:Sto}
abbrev t6(x y:XS):XS:=λρ S=>match x ρ S with
 |none=>none
 |some (.nx,ρ1,S1)=>y ρ1 S1
 |some r=>some r
abbrev G1:XS:=λρ S=>some (.nx,ρ,S)
theorem DT{D:Ends}{σ:L2.St}{H:Hp}(h:tSt K G1 D σ H):GI D σ H:=by
 obtain⟨m,ρ,S,fl,ρ',S',E,R,e,q⟩:=h;cases e;exact q m H (Aft.refl R) σ E
theorem Jm{x y:XS}{D:Ends}{σ:L2.St}{H:Hp}(h:tSt K (t6 x y) D σ H):MH (tSt K x) (tSt K y) D σ H:=by
 obtain⟨m,ρ,S,fl,ρ',S',E,R,e,q⟩:=h;unfold t6 at e;cases hx:x ρ S with
 |none=>rw[hx] at e;cases e
 |some r=>
  obtain⟨f1,ρ1,S1⟩:=r;rw[hx] at e;refine⟨m,ρ,S,f1,ρ1,S1,E,R,hx,λm1 H1 A1=>?_⟩;cases f1 with
  |nx=>exactλσ1 E1=>⟨m1,ρ1,S1,fl,ρ',S',E1,A1.rel,e,λm2 H2 A2=>q m2 H2 (A1.trans A2)⟩
  |bk=>cases e;exact q m1 H1 A1
  |ct=>cases e;exact q m1 H1 A1
  |rt d=>cases e;exact q m1 H1 A1
abbrev qU(x:XE):XS:=λρ S=>match x ρ S with
 |none=>none
 |some (_,S1)=>some (.nx,ρ,S1)
abbrev Ae(x:XE):XS:=λρ S=>match x ρ S with
 |none=>none
 |some (d,S1)=>some (.rt d,ρ,S1)
abbrev Nw:XS:=λρ S=>some (.ct,ρ,S)
theorem DU{x:XE}{D:Ends}{σ:L2.St}{H:Hp}(h:tSt K (qU x) D σ H):GK (tE K x) D σ H:=by
 obtain⟨m,ρ,S,fl,ρ',S',E,R,e,q⟩:=h;unfold qU at e;cases hx:x ρ S with
 |none=>rw[hx] at e;cases e
 |some r=>
  obtain⟨d,S1⟩:=r;rw[hx] at e;cases e;exact⟨m,ρ,S,d,_,E,R,hx,λm1 H1 v A1 _=>q m1 H1 A1 σ (E.mono R A1.ext)⟩
theorem Jn{x:XE}{D:Ends}{σ:L2.St}{H:Hp}(h:tSt K (Ae x) D σ H):MI (tE K x) D σ H:=by
 obtain⟨m,ρ,S,fl,ρ',S',E,R,e,q⟩:=h;unfold Ae at e;cases hx:x ρ S with
 |none=>rw[hx] at e;cases e
 |some r=>
  obtain⟨d,S1⟩:=r;rw[hx] at e;cases e;exact⟨m,ρ,S,d,_,E,R,hx,λm1 H1 v A1 vd=>q m1 H1 A1 v vd⟩
theorem Jo{D:Ends}{σ:L2.St}{H:Hp}(h:tSt K Nw D σ H):GJ D σ H:=by
 obtain⟨m,ρ,S,fl,ρ',S',E,R,e,q⟩:=h;cases e;exact q m H (Aft.refl R) σ E
abbrev xIf(c:XT)(x y:XS):XS:=λρ S=>match c ρ S with
 |none=>none
 |some (b,S1)=>if b=true then x ρ S1 else y ρ S1
theorem Nx{c:XT}{x y:XS}{D:Ends}{σ:L2.St}{H:Hp}(h:tSt K (xIf c x y) D σ H):MJ (tT K c) (tSt K x) (tSt K y) D σ H:=by
 obtain⟨m,ρ,S,fl,ρ',S',E,R,e,q⟩:=h;unfold xIf at e;cases hc:c ρ S with
 |none=>rw[hc] at e;cases e
 |some r=>
  obtain⟨b,S1⟩:=r;rw[hc] at e;dsimp only at e;refine⟨m,ρ,S,b,S1,E,R,hc,λm1 H1 A1=>?_⟩;dsimp only;split
  ·rename_i hb;rw[if_pos hb] at e;exact⟨m1,ρ,S1,fl,ρ',S',E.mono R A1.ext,A1.rel,e,λm2 H2 A2=>q m2 H2 (A1.trans A2)⟩
  ·rename_i hb;rw[if_neg hb] at e;exact⟨m1,ρ,S1,fl,ρ',S',E.mono R A1.ext,A1.rel,e,λm2 H2 A2=>q m2 H2 (A1.trans A2)⟩
abbrev lv(x:XE)(t:Tg):XS:=λρ S=>match x ρ S with
 |none=>none
 |some (d,S1)=>(aB t d ρ).map λρ1=>(.nx,ρ1,S1)
theorem t7{x:XE}{t:Tg}{D:Ends}{σ:L2.St}{H:Hp}(h:tSt K (lv x t) D σ H):yQ (tE K x) (tTg K t) D σ H:=by
 obtain⟨m,ρ,S,fl,ρ',S',E,R,e,q⟩:=h;unfold lv at e;cases hx:x ρ S with
 |none=>rw[hx] at e;cases e
 |some r=>
  obtain⟨d,S1⟩:=r;rw[hx] at e;dsimp only at e;cases hb:aB t d ρ with
  |none=>rw[hb] at e;cases e
  |some ρ1=>
   rw[hb] at e;cases e;exact⟨m,ρ,S,d,_,E,R,hx,λm1 H1 v A1 vd=>⟨m1,_,ρ,d,_,A1.rel,E.mono R A1.ext,vd,hb,λσ' E'=>q m1 H1 A1 σ' E'⟩⟩
abbrev qV(v o i:XE):XS:=λρ S=>match v ρ S with
 |none=>none
 |some (dv,S1)=>match o ρ S1 with
  |none=>none
  |some (d_o,S2)=>match i ρ S2 with
   |none=>none
   |some (di,S3)=>(lu d_o di dv S3).map λS4=>(.nx,ρ,S4)
theorem DV{v o i:XE}{D:Ends}{σ:L2.St}{H:Hp}(h:tSt K (qV v o i) D σ H):yQ (tE K v) (MN (tE K o) (tE K i) (Nn K)) D σ H:=by
 obtain⟨m,ρ,S,fl,ρ',S',E,R,e,q⟩:=h;unfold qV at e;cases h1:v ρ S with
 |none=>rw[h1] at e;cases e
 |some r1=>
  obtain⟨dv,S1⟩:=r1;rw[h1] at e;dsimp only at e;cases h2:o ρ S1 with
  |none=>rw[h2] at e;cases e
  |some r2=>
   obtain⟨d2,S2⟩:=r2;rw[h2] at e;dsimp only at e;cases h3:i ρ S2 with
   |none=>rw[h3] at e;cases e
   |some r3=>
    obtain⟨d3,S3⟩:=r3;rw[h3] at e;dsimp only at e;cases h4:lu d2 d3 dv S3 with
    |none=>rw[h4] at e;cases e
    |some S4=>
     rw[h4] at e;cases e;refine⟨m,ρ,S,dv,S1,E,R,h1,λm1 H1 v1 A1 vd1=>⟨m1,ρ,S1,d2,S2,E.mono R A1.ext,A1.rel,h2,λm2 H2 v2 A2 vd2=>⟨m2,ρ,S2,d3,S3,E.mono R (A1.trans A2).ext,A2.rel,h3,λm3 H3 v3 A3 vd3=>?_⟩⟩⟩;exact⟨m3,S3,d2,d3,dv,_,A3.rel,vd2.mono A2.rel A3.ext,vd3,vd1.mono A1.rel (A2.trans A3).ext,h4,λm4 H4 A4=>q m4 H4 (((A1.trans A2).trans A3).trans A4) σ (E.mono R (((A1.trans A2).trans A3).trans A4).ext)⟩
abbrev fP(nx:Nxt)(tg:Tg)(b:XS):Nat->Nat->XS
 |0,_=>λ_ _=>none
 |k+1,i=>λρ S=>match nx i S with
  |none=>none
  |some none=>some (.nx,ρ,S)
  |some (some d)=>match aB tg d ρ with
   |none=>none
   |some ρ1=>match b ρ1 S with
    |none=>none
    |some (.nx,ρ2,S2)=>fP nx tg b k (i+1) ρ2 S2
    |some (.ct,ρ2,S2)=>fP nx tg b k (i+1) ρ2 S2
    |some (.bk,ρ2,S2)=>some (.nx,ρ2,S2)
    |some (.rt d,ρ2,S2)=>some (.rt d,ρ2,S2)
abbrev Af(it:XI)(tg:Tg)(b:XS)(k:Nat):XS:=λρ S=>match it ρ S with
 |none=>none
 |some (nx,S1)=>fP nx tg b k 0 ρ S1
def lpW(K:Vf)(nx:Nxt)(tg:Tg)(b:XS)(m1:List Addr)(H1:Hp)(D:Ends)(i k:Nat)(σ:L2.St)(H:Hp):Prop:=∃m ρ S fl ρ' S',EnvR K m H ρ σ/\Rel K m S H/\Ext m1 H1 m H/\fP nx tg b k i ρ S=some (fl,ρ',S')/\∀m' H',Aft K m H S' m' H'->Ac K m' H' fl ρ' D
theorem DW{nx:Nxt}{tg:Tg}{b:XS}{J:It}{m1:List Addr}{H1:Hp}{D:Ends}(hI:IOk K [] J nx m1 H1)(k:Nat){m:List Addr}{ρ:Rho}{S:Sto}{σ:L2.St}{H:Hp}{fl:Fl}{ρ':Rho}{S':Sto}(E:EnvR K m H ρ σ)(R:Rel K m S H)(x:Ext m1 H1 m H)(e:fP nx tg b k 0 ρ S=some (fl,ρ',S'))(q:∀m' H',Aft K m H S' m' H'->Ac K m' H' fl ρ' D) :
  ∃W:Nat->Nat->L2.St->Hp->Prop,(∃m,W 0 m σ H)/\∀i m σ H,W i m σ H ->
   (J.stop i H/\D.nx σ H)\/(J.go i H/\∃N:L2.St->Hp->Prop,(∀σ' H',N σ' H'->∃m',m' < m/\W (i+1) m' σ' H')/\∀x H',J.yld i H x H'->tTg K tg x σ H' λσ2 H2=>tSt K b { D with nx:=N,ct:=N,bk:=D.nx } σ2 H2):=by
 refine⟨lpW K nx tg b m1 H1 D,⟨k,m,ρ,S,fl,ρ',S',E,R,x,e,q⟩,?_⟩;intro i k σ H z;obtain⟨m,ρ,S,fl,ρ',S',E,R,x,e,q⟩:=z;cases k with
 |zero=>simp[fP] at e
 |succ k=>
  simp only[fP] at e;cases hn:nx i S with
  |none=>rw[hn] at e;cases e
  |some o=>
   rw[hn] at e;obtain⟨h1,h2⟩:=hI m S H i (x.toB λb hb=>absurd hb (by simp)) R;cases o with
   |none=>cases e;exact .inl ⟨h1 hn,q m H (Aft.refl R) σ E⟩
   |some d=>
    obtain⟨go,hy⟩:=h2 d hn;dsimp only at e;cases hb:aB tg d ρ with
    |none=>rw[hb] at e;cases e
    |some ρ1=>
     rw[hb] at e;dsimp only at e;cases hx:b ρ1 S with
     |none=>rw[hx] at e;cases e
     |some r=>
      obtain⟨f2,ρ2,S2⟩:=r;rw[hx] at e;refine .inr ⟨go,lpW K nx tg b m1 H1 D (i+1) k,λσ' H' z=>⟨k,Xa k,z⟩,λy H' yl=>?_⟩;obtain⟨A,vd⟩:=hy y H' yl;refine⟨m,S,ρ,d,ρ1,A.rel,E.mono R A.ext,vd,hb,λσ2 E2=>⟨m,ρ1,S,f2,ρ2,S2,E2,A.rel,hx,λm3 H3 A3=>?_⟩⟩;cases f2 with
      |nx=>exactλσ3 E3=>⟨m3,ρ2,S2,fl,ρ',S',E3,A3.rel,(x.trans A.ext).trans A3.ext,e,λm4 H4 A4=>q m4 H4 ((A.trans A3).trans A4)⟩
      |ct=>exactλσ3 E3=>⟨m3,ρ2,S2,fl,ρ',S',E3,A3.rel,(x.trans A.ext).trans A3.ext,e,λm4 H4 A4=>q m4 H4 ((A.trans A3).trans A4)⟩
      |bk=>cases e;exactλσ3 E3=>q m3 H3 (A.trans A3) σ3 E3
      |rt d=>cases e;exactλv vd=>q m3 H3 (A.trans A3) v vd
theorem Jp{it:XI}{tg:Tg}{b:XS}{k:Nat}{D:Ends}{σ:L2.St}{H:Hp}(h:tSt K (Af it tg b k) D σ H):MQ (tIt K [] it) (tTg K tg) (tSt K b) D σ H:=by
 obtain⟨m,ρ,S,fl,ρ',S',E,R,e,q⟩:=h;unfold Af at e;cases hi:it ρ S with
 |none=>rw[hi] at e;cases e
 |some r=>
  obtain⟨nx,S1⟩:=r;rw[hi] at e;exact⟨m,ρ,S,nx,S1,E,R,λb hb=>absurd hb (by simp),hi,λm1 H1 J A1 hI=>DW hI k (E.mono R A1.ext) A1.rel (Ext.refl _ _) e λm2 H2 A2=>q m2 H2 (A1.trans A2)⟩
end
mutual
noncomputable def dM:Tg->Rho->Bool
 |.name i,ρ=>match ρ[i]? with
  |some none=>true
  |_=>false
 |.tup ts,ρ=>fQ ts ρ
noncomputable def fQ:List Tg->Rho->Bool
 |[],_=>true
 |t::ts,ρ=>dM t ρ && fQ ts ρ
end
structure LeR(ρ ρ':Rho):Prop where
 len:ρ.length=ρ'.length
 at_:∀ (i:Nat) (d:D),ρ[i]?=some (some d)->ρ'[i]?=some (some d)
theorem LeR.refl(ρ:Rho):LeR ρ ρ:=⟨rfl,λ_ _ h=>h⟩
mutual
theorem qW:∀ {t:Tg} {d:D} {ρ ρ':Rho},LeR ρ0 ρ->dM t ρ0=true->aB t d ρ=some ρ'->LeR ρ0 ρ'
 |.name i,d,ρ,ρ',l,f,e=>by
  simp only[aB] at e;split at e
  ·cases e;refine⟨by simp[l.len],λj d' h=>?_⟩;rw[Yy];by_cases hj:i=j
   ·subst hj;simp only[dM] at f;rw[h] at f;cases f
   ·rw[if_neg hj];exact l.at_ j d' h
  ·cases e
 |.tup ts,.tup ds,ρ,ρ',l,f,e=>by
  simp only[aB] at e;simp only[dM] at f;exact nI l f e
 |.tup ts,.non,_,_,_,_,e=>by simp[aB] at e
 |.tup ts,.bl _,_,_,_,_,e=>by simp[aB] at e
 |.tup ts,.int _,_,_,_,_,e=>by simp[aB] at e
 |.tup ts,.str _,_,_,_,_,e=>by simp[aB] at e
 |.tup ts,.ref _,_,_,_,_,e=>by simp[aB] at e
theorem nI:∀ {ts:List Tg} {ds:List D} {ρ ρ':Rho},LeR ρ0 ρ->fQ ts ρ0=true->aP ts ds ρ=some ρ'->LeR ρ0 ρ'
 |[],[],ρ,ρ',l,_,e=>by simp only[aP] at e;cases e;exact l
 |[],_::_,_,_,_,_,e=>by simp[aP] at e
 |_::_,[],_,_,_,_,e=>by simp[aP] at e
 |t::ts,d::ds,ρ,ρ',l,f,e=>by
  simp only[aP] at e;simp only[fQ,bAE] at f;cases hb:aB t d ρ with
  |none=>rw[hb] at e;cases e
  |some ρ1=>rw[hb] at e;exact nI (qW l f.1 hb) f.2 e
end
section
variable {X:Cx} {K:Vf} {m:List Addr} {H:Hp} {S:Sto}
theorem EnvR.weaken(E:EnvR K m H ρ' σ)(l:LeR ρ ρ'):EnvR K m H ρ σ:=⟨l.len.trans E.len,λi d h=>E.at_ i d (l.at_ i d h)⟩
abbrev bo(nx:Nxt)(tg:Tg)(c:XA)(ρ:Rho):Nat->Nat->Sto->Option (List D × Sto)
 |0,_,_=>none
 |k+1,i,S=>match nx i S with
  |none=>none
  |some none=>some ([],S)
  |some (some d)=>match aB tg d ρ with
   |none=>none
   |some ρ1=>bnd (c ρ1 S) λes S1=>bnd (bo nx tg c ρ k (i+1) S1) λrs S2=>some (es++rs,S2)
abbrev Ag(t:XT)(c:XA):XA:=λρ S=>bnd (t ρ S) λb S1=>if b=true then c ρ S1 else some ([],S1)
abbrev G2(x:XE):XA:=λρ S=>bnd (x ρ S) λd S1=>some ([d],S1)
abbrev jx(it:XI)(tg:Tg)(c:XA)(k:Nat):XA:=λρ S=>if dM tg ρ=true then bnd (it ρ S) λnx S1=>bo nx tg c ρ k 0 S1 else none
abbrev lw(own:Nat)(it:XI)(tg:Tg)(c:XA)(k:Nat):XA:=λρ S=>bnd (it ρ S) λnx S1=>if dM tg (ρ++Zs own none)=true then
 (bnd (bo nx tg c (ρ++Zs own none) k 0 S1) λes S2=>if es.length<=100000 then some (es,S2) else none) else none
def tCl(K:Vf)(acc:Addr)(c:XA):TS:=λD σ H=>∃m ρ S es S' zs vs,EnvR K m H ρ σ/\Rel K m S H/\acc ∉ m/\H acc=some (.lst vs)/\VDs K m H zs vs/\zs.length+es.length<=100000/\c ρ S=some (es,S') ∧
 ∀m' H' σ' vs',ExtB [acc] m H m' H'->Rel K m' S' H'->H' acc=some (.lst vs')->VDs K m' H' (zs++es) vs'->EnvR K m' H' ρ σ'->D.nx σ' H'
theorem Ah(h:H acc=some (.lst vs))(n:acc ∉ m):AtB [acc] m H:=λb hb=>by simp at hb;subst hb;exact⟨⟨vs,h⟩,n⟩
theorem ExtB.refl(n:acc ∉ m):ExtB [acc] m H m H:=⟨Ye m,λ_ _ h _ _=>h,λ_ h n=>absurd h n,λb hb=>by simp at hb;subst hb;exact n⟩
theorem ExtB.put(n:acc ∉ m)(o:HO):ExtB [acc] m H m (upd H acc o):=⟨Ye m,λa u h _ nb=>by
 rw[az (λz=>nb (by simp[z]))];exact h,λ_ h n=>absurd h n,λb hb=>by simp at hb;subst hb;exact n⟩
theorem Rel.extB(R:Rel K m S H)(hB:AtB [acc] m H)(x:ExtB [acc] m H m H')(k:∀b ∈ m,H' b=H b):Rel K m S H':=by
 refine⟨R.len,R.nd,λi o e=>?_⟩;obtain⟨b,hb,r⟩:=R.ob i o e;have hm:b ∈ m:=Zj hb;refine⟨b,hb,?_⟩;cases o with
 |lst ds=>obtain⟨vs,p,q⟩:=r;exact⟨vs,(k b hm).trans p,VDs.monoB R hB x q⟩
 |frz ds=>obtain⟨o,vs,p,q⟩:=r;exact⟨o,vs,(k b hm).trans p,VDs.monoB R hB x q⟩
 |dic ks ds=>obtain⟨vs,p,l,q⟩:=r;exact⟨vs,(k b hm).trans p,l,VDs.monoB R hB x q⟩
theorem DX{acc:Addr}{x:XE}{D:Ends}{σ:L2.St}{H:Hp}(h:tCl K acc (G2 x) D σ H):GV acc (tE K x) D σ H:=by
 obtain⟨m,ρ,S,es,S',zs,vs,E,R,na,ha,vz,hl,e,q⟩:=h;obtain⟨d,S1,e1,e⟩:=ae e;cases e;refine⟨m,ρ,S,d,_,E,R,e1,λm1 H1 v A1 vd=>?_⟩;have hB:=Ah ha na;have ha1:H1 acc=some (.lst vs):=A1.ext.keep _ _ ha na;have xB:=A1.ext.toB hB;have na1:acc ∉ m1:=xB.nb acc (by simp);have xp:=ExtB.put (H:=H1) na1 (.lst (vs++[v]));have hB1:=Ah ha1 na1;have lz:=vz.length;simp only[Zn] at hl;refine⟨vs,ha1,by rw[Uk];lia,q m1 _ σ (vs++[v]) (xB.trans xp) (A1.rel.extB hB1 xp λb hb=>az λz=>na1 (z ▸ hb)) aV ?_ ((E.mono R A1.ext).monoB A1.rel hB1 xp)⟩;exact VDs.append ((vz.mono R A1.ext).monoB A1.rel hB1 xp) (.cons (vd.monoB A1.rel hB1 xp) .nil)
theorem DY{acc:Addr}{t:XT}{c:XA}{D:Ends}{σ:L2.St}{H:Hp}(h:tCl K acc (Ag t c) D σ H):fA (tT K t) (tCl K acc c) D σ H:=by
 obtain⟨m,ρ,S,es,S',zs,vs,E,R,na,ha,vz,hl,e,q⟩:=h;obtain⟨b,S1,e1,e⟩:=ae e;refine⟨m,ρ,S,b,S1,E,R,e1,λm1 H1 A1=>?_⟩;have hB:=Ah ha na;have ha1:H1 acc=some (.lst vs):=A1.ext.keep _ _ ha na;have xB:=A1.ext.toB hB;have na1:acc ∉ m1:=xB.nb acc (by simp);dsimp only;split
 ·rename_i hb;rw[if_pos hb] at e;exact⟨m1,ρ,S1,es,S',zs,vs,E.mono R A1.ext,A1.rel,na1,ha1,vz.mono R A1.ext,hl,e,λm2 H2 σ2 vs2 x2 R2 h2 v2 E2=>q m2 H2 σ2 vs2 (xB.trans x2) R2 h2 v2 E2⟩
 ·rename_i hb;rw[if_neg hb] at e;cases e;refine q m1 H1 σ vs xB A1.rel ha1 ?_ (E.mono R A1.ext);rw[ZS];exact vz.mono R A1.ext
theorem qX{t:TS}{D:Ends}{σ:L2.St}{H:Hp}(h:t D σ H):fA Dd t D σ H:=by
 show if true=true then t D σ H else D.nx σ H
 rw[if_pos rfl];exact h
theorem Jq{acc:Addr}{c:XA}{D:Ends}{σ:L2.St}{H:Hp}(h:tCl K acc c D σ H):fA Dd (tCl K acc c) D σ H:=by
 exact qX h
def clW(K:Vf)(acc:Addr)(nx:Nxt)(tg:Tg)(c:XA)(ρ:Rho)(m1:List Addr)(H1:Hp)(EE:Ends)(i k:Nat)(σ:L2.St)(H:Hp):Prop:=∃m S S' es zs vs,EnvR K m H ρ σ/\Rel K m S H/\ExtB [acc] m1 H1 m H/\H acc=some (.lst vs)/\VDs K m H zs vs/\zs.length+es.length<=100000/\bo nx tg c ρ k i S=some (es,S')/\∀m' H' σ' vs',ExtB [acc] m H m' H'->Rel K m' S' H'->H' acc=some (.lst vs')->VDs K m' H' (zs++es) vs'->EnvR K m' H' ρ σ'->EE.nx σ' H'
theorem vM(hI:IOk K [acc] J nx m1 H1)(hts:∀D σ H,tCl K acc c D σ H->ts D σ H)(k:Nat)
  (fr:dM tg ρ=true) (E:EnvR K m H ρ σ) (R:Rel K m S H) (x:ExtB [acc] m1 H1 m H) (ha:H acc=some (.lst vs)) (vz:VDs K m H zs vs) (hl:zs.length+es.length<=100000) (e:bo nx tg c ρ k 0 S=some (es,S'))
  (q:∀m' H' σ' vs',ExtB [acc] m H m' H'->Rel K m' S' H'->H' acc=some (.lst vs')->VDs K m' H' (zs++es) vs'->EnvR K m' H' ρ σ'->EE.nx σ' H'):ql J (tTg K tg) ts EE σ H:=by
 refine⟨clW K acc nx tg c ρ m1 H1 EE,⟨k,m,S,S',es,zs,vs,E,R,x,ha,vz,hl,e,q⟩,?_⟩;intro i k σ H z;obtain⟨m,S,S',es,zs,vs,E,R,x,ha,vz,hl,e,q⟩:=z;have na:acc ∉ m:=x.nb acc (by simp);have hB:=Ah ha na;cases k with
 |zero=>simp[bo] at e
 |succ k=>
  simp only[bo] at e;cases hn:nx i S with
  |none=>rw[hn] at e;cases e
  |some o=>
   rw[hn] at e;obtain⟨h1,h2⟩:=hI m S H i x R;cases o with
   |none=>
    cases e;exact .inl ⟨h1 hn,q m H σ vs (ExtB.refl na) R ha (by rw[ZS];exact vz) E⟩
   |some d=>
    obtain⟨go,hy⟩:=h2 d hn;dsimp only at e;cases hb:aB tg d ρ with
    |none=>rw[hb] at e;cases e
    |some ρ1=>
     rw[hb] at e;dsimp only at e;obtain⟨e1,S1,c1,e⟩:=ae e;obtain⟨rs,S2,c2,e⟩:=ae e;cases e;rw[Zc] at hl;refine .inr ⟨go,clW K acc nx tg c ρ m1 H1 EE (i+1) k,λσ' H' z=>⟨k,Xa k,z⟩,λy H' yl=>?_⟩;obtain⟨A,vd⟩:=hy y H' yl;have xA:=A.ext.toB hB;have ha':H' acc=some (.lst vs):=A.ext.keep _ _ ha na;refine⟨m,S,ρ,d,ρ1,A.rel,E.mono R A.ext,vd,hb,λσ2 E2=>hts _ _ _ ⟨m,ρ1,S,e1,S1,zs,vs,E2,A.rel,na,ha',vz.mono R A.ext,by lia,c1,λm3 H3 σ3 vs3 x3 R3 h3 v3 E3=>?_⟩⟩;refine⟨m3,S1,_,rs,zs++e1,vs3,E3.weaken (qW (LeR.refl ρ) fr hb),R3,(x.trans xA).trans x3,h3,v3,by rw[Zc];lia,c2,λm4 H4 σ4 vs4 x4 R4 h4 v4 E4=>?_⟩;refine q m4 H4 σ4 vs4 ((xA.trans x3).trans x4) R4 h4 ?_ E4;rw[<-Yo];exact v4
theorem Ai{acc:Addr}{it:XI}{tg:Tg}{t:TT}{c c':XA}{k:Nat}{D:Ends}{σ:L2.St}{H:Hp}(hts:∀D σ H,tCl K acc c D σ H->fA t (tCl K acc c') D σ H)(h:tCl K acc (jx it tg c k) D σ H):zj (tIt K [acc] it) (tTg K tg) t (tCl K acc c') D σ H:=by
 obtain⟨m,ρ,S,es,S',zs,vs,E,R,na,ha,vz,hl,e,q⟩:=h;unfold jx at e;split at e
 ·rename_i fr;obtain⟨nx,S1,e1,e⟩:=ae e;have hB:=Ah ha na;refine⟨m,ρ,S,nx,S1,E,R,hB,e1,λm1 H1 J A1 hI=>?_⟩;have xB:=A1.ext.toB hB;have na1:acc ∉ m1:=xB.nb acc (by simp);exact vM hI hts k fr (E.mono R A1.ext) A1.rel (ExtB.refl na1) (A1.ext.keep _ _ ha na) (vz.mono R A1.ext) hl e λm2 H2 σ2 vs2 x2 R2 h2 v2 E2=>q m2 H2 σ2 vs2 (xB.trans x2) R2 h2 v2 E2
 ·cases e
theorem EnvR.more(E:EnvR K m H ρ σ)(n:Nat):EnvR K m H (ρ++Zs n none) (σ++Zs n none):=by
 refine⟨by simp[E.len],λi d e=>?_⟩;by_cases hi:i < ρ.length
 ·rw[Zt hi] at e;rw[Zt (by rw[<-E.len];exact hi)];exact E.at_ i d e
 ·rw[Zp (by lia),Yr] at e;split at e <;> cases e
theorem vN{own:Nat}{k:Nat}(hts:∀acc D σ H,tCl K acc c D σ H->fA t (tCl K acc c') D σ H)(h:eW K (lw own it tg c k) σ H Q):zk own (tIt K [] it) (tTg K tg) (λacc=>fA t (tCl K acc c')) σ H Q:=by
 obtain⟨m,ρ,S,es,S',E,R,e,q⟩:=h;obtain⟨nx,S1,e1,e⟩:=ae e;split at e
 ·rename_i fr;obtain⟨es',S2,e2,e⟩:=ae e;split at e
  ·rename_i hl;cases e;refine⟨m,ρ,S,nx,S1,E,R,λb hb=>absurd hb (by simp),e1,λm1 H1 J A1 hI acc hacc=>?_⟩;have x0:=Ext.beside A1.rel hacc (.lst []);have R0:=A1.rel.beside hacc (.lst []);have na:=A1.rel.no hacc
   have hI':IOk K [acc] J nx m1 (upd H1 acc (.lst [])):=by
    intro m2 S2 H2 i x2 R2;refine hI m2 S2 H2 i ⟨x2.pre,λa o h n _=>?_,λa h n=>?_,λb hb=>absurd hb (by simp)⟩ R2
    ·have ne:a ≠ acc:=aU h hacc;exact x2.keep a o (by rw[az ne];exact h) n (by simp[ne])
    ·have:=x2.new a h n;by_cases hz:a=acc
     ·subst hz;exact hacc
     ·rw[az hz] at this;exact this
   refine vM (zs:=[]) (vs:=[]) hI' (hts acc) k fr ((E.mono R A1.ext |>.mono A1.rel x0).more own) R0 (ExtB.refl na) aV .nil (by simpa using hl) e2 λm2 H2 σ2 vs2 x2 R2 h2 v2 E2=>?_
   have xx:Ext m1 H1 m2 H2:=⟨x2.pre,λa o h n=>by
    have ne:a ≠ acc:=aU h hacc;exact x2.keep a o (by rw[az ne];exact h) n (by simp[ne]),λa h n=>by
    have:=x2.new a h n;by_cases hz:a=acc
    ·subst hz;exact hacc
    ·rw[az hz] at this;exact this⟩
   have hn:H acc=none:=by
    cases eh:H acc with
    |none=>rfl
    |some o=>
     by_cases hm:acc ∈ m
     ·exact absurd (A1.ext.pre.subset hm) na
     ·have:=A1.ext.keep acc o eh hm;rw[hacc] at this;cases this
   exact q m2 H2 acc vs2 (A1.trans ⟨xx,R2⟩) h2 (x2.nb acc (by simp)) (λb hb z=>na (A1.ext.pre.subset (z ▸ hb))) hn (by simpa using v2)
  ·cases e
 ·cases e
end
section
variable {X:Cx} {K:Vf} {m:List Addr} {H:Hp} {S:Sto}
abbrev Aj(x y:XE):XE:=λρ S=>bnd (x ρ S) λd S1=>match d with
 |.bl true=>y ρ S1
 |.bl false=>some (.bl false,S1)
 |_=>none
abbrev xOr(x y:XE):XE:=λρ S=>bnd (x ρ S) λd S1=>match d with
 |.bl true=>some (.bl true,S1)
 |.bl false=>y ρ S1
 |_=>none
abbrev xR:D->Sto->Option (D × Sto)
 |.bl b,S=>some (.bl (!b),S)
 |_,_=>none
abbrev Jr:D->Sto->Option (D × Sto)
 |.int i,S=>some (.int (-i),S)
 |_,_=>none
abbrev Js(c:XT)(x y:XE):XE:=λρ S=>bnd (c ρ S) λb S1=>if b=true then x ρ S1 else y ρ S1
theorem Ak(h:tE K (Aj x y) σ H Q):GF (tE K x) (tE K y) σ H Q:=by
 obtain⟨m,ρ,S,d,S',E,R,e,q⟩:=h;obtain⟨a,S1,e1,e⟩:=ae e;refine⟨m,ρ,S,a,S1,E,R,e1,λm1 H1 v A1 va=>?_⟩;cases a with
 |bl b=>
  refine⟨b,va.bls,?_⟩;cases b with
  |true=>exact⟨m1,ρ,S1,d,S',E.mono R A1.ext,A1.rel,e,λm2 H2 w A2 vd=>q m2 H2 w (A1.trans A2) vd⟩
  |false=>cases e;exact q m1 H1 _ A1 bN
 |_=>cases e
theorem G3(h:tE K (xOr x y) σ H Q):MG (tE K x) (tE K y) σ H Q:=by
 obtain⟨m,ρ,S,d,S',E,R,e,q⟩:=h;obtain⟨a,S1,e1,e⟩:=ae e;refine⟨m,ρ,S,a,S1,E,R,e1,λm1 H1 v A1 va=>?_⟩;cases a with
 |bl b=>
  refine⟨b,va.bls,?_⟩;cases b with
  |false=>exact⟨m1,ρ,S1,d,S',E.mono R A1.ext,A1.rel,e,λm2 H2 w A2 vd=>q m2 H2 w (A1.trans A2) vd⟩
  |true=>cases e;exact q m1 H1 _ A1 bN
 |_=>cases e
theorem Jt(h:tE K (xUn xR x) σ H Q):GG (tE K x) σ H Q:=by
 obtain⟨m,ρ,S,d,S',E,R,e,q⟩:=h;obtain⟨a,S1,e1,e⟩:=ae e;refine⟨m,ρ,S,a,S1,E,R,e1,λm1 H1 v A1 va=>?_⟩;cases a with
 |bl b=>cases e;exact⟨b,va.bls,q m1 H1 _ A1 bN⟩
 |_=>cases e
theorem DZ:UnR X (unaryOp .USub) (rS1 X.K Jr):=by
 intro pins s σ H x v Q I rx h;refine yT pins s σ H x v Q I rx ?_;obtain⟨m,S,a,d,S',R,va,e,q⟩:=h;cases a with
 |int i=>cases e;exact⟨i,va.ints,q m H _ (Aft.refl R) bq⟩
 |_=>cases e
theorem Ju(h:tE K (Js c x y) σ H Q):tIf (tT K c) (tE K x) (tE K y) σ H Q:=by
 obtain⟨m,ρ,S,d,S',E,R,e,q⟩:=h;obtain⟨b,S1,e1,e⟩:=ae e;refine⟨m,ρ,S,b,S1,E,R,e1,λm1 H1 A1=>?_⟩;dsimp only;split
 ·rename_i hb;rw[if_pos hb] at e;exact⟨m1,ρ,S1,d,S',E.mono R A1.ext,A1.rel,e,λm2 H2 w A2 vd=>q m2 H2 w (A1.trans A2) vd⟩
 ·rename_i hb;rw[if_neg hb] at e;exact⟨m1,ρ,S1,d,S',E.mono R A1.ext,A1.rel,e,λm2 H2 w A2 vd=>q m2 H2 w (A1.trans A2) vd⟩
abbrev xS(f g:D->D->Sto->Option (D × Sto))(x y z:XE):XE:=λρ S=>bnd (x ρ S) λa S1=>bnd (y ρ S1) λb S2=>bnd (f a b S2) λr S3=>match r with
 |.bl true=>bnd (z ρ S3) λc S4=>g b c S4
 |.bl false=>some (.bl false,S3)
 |_=>none
theorem Al(h:tE K (xS f g x y z) σ H Q):sK (rS K f) (rS K g) (tE K x) (tE K y) (tE K z) σ H Q:=by
 obtain⟨m,ρ,S,d,S',E,R,e,q⟩:=h;obtain⟨a,S1,e1,e⟩:=ae e;obtain⟨b,S2,e2,e⟩:=ae e;obtain⟨r,S3,e3,e⟩:=ae e;refine⟨m,ρ,S,a,S1,E,R,e1,λm1 H1 v A1 va=>⟨m1,ρ,S1,b,S2,E.mono R A1.ext,A1.rel,e2,λm2 H2 w A2 vb=>?_⟩⟩;refine⟨m2,S2,a,b,r,S3,A2.rel,va.mono A1.rel A2.ext,vb,e3,λm3 H3 u A3 vr=>?_⟩;cases r with
 |bl k=>
  refine⟨k,vr.bls,?_⟩;cases k with
  |true=>
   dsimp only at e;obtain⟨c,S4,e4,e⟩:=ae e;exact⟨m3,ρ,S3,c,S4,E.mono R ((A1.trans A2).trans A3).ext,A3.rel,e4,λm4 H4 y A4 vc=>⟨m4,S4,b,c,d,S',A4.rel,vb.mono A2.rel (A3.trans A4).ext,vc,e,λm5 H5 t A5 vd=>q m5 H5 t ((((A1.trans A2).trans A3).trans A4).trans A5) vd⟩⟩
  |false=>cases e;exact q m3 H3 _ ((A1.trans A2).trans A3) bN
 |_=>cases e
abbrev Am(x y:XT):XT:=λρ S=>bnd (x ρ S) λb S1=>if b=true then y ρ S1 else some (false,S1)
abbrev Jv(x y:XT):XT:=λρ S=>bnd (x ρ S) λb S1=>if b=true then some (true,S1) else y ρ S1
abbrev An(x:XT):XT:=λρ S=>bnd (x ρ S) λb S1=>some (!b,S1)
theorem Ao(h:tT K (Am x y) σ H Q):ME (tT K x) (tT K y) σ H Q:=by
 obtain⟨m,ρ,S,d,S',E,R,e,q⟩:=h;obtain⟨b,S1,e1,e⟩:=ae e;refine⟨m,ρ,S,b,S1,E,R,e1,λm1 H1 A1=>?_⟩;dsimp only;split
 ·rename_i hb;rw[if_pos hb] at e;exact⟨m1,ρ,S1,d,S',E.mono R A1.ext,A1.rel,e,λm2 H2 A2=>q m2 H2 (A1.trans A2)⟩
 ·rename_i hb;rw[if_neg hb] at e;cases e;exact q m1 H1 A1
theorem G4(h:tT K (Jv x y) σ H Q):tOr (tT K x) (tT K y) σ H Q:=by
 obtain⟨m,ρ,S,d,S',E,R,e,q⟩:=h;obtain⟨b,S1,e1,e⟩:=ae e;refine⟨m,ρ,S,b,S1,E,R,e1,λm1 H1 A1=>?_⟩;dsimp only;split
 ·rename_i hb;rw[if_pos hb] at e;cases e;exact q m1 H1 A1
 ·rename_i hb;rw[if_neg hb] at e;exact⟨m1,ρ,S1,d,S',E.mono R A1.ext,A1.rel,e,λm2 H2 A2=>q m2 H2 (A1.trans A2)⟩
theorem Jw(h:tT K (An x) σ H Q):MF (tT K x) σ H Q:=by
 obtain⟨m,ρ,S,d,S',E,R,e,q⟩:=h;obtain⟨b,S1,e1,e⟩:=ae e;cases e;exact⟨m,ρ,S,b,_,E,R,e1,λm1 H1 A1=>q m1 H1 A1⟩
@[inline]abbrev Calls:=Nat->List D->Sto->Option (D × Sto)
def spC(K:Vf)(g:List D->Sto->Option (D × Sto))(n:Nat):Sp:=λvs H Q _=>∃m ds S d S',VDs K m H ds vs/\Rel K m S H/\ds.length=n/\g ds S=some (d,S')/\∀m' H' v,Aft K m H S' m' H'->VD K m' H' d v->Q v H'
abbrev qY(g:List D->Sto->Option (D × Sto))(n:Nat)(x:XA):XE:=λρ S=>bnd (x ρ S) λds S1=>if ds.length=n then g ds S1 else none
theorem D0{n:Nat}(h:tE K (qY g n x) σ H Q):GS (spC K g n) [] E0 (tAr K x) σ H Q:=by
 obtain⟨m,ρ,S,d,S',E,R,e,q⟩:=h;obtain⟨ds,S1,e1,e⟩:=ae e;split at e
 ·rename_i hl;refine⟨m,ρ,S,ds,S1,E,R,e1,λm1 H1 vs A1 vd=>⟨m1,ds,S1,d,S',by rw[ZS];exact vd,A1.rel,hl,e,λm2 H2 v A2 vv=>q m2 H2 v (A1.trans A2) vv⟩⟩
 ·cases e
end
mutual
inductive CE where |non |bl (b:Bool) |int (i:Int) |str (x:Str) |var (i:Nat) |con (k:Nat)(v:Int) |tup (es:List CE) |lst (es:List CE) |dic0 |dic1 (i:Int)(v:Nat) |bin (o:BOp)(a b:CE) |neg (a:CE) |cmp (o:COp)(a b:CE) |chn (o p:COp)(a b c:CE) |and (a b:CE) |or (a b:CE) |not (a:CE) |ite (c a b:CE) |ix (a b:CE) |sl (a:CE)(lo hi:Option CE) |call (f:Nat)(es:List CE) |inst (t:Ty)(a:CE) |len (a:CE) |all (a:CE) |tupOf (a:CE) |listOf (a:CE) |listR (a:CE) |srt (a:CE) |mxL (a:CE) |mxD (a:CE)(c:Int) |strI (a:CE) |rev (a:CE) |mx (a b:CE) |mn (a b:CE) |rep (a:CE) |comp (own:List Str)(elt:CE)(cls:List Cl) |app (o e:CE) |popAt (o e:CE) |cnt (o e:CE)
inductive CI where
 |val (a:CE) |r1 (a:CE) |r2 (a b:CE) |en (a:CE)
inductive Cl where
 |mk (tg:Tg) (it:CI) (cond:Option CE)
end
abbrev ai:CE->Bool
 |.lst _=>true |.comp _ _ _=>true |.listOf _=>true |.listR _=>true |.srt _=>true
 |_=>false
abbrev LF:Nat:=1000000
abbrev xNo{α:Type}:Rho->Sto->Option (α × Sto):=λ_ _=>none
abbrev lx(x:XE):XA:=λρ S=>bnd (x ρ S) λd S1=>(ao d S1).map λr=>(r.2,S1)
abbrev ce(tu:Bool)(ds:List D):Option (List D):=if tu=false then tS tu ds else xI ds
abbrev xT(f:Bool->List D->Option (List D))(x:XA):XA:=λρ S=>bnd (x ρ S) λds S1=>(f false ds).map λes=>(es,S1)
abbrev xU(f:Bool->List D->Option (List D))(x:XE):XA:=λρ S=>bnd (x ρ S) λd S1=>match ao d S1 with
 |some r=>(f r.1 r.2).map λes=>(es,S1)
 |none=>none
abbrev o9(i:Int):Key:=Sum.inl i
abbrev xV(x:XE):XA:=λρ S=>bnd (x ρ S) λd S1=>match d with
 |.int i=>if 0<=i/\i<=1000 then some ((Zk i.toNat).map λj=>.int (Int.ofNat j),S1) else none
 |_=>none
abbrev Ap:XE:=λ_ S=>some (.ref S.length,S++[.dic [] []])
abbrev qZ(i:Int)(v:Nat):XE:=λρ S=>match ρ[v]? with
 |some (some d)=>some (.ref S.length,S++[.dic [o9 i] [d]])
 |_=>none
abbrev cnd(t:CE->XT):Option CE->XA->XA
 |some c,x=>Ag (t c) x
 |none,x=>x
abbrev opt(t:CE->XE):Option CE->XO
 |some l=>tH (t l)
 |none=>tG
mutual
noncomputable def evE(C:Calls)(ar:Nat->Nat):Nat->CE->XE
 |0,_=>xNo
 |n+1,e=>match e with
  |.non=>xC .non
  |.bl b=>xC (.bl b)
  |.int i=>xC (.int i)
  |.str x=>xC (.str x)
  |.var i=>xt i
  |.con _ v=>xC (.int v)
  |.tup es=>j9 ka (evA C ar n es)
  |.lst es=>dW (nz (evA C ar n es))
  |.dic0=>Ap
  |.dic1 i j=>qZ i j
  |.bin o a b=>qD (bO o) (evE C ar n a) (evE C ar n b)
  |.neg a=>xUn Jr (evE C ar n a)
  |.cmp o a b=>qD (aE o) (evE C ar n a) (evE C ar n b)
  |.chn o p a b c=>xS (aE o) (aE p) (evE C ar n a) (evE C ar n b) (evE C ar n c)
  |.and a b=>Aj (evE C ar n a) (evE C ar n b)
  |.or a b=>xOr (evE C ar n a) (evE C ar n b)
  |.not a=>xUn xR (evE C ar n a)
  |.ite c a b=>Js (evT C ar n c) (evE C ar n a) (evE C ar n b)
  |.ix a b=>if ai a=true then tx (cM C ar n a) (evE C ar n b) else qD ixS (evE C ar n a) (evE C ar n b)
  |.sl a lo hi=>xSl (evE C ar n a) (opt (evE C ar n) lo) (opt (evE C ar n) hi)
  |.call f es=>qY (C f) (ar f) (evA C ar n es)
  |.inst t a=>xUn (lc t) (evE C ar n a)
  |.len a=>if ai a=true then qE cb (cM C ar n a) else qF cb (evE C ar n a)
  |.all a=>if ai a=true then qE kf (cM C ar n a) else qF kf (evE C ar n a)
  |.tupOf a=>if ai a=true then qE eK (cM C ar n a) else qF eK (evE C ar n a)
  |.listOf a=>dW (if ai a=true then cM C ar n a else lx (evE C ar n a))
  |.listR a=>dW (xV (evE C ar n a))
  |.srt a=>dW (if ai a=true then xT ce (cM C ar n a) else xU ce (evE C ar n a))
  |.mxL a=>if ai a=true then qE m7 (cM C ar n a) else qF m7 (evE C ar n a)
  |.mxD a c=>if ai a=true then qE (gZ c) (cM C ar n a) else qF (gZ c) (evE C ar n a)
  |.strI a=>xUn xM (evE C ar n a)
  |.rev a=>xUn zW (evE C ar n a)
  |.mx a b=>j9 (two zO) (evA C ar n [a,b])
  |.mn a b=>j9 (two zP) (evA C ar n [a,b])
  |.rep a=>xUn jQ (evE C ar n a)
  | .comp own elt cls=>dW (match cls with
   |[]=>xNo
   | ⟨tg,it,cond⟩::rest=>lw own.length (evI C ar n it) tg (cnd (evT C ar n) cond (gX C ar n elt rest)) LF)
  |.app o a=>z8 fO qR (evE C ar n o) (evA C ar n [a])
  |.popAt o a=>z8 fO e9 (evE C ar n o) (evA C ar n [a])
  |.cnt o a=>z8 (λd _=>isTup d) tY (evE C ar n o) (evA C ar n [a])
noncomputable def evA(C:Calls)(ar:Nat->Nat):Nat->List CE->XA
 |0,_=>xNo
 |n+1,es=>match es with
  |[]=>Dz
  |e::es=>vF (evE C ar n e) (evA C ar n es)
noncomputable def cM(C:Calls)(ar:Nat->Nat):Nat->CE->XA
 |0,_=>xNo
 |n+1,e=>match e with
  |.lst es=>nz (evA C ar n es)
  |.listOf a=>if ai a=true then cM C ar n a else lx (evE C ar n a)
  |.listR a=>xV (evE C ar n a)
  |.srt a=>if ai a=true then xT ce (cM C ar n a) else xU ce (evE C ar n a)
  |.comp own elt cls=>match cls with
   |[]=>xNo
   |⟨tg,it,cond⟩::rest=>lw own.length (evI C ar n it) tg (cnd (evT C ar n) cond (gX C ar n elt rest)) LF
  |_=>xNo
noncomputable def gX(C:Calls)(ar:Nat->Nat):Nat->CE->List Cl->XA
 |0,_,_=>xNo
 |n+1,elt,cls=>match cls with
  |[]=>G2 (evE C ar n elt)
  |⟨tg,it,cond⟩::rest=>jx (evI C ar n it) tg (cnd (evT C ar n) cond (gX C ar n elt rest)) LF
noncomputable def evI(C:Calls)(ar:Nat->Nat):Nat->CI->XI
 |0,_=>xNo
 |n+1,it=>match it with
  |.val a=>if ai a=true then xIT (cM C ar n a) else xIV (evE C ar n a)
  |.r1 a=>xR1 (evE C ar n a)
  |.r2 a b=>xR2 (evE C ar n a) (evE C ar n b)
  |.en a=>if ai a=true then xET (cM C ar n a) else xEV (evE C ar n a)
noncomputable def evT(C:Calls)(ar:Nat->Nat):Nat->CE->XT
 |0,_=>xNo
 |n+1,e=>match e with
  |.cmp o a b=>xB (qD (aE o) (evE C ar n a) (evE C ar n b))
  |.chn o p a b c=>xB (xS (aE o) (aE p) (evE C ar n a) (evE C ar n b) (evE C ar n c))
  |.and a b=>Am (evT C ar n a) (evT C ar n b)
  |.or a b=>Jv (evT C ar n a) (evT C ar n b)
  |.not a=>An (evT C ar n a)
  |.ite _ _ _=>xNo
  |e=>DI (evE C ar n e)
end
structure Tab where
 con:List (Str × Int)
 fns:List (Str × Nat)
structure Blk where
 sc:Scope
 fs:Option Scope
 N:List Str
abbrev Blk.glo(b:Blk)(x:Str):Bool:=b.sc.names.lookup x == some .globalImplicit && !(x == ("__debug__" : Str))
abbrev Blk.vis(b:Blk)(x:Str):Bool:=(match b.sc.names.lookup x with
 |some .local=>true
 |some .cell=>true
 |some .free=>true
 | _=>false) && !(x == ("__debug__" : Str)) && !(x == ("__classdict__" : Str))
abbrev Blk.own(b:Blk)(x:Str):Bool:=match b.sc.names.lookup x with
 |some .local=>true
 | some .cell=>(match b.fs with
  |none=>true
  | some sc=>sc.names.lookup x == some .cell)
 |_=>false
theorem bE{P:Prop}[Decidable P]{f:P->Bool}(h:(if p:P then f p else false)=true):∃p,f p=true:=by
 by_cases p:P
 ·rw[dif_pos p] at h;exact⟨p,h⟩
 ·rw[dif_neg p] at h;cases h
theorem an2{a b:Bool}(h:(a && b)=true):a=true/\b=true:=by cases a;cases h;exact⟨rfl,h⟩
theorem an3{a b c:Bool}(h:(a && b && c)=true):a=true/\b=true/\c=true:=⟨(an2 (an2 h).1).1,(an2 (an2 h).1).2,(an2 h).2⟩
theorem an4{a b c d:Bool}(h:(a && b && c && d)=true):a=true/\b=true/\c=true/\d=true:=⟨(an3 (an2 h).1).1,(an3 (an2 h).1).2.1,(an3 (an2 h).1).2.2,(an2 h).2⟩
theorem an5{a b c d e:Bool}(h:(a && b && c && d && e)=true):a=true/\b=true/\c=true/\d=true/\e=true:=⟨(an4 (an2 h).1).1,(an4 (an2 h).1).2.1,(an4 (an2 h).1).2.2.1,(an4 (an2 h).1).2.2.2,(an2 h).2⟩
theorem an6{a b c d e f:Bool}(h:(a && b && c && d && e && f)=true):a=true/\b=true/\c=true/\d=true/\e=true/\f=true:=⟨(an5 (an2 h).1).1,(an5 (an2 h).1).2.1,(an5 (an2 h).1).2.2.1,(an5 (an2 h).1).2.2.2.1,(an5 (an2 h).1).2.2.2.2,(an2 h).2⟩
abbrev l1{α:Type}(l:List α)(k:α->Bool):Bool:=match l with
 |[]=>false
 |x::t=>t.isEmpty && k x
abbrev lC{α:Type}(l:List α)(k:α->List α->Bool):Bool:=match l with
 |[]=>false
 |x::t=>k x t
theorem cf{α:Type}{l:List α}{k:α->List α->Bool}(h:lC l k=true):∃x t,l=x::t/\k x t=true:=by
 cases l with
 |nil=>cases h
 |cons x t=>exact⟨x,t,rfl,h⟩
theorem cA{α:Type}{l:List α}(h:l.isEmpty=true):l=[]:=by cases l;rfl;cases h
theorem cN{α:Type}{l:List α}{k:α->Bool}(h:l1 l k=true):∃x,l=[x]/\k x=true:=by
 cases l with
 |nil=>cases h
 |cons x t=>obtain⟨h1,h2⟩:=an2 h;cases cA h1;exact⟨x,rfl,h2⟩
abbrev aM(e:Expr):Bool:=!(e.ctorIdx == 22 || e.ctorIdx == 26 || e.ctorIdx == 7)
abbrev pc(e:Expr)(k:BoolOp->List Expr->Pos->Bool):Bool:=if h:e.ctorIdx=0 then @Expr.BoolOp.elim (λ_=>Bool) e h k else false
theorem nJ{e:Expr}{k:BoolOp->List Expr->Pos->Bool}(h:pc e k=true):∃x0 x1 x2,e = .BoolOp x0 x1 x2/\k x0 x1 x2=true:=by
 obtain⟨h1,h⟩:=bE h;exact Expr.BoolOp.elim (motive_1:=λe=>∀h',@Expr.BoolOp.elim (λ_=>Bool) e h' k=true->∃x0 x1 x2,e = .BoolOp x0 x1 x2/\k x0 x1 x2=true) e h1 (λx0 x1 x2 _ hh=>⟨x0,x1,x2,rfl,hh⟩) h1 h
abbrev Aq(e:Expr)(k:Expr->WU->Expr->Pos->Bool):Bool:=if h:e.ctorIdx=2 then @Expr.BinOp.elim (λ_=>Bool) e h k else false
theorem Ar{e:Expr}{k:Expr->WU->Expr->Pos->Bool}(h:Aq e k=true):∃x0 x1 x2 x3,e = .BinOp x0 x1 x2 x3/\k x0 x1 x2 x3=true:=by
 obtain⟨h1,h⟩:=bE h;exact Expr.BinOp.elim (motive_1:=λe=>∀h',@Expr.BinOp.elim (λ_=>Bool) e h' k=true->∃x0 x1 x2 x3,e = .BinOp x0 x1 x2 x3/\k x0 x1 x2 x3=true) e h1 (λx0 x1 x2 x3 _ hh=>⟨x0,x1,x2,x3,rfl,hh⟩) h1 h
abbrev i6(e:Expr)(k:UnaryOp->Expr->Pos->Bool):Bool:=if h:e.ctorIdx=3 then @Expr.UnaryOp.elim (λ_=>Bool) e h k else false
theorem ly{e:Expr}{k:UnaryOp->Expr->Pos->Bool}(h:i6 e k=true):∃x0 x1 x2,e = .UnaryOp x0 x1 x2/\k x0 x1 x2=true:=by
 obtain⟨h1,h⟩:=bE h;exact Expr.UnaryOp.elim (motive_1:=λe=>∀h',@Expr.UnaryOp.elim (λ_=>Bool) e h' k=true->∃x0 x1 x2,e = .UnaryOp x0 x1 x2/\k x0 x1 x2=true) e h1 (λx0 x1 x2 _ hh=>⟨x0,x1,x2,rfl,hh⟩) h1 h
abbrev As(e:Expr)(k:Expr->Expr->Expr->Pos->Bool):Bool:=if h:e.ctorIdx=5 then @Expr.IfExp.elim (λ_=>Bool) e h k else false
theorem Au{e:Expr}{k:Expr->Expr->Expr->Pos->Bool}(h:As e k=true):∃x0 x1 x2 x3,e = .IfExp x0 x1 x2 x3/\k x0 x1 x2 x3=true:=by
 obtain⟨h1,h⟩:=bE h;exact Expr.IfExp.elim (motive_1:=λe=>∀h',@Expr.IfExp.elim (λ_=>Bool) e h' k=true->∃x0 x1 x2 x3,e = .IfExp x0 x1 x2 x3/\k x0 x1 x2 x3=true) e h1 (λx0 x1 x2 x3 _ hh=>⟨x0,x1,x2,x3,rfl,hh⟩) h1 h
abbrev Av(e:Expr)(k:List (Option Expr)->List Expr->Pos->Bool):Bool:=if h:e.ctorIdx=6 then @Expr.Dict.elim (λ_=>Bool) e h k else false
theorem vO{e:Expr}{k:List (Option Expr)->List Expr->Pos->Bool}(h:Av e k=true):∃x0 x1 x2,e = .Dict x0 x1 x2/\k x0 x1 x2=true:=by
 obtain⟨h1,h⟩:=bE h;exact Expr.Dict.elim (motive_1:=λe=>∀h',@Expr.Dict.elim (λ_=>Bool) e h' k=true->∃x0 x1 x2,e = .Dict x0 x1 x2/\k x0 x1 x2=true) e h1 (λx0 x1 x2 _ hh=>⟨x0,x1,x2,rfl,hh⟩) h1 h
abbrev jy(e:Expr)(k:Expr->List Wx->Scope->Pos->Bool):Bool:=if h:e.ctorIdx=8 then @Expr.ListComp.elim (λ_=>Bool) e h k else false
theorem jR{e:Expr}{k:Expr->List Wx->Scope->Pos->Bool}(h:jy e k=true):∃x0 x1 x2 x3,e = .ListComp x0 x1 x2 x3/\k x0 x1 x2 x3=true:=by
 obtain⟨h1,h⟩:=bE h;exact Expr.ListComp.elim (motive_1:=λe=>∀h',@Expr.ListComp.elim (λ_=>Bool) e h' k=true->∃x0 x1 x2 x3,e = .ListComp x0 x1 x2 x3/\k x0 x1 x2 x3=true) e h1 (λx0 x1 x2 x3 _ hh=>⟨x0,x1,x2,x3,rfl,hh⟩) h1 h
abbrev lA(e:Expr)(k:Expr->List CmpOp->List Expr->Pos->Bool):Bool:=if h:e.ctorIdx=15 then @Expr.Compare.elim (λ_=>Bool) e h k else false
theorem lB{e:Expr}{k:Expr->List CmpOp->List Expr->Pos->Bool}(h:lA e k=true):∃x0 x1 x2 x3,e = .Compare x0 x1 x2 x3/\k x0 x1 x2 x3=true:=by
 obtain⟨h1,h⟩:=bE h;exact Expr.Compare.elim (motive_1:=λe=>∀h',@Expr.Compare.elim (λ_=>Bool) e h' k=true->∃x0 x1 x2 x3,e = .Compare x0 x1 x2 x3/\k x0 x1 x2 x3=true) e h1 (λx0 x1 x2 x3 _ hh=>⟨x0,x1,x2,x3,rfl,hh⟩) h1 h
abbrev vP(e:Expr)(k:Expr->List Expr->List Keyword->Pos->Bool):Bool:=if h:e.ctorIdx=16 then @Expr.Call.elim (λ_=>Bool) e h k else false
theorem vQ{e:Expr}{k:Expr->List Expr->List Keyword->Pos->Bool}(h:vP e k=true):∃x0 x1 x2 x3,e = .Call x0 x1 x2 x3/\k x0 x1 x2 x3=true:=by
 obtain⟨h1,h⟩:=bE h;exact Expr.Call.elim (motive_1:=λe=>∀h',@Expr.Call.elim (λ_=>Bool) e h' k=true->∃x0 x1 x2 x3,e = .Call x0 x1 x2 x3/\k x0 x1 x2 x3=true) e h1 (λx0 x1 x2 x3 _ hh=>⟨x0,x1,x2,x3,rfl,hh⟩) h1 h
abbrev c6(e:Expr)(k:Const->Nat->Pos->Bool):Bool:=if h:e.ctorIdx=19 then @Expr.Constant.elim (λ_=>Bool) e h k else false
theorem cB{e:Expr}{k:Const->Nat->Pos->Bool}(h:c6 e k=true):∃x0 x1 x2,e = .Constant x0 x1 x2/\k x0 x1 x2=true:=by
 obtain⟨h1,h⟩:=bE h;exact Expr.Constant.elim (motive_1:=λe=>∀h',@Expr.Constant.elim (λ_=>Bool) e h' k=true->∃x0 x1 x2,e = .Constant x0 x1 x2/\k x0 x1 x2=true) e h1 (λx0 x1 x2 _ hh=>⟨x0,x1,x2,rfl,hh⟩) h1 h
abbrev lH(e:Expr)(k:Expr->Str->Pos->Bool):Bool:=if h:e.ctorIdx=20 then @Expr.Attribute.elim (λ_=>Bool) e h k else false
theorem pd{e:Expr}{k:Expr->Str->Pos->Bool}(h:lH e k=true):∃x0 x1 x2,e = .Attribute x0 x1 x2/\k x0 x1 x2=true:=by
 obtain⟨h1,h⟩:=bE h;exact Expr.Attribute.elim (motive_1:=λe=>∀h',@Expr.Attribute.elim (λ_=>Bool) e h' k=true->∃x0 x1 x2,e = .Attribute x0 x1 x2/\k x0 x1 x2=true) e h1 (λx0 x1 x2 _ hh=>⟨x0,x1,x2,rfl,hh⟩) h1 h
abbrev dj(e:Expr)(k:Expr->Expr->Pos->Bool):Bool:=if h:e.ctorIdx=21 then @Expr.Subscript.elim (λ_=>Bool) e h k else false
theorem cY{e:Expr}{k:Expr->Expr->Pos->Bool}(h:dj e k=true):∃x0 x1 x2,e = .Subscript x0 x1 x2/\k x0 x1 x2=true:=by
 obtain⟨h1,h⟩:=bE h;exact Expr.Subscript.elim (motive_1:=λe=>∀h',@Expr.Subscript.elim (λ_=>Bool) e h' k=true->∃x0 x1 x2,e = .Subscript x0 x1 x2/\k x0 x1 x2=true) e h1 (λx0 x1 x2 _ hh=>⟨x0,x1,x2,rfl,hh⟩) h1 h
abbrev Aw(e:Expr)(k:Str->Pos->Bool):Bool:=if h:e.ctorIdx=23 then @Expr.Name.elim (λ_=>Bool) e h k else false
theorem vR{e:Expr}{k:Str->Pos->Bool}(h:Aw e k=true):∃x0 x1,e = .Name x0 x1/\k x0 x1=true:=by
 obtain⟨h1,h⟩:=bE h;exact Expr.Name.elim (motive_1:=λe=>∀h',@Expr.Name.elim (λ_=>Bool) e h' k=true->∃x0 x1,e = .Name x0 x1/\k x0 x1=true) e h1 (λx0 x1 _ hh=>⟨x0,x1,rfl,hh⟩) h1 h
abbrev G5(e:Expr)(k:List Expr->Pos->Bool):Bool:=if h:e.ctorIdx=24 then @Expr.List.elim (λ_=>Bool) e h k else false
theorem D1{e:Expr}{k:List Expr->Pos->Bool}(h:G5 e k=true):∃x0 x1,e = .List x0 x1/\k x0 x1=true:=by
 obtain⟨h1,h⟩:=bE h;exact Expr.List.elim (motive_1:=λe=>∀h',@Expr.List.elim (λ_=>Bool) e h' k=true->∃x0 x1,e = .List x0 x1/\k x0 x1=true) e h1 (λx0 x1 _ hh=>⟨x0,x1,rfl,hh⟩) h1 h
abbrev Ax(e:Expr)(k:List Expr->Nat->Pos->Bool):Bool:=if h:e.ctorIdx=25 then @Expr.Tuple.elim (λ_=>Bool) e h k else false
theorem Ay{e:Expr}{k:List Expr->Nat->Pos->Bool}(h:Ax e k=true):∃x0 x1 x2,e = .Tuple x0 x1 x2/\k x0 x1 x2=true:=by
 obtain⟨h1,h⟩:=bE h;exact Expr.Tuple.elim (motive_1:=λe=>∀h',@Expr.Tuple.elim (λ_=>Bool) e h' k=true->∃x0 x1 x2,e = .Tuple x0 x1 x2/\k x0 x1 x2=true) e h1 (λx0 x1 x2 _ hh=>⟨x0,x1,x2,rfl,hh⟩) h1 h
abbrev t8(e:Expr)(k:Option Expr->Option Expr->Option Expr->Pos->Bool):Bool:=if h:e.ctorIdx=26 then @Expr.Slice.elim (λ_=>Bool) e h k else false
theorem rd{e:Expr}{k:Option Expr->Option Expr->Option Expr->Pos->Bool}(h:t8 e k=true):∃x0 x1 x2 x3,e = .Slice x0 x1 x2 x3/\k x0 x1 x2 x3=true:=by
 obtain⟨h1,h⟩:=bE h;exact Expr.Slice.elim (motive_1:=λe=>∀h',@Expr.Slice.elim (λ_=>Bool) e h' k=true->∃x0 x1 x2 x3,e = .Slice x0 x1 x2 x3/\k x0 x1 x2 x3=true) e h1 (λx0 x1 x2 x3 _ hh=>⟨x0,x1,x2,x3,rfl,hh⟩) h1 h
abbrev t9(e:Expr):Bool:=!(e.ctorIdx == 22 || vP e λf es ks _=>f.ctorIdx == 23 && es.isEmpty && ks.isEmpty)
abbrev D2(e:Expr):Bool:=!(e.ctorIdx == 0 || e.ctorIdx == 5 || e.ctorIdx == 15 || i6 e λo _ _=>decide (o = .Not))
abbrev lJ(own N:List Str):List Nat:=(Zk N.length).filter λi=>match N[i]? with
 |some x=>own.contains x
 |none=>false
abbrev Blk.inner(b:Blk)(own:List Str)(scope:Scope):Blk:=⟨fG scope b.sc,some scope,c7 (lJ own b.N) b.N++own⟩
abbrev Az(e:Expr):Option (Str × Pos):=if h:e.ctorIdx=23 then some (@Expr.Name.elim (λ_=>Str × Pos) e h λx p=>(x,p)) else none
abbrev xW(e:Expr):Option (List Expr × Nat × Pos):=if h:e.ctorIdx=25 then some (@Expr.Tuple.elim (λ_=>List Expr × Nat × Pos) e h λes k p=>(es,k,p)) else none
theorem G6{α:Type}{P:Prop}[Decidable P]{f:P->α}{r:α}(h:(if p:P then some (f p) else none)=some r):∃p,f p=r:=by
 by_cases p:P
 ·rw[dif_pos p] at h;cases h;exact⟨p,rfl⟩
 ·rw[dif_neg p] at h;cases h
theorem pf{e:Expr}{x:Str}{p:Pos}(h:Az e=some (x,p)):e = .Name x p:=by
 obtain⟨h1,h⟩:=G6 h;exact Expr.Name.elim (motive_1:=λe=>∀h',Expr.Name.elim (motive_1:=λ_=>Str × Pos) e h' (λx p=>(x,p))=(x,p)->e = .Name x p) e h1 (λ_ _ _ hh=>by cases hh;rfl) h1 h
theorem pj{e:Expr}{es:List Expr}{k:Nat}{p:Pos}(h:xW e=some (es,k,p)):e = .Tuple es k p:=by
 obtain⟨h1,h⟩:=G6 h;exact Expr.Tuple.elim (motive_1:=λe=>∀h',Expr.Tuple.elim (motive_1:=λ_=>List Expr × Nat × Pos) e h' (λes k p=>(es,k,p))=(es,k,p)->e = .Tuple es k p) e h1 (λ_ _ _ _ hh=>by cases hh;rfl) h1 h
abbrev oA{α:Type}(o:Option α)(k:α->Bool):Bool:=match o with
 |some r=>k r
 |none=>false
theorem lK{α:Type}{o:Option α}{k:α->Bool}(h:oA o k=true):∃r,o=some r/\k r=true:=by
 cases o with
 |none=>cases h
 |some r=>exact⟨r,rfl,h⟩
theorem D3{a b:Bool}(h:(a || b)=true):a=true\/b=true:=by cases a;exact .inr h;exact .inl rfl
mutual
noncomputable def ua(b:Blk)(e:Expr):Tg->Bool
 |.name i=>oA (Az e) λr=>b.N[i]? == some r.1 && b.own r.1
 |.tup ts=>oA (xW e) λr=>lP b r.1 ts
noncomputable def lP(b:Blk)(es:List Expr):List Tg->Bool
 |[]=>es.isEmpty
 |t::ts=>lC es λe es=>ua b e t && aM e && lP b es ts
end
abbrev Ny(e:Expr):Bool:=c6 e λc _ _=>decide (c = .none)
abbrev sBl(v:Bool)(e:Expr):Bool:=c6 e λc _ _=>decide (c = .bool v)
abbrev ub(v:Int)(e:Expr):Bool:=c6 e λc _ _=>decide (c = .int v)
abbrev AA(v:Str)(e:Expr):Bool:=c6 e λc _ _=>decide (c = .str v)
abbrev fR(k:Str->Bool)(e:Expr):Bool:=Aw e λx _=>k x
abbrev Jx(k:List Expr->Bool)(e:Expr):Bool:=Ax e λes _ _=>k es
abbrev AB(k:List Expr->Bool)(e:Expr):Bool:=G5 e λes _=>k es
abbrev Jy(o:WU)(k l:Expr->Bool)(e:Expr):Bool:=Aq e λx op y _=>decide (op=o) && k x && l y
abbrev Jz(k:Expr->Bool)(e:Expr):Bool:=i6 e λo x _=>decide (o = .USub) && k x
abbrev D4(k:Expr->Bool)(e:Expr):Bool:=i6 e λo x _=>decide (o = .Not) && k x
abbrev AC(o:CmpOp)(k l:Expr->Bool)(e:Expr):Bool:=lA e λx os ys _=>l1 os λop=>l1 ys λy=>decide (op=o) && k x && l y && aM y
abbrev JA(o p:CmpOp)(k l m:Expr->Bool)(e:Expr):Bool:=lA e λx os ys _=>lC os λop os=>l1 os λop'=>lC ys λy ys=>l1 ys λz=>decide (op=o) && decide (op'=p) && k x && l y && m z && aM z
abbrev xX(o:BoolOp)(k l:Expr->Bool)(e:Expr):Bool:=pc e λop vs _=>lC vs λx vs=>l1 vs λy=>decide (op=o) && k x && l y
abbrev xY(o:BoolOp)(k l:Expr->Bool)(e:Expr):Bool:=pc e λop vs p=>lC vs λx vs=>lC vs λy vs=>lC vs λz ys=>decide (op=o) && k x && l (.BoolOp o (y::z::ys) p)
abbrev Nz(k l m:Expr->Bool)(e:Expr):Bool:=As e λx y z _=>k x && l y && m z
abbrev sIx(k l:Expr->Bool)(e:Expr):Bool:=dj e λx y _=>k x && l y && aM y
abbrev sSl(k:Expr->Bool)(l m:Option Expr->Bool)(e:Expr):Bool:=dj e λx s _=>t8 s λy z w _=>w.isNone && k x && l y && m z
abbrev NA(k:Expr->Bool)(e:Expr):Bool:=dj e λx s _=>t8 s λy z w _=>y.isNone && z.isNone && k x && oA w λe=>Jz (ub 1) e
abbrev sCN(e:Expr)(k:Str->List Expr->List Keyword->Bool):Bool:=vP e λf es ks _=>Aw f λx _=>k x es ks
abbrev AE(k:Str->Bool)(l:List Expr->Bool)(e:Expr):Bool:=sCN e λx es ks=>lC es λe es=>ks.isEmpty && k x && l (e::es)
abbrev uc(b:Blk)(f:Str)(k:List Expr->Bool)(e:Expr):Bool:=sCN e λx es ks=>lC es λe es=>ks.isEmpty && x == f && b.glo x && k (e::es)
abbrev cg(b:Blk)(f:Str)(k:Expr->Bool)(e:Expr):Bool:=sCN e λx es ks=>l1 es λe=>ks.isEmpty && x == f && b.glo x && k e && aM e
abbrev NB(c:Int)(ks:List Keyword):Bool:=l1 ks λw=>w.arg == some (Str.ofString "default") && ub c w.value
abbrev G7(b:Blk)(c:Int)(k:Expr->Bool)(e:Expr):Bool:=sCN e λx es ks=>l1 es λe=>NB c ks && x == "max" && b.glo x && k e && aM e
abbrev pw(b:Blk)(f:Str)(k l:Expr->Bool)(e:Expr):Bool:=sCN e λx es ks=>lC es λe es=>l1 es λe'=>ks.isEmpty && (x == f && b.glo x && k e && aM e && l e' && aM e')
abbrev AF(m:Str)(k:Expr->Bool)(l:List Expr->Bool)(e:Expr):Bool:=vP e λf es ks p=>lH f λx m' ap=>ks.isEmpty && m' == m && t9 x && (ap.endLine == p.line) && k x && l es
abbrev G8(k:Expr->Expr->Expr->List Expr->List Wx->Scope->Bool)(e:Expr):Bool:=jy e λe gs scope _=>lC gs λg gs=>decide (g.is_async=0) && k e g.target g.iter g.ifs gs scope
abbrev G9(e:Expr):Bool:=Av e λks vs _=>ks.isEmpty && vs.isEmpty
abbrev Ha(k l:Expr->Bool)(e:Expr):Bool:=Av e λks vs _=>l1 ks λx=>l1 vs λy=>match x with
 |some x=>k x && l y
 |none=>false
theorem cD{x y:Str}(h:(x == y)=true):x=y:=eq_of_beq h
section
variable {e:Expr} {k l m:Expr->Bool}
theorem JB(h:Ny e=true):∃a p,e = .Constant .none a p:=by
 obtain⟨c,a,p,rfl,h⟩:=cB h;cases of_decide_eq_true h;exact⟨a,p,rfl⟩
theorem AG{v:Bool}(h:sBl v e=true):∃a p,e = .Constant (.bool v) a p:=by
 obtain⟨c,a,p,rfl,h⟩:=cB h;cases of_decide_eq_true h;exact⟨a,p,rfl⟩
theorem jz{v:Int}(h:ub v e=true):∃a p,e = .Constant (.int v) a p:=by
 obtain⟨c,a,p,rfl,h⟩:=cB h;cases of_decide_eq_true h;exact⟨a,p,rfl⟩
theorem ud{v:Str}(h:AA v e=true):∃a p,e = .Constant (.str v) a p:=by
 obtain⟨c,a,p,rfl,h⟩:=cB h;cases of_decide_eq_true h;exact⟨a,p,rfl⟩
theorem cu{k:Str->Bool}(h:fR k e=true):∃x p,e = .Name x p/\k x=true:=vR h
theorem AH{k:List Expr->Bool}(h:Jx k e=true):∃x a p,e = .Tuple x a p/\k x=true:=Ay h
theorem pA{k:List Expr->Bool}(h:AB k e=true):∃x p,e = .List x p/\k x=true:=D1 h
theorem AI{o:WU}(h:Jy o k l e=true):∃x y p,e = .BinOp x o y p/\k x=true/\l y=true:=by
 obtain⟨x,op,y,p,rfl,h⟩:=Ar h;obtain⟨h1,z0⟩:=an3 h;cases of_decide_eq_true h1;exact⟨x,y,p,rfl,z0⟩
theorem AJ(h:Jz k e=true):∃x p,e = .UnaryOp .USub x p/\k x=true:=by
 obtain⟨op,x,p,rfl,h⟩:=ly h;obtain⟨h1,z0⟩:=an2 h;cases of_decide_eq_true h1;exact⟨x,p,rfl,z0⟩
theorem ue(h:D4 k e=true):∃x p,e = .UnaryOp .Not x p/\k x=true:=by
 obtain⟨op,x,p,rfl,h⟩:=ly h;obtain⟨h1,z0⟩:=an2 h;cases of_decide_eq_true h1;exact⟨x,p,rfl,z0⟩
theorem pB{o:CmpOp}(h:AC o k l e=true):∃x y p,e = .Compare x [o] [y] p/\k x=true/\l y=true/\aM y=true:=by
 obtain⟨x,os,ys,p,rfl,h⟩:=lB h;obtain⟨op,rfl,h⟩:=cN h;obtain⟨y,rfl,h⟩:=cN h;obtain⟨h1,z0⟩:=an4 h;cases of_decide_eq_true h1;exact⟨x,y,p,rfl,z0⟩
theorem AK{o p:CmpOp}(h:JA o p k l m e=true):∃x y z q,e = .Compare x [o,p] [y,z] q/\k x=true/\l y=true/\m z=true/\aM z=true:=by
 obtain⟨x,os,ys,q,rfl,h⟩:=lB h;obtain⟨op,os,rfl,h⟩:=cf h;obtain⟨op',rfl,h⟩:=cN h;obtain⟨y,ys,rfl,h⟩:=cf h;obtain⟨z,rfl,h⟩:=cN h;obtain⟨h1,h2,z0⟩:=an6 h;cases of_decide_eq_true h1;cases of_decide_eq_true h2;exact⟨x,y,z,q,rfl,z0⟩
theorem lQ{o:BoolOp}(h:xX o k l e=true):∃x y p,e = .BoolOp o [x,y] p/\k x=true/\l y=true:=by
 obtain⟨op,vs,p,rfl,h⟩:=nJ h;obtain⟨x,vs,rfl,h⟩:=cf h;obtain⟨y,rfl,h⟩:=cN h;obtain⟨h1,z0⟩:=an3 h;cases of_decide_eq_true h1;exact⟨x,y,p,rfl,z0⟩
theorem lR{o:BoolOp}(h:xY o k l e=true):∃x y z ys p,e = .BoolOp o (x::y::z::ys) p/\k x=true/\l (.BoolOp o (y::z::ys) p)=true:=by
 obtain⟨op,vs,p,rfl,h⟩:=nJ h;obtain⟨x,vs,rfl,h⟩:=cf h;obtain⟨y,vs,rfl,h⟩:=cf h;obtain⟨z,vs,rfl,h⟩:=cf h;obtain⟨h1,z0⟩:=an3 h;cases of_decide_eq_true h1;exact⟨x,y,z,vs,p,rfl,z0⟩
theorem JC(h:Nz k l m e=true):∃x y z p,e = .IfExp x y z p/\k x=true/\l y=true/\m z=true:=by
 obtain⟨x,y,z,p,rfl,h⟩:=Au h;exact⟨x,y,z,p,rfl,an3 h⟩
theorem Hb(h:sIx k l e=true):∃x y p,e = .Subscript x y p/\k x=true/\l y=true/\aM y=true:=by
 obtain⟨x,y,p,rfl,h⟩:=cY h;exact⟨x,y,p,rfl,an3 h⟩
theorem NC{l m:Option Expr->Bool}(h:sSl k l m e=true):∃x y z p q,e = .Subscript x (.Slice y z none p) q/\k x=true/\l y=true/\m z=true:=by
 obtain⟨x,s,q,rfl,h⟩:=cY h;obtain⟨y,z,w,p,rfl,h⟩:=rd h;obtain⟨h1,z0⟩:=an4 h;cases w;exact⟨x,y,z,p,q,rfl,z0⟩;cases h1
theorem JD(h:NA k e=true):∃x n p p2 p3 p4,e = .Subscript x (.Slice none none (some (.UnaryOp .USub (.Constant (.int 1) n p3) p4)) p2) p/\k x=true:=by
 obtain⟨x,s,q,rfl,h⟩:=cY h;obtain⟨y,z,w,p,rfl,h⟩:=rd h;obtain⟨h1,h2,h3,h4⟩:=an4 h;obtain⟨u,rfl,h4⟩:=lK h4;obtain⟨v,p4,rfl,h5⟩:=AJ h4;obtain⟨n,p3,rfl⟩:=jz h5;cases y <;> cases z <;> first |exact⟨x,n,q,p,p3,p4,rfl,h3⟩ |(cases h1;done) |(cases h2;done)
theorem lU{k:Str->List Expr->List Keyword->Bool}(h:sCN e k=true):∃x p es ks q,e = .Call (.Name x p) es ks q/\k x es ks=true:=by
 obtain⟨f,es,ks,q,rfl,h⟩:=vQ h;obtain⟨x,p,rfl,h⟩:=vR h;exact⟨x,p,es,ks,q,rfl,h⟩
theorem pC{k:Str->Bool}{l:List Expr->Bool}(h:AE k l e=true):∃x x1 es p q,e = .Call (.Name x p) (x1::es) [] q/\k x=true/\l (x1::es)=true:=by
 obtain⟨x,p,es,ks,q,rfl,h⟩:=lU h;obtain⟨x1,es,rfl,h⟩:=cf h;obtain⟨h1,z0⟩:=an3 h;cases cA h1;exact⟨x,x1,es,p,q,rfl,z0⟩
theorem re{b:Blk}{f:Str}{k:List Expr->Bool}(h:uc b f k e=true):∃x es p q,e = .Call (.Name f p) (x::es) [] q/\b.glo f=true/\k (x::es)=true:=by
 obtain⟨x,p,es,ks,q,rfl,h⟩:=lU h;obtain⟨x1,es,rfl,h⟩:=cf h;obtain⟨h1,h2,z0⟩:=an4 h;cases cA h1;cases cD h2;exact⟨x1,es,p,q,rfl,z0⟩
theorem bj{b:Blk}{f:Str}(h:cg b f k e=true):∃x p q,e = .Call (.Name f p) [x] [] q/\b.glo f=true/\k x=true/\aM x=true:=by
 obtain⟨x,p,es,ks,q,rfl,h⟩:=lU h;obtain⟨x1,rfl,h⟩:=cN h;obtain⟨h1,h2,z0⟩:=an5 h;cases cA h1;cases cD h2;exact⟨x1,p,q,rfl,z0⟩
theorem JE{c:Int}{ks:List Keyword}(h:NB c ks=true):∃j p q,ks=[⟨some "default", .Constant (.int c) j p,q⟩]:=by
 obtain⟨⟨a,v,q⟩,rfl,h⟩:=cN h;obtain⟨h1,z0⟩:=an2 h;obtain⟨j,p,e⟩:=jz z0;obtain e1:=eq_of_beq h1;exact⟨j,p,q,by rw[show v=_ from e,show a=_ from e1]⟩
theorem D5{b:Blk}{c:Int}(h:G7 b c k e=true):∃x p q j p' q',e = .Call (.Name "max" p) [x] [⟨some "default", .Constant (.int c) j p',q'⟩] q/\b.glo "max" = true/\k x=true/\aM x=true:=by
 obtain⟨x,p,es,ks,q,rfl,h⟩:=lU h;obtain⟨x1,rfl,h⟩:=cN h;obtain⟨h1,h2,z0⟩:=an5 h;obtain⟨j,p',q',rfl⟩:=JE h1;cases cD h2;exact⟨x1,p,q,j,p',q',rfl,z0⟩
theorem eM{b:Blk}{f:Str}(h:pw b f k l e=true):∃x y p q,e = .Call (.Name f p) [x,y] [] q/\b.glo f=true/\k x=true/\aM x=true/\l y=true/\aM y=true:=by
 obtain⟨x,p,es,ks,q,rfl,h⟩:=lU h;obtain⟨x1,es,rfl,h⟩:=cf h;obtain⟨y,rfl,h⟩:=cN h;obtain⟨h1,y0⟩:=an2 h;obtain⟨h2,z0⟩:=an6 y0;cases cA h1;cases cD h2;exact⟨x1,y,p,q,rfl,z0⟩
theorem lV{m:Str}{l:List Expr->Bool}(h:AF m k l e=true):∃x ap es p,e = .Call (.Attribute x m ap) es [] p/\t9 x=true/\(ap.endLine == p.line)=true/\k x=true/\l es=true:=by
 obtain⟨f,es,ks,p,rfl,h⟩:=vQ h;obtain⟨x,m',ap,rfl,h⟩:=pd h;obtain⟨h1,h2,z0⟩:=an6 h;cases cA h1;cases cD h2;exact⟨x,ap,es,p,rfl,z0⟩
theorem vS{k:Expr->Expr->Expr->List Expr->List Wx->Scope->Bool}(h:G8 k e=true):∃el t i ifs gs scope p,e = .ListComp el (⟨t,i,ifs,0⟩::gs) scope p/\k el t i ifs gs scope=true:=by
 obtain⟨el,gs,scope,p,rfl,h⟩:=jR h;obtain⟨⟨t,i,ifs,as⟩,gs,rfl,h⟩:=cf h;obtain⟨h1,z0⟩:=an2 h;cases of_decide_eq_true h1;exact⟨el,t,i,ifs,gs,scope,p,rfl,z0⟩
theorem D6(h:G9 e=true):∃p,e = .Dict [] [] p:=by
 obtain⟨ks,vs,p,rfl,h⟩:=vO h;obtain⟨h1,h2⟩:=an2 h;cases cA h1;cases cA h2;exact⟨p,rfl⟩
theorem D7(h:Ha k l e=true):∃x y p,e = .Dict [some x] [y] p/\k x=true/\l y=true:=by
 obtain⟨ks,vs,p,rfl,h⟩:=vO h;obtain⟨x,rfl,h⟩:=cN h;obtain⟨y,rfl,h⟩:=cN h;cases x with
 |none=>cases h
 |some x=>exact⟨x,y,p,rfl,an2 h⟩
end
abbrev AL(f:Expr->CE->Bool)(l:Option Expr):Option CE->Bool
 |none=>l.isNone
 |some c=>oA l λe=>f e c
abbrev AM(f:Expr->CE->Bool)(l:List Expr):Option CE->Bool
 |none=>l.isEmpty
 |some c=>l1 l λe=>f e c
abbrev clC(cls:List Cl)(k:Tg->CI->Option CE->List Cl->Bool):Bool:=match cls with
 |[]=>false
 |⟨tg,it,cond⟩::rest=>k tg it cond rest
theorem Hc{cls:List Cl}{k:Tg->CI->Option CE->List Cl->Bool}(h:clC cls k=true):∃tg it cond rest,cls=⟨tg,it,cond⟩::rest/\k tg it cond rest=true:=by
 cases cls with
 |nil=>cases h
 |cons g rest=>obtain⟨tg,it,cond⟩:=g;exact⟨tg,it,cond,rest,rfl,h⟩
mutual
noncomputable def aN(T:Tab):Nat->Blk->Expr->CE->Bool
 |0,_,_,_=>false
 |n+1,b,e,c=>match c with
  |.non=>Ny e
  |.bl v=>sBl v e
  |.int i=>ub i e
  |.str x=>AA x e
  |.var i=>fR (λx=>b.N[i]? == some x && b.vis x) e
  |.con k v=>fR (λx=>T.con[k]? == some (x,v) && b.glo x) e
  |.tup cs=>Jx (λes=>fb T n b es cs) e
  |.lst cs=>AB (λes=>fb T n b es cs) e
  |.dic0=>G9 e
  |.dic1 i j=>Ha (ub i) (fR λx=>b.N[j]? == some x && b.vis x) e
  |.bin o a c=>Jy o.op (λx=>aN T n b x a) (λx=>aN T n b x c) e
  |.neg a=>Jz (λx=>aN T n b x a) e
  |.cmp o a c=>AC o.op (λx=>aN T n b x a) (λx=>aN T n b x c) e
  |.chn o p a c d=>JA o.op p.op (λx=>aN T n b x a) (λx=>aN T n b x c) (λx=>aN T n b x d) e
  |.and a c=>xX .And (λx=>aN T n b x a) (λx=>aN T n b x c) e || xY .And (λx=>aN T n b x a) (λx=>aN T n b x c) e
  |.or a c=>xX .Or (λx=>aN T n b x a) (λx=>aN T n b x c) e || xY .Or (λx=>aN T n b x a) (λx=>aN T n b x c) e
  |.not a=>D4 (λx=>aN T n b x a) e
  |.ite t a c=>Nz (λx=>fc T n b x t) (λx=>aN T n b x a) (λx=>aN T n b x c) e
  |.ix a c=>sIx (λx=>aN T n b x a) (λx=>aN T n b x c) e
  |.sl a lo hi=>sSl (λx=>aN T n b x a) (λl=>AL (aN T n b) l lo) (λl=>AL (aN T n b) l hi) e
  |.call f cs=>AE (λx=>oA T.fns[f]? (λy=>y.1 == x) && b.glo x) (λes=>fb T n b es cs) e
  |.inst t a=>pw b "isinstance" (λx=>aN T n b x a) (fR λy=>y == Str.ofString t.nm && b.glo y) e
  |.len a=>cg b "len" (λx=>aN T n b x a) e
  |.all a=>cg b "all" (λx=>aN T n b x a) e
  |.tupOf a=>cg b "tuple" (λx=>aN T n b x a) e
  |.listOf a=>cg b "list" (λx=>aN T n b x a) e
  |.listR a=>cg b "list" (cg b "range" λx=>aN T n b x a) e
  |.srt a=>cg b "sorted" (λx=>aN T n b x a) e
  |.mxL a=>cg b "max" (λx=>aN T n b x a) e
  |.mxD a c=>G7 b c (λx=>aN T n b x a) e
  |.strI a=>cg b "str" (λx=>aN T n b x a) e
  |.rev a=>NA (λx=>aN T n b x a) e
  |.mx a c=>uc b "max" (λes=>fb T n b es [a,c]) e
  |.mn a c=>uc b "min" (λes=>fb T n b es [a,c]) e
  |.rep a=>cg b "repr" (λx=>aN T n b x a) e
  |.comp own elt cls=>clC cls λtg it cond rest=>G8 (λel t i ifs gs scope=>cmB own (lJ own b.N) b.N scope b.sc && rf T n b t i it && ua (b.inner own scope) t tg && AM (fc T n (b.inner own scope)) ifs cond && nK T n (b.inner own scope) el gs elt rest) e
  |.app o a=>AF "append" (λx=>aN T n b x o) (λes=>fb T n b es [a]) e
  |.popAt o a=>AF "pop" (λx=>aN T n b x o) (λes=>fb T n b es [a]) e
  |.cnt o a=>AF "count" (λx=>aN T n b x o) (λes=>fb T n b es [a]) e
noncomputable def fb(T:Tab):Nat->Blk->List Expr->List CE->Bool
 |0,_,_,_=>false
 |n+1,b,es,cs=>match cs with
  |[]=>es.isEmpty
  |c::cs=>lC es λe es=>aN T n b e c && aM e && fb T n b es cs
noncomputable def nK(T:Tab):Nat->Blk->Expr->List Wx->CE->List Cl->Bool
 |0,_,_,_,_,_=>false
 |n+1,b,e,gs,elt,cls=>match cls with
  |[]=>gs.isEmpty && aN T n b e elt
  |⟨tg,it,cond⟩::rest=>lC gs λg gs=>decide (g.is_async=0) && rf T n b g.target g.iter it && ua b g.target tg && AM (fc T n b) g.ifs cond && nK T n b e gs elt rest
noncomputable def rf(T:Tab):Nat->Blk->Expr->Expr->CI->Bool
 |0,_,_,_,_=>false
 |n+1,b,t,e,c=>match c with
  |.val a=>aN T n b e a && aM e
  |.r1 a=>cg b "range" (λx=>aN T n b x a) e
  |.r2 a c=>pw b "range" (λx=>aN T n b x a) (λx=>aN T n b x c) e
  |.en a=>cg b "enumerate" (λx=>aN T n b x a) e && Jx (λ_=>true) t
noncomputable def fc(T:Tab):Nat->Blk->Expr->CE->Bool
 |0,_,_,_=>false
 |n+1,b,e,c=>match c with
  |.cmp o a c=>AC o.op (λx=>aN T n b x a) (λx=>aN T n b x c) e
  |.chn o p a c d=>JA o.op p.op (λx=>aN T n b x a) (λx=>aN T n b x c) (λx=>aN T n b x d) e
  |.and a c=>xX .And (λx=>fc T n b x a) (λx=>fc T n b x c) e || xY .And (λx=>fc T n b x a) (λx=>fc T n b x c) e
  |.or a c=>xX .Or (λx=>fc T n b x a) (λx=>fc T n b x c) e || xY .Or (λx=>fc T n b x a) (λx=>fc T n b x c) e
  |.not a=>D4 (λx=>fc T n b x a) e
  |.ite _ _ _=>false
  |c=>aN T n b e c && D2 e
end
theorem gJ{T:Tab}{n:Nat}{b:Blk}{t e:Expr}{c:CI}(h:rf T n b t e c=true)(hp:∀e,aM e=true->∀env x,VZ e env x=pure x):∀env x,VZ e env x=pure x:=by
 cases n with
 |zero=>cases h
 |succ n=>
  cases c with
  |val a=>exact hp e (an2 h).2
  |r1 a=>obtain⟨x,p,q,rfl,_⟩:=bj h;intro _ _;rfl
  |r2 a c=>obtain⟨x,y,p,q,rfl,_⟩:=eM h;intro _ _;rfl
  |en a=>obtain⟨x,p,q,rfl,_⟩:=bj (an2 h).1;intro _ _;rfl
def bv(h:Heap)(C:Addr)(bm:List Value):Prop:=∃N nm q bs hdct sn sub ab col dd k0 k1 k2 k3 k5 mN,h.get? C=some (VY nm q C N bs bm hdct sn sub ab col dd k0 k1 k2 k3 k5 "ValueError.__new__")/\h.Ns N mN/\∀n ∈ quN,mN n=none
theorem bv.keeps(x:bv h C bm)(k:∀b o,h.get? b=some o->h'.get? b=some o):bv h' C bm:=by
 obtain⟨N,nm,q,bs,hdct,sn,sub,ab,col,dd,k0,k1,k2,k3,k5,mN,hC,hN,hq⟩:=x;exact⟨N,nm,q,bs,hdct,sn,sub,ab,col,dd,k0,k1,k2,k3,k5,mN,k _ _ hC,hN.keeps k,hq⟩
section
variable {prog:Program} {w:World} {M:Model} {A:Around} {E:Value->Shared->Prop} {h:Heap} {g:Array WR} {d:Drawn} {t:Nat} {os:OsState} {a C R:Addr} {o:Obj} {vs:Array Value}
theorem uf(hn:n ∈ quN)(hC:bv h C (.ref R::bmV))(hR:bv h R bmV)(hB:Uv (.type "ValueError") n=pure y)(hq:Q y ⟨h,g,d,t,os⟩):wpAny M A (Uv (.ref C) n) Q E ⟨h,g,d,t,os⟩:=by
 obtain⟨N,nm,q,bs,hdct,sn,sub,ab,col,dd,k0,k1,k2,k3,k5,mN,hC,hN,hqn⟩:=hC;obtain⟨N',nm',q',bs',hdct',sn',sub',ab',col',dd',k0',k1',k2',k3',k5',mN',hR,hN',hqn'⟩:=hR;have hrest:V5 bmV n=pure y:=by rw[typeLookup_eq,PySem.F.excBase_ValueError.mroIs] at hB;exact hB
 rw[typeLookup_eq];refine Uy (wpAny_mroOf_exc hC ?_);rw[lookupAlong_cons];refine Uy (wpAny_classOwn_exc hC hN ?_);rw[hqn n hn];show wpAny M A (V5 (.ref R::bmV) n) Q E _;rw[lookupAlong_cons];refine Uy (wpAny_classOwn_exc hR hN' ?_);rw[hqn' n hn];show wpAny M A (V5 bmV n) Q E _;rw[hrest];exact US hq
theorem rh:Uv (.type "ValueError") "__class__" = pure (some (.builtin "object.__class__")):=by rw[typeLookup_type,builtinLookup_eq_fast];kernel_rfl
theorem JF(hC:bv h C (.ref R::bmV))(hx:h.get? a=some o)(hc:o.cls = .ref C)(hq:Q (.ok (.ret (.ref C))) ⟨h,g,d,t,os⟩) :
  codeAny (model prog w) A (.call (.builtin "getset_descriptor.__get__") ⟨[.builtin "object.__class__", .ref a,.ref C],[]⟩) Q ⟨h,g,d,t,os⟩:=by
 obtain⟨N,nm,q,bs,hdct,sn,sub,ab,col,dd,k0,k1,k2,k3,k5,mN,hC,hN,hqn⟩:=hC;have hT5:(⟨h,g,d,t,os⟩:Shared).TypeIs (.builtin "object.__class__") "getset_descriptor" := WO
 have hcB:(Value.ref C :: .ref R::bmV).contains (.type (".".intercalate ("object.__class__".cutAt '.').dropLast))=true:=by
  rw[PySem.F.owner_object_class,ZX,ZX];rfl
 refine VQ PySem.F.slot_gs_get.plain PySem.F.entry_gs_get (PySem.F.slot_gs_get.check _ _ _ _ _ _ _ _ hT5 (PySem.F.args_gs_get _ _ _) ?_)
 repeat (any_goals (first |assumption |(with_reducible refine UL hx ?_;rw[hc]) |(with_reducible refine UH hC ?_;rw[hcB]) |wp_step))
 refine⟨Code.quiet_builtin _ (by decide +kernel),VP PySem.F.entry_object_class ?_⟩
 repeat (any_goals (first |assumption |(with_reducible refine UL hx ?_;rw[hc]) |wp_step))
theorem AN(hC:bv h C (.ref R::bmV))(hR:bv h R bmV)(hx:h.get? a=some o)(hc:o.cls = .ref C)(hq:Q (.done (.ret (.ref C))) ⟨h,g,d,t,os⟩) :
  wpAny (model prog w) A (Builtin.«object.__getattribute__» ⟨[.ref a,.str "__class__" tk],[]⟩) Q E ⟨h,g,d,t,os⟩:=by
 have hT5:(⟨h,g,d,t,os⟩:Shared).TypeIs (.builtin "object.__class__") "getset_descriptor" := WO;have f5:=WO;have f6:=PySem.F.slot_gs_get.lookup;have f7:=PySem.F.slot_gs_set.lookup;have hm:("__class__" : Str) ∈ quN:=.tail _ (.tail _ (.tail _ (.head _)))
 repeat (any_goals (first |assumption |(with_reducible refine UL hx ?_;rw[hc]) |with_reducible refine uf hm hC hR rh ?_ |wp_step))
 refine JF hC hx hc ?_
 repeat (any_goals (first |assumption |wp_step))
theorem AO(hC:bv h C (.ref R::bmV))(hx:h.get? a=some o)(hc:o.cls = .ref C)(hq:Q () ⟨h,g,d,t,os⟩):wpAny M A (checkBuiltinCall "BaseException.__getattribute__" ⟨[.ref a,nameV],[]⟩) Q E ⟨h,g,d,t,os⟩:=by
 obtain⟨N,nm,q,bs,hdct,sn,sub,ab,col,dd,k0,k1,k2,k3,k5,mN,hC,hN,hqn⟩:=hC;have hk:builtinKind "BaseException.__getattribute__" = some .slot:=by decide +kernel
 have hsplit:splitId "BaseException.__getattribute__" = some ("BaseException", "__getattribute__"):=by decide +kernel
 have hcB:(Value.ref C :: .ref R::bmV).contains (.type "BaseException")=true:=by rw[ZX,ZX];rfl
 have ha:=PySem.F.args_bexc_ga (.ref a) nameV;simp only[checkBuiltinCall,hk,hsplit];refine Uy ?_
 ·unfold isInstance
  repeat (first |(with_reducible refine UL hx ?_;rw[hc]) |(with_reducible refine UH hC ?_;rw[hcB]) |wp_step)
  exact hq
theorem ND(hC:bv h C (.ref R::bmV))(hR:bv h R bmV)(hx:h.get? a=some o)(hc:o.cls = .ref C)(hq:Q (.ref C) ⟨h,g,d,t,os⟩) :
  wpAny (model prog w) A (getAttrBy (.ref a) (.str "__class__" tk) false) Q E ⟨h,g,d,t,os⟩:=by
 have FB:=PySem.F.attrBase_ValueError;have f3:=FB.ga.bind (.ref a);have hx2:(Value.builtin "BaseException.__getattribute__" == Value.builtin "object.__getattribute__")=false:=by decide +kernel
 have hm1:("__getattribute__" : Str) ∈ quN:=.tail _ (.head _);have hm2:("__getattr__" : Str) ∈ quN:=.tail _ (.tail _ (.head _))
 repeat (any_goals (first |assumption |(with_reducible refine UL hx ?_;rw[hc]) |with_reducible refine uf hm1 hC hR FB.ga.lookup ?_ |with_reducible refine uf hm2 hC hR FB.noGetattr ?_ |wp_step))
 refine VQ FB.ga.plain PySem.F.entry_bexc_ga (AO hC hx hc (AN hC hR hx hc ?_))
 repeat (any_goals (first |assumption |wp_step))
theorem D8(hC:bv h C (.ref R::bmV))(hR:bv h R bmV)(hx:h.get? a=some o)(hc:o.cls = .ref C)(hq:Q (some (.ref C)) ⟨h,g,d,t+1,os⟩):wpAny (model prog w) A (getAttr? (.ref a) "__class__") Q E ⟨h,g,d,t,os⟩:=by
 unfold getAttr? getAttrBy?
 repeat (any_goals (first |assumption |with_reducible apply ND hC hR hx hc |wp_step))
end
def nM(h:Heap)(e C:Addr):Prop:=∃o vs,h.get? e=some o/\o.cls = .ref C/\o.data = .fields vs
def nP(h:Heap)(D:Addr):Prop:=∃dd cd sl,h.get? D=some ⟨.type "type", dd,.cls cd,sl⟩
section
variable {prog:Program} {w:World} {M:Model} {A:Around} {E:Value->Shared->Prop} {s:Shared} {e C R D:Addr}
theorem vT{K:Vf}{oc:Value}{dd:Option Addr}{cd:ClassData}{sl:Array (Option Value)}(hk:K.lookup C=some ⟨oc,dd,.cls cd,sl⟩):PySem.W.KitX K (.ref e) (.ref C) (λh=>bv h C (.ref R::bmV)/\bv h R bmV/\nM h e C) where
 ty:=λM h _ ⟨_,_,o,_,h1,h2,_⟩=>h2 ▸ (PySem.W.Looks.ld h1).andThen .now
 it:=λM h _ ⟨hC,_⟩=>by
  obtain⟨N,nm,q,bs,hdct,sn,sub,ab,col,dd,k0,k1,k2,k3,k5,mN,hC,_⟩:=hC;intro A' Q' E' s' k q;unfold isType loadHead;exact Uy (wpAny_loadPart (k _ _ hC) (US q))
 ne:=λh tp dd its n sl X htp=>by
  refine Y0.mpr λq=>?_;have e:C=tp:=Value.ref.inj (beq_iff_eq.mp q);subst e;rw[X _ _ hk] at htp;cases htp
 ca:=λ{_ _ _ _ _ s} _ ⟨hC,hR,o,_,h1,h2,_⟩ hq=>by
  obtain⟨h,g,d,t,os⟩:=s;exact D8 hC hR h1 h2 hq
theorem isx{D:Addr}{Q:Value->Shared->Prop}(hC:bv s.heap C (.ref R::bmV))(hR:bv s.heap R bmV)(he:nM s.heap e C)(hD:nP s.heap D)(hr:D ≠ R)(h:∀tk,Q (.bool (C == D)) { s with toks:=tk }) :
  wpAny (model prog w) A (call (.builtin "isinstance") [.ref e,.ref D]) Q E s:=by
 have hC':=hC;obtain⟨N,nm,q,bs,hdct,sn,sub,ab,col,dd,k0,k1,k2,k3,k5,mN,hc,_⟩:=hC';obtain⟨dd',cd',sl',hd⟩:=hD
 have KX:PySem.W.Frag.In [(C,VY nm q C N bs (.ref R::bmV) hdct sn sub ab col dd k0 k1 k2 k3 k5 "ValueError.__new__"),(D,⟨.type "type", dd',.cls cd',sl'⟩)] s.heap:=by
  intro b o hb;rw[ZQ] at hb;split at hb
  ·rename_i z;cases hb;rw[show b=C from by simpa using z];exact hc
  ·rw[ZQ] at hb;split at hb
   ·rename_i z;cases hb;rw[show b=D from by simpa using z];exact hd
   ·cases hb
 have l1:Xn C [(C,VY nm q C N bs (.ref R::bmV) hdct sn sub ab col dd k0 k1 k2 k3 k5 "ValueError.__new__"),(D,(⟨.type "type", dd',.cls cd',sl'⟩:Obj))]=some (VY nm q C N bs (.ref R::bmV) hdct sn sub ab col dd k0 k1 k2 k3 k5 "ValueError.__new__"):=by
  rw[ZQ,beq_self_eq_true]
 refine Vr (vT (R:=R) l1) KX ⟨hC,hR,he⟩ ?_ (λz=>nomatch z) h;unfold Vt;by_cases z:C=D
 ·subst z;rw[if_pos (beq_self_eq_true _),beq_self_eq_true]
 ·have z1:(C == D)=false:=by simpa using z
  rw[if_neg (by simpa using z),z1]
  have l2:Xn D [(C,VY nm q C N bs (.ref R::bmV) hdct sn sub ab col dd k0 k1 k2 k3 k5 "ValueError.__new__"),(D,(⟨.type "type", dd',.cls cd',sl'⟩:Obj))]=some ⟨.type "type", dd',.cls cd',sl'⟩:=by
   rw[ZQ,show(D == C)=false from by simpa using Ne.symm z,ZQ,beq_self_eq_true]
  unfold Vs;dsimp only;rw[if_pos (by unfold Vi PySem.W.typeIn;dsimp only;rw[l2];rfl)];unfold VB Vy Vi;dsimp only;rw[l1];show some ((Value.ref C :: .ref R::bmV).contains (.ref D))=_;rw[ZX,ZX];have z2:((Value.ref D) == Value.ref C)=false:=by simpa using Ne.symm z
  have z3:((Value.ref D) == Value.ref R)=false:=by simpa using hr
  rw[z2,z3];rfl
theorem isv{Q:Value->Shared->Prop}(hC:bv s.heap C (.ref R::bmV))(hR:bv s.heap R bmV)(he:nM s.heap e C)(h:∀tk,Q (.bool true) { s with toks:=tk }) :
  wpAny (model prog w) A (call (.builtin "isinstance") [.ref e,.type "ValueError"]) Q E s:=by
 have hC':=hC;obtain⟨N,nm,q,bs,hdct,sn,sub,ab,col,dd,k0,k1,k2,k3,k5,mN,hc,_⟩:=hC'
 have KX:PySem.W.Frag.In [(C,VY nm q C N bs (.ref R::bmV) hdct sn sub ab col dd k0 k1 k2 k3 k5 "ValueError.__new__")] s.heap:=by
  intro b o hb;rw[ZQ] at hb;split at hb
  ·rename_i z;cases hb;rw[show b=C from by simpa using z];exact hc
  ·cases hb
 have l1:Xn C [(C,VY nm q C N bs (.ref R::bmV) hdct sn sub ab col dd k0 k1 k2 k3 k5 "ValueError.__new__")]=some (VY nm q C N bs (.ref R::bmV) hdct sn sub ab col dd k0 k1 k2 k3 k5 "ValueError.__new__"):=by
  rw[ZQ,beq_self_eq_true]
 refine Vr (vT (R:=R) l1) KX ⟨hC,hR,he⟩ ?_ (λz=>nomatch z) h;unfold Vt;rw[if_neg (by simp)];unfold Vs;dsimp only;rw[if_pos (by decide +kernel)];unfold VB Vy Vi;dsimp only;rw[l1];show some ((Value.ref C :: .ref R::bmV).contains (.type "ValueError"))=_;rw[ZX,ZX];rfl
theorem JG{h:Heap}{g:Array WR}{d:Drawn}{t:Nat}{os:OsState}{Q:Bool->Shared->Prop}(hC:bv h C (.ref R::bmV))(hR:bv h R bmV)(he:nM h e C)(hq:Q true ⟨h,g,d,t,os⟩):wpAny M A (excMatches (.ref e) (.ref R)) Q E ⟨h,g,d,t,os⟩:=by
 obtain⟨N,nm,q,bs,hdct,sn,sub,ab,col,dd,k0,k1,k2,k3,k5,mN,hC,_⟩:=hC;obtain⟨N',nm',q',bs',hdct',sn',sub',ab',col',dd',k0',k1',k2',k3',k5',mN',hR,_⟩:=hR;obtain⟨oe,vs,he,hcls,_⟩:=he;have hcB:(Value.ref R::bmV).contains (.type "BaseException")=true:=by rw[ZX];rfl
 have hcC:(Value.ref C :: .ref R::bmV).contains (.ref R)=true:=by simp
 have f:=tc_notTuple;unfold excMatches
 repeat (first |(with_reducible refine UL he ?_;rw[hcls]) |with_reducible refine UL hR ?_ |with_reducible refine UL hC ?_ |(with_reducible refine UH hR ?_;rw[hcB]) |(with_reducible refine UH hC ?_;rw[hcC]) |wp_step)
 exact hq
end
structure XLeft(P:Program)(w:World)(outer:List Env)(H H':Hp)(s:Shared)(B:Heap)(s':Shared):Prop where
 os:s'.os=s.os
 bare:AllBare s'.gens
 un:Un (frs outer) [] H H' s.heap s'.heap
 keep:∀b o,s.heap.get? b=some o->H b=none->b ∉ frs outer->B.get? b=some o
 there:∀b o,s.heap.get? b=some o->b ∉ frs outer->∃o',B.get? b=some o'
 hok:HOk P w H' B
def CXE(P:Program)(w:World):CXT:=λouter H s E ev s'=>∃e c a0 H' B,ev = .ref e/\Heap.FlyingW B outer e c a0 s'.heap/\XLeft P w outer H H' s B s'/\E c none H'
theorem NF:kK (CXE P w) X E0:=λ_ _ _ _ _ _ _ ⟨_,_,_,_,_,_,_,_,h⟩=>h.elim
section
variable {P:Program} {w:World} {outer:List Env} {H H':Hp} {s s':Shared} {B:Heap} {e:Addr} {c a0:Value} {h':Heap}
theorem XLeft.later(x:XLeft P w outer H H' s B s')(f0:Heap.FlyingW B outer e c a0 s'.heap)(f:B.StaysIn h')(ff:h'.FunFrames B outer)(u:s'.heap.UpToSlots h'){t:Nat}(hg:AllBare g):XLeft P w outer H H' s B ⟨h',g,d,t,s'.os⟩ where
 os:=x.os
 bare:=hg
 un:=by
  have sl:∀b o,s'.heap.get? b=some o->b ∈ frs outer->∃sl,h'.get? b=some { o with slots:=sl }:=λb o q hb=>by
   obtain⟨_,o',q',nf⟩:=f0.2.2.1.mem hb;rw[q] at q';cases q';exact u b o q nf
  refine⟨λb o q n hb _=>f b o (x.keep b o q n hb),λb o q n hb hx=>?_,x.un.free,λb o q hx=>?_,x.un.tups,x.un.frzs,x.un.tbls⟩
  ·obtain⟨z,q1⟩:=x.un.slot b o q n hb hx;obtain⟨z2,q2⟩:=sl b _ q1 hb;exact⟨z2,q2⟩
  ·by_cases hb:b ∈ frs outer
   ·obtain⟨_,o',q',_⟩:=ff.mem hb;exact⟨o',q'⟩
   ·obtain⟨o',q'⟩:=x.there b o q hb;exact⟨o',f b o' q'⟩
 keep:=x.keep
 there:=x.there
 hok:=x.hok
end
section
variable {P:Program} {w:World} {K:Vf} {mg:Str->Option Value} {base:Heap} {N:List Str} {qual:Str} {scope:Scope} {f:Addr} {cd:Value} {A:Around} {outer:List Env} {s0:Shared} {H0:Hp} {E:XK}
noncomputable abbrev cxE(P:Program)(w:World)(K:Vf)(mg:Str->Option Value)(base:Heap)(N:List Str)(qual:Str)(scope:Scope)(f:Addr)(cd:Value)(A:Around)(outer:List Env)(s0:Shared)(H0:Hp)(E:XK):Cx:=mW (CXE P w) P w K mg base N qual scope f cd A outer s0 H0 E
theorem rj:frs (envOfC qual scope s0.heap.objs.size f cd::outer)=s0.heap.objs.size::frs outer:=rfl
theorem NG:kK (CXE P w) (cxE P w K mg base N qual scope f cd A outer s0 H0 E) E:=by
 rintro pins σ H s _ s' I ⟨e,c,a0,H',B,rfl,fl,x,hE⟩;have hfr:(A.deeper (envOfC qual scope s0.heap.objs.size f cd)).frames=some (envOfC qual scope s0.heap.objs.size f cd::outer):=I.ok.frames;show wpAny (model P w) (A.deeper (envOfC qual scope s0.heap.objs.size f cd)) (leaving (envOfC qual scope s0.heap.objs.size f cd) (.ref e)) _ _ s'
 have nL:∀b o,s0.heap.get? b=some o->b ∉ frs outer->b ∉ frs (envOfC qual scope s0.heap.objs.size f cd::outer):=λb o q hb hm=>by
  rw[rj] at hm;rcases Zm.mp hm with z |z
  ·exact absurd (Zq q) (by rw[z];exact ZN _)
  ·exact hb z
 have ib:Un (frs outer) [] H0 H s0.heap s.heap:=I.base;refine wpAny_leaves_onW hfr rfl fl λh' x1 x2=>⟨e,c,a0,H',B,rfl,x1,?_,hE⟩;refine⟨x.os.trans I.os,x.bare,⟨λb o q n hb hx=>?_,λb o q n hb hx=>?_,λb o q n hx=>?_,λb o q hx=>?_,λb xs q=>x.un.tups b xs (ib.tups b xs q),λb o u q=>x.un.frzs b o u (ib.frzs b o u q),λb ps q=>?_⟩,λb o q n hb=>?_,λb o q hb=>?_,x.hok⟩
 ·exact x1.1 b o (x.keep b o (ib.keep b o q n hb hx) (ib.free b o q n hx) (nL b o q hb))
 ·obtain⟨z,q1⟩:=ib.slot b o q n hb hx;obtain⟨z2,q2⟩:=x.un.slot b _ q1 (ib.free b o q n hx) (show b ∈ s0.heap.objs.size::frs outer from Ze _ hb) hx
  obtain⟨_,o',q',nf⟩:=fl.2.2.1.mem (b:=b) (Yu.mpr (by
   obtain⟨y,hy,hz⟩:=Yu.mp hb;exact⟨y,Ze _ hy,hz⟩))
  rw[q2] at q';cases q';obtain⟨z3,q3⟩:=x2 b _ q2 nf;exact⟨z3,q3⟩
 ·obtain⟨o',q1⟩:=ib.there b o q hx;exact x.un.free b o' q1 (ib.free b o q n hx) hx
 ·by_cases hb:b ∈ frs outer
  ·obtain⟨_,o',q',_⟩:=x1.2.2.1.mem hb;exact⟨o',q'⟩
  ·obtain⟨o',q1⟩:=ib.there b o q hx;obtain⟨o2,q2⟩:=x.there b o' q1 (nL b o q hb);exact⟨o2,x1.1 b o2 q2⟩
 ·obtain⟨m1,e1⟩:=ib.tbls b ps q;obtain⟨m2,e2⟩:=x.un.tbls b _ e1;exact⟨m1++m2,by rw[e2,XD]⟩
 ·exact x.keep b o (ib.keep b o q n hb (by simp)) (ib.free b o q n (by simp)) (nL b o q hb)
 ·obtain⟨o',q1⟩:=ib.there b o q (by simp);exact x.there b o' q1 (nL b o q hb)
theorem NH(I:Inv (cxE P w K mg base N qual scope f cd A outer s0 H0 E) pins σ H s)(mk:Heap.MadeExcOf s.heap h1 e c args)(hE:E c none H) :
  (cxE P w K mg base N qual scope f cd A outer s0 H0 E).xe (.ref e) { s with heap:=h1 }:=by
 have hfr:(A.deeper (envOfC qual scope s0.heap.objs.size f cd)).frames=some (envOfC qual scope s0.heap.objs.size f cd::outer):=I.ok.frames;show wpAny (model P w) (A.deeper (envOfC qual scope s0.heap.objs.size f cd)) (leaving (envOfC qual scope s0.heap.objs.size f cd) (.ref e)) _ _ { s with heap:=h1 };have stk:s.heap.FunFrames base (envOfC qual scope s0.heap.objs.size f cd::outer):=I.stack;have sf:∀b ∈ frs (envOfC qual scope s0.heap.objs.size f cd::outer),H b=none:=I.stkFree
 have nL:∀b o,s0.heap.get? b=some o->b ∉ frs outer->b ∉ frs (envOfC qual scope s0.heap.objs.size f cd::outer):=λb o q hb hm=>by
  rw[rj] at hm;rcases Zm.mp hm with z |z
  ·exact absurd (Zq q) (by rw[z];exact ZN _)
  ·exact hb z
 have ib:Un (frs outer) [] H0 H s0.heap s.heap:=I.base;have hin:∀env ∈ (envOfC qual scope s0.heap.objs.size f cd::outer),∀b,env.frame=some b->b ∈ frs (envOfC qual scope s0.heap.objs.size f cd::outer):=λenv he b hb=>Yu.mpr ⟨env,he,hb⟩;refine wpAny_leaves_madeW hfr rfl (λb o q=>Vz _ q) (PySem.W.funFrames_hide stk hin) mk λh' t x1 x2 x3 x4=>⟨e,c,.ref t,H,_,rfl,x1,?_,hE⟩
 have up:∀b o,s.heap.get? b=some o->b ∈ frs (envOfC qual scope s0.heap.objs.size f cd::outer)->∃sl,h'.get? b=some { o with slots:=sl }:=λb o q hb=>by
  obtain⟨_,o',q',nf⟩:=stk.mem hb;rw[q] at q';cases q';exact x4 b o (mk.keeps b o q) nf
 refine⟨I.os,I.bare,⟨λb o q n hb hx=>?_,λb o q n hb hx=>?_,λb o q n hx=>ib.free b o q n hx,λb o q hx=>?_,ib.tups,ib.frzs,ib.tbls⟩,λb o q n hb=>?_,λb o q hb=>?_,λa o q=>?_⟩
 ·exact x1.1 b o (Vn _ (ib.keep b o q n hb hx) (nL b o q hb))
 ·obtain⟨z,q1⟩:=ib.slot b o q n hb hx;obtain⟨z2,q2⟩:=up b _ q1 (show b ∈ s0.heap.objs.size::frs outer from Ze _ hb);exact⟨z2,q2⟩
 ·obtain⟨o',q1⟩:=ib.there b o q hx;by_cases hb:b ∈ frs (envOfC qual scope s0.heap.objs.size f cd::outer)
  ·obtain⟨z2,q2⟩:=up b _ q1 hb;exact⟨_,q2⟩
  ·exact⟨o',x1.1 b o' (Vn _ q1 hb)⟩
 ·exact Vn _ (ib.keep b o q n hb (by simp)) (nL b o q hb)
 ·obtain⟨o',q1⟩:=ib.there b o q (by simp);exact⟨o',Vn _ q1 (nL b o q hb)⟩
 ·refine(I.hok a o q).stay (λb u hb qu=>Vn _ qu λhm=>?_) (λ_ z=>z) λ_ _ z=>z;have hf:=sf b hm;rcases hb with rfl |hb
  ·rw[q] at hf;cases hf
  ·rw[hb] at hf;cases hf
end
section
variable {X:Cx} {x:Str} {np cpos pos:Pos} {a:Expr} {C R:Addr} {v:V}
theorem AQ{E:XK}(hx:∀pins σ H s h1 e args,Inv X pins σ H s->Heap.MadeExcOf s.heap h1 e (.ref C) args->E (.ref C) none H->X.xe (.ref e) { s with heap:=h1 })(hc:X.calm=true)(hg:Gl X x)(hm:X.mg x=some (.ref C))(hC:bv X.base C (.ref R::bmV))(hR:bv X.base R bmV)
  (ha:PA X [a] (cS (tC v) jk)) (he:Um [a] X.env=[(false,eval a X.env)]) (hd:(x == ("__debug__" : Str))=false):PS X (.Raise (some (.Call (.Name x np) [a] [] cpos)) none pos) (λD σ H=>E (.ref C) none H):=by
 intro pins s σ H D I h;have h:cS (tC v) jk σ H λvs H1=>vs.length=1/\E (.ref C) none H1:=⟨rfl,h⟩;obtain⟨N,nm,q,bs,hdct,sn,sub,ab,col,dd,k0,k1,k2,k3,k5,mN,hC,hN,hqn⟩:=hC;obtain⟨N',nm',q',bs',hdct',sn',sub',ab',col',dd',k0',k1',k2',k3',k5',mN',hR,hN',hqn'⟩:=hR;have T:OwnTail X.base bmV (.ref R::bmV):=.own hR hN' (hqn' _ (.head _)) .base
 refine wpAny_Raise_call_subT (C:=C) (nm:=nm) (q:=q) (N:=N) (bs:=bs) (bm:=.ref R::bmV) (hdct:=hdct) (sn:=sn) (sub:=sub) (ab:=ab) (col:=col) (dd:=dd) (k0:=k0) (k1:=k1) (k2:=k2) (k3:=k3) (k5:=k5)
  PySem.F.excBase_ValueError (mN:=mN) (T.hasType PySem.F.excBase_ValueError.hasBase) (I.ok.hd hc) (by rw[he];rfl) (hqn _ (.head _)) (gx I hg hm ⟨rfl,?_⟩ hd)
 have hp:=ha cpos pins s σ H _ I h;rw[he] at hp ⊢;exact Ww (UM hp (λvs s2 ⟨xs,H1,I1,r,q⟩=>⟨rfl,by rw[<-r.length,q.1];decide,I1.bk _ _ hC,hN.keeps I1.bk,T.keeps I1.bk,λh' e mk=>hx pins σ H1 s2 h' e vs I1 mk q.2⟩) λ_ _ y=>y)
end
theorem rm(x:bp P w H h a o):∃u,h.get? a=some u:=by
 cases o with
 |lst xs=>obtain⟨_,_,_,_,e⟩:=x;exact⟨_,e⟩
 |tup xs=>obtain⟨_,_,_,o,e,_⟩:=x;exact⟨_,e⟩
 |dK kvs=>obtain⟨_,_,_,_,o,_,_,e,_⟩:=x;exact⟨_,e⟩
 |dT kvs=>obtain⟨_,_,_,_,o,_,_,e,_⟩:=x;exact⟨_,e⟩
 |set S n=>obtain⟨o,_,_,_,e,_⟩:=x;exact⟨_,e⟩
 |ins C dx fs=>obtain⟨_,_,_,e,_⟩:=x;exact⟨_,e⟩
 |own y=>exact x
 |xd fs=>obtain⟨_,⟨_,_,_,e,_⟩,_⟩:=x;exact⟨_,e⟩
 |rng lo hi=>obtain⟨_,_,_,e⟩:=x;exact⟨_,e⟩
 |frz ob u=>obtain⟨e,_⟩:=x;exact⟨_,e⟩
 |tbl ps=>exact⟨_,x⟩
 |met f y=>exact⟨_,x⟩
 |ext φ=>obtain⟨_,e,_⟩:=x;exact e
noncomputable abbrev exO(e C:Addr):HO:=.ext λh=>nM h e C
section
variable {P:Program} {w:World} {l:List Env} {H H':Hp} {s s':Shared} {B:Heap} {e C:Addr} {a0:Value} {h6:Heap}
theorem XLeft.got(x:XLeft P w l H H' s B s')(f0:Heap.FlyingW B l e (.ref C) a0 s'.heap)(f:Heap.FlyingW B l e (.ref C) a0 h6)(u:s'.heap.UpToSlots h6):Un (frs l) [] H (upd H' e (exO e C)) s.heap h6/\HOk P w (upd H' e (exO e C)) h6:=by
 have un:=(x.later f0 f.1 f.2.2.1 u (g:=s'.gens) (d:=s'.drawn) (t:=s'.toks) x.bare).un
 have ne:H' e=none:=by
  cases q:H' e with
  |none=>rfl
  |some o=>obtain⟨z,q2⟩:=rm (x.hok e o q);rw[f.2.1] at q2;cases q2
 obtain⟨oe,vs,he,hc,hd,_⟩:=f.first
 have nb:∀b o,s.heap.get? b=some o->H b=none->b ≠ e:=λb o q n z=>by
  subst z;by_cases hb:b ∈ frs l
  ·obtain⟨_,o2,q2,nf⟩:=f.2.2.1.mem hb;rw[he] at q2;cases q2;exact nf vs hd
  ·have:=x.keep b o q n hb;rw[f.2.1] at this;cases this
 have up:∀b u,H' b=some u->upd H' e (exO e C) b=some u:=λb u q=>by rw[az (aU q ne)];exact q
 refine⟨⟨un.keep,un.slot,λb o q n hx=>by rw[az (nb b o q n)];exact un.free b o q n hx,un.there,λb xs q=>up b _ (un.tups b xs q),λb o v q=>up b _ (un.frzs b o v q),λb ps q=>?_⟩,λb o q=>?_⟩
 ·obtain⟨m,q1⟩:=un.tbls b ps q;exact⟨m,up b _ q1⟩
 ·by_cases hb:b=e
  ·subst hb;rw[aV] at q;cases q;exact⟨⟨oe,vs,he,hc,hd⟩,⟨oe,he⟩,λh1 h2 ⟨o,vs,q1,q2⟩ k=>⟨o,vs,k o q1,q2⟩⟩
  ·rw[az hb] at q;exact(x.hok b o q).stay (λc v _ z=>f.1 c v z) (λc z=>up c _ z) λc xs z=>up c _ z
end
section
variable {X:Cx} {pins:List (Addr × Obj)} {σ:L2.St} {H:Hp} {s:Shared}
noncomputable abbrev Cx.mk(X:Cx)(e:Addr):Cx:={ X with A:=X.A.mark (some (.ref e)),calm:=false,xe:=λ_ _=>False }
theorem AR(I:L2.Inv X pins σ H s)(e:Addr):L2.Inv (Cx.mk X e) pins σ H s:=
 ⟨⟨I.ok.mod,I.ok.kind,I.ok.glob,I.ok.blt,I.ok.above,I.ok.inj,I.ok.has,I.ok.cab,λz=>(nomatch z),I.ok.frames,I.ok.stk,I.ok.exf,I.ok.bs,I.ok.bsz,I.ok.noex,I.ok.exfs,I.ok.funs,I.ok.frf⟩,I.os,I.bare,I.base,I.loc,I.cell,I.free,I.freeC,I.pin,I.hok,I.len⟩
theorem JH(ok:X.Ok)(I:L2.Inv (Cx.mk X e) pins σ H s):L2.Inv X pins σ H s:=⟨ok,I.os,I.bare,I.base,I.loc,I.cell,I.free,I.freeC,I.pin,I.hok,I.len⟩
theorem D9{i:Nat}(I:L2.Inv X pins σ H s)(hN:X.N.Nodup)(hi:X.N[i]?=some x)(hk:X.env.scope.names.lookup x=some .local)
  (h:∀s',L2.Inv X pins (σ.set i none) H s'->Q () s'):wpAny M A (do VI X.env x .none;unbindBehindTheSuite X.env x pos) Q E s:=by
 obtain⟨m,hn,hl⟩:=id I.loc;have hcls:(X.env.scope.kind == .class || (X.env.scope.kind == .module && X.env.locals != X.env.globals))=false:=by rw[I.ok.kind];rfl
 have hiσ:i < σ.length:=by rw[I.len];exact(Zb.mp hi).1
 have cne:=I.cne;refine wpAny_nameGoes_keeps hk hn hcls λh' v hn' hs=>?_;refine h _ ⟨I.ok,I.os,I.bare,⟨λb o e n hb hx=>?_,λb o e n hb hx=>?_,I.base.free,λb o e hx=>?_,I.base.tups,I.base.frzs,I.base.tbls⟩,⟨_,hn',λj y v' e1 e2 e3=>?_⟩,λy c e=>?_,I.free,I.freeC,λp hp=>?_,λb ob e=>?_,by simpa using I.len⟩
 ·exact(hs.2 b (ZF (Zv (Zq e) I.ok.above))).trans (I.base.keep b o e n hb hx)
 ·obtain⟨sl,e1⟩:=I.base.slot b o e n hb hx;exact⟨sl,(hs.2 b (ZF (Zv (Zq e) I.ok.above))).trans e1⟩
 ·obtain⟨o',e1⟩:=I.base.there b o e hx;exact⟨o',(hs.2 b (ZF (Zv (Zq e) I.ok.above))).trans e1⟩
 ·by_cases hj:j=i
  ·subst hj;rw[ZG hiσ] at e2;cases e2
  ·rw[Zo (Ne.symm hj)] at e2;obtain⟨u',r',q⟩:=hl j y v' e1 e2 e3;refine⟨u',r',?_⟩;rcases q with ⟨k,e⟩ |⟨k,c,e,z⟩
   ·refine .inl ⟨k,?_⟩;have:y ≠ x:=λe=>hj (kH hN e1 (e ▸ hi));simp[this,e]
   ·exact .inr ⟨k,c,e,z.sameBut hs (cne y c e)⟩
 ·obtain⟨w',z⟩:=I.cell y c e;exact⟨w',z.sameBut hs (cne y c e)⟩
 ·obtain⟨e,n,ne,nf,d⟩:=I.pin p hp;exact⟨(hs.2 p.1 ne).trans e,n,ne,nf,d⟩
 ·refine(I.hok b ob e).stay (λc w' hc q=>(hs.2 c ?_).trans q) (λ_ q=>q) λ_ _ q=>q;rintro rfl;rcases hc with rfl |hc
  ·rw[I.free] at e;cases e
  ·rw[I.free] at hc;cases hc
theorem Ea{H':Hp}{s':Shared}{B:Heap}{e C R:Addr}{a0:Value}{i:Nat}{n ring:Str}{b₀:Stmt}{suite:List Stmt}{np hpos:Pos}{D:Ends}(hst:X.stack=X.env::X.outer)(hfm:X.env.frame=some X.env.locals)(I:L2.Inv X pins σ H s)(fl:Heap.FlyingW B X.stack e (.ref C) a0 s'.heap)(x:XLeft X.prog X.w X.stack H H' s B s')
  (hC:bv X.base C (.ref R::bmV)) (hR:bv X.base R bmV) (hg:Gl X ring) (hm:X.mg ring=some (.ref R)) (hdb:(ring == ("__debug__" : Str))=false) (hN:X.N.Nodup) (hi:X.N[i]?=some n) (hl:X.env.scope.names.lookup n=some .local)
  (hb:∀s6,L2.Inv (Cx.mk X e) pins (σ.set i (some (.ref e))) (upd H' e (exO e C)) s6->wpAny (model X.prog X.w) (Cx.mk X e).A (execs (b₀::suite) X.env) (λf s7=>∃u v σ7 H7,f = .ret u/\L2.Inv (Cx.mk X e) pins σ7 H7 s7/\aI v u/\D.rt v H7) (λ_ _=>False) s6) :
  wpAny (model X.prog X.w) X.A (noteFrame (.ref e) X.env) (λ_ s₂=>wpAny (model X.prog X.w) X.A (setFlight (.ref e) none) (λ_ s₃=>wpAny (model X.prog X.w) X.A (handleBy (.ref e) X.env [.ExceptHandler (some (.Name ring np)) (some n) (b₀::suite) hpos]) (SP X pins D) X.xe s₃) X.xe s₂) X.xe s':=by
 have hfr:X.A.frames=some (X.env::X.outer):=by rw[<-hst];exact I.ok.frames
 have st:X.base.StaysIn B:=λb o q=>x.keep b o (I.bs b o q).1 (I.bs b o q).2 λhm=>by
  rw[(I.stack.mem hm).1] at q;cases q
 have flS:=fl;rw[hst] at fl;refine wpAny_looks_onW hfr hfm fl λh4 held sm4=>?_;refine wpAny_landsW held λh5 fl5 sm5=>?_;rw[<-hst] at fl5;obtain⟨un5,ok5⟩:=x.got flS fl5 (sm4.trans sm5);have I5:L2.Inv X pins σ (upd H' e (exO e C)) { s' with heap:=h5 }:=I.call' x.os un5 ok5 x.bare (λb z=>absurd z (by simp));have I5m:=AR I5 e;refine wpAny_handleBy_cons (codeAny_handlers_test (gx (X:=Cx.mk X e) I5m hg hm ?_ hdb)) (by intro q;cases q);have hE:nM h5 e C:=by obtain⟨oe,vs,he,hc,hd,_⟩:=fl5.first;exact⟨oe,vs,he,hc,hd⟩
 have kb:∀b o,X.base.get? b=some o->h5.get? b=some o:=λb o q=>fl5.1 b o (st b o q);refine JG (hC.keeps kb) (hR.keeps kb) hE ?_;refine codeAny_handlers_suite_as ?_;refine lands_againW fl5 λh6 fl6 sm6=>?_;obtain⟨un6,ok6⟩:=x.got flS fl6 ((sm4.trans sm5).trans sm6);have I6:L2.Inv X pins σ (upd H' e (exO e C)) { s' with heap:=h6 }:=I.call' x.os un6 ok6 x.bare (λb z=>absurd z (by simp));refine cw (X:=Cx.mk X e) (AR I6 e) hN hi (.inl hl) (show aI (.ref e) (.ref e) from rfl) (λs7 I7=>?_) (.inr hl);refine UM (hb s7 I7) (λf s8 ⟨u,v,σ8,H8,hf,I8,rv,q⟩=>?_) λ_ _ z=>z.elim;subst hf;exact D9 (JH I.ok I8) hN hi hl λs9 I9=>⟨v,_,H8,I9,rv,q⟩
end
structure CtxOk(T:Tab)(C:Calls)(ar:Nat->Nat)(k:Nat)(b:Blk)(X:Cx):Prop where
 calm:X.calm=true
 xe:X.xe=λ_ _=>False
 hN:X.N=b.N
 hs:X.env.scope=b.sc
 nd:b.N.Nodup
 fn:∀x,(match b.fs with |none=>true |some sc=>sc.names.lookup x == some .cell)=true->X.fn x=true
 room:Room k X.A
 con:∀ (i:Nat) (x:Str) (v:Int),T.con[i]?=some (x,v)->∃tk,X.mg x=some (.int v tk)
 bl:∀x,x ∈ fD->X.mg x=none
 fns:∀ (i:Nat) (y:Str × Nat),T.fns[i]?=some y->ar i=y.2/\∃f fd ps,X.mg y.1=some (.ref f)/\Vq X.K (.ref f)=true/\fv X.K fd ps []/\FnOk X.prog X.w X.K X.mg X.base (CXE X.prog X.w) k f fd ps (spC X.K (C i) (ar i))
section
variable {T:Tab} {C:Calls} {ar:Nat->Nat} {k:Nat} {b:Blk} {X:Cx}
theorem ak{e:Expr}{es:List Expr}{env:Env}(h:aM e=true):Um (e::es) env=(false,eval e env)::Um es env:=by
 cases e <;> first |rfl |(exact absurd h Zd)
theorem lW{e:Expr}(h:aM e=true):vm e:=by
 intro o i;cases e <;> first |rfl |(exact absurd h Zd)
theorem dm{e:Expr}{op:CmpOp}(h:aM e=true):VG op e=false:=by
 cases e <;> first |rfl |(exact absurd h Zd)
theorem lX{e f:Expr}{op op':CmpOp}(h:aM e=true):lastMarks [op,op'] [f,e]=false:=by
 show VG op' e=false;exact dm h
theorem fe{e:Expr}{env:Env}(h:aM e=true):∀x,VZ e env x=pure x:=by
 intro x;cases e <;> first |rfl |(exact absurd h Zd)
theorem dn{e:Expr}{m:Str}{env:Env}{w:Sem Value}(h:t9 e=true):attributeBase e m env w=w:=by
 cases e with
 |Call f as ks p=>
  cases f with
  |Name x q=>
   cases as with
   |nil=>cases ks with |nil=>exact absurd h Zd |cons _ _=>rfl
   |cons _ _=>rfl
  |_=>rfl
 |_=>first |rfl |(exact absurd h Zd)
theorem lY{e:Expr}{env:Env}(h:D2 e=true):∀whole,isTrue e env whole=(do let v <-whole;standAt e.pos;holding [v] (truthy v)):=by
 intro whole;cases e with
 |UnaryOp op x p=>cases op <;> first |rfl |(exact absurd h Zd)
 |_=>first |rfl |(exact absurd h Zd)
theorem eN{es:List Expr}{env:Env}{pos:Pos}(h:∀e ∈ es,aM e=true):(backTo pos (Um es env)).any (·.1)=false:=by
 induction es with
 |nil=>rfl
 |cons e es ih=>
  rw[ak (h e Zh)];show(false || (backTo pos (Um es env)).any (·.1))=false;rw[ih λe he=>h e (Ze _ he)];rfl
theorem bw:∀ {n:Nat} {es:List Expr} {cs:List CE},fb T n b es cs=true->∀e ∈ es,aM e=true
 |0,_,_,h=>absurd h Zd
 |n+1,es,[],h=>λx hx=>by rw[cA h] at hx;cases hx
 |n+1,es,c::cs,h=>by
  obtain⟨e,es,rfl,h⟩:=cf h;obtain⟨_,h1,h⟩:=an3 h;intro x hx;rcases Zm.mp hx with rfl |hx
  ·exact h1
  ·exact bw h x hx
theorem CtxOk.gl(G:CtxOk T C ar k b X){x:Str}(h:b.glo x=true):Gl X x/\(x == ("__debug__" : Str))=false:=by
 unfold Blk.glo at h;rw[bAE] at h;refine⟨?_,by simpa using h.2⟩;show X.env.scope.names.lookup x=_;rw[G.hs]
 simpa using h.1
theorem CtxOk.vis(G:CtxOk T C ar k b X){x:Str}(h:b.vis x=true):Vis X.env.scope x/\(x == ("__debug__" : Str))=false/\(x == ("__classdict__" : Str))=false:=by
 unfold Blk.vis at h;rw[bAE,bAE] at h;refine⟨?_,by simpa using h.1.2,by simpa using h.2⟩;unfold Vis;rw[G.hs];have h1:=h.1.1;split at h1
 ·rename_i e;exact .inl e
 ·rename_i e;exact .inr (.inl e)
 ·rename_i e;exact .inr (.inr e)
 ·cases h1
theorem CtxOk.own(G:CtxOk T C ar k b X){x:Str}(h:b.own x=true):L2.Loc X.env.scope x/\(X.fn x=true\/X.env.scope.names.lookup x=some .local):=by
 unfold Blk.own at h;unfold L2.Loc;rw[G.hs];split at h
 ·rename_i e;exact⟨.inl e,.inr e⟩
 ·rename_i e;refine⟨.inr e,.inl (G.fn x ?_)⟩;cases hf:b.fs with
  |none=>rfl
  |some sc=>rw[hf] at h;exact h
 ·cases h
theorem CtxOk.inner(G:CtxOk T C ar k b X){own:List Str}{scope:Scope}(S:CmScope own (lJ own b.N) b.N scope b.sc){C':Addr}{ex:List Addr}{s:Shared}{H:Hp}:CtxOk T C ar k (b.inner own scope) (cxC X own (lJ own b.N) scope C' ex s H):=
 ⟨G.calm,rfl,by show c7 (lJ own b.N) X.N++own=_;rw[G.hN];rfl,by show fG scope X.env.scope=_;rw[G.hs];rfl,S.nd,λx h=>h,G.room,G.con,G.bl,G.fns⟩
theorem nQ{e:Expr}{es:List Expr}{env:Env}(h:aM e=true):VC (e::es) env=(false,assign e env)::VC es env:=by
 cases e <;> first |rfl |(exact absurd h Zd)
mutual
theorem gK(G:CtxOk T C ar k b X):∀ {e:Expr} {t:Tg},ua b e t=true->PG X e (tTg X.K t)
 |e,.name i,h=>by
  obtain⟨r,hx,h⟩:=lK h;obtain⟨h1,h2⟩:=an2 h;rw[pf hx];have o:=G.own h2;exact PG.imp (uX (i:=i) (x:=r.1) (by rw[G.hN];exact G.nd) (by rw[G.hN];exact eq_of_beq h1) o.1 o.2) λx σ H Q q=>o8 q
 |e,.tup ts,h=>by
  obtain⟨r,hx,h⟩:=lK h;rw[pj hx];have hl:=nR h;exact PG.imp (HU G.calm (rq G h) rfl hl.2) λx σ H Q q=>Jl hl.1 q
theorem rq(G:CtxOk T C ar k b X):∀ {es:List Expr} {ts:List Tg},lP b es ts=true->PGs X es (Aa X.K ts)
 |es,[],h=>by
  rw[cA h];exact PGs.imp CQ λx σ H Q q=>DS q
 |es,t::ts,h=>by
  obtain⟨e,es,rfl,h⟩:=cf h;obtain⟨h1,h2,h⟩:=an3 h;exact PGs.imp (yP (gK G h1) (rq G h) (by rw[nQ h2];rfl)) λx σ H Q q=>Ab q
theorem nR:∀ {es:List Expr} {ts:List Tg},lP b es ts=true->(VC es X.env).length=ts.length/\(VC es X.env).findIdx? (·.1)=none
 |es,[],h=>by
  rw[cA h];exact⟨rfl,rfl⟩
 |es,t::ts,h=>by
  obtain⟨e,es,rfl,h⟩:=cf h;obtain⟨h1,h2,h⟩:=an3 h;have ih:=nR h;rw[nQ h2];refine⟨congrArg (·+1) ih.1,?_⟩;rw[List.findIdx?_cons];simp[ih.2]
end
end
structure Snd(T:Tab)(C:Calls)(ar:Nat->Nat)(k n:Nat):Prop where
 e:∀ (b:Blk) (X:Cx) (e:Expr) (c:CE),CtxOk T C ar k b X->aN T n b e c=true->PE X e (tE X.K (evE C ar n c))
 tm:∀ (b:Blk) (X:Cx) (e:Expr) (c:CE),CtxOk T C ar k b X->ai c=true->aN T n b e c=true->PE X e (eW X.K (cM C ar n c))
 a:∀ (b:Blk) (X:Cx) (es:List Expr) (cs:List CE),CtxOk T C ar k b X->fb T n b es cs=true->PA X es (tAr X.K (evA C ar n cs))
 t:∀ (b:Blk) (X:Cx) (e:Expr) (c:CE),CtxOk T C ar k b X->fc T n b e c=true->PT X e (tT X.K (evT C ar n c))
 i:∀ (B:List Addr) (b:Blk) (X:Cx) (t e:Expr) (c:CI),CtxOk T C ar k b X->rf T n b t e c=true->PI X t e (tIt X.K B (evI C ar n c))
 cl:∀ (b:Blk) (X:Cx) (e:Expr) (gs:List Wx) (elt:CE) (cls:List Cl),CtxOk T C ar k b X->nK T n b e gs elt cls=true ->
  ∀ (gens:List Wx) (scope:Scope) (pos:Pos) (acc:Addr) (d:Nat),gens.drop (d+1)=gs->PTl X e gens scope pos acc d (tCl X.K acc (gX C ar n elt cls))
section
variable {T:Tab} {C:Calls} {ar:Nat->Nat} {k n:Nat} {b:Blk} {X:Cx}
theorem cE{e:Expr}{es:List Expr}{te:TE}{t:TA}(ha:PE X e te)(hr:PA X es t)(hp:aM e=true):PA X (e::es) (cS te t):=C2 ha hr (ak hp)
theorem NI(ih:Snd T C ar k n)(es:List Expr)(cs:List CE)(G:CtxOk T C ar k b X)(h:fb T (n+1) b es cs=true):PA X es (tAr X.K (evA C ar (n+1) cs)):=by
 cases cs with
 |nil=>rw[cA h];exact PA.imp oC λσ H Q q=>IP q
 |cons c cs=>
  obtain⟨e,es,rfl,h⟩:=cf h;obtain⟨h1,h2,h⟩:=an3 h;exact PA.imp (cE (ih.e b X e c G h1) (ih.a b X es cs G h) h2) λσ H Q q=>DA q
theorem bF{e:Expr}{te:TE}(h:PE X e te)(hp:aM e=true):PA X [e] (cS te jk):=cE h oC hp
theorem gL{x:Str}{id:String}{e:Expr}{te:TE}{r:V->Hp->VK->Prop}{p pos:Pos}(hc:aX X (.builtin id) (r1 r))(G:CtxOk T C ar k b X)(hg:b.glo x=true)(hb:x ∈ fD)(hv:VJ x=some (.builtin id))(hn:x ≠ "__name__")(h:PE X e te)(hp:aM e=true) :
  PE X (.Call (.Name x p) [e] [] pos) (tUn r te):=
 PE.imp (eG hc (G.gl hg).1 (G.bl x hb) hv (bF h hp) hn (G.gl hg).2 (ak hp) rfl) λσ H Q q=>q
theorem kr{x:Str}{id:String}{e:Expr}{te:TE}{r:V->Hp->VK->Prop}{p pos:Pos}(hc:aX X (.type id) (r1 r))(G:CtxOk T C ar k b X)(hg:b.glo x=true)(hb:x ∈ fD)(hv:VJ x=some (.type id))(hn:x ≠ "__name__")(h:PE X e te)(hp:aM e=true) :
  PE X (.Call (.Name x p) [e] [] pos) (tUn r te):=
 PE.imp (jl hc (G.gl hg).1 (G.bl x hb) hv (bF h hp) hn (G.gl hg).2 (ak hp) rfl) λσ H Q q=>q
theorem lZ{x:Str}{e:Expr}{a:CE}{f:Bool->List D->Sto->Option (D × Sto)}{ks:List Keyword}{p pos:Pos}(ih:Snd T C ar k n)(G:CtxOk T C ar k b X)(hq:∀te:TE,PE X e te->PE X (.Call (.Name x p) [e] ks pos) (tUn (rSq X.K f) te))(h:aN T n b e a=true) :
  PE X (.Call (.Name x p) [e] ks pos) (tE X.K (if ai a=true then qE f (cM C ar n a) else qF f (evE C ar n a))):=by
 split
 ·rename_i ht;exact PE.imp (hq _ (ih.tm b X e a G ht h)) λσ H Q q=>IK q
 ·exact PE.imp (hq _ (ih.e b X e a G h)) λσ H Q q=>IR q
theorem ku{x y:Str}(h:(x == y)=true):x=y:=eq_of_beq h
theorem pD{K:Vf}{x:XE}{σ:L2.St}{H:Hp}{Q Q':VK}(h:tE K x σ H Q)(f:∀v H',Q v H'->Q' v H'):tE K x σ H Q':=by
 obtain⟨m,ρ,S,d,S',E,R,e,q⟩:=h;exact⟨m,ρ,S,d,S',E,R,e,λm' H' v A vd=>f _ _ (q m' H' v A vd)⟩
theorem AS{x:XE}{σ:L2.St}{H:Hp}{Q:VK}{K:Vf}(h:eW K (lx x) σ H Q):tUn (rTm K λ_ ds=>some ds) (tE K x) σ H Q:=by
 obtain⟨m,ρ,S,ds,S',E,R,e,q⟩:=h;obtain⟨d,S1,e1,e⟩:=ae e;cases hi:ao d S1 with
 |none=>rw[hi] at e;cases e
 |some r=>
  rw[hi] at e;cases e;refine⟨m,ρ,S,d,_,E,R,e1,λm1 H1 v A1 vd=>?_⟩;obtain⟨a,vs,ev,sq,vds⟩:=eJ (tu:=r.1) (ds:=r.2) A1.rel vd hi;refine⟨m1,_,r.1,r.2,a,vs,r.2,A1.rel,ev,sq,vds,rfl,λm2 H2 p ws A2 hp n1 n2 n3 vw=>?_⟩
  have hn:H p=none:=by
   cases eh:H p with
   |none=>rfl
   |some o=>
    by_cases hm:p ∈ m
    ·exact absurd rfl (n2 p (A1.ext.pre.subset hm))
    ·have:=A1.ext.keep p o eh hm;rw[n3] at this;cases this
  exact q m2 H2 p ws (A1.trans A2) hp n1 (λb hb=>n2 b (A1.ext.pre.subset hb)) hn vw
theorem AU{x:XA}{σ:L2.St}{H:Hp}{Q:VK}{K:Vf}(h:eW K x σ H Q):tUn (rTm K λ_ ds=>some ds) (eW K x) σ H Q:=by
 obtain⟨m,ρ,S,ds,S',E,R,e,q⟩:=h;refine⟨m,ρ,S,ds,S',E,R,e,λm1 H1 a vs A1 ha na _ _ vd=>?_⟩;refine⟨m1,_,false,ds,a,vs,ds,A1.rel,rfl,show SqL K H1 a vs from SqL.of ha,vd,rfl,λm2 H2 p ws A2 hp n1 n2 n3 vw=>?_⟩
 have hn:H p=none:=by
  cases eh:H p with
  |none=>rfl
  |some o=>
   by_cases hm:p ∈ m
   ·exact absurd rfl (n2 p (A1.ext.pre.subset hm))
   ·have:=A1.ext.keep p o eh hm;rw[n3] at this;cases this
 exact q m2 H2 p ws (A1.trans A2) hp n1 (λb hb=>n2 b (A1.ext.pre.subset hb)) hn vw
abbrev ifT(C:Calls)(ar:Nat->Nat)(n:Nat)(K:Vf):Option CE->TT
 |none=>Dd
 |some c=>tT K (evT C ar n c)
theorem ma(ih:Snd T C ar k n)(G:CtxOk T C ar k b X){ifs:List Expr}{cond:Option CE}(h:AM (fc T n b) ifs cond=true):PTs X ifs (ifT C ar n X.K cond):=by
 cases cond with
 |none=>rw[cA h];exact De
 |some c=>obtain⟨e,rfl,h⟩:=cN h;exact Df (ih.t b X e c G h)
theorem ug{K:Vf}{cond:Option CE}{acc:Addr}{c:XA}{D:Ends}{σ:L2.St}{H:Hp}(q:tCl K acc (cnd (evT C ar n) cond c) D σ H):fA (ifT C ar n K cond) (tCl K acc c) D σ H:=by
 cases cond with
 |none=>exact Jq q
 |some c=>exact DY q
theorem rA(ih:Snd T C ar k n)(G:CtxOk T C ar k b X){l:Option Expr}{lo:Option CE}(h:AL (aN T n b) l lo=true):PO X l (tOI X.K (opt (evE C ar n) lo)):=by
 cases lo with
 |none=>
  cases l with
  |none=>exact PO.imp C5 λσ H Q q=>DG q
  |some _=>cases h
 |some c=>obtain⟨e,rfl,h⟩:=lK h;exact PO.imp (vh (ih.e b X e c G h)) λσ H Q q=>DH q
theorem JI(ih:Snd T C ar k n)(e:Expr)(gs:List Wx)(elt:CE)(cls:List Cl)(G:CtxOk T C ar k b X)(h:nK T (n+1) b e gs elt cls=true)(gens:List Wx)(scope:Scope)(pos:Pos)(acc:Addr)(d:Nat)(hd:gens.drop (d+1)=gs) :
  PTl X e gens scope pos acc d (tCl X.K acc (gX C ar (n+1) elt cls)):=by
 have imp:∀ {t t':TS},PTl X e gens scope pos acc d t->(∀D σ H,t' D σ H->t D σ H)->PTl X e gens scope pos acc d t':=λh f pins s σ H D I q=>h pins s σ H D I (f D σ H q);cases cls with
 |nil=>
  obtain⟨h0,h⟩:=an2 h;cases cA h0
  have hn:gens[d+1]?=none:=by
   have:=congrArg Zf hd;simp at this;exact Ym.mpr (by omega)
  exact imp (zi G.xe hn (ih.e b X e elt G h)) λD σ H q=>DX q
 |cons g rest=>
  obtain⟨tg,it,cond⟩:=g;obtain⟨⟨t,i,ifs,as⟩,gs',rfl,h⟩:=cf h;obtain⟨h0,h1,h2,h3,h4⟩:=an5 h;cases of_decide_eq_true h0
  have hn:gens[d+1]?=some ⟨t,i,ifs,0⟩:=by
   have:=congrArg (·[0]?) hd
   simpa using this
  have hd':gens.drop (d+1+1)=gs':=by
   have:=congrArg (Ys 1) hd
   simpa[List.drop_drop] using this
  have hpl:=gJ h1 (λe he env=>fe he) X.env;exact imp (Dg hn (ih.i [acc] b X t i it G h1) (gK G h2) (ma ih G h3) (ih.cl b X e gs' elt rest G h4 gens scope pos acc (d+1) hd') G.xe G.calm hpl) λD σ H q=>Ai (λD σ H z=>ug z) q
theorem NJ(ih:Snd T C ar k n)(B:List Addr)(t e:Expr)(c:CI)(G:CtxOk T C ar k b X)(h:rf T (n+1) b t e c=true):PI X t e (tIt X.K B (evI C ar (n+1) c)):=by
 cases c with
 |val a=>
  have h:=an2 h;show PI X t _ (tIt X.K B (if ai a=true then xIT (cM C ar n a) else xIV (evE C ar n a)));split
  ·rename_i ht;exact PI.imp (uY (ih.tm b X _ a G ht h.1)) λσ H R q=>P5 q
  ·exact PI.imp (PI.or (uY (ih.e b X _ a G h.1)) (HY (ih.e b X _ a G h.1))) λσ H R q=>P4 q
 |r1 a=>
  obtain⟨x,p,q,rfl,h2,h3,h4⟩:=bj h;exact PI.imp (wY (G.gl h2).1 (G.bl _ (by decide)) (bF (ih.e b X x a G h3) h4) (ak h4)) λσ H R q=>Nu q
 |r2 a c=>
  obtain⟨x,y,p,q,rfl,h2,h3,h4,h5,h6⟩:=eM h;exact PI.imp (wZ (G.gl h2).1 (G.bl _ (by decide)) (cE (ih.e b X x a G h3) (bF (ih.e b X y c G h5) h6) h4) (by rw[ak h4,ak h6];rfl) (ak h6)) λσ H R q=>Nv q
 |en a=>
  have h:=an2 h;obtain⟨x,p,q,rfl,h2,h3,h4⟩:=bj h.1;obtain⟨elts,x1,tp,rfl,_⟩:=AH h.2;show PI X _ _ (tIt X.K B (if ai a=true then xET (cM C ar n a) else xEV (evE C ar n a)));split
  ·rename_i ht;exact PI.imp (zt (G.gl h2).1 (G.bl _ (by decide)) (bF (ih.tm b X x a G ht h3) h4) (ak h4)) λσ H R q=>Nt q
  ·exact PI.imp (PI.or (zt (G.gl h2).1 (G.bl _ (by decide)) (bF (ih.e b X x a G h3) h4) (ak h4)) (IC (G.gl h2).1 (G.bl _ (by decide)) (bF (ih.e b X x a G h3) h4) (ak h4))) λσ H R q=>Nr q
end
section
variable {T:Tab} {C:Calls} {ar:Nat->Nat} {k n:Nat} {b:Blk} {X:Cx}
theorem rB{k:Nat}{A:Around}(r:Room k A):A.units+64 < cLine:=r.units
theorem i7(K:Vf)(m:List Addr)(H:Hp):∀l:List Nat,VDs K m H (l.map λj=>D.int (Int.ofNat j)) (l.map λ(j:Nat)=>V.int j)
 |[]=>by rw[Z5,Z5,VDs]
 |a::l=>by rw[Zu,Zu,VDs];exact⟨_,_,rfl,bq,i7 K m H l⟩
theorem uS{H:Hp}{p:Addr}{x y:HO}:upd (upd H p x) p y=upd H p y:=by
 funext b
 unfold upd;split <;> rfl
theorem Rel.adoptO{K:Vf}{m:List Addr}{S:Sto}{H:Hp}{a:Addr}(R:Rel K m S H)(n:a ∉ m){ob:Ob}(h:ObR K (m++[a]) H a ob):Rel K (m++[a]) (S++[ob]) H:=by
 have p:=Yv m [a];have g:∀ {es:List D} {ws:List V},VDs K m H es ws->VDs K (m++[a]) H es ws:=λz=>VDs.mono0 p (λ_ _ t=>t) z;refine⟨by simp[R.len],Y1.mpr ⟨R.nd,by simp,λx hx y hy=>by simp at hy;subst hy;exactλz=>n (z ▸ hx)⟩,λi o e=>?_⟩;by_cases hi:i < S.length
 ·rw[Zt hi] at e;obtain⟨b,hb,r⟩:=R.ob i o e;refine⟨b,kj p hb,?_⟩;cases o with
  |lst ds=>obtain⟨vs,p,q⟩:=r;exact⟨vs,p,g q⟩
  |frz ds=>obtain⟨o,vs,p,q⟩:=r;exact⟨o,vs,p,g q⟩
  |dic ks ds=>obtain⟨vs,p,l,q⟩:=r;exact⟨vs,p,l,g q⟩
 ·rw[Zp (by lia)] at e
  have hz:i - S.length=0:=by
   have:=(Zb.mp e).1;simp at this;lia
  rw[hz] at e;have e':ob=o:=by simpa using e
  subst e';refine⟨a,?_,h⟩;rw[Zp (by rw[R.len];lia),R.len,hz];rfl
theorem vU{K:Vf}{m:List Addr}{H:Hp}{S:Sto}{p:Addr}{ks:List Key}{ds:List D}{vs:List V}{Q:VK}(R:Rel K m S H)(hp:H p=none)(vd:VDs K m H ds vs)(hl:ks.length=ds.length)(q:∀m' H' u,Aft K m H (S++[.dic ks ds]) m' H'->VD K m' H' (.ref S.length) u->Q u H'):Q (.ref p) (upd H p (.dK (ks.zip vs))):=by
 have x:=Ext.beside R hp (.dK (ks.zip vs));have R1:=R.beside hp (.dK (ks.zip vs));refine q (m++[p]) _ _ ⟨x.adopt hp,?_⟩ ?_
 ·exact R1.adoptO (R.no hp) (ob:=.dic ks ds) ⟨vs,aV,hl,VDs.mono0 (Yv m [p]) (λ_ _ t=>t) (vd.mono R x)⟩
 ·rw[VD];exact⟨p,by rw[Zp (by rw[R.len];exact Zg _),R.len,Yj];rfl,rfl⟩
theorem uh{es:List Expr}{a:CE}(h:fb T n b es [a]=true):∃y,es=[y]:=by
 cases n with
 |zero=>exact absurd h Zd
 |succ n=>
  obtain⟨e,es,rfl,h⟩:=cf h;have h:=(an2 h).2;cases n with
  |zero=>exact absurd h Zd
  |succ n=>cases cA h;exact⟨e,rfl⟩
theorem Eb(ih:Snd T C ar k n){own:List Str}{elt:CE}{tg:Tg}{it:CI}{cond:Option CE}{rest:List Cl}{e t i:Expr}{ifs:List Expr}{gs:List Wx}{scope:Scope}{pos:Pos}(G:CtxOk T C ar k b X)
  (h0:cmB own (lJ own b.N) b.N scope b.sc=true) (h1:rf T n b t i it=true) (h2:ua (b.inner own scope) t tg=true) (h3:AM (fc T n (b.inner own scope)) ifs cond=true) (h4:nK T n (b.inner own scope) e gs elt rest=true) :
  PE X (.ListComp e (⟨t,i,ifs,0⟩::gs) scope pos) (eW X.K (lw own.length (evI C ar n it) tg (cnd (evT C ar n) cond (gX C ar n elt rest)) LF)):=by
 have S:CmScope own (lJ own b.N) b.N scope b.sc:=zu _ h0;have S':CmScope own (lJ own b.N) X.N scope X.env.scope:=by rw[G.hN,G.hs];exact S
 have hpl:=gJ h1 (λe he env=>fe he) X.env
 refine PE.imp (Dh (g:=tTg X.K tg) (ti:=ifT C ar n X.K cond) (t:=λacc=>tCl X.K acc (gX C ar n elt rest)) G.calm S' (ih.i [] b X t i it G h1) (λC' ex s H=>gK (G.inner S (C':=C') (ex:=ex) (s:=s) (H:=H)) h2) (λC' ex s H=>ma ih (G.inner S (C':=C') (ex:=ex) (s:=s) (H:=H)) h3)
  (λC' ex s H acc=>ih.cl _ _ e gs elt rest (G.inner S (C':=C') (ex:=ex) (s:=s) (H:=H)) h4 _ scope pos acc 0 rfl) hpl) λσ H Q q=>?_
 exact vN (λacc D σ H z=>ug z) q
theorem JJ{x:XE}{σ:L2.St}{H:Hp}{Q:VK}{K:Vf}(h:eW K (xV x) σ H Q):tE K x σ H λv H1=>∃i:Nat,v = .int i/\i<=1000/\∀p,H1 p=none->∀l,upd H1 p (.rng 0 i) l=none->Q (.ref l) (upd (upd H1 p (.rng 0 i)) l (.lst ((Zk i).map λ(j:Nat)=>V.int j))):=by
 obtain⟨m,ρ,S,ds,S',E,R,e,q⟩:=h;obtain⟨d,S1,e1,e⟩:=ae e;cases d with
 |int i=>
  dsimp only at e;split at e
  ·rename_i hi;cases e;refine⟨m,ρ,S,.int i,_,E,R,e1,λm1 H1 v A1 vd=>⟨i.toNat,by rw[vd.ints];congr 1;lia,by lia,λp hp l hl=>?_⟩⟩;have A2:Aft K m1 H1 S' m1 (upd H1 p (.rng 0 i.toNat)):=⟨Ext.beside A1.rel hp _,A1.rel.beside hp _⟩;have A3:Aft K m1 (upd H1 p (.rng 0 i.toNat)) S' m1 (upd (upd H1 p (.rng 0 i.toNat)) l (.lst ((Zk i.toNat).map λ(j:Nat)=>V.int j))):=⟨Ext.beside A2.rel hl _,A2.rel.beside hl _⟩;have nl:l ∉ m1:=A2.rel.no hl
   have n1:H1 l=none:=by
    cases hh:H1 l with
    |none=>rfl
    |some o=>rw[(Ext.beside A1.rel hp (.rng 0 i.toNat)).keep l o hh nl] at hl;cases hl
   have nH:H l=none:=by
    cases hh:H l with
    |none=>rfl
    |some o=>
     by_cases hm:l ∈ m
     ·exact absurd (A1.ext.pre.subset hm) nl
     ·rw[A1.ext.keep l o hh hm] at n1;cases n1
   refine q m1 _ l _ (A1.trans (A2.trans A3)) aV nl (λb hb z=>nl (z ▸ A1.ext.pre.subset hb)) nH ?_;exact i7 _ _ _ _
  ·cases e
 |_=>cases e
theorem Ec{σ:L2.St}{H:Hp}{Q:VK}{K:Vf}(h:tE K Ap σ H Q):zn σ H Q:=by
 obtain⟨m,ρ,S,d,S',E,R,e,q⟩:=h;cases e;exactλp hp=>vU R hp (show VDs K m H [] [] by rw[VDs]) rfl q
theorem Ed{σ:L2.St}{H:Hp}{Q:VK}{K:Vf}{i:Int}{v:Nat}(h:tE K (qZ i v) σ H Q):zq [(tC (.int i),CN v)] σ H Q:=by
 obtain⟨m,ρ,S,d,S',E,R,e,q⟩:=h;unfold qZ at e;split at e
 ·rename_i d0 hd;cases e;obtain⟨u,hu,vu⟩:=E.at_ _ _ hd;intro p hp;refine⟨_,hu,aV,[(o9 i,u)],rfl,by simp,?_⟩;rw[uS];exact vU R hp (ks:=[o9 i]) (vs:=[u]) (show VDs K m H [d0] [u] by rw[VDs];exact⟨_,_,rfl,vu,by rw[VDs]⟩) rfl q
 ·cases e
theorem JK{f:Bool->List D->Option (List D)}{x:XE}{σ:L2.St}{H:Hp}{Q:VK}{K:Vf}(h:eW K (xU f x) σ H Q):tUn (rTm K f) (tE K x) σ H Q:=by
 obtain⟨m,ρ,S,ds,S',E,R,e,q⟩:=h;obtain⟨d,S1,e1,e⟩:=ae e;cases hi:ao d S1 with
 |none=>rw[hi] at e;cases e
 |some r=>
  rw[hi] at e;dsimp only at e;cases hf:f r.1 r.2 with
  |none=>rw[hf] at e;cases e
  |some es=>
  rw[hf] at e;cases e;refine⟨m,ρ,S,d,_,E,R,e1,λm1 H1 v A1 vd=>?_⟩;obtain⟨a,vs,ev,sq,vds⟩:=eJ (tu:=r.1) (ds:=r.2) A1.rel vd hi;refine⟨m1,_,r.1,r.2,a,vs,ds,A1.rel,ev,sq,vds,hf,λm2 H2 p ws A2 hp n1 n2 n3 vw=>?_⟩
  have hn:H p=none:=by
   cases eh:H p with
   |none=>rfl
   |some o=>
    by_cases hm:p ∈ m
    ·exact absurd rfl (n2 p (A1.ext.pre.subset hm))
    ·have:=A1.ext.keep p o eh hm;rw[n3] at this;cases this
  exact q m2 H2 p ws (A1.trans A2) hp n1 (λb hb=>n2 b (A1.ext.pre.subset hb)) hn vw
theorem JL{f:Bool->List D->Option (List D)}{x:XA}{σ:L2.St}{H:Hp}{Q:VK}{K:Vf}(h:eW K (xT f x) σ H Q):tUn (rTm K f) (eW K x) σ H Q:=by
 obtain⟨m,ρ,S,es,S',E,R,e,q⟩:=h;obtain⟨ds,S1,e1,e⟩:=ae e;cases hf:f false ds with
 |none=>rw[hf] at e;cases e
 |some es'=>
 rw[hf] at e;cases e;refine⟨m,ρ,S,ds,_,E,R,e1,λm1 H1 a vs A1 ha na _ _ vd=>?_⟩;refine⟨m1,_,false,ds,a,vs,es,A1.rel,rfl,show SqL K H1 a vs from SqL.of ha,vd,hf,λm2 H2 p ws A2 hp n1 n2 n3 vw=>?_⟩
 have hn:H p=none:=by
  cases eh:H p with
  |none=>rfl
  |some o=>
   by_cases hm:p ∈ m
   ·exact absurd rfl (n2 p (A1.ext.pre.subset hm))
   ·have:=A1.ext.keep p o eh hm;rw[n3] at this;cases this
 exact q m2 H2 p ws (A1.trans A2) hp n1 (λb hb=>n2 b (A1.ext.pre.subset hb)) hn vw
theorem AV(ih:Snd T C ar k n)(e:Expr)(c:CE)(G:CtxOk T C ar k b X)(ht:ai c=true)(h:aN T (n+1) b e c=true):PE X e (eW X.K (cM C ar (n+1) c)):=by
 cases c with
 |lst cs=>
  obtain⟨es,p,rfl,hh⟩:=pA h;exact PE.imp (oD (ih.a b X es cs G hh)) λσ H Q q=>DB q
 |listOf a=>
  obtain⟨x,p,q,rfl,h2,h3,h4⟩:=bj h;show PE X _ (eW X.K (if ai a=true then cM C ar n a else lx (evE C ar n a)));split
  ·rename_i ht;exact PE.imp (kr lb G h2 (by decide) Wn (by decide) (ih.tm b X x a G ht h3) h4) λσ H Q q=>AU q
  ·exact PE.imp (kr lb G h2 (by decide) Wn (by decide) (ih.e b X x a G h3) h4) λσ H Q q=>AS q
 |listR a=>
  obtain⟨x,p,q,rfl,h2,h3,h4⟩:=bj h;obtain⟨y,p',q',rfl,h5,h6,h7⟩:=bj h3
  exact PE.imp (jl (oP G.calm) (G.gl h2).1 (G.bl _ (by decide)) Wn (bF (jl qt (G.gl h5).1 (G.bl _ (by decide)) PyProof.Rows.boot_range (bF (ih.e b X y a G h6) h7) (by decide) (G.gl h5).2 (ak h7) rfl) h4) (by decide) (G.gl h2).2 (ak h4) rfl) λσ H Q q=>pD (JJ q) λv H1 ⟨i,ev,hi,z⟩=>by
    subst ev;exact⟨i,rfl,λp hp=>⟨p,i,rfl,aV,hi,λl hl=>z p hp l hl⟩⟩
 |srt a=>
  obtain⟨x,p,q,rfl,h2,h3,h4⟩:=bj h;show PE X _ (eW X.K (if ai a=true then xT ce (cM C ar n a) else xU ce (evE C ar n a)));split
  ·rename_i ht;exact PE.imp (gL nF G h2 (by decide) Wp (by decide) (ih.tm b X x a G ht h3) h4) λσ H Q q=>JL (f:=ce) q
  ·exact PE.imp (gL nF G h2 (by decide) Wp (by decide) (ih.e b X x a G h3) h4) λσ H Q q=>JK (f:=ce) q
 |comp own elt cls=>
  obtain⟨tg,it,cond,rest,rfl,hc⟩:=Hc h;obtain⟨el,t,i,ifs,gs,scope,p,rfl,hh⟩:=vS hc;obtain⟨h0,h1,h2,h3,h4⟩:=an5 hh;exact Eb ih G h0 h1 h2 h3 h4
 |_=>cases ht
theorem i8{y:Expr}{pos:Pos}(h:aM y=true):((backTo pos (Um [y] X.env)).all (λx=>!x.1) && (VF pos (V3 [] X.env)).all (λx=>x.1.isSome) && decide (([y]:List Expr).length+([]:List Keyword).length+(if ([]:List Keyword).isEmpty then 0 else 1) < 30))=true:=by
 rw[ak h];rfl
theorem NK(ih:Snd T C ar k n)(e:Expr)(c:CE)(G:CtxOk T C ar k b X)(h:aN T (n+1) b e c=true):PE X e (tE X.K (evE C ar (n+1) c)):=by
 have hu:=rB G.room
 have tmp:ai c=true->evE C ar (n+1) c=dW (cM C ar (n+1) c)->PE X e (tE X.K (evE C ar (n+1) c)):=λht he=>by
  rw[he];exact PE.imp (AV ih e c G ht h) λσ H Q q=>qG q
 cases c with
 |non=>obtain⟨_,_,rfl⟩:=JB h;exact PE.imp HN λσ H Q q=>zE (λ_ _=>oW) q
 |bl v=>obtain⟨_,_,rfl⟩:=AG h;exact PE.imp yI λσ H Q q=>zE (λ_ _=>bN) q
 |int v=>obtain⟨_,_,rfl⟩:=jz h;exact PE.imp ji λσ H Q q=>zE (λ_ _=>bq) q
 |str v=>obtain⟨_,_,rfl⟩:=ud h;exact PE.imp ow λσ H Q q=>zE (λ_ _=>jq) q
 |var i=>
  obtain⟨x,p,rfl,hh⟩:=cu h;have hh:=an2 hh;have v:=G.vis hh.2;exact PE.imp (ou (i:=i) (by rw[G.hN];exact eq_of_beq hh.1) v.1 v.2.1 v.2.2) λσ H Q q=>IM q
 |con k' v=>
  obtain⟨x,p,rfl,hh⟩:=cu h;have hh:=an2 hh;have g:=G.gl hh.2;obtain⟨tk,hm⟩:=G.con k' x v (eq_of_beq hh.1);exact PE.imp (uT (v:=.int v) g.1 hm ⟨tk,rfl⟩ g.2) λσ H Q q=>zE (λ_ _=>bq) q
 |tup cs=>obtain⟨es,_,_,rfl,hh⟩:=AH h;exact PE.imp (Il (ih.a b X es cs G hh)) λσ H Q q=>IQ q
 |lst cs=>exact tmp rfl rfl
 |dic0=>obtain⟨p,rfl⟩:=D6 h;exact PE.imp zo λσ H Q q=>Ec q
 |dic1 i j=>
  obtain⟨x,y,p,rfl,h1,h2⟩:=D7 h;obtain⟨_,_,rfl⟩:=jz h1;obtain⟨_,_,rfl,hh⟩:=cu h2;have hh:=an2 hh;have v:=G.vis hh.2;exact PE.imp (zv ji (ou (i:=j) (by rw[G.hN];exact eq_of_beq hh.1) v.1 v.2.1 v.2.2)) λσ H Q q=>Ed q
 |bin o a c'=>obtain⟨l,r,p,rfl,h2,h3⟩:=AI h;exact PE.imp (GO (DF o) (ih.e b X l a G h2) (ih.e b X r c' G h3)) λσ H Q q=>oV q
 |neg a=>obtain⟨x,p,rfl,hh⟩:=AJ h;exact PE.imp (GP DZ (ih.e b X x a G hh)) λσ H Q q=>vE q
 |cmp o a c'=>obtain⟨l,r,p,rfl,h2,h3,h4⟩:=pB h;exact PE.imp (CZ (gI hu o) (ih.e b X l a G h2) (ih.e b X r c' G h3) (dm h4)) λσ H Q q=>oV q
 |chn o p' a c' d=>obtain⟨l,r,s,p,rfl,h2,h3,h4,h5⟩:=AK h;exact PE.imp (yU (gI hu o) (gI hu p') (ih.e b X l a G h2) (ih.e b X r c' G h3) (ih.e b X s d G h4) (lX h5)) λσ H Q q=>Al q
 |and a c'=>
  rcases D3 h with h |h
  ·obtain⟨x,y,p,rfl,h1,h2⟩:=lQ h;exact PE.imp (yN (ih.e b X x a G h1) (yM (ih.e b X y c' G h2))) λσ H Q q=>Ak q
  ·obtain⟨x,y,z,ys,p,rfl,h1,h2⟩:=lR h;exact PE.imp (yN (ih.e b X x a G h1) (ih.e b X _ c' G h2)) λσ H Q q=>Ak q
 |or a c'=>
  rcases D3 h with h |h
  ·obtain⟨x,y,p,rfl,h1,h2⟩:=lQ h;exact PE.imp (GH (ih.e b X x a G h1) (yM (ih.e b X y c' G h2))) λσ H Q q=>G3 q
  ·obtain⟨x,y,z,ys,p,rfl,h1,h2⟩:=lR h;exact PE.imp (GH (ih.e b X x a G h1) (ih.e b X _ c' G h2)) λσ H Q q=>G3 q
 |not a=>obtain⟨x,p,rfl,hh⟩:=ue h;exact PE.imp (HQ (ih.e b X x a G hh)) λσ H Q q=>Jt q
 |ite t a c'=>obtain⟨x,y,z,p,rfl,h1,h2,h3⟩:=JC h;exact PE.imp (yO (ih.t b X x t G h1) (ih.e b X y a G h2) (ih.e b X z c' G h3)) λσ H Q q=>Ju q
 |ix a c'=>
  obtain⟨x,y,p,rfl,h1,h2,h3⟩:=Hb h;show PE X _ (tE X.K (if ai a=true then tx (cM C ar n a) (evE C ar n c') else qD ixS (evE C ar n a) (evE C ar n c')));split
  ·rename_i ht;exact PE.imp (y6 y8 (ih.tm b X x a G ht h1) (ih.e b X y c' G h2) (lW h3)) λσ H Q q=>Jb q
  ·exact PE.imp (y6 P2 (ih.e b X x a G h1) (ih.e b X y c' G h2) (lW h3)) λσ H Q q=>oV q
 |sl a lo hi=>obtain⟨x,y,z,p,p',rfl,h1,h2,h3⟩:=NC h;exact PE.imp (yZ P3 (ih.e b X x a G h1) (rA ih G h2) (rA ih G h3)) λσ H Q q=>Ni q
 |call f cs=>
  obtain⟨x,e,es,p,p',rfl,h12,h3⟩:=pC (k:=λx=>oA T.fns[f]? (λy=>y.1 == x) && b.glo x) (l:=λes=>fb T n b es cs) (e:=e) h;obtain⟨h1,h2⟩:=an2 h12
  ·obtain⟨y,hy,h1⟩:=lK h1;have hx:=ku h1;subst hx;obtain⟨ha,fa,fd,ps,hm,hk,hb,F⟩:=G.fns f y hy;have hpl:=bw h3;have g:=G.gl h2;exact PE.imp (u0 F G.room g.1 hm hk hb .nil NF (ih.a b X (e::es) cs G h3) g.2 (ak (hpl e Zh)) (eN λe he=>hpl e (Ze _ he))) λσ H Q q=>D0 q
 |inst t a=>
  obtain⟨x,y,p,p',rfl,h2,h5,h6,h7,_⟩:=eM h;obtain⟨y,p'',rfl,h8⟩:=cu h7;obtain⟨h3,h4⟩:=an2 h8;have hy:=ku h3;subst hy
  have ty:PE X (.Name (Str.ofString t.nm) p'') (tC (.ty t.nm)):=by
   have g:=G.gl h4;cases t with
   |int=>exact gy g.1 (G.bl _ (by decide)) PyProof.Rows.boot_int rfl (by decide) g.2
   |bool=>exact gy g.1 (G.bl _ (by decide)) PyProof.Rows.boot_bool rfl (by decide) g.2
   |tuple=>exact gy g.1 (G.bl _ (by decide)) Wr rfl (by decide) g.2
   |list=>exact gy g.1 (G.bl _ (by decide)) Wn rfl (by decide) g.2
   |str=>exact gy g.1 (G.bl _ (by decide)) Wq rfl (by decide) g.2
  exact PE.imp (eG (oQ X.K) (G.gl h2).1 (G.bl _ (by decide)) Wm (cE (ih.e b X x a G h5) (bF ty rfl) h6) (by decide) (G.gl h2).2 (ak h6) rfl) λσ H Q q=>DK q
 |len a=>obtain⟨x,p,p',rfl,h2,h3,h4⟩:=bj h;exact lZ ih G (λte z=>gL xE G h2 (by decide) PySem.boot_len (by decide) z h4) h3
 |all a=>obtain⟨x,p,p',rfl,h2,h3,h4⟩:=bj h;exact lZ ih G (λte z=>gL (xG G.calm) G h2 (by decide) PyProof.Rows.boot_all (by decide) z h4) h3
 |mxL a=>obtain⟨x,p,p',rfl,h2,h3,h4⟩:=bj h;exact lZ ih G (λte z=>gL (xL G.calm) G h2 (by decide) Wo (by decide) z h4) h3
 |mxD a c=>
  obtain⟨x,p,q,j,p',q',rfl,h2,h3,h4⟩:=D5 h;exact lZ ih G (λte z=>PE.imp (Ji G.calm (G.gl h2).1 (G.bl _ (by decide)) (G.gl h2).2 (bF z h4) (ak h4)) λσ H Q q=>q) h3
 |strI a=>obtain⟨x,p,p',rfl,h2,h3,h4⟩:=bj h;exact PE.imp (kr xN G h2 (by decide) Wq (by decide) (ih.e b X x a G h3) h4) λσ H Q q=>vE q
 |rev a=>obtain⟨x,k,p,p2,p3,p4,rfl,h1⟩:=JD h;exact PE.imp (Jh (ih.e b X x a G h1)) λσ H Q q=>vE q
 |tupOf a=>obtain⟨x,p,p',rfl,h2,h3,h4⟩:=bj h;exact lZ ih G (λte z=>kr xF G h2 (by decide) Wr (by decide) z h4) h3
 |listOf a=>exact tmp rfl rfl
 |listR a=>exact tmp rfl rfl
 |srt a=>exact tmp rfl rfl
 |mx a c'=>
  obtain⟨x,es,p,p',rfl,h2,h3⟩:=re (b:=b) (f := "max") (k:=λes=>fb T n b es [a,c']) (e:=e) h;have hpl:=bw h3;exact PE.imp (eG (tI G.calm) (G.gl h2).1 (G.bl _ (by decide)) Wo (ih.a b X (x::es) [a,c'] G h3) (by decide) (G.gl h2).2 (ak (hpl x Zh)) (eN λe he=>hpl e (Ze _ he))) λσ H Q q=>zD q
 |mn a c'=>
  obtain⟨x,es,p,p',rfl,h2,h3⟩:=re (b:=b) (f := "min") (k:=λes=>fb T n b es [a,c']) (e:=e) h;have hpl:=bw h3;exact PE.imp (eG (tJ G.calm) (G.gl h2).1 (G.bl _ (by decide)) PyProof.Rows.boot_min (ih.a b X (x::es) [a,c'] G h3) (by decide) (G.gl h2).2 (ak (hpl x Zh)) (eN λe he=>hpl e (Ze _ he))) λσ H Q q=>zD q
 |rep a=>obtain⟨x,p,p',rfl,h2,h3,h4⟩:=bj h;exact PE.imp (gL (tZ G.room) G h2 (by decide) PyProof.Rows.boot_repr (by decide) (ih.e b X x a G h3) h4) λσ H Q q=>vE q
 |comp own elt cls=>exact tmp rfl rfl
 |app o a=>
  obtain⟨x,ap,es,p,rfl,h2,h3,h4,h5⟩:=lV h;obtain⟨y,rfl⟩:=uh h5;have hpl:=bw h5 y (by simp);exact PE.imp (qk WE WG PySem.F.type_list_append Jk (ih.e b X x o G h4) (ih.a b X [y] [a] G h5) (dn h2) (i8 hpl) h3 (ak hpl) rfl) λσ H Q q=>tW (λR vd c=>z9 R vd c) q
 |popAt o a=>
  obtain⟨x,ap,es,p,rfl,h2,h3,h4,h5⟩:=lV h;obtain⟨y,rfl⟩:=uh h5;have hpl:=bw h5 y (by simp);exact PE.imp (qk WE WK PySem.F.type_list_pop xQ (ih.e b X x o G h4) (ih.a b X [y] [a] G h5) (dn h2) (i8 hpl) h3 (ak hpl) rfl) λσ H Q q=>tW (λR vd c=>z9 R vd c) q
 |cnt o a=>
  obtain⟨x,ap,es,p,rfl,h2,h3,h4,h5⟩:=lV h;obtain⟨y,rfl⟩:=uh h5;have hpl:=bw h5 y (by simp);exact PE.imp (qk PySem.F.plainAttrs_tuple WM PySem.F.type_tuple_count DN (ih.e b X x o G h4) (ih.a b X [y] [a] G h5) (dn h2) (i8 hpl) h3 (ak hpl) rfl) λσ H Q q=>tW (λR vd c=>Jj R vd c) q
end
section
variable {T:Tab} {C:Calls} {ar:Nat->Nat} {k n:Nat} {b:Blk} {X:Cx}
theorem vV{op:BoolOp}{vs:List Expr}{p:Pos}{t:TT}(h:PT X (.BoolOp op vs p) t):PW X (.BoolOp op vs p) t:=λwhole pins s σ H Q I q=>h pins s σ H Q I q
theorem NL(ih:Snd T C ar k n)(e:Expr)(c:CE)(G:CtxOk T C ar k b X)(h:fc T (n+1) b e c=true):PT X e (tT X.K (evT C ar (n+1) c)):=by
 have hu:=rB G.room
 have dflt:evT C ar (n+1) c=DI (evE C ar n c)->(aN T n b e c && D2 e)=true->PT X e (tT X.K (evT C ar (n+1) c)):=λe1 hh=>by
  rw[e1];have hh:=an2 hh;exact PT.imp (yW (ih.e b X e c G hh.1) (lY hh.2)) λσ H Q q=>Jd q
 cases c with
 |cmp o a c'=>obtain⟨l,r,p,rfl,h2,h3,h4⟩:=pB h;exact PT.imp (oB (gI hu o) (ih.e b X l a G h2) (ih.e b X r c' G h3) (dm h4)) λσ H Q q=>oV (Nj q)
 |chn o p' a c' d=>obtain⟨l,r,s,p,rfl,h2,h3,h4,h5⟩:=AK h;exact PT.imp (yV (gI hu o) (gI hu p') (ih.e b X l a G h2) (ih.e b X r c' G h3) (ih.e b X s d G h4) (lX h5)) λσ H Q q=>Al (Nj q)
 |and a c'=>
  rcases D3 h with h |h
  ·obtain⟨x,y,p,rfl,h1,h2⟩:=lQ h;exact PT.imp (yK (ih.t b X x a G h1) (CO (ih.t b X y c' G h2))).pt λσ H Q q=>Ao q
  ·obtain⟨x,y,z,ys,p,rfl,h1,h2⟩:=lR h;exact PT.imp (yK (ih.t b X x a G h1) (vV (ih.t b X _ c' G h2))).pt λσ H Q q=>Ao q
 |or a c'=>
  rcases D3 h with h |h
  ·obtain⟨x,y,p,rfl,h1,h2⟩:=lQ h;exact PT.imp (uU (ih.t b X x a G h1) (yJ (ih.t b X y c' G h2))).pt λσ H Q q=>G4 q
  ·obtain⟨x,y,z,ys,p,rfl,h1,h2⟩:=lR h;exact PT.imp (uU (ih.t b X x a G h1) (vV (ih.t b X _ c' G h2))).pt λσ H Q q=>G4 q
 |not a=>obtain⟨x,p,rfl,h1⟩:=ue h;exact PT.imp (yL (ih.t b X x a G h1)) λσ H Q q=>Jw q
 |ite _ _ _=>cases h
 |_=>exact dflt rfl h
theorem snd:∀n,Snd T C ar k n
 |0=>⟨λb X e c _ h=>absurd h Zd,λb X e c _ _ h=>absurd h Zd,λb X e c _ h=>absurd h Zd,λb X e c _ h=>absurd h Zd,λB b X t e c _ h=>absurd h Zd,λb X e gs elt cls _ h=>absurd h Zd⟩
 |n+1=>⟨λb X e c G h=>NK (snd n) e c G h,λb X e c G ht h=>AV (snd n) e c G ht h,λb X es cs G h=>NI (snd n) es cs G h,λb X e c G h=>NL (snd n) e c G h,λB b X t e c G h=>NJ (snd n) B t e c G h,λb X e gs elt cls G h=>JI (snd n) e gs elt cls G h⟩
end
inductive CS where |asg (t:Tg)(e:CE) |setI (v o i:CE) |ex (e:CE) |ret (e:CE) |ifs (c:CE)(a b:List CS) |for_ (t:Tg)(it:CI)(b:List CS) |cnt |never
abbrev Ee:XS:=λ_ _=>none
mutual
noncomputable def evS(C:Calls)(ar:Nat->Nat):Nat->CS->XS
 |0,_=>Ee
 |n+1,s=>match s with
  |.asg t e=>lv (evE C ar n e) t
  |.setI v o i=>qV (evE C ar n v) (evE C ar n o) (evE C ar n i)
  |.ex e=>qU (evE C ar n e)
  |.ret e=>Ae (evE C ar n e)
  |.ifs c a b=>xIf (evT C ar n c) (fS C ar n a) (fS C ar n b)
  |.for_ t it b=>Af (evI C ar n it) t (fS C ar n b) LF
  |.cnt=>Nw
  |.never=>Ee
noncomputable def fS(C:Calls)(ar:Nat->Nat):Nat->List CS->XS
 |0,_=>Ee
 |n+1,ss=>match ss with
  |[]=>G1
  |s::ss=>t6 (evS C ar n s) (fS C ar n ss)
end
abbrev AW:Expr->Bool
 |.Starred _ _=>true
 |_=>false
abbrev gM(sc:Scope)(line:Nat)(ts:List Expr):List Str:=ts.filterMap λ
 |.Name id pos=>if sc.names.lookup id == some .local && pos.line == line then some id else none
 |_=>none
abbrev vW(sc:Scope)(ts vs:List Expr):Option (Option (List Str)):=
 if (!(ts.length == 2 || ts.length == 3) || vs.length != ts.length)=true then some none
 else if (vs.any AW)=true then some none
 else if ((gM sc ((ts.head?.map (·.pos.line)).getD 0) ts).length != ts.length || (gM sc ((ts.head?.map (·.pos.line)).getD 0) ts).eraseDups.length != (gM sc ((ts.head?.map (·.pos.line)).getD 0) ts).length)=true then some none
 else if (vs.all (foldedForSure 8))=true then some none
 else if (vs.all (constantsAlone 8))=true then none
 else some (some (gM sc ((ts.head?.map (·.pos.line)).getD 0) ts))
theorem NM{k k2:Nat}(hk:env.blockKind = .function)(hs:env.scope=sc)(h:vW sc ts vs=some r):Up [.Tuple ts k p] (.Tuple vs k2 p2) env=pure r:=by
 unfold vW at h;unfold Up
 have e1:(vs.any λ|.Starred ..=>true |_=>false)=vs.any AW:=by
  congr 1
 have e2:(ts.filterMap λ
   |.Name id pos=>if env.kindOf id == some .local && pos.line == ((ts.head?.map (·.pos.line)).getD 0) then some id else none
   | _=>none)=gM sc ((ts.head?.map (·.pos.line)).getD 0) ts:=by
  unfold gM Env.kindOf;rw[hs]
 have e3:(env.blockKind != .function)=false:=by rw[hk];rfl
 simp only[e3,Wb];split at h
 ·rename_i c1;rw[if_pos c1];cases h;rfl
 rename_i c1;rw[if_neg c1];split at h
 ·rename_i c2;cases h;exact if_pos (e1.trans c2)
 rename_i c2;refine Eq.trans (if_neg λz=>c2 (e1.symm.trans z)) ?_;split at h
 ·rename_i c3;cases h;rw[<-e2] at c3;exact if_pos c3
 rename_i c3;rw[<-e2] at c3 h;refine Eq.trans (if_neg c3) ?_;split at h
 ·rename_i c4;cases h;exact if_pos c4
 rename_i c4;refine Eq.trans (if_neg c4) ?_;split at h
 ·cases h
 rename_i c5;cases h;exact if_neg c5
abbrev ui:Expr->Option (Scope × Pos)
 |.ListComp _ _ s p=>some (s,p)
 |.SetComp _ _ s p=>some (s,p)
 |.DictComp _ _ _ s p=>some (s,p)
 |_=>none
abbrev swW(sc:Scope)(v:Expr)(t:Str)(pos:Pos):Bool:=match ui v with
 |none=>false
 |some (s,p)=>sc.names.lookup t == some .local && pos.line == p.line && !(s.names.any λy=>y.1 == t && (y.2 == .local || y.2 == .cell))
theorem AX{line:Nat}(hk:env.blockKind = .function)(hs:env.scope=sc):Uq v (some (.Name t pos)) line env=pure (swW sc v t pos):=by
 unfold Uq swW ui;have e3:(env.blockKind == .function)=true:=by rw[hk];rfl
 cases v <;> first |rfl |(simp only[e3,Y8,Env.kindOf,hs];rfl)
theorem rC{line:Nat}(h:∀x p,tg ≠ .Name x p):Ur [tg] v line env=pure false:=by
 show Uq v (some tg) line env=pure false;unfold Uq;cases v <;> first |rfl |(cases tg <;> first |rfl |(exact absurd rfl (h _ _)))
theorem kx(h:(∀es k p,v ≠ .Tuple es k p)\/(∃x p,tg = .Name x p)\/(∃o i p,tg = .Subscript o i p)):Up [tg] v env=pure none:=by
 unfold Up;rcases h with h |⟨x,p,rfl⟩ |⟨o,i,p,rfl⟩
 ·split
  ·rename_i e;split at e
   ·exact absurd rfl (h _ _ _)
   ·exact absurd rfl (h _ _ _)
   ·cases e
  ·rfl
 ·rfl
 ·rfl
abbrev nmL:List Expr->Option (List Str)
 |[]=>some []
 |e::es=>match Az e,nmL es with
  |some r,some xs=>some (r.1::xs)
  |_,_=>none
theorem fT(h:nmL es=some (x::xs)):∃p es',es = .Name x p::es'/\nmL es'=some xs:=by
 cases es with
 |nil=>cases h
 |cons e es=>
  rw[nmL] at h;split at h
  ·rename_i r ys h1 h2;cases h;exact⟨_,es,by rw[pf h1],h2⟩
  ·cases h
theorem vX(h:nmL es=some []):es=[]:=by
 cases es with
 |nil=>rfl
 |cons e es=>
  rw[nmL] at h;split at h <;> cases h
abbrev tgL:List Tg->Option (List Nat)
 |[]=>some []
 |.name i::ts=>match tgL ts with
  |some is=>some (i::is)
  |none=>none
 |.tup _::_=>none
theorem AY:∀ {ts:List Tg} {is:List Nat},tgL ts=some is->ts=is.map Tg.name
 |[],_,h=>by cases h;rfl
 |.name i::ts,is,h=>by
  rw[tgL] at h;cases e:tgL ts with
  |none=>rw[e] at h;cases h
  |some js=>rw[e] at h;cases h;rw[AY e];rfl
 |.tup _::_,_,h=>by cases h
abbrev NN(b:Blk)(ns:List Str)(is:List Nat):Bool:=match ns with
 | [x,y]=>(match is with
  |[i,j]=>b.N[i]? == some x && b.N[j]? == some y && i != j && b.sc.names.lookup x == some .local && b.sc.names.lookup y == some .local
  | _=>false)
 | [x,y,z]=>(match is with
  |[i,j,l]=>b.N[i]? == some x && b.N[j]? == some y && b.N[l]? == some z && i != j && i != l && j != l && b.sc.names.lookup x == some .local && b.sc.names.lookup y == some .local && b.sc.names.lookup z == some .local
  | _=>false)
 |_=>false
abbrev P6(e:Expr):Bool:=jy e λ_ _ _ _=>true
abbrev P7(e:Expr):Bool:=e.ctorIdx == 24
abbrev uj(T:Tab)(n:Nat)(b:Blk)(tg e:Expr)(t:Tg)(c:CE):Bool:=match t with
 | .name i=>(match Az tg with
  |some r=>aN T n b e c && b.N[i]? == some r.1 && b.own r.1 && (!(swW b.sc e r.1 r.2) || (P6 e && b.sc.names.lookup r.1 == some .local))
  | none=>false)
 | .tup gs=>(match xW tg with
  | some r=>aN T n b e c && (match xW e with
   | some q=>(match vW b.sc r.1 q.1 with
    |some none=>lP b r.1 gs
    | some (some ns)=>(match tgL gs with
     |some is=>nmL r.1 == some ns && q.1.length == ns.length && NN b ns is
     | none=>false)
    | none=>false)
   | none=>!(P7 e) && lP b r.1 gs)
  | none=>false)
abbrev vY(e:Stmt)(k:Option Expr->Pos->Bool):Bool:=if h:e.ctorIdx=3 then @Stmt.Return.elim (λ_=>Bool) e h k else false
theorem xZ(h:vY e k=true):∃x0 x1,e = .Return x0 x1/\k x0 x1=true:=by
 obtain⟨h1,h⟩:=bE h;exact Stmt.Return.elim (motive_2:=λe=>∀h',@Stmt.Return.elim (λ_=>Bool) e h' k=true->∃x0 x1,e = .Return x0 x1/\k x0 x1=true) e h1 (λx0 x1 _ hh=>⟨x0,x1,rfl,hh⟩) h1 h
abbrev pE(e:Stmt)(k:List Expr->Expr->Pos->Bool):Bool:=if h:e.ctorIdx=5 then @Stmt.Assign.elim (λ_=>Bool) e h k else false
theorem nS(h:pE e k=true):∃x0 x1 x2,e = .Assign x0 x1 x2/\k x0 x1 x2=true:=by
 obtain⟨h1,h⟩:=bE h;exact Stmt.Assign.elim (motive_2:=λe=>∀h',@Stmt.Assign.elim (λ_=>Bool) e h' k=true->∃x0 x1 x2,e = .Assign x0 x1 x2/\k x0 x1 x2=true) e h1 (λx0 x1 x2 _ hh=>⟨x0,x1,x2,rfl,hh⟩) h1 h
abbrev NP(e:Stmt)(k:Expr->Expr->List Stmt->List Stmt->Pos->Bool):Bool:=if h:e.ctorIdx=9 then @Stmt.For.elim (λ_=>Bool) e h k else false
theorem JM(h:NP e k=true):∃x0 x1 x2 x3 x4,e = .For x0 x1 x2 x3 x4/\k x0 x1 x2 x3 x4=true:=by
 obtain⟨h1,h⟩:=bE h;exact Stmt.For.elim (motive_2:=λe=>∀h',@Stmt.For.elim (λ_=>Bool) e h' k=true->∃x0 x1 x2 x3 x4,e = .For x0 x1 x2 x3 x4/\k x0 x1 x2 x3 x4=true) e h1 (λx0 x1 x2 x3 x4 _ hh=>⟨x0,x1,x2,x3,x4,rfl,hh⟩) h1 h
abbrev jIf(e:Stmt)(k:Expr->List Stmt->List Stmt->Pos->Bool):Bool:=if h:e.ctorIdx=12 then @Stmt.If.elim (λ_=>Bool) e h k else false
theorem NQ(h:jIf e k=true):∃x0 x1 x2 x3,e = .If x0 x1 x2 x3/\k x0 x1 x2 x3=true:=by
 obtain⟨h1,h⟩:=bE h;exact Stmt.If.elim (motive_2:=λe=>∀h',@Stmt.If.elim (λ_=>Bool) e h' k=true->∃x0 x1 x2 x3,e = .If x0 x1 x2 x3/\k x0 x1 x2 x3=true) e h1 (λx0 x1 x2 x3 _ hh=>⟨x0,x1,x2,x3,rfl,hh⟩) h1 h
abbrev Hd(e:Stmt)(k:Expr->Pos->Bool):Bool:=if h:e.ctorIdx=24 then @Stmt.Expr.elim (λ_=>Bool) e h k else false
theorem Ef(h:Hd e k=true):∃x0 x1,e = .Expr x0 x1/\k x0 x1=true:=by
 obtain⟨h1,h⟩:=bE h;exact Stmt.Expr.elim (motive_2:=λe=>∀h',@Stmt.Expr.elim (λ_=>Bool) e h' k=true->∃x0 x1,e = .Expr x0 x1/\k x0 x1=true) e h1 (λx0 x1 _ hh=>⟨x0,x1,rfl,hh⟩) h1 h
abbrev nT(e:Stmt)(k:Pos->Bool):Bool:=if h:e.ctorIdx=27 then @Stmt.Continue.elim (λ_=>Bool) e h k else false
theorem rD(h:nT e k=true):∃x0,e = .Continue x0/\k x0=true:=by
 obtain⟨h1,h⟩:=bE h;exact Stmt.Continue.elim (motive_2:=λe=>∀h',@Stmt.Continue.elim (λ_=>Bool) e h' k=true->∃x0,e = .Continue x0/\k x0=true) e h1 (λx0 _ hh=>⟨x0,rfl,hh⟩) h1 h
abbrev pF(e:Expr):Bool:=e.ctorIdx == 8 || e.ctorIdx == 9 || e.ctorIdx == 10
abbrev Eg(k:Expr->Expr->Bool)(s:Stmt):Bool:=pE s λts v _=>l1 ts λtg=>k tg v
abbrev He(k l m:Expr->Bool)(s:Stmt):Bool:=pE s λts z _=>l1 ts λtg=>dj tg λx y _=>k z && l x && m y && aM y
abbrev zEx(k:Expr->Bool)(s:Stmt):Bool:=Hd s λv _=>k v && !(pF v)
abbrev x6(k:Expr->Bool)(s:Stmt):Bool:=vY s λv _=>oA v k
abbrev zIf(k:Expr->Bool)(l m:List Stmt->Bool)(s:Stmt):Bool:=jIf s λt p q _=>k t && l p && m q
abbrev NR(k:Expr->Expr->Bool)(l:List Stmt->Bool)(s:Stmt):Bool:=NP s λtg i p q _=>q.isEmpty && k tg i && l p
abbrev NS(s:Stmt):Bool:=nT s λ_=>true
section
variable {s:Stmt} {k l m:Expr->Bool}
theorem uk{k:Expr->Expr->Bool}(h:Eg k s=true):∃tg v p,s = .Assign [tg] v p/\k tg v=true:=by
 obtain⟨ts,v,p,rfl,h⟩:=nS h;obtain⟨tg,rfl,h⟩:=cN h;exact⟨tg,v,p,rfl,h⟩
theorem Eh(h:He k l m s=true):∃x y q z p,s = .Assign [.Subscript x y q] z p/\k z=true/\l x=true/\m y=true/\aM y=true:=by
 obtain⟨ts,v,p,rfl,h⟩:=nS h;obtain⟨tg,rfl,h⟩:=cN h;obtain⟨x,y,q,rfl,h⟩:=cY h;exact⟨x,y,q,v,p,rfl,an4 h⟩
theorem Hf(h:zEx k s=true):∃v p,s = .Expr v p/\k v=true/\pF v=false:=by
 obtain⟨v,p,rfl,h⟩:=Ef h;obtain⟨h1,h2⟩:=an2 h;exact⟨v,p,rfl,h1,by cases e:pF v;rfl;rw[e] at h2;cases h2⟩
theorem md(h:x6 k s=true):∃v p,s = .Return (some v) p/\k v=true:=by
 obtain⟨v,p,rfl,h⟩:=xZ h;obtain⟨v,rfl,h⟩:=lK h;exact⟨v,p,rfl,h⟩
theorem AZ{l m:List Stmt->Bool}(h:zIf k l m s=true):∃t p q r,s = .If t p q r/\k t=true/\l p=true/\m q=true:=by
 obtain⟨t,p,q,r,rfl,h⟩:=NQ h;exact⟨t,p,q,r,rfl,an3 h⟩
theorem JN{k:Expr->Expr->Bool}{l:List Stmt->Bool}(h:NR k l s=true):∃tg i p q,s = .For tg i p [] q/\k tg i=true/\l p=true:=by
 obtain⟨tg,i,p,q,r,rfl,h⟩:=JM h;obtain⟨h1,z0⟩:=an3 h;cases cA h1;exact⟨tg,i,p,r,rfl,z0⟩
theorem JO(h:NS s=true):∃p,s = .Continue p:=by obtain⟨p,rfl,_⟩:=rD h;exact⟨p,rfl⟩
end
mutual
noncomputable def JP(T:Tab):Nat->Blk->Stmt->CS->Bool
 |0,_,_,_=>false
 |n+1,b,s,c=>match c with
  |.asg t e=>Eg (λtg v=>uj T n b tg v t e) s
  |.setI v o i=>He (λx=>aN T n b x v) (λx=>aN T n b x o) (λx=>aN T n b x i) s
  |.ex e=>zEx (λx=>aN T n b x e) s
  |.ret e=>x6 (λx=>aN T n b x e) s
  |.ifs c x y=>zIf (λe=>fc T n b e c) (λp=>nU T n b p x) (λp=>nU T n b p y) s
  |.for_ t it x=>NR (λtg i=>rf T n b tg i it && ua b tg t) (λp=>nU T n b p x) s
  |.cnt=>NS s
  |.never=>true
noncomputable def nU(T:Tab):Nat->Blk->List Stmt->List CS->Bool
 |0,_,_,_=>false
 |n+1,b,ss,cs=>match cs with
  |[]=>ss.isEmpty
  |c::cs=>lC ss λs ss=>JP T n b s c && nU T n b ss cs
end
section
variable {T:Tab} {C:Calls} {ar:Nat->Nat} {k n:Nat} {b:Blk} {X:Cx}
theorem Ei{k':Nat}(h:aN T (n+1) b (.Tuple es k' p) (.tup cs)=true):fb T n b es cs=true:=h
theorem A0{k':Nat}(h:aN T (n+1) b (.Tuple es k' p) c=true):∃cs,c = .tup cs:=by
 cases c with
 |tup cs=>exact⟨cs,rfl⟩
 |comp own elt cls=>
  cases cls with
  |nil=>exact absurd h Zd
  |cons g rest=>obtain⟨tg,it,cond⟩:=g;exact absurd h Zd
 |_=>exact absurd h Zd
theorem ig:∀ (ts:List Tg) (ds:List D) (ρ ρ':Rho),aP ts ds ρ=some ρ'->ts.length=ds.length
 |[],[],_,_,_=>rfl
 |[],_::_,_,_,e=>by simp[aP] at e
 |_::_,[],_,_,e=>by simp[aP] at e
 |t::ts,d::ds,ρ,ρ',e=>by
  simp only[aP] at e;split at e
  ·simp[ig _ _ _ _ e]
  ·cases e
theorem rE{K:Vf}{x:XA}{ts:List Tg}{D:Ends}{σ:L2.St}{H:Hp}(h:tSt K (lv (j9 ka x) (.tup ts)) D σ H):tAr K x σ H λvs H1=>∃m1 ρ ρ' ds,EnvR K m1 H1 ρ σ/\VDs K m1 H1 ds vs/\aP ts ds ρ=some ρ'/\∀σ',EnvR K m1 H1 ρ' σ'->D.nx σ' H1:=by
 obtain⟨m,ρ,S,fl,ρ',S',E,R,e,q⟩:=h;unfold lv at e;cases hx:j9 ka x ρ S with
 |none=>rw[hx] at e;cases e
 |some r=>
  rw[hx] at e;obtain⟨ds,S1,e1,e2⟩:=ae hx;unfold ka at e2;split at e2
  ·cases e2;dsimp only at e;simp only[aB] at e;cases hb:aP ts ds ρ with
   |none=>rw[hb] at e;cases e
   |some ρ1=>
    rw[hb] at e;cases e;exact⟨m,ρ,S,ds,_,E,R,e1,λm1 H1 vs A1 vd=>⟨m1,ρ,_,ds,E.mono R A1.ext,vd,hb,λσ' E'=>q m1 H1 A1 σ' E'⟩⟩
  ·cases e2
theorem rF{K:Vf}{x:XA}{σ:L2.St}{H:Hp}{Q Q':List V->Hp->Prop}(h:tAr K x σ H Q)(f:∀v H',Q v H'->Q' v H'):tAr K x σ H Q':=by
 obtain⟨m,ρ,S,d,S',E,R,e,q⟩:=h;exact⟨m,ρ,S,d,S',E,R,e,λm' H' v A vd=>f _ _ (q m' H' v A vd)⟩
theorem mf{ρ ρ':Rho}{i:Nat}{d:D}(h:(if i < ρ.length then some (ρ.set i (some d)) else none)=some ρ'):ρ'=ρ.set i (some d):=by
 split at h
 ·cases h;rfl
 ·cases h
theorem Ej{K:Vf}{x:XA}{i j:Nat}{D:Ends}{σ:L2.St}{H:Hp}(h:tSt K (lv (j9 ka x) (.tup [.name i,.name j])) D σ H):MO i j (tAr K x) D σ H:=by
 refine rF (rE h) λvs H1 ⟨m1,ρ,ρ',ds,E,vd,e,q⟩=>?_;have hl:=ig _ _ _ _ e
 match ds,hl with
 |[a,c],_=>
  obtain⟨v,w,rfl,va,vc⟩:=zQ vd;refine⟨v,w,rfl,q _ ?_⟩;simp only[aP,aB] at e;split at e
  ·rename_i r1 h1;have:=mf h1;subst this;split at e
   ·rename_i r2 h2;have:=mf h2;subst this;cases e;exact(E.set va).set vc
   ·cases e
  ·cases e
theorem P8{K:Vf}{m:List Addr}{H:Hp}{a b c:D}{vs:List V}(h:VDs K m H [a,b,c] vs):∃v w z,vs=[v,w,z]/\VD K m H a v/\VD K m H b w/\VD K m H c z:=by
 rw[VDs] at h;obtain⟨v,r,rfl,p,q⟩:=h;obtain⟨w,z,rfl,p',q'⟩:=zQ q;exact⟨v,w,z,rfl,p,p',q'⟩
theorem Ek{K:Vf}{x:XA}{i j l:Nat}{D:Ends}{σ:L2.St}{H:Hp}(h:tSt K (lv (j9 ka x) (.tup [.name i,.name j,.name l])) D σ H):GW i j l (tAr K x) D σ H:=by
 refine rF (rE h) λvs H1 ⟨m1,ρ,ρ',ds,E,vd,e,q⟩=>?_;have hl:=ig _ _ _ _ e
 match ds,hl with
 |[a,c,d],_=>
  obtain⟨v,w,z,rfl,va,vc,vd'⟩:=P8 vd;refine⟨v,w,z,rfl,q _ ?_⟩;simp only[aP,aB] at e;split at e
  ·rename_i r1 h1;have:=mf h1;subst this;split at e
   ·rename_i r2 h2;have:=mf h2;subst this;split at e
    ·rename_i r3 h3;have:=mf h3;subst this;cases e;exact((E.set va).set vc).set vd'
    ·cases e
   ·cases e
  ·cases e
theorem A6(h:aN T (n+1) b (.ListComp e gs scope p) c=true):∃own elt tg it cond rest t i ifs gs',c = .comp own elt (⟨tg,it,cond⟩::rest)/\gs=⟨t,i,ifs,0⟩::gs' ∧
  cmB own (lJ own b.N) b.N scope b.sc=true/\rf T n b t i it=true/\ua (b.inner own scope) t tg=true/\AM (fc T n (b.inner own scope)) ifs cond=true/\nK T n (b.inner own scope) e gs' elt rest=true:=by
 cases c with
 |comp own elt cls=>
  ·obtain⟨tg,it,cond,rest,rfl,hc⟩:=Hc h;obtain⟨el,t,i,ifs,gs',scope',p',he,hh⟩:=vS hc;cases he;obtain⟨h0,h1,h2,h3,h4⟩:=an5 hh;exact⟨own,elt,tg,it,cond,rest,t,i,ifs,gs',rfl,rfl,h0,h1,h2,h3,h4⟩
 |_=>exact absurd h Zd
end
section
variable {T:Tab} {C:Calls} {ar:Nat->Nat} {k n:Nat} {b:Blk} {X:Cx}
theorem vZ(h:X.env.scope.kind = .function):X.env.blockKind = .function:=by
 unfold Env.blockKind;rw[h];rfl
theorem El{α:Type}{l:List α}(h:l.length=2):∃a b,l=[a,b]:=by
 match l,h with
 |[a,b],_=>exact⟨a,b,rfl⟩
theorem x9{α:Type}{l:List α}(h:l.length=3):∃a b c,l=[a,b,c]:=by
 match l,h with
 |[a,b,c],_=>exact⟨a,b,c,rfl⟩
theorem JQ(G:CtxOk T C ar k b X)(hk:X.env.scope.kind = .function){tg e:Expr}{t:Tg}{c:CE}{p:Pos}(h:uj T n b tg e t c=true):PS X (.Assign [tg] e p) (tSt X.K (lv (evE C ar n c) t)):=by
 have hb:=vZ hk;unfold uj at h;cases t with
 |name i=>
  dsimp only at h;cases hx:Az tg with
  |none=>rw[hx] at h;cases h
  |some r=>
  obtain⟨x,px⟩:=r;rw[hx] at h;rw[pf hx];simp only[bAE] at h;obtain⟨⟨⟨h1,h2⟩,h3⟩,h4⟩:=h;have hi:X.N[i]?=some x:=by rw[G.hN];simpa using h2
  have nd:X.N.Nodup:=by rw[G.hN];exact G.nd
  have o:=G.own h3;have sw:=AX (sc:=b.sc) (v:=e) (t:=x) (pos:=px) (line:=p.line) hb G.hs;cases hw:swW b.sc e x px with
  |false=>
   rw[hw] at sw;exact PS.imp (HW nd hi o.1 ((snd n).e b X e c G h1) sw o.2) λD σ H q=>pD (t7 q) λv H' z=>o8 z
  |true=>
   rw[hw] at h4 sw;simp only[Bool.not_true,Bool.false_or,bAE] at h4;obtain⟨h5,h4⟩:=h4;obtain⟨el,gs,scope,pp,rfl,_⟩:=jR h5
   ·cases n with
    |zero=>exact absurd h1 Zd
    |succ n=>
     obtain⟨own,elt,tg',it,cond,rest,tt,ii,ifs,gs',rfl,rfl,c0,c1,c2,c3,c4⟩:=A6 h1;have S:CmScope own (lJ own b.N) b.N scope b.sc:=zu _ c0;have S':CmScope own (lJ own b.N) X.N scope X.env.scope:=by rw[G.hN,G.hs];exact S
     have hpl:=gJ c1 (λe he env=>fe he) X.env;have hx:X.env.scope.names.lookup x=some .local:=by rw[G.hs];simpa using h4
     refine PS.imp (Di (g:=tTg X.K tg') (ti:=ifT C ar n X.K cond) (t:=λacc=>tCl X.K acc (gX C ar n elt rest)) G.calm S' nd hi hx ((snd n).i [] b X tt ii it G c1) (λC' ex s H=>gK (G.inner S (C':=C') (ex:=ex) (s:=s) (H:=H)) c2) (λC' ex s H=>ma (snd n) (G.inner S (C':=C') (ex:=ex) (s:=s) (H:=H)) c3)
      (λC' ex s H acc=>(snd n).cl _ _ el gs' elt rest (G.inner S (C':=C') (ex:=ex) (s:=s) (H:=H)) c4 _ scope pp acc 0 rfl) sw hpl) λD σ H q=>?_
     exact vN (λacc D σ H z=>ug z) (qG (pD (t7 q) λv H' z=>o8 z))
 |tup gs=>
  dsimp only at h;cases hx:xW tg with
  |none=>rw[hx] at h;cases h
  |some r=>
  obtain⟨ts,kt,pt⟩:=r;rw[hx] at h;rw[pj hx];simp only[bAE] at h;obtain⟨h1,h3⟩:=h;have so:Ur [.Tuple ts kt pt] e p.line X.env=pure false:=rC λx p z=>nomatch z
  have plain:∀ (hw:Up [.Tuple ts kt pt] e X.env=pure none) (hg:lP b ts gs=true),PS X (.Assign [.Tuple ts kt pt] e p) (tSt X.K (lv (evE C ar n c) (.tup gs))):=λhw hg=>
   PS.imp (oz ((snd n).e b X e c G h1) (gK G (e:=.Tuple ts kt pt) (t:=.tup gs) hg) so hw rfl) λD σ H q=>t7 q
  cases hy:xW e with
  |none=>
   rw[hy] at h3;simp only[bAE] at h3;exact plain (kx (.inl λes k p z=>by rw[z] at hy;cases hy)) h3.2
  |some q=>
   obtain⟨es,ke,pe⟩:=q;rw[hy] at h3;obtain rfl:=pj hy;cases n with
   |zero=>exact absurd h1 Zd
   |succ n=>
    obtain⟨cs,rfl⟩:=A0 h1;have ha:=Ei h1;dsimp only at h3;cases hr:vW b.sc ts es with
    |none=>rw[hr] at h3;cases h3
    |some w=>
     have hw:=NM (k:=kt) (p:=pt) (k2:=ke) (p2:=pe) hb G.hs hr;rw[hr] at h3;cases w with
     |none=>exact plain hw h3
     |some ns=>
      dsimp only at h3;cases ht:tgL gs with
      |none=>rw[ht] at h3;cases h3
      |some is=>
       rw[ht] at h3;simp only[bAE] at h3;obtain⟨⟨hn0,hl0⟩,h3⟩:=h3;have hn:nmL ts=some ns:=by simpa using hn0
       have hl:es.length=ns.length:=by simpa using hl0
       clear hn0 hl0;obtain rfl:=AY ht;unfold NN at h3;split at h3
       ·rename_i x y;split at h3
        ·rename_i i j;obtain⟨p1,t1,rfl,hn1⟩:=fT hn;obtain⟨p2,t2,rfl,hn2⟩:=fT hn1;obtain rfl:=vX hn2;obtain⟨a1,a2,rfl⟩:=El hl;simp only[bAE] at h3;obtain⟨⟨⟨⟨q2,q3⟩,q4⟩,q5⟩,q6⟩:=h3;exact PS.imp (HX (i:=i) (j:=j) G.calm (by rw[G.hN];exact G.nd) (by rw[G.hN];simpa using q2) (by rw[G.hN];simpa using q3) (by simpa using q4) (by rw[G.hs];simpa using q5) (by rw[G.hs];simpa using q6) ((snd n).a b X _ cs G ha) hw so) λD σ H q=>Ej q
        ·cases h3
       ·rename_i x y z;split at h3
        ·rename_i i j l;obtain⟨p1,t1,rfl,hn1⟩:=fT hn;obtain⟨p2,t2,rfl,hn2⟩:=fT hn1;obtain⟨p3,t3,rfl,hn3⟩:=fT hn2;obtain rfl:=vX hn3;obtain⟨a1,a2,a3,rfl⟩:=x9 hl;simp only[bAE] at h3;obtain⟨⟨⟨⟨⟨⟨⟨⟨q2,q3⟩,q3'⟩,q4⟩,q4'⟩,q4''⟩,q5⟩,q6⟩,q7⟩:=h3;exact PS.imp (Dq (i:=i) (j:=j) (k:=l) G.calm (by rw[G.hN];exact G.nd) (by rw[G.hN];simpa using q2) (by rw[G.hN];simpa using q3) (by rw[G.hN];simpa using q3') (by simpa using q4) (by simpa using q4') (by simpa using q4'') (by rw[G.hs];simpa using q5) (by rw[G.hs];simpa using q6) (by rw[G.hs];simpa using q7) ((snd n).a b X _ cs G ha) hw so) λD σ H q=>Ek q
        ·cases h3
       ·cases h3
theorem rG{line:Nat}(h:pF v=false):Uq v none line X.env=pure false:=by
 unfold Uq;cases v <;> first |rfl |(exact absurd h (λz=>Zd z.symm))
structure SndS(T:Tab)(C:Calls)(ar:Nat->Nat)(k n:Nat):Prop where
 s:∀ (b:Blk) (X:Cx) (s:Stmt) (c:CS),CtxOk T C ar k b X->X.env.scope.kind = .function->JP T n b s c=true->PS X s (tSt X.K (evS C ar n c))
 ss:∀ (b:Blk) (X:Cx) (s:List Stmt) (c:List CS),CtxOk T C ar k b X->X.env.scope.kind = .function->nU T n b s c=true->PSs X s (tSt X.K (fS C ar n c))
theorem NT{K:Vf}{D:Ends}{σ:L2.St}{H:Hp}(h:tSt K Ee D σ H):False:=by
 obtain⟨m,ρ,S,fl,ρ',S',E,R,e,q⟩:=h;cases e
theorem JR:∀n,SndS T C ar k n
 |0=>⟨λb X s c _ _ h=>absurd h Zd,λb X s c _ _ h=>absurd h Zd⟩
 |n+1=>by
  have ih:=JR n;refine⟨λb X s c G hk h=>?_,λb X ss cs G hk h=>?_⟩
  ·have hp:PassesOwn (model X.prog X.w) X.A X.env X.xe:=by rw[G.xe];exact PassesOwn.never
   cases c with
   |asg t e=>obtain⟨tg,v,p,rfl,h1⟩:=uk h;exact JQ G hk h1
   |setI v o i=>
    obtain⟨x,y,px,z,p,rfl,h1,h2,h3,pl⟩:=Eh h
    exact PS.imp (oz ((snd n).e b X z v G h1) (HV ((snd n).e b X x o G h2) ((snd n).e b X y i G h3) Np (λv=>by
     cases y <;> first | rfl | (exact absurd pl Zd))) (rC λx p z=>nomatch z) (kx (.inr (.inr ⟨_,_,_,rfl⟩))) rfl) λD σ H q=>DV q
   |ex e=>obtain⟨v,p,rfl,h1,h2⟩:=Hf h;exact PS.imp (uV ((snd n).e b X v e G h1) (rG h2)) λD σ H q=>DU q
   |ret e=>obtain⟨v,p,rfl,h1⟩:=md h;exact PS.imp (sH ((snd n).e b X _ _ G h1)) λD σ H q=>Jn q
   |ifs c x y=>obtain⟨t,p,q,r,rfl,h1,h2,h3⟩:=AZ h;exact PS.imp (uW ((snd n).t b X _ _ G h1) (ih.ss b X _ _ G hk h2) (ih.ss b X _ _ G hk h3)) λD σ H q=>Nx q
   |for_ t it x=>
    obtain⟨tg,i,p,pos,rfl,h1,h2⟩:=JN h;have h1:=an2 h1;exact PS.imp (HZ hp G.calm ((snd n).i [] b X _ _ _ G h1.1) (gK G h1.2) (ih.ss b X _ _ G hk h2) (gJ h1.1 (λe he env=>fe he) X.env)) λD σ H q=>Jp q
   |cnt=>obtain⟨p,rfl⟩:=JO h;exact PS.imp qg λD σ H q=>Jo q
   |never=>exact PS.imp qh λD σ H q=>(NT q).elim
  ·cases cs with
   |nil=>rw[cA h];exact PSs.imp iK λD σ H q=>DT q
   |cons c cs=>
    obtain⟨s,ss,rfl,h⟩:=cf h;have h:=an2 h;exact PSs.imp (bL (ih.s b X s c G hk h.1) (ih.ss b X ss cs G hk h.2)) λD σ H q=>Jm q
end
abbrev wIs(b:Blk)(x:Str)(e:Expr):Bool:=pw b "isinstance" (fR λy=>b.N[0]? == some y && b.vis y) (fR λy=>y == x && b.glo y) e
abbrev ya(k:Str->Expr->Bool):List Str->List Expr->Bool
 |[],es=>es.isEmpty
 |x::xs,es=>lC es λe es=>aM e && k x e && ya k xs es
abbrev wV(b:Blk)(i:Nat)(e:Expr):Bool:=fR (λy=>b.N[i]? == some y && b.vis y) e
abbrev wTg(b:Blk)(i:Nat)(e:Expr):Bool:=fR (λy=>b.N[i]? == some y && b.own y) e
abbrev wMt(b:Blk)(m:Str)(e:Expr):Bool:=AF m (wV b 1) (λes=>l1 es λe=>sBl true e) e
abbrev v0(b:Blk)(cs:List Str)(s:Stmt):Bool:=Eg (λtg v=>wTg b 1 tg && Jy .Add (wV b 1) (AB (ya (wIs b) cs)) v) s
abbrev NU(b:Blk)(cs:List Str)(s:Stmt):Bool:=Eg (λtg v=>wTg b 1 tg && AB (ya (wIs b) cs) v) s
abbrev NV(b:Blk)(s:Stmt):Bool:=zIf (xY .Or (AC .NotEq (wMt b "count") (ub 1)) (xX .Or (D4 (wIs b "ValueError")) (AC .Gt (wMt b "index") (ub 1)))) (λss=>l1 ss λs=>x6 (AA "other") s) (λss=>ss.isEmpty) s
abbrev NX(b:Blk)(ws:List Str)(s:Stmt):Bool:=x6 (sIx (AB (ya AA ws)) (wMt b "index")) s
abbrev ul(b:Blk)(cs ws:List Str)(ss:List Stmt):Bool:=
 hZ b.N && b.N.length == 2 && b.glo "isinstance" && lC ss λs1 ss=>lC ss λs2 ss=>lC ss λs3 ss=>lC ss λs4 ss=>lC ss λs5 ss=>l1 ss λs6=>
  NU b (cs.take 4) s1 && v0 b ((cs.drop 4).take 4) s2 && v0 b ((cs.drop 8).take 4) s3 && v0 b (cs.drop 12) s4 && NV b s5 && NX b ws s6
def kg(H H2:Hp):Prop:=∀p o,H p=some o->H2 p=some o
theorem kg.upd(h:H p=none):kg H (L2.upd H p o):=λq u e=>by rw[az (aU e h)];exact e
theorem kg.trans(a:kg H H1)(b:kg H1 H2):kg H H2:=λp o e=>b p o (a p o e)
section
variable {X:Cx}
theorem yb:MtR X "list.count" (λx vs H Q=>∃l xs y,x = .ref l/\vs=[y]/\H l=some (.lst xs)/\bS y=true/\xs.all bS=true/\Q (.int ((xs.countP λz=>eqV z y:Nat):Int)) H):=by
 intro pins s σ H x vs v us Q I rx rv h;obtain⟨p,xs,y,rfl,rfl,hq,fy,fs,q⟩:=h;cases rx;obtain⟨u,rfl,ru⟩:=rv.one;obtain⟨_,its,n,r,e⟩:=I.hok p _ hq;refine VM WH ⟨_,e,rfl⟩ PySem.F.entry_list_count (PySem.F.args_list_count_2 _ _) (SeqAt.list_countAt p its.toArray n none #[] u (eqU y)) ⟨e,λw hw=>cy ru fy r fs w (by simpa using hw),?_⟩;refine⟨.int _,H,I.tok _,⟨_,rfl⟩,?_⟩
 have z:(its.toArray.toList.countP (eqU y))=xs.countP λz=>eqV z y:=by
  rw[Xu];exact ia r fs
 rw[z];exact q
theorem yc:MtR X "list.index" (λx vs H Q=>∃l xs y,∃j:Nat,∃z,x = .ref l/\vs=[y]/\H l=some (.lst xs)/\bS y=true/\xs.all bS=true/\j < 100/\xs[j]?=some z/\eqV z y=true/\(∀ (m:Nat) z,m < j->xs[m]?=some z->eqV z y=false)/\Q (.int (j:Int)) H):=by
 intro pins s σ H x vs v us Q I rx rv h;obtain⟨p,xs,y,j,z,rfl,rfl,hq,fy,fs,hj,hz,hit,hno,q⟩:=h;cases rx;obtain⟨u,rfl,ru⟩:=rv.one;obtain⟨_,its,n,r,e⟩:=I.hok p _ hq
 have at_:∀m (hm:m < its.toArray.size),∃w,xs[m]?=some w/\eqU y its.toArray[m]=eqV w y:=λm hm=>by
  have hm':m < xs.length:=by rw[r.length];simpa using hm
  obtain⟨u',hu,rr⟩:=r.get (i:=m) (gEG hm');refine⟨xs[m],gEG hm',?_⟩
  have e1:its.toArray[m]=u':=by
   have:=Zb.mp hu;obtain⟨_,z⟩:=this
   simpa using z
  rw[e1];exact oI rr (ZD.mp fs _ (ZM hm'))
 have hjs:j < its.toArray.size:=by have:=(Zb.mp hz).1;rw[r.length] at this;simpa using this
 refine VM WI ⟨_,e,rfl⟩ PySem.F.entry_list_index (PySem.F.args_list_index_2 _ _) (SeqAt.list_indexAt p its.toArray n none #[] u (eqU y) j hjs (by lia) ?_ ?_) ⟨e,λw hw=>cy ru fy r fs w (by simpa using hw),?_⟩
 ·obtain⟨w,hw,e1⟩:=at_ j hjs;rw[hz] at hw;cases hw;rw[e1];exact hit
 ·intro m hm hlt;obtain⟨w,hw,e1⟩:=at_ m hm;rw[e1];exact hno m w hlt hw
 ·exact⟨.int _,H,I.tok _,⟨_,rfl⟩,q⟩
end
section
variable {X:Cx} {b:Blk} {a C R:Addr}
theorem rH(hs:X.env.scope=b.sc)(h:b.glo x=true):Gl X x/\(x == ("__debug__" : Str))=false:=by
 unfold Blk.glo at h;rw[bAE] at h;refine⟨?_,by simpa using h.2⟩;show X.env.scope.names.lookup x=_;rw[hs]
 simpa using h.1
theorem rJ(hs:X.env.scope=b.sc)(hN:X.N=b.N){i:Nat}(h:wV b i e=true):PE X e (CN i):=by
 obtain⟨x,p,rfl,hh⟩:=cu h;obtain⟨h1,h2⟩:=an2 hh;unfold Blk.vis at h2;rw[bAE,bAE] at h2;refine ou (i:=i) (by rw[hN];exact eq_of_beq h1) ?_ (by simpa using h2.1.2) (by simpa using h2.2);unfold Vis;rw[hs];have h3:=h2.1.1;split at h3
 ·rename_i e;exact .inl e
 ·rename_i e;exact .inr (.inl e)
 ·rename_i e;exact .inr (.inr e)
 ·cases h3
theorem A7(hC:bv X.base C (.ref R::bmV))(hR:bv X.base R bmV):aX X (.builtin "isinstance") (λxs H Q=>∃D,xs=[.ref a,.ref D]/\H a=some (exO a C)/\nP X.base D/\D ≠ R/\Q (.bl (C == D)) H):=by
 intro pins s σ H xs us Q I rs h;obtain⟨D,rfl,ha,⟨dd,cd,sl,hD⟩,hr,q⟩:=h;cases rs with
 |cons r1 rs=>
  cases rs with
  |cons r2 rs=>
   cases rs;cases r1;cases r2;exact isx (hC.keeps I.bk) (hR.keeps I.bk) (I.hok a _ ha).1 ⟨dd,cd,sl,I.bk _ _ hD⟩ hr λtk=>⟨.bl _,H,I.tok _,rfl,q⟩
theorem A8(hC:bv X.base C (.ref R::bmV))(hR:bv X.base R bmV):aX X (.builtin "isinstance") (λxs H Q=>xs=[.ref a,.ty "ValueError"]/\H a=some (exO a C)/\Q (.bl true) H):=by
 intro pins s σ H xs us Q I rs h;obtain⟨rfl,ha,q⟩:=h;cases rs with
 |cons r1 rs=>
  cases rs with
  |cons r2 rs=>
   cases rs;cases r1;cases r2;exact isv (hC.keeps I.bk) (hR.keeps I.bk) (I.hok a _ ha).1 λtk=>⟨.bl _,H,I.tok _,rfl,q⟩
theorem P9(hs:X.env.scope=b.sc)(hN:X.N=b.N)(hb:X.mg "isinstance" = none)(hC:bv X.base C (.ref R::bmV))(hR:bv X.base R bmV){x:Str}{D:Addr}{e:Expr}(hm:X.mg x=some (.ref D))(h:wIs b x e=true) :
  PE X e (λσ H Q=>σ[0]?=some (some (.ref a))/\H a=some (exO a C)/\nP X.base D/\D ≠ R/\Q (.bl (C == D)) H):=by
 obtain⟨x1,y,p,p',rfl,h2,h5,h6,h7,_⟩:=eM h;obtain⟨y,p'',rfl,h8⟩:=cu h7;obtain⟨h3,h4⟩:=an2 h8;have hy:=eq_of_beq h3;subst hy;exact PE.imp (eG (A7 (a:=a) hC hR) (rH hs h2).1 hb Wm (cE (rJ hs hN h5) (bF (uT (v:=.ref D) (rH hs h4).1 hm rfl (rH hs h4).2) rfl) h6) (by decide) (rH hs h2).2 (ak h6) rfl) λσ H Q q=>⟨_,q.1,D,rfl,q.2.1,q.2.2.1,q.2.2.2.1,q.2.2.2.2⟩
theorem NY(hs:X.env.scope=b.sc)(hN:X.N=b.N)(hb:X.mg "isinstance" = none)(hv:X.mg "ValueError" = none)(hC:bv X.base C (.ref R::bmV))(hR:bv X.base R bmV)(h:wIs b "ValueError" e=true) :
  PE X e (λσ H Q=>σ[0]?=some (some (.ref a))/\H a=some (exO a C)/\Q (.bl true) H):=by
 obtain⟨x1,y,p,p',rfl,h2,h5,h6,h7,_⟩:=eM h;obtain⟨y,p'',rfl,h8⟩:=cu h7;obtain⟨h3,h4⟩:=an2 h8;have hy:=eq_of_beq h3;subst hy;exact PE.imp (eG (A8 (a:=a) hC hR) (rH hs h2).1 hb Wm (cE (rJ hs hN h5) (bF (gy (v:=.ty "ValueError") (rH hs h4).1 hv PyProof.Rows.Boot.«ValueError» rfl (by decide) (rH hs h4).2) rfl) h6) (by decide) (rH hs h2).2 (ak h6) rfl) λσ H Q q=>⟨_,q.1,rfl,q.2.1,q.2.2⟩
inductive Cls2(X:Cx)(R:Addr):List Str->List Addr->Prop
 |nil:Cls2 X R [] []
 |cons {x:Str} {D:Addr} {xs:List Str} {Ds:List Addr}:X.mg x=some (.ref D)->nP X.base D->D ≠ R->Cls2 X R xs Ds->Cls2 X R (x::xs) (D::Ds)
theorem A9(hs:X.env.scope=b.sc)(hN:X.N=b.N)(hb:X.mg "isinstance" = none)(hC:bv X.base C (.ref R::bmV))(hR:bv X.base R bmV):∀ {cs:List Str} {Ds:List Addr} {es:List Expr},Cls2 X R cs Ds->ya (wIs b) cs es=true ->
  PA X es (λσ H Q=>σ[0]?=some (some (.ref a))/\H a=some (exO a C)/\Q (Ds.map λD=>.bl (C == D)) H)
 |_,_,es,.nil,h=>by rw[cA h];exact PA.imp oC λσ H Q q=>q.2.2
 |_,_,es,.cons h1 h2 h3 t,h=>by
  obtain⟨e,es,rfl,h⟩:=cf h;obtain⟨p1,p2,p3⟩:=an3 h;exact PA.imp (cE (P9 hs hN hb hC hR h1 p2) (A9 hs hN hb hC hR t p3) p1) λσ H Q q=>⟨q.1,q.2.1,h2,h3,q.1,q.2.1,q.2.2⟩
theorem Ba:∀ {ws:List Str} {es:List Expr},ya AA ws es=true->PA X es (λσ H Q=>Q (ws.map V.str) H)
 |[],es,h=>by rw[cA h];exact PA.imp oC λσ H Q q=>q
 |w::ws,es,h=>by
  obtain⟨e,es,rfl,h⟩:=cf h;obtain⟨p1,p2,p3⟩:=an3 h;obtain⟨_,_,rfl⟩:=ud p2;exact PA.imp (cE ow (Ba p3) p1) λσ H Q q=>q
theorem NZ(hs:X.env.scope=b.sc)(hN:X.N=b.N)(hf:X.fn=λ_=>true)(hnd:b.N.Nodup){i:Nat}(h:wTg b i e=true):∃x p,e = .Name x p/\PG X e (m9 i):=by
 obtain⟨x,p,rfl,hh⟩:=cu h;obtain⟨h1,h2⟩:=an2 hh;refine⟨x,p,rfl,uX (by rw[hN];exact hnd) (by rw[hN];exact eq_of_beq h1) ?_ (.inl (by rw[hf]))⟩;unfold Blk.own at h2;unfold L2.Loc;rw[hs];split at h2
 ·rename_i e;exact .inl e
 ·rename_i e;exact .inr e
 ·cases h2
theorem Bb{line:Nat}(hk:X.env.blockKind = .function)(hs:X.env.scope=b.sc)(h:ui e=none):Ur [.Name x p] e line X.env=pure false:=by
 have z:=AX (sc:=b.sc) (v:=e) (t:=x) (pos:=p) (line:=line) hk hs;unfold swW at z;rw[h] at z;exact z
def yd(a C:Addr)(σ:L2.St)(H:Hp):Prop:=σ.length=2/\σ[0]?=some (some (.ref a))/\H a=some (exO a C)
theorem i9{i:Nat}(x:yd a C σ H)(hi:i ≠ 0)(e:kg H H2):yd a C (σ.set i (some v)) H2:=⟨by simpa using x.1,by rw[Zo hi];exact x.2.1,e _ _ x.2.2⟩
variable (hk:X.env.blockKind = .function) (hs:X.env.scope=b.sc) (hN:X.N=b.N) (hf:X.fn=λ_=>true) (hnd:b.N.Nodup) (hb:X.mg "isinstance" = none) (hv:X.mg "ValueError" = none) (hC:bv X.base C (.ref R::bmV)) (hR:bv X.base R bmV)
include hk hs hN hf hnd hb hC hR in
theorem N0(c2:Cls2 X R cs Ds)(hl:Ds.length<=100)(h:NU b cs s=true):PS X s (λD σ H=>yd a C σ H/\∀q H2,kg H H2->H2 q=some (.lst (Ds.map λD=>.bl (C == D)))->D.nx (σ.set 1 (some (.ref q))) H2):=by
 obtain⟨tg,v,p,rfl,h⟩:=uk h;obtain⟨h1,h2⟩:=an2 h;obtain⟨x,p1,rfl,g⟩:=NZ hs hN hf hnd h1;obtain⟨es,p2,rfl,h2⟩:=pA h2;refine PS.imp (oz (oD (A9 (a:=a) hs hN hb hC hR c2 h2)) g (Bb hk hs rfl) (kx (.inr (.inl ⟨_,_,rfl⟩))) rfl) λD σ H q10=>?_;obtain⟨e,q⟩:=q10;exact⟨e.2.1,e.2.2,by rw[Za,Uk];lia,λl hl=>q l _ (kg.upd hl) aV⟩
include hk hs hN hf hnd hb hC hR in
theorem um(c2:Cls2 X R cs Ds)(hl:Ds.length<=100)(h:v0 b cs s=true):PS X s (λD σ H=>yd a C σ H/\∃l xs,σ[1]?=some (some (.ref l))/\H l=some (.lst xs)/\xs.length<=100/\∀q H2,kg H H2->H2 q=some (.lst (xs++Ds.map λD=>.bl (C == D)))->D.nx (σ.set 1 (some (.ref q))) H2):=by
 obtain⟨tg,v,p,rfl,h⟩:=uk h;obtain⟨h1,h2⟩:=an2 h;obtain⟨x,p1,rfl,g⟩:=NZ hs hN hf hnd h1;obtain⟨y,z,p3,rfl,h3,h4⟩:=AI h2;obtain⟨es,p2,rfl,h4⟩:=pA h4;refine PS.imp (oz (GO zf (rJ hs hN h3) (oD (A9 (a:=a) hs hN hb hC hR c2 h4))) g (Bb hk hs rfl) (kx (.inr (.inl ⟨_,_,rfl⟩))) rfl) λD σ H q10=>?_;obtain⟨e,l,xs,hl1,hl2,hl3,q⟩:=q10;refine⟨_,hl1,e.2.1,e.2.2,by rw[Za,Uk];lia,λp hp=>?_⟩;refine⟨l,p,xs,_,rfl,rfl,kg.upd hp _ _ hl2,aV,by rw[Za,Uk];lia,λr hr=>?_⟩;exact q r _ ((kg.upd hp).trans (kg.upd hr)) aV
include hs hN in
theorem N5(h:wMt b "count" e=true):PE X e (λσ H Q=>∃l xs,σ[1]?=some (some (.ref l))/\H l=some (.lst xs)/\xs.all bS=true/\Q (.int ((xs.countP λz=>eqV z (.bl true):Nat):Int)) H):=by
 obtain⟨x,ap,es,p,rfl,h2,h3,h4,h5⟩:=lV h;obtain⟨y,rfl,h5⟩:=cN h5;obtain⟨_,_,rfl⟩:=AG h5;exact PE.imp (qk WE WH PySem.F.type_list_count yb (rJ hs hN h4) (bF yI rfl) (dn h2) (i8 rfl) h3 (ak rfl) rfl) λσ H Q ⟨l,xs,h1,h2,h3,q⟩=>⟨_,h1,.inl ⟨rfl,xs,SqL.of h2⟩,l,xs,.bl true,rfl,rfl,h2,rfl,h3,q⟩
include hs hN in
theorem Hg(h:wMt b "index" e=true):PE X e (λσ H Q=>∃l xs,∃j:Nat,∃z,σ[1]?=some (some (.ref l))/\H l=some (.lst xs)/\xs.all bS=true/\j < 100/\xs[j]?=some z/\eqV z (.bl true)=true/\(∀ (m:Nat) z,m < j->xs[m]?=some z->eqV z (.bl true)=false)/\Q (.int (j:Int)) H):=by
 obtain⟨x,ap,es,p,rfl,h2,h3,h4,h5⟩:=lV h;obtain⟨y,rfl,h5⟩:=cN h5;obtain⟨_,_,rfl⟩:=AG h5;exact PE.imp (qk WE WI PySem.F.type_list_index yc (rJ hs hN h4) (bF yI rfl) (dn h2) (i8 rfl) h3 (ak rfl) rfl) λσ H Q ⟨l,xs,j,z,h1,h2,h3,q⟩=>⟨_,h1,.inl ⟨rfl,xs,SqL.of h2⟩,l,xs,.bl true,j,z,rfl,rfl,h2,rfl,h3,q⟩
def Tru(xs:List V)(j:Nat):Prop:=xs.all bS=true/\(xs.countP λz=>eqV z (.bl true))=1/\j < 2/\∃z,xs[j]?=some z/\eqV z (.bl true)=true/\∀ (m:Nat) z,m < j->xs[m]?=some z->eqV z (.bl true)=false
include hs hN hb hv hC hR in
theorem N6{j:Nat}(h:NV b s=true):PS X s (λD σ H=>yd a C σ H/\(∃l xs,σ[1]?=some (some (.ref l))/\H l=some (.lst xs)/\Tru xs j)/\D.nx σ H):=by
 obtain⟨t,p,q,r,rfl,h1,h2,h3⟩:=AZ h;obtain⟨s,rfl,h2⟩:=cN h2;obtain⟨v,p',rfl,h2⟩:=md h2;obtain⟨_,_,rfl⟩:=ud h2;rw[cA h3];obtain⟨x,y,z,ys,p2,rfl,h4,h5⟩:=lR h1;obtain⟨y',z',p5,e5,h14,h10⟩:=lQ h5;clear h5;cases e5;obtain⟨l,z,p3,rfl,h6,h7,h8⟩:=pB h4;obtain⟨_,_,rfl⟩:=jz h7;obtain⟨w,p4,rfl,h9⟩:=ue h14;obtain⟨l',z',p6,rfl,h11,h12,h13⟩:=pB h10;obtain⟨_,_,rfl⟩:=jz h12
 have hw:D2 w=true:=by
  obtain⟨_,_,_,_,rfl,_⟩:=eM h9;rfl
 refine PS.imp (uW (uU (oB MU (N5 hs hN h6) ji (dm rfl)) (uU (yL (HP (NY (a:=a) hs hN hb hv hC hR h9) (lY hw))) (yJ (oB GQ (Hg hs hN h11) ji (dm rfl))))).pt (iL (sH ow)) iK) λD σ H q10=>?_;obtain⟨e,⟨l,xs,h1,h2,h3,h4,hj,z,g1,g2,g3⟩,q⟩:=q10;refine⟨l,xs,h1,h2,h3,rfl,_,rfl,?_⟩;rw[h4];show if (!decide (V.int ((1:Nat):Int)=V.int 1))=true then _ else _
 rw[if_neg (by decide)];refine⟨e.2.1,e.2.2,true,rfl,?_⟩;show if (!true)=true then _ else _
 rw[if_neg (by decide)];refine⟨l,xs,j,z,h1,h2,h3,by lia,g1,g2,g3,_,_,rfl,rfl,_,rfl,?_⟩;show if decide ((j:Int) > 1)=true then _ else _
 rw[if_neg (by rw[decide_eq_true_eq];lia)];exact q
include hs hN in
theorem N7{j:Nat}(hl:ws.length<=100)(h:NX b ws s=true):PS X s (λD σ H=>∃l xs w,σ[1]?=some (some (.ref l))/\H l=some (.lst xs)/\Tru xs j/\ws[j]?=some w/\∀H2,kg H H2->D.rt (.str w) H2):=by
 obtain⟨v,p,rfl,h⟩:=md h;obtain⟨x,y,p1,rfl,h1,h2,h3⟩:=Hb h;obtain⟨es,p3,rfl,h5⟩:=pA h1;refine PS.imp (sH (y6 C7 (oD (Ba h5)) (Hg hs hN h2) (lW h3))) λD σ H q10=>?_;obtain⟨l,xs,w,a1,a2,⟨a3,_,a4,z,a5,a6,a7⟩,b4,q⟩:=q10;refine⟨by rw[Za,Uk];lia,λp hp=>?_⟩;refine⟨l,xs,j,z,a1,kg.upd hp _ _ a2,a3,by lia,a5,a6,a7,p,_,(j:Int),.str w,rfl,rfl,SqL.of aV,?_,q _ (kg.upd hp)⟩;have hj:=(Zb.mp b4).1;unfold atI ixN;rw[if_pos (Int.natCast_nonneg j),if_pos (by rw[Za];lia)];show(ws.map V.str)[(j:Int).toNat]?=_;rw[ZC,Zr,b4];rfl
include hk hs hN hf hb hv hC hR in
theorem Em{cs ws:List Str}{Ds:List Addr}{i:Nat}{w:Str}{ss:List Stmt}(c1:Cls2 X R (cs.take 4) (Ds.take 4))(c2:Cls2 X R ((cs.drop 4).take 4) ((Ds.drop 4).take 4))(c3:Cls2 X R ((cs.drop 8).take 4) ((Ds.drop 8).take 4))(c4:Cls2 X R (cs.drop 12) (Ds.drop 12))
  (hl:Ds.length<=100) (hws:ws.length<=100) (hnd:Ds.Nodup) (hi:Ds[i]?=some C) (hi2:i < 2) (hw:ws[i]?=some w) (h:ul b cs ws ss=true) :
  PSs X ss (λD σ H=>yd a C σ H/\∀H2,kg H H2->D.rt (.str w) H2):=by
 unfold ul at h;obtain⟨h1,h2,_,k0⟩:=an4 h;clear h;obtain⟨s1,ss1,e1,k1⟩:=cf k0;subst e1;obtain⟨s2,ss2,e2,k2⟩:=cf k1;subst e2;obtain⟨s3,ss3,e3,k3⟩:=cf k2;subst e3;obtain⟨s4,ss4,e4,k4⟩:=cf k3;subst e4;obtain⟨s5,ss5,e5,k5⟩:=cf k4;subst e5;obtain⟨s6,e6,k6⟩:=cN k5;subst e6;obtain⟨g1,g2,g3,g4,g5,g6⟩:=an6 k6;have nd:=fI h1;have t1:(Ds.take 4).length<=100:=by rw[ZO];lia
 have t2:((Ds.drop 4).take 4).length<=100:=by rw[ZO];lia
 have t3:((Ds.drop 8).take 4).length<=100:=by rw[ZO];lia
 have t4:(Ds.drop 12).length<=100:=by rw[YD];lia
 refine PSs.imp (bL (N0 (a:=a) hk hs hN hf nd hb hC hR c1 t1 g1) (bL (um (a:=a) hk hs hN hf nd hb hC hR c2 t2 g2) (bL (um (a:=a) hk hs hN hf nd hb hC hR c3 t3 g3) (bL (um (a:=a) hk hs hN hf nd hb hC hR c4 t4 g4) (bL (N6 (a:=a) (j:=i) hs hN hb hv hC hR g5)
  (iL (N7 (j:=i) hs hN hws g6)))))) ) λD σ H q10=>?_
 obtain⟨e,q⟩:=q10;have el:=e.1;refine⟨e,λq1 H1 x1 y1=>?_⟩;have e1:=i9 (v:=.ref q1) e (by decide:1 ≠ 0) x1;refine⟨e1,q1,_,by rw[ZG (by lia)],y1,by rw[Za];exact t1,λq2 H2 x2 y2=>?_⟩;have e2:=i9 (v:=.ref q2) e1 (by decide:1 ≠ 0) x2;refine⟨e2,q2,_,by rw[ZG (by have:=e1.1;lia)],y2,by rw[Zc,Za,Za,ZO,ZO];lia,λq3 H3 x3 y3=>?_⟩;have e3:=i9 (v:=.ref q3) e2 (by decide:1 ≠ 0) x3;refine⟨e3,q3,_,by rw[ZG (by have:=e2.1;lia)],y3,by rw[Zc,Zc,Za,Za,Za,ZO,ZO,ZO];lia,λq4 H4 x4 y4=>?_⟩;have e4:=i9 (v:=.ref q4) e3 (by decide:1 ≠ 0) x4
 have all:(((Ds.take 4).map (λD=>V.bl (C == D))++((Ds.drop 4).take 4).map (λD=>V.bl (C == D)))++((Ds.drop 8).take 4).map (λD=>V.bl (C == D)))++(Ds.drop 12).map (λD=>V.bl (C == D))=Ds.map λD=>V.bl (C == D):=by
  rw[<-ZK,<-ZK,<-ZK]
  congr 1
  have z1:Ds.take 4++(Ds.drop 4).take 4=Ds.take 8:=by rw[show 8=4+4 from rfl,Wd]
  have z2:Ds.take 8++(Ds.drop 8).take 4=Ds.take 12:=by rw[show 12=8+4 from rfl,Wd]
  rw[z1,z2,Xj]
 rw[all] at y4;have hev:∀D:Addr,eqV (V.bl (C == D)) (.bl true)=(C == D):=λD=>by cases C == D <;> rfl
 have tr:Tru (Ds.map λD=>V.bl (C == D)) i:=by
  refine⟨by rw[Yh];exact ZD.mpr λ_ _=>rfl,?_,hi2,.bl (C == C),by rw[Zr,hi];rfl,by rw[hev,beq_self_eq_true],λm z hm hz=>?_⟩
  ·rw[X4]
   have:((λz=>eqV z (V.bl true)) ∘ λD=>V.bl (C == D))=λD=>D == C:=by
    funext D
    show eqV (V.bl (C == D)) (.bl true)=_;rw[hev,Bool.beq_comm]
   rw[this];show Ds.count C=1;rw[hnd.count,if_pos (Zj hi)]
  ·rw[Zr] at hz;cases hd:Ds[m]? with
   |none=>rw[hd] at hz;cases hz
   |some D=>
    rw[hd] at hz;cases hz;rw[hev];refine Y0.mpr λq=>?_;have z:C=D:=by simpa using q
    subst z;obtain⟨i1,j1⟩:=Zb.mp hd;obtain⟨i2,j2⟩:=Zb.mp hi;have z2:m=i:=(YJ hnd).mp (j1.trans j2.symm)
    lia
 have at4:((((σ.set 1 (some (.ref q1))).set 1 (some (.ref q2))).set 1 (some (.ref q3))).set 1 (some (.ref q4)))[1]?=some (some (.ref q4)):=ZG (by have:=e3.1;lia);exact⟨e4,⟨q4,_,at4,y4,tr⟩,q4,_,w,at4,y4,tr,hw,λH5 x5=>q H5 ((((x1.trans x2).trans x3).trans x4).trans x5)⟩
end
section
variable {X:Cx}
theorem JS(h:PA X.nox es t):PA X es t:=λpos pins s σ H Q I hw=>
 UM (h pos pins s σ H Q (I.wish _) hw) (λ_ _ ⟨v,H',I',r,q⟩=>⟨v,H',I'.unwish,r,q⟩) λ_ _ z=>False.elim z
theorem JT(h:PS X.nox s t):PS X s t:=λpins s σ H D I hw=>
 UM (h pins s σ H D (I.wish _) hw) (λ_ _ z=>SP.unwish z) λ_ _ z=>False.elim z
end
noncomputable abbrev cxM(P:Program)(w:World)(K:Vf)(mg:Str->Option Value)(base:Heap)(N:List Str)(qual:Str)(scope:Scope)(f:Addr)(cd:Value)(A:Around)(outer:List Env)(s:Shared)(H:Hp):Cx:=
 { mW CX0 P w K mg base N qual scope f cd { A with handled:=none } outer s H E0 with A:=A.deeper (envOfC qual scope s.heap.objs.size f cd),calm:=false,xe:=λ_ _=>False }
section
variable {P:Program} {w:World} {K:Vf} {mg:Str->Option Value} {base:Heap} {A:Around} {outer:List Env} {s:Shared} {H:Hp}
theorem Bc{x qual:Str}{st:Stmt}{f:Addr}{fd:WQ}{N ps:List Str}{us:List Value}{vs:List V}{Q:VK}(F:Fun K x qual st f fd)(S:FnScope N ps (aq st))(hd:A.depth < recursionLimit)(e0:Env0 P w K mg base A outer s H)(hb:BindsTo s fd ⟨us,[]⟩ (ps.zip us))(r:aO vs us)(hl:vs.length=ps.length)
  (hbody:∀cdv,∃t,PSs (cxM P w K mg base N qual (aq st) f cdv A outer s H) (bg st) t/\t { nx:=λ_ H'=>Q .non H',rt:=Q } (dJ N vs) H) :
  codeAny (model P w) A (.call (.ref f) ⟨us,[]⟩) (λr s'=>match r with |.ok (.ret u)=>L2.CE outer P w H s Q u s' |_=>False) s:=by
 obtain⟨oc,od,kV,doc,pm,an,cdv,ct,osl,rfl,lk,hcd⟩:=F.ex;have KX:K.In s.heap:=e0.mod.kin.keeps λb o e=>(e0.bs b o e).1;have lim:s.heap.NoLimit:=e0.mod.nolimit.keeps λb o e=>(e0.bs b o e).1
 have hkind:∀y ∈ ps.zip us,(aq st).names.lookup y.1=some .local\/((aq st).names.lookup y.1=some .cell/\((VO (s.heap.objs.size+1) (aq st).names []).lookup y.1).isSome=true):=λ⟨n,v⟩ hy=>by
  rcases S.par n (YO hy).1 with q |q
  ·exact .inl q
  ·exact .inr ⟨q,Vh _ _ _ (.inl q)⟩
 refine VR hd (KX _ _ lk) rfl S.co S.gen rfl (Vk KX hcd) (hb _ _ _ _ ?_);refine UN S.kind hkind λenv he s1 x=>?_;subst he;refine⟨lim.keeps x.toInCall.keep,codeAny_func ?_⟩;obtain⟨t,ht,hq⟩:=hbody cdv;have e1:Env0 P w K mg base { A with handled:=none } outer s H:=⟨e0.frames,e0.mod,e0.bs,e0.bsz,e0.funs,e0.frf,e0.hok,e0.bare⟩;have I0:L2.Inv (mW CX0 P w K mg base N qual (aq st) f cdv { A with handled:=none } outer s H E0) [] (dJ N vs) H s1:=nj S rfl e1 hl r x
 have I:L2.Inv (cxM P w K mg base N qual (aq st) f cdv A outer s H) [] (dJ N vs) H s1:=
  ⟨⟨I0.ok.mod,I0.ok.kind,I0.ok.glob,I0.ok.blt,I0.ok.above,I0.ok.inj,I0.ok.has,I0.ok.cab,λz=>(nomatch z),I0.ok.frames,I0.ok.stk,I0.ok.exf,I0.ok.bs,I0.ok.bsz,I0.ok.noex,I0.ok.exfs,I0.ok.funs,I0.ok.frf⟩,I0.os,I0.bare,I0.base,I0.loc,I0.cell,I0.free,I0.freeC,I0.pin,I0.hok,I0.len⟩
 refine UM (ht [] s1 (dJ N vs) H _ I hq) (λfl s' hs=>?_) λe s' hs=>hs.elim
 have fin:∀ {σ':L2.St} {H':Hp} {v:V} {u:Value},L2.Inv (cxM P w K mg base N qual (aq st) f cdv A outer s H) [] σ' H' s'->aI v u->Q v H'->L2.CE outer P w H s Q u s':=
  λ{σ' H' v u} J rv q=>⟨v,H',J.os,J.bare,J.base,J.hok,rv,q⟩
 cases fl with
 |ret u=>
  obtain⟨v,σ',H',J,rv,q⟩:=hs;exact fin J rv q
 |next=>
  obtain⟨σ',H',J,q⟩:=hs;exact fin (v:=V.non) (u:=Value.none) J rfl q
 |brk=>
  obtain⟨_,_,_,q⟩:=hs;exact False.elim q
 |cont=>
  obtain⟨_,_,_,q⟩:=hs;exact False.elim q
end
abbrev Be:List Str:=["order", "sky"]
abbrev ye(i:Nat):Option Str:=if i=1 then some "sky" else if i=3 then some "order" else none
structure XInf(K:Vf)(mg:Str->Option Value)(R:Addr)(Ds:List Addr):Prop where
 ring:mg "RingError" = some (.ref R)
 ve:mg "ValueError" = none
 isi:mg "isinstance" = none
 hR:∀h,K.In h->bv h R bmV
 hC:∀h,K.In h->∀ (i:Nat) C,Ds[i]?=some C->i < 14->bv h C (.ref R::bmV)
 hT:∀h,K.In h->∀D ∈ Ds,nP h D
 nd:Ds.Nodup
 nr:∀D ∈ Ds,D ≠ R
 nm:∀ (i:Nat) x,eU[i]?=some x->∃D,Ds[i]?=some D/\mg x=some (.ref D)
 len:Ds.length=15
section
variable {X:Cx} {R:Addr}
theorem v5:∀ {xs:List Str} {Ds:List Addr},xs.length=Ds.length->(∀ (i:Nat) x,xs[i]?=some x->∃D,Ds[i]?=some D/\X.mg x=some (.ref D))->(∀D ∈ Ds,nP X.base D/\D ≠ R)->Cls2 X R xs Ds
 |[],[],_,_,_=>.nil
 |x::xs,D::Ds,hl,h,g=>by
  obtain⟨D',e,hm⟩:=h 0 x rfl;cases e;exact .cons hm (g D Zh).1 (g D Zh).2 (v5 (by simpa using hl) (λi y hy=>h (i+1) y (by simpa using hy)) λD hD=>g D (Ze _ hD))
abbrev prm{α:Type}:List α->List α
 |a::b::c::d::l=>d::b::a::c::l
 |l=>l
theorem rK{α:Type}:∀ (l:List α),(prm l).Perm l
 |a::b::c::d::l=>by
  show(d::b::a::c::l).Perm (a::b::c::d::l);exact((List.Perm.swap b d _).trans (((List.Perm.swap a d (c::l)).trans ((List.Perm.swap c d l).cons a)).cons b)).trans (List.Perm.swap a b _)
 |[]=>.refl _
 |[_]=>.refl _
 |[_,_]=>.refl _
 |[_,_,_]=>.refl _
theorem Bf(h:Cls2 X R xs Ds):Cls2 X R (prm xs) (prm Ds):=by
 cases h with
 |nil=>exact .nil
 |cons a1 a2 a3 h=>cases h with
  |nil=>exact .cons a1 a2 a3 .nil
  |cons b1 b2 b3 h=>cases h with
   |nil=>exact .cons a1 a2 a3 (.cons b1 b2 b3 .nil)
   |cons c1 c2 c3 h=>cases h with
    |nil=>exact .cons a1 a2 a3 (.cons b1 b2 b3 (.cons c1 c2 c3 .nil))
    |cons d1 d2 d3 h=>exact .cons d1 d2 d3 (.cons b1 b2 b3 (.cons a1 a2 a3 (.cons c1 c2 c3 h)))
theorem JU{l:List Addr}{j:Nat}{C:Addr}(h:l[j]?=some C)(hl:l.length=15)(hj:j=1\/j=3):(prm l)[if j=1 then 1 else 0]?=some C:=by
 match l,hl with
 |a::b::c::d::l,_=>
  rcases hj with rfl |rfl <;> exact h
theorem jA{n:Nat}(h:Cls2 X R xs Ds):Cls2 X R (xs.take n) (Ds.take n):=by
 induction h generalizing n with
 |nil=>rw[Xz,Xz];exact .nil
 |cons a b c _ ih=>cases n with
  |zero=>exact .nil
  |succ n=>exact .cons a b c ih
theorem jB{n:Nat}(h:Cls2 X R xs Ds):Cls2 X R (xs.drop n) (Ds.drop n):=by
 induction h generalizing n with
 |nil=>rw[We,We];exact .nil
 |cons a b c d ih=>cases n with
  |zero=>exact .cons a b c d
  |succ n=>exact ih
end
theorem noE(x:XLeft P w l H H' s B s')(f:B.get? e=none):H' e=none:=by
 cases q:H' e with
 |none=>rfl
 |some o=>obtain⟨z,q2⟩:=rm (x.hok e o q);rw[f] at q2;cases q2
section
variable {X:Cx} {R:Addr} {Ds:List Addr} {k f fw:Nat} {fd fdw:WQ} {ps psW NW:List Str} {sp:Sp} {xf xw n:Str} {stw:Stmt} {e:Expr} {es:List Expr} {t:TA} {p pos rp np wp p2 p3 p4 hp tp:Pos} {i:Nat}
theorem En(hst:X.stack=X.env::X.outer)(hfm:X.env.frame=some X.env.locals)(xi:XInf X.K X.mg R Ds)(F:FnOk X.prog X.w X.K X.mg X.base (CXE X.prog X.w) k f fd ps sp)(hr:Room k X.A)(hg:Gl X xf)(hm:X.mg xf=some (.ref f))(hk:Vq X.K (.ref f)=true)(hb:fv X.K fd ps [])(hA:PA X.nox (e::es) t)
  (he:Um (e::es) X.env=(false,eval e X.env)::Um es X.env) (hpl:(backTo pos (Um es X.env)).any (·.1)=false) (hdb:(xf == ("__debug__" : Str))=false)
  (FW:Fun X.K xw xw stw fw fdw) (SW:FnScope NW psW (aq stw)) (bW:fv X.K fdw psW []) (h1W:psW.length=1) (cW:ul ⟨aq stw,none,NW⟩ (prm eU) Be (bg stw)=true) (hgW:Gl X xw) (hmW:X.mg xw=some (.ref fw)) (hdw:(xw == ("__debug__" : Str))=false)
  (hN:X.N.Nodup) (hi:X.N[i]?=some n) (hl:X.env.scope.names.lookup n=some .local) (hgr:Gl X "RingError") (hn1:(n == ("__debug__" : Str))=false) (hn2:(n == ("__classdict__" : Str))=false) :
  PS X (.Try [.Return (some (.Call (.Name xf p) (e::es) [] pos)) rp] [.ExceptHandler (some (.Name "RingError" np)) (some n) [.Return (some (.Call (.Name xw wp) [.Name n p2] [] p3)) p4] hp] [] [] tp)
   (λD σ H=>t σ H λvs H1=>sp vs H1 D.rt λc _ H2=>∃j C w,c = .ref C/\Ds[j]?=some C/\ye j=some w/\∀H3,kg H2 H3->D.rt (.str w) H3):=by
 intro pins s σ H D I h;refine wpAny_Try_except ?_;refine UD (Ux (Uw (gx I hg hm ?_ hdb)));refine Vg (h₀:=X.base) I.ok.mod.kin hk (UM (hA pos pins s σ H _ (I.wish _) h) (λus s1 ⟨vs,H1,I1,r,q⟩=>⟨I1.unwish.kIn,?_⟩) λ_ _ z=>z.elim) he hpl;have I1:L2.Inv X pins σ H1 s1:=I1.unwish;have hlen:us.length=ps.length:=by rw[<-r.length];exact F.len _ _ _ _ q
 have hb':=hb s1 us I1.kIn (by rw[ZS];exact hlen);rw[ZS] at hb';refine wpAny_call (VS (F.run X.A X.stack s1 H1 ⟨us,[]⟩ us vs _ _ hr I1.env0 hb' r q) λr s' hq=>?_);cases r with
 |ok fl=>
  cases fl with
  |ret u=>
   obtain⟨v,H',I',rv,z⟩:=I1.after hq;exact⟨v,σ,H',I',rv,z⟩
  |next=>exact False.elim hq
  |brk=>exact False.elim hq
  |cont=>exact False.elim hq
 |error ev=>
  obtain⟨a,c,a0,H',B,rfl,fl,x,j,C,w,rfl,hj,hw,q⟩:=hq
  have hj13:j=1\/j=3:=by
   unfold ye at hw;split at hw
   ·exact .inl ‹_›
   ·split at hw
    ·exact .inr ‹_›
    ·cases hw
  have hj14:j < 14:=by lia
  have hw2:Be[if j=1 then 1 else 0]?=some w:=by rcases hj13 with rfl |rfl <;> exact hw
  have hC:=xi.hC _ I.ok.mod.kin j C hj hj14;have hR:=xi.hR _ I.ok.mod.kin;have hH':=noE x fl.2.1;refine Ea hst hfm I1 fl x hC hR hgr xi.ring (by decide) hN hi hl λs6 I6=>?_;refine UD (Ux (Uw (gx (X:=Cx.mk X a) I6 hgW hmW ?_ hdw)));have hiσ:i < σ.length:=by rw[I.len];exact(Zb.mp hi).1
  refine Vg (h₀:=X.base) I.ok.mod.kin FW.kp (UM ((bF (X:=Cx.mk X a) (ou (i:=i) hi (.inl hl) hn1 hn2) rfl) p3 pins s6 _ _ (λvs H7=>vs=[.ref a]/\H7=upd H' a (exO a C)) I6 ⟨_,ZG hiσ,rfl,rfl⟩) (λus s7 ⟨vs,H7,I7,r,hvs,hH7⟩=>⟨I7.kIn,?_⟩) λ_ _ z=>z.elim) rfl rfl;subst hvs hH7;have hlW:us.length=psW.length:=by rw[<-r.length,h1W];rfl
  have hbW:=bW s7 us I7.kIn (by rw[ZS];exact hlW);rw[ZS] at hbW;have hdep:X.A.depth < recursionLimit:=hr.depth;refine wpAny_call (VS (Bc (Q:=λv H8=>v = .str w/\kg (upd H' a (exO a C)) H8) FW SW hdep I7.env0 hbW r (by rw[h1W];rfl) λcdv=>?_) λr s8 hq=>?_)
  ·have c2:Cls2 (cxM X.prog X.w X.K X.mg X.base NW xw (aq stw) fw cdv (Cx.mk X a).A X.stack s7 (upd H' a (exO a C))) R (prm eU) (prm Ds):=Bf (v5 (by rw[xi.len];rfl) xi.nm λD hD=>⟨xi.hT _ I.ok.mod.kin D hD,xi.nr D hD⟩);refine⟨_,Em (X:=cxM X.prog X.w X.K X.mg X.base NW xw (aq stw) fw cdv (Cx.mk X a).A X.stack s7 (upd H' a (exO a C))) (b:=⟨aq stw,none,NW⟩) (a:=a) (C:=C) (vZ SW.kind) rfl rfl rfl xi.isi xi.ve hC hR (jA c2) (jA (jB c2)) (jA (jB c2)) (jB c2) (by rw[(rK Ds).length_eq,xi.len];decide) (by decide) ((rK Ds).nodup_iff.mpr xi.nd) (JU hj xi.len hj13) (by split <;> decide) hw2 cW,⟨?_,?_,aV⟩,λH2 x2=>⟨rfl,x2⟩⟩
   ·unfold ul at cW;have:=(an4 cW).2.1;have hl3:NW.length=2:=by simpa using this
    unfold L2.dJ;rw[Zc,YI,Za,hl3];rfl
   ·rfl
  ·cases r with
   |ok fl=>
    cases fl with
    |ret u=>
     obtain⟨v,H8,I8,rv,rfl,z⟩:=I7.after hq;exact⟨u,_,_,H8,rfl,I8,rv,q H8 ((kg.upd hH').trans z)⟩
    |next=>exact False.elim hq
    |brk=>exact False.elim hq
    |cont=>exact False.elim hq
   |error ev=>exact False.elim hq
end
inductive RS where
 |pl (s:CS) |ck (f:Nat) (es:List CE) |rz (c:CE) (i:Nat) |tr (f:Nat) (es:List CE)
inductive RR where
 |val (d:D) |exc (i:Nat)
structure DefE where
 x:Str
 st:Stmt
 N:List Str
 np:Nat
 body:List CS
 rb:Option (List RS)
abbrev DefE.ps(d:DefE):List Str:=d.N.take d.np
abbrev FU:Nat:=60
abbrev dY(ag:List DefE)(f:Nat):Nat:=match ag[f]? with
 |some d=>d.ps.length
 |none=>0
@[inline]abbrev fU:=Nat->List D->Sto->Option (RR × Sto)
abbrev toC(g:fU):Calls:=λf ds S=>match g f ds S with
 |some (.val d,S')=>some (d,S')
 |_=>none
abbrev Eo(C:Calls)(ar:Nat->Nat)(d:DefE)(ds:List D)(S:Sto):Option (D × Sto):=
 match fS C ar FU d.body (ds.map some++Zs (d.N.length - ds.length) none) S with
 |some (.rt v,_,S')=>some (v,S')
 |some (.nx,_,S')=>some (.non,S')
 |_=>none
abbrev xck(g:fU)(n f:Nat)(o:Option (List D × Sto))(k:RR->Sto->Option (RR × Sto)):Option (RR × Sto):=match o with
 | some (ds,S1)=>if ds.length=n then (match g f ds S1 with
  |some (r,S2)=>k r S2
  | none=>none) else none
 |none=>none
abbrev b6(g:fU)(ar:Nat->Nat):List RS->Rho->Sto->Option (RR × Sto)
 |[],_,S=>some (.val .non,S)
 | .pl s::r,ρ,S=>(match evS (toC g) ar 59 s ρ S with
  |some (.nx,ρ',S')=>b6 g ar r ρ' S'
  |some (.rt v,_,S')=>some (.val v,S')
  | _=>none)
 | .ck f es::r,ρ,S=>xck g (ar f) f (evA (toC g) ar FU es ρ S) λv S2=>(match v with
  |.val _=>b6 g ar r ρ S2
  | .exc i=>some (.exc i,S2))
 | .rz c i::r,ρ,S=>(match evT (toC g) ar FU c ρ S with
  |some (true,S1)=>if i < 14 then some (.exc i,S1) else none
  |some (false,S1)=>b6 g ar r ρ S1
  | none=>none)
 | .tr f es::_,ρ,S=>xck g (ar f) f (evA (toC g) ar FU es ρ S) λv S2=>(match v with
  |.val d=>some (.val d,S2)
  | .exc i=>(ye i).map λw=>(.val (.str w),S2))
abbrev evX(ag:List DefE):Nat->fU
 |0=>λ_ _ _=>none
 |k+1=>λf ds S=>match ag[f]? with
  | some d=>(match d.rb with
   |none=>(Eo (toC (evX ag k)) (dY ag) d ds S).map λr=>(.val r.1,r.2)
   | some rs=>b6 (evX ag k) (dY ag) rs (ds.map some++Zs (d.N.length - ds.length) none) S)
  |none=>none
abbrev evC(ag:List DefE)(k:Nat):Calls:=toC (evX ag k)
abbrev Bg(N ps:List Str)(sc:Scope):Bool:=sc.kind == .function && sc.isCoroutine == false && sc.isGenerator == false && hZ N && N.take ps.length == ps && (ps.all λx=>sc.names.lookup x == some .local || sc.names.lookup x == some .cell) && sc.names.all λy=>y.2 != .free
theorem v7(h:Bg N ps sc=true):FnScope N ps sc:=by
 unfold Bg at h;simp only[bAE,ZD] at h;obtain⟨⟨⟨⟨⟨⟨h1,h2⟩,h3⟩,h4⟩,h5⟩,h6⟩,h7⟩:=h;refine⟨by simpa using h1,by simpa using h2,by simpa using h3,fI h4,by simpa using h5,λx hx=>?_,λy hy=>by simpa using h7 y hy⟩;have:=h6 x hx
 simpa using this
abbrev Bh(e:Stmt)(k:Option Expr->Option Expr->Pos->Bool):Bool:=if h:e.ctorIdx=16 then @Stmt.Raise.elim (λ_=>Bool) e h k else false
theorem Bi(h:Bh e k=true):∃x0 x1 x2,e = .Raise x0 x1 x2/\k x0 x1 x2=true:=by
 obtain⟨h1,h⟩:=bE h;exact Stmt.Raise.elim (motive_2:=λe=>∀h',@Stmt.Raise.elim (λ_=>Bool) e h' k=true->∃x0 x1 x2,e = .Raise x0 x1 x2/\k x0 x1 x2=true) e h1 (λx0 x1 x2 _ hh=>⟨x0,x1,x2,rfl,hh⟩) h1 h
abbrev N8(e:Stmt)(k:List Stmt->List ExceptHandler->List Stmt->List Stmt->Pos->Bool):Bool:=if h:e.ctorIdx=17 then @Stmt.Try.elim (λ_=>Bool) e h k else false
theorem JV(h:N8 e k=true):∃x0 x1 x2 x3 x4,e = .Try x0 x1 x2 x3 x4/\k x0 x1 x2 x3 x4=true:=by
 obtain⟨h1,h⟩:=bE h;exact Stmt.Try.elim (motive_2:=λe=>∀h',@Stmt.Try.elim (λ_=>Bool) e h' k=true->∃x0 x1 x2 x3 x4,e = .Try x0 x1 x2 x3 x4/\k x0 x1 x2 x3 x4=true) e h1 (λx0 x1 x2 x3 x4 _ hh=>⟨x0,x1,x2,x3,x4,rfl,hh⟩) h1 h
abbrev Bj(T:Tab)(b:Blk)(f:Nat)(es:List CE)(e:Expr):Bool:=AE (λx=>oA T.fns[f]? (λy=>y.1 == x) && b.glo x) (λa=>fb T FU b a es) e
abbrev N9(b:Blk)(i:Nat)(s:Stmt):Bool:=Bh s λv c _=>c.isNone && oA v λe=>sCN e λx es ks=>l1 es λa=>ks.isEmpty && eU[i]? == some x && b.glo x && c6 a λc _ _=>(match c with |.str _=>true |_=>false)
abbrev g9:Str := "_law_word"
abbrev JW(b:Blk)(h:ExceptHandler):Bool:=match h with
 |.ExceptHandler t n body _=>(oA t λe=>fR (λx=>x == ("RingError" : Str) && b.glo x) e) && oA n λn=>b.sc.names.lookup n == some .local && b.N.contains n && !(n == ("__debug__" : Str)) && !(n == ("__classdict__" : Str)) && l1 body λs=>x6 (λe=>sCN e λx es ks=>l1 es λa=>ks.isEmpty && x == g9 && b.glo x && fR (λy=>y == n) a) s
abbrev Qa(k:Expr->Bool)(b:Blk)(s:Stmt):Bool:=N8 s λbody hs o f _=>o.isEmpty && f.isEmpty && (l1 body λr=>x6 k r) && l1 hs λh=>JW b h
abbrev eO(T:Tab)(b:Blk):List RS->List Stmt->Bool
 |[],ss=>ss.isEmpty
 |.pl c::rs,ss=>lC ss λs ss=>JP T 59 b s c && eO T b rs ss
 |.ck f es::rs,ss=>lC ss λs ss=>zEx (Bj T b f es) s && eO T b rs ss
 |.rz c i::rs,ss=>lC ss λs ss=>zIf (λe=>fc T FU b e c) (λp=>l1 p λs=>N9 b i s) (λq=>q.isEmpty) s && eO T b rs ss
 |.tr f es::rs,ss=>l1 ss λs=>Qa (Bj T b f es) b s
abbrev Bk(T:Tab)(d:DefE):Bool:=Bg d.N d.ps (aq d.st) && (match d.rb with
 |none=>nU T FU ⟨aq d.st,none,d.N⟩ (bg d.st) d.body
 | some rs=>eO T ⟨aq d.st,none,d.N⟩ rs (bg d.st))
abbrev nV(con:List (Str × Int))(ag:List DefE):Tab:=⟨con,ag.map λd=>(d.x,d.ps.length)⟩
abbrev v8(d:DefE):Bool:=d.x == g9 && d.ps.length == 1 && ul ⟨aq d.st,none,d.N⟩ (prm eU) Be (bg d.st)
structure TextOk(K:Vf)(mg:Str->Option Value)(con:List (Str × Int))(ag:List DefE):Prop where
 con:∀ (i:Nat) (x:Str) (v:Int),con[i]?=some (x,v)->∃tk,mg x=some (.int v tk)
 bl:∀x,x ∈ fD->mg x=none
 fn:∀ (i:Nat) (d:DefE),ag[i]?=some d->∃f fd,mg d.x=some (.ref f)/\Vq K (.ref f)=true/\fv K fd d.ps []/\Fun K d.x d.x d.st f fd
 xs:∃R Ds,XInf K mg R Ds
def spX(K:Vf)(Ds:List Addr)(g:List D->Sto->Option (RR × Sto))(n:Nat):Sp:=λvs H Q E=>∃m ds S r S',VDs K m H ds vs/\Rel K m S H/\ds.length=n/\g ds S=some (r,S')/\∀m' H',Aft K m H S' m' H'->(match r with
 |.val d=>∀v,VD K m' H' d v->Q v H'
 | .exc i=>∃C,Ds[i]?=some C/\i < 14/\E (.ref C) none H')
theorem Bl{K:Vf}{Ds:List Addr}{g:fU}{f n:Nat}{vs:List V}{H:Hp}{Q:VK}{E:XK}(h:spC K (toC g f) n vs H Q E):spX K Ds (g f) n vs H Q E:=by
 obtain⟨m,ds,S,d,S',vd,R,hl,e,q⟩:=h;unfold toC at e;split at e
 ·rename_i d' S2 hg;cases e;exact⟨m,ds,S,.val d,S',vd,R,hl,hg,λm' H' A v vv=>q m' H' v A vv⟩
 ·cases e
section
variable {P:Program} {w:World} {K:Vf} {mg:Str->Option Value} {base:Heap} {con:List (Str × Int)} {ag:List DefE}
theorem nW(vd:VDs K m H ds vs):EnvR K m H (ds.map some++Zs (N.length - ds.length) none) (L2.dJ N vs):=by
 have hl:=vd.length;unfold L2.dJ;refine⟨by simp[hl],λi d e=>?_⟩;by_cases hi:i < ds.length
 ·rw[Zt (by simpa using hi),Zr] at e;cases h:ds[i]? with
  |none=>rw[h] at e;cases e
  |some d'=>
   rw[h] at e;cases e;obtain⟨v,hv,vv⟩:=vd.get h;exact⟨v,by rw[Zt (by simp;lia),Zr,hv];rfl,vv⟩
 ·rw[Zp (by simpa using hi),Yr] at e;split at e <;> cases e
def tRs(K:Vf)(Ds:List Addr)(E:XK)(g:fU)(ar:Nat->Nat)(rs:List RS):TS:=λD σ H=>(∀σ H,D.rt .non H->D.nx σ H)/\∃m ρ S r S',EnvR K m H ρ σ/\Rel K m S H/\b6 g ar rs ρ S=some (r,S')/\∀m' H',Aft K m H S' m' H'->(match r with
 |.val d=>∀v,VD K m' H' d v->D.rt v H'
 | .exc i=>∃C,Ds[i]?=some C/\i < 14/\E (.ref C) none H')
theorem rL{n f:Nat}(h:xck g n f o k=some z):∃ds S1 v S2,o=some (ds,S1)/\ds.length=n/\g f ds S1=some (v,S2)/\k v S2=some z:=by
 cases o with
 |none=>cases h
 |some p=>
  obtain⟨ds,S1⟩:=p;unfold xck at h;dsimp only at h;split at h
  ·rename_i hl;cases hg:g f ds S1 with
   |none=>rw[hg] at h;cases h
   |some p=>obtain⟨v,S2⟩:=p;rw[hg] at h;exact⟨ds,S1,v,S2,rfl,hl,hg,h⟩
  ·cases h
theorem Ep(A:Aft K m H S2 m2 H2)(x:kg H2 H3):Aft K m H S2 m2 H3:=by
 have E:Ext m2 H2 m2 H3:=⟨Ye _,λa o h _=>x a o h,λ_ h n=>absurd h n⟩
 exact A.trans ⟨E,A.rel.ext_keep E λb hb=>by
  obtain⟨o,_,ho,_⟩:=A.rel.ex hb;rw[ho];exact x b o ho⟩
structure RCx(T:Tab)(g:fU)(ar:Nat->Nat)(k:Nat)(b:Blk)(X:Cx)(E:XK)(R:Addr)(Ds:List Addr):Prop where
 G:CtxOk T (toC g) ar k b X.nox
 xi:XInf X.K X.mg R Ds
 kin:X.K.In X.base
 fns:∀ (i:Nat) (y:Str × Nat),T.fns[i]?=some y->∃f fd ps,X.mg y.1=some (.ref f)/\Vq X.K (.ref f)=true/\fv X.K fd ps []/\FnOk X.prog X.w X.K X.mg X.base (CXE X.prog X.w) k f fd ps (spX X.K Ds (g i) (ar i))
 pass:kK (CXE X.prog X.w) X E
 made:∀pins σ H s h1 e c args,L2.Inv X pins σ H s->Heap.MadeExcOf s.heap h1 e c args->E c none H->X.xe (.ref e) { s with heap:=h1 }
 stk:X.stack=X.env::X.outer
 frm:X.env.frame=some X.env.locals
 kind:X.env.scope.kind = .function
 word:∃fw fdw psW NW stw,X.mg g9=some (.ref fw)/\Fun X.K g9 g9 stw fw fdw/\FnScope NW psW (aq stw)/\fv X.K fdw psW []/\psW.length=1/\ul ⟨aq stw,none,NW⟩ (prm eU) Be (bg stw)=true
theorem JX{P:Prop}{f:Nat}(h:Bj T b f es e0=true)(q:∀y p' e as p'',e0 = .Call (.Name y.1 p') (e::as) [] p''->T.fns[f]?=some y->b.glo y.1=true->fb T FU b (e::as) es=true->P):P:=by
 obtain⟨x,e,as,p',p'',q1,h12,h5⟩:=pC h;obtain⟨h6,h7⟩:=an2 h12;obtain⟨y,hy,h8⟩:=lK h6;have hx:=ku h8;exact q y p' e as p'' (by rw[q1,hx]) hy (hx ▸ h7) h5
theorem Oa{P:Prop}(c4:JW b hd=true)(q:∀np n wp p2 p3 rp2 hp (i:Nat),hd = .ExceptHandler (some (.Name "RingError" np)) (some n) [.Return (some (.Call (.Name g9 wp) [.Name n p2] [] p3)) rp2] hp->b.glo "RingError" = true->b.glo g9=true->b.N[i]?=some n->b.sc.names.lookup n=some .local->(n == ("__debug__" : Str))=false->(n == ("__classdict__" : Str))=false->P):P:=by
 obtain⟨ty,nm,hbody,hp⟩:=hd;unfold JW at c4;obtain⟨k1,k2⟩:=an2 c4;obtain⟨e1,q1,k3⟩:=lK k1;obtain⟨rn,np,q2,k4⟩:=cu k3;obtain⟨k5,k6⟩:=an2 k4;have q3:=eq_of_beq k5;obtain⟨n,q4,k7⟩:=lK k2;obtain⟨l5,l6,l7,l8,l9⟩:=an5 k7;obtain⟨s0,q5,l10⟩:=cN l9;obtain⟨v2,rp2,q6,l11⟩:=md l10;obtain⟨xw,wp,es2,ks,p3,q7,l12⟩:=lU l11;obtain⟨a,q8,l13⟩:=cN l12;obtain⟨k10,k11,k12,k13⟩:=an4 l13;have q9:=cA k10;have q10:=eq_of_beq k11;obtain⟨n2,p2,q11,k14⟩:=cu k13;have q12:=eq_of_beq k14;obtain⟨i,hi⟩:=YB (Xk.mp l6);exact q np n wp p2 p3 rp2 hp i (by rw[q1,q2,q3,q4,q5,q6,q7,q8,q9,q10,q11,q12]) (q3 ▸ k6) (q10 ▸ k12) hi (by simpa using l5) (by simpa using l7) (by simpa using l8)
theorem JY{k:Nat}(rc:RCx T g ar k b X E R Ds)(h:eO T b ([]) ss=true):PSs X ss (tRs X.K Ds E g ar ([])):=by
 rw[cA h];refine PSs.imp iK λD σ H q10=>?_;obtain⟨hD,m,ρ,S,r,S',Ev,Rl,e,q⟩:=q10;cases e;exact hD σ H (q m H (Aft.refl Rl) _ oW)
theorem Oc{k:Nat}(rc:RCx T g ar k b X E R Ds)(ih:∀ss,eO T b rs ss=true->PSs X ss (tRs X.K Ds E g ar rs))(h:eO T b (.pl c::rs) ss=true):PSs X ss (tRs X.K Ds E g ar (.pl c::rs)):=by
 obtain⟨s,ss,rfl,h⟩:=cf h;obtain⟨h1,h2⟩:=an2 h;refine PSs.imp (bL (JT ((JR 59).s b X.nox s c rc.G rc.kind h1)) (ih ss h2)) λD σ H q10=>?_;obtain⟨hD,m,ρ,S,r,S',Ev,Rl,e,q⟩:=q10;simp only[b6] at e;split at e
 ·rename_i ρ1 S1 hs;exact⟨m,ρ,S,.nx,ρ1,S1,Ev,Rl,hs,λm1 H1 A1 σ1 E1=>⟨hD,m1,ρ1,S1,r,S',E1,A1.rel,e,λm2 H2 A2=>q m2 H2 (A1.trans A2)⟩⟩
 ·rename_i v ρ1 S1 hs;cases e;exact⟨m,ρ,S,_,_,_,Ev,Rl,hs,λm1 H1 A1 u vu=>q m1 H1 A1 u vu⟩
 ·cases e
theorem Od{k:Nat}(rc:RCx T g ar k b X E R Ds){f:Nat}(ih:∀ss,eO T b rs ss=true->PSs X ss (tRs X.K Ds E g ar rs))(h:eO T b (.ck f es::rs) ss=true):PSs X ss (tRs X.K Ds E g ar (.ck f es::rs)):=by
 obtain⟨s,ss,rfl,h⟩:=cf h;obtain⟨h1,h2⟩:=an2 h;obtain⟨v,p,rfl,h3,h4⟩:=Hf h1;obtain⟨x,e,as,p',p'',rfl,h12,h5⟩:=pC h3;obtain⟨h6,h7⟩:=an2 h12;obtain⟨y,hy,h6⟩:=lK h6;have hx:=ku h6;subst hx;obtain⟨fa,fd,ps,hm,hk,hb,F⟩:=rc.fns f y hy;have hpl:=bw h5;have gl:=rc.G.gl h7;refine PSs.imp (bL (uV (u0 F rc.G.room gl.1 hm hk hb .nil rc.pass (JS ((snd FU).a b X.nox _ es rc.G h5)) gl.2 (ak (hpl e Zh)) (eN λe he=>hpl e (Ze _ he))) (rG h4)) (ih ss h2)) λD σ H q10=>?_;obtain⟨hD,m,ρ,S,r,S',Ev,Rl,e,q⟩:=q10;simp only[b6] at e;obtain⟨ds,S1,v,S2,e1,hl,eg,e⟩:=rL e;refine⟨m,ρ,S,ds,S1,Ev,Rl,e1,λm1 H1 vs A1 vd=>⟨m1,ds,S1,v,S2,by rw[ZS];exact vd,A1.rel,hl,eg,λm2 H2 A2=>?_⟩⟩;cases v with
 |val d=>exactλu _=>⟨hD,m2,ρ,S2,r,S',Ev.mono Rl (A1.trans A2).ext,A2.rel,e,λm3 H3 A3=>q m3 H3 ((A1.trans A2).trans A3)⟩
 |exc i=>cases e;exact q m2 H2 (A1.trans A2)
theorem Oe{P:Prop}{i:Nat}(h:N9 b i s=true)(q:∀x p1 p2 z j p3 pos,s = .Raise (some (.Call (.Name x p1) [.Constant (.str z) j p3] [] p2)) none pos->eU[i]?=some x->b.glo x=true->P):P:=by
 obtain⟨v,cs,pos,z1,h6⟩:=Bi h;obtain⟨h7,h6⟩:=an2 h6;obtain⟨e1,z2,h6⟩:=lK h6;obtain⟨x,p1,es,ks,p2,z3,h6⟩:=lU h6;obtain⟨a,z4,h6⟩:=cN h6;obtain⟨h8,h9,h10,h11⟩:=an4 h6;obtain⟨c0,j,p3,z5,h11⟩:=cB h11;have z6:cs=none:=by cases cs <;> first |rfl |cases h7
 have ⟨z,z7⟩:∃z,c0 = .str z:=by cases c0 <;> first |exact⟨_,rfl⟩ |cases h11
 exact q x p1 p2 z j p3 pos (by rw[z1,z2,z3,z4,cA h8,z5,z6,z7]) (by simpa using h9) h10
theorem Og{k:Nat}(rc:RCx T g ar k b X E R Ds){i:Nat}(ih:∀ss,eO T b rs ss=true->PSs X ss (tRs X.K Ds E g ar rs))(h:eO T b (.rz c i::rs) ss=true):PSs X ss (tRs X.K Ds E g ar (.rz c i::rs)):=by
 obtain⟨s,ss',z1,h⟩:=cf h;obtain⟨h1,h2⟩:=an2 h;obtain⟨t,p,q,r,z2,h3,h4,h5⟩:=AZ h1;obtain⟨s1,z3,h4⟩:=cN h4;refine Oe h4 λx p1 p2 z j p3 pos z4 hx h10=>?_;rw[z1,z2,cA h5,z3,z4];obtain⟨C,hC,hm⟩:=rc.xi.nm i x hx;have gl:=rc.G.gl h10;by_cases h14:i < 14
 ·refine PSs.imp (bL (uW (PT.nox ((snd FU).t b X.nox t c rc.G h3)) (iL (AQ (E:=E) (v:=.str z) (λpins σ H s h1 e args I mk hE=>rc.made pins σ H s h1 e _ args I mk hE) rc.G.calm gl.1 hm (rc.xi.hC _ rc.kin i C hC h14) (rc.xi.hR _ rc.kin) (bF ow rfl) rfl gl.2)) iK) (ih ss' h2)) λD σ H q10=>?_;obtain⟨hD,m,ρ,S,r,S',Ev,Rl,e,q⟩:=q10;simp only[b6] at e;split at e
  ·rename_i S1 ht;rw[if_pos h14] at e;cases e;refine⟨m,ρ,S,true,_,Ev,Rl,ht,λm1 H1 A1=>?_⟩;dsimp only;rw[if_pos rfl];obtain⟨C',hC',_,z⟩:=q m1 H1 A1;rw[hC] at hC';cases hC';exact z
  ·rename_i S1 ht;refine⟨m,ρ,S,false,_,Ev,Rl,ht,λm1 H1 A1=>?_⟩;dsimp only;rw[if_neg Zd];exact⟨hD,m1,ρ,S1,r,S',Ev.mono Rl A1.ext,A1.rel,e,λm2 H2 A2=>q m2 H2 (A1.trans A2)⟩
  ·cases e
 ·refine PSs.imp (bL (uW (PT.nox ((snd FU).t b X.nox t c rc.G h3)) (iL qh) iK) (ih ss' h2)) λD σ H q10=>?_;obtain⟨hD,m,ρ,S,r,S',Ev,Rl,e,q⟩:=q10;simp only[b6] at e;split at e
  ·rename_i S1 ht;rw[if_neg h14] at e;cases e
  ·rename_i S1 ht;refine⟨m,ρ,S,false,_,Ev,Rl,ht,λm1 H1 A1=>?_⟩;dsimp only;rw[if_neg Zd];exact⟨hD,m1,ρ,S1,r,S',Ev.mono Rl A1.ext,A1.rel,e,λm2 H2 A2=>q m2 H2 (A1.trans A2)⟩
  ·cases e
theorem Oh{k:Nat}(rc:RCx T g ar k b X E R Ds){f:Nat}(h:eO T b (.tr f es::rs) ss=true):PSs X ss (tRs X.K Ds E g ar (.tr f es::rs)):=by
 obtain⟨s,z1,c0⟩:=cN h;obtain⟨body,hs,o,fi,tp,z2,c1⟩:=JV c0;obtain⟨h1,h2,h3,h4⟩:=an4 c1;obtain⟨r0,z3,c2⟩:=cN h3;obtain⟨v,rp,z4,c3⟩:=md c2;obtain⟨hd,z5,c4⟩:=cN h4;refine JX c3 λy p' e as p'' z6 hy h7 h5=>Oa c4 λnp n wp p2 p3 rp2 hp i z7 k6 k12 hi l5 l7 l8=>?_;rw[z1,z2,cA h1,cA h2,z3,z4,z5,z6,z7];obtain⟨fa,fd,ps,hm,hk,hb,F⟩:=rc.fns f y hy;have hpl:=bw h5;have gl:=rc.G.gl h7;obtain⟨fw,fdw,psW,NW,stw,w1,w2,w3,w4,w5,w6⟩:=rc.word;refine PSs.imp (iL (En (i:=i) rc.stk rc.frm rc.xi F rc.G.room gl.1 hm hk hb ((snd FU).a b X.nox _ es rc.G h5) (ak (hpl e Zh)) (eN λe he=>hpl e (Ze _ he)) gl.2 w2 w3 w4 w5 w6 (rc.G.gl k12).1 w1 (rc.G.gl k12).2 (by rw[show X.N=b.N from rc.G.hN];exact rc.G.nd) (by rw[show X.N=b.N from rc.G.hN];exact hi) (by rw[show X.env.scope=b.sc from rc.G.hs];exact l5) (rc.G.gl k6).1 l7 l8)) λD σ H q10=>?_;obtain⟨hD,m,ρ,S,r,S',Ev,Rl,e,q⟩:=q10;simp only[b6] at e;obtain⟨ds,S1,v,S2,e1,hl,eg,e⟩:=rL e;refine⟨m,ρ,S,ds,S1,Ev,Rl,e1,λm1 H1 vs A1 vd=>⟨m1,ds,S1,v,S2,vd,A1.rel,hl,eg,λm2 H2 A2=>?_⟩⟩;cases v with
 |val d=>cases e;exactλu vu=>q m2 H2 (A1.trans A2) u vu
 |exc j=>
  dsimp only at e;cases hw:ye j with
  |none=>rw[hw] at e;cases e
  |some w=>
   rw[hw] at e;cases e
   have h14:j < 14:=by
    unfold ye at hw;split at hw
    ·lia
    ·split at hw
     ·lia
     ·cases hw
   have hj:j < Ds.length:=by rw[rc.xi.len];lia
   exact⟨Ds[j],gEG hj,h14,j,Ds[j],w,rfl,gEG hj,hw,λH3 x3=>q m2 H3 (Ep (A1.trans A2) x3) _ jq⟩
theorem v9{k:Nat}(rc:RCx T g ar k b X E R Ds):∀ (rs:List RS) (ss:List Stmt),eO T b rs ss=true->PSs X ss (tRs X.K Ds E g ar rs)
 |[],ss,h=>JY rc h
 |.pl c::rs,ss,h=>Oc rc (v9 rc rs) h
 |.ck f es::rs,ss,h=>Od rc (v9 rc rs) h
 |.rz c i::rs,ss,h=>Og rc (v9 rc rs) h
 |.tr f es::rs,ss,h=>Oh rc h
theorem Er{i n:Nat}:FnOk P w K mg base (CXE P w) 0 f fd ps (spX K Ds (evX ag 0 i) n):=
 ⟨λvs H Q E h=>(by obtain⟨m,ds,S,d,S',_,_,_,e,_⟩:=h;cases e),λA outer s H args us vs Q E _ _ _ _ h=>(by obtain⟨m,ds,S,d,S',_,_,_,e,_⟩:=h;cases e)⟩
theorem wa(T:TextOk K mg con ag)(xi:XInf K mg R Ds)(kin:K.In base)(hc:ag.all (Bk (nV con ag))=true)(hw:ag.any v8=true):∀ (k i:Nat) (d:DefE),ag[i]?=some d->∀f fd,mg d.x=some (.ref f)->Fun K d.x d.x d.st f fd->FnOk P w K mg base (CXE P w) k f fd d.ps (spX K Ds (evX ag k i) d.ps.length)
 |0,i,d,_,f,fd,_,_=>Er
 |k+1,i,d,hd,f,fd,hm,F=>by
  have ih:=wa T xi kin hc hw k;have ck:=ZD.mp hc d (Zj hd);unfold Bk at ck;rw[bAE] at ck;have S:=v7 ck.1
  have word:∃fw fdw psW NW stw,mg g9=some (.ref fw)/\Fun K g9 g9 stw fw fdw/\FnScope NW psW (aq stw)/\fv K fdw psW []/\psW.length=1/\ul ⟨aq stw,none,NW⟩ (prm eU) Be (bg stw)=true:=by
   obtain⟨dw,hmem,hq⟩:=YL.mp hw;obtain⟨j,hj⟩:=YB hmem;unfold v8 at hq;obtain⟨q1,q2,q3⟩:=an3 hq;obtain⟨fw,fdw,m1,m2,m3,m4⟩:=T.fn j dw hj;have ck2:=ZD.mp hc dw hmem;unfold Bk at ck2;rw[bAE] at ck2;rw[<-eq_of_beq q1];exact⟨fw,fdw,dw.ps,dw.N,dw.st,m1,m4,v7 ck2.1,m3,by simpa using q2,q3⟩
  obtain⟨oc,od,kV,doc,pm,an,cdv,ct,osl,rfl,lk,hcd⟩:=F.ex;refine M0 lk hcd S (λvs H Q E h=>?_) λA outer s H vs Q E hr h=>?_
  ·obtain⟨m,ds,S,d',S',vd,_,hl,_⟩:=h;rw[<-vd.length,hl]
  ·have FX:∀ (j:Nat) (y:Str × Nat),(nV con ag).fns[j]?=some y->dY ag j=y.2/\∃f fd ps,mg y.1=some (.ref f)/\Vq K (.ref f)=true/\fv K fd ps []/\FnOk P w K mg base (CXE P w) k f fd ps (spX K Ds (evX ag k j) (dY ag j)):=λj y hy=>by
    have hy':(ag.map λd=>(d.x,d.ps.length))[j]?=some y:=hy;rw[Zr] at hy';cases hj:ag[j]? with
    |none=>rw[hj] at hy';cases hy'
    |some e=>
     rw[hj] at hy';cases hy';have ha:dY ag j=e.ps.length:=by unfold dY;rw[hj]
     obtain⟨f',fd',m',k',b',F'⟩:=T.fn j e hj;refine⟨ha,f',fd',e.ps,m',k',b',?_⟩;rw[ha];exact ih j e hj f' fd' m' F'
   have G:CtxOk (nV con ag) (toC (evX ag k)) (dY ag) k ⟨aq d.st,none,d.N⟩ (mW (CXE P w) P w K mg base d.N d.x (aq d.st) f cdv A outer s H E).nox:=by
    refine⟨rfl,rfl,rfl,rfl,S.nd,λ_ _=>rfl,hr,T.con,T.bl,λj y hy=>?_⟩;obtain⟨ha,f',fd',ps',m',k',b',F'⟩:=FX j y hy;exact⟨ha,f',fd',ps',m',k',b',F'.imp λvs H Q E q=>Bl q⟩
   obtain⟨m,ds,S0,r,S',vd,Rl,hl,e,q⟩:=h;simp only[evX,hd] at e;cases hrb:d.rb with
   |none=>
    rw[hrb] at e ck;dsimp only at e ck;refine⟨_,((JR FU).ss _ _ (bg d.st) d.body G S.kind ck.2).nox,?_⟩;unfold Eo at e;cases hx:fS (toC (evX ag k)) (dY ag) FU d.body (ds.map some++Zs (d.N.length - ds.length) none) S0 with
    |none=>rw[hx] at e;cases e
    |some z=>
     obtain⟨fl,ρ',S1⟩:=z;rw[hx] at e;refine⟨m,_,S0,fl,ρ',S1,nW vd,Rl,hx,λm' H' A'=>?_⟩;cases fl with
     |nx=>cases e;exactλσ _=>q m' H' A' .non oW
     |rt v=>cases e;exactλu vu=>q m' H' A' u vu
     |bk=>cases e
     |ct=>cases e
   |some rs=>
    rw[hrb] at e ck;dsimp only at e ck
    have rc:RCx (nV con ag) (evX ag k) (dY ag) k ⟨aq d.st,none,d.N⟩ (mW (CXE P w) P w K mg base d.N d.x (aq d.st) f cdv A outer s H E) E R Ds:=
     ⟨G,xi,kin,λj y hy=>(FX j y hy).2,NG,λpins σ H s h1 e c args I mk hE=>NH I mk hE,rfl,rfl,S.kind,word⟩
    exact⟨_,v9 rc rs (bg d.st) ck.2,λ_ _ z=>z,m,_,S0,r,S',nW vd,Rl,e,q⟩
end
abbrev wb(d:DefE):Option qd:=some ((d.x,d.x),(dI d.st,bg d.st),(aq d.st,V6),([],.none),(VL,some d.x))
theorem wc:∀ {l:List Nat},HF l=true->l.Nodup
 |[],_=>X7
 |a::l,h=>by
  obtain⟨h1,h2⟩:=an2 h;refine Yd.mpr ⟨λhm=>?_,wc h2⟩;rw[Xk.mpr hm] at h1;cases h1
abbrev b8(h:Heap)(x:Str):Vf:=match h.nsMap V6 x with
 | some (.ref C)=>(match h.get? C with
  | some ⟨c0,dd,.cls cd,sl⟩=>(C,⟨c0,dd,.cls cd,sl⟩)::(match h.get? cd.ns with
   |some ⟨c1,d1,.dict es ep,s1⟩=>[(cd.ns,⟨c1,d1,.dict es ep,s1⟩)]
   | _=>[])
  | _=>[])
 |_=>[]
@[inline]abbrev rN:=Bool × List (Option qd) × List (Option Int) × List Bool × Bool
abbrev yf(con:List (Str × Int))(ag:List DefE)(h:Heap):rN:=(h.isNs V6,ag.map (λd=>sG h d.x),con.map (λc=>CK h c.1),(fD.map λx=>(h.nsMap V6 x).isNone),yG h)
abbrev rO(con:List (Str × Int))(ag:List DefE):rN:=(true,ag.map wb,con.map (λc=>some c.2),(fD.map λ_=>true),true)
def Hh(d:DefE):Prop:=∀ (kV doc pm:Value) (an:Option Addr) (cdv ct:Value) (us:List Value),us.length=d.ps.length->bindArgs (Vm d.x d.x (dI d.st) (bg d.st) (aq d.st) .none kV doc pm an cdv ct) ⟨us,[]⟩=pure (d.ps.zip us)
def yg:List DefE->Prop
 |[]=>True
 |d::ds=>Hh d/\yg ds
theorem yg.at:∀ {ds:List DefE} {d:DefE},yg ds->d ∈ ds->Hh d
 |e::ds,d,h,hd=>by
  rcases Zm.mp hd with rfl |hd
  ·exact h.1
  ·exact yg.at h.2 hd
abbrev nX(h:Heap)(f:Addr):Vf:=match h.get? f with
 | some o=>(f,o)::(match o.data with
  | .func fd=>(match fd.code with
   |.ref c=>(match h.get? c with |some oc=>[(c,oc)] |none=>[])
   | _=>[])
  | _=>[])
 |none=>[]
abbrev dN(h:Heap)(d:DefE):Vf:=match h.nsMap V6 d.x with
 |some (.ref f)=>nX h f
 |_=>[]
def Oi(K:Vf):Prop:=∀a o,K.lookup a=some o->∀its n,o.data ≠ .seq its n
structure Says(con:List (Str × Int))(ag:List DefE)(h:Heap):Prop where
 ns:∃m,h.Ns V6 m
 frag:∃K:Vf,K.In h/\Oi K/\∀mg,h.Ns V6 mg->TextOk K mg con ag
theorem mh{K:Vf}{a:Addr}{o:Obj}(h:K.lookup a=some o):(a,o) ∈ K:=by
 induction K with
 |nil=>cases h
 |cons p K ih=>
  obtain⟨b,q⟩:=p;rw[ZQ] at h;cases hb:a == b with
  |true=>
   rw[hb] at h;cases h;have:a=b:=by simpa using hb
   subst this;exact Zh
  |false=>rw[hb] at h;exact Ze _ (ih h)
theorem Bm{K:Vf}{a:Addr}{o:Obj}(h:(a,o) ∈ K):∃o',K.lookup a=some o':=by
 induction K with
 |nil=>cases h
 |cons p K ih=>
  obtain⟨b,q⟩:=p;rw[ZQ];cases hb:a == b with
  |true=>exact⟨_,rfl⟩
  |false=>
   rcases Zm.mp h with e |h
   ·cases e;simp at hb
   ·exact ih h
theorem Bn(e:(a,o) ∈ nX h f):h.get? a=some o:=by
 unfold nX at e;cases hf:h.get? f with
 |none=>rw[hf] at e;cases e
 |some of=>
  rw[hf] at e;dsimp only at e;rcases Zm.mp e with q |e
  ·cases q;exact hf
  ·split at e
   ·split at e
    ·rename_i c hc;cases hc':h.get? c with
     |none=>rw[hc'] at e;cases e
     |some oc=>
      rw[hc'] at e;dsimp only at e;rcases Zm.mp e with q |e
      ·cases q;exact hc'
      ·cases e
    ·cases e
   ·cases e
theorem JZ{h:Heap}{a:Addr}{mg:Str->Option Value}(N:h.Ns a mg):h.nsMap a=mg:=by
 obtain⟨o,es,ep,ho,hd,_,hm⟩:=N
 funext x
 unfold Heap.nsMap;rw[ho];dsimp only;rw[hd];exact hm x
theorem Bo(e:sG h d.x=wb d):∃f oc od kV doc pm an c ct osl cc cd vs a t r cs,h.nsMap V6 d.x=some (.ref f)/\h.get? f=some ⟨oc,od,.func (Vm d.x d.x (dI d.st) (bg d.st) (aq d.st) .none kV doc pm an (.ref c) ct),osl⟩ ∧
  h.get? c=some ⟨cc,cd,.fields vs,cs⟩/\vs.toList=a :: .str d.x t::r:=by
 unfold sG wb at e;split at e
 ·rename_i f hf;unfold MD at e;split at e
  ·rename_i oc od nm qn ps b sc gl cl dv kV doc pm an cdv ct bi osl hg;simp only[Option.some.injEq,Prod.mk.injEq] at e;obtain⟨⟨rfl,rfl⟩,⟨rfl,rfl⟩,⟨rfl,rfl⟩,⟨rfl,rfl⟩,rfl,e⟩:=e;unfold GD at e;split at e
   ·rename_i c;split at e
    ·rename_i cc cd vs cs hc;split at e
     ·rename_i a n t r hv;cases e;exact⟨f,oc,od,kV,doc,pm,an,c,ct,osl,cc,cd,vs,a,t,r,cs,hf,hg,hc,hv⟩
     ·cases e
    ·cases e
   ·cases e
  ·cases e
 ·cases e
theorem rP(e:(a,o) ∈ b8 h x):h.get? a=some o/\∀its n,o.data ≠ .seq its n:=by
 unfold b8 at e;split at e
 ·split at e
  ·rename_i C _ c0 dd cd sl hC;rcases Zm.mp e with q |e
   ·cases q;exact⟨hC,λ_ _ z=>nomatch z⟩
   ·split at e
    ·rename_i c1 d1 es ep s1 hN;rcases Zm.mp e with q |e
     ·cases q;exact⟨hN,λ_ _ z=>nomatch z⟩
     ·cases e
    ·cases e
  ·cases e
 ·cases e
theorem wg(e:HE h x=true):∃dd cd sl,h.nsMap V6 x=some (.ref (adX h x))/\(adX h x,(⟨.type "type", dd,.cls cd,sl⟩:Obj)) ∈ b8 h x:=by
 unfold HE at e;split at e
 ·rename_i C hx;split at e
  ·rename_i dd cd sl hC;have z:adX h x=C:=by unfold adX;rw[hx]
   refine⟨dd,cd,sl,by rw[hx,z],?_⟩;unfold b8;rw[hx,z];dsimp only;rw[hC];exact Zh
  ·cases e
 ·cases e
theorem wj{h:Heap}{bm:List Value}{x:Str}(e:CL h bm x=true){K:Vf}(lk:∀a o,(a,o) ∈ b8 h x->K.lookup a=some o):h.nsMap V6 x=some (.ref (adX h x))/\∀h',K.In h'->bv h' (adX h x) bm:=by
 unfold CL at e;split at e
 ·rename_i C hx;split at e
  ·rename_i dd cd sl hC;split at e
   ·rename_i C' bm' k0 k1 k2 k3 n k5 hm hs;simp only[bAE,beq_iff_eq,Bool.not_eq_true',ZD] at e;obtain⟨⟨⟨⟨⟨rfl,rfl⟩,rfl⟩,hdel⟩,hns⟩,hq⟩:=e;have z:adX h x=C':=by unfold adX;rw[hx]
    refine⟨by rw[hx,z],λh' KX=>?_⟩;rw[z];have N:=Heap.Ns.of_isNs hns;obtain⟨oN,es,ep,hN,hd,r⟩:=id N;obtain⟨c1,d1,dat,s1⟩:=oN;dsimp only at hd;subst hd
    have m1:(C',(⟨.type "type", dd,.cls cd,sl⟩:Obj)) ∈ b8 h x:=by
     unfold b8;rw[hx];dsimp only;rw[hC];exact Zh
    have m2:(cd.ns,(⟨c1,d1,.dict es ep,s1⟩:Obj)) ∈ b8 h x:=by
     unfold b8;rw[hx];dsimp only;rw[hC];dsimp only;rw[hN];exact Ze _ Zh
    have g1:=KX _ _ (lk _ _ m1);have g2:=KX _ _ (lk _ _ m2);obtain⟨nm,bs,mro,ns,qn,hdd,sn,sub,ab,col,del⟩:=cd;dsimp only at hm hdel hns hq N hN r m1 m2 g1 g2;subst hm hdel
    have hsl:sl=#[k0,k1,k2,k3,some (.builtin "ValueError.__new__"),k5]:=by
     obtain⟨l⟩:=sl;simp only at hs;rw[hs]
    subst hsl;exact⟨ns,nm,qn,bs,hdd,sn,sub,ab,col,dd,k0,k1,k2,k3,k5,h.nsMap ns,g1,⟨_,es,ep,g2,rfl,r⟩,λn hn=>by simpa using hq n hn⟩
   ·cases e
  ·cases e
 ·cases e
theorem Es{h:Heap}(e:yG h=true){K:Vf}{mg:Str->Option Value}(hm:h.nsMap V6=mg)(hb:mg "isinstance" = none)(lk:∀x,x ∈ ("RingError" : Str)::eU->∀a o,(a,o) ∈ b8 h x->K.lookup a=some o):XInf K mg (adX h "RingError") (eU.map (adX h)):=by
 unfold yG at e;obtain⟨e1,e2,e3,e4,e5⟩:=an5 e;subst hm;have r1:=wj e1 (lk _ Zh);have nd:=Yd.mp (wc e4);refine⟨r1.1,by simpa using e5,hb,r1.2,λh' KX i C hi h14=>?_,λh' KX D hD=>?_,nd.2,λD hD z=>nd.1 (z ▸ hD),λi x hx=>?_,by rw[Za];rfl⟩
 ·rw[Zr] at hi;cases hx:eU[i]? with
  |none=>rw[hx] at hi;cases hi
  |some x=>
   rw[hx] at hi;cases hi;have hmem:x ∈ eU.take 14:=Zj (i:=i) (by rw[Y7 h14];exact hx);exact(wj (ZD.mp e2 x hmem) (lk x (Ze _ (Zj hx)))).2 h' KX
 ·obtain⟨x,hx,rfl⟩:=ZL.mp hD;obtain⟨dd,cd,sl,_,m⟩:=wg (ZD.mp e3 x hx);exact⟨dd,cd,sl,KX _ _ (lk x (Ze _ hx) _ _ m)⟩
 ·obtain⟨dd,cd,sl,m,_⟩:=wg (ZD.mp e3 x (Zj hx));exact⟨adX h x,by rw[Zr,hx];rfl,m⟩
theorem Et{con:List (Str × Int)}{ag:List DefE}(hb:yg ag){h:Heap}(e:yf con ag h=rO con ag):Says con ag h:=by
 unfold yf rO at e;simp only[Prod.mk.injEq] at e;obtain⟨e0,e1,e2,e3,e4⟩:=e;have N:=Heap.Ns.of_isNs e0;have D:∀d ∈ ag,sG h d.x=wb d:=λd hd=>Y3.mp e1 d hd
 have inK:∀a o,(a,o) ∈ ag.flatMap (dN h)++(("RingError" : Str)::eU).flatMap (b8 h)->h.get? a=some o:=λa o he=>by
  rcases ZJ.mp he with he |he
  rotate_left
  ·obtain⟨x,_,he⟩:=Z1.mp he;exact(rP he).1
  obtain⟨d,hd,he⟩:=Z1.mp he;obtain⟨f,oc,od,kV,doc,pm,an,c,ct,osl,cc,cd,vs,a',t,r,cs,g1,g2,g3,g4⟩:=Bo (D d hd);unfold dN at he;rw[g1] at he;exact Bn he
 have lk:∀a o,(a,o) ∈ ag.flatMap (dN h)++(("RingError" : Str)::eU).flatMap (b8 h)->(ag.flatMap (dN h)++(("RingError" : Str)::eU).flatMap (b8 h)).lookup a=some o:=λa o he=>by
  obtain⟨o',q⟩:=Bm he;have z:=inK a o' (mh q);rw[inK a o he] at z;cases z;exact q
 refine⟨⟨_,N⟩,ag.flatMap (dN h)++(("RingError" : Str)::eU).flatMap (b8 h),λa o q=>inK a o (mh q),λa o q its n hs=>?_,λmg G=>?_⟩
 ·rcases ZJ.mp (mh q) with he |he
  rotate_left
  ·obtain⟨x,_,he⟩:=Z1.mp he;exact(rP he).2 its n hs
  obtain⟨d,hd,he⟩:=Z1.mp he;obtain⟨f,oc,od,kV,doc,pm,an,c,ct,osl,cc,cd,vs,a',t,r,cs,g1,g2,g3,g4⟩:=Bo (D d hd);unfold dN at he;rw[g1] at he;dsimp only at he;unfold nX at he;rw[g2] at he;dsimp only at he;rw[g3] at he;dsimp only at he;rcases Zm.mp he with z |he
  ·cases z;cases hs
  ·rcases Zm.mp he with z |he
   ·cases z;cases hs
   ·cases he
 ·have hm:=JZ G
  have bl:∀x,x ∈ fD->mg x=none:=λx hx=>by
   have z:=Y3.mp e3 x hx;rw[hm] at z
   simpa using z
  refine⟨λi x v hi=>?_,bl,λi d hi=>?_,_,_,Es e4 hm (bl _ (by decide)) λx hx a o ho=>lk a o (Zx _ (Z1.mpr ⟨x,hx,ho⟩))⟩
  ·have z:=Y3.mp e2 (x,v) (Zj hi);unfold CK at z;rw[hm] at z;dsimp only at z;split at z
   ·rename_i v' t hv;cases z;exact⟨t,hv⟩
   ·cases z
  ·have hd:=Zj hi;obtain⟨f,oc,od,kV,doc,pm,an,c,ct,osl,cc,cd,vs,a',t,r,cs,g1,g2,g3,g4⟩:=Bo (D d hd)
   have m1:(f,_) ∈ ag.flatMap (dN h)++(("RingError" : Str)::eU).flatMap (b8 h):=ZV _ <| Z1.mpr ⟨d,hd,by
    show _ ∈ dN h d;unfold dN;rw[g1];dsimp only;unfold nX;rw[g2];exact Zh⟩
   have m2:(c,_) ∈ ag.flatMap (dN h)++(("RingError" : Str)::eU).flatMap (b8 h):=ZV _ <| Z1.mpr ⟨d,hd,by
    show _ ∈ dN h d;unfold dN;rw[g1];dsimp only;unfold nX;rw[g2];dsimp only;rw[g3];exact Ze _ Zh⟩
   have l1:=lk _ _ m1;have l2:=lk _ _ m2;have kp:Vq (ag.flatMap (dN h)++(("RingError" : Str)::eU).flatMap (b8 h)) (.ref f)=true:=by unfold Vq;dsimp only;rw[l1]
   have cdI:Vj (ag.flatMap (dN h)++(("RingError" : Str)::eU).flatMap (b8 h)) (.ref c) d.x=true:=by
    unfold Vj;dsimp only;rw[l2];dsimp only;rw[g4];simp
   have F:=Iy (st:=d.st) (x:=d.x) (qual:=d.x) l1 cdI kp;refine⟨f,_,by rw[<-hm];exact g1,kp,F.binds (hb.at hd),F⟩
theorem uo(x:Says con ag h)(k:∀b o,h.get? b=some o->h'.get? b=some o):Says con ag h':=by
 obtain⟨⟨m,N⟩,K,KX,ns,T⟩:=x
 have back:∀mg,h'.Ns V6 mg->h.Ns V6 mg:=λmg ⟨o,es,ep,ho,r⟩=>by
  obtain⟨o',es',ep',ho',r'⟩:=N;have z:=k _ _ ho';rw[ho] at z;cases z;exact⟨o,es,ep,ho',r⟩
 refine⟨⟨m,let ⟨o,es,ep,ho,r⟩:=N;⟨o,es,ep,k _ _ ho,r⟩⟩,K,λa o q=>k _ _ (KX a o q),ns,λmg G=>T mg (back mg G)⟩
abbrev jC(con:List (Str × Int))(ag:List DefE)(hb:yg ag):PySem.W.Hook:=
 ⟨rN,λs=>yf con ag s.heap,λ_=>rO con ag,λ_ h=>Says con ag h,λ_ _ e=>Et hb e,λ_ _ _ x k=>uo x k⟩
theorem mi{K:Vf}{m:List Addr}{H:Hp}:∀ns:List Int,VDs K m H (ns.map D.int) (ns.map V.int)
 |[]=>by rw[Z5,Z5,VDs]
 |a::l=>by rw[Zu,Zu,VDs];exact⟨_,_,rfl,bq,mi l⟩
theorem Eu{l:PySem.W.OpenLaw}{n k i:Nat}{q:Program}{loose:List Str}{XP:(Str->Option Value)->Heap->Prop}{d:DefRec}{con:List (Str × Int)}{ag:List DefE}{hb:yg ag}{dl:DefE}{x:Str}
  (hn:l.most=some n) (hn2:n<=sizeLine) (hdf:d.params.defaults=[]) (hr:Room k callerA) (hx:d.name=dl.x) (hi:ag[i]?=some dl) (hps:dl.ps=[x]) (hc:ag.all (Bk (nV con ag))=true) (hw:ag.any v8=true)
  (main:∀ns:List Int,ns.length<=n->∃S',evC ag k i [.ref 0] [.frz (ns.map D.int)]=some (.bl true,S')) :
  PySem.W.WalkO q loose XP (jC con ag hb).says l.row.toRowW d [] (λf vs=>PySem.call f vs):=by
 refine Att.attach_call hn hdf λw s₀ s₁ mg mb fa o pm cd doc a vs ns G Y ho hd hcd hmg hobj hints hlen hg=>?_;obtain⟨_,K,KX,noS,T⟩:=(show Says con ag s₁.heap from Y);have T:=T mg G.T.g;obtain⟨R,Ds,xi⟩:=T.xs;obtain⟨f,fd,hm,kp,_,F⟩:=T.fn i dl hi;rw[hx] at hmg;rw[hmg] at hm;cases hm
 have bd:∀ (s:Shared) (u:Value),BindsTo s fd ⟨[u],[]⟩ [(x,u)]:=λs u=>by
  obtain⟨oc,od,kV,doc,pm,an,cdv,ct,osl,rfl,lk,hcd⟩:=F.ex;have z:=(hb.at (Zj hi)) kV doc pm an cdv ct [u] (by rw[hps];rfl);rw[hps] at z;exact .of_eq z
 refine zg (CX:=CXE l.row.toRowW.prog w) (sp:=spX K Ds (evX ag k i) dl.ps.length) KX G.T.g G.T.b G.T.builtins G.T.nolimit hg hobj hints (Zw hlen hn2) hr (λbase kin _=>by
  have:=wa (P:=l.row.toRowW.prog) (w:=w) (base:=base) T xi kin hc hw k i dl hi fa fd hmg F;rw[hps] at this ⊢;exact this) bd (λH hO hS=>?_) λH e s' ⟨_,_,_,_,_,_,_,_,z⟩=>z
 have fz:∃o,H a=some (.frz o (.lst (ns.map V.int))):=by
  rcases hS with (z |⟨o,z⟩) |⟨o,its,n',hk,hc,hdd,hdt,_⟩
  ·rcases hO a with y |⟨o',xs,y⟩
   ·rw[y] at z;cases z
   ·rw[y] at z;cases z
  ·exact⟨o,z⟩
  ·exact absurd hdt (noS a o hk its n')
 obtain⟨o,fz⟩:=fz;obtain⟨S',e⟩:=main ns hlen;refine Bl ⟨[a],[.ref 0],[.frz (ns.map D.int)],.bl true,S',?_,⟨rfl,by simp,λj ob ej=>?_⟩,by rw[hps];rfl,e,λm' H' v A vv=>vv.bls⟩
 ·rw[VDs];exact⟨_,_,rfl,by rw[VD];exact⟨a,rfl,rfl⟩,by rw[VDs]⟩
 ·cases j with
  |zero=>cases ej;exact⟨a,rfl,o,_,fz,mi ns⟩
  |succ j=>simp at ej
end Ev
namespace Lw
open PySem Ev
abbrev mj:List CS:=[.ret (.and (.inst .int (.var 0)) (.not (.inst .bool (.var 0))))]
abbrev jS:List CS:=[.ret (.and (.call 0 [.var 0]) (.chn .le .le (.var 1) (.var 0) (.var 2)))]
abbrev jT:List CS:=[.ret (.call 1 [.var 0,.int 0,.con 0 9999])]
abbrev mq:List CS:=[.ret (.and (.inst .tuple (.var 0)) (.chn .le .le (.var 1) (.len (.var 0)) (.var 2)))]
abbrev fg:List CS:=[.ifs (.or (.not (.call 3 [.var 0,.int 0,.var 1])) (.not (.all (.comp ["number"] (.call 1 [.var 2,.int 0,.bin .sub (.var 1) (.int 1)]) [⟨.name 2,.val (.var 0),none⟩])))) [.ret (.bl false)] [],.ret (.all (.comp ["number"] (.cmp .eq (.cnt (.var 0) (.var 2)) (.int 1)) [⟨.name 2,.val (.var 0),none⟩]))]
abbrev jU:List CS:=[.ifs (.not (.call 3 [.var 0,.int 4,.int 4])) [.ret (.bl false)] [],.asg (.tup [.name 1,.name 2,.name 3,.name 4]) (.var 0),.ret (.and (.call 1 [.var 1,.int 0,.con 1 8]) (.and (.call 1 [.var 2,.int 0,.con 2 60]) (.and (.call 6 [.var 3]) (.call 9 [.var 4]))))]
abbrev mv:List CS:=[.ifs (.not (.call 3 [.var 0,.int 1,.con 3 4])) [.ret (.bl false)] [],.ret (.and (.all (.comp ["row"] (.call 7 [.var 1,.len (.var 0)]) [⟨.name 1,.val (.var 0),none⟩])) (.call 8 [.var 0]))]
abbrev ja:List CS:=[.ret (.and (.call 3 [.var 0,.var 1,.var 1]) (.all (.comp ["gap"] (.call 1 [.var 2,.int 1,.con 4 99]) [⟨.name 2,.val (.var 0),none⟩])))]
abbrev bK:List CS:=[.asg (.name 1) (.listR (.len (.var 0))),.ret (.all (.comp ["a", "b", "c"] (.cmp .le (.ix (.ix (.var 0) (.var 2)) (.var 3)) (.bin .add (.ix (.ix (.var 0) (.var 2)) (.var 4)) (.ix (.ix (.var 0) (.var 4)) (.var 3)))) [⟨.name 2,.val (.var 1),none⟩,⟨.name 3,.val (.var 1),none⟩,⟨.name 4,.val (.var 1),none⟩]))]
abbrev jV:List CS:=[.ifs (.or (.not (.call 3 [.var 0,.int 0,.con 5 4])) (.not (.all (.comp ["part"] (.call 10 [.var 1]) [⟨.name 1,.val (.var 0),none⟩])))) [.ret (.bl false)] [],.ret (.all (.comp ["at"] (.cmp .gt (.ix (.ix (.var 0) (.var 1)) (.int 0)) (.ix (.ix (.var 0) (.bin .sub (.var 1) (.int 1))) (.int 1))) [⟨.name 1,.r2 (.int 1) (.len (.var 0)),none⟩]))]
abbrev jb:List CS:=[.ret (.and (.call 3 [.var 0,.int 2,.int 2]) (.and (.call 2 [.ix (.var 0) (.int 0)]) (.and (.call 2 [.ix (.var 0) (.int 1)]) (.cmp .lt (.ix (.var 0) (.int 0)) (.ix (.var 0) (.int 1))))))]
abbrev nY:List CS:=[.ret (.call 1 [.var 1,.int 0,.bin .sub (.len (.ix (.var 0) (.int 2))) (.int 1)])]
abbrev eP:List CS:=[.for_ (.tup [.name 2,.name 3]) (.val (.ix (.var 0) (.int 3))) [.ifs (.chn .le .lt (.var 2) (.var 1) (.var 3)) [.ret (.var 3)] []],.ret (.var 1)]
abbrev jc:List CS:=[.ifs (.not (.call 3 [.var 0,.int 4,.int 4])) [.ret (.bl false)] [],.asg (.tup [.name 1,.name 2,.name 3,.name 4]) (.var 0),.ret (.and (.call 5 [.var 1]) (.and (.call 14 [.var 1,.var 2]) (.and (.call 15 [.var 1,.var 3]) (.call 17 [.var 3,.var 4]))))]
abbrev mw:List CS:=[.ifs (.cmp .is (.var 1) .non) [.ret (.bl true)] [],.ret (.and (.call 3 [.var 1,.int 2,.int 2]) (.and (.call 11 [.var 0,.ix (.var 1) (.int 0)]) (.call 2 [.ix (.var 1) (.int 1)])))]
abbrev hF:List CS:=[.ret (.and (.call 3 [.var 1,.int 0,.con 6 7]) (.all (.comp ["part"] (.call 16 [.var 0,.var 2]) [⟨.name 2,.val (.var 1),none⟩])))]
abbrev jW:List CS:=[.ifs (.not (.call 3 [.var 1,.int 7,.int 7])) [.ret (.bl false)] [],.asg (.tup [.name 2,.name 3,.name 4,.name 5,.name 6,.name 7,.name 8]) (.var 1),.ifs (.not (.all (.comp ["minute"] (.call 2 [.var 9]) [⟨.name 9,.val (.tup [.var 3,.var 4,.var 5,.var 6]),none⟩]))) [.ret (.bl false)] [],.ifs (.not (.chn .le .le (.bin .add (.var 3) (.ix (.var 0) (.int 1))) (.var 4) (.var 5))) [.ret (.bl false)] [],.ret (.and (.call 11 [.var 0,.var 2]) (.and (.call 1 [.var 7,.int 0,.con 7 99]) (.call 1 [.var 8,.int 0,.ix (.var 0) (.int 0)])))]
abbrev fV:List CS:=[.ifs (.not (.call 4 [.var 1,.len (.var 0)])) [.ret (.bl false)] [],.ret (.all (.comp ["number", "glider"] (.or (.cmp .eq (.ix (.var 3) (.int 6)) (.int 0)) (.cmp .isin (.var 2) (.var 1))) [⟨.tup [.name 2,.name 3],.en (.var 0),none⟩]))]
abbrev cF:List RS:=[.rz (.not (.call 13 [.var 0])) 1]
abbrev fB:List CS:=[.ifs (.not (.var 1)) [.ret (.ix (.var 0) (.int 1))] [],.asg (.tup [.name 2,.name 3]) (.ix (.var 1) (.neg (.int 1))),.ret (.tup [.ix (.ix (.ix (.var 0) (.int 2)) (.var 2)) (.int 0),.var 3])]
abbrev nZ:List CS:=[.ifs (.cmp .is (.var 1) .non) [.ret (.int 0)] [],.ret (.bin .add (.ix (.var 1) (.int 1)) (.ix (.ix (.ix (.ix (.var 0) (.int 0)) (.int 2)) (.ix (.var 1) (.int 0))) (.var 2)))]
abbrev my:List CS:=[.asg (.tup [.name 3,.name 4]) (.var 1),.ret (.chn .le .lt (.ix (.ix (.ix (.var 0) (.int 2)) (.var 3)) (.int 1)) (.var 2) (.bin .sub (.var 4) (.ix (.ix (.var 0) (.int 0)) (.int 1))))]
abbrev fC:List CS:=[.ret (.len (.comp ["landing"] (.var 3) [⟨.name 3,.val (.var 1),some (.call 21 [.var 0,.var 3,.var 2])⟩]))]
abbrev dP:List CS:=[.ret (.srt (.comp ["glider"] (.ix (.var 1) (.int 1)) [⟨.name 1,.val (.ix (.var 0) (.int 2)),none⟩]))]
abbrev hJ:List CS:=[.asg (.tup [.name 3,.name 4,.name 5,.name 6,.name 7,.name 8,.name 9]) (.ix (.ix (.var 0) (.int 2)) (.ix (.ix (.var 1) (.var 2)) (.int 0))),.ret (.and (.cmp .gt (.var 9) (.int 0)) (.and (.call 21 [.var 0,.ix (.var 1) (.var 2),.var 4]) (.cmp .gt (.call 25 [.var 0,.var 1,.var 2,.var 4]) (.var 9))))]
abbrev hU:List CS:=[.asg (.name 4) (.sl (.var 1) none (some (.var 2))),.asg (.name 5) (.comp ["when"] (.var 6) [⟨.name 6,.val (.call 23 [.var 0]),some (.and (.cmp .gt (.var 6) (.var 3)) (.call 21 [.var 0,.ix (.var 1) (.var 2),.var 6]))⟩]),.ret (.mxL (.comp ["when"] (.bin .add (.int 1) (.call 22 [.var 0,.var 4,.var 6])) [⟨.name 6,.val (.bin .add (.lst [.var 3]) (.var 5)),none⟩]))]
abbrev eR:List RS:=[.ck 18 [.var 0],.rz (.not (.call 27 [.var 0,.var 1])) 3,.pl (.asg (.name 2) (.call 28 [.var 0,.var 1])),.pl (.ifs (.cmp .lt (.len (.var 2)) (.len (.var 1))) [.ret (.tup [.str "stuck", .len (.var 2)])] []),.pl (.ret (.tup [.str "lands", .var 2]))]
abbrev mz:List CS:=[.asg (.name 2) (.len (.ix (.var 0) (.int 2))),.ret (.and (.call 4 [.var 1,.var 2]) (.and (.cmp .eq (.len (.var 1)) (.var 2)) (.cmp .eq (.sl (.var 1) none (some (.len (.ix (.var 0) (.int 3))))) (.ix (.var 0) (.int 3)))))]
abbrev dq:List CS:=[.asg (.name 2) (.lst []),.for_ (.tup [.name 3,.name 4]) (.en (.var 1)) [.asg (.name 5) (.call 29 [.var 0,.call 19 [.var 0,.var 2],.var 4,.var 3]),.ifs (.cmp .is (.var 5) .non) [.ret (.var 2)] [],.ex (.app (.var 2) (.tup [.var 4,.var 5])),.ifs (.call 24 [.var 0,.var 2,.var 3]) [.ret (.sl (.var 2) none (some (.var 3)))] []],.ret (.var 2)]
abbrev eS:List CS:=[.asg (.tup [.name 4,.name 5,.name 6,.name 7,.name 8,.name 9,.name 10]) (.ix (.ix (.var 0) (.int 2)) (.var 2)),.asg (.name 11) (.call 12 [.ix (.var 0) (.int 0),.mx (.var 6) (.call 20 [.var 0,.var 1,.var 4])]),.ifs (.or (.cmp .gt (.var 11) (.var 7)) (.call 30 [.var 0,.var 3,.var 11])) [.ret .non] [],.ret (.var 11)]
abbrev dQ:List CS:=[.asg (.tup [.name 3,.name 4,.name 5,.name 6]) (.ix (.var 0) (.int 0)),.asg (.name 7) (.call 23 [.var 0]),.asg (.name 8) (.bin .add (.var 3) (.var 1)),.ret (.and (.cmp .lt (.var 8) (.len (.var 7))) (.cmp .gt (.bin .sub (.var 2) (.var 4)) (.ix (.var 7) (.var 8))))]
abbrev hV:List CS:=[.ifs (.cmp .lt (.var 1) (.len (.var 0))) [.ret (.ix (.var 0) (.var 1))] [],.ret (.int 0)]
abbrev n5:List CS:=[.ifs (.cmp .ge (.var 0) (.bin .pow (.int 10) (.int 18))) [.ret (.lst [.bin .sub (.var 0) (.bin .pow (.int 10) (.int 18))])] [],.asg (.name 1) (.int 0),.for_ (.name 2) (.r1 (.int 64)) [.asg (.name 3) (.bin .mod (.bin .mul (.bin .add (.bin .add (.bin .mod (.var 0) (.int 2147483629)) (.bin .mul (.int 7919) (.var 2))) (.int 1)) (.int 48271)) (.int 2147483647)),.asg (.name 3) (.bin .mod (.bin .add (.bin .add (.bin .mul (.var 3) (.var 3)) (.bin .mul (.int 69621) (.var 2))) (.int 7)) (.int 2147483587)),.asg (.name 1) (.bin .add (.bin .mul (.var 1) (.int 2147483587)) (.var 3))],.ret (.lst [.var 1])]
abbrev mB:List CS:=[.asg (.name 2) (.bin .mod (.ix (.var 0) (.int 0)) (.var 1)),.setI (.bin .fdiv (.ix (.var 0) (.int 0)) (.var 1)) (.var 0) (.int 0),.ret (.var 2)]
abbrev jX:List CS:=[.ret (.and (.inst .int (.var 0)) (.not (.inst .bool (.var 0))))]
abbrev fh:List CS:=[.asg (.tup [.name 1,.name 2]) (.tup [.bin .add (.int 1) (.call 33 [.var 0,.int 4]),.ix (.lst [.int 3,.int 12,.int 40]) (.call 33 [.var 0,.int 3])]),.asg (.name 3) (.comp ["_law_a"] (.comp ["_law_b"] (.bin .add (.int 1) (.call 33 [.var 0,.var 2])) [⟨.name 7,.r1 (.var 1),none⟩]) [⟨.name 6,.r1 (.var 1),none⟩]),.for_ (.name 4) (.r1 (.var 1)) [.for_ (.name 5) (.r1 (.var 1)) [.setI (.comp ["_law_b"] (.mn (.ix (.ix (.var 3) (.var 5)) (.var 6)) (.bin .add (.ix (.ix (.var 3) (.var 5)) (.var 4)) (.ix (.ix (.var 3) (.var 4)) (.var 6)))) [⟨.name 6,.r1 (.var 1),none⟩]) (.var 3) (.var 5)]],.ret (.tupOf (.comp ["_law_row"] (.tupOf (.var 6)) [⟨.name 6,.val (.var 3),none⟩]))]
abbrev jd:List CS:=[.asg (.tup [.name 1,.name 2]) (.tup [.lst [],.int 0]),.for_ (.name 3) (.r1 (.call 33 [.var 0,.ix (.lst [.int 1,.int 5]) (.call 33 [.var 0,.int 2])])) [.asg (.name 4) (.bin .add (.var 2) (.call 33 [.var 0,.int 25])),.ex (.app (.var 1) (.tup [.var 4,.bin .add (.bin .add (.var 4) (.int 1)) (.call 33 [.var 0,.int 25])])),.asg (.name 2) (.bin .add (.ix (.ix (.var 1) (.neg (.int 1))) (.int 1)) (.int 1))],.ret (.tup [.ix (.lst [.int 8,.int 1,.int 2,.int 3,.int 0]) (.call 33 [.var 0,.int 5]),.ix (.lst [.int 0,.int 2,.int 9,.int 60]) (.call 33 [.var 0,.int 4]),.call 35 [.var 0],.tupOf (.var 1)])]
abbrev gN:List CS:=[.asg (.tup [.name 2,.name 3]) (.tup [.call 36 [.var 0],.lst []]),.asg (.tup [.name 4,.name 5]) (.tup [.ix (.lst [.int 5,.int 20,.int 60]) (.call 33 [.var 0,.int 3]),.ix (.lst [.int 4,.int 30,.int 90,.int 400]) (.call 33 [.var 0,.int 4])]),.for_ (.name 6) (.r1 (.call 33 [.var 0,.bin .add (.var 1) (.int 1)])) [.asg (.name 7) (.call 33 [.var 0,.var 4]),.asg (.name 8) (.bin .add (.bin .add (.var 7) (.ix (.var 2) (.int 1))) (.ix (.lst [.int 0,.call 33 [.var 0,.int 9]]) (.call 33 [.var 0,.int 2]))),.asg (.tup [.name 9,.name 10]) (.tup [.bin .add (.var 8) (.call 33 [.var 0,.var 5]),.bin .add (.var 7) (.call 33 [.var 0,.var 5])]),.ex (.app (.var 3) (.lst [.call 33 [.var 0,.len (.ix (.var 2) (.int 2))],.var 7,.var 8,.var 9,.var 10,.ix (.lst [.int 0,.int 1,.int 7,.int 99]) (.call 33 [.var 0,.int 4]),.int 0]))],.asg (.tup [.name 11,.name 12]) (.tup [.listR (.len (.var 3)),.lst []]),.for_ (.name 13) (.r1 (.ix (.lst [.int 0,.call 33 [.var 0,.bin .add (.len (.var 3)) (.int 1)]]) (.call 33 [.var 0,.int 2]))) [.ex (.app (.var 12) (.popAt (.var 11) (.call 33 [.var 0,.len (.var 11)]))),.ifs (.and (.cmp .gt (.ix (.var 2) (.int 0)) (.int 0)) (.cmp .eq (.call 33 [.var 0,.int 3]) (.int 0))) [.setI (.bin .add (.int 1) (.call 33 [.var 0,.ix (.var 2) (.int 0)])) (.ix (.var 3) (.ix (.var 12) (.neg (.int 1)))) (.int 6)] []],.asg (.name 14) (.ix (.lst [.non,.tup [.call 33 [.var 0,.len (.ix (.var 2) (.int 2))],.call 33 [.var 0,.int 30]]]) (.call 33 [.var 0,.int 2])),.ret (.tup [.var 2,.var 14,.tupOf (.comp ["_law_one"] (.tupOf (.var 15)) [⟨.name 15,.val (.var 3),none⟩]),.tupOf (.var 12)])]
abbrev mD:List CS:=[.for_ (.tup [.name 2,.name 3]) (.val (.var 0)) [.ifs (.chn .le .lt (.var 2) (.var 1) (.var 3)) [.asg (.name 1) (.var 3)] []],.ret (.var 1)]
abbrev jY:List CS:=[.ret (.comp ["_law_one", "_law_minute"] (.var 3) [⟨.tup [.name 3,.name 4],.val (.var 1),some (.chn .le .lt (.ix (.ix (.ix (.var 0) (.int 2)) (.var 3)) (.int 1)) (.var 2) (.bin .sub (.var 4) (.ix (.ix (.var 0) (.int 0)) (.int 1))))⟩])]
abbrev mE:List CS:=[.asg (.name 4) (.ix (.ix (.ix (.var 0) (.int 2)) (.var 2)) (.int 1)),.asg (.name 5) (.bin .add (.lst [.var 4]) (.comp ["_law_one", "_law_when"] (.ix (.ix (.ix (.var 0) (.int 2)) (.var 7)) (.int 1)) [⟨.tup [.name 7,.name 8],.val (.var 1),none⟩])),.asg (.name 6) (.comp ["_law_at"] (.bin .add (.int 1) (.len (.call 39 [.var 0,.var 1,.var 7]))) [⟨.name 7,.val (.var 5),some (.chn .le .lt (.var 4) (.var 7) (.bin .sub (.var 3) (.ix (.ix (.var 0) (.int 0)) (.int 1))))⟩]),.ret (.mxD (.var 6) 0)]
abbrev fj:List CS:=[.asg (.tup [.name 4,.name 5,.name 6,.name 7]) (.sl (.ix (.ix (.var 0) (.int 2)) (.var 2)) none (some (.int 4))),.ifs (.cmp .isnot (.var 1) .non) [.asg (.name 6) (.mx (.var 6) (.bin .add (.ix (.var 1) (.int 1)) (.ix (.ix (.ix (.ix (.var 0) (.int 0)) (.int 2)) (.ix (.var 1) (.int 0))) (.var 4))))] [],.asg (.name 8) (.call 38 [.ix (.ix (.var 0) (.int 0)) (.int 3),.var 6]),.asg (.name 9) (.sl (.srt (.comp ["_law_one"] (.ix (.var 10) (.int 1)) [⟨.name 10,.val (.ix (.var 0) (.int 2)),none⟩])) (some (.bin .add (.ix (.ix (.var 0) (.int 0)) (.int 0)) (.var 3))) none),.ifs (.or (.cmp .gt (.var 8) (.var 7)) (.and (.cmp .ne (.var 9) (.lst [])) (.cmp .gt (.bin .sub (.var 8) (.ix (.ix (.var 0) (.int 0)) (.int 1))) (.ix (.var 9) (.int 0))))) [.ret .non] [],.ret (.var 8)]
abbrev hX:List CS:=[.asg (.tup [.name 2,.name 3]) (.tup [.ix (.var 0) (.int 1),.lst []]),.for_ (.tup [.name 4,.name 5]) (.en (.var 1)) [.asg (.tup [.name 6,.name 7]) (.tup [.call 41 [.var 0,.var 2,.var 5,.var 4],.ix (.ix (.ix (.var 0) (.int 2)) (.var 5)) (.int 6)]),.ifs (.or (.cmp .is (.var 6) .non) (.chn .lt .lt (.int 0) (.var 7) (.call 40 [.var 0,.var 3,.var 5,.var 6]))) [.ret (.tup [.str "stuck", .var 4])] [],.ex (.app (.var 3) (.tup [.var 5,.var 6])),.asg (.name 2) (.tup [.ix (.ix (.ix (.var 0) (.int 2)) (.var 5)) (.int 0),.var 6])],.ret (.tup [.str "lands", .var 3])]
abbrev fW:List CS:=[.asg (.name 2) (.listOf (.var 1)),.ret (.comp ["_law_one"] (.popAt (.var 2) (.call 33 [.var 0,.len (.var 2)])) [⟨.name 3,.val (.var 1),none⟩])]
abbrev fX:List CS:=[.asg (.name 2) (.call 43 [.var 0,.comp ["_law_one"] (.var 3) [⟨.name 3,.r1 (.len (.ix (.var 1) (.int 2))),some (.cmp .notin (.var 3) (.ix (.var 1) (.int 3)))⟩]]),.ifs (.cmp .eq (.call 33 [.var 0,.int 2]) (.int 0)) [.asg (.name 2) (.comp ["_law_first", "_law_one"] (.var 4) [⟨.tup [.name 3,.name 4],.val (.srt (.comp ["_law_one"] (.tup [.ix (.ix (.ix (.var 1) (.int 2)) (.var 3)) (.int 2),.var 3]) [⟨.name 3,.val (.var 2),none⟩])),none⟩])] [],.ret (.bin .add (.ix (.var 1) (.int 3)) (.tupOf (.var 2)))]
abbrev uq:List CS:=[.never,.never,.never,.never,.never,.never]
abbrev dr:List RS:=[.tr 26 [.var 0,.var 1]]
abbrev fY:List CS:=[.ifs (.or (.not (.inst .tuple (.var 1))) (.not (.all (.comp ["_law_one"] (.call 34 [.var 2]) [⟨.name 2,.val (.var 1),none⟩])))) [.ret (.bl false)] [],.ret (.and (.cmp .eq (.srt (.var 1)) (.listR (.len (.ix (.var 0) (.int 2))))) (.cmp .eq (.sl (.var 1) none (some (.len (.ix (.var 0) (.int 3))))) (.ix (.var 0) (.int 3))))]
abbrev mF:List CS:=[.asg (.tup [.name 2,.name 3]) (.tup [.call 33 [.var 0,.bin .add (.len (.var 1)) (.int 1)],.bin .add (.int 7) (.call 33 [.var 0,.bin .pow (.int 10) (.int 30)])]),.asg (.name 4) (.ix (.lst [.int 0,.int 1,.int 6,.int 7,.neg (.int 1),.var 3,.bin .sub (.int 0) (.var 3),.bl true,.bl false,.non,.str "0", .tup [],.lst [.int 0],.dic0]) (.call 33 [.var 0,.int 14])),.asg (.tup [.name 5,.name 6]) (.tup [.sl (.var 1) none (some (.var 2)),.sl (.var 1) (some (.var 2)) (some (.bin .add (.var 2) (.int 1)))]),.asg (.name 7) (.sl (.var 1) (some (.bin .add (.var 2) (.int 1))) none),.asg (.name 8) (.lst [.bin .add (.bin .add (.bin .add (.var 5) (.tup [.var 4])) (.var 6)) (.var 7),.bin .add (.bin .add (.var 5) (.tup [.var 4])) (.var 7),.bin .add (.var 5) (.var 7),.bin .add (.bin .add (.bin .add (.var 5) (.var 6)) (.var 6)) (.var 7)]),.asg (.name 8) (.bin .add (.var 8) (.lst [.rev (.var 1),.bin .add (.bin .add (.var 6) (.var 7)) (.var 5),.listOf (.var 1),.dic1 0 1,.strI (.var 2),.non,.tup [.var 1],.var 4])),.asg (.name 9) (.tupOf (.comp ["_law_one"] (.ite (.cmp .lt (.var 10) (.int 2)) (.cmp .eq (.var 10) (.int 1)) (.var 10)) [⟨.name 10,.val (.var 1),none⟩])),.asg (.name 8) (.bin .add (.var 8) (.lst [.bin .add (.bin .add (.bin .add (.var 5) (.sl (.var 7) none (some (.int 1)))) (.var 6)) (.sl (.var 7) (some (.int 1)) none),.var 9])),.ret (.ix (.var 8) (.call 33 [.var 0,.len (.var 8)]))]
abbrev rQ:List CS:=[.for_ (.name 1) (.r1 (.mx (.int 1) (.mn (.len (.var 0)) (.int 10)))) [.asg (.name 2) (.call 32 [.call 31 [.var 0,.var 1]]),.asg (.name 3) (.call 37 [.var 2,.int 7]),.asg (.name 4) (.call 44 [.var 2,.var 3]),.asg (.name 5) (.rep (.call 42 [.var 3,.var 4])),.for_ (.name 6) (.r1 (.int 6)) [.asg (.name 7) (.call 48 [.var 2,.var 4]),.asg (.name 8) (.str "'order'"),.ifs (.call 47 [.var 3,.var 7]) [.asg (.name 8) (.rep (.call 42 [.var 3,.var 7]))] [],.asg (.name 9) (.rep (.var 7)),.ifs (.or (.cmp .ne (.rep (.call 46 [.var 3,.var 7])) (.var 8)) (.or (.cmp .ne (.rep (.var 7)) (.var 9)) (.cmp .ne (.rep (.call 46 [.var 3,.var 4])) (.var 5)))) [.ret (.bl false)] [],.asg (.name 10) (.lst [.non,.sl (.var 3) none (some (.int 3)),.listOf (.var 3),.tup [.var 3],.bin .add (.var 3) (.tup [.tup []]),.int 7,.dic0]),.ex (.app (.var 10) (.bin .add (.sl (.var 3) none (some (.int 3))) (.tup [.bin .add (.ix (.var 3) (.int 3)) (.tup [.int 7])]))),.asg (.name 11) (.ix (.var 10) (.call 33 [.var 2,.int 8])),.ifs (.cmp .ne (.call 46 [.var 11,.ix (.lst [.var 7,.var 4]) (.bin .mod (.var 6) (.int 2))]) (.str "sky")) [.ret (.bl false)] []]],.ret (.bl true)]
abbrev ij:DefE:=⟨"is_whole", top 19,["thing"],1,mj,none⟩
abbrev fZ:DefE:=⟨"is_within", top 20,["thing", "least", "most"],3,jS,none⟩
abbrev f8:DefE:=⟨"is_minute", top 21,["thing"],1,jT,none⟩
abbrev ik:DefE:=⟨"is_tuple", top 22,["thing", "least", "most"],3,mq,none⟩
abbrev bV:DefE:=⟨"are_unlike", top 23,["thing", "many"],2,fg,none⟩
abbrev f9:DefE:=⟨"is_meadow", top 30,["thing", "rings", "sink", "gaps", "shuts"],1,jU,none⟩
abbrev im:DefE:=⟨"are_gaps", top 31,["thing"],1,mv,none⟩
abbrev fk:DefE:=⟨"is_gap_row", top 32,["thing", "many"],2,ja,none⟩
abbrev bf:DefE:=⟨"no_glider_between_helps", top 33,["gaps", "kinds"],1,bK,none⟩
abbrev gf:DefE:=⟨"are_shuts", top 34,["thing"],1,jV,none⟩
abbrev fm:DefE:=⟨"is_stretch", top 35,["thing"],1,jb,none⟩
abbrev jD:DefE:=⟨"is_kind", top 36,["meadow", "thing"],2,nY,none⟩
abbrev ci:DefE:=⟨"first_not_shut", top 37,["meadow", "minute", "begin", "end"],2,eP,none⟩
abbrev dz:DefE:=⟨"is_sky", top 41,["thing", "meadow", "ahead", "gliders", "fixed"],1,jc,none⟩
abbrev io:DefE:=⟨"is_ahead", top 42,["meadow", "thing"],2,mw,none⟩
abbrev dZ:DefE:=⟨"are_gliders", top 43,["meadow", "thing"],2,hF,none⟩
abbrev gg:DefE:=⟨"is_glider", top 44,["meadow", "thing", "kind", "joins", "first", "last", "due", "weight", "ring"],2,jW,none⟩
abbrev cG:DefE:=⟨"are_fixed", top 45,["gliders", "thing"],2,fV,none⟩
abbrev gh:DefE:=⟨"check_sky", top 46,["thing"],1,[],some cF⟩
abbrev cO:DefE:=⟨"landing_ahead", top 48,["sky", "sooner", "number", "minute"],2,fB,none⟩
abbrev jE:DefE:=⟨"gap_end", top 49,["sky", "ahead", "kind"],3,nZ,none⟩
abbrev ip:DefE:=⟨"waits_at", top 50,["sky", "landing", "minute", "number", "lands"],3,my,none⟩
abbrev cP:DefE:=⟨"how_many_wait", top 51,["sky", "landings", "minute"],3,fC,none⟩
abbrev bX:DefE:=⟨"joining_minutes", top 52,["sky"],1,dP,none⟩
abbrev ek:DefE:=⟨"is_too_high", top 53,["sky", "landings", "place", "kind", "joins", "first", "last", "due", "weight", "ring"],3,hJ,none⟩
abbrev eu:DefE:=⟨"ring_needed", top 54,["sky", "landings", "place", "minute", "sooner", "later"],4,hU,none⟩
abbrev jF:DefE:=⟨"soonest", top 56,["sky", "order", "landings"],2,[],some eR⟩
abbrev iq:DefE:=⟨"is_order", top 57,["sky", "thing", "many"],2,mz,none⟩
abbrev bR:DefE:=⟨"soonest_landings", top 58,["sky", "numbers", "landings", "place", "number", "minute"],2,dq,none⟩
abbrev cj:DefE:=⟨"soonest_minute", top 59,["sky", "ahead", "number", "place", "kind", "joins", "first", "last", "due", "weight", "ring", "minute"],4,eS,none⟩
abbrev bZ:DefE:=⟨"leaves_too_late", top 60,["sky", "place", "minute", "rings", "sink", "gaps", "shuts", "joins", "one_too_many"],3,dQ,none⟩
abbrev eD:DefE:=⟨"_law_cell_at", top 62,["_law_script", "_law_k"],2,hV,none⟩
abbrev jG:DefE:=⟨"_law_pot", top 63,["_law_cell", "_law_number", "_law_j", "_law_more"],1,n5,none⟩
abbrev ir:DefE:=⟨"_law_take", top 64,["_law_pot_here", "_law_wide", "_law_found"],2,mB,none⟩
abbrev gj:DefE:=⟨"_law_whole", top 65,["_law_found"],1,jX,none⟩
abbrev iu:DefE:=⟨"_law_gaps", top 66,["_law_pot_here", "_law_many", "_law_far", "_law_found", "_law_c", "_law_a"],1,fh,none⟩
abbrev fo:DefE:=⟨"_law_meadow", top 67,["_law_pot_here", "_law_shuts", "_law_at", "_law_turn", "_law_begin"],1,jd,none⟩
abbrev jH:DefE:=⟨"_law_sky", top 68,["_law_pot_here", "_law_most", "_law_meadow_here", "_law_gliders", "_law_wide", "_law_long", "_law_number", "_law_joins", "_law_first", "_law_last", "_law_due", "_law_left", "_law_fixed", "_law_turn", "_law_ahead"],2,gN,none⟩
abbrev iw:DefE:=⟨"_law_open", top 69,["_law_shuts", "_law_minute", "_law_begin", "_law_end"],2,mD,none⟩
abbrev gk:DefE:=⟨"_law_waits", top 70,["_law_sky_here", "_law_landed", "_law_at"],3,jY,none⟩
abbrev iy:DefE:=⟨"_law_need", top 71,["_law_sky_here", "_law_landed", "_law_number", "_law_minute", "_law_joins", "_law_known", "_law_counts"],4,mE,none⟩
abbrev iz:DefE:=⟨"_law_step", top 72,["_law_sky_here", "_law_ahead", "_law_number", "_law_place", "_law_kind", "_law_joins", "_law_first", "_law_last", "_law_minute", "_law_late"],4,fj,none⟩
abbrev eF:DefE:=⟨"_law_soonest", top 73,["_law_sky_here", "_law_order_here", "_law_ahead", "_law_landed", "_law_place", "_law_number", "_law_minute", "_law_ring"],2,hX,none⟩
abbrev dC:DefE:=⟨"_law_shuffled", top 74,["_law_pot_here", "_law_some", "_law_left"],2,fW,none⟩
abbrev gm:DefE:=⟨"_law_order", top 75,["_law_pot_here", "_law_sky_here", "_law_rest"],2,fX,none⟩
abbrev ur:DefE:=⟨"_law_word", top 76,["_law_e", "_law_kinds"],1,uq,none⟩
abbrev iA:DefE:=⟨"_law_told", top 77,["_law_sky_here", "_law_order_here", "_law_e"],2,[],some dr⟩
abbrev dD:DefE:=⟨"_law_is_order", top 78,["_law_sky_here", "_law_thing"],2,fY,none⟩
abbrev iB:DefE:=⟨"_law_bent", top 79,["_law_pot_here", "_law_order_here", "_law_at", "_law_far", "_law_odd", "_law_low", "_law_here", "_law_high", "_law_some", "_law_truths"],2,mF,none⟩
abbrev wk:DefE:=⟨"law", top 80,["_law_script", "_law_k", "_law_pot_here", "_law_sky_here", "_law_right", "_law_due", "_law_turn", "_law_order_here", "_law_wanted", "_law_kept", "_law_none", "_law_bad"],1,rQ,none⟩
abbrev ag:List DefE:=[ij,fZ,f8,ik,bV,f9,im,fk,bf,gf,fm,jD,ci,dz,io,dZ,gg,cG,gh,cO,jE,ip,cP,bX,ek,eu,jF,iq,bR,cj,bZ,eD,jG,ir,gj,iu,fo,jH,iw,gk,iy,iz,eF,dC,gm,ur,iA,dD,iB,wk]
theorem chk:ag.all (Bk (nV con ag))=true:=by kernel_rfl
theorem Qc:ag.any v8=true:=by kernel_rfl
theorem us1:∀ {us:List Value},us.length=1->∃a0,us=[a0]
 |[a0],_=>⟨a0,rfl⟩
theorem us2:∀ {us:List Value},us.length=2->∃a0 a1,us=[a0,a1]
 |[a0,a1],_=>⟨a0,a1,rfl⟩
theorem us3:∀ {us:List Value},us.length=3->∃a0 a1 a2,us=[a0,a1,a2]
 |[a0,a1,a2],_=>⟨a0,a1,a2,rfl⟩
theorem us4:∀ {us:List Value},us.length=4->∃a0 a1 a2 a3,us=[a0,a1,a2,a3]
 |[a0,a1,a2,a3],_=>⟨a0,a1,a2,a3,rfl⟩
theorem bind:yg ag:=by
 repeat' apply And.intro
 all_goals first |trivial |(intro _ _ _ _ _ _ us hl;first |(obtain⟨_,rfl⟩:=us1 hl;rfl) |(obtain⟨_,_,rfl⟩:=us2 hl;rfl) |(obtain⟨_,_,_,rfl⟩:=us3 hl;rfl) |(obtain⟨_,_,_,_,rfl⟩:=us4 hl;rfl))
end Lw
section
open PySem PySem.W PyProof.Rows
theorem Lw.eqs(h:Heap):Ev.yf Lw.con Lw.ag h=(h.isNs V6,(Lw.nx.take 33).map (λx=>Ev.sG h (.ofString x.1))++(Lw.nx.drop 33).map (λx=>Ev.sG h (.ofString x.1)),Lw.con.map (λc=>Ev.CK h c.1),(Ev.fD.map λx=>(h.nsMap V6 x).isNone),Ev.yG h):=by kernel_rfl
theorem Lw.eqv:Ev.rO Lw.con Lw.ag=(true,Lw.vb (Lw.nx.take 33)++Lw.vb (Lw.nx.drop 33),Lw.con.map (λc=>some c.2),(Ev.fD.map λ_=>true),true):=by kernel_rfl
theorem Lw.partC:Cut.PartC PySem.Challenge.rw_downrings_k32_what_is_no_order.row.toRowW.prog (Hook.obs (Ev.jC Lw.con Lw.ag Lw.bind)) (Hook.val (Ev.jC Lw.con Lw.ag Lw.bind)):=λw=>by
 have z:=Cut.two (λa (b:Ev.rN)=>((b.1,a++b.2.1,b.2.2):Ev.rN)) Lw.HG Lw.HH w;show XC (λs=>Ev.yf Lw.con Lw.ag s.heap) (Cut.fin _ w)=some (Ev.rO Lw.con Lw.ag);rw[Lw.eqv,show(λs:Shared=>Ev.yf Lw.con Lw.ag s.heap)=_ from funext λs=>Lw.eqs s.heap];exact z
set_option maxHeartbeats 0 in
theorem Lw.head(hmain:∀ns:List Int,ns.length<=63->∃S',Ev.evC Lw.ag 40 49 [.ref 0] [.frz (ns.map Ev.D.int)]=some (.bl true,S')):PySem.Challenge.rw_downrings_k32_what_is_no_order.Holds:=by
 w_on;refine holds_law Lw.said λsaid=>?_
 refine holds_open (q:=Lw.view) (loose:=Lw.loose) (Xt:=(λs=>xlAt Lw.view [] s && recOk (RowW.records PySem.Challenge.rw_downrings_k32_what_is_no_order.row.toRowW) s)) (XP:=XL Lw.view []) (Yf:=(Hook.obs (Ev.jC Lw.con Lw.ag Lw.bind))) (Ya:=(Hook.val (Ev.jC Lw.con Lw.ag Lw.bind))) (YP:=Hook.says (Ev.jC Lw.con Lw.ag Lw.bind)) (N:=20000) ?hl (Hook.of _) (Hook.keeps _) (λs e=>xl_of s (Xp.mp e).1) XL.keeps (by rfl) (by rfl) (by rfl) (λs e=>recFacts_of (Xp.mp e).2) (by rfl) (by first |assumption |decide +kernel) (by decide +kernel) ⟨rfl,rfl,rfl,rfl,rfl,by decide +kernel⟩ ?hw ?hc
 case hw=>w_witness2
 case hl=>exact Cut.left_cut Lw.opn Lw.partA Lw.partB Lw.partC
 case hc=>exact Ev.Eu (l:=PySem.Challenge.rw_downrings_k32_what_is_no_order) (n:=63) (k:=40) (i:=49) (dl:=Lw.wk) rfl (by decide) rfl ⟨rfl,by decide,by decide,rfl⟩ rfl rfl rfl Lw.chk Lw.Qc hmain
end
namespace Ev
open PySem PySem.Spec PyProof.Rows L2
def Ok{α:Type}(x:Option (α × Sto))(Q:α->Sto->Prop):Prop:=∃a S,x=some (a,S)/\Q a S
def OkS(x:Option (Fl × Rho × Sto))(Q:Fl->Rho->Sto->Prop):Prop:=∃f ρ S,x=some (f,ρ,S)/\Q f ρ S
section
variable {α β:Type} {S S':Sto} {ρ ρ':Rho}
theorem av{a:α}:Ok (some (a,S)) Q=Q a S:=by
 apply propext;exact⟨λ⟨_,_,e,q⟩=>by cases e;exact q,λq=>⟨a,S,rfl,q⟩⟩
theorem bc:Ok none Q=False:=propext ⟨λ⟨_,_,e,_⟩=>(nomatch e),λh=>h.elim⟩
theorem bG:Ok (bnd x f) Q=Ok x λa S=>Ok (f a S) Q:=by
 apply propext;constructor
 ·rintro⟨b,S',e,q⟩;obtain⟨a,S,e1,e2⟩:=ae e;exact⟨a,S,e1,b,S',e2,q⟩
 ·rintro⟨a,S,e1,b,S',e2,q⟩;exact⟨b,S',by rw[e1];exact e2,q⟩
theorem dE{c:Prop}[Decidable c]:Ok (if c then x else y) Q=if c then Ok x Q else Ok y Q:=by split <;> rfl
theorem J0{x:Option β}{f:β->α × Sto}{Q:α->Sto->Prop}:Ok (x.map f) Q=∃b,x=some b/\Q (f b).1 (f b).2:=by
 apply propext;cases x with
 |none=>exact⟨λ⟨_,_,e,_⟩=>(nomatch e),λ⟨_,e,_⟩=>(nomatch e)⟩
 |some b=>exact⟨λ⟨a,S,e,q⟩=>⟨b,rfl,by have e':=Option.some.inj e;rw[e'];exact q⟩,λ⟨b',e,q⟩=>by cases e;exact⟨_,_,rfl,q⟩⟩
theorem Ok.mono(h:Ok x Q)(f:∀a S,Q a S->Q' a S):Ok x Q':=let ⟨a,S,e,q⟩:=h;⟨a,S,e,f a S q⟩
theorem OkS.mono(h:OkS x Q)(f:∀a ρ S,Q a ρ S->Q' a ρ S):OkS x Q':=let ⟨a,ρ,S,e,q⟩:=h;⟨a,ρ,S,e,f a ρ S q⟩
def nxt(y:XS)(Q:Fl->Rho->Sto->Prop)(f:Fl)(ρ:Rho)(S:Sto):Prop:=match f with
 |.nx=>OkS (y ρ S) Q
 |f=>Q f ρ S
theorem Ew:OkS (t6 x y ρ S) Q=OkS (x ρ S) (nxt y Q):=by
 apply propext;unfold t6;constructor
 ·rintro⟨f,ρ1,S1,e,q⟩;split at e
  ·cases e
  ·rename_i ρ2 S2 h;exact⟨_,_,_,h,f,ρ1,S1,e,q⟩
  ·rename_i r n h;cases e;cases f with
   |nx=>exact absurd rfl (n ρ1 S1)
   |_=>exact⟨_,_,_,h,q⟩
 ·rintro⟨f,ρ1,S1,e,q⟩;rw[e];cases f with
  |nx=>exact q
  |_=>exact⟨_,_,_,rfl,q⟩
theorem J1:OkS (xIf c x y ρ S) Q=Ok (c ρ S) λb S1=>if b=true then OkS (x ρ S1) Q else OkS (y ρ S1) Q:=by
 apply propext;unfold xIf;constructor
 ·rintro⟨f,ρ1,S1,e,q⟩;cases h:c ρ S with
  |none=>rw[h] at e;cases e
  |some r=>
   obtain⟨b,S2⟩:=r;rw[h] at e;refine⟨b,S2,rfl,?_⟩;dsimp only at e ⊢;split
   ·rename_i hb;rw[if_pos hb] at e;exact⟨f,ρ1,S1,e,q⟩
   ·rename_i hb;rw[if_neg hb] at e;exact⟨f,ρ1,S1,e,q⟩
 ·rintro⟨b,S2,e,q⟩;rw[e];dsimp only;split
  ·rename_i hb;rw[if_pos hb] at q;exact q
  ·rename_i hb;rw[if_neg hb] at q;exact q
theorem Ex:OkS (lv x t ρ S) Q=Ok (x ρ S) λd S1=>∃ρ1,aB t d ρ=some ρ1/\Q .nx ρ1 S1:=by
 apply propext;unfold lv;constructor
 ·rintro⟨f,ρ1,S1,e,q⟩;cases h:x ρ S with
  |none=>rw[h] at e;cases e
  |some r=>
   obtain⟨d,S2⟩:=r;rw[h] at e;dsimp only at e;cases h2:aB t d ρ with
   |none=>rw[h2] at e;cases e
   |some ρ2=>rw[h2] at e;cases e;exact⟨d,_,rfl,ρ1,h2,q⟩
 ·rintro⟨d,S2,e,ρ1,e2,q⟩;rw[e];dsimp only;rw[e2];exact⟨_,_,_,rfl,q⟩
theorem Bp:OkS (qU x ρ S) Q=Ok (x ρ S) λ_ S1=>Q .nx ρ S1:=by
 apply propext;unfold qU;constructor
 ·rintro⟨f,ρ1,S1,e,q⟩;cases h:x ρ S with
  |none=>rw[h] at e;cases e
  |some r=>rw[h] at e;cases e;exact⟨_,_,rfl,q⟩
 ·rintro⟨d,S2,e,q⟩;rw[e];exact⟨_,_,_,rfl,q⟩
theorem Ey:OkS (Ae x ρ S) Q=Ok (x ρ S) λd S1=>Q (.rt d) ρ S1:=by
 apply propext;unfold Ae;constructor
 ·rintro⟨f,ρ1,S1,e,q⟩;cases h:x ρ S with
  |none=>rw[h] at e;cases e
  |some r=>rw[h] at e;cases e;exact⟨_,_,rfl,q⟩
 ·rintro⟨d,S2,e,q⟩;rw[e];exact⟨_,_,_,rfl,q⟩
theorem Bq:OkS (qV v o i ρ S) Q=Ok (v ρ S) λa S1=>Ok (o ρ S1) λb S2=>Ok (i ρ S2) λc S3=>∃S4,lu b c a S3=some S4/\Q .nx ρ S4:=by
 apply propext;unfold qV;constructor
 ·rintro⟨f,ρ1,S1,e,q⟩;cases h:v ρ S with
  |none=>rw[h] at e;cases e
  |some r=>
   rw[h] at e;dsimp only at e;cases h2:o ρ r.2 with
   |none=>rw[h2] at e;cases e
   |some r2=>
    rw[h2] at e;dsimp only at e;cases h3:i ρ r2.2 with
    |none=>rw[h3] at e;cases e
    |some r3=>
     rw[h3] at e;dsimp only at e;cases h4:lu r2.1 r3.1 r.1 r3.2 with
     |none=>rw[h4] at e;cases e
     |some S4=>rw[h4] at e;cases e;exact⟨_,_,rfl,_,_,h2,_,_,h3,_,h4,q⟩
 ·rintro⟨a,S1,e1,b,S2,e2,c,S3,e3,S4,e4,q⟩;rw[e1];dsimp only;rw[e2];dsimp only;rw[e3];dsimp only;rw[e4];exact⟨_,_,_,rfl,q⟩
theorem Ez{k:Nat}:OkS (Af it tg b k ρ S) Q=Ok (it ρ S) λnx S1=>OkS (fP nx tg b k 0 ρ S1) Q:=by
 apply propext;unfold Af;constructor
 ·rintro⟨f,ρ1,S1,e,q⟩;cases h:it ρ S with
  |none=>rw[h] at e;cases e
  |some r=>rw[h] at e;exact⟨_,_,rfl,_,_,_,e,q⟩
 ·rintro⟨d,S2,e,q⟩;rw[e];exact q
def out(Q:D->Sto->Prop)(f:Fl)(_:Rho)(S:Sto):Prop:=match f with
 |.rt v=>Q v S
 |.nx=>Q .non S
 |_=>False
theorem J2:out Q (.rt d) ρ S=Q d S:=rfl
theorem J3:out Q .nx ρ S=Q .non S:=rfl
theorem aH{k f:Nat}(hd:ag[f]?=some d)(hρ:ds.map some++Zs (d.N.length - ds.length) none=ρ)(h:OkS (fS (evC ag k) (dY ag) 60 d.body ρ S) (out Q))(hr:d.rb=none:=by rfl):Ok (evC ag (k+1) f ds S) Q:=by
 subst hρ;obtain⟨fl,ρ1,S1,e,q⟩:=h;have e:fS (toC (evX ag k)) (dY ag) FU d.body _ S=some (fl,ρ1,S1):=e;have z:evX ag (k+1) f ds S=(Eo (toC (evX ag k)) (dY ag) d ds S).map λr=>(.val r.1,r.2):=by simp only[evX,hd,hr]
 unfold evC toC;rw[z];unfold Eo;rw[e];cases fl with
 |rt v=>exact⟨_,_,rfl,q⟩
 |nx=>exact⟨_,_,rfl,q⟩
 |bk=>exact q.elim
 |ct=>exact q.elim
theorem n6{N:Nat}(I:Nat->List D->Sto->Prop)
  (step:∀i acc S,i < N->I i acc S->∃d ρ1,nx i S=some (some d)/\aB tg d ρ=some ρ1/\Ok (c ρ1 S) λes S1=>I (i+1) (acc++es) S1) (stop:∀acc S,I N acc S->nx N S=some none) :
  ∀ (n i k:Nat) (acc:List D) (S:Sto),N=i+n->n < k->I i acc S->Ok (bo nx tg c ρ k i S) λes S'=>I N (acc++es) S'
 |0,i,k+1,acc,S,hN,hk,h=>by
  obtain rfl:N=i:=by lia
  simp only[bo,stop acc S h];exact⟨_,_,rfl,by show I _ (acc++[]) S;rw[ZS];exact h⟩
 |n+1,i,k+1,acc,S,hN,hk,h=>by
  obtain⟨d,ρ1,e1,e2,es,S1,e3,h'⟩:=step i acc S (by lia) h;simp only[bo,e1,e2,e3,bnd];obtain⟨rs,S2,e4,h2⟩:=n6 I step stop n (i+1) k (acc++es) S1 (by lia) (by lia) h';simp only[e4];exact⟨_,_,rfl,by show I _ (acc++(es++rs)) S2;rw[<-Yo];exact h2⟩
theorem eT{k:Nat}(N:Nat)(I:Nat->List D->Sto->Prop)(hk:N < k)
  (step:∀i acc S,i < N->I i acc S->∃d ρ1,nx i S=some (some d)/\aB tg d ρ=some ρ1/\Ok (c ρ1 S) λes S1=>I (i+1) (acc++es) S1) (stop:∀acc S,I N acc S->nx N S=some none) (h:I 0 [] S) :
  Ok (bo nx tg c ρ k 0 S) (I N):=(n6 I step stop N 0 k [] S (by lia) hk h).mono λes S' z=>by rw[X1] at z;exact z
theorem mG{N:Nat}(I:Nat->Rho->Sto->Prop)
  (step:∀i ρ S,i < N->I i ρ S->∃d ρ1,nx i S=some (some d)/\aB tg d ρ=some ρ1/\OkS (b ρ1 S) λfl ρ2 S2=>match fl with |.nx=>I (i+1) ρ2 S2 |.ct=>I (i+1) ρ2 S2 |.bk=>Q .nx ρ2 S2 |.rt d=>Q (.rt d) ρ2 S2)
  (stop:∀ρ S,I N ρ S->nx N S=some none/\Q .nx ρ S) :
  ∀ (n i k:Nat) (ρ:Rho) (S:Sto),N=i+n->n < k->I i ρ S->OkS (fP nx tg b k i ρ S) Q
 |0,i,k+1,ρ,S,hN,hk,h=>by
  obtain rfl:N=i:=by lia
  simp only[fP,(stop ρ S h).1];exact⟨_,_,_,rfl,(stop ρ S h).2⟩
 |n+1,i,k+1,ρ,S,hN,hk,h=>by
  obtain⟨d,ρ1,e1,e2,fl,ρ2,S2,e3,h'⟩:=step i ρ S (by lia) h;simp only[fP,e1,e2,e3];cases fl with
  |nx=>exact mG I step stop n (i+1) k ρ2 S2 (by lia) (by lia) h'
  |ct=>exact mG I step stop n (i+1) k ρ2 S2 (by lia) (by lia) h'
  |bk=>exact⟨_,_,_,rfl,h'⟩
  |rt d=>exact⟨_,_,_,rfl,h'⟩
theorem pG{k:Nat}(N:Nat)(I:Nat->Rho->Sto->Prop)(hk:N < k)
  (step:∀i ρ S,i < N->I i ρ S->∃d ρ1,nx i S=some (some d)/\aB tg d ρ=some ρ1/\OkS (b ρ1 S) λfl ρ2 S2=>match fl with |.nx=>I (i+1) ρ2 S2 |.ct=>I (i+1) ρ2 S2 |.bk=>Q .nx ρ2 S2 |.rt d=>Q (.rt d) ρ2 S2)
  (stop:∀ρ S,I N ρ S->nx N S=some none/\Q .nx ρ S) (h:I 0 ρ S):OkS (fP nx tg b k 0 ρ S) Q:=mG I step stop N 0 k ρ S (by lia) hk h
end
mutual
def TD(p:Nat)(S:Sto):Dw.D->D->Prop
 |.non,d=>d = .non
 |.bl b,d=>d = .bl b
 |.int i,d=>d = .int i
 |.str x,d=>d = .str x
 |.tup ts,d=>∃ds,d = .tup ds/\TDs p S ts ds
 |.lst ts,d=>∃n ds,d = .ref n/\n ≠ p/\S[n]?=some (.lst ds)/\TDs p S ts ds
 |.dic ks ts,d=>∃n ds,d = .ref n/\n ≠ p/\S[n]?=some (.dic ks ds)/\TDs p S ts ds
def TDs(p:Nat)(S:Sto):List Dw.D->List D->Prop
 |[],ds=>ds=[]
 |t::ts,ds=>∃d r,ds=d::r/\TD p S t d/\TDs p S ts r
end
def Kp(p:Nat)(S S':Sto):Prop:=∀i o,i ≠ p->S[i]?=some o->S'[i]?=some o
def Sm(S S':Sto):Prop:=∀ (i:Nat) (o:Ob),S[i]?=some o->S'[i]?=some o
theorem Sm.kp{p:Nat}(h:Sm S S'):Kp p S S':=λi o _ e=>h i o e
theorem Sm.refl(S:Sto):Sm S S:=λ_ _ e=>e
theorem Sm.trans(a:Sm S S1)(b:Sm S1 S2):Sm S S2:=λi o e=>b i o (a i o e)
theorem Sm.app(S X:Sto):Sm S (S++X):=λi o e=>by
 have hi:=(Zb.mp e).1;rw[Zt hi];exact e
theorem Kp.refl(p:Nat)(S:Sto):Kp p S S:=λ_ _ _ e=>e
theorem Kp.trans{p:Nat}(a:Kp p S S1)(b:Kp p S1 S2):Kp p S S2:=λi o n e=>b i o n (a i o n e)
mutual
theorem TD.keep{p:Nat}(k:Kp p S S'):∀ {t:Dw.D} {d:D},TD p S t d->TD p S' t d
 |.non,_,h=>by rw[TD] at h ⊢;exact h
 |.bl _,_,h=>by rw[TD] at h ⊢;exact h
 |.int _,_,h=>by rw[TD] at h ⊢;exact h
 |.str _,_,h=>by rw[TD] at h ⊢;exact h
 |.tup ts,_,h=>by rw[TD] at h ⊢;obtain⟨ds,e,q⟩:=h;exact⟨ds,e,TDs.keep k q⟩
 |.lst ts,_,h=>by rw[TD] at h ⊢;obtain⟨n,ds,e,ne,a,q⟩:=h;exact⟨n,ds,e,ne,k _ _ ne a,TDs.keep k q⟩
 |.dic ks ts,_,h=>by rw[TD] at h ⊢;obtain⟨n,ds,e,ne,a,q⟩:=h;exact⟨n,ds,e,ne,k _ _ ne a,TDs.keep k q⟩
theorem TDs.keep{p:Nat}(k:Kp p S S'):∀ {ts:List Dw.D} {ds:List D},TDs p S ts ds->TDs p S' ts ds
 |[],_,h=>by rw[TDs] at h ⊢;exact h
 |t::ts,_,h=>by rw[TDs] at h ⊢;obtain⟨d,r,e,a,q⟩:=h;exact⟨d,r,e,TD.keep k a,TDs.keep k q⟩
end
section
variable {p:Nat} {S S':Sto}
theorem pH:TD p S .non .non:=by rw[TD]
theorem Bs:TD p S (.bl b) (.bl b):=by rw[TD]
theorem aQ{i:Int}:TD p S (.int i) (.int i):=by rw[TD]
theorem mH:TD p S (.str x) (.str x):=by rw[TD]
theorem aC(h:TDs p S ts ds):TD p S (.tup ts) (.tup ds):=by rw[TD];exact⟨ds,rfl,h⟩
theorem aG:TDs p S [] []:=by rw[TDs]
theorem ac(h:TD p S t d)(q:TDs p S ts ds):TDs p S (t::ts) (d::ds):=by rw[TDs];exact⟨d,ds,rfl,h,q⟩
theorem TD.non(h:TD p S .non d):d = .non:=by rw[TD] at h;exact h
theorem TD.bl(h:TD p S (.bl b) d):d = .bl b:=by rw[TD] at h;exact h
theorem TD.int{i:Int}(h:TD p S (.int i) d):d = .int i:=by rw[TD] at h;exact h
theorem TD.str(h:TD p S (.str x) d):d = .str x:=by rw[TD] at h;exact h
theorem TD.tup(h:TD p S (.tup ts) d):∃ds,d = .tup ds/\TDs p S ts ds:=by rw[TD] at h;exact h
theorem TDs.cons(h:TDs p S (t::ts) ds):∃d r,ds=d::r/\TD p S t d/\TDs p S ts r:=by rw[TDs] at h;exact h
theorem TDs.nil(h:TDs p S [] ds):ds=[]:=by rw[TDs] at h;exact h
theorem TDs.len:∀ {ts:List Dw.D} {ds:List D},TDs p S ts ds->ds.length=ts.length
 |[],_,h=>by rw[h.nil];rfl
 |t::ts,_,h=>by obtain⟨d,r,rfl,_,q⟩:=h.cons;simp[q.len]
theorem TDs.get:∀ {ts:List Dw.D} {ds:List D} {i:Nat} {t:Dw.D},TDs p S ts ds->ts[i]?=some t->∃d,ds[i]?=some d/\TD p S t d
 |[],_,_,_,_,e=>by simp at e
 |t::ts,_,0,_,h,e=>by obtain⟨d,r,rfl,a,q⟩:=h.cons;simp at e;subst e;exact⟨d,rfl,a⟩
 |t::ts,_,i+1,_,h,e=>by obtain⟨d,r,rfl,a,q⟩:=h.cons;simp at e;obtain⟨x,hx,y⟩:=q.get e;exact⟨x,by simpa using hx,y⟩
theorem TDs.app:∀ {ts us:List Dw.D} {ds es:List D},TDs p S ts ds->TDs p S us es->TDs p S (ts++us) (ds++es)
 |[],_,_,_,h,q=>by rw[h.nil];exact q
 |t::ts,_,_,_,h,q=>by obtain⟨d,r,rfl,a,z⟩:=h.cons;exact ac a (z.app q)
abbrev tyT:Dw.D->String
 |.non => "NoneType" |.bl _ => "bool" |.int _ => "int" |.str _ => "str" |.tup _ => "tuple" |.lst _ => "list" |.dic _ _ => "dict"
theorem Oj(h:TD p S t d):tyN d S=some (tyT t):=by
 cases t with
 |non=>rw[h.non];rfl
 |bl _=>rw[h.bl];rfl
 |int _=>rw[h.int];rfl
 |str _=>rw[h.str];rfl
 |tup _=>obtain⟨_,rfl,_⟩:=h.tup;rfl
 |lst _=>rw[TD] at h;obtain⟨n,ds,rfl,_,e,_⟩:=h;simp only[tyN,e];rfl
 |dic _ _=>rw[TD] at h;obtain⟨n,ds,rfl,_,e,_⟩:=h;simp only[tyN,e];rfl
theorem gO(h:TD p S t d):lc ty d S=some (.bl (fK ty (tyT t)),S):=by
 unfold lc;rw[Oj h];rfl
end
theorem EA{n:Nat}:Ok (qY g n x ρ S) Q=Ok (x ρ S) λds S1=>ds.length=n/\Ok (g ds S1) Q:=by
 unfold qY;rw[bG]
 congr 1
 funext ds S1
 rw[dE,bc];apply propext;split
 ·rename_i h;exact⟨λz=>⟨h,z⟩,λz=>z.2⟩
 ·rename_i h;exact⟨λz=>z.elim,λz=>(h z.1).elim⟩
theorem J4:Ok (Aj x y ρ S) Q=Ok (x ρ S) λd S1=>∃b,d = .bl b/\if b=true then Ok (y ρ S1) Q else Q (.bl false) S1:=by
 unfold Aj;rw[bG]
 congr 1
 funext d S1
 apply propext;cases d with
 |bl b=>cases b <;> simp[av]
 |_=>simp[bc]
theorem Ol:Ok (xOr x y ρ S) Q=Ok (x ρ S) λd S1=>∃b,d = .bl b/\if b=true then Q (.bl true) S1 else Ok (y ρ S1) Q:=by
 unfold xOr;rw[bG]
 congr 1
 funext d S1
 apply propext;cases d with
 |bl b=>cases b <;> simp[av]
 |_=>simp[bc]
theorem J5:Ok (xR d S) Q=∃b,d = .bl b/\Q (.bl (!b)) S:=by
 apply propext;cases d with
 |bl b=>simp[xR,av]
 |_=>simp[xR,bc]
theorem J6:Ok (xS f g x y z ρ S) Q=Ok (x ρ S) λa S1=>Ok (y ρ S1) λb S2=>Ok (f a b S2) λr S3=>∃c,r = .bl c/\if c=true then Ok (z ρ S3) λe S4=>Ok (g b e S4) Q else Q (.bl false) S3:=by
 unfold xS;rw[bG]
 congr 1
 funext a S1
 rw[bG]
 congr 1
 funext b S2
 rw[bG]
 congr 1
 funext r S3
 apply propext;cases r with
 |bl c=>cases c <;> simp[av,bG]
 |_=>simp[bc]
theorem J7{i:Nat}:Ok (xt i ρ S) Q=∃d,ρ[i]?=some (some d)/\Q d S:=by
 apply propext;unfold xt;cases h:ρ[i]? with
 |none=>simp[bc]
 |some o=>cases o with
  |none=>simp[bc]
  |some d=>simp[av]
theorem Om{i j:Int}:Ok (aE .le (.int i) (.int j) S) Q=Q (.bl (decide (i<=j))) S:=av
theorem Oo{i j:Int}:Ok (aE .lt (.int i) (.int j) S) Q=Q (.bl (decide (i < j))) S:=av
theorem Op{i j:Int}:Ok (aE .gt (.int i) (.int j) S) Q=Q (.bl (decide (j < i))) S:=av
theorem Oq{i j:Int}:Ok (aE .ge (.int i) (.int j) S) Q=Q (.bl (decide (j<=i))) S:=av
theorem J8{i j:Int}:Ok (bO .add (.int i) (.int j) S) Q=Q (.int (i+j)) S:=av
theorem J9{i j:Int}:Ok (bO .sub (.int i) (.int j) S) Q=Q (.int (i - j)) S:=av
theorem Ot:Ok (xB x ρ S) Q=Ok (x ρ S) λd S1=>∃b,d = .bl b/\Q b S1:=by
 unfold xB;rw[bG]
 congr 1
 funext d S1
 apply propext;cases d with
 |bl b=>simp[av]
 |_=>simp[bc]
theorem EB{own k:Nat}:Ok (lw own it tg c k ρ S) Q=Ok (it ρ S) λnx S1=>dM tg (ρ++Zs own none)=true/\Ok (bo nx tg c (ρ++Zs own none) k 0 S1) λes S2=>es.length<=100000/\Q es S2:=by
 unfold lw;rw[bG]
 congr 1
 funext nx S1
 rw[dE,bc];apply propext
 have e:Ok (bnd (bo nx tg c (ρ++Zs own none) k 0 S1) λes S2=>if es.length<=100000 then some (es,S2) else none) Q=Ok (bo nx tg c (ρ++Zs own none) k 0 S1) λes S2=>es.length<=100000/\Q es S2:=by
  rw[bG]
  congr 1
  funext es S2
  rw[dE,bc,av];apply propext;split
  ·rename_i h;exact⟨λz=>⟨h,z⟩,λz=>z.2⟩
  ·rename_i h;exact⟨λz=>z.elim,λz=>(h z.1).elim⟩
 rw[e];split
 ·rename_i h;exact⟨λz=>⟨h,z⟩,λz=>z.2⟩
 ·rename_i h;exact⟨λz=>z.elim,λz=>(h z.1).elim⟩
theorem Bt{k:Nat}:Ok (jx it tg c k ρ S) Q=(dM tg ρ=true/\Ok (it ρ S) λnx S1=>Ok (bo nx tg c ρ k 0 S1) Q):=by
 unfold jx;rw[dE,bc,bG];apply propext;split
 ·rename_i h;exact⟨λz=>⟨h,z⟩,λz=>z.2⟩
 ·rename_i h;exact⟨λz=>z.elim,λz=>(h z.1).elim⟩
theorem EC:Ok (nz x ρ S) Q=Ok (x ρ S) λds S1=>ds.length<=1000/\Q ds S1:=by
 unfold nz;rw[bG]
 congr 1
 funext ds S1
 rw[dE,bc,av];apply propext;split
 ·rename_i h;exact⟨λz=>⟨h,z⟩,λz=>z.2⟩
 ·rename_i h;exact⟨λz=>z.elim,λz=>(h z.1).elim⟩
theorem ED:Ok (ka ds S) Q=(ds.length<=1000/\Q (.tup ds) S):=by
 unfold ka;rw[dE,bc,av];apply propext;split
 ·rename_i h;exact⟨λz=>⟨h,z⟩,λz=>z.2⟩
 ·rename_i h;exact⟨λz=>z.elim,λz=>(h z.1).elim⟩
theorem gP{α:Type}(l:List α)(g:α->Bool)(S:Sto):kf false (l.map λt=>D.bl (g t)) S=some (.bl (l.all g),S):=by
 unfold kf;have h1:(l.map λt=>D.bl (g t)).all zM=true:=by rw[Yh];simp[Function.comp_def,zM]
 have h2:(l.map λt=>D.bl (g t)).all xD=l.all g:=by rw[Yh];rfl
 rw[if_pos ⟨rfl,h1⟩,h2]
theorem pJ{p:Nat}{S:Sto}{ts:List Dw.D}{ds:List D}{tg:Tg}{c:XA}{ρ:Rho}{Q:List D->Sto->Prop}(h:TDs p S ts ds)(hl:ts.length<=100000)(g:Dw.D->Bool)
  (step:∀ (i:Nat) t d S',ts[i]?=some t->Sm S S'->TD p S' t d->∃ρ1,aB tg d ρ=some ρ1/\Ok (c ρ1 S') λes S1=>es=[.bl (g t)]/\Sm S' S1) (q:∀S',Sm S S'->Q (ts.map λt=>.bl (g t)) S') :
  Ok (bo (nxL ds) tg c ρ LF 0 S) λes S2=>es.length<=100000/\Q es S2:=by
 refine(eT ts.length (λi acc S'=>Sm S S'/\acc=(ts.take i).map λt=>.bl (g t)) (by unfold LF;lia) (λi acc S' hi ⟨sm,ea⟩=>?_) (λacc S' ⟨sm,ea⟩=>?_) ⟨Sm.refl S,by simp⟩).mono λes S' ⟨sm,ea⟩=>?_
 ·obtain⟨d,e1,td⟩:=h.get (gEG hi);obtain⟨ρ1,e2,es,S1,e3,rfl,sm'⟩:=step i ts[i] d S' (gEG hi) sm (td.keep sm.kp);refine⟨d,ρ1,by show some ds[i]?=_;rw[e1],e2,_,S1,e3,sm.trans sm',?_⟩;rw[ea,Z6 hi,ZK];rfl
 ·show some ds[ts.length]?=_;rw[ZA (by rw[h.len];lia)]
 ·rw[Xb] at ea;subst ea;exact⟨by rw[Za];exact hl,q S' sm⟩
theorem EF{S:Sto}{n:Nat}{lo:Int}{tg:Tg}{c:XA}{ρ:Rho}{Q:List D->Sto->Prop}(hl:n<=100000)(g:Nat->Bool)
  (step:∀ (i:Nat) S',i < n->Sm S S'->∃ρ1,aB tg (.int (lo+i)) ρ=some ρ1/\Ok (c ρ1 S') λes S1=>es=[.bl (g i)]/\Sm S' S1) (q:∀S',Sm S S'->Q ((Zk n).map λi=>.bl (g i)) S') :
  Ok (bo (nxR lo n) tg c ρ LF 0 S) λes S2=>es.length<=100000/\Q es S2:=by
 refine(eT n (λi acc S'=>Sm S S'/\acc=(Zk i).map λt=>.bl (g t)) (by unfold LF;lia) (λi acc S' hi ⟨sm,ea⟩=>?_) (λacc S' ⟨sm,ea⟩=>?_) ⟨Sm.refl S,by simp⟩).mono λes S' ⟨sm,ea⟩=>?_
 ·obtain⟨ρ1,e2,es,S1,e3,rfl,sm'⟩:=step i S' hi sm;refine⟨_,ρ1,by show some (if i < n then some (D.int (lo+i)) else none)=_;rw[if_pos hi],e2,_,S1,e3,sm.trans sm',?_⟩;rw[ea,Xh,ZK];rfl
 ·show some (if n < n then some (D.int (lo+n)) else none)=_;rw[if_neg (ZN n)]
 ·subst ea;exact⟨by rw[Za,ZI];exact hl,q S' sm⟩
theorem ut{m n:Nat}(hm:S[m]?=some (.lst ((Zk n).map λj=>.int (Int.ofNat j))))(hn:n<=1000)(f:Nat->List D)
  (step:∀ (i:Nat) S',i < n->Sm S S'->∃ρ1,aB tg (.int i) ρ=some ρ1/\Ok (c ρ1 S') λes S1=>es=f i/\Sm S' S1):Ok (bo (nxS m) tg c ρ LF 0 S) λes S2=>es=(Zk n).flatMap f/\Sm S S2:=by
 refine(eT n (λi acc S'=>Sm S S'/\acc=(Zk i).flatMap f) (by unfold LF;lia) (λi acc S' hi ⟨sm,ea⟩=>?_) (λacc S' ⟨sm,ea⟩=>?_) ⟨Sm.refl S,by simp⟩).mono λes S' ⟨sm,ea⟩=>⟨ea,sm⟩
 ·obtain⟨ρ1,e2,es,S1,e3,rfl,sm'⟩:=step i S' hi sm;refine⟨.int i,ρ1,?_,e2,_,S1,e3,sm.trans sm',?_⟩
  ·show(au S' m).map (λds=>ds[i]?)=_;simp only[au,sm _ _ hm,Zz,Zr,Yp hi];rfl
  ·rw[ea,Dw.nw]
 ·show(au S' m).map (λds=>ds[n]?)=_;simp only[au,sm _ _ hm,Zz];rw[ZA (by simp)]
theorem Bu:Ok (dW x ρ S) Q=Ok (x ρ S) λds S1=>Q (.ref S1.length) (S1++[.lst ds]):=by
 unfold dW;rw[bG]
 congr 1
 funext ds S1
 rw[av]
theorem Ka(h:Ok (x ρ S) λd S1=>∃i:Nat,d = .int i/\i<=1000/\Q ((Zk i).map λj=>.int (Int.ofNat j)) S1):Ok (xV x ρ S) Q:=by
 unfold xV;rw[bG];refine h.mono λd S1 ⟨i,e,hi,q⟩=>?_;subst e;dsimp only;rw[if_pos (by lia),av,ZC];exact q
theorem wm{p:Nat}{a b:Int}:∀ {fs:List Dw.D} {ds:List D},fs.all (λe=>Dw.bA e a b)=true->TDs p S fs ds->ds=(Dw.bQ fs).map D.int
 |[],ds,_,h=>by rw[h.nil];rfl
 |t::fs,ds,hw,h=>by
  obtain⟨d,r,rfl,h1,h2⟩:=h.cons;rw[Z4,bAE] at hw;obtain⟨i,rfl,_⟩:=Dw.c9 hw.1;rw[h1.int,wm hw.2 h2];rfl
theorem rR(is:List Int):(is.map D.int).all cz=true:=by rw[Yh];simp[Function.comp_def,cz]
theorem rT(is:List Int)(i:Int)(S:Sto):tY (.tup (is.map D.int)) [.int i] S=some (.int (is.count i:Nat),S):=by
 have e:((is.map D.int).countP λz=>eqF z (.int i))=is.count i:=by
  rw[X4];unfold X8
  congr 1
 simp only[tY];rw[if_pos ⟨rfl,rR is⟩,e]
theorem wn(neg:Bool)(is:List Int)(i:Int)(S:Sto):inS neg (.int i) (.tup (is.map D.int)) S=some (.bl (neg != decide (i ∈ is)),S):=by
 have e:inF (.int i) (is.map D.int)=decide (i ∈ is):=by
  unfold inF;rw[List.any_map,Yc,YL];simp only[Function.comp_def,eqF,beq_iff_eq,decide_eq_true_eq];exact⟨λ⟨x,hx,e⟩=>e ▸ hx,λh=>⟨i,h,rfl⟩⟩
 simp only[inS,ao];rw[if_pos ⟨rfl,rR is⟩,e]
theorem ky(i j:Int)(S:Sto):aE .eq (.int i) (.int j) S=some (.bl (decide (i=j)),S):=by
 simp only[aE,eqS];have:eqD 60 S (.int i) (.int j)=some (i == j):=rfl;rw[this];rfl
theorem EG(i j:Int)(S:Sto):aE .ne (.int i) (.int j) S=some (.bl (!decide (i=j)),S):=vG (x:=.int i) (y:=.int j) (b:=decide (i=j)) rfl
theorem Kb{i j:Int}:Ok (aE .eq (.int i) (.int j) S) Q=Q (.bl (decide (i=j))) S:=by rw[ky,av]
theorem Kc{i j:Int}:Ok (aE .ne (.int i) (.int j) S) Q=Q (.bl (!decide (i=j))) S:=by rw[EG,av]
theorem EH{i:Nat}:aB (.name i) d ρ=if i < ρ.length then some (ρ.set i (some d)) else none:=by simp only[aB]
theorem Bv:aB (.tup ts) (.tup ds) ρ=aP ts ds ρ:=by simp only[aB]
theorem wo:aP [] [] ρ=some ρ:=by simp only[aP]
theorem rV{i:Nat}:aP (.name i::ts) (d::ds) ρ=if i < ρ.length then aP ts ds (ρ.set i (some d)) else none:=by
 simp only[aP,aB];split
 ·rename_i ρ' h;split at h
  ·rename_i hc;cases h;rw[if_pos hc]
  ·cases h
 ·rename_i h;split at h
  ·cases h
  ·rename_i hc;rw[if_neg hc]
theorem gq{i j:Nat}(h1:i < ρ.length)(h2:j < ρ.length):aB (.tup [.name i,.name j]) (.tup [a,b]) ρ=some ((ρ.set i (some a)).set j (some b)):=by
 rw[Bv,rV,if_pos h1,rV,if_pos (by rw[ZY];exact h2),wo]
theorem aR{a:Nat}(h:S[a]?=some (.lst es)):au S a=some es:=by simp only[au,h]
theorem EI{a b n:Nat}(h1:S[a]?=some (.lst es))(h2:S[b]?=some (.lst []))(hn:a ≠ b):eqD (n+1) S (.ref a) (.ref b)=some es.isEmpty:=by
 show(match au S a,au S b with |some xs,some ys=>if a=b then some true else if xs.length=ys.length then eqL (eqD n S) xs ys else some false |_,_=>none)=_;rw[aR h1,aR h2];show(if a=b then some true else if es.length=([]:List D).length then eqL (eqD n S) es [] else some false)=_;rw[if_neg hn];cases es with
 |nil=>simp[eqL]
 |cons x xs=>simp
theorem Kd{a b:Nat}(h1:S[a]?=some (.lst es))(h2:S[b]?=some (.lst []))(hn:a ≠ b):aE .ne (.ref a) (.ref b) S=some (.bl (!es.isEmpty),S):=vG (EI h1 h2 hn)
theorem kW(ds:List D)(k:Nat)(hk:k<=ds.length):dU ds none (some (k:Int))=ds.take k:=by
 unfold dU;rw[Dw.sW _ _ (by lia),ZC,Xi hk];rfl
theorem Ke{p:Nat}(h:TDs p S ts ds):am cb (.tup ds) S=some (.int ts.length,S):=by
 simp only[am,ao,cb,h.len]
section
variable {S S' S1 S2:Sto} {p:Nat} {Q:D->Sto->Prop} {ρ:Rho}
theorem Kf{i j:Int}:Ok (bO .mod (.int i) (.int j) S) Q=(0 < j/\Q (.int (i % j)) S):=by
 simp only[bO,IW,dE,av,bc];apply propext;split
 ·rename_i h;exact⟨λz=>⟨h,z⟩,λz=>z.2⟩
 ·rename_i h;exact⟨λz=>z.elim,λz=>(h z.1).elim⟩
theorem EJ{i j:Int}:Ok (bO .fdiv (.int i) (.int j) S) Q=((0 < j/\j < 1298074214633706907132624082305024)/\Q (.int (i / j)) S):=by
 simp only[bO,zH,dE,av,bc];apply propext;split
 ·rename_i h;exact⟨λz=>⟨h,z⟩,λz=>z.2⟩
 ·rename_i h;exact⟨λz=>z.elim,λz=>(h z.1).elim⟩
theorem Kg{i j:Int}:Ok (bO .mul (.int i) (.int j) S) Q=(iV i j=true/\Q (.int (i * j)) S):=by
 simp only[bO,qK,dE,av,bc];apply propext;split
 ·rename_i h;exact⟨λz=>⟨h,z⟩,λz=>z.2⟩
 ·rename_i h;exact⟨λz=>z.elim,λz=>(h z.1).elim⟩
theorem Kh{i j:Int}:Ok (bO .pow (.int i) (.int j) S) Q=((0<=j/\j<=1000000/\i.natAbs < 2 ^ 64)/\Q (.int (i ^ j.toNat)) S):=by
 simp only[bO,IX,dE,av,bc];apply propext;split
 ·rename_i h;exact⟨λz=>⟨h,z⟩,λz=>z.2⟩
 ·rename_i h;exact⟨λz=>z.elim,λz=>(h z.1).elim⟩
theorem wq{i j:Int}(h1:-(2 ^ 64) < j)(h2:j < 2 ^ 64):iV i j=true:=by simp only[iV,YQ,bAE,decide_eq_true_eq];exact .inr ⟨h1,h2⟩
theorem pK{i j:Int}(h1:-(2 ^ 64) < i)(h2:i < 2 ^ 64):iV i j=true:=by simp only[iV,YQ,bAE,decide_eq_true_eq];exact .inl ⟨h1,h2⟩
def Pot(p:Nat)(S:Sto):Prop:=∃n:Int,S[p]?=some (.lst [.int n])
structure Dr(p:Nat)(S S':Sto):Prop where
 kp:Kp p S S'
 pot:Pot p S'
theorem Dr.refl(h:Pot p S):Dr p S S:=⟨Kp.refl p S,h⟩
theorem Dr.trans(a:Dr p S S1)(b:Dr p S1 S2):Dr p S S2:=⟨a.kp.trans b.kp,b.pot⟩
theorem Dr.sm(h:Pot p S)(s:Sm S S'):Dr p S S':=⟨s.kp,let ⟨n,e⟩:=h;⟨n,s _ _ e⟩⟩
theorem Dr.thenSm(a:Dr p S S1)(s:Sm S1 S2):Dr p S S2:=a.trans (Dr.sm a.pot s)
theorem Pot.lt(h:Pot p S):p < S.length:=let ⟨_,e⟩:=h;(Zb.mp e).1
theorem Ki:Kp p S (S.set p o):=λi u n e=>by rw[Zo (Ne.symm n)];exact e
theorem dF(h:p < S.length):(S.set p o)[p]?=some o:=by rw[ZG h]
theorem jZ{n:Nat}{lo:Int}{tg:Tg}{b:XS}{Q:Fl->Rho->Sto->Prop}(hl:n<=100000)(I:Nat->Rho->Sto->Prop)
  (step:∀ (i:Nat) ρ S,i < n->I i ρ S->∃ρ1,aB tg (.int (lo+i)) ρ=some ρ1/\OkS (b ρ1 S) λfl ρ2 S2=>match fl with |.nx=>I (i+1) ρ2 S2 |.ct=>I (i+1) ρ2 S2 |.bk=>Q .nx ρ2 S2 |.rt d=>Q (.rt d) ρ2 S2)
  (q:∀ρ S',I n ρ S'->Q .nx ρ S') (h0:I 0 ρ S):OkS (fP (nxR lo n) tg b LF 0 ρ S) Q:=by
 refine pG n I (by unfold LF;lia) (λi ρ S' hi iv=>?_) (λρ S' iv=>⟨?_,q ρ S' iv⟩) h0
 ·obtain⟨ρ1,e2,z⟩:=step i ρ S' hi iv;exact⟨_,ρ1,by show some (if i < n then some (D.int (lo+i)) else none)=_;rw[if_pos hi],e2,z⟩
 ·show some (if n < n then some (D.int (lo+n)) else none)=_;rw[if_neg (ZN n)]
theorem uu{n:Nat}{lo:Int}{tg:Tg}{c:XA}{Q:List D->Sto->Prop}(hl:n<=100000)(I:Nat->List D->Sto->Prop)
  (step:∀ (i:Nat) acc S',i < n->I i acc S'->∃ρ1,aB tg (.int (lo+i)) ρ=some ρ1/\Ok (c ρ1 S') λes S1=>I (i+1) (acc++es) S1) (q:∀es S',I n es S'->es.length<=100000/\Q es S') (h0:I 0 [] S) :
  Ok (bo (nxR lo n) tg c ρ LF 0 S) λes S2=>es.length<=100000/\Q es S2:=by
 refine(eT n I (by unfold LF;lia) (λi acc S' hi iv=>?_) (λacc S' iv=>?_) h0).mono q
 ·obtain⟨ρ1,e2,z⟩:=step i acc S' hi iv;exact⟨_,ρ1,by show some (if i < n then some (D.int (lo+i)) else none)=_;rw[if_pos hi],e2,z⟩
 ·show some (if n < n then some (D.int (lo+n)) else none)=_;rw[if_neg (ZN n)]
theorem Kj:Ok (tx x y ρ S) Q=Ok (x ρ S) λds S1=>Ok (y ρ S1) λi S2=>∃k,i = .int k/\∃d,atI ds k=some d/\Q d S2:=by
 unfold tx;rw[bG]
 congr 1
 funext ds S1
 rw[bG]
 congr 1
 funext i S2
 apply propext;cases i with
 |int k=>simp[J0]
 |_=>simp[bc]
theorem Kk{i:Int}(h0:0<=i)(h1:i < ds.length):∃d,atI ds i=some d/\ds[i.toNat]?=some d:=by
 have hi:i.toNat < ds.length:=by lia
 refine⟨ds[i.toNat],?_,gEG hi⟩;unfold atI ixN;rw[if_pos h0,if_pos (by lia)];exact gEG hi
theorem pL{nx:Nxt}{tg:Tg}{c:XA}{Q:List D->Sto->Prop}(n:Nat)(el:Nat->D)(I:Nat->List D->Sto->Prop)(hnx:∀i acc S',i<=n->I i acc S'->nx i S'=some (if i < n then some (el i) else none))(hl:n<=100000)
  (step:∀ (i:Nat) acc S',i < n->I i acc S'->∃ρ1,aB tg (el i) ρ=some ρ1/\Ok (c ρ1 S') λes S1=>I (i+1) (acc++es) S1) (q:∀es S',I n es S'->es.length<=100000/\Q es S') (h0:I 0 [] S) :
  Ok (bo nx tg c ρ LF 0 S) λes S2=>es.length<=100000/\Q es S2:=by
 refine(eT n I (by unfold LF;lia) (λi acc S' hi iv=>?_) (λacc S' iv=>?_) h0).mono q
 ·obtain⟨ρ1,e2,z⟩:=step i acc S' hi iv;exact⟨_,ρ1,by rw[hnx i acc S' (by lia) iv,if_pos hi],e2,z⟩
 ·rw[hnx n acc S' (Zg _) iv,if_neg (ZN n)]
theorem uv{m i:Nat}(h:S[m]?=some (.lst ds))(el:Nat->D)(he:∀i d,ds[i]?=some d->el i=d):nxS m i S=some (if i < ds.length then some (el i) else none):=by
 show(au S m).map (λds=>ds[i]?)=_;rw[aR h,Zz];split
 ·rename_i hi;rw[gEG hi,he i _ (gEG hi)]
 ·rename_i hi;rw[ZA (by lia)]
structure RowsS(p:Nat)(S:Sto)(rs:List D)(M:List (List Int)):Prop where
 len:rs.length=M.length
 row:∀ (i:Nat) r,M[i]?=some r->∃a,rs[i]?=some (.ref a)/\a ≠ p/\S[a]?=some (.lst (r.map D.int))
theorem RowsS.keep(h:RowsS p S rs M)(k:Kp p S S'):RowsS p S' rs M:=⟨h.len,λi r hr=>let ⟨a,e,n,z⟩:=h.row i r hr;⟨a,e,n,k _ _ n z⟩⟩
theorem RowsS.nil:RowsS p S [] []:=⟨rfl,λi r h=>by simp at h⟩
theorem RowsS.snoc{a:Nat}(h:RowsS p S rs M)(n:a ≠ p)(z:S[a]?=some (.lst (r.map D.int))):RowsS p S (rs++[.ref a]) (M++[r]):=by
 refine⟨by simp[h.len],λi r' hr=>?_⟩;by_cases hi:i < M.length
 ·rw[Zt hi] at hr;obtain⟨b,e,nb,zb⟩:=h.row i r' hr;exact⟨b,by rw[Zt (by rw[h.len];exact hi)];exact e,nb,zb⟩
 ·rw[Zp (by lia)] at hr
  have hz:i - M.length=0:=by
   have:=(Zb.mp hr).1;simp at this;lia
  rw[hz] at hr;cases hr;exact⟨a,by rw[Zp (by rw[h.len];lia),h.len,hz];rfl,n,z⟩
theorem ax:(S++[o])[S.length]?=some o:=by rw[Zp (Zg _),Yj];rfl
theorem Kp.setNew{f:Nat}(h:Kp p S S')(hf:S.length<=f):Kp p S (S'.set f o):=λi u n e=>by
 have hi:=(Zb.mp e).1;rw[Zo (by lia)];exact h i u n e
theorem Pot.setNe{f:Nat}(h:Pot p S)(hf:f ≠ p):Pot p (S.set f o):=by
 obtain⟨n,e⟩:=h;exact⟨n,by rw[Zo hf];exact e⟩
abbrev aj(q:Int × Int):D:=.tup [.int q.1,.int q.2]
theorem cH:∀ (es:List (Int × Int)),TDs p S (es.map Dw.jN) (es.map aj)
 |[]=>aG
 |e::es=>ac (aC (ac aQ (ac aQ aG))) (cH es)
theorem jI{f:Nat}(h:S[f]?=some (.lst ds))(hl:ds.length < 100000):Ok (qR (.ref f) [e] S) Q=Q .non (S.set f (.lst (ds++[e]))):=by
 simp only[qR,chg,h];rw[if_pos hl];exact av
theorem cI{f:Nat}(h:S[f]?=some (.lst ds)):fO (.ref f) S=true:=by simp only[fO,aR h];rfl
theorem pM{f:Nat}(h:S[f]?=some (.lst (ds++[e]))):ixS (.ref f) (.int (-1)) S=some (e,S):=by
 have:atI (ds++[e]) (-1:Int)=some e:=by
  unfold atI ixN;rw[if_neg (by decide),if_pos (by rw[Zc,Zn];lia)];show(ds++[e])[((-1:Int)+((ds++[e]).length:Int)).toNat]?=some e;have:((-1:Int)+((ds++[e]).length:Int)).toNat=ds.length:=by rw[Zc,Zn];lia
  rw[this,Zp (Zg _),Yj];rfl
 simp only[ixS,ao,aR h,Zz,this]
theorem y7{i:Nat}(h:ds[i]?=some d):ixS (.tup ds) (.int i) S=some (d,S):=by
 have hi:=(Zb.mp h).1
 have ea:atI ds (i:Int)=some d:=by
  unfold atI ixN;rw[if_pos (by lia),if_pos (by lia),ZC];exact h
 simp only[ixS,ao,ea,Zz]
theorem vj{i:Nat}(h:ds[i]?=some d):atI ds (i:Int)=some d:=by
 have hi:=(Zb.mp h).1;unfold atI ixN;rw[if_pos (by lia),if_pos (by lia),ZC];exact h
theorem pP{n:Nat}(hn:n ≠ p)(h:S[n]?=some (.lst ds))(q:TDs p S ts ds):TD p S (.lst ts) (.ref n):=by rw[TD];exact⟨n,ds,rfl,hn,h,q⟩
theorem uw{n:Nat}(hn:n ≠ p)(h:S[n]?=some (.dic ks ds))(q:TDs p S ts ds):TD p S (.dic ks ts) (.ref n):=by rw[TD];exact⟨n,ds,rfl,hn,h,q⟩
theorem wt:aE .eq (.tup ds) (.tup []) S=some (.bl ds.isEmpty,S):=by
 simp only[aE,eqS]
 have:eqD 60 S (.tup ds) (.tup [])=some ds.isEmpty:=by
  cases ds <;> rfl
 rw[this];rfl
theorem EK:aE .ne (.tup ds) (.tup []) S=some (.bl (!ds.isEmpty),S):=vG (x:=.tup ds) (y:=.tup []) (b:=ds.isEmpty) (by cases ds <;> rfl)
theorem Kl:Ok (bO .add (.tup xs) (.tup ys) S) Q=(xs.length+ys.length<=1000/\Q (.tup (xs++ys)) S):=by
 simp only[bO,kc,dE,av,bc];apply propext;split
 ·rename_i h;exact⟨λz=>⟨h,z⟩,λz=>z.2⟩
 ·rename_i h;exact⟨λz=>z.elim,λz=>(h z.1).elim⟩
end
@[inline]abbrev WP(α:Type):=Rho->Sto->(α->Sto->Prop)->Prop
def Sd{α:Type}(w:WP α)(x:Rho->Sto->Option (α × Sto)):Prop:=∀ρ S Q,w ρ S Q->Ok (x ρ S) Q
theorem be{α β:Type}{x:Option (α × Sto)}{f:α->Sto->Option (β × Sto)}{Q:β->Sto->Prop}(h:Ok x λa S=>Ok (f a S) Q):Ok (bnd x f) Q:=bG ▸ h
theorem bx{α:Type}{a:α}{S:Sto}{Q:α->Sto->Prop}(h:Q a S):Ok (some (a,S)) Q:=⟨_,_,rfl,h⟩
def wIf(b:Bool)(A B:Prop):Prop:=match b with
 |true=>A
 |false=>B
def wBl(d:D)(Q:Bool->Prop):Prop:=match d with
 |.bl b=>Q b
 |.non=>False |.int _=>False |.str _=>False |.tup _=>False |.ref _=>False
def dH(d:D)(Q:Int->Prop):Prop:=match d with
 |.int i=>Q i
 |.non=>False |.bl _=>False |.str _=>False |.tup _=>False |.ref _=>False
theorem mI{d:D}{Q:Bool->Prop}(h:wBl d Q):∃b,d = .bl b/\Q b:=by cases d <;> first |exact h.elim |exact⟨_,rfl,h⟩
theorem cv{d:D}{Q:Int->Prop}(h:dH d Q):∃b,d = .int b/\Q b:=by cases d <;> first |exact h.elim |exact⟨_,rfl,h⟩
def Qe(o:Option D)(Q:D->Prop):Prop:=match o with
 |some d=>Q d
 |none=>False
def ux:Rho->Nat->(D->Prop)->Prop
 |[],_,_=>False
 |o::_,0,Q=>Qe o Q
 |_::ρ,i+1,Q=>ux ρ i Q
theorem wu:∀ {ρ:Rho} {i:Nat} {Q:D->Prop},ux ρ i Q->∃d,ρ[i]?=some (some d)/\Q d
 |[],_,_,h=>h.elim
 |some d::_,0,_,h=>⟨d,rfl,h⟩
 |none::_,0,_,h=>h.elim
 |o::ρ,i+1,_,h=>by rw[Yt];exact wu (ρ:=ρ) h
def Ou(i:Nat):WP D:=λρ S Q=>ux ρ i λd=>Q d S
theorem Ov{i:Nat}:Sd (Ou i) (xt i):=λρ S Q h=>by
 rw[J7];exact wu h
def wC(d:D):WP D:=λ_ S Q=>Q d S
theorem s_c{d:D}:Sd (wC d) (xC d):=λ_ _ _ h=>bx h
def EL(g:D->D->Sto->(D->Sto->Prop)->Prop)(x y:WP D):WP D:=λρ S Q=>x ρ S λa S1=>y ρ S1 λb S2=>g a b S2 Q
theorem Bw{g:D->D->Sto->(D->Sto->Prop)->Prop}{f:D->D->Sto->Option (D × Sto)}{w v:WP D}{x y:XE}(hw:Sd w x)(hv:Sd v y)(hg:∀ {a b S Q},g a b S Q->Ok (f a b S) Q):Sd (EL g w v) (qD f x y):=
 λ_ _ _ h=>be ((hw _ _ _ h).mono λ_ _ h=>be ((hv _ _ _ h).mono λ_ _ h=>hg h))
def wUn{α β:Type}(g:α->Sto->(β->Sto->Prop)->Prop)(x:WP α):WP β:=λρ S Q=>x ρ S λa S1=>g a S1 Q
theorem EM{α β:Type}{g:α->Sto->(β->Sto->Prop)->Prop}{f:α->Sto->Option (β × Sto)}{w:WP α}{x:Rho->Sto->Option (α × Sto)}(hw:Sd w x)(hg:∀ {a S Q},g a S Q->Ok (f a S) Q):Sd (wUn g w) (λρ S=>bnd (x ρ S) f):=
 λ_ _ _ h=>be ((hw _ _ _ h).mono λ_ _ h=>hg h)
def wOk{α β:Type}(f:α->Sto->Option (β × Sto))(a:α)(S:Sto)(Q:β->Sto->Prop):Prop:=Ok (f a S) Q
def wII:BOp->Int->Int->Sto->(D->Sto->Prop)->Prop
 |.add,i,j,S,Q=>Q (.int (i+j)) S
 |.sub,i,j,S,Q=>Q (.int (i - j)) S
 |.mul,i,j,S,Q=>iV i j=true/\Q (.int (i * j)) S
 |.mod,i,j,S,Q=>0 < j/\Q (.int (i % j)) S
 |.fdiv,i,j,S,Q=>(0 < j/\j < 1298074214633706907132624082305024)/\Q (.int (i / j)) S
 |.pow,i,j,S,Q=>(0<=j/\j<=1000000/\i.natAbs < 2 ^ 64)/\Q (.int (i ^ j.toNat)) S
theorem Km{o:BOp}{i j:Int}{S:Sto}{Q:D->Sto->Prop}(h:wII o i j S Q):Ok (bO o (.int i) (.int j) S) Q:=by
 cases o with
 |add=>rw[J8];exact h
 |sub=>rw[J9];exact h
 |mul=>rw[Kg];exact h
 |mod=>rw[Kf];exact h
 |fdiv=>rw[EJ];exact h
 |pow=>rw[Kh];exact h
def wTT:BOp->List D->List D->Sto->(D->Sto->Prop)->Prop
 |.add,xs,ys,S,Q=>xs.length+ys.length<=1000/\Q (.tup (xs++ys)) S
 |.sub,_,_,_,_=>False
 |.mul,_,_,_,_=>False
 |.mod,_,_,_,_=>False
 |.fdiv,_,_,_,_=>False
 |.pow,_,_,_,_=>False
theorem Kn{o:BOp}{i j:List D}{S:Sto}{Q:D->Sto->Prop}(h:wTT o i j S Q):Ok (bO o (.tup i) (.tup j) S) Q:=by
 cases o with
 |add=>rw[Kl];exact h
 |_=>exact h.elim
def Bx(o:BOp)(i:Int)(y:D)(S:Sto)(Q:D->Sto->Prop):Prop:=match y with
 |.int j=>wII o i j S Q
 |.non=>False |.bl _=>False |.str _=>False |.ref _=>False
 |.tup ys=>Ok (bO o (.int i) (.tup ys) S) Q
def ww(o:BOp)(xs:List D)(y:D)(S:Sto)(Q:D->Sto->Prop):Prop:=match y with
 |.tup ys=>wTT o xs ys S Q
 |.non=>False |.bl _=>False |.str _=>False |.ref _=>False
 |.int j=>Ok (bO o (.tup xs) (.int j) S) Q
def uy(o:BOp)(x y:D)(S:Sto)(Q:D->Sto->Prop):Prop:=match x with
 |.int i=>Bx o i y S Q
 |.tup xs=>ww o xs y S Q
 |.non=>Ok (bO o .non y S) Q
 |.bl b=>Ok (bO o (.bl b) y S) Q
 |.str b=>Ok (bO o (.str b) y S) Q
 |.ref b=>Ok (bO o (.ref b) y S) Q
theorem EN{o:BOp}{x y:D}{S:Sto}{Q:D->Sto->Prop}(h:uy o x y S Q):Ok (bO o x y S) Q:=by
 cases x with
 |int i=>cases y with
  |int j=>exact Km h
  |tup ys=>exact h
  |_=>exact h.elim
 |tup xs=>cases y with
  |int j=>exact h
  |tup ys=>exact Kn h
  |_=>exact h.elim
 |_=>exact h
def wCI:COp->Int->Int->Sto->(D->Sto->Prop)->Prop
 |.eq,i,j,S,Q=>Q (.bl (decide (i=j))) S
 |.ne,i,j,S,Q=>Q (.bl (!decide (i=j))) S
 |.lt,i,j,S,Q=>Q (.bl (decide (i < j))) S
 |.le,i,j,S,Q=>Q (.bl (decide (i<=j))) S
 |.gt,i,j,S,Q=>Q (.bl (decide (j < i))) S
 |.ge,i,j,S,Q=>Q (.bl (decide (j<=i))) S
 |.is,_,_,_,_=>False
 |.isnot,_,_,_,_=>False
 |.isin,_,_,_,_=>False
 |.notin,_,_,_,_=>False
theorem Ko{o:COp}{i j:Int}{S:Sto}{Q:D->Sto->Prop}(h:wCI o i j S Q):Ok (aE o (.int i) (.int j) S) Q:=by
 cases o with
 |eq=>rw[Kb];exact h
 |ne=>rw[Kc];exact h
 |lt=>rw[Oo];exact h
 |le=>rw[Om];exact h
 |gt=>rw[Op];exact h
 |ge=>rw[Oq];exact h
 |_=>exact h.elim
def Kq(o:COp)(i:Int)(y:D)(S:Sto)(Q:D->Sto->Prop):Prop:=match y with
 |.int j=>wCI o i j S Q
 |.non=>Ok (aE o (.int i) .non S) Q
 |.bl b=>Ok (aE o (.int i) (.bl b) S) Q
 |.str b=>Ok (aE o (.int i) (.str b) S) Q
 |.ref b=>Ok (aE o (.int i) (.ref b) S) Q
 |.tup b=>Ok (aE o (.int i) (.tup b) S) Q
def uz(o:COp)(xs:List D)(y:D)(S:Sto)(Q:D->Sto->Prop):Prop:=match o with
 |.eq=>match y with
  |.tup ys=>match ys with
   |[]=>Q (.bl xs.isEmpty) S
   |y::ys=>Ok (aE .eq (.tup xs) (.tup (y::ys)) S) Q
  |.non=>Ok (aE .eq (.tup xs) .non S) Q
  |.bl b=>Ok (aE .eq (.tup xs) (.bl b) S) Q
  |.str b=>Ok (aE .eq (.tup xs) (.str b) S) Q
  |.ref b=>Ok (aE .eq (.tup xs) (.ref b) S) Q
  |.int b=>Ok (aE .eq (.tup xs) (.int b) S) Q
 |.ne=>match y with
  |.tup ys=>match ys with
   |[]=>Q (.bl (!xs.isEmpty)) S
   |y::ys=>Ok (aE .ne (.tup xs) (.tup (y::ys)) S) Q
  |.non=>Ok (aE .ne (.tup xs) .non S) Q
  |.bl b=>Ok (aE .ne (.tup xs) (.bl b) S) Q
  |.str b=>Ok (aE .ne (.tup xs) (.str b) S) Q
  |.ref b=>Ok (aE .ne (.tup xs) (.ref b) S) Q
  |.int b=>Ok (aE .ne (.tup xs) (.int b) S) Q
 |.is=>Ok (aE .is (.tup xs) y S) Q
 |.isnot=>Ok (aE .isnot (.tup xs) y S) Q
 |.isin=>Ok (aE .isin (.tup xs) y S) Q
 |.notin=>Ok (aE .notin (.tup xs) y S) Q
 |.lt=>False |.le=>False |.gt=>False |.ge=>False
def wCx(o:COp)(x y:D)(S:Sto)(Q:D->Sto->Prop):Prop:=match x with
 |.int i=>Kq o i y S Q
 |.tup xs=>uz o xs y S Q
 |.non=>Ok (aE o .non y S) Q
 |.bl b=>Ok (aE o (.bl b) y S) Q
 |.str b=>Ok (aE o (.str b) y S) Q
 |.ref b=>Ok (aE o (.ref b) y S) Q
theorem Kr{o:COp}{x y:D}{S:Sto}{Q:D->Sto->Prop}(h:wCx o x y S Q):Ok (aE o x y S) Q:=by
 cases x with
 |int i=>cases y with
  |int j=>exact Ko h
  |_=>exact h
 |tup xs=>cases o with
  |eq=>cases y with
   |tup ys=>cases ys with
    |nil=>rw[wt,av];exact h
    |cons y ys=>exact h
   |_=>exact h
  |ne=>cases y with
   |tup ys=>cases ys with
    |nil=>rw[EK,av];exact h
    |cons y ys=>exact h
   |_=>exact h
  |lt=>exact h.elim
  |le=>exact h.elim
  |gt=>exact h.elim
  |ge=>exact h.elim
  |_=>exact h
 |_=>exact h
def wCm(o:COp)(x y:D)(S:Sto)(Q:D->Sto->Prop):Prop:=match o with
 |.is=>Ok (aE .is x y S) Q
 |.isnot=>Ok (aE .isnot x y S) Q
 |.isin=>Ok (aE .isin x y S) Q
 |.notin=>Ok (aE .notin x y S) Q
 |.eq=>wCx .eq x y S Q
 |.ne=>wCx .ne x y S Q
 |.lt=>wCx .lt x y S Q
 |.le=>wCx .le x y S Q
 |.gt=>wCx .gt x y S Q
 |.ge=>wCx .ge x y S Q
theorem pQ{o:COp}{x y:D}{S:Sto}{Q:D->Sto->Prop}(h:wCm o x y S Q):Ok (aE o x y S) Q:=by
 cases o <;> first |exact Kr h |exact h
def Ks(o p:COp)(x y z:WP D):WP D:=λρ S Q=>x ρ S λa S1=>y ρ S1 λb S2=>wCm o a b S2 λr S3=>wBl r λc=>wIf c (z ρ S3 λe S4=>wCm p b e S4 Q) (Q (.bl false) S3)
theorem Hi{o p:COp}{w v u:WP D}{x y z:XE}(hw:Sd w x)(hv:Sd v y)(hu:Sd u z):Sd (Ks o p w v u) (xS (aE o) (aE p) x y z):=λ_ _ _ h=>by
 rw[J6];refine(hw _ _ _ h).mono λa S1 h=>(hv _ _ _ h).mono λb S2 h=>(pQ h).mono λr S3 h=>?_;obtain⟨c,e,h⟩:=mI h;refine⟨c,e,?_⟩;cases c with
 |true=>exact(hu _ _ _ h).mono λe S4 h=>pQ h
 |false=>exact h
def Ow(x y:WP D):WP D:=λρ S Q=>x ρ S λd S1=>wBl d λb=>wIf b (y ρ S1 Q) (Q (.bl false) S1)
theorem Ox{w v:WP D}{x y:XE}(hw:Sd w x)(hv:Sd v y):Sd (Ow w v) (Aj x y):=λ_ _ _ h=>by
 rw[J4];refine(hw _ _ _ h).mono λa S1 h=>?_;obtain⟨c,e,h⟩:=mI h;refine⟨c,e,?_⟩;cases c with
 |true=>exact hv _ _ _ h
 |false=>exact h
def wOr(x y:WP D):WP D:=λρ S Q=>x ρ S λd S1=>wBl d λb=>wIf b (Q (.bl true) S1) (y ρ S1 Q)
theorem Qg{w v:WP D}{x y:XE}(hw:Sd w x)(hv:Sd v y):Sd (wOr w v) (xOr x y):=λ_ _ _ h=>by
 rw[Ol];refine(hw _ _ _ h).mono λa S1 h=>?_;obtain⟨c,e,h⟩:=mI h;refine⟨c,e,?_⟩;cases c with
 |false=>exact hv _ _ _ h
 |true=>exact h
def Oy(x:WP D):WP D:=λρ S Q=>x ρ S λd S1=>wBl d λb=>Q (.bl (!b)) S1
theorem Oz{w:WP D}{x:XE}(hw:Sd w x):Sd (Oy w) (xUn xR x):=λ_ _ _ h=>be ((hw _ _ _ h).mono λa S1 h=>by
 rw[J5];exact mI h)
def OA(x:WP D):WP D:=λρ S Q=>x ρ S λd S1=>dH d λi=>Q (.int (-i)) S1
theorem OB{w:WP D}{x:XE}(hw:Sd w x):Sd (OA w) (xUn Jr x):=λ_ _ _ h=>be ((hw _ _ _ h).mono λa S1 h=>by
 obtain⟨i,rfl,h⟩:=cv h;exact bx h)
def OC{α:Type}(c:WP Bool)(x y:WP α):WP α:=λρ S Q=>c ρ S λb S1=>wIf b (x ρ S1 Q) (y ρ S1 Q)
theorem OD{c:WP Bool}{w v:WP D}{t:XT}{x y:XE}(hc:Sd c t)(hw:Sd w x)(hv:Sd v y):Sd (OC c w v) (Js t x y):=λ_ _ _ h=>be ((hc _ _ _ h).mono λb S1 h=>by
 cases b with
 |true=>exact hw _ _ _ h
 | false=>exact hv _ _ _ h)
def wO:Option (WP D)->WP (Option Int)
 |none=>λ_ S Q=>Q none S
 |some w=>λρ S Q=>w ρ S λd S1=>dH d λi=>Q (some i) S1
def uA(lo hi:Option Int)(d:D)(S:Sto)(Q:D->Sto->Prop):Prop:=match d with
 |.tup ds=>Q (.tup (dU ds lo hi)) S
 |.ref n=>Ok (slS lo hi (.ref n) S) Q
 |.non=>False |.bl _=>False |.str _=>False |.int _=>False
def wSl(x:WP D)(lo hi:WP (Option Int)):WP D:=λρ S Q=>x ρ S λd S1=>lo ρ S1 λl S2=>hi ρ S2 λh S3=>uA l h d S3 Q
theorem Qh:Sd (wO none) tG:=λ_ _ _ h=>bx h
theorem Qj{w:WP D}{x:XE}(hw:Sd w x):Sd (wO (some w)) (tH x):=λ_ _ _ h=>be ((hw _ _ _ h).mono λd S1 h=>by
 obtain⟨i,rfl,h⟩:=cv h;exact bx h)
theorem Qk{w:WP D}{l u:WP (Option Int)}{x:XE}{lo hi:XO}(hw:Sd w x)(hl:Sd l lo)(hu:Sd u hi):Sd (wSl w l u) (xSl x lo hi):=λ_ _ _ h=>be ((hw _ _ _ h).mono λd S1 h=>be ((hl _ _ _ h).mono λa S2 h=>be ((hu _ _ _ h).mono λb S3 h=>by
 cases d with
 |tup ds=>exact bx h
 |ref n=>exact h
 | _=>exact h.elim)))
def Hj(g:List D->Sto->Option (D × Sto))(n:Nat)(x:WP (List D)):WP D:=λρ S Q=>x ρ S λds S1=>ds.length=n/\Ok (g ds S1) Q
theorem Kt{g:List D->Sto->Option (D × Sto)}{n:Nat}{w:WP (List D)}{x:XA}(hw:Sd w x):Sd (Hj g n w) (qY g n x):=λ_ _ _ h=>by
 rw[EA];exact hw _ _ _ h
def jJ(x:WP (List D)):WP D:=λρ S Q=>x ρ S λds S1=>Q (.ref S1.length) (S1++[.lst ds])
theorem gQ{w:WP (List D)}{x:XA}(hw:Sd w x):Sd (jJ w) (dW x):=λ_ _ _ h=>by rw[Bu];exact hw _ _ _ h
def fq:Nat->List CE->Prop->Prop
 |_,[],A=>A
 |0,_::_,_=>False
 |n+1,_::es,A=>fq n es A
theorem je:∀ {n:Nat} {es:List CE} {A:Prop},fq n es A->es.length<=n/\A
 |n,[],_,h=>⟨YZ _,by cases n <;> exact h⟩
 |0,_::_,_,h=>h.elim
 |n+1,_::es,_,h=>by rw[ZB];exact⟨XU (je (es:=es) h).1,(je (es:=es) h).2⟩
def wSh{α:Type}(es:List CE)(x:WP α):WP α:=λρ S Q=>fq 60 es (x ρ S Q)
def EO(c:D->Sto->Bool)(f:D->List D->Sto->Option (D × Sto))(x:WP D)(y:WP (List D)):WP D:=λρ S Q=>x ρ S λd S1=>c d S1=true/\y ρ S1 λas S2=>Ok (f d as S2) Q
theorem Bz{c:D->Sto->Bool}{f:D->List D->Sto->Option (D × Sto)}{w:WP D}{v:WP (List D)}{x:XE}{y:XA}(hw:Sd w x)(hv:Sd v y):Sd (EO c f w v) (z8 c f x y):=λ_ _ _ h=>be ((hw _ _ _ h).mono λd S1 h=>by
 rw[if_pos h.1];exact be (hv _ _ _ h.2))
def Ku(x:WP D):WP (List D):=λρ S Q=>x ρ S λd S1=>∃i:Nat,d = .int i/\i<=1000/\Q ((Zk i).map λj=>.int (Int.ofNat j)) S1
theorem Hk{w:WP D}{x:XE}(hw:Sd w x):Sd (Ku w) (xV x):=λ_ _ _ h=>Ka (hw _ _ _ h)
def OE:WP (List D):=λ_ S Q=>Q [] S
theorem OG:Sd OE Dz:=λ_ _ _ h=>bx h
def Hl(x:WP D)(y:WP (List D)):WP (List D):=λρ S Q=>x ρ S λa S1=>y ρ S1 λas S2=>Q (a::as) S2
theorem Kv{w:WP D}{v:WP (List D)}{x:XE}{y:XA}(hw:Sd w x)(hv:Sd v y):Sd (Hl w v) (vF x y):=λ_ _ _ h=>be ((hw _ _ _ h).mono λd S1 h=>be ((hv _ _ _ h).mono λds S2 h=>bx h))
def Qm(o:Option D)(A:Prop):Prop:=match o with
 |none=>A
 |some _=>False
def wFr:Rho->Nat->Prop->Prop
 |[],_,_=>False
 |o::_,0,A=>Qm o A
 |_::ρ,i+1,A=>wFr ρ i A
theorem pR:∀ {ρ:Rho} {i:Nat} {A:Prop},wFr ρ i A->ρ[i]?=some none/\A
 |[],_,_,h=>h.elim
 |none::_,0,_,h=>⟨rfl,h⟩
 |some _::_,0,_,h=>h.elim
 |o::ρ,i+1,_,h=>by rw[Yt];exact pR (ρ:=ρ) h
def rX:List Tg->Rho->Prop->Prop
 |[],_,A=>A
 |.name i::ts,ρ,A=>wFr ρ i (rX ts ρ A)
 |.tup us::ts,ρ,A=>dM (.tup us) ρ=true/\rX ts ρ A
def wFt:Tg->Rho->Prop->Prop
 |.name i,ρ,A=>wFr ρ i A
 |.tup ts,ρ,A=>rX ts ρ A
theorem n9{i:Nat}{ρ:Rho}(h:ρ[i]?=some none):dM (.name i) ρ=true:=by rw[dM,h]
theorem pS:∀ {ts:List Tg} {ρ:Rho} {A:Prop},rX ts ρ A->fQ ts ρ=true/\A
 |[],_,_,h=>⟨by rw[fQ],h⟩
 |.name i::ts,ρ,_,h=>by
  obtain⟨e,h⟩:=pR h;obtain⟨e2,h⟩:=pS h;exact⟨by rw[fQ,n9 e,e2];rfl,h⟩
 |.tup us::ts,ρ,_,h=>by
  obtain⟨e,h⟩:=h;obtain⟨e2,h⟩:=pS h;exact⟨by rw[fQ,e,e2];rfl,h⟩
theorem uB{t:Tg}{ρ:Rho}{A:Prop}(h:wFt t ρ A):dM t ρ=true/\A:=by
 cases t with
 |name i=>exact⟨n9 (pR h).1,(pR h).2⟩
 |tup ts=>rw[dM];exact pS h
def rY:List Str->Rho->(Rho->Prop)->Prop
 |[],r,Q=>Q r
 |_::own,r,Q=>rY own (none::r) Q
def rZ:Rho->Rho->(Rho->Prop)->Prop
 |[],r,Q=>Q r
 |o::ρ,r,Q=>rZ ρ r λr'=>Q (o::r')
theorem wx:∀ {ρ r:Rho} {Q:Rho->Prop},rZ ρ r Q->Q (ρ++r)
 |[],_,_,h=>h
 |o::ρ,r,Q,h=>wx (ρ:=ρ) (Q:=λr'=>Q (o::r')) h
theorem wy:∀ {own:List Str} {k:Nat} {Q:Rho->Prop},rY own (Zs k none) Q->Q (Zs (own.length+k) none)
 |[],k,_,h=>by rw[Z2,YT];exact h
 |_::own,k,Q,h=>by
  have:=wy (own:=own) (k:=k+1) h;rw[ZB,show own.length+1+k=own.length+(k+1) by lia];exact this
def Hm(own:List Str)(it:WP Nxt)(tg:Tg)(c:XA)(k:Nat):WP (List D):=λρ S Q=>it ρ S λnx S1=>rY own [] λr=>rZ ρ r λρ'=>wFt tg ρ' (Ok (bo nx tg c ρ' k 0 S1) λes S2=>es.length<=100000/\Q es S2)
theorem BA{own:List Str}{k:Nat}{w:WP Nxt}{it:XI}{tg:Tg}{c:XA}(hw:Sd w it):Sd (Hm own w tg c k) (lw own.length it tg c k):=λ_ _ _ h=>by
 rw[EB]
 exact(hw _ _ _ h).mono λnx S1 h=>by
  have h:=wx (wy (own:=own) (k:=0) h);exact uB h
def BB(it:WP Nxt)(tg:Tg)(c:XA)(k:Nat):WP (List D):=λρ S Q=>wFt tg ρ (it ρ S λnx S1=>Ok (bo nx tg c ρ k 0 S1) Q)
theorem ER{k:Nat}{w:WP Nxt}{it:XI}{tg:Tg}{c:XA}(hw:Sd w it):Sd (BB w tg c k) (jx it tg c k):=λ_ _ _ h=>by
 rw[Bt];exact⟨(uB h).1,hw _ _ _ (uB h).2⟩
def BC(d:D)(S1:Sto)(Q:Nxt->Sto->Prop):Prop:=match d with
 |.tup ds=>Q (nxL ds) S1
 |.ref n=>(au S1 n).isSome=true/\Q (nxS n) S1
 |.non=>False |.bl _=>False |.str _=>False |.int _=>False
theorem Qo{w:WP D}{x:XE}(hw:Sd w x):Sd (λρ S Q=>w ρ S λd S1=>BC d S1 Q) (xIV x):=λ_ _ _ h=>be ((hw _ _ _ h).mono λd S1 h=>by
 cases d with
 |tup ds=>exact bx h
 |ref n=>dsimp only;rw[if_pos h.1];exact bx h.2
 | _=>exact h.elim)
def BD(d:D)(S1:Sto)(Q:Nxt->Sto->Prop):Prop:=match d with
 |.tup ds=>Q (t0 ds) S1
 |.ref n=>(au S1 n).isSome=true/\Q (DP n) S1
 |.non=>False |.bl _=>False |.str _=>False |.int _=>False
theorem Qp{w:WP D}{x:XE}(hw:Sd w x):Sd (λρ S Q=>w ρ S λd S1=>BD d S1 Q) (xEV x):=λ_ _ _ h=>be ((hw _ _ _ h).mono λd S1 h=>by
 cases d with
 |tup ds=>exact bx h
 |ref n=>dsimp only;rw[if_pos h.1];exact bx h.2
 | _=>exact h.elim)
def wOn{α β:Type}(f:α->β)(x:WP α):WP β:=λρ S Q=>x ρ S λa S1=>Q (f a) S1
theorem BE{α β:Type}{f:α->β}{w:WP α}{x:Rho->Sto->Option (α × Sto)}(hw:Sd w x):Sd (wOn f w) (λρ S=>bnd (x ρ S) λa S1=>some (f a,S1)):=λ_ _ _ h=>be ((hw _ _ _ h).mono λd S1 h=>bx h)
def wR1(x:WP D):WP Nxt:=λρ S Q=>x ρ S λd S1=>dH d λj=>lim j=true/\Q (nxR 0 j.toNat) S1
theorem Qq{w:WP D}{x:XE}(hw:Sd w x):Sd (wR1 w) (xR1 x):=λ_ _ _ h=>be ((hw _ _ _ h).mono λd S1 h=>by
 obtain⟨i,rfl,h⟩:=cv h;dsimp only;rw[if_pos h.1];exact bx h.2)
def wR2(x y:WP D):WP Nxt:=λρ S Q=>x ρ S λd S1=>y ρ S1 λe S2=>dH d λi=>dH e λj=>(lim i=true/\lim j=true)/\Q (nxR i (j - i).toNat) S2
theorem Qu{w v:WP D}{x y:XE}(hw:Sd w x)(hv:Sd v y):Sd (wR2 w v) (xR2 x y):=λ_ _ _ h=>be ((hw _ _ _ h).mono λd S1 h=>be ((hv _ _ _ h).mono λe S2 h=>by
 obtain⟨i,rfl,h'⟩:=cv h;obtain⟨j,rfl,h''⟩:=cv h';dsimp only;rw[if_pos h''.1];exact bx h''.2))
def cT(d:D)(S:Sto)(Q:Bool->Sto->Prop):Prop:=match d with
 |.bl b=>Q b S
 |.tup ds=>Q (!ds.isEmpty) S
 |.int i=>Q (i != 0) S
 |.non=>Q false S
 |.str y=>Ok (k8 (.str y) S) Q
 |.ref y=>Ok (k8 (.ref y) S) Q
theorem BF{d:D}{S:Sto}{Q:Bool->Sto->Prop}(h:cT d S Q):Ok (k8 d S) Q:=by cases d <;> first |exact bx h |exact h
def wB(x:WP D):WP Bool:=λρ S Q=>x ρ S λd S1=>wBl d λb=>Q b S1
theorem s_b{w:WP D}{x:XE}(hw:Sd w x):Sd (wB w) (xB x):=λ_ _ _ h=>by
 rw[Ot];exact(hw _ _ _ h).mono λd S1 h=>mI h
def Hn(x y:WP Bool):WP Bool:=λρ S Q=>x ρ S λb S1=>wIf b (y ρ S1 Q) (Q false S1)
def OH(x y:WP Bool):WP Bool:=λρ S Q=>x ρ S λb S1=>wIf b (Q true S1) (y ρ S1 Q)
def Ho(x:WP Bool):WP Bool:=λρ S Q=>x ρ S λb S1=>Q (!b) S1
theorem Kw{w v:WP Bool}{x y:XT}(hw:Sd w x)(hv:Sd v y):Sd (Hn w v) (Am x y):=λ_ _ _ h=>be ((hw _ _ _ h).mono λb S1 h=>by
 cases b with
 |true=>exact hv _ _ _ h
 | false=>exact bx h)
theorem OI{w v:WP Bool}{x y:XT}(hw:Sd w x)(hv:Sd v y):Sd (OH w v) (Jv x y):=λ_ _ _ h=>be ((hw _ _ _ h).mono λb S1 h=>by
 cases b with
 |false=>exact hv _ _ _ h
 | true=>exact bx h)
theorem Kx{w:WP Bool}{x:XT}(hw:Sd w x):Sd (Ho w) (An x):=λ_ _ _ h=>be ((hw _ _ _ h).mono λb S1 h=>bx h)
def Hq(t:WP Bool)(c:WP (List D)):WP (List D):=λρ S Q=>t ρ S λb S1=>wIf b (c ρ S1 Q) (Q [] S1)
theorem Ky{t:WP Bool}{c:WP (List D)}{x:XT}{y:XA}(ht:Sd t x)(hc:Sd c y):Sd (Hq t c) (Ag x y):=λ_ _ _ h=>be ((ht _ _ _ h).mono λb S1 h=>by
 cases b with
 |true=>exact hc _ _ _ h
 | false=>exact bx h)
def ES(f:Bool->List D->Option (List D))(ds:List D)(S:Sto)(Q:List D->Sto->Prop):Prop:=∃es,f false ds=some es/\Q es S
def ET(f:Bool->List D->Option (List D))(d:D)(S:Sto)(Q:List D->Sto->Prop):Prop:=∃r es,ao d S=some r/\f r.1 r.2=some es/\Q es S
def uC(d:D)(S:Sto)(Q:List D->Sto->Prop):Prop:=Ok ((ao d S).map λr=>(r.2,S)) Q
theorem OJ{f:Bool->List D->Option (List D)}{w:WP (List D)}{x:XA}(hw:Sd w x):Sd (λρ S Q=>w ρ S λds S1=>ES f ds S1 Q) (xT f x):=λ_ _ _ h=>be ((hw _ _ _ h).mono λds S1 ⟨es,e,h⟩=>by rw[e];exact bx h)
theorem OK{f:Bool->List D->Option (List D)}{w:WP D}{x:XE}(hw:Sd w x):Sd (λρ S Q=>w ρ S λds S1=>ET f ds S1 Q) (xU f x):=λ_ _ _ h=>be ((hw _ _ _ h).mono λds S1 ⟨r,es,e1,e,h⟩=>by
 rw[e1];dsimp only;rw[e];exact bx h)
def wNo{α:Type}:WP α:=λ_ _ _=>False
theorem pT{α:Type}{x:Rho->Sto->Option (α × Sto)}:Sd wNo x:=λ_ _ _ h=>h.elim
def aY(b:Bool)(x:WP (List D))(y:WP D)(ρ:Rho)(S:Sto)(KT:List D->Sto->Prop)(KV:D->Sto->Prop):Prop:=match b with
 |true=>x ρ S KT
 |false=>y ρ S KV
def wOf{α:Type}(b:Bool)(x:WP (List D))(y:WP D)(gt:List D->Sto->(α->Sto->Prop)->Prop)(gv:D->Sto->(α->Sto->Prop)->Prop):WP α:=λρ S Q=>aY b x y ρ S (λds S1=>gt ds S1 Q) (λd S1=>gv d S1 Q)
theorem s_of{α:Type}{b:Bool}{w:WP (List D)}{v:WP D}{gt:List D->Sto->(α->Sto->Prop)->Prop}{gv:D->Sto->(α->Sto->Prop)->Prop}{x y:Rho->Sto->Option (α × Sto)}(hw:Sd (λρ S Q=>w ρ S λds S1=>gt ds S1 Q) x)(hv:Sd (λρ S Q=>v ρ S λd S1=>gv d S1 Q) y):Sd (wOf b w v gt gv) (if b=true then x else y):=by
 cases b with
 |true=>exact hw
 |false=>exact hv
theorem Qv{b:Bool}{w:WP (List D)}{v u:WP D}{x:XA}{y z:XE}(hw:Sd w x)(hu:Sd u z)(hv:Sd v y):Sd (λρ S Q=>aY b w u ρ S (λds S1=>v ρ S1 λi S2=>dH i λk=>∃d,atI ds k=some d/\Q d S2) (λd S1=>v ρ S1 λi S2=>Ok (ixS d i S2) Q)) (if b=true then tx x y else qD ixS z y):=λρ S Q h=>by
 cases b with
 |true=>
  show Ok (tx x y ρ S) Q;rw[Kj];exact(hw _ _ _ h).mono λds S1 h=>(hv _ _ _ h).mono λi S2 h=>cv h
 |false=>exact be ((hu _ _ _ h).mono λds S1 h=>be (hv _ _ _ h))
abbrev wO2(t:CE->WP D):Option CE->Option (WP D)
 |none=>none
 |some e=>some (t e)
def EU(t:CE->WP Bool):Option CE->WP (List D)->WP (List D)
 |some c,x=>Hq (t c) x
 |none,x=>x
def BG(x y:D)(S:Sto)(Q:D->Sto->Prop):Prop:=dH x λi=>dH y λj=>Q (.int (if j > i then j else i)) S
def BH(x y:D)(S:Sto)(Q:D->Sto->Prop):Prop:=dH x λi=>dH y λj=>Q (.int (if j < i then j else i)) S
def w2(g:D->D->Sto->(D->Sto->Prop)->Prop):List D->Sto->(D->Sto->Prop)->Prop
 |[],_,_=>False
 |[_],_,_=>False
 |[x,y],S,Q=>g x y S Q
 |_::_::_::_,_,_=>False
theorem Hr{g:D->D->Sto->(D->Sto->Prop)->Prop}{f:D->D->Sto->Option (D × Sto)}(hg:∀ {a b S Q},g a b S Q->Ok (f a b S) Q):∀ {ds:List D} {S:Sto} {Q:D->Sto->Prop},w2 g ds S Q->Ok (two f ds S) Q
 |[],_,_,h=>h.elim
 |[_],_,_,h=>h.elim
 |[x,y],_,_,h=>hg h
 |_::_::_::_,_,_,h=>h.elim
def Hs:WP D:=λ_ S Q=>Q (.ref (Zf S)) (S++[.dic [] []])
def Ht(i:Int)(v:Nat):WP D:=λρ S Q=>∃d,ρ[v]?=some (some d)/\Q (.ref (Zf S)) (S++[.dic [o9 i] [d]])
def wCf(i:CI->WP Nxt)(own:List Str)(t:CE->XT)(e:List Cl->XA):List Cl->WP (List D)
 |[]=>wNo
 |⟨tg,it,cond⟩::rest=>Hm own (i it) tg (cnd t cond (e rest)) LF
mutual
def wE(C:Calls)(ar:Nat->Nat):Nat->CE->WP D
 |0,_=>wNo
 |n+1,e=>match e with
  |.non=>wC .non
  |.bl b=>wC (.bl b)
  |.int i=>wC (.int i)
  |.str x=>wC (.str x)
  |.var i=>Ou i
  |.con _ v=>wC (.int v)
  |.tup es=>wSh es (wOn D.tup (wA C ar n es))
  |.lst es=>jJ (wSh es (wA C ar n es))
  |.dic0=>Hs
  |.dic1 i j=>Ht i j
  |.bin o a b=>EL (uy o) (wE C ar n a) (wE C ar n b)
  |.neg a=>OA (wE C ar n a)
  |.cmp o a b=>EL (wCm o) (wE C ar n a) (wE C ar n b)
  |.chn o p a b c=>Ks o p (wE C ar n a) (wE C ar n b) (wE C ar n c)
  |.and a b=>Ow (wE C ar n a) (wE C ar n b)
  |.or a b=>wOr (wE C ar n a) (wE C ar n b)
  |.not a=>Oy (wE C ar n a)
  |.ite c a b=>OC (wT C ar n c) (wE C ar n a) (wE C ar n b)
  |.ix a b=>λρ S Q=>aY (ai a) (wTm C ar n a) (wE C ar n a) ρ S (λds S1=>wE C ar n b ρ S1 λi S2=>dH i λk=>∃d,atI ds k=some d/\Q d S2) (λd S1=>wE C ar n b ρ S1 λi S2=>Ok (ixS d i S2) Q)
  |.sl a lo hi=>wSl (wE C ar n a) (wO (wO2 (wE C ar n) lo)) (wO (wO2 (wE C ar n) hi))
  |.call f es=>Hj (C f) (ar f) (wA C ar n es)
  |.inst t a=>wUn (wOk (lc t)) (wE C ar n a)
  |.len a=>wOf (ai a) (wTm C ar n a) (wE C ar n a) (wOk (cb false)) (wOk (am cb))
  |.all a=>wOf (ai a) (wTm C ar n a) (wE C ar n a) (wOk (kf false)) (wOk (am kf))
  |.tupOf a=>wOf (ai a) (wTm C ar n a) (wE C ar n a) (wOk (eK false)) (wOk (am eK))
  |.listOf a=>jJ (wOf (ai a) (wTm C ar n a) (wE C ar n a) (λds S Q=>Q ds S) uC)
  |.listR a=>jJ (Ku (wE C ar n a))
  |.srt a=>jJ (wOf (ai a) (wTm C ar n a) (wE C ar n a) (ES ce) (ET ce))
  |.mxL a=>wOf (ai a) (wTm C ar n a) (wE C ar n a) (wOk (m7 false)) (wOk (am m7))
  |.mxD a c=>wOf (ai a) (wTm C ar n a) (wE C ar n a) (wOk (gZ c false)) (wOk (am (gZ c)))
  |.strI a=>wUn (wOk xM) (wE C ar n a)
  |.rev a=>wUn (wOk zW) (wE C ar n a)
  |.mx a b=>wUn (w2 BG) (wA C ar n [a,b])
  |.mn a b=>wUn (w2 BH) (wA C ar n [a,b])
  |.rep a=>wUn (wOk jQ) (wE C ar n a)
  |.comp own elt cls=>jJ (wCf (wI C ar n) own (evT C ar n) (gX C ar n elt) cls)
  |.app o a=>EO fO qR (wE C ar n o) (wA C ar n [a])
  |.popAt o a=>EO fO e9 (wE C ar n o) (wA C ar n [a])
  |.cnt o a=>EO (λd _=>isTup d) tY (wE C ar n o) (wA C ar n [a])
def wA(C:Calls)(ar:Nat->Nat):Nat->List CE->WP (List D)
 |0,_=>wNo
 |n+1,es=>match es with
  |[]=>OE
  |e::es=>Hl (wE C ar n e) (wA C ar n es)
def wTm(C:Calls)(ar:Nat->Nat):Nat->CE->WP (List D)
 |0,_=>wNo
 |n+1,e=>match e with
  |.lst es=>wSh es (wA C ar n es)
  |.listOf a=>wOf (ai a) (wTm C ar n a) (wE C ar n a) (λds S Q=>Q ds S) uC
  |.listR a=>Ku (wE C ar n a)
  |.srt a=>wOf (ai a) (wTm C ar n a) (wE C ar n a) (ES ce) (ET ce)
  |.comp own elt cls=>wCf (wI C ar n) own (evT C ar n) (gX C ar n elt) cls
  |_=>wNo
def wI(C:Calls)(ar:Nat->Nat):Nat->CI->WP Nxt
 |0,_=>wNo
 |n+1,it=>match it with
  |.val a=>wOf (ai a) (wTm C ar n a) (wE C ar n a) (λds S Q=>Q (nxL ds) S) BC
  |.r1 a=>wR1 (wE C ar n a)
  |.r2 a b=>wR2 (wE C ar n a) (wE C ar n b)
  |.en a=>wOf (ai a) (wTm C ar n a) (wE C ar n a) (λds S Q=>Q (t0 ds) S) BD
def wT(C:Calls)(ar:Nat->Nat):Nat->CE->WP Bool
 |0,_=>wNo
 |n+1,e=>match e with
  |.cmp o a b=>wB (EL (wCm o) (wE C ar n a) (wE C ar n b))
  |.chn o p a b c=>wB (Ks o p (wE C ar n a) (wE C ar n b) (wE C ar n c))
  |.and a b=>Hn (wT C ar n a) (wT C ar n b)
  |.or a b=>OH (wT C ar n a) (wT C ar n b)
  |.not a=>Ho (wT C ar n a)
  |.ite _ _ _=>wNo
  |e=>wUn cT (wE C ar n e)
end
def wCl(C:Calls)(ar:Nat->Nat)(n:Nat)(elt:CE):List Cl->WP (List D)
 |[]=>wOn (λd=>[d]) (wE C ar n elt)
 |⟨tg,it,cond⟩::rest=>BB (wI C ar n it) tg (cnd (evT C ar n) cond (gX C ar n elt rest)) LF
theorem pU{C:Calls}{ar:Nat->Nat}:∀ {n:Nat} {es:List CE} {ρ:Rho} {S S':Sto} {ds:List D},evA C ar n es ρ S=some (ds,S')->ds.length=es.length
 |0,_,_,_,_,_,h=>by simp only[evA,xNo] at h;cases h
 |n+1,[],_,_,_,_,h=>by simp only[evA,Dz] at h;cases h;rfl
 |n+1,e::es,_,_,_,_,h=>by
  simp only[evA,vF] at h;obtain⟨a,S1,e1,h⟩:=ae h;obtain⟨as,S2,e2,h⟩:=ae h;cases h;rw[ZB,ZB,pU e2]
structure SndW(C:Calls)(ar:Nat->Nat)(n:Nat):Prop where
 e:∀ {e:CE},Sd (wE C ar n e) (evE C ar n e)
 a:∀ {es:List CE},Sd (wA C ar n es) (evA C ar n es)
 m:∀ {e:CE},Sd (wTm C ar n e) (cM C ar n e)
 i:∀ {i:CI},Sd (wI C ar n i) (evI C ar n i)
 t:∀ {e:CE},Sd (wT C ar n e) (evT C ar n e)
section
variable {C:Calls} {ar:Nat->Nat} {n:Nat}
theorem OL(h:SndW C ar n){es:List CE}:Sd (wSh es (wOn D.tup (wA C ar n es))) (j9 ka (evA C ar n es)):=λρ S Q w=>by
 obtain⟨le,w⟩:=je w;obtain⟨ds,S1,e1,q⟩:=h.a _ _ _ w;refine be ⟨ds,S1,e1,?_⟩;have l:=pU e1;show Ok (ka ds S1) Q;rw[ED];exact⟨by lia,q⟩
theorem BI(h:SndW C ar n){es:List CE}:Sd (wSh es (wA C ar n es)) (nz (evA C ar n es)):=λρ S Q w=>by
 obtain⟨le,w⟩:=je w;obtain⟨ds,S1,e1,q⟩:=h.a _ _ _ w;rw[EC];have l:=pU e1;exact⟨ds,S1,e1,by lia,q⟩
theorem Hu(h:SndW C ar n){o:Option CE}:Sd (wO (wO2 (wE C ar n) o)) (opt (evE C ar n) o):=by
 cases o with
 |none=>exact Qh
 |some e=>exact Qj h.e
theorem EV{a b:D}{S:Sto}{Q:D->Sto->Prop}(h:BG a b S Q):Ok (zO a b S) Q:=by
 obtain⟨i,rfl,h'⟩:=cv h;obtain⟨j,rfl,h''⟩:=cv h';exact bx h''
theorem EW{a b:D}{S:Sto}{Q:D->Sto->Prop}(h:BH a b S Q):Ok (zP a b S) Q:=by
 obtain⟨i,rfl,h'⟩:=cv h;obtain⟨j,rfl,h''⟩:=cv h';exact bx h''
end
section
variable {C:Calls} {ar:Nat->Nat} {n:Nat}
theorem OM(h:SndW C ar n){o:Option CE}{w:WP (List D)}{x:XA}(hw:Sd w x):Sd (EU (wT C ar n) o w) (cnd (evT C ar n) o x):=by
 cases o with
 |none=>exact hw
 |some c=>exact Ky h.t hw
theorem BJ{α β:Type}{f:α->Sto->Option (β × Sto)}{a:α}{S:Sto}{Q:β->Sto->Prop}(h:wOk f a S Q):Ok (f a S) Q:=h
theorem s_q(h:SndW C ar n){f:Bool->List D->Sto->Option (D × Sto)}{a:CE}:Sd (wOf (ai a) (wTm C ar n a) (wE C ar n a) (wOk (f false)) (wOk (am f))) (if ai a=true then qE f (cM C ar n a) else qF f (evE C ar n a)):=
 s_of (EM (f:=f false) h.m BJ) (EM (f:=am f) h.e BJ)
theorem Hv(h:SndW C ar n){a:CE}:Sd (wOf (ai a) (wTm C ar n a) (wE C ar n a) (λds S Q=>Q ds S) uC) (if ai a=true then cM C ar n a else lx (evE C ar n a)):=s_of h.m (λ_ _ _ w=>be (h.e _ _ _ w))
theorem Hw(h:SndW C ar n){a:CE}:Sd (wOf (ai a) (wTm C ar n a) (wE C ar n a) (ES ce) (ET ce)) (if ai a=true then xT ce (cM C ar n a) else xU ce (evE C ar n a)):=s_of (OJ h.m) (OK h.e)
theorem s_u{g:D->Sto->Option (D × Sto)}{w:WP D}{x:XE}(hw:Sd w x):Sd (wUn (wOk g) w) (xUn g x):=EM (f:=g) hw BJ
theorem Qw{w:WP (List D)}{x:XA}(hw:Sd w x):Sd (wUn (w2 BG) w) (j9 (two zO) x):=λ_ _ _ h=>be ((hw _ _ _ h).mono λ_ _ h=>Hr (λz=>EV z) h)
theorem Qx{w:WP (List D)}{x:XA}(hw:Sd w x):Sd (wUn (w2 BH) w) (j9 (two zP) x):=λ_ _ _ h=>be ((hw _ _ _ h).mono λ_ _ h=>Hr (λz=>EW z) h)
theorem Kz:Sd Hs Ap:=λ_ _ _ h=>bx h
theorem KA{i:Int}{v:Nat}:Sd (Ht i v) (qZ i v):=λ_ _ _ h=>by
 obtain⟨d,e,h⟩:=h;unfold qZ;rw[e];exact bx h
theorem OO{w:WP D}{x:XE}(hw:Sd w x):Sd (wUn cT w) (DI x):=EM (f:=k8) hw BF
theorem og:∀n,SndW C ar n
 |0=>⟨pT,pT,pT,pT,pT⟩
 |n+1=>by
  have h:=og n;refine⟨λ{e}=>?_,λ{es}=>?_,λ{e}=>?_,λ{i}=>?_,λ{e}=>?_⟩
  ·cases e with
   |non=>exact s_c
   |bl b=>exact s_c
   |int b=>exact s_c
   |str b=>exact s_c
   |var b=>exact Ov
   |con b v=>exact s_c
   |tup es=>exact OL h
   |lst es=>exact gQ (BI h)
   |dic0=>exact Kz
   |dic1 i j=>exact KA
   |bin o a b=>exact Bw h.e h.e EN
   |neg a=>exact OB h.e
   |cmp o a b=>exact Bw h.e h.e pQ
   |chn o p a b c=>exact Hi h.e h.e h.e
   |and a b=>exact Ox h.e h.e
   |or a b=>exact Qg h.e h.e
   |not a=>exact Oz h.e
   |ite c a b=>exact OD h.t h.e h.e
   |ix a b=>exact Qv h.m h.e h.e
   |sl a lo hi=>exact Qk h.e (Hu h) (Hu h)
   |call f es=>exact Kt h.a
   |inst t a=>exact s_u h.e
   |len a=>exact s_q h
   |all a=>exact s_q h
   |tupOf a=>exact s_q h
   |listOf a=>exact gQ (Hv h)
   |listR a=>exact gQ (Hk h.e)
   |srt a=>exact gQ (Hw h)
   |mxL a=>exact s_q h
   |mxD a c=>exact s_q h
   |strI a=>exact s_u h.e
   |rev a=>exact s_u h.e
   |mx a b=>exact Qw h.a
   |mn a b=>exact Qx h.a
   |rep a=>exact s_u h.e
   |comp own elt cls=>cases cls with
    |nil=>exact gQ pT
    |cons c rest=>cases c with |mk tg it cond=>exact gQ (BA h.i)
   |app o a=>exact Bz h.e h.a
   |popAt o a=>exact Bz h.e h.a
   |cnt o a=>exact Bz h.e h.a
  ·cases es with
   |nil=>exact OG
   |cons e es=>exact Kv h.e h.a
  ·cases e with
   |lst es=>exact BI h
   |listOf a=>exact Hv h
   |listR a=>exact Hk h.e
   |srt a=>exact Hw h
   |comp own elt cls=>cases cls with
    |nil=>exact pT
    |cons c rest=>cases c with |mk tg it cond=>exact BA h.i
   |_=>exact pT
  ·cases i with
   |val a=>exact s_of (BE h.m) (Qo h.e)
   |r1 a=>exact Qq h.e
   |r2 a b=>exact Qu h.e h.e
   |en a=>exact s_of (BE h.m) (Qp h.e)
  ·cases e with
   |cmp o a b=>exact s_b (Bw h.e h.e pQ)
   |chn o p a b c=>exact s_b (Hi h.e h.e h.e)
   |and a b=>exact Kw h.t h.t
   |or a b=>exact OI h.t h.t
   |not a=>exact Kx h.t
   |ite a b c=>exact pT
   |_=>exact OO h.e
theorem Qy{elt:CE}{cls:List Cl}:Sd (wCl C ar n elt cls) (gX C ar (n+1) elt cls):=by
 cases cls with
 |nil=>exact BE (og n).e
 |cons c rest=>cases c with |mk tg it cond=>exact ER (og n).i
theorem KB{elt:CE}{cls:List Cl}{o:Option CE}{ρ:Rho}{S:Sto}{Q:List D->Sto->Prop}(h:EU (wT C ar (n+1)) o (wCl C ar n elt cls) ρ S Q):Ok (cnd (evT C ar (n+1)) o (gX C ar (n+1) elt cls) ρ S) Q:=OM (og (n+1)) Qy _ _ _ h
def wNm:Nat->D->Rho->(Rho->Prop)->Prop
 |_,_,[],_=>False
 |0,d,_::ρ,Q=>Q (some d::ρ)
 |i+1,d,o::ρ,Q=>wNm i d ρ λρ'=>Q (o::ρ')
theorem pV:∀ {i:Nat} {d:D} {ρ:Rho} {Q:Rho->Prop},wNm i d ρ Q->i < ρ.length/\Q (ρ.set i (some d))
 |i,_,[],_,h=>by cases i <;> exact h.elim
 |0,d,_::ρ,Q,h=>⟨by simp,h⟩
 |i+1,d,o::ρ,Q,h=>by
  have:=pV (ρ:=ρ) (Q:=λρ'=>Q (o::ρ')) h;exact⟨by rw[ZB];lia,this.2⟩
def wBs:List Tg->List D->Rho->(Rho->Prop)->Prop
 |[],[],ρ,Q=>Q ρ
 |[],_::_,_,_=>False
 |.name _::_,[],_,_=>False
 |.tup _::_,[],_,_=>False
 |.name i::ts,d::ds,ρ,Q=>wNm i d ρ λρ1=>wBs ts ds ρ1 Q
 |.tup us::ts,d::ds,ρ,Q=>∃ρ1,aB (.tup us) d ρ=some ρ1/\wBs ts ds ρ1 Q
def wTp(ts:List Tg)(d:D)(ρ:Rho)(Q:Rho->Prop):Prop:=match d with
 |.tup ds=>wBs ts ds ρ Q
 |.non=>False |.bl _=>False |.str _=>False |.int _=>False |.ref _=>False
def wBd:Tg->D->Rho->(Rho->Prop)->Prop
 |.name i,d,ρ,Q=>wNm i d ρ Q
 |.tup ts,d,ρ,Q=>wTp ts d ρ Q
theorem BK{i:Nat}{d:D}{ρ:Rho}{Q:Rho->Prop}(h:wNm i d ρ Q):∃ρ1,aB (.name i) d ρ=some ρ1/\Q ρ1:=⟨_,by rw[EH,if_pos (pV h).1],(pV h).2⟩
theorem uD:∀ {ts:List Tg} {ds:List D} {ρ:Rho} {Q:Rho->Prop},wBs ts ds ρ Q->∃ρ1,aP ts ds ρ=some ρ1/\Q ρ1
 |[],[],ρ,Q,h=>⟨ρ,wo,h⟩
 |[],_::_,_,_,h=>h.elim
 |.name _::_,[],_,_,h=>h.elim
 |.tup _::_,[],_,_,h=>h.elim
 |.name i::ts,d::ds,ρ,Q,h=>by
  obtain⟨ρ1,e,q⟩:=BK h;obtain⟨ρ2,e2,q⟩:=uD q;exact⟨ρ2,by rw[aP,e];exact e2,q⟩
 |.tup us::ts,d::ds,ρ,Q,h=>by
  obtain⟨ρ1,e,q⟩:=h;obtain⟨ρ2,e2,q⟩:=uD q;exact⟨ρ2,by rw[aP,e];exact e2,q⟩
theorem KC{t:Tg}{d:D}{ρ:Rho}{Q:Rho->Prop}(h:wBd t d ρ Q):∃ρ1,aB t d ρ=some ρ1/\Q ρ1:=by
 cases t with
 |name i=>exact BK h
 |tup ts=>cases d with
  |tup ds=>rw[Bv];exact uD h
  |_=>exact h.elim
@[inline]abbrev WS:=Rho->Sto->(Fl->Rho->Sto->Prop)->Prop
def rW(y:WS)(ρ:Rho)(S:Sto)(Q:Fl->Rho->Sto->Prop):Prop:=y ρ S Q
def wNx(y:WS)(Q:Fl->Rho->Sto->Prop)(f:Fl)(ρ:Rho)(S:Sto):Prop:=match f with
 |.nx=>rW y ρ S Q
 |.rt d=>Q (.rt d) ρ S
 |.bk=>Q .bk ρ S
 |.ct=>Q .ct ρ S
mutual
def wS(C:Calls)(ar:Nat->Nat):Nat->CS->WS
 |0,_=>λ_ _ _=>False
 |n+1,s=>match s with
  |.asg t e=>λρ S Q=>wE C ar n e ρ S λd S1=>wBd t d ρ λρ1=>Q .nx ρ1 S1
  |.setI v o i=>λρ S Q=>wE C ar n v ρ S λa S1=>wE C ar n o ρ S1 λb S2=>wE C ar n i ρ S2 λc S3=>∃S4,lu b c a S3=some S4/\Q .nx ρ S4
  |.ex e=>λρ S Q=>wE C ar n e ρ S λ_ S1=>Q .nx ρ S1
  |.ret e=>λρ S Q=>wE C ar n e ρ S λd S1=>Q (.rt d) ρ S1
  |.ifs c a b=>λρ S Q=>wT C ar n c ρ S λt S1=>wIf t (rW (wSs C ar n a) ρ S1 Q) (rW (wSs C ar n b) ρ S1 Q)
  |.for_ t it b=>λρ S Q=>wI C ar n it ρ S λnx S1=>OkS (fP nx t (fS C ar n b) LF 0 ρ S1) Q
  |.cnt=>λρ S Q=>Q .ct ρ S
  |.never=>λ_ _ _=>False
def wSs(C:Calls)(ar:Nat->Nat):Nat->List CS->WS
 |0,_=>λ_ _ _=>False
 |n+1,ss=>match ss with
  |[]=>λρ S Q=>Q .nx ρ S
  |s::ss=>λρ S Q=>wS C ar n s ρ S (wNx (wSs C ar n ss) Q)
end
structure SdS(C:Calls)(ar:Nat->Nat)(n:Nat):Prop where
 s:∀ {s:CS} {ρ S Q},wS C ar n s ρ S Q->OkS (evS C ar n s ρ S) Q
 ss:∀ {ss:List CS} {ρ S Q},wSs C ar n ss ρ S Q->OkS (fS C ar n ss ρ S) Q
theorem BL:∀n,SdS C ar n
 |0=>⟨λh=>by simp only[wS] at h,λh=>by simp only[wSs] at h⟩
 |n+1=>by
  have h:=BL n;have g:SndW C ar n:=og n;refine⟨λ{s ρ S Q} w=>?_,λ{ss ρ S Q} w=>?_⟩
  ·cases s with
   |asg t e=>simp only[evS,Ex];simp only[wS] at w;exact(g.e _ _ _ w).mono λd S1 w=>KC w
   |setI v o i=>simp only[evS,Bq];simp only[wS] at w;exact(g.e _ _ _ w).mono λa S1 w=>(g.e _ _ _ w).mono λb S2 w=>g.e _ _ _ w
   |ex e=>simp only[evS,Bp];simp only[wS] at w;exact g.e _ _ _ w
   |ret e=>simp only[evS,Ey];simp only[wS] at w;exact g.e _ _ _ w
   |ifs c a b=>
    simp only[evS,J1];simp only[wS] at w;refine(g.t _ _ _ w).mono λt S1 w=>?_;cases t with
    |true=>exact h.ss w
    |false=>exact h.ss w
   |for_ t it b=>simp only[evS,Ez];simp only[wS] at w;exact g.i _ _ _ w
   |cnt=>simp only[wS] at w;simp only[evS];exact⟨_,_,_,rfl,w⟩
   |never=>simp only[wS] at w
  ·cases ss with
   |nil=>simp only[wSs] at w;simp only[fS];exact⟨_,_,_,rfl,w⟩
   |cons s ss=>
    simp only[wSs] at w;simp only[fS,Ew];refine(h.s w).mono λf ρ1 S1 w=>?_;cases f with
    |nx=>exact h.ss w
    |_=>exact w
theorem BM{ss:List CS}{ρ:Rho}{S:Sto}{Q:Fl->Rho->Sto->Prop}(h:rW (wSs C ar n ss) ρ S Q):OkS (fS C ar n ss ρ S) Q:=(BL n).ss h
theorem BN{s:CS}{ss:List CS}{ρ:Rho}{S:Sto}{Q:Fl->Rho->Sto->Prop}(h:wS C ar n s ρ S (wNx (wSs C ar n ss) Q)):rW (wSs C ar (n+1) (s::ss)) ρ S Q:=h
theorem EX{ρ:Rho}{S:Sto}{Q:Fl->Rho->Sto->Prop}(h:Q .nx ρ S):rW (wSs C ar (n+1) []) ρ S Q:=h
end
section
variable {C:Calls} {ar:Nat->Nat} {A B:Prop} {S S1:Sto} {Q:D->Sto->Prop} {Ql:List D->Sto->Prop} {Qn:Nxt->Sto->Prop} {Qb:Bool->Prop} {Qi:Int->Prop} {Qd:D->Prop} {Qr:Rho->Prop} {Qt:Bool->Sto->Prop} {Qs:Fl->Rho->Sto->Prop} {t:Bool} {d x y:D} {i j:Int} {n m f:Nat} {s:Str} {o:BOp} {c p:COp} {ds xs ys:List D} {l h:Option Int} {tg:Tg} {ts:List Tg} {ρ ρ2:Rho} {es:List CE} {a b e:CE} {oa ob cd:Option CE} {own:List Str} {it:CI} {rest:List Cl} {ty:Ty} {w wl:WP (List D)} {wv:WP D} {sa sb:List CS} {ws:WS} {od:Option D} {g:D->D->Sto->(D->Sto->Prop)->Prop}
theorem KD:wE C ar (n+1) (.non) ρ S Q=(Q .non S):=rfl
theorem OP:wE C ar (n+1) (.bl t) ρ S Q=(Q (.bl t) S):=rfl
theorem KF:wE C ar (n+1) (.int i) ρ S Q=(Q (.int i) S):=rfl
theorem KG:wE C ar (n+1) (.str s) ρ S Q=(Q (.str s) S):=rfl
theorem KH:wE C ar (n+1) (.con m i) ρ S Q=(Q (.int i) S):=rfl
theorem KI:wE C ar (n+1) (.var m) ρ S Q=(ux ρ m λd=>Q d S):=rfl
theorem KJ:wE C ar (n+1) (.tup es) ρ S Q=(fq 60 es (wA C ar n es ρ S λds S1=>Q (.tup ds) S1)):=rfl
theorem KL:wE C ar (n+1) (.lst es) ρ S Q=(fq 60 es (wA C ar n es ρ S λds S1=>Q (.ref S1.length) (S1++[.lst ds]))):=rfl
theorem EY:wE C ar (n+1) (.dic0) ρ S Q=(Q (.ref (Zf S)) (S++[.dic [] []])):=rfl
theorem EZ{v:Nat}:wE C ar (n+1) (.dic1 i v) ρ S Q=(∃d,ρ[v]?=some (some d)/\Q (.ref (Zf S)) (S++[.dic [o9 i] [d]])):=rfl
theorem KM:wE C ar (n+1) (.bin o a b) ρ S Q=(wE C ar n a ρ S λx S1=>wE C ar n b ρ S1 λy S2=>uy o x y S2 Q):=rfl
theorem KN:wE C ar (n+1) (.neg a) ρ S Q=(wE C ar n a ρ S λd S1=>dH d λi=>Q (.int (-i)) S1):=rfl
theorem KO:wE C ar (n+1) (.cmp c a b) ρ S Q=(wE C ar n a ρ S λx S1=>wE C ar n b ρ S1 λy S2=>wCm c x y S2 Q):=rfl
theorem KP:wE C ar (n+1) (.chn c p a b e) ρ S Q=(wE C ar n a ρ S λx S1=>wE C ar n b ρ S1 λy S2=>wCm c x y S2 λr S3=>wBl r λt=>wIf t (wE C ar n e ρ S3 λz S4=>wCm p y z S4 Q) (Q (.bl false) S3)):=rfl
theorem KQ:wE C ar (n+1) (.and a b) ρ S Q=(wE C ar n a ρ S λd S1=>wBl d λt=>wIf t (wE C ar n b ρ S1 Q) (Q (.bl false) S1)):=rfl
theorem OQ:wE C ar (n+1) (.or a b) ρ S Q=(wE C ar n a ρ S λd S1=>wBl d λt=>wIf t (Q (.bl true) S1) (wE C ar n b ρ S1 Q)):=rfl
theorem KR:wE C ar (n+1) (.not a) ρ S Q=(wE C ar n a ρ S λd S1=>wBl d λt=>Q (.bl (!t)) S1):=rfl
theorem KS:wE C ar (n+1) (.ite e a b) ρ S Q=(wT C ar n e ρ S λt S1=>wIf t (wE C ar n a ρ S1 Q) (wE C ar n b ρ S1 Q)):=rfl
theorem OT:wE C ar (n+1) (.ix a b) ρ S Q=(aY (ai a) (wTm C ar n a) (wE C ar n a) ρ S (λds S1=>wE C ar n b ρ S1 λi S2=>dH i λk=>∃d,atI ds k=some d/\Q d S2) (λd S1=>wE C ar n b ρ S1 λi S2=>Ok (ixS d i S2) Q)):=rfl
theorem E5:wE C ar (n+1) (.sl a none none) ρ S Q=(wE C ar n a ρ S λd S1=>uA none none d S1 Q):=rfl
theorem E6:wE C ar (n+1) (.sl a none (some b)) ρ S Q=(wE C ar n a ρ S λd S1=>wE C ar n b ρ S1 λy S2=>dH y λj=>uA none (some j) d S2 Q):=rfl
theorem E7:wE C ar (n+1) (.sl a (some b) none) ρ S Q=(wE C ar n a ρ S λd S1=>wE C ar n b ρ S1 λy S2=>dH y λj=>uA (some j) none d S2 Q):=rfl
theorem E8:wE C ar (n+1) (.sl a (some b) (some e)) ρ S Q=(wE C ar n a ρ S λd S1=>wE C ar n b ρ S1 λy S2=>dH y λj=>wE C ar n e ρ S2 λz S3=>dH z λk=>uA (some j) (some k) d S3 Q):=rfl
theorem E9:wE C ar (n+1) (.call f es) ρ S Q=(wA C ar n es ρ S λds S1=>ds.length=ar f/\Ok (C f ds S1) Q):=rfl
theorem Fa:wE C ar (n+1) (.inst ty a) ρ S Q=(wE C ar n a ρ S λd S1=>Ok (lc ty d S1) Q):=rfl
theorem KU:wE C ar (n+1) (.len a) ρ S Q=(aY (ai a) (wTm C ar n a) (wE C ar n a) ρ S (λds S1=>Ok (cb false ds S1) Q) (λd S1=>Ok (am cb d S1) Q)):=rfl
theorem KW:wE C ar (n+1) (.all a) ρ S Q=(aY (ai a) (wTm C ar n a) (wE C ar n a) ρ S (λds S1=>Ok (kf false ds S1) Q) (λd S1=>Ok (am kf d S1) Q)):=rfl
theorem BO:wE C ar (n+1) (.tupOf a) ρ S Q=(aY (ai a) (wTm C ar n a) (wE C ar n a) ρ S (λds S1=>Ok (eK false ds S1) Q) (λd S1=>Ok (am eK d S1) Q)):=rfl
theorem KY:wE C ar (n+1) (.mxL a) ρ S Q=(aY (ai a) (wTm C ar n a) (wE C ar n a) ρ S (λds S1=>Ok (m7 false ds S1) Q) (λd S1=>Ok (am m7 d S1) Q)):=rfl
theorem KZ:wE C ar (n+1) (.mxD a i) ρ S Q=(aY (ai a) (wTm C ar n a) (wE C ar n a) ρ S (λds S1=>Ok (gZ i false ds S1) Q) (λd S1=>Ok (am (gZ i) d S1) Q)):=rfl
theorem yh:wE C ar (n+1) (.listOf a) ρ S Q=(aY (ai a) (wTm C ar n a) (wE C ar n a) ρ S (λds S1=>Q (.ref S1.length) (S1++[.lst ds])) (λd S1=>Ok ((ao d S1).map λr=>(r.2,S1)) λds S1=>Q (.ref S1.length) (S1++[.lst ds]))):=rfl
theorem BP:wE C ar (n+1) (.listR a) ρ S Q=(wE C ar n a ρ S λd S1=>∃i:Nat,d = .int i/\i<=1000/\Q (.ref S1.length) (S1++[.lst ((Zk i).map λj=>.int (Int.ofNat j))])):=rfl
theorem K0:wE C ar (n+1) (.srt a) ρ S Q=(aY (ai a) (wTm C ar n a) (wE C ar n a) ρ S (λds S1=>∃es,ce false ds=some es/\Q (.ref S1.length) (S1++[.lst es])) (λd S1=>∃r es,ao d S1=some r/\ce r.1 r.2=some es/\Q (.ref S1.length) (S1++[.lst es]))):=rfl
theorem Fb:wE C ar (n+1) (.strI a) ρ S Q=(wE C ar n a ρ S λd S1=>Ok (xM d S1) Q):=rfl
theorem K1:wE C ar (n+1) (.rev a) ρ S Q=(wE C ar n a ρ S λd S1=>Ok (zW d S1) Q):=rfl
theorem OU:wE C ar (n+1) (.mx a b) ρ S Q=(wA C ar n [a,b] ρ S λds S1=>w2 BG ds S1 Q):=rfl
theorem OV:wE C ar (n+1) (.mn a b) ρ S Q=(wA C ar n [a,b] ρ S λds S1=>w2 BH ds S1 Q):=rfl
theorem K2:wE C ar (n+1) (.rep a) ρ S Q=(wE C ar n a ρ S λd S1=>Ok (jQ d S1) Q):=rfl
theorem Fc:wE C ar (n+1) (.comp own a (⟨tg,it,cd⟩::rest)) ρ S Q=(wI C ar n it ρ S λnx S1=>rY own [] λr=>rZ ρ r λρ'=>wFt tg ρ' (Ok (bo nx tg (cnd (evT C ar n) cd (gX C ar n a rest)) ρ' LF 0 S1) λes S2=>es.length<=100000/\Q (.ref S2.length) (S2++[.lst es]))):=rfl
theorem K3:wE C ar (n+1) (.app a b) ρ S Q=(wE C ar n a ρ S λd S1=>fO d S1=true/\wA C ar n [b] ρ S1 λas S2=>Ok (qR d as S2) Q):=rfl
theorem BQ:wE C ar (n+1) (.popAt a b) ρ S Q=(wE C ar n a ρ S λd S1=>fO d S1=true/\wA C ar n [b] ρ S1 λas S2=>Ok (e9 d as S2) Q):=rfl
theorem K4:wE C ar (n+1) (.cnt a b) ρ S Q=(wE C ar n a ρ S λd S1=>isTup d=true/\wA C ar n [b] ρ S1 λas S2=>Ok (tY d as S2) Q):=rfl
theorem Qz:wA C ar (n+1) [] ρ S Ql=Ql [] S:=rfl
theorem QA:wA C ar (n+1) (a::es) ρ S Ql=(wE C ar n a ρ S λd S1=>wA C ar n es ρ S1 λds S2=>Ql (d::ds) S2):=rfl
theorem K5:wTm C ar (n+1) (.lst es) ρ S Ql=fq 60 es (wA C ar n es ρ S Ql):=rfl
theorem yi:wTm C ar (n+1) (.listOf a) ρ S Ql=(aY (ai a) (wTm C ar n a) (wE C ar n a) ρ S (λds S1=>Ql ds S1) (λd S1=>Ok ((ao d S1).map λr=>(r.2,S1)) Ql)):=rfl
theorem BR:wTm C ar (n+1) (.listR a) ρ S Ql=(wE C ar n a ρ S λd S1=>∃i:Nat,d = .int i/\i<=1000/\Ql ((Zk i).map λj=>.int (Int.ofNat j)) S1):=rfl
theorem K6:wTm C ar (n+1) (.srt a) ρ S Ql=(aY (ai a) (wTm C ar n a) (wE C ar n a) ρ S (λds S1=>∃es,ce false ds=some es/\Ql es S1) (λd S1=>∃r es,ao d S1=some r/\ce r.1 r.2=some es/\Ql es S1)):=rfl
theorem Fd:wTm C ar (n+1) (.comp own a (⟨tg,it,cd⟩::rest)) ρ S Ql=(wI C ar n it ρ S λnx S1=>rY own [] λr=>rZ ρ r λρ'=>wFt tg ρ' (Ok (bo nx tg (cnd (evT C ar n) cd (gX C ar n a rest)) ρ' LF 0 S1) λes S2=>es.length<=100000/\Ql es S2)):=rfl
theorem K7:wI C ar (n+1) (.val a) ρ S Qn=(aY (ai a) (wTm C ar n a) (wE C ar n a) ρ S (λds S1=>Qn (nxL ds) S1) (λd S1=>BC d S1 Qn)):=rfl
theorem OW:wI C ar (n+1) (.en a) ρ S Qn=(aY (ai a) (wTm C ar n a) (wE C ar n a) ρ S (λds S1=>Qn (t0 ds) S1) (λd S1=>BD d S1 Qn)):=rfl
theorem OX:wI C ar (n+1) (.r1 a) ρ S Qn=(wE C ar n a ρ S λd S1=>dH d λj=>lim j=true/\Qn (nxR 0 j.toNat) S1):=rfl
theorem OY:wI C ar (n+1) (.r2 a b) ρ S Qn=(wE C ar n a ρ S λd S1=>wE C ar n b ρ S1 λe S2=>dH d λi=>dH e λj=>(lim i=true/\lim j=true)/\Qn (nxR i (j - i).toNat) S2):=rfl
theorem K8:wT C ar (n+1) (.cmp c a b) ρ S Qt=(wE C ar n a ρ S λx S1=>wE C ar n b ρ S1 λy S2=>wCm c x y S2 λd S3=>wBl d λt=>Qt t S3):=rfl
theorem K9:wT C ar (n+1) (.chn c p a b e) ρ S Qt=(wE C ar n a ρ S λx S1=>wE C ar n b ρ S1 λy S2=>wCm c x y S2 λr S3=>wBl r λt=>wIf t (wE C ar n e ρ S3 λz S4=>wCm p y z S4 λd S5=>wBl d λt=>Qt t S5) (wBl (.bl false) λt=>Qt t S3)):=rfl
theorem La:wT C ar (n+1) (.and a b) ρ S Qt=(wT C ar n a ρ S λt S1=>wIf t (wT C ar n b ρ S1 Qt) (Qt false S1)):=rfl
theorem OZ:wT C ar (n+1) (.or a b) ρ S Qt=(wT C ar n a ρ S λt S1=>wIf t (Qt true S1) (wT C ar n b ρ S1 Qt)):=rfl
theorem Lb:wT C ar (n+1) (.not a) ρ S Qt=(wT C ar n a ρ S λt S1=>Qt (!t) S1):=rfl
theorem O0:wT C ar (n+1) (.bl t) ρ S Qt=(wE C ar n (.bl t) ρ S λd S1=>cT d S1 Qt):=rfl
theorem Lc:wT C ar (n+1) (.var m) ρ S Qt=(wE C ar n (.var m) ρ S λd S1=>cT d S1 Qt):=rfl
theorem Fe:wT C ar (n+1) (.call f es) ρ S Qt=(wE C ar n (.call f es) ρ S λd S1=>cT d S1 Qt):=rfl
theorem Ff:wT C ar (n+1) (.inst ty a) ρ S Qt=(wE C ar n (.inst ty a) ρ S λd S1=>cT d S1 Qt):=rfl
theorem Lf:wT C ar (n+1) (.all a) ρ S Qt=(wE C ar n (.all a) ρ S λd S1=>cT d S1 Qt):=rfl
theorem Lg:wT C ar (n+1) (.len a) ρ S Qt=(wE C ar n (.len a) ρ S λd S1=>cT d S1 Qt):=rfl
theorem O1:wT C ar (n+1) (.ix a b) ρ S Qt=(wE C ar n (.ix a b) ρ S λd S1=>cT d S1 Qt):=rfl
theorem Lh:wT C ar (n+1) (.lst es) ρ S Qt=(wE C ar n (.lst es) ρ S λd S1=>cT d S1 Qt):=rfl
theorem Li:wT C ar (n+1) (.tup es) ρ S Qt=(wE C ar n (.tup es) ρ S λd S1=>cT d S1 Qt):=rfl
theorem QB:wCl C ar n a [] ρ S Ql=(wE C ar n a ρ S λd S1=>Ql [d] S1):=rfl
theorem QC:wCl C ar n a (⟨tg,it,cd⟩::rest) ρ S Ql=(wFt tg ρ (wI C ar n it ρ S λnx S1=>Ok (bo nx tg (cnd (evT C ar n) cd (gX C ar n a rest)) ρ LF 0 S1) Ql)):=rfl
theorem QD:EU (wT C ar n) none w ρ S Ql=w ρ S Ql:=rfl
theorem QE:EU (wT C ar n) (some a) w ρ S Ql=(wT C ar n a ρ S λt S1=>wIf t (w ρ S1 Ql) (Ql [] S1)):=rfl
theorem Lj:wS C ar (n+1) (.asg tg a) ρ S Qs=(wE C ar n a ρ S λd S1=>wBd tg d ρ λρ1=>Qs .nx ρ1 S1):=rfl
theorem Fg:wS C ar (n+1) (.setI a b e) ρ S Qs=(wE C ar n a ρ S λx S1=>wE C ar n b ρ S1 λy S2=>wE C ar n e ρ S2 λz S3=>∃S4,lu y z x S3=some S4/\Qs .nx ρ S4):=rfl
theorem O2:wS C ar (n+1) (.ex a) ρ S Qs=(wE C ar n a ρ S λ_ S1=>Qs .nx ρ S1):=rfl
theorem Lk:wS C ar (n+1) (.ret a) ρ S Qs=(wE C ar n a ρ S λd S1=>Qs (.rt d) ρ S1):=rfl
theorem Ll:wS C ar (n+1) (.ifs a sa sb) ρ S Qs=(wT C ar n a ρ S λt S1=>wIf t (rW (wSs C ar n sa) ρ S1 Qs) (rW (wSs C ar n sb) ρ S1 Qs)):=rfl
theorem Lm:wS C ar (n+1) (.for_ tg it sa) ρ S Qs=(wI C ar n it ρ S λnx S1=>OkS (fP nx tg (fS C ar n sa) LF 0 ρ S1) Qs):=rfl
theorem Ln:wS C ar (n+1) .cnt ρ S Qs=Qs .ct ρ S:=rfl
theorem O3:wNx ws Qs .nx ρ S=rW ws ρ S Qs:=rfl
theorem O4:wNx ws Qs (.rt d) ρ S=Qs (.rt d) ρ S:=rfl
theorem O5:wNx ws Qs .bk ρ S=Qs .bk ρ S:=rfl
theorem O6:wNx ws Qs .ct ρ S=Qs .ct ρ S:=rfl
theorem Lp:wIf (true && t) A B=wIf t A B:=rfl
theorem Lq:wIf (false && t) A B=B:=rfl
theorem Lr:wIf (true || t) A B=A:=rfl
theorem Fh:wIf (false || t) A B=wIf t A B:=rfl
theorem Fi:wIf (!(true && t)) A B=wIf (!t) A B:=rfl
theorem Fj:wIf (!(false && t)) A B=A:=rfl
theorem Fk:wIf (!(true || t)) A B=B:=rfl
theorem Fm:wIf (!(false || t)) A B=wIf (!t) A B:=rfl
theorem O7:wIf true A B=A:=rfl
theorem O8:wIf false A B=B:=rfl
theorem Ls:wIf (!true) A B=B:=rfl
theorem Lu:wIf (!false) A B=A:=rfl
theorem O9:wBl (.bl t) Qb=Qb t:=rfl
theorem Lv:dH (.int i) Qi=Qi i:=rfl
theorem Lx:ux (some d::ρ) 0 Qd=Qd d:=rfl
theorem Ly:ux (od::ρ) (n+1) Qd=ux ρ n Qd:=rfl
theorem Pa:wFr (none::ρ) 0 A=A:=rfl
theorem Pb:wFr (od::ρ) (n+1) A=wFr ρ n A:=rfl
theorem Lz:rX [] ρ A=A:=rfl
theorem LA:rX (.name m::ts) ρ A=wFr ρ m (rX ts ρ A):=rfl
theorem Pc:wFt (.name m) ρ A=wFr ρ m A:=rfl
theorem Pd:wFt (.tup ts) ρ A=rX ts ρ A:=rfl
theorem LC:rY [] ρ Qr=Qr ρ:=rfl
theorem LG:rY (s::own) ρ Qr=rY own (none::ρ) Qr:=rfl
theorem LH:rZ [] ρ Qr=Qr ρ:=rfl
theorem LI:rZ (od::ρ) ρ2 Qr=rZ ρ ρ2 λr=>Qr (od::r):=rfl
theorem Pe:fq (n+1) [] A=A:=rfl
theorem Pf:fq (n+1) (a::es) A=fq n es A:=rfl
theorem Pg:wNm 0 d (od::ρ) Qr=Qr (some d::ρ):=rfl
theorem Ph:wNm (n+1) d (od::ρ) Qr=wNm n d ρ λr=>Qr (od::r):=rfl
theorem Pj:wBs [] [] ρ Qr=Qr ρ:=rfl
theorem Pk:wBs (.name m::ts) (d::ds) ρ Qr=wNm m d ρ λr=>wBs ts ds r Qr:=rfl
theorem Pl:wBd (.name m) d ρ Qr=wNm m d ρ Qr:=rfl
theorem Pn:wBd (.tup ts) d ρ Qr=wTp ts d ρ Qr:=rfl
theorem Po:wTp ts (.tup ds) ρ Qr=wBs ts ds ρ Qr:=rfl
theorem Fn:wII .add i j S Q=Q (.int (i+j)) S:=rfl
theorem Fo:wII .sub i j S Q=Q (.int (i - j)) S:=rfl
theorem Fp:wII .mul i j S Q=(iV i j=true/\Q (.int (i * j)) S):=rfl
theorem Fq:wII .mod i j S Q=(0 < j/\Q (.int (i % j)) S):=rfl
theorem BS:wII .fdiv i j S Q=((0 < j/\j < 1298074214633706907132624082305024)/\Q (.int (i / j)) S):=rfl
theorem Fs:wII .pow i j S Q=((0<=j/\j<=1000000/\i.natAbs < 2 ^ 64)/\Q (.int (i ^ j.toNat)) S):=rfl
theorem Ft:wTT .add xs ys S Q=(xs.length+ys.length<=1000/\Q (.tup (xs++ys)) S):=rfl
theorem Fu:Bx o i (.int j) S Q=wII o i j S Q:=rfl
theorem Fv:ww o xs (.tup ys) S Q=wTT o xs ys S Q:=rfl
theorem Fw:ww o xs (.int j) S Q=Ok (bO o (.tup xs) (.int j) S) Q:=rfl
theorem LJ:uy o (.int i) y S Q=Bx o i y S Q:=rfl
theorem LK:uy o (.tup xs) y S Q=ww o xs y S Q:=rfl
theorem LL:uy o (.ref n) y S Q=Ok (bO o (.ref n) y S) Q:=rfl
theorem LM:uy o (.str s) y S Q=Ok (bO o (.str s) y S) Q:=rfl
theorem LN:wCI .eq i j S Q=Q (.bl (decide (i=j))) S:=rfl
theorem LP:wCm .eq x y S Q=wCx .eq x y S Q:=rfl
theorem LQ:wCI .ne i j S Q=Q (.bl (!decide (i=j))) S:=rfl
theorem LR:wCm .ne x y S Q=wCx .ne x y S Q:=rfl
theorem LS:wCI .lt i j S Q=Q (.bl (decide (i < j))) S:=rfl
theorem LU:wCm .lt x y S Q=wCx .lt x y S Q:=rfl
theorem LV:wCI .le i j S Q=Q (.bl (decide (i<=j))) S:=rfl
theorem LW:wCm .le x y S Q=wCx .le x y S Q:=rfl
theorem LX:wCI .gt i j S Q=Q (.bl (decide (j < i))) S:=rfl
theorem LY:wCm .gt x y S Q=wCx .gt x y S Q:=rfl
theorem LZ:wCI .ge i j S Q=Q (.bl (decide (j<=i))) S:=rfl
theorem L0:wCm .ge x y S Q=wCx .ge x y S Q:=rfl
theorem L1:wCm .is x y S Q=Ok (aE .is x y S) Q:=rfl
theorem yj:wCm .isnot x y S Q=Ok (aE .isnot x y S) Q:=rfl
theorem BU:wCm .isin x y S Q=Ok (aE .isin x y S) Q:=rfl
theorem yk:wCm .notin x y S Q=Ok (aE .notin x y S) Q:=rfl
theorem Pp:wCx c (.int i) y S Q=Kq c i y S Q:=rfl
theorem Pq:wCx c (.tup xs) y S Q=uz c xs y S Q:=rfl
theorem Pr:wCx c .non y S Q=Ok (aE c .non y S) Q:=rfl
theorem Ps:wCx c (.bl t) y S Q=Ok (aE c (.bl t) y S) Q:=rfl
theorem Pt:wCx c (.str s) y S Q=Ok (aE c (.str s) y S) Q:=rfl
theorem Pu:wCx c (.ref n) y S Q=Ok (aE c (.ref n) y S) Q:=rfl
theorem L3:Kq c i (.int j) S Q=wCI c i j S Q:=rfl
theorem L4:uz .eq xs (.tup []) S Q=Q (.bl xs.isEmpty) S:=rfl
theorem L5:uz .ne xs (.tup []) S Q=Q (.bl (!xs.isEmpty)) S:=rfl
theorem Fx:uz .eq xs (.tup (y::ys)) S Q=Ok (aE .eq (.tup xs) (.tup (y::ys)) S) Q:=rfl
theorem Fy:uz .ne xs (.tup (y::ys)) S Q=Ok (aE .ne (.tup xs) (.tup (y::ys)) S) Q:=rfl
theorem L6:uA l h (.tup ds) S Q=Q (.tup (dU ds l h)) S:=rfl
theorem L7:uA l h (.ref n) S Q=Ok (slS l h (.ref n) S) Q:=rfl
theorem L8:BC (.tup ds) S Qn=Qn (nxL ds) S:=rfl
theorem L9:BC (.ref n) S Qn=((au S n).isSome=true/\Qn (nxS n) S):=rfl
theorem Ma:BD (.tup ds) S Qn=Qn (t0 ds) S:=rfl
theorem Mb:BD (.ref n) S Qn=((au S n).isSome=true/\Qn (DP n) S):=rfl
theorem Fz:cT (.bl t) S Qt=Qt t S:=rfl
theorem FA:cT (.tup ds) S Qt=Qt (!ds.isEmpty) S:=rfl
theorem FC:cT (.int i) S Qt=Qt (i != 0) S:=rfl
theorem FD:cT (.ref n) S Qt=Ok (k8 (.ref n) S) Qt:=rfl
theorem QF:w2 g [x,y] S Q=g x y S Q:=rfl
theorem Mc:BG (.int i) (.int j) S Q=Q (.int (if j > i then j else i)) S:=rfl
theorem Md:BH (.int i) (.int j) S Q=Q (.int (if j < i then j else i)) S:=rfl
theorem FE:aY (ai (.lst es)) wl wv ρ S Ql Q=wl ρ S Ql:=rfl
theorem uE:aY (ai (.listOf a)) wl wv ρ S Ql Q=wl ρ S Ql:=rfl
theorem ym:aY (ai (.listR a)) wl wv ρ S Ql Q=wl ρ S Ql:=rfl
theorem FF:aY (ai (.srt a)) wl wv ρ S Ql Q=wl ρ S Ql:=rfl
theorem BV:aY (ai (.comp own a rest)) wl wv ρ S Ql Q=wl ρ S Ql:=rfl
theorem FG:aY (ai (.non)) wl wv ρ S Ql Q=wv ρ S Q:=rfl
theorem Me:aY (ai (.bl t)) wl wv ρ S Ql Q=wv ρ S Q:=rfl
theorem FH:aY (ai (.int i)) wl wv ρ S Ql Q=wv ρ S Q:=rfl
theorem FI:aY (ai (.str s)) wl wv ρ S Ql Q=wv ρ S Q:=rfl
theorem FJ:aY (ai (.var m)) wl wv ρ S Ql Q=wv ρ S Q:=rfl
theorem FK:aY (ai (.con m i)) wl wv ρ S Ql Q=wv ρ S Q:=rfl
theorem FL:aY (ai (.tup es)) wl wv ρ S Ql Q=wv ρ S Q:=rfl
theorem BW:aY (ai (.dic0)) wl wv ρ S Ql Q=wv ρ S Q:=rfl
theorem BX{v:Nat}:aY (ai (.dic1 i v)) wl wv ρ S Ql Q=wv ρ S Q:=rfl
theorem FM:aY (ai (.bin o a b)) wl wv ρ S Ql Q=wv ρ S Q:=rfl
theorem FN:aY (ai (.neg a)) wl wv ρ S Ql Q=wv ρ S Q:=rfl
theorem FO:aY (ai (.cmp c a b)) wl wv ρ S Ql Q=wv ρ S Q:=rfl
theorem FP:aY (ai (.chn c p a b e)) wl wv ρ S Ql Q=wv ρ S Q:=rfl
theorem FQ:aY (ai (.and a b)) wl wv ρ S Ql Q=wv ρ S Q:=rfl
theorem Mf:aY (ai (.or a b)) wl wv ρ S Ql Q=wv ρ S Q:=rfl
theorem FR:aY (ai (.not a)) wl wv ρ S Ql Q=wv ρ S Q:=rfl
theorem FS:aY (ai (.ite e a b)) wl wv ρ S Ql Q=wv ρ S Q:=rfl
theorem Mg:aY (ai (.ix a b)) wl wv ρ S Ql Q=wv ρ S Q:=rfl
theorem Mh:aY (ai (.sl a oa ob)) wl wv ρ S Ql Q=wv ρ S Q:=rfl
theorem BZ:aY (ai (.call f es)) wl wv ρ S Ql Q=wv ρ S Q:=rfl
theorem B0:aY (ai (.inst ty a)) wl wv ρ S Ql Q=wv ρ S Q:=rfl
theorem FT:aY (ai (.len a)) wl wv ρ S Ql Q=wv ρ S Q:=rfl
theorem FV:aY (ai (.all a)) wl wv ρ S Ql Q=wv ρ S Q:=rfl
theorem yn:aY (ai (.tupOf a)) wl wv ρ S Ql Q=wv ρ S Q:=rfl
theorem FY:aY (ai (.mxL a)) wl wv ρ S Ql Q=wv ρ S Q:=rfl
theorem FZ:aY (ai (.mxD a i)) wl wv ρ S Ql Q=wv ρ S Q:=rfl
theorem B1:aY (ai (.strI a)) wl wv ρ S Ql Q=wv ρ S Q:=rfl
theorem F0:aY (ai (.rev a)) wl wv ρ S Ql Q=wv ρ S Q:=rfl
theorem Mi:aY (ai (.mx a b)) wl wv ρ S Ql Q=wv ρ S Q:=rfl
theorem Mj:aY (ai (.mn a b)) wl wv ρ S Ql Q=wv ρ S Q:=rfl
theorem F1:aY (ai (.rep a)) wl wv ρ S Ql Q=wv ρ S Q:=rfl
theorem F2:aY (ai (.app a b)) wl wv ρ S Ql Q=wv ρ S Q:=rfl
theorem yo:aY (ai (.popAt a b)) wl wv ρ S Ql Q=wv ρ S Q:=rfl
theorem F3:aY (ai (.cnt a b)) wl wv ρ S Ql Q=wv ρ S Q:=rfl
theorem aa{α:Type}{z:Option (α × Sto)}{r:α}{S2:Sto}{K:α->Sto->Prop}(e:z=some (r,S2))(q:K r S2):Ok z K:=⟨r,S2,e,q⟩
theorem cm(h1:t=true->A)(h2:t=false->B):wIf t A B:=by
 cases t with
 |true=>exact h1 rfl
 |false=>exact h2 rfl
end
end Ev
local macro_rules |`(tactic|k_go)=>`(tactic|dsimp only[↓Ev.KD,↓Ev.OP,↓Ev.KF,↓Ev.KG,↓Ev.KH,↓Ev.KI,↓Ev.KJ,↓Ev.KL,↓Ev.EY,↓Ev.EZ,↓Ev.KM,↓Ev.KN,↓Ev.KO,↓Ev.KP,↓Ev.KQ,↓Ev.OQ,↓Ev.KR,↓Ev.KS,↓Ev.OT,↓Ev.E5,↓Ev.E6,↓Ev.E7,↓Ev.E8,↓Ev.E9,↓Ev.Fa,↓Ev.KU,↓Ev.KW,↓Ev.BO,↓Ev.KY,↓Ev.KZ,↓Ev.yh,↓Ev.BP,↓Ev.K0,↓Ev.Fb,↓Ev.K1,↓Ev.OU,↓Ev.OV,↓Ev.K2,↓Ev.Fc,↓Ev.K3,↓Ev.BQ,↓Ev.K4,↓Ev.Qz,↓Ev.QA,↓Ev.K5,↓Ev.yi,↓Ev.BR,↓Ev.K6,↓Ev.Fd,↓Ev.K7,↓Ev.OW,↓Ev.OX,↓Ev.OY,↓Ev.K8,↓Ev.K9,↓Ev.La,↓Ev.OZ,↓Ev.Lb,↓Ev.O0,↓Ev.Lc,↓Ev.Fe,↓Ev.Ff,↓Ev.Lf,↓Ev.Lg,↓Ev.O1,↓Ev.Lh,↓Ev.Li,↓Ev.QB,↓Ev.QC,↓Ev.QD,↓Ev.QE,↓Ev.Lj,↓Ev.Fg,↓Ev.O2,↓Ev.Lk,↓Ev.Ll,↓Ev.Lm,↓Ev.Ln,↓Ev.O3,↓Ev.O4,↓Ev.O5,↓Ev.O6,↓Ev.Lp,↓Ev.Lq,↓Ev.Lr,↓Ev.Fh,↓Ev.Fi,↓Ev.Fj,↓Ev.Fk,↓Ev.Fm,↓Ev.O7,↓Ev.O8,↓Ev.Ls,↓Ev.Lu,↓Ev.O9,↓Ev.Lv,↓Ev.Lx,↓Ev.Ly,↓Ev.Pa,↓Ev.Pb,↓Ev.Lz,↓Ev.LA,↓Ev.Pc,↓Ev.Pd,↓Ev.LC,↓Ev.LG,↓Ev.LH,↓Ev.LI,↓Ev.Pe,↓Ev.Pf,↓Ev.Pg,↓Ev.Ph,↓Ev.Pj,↓Ev.Pk,↓Ev.Pl,↓Ev.Pn,↓Ev.Po,↓Ev.Fn,↓Ev.Fo,↓Ev.Fp,↓Ev.Fq,↓Ev.BS,↓Ev.Fs,↓Ev.Ft,↓Ev.Fu,↓Ev.Fv,↓Ev.Fw,↓Ev.LJ,↓Ev.LK,↓Ev.LL,↓Ev.LM,↓Ev.LN,↓Ev.LP,↓Ev.LQ,↓Ev.LR,↓Ev.LS,↓Ev.LU,↓Ev.LV,↓Ev.LW,↓Ev.LX,↓Ev.LY,↓Ev.LZ,↓Ev.L0,↓Ev.L1,↓Ev.yj,↓Ev.BU,↓Ev.yk,↓Ev.Pp,↓Ev.Pq,↓Ev.Pr,↓Ev.Ps,↓Ev.Pt,↓Ev.Pu,↓Ev.L3,↓Ev.L4,↓Ev.L5,↓Ev.Fx,↓Ev.Fy,↓Ev.L6,↓Ev.L7,↓Ev.L8,↓Ev.L9,↓Ev.Ma,↓Ev.Mb,↓Ev.Fz,↓Ev.FA,↓Ev.FC,↓Ev.FD,↓Ev.QF,↓Ev.Mc,↓Ev.Md,↓Ev.FE,↓Ev.uE,↓Ev.ym,↓Ev.FF,↓Ev.BV,↓Ev.FG,↓Ev.Me,↓Ev.FH,↓Ev.FI,↓Ev.FJ,↓Ev.FK,↓Ev.FL,↓Ev.BW,↓Ev.BX,↓Ev.FM,↓Ev.FN,↓Ev.FO,↓Ev.FP,↓Ev.FQ,↓Ev.Mf,↓Ev.FR,↓Ev.FS,↓Ev.Mg,↓Ev.Mh,↓Ev.BZ,↓Ev.B0,↓Ev.FT,↓Ev.FV,↓Ev.yn,↓Ev.FY,↓Ev.FZ,↓Ev.B1,↓Ev.F0,↓Ev.Mi,↓Ev.Mj,↓Ev.F1,↓Ev.F2,↓Ev.yo,↓Ev.F3,↓Ev.J2,↓Ev.J3])
local macro_rules |`(tactic|k_is)=>`(tactic|((with_reducible first |refine Ev.BM ?_ |refine Ev.KB ?_ |refine Ev.wcl_ok ?_ |skip);(try dsimp only[List.set_cons_zero,List.set_cons_succ]);(try k_go);(repeat ((with_reducible first |refine Ev.BN ?_ |refine Ev.EX ?_);(try k_go)))))
namespace Lw
open PySem Ev
variable {p:Nat} {S:Sto} {k:Nat} {Q:D->Sto->Prop}
theorem B2(h:TD p S t d)(q:Q (.bl (Dw.isW t)) S):Ok (evC ag (k+1) 0 [d] S) Q:=by
 refine aH (d:=ij) (ρ:=[some d]) rfl rfl ?_;dsimp only[ij,mj];k_is;refine aa (gO h) ?_;k_is;cases t <;> first |exact q |(k_is;rw[gO h,av];exact q)
theorem jK{a b:Int}(h:TD p S t d)(q:Q (.bl (Dw.bA t a b)) S):Ok (evC ag (k+2) 1 [d,.int a,.int b] S) Q:=by
 refine aH (d:=fZ) (ρ:=[some d,some (.int a),some (.int b)]) rfl rfl ?_;dsimp only[fZ,jS];k_is;refine⟨rfl,B2 h ?_⟩;k_is;cases t with
 |int i=>
  obtain rfl:=h.int;dsimp only[Dw.isW];k_is;dsimp only[Dw.bA] at q;cases c:decide (a<=i) with
  |true=>rw[c] at q;exact q
  |false=>rw[c] at q;exact q
 |_=>exact q
theorem yp(h:TD p S t d)(q:Q (.bl (Dw.bA t 0 9999)) S):Ok (evC ag (k+3) 2 [d] S) Q:=by
 refine aH (d:=f8) (ρ:=[some d]) rfl rfl ?_;dsimp only[f8,jT];k_is;exact⟨rfl,jK h q⟩
theorem mJ{a b:Int}(h:TD p S t d)(q:Q (.bl (Dw.isT t a b)) S):Ok (evC ag (k+1) 3 [d,.int a,.int b] S) Q:=by
 refine aH (d:=ik) (ρ:=[some d,some (.int a),some (.int b)]) rfl rfl ?_;dsimp only[ik,mq];k_is;refine aa (gO h) ?_;k_is;cases t with
 |tup ts=>
  obtain⟨ds,rfl,hs⟩:=h.tup;rw[show fK Ty.tuple (tyT (Dw.D.tup ts))=true from rfl];k_is;refine aa (Ke hs) ?_;k_is;dsimp only[Dw.isT] at q;cases c:decide (a<=(ts.length:Int)) with
  |true=>rw[c] at q;exact q
  |false=>rw[c] at q;exact q
 |_=>exact q
theorem ay{f:Int}(h:Pot p S)(h0:0 < f)(h1:f < 1298074214633706907132624082305024)(q:∀ (r:Int) S',0<=r->r < f->Dr p S S'->Q (.int r) S'):Ok (evC ag (k+1) 33 [.ref p,.int f] S) Q:=by
 obtain⟨n,e⟩:=h;have lt:p < S.length:=(Zb.mp e).1;refine aH (d:=ir) (ρ:=[some (.ref p),some (.int f),none]) rfl rfl ?_;dsimp only[ir,mB];k_is;have ix:ixS (.ref p) (.int 0) S=some (.int n,S):=by simp only[ixS,ao,au,e];rfl
 refine aa ix ?_;k_is;refine⟨h0,?_⟩;k_is;refine aa ix ?_;k_is;refine⟨⟨h0,h1⟩,?_⟩;k_is;refine⟨S.set p (.lst [.int (n / f)]),by simp only[lu,e];rfl,?_⟩;exact q _ _ (X5 _ (by omega)) (XH _ h0) ⟨Ki,_,dF lt⟩
theorem F4{c:Nat}{ns:List Int}(h:S[0]?=some (.frz (ns.map D.int)))(q:∀i:Int,Q (.int i) S):Ok (evC ag (k+1) 31 [.ref 0,.int c] S) Q:=by
 refine aH (d:=eD) (ρ:=[some (.ref 0),some (.int c)]) rfl rfl ?_;dsimp only[eD,hV];k_is;have ln:am cb (.ref 0) S=some (.int ns.length,S):=by simp only[am,ao,au,h,Zz,cb,Za]
 refine aa ln ?_;k_is;refine cm (λhc=>?_) λhc=>?_
 ·k_is;have hc':=of_decide_eq_true hc;obtain⟨d,e1,e2⟩:=Kk (ds:=ns.map D.int) (i:=c) (by omega) (by rw[Za];omega);have ix:ixS (.ref 0) (.int c) S=some (d,S):=by simp only[ixS,ao,au,h,Zz,e1]
  refine aa ix ?_;rw[Zr] at e2;cases hn:ns[(c:Int).toNat]? with
  |none=>rw[hn] at e2;cases e2
  |some i=>rw[hn] at e2;cases e2;exact q i
 ·k_is;exact q 0
theorem Ml{c:Int}(q:∀n:Int,Q (.ref S.length) (S++[.lst [.int n]])):Ok (evC ag (k+1) 32 [.int c] S) Q:=by
 refine aH (d:=jG) (ρ:=[some (.int c),none,none,none]) rfl rfl ?_;dsimp only[jG,n5];k_is;refine⟨⟨by decide,by decide,by decide⟩,?_⟩;k_is;refine cm (λ_=>?_) λ_=>?_
 ·k_is;refine⟨⟨by decide,by decide,by decide⟩,?_⟩;k_is;exact q _
 ·k_is;refine⟨by decide,?_⟩;refine jZ (by decide) (λi ρ S'=>S'=S/\∃n:Int,∃u v,ρ=[some (.int c),some (.int n),u,v]) (λi ρ S' hi ⟨es,n,u,v,er⟩=>?_) (λρ S' ⟨es,n,u,v,er⟩=>?_) ⟨rfl,0,none,none,rfl⟩
  ·subst es er;refine⟨_,rfl,?_⟩;k_is;refine⟨by decide,?_⟩;k_is;refine⟨pK (by decide) (by decide),?_⟩;k_is;refine⟨wq (by decide) (by decide),by decide,?_⟩;k_is;have a1:=X5 ((c % 2147483629+7919 * (0+(i:Int))+1) * 48271) (show(2147483647:Int) ≠ 0 by decide);have a2:=XH ((c % 2147483629+7919 * (0+(i:Int))+1) * 48271) (show(0:Int) < 2147483647 by decide);refine⟨pK (by omega) (by omega),?_⟩;k_is;refine⟨pK (by decide) (by decide),?_⟩;k_is;refine⟨by decide,?_⟩;k_is;refine⟨wq (by decide) (by decide),?_⟩;k_is;exact⟨rfl,_,_,_,rfl⟩
  ·subst es er;k_is;exact q n
end Lw
namespace Sn
open Ev
structure Sky where
 r:Int
 s:Int
 M:List (List Int)
 H:List (Int × Int)
 ah:Option (Int × Int)
 G:List (List Int)
 F:List Int
abbrev gi(G:List (List Int))(i:Int)(k:Nat):Int:=((G[i.toNat]?).getD []).getD k 0
abbrev fns:List (Int × Int)->Int->Int
 |[],m=>m
 |p::l,m=>if p.1<=m/\m < p.2 then p.2 else fns l m
abbrev opm:List (Int × Int)->Int->Int
 |[],m=>m
 |p::l,m=>opm l (if p.1<=m/\m < p.2 then p.2 else m)
def Ris:Int->List (Int × Int)->Prop
 |_,[]=>True
 |lo,p::l=>lo < p.1/\p.1 < p.2/\Ris p.2 l
theorem wz:∀ {l:List (Int × Int)} {lo m:Int},Ris lo l->m<=lo->opm l m=m
 |[],_,_,_,_=>rfl
 |p::l,lo,m,h,hm=>by
  rw[Ris] at h;rw[opm,if_neg (by lia)];exact wz h.2.2 (by lia)
theorem wD:∀ {l:List (Int × Int)} {lo m:Int},Ris lo l->opm l m=fns l m
 |[],_,_,_=>rfl
 |p::l,lo,m,h=>by
  rw[Ris] at h;rw[opm,fns];split
  ·exact wz h.2.2 (ZP _)
  ·exact wD h.2.2
section
variable (K:Sky)
abbrev jn(g:Int):Int:=gi K.G g 1
abbrev gp(a b:Int):Int:=Dw.mg2 K.M a.toNat b.toNat
abbrev yq(ah:Option (Int × Int))(k:Int):Int:=match ah with
 |none=>0
 |some p=>p.2+gp K p.1 k
abbrev bz(ah:Option (Int × Int))(g:Int):Int:=match ah with
 |none=>gi K.G g 2
 |some p=>if p.2+gp K p.1 (gi K.G g 0) > gi K.G g 2 then p.2+gp K p.1 (gi K.G g 0) else gi K.G g 2
abbrev js:List Int:=bP (K.G.map λg=>g.getD 1 0)
abbrev uF(place:Nat)(m:Int):Bool:=match (js K)[(K.r+place).toNat]? with
 |some j=>decide (j < m - K.s)
 |none=>false
abbrev step(ah:Option (Int × Int))(g:Int)(place:Nat):Option Int:=if (decide (gi K.G g 3 < opm K.H (bz K ah g)) || uF K place (opm K.H (bz K ah g)))=true then none else some (opm K.H (bz K ah g))
abbrev aK(t:Int)(p:Int × Int):Bool:=decide (jn K p.1<=t) && decide (t < p.2 - K.s)
abbrev wts(L:List (Int × Int))(t:Int):Nat:=(L.filter (aK K t)).length
abbrev gr(L:List (Int × Int))(g m:Int):List Int:=((jn K g::L.map λp=>jn K p.1).filter λt=>decide (jn K g<=t) && decide (t < m - K.s))
abbrev r9(L:List (Int × Int))(g m:Int):Int:=xP 0 ((gr K L g m).map λt=>1+(wts K L t:Int))
abbrev iC(L:List (Int × Int))(g m:Int):List Int:=jn K g::(js K).filter λt=>decide (jn K g < t) && aK K t (g,m)
abbrev sd(L:List (Int × Int))(g m:Int):Int:=ie ((iC K L g m).map λt=>1+(wts K L t:Int))
abbrev se(L:List (Int × Int))(g m:Int):Bool:=decide (0 < gi K.G g 6) && (aK K (jn K g) (g,m) && decide (gi K.G g 6 < sd K L g m))
abbrev oh(L:List (Int × Int))(g m:Int):Bool:=decide (0 < gi K.G g 6) && decide (gi K.G g 6 < r9 K L g m)
abbrev rn:List Int->Option (Int × Int)->List (Int × Int)->Nat ⊕ List (Int × Int)
 |[],_,L=>.inr L
 |g::os,ah,L=>match step K ah g L.length with
  |none=>.inl L.length
  |some m=>if oh K L g m=true then .inl L.length else rn os (some (gi K.G g 0,m)) (L++[(g,m)])
end
variable {K:Sky}
theorem F5(h:ns ≠ []):ie ns ∈ ns:=by
 cases ns with
 |nil=>exact absurd rfl h
 |cons n ns=>exact(iY ns n).1
theorem Mm{x:Int}(h:x ∈ ns):x<=ie ns:=by
 cases ns with
 |nil=>simp at h
 |cons n ns=>exact(iY ns n).2 x h
theorem B3(hA:A ≠ [])(h:∀x ∈ A,∃y ∈ B,x<=y):ie A<=ie B:=by
 obtain⟨y,hy,hle⟩:=h _ (F5 hA);exact Wh hle (Mm hy)
theorem B4{c:Int}(h:ns ≠ []):xP c ns=ie ns:=by
 cases ns with
 |nil=>exact absurd rfl h
 |cons n ns=>rfl
theorem wG{α:Type}{p q:α->Bool}:∀ {l:List α},(∀x ∈ l,p x=true->q x=true)->(l.filter p).length<=(l.filter q).length
 |[],_=>Zg _
 |a::l,h=>by
  have ih:=wG (l:=l) λx hx=>h x (Ze _ hx);have h0:=h a Zh;rw[Xc,Xc];split
  ·rename_i c;rw[if_pos (h0 c),ZB,ZB]
   lia
  ·split
   ·rw[ZB];lia
   ·exact ih
theorem B5{j t:Int}(hj:j<=t):∀ (L:List (Int × Int)),∃u,(u=j\/∃p ∈ L,u=jn K p.1)/\j<=u/\u<=t/\∀p ∈ L,aK K t p=true->jn K p.1<=u
 |[]=>⟨j,.inl rfl,ZP _,hj,λp hp=>by simp at hp⟩
 |p::L=>by
  obtain⟨u,h1,h2,h3,h4⟩:=B5 hj L;by_cases hw:aK K t p=true/\u < jn K p.1
  ·refine⟨jn K p.1,.inr ⟨p,Zh,rfl⟩,by lia,?_,λq hq hqw=>?_⟩
   ·have:=hw.1;simp only[aK,bAE,decide_eq_true_eq] at this;exact this.1
   ·rcases Zm.mp hq with rfl |hq
    ·exact ZP _
    ·have:=h4 q hq hqw;lia
  ·refine⟨u,?_,h2,h3,λq hq hqw=>?_⟩
   ·rcases h1 with h1 |⟨q,hq,h1⟩
    ·exact .inl h1
    ·exact .inr ⟨q,Ze _ hq,h1⟩
   ·rcases Zm.mp hq with rfl |hq
    ·by_cases hlt:u < jn K q.1
     ·exact absurd ⟨hqw,hlt⟩ hw
     ·lia
    ·exact h4 q hq hqw
theorem F6{L:List (Int × Int)}{g m:Int}(h:jn K g < m - K.s)(hL:∀p ∈ L,jn K p.1 ∈ js K):sd K L g m=r9 K L g m:=by
 have k0:jn K g ∈ gr K L g m:=by
  unfold gr;rw[Yb];exact⟨Zh,by simp[h]⟩
 have kn:(gr K L g m).map (λt=>1+(wts K L t:Int)) ≠ []:=λz=>by
  rw[List.map_eq_nil_iff] at z;rw[z] at k0;simp at k0
 unfold r9 sd;rw[B4 kn];refine Int.le_antisymm (B3 (by simp[iC]) λx hx=>?_) (B3 kn λx hx=>?_)
 ·obtain⟨t,ht,rfl⟩:=ZL.mp hx
  have ht':jn K g<=t/\t < m - K.s:=by
   rcases Zm.mp ht with rfl |ht
   ·exact⟨ZP _,h⟩
   ·have:=(Yb.mp ht).2;simp only[aK,bAE,decide_eq_true_eq] at this;exact⟨this.2.1,this.2.2⟩
  obtain⟨u,h1,h2,h3,h4⟩:=B5 (K:=K) ht'.1 L;refine⟨1+(wts K L u:Int),ZL.mpr ⟨u,?_,rfl⟩,?_⟩
  ·unfold gr;refine Yb.mpr ⟨?_,by simp only[bAE,decide_eq_true_eq];lia⟩;rcases h1 with rfl |⟨p,hp,rfl⟩
   ·exact Zh
   ·exact Ze _ (ZL.mpr ⟨p,hp,rfl⟩)
  ·have:wts K L t<=wts K L u:=wG λp hp hw=>by
    have a:=h4 p hp hw;simp only[aK,bAE,decide_eq_true_eq] at hw ⊢
    lia
   lia
 ·obtain⟨t,ht,rfl⟩:=ZL.mp hx;refine⟨1+(wts K L t:Int),ZL.mpr ⟨t,?_,rfl⟩,ZP _⟩;unfold gr at ht;obtain⟨h1,h2⟩:=Yb.mp ht;simp only[bAE,decide_eq_true_eq] at h2;unfold iC;by_cases e:t=jn K g
  ·rw[e];exact Zh
  ·refine Ze _ (Yb.mpr ⟨?_,by simp only[aK,bAE,decide_eq_true_eq];lia⟩);rcases Zm.mp h1 with rfl |h1
   ·exact absurd rfl e
   ·obtain⟨p,hp,rfl⟩:=ZL.mp h1;exact hL p hp
theorem yr{g m:Int}(h:¬ jn K g < m - K.s):r9 K L g m=0:=by
 have:gr K L g m=[]:=by
  unfold gr;rw[List.filter_eq_nil_iff];intro t _;simp only[bAE,decide_eq_true_eq]
  lia
 unfold r9;rw[this];rfl
theorem F7{g m:Int}(hL:∀p ∈ L,jn K p.1 ∈ js K):se K L g m=oh K L g m:=by
 unfold se oh;by_cases h:jn K g < m - K.s
 ·rw[F6 h hL];have:aK K (jn K g) (g,m)=true:=by simp only[aK,bAE,decide_eq_true_eq];exact⟨ZP _,h⟩
  rw[this,Y8]
 ·rw[yr h];have:aK K (jn K g) (g,m)=false:=by simp[aK,h]
  rw[this,Yq];by_cases h0:0 < gi K.G g 6
  ·have e:decide (gi K.G g 6 < 0)=false:=by simp;lia
   rw[e]
  ·rw[decide_eq_false h0];rfl
theorem B6{g:Int}(h:0<=gi K.G g 2):(if yq K ah (gi K.G g 0) > gi K.G g 2 then yq K ah (gi K.G g 0) else gi K.G g 2)=bz K ah g:=by
 cases ah with
 |none=>unfold yq bz;dsimp only;rw[if_neg (by lia)]
 |some p=>rfl
end Sn
namespace Lw
open PySem Ev Sn
variable {p:Nat} {S:Sto} {k:Nat} {Q:D->Sto->Prop}
theorem Hx{ds:List D}{tg:Tg}{b:XS}{ρ:Rho}{Q:Fl->Rho->Sto->Prop}(hl:ds.length<=100000)(I:Nat->Rho->Sto->Prop)
  (step:∀ (i:Nat) d ρ S',ds[i]?=some d->I i ρ S'->∃ρ1,aB tg d ρ=some ρ1/\OkS (b ρ1 S') λfl ρ2 S2=>match fl with |.nx=>I (i+1) ρ2 S2 |.ct=>I (i+1) ρ2 S2 |.bk=>Q .nx ρ2 S2 |.rt d=>Q (.rt d) ρ2 S2)
  (q:∀ρ S',I ds.length ρ S'->Q .nx ρ S') (h0:I 0 ρ S):OkS (fP (nxL ds) tg b LF 0 ρ S) Q:=by
 refine pG ds.length I (by unfold LF;lia) (λi ρ S' hi iv=>?_) (λρ S' iv=>⟨?_,q ρ S' iv⟩) h0
 ·obtain⟨ρ1,e2,z⟩:=step i ds[i] ρ S' (gEG hi) iv;exact⟨ds[i],ρ1,by show some ds[i]?=_;rw[gEG hi],e2,z⟩
 ·show some ds[ds.length]?=_;rw[ZA (Zg _)]
theorem B7{ds:List D}{tg:Tg}{b:XS}{ρ:Rho}{Q:Fl->Rho->Sto->Prop}(hl:ds.length<=100000)(I:Nat->Rho->Sto->Prop)
  (step:∀ (i:Nat) d ρ S',ds[i]?=some d->I i ρ S'->∃ρ1,aB tg (.tup [.int i,d]) ρ=some ρ1/\OkS (b ρ1 S') λfl ρ2 S2=>match fl with |.nx=>I (i+1) ρ2 S2 |.ct=>I (i+1) ρ2 S2 |.bk=>Q .nx ρ2 S2 |.rt d=>Q (.rt d) ρ2 S2)
  (q:∀ρ S',I ds.length ρ S'->Q .nx ρ S') (h0:I 0 ρ S):OkS (fP (t0 ds) tg b LF 0 ρ S) Q:=by
 refine pG ds.length I (by unfold LF;lia) (λi ρ S' hi iv=>?_) (λρ S' iv=>⟨?_,q ρ S' iv⟩) h0
 ·obtain⟨ρ1,e2,z⟩:=step i ds[i] ρ S' (gEG hi) iv;refine⟨.tup [.int i,ds[i]],ρ1,?_,e2,z⟩;show enm ds i=_;unfold enm;rw[if_pos (by lia),gEG hi];rfl
 ·show enm ds ds.length=_;unfold enm;rw[if_pos (Zg _),ZA (Zg _)];rfl
theorem cn{α:Type}{nx:Nxt}{tg:Tg}{c:XA}{ρ:Rho}{Q:List D->Sto->Prop}(l:List α)(E:α->D)(f:α->List D)(hl:l.length<=1000)(hf:∀a ∈ l,(f a).length<=1)
  (hnx:∀i S',Sm S S'->nx i S'=some ((l[i]?).map E))
  (step:∀ (i:Nat) a S',l[i]?=some a->Sm S S'->∃ρ1,aB tg (E a) ρ=some ρ1/\Ok (c ρ1 S') λes S1=>es=f a/\Sm S' S1) (q:∀S',Sm S S'->Q (l.flatMap f) S') :
  Ok (bo nx tg c ρ LF 0 S) λes S2=>es.length<=100000/\Q es S2:=by
 refine(eT l.length (λi acc S'=>Sm S S'/\acc=(l.take i).flatMap f) (by unfold LF;lia) (λi acc S' hi ⟨sm,ea⟩=>?_) (λacc S' ⟨sm,ea⟩=>?_) ⟨Sm.refl S,by simp⟩).mono λes S' ⟨sm,ea⟩=>?_
 ·obtain⟨ρ1,e2,es,S1,e3,e4,sm'⟩:=step i l[i] S' (gEG hi) sm;refine⟨E l[i],ρ1,by rw[hnx i S' sm,gEG hi];rfl,e2,es,S1,e3,sm.trans sm',?_⟩;rw[ea,e4,Z6 hi,Xv];simp
 ·rw[hnx _ S' sm,ZA (Zg _)];rfl
 ·rw[Xb] at ea;subst ea;refine⟨?_,q S' sm⟩
  have:∀m:List α,(∀a ∈ m,(f a).length<=1)->(m.flatMap f).length<=m.length:=λm=>by
   induction m with
   |nil=>intro _;simp
   |cons a m ih=>
    intro h;rw[Y4,Zc,ZB];have:=h a Zh;have:=ih λb hb=>h b (Ze _ hb)
    lia
  have:=this l hf
  lia
theorem dG{α:Type}{l:List α}{E:α->D}:∀i S',Sm S S'->nxL (l.map E) i S'=some ((l[i]?).map E):=λi S' _=>by
 show some (l.map E)[i]?=_;rw[Zr]
theorem iE{α:Type}{n:Nat}{l:List α}{E:α->D}(h:S[n]?=some (.lst (l.map E))):∀i S',Sm S S'->nxS n i S'=some ((l[i]?).map E):=λi S' sm=>by
 show(au S' n).map (λds=>ds[i]?)=_;rw[aR (sm _ _ h),Zz,Zr]
theorem b5{α:Type}(l:List α)(f:α->D):(l.flatMap λa=>[f a])=l.map f:=by
 induction l with
 |nil=>rfl
 |cons a l ih=>rw[Y4,ih];rfl
theorem cJ{α:Type}(l:List α)(c:α->Bool)(f:α->D):(l.flatMap λa=>if c a=true then [f a] else [])=(l.filter c).map f:=by
 induction l with
 |nil=>rfl
 |cons a l ih=>
  rw[Y4,ih,Xc];split <;> rfl
abbrev aF(r:List Int):D:=.tup (r.map D.int)
abbrev ahE:Option (Int × Int)->D
 |none=>.non
 |some q=>.tup [.int q.1,.int q.2]
abbrev meE(K:Sky):D:=.tup [.int K.r,.int K.s,.tup (K.M.map aF),.tup (K.H.map aj)]
abbrev skE(K:Sky):D:=.tup [meE K,ahE K.ah,.tup (K.G.map aF),.tup (K.F.map D.int)]
structure Vd(K:Sky):Prop where
 r0:0<=K.r
 r8:K.r<=8
 s0:0<=K.s
 s60:K.s<=60
 m0:1<=K.M.length
 m4:K.M.length<=4
 row:∀r ∈ K.M,r.length=K.M.length
 ris:Ris (-1) K.H
 h4:K.H.length<=4
 ah0:∀q,K.ah=some q->0<=q.1/\q.1 < K.M.length
 g7:K.G.length<=7
 gl:∀g ∈ K.G,g.length=7/\0<=g.getD 0 0/\g.getD 0 0 < K.M.length/\0<=g.getD 2 0
variable {K:Sky}
theorem sk0:ixS (skE K) (.int 0) S=some (meE K,S):=rfl
theorem sk1:ixS (skE K) (.int 1) S=some (ahE K.ah,S):=rfl
theorem sk2:ixS (skE K) (.int 2) S=some (.tup (K.G.map aF),S):=rfl
theorem sk3:ixS (skE K) (.int 3) S=some (.tup (K.F.map D.int),S):=rfl
theorem me0:ixS (meE K) (.int 0) S=some (.int K.r,S):=rfl
theorem me1:ixS (meE K) (.int 1) S=some (.int K.s,S):=rfl
theorem me2:ixS (meE K) (.int 2) S=some (.tup (K.M.map aF),S):=rfl
theorem me3:ixS (meE K) (.int 3) S=some (.tup (K.H.map aj),S):=rfl
theorem gl7(V:Vd K){g:Int}(h0:0<=g)(h1:g < K.G.length):∃a b c d e f h,K.G[g.toNat]?=some [a,b,c,d,e,f,h]/\gi K.G g 0=a/\gi K.G g 1=b/\gi K.G g 2=c/\gi K.G g 3=d/\gi K.G g 6=h/\0<=a/\a < K.M.length/\0<=c:=by
 have hi:g.toNat < K.G.length:=by lia
 obtain⟨l7,a0,a1,c0⟩:=V.gl K.G[g.toNat] (ZM hi)
 match hr:K.G[g.toNat],l7 with
 |[a,b,c,d,e,f,h],_=>
  have eq:K.G[g.toNat]?=some [a,b,c,d,e,f,h]:=by rw[gEG hi,hr]
  rw[hr] at a0 a1 c0;refine⟨a,b,c,d,e,f,h,eq,?_,?_,?_,?_,?_,a0,a1,c0⟩ <;> (unfold gi;rw[eq];rfl)
theorem sg{i:Int}(h0:0<=i)(h:ds[i.toNat]?=some d):ixS (.tup ds) (.int i) S=some (d,S):=by
 obtain⟨n,rfl⟩:∃n:Nat,i=(n:Int):=⟨i.toNat,by lia⟩;exact y7 h
theorem gu{g:Int}(h0:0<=g)(h:K.G[g.toNat]?=some r):ixS (.tup (K.G.map aF)) (.int g) S=some (aF r,S):=sg h0 (by rw[Zr,h];rfl)
theorem mL(V:Vd K){a b:Int}(a0:0<=a)(a1:a < K.M.length)(b0:0<=b)(b1:b < K.M.length):∃r,ixS (.tup (K.M.map aF)) (.int a) S=some (aF r,S)/\ixS (aF r) (.int b) S=some (.int (gp K a b),S):=by
 have hi:a.toNat < K.M.length:=by lia
 have hr:=V.row K.M[a.toNat] (ZM hi);have hj:b.toNat < K.M[a.toNat].length:=by lia
 refine⟨K.M[a.toNat],sg a0 (by rw[Zr,gEG hi];rfl),sg b0 ?_⟩;rw[Zr,gEG hj];have:gp K a b=K.M[a.toNat][b.toNat]:=by unfold gp Dw.mg2;rw[gEG hi,Z0,gEG hj];rfl
 rw[this];rfl
end Lw
namespace Lw
open PySem Ev Sn
variable {p:Nat} {S:Sto} {k:Nat} {Q:D->Sto->Prop} {K:Sky}
theorem si{t u:Bool}{A B:Prop}(ha:t=true->u=true->A)(hb:(t && u)=false->B):wIf t (wIf u A B) B:=by
 cases t with
 |false=>exact hb rfl
 |true=>cases u with
  |true=>exact ha rfl rfl
  |false=>exact hb rfl
theorem kz{α:Type}{l:List α}{i:Nat}{a:α}(h:l[i]?=some a):l.drop i=a::l.drop (i+1):=by
 obtain⟨hi,e⟩:=Zb.mp h;rw[YX hi,e]
theorem pW{α:Type}{l:List α}{E:α->D}{i:Nat}{d:D}(h:(l.map E)[i]?=some d):∃a,l[i]?=some a/\d=E a:=by
 rw[Zr] at h;cases e:l[i]? with
 |none=>rw[e] at h;cases h
 |some a=>rw[e] at h;cases h;exact⟨a,rfl,rfl⟩
theorem Mn{m:Int}(hl:K.H.length<=4)(q:Q (.int (fns K.H m)) S):Ok (evC ag (k+1) 12 [meE K,.int m] S) Q:=by
 refine aH (d:=ci) (ρ:=[some (meE K),some (.int m),none,none]) rfl rfl ?_;dsimp only[ci,eP];k_is;refine aa me3 ?_;k_is;refine Hx (by rw[Za];lia) (λi ρ S'=>S'=S/\fns K.H m=fns (K.H.drop i) m/\∃u v,ρ=[some (meE K),some (.int m),u,v]) (λi d ρ S' hd ⟨es,ef,u,v,er⟩=>?_) (λρ S' ⟨es,ef,u,v,er⟩=>?_) ⟨rfl,rfl,none,none,rfl⟩
 ·subst es er;obtain⟨pr,hp,rfl⟩:=pW hd;refine⟨_,show aB (.tup [.name 2,.name 3]) (.tup [.int pr.1,.int pr.2]) _=_ from gq (by simp) (by simp),?_⟩;k_is;rw[kz hp,fns] at ef;refine si (λh1 h2=>?_) λh=>?_
  ·k_is;rw[if_pos ⟨of_decide_eq_true h1,of_decide_eq_true h2⟩] at ef;rw[ef] at q;exact q
  ·k_is;rw[if_neg (λz=>by rw[decide_eq_true z.1,decide_eq_true z.2] at h;cases h)] at ef;exact⟨rfl,ef,_,_,rfl⟩
 ·subst es er;k_is;rw[Za,YE,fns] at ef;rw[ef] at q;exact q
abbrev cU(K:Sky)(L:List (Int × Int)):Option (Int × Int):=match L.getLast? with
 |none=>K.ah
 |some p=>some (gi K.G p.1 0,p.2)
def InG(K:Sky)(L:List (Int × Int)):Prop:=∀p ∈ L,0<=p.1/\p.1 < K.G.length
theorem B8(V:Vd K){n:Nat}(hn:S[n]?=some (.lst (L.map aj)))(hL:InG K L)(q:Q (ahE (cU K L)) S):Ok (evC ag (k+1) 19 [skE K,.ref n] S) Q:=by
 refine aH (d:=cO) (ρ:=[some (skE K),some (.ref n),none,none]) rfl rfl ?_;dsimp only[cO,fB];k_is;have tr:k8 (.ref n) S=some (!(L.map aj).isEmpty,S):=by simp only[k8,aR hn]
 refine aa tr ?_;k_is;rcases List.eq_nil_or_concat L with rfl |⟨L',z,rfl⟩
 ·k_is;exact aa sk1 q
 ·rw[List.concat_eq_append] at hn hL q ⊢;rw[show(!!((L'++[z]).map aj).isEmpty)=false by simp];k_is;have hz:=hL z (by simp);refine aa (pM (ds:=L'.map aj) (e:=aj z) (by rw[hn,ZK];rfl)) ?_;rw[show aj z = .tup [.int z.1,.int z.2] from rfl];k_is;refine aa sk2 ?_;obtain⟨a,b,c,d,e,f,h,eg,e0,_⟩:=gl7 V hz.1 hz.2;refine aa (gu hz.1 eg) (aa (show ixS (aF [a,b,c,d,e,f,h]) (.int 0) S=some (.int a,S) from rfl) ?_);k_is
  have:cU K (L'++[z])=some (a,z.2):=by
   unfold cU;rw[Xq];simp[e0]
  rw[this] at q;exact q
theorem F8(V:Vd K){a:Option (Int × Int)}{kd:Int}(ha:∀q,a=some q->0<=q.1/\q.1 < K.M.length)(k0:0<=kd)(k1:kd < K.M.length)(q:Q (.int (yq K a kd)) S):Ok (evC ag (k+1) 20 [skE K,ahE a,.int kd] S) Q:=by
 refine aH (d:=jE) (ρ:=[some (skE K),some (ahE a),some (.int kd)]) rfl rfl ?_;dsimp only[jE,nZ];k_is;cases a with
 |none=>exact aa (show aE .is (ahE none) .non S=some (.bl true,S) from rfl) (by k_is;exact q)
 |some z=>
  refine aa (show aE .is (ahE (some z)) .non S=some (.bl false,S) from rfl) ?_;k_is;obtain⟨h0,h1⟩:=ha z rfl;refine aa (show ixS (ahE (some z)) (.int 1) S=some (.int z.2,S) from rfl) ?_;refine aa sk0 (aa me2 (aa (show ixS (ahE (some z)) (.int 0) S=some (.int z.1,S) from rfl) ?_));obtain⟨r,g1,g2⟩:=mL (S:=S) V h0 h1 k0 k1;refine aa g1 (aa g2 ?_);k_is;exact q
theorem mM(V:Vd K){z:Int × Int}{t:Int}(h0:0<=z.1)(h1:z.1 < K.G.length)(q:Q (.bl (aK K t z)) S):Ok (evC ag (k+1) 21 [skE K,aj z,.int t] S) Q:=by
 refine aH (d:=ip) (ρ:=[some (skE K),some (aj z),some (.int t),none,none]) rfl rfl ?_;dsimp only[ip,my];rw[show aj z = .tup [.int z.1,.int z.2] from rfl];k_is;refine aa sk2 ?_;obtain⟨a,b,c,d,e,f,h,eg,_,e1,_⟩:=gl7 V h0 h1;refine aa (gu h0 eg) (aa (show ixS (aF [a,b,c,d,e,f,h]) (.int 1) S=some (.int b,S) from rfl) ?_);k_is;have ew:aK K t z=(decide (b<=t) && decide (t < z.2 - K.s)):=by unfold aK jn;rw[e1]
 rw[ew] at q;cases c1:decide (b<=t) with
 |false=>rw[c1] at q;k_is;exact q
 |true=>
  rw[c1] at q;k_is;refine aa sk0 (aa me1 ?_);k_is;exact q
theorem Mo(V:Vd K){L:List (Int × Int)}{n:Nat}{t:Int}(hn:S[n]?=some (.lst (L.map aj)))(hL:InG K L)(hl:L.length<=1000)(q:∀S',Sm S S'->Q (.int (wts K L t)) S'):Ok (evC ag (k+2) 22 [skE K,.ref n,.int t] S) Q:=by
 refine aH (d:=cP) (ρ:=[some (skE K),some (.ref n),some (.int t)]) rfl rfl ?_;dsimp only[cP,fC];k_is;refine⟨by rw[aR hn];rfl,?_⟩;refine cn L aj (λz=>if aK K t z=true then [aj z] else []) hl (λz _=>by split <;> simp) (iE hn) (λi z S' hz sm=>⟨_,rfl,?_⟩) λS' sm=>?_
 ·have:=hL z (Zj hz);k_is;refine⟨rfl,mM V this.1 this.2 ?_⟩;k_is;cases aK K t z with
  |true=>k_is;exact⟨rfl,Sm.refl _⟩
  |false=>k_is;exact⟨rfl,Sm.refl _⟩
 ·rw[cJ];refine aa (show cb false ((L.filter (aK K t)).map aj) S'=some (.int (wts K L t),S') by unfold cb wts;rw[Za]) ?_;k_is;exact q S' sm
theorem yt{x:Int}:dX ((x::xs).map D.int)=none:=by simp only[Zu,dX,lp]
theorem jf:∀ (xs:List Int),fM (xs.map D.int)=some xs
 |[]=>rfl
 |x::xs=>by simp only[Zu,fM,jf xs]
theorem sj(h:xs.length < 64):ce false (xs.map D.int)=some ((bP xs).map D.int):=by
 unfold ce;rw[if_pos rfl];cases xs with
 |nil=>rfl
 |cons x xs=>
  simp only[tS,yt,jf];rw[if_pos h]
theorem Mp:(js K).length=K.G.length:=by unfold js;rw[(bu _).length_eq,Za]
theorem sr(V:Vd K)(q:∀S',Sm S S'->S'[Zf S' - 1]?=some (.lst ((js K).map D.int))->Zf S<=Zf S' - 1->Q (.ref (Zf S' - 1)) S'):Ok (evC ag (k+1) 23 [skE K] S) Q:=by
 refine aH (d:=bX) (ρ:=[some (skE K)]) rfl rfl ?_;dsimp only[bX,dP];k_is;refine aa sk2 ?_;k_is;refine cn K.G aF (λg=>[.int (g.getD 1 0)]) (by have:=V.g7;lia) (λ_ _=>Zg _) dG (λi g S' hg sm=>⟨_,rfl,?_⟩) λS' sm=>?_
 ·obtain⟨l7,_⟩:=V.gl g (Zj hg)
  match g,l7 with
  |[a,b,c,d,e,f,h],_=>
   k_is;exact aa (show ixS (aF [a,b,c,d,e,f,h]) (.int 1) S'=some (.int b,S') from rfl) ⟨rfl,Sm.refl _⟩
 ·rw[b5];refine⟨_,show ce false (K.G.map λg=>D.int (g.getD 1 0))=some ((js K).map D.int) from ?_,?_⟩
  ·have:=sj (xs:=K.G.map λg=>g.getD 1 0) (by rw[Za];have:=V.g7;lia);rw[ZU] at this;exact this
  ·have e:Zf (S'++[Ob.lst ((js K).map D.int)]) - 1=Zf S':=by simp
   have sl:Zf S<=Zf S':=by
    cases hz:decide (Zf S<=Zf S') with
    |true=>exact of_decide_eq_true hz
    |false=>
     exfalso;have hlt:Zf S' < Zf S:=by have:=of_decide_eq_false hz;lia
     have:=sm (Zf S') S[Zf S'] (gEG hlt);rw[ZA (Zg _)] at this;cases this
   have:=q (S'++[Ob.lst ((js K).map D.int)]) (sm.trans (Sm.app _ _)) (by rw[e];exact ax) (by rw[e];exact sl);rw[e] at this;exact this
theorem fu{n:Nat}{i:Int}(hn:S[n]?=some (.lst ds))(h0:0<=i)(h:ds[i.toNat]?=some d):ixS (.ref n) (.int i) S=some (d,S):=by
 obtain⟨j,rfl⟩:∃j:Nat,i=(j:Int):=⟨i.toNat,by lia⟩;rw[ZC] at h;simp only[ixS,ao,aR hn,Zz,Ev.vj h]
theorem wH{n:Nat}{j:Nat}(hn:S[n]?=some (.lst ds)):slS none (some (j:Int)) (.ref n) S=some (.ref (Zf S),S++[.lst (ds.take j)]):=by
 have:dU ds none (some (j:Int))=ds.take j:=by
  by_cases h:j<=ds.length
  ·exact kW ds j h
  ·unfold dU;rw[Dw.sW _ _ (by lia),ZC,XZ (by lia)];show(ds.drop 0).take (ds.length - 0)=ds.take j;rw[Xo,Z7 (by lia),Z7 (by lia)]
 simp only[slS,aR hn,this]
theorem kB{a b:Nat}(ha:S[a]?=some (.lst xs))(hb:S[b]?=some (.lst ys))(hl:xs.length+ys.length<=100000):bO .add (.ref a) (.ref b) S=some (.ref (Zf S),S++[.lst (xs++ys)]):=by
 simp only[bO,kc,IV,ha,hb];rw[if_pos hl]
theorem dR{n:Nat}(hn:S[n]?=some (.lst ds)):am cb (.ref n) S=some (.int ds.length,S):=by simp only[am,ao,aR hn,Zz,cb]
theorem B9(h:xs ≠ []):m7 false (xs.map D.int) S=some (.int (ie xs),S):=by
 cases xs with
 |nil=>exact absurd rfl h
 |cons x xs=>unfold m7;rw[jf]
theorem F9(V:Vd K){n j:Nat}(hn:S[n]?=some (.lst (L.map aj)))(hz:L[j]?=some z)(hL:InG K L)(hl:L.length<=100)(q:∀S',Sm S S'->Q (.int (sd K (L.take j) z.1 z.2)) S'):Ok (evC ag (k+3) 25 [skE K,.ref n,.int j,.int (jn K z.1)] S) Q:=by
 refine aH (d:=eu) (ρ:=[some (skE K),some (.ref n),some (.int j),some (.int (jn K z.1)),none,none]) rfl rfl ?_;dsimp only[eu,hU];have hzG:=hL z (Zj hz);k_is;refine aa (wH hn) ?_;k_is;have s1:Sm S (S++[Ob.lst ((L.map aj).take j)]):=Sm.app _ _;have a1:(S++[Ob.lst ((L.map aj).take j)])[Zf S]?=some (Ob.lst ((L.take j).map aj)):=by rw[ax,Y9]
 generalize Zf S=N1 at *;generalize S++[Ob.lst ((L.map aj).take j)]=S1 at *;refine⟨rfl,sr V λS2 s2 a2 _=>?_⟩;k_is;refine⟨by rw[aR a2];rfl,?_⟩;have hjl:(js K).length<=7:=by rw[Mp];exact V.g7
 refine cn (js K) D.int (λt=>if (decide (jn K z.1 < t) && aK K t z)=true then [D.int t] else []) (by lia) (λ_ _=>by split <;> simp) (iE a2) (λi t S' ht sm=>⟨_,rfl,?_⟩) λS3 s3=>?_
 ·k_is;cases c:decide (jn K z.1 < t) with
  |false=>k_is;exact⟨rfl,Sm.refl _⟩
  |true=>
   k_is;have hn':=sm _ _ (s2 _ _ (s1 _ _ hn));refine aa (fu hn' (by lia) (show(L.map aj)[((j:Nat):Int).toNat]?=some (aj z) by rw[ZC,Zr,hz];rfl)) ?_;refine⟨rfl,mM V hzG.1 hzG.2 ?_⟩;k_is;cases aK K t z with
   |true=>k_is;exact⟨rfl,Sm.refl _⟩
   |false=>k_is;exact⟨rfl,Sm.refl _⟩
 ·rw[cJ];k_is;have lt3:Zf S3 < Zf (S3++[Ob.lst (((js K).filter λt=>decide (jn K z.1 < t) && aK K t z).map D.int)]):=by simp
  have a3:(S3++[Ob.lst (((js K).filter λt=>decide (jn K z.1 < t) && aK K t z).map D.int)])[Zf S3]?=some (Ob.lst (((js K).filter λt=>decide (jn K z.1 < t) && aK K t z).map D.int)):=ax;have s4:Sm S3 (S3++[Ob.lst (((js K).filter λt=>decide (jn K z.1 < t) && aK K t z).map D.int)]):=Sm.app _ _;have lf:((js K).filter λt=>decide (jn K z.1 < t) && aK K t z).length<=7:=Zw (Xl _ _) hjl;generalize Zf S3=N3 at *;generalize S3++[Ob.lst (((js K).filter λt=>decide (jn K z.1 < t) && aK K t z).map D.int)]=S4 at *;have s5:Sm S4 (S4++[Ob.lst [D.int (jn K z.1)]]):=Sm.app _ _;refine aa (kB (xs:=[D.int (jn K z.1)]) ax (s5 _ _ a3) (by rw[Za,Zn];lia)) ?_;k_is;have s6:Sm (S4++[Ob.lst [D.int (jn K z.1)]]) (S4++[Ob.lst [D.int (jn K z.1)]]++[Ob.lst ([D.int (jn K z.1)]++((js K).filter λt=>decide (jn K z.1 < t) && aK K t z).map D.int)]):=Sm.app _ _;have a6:(S4++[Ob.lst [D.int (jn K z.1)]]++[Ob.lst ([D.int (jn K z.1)]++((js K).filter λt=>decide (jn K z.1 < t) && aK K t z).map D.int)])[Zf (S4++[Ob.lst [D.int (jn K z.1)]])]?=some (Ob.lst ((iC K (L.take j) z.1 z.2).map D.int)):=ax;refine⟨by rw[aR a6];rfl,?_⟩;have sA:=((((s1.trans s2).trans s3).trans s4).trans s5).trans s6;have aL:=(((((s2.trans s3).trans s4).trans s5).trans s6)) _ _ a1;refine cn (iC K (L.take j) z.1 z.2) D.int (λt=>[D.int (1+(wts K (L.take j) t:Int))]) (by show((js K).filter λt=>decide (jn K z.1 < t) && aK K t z).length+1<=1000;lia) (λ_ _=>Zg _) (iE a6) (λi t S' ht sm=>⟨_,rfl,?_⟩) λS7 s7=>?_
  ·k_is;refine⟨rfl,Mo V (sm _ _ aL) (λw hw=>hL w (Xr hw)) (by rw[ZO];lia) λS8 s8=>?_⟩;k_is;exact⟨rfl,s8⟩
  ·rw[b5];have em:=B9 (S:=S7) (xs:=(iC K (L.take j) z.1 z.2).map λt=>1+(wts K (L.take j) t:Int)) (by unfold iC;simp);rw[ZU] at em;exact aa em (by k_is;exact q S7 (sA.trans s7))
theorem Ga(V:Vd K){n j:Nat}(hn:S[n]?=some (.lst (L.map aj)))(hz:L[j]?=some z)(hL:InG K L)(hl:L.length<=100)(q:∀S',Sm S S'->Q (.bl (se K (L.take j) z.1 z.2)) S'):Ok (evC ag (k+4) 24 [skE K,.ref n,.int j] S) Q:=by
 refine aH (d:=ek) (ρ:=[some (skE K),some (.ref n),some (.int j),none,none,none,none,none,none,none]) rfl rfl ?_;dsimp only[ek,hJ];have hzG:=hL z (Zj hz);obtain⟨a,b,c,d,e,f,h,eg,e0,e1,e2,e3,e6,_⟩:=gl7 V hzG.1 hzG.2;have hi:=fu hn (show(0:Int)<=(j:Int) by lia) (show(L.map aj)[((j:Nat):Int).toNat]?=some (aj z) by rw[ZC,Zr,hz];rfl);k_is;refine aa sk2 (aa hi (aa (show ixS (aj z) (.int 0) S=some (.int z.1,S) from rfl) (aa (gu hzG.1 eg) ?_)));rw[show aF [a,b,c,d,e,f,h] = .tup [.int a,.int b,.int c,.int d,.int e,.int f,.int h] from rfl];k_is;have ej:jn K z.1=b:=e1;have eh:se K (L.take j) z.1 z.2=(decide (0 < h) && (aK K b z && decide (h < sd K (L.take j) z.1 z.2))):=by unfold se;rw[e6,ej]
 rw[eh] at q;cases c1:decide (0 < h) with
 |false=>rw[c1] at q;k_is;exact q S (Sm.refl S)
 |true=>
  rw[c1] at q;k_is;refine aa hi ?_;refine⟨rfl,mM V hzG.1 hzG.2 ?_⟩;k_is;cases c2:aK K b z with
  |false=>rw[c2] at q;k_is;exact q S (Sm.refl S)
  |true=>
   rw[c2] at q;k_is
   have rg:=F9 (k:=k) (Q:=λy S2=>wCx .gt y (.int h) S2 λd S1=>Q d S1) V hn hz hL hl λS' sm=>by
    k_is;exact q S' sm
   rw[ej] at rg;exact⟨rfl,rg⟩
theorem Gb(V:Vd K){j:Nat}{m:Int}(q:∀S',Sm S S'->Q (.bl (uF K j m)) S'):Ok (evC ag (k+2) 30 [skE K,.int j,.int m] S) Q:=by
 refine aH (d:=bZ) (ρ:=[some (skE K),some (.int j),some (.int m),none,none,none,none,none,none]) rfl rfl ?_;dsimp only[bZ,dQ];k_is;refine aa sk0 ?_;rw[show meE K = .tup [.int K.r,.int K.s,.tup (K.M.map aF),.tup (K.H.map aj)] from rfl];k_is;refine⟨rfl,sr V λS1 s1 a1 _=>?_⟩;k_is;refine aa (dR a1) ?_;k_is;rw[Za];have r0:=V.r0;have el:uF K j m=match (js K)[(K.r+j).toNat]? with |some t=>decide (t < m - K.s) |none=>false:=rfl
 refine cm (λh=>?_) λh=>?_
 ·have hlt:(K.r+j).toNat < (js K).length:=by have:=of_decide_eq_true h;lia
  rw[gEG hlt] at el;k_is;refine aa (fu a1 (by lia) (show((js K).map D.int)[(K.r+(j:Int)).toNat]?=some (.int (js K)[(K.r+(j:Int)).toNat]) by rw[Zr,gEG hlt];rfl)) ?_;k_is;have:=q S1 s1;rw[el] at this;exact this
 ·have hge:(js K).length<=(K.r+j).toNat:=by have:=of_decide_eq_false h;lia
  rw[ZA hge] at el;have:=q S1 s1;rw[el] at this;exact this
abbrev pX:Option Int->D
 |none=>.non
 |some m=>.int m
theorem yu(V:Vd K){a:Option (Int × Int)}{g:Int}{j:Nat}(ha:∀q,a=some q->0<=q.1/\q.1 < K.M.length)(g0:0<=g)(g1:g < K.G.length)(q:∀S',Sm S S'->Q (pX (Sn.step K a g j)) S'):Ok (evC ag (k+3) 29 [skE K,ahE a,.int g,.int j] S) Q:=by
 refine aH (d:=cj) (ρ:=[some (skE K),some (ahE a),some (.int g),some (.int j),none,none,none,none,none,none,none,none]) rfl rfl ?_;dsimp only[cj,eS];obtain⟨a0,b,c,d,e,f,h,eg,e0,e1,e2,e3,e6,k0,k1,c0⟩:=gl7 V g0 g1;k_is;refine aa sk2 (aa (gu g0 eg) ?_);rw[show aF [a0,b,c,d,e,f,h] = .tup [.int a0,.int b,.int c,.int d,.int e,.int f,.int h] from rfl];k_is;refine aa sk0 ?_;refine⟨rfl,F8 V ha k0 k1 ?_⟩;k_is;refine⟨rfl,Mn V.h4 ?_⟩;k_is
 have em:fns K.H (if yq K a a0 > c then yq K a a0 else c)=opm K.H (bz K a g):=by
  have:=B6 (K:=K) (ah:=a) (g:=g) (by rw[e2];exact c0);rw[e0,e2] at this;rw[this,wD V.ris]
 rw[em];have es:Sn.step K a g j=if (decide (d < opm K.H (bz K a g)) || uF K j (opm K.H (bz K a g)))=true then none else some (opm K.H (bz K a g)):=by unfold Sn.step;rw[e3]
 rw[es] at q;cases c1:decide (d < opm K.H (bz K a g)) with
 |true=>rw[c1] at q;k_is;exact q S (Sm.refl S)
 |false=>
  rw[c1] at q;k_is;refine⟨rfl,Gb V λS1 s1=>?_⟩;k_is;cases c2:uF K j (opm K.H (bz K a g)) with
  |true=>rw[c2] at q;k_is;exact q S1 s1
  |false=>rw[c2] at q;k_is;exact q S1 s1
theorem Sm.setNew{f:Nat}(h:Sm S S')(hf:S.length<=f):Sm S (S'.set f o):=λi u e=>by
 have hi:=(Zb.mp e).1;rw[Zo (by lia)];exact h i u e
theorem Mq{g:Int}(g0:0<=g)(g1:g < K.G.length):jn K g ∈ js K:=by
 have hi:g.toNat < K.G.length:=by lia
 refine(bu _).mem_iff.mpr (ZL.mpr ⟨K.G[g.toNat],ZM hi,?_⟩);unfold jn gi;rw[gEG hi];rfl
theorem su(V:Vd K)(hL:InG K L):∀q,cU K L=some q->0<=q.1/\q.1 < K.M.length:=λq e=>by
 unfold cU at e;cases h:L.getLast? with
 |none=>rw[h] at e;exact V.ah0 q e
 |some z=>
  rw[h] at e;cases e;have hz:=hL z (List.mem_of_getLast? h);obtain⟨a,b,c,d,e,f,h,eg,e0,e1,e2,e3,e6,k0,k1,c0⟩:=gl7 V hz.1 hz.2;show 0<=gi K.G z.1 0/\gi K.G z.1 0 < K.M.length;rw[e0];exact⟨k0,k1⟩
theorem iG:cU K (L++[z])=some (gi K.G z.1 0,z.2):=by
 unfold cU;rw[Xq];rfl
theorem fL:∀ (os:List Int) (a:Option (Int × Int)) (L:List (Int × Int)) (j:Nat),rn K os a L = .inl j->j < L.length+os.length
 |[],_,_,_,h=>by cases h
 |g::os,a,L,j,h=>by
  rw[rn] at h;rw[ZB];split at h
  ·cases h;lia
  ·split at h
   ·cases h;lia
   ·have:=fL os _ _ j h;rw[Zc,Zn] at this
    lia
theorem pY:∀ (os:List Int) (a:Option (Int × Int)) (L R:List (Int × Int)),rn K os a L = .inr R->R.length=L.length+os.length
 |[],_,_,_,h=>by cases h;rfl
 |g::os,a,L,R,h=>by
  rw[rn] at h;rw[ZB];split at h
  ·cases h
  ·split at h
   ·cases h
   ·have:=pY os _ _ R h;rw[Zc,Zn] at this
    lia
structure Ends(K:Sky)(os:List Int)(L:List (Int × Int)):Prop where
 stuck:∀j,rn K os K.ah [] = .inl j->L.length=j
 lands:∀R,rn K os K.ah [] = .inr R->L=R
theorem sv(V:Vd K){os:List Int}(ho:∀g ∈ os,0<=g/\g < K.G.length)(lo:os.length<=7)
  (q:∀n L S',Sm S S'->S'[n]?=some (.lst (L.map aj))->Zf S<=n->Ends K os L->Q (.ref n) S'):Ok (evC ag (k+5) 28 [skE K,.tup (os.map D.int)] S) Q:=by
 refine aH (d:=bR) (ρ:=[some (skE K),some (.tup (os.map D.int)),none,none,none,none]) rfl rfl ?_;dsimp only[bR,dq];k_is;refine B7 (by rw[Za];lia) (λi ρ S'=>Sm S S'/\∃L u v w,ρ=[some (skE K),some (.tup (os.map D.int)),some (.ref (Zf S)),u,v,w]/\S'[Zf S]?=some (.lst (L.map aj))/\L.length=i/\InG K L/\rn K os K.ah []=rn K (os.drop i) (cU K L) L) (λi d ρ S1 hd ⟨s1,L,u,v,w,er,hn,hi,hL,hr⟩=>?_) (λρ S1 ⟨s1,L,u,v,w,er,hn,hi,hL,hr⟩=>?_) ⟨Sm.app _ _,[],none,none,none,rfl,ax,rfl,λ_ h=>(by simp at h),rfl⟩
 ·subst er;obtain⟨g,hg,rfl⟩:=pW hd;have hgG:=ho g (Zj hg);have hil:i < os.length:=(Zb.mp hg).1;rw[kz hg,rn,hi] at hr;refine⟨_,gq (by simp) (by simp),?_⟩;k_is;refine⟨rfl,B8 V hn hL ?_⟩;refine⟨rfl,yu V (su V hL) hgG.1 hgG.2 λS2 s2=>?_⟩;k_is;cases hst:Sn.step K (cU K L) g i with
  |none=>
   rw[hst] at hr;refine aa (show aE .is (pX none) .non S2=some (.bl true,S2) from rfl) ?_;k_is;exact q _ L S2 (s1.trans s2) (s2 _ _ hn) (Zg _) ⟨λj e=>by rw[hr] at e;cases e;exact hi,λR e=>by rw[hr] at e;cases e⟩
  |some m=>
   rw[hst] at hr;refine aa (show aE .is (pX (some m)) .non S2=some (.bl false,S2) from rfl) ?_;rw[show pX (some m) = .int m from rfl];k_is;have hn2:=s2 _ _ hn;refine⟨cI hn2,?_⟩;rw[jI hn2 (by rw[Za];lia)];k_is;have lt2:Zf S < S2.length:=(Zb.mp hn2).1;have hn3:(S2.set (Zf S) (Ob.lst (L.map aj++[D.tup [D.int g,D.int m]])))[Zf S]?=some (.lst ((L++[(g,m)]).map aj)):=by rw[dF lt2,ZK];rfl
   have s3:Sm S (S2.set (Zf S) (Ob.lst (L.map aj++[D.tup [D.int g,D.int m]]))):=Sm.setNew (s1.trans s2) (Zg _);generalize S2.set (Zf S) (Ob.lst (L.map aj++[D.tup [D.int g,D.int m]]))=S3 at *
   have hL3:InG K (L++[(g,m)]):=λz hz=>by
    rcases ZJ.mp hz with hz |hz
    ·exact hL z hz
    ·rw[ZE.mp hz];exact hgG
   have hz3:(L++[(g,m)])[i]?=some (g,m):=by rw[Zp (by lia),hi,Yj];rfl
   have ht3:(L++[(g,m)]).take i=L:=by rw[<-hi,X9]
   refine⟨rfl,Ga V hn3 hz3 hL3 (by rw[Zc,Zn];lia) λS4 s4=>?_⟩;rw[ht3,F7 λz hz=>Mq (hL z hz).1 (hL z hz).2];k_is;dsimp only at hr;cases hh:oh K L g m with
   |true=>
    rw[hh,if_pos rfl] at hr;k_is;refine aa (wH (s4 _ _ hn3)) ?_;k_is;have a5:(S4++[Ob.lst (((L++[(g,m)]).map aj).take i)])[Zf S4]?=some (.lst (L.map aj)):=by rw[ax,<-Y9,ht3]
    have l4:Zf S<=Zf S4:=YG (Zb.mp (s4 _ _ hn3)).1;exact q _ L _ ((s3.trans s4).trans (Sm.app _ _)) a5 l4 ⟨λj e=>by rw[hr] at e;cases e;exact hi,λR e=>by rw[hr] at e;cases e⟩
   |false=>
    rw[hh,if_neg Zd] at hr;k_is;exact⟨s3.trans s4,L++[(g,m)],_,_,_,rfl,s4 _ _ hn3,by rw[Zc,Zn];lia,hL3,by rw[iG];exact hr⟩
 ·subst er;k_is;rw[Za,YE,rn] at hr;exact q _ L S1 s1 hn (Zg _) ⟨λj e=>(by rw[hr] at e;cases e),λR e=>(by rw[hr] at e;cases e;rfl)⟩
end Lw
namespace Lw
open PySem Ev
variable {p:Nat} {S:Sto} {k:Nat} {Q:D->Sto->Prop}
theorem oi{n:Nat}(h:TD p S t d)(hn:n<=1000)(q:∀S',Sm S S'->Q (.bl (Dw.cK n t)) S'):Ok (evC ag (k+3) 4 [d,.int n] S) Q:=by
 refine aH (d:=bV) (ρ:=[some d,some (.int n)]) rfl rfl ?_;dsimp only[bV,fg];k_is;refine⟨rfl,mJ h ?_⟩;k_is;cases t with
 |tup ts=>
  obtain⟨ds,rfl,hs⟩:=h.tup;rw[Dw.IG];by_cases hl:ts.length<=n
  ·rw[decide_eq_true hl];k_is;refine pJ hs (by lia) (λe=>Dw.bA e 0 ((n:Int) - 1)) (λi t d S' _ sm td=>⟨_,rfl,?_⟩) λS' sm=>?_
   ·k_is;exact⟨rfl,jK td ⟨rfl,Sm.refl _⟩⟩
   ·rw[gP,av];k_is;cases hr:ts.all (λe=>Dw.bA e 0 ((n:Int) - 1)) with
    |false=>
     k_is;have:=q S' sm;simp only[Dw.cK,hr,Yq,YV] at this;exact this
    |true=>
     k_is;have ei:=wm hr hs;subst ei;refine pJ (hs.keep sm.kp) (by lia) (λt=>decide (((X8 (Dw.zy t) (Dw.bQ ts):Nat):Int)=1)) (λi t d S2 ht sm2 td=>⟨_,rfl,?_⟩) λS2 sm2=>?_
     ·obtain⟨j,rfl,_⟩:=Dw.c9 (ZD.mp hr t (Zj ht));obtain rfl:=td.int;k_is;refine⟨rfl,?_⟩;rw[rT,av];k_is;exact⟨rfl,Sm.refl _⟩
     ·rw[gP,av];have:=q S2 (sm.trans sm2)
      have e:(ts.all λt=>decide (((X8 (Dw.zy t) (Dw.bQ ts):Nat):Int)=1))=Dw.iQ (Dw.bQ ts):=by
       rw[<-Dw.qy,Yh]
       conv=>rhs;unfold Dw.bQ
       rw[Yh];rfl
      simp only[Dw.cK,hr,decide_eq_true hl,Y8] at this;rw[e];exact this
  ·rw[decide_eq_false hl];k_is;have:=q S (Sm.refl S);simp only[Dw.cK,decide_eq_false hl,Yq] at this;exact this
 |_=>dsimp only[Dw.isT];k_is;exact q S (Sm.refl S)
end Lw
namespace Lw
open PySem Ev Sn
variable {p:Nat} {S:Sto} {k:Nat} {Q:D->Sto->Prop} {K:Sky}
theorem bI(r:List Int):TDs p S (r.map Dw.D.int) (r.map D.int):=by
 induction r with
 |nil=>exact aG
 |cons a r ih=>exact ac aQ ih
theorem cQ:∀ (M:List (List Int)),TDs p S (Dw.kU M) (M.map aF)
 |[]=>aG
 |r::M=>ac (aC (bI r)) (cQ M)
abbrev ahT:Option (Int × Int)->Dw.D
 |none=>.non
 |some q=>.tup [.int q.1,.int q.2]
abbrev skT(K:Sky):Dw.D:=.tup [.tup [.int K.r,.int K.s,.tup (Dw.kU K.M),.tup (K.H.map Dw.jN)],ahT K.ah,.tup (Dw.kU K.G),.tup (K.F.map Dw.D.int)]
theorem wJ:∀ (a:Option (Int × Int)),TD p S (ahT a) (ahE a)
 |none=>pH
 |some q=>aC (ac aQ (ac aQ aG))
theorem Pv:TD p S (skT K) (skE K):=aC (ac (aC (ac aQ (ac aQ (ac (aC (cQ K.M)) (ac (aC (cH K.H)) aG))))) (ac (wJ K.ah) (ac (aC (cQ K.G)) (ac (aC (bI K.F)) aG))))
structure Ord(K:Sky)(os:List Int):Prop where
 nd:os.Nodup
 bd:∀g ∈ os,0<=g/\g < K.G.length
 ln:os.length=K.G.length
 fx:∃r,os=K.F++r
theorem wK(h:Ok (aE .eq (.tup xs) (.tup ys) S) Q):uz .eq xs (.tup ys) S Q:=by
 cases ys with
 |nil=>rw[wt,av] at h;exact h
 |cons y ys=>exact h
def Res(K:Sky)(os:List Int)(b:Nat)(d:D)(S':Sto):Prop:=match rn K os K.ah [] with
 |.inl j=>d = .tup [.str "stuck", .int j]
 |.inr R=>∃n,d = .tup [.str "lands", .ref n]/\S'[n]?=some (.lst (R.map aj))/\b<=n
theorem Ca{m:Int}(hl:H.length<=4)(q:Q (.int (opm H m)) S):Ok (evC ag (k+1) 38 [.tup (H.map aj),.int m] S) Q:=by
 refine aH (d:=iw) (ρ:=[some (.tup (H.map aj)),some (.int m),none,none]) rfl rfl ?_;dsimp only[iw,mD];k_is;refine Hx (by rw[Za];lia) (λi ρ S'=>S'=S/\∃ (m':Int) (u v:Option D),opm H m=opm (H.drop i) m'/\ρ=[some (.tup (H.map aj)),some (.int m'),u,v]) (λi d ρ S' hd ⟨es,m',u,v,ef,er⟩=>?_) (λρ S' ⟨es,m',u,v,ef,er⟩=>?_) ⟨rfl,m,none,none,rfl,rfl⟩
 ·subst es er;obtain⟨pr,hp,rfl⟩:=pW hd;refine⟨_,show aB (.tup [.name 2,.name 3]) (.tup [.int pr.1,.int pr.2]) _=_ from gq (by simp) (by simp),?_⟩;k_is;rw[kz hp,opm] at ef;refine si (λh1 h2=>?_) λh=>?_
  ·k_is;rw[if_pos ⟨of_decide_eq_true h1,of_decide_eq_true h2⟩] at ef;exact⟨rfl,_,_,_,ef,rfl⟩
  ·k_is;rw[if_neg (λz=>by rw[decide_eq_true z.1,decide_eq_true z.2] at h;cases h)] at ef;exact⟨rfl,_,_,_,ef,rfl⟩
 ·subst es er;k_is;rw[Za,YE,opm] at ef;rw[ef] at q;exact q
theorem yv(V:Vd K){n:Nat}{t:Int}(hn:S[n]?=some (.lst (L.map aj)))(hL:InG K L)(hl:L.length<=1000)(q:∀N ds S',Sm S S'->S'[N]?=some (.lst ds)->ds.length=wts K L t->Q (.ref N) S'):Ok (evC ag (k+1) 39 [skE K,.ref n,.int t] S) Q:=by
 refine aH (d:=gk) (ρ:=[some (skE K),some (.ref n),some (.int t)]) rfl rfl ?_;dsimp only[gk,jY];k_is;refine⟨by rw[aR hn];rfl,?_⟩;refine cn L aj (λz=>if aK K t z=true then [.int z.1] else []) hl (λz _=>by split <;> simp) (iE hn) (λi z S' hz sm=>⟨_,show aB (.tup [.name 3,.name 4]) (.tup [.int z.1,.int z.2]) _=_ from gq (by simp) (by simp),?_⟩) λS' sm=>?_
 ·obtain⟨h0,h1⟩:=hL z (Zj hz);obtain⟨a,b,c,d,e,f,h,eg,_,e1,_⟩:=gl7 V h0 h1;k_is;refine aa sk2 (aa (gu h0 eg) (aa (show ixS (aF [a,b,c,d,e,f,h]) (.int 1) S'=some (.int b,S') from rfl) ?_));k_is;have ew:aK K t z=(decide (b<=t) && decide (t < z.2 - K.s)):=by unfold aK jn;rw[e1]
  rw[ew];cases c1:decide (b<=t) with
  |false=>k_is;exact⟨rfl,Sm.refl _⟩
  |true=>
   k_is;refine aa sk0 (aa me1 ?_);k_is;cases c2:decide (t < z.2 - K.s) with
   |true=>k_is;exact⟨rfl,Sm.refl _⟩
   |false=>k_is;exact⟨rfl,Sm.refl _⟩
 ·rw[cJ];k_is;exact q _ _ _ (sm.trans (Sm.app _ _)) ax (by rw[Za];rfl)
theorem yw{c:Int}{n:Nat}(h:S[n]?=some (.lst (xs.map D.int))):am (gZ c) (.ref n) S=some (.int (xP c xs),S):=by
 simp only[am,ao,aR h,Zz,gZ,jf]
theorem Cb(V:Vd K){n:Nat}{g m:Int}(hn:S[n]?=some (.lst (L.map aj)))(hL:InG K L)(hl:L.length<=100)(g0:0<=g)(g1:g < K.G.length)(q:∀S',Sm S S'->Q (.int (r9 K L g m)) S'):Ok (evC ag (k+2) 40 [skE K,.ref n,.int g,.int m] S) Q:=by
 refine aH (d:=iy) (ρ:=[some (skE K),some (.ref n),some (.int g),some (.int m),none,none,none]) rfl rfl ?_;dsimp only[iy,mE];obtain⟨a,b,c,d,e,f,h,eg,_,e1,_⟩:=gl7 V g0 g1;have ej:jn K g=b:=e1;k_is;refine aa sk2 (aa (gu g0 eg) (aa (show ixS (aF [a,b,c,d,e,f,h]) (.int 1) S=some (.int b,S) from rfl) ?_));k_is;have s1:Sm S (S++[Ob.lst [D.int b]]):=Sm.app _ _;have a1:(S++[Ob.lst [D.int b]])[Zf S]?=some (Ob.lst [D.int b]):=ax;generalize Zf S=N1 at *;generalize S++[Ob.lst [D.int b]]=S1 at *;have hn1:=s1 _ _ hn;refine⟨by rw[aR hn1];rfl,?_⟩;refine cn L aj (λz=>[.int (jn K z.1)]) (by lia) (λ_ _=>Zg _) (iE hn1) (λi z S' hz sm=>⟨_,show aB (.tup [.name 7,.name 8]) (.tup [.int z.1,.int z.2]) _=_ from gq (by simp) (by simp),?_⟩) λS2 s2=>?_
 ·obtain⟨h0,h1⟩:=hL z (Zj hz);obtain⟨a,b,c,d,e,f,h,eg,_,e1,_⟩:=gl7 V h0 h1;k_is;refine aa sk2 (aa (gu h0 eg) (aa (show ixS (aF [a,b,c,d,e,f,h]) (.int 1) S'=some (.int b,S') from rfl) ?_));exact⟨by rw[show jn K z.1=b from e1],Sm.refl _⟩
 ·rw[b5];have s3:Sm S2 (S2++[Ob.lst (L.map λz=>D.int (jn K z.1))]):=Sm.app _ _;refine aa (kB (s3 _ _ (s2 _ _ a1)) ax (by rw[Za,Zn];lia)) ?_;k_is;have s4:Sm (S2++[Ob.lst (L.map λz=>D.int (jn K z.1))]) (S2++[Ob.lst (L.map λz=>D.int (jn K z.1))]++[Ob.lst ([D.int b]++L.map λz=>D.int (jn K z.1))]):=Sm.app _ _
  have a4:(S2++[Ob.lst (L.map λz=>D.int (jn K z.1))]++[Ob.lst ([D.int b]++L.map λz=>D.int (jn K z.1))])[Zf (S2++[Ob.lst (L.map λz=>D.int (jn K z.1))])]?=some (Ob.lst ((jn K g::L.map λz=>jn K z.1).map D.int)):=by
   rw[ax,ej,Zu,ZU];rfl
  have sA:=((s1.trans s2).trans s3).trans s4;have hn4:=sA _ _ hn;generalize Zf (S2++[Ob.lst (L.map λz=>D.int (jn K z.1))])=N4 at *;generalize S2++[Ob.lst (L.map λz=>D.int (jn K z.1))]++[Ob.lst ([D.int b]++L.map λz=>D.int (jn K z.1))]=S4 at *;refine⟨by rw[aR a4];rfl,?_⟩;refine cn (jn K g::L.map λz=>jn K z.1) D.int (λt=>if (decide (jn K g<=t) && decide (t < m - K.s))=true then [D.int (1+(wts K L t:Int))] else []) (by rw[ZB,Za];lia) (λ_ _=>by split <;> simp) (iE a4) (λi t S' ht sm=>⟨_,rfl,?_⟩) λS5 s5=>?_
  ·k_is;rw[ej];cases c1:decide (b<=t) with
   |false=>k_is;exact⟨rfl,Sm.refl _⟩
   |true=>
    k_is;refine aa sk0 (aa me1 ?_);k_is;cases c2:decide (t < m - K.s) with
    |false=>k_is;exact⟨rfl,Sm.refl _⟩
    |true=>
     k_is;refine⟨rfl,yv V (sm _ _ hn4) hL (by lia) λN ds S6 s6 hN hd=>?_⟩;refine aa (dR hN) ?_;k_is;rw[hd];exact⟨rfl,s6⟩
  ·rw[cJ];k_is;have s6:Sm S5 (S5++[Ob.lst ((gr K L g m).map λt=>D.int (1+(wts K L t:Int)))]):=Sm.app _ _;have a6:(S5++[Ob.lst ((gr K L g m).map λt=>D.int (1+(wts K L t:Int)))])[Zf S5]?=some (Ob.lst (((gr K L g m).map λt=>1+(wts K L t:Int)).map D.int)):=by rw[ax,ZU];rfl
   refine aa (yw a6) ?_;k_is;exact q _ ((sA.trans s5).trans s6)
theorem Cc{i:Int}(h0:0<=i):dU ds (some i) none=ds.drop i.toNat:=by
 unfold dU;rw[Dw.IE _ _ h0,HT.yX];by_cases h:i.toNat<=ds.length
 ·rw[Xi h,Z7 (by rw[YD];lia)]
 ·rw[XZ (by lia),YE,Xz,Xf (by lia)]
theorem Cd{n:Nat}{i:Int}(hn:S[n]?=some (.lst ds))(h0:0<=i):slS (some i) none (.ref n) S=some (.ref (Zf S),S++[.lst (ds.drop i.toNat)]):=by
 simp only[slS,aR hn,Cc h0]
theorem uG(V:Vd K){a:Option (Int × Int)}{g:Int}{j:Nat}{kd jo la:Int}{w1 w2:Option D}(e3:gi K.G g 3=la)(q:∀S',Sm S S'->Q (pX (Sn.step K a g j)) S') :
  rW (wSs (evC ag (k+1)) (dY ag) 58 (fj.drop 2)) [some (skE K),some (ahE a),some (.int g),some (.int j),some (.int kd),some (.int jo),some (.int (bz K a g)),some (.int la),none,none] S (out Q):=by
 dsimp only[fj,Ys];k_is;refine aa sk0 (aa me3 ?_);refine⟨rfl,Ca V.h4 ?_⟩;k_is;have es:Sn.step K a g j=if (decide (la < opm K.H (bz K a g)) || uF K j (opm K.H (bz K a g)))=true then none else some (opm K.H (bz K a g)):=by unfold Sn.step;rw[e3]
 rw[es] at q;generalize opm K.H (bz K a g)=m at *;refine aa sk2 ?_;k_is;refine cn K.G aF (λg=>[.int (g.getD 1 0)]) (by have:=V.g7;lia) (λ_ _=>Zg _) dG (λi g S' hg sm=>⟨_,rfl,?_⟩) λS1 s1=>?_
 ·obtain⟨l7,_⟩:=V.gl g (Zj hg)
  match g,l7 with
  |[a,b,c,d,e,f,h],_=>
   k_is;exact aa (show ixS (aF [a,b,c,d,e,f,h]) (.int 1) S'=some (.int b,S') from rfl) ⟨rfl,Sm.refl _⟩
 ·rw[b5];refine⟨_,show ce false (K.G.map λg=>D.int (g.getD 1 0))=some ((js K).map D.int) from ?_,?_⟩
  ·have:=sj (xs:=K.G.map λg=>g.getD 1 0) (by rw[Za];have:=V.g7;lia);rw[ZU] at this;exact this
  ·refine aa sk0 (aa me0 ?_);k_is;have s2:Sm S1 (S1++[Ob.lst ((js K).map D.int)]):=Sm.app _ _;have a2:(S1++[Ob.lst ((js K).map D.int)])[Zf S1]?=some (Ob.lst ((js K).map D.int)):=ax;generalize Zf S1=N1 at *;generalize S1++[Ob.lst ((js K).map D.int)]=S2 at *;have r0:=V.r0;refine aa (Cd a2 (by lia)) ?_;k_is;have s3:Sm S2 (S2++[Ob.lst (((js K).map D.int).drop (K.r+(j:Int)).toNat)]):=Sm.app _ _;have a3:(S2++[Ob.lst (((js K).map D.int).drop (K.r+(j:Int)).toNat)])[Zf S2]?=some (Ob.lst (((js K).map D.int).drop (K.r+(j:Int)).toNat)):=ax;have l3:Zf S2 < Zf (S2++[Ob.lst (((js K).map D.int).drop (K.r+(j:Int)).toNat)]):=by simp
   generalize Zf S2=N2 at *;generalize S2++[Ob.lst (((js K).map D.int).drop (K.r+(j:Int)).toNat)]=S3 at *;have sA:=(s1.trans s2).trans s3;cases c1:decide (la < m) with
   |true=>rw[c1] at q;k_is;exact q _ sA
   |false=>
    rw[c1] at q;k_is;refine aa (Kd (Sm.app _ _ _ _ a3) ax (by lia)) ?_;k_is;have sB:Sm S (S3++[Ob.lst []]):=sA.trans (Sm.app _ _);have a4:=Sm.app S3 [Ob.lst []] _ _ a3;generalize S3++[Ob.lst []]=S4 at *;have el:uF K j m=match (js K)[(K.r+j).toNat]? with |some t=>decide (t < m - K.s) |none=>false:=rfl
    by_cases hlt:(K.r+(j:Int)).toNat < (js K).length
    ·rw[gEG hlt] at el;dsimp only at el
     have ed:((js K).map D.int).drop (K.r+(j:Int)).toNat = .int (js K)[(K.r+(j:Int)).toNat]::((js K).map D.int).drop ((K.r+(j:Int)).toNat+1):=by
      rw[YX (by rw[Za];exact hlt),List.getElem_map]
     rw[ed] at a4;rw[ed,show(!(D.int (js K)[(K.r+(j:Int)).toNat]::((js K).map D.int).drop ((K.r+(j:Int)).toNat+1)).isEmpty)=true from rfl];k_is;refine aa sk0 (aa me1 ?_);k_is;refine aa (fu (i:=0) a4 (by lia) rfl) ?_;k_is;rw[el] at q;cases c2:decide ((js K)[(K.r+(j:Int)).toNat] < m - K.s) with
     |true=>rw[c2] at q;k_is;exact q _ sB
     |false=>rw[c2] at q;k_is;exact q _ sB
    ·rw[ZA (by lia)] at el;have ed:((js K).map D.int).drop (K.r+(j:Int)).toNat=[]:=Xf (by rw[Za];lia);rw[ed,show(!([]:List D).isEmpty)=false from rfl];k_is;rw[el] at q;exact q _ sB
theorem Ce(V:Vd K){a:Option (Int × Int)}{g:Int}{j:Nat}(ha:∀q,a=some q->0<=q.1/\q.1 < K.M.length)(g0:0<=g)(g1:g < K.G.length)(q:∀S',Sm S S'->Q (pX (Sn.step K a g j)) S'):Ok (evC ag (k+2) 41 [skE K,ahE a,.int g,.int j] S) Q:=by
 refine aH (d:=iz) (ρ:=[some (skE K),some (ahE a),some (.int g),some (.int j),none,none,none,none,none,none]) rfl rfl ?_;dsimp only[iz,fj];obtain⟨a0,b,c,d,e,f,h,eg,e0,e1,e2,e3,e6,k0,k1,c0⟩:=gl7 V g0 g1;k_is;refine aa sk2 (aa (gu g0 eg) ?_);rw[show aF [a0,b,c,d,e,f,h] = .tup [.int a0,.int b,.int c,.int d,.int e,.int f,.int h] from rfl];k_is;rw[show dU [D.int a0,.int b,.int c,.int d,.int e,.int f,.int h] none (some 4)=[.int a0,.int b,.int c,.int d] from rfl];k_is;have tail:=uG (k:=k) (S:=S) (Q:=Q) V (a:=a) (g:=g) (j:=j) (kd:=a0) (jo:=b) (w1:=none) (w2:=none) e3 q;dsimp only[fj,Ys] at tail;cases a with
 |none=>
  have ef:bz K none g=c:=e2;rw[ef] at tail;refine aa (show aE .isnot (ahE none) .non S=some (.bl false,S) from rfl) ?_;k_is;exact tail
 |some z=>
  obtain⟨z0,z1⟩:=ha z rfl;refine aa (show aE .isnot (ahE (some z)) .non S=some (.bl true,S) from rfl) ?_;k_is;refine aa (show ixS (ahE (some z)) (.int 1) S=some (.int z.2,S) from rfl) ?_;refine aa sk0 (aa me2 (aa (show ixS (ahE (some z)) (.int 0) S=some (.int z.1,S) from rfl) ?_));obtain⟨r,h1,h2⟩:=mL (S:=S) V z0 z1 k0 k1;refine aa h1 (aa h2 ?_);k_is;have ef:bz K (some z) g=if z.2+gp K z.1 a0 > c then z.2+gp K z.1 a0 else c:=by unfold bz;rw[e0,e2]
  rw[ef] at tail;exact tail
theorem mO(V:Vd K){N i:Nat}{g m h:Int}(hn:S3[N]?=some (.lst (L.map aj)))(hl:L.length<=100)(g0:0<=g)(g1:g < K.G.length)
  (q:Qf .nx [some (skE K),some od,some (ahE (cU K (L++[(g,m)]))),some (.ref N),some (.int i),some (.int g),some (.int m),some (.int h)] (S3.set N (.lst (L.map aj++[.tup [.int g,.int m]])))) :
  fO (.ref N) S3=true/\Ok (qR (.ref N) [.tup [.int g,.int m]] S3) λ_ S1=>rW (wSs (evC ag (k+2)) (dY ag) 54 [CS.asg (Tg.name 2) (CE.tup [(((CE.var 0).ix (CE.int 2)).ix (CE.var 5)).ix (CE.int 0),CE.var 6])]) [some (skE K),some od,some ad,some (.ref N),some (.int i),some (.int g),some (.int m),some (.int h)] S1 Qf:=by
 refine⟨cI hn,?_⟩;rw[jI hn (by rw[Za];lia)];obtain⟨a,b,c,d,e,f,h',eg,e0,_⟩:=gl7 V g0 g1;k_is;refine aa sk2 (aa (gu g0 eg) (aa (show ixS (aF [a,b,c,d,e,f,h']) (.int 0) (S3.set N (.lst (L.map aj++[.tup [.int g,.int m]])))=some (.int a,_) from rfl) ?_));k_is;rw[iG,e0] at q;exact q
theorem j6(V:Vd K){os:List Int}(ho:∀g ∈ os,0<=g/\g < K.G.length)(lo:os.length<=7)(q:∀d S',Sm S S'->Res K os (Zf S) d S'->Q d S'):Ok (evC ag (k+3) 42 [skE K,.tup (os.map D.int)] S) Q:=by
 refine aH (d:=eF) (ρ:=[some (skE K),some (.tup (os.map D.int)),none,none,none,none,none,none]) rfl rfl ?_;dsimp only[eF,hX];k_is;refine aa sk1 ?_;k_is;refine B7 (by rw[Za];lia) (λi ρ S'=>Sm S S'/\∃L u v w x,ρ=[some (skE K),some (.tup (os.map D.int)),some (ahE (cU K L)),some (.ref (Zf S)),u,v,w,x]/\S'[Zf S]?=some (.lst (L.map aj))/\L.length=i/\InG K L/\rn K os K.ah []=rn K (os.drop i) (cU K L) L) (λi d ρ S1 hd ⟨s1,L,u,v,w,x,er,hn,hi,hL,hr⟩=>?_) (λρ S1 ⟨s1,L,u,v,w,x,er,hn,hi,hL,hr⟩=>?_) ⟨Sm.app _ _,[],none,none,none,none,rfl,ax,rfl,λ_ h=>(by simp at h),rfl⟩
 ·subst er;obtain⟨g,hg,rfl⟩:=pW hd;have hgG:=ho g (Zj hg);have hil:i < os.length:=(Zb.mp hg).1;rw[kz hg,rn,hi] at hr;refine⟨_,gq (by simp) (by simp),?_⟩;k_is;refine⟨rfl,Ce V (su V hL) hgG.1 hgG.2 λS2 s2=>?_⟩;obtain⟨a,b,c,d,e,f,h,eg,e0,e1,e2,e3,e6,k0,k1,c0⟩:=gl7 V hgG.1 hgG.2;refine aa sk2 (aa (gu hgG.1 eg) (aa (show ixS (aF [a,b,c,d,e,f,h]) (.int 6) S2=some (.int h,S2) from rfl) ?_));k_is;have hn2:=s2 _ _ hn;have stuck:rn K os K.ah [] = .inl i->∀S',Sm S S'->Q (.tup [.str "stuck", .int i]) S':=λe S' s=>q _ S' s (by unfold Res;rw[e]);cases hst:Sn.step K (cU K L) g i with
  |none=>
   rw[hst] at hr;refine aa (show aE .is (pX none) .non S2=some (.bl true,S2) from rfl) ?_;k_is;exact stuck hr S2 (s1.trans s2)
  |some m=>
   rw[hst] at hr;refine aa (show aE .is (pX (some m)) .non S2=some (.bl false,S2) from rfl) ?_;rw[show pX (some m) = .int m from rfl];k_is;dsimp only at hr;have eh:oh K L g m=(decide (0 < h) && decide (h < r9 K L g m)):=by unfold oh;rw[e6]
   rw[eh] at hr
   have fin:∀S3,Sm S S3->S3[Zf S]?=some (.lst (L.map aj))->rn K os K.ah []=rn K (os.drop (i+1)) (some (gi K.G g 0,m)) (L++[(g,m)])->Sm S (S3.set (Zf S) (.lst (L.map aj++[.tup [.int g,.int m]])))/\∃L' u v w x,[some (skE K),some (.tup (os.map D.int)),some (ahE (cU K (L++[(g,m)]))),some (.ref (Zf S)),some (.int (i:Int)),some (.int g),some (.int m),some (.int h)]=[some (skE K),some (.tup (os.map D.int)),some (ahE (cU K L')),some (.ref (Zf S)),u,v,w,x]/\(S3.set (Zf S) (.lst (L.map aj++[.tup [.int g,.int m]])))[Zf S]?=some (.lst (L'.map aj))/\L'.length=i+1/\InG K L'/\rn K os K.ah []=rn K (os.drop (i+1)) (cU K L') L':=λS3 s3 h3 hr=>by
    have lt3:Zf S < S3.length:=(Zb.mp h3).1;refine⟨Sm.setNew s3 (Zg _),L++[(g,m)],_,_,_,_,rfl,by rw[dF lt3,ZK];rfl,by rw[Zc,Zn];lia,λz hz=>?_,by rw[iG];exact hr⟩;rcases ZJ.mp hz with hz |hz
    ·exact hL z hz
    ·rw[ZE.mp hz];exact hgG
   refine cm (λc1=>?_) λc1=>?_
   ·rw[c1,Y8] at hr;k_is;refine⟨rfl,Cb (k:=k) V hn2 hL (by lia) hgG.1 hgG.2 λS3 s3=>?_⟩;k_is;cases c2:decide (h < r9 K L g m) with
    |true=>
     rw[c2,if_pos rfl] at hr;k_is;exact stuck hr S3 ((s1.trans s2).trans s3)
    |false=>
     rw[c2,if_neg Zd] at hr;k_is;refine mO V (s3 _ _ hn2) (by lia) hgG.1 hgG.2 ?_;exact fin S3 ((s1.trans s2).trans s3) (s3 _ _ hn2) hr
   ·rw[c1,Yq,if_neg Zd] at hr;k_is;refine mO V hn2 (by lia) hgG.1 hgG.2 ?_;exact fin S2 (s1.trans s2) hn2 hr
 ·subst er;k_is;rw[Za,YE,rn] at hr;exact q _ S1 s1 (by unfold Res;rw[hr];exact⟨_,rfl,hn,Zg _⟩)
theorem Cf{ds:List D}(i:Nat)(d:D)(h:ds[i]?=some d):(λi=>(ds[i]?).getD .non) i=d:=by
 show(ds[i]?).getD .non=d;rw[h];rfl
theorem iH{i:Int}(h0:0<=i)(h1:i < 1000):lim i=true:=by simp only[lim,bAE,decide_eq_true_eq];lia
theorem Mr{n:Nat}{lo:Int}{tg:Tg}{c:XA}{ρ:Rho}{Q:List D->Sto->Prop}(f:Nat->D)(hl:n<=1000)(step:∀ (i:Nat),i < n->∃ρ1,aB tg (.int (lo+i)) ρ=some ρ1/\Ok (c ρ1 S) λes S1=>es=[f i]/\S1=S)(q:Q ((Zk n).map f) S) :
  Ok (bo (nxR lo n) tg c ρ LF 0 S) λes S2=>es.length<=100000/\Q es S2:=by
 refine uu (by lia) (λi acc S'=>S'=S/\acc=(Zk i).map f) (λi acc S' hi ⟨e,ea⟩=>?_) (λes S' ⟨e,ea⟩=>?_) ⟨rfl,rfl⟩
 ·subst e;obtain⟨ρ1,e2,es,S1,e3,e4,e5⟩:=step i hi;exact⟨ρ1,e2,es,S1,e3,e5,by rw[ea,e4,Xh,ZK];rfl⟩
 ·subst e ea;exact⟨by rw[Za,ZI];lia,q⟩
abbrev mid(M:List (List Int))(n c a:Nat):List (List Int):=(Zk n).map λi=>if i < a then Dw.a9 M n c i else (M[i]?).getD []
theorem jg{n c a i:Nat}(hi:i < n):(mid M n c a)[i]?=some (if i < a then Dw.a9 M n c i else (M[i]?).getD []):=by
 unfold mid;rw[Zr,Yp hi];rfl
theorem Cg{n c:Nat}(h:Dw.Mat n M):mid M n c 0=M:=by
 apply XQ;intro i;by_cases hi:i < n
 ·rw[jg hi,if_neg (by lia)];have:i < M.length:=by rw[h.len];exact hi
  rw[gEG this];rfl
 ·rw[ZA (by unfold mid;rw[Za,ZI];lia),ZA (by rw[h.len];lia)]
theorem Gc{n c:Nat}:mid M n c n=(Zk n).map (Dw.a9 M n c):=by
 unfold mid;refine Z9 λi hi=>?_;rw[if_pos (ZR.mp hi)]
theorem Gf{n c a:Nat}(ha:a < n):(mid M n c a).set a (Dw.a9 M n c a)=mid M n c (a+1):=by
 apply XQ;intro i;by_cases hi:i < n
 ·rw[jg hi];by_cases hia:i=a
  ·subst hia;rw[ZG (by unfold mid;rw[Za,ZI];lia),if_pos (by lia)]
  ·rw[Zo (Ne.symm hia),jg hi];by_cases h:i < a
   ·rw[if_pos h,if_pos (by lia)]
   ·rw[if_neg h,if_neg (by lia)]
 ·rw[ZA (by rw[ZY];unfold mid;rw[Za,ZI];lia),ZA (by unfold mid;rw[Za,ZI];lia)]
theorem Pw{n c a b:Nat}(h:Dw.Mat n M)(hc:c < n)(hb:b < n):Dw.mg2 (mid M n c a) c b=Dw.mg2 M c b:=by
 unfold Dw.mg2;rw[jg hc];split
 ·rw[Z0,Dw.qx M hb];obtain⟨_,_,_,_,p1,_⟩:=h.at hc hc;show(if Dw.mg2 M c c+Dw.mg2 M c b < Dw.mg2 M c b then Dw.mg2 M c c+Dw.mg2 M c b else Dw.mg2 M c b)=_;rw[if_neg (by lia)];rfl
 ·rfl
theorem Px{n c a b:Nat}(ha:a < n):Dw.mg2 (mid M n c a) a b=Dw.mg2 M a b:=by
 unfold Dw.mg2;rw[jg ha,if_neg (ZN _)];rfl
theorem RowsS.at(h:RowsS p S rs M){n:Nat}{L:Nat}(hL:S[L]?=some (.lst rs)){i j:Int}(i0:0<=i)(j0:0<=j)(hm:∃r x,M[i.toNat]?=some r/\r[j.toNat]?=some x/\x=Dw.mg2 M i.toNat j.toNat) :
  ∃a,ixS (.ref L) (.int i) S=some (.ref a,S)/\ixS (.ref a) (.int j) S=some (.int (Dw.mg2 M i.toNat j.toNat),S):=by
 obtain⟨r,x,hr,hx,ex⟩:=hm;obtain⟨a,ea,na,za⟩:=h.row _ r hr;exact⟨a,fu hL i0 ea,fu za j0 (by rw[Zr,hx,ex];rfl)⟩
theorem uH{n i j:Nat}(hl:M.length=n)(hr:∀r ∈ M,r.length=n)(hi:i < n)(hj:j < n):∃r x,M[i]?=some r/\r[j]?=some x/\x=Dw.mg2 M i j:=by
 have hi':i < M.length:=by lia
 have hj':j < M[i].length:=by rw[hr _ (ZM hi')];exact hj
 refine⟨M[i],M[i][j],gEG hi',gEG hj',?_⟩;unfold Dw.mg2;rw[gEG hi',Z0,gEG hj'];rfl
theorem Ch{n c a:Nat}(h:Dw.Mat n M):∀r ∈ mid M n c a,r.length=n:=λr hr=>by
 unfold mid at hr;obtain⟨i,hi,rfl⟩:=ZL.mp hr;have hi:=ZR.mp hi;split
 ·exact Dw.qw M n c i
 ·have:i < M.length:=by rw[h.len];exact hi
  rw[gEG this];exact h.row _ (ZM this)
theorem Gg{n c a:Nat}:(mid M n c a).length=n:=by unfold mid;rw[Za,ZI]
theorem RowsS.set{L i a:Nat}(h:RowsS p S rs M)(hL:S[L]?=some (.lst rs))(hi:i < M.length)(na:a ≠ p)(za:S[a]?=some (.lst (r.map D.int)))(nL:a ≠ L)(hz:∀ (i:Nat) r b,M[i]?=some r->rs[i]?=some (D.ref b)->b ≠ L):RowsS p (S.set L (.lst (rs.set i (.ref a)))) (rs.set i (.ref a)) (M.set i r):=by
 refine⟨by rw[ZY,ZY];exact h.len,λj r' hr=>?_⟩;by_cases hj:j=i
 ·subst hj;rw[ZG hi] at hr;cases hr;exact⟨a,by rw[ZG (by rw[h.len];exact hi)],na,by rw[Zo (Ne.symm nL)];exact za⟩
 ·rw[Zo (Ne.symm hj)] at hr;obtain⟨b,eb,nb,zb⟩:=h.row j r' hr;have:=hz j r' b hr eb;exact⟨b,by rw[Zo (Ne.symm hj)];exact eb,nb,by rw[Zo (Ne.symm this)];exact zb⟩
theorem Gh{L n:Nat}(h:RowsS p S rs M)(hL:S[L]?=some (.lst rs))(hr:∀r ∈ M,0 < r.length):∀ (i:Nat) r b,M[i]?=some r->rs[i]?=some (D.ref b)->b ≠ L:=λi r b e1 e2 e3=>by
 obtain⟨b',e4,_,z⟩:=h.row i r e1;rw[e2] at e4;cases e4;rw[e3,hL] at z;cases z;rw[Zr] at e2;cases hx:r[i]? with
 |none=>rw[hx] at e2;cases e2
 |some x=>rw[hx] at e2;cases e2
end Lw
namespace Lw
open PySem Ev Sn L2
variable {p:Nat} {S:Sto} {k:Nat} {Q:D->Sto->Prop} {K:Sky}
theorem Kp.len{p:Nat}(h:Ev.Kp p S S')(hp:p < S'.length):S.length<=S'.length:=by
 by_cases hz:S.length<=S'.length
 ·exact hz
 ·exfalso;have hlt:S'.length < S.length:=by lia
  have:=h S'.length S[S'.length] (by lia) (gEG hlt);rw[ZA (Zg _)] at this;cases this
theorem wL{n:Nat}{i:Int}(hn:S[n]?=some (.lst ds))(h0:0<=i)(h1:i.toNat < ds.length):lu (.ref n) (.int i) v S=some (S.set n (.lst (ds.set i.toNat v))):=by
 have hix:ixN ds.length i=some i.toNat:=by
  unfold ixN;rw[if_pos (by lia),if_pos (by lia)]
 simp only[lu,hn,hix,Zz]
theorem Ci{n L:Nat}(hL:S[L]?=some (.lst es))(hr:RowsS p S es M)(hm:Dw.Mat n M)(hn:n<=4)(q:∀S',Sm S S'->Q (.tup (M.map aF)) S') :
  rW (wSs (evC ag (k+1)) (dY ag) 57 (fh.drop 3)) [some pt,u,v,some (.ref L),w,x] S (out Q):=by
 dsimp only[fh,Ys];k_is;refine⟨by rw[aR hL];rfl,?_⟩;have le:es.length=n:=by rw[hr.len,hm.len]
 refine pL n (λi=>(es[i]?).getD .non) (λi acc S'=>S'=S/\acc=(M.take i).map aF) (λi acc S' hi ⟨e,_⟩=>by subst e;rw[<-le];exact uv hL _ Cf) (by lia) (λi acc S2 hi ⟨e2,ea⟩=>?_) (λes' S2 ⟨e2,ea⟩=>⟨by rw[ea,Za,ZO];lia,?_⟩) ⟨rfl,rfl⟩
 ·subst e2;have li:i < M.length:=by rw[hm.len];exact hi
  obtain⟨a,eb,na,za⟩:=hr.row i M[i] (gEG li);simp only[eb,Z0];refine⟨_,rfl,?_⟩;k_is;refine aa (show am eK (.ref a) S2=some (.tup (M[i].map D.int),S2) by simp only[am,ao,aR za,Zz,eK]) ?_;refine⟨rfl,?_⟩;rw[ea,Z6 li,ZK];rfl
 ·subst e2;rw[Z7 (by rw[hm.len];exact Zg _)] at ea;subst ea;refine aa (show eK false (M.map aF) S2=some (.tup (M.map aF),S2) from rfl) ?_;k_is;exact q S2 (Sm.refl _)
theorem Cj(h:Pot p S)(q:∀n M S',Dr p S S'->Dw.Mat n M->1<=n->n<=4->Dw.qv n n M->Q (.tup (M.map aF)) S'):Ok (evC ag (k+2) 35 [.ref p] S) Q:=by
 refine aH (d:=iu) (ρ:=[some (.ref p),none,none,none,none,none]) rfl rfl ?_;dsimp only[iu,fh];k_is;refine⟨rfl,ay h (by decide) (by decide) λr0 S0 r1 r2 d0=>?_⟩;k_is;refine⟨rfl,ay d0.pot (by decide) (by decide) λf0 S1 f1 f2 d01=>?_⟩;k_is;have d1:=d0.trans d01;obtain⟨n,rfl⟩:∃n:Nat,r0=(n:Int):=⟨r0.toNat,by lia⟩
 obtain⟨far,at1,hf⟩:∃e:Int,atI [D.int 3,D.int 12,D.int 40] f0=some (D.int e)/\0 < e/\e<=40:=by
  have:f0=0\/f0=1\/f0=2:=by lia
  rcases this with rfl |rfl |rfl
  ·exact⟨3,rfl,by decide,by decide⟩
  ·exact⟨12,rfl,by decide,by decide⟩
  ·exact⟨40,rfl,by decide,by decide⟩
 refine⟨_,at1,?_⟩;k_is;have e1:((1:Int)+n).toNat=n+1:=by lia
 have l1:lim (1+(n:Int))=true:=iH (by lia) (by lia);refine⟨l1,?_⟩;rw[e1];refine uu (by lia) (λi acc S'=>Dr p S1 S'/\∃M:List (List Int),M.length=i/\RowsS p S' acc M/\∀r ∈ M,r.length=n+1/\∀x ∈ r,1<=x/\x<=99) (λi acc S2 hi ⟨d2,M,lM,rM,bM⟩=>⟨_,rfl,?_⟩) (λes S2 ⟨d2,M,lM,rM,bM⟩=>⟨by rw[rM.len];lia,?_⟩) ⟨Dr.refl d1.pot,[],rfl,RowsS.nil,λr hr=>by simp at hr⟩
 ·k_is;refine⟨l1,?_⟩;rw[e1];refine uu (by lia) (λj acc S'=>Dr p S2 S'/\∃r:List Int,acc=r.map D.int/\r.length=j/\∀x ∈ r,1<=x/\x<=99) (λj acc S3 hj ⟨d3,r,ea,lr,br⟩=>⟨_,rfl,?_⟩) (λes S3 ⟨d3,r,ea,lr,br⟩=>⟨by rw[ea,Za];lia,?_⟩) ⟨Dr.refl d2.pot,[],rfl,rfl,λx hx=>by simp at hx⟩
  ·k_is;refine⟨rfl,ay d3.pot hf.1 (by lia) λx S4 x1 x2 d4=>?_⟩;k_is;refine⟨d3.trans d4,r++[1+x],by rw[ea,ZK];rfl,by simp[lr],λy hy=>?_⟩;rcases ZJ.mp hy with hy |hy
   ·exact br y hy
   ·simp at hy;lia
  ·subst ea;k_is;have lt:=d3.pot.lt;refine⟨(d2.trans d3).thenSm (Sm.app _ _),M++[r],by simp[lM],((rM.keep d3.kp).keep (Sm.app _ _).kp).snoc (by lia) ax,λr' hr'=>?_⟩;rcases ZJ.mp hr' with hr' |hr'
   ·exact bM r' hr'
   ·simp at hr';subst hr';exact⟨lr,br⟩
 ·have lt2:=d2.pot.lt;have d3:Dr p S (S2++[Ob.lst es]):=(d1.trans d2).thenSm (Sm.app _ _);have r3:RowsS p (S2++[Ob.lst es]) es M:=rM.keep (Sm.app _ _).kp;have a3:(S2++[Ob.lst es])[S2.length]?=some (Ob.lst es):=ax;have m3:Dw.Mat (n+1) M:=⟨lM,λr hr=>(bM r hr).1,λr hr=>(bM r hr).2⟩;have lS:S.length<=S2.length:=Kp.len (d1.trans d2).kp lt2;have ne3:S2.length ≠ p:=by lia
  revert a3 r3 d3;generalize S2++[Ob.lst es]=S3;generalize S2.length=L at *;intro d3 r3 a3;k_is;refine⟨l1,?_⟩;rw[e1];refine jZ (by lia) (λc ρ S'=>Dr p S S'/\∃es M u v,ρ=[some (.ref p),some (.int (1+(n:Int))),some (.int far),some (.ref L),u,v]/\S'[L]?=some (.lst es)/\RowsS p S' es M/\Dw.Mat (n+1) M/\Dw.qv (n+1) c M) (λc ρ S4 hc ⟨d4,es,M,u,v,er,hL,hr,hm,tr⟩=>?_) (λρ S4 ⟨d4,es,M,u,v,er,hL,hr,hm,tr⟩=>?_) ⟨d3,es,M,none,none,rfl,a3,r3,m3,λ_ _ _ _ _ h=>absurd h (Nat.not_lt_zero _)⟩
  ·subst er;refine⟨_,rfl,?_⟩;k_is;refine⟨l1,?_⟩;rw[e1];refine jZ (by lia) (λa ρ S'=>Dr p S S'/\∃es v,ρ=[some (.ref p),some (.int (1+(n:Int))),some (.int far),some (.ref L),some (.int (0+(c:Int))),v]/\S'[L]?=some (.lst es)/\RowsS p S' es (mid M (n+1) c a)) (λa ρ S5 ha ⟨d5,es,v,er,hL,hr⟩=>?_) (λρ S5 ⟨d5,es,v,er,hL,hr⟩=>?_) ⟨d4,es,v,rfl,hL,by rw[Cg hm];exact hr⟩
   ·subst er;refine⟨_,rfl,?_⟩;k_is;refine⟨l1,?_⟩;rw[e1];have ml:=@Gg M (n+1) c a;have mr:=Ch (c:=c) (a:=a) hm;have z0:∀x:Nat,((0:Int)+x).toNat=x:=λx=>by lia
    refine Mr (λb=>.int (if Dw.mg2 M a c+Dw.mg2 M c b < Dw.mg2 M a b then Dw.mg2 M a c+Dw.mg2 M c b else Dw.mg2 M a b)) (by lia) (λb hb=>⟨_,rfl,?_⟩) ?_
    ·k_is;obtain⟨x1,i1,j1⟩:=RowsS.at (n:=0) hr hL (i:=0+(a:Int)) (j:=0+(b:Int)) (by lia) (by lia) (by rw[z0,z0];exact uH ml mr ha hb);obtain⟨x2,i2,j2⟩:=RowsS.at (n:=0) hr hL (i:=0+(a:Int)) (j:=0+(c:Int)) (by lia) (by lia) (by rw[z0,z0];exact uH ml mr ha hc);obtain⟨x3,i3,j3⟩:=RowsS.at (n:=0) hr hL (i:=0+(c:Int)) (j:=0+(b:Int)) (by lia) (by lia) (by rw[z0,z0];exact uH ml mr hc hb);rw[z0,z0,Px ha] at j1 j2;rw[z0,z0,Pw hm hc hb] at j3;refine aa i1 (aa j1 (aa i2 (aa j2 (aa i3 (aa j3 ?_)))));k_is;exact⟨rfl,rfl⟩
    ·have ef:((Zk (n+1)).map λb=>D.int (if Dw.mg2 M a c+Dw.mg2 M c b < Dw.mg2 M a b then Dw.mg2 M a c+Dw.mg2 M c b else Dw.mg2 M a b))=(Dw.a9 M (n+1) c a).map D.int:=by unfold Dw.a9;rw[ZU];rfl
     rw[ef];k_is;have lt5:=d5.pot.lt;have hL':=Sm.app S5 [Ob.lst ((Dw.a9 M (n+1) c a).map D.int)] _ _ hL;have lL:L < S5.length:=(Zb.mp hL).1;have le:es.length=n+1:=by rw[hr.len,ml]
     refine⟨_,wL hL' (by lia) (by lia),?_⟩;k_is;rw[z0];have hr':RowsS p (S5++[Ob.lst ((Dw.a9 M (n+1) c a).map D.int)]) es (mid M (n+1) c a):=hr.keep (Sm.app _ _).kp;have hr2:=RowsS.set (i:=a) (a:=S5.length) (r:=Dw.a9 M (n+1) c a) hr' hL' (by lia) (by lia) ax (by lia) (Gh (n:=0) hr' hL' λr hh=>by rw[mr r hh];lia);rw[Gf ha] at hr2;have kA:Ev.Kp p S ((S5++[Ob.lst ((Dw.a9 M (n+1) c a).map D.int)]).set L (.lst (es.set a (.ref S5.length)))):=(d5.kp.trans (Sm.app _ _).kp).setNew lS;refine⟨⟨kA,((Dr.sm d5.pot (Sm.app _ _)).pot).setNe ne3⟩,_,_,rfl,?_,hr2⟩;rw[dF (by rw[Zc];lia)]
   ·subst er;k_is;rw[Gc] at hr;exact⟨d5,es,_,_,_,rfl,hL,hr,Dw.zx hm hc,Dw.zw hm hc tr (Dw.Du hm hc)⟩
  ·subst er;have tail:=Ci (k:=k) (p:=p) (Q:=Q) (pt:=.ref p) (u:=some (.int (1+(n:Int)))) (v:=some (.int far)) (w:=u) (x:=v) hL hr hm (by lia) λS' sm=>q (n+1) M S' (d4.thenSm sm) hm (by lia) (by lia) tr;dsimp only[fh,Ys] at tail;exact tail
theorem sx:∀ {H:List (Int × Int)} {lo x y:Int},Ris lo H->lo < x->(∀q ∈ H,q.2 < x)->x < y->Ris lo (H++[(x,y)])
 |[],lo,x,y,_,h1,_,h3=>⟨h1,h3,trivial⟩
 |q::H,lo,x,y,h,h1,h2,h3=>by
  rw[Ris] at h;exact⟨h.1,h.2.1,sx h.2.2 (h2 q Zh) (λr hr=>h2 r (Ze _ hr)) h3⟩
theorem pZ:∀ {H:List (Int × Int)} {lo:Int} {q:Int × Int},Ris lo H->q ∈ H->lo < q.1/\q.1 < q.2
 |q'::H,lo,q,h,hq=>by
  rw[Ris] at h;rcases Zm.mp hq with rfl |hq
  ·exact⟨h.1,h.2.1⟩
  ·have:=pZ h.2.2 hq
   lia
theorem sy:∀ {H:List (Int × Int)} {lo:Int},Ris lo H->∀ (i:Nat) q q',H[i]?=some q->H[i+1]?=some q'->q.2 < q'.1
 |q0::H,lo,h,0,q,q',e1,e2=>by
  rw[Ris] at h;cases e1;rw[Yt] at e2;exact(pZ h.2.2 (Zj e2)).1
 |q0::H,lo,h,i+1,q,q',e1,e2=>by
  rw[Ris] at h;rw[Yt] at e1 e2;exact sy h.2.2 i q q' e1 e2
structure MeOk(r s:Int)(M:List (List Int))(H:List (Int × Int)):Prop where
 r0:0<=r
 r8:r<=8
 s0:0<=s
 s60:s<=60
 mat:Dw.Mat M.length M
 m1:1<=M.length
 m4:M.length<=4
 tri:Dw.qv M.length M.length M
 ris:Ris (-1) H
 h4:H.length<=4
 hb:∀q ∈ H,q.2<=9999
theorem uI(h:Pot p S)(q:∀r s M H S',Dr p S S'->MeOk r s M H->Q (.tup [.int r,.int s,.tup (M.map aF),.tup (H.map aj)]) S'):Ok (evC ag (k+3) 36 [.ref p] S) Q:=by
 refine aH (d:=fo) (ρ:=[some (.ref p),none,none,none,none]) rfl rfl ?_;dsimp only[fo,jd];have lt:=h.lt;k_is;have d0:Dr p S (S++[Ob.lst []]):=Dr.sm h (Sm.app _ _);have a0:(S++[Ob.lst []])[Zf S]?=some (Ob.lst (([]:List (Int × Int)).map aj)):=ax;have nN:Zf S ≠ p:=by lia
 generalize S++[Ob.lst []]=S0 at *;refine⟨rfl,ay d0.pot (by decide) (by decide) λi0 S1 i1 i2 d1=>?_⟩;k_is
 obtain⟨fr,at1,hf⟩:∃e:Int,atI [D.int 1,D.int 5] i0=some (D.int e)/\0 < e/\e<=5:=by
  have:i0=0\/i0=1:=by lia
  rcases this with rfl |rfl
  ·exact⟨1,rfl,by decide,by decide⟩
  ·exact⟨5,rfl,by decide,by decide⟩
 refine⟨_,at1,?_⟩;refine⟨rfl,ay d1.pot hf.1 (by lia) λn0 S2 n1 n2 d2=>?_⟩;k_is;obtain⟨n,rfl⟩:∃n:Nat,n0=(n:Int):=⟨n0.toNat,by lia⟩;refine⟨iH (by lia) (by lia),?_⟩;rw[ZC];have d02:=(d0.trans d1).trans d2;have a2:=(d1.trans d2).kp _ _ nN a0;refine jZ (by lia) (λi ρ S'=>Dr p S S'/\∃ (H:List (Int × Int)) (b:Int) (u v:Option D),ρ=[some (.ref p),some (.ref (Zf S)),some (.int b),u,v]/\S'[Zf S]?=some (.lst (H.map aj))/\H.length=i/\Ris (-1) H/\(∀q ∈ H,q.2 < b)/\0<=b/\b<=60 * i) (λi ρ S3 hi ⟨d3,H,b,u,v,er,hn,hl,hr,hm,b0,b1⟩=>?_) (λρ S3 ⟨d3,H,b,u,v,er,hn,hl,hr,hm,b0,b1⟩=>?_) ⟨d02,[],0,none,none,rfl,a2,rfl,trivial,λq hq=>by simp at hq,by decide,by decide⟩
 ·subst er;refine⟨_,rfl,?_⟩;k_is;refine⟨rfl,ay d3.pot (by decide) (by decide) λx S4 x1 x2 d4=>?_⟩;k_is;have hn4:=d4.kp _ _ nN hn;refine⟨cI hn4,?_⟩;refine⟨rfl,ay d4.pot (by decide) (by decide) λy S5 y1 y2 d5=>?_⟩;k_is;have hn5:=d5.kp _ _ nN hn4;rw[jI hn5 (by rw[Za];lia)];k_is;have lt5:Zf S < S5.length:=(Zb.mp hn5).1;have f5:(S5.set (Zf S) (Ob.lst (H.map aj++[D.tup [D.int (b+x),D.int (b+x+1+y)]])))[Zf S]?=some (Ob.lst (H.map aj++[D.tup [D.int (b+x),D.int (b+x+1+y)]])):=dF lt5;refine aa (pM f5) (aa (show ixS (D.tup [D.int (b+x),D.int (b+x+1+y)]) (.int 1) (S5.set (Zf S) (Ob.lst (H.map aj++[D.tup [D.int (b+x),D.int (b+x+1+y)]])))=some (.int (b+x+1+y),_) from rfl) ?_);k_is;refine⟨⟨((d3.kp.trans d4.kp).trans d5.kp).setNew (Zg _),d5.pot.setNe nN⟩,H++[(b+x,b+x+1+y)],_,_,_,rfl,by rw[f5,ZK];rfl,by rw[Zc,Zn];lia,sx hr (by lia) (λq hq=>by have:=hm q hq;lia) (by lia),λq hq=>?_,by lia,by lia⟩;rcases ZJ.mp hq with hq |hq
  ·have:=hm q hq;lia
  ·rw[ZE.mp hq];show b+x+1+y < b+x+1+y+1;lia
 ·subst er;k_is;refine⟨rfl,ay d3.pot (by decide) (by decide) λi3 S4 j3 k3 d4=>?_⟩;k_is
  obtain⟨r,at3,h3⟩:∃e:Int,atI [D.int 8,D.int 1,D.int 2,D.int 3,D.int 0] i3=some (D.int e)/\0<=e/\e<=8:=by
   have:i3=0\/i3=1\/i3=2\/i3=3\/i3=4:=by lia
   rcases this with rfl |rfl |rfl |rfl |rfl
   ·exact⟨8,rfl,by decide,by decide⟩
   ·exact⟨1,rfl,by decide,by decide⟩
   ·exact⟨2,rfl,by decide,by decide⟩
   ·exact⟨3,rfl,by decide,by decide⟩
   ·exact⟨0,rfl,by decide,by decide⟩
  refine⟨_,at3,?_⟩;refine⟨rfl,ay d4.pot (by decide) (by decide) λi5 S5 j5 k5 d5=>?_⟩;k_is
  obtain⟨s,at5,h5⟩:∃e:Int,atI [D.int 0,D.int 2,D.int 9,D.int 60] i5=some (D.int e)/\0<=e/\e<=60:=by
   have:i5=0\/i5=1\/i5=2\/i5=3:=by lia
   rcases this with rfl |rfl |rfl |rfl
   ·exact⟨0,rfl,by decide,by decide⟩
   ·exact⟨2,rfl,by decide,by decide⟩
   ·exact⟨9,rfl,by decide,by decide⟩
   ·exact⟨60,rfl,by decide,by decide⟩
  refine⟨_,at5,?_⟩;refine⟨rfl,Cj d5.pot λm M S6 d6 hM m1 m4 tr=>?_⟩;have hn6:=((d4.trans d5).trans d6).kp _ _ nN hn;refine aa (show am eK (.ref (Zf S)) S6=some (.tup (H.map aj),S6) by simp only[am,ao,aR hn6,Zz,eK]) ?_;k_is;obtain rfl:=hM.len;exact q r s M H S6 (d3.trans ((d4.trans d5).trans d6)) ⟨h3.1,h3.2,h5.1,h5.2,hM,m1,m4,tr,hr,by lia,λq hq=>by have:=hm q hq;lia⟩
end Lw
namespace Lw
open PySem Ev Sn L2
variable {p:Nat} {S S':Sto} {k:Nat} {Q:D->Sto->Prop} {K:Sky}
structure Gs(p N hi:Nat)(S:Sto)(es:List D)(G:List (List Int)):Prop where
 pN:p < N
 at_:S[N]?=some (.lst es)
 len:es.length=G.length
 row:∀ (i:Nat) g,G[i]?=some g->∃a,es[i]?=some (D.ref a)/\N < a/\a < hi/\S[a]?=some (.lst (g.map D.int))
 inj:∀ (i j a:Nat),es[i]?=some (D.ref a)->es[j]?=some (D.ref a)->i=j
section
variable {N hi hi':Nat} {es:List D} {G:List (List Int)}
theorem Gs.keep(h:Gs p N hi S es G)(kp:Ev.Kp p S S'):Gs p N hi S' es G:=by
 have pN:=h.pN;refine⟨h.pN,kp _ _ (by lia) h.at_,h.len,λi g hg=>?_,h.inj⟩;obtain⟨a,e,n1,n2,z⟩:=h.row i g hg;exact⟨a,e,n1,n2,kp _ _ (by lia) z⟩
theorem Gs.up(h:Gs p N hi S es G)(hh:hi<=hi'):Gs p N hi' S es G:=by
 refine⟨h.pN,h.at_,h.len,λi g hg=>?_,h.inj⟩;obtain⟨a,e,n1,n2,z⟩:=h.row i g hg;exact⟨a,e,n1,by lia,z⟩
theorem Gs.other(h:Gs p N hi S es G){f:Nat}(hf:hi<=f)(hN:N < hi):Gs p N hi (S.set f o) es G:=by
 refine⟨h.pN,by rw[Zo (by lia)];exact h.at_,h.len,λi g hg=>?_,h.inj⟩;obtain⟨a,e,n1,n2,z⟩:=h.row i g hg;exact⟨a,e,n1,n2,by rw[Zo (by lia)];exact z⟩
theorem Gs.snoc(h:Gs p N S.length S es G):Gs p N (S.length+1) ((S++[Ob.lst (g.map D.int)]).set N (.lst (es++[D.ref S.length]))) (es++[D.ref S.length]) (G++[g]):=by
 have lN:N < S.length:=(Zb.mp h.at_).1
 have old:∀ (i a:Nat),es[i]?=some (D.ref a)->a < S.length:=λi a e=>by
  have hi:i < G.length:=by rw[<-h.len];exact(Zb.mp e).1
  obtain⟨b,e2,n1,n2,_⟩:=h.row i G[i] (gEG hi);rw[e] at e2;cases e2;exact n2
 refine⟨h.pN,by rw[dF (by rw[Zc];lia)],by rw[Zc,Zc,h.len];rfl,λi g' hg=>?_,λi j a e1 e2=>?_⟩
 ·by_cases hi:i < G.length
  ·rw[Zt hi] at hg;obtain⟨a,e,n1,n2,z⟩:=h.row i g' hg;exact⟨a,by rw[Zt (by rw[h.len];exact hi)];exact e,n1,by lia,by rw[Zo (by lia),Zt n2];exact z⟩
  ·have hl:=(Zb.mp hg).1;rw[Zc,Zn] at hl;obtain rfl:i=G.length:=by lia
   rw[Zp (Zg _),Yj] at hg;cases hg;exact⟨S.length,by rw[Zp (by rw[h.len];lia),h.len,Yj];rfl,lN,by lia,by rw[Zo (by lia),ax]⟩
 ·have key:∀ (i:Nat),(es++[D.ref S.length])[i]?=some (D.ref a)->(i < es.length/\es[i]?=some (D.ref a))\/(i=es.length/\a=S.length):=λi e=>by
   by_cases hi:i < es.length
   ·rw[Zt hi] at e;exact .inl ⟨hi,e⟩
   ·have hl:=(Zb.mp e).1;rw[Zc,Zn] at hl;obtain rfl:i=es.length:=by lia
    rw[Zp (Zg _),Yj] at e;cases e;exact .inr ⟨rfl,rfl⟩
  rcases key i e1 with ⟨h1,z1⟩ |⟨h1,z1⟩ <;> rcases key j e2 with ⟨h2,z2⟩ |⟨h2,z2⟩
  ·exact h.inj i j a z1 z2
  ·have:=old i a z1;lia
  ·have:=old j a z2;lia
  ·lia
theorem Gs.setRow(h:Gs p N hi S es G){i a:Nat}(hi':i < G.length)(ea:es[i]?=some (D.ref a)):Gs p N hi (S.set a (.lst (g.map D.int))) es (G.set i g):=by
 obtain⟨b,eb,n1,n2,zb⟩:=h.row i G[i] (gEG hi');rw[ea] at eb;cases eb;have la:=(Zb.mp zb).1;refine⟨h.pN,by rw[Zo (by lia)];exact h.at_,by rw[ZY];exact h.len,λj g' hg=>?_,h.inj⟩;by_cases hj:j=i
 ·subst hj;rw[ZG hi'] at hg;cases hg;exact⟨a,ea,n1,n2,dF la⟩
 ·rw[Zo (Ne.symm hj)] at hg;obtain⟨c,ec,m1,m2,zc⟩:=h.row j g' hg;have:c ≠ a:=λz=>hj (by rw[z] at ec;exact h.inj j i a ec ea);exact⟨c,ec,m1,m2,by rw[Zo (Ne.symm this)];exact zc⟩
end
def GB(n:Nat)(r s:Int)(g:List Int):Prop:=∃kd jo fi la du we ri:Int,g=[kd,jo,fi,la,du,we,ri]/\0<=kd/\kd < n/\0<=jo/\jo+s<=fi/\fi<=la/\la<=9999/\0<=du/\du<=9999/\0<=we/\we<=99/\0<=ri/\ri<=r
structure SkOk(K:Sky):Prop where
 me:MeOk K.r K.s K.M K.H
 g7:K.G.length<=7
 gb:∀g ∈ K.G,GB K.M.length K.r K.s g
 nd:K.F.Nodup
 bd:∀x ∈ K.F,0<=x/\x < K.G.length
 rg:∀ (j:Nat) g,K.G[j]?=some g->g.getD 6 0=0\/(j:Int) ∈ K.F
 ah:∀q,K.ah=some q->0<=q.1/\q.1 < K.M.length/\0<=q.2/\q.2<=9999
theorem SkOk.vd(h:SkOk K):Vd K:=by
 refine⟨h.me.r0,h.me.r8,h.me.s0,h.me.s60,h.me.m1,h.me.m4,h.me.mat.row,h.me.ris,h.me.h4,λq e=>⟨(h.ah q e).1,(h.ah q e).2.1⟩,h.g7,λg hg=>?_⟩;obtain⟨kd,jo,fi,la,du,we,ri,rfl,h1,h2,h3,h4,_⟩:=h.gb g hg;have:=h.me.s0;refine⟨rfl,h1,h2,?_⟩;show 0<=fi
 lia
end Lw
namespace Ev
open PySem
def OkX(o:Option (RR × Sto))(Q:RR->Sto->Prop):Prop:=∃r S',o=some (r,S')/\Q r S'
section
variable {ag:List DefE} {k f:Nat} {d:DefE} {ds:List D} {ρ:Rho} {S:Sto} {g:fU} {ar:Nat->Nat} {r:List RS} {Q:RR->Sto->Prop}
theorem yx(hd:ag[f]?=some d)(hr:d.rb=some rs)(hρ:ds.map some++Zs (d.N.length - ds.length) none=ρ)(h:OkX (b6 (evX ag k) (dY ag) rs ρ S) Q):OkX (evX ag (k+1) f ds S) Q:=by
 subst hρ;have z:evX ag (k+1) f ds S=b6 (evX ag k) (dY ag) rs (ds.map some++Zs (d.N.length - ds.length) none) S:=by simp only[evX,hd,hr]
 rw[z];exact h
theorem Ck{Q:D->Sto->Prop}(h:OkX (evX ag k f ds S) λr S'=>match r with |.val d=>Q d S' |.exc _=>False):Ok (evC ag k f ds S) Q:=by
 obtain⟨r,S',e,q⟩:=h;cases r with
 |val d=>exact⟨d,S',by unfold evC toC;rw[e],q⟩
 |exc i=>exact q.elim
theorem Ms(q:Q (.val .non) S):OkX (b6 g ar [] ρ S) Q:=⟨_,_,rfl,q⟩
theorem Gi{n:Nat}:fS C ar (n+2) [s] ρ S=evS C ar (n+1) s ρ S:=by
 show t6 (evS C ar (n+1) s) (fS C ar (n+1) []) ρ S=_;unfold t6;cases evS C ar (n+1) s ρ S with
 |none=>rfl
 |some z=>
  obtain⟨fl,ρ1,S1⟩:=z;cases fl <;> rfl
theorem Cm(h:rW (wSs (toC g) ar 60 [s]) ρ S λfl ρ' S'=>match fl with |.nx=>OkX (b6 g ar r ρ' S') Q |.rt v=>Q (.val v) S' |_=>False):OkX (b6 g ar (.pl s::r) ρ S) Q:=by
 obtain⟨fl,ρ1,S1,e,q⟩:=BM h;rw[Gi] at e;have z:evS (toC g) ar 59 s ρ S=some (fl,ρ1,S1):=e;cases fl with
 |nx=>obtain⟨v,S2,e2,q2⟩:=q;exact⟨v,S2,by simp only[b6,z];exact e2,q2⟩
 |rt v=>exact⟨.val v,S1,by simp only[b6,z],q⟩
 |bk=>exact q.elim
 |ct=>exact q.elim
theorem Hy(h:evA (toC g) ar FU es ρ S=some (ds,S1))(hl:ds.length=ar f)(q:OkX (g f ds S1) λv S2=>match v with |.val _=>OkX (b6 g ar r ρ S2) Q |.exc i=>Q (.exc i) S2):OkX (b6 g ar (.ck f es::r) ρ S) Q:=by
 obtain⟨v,S2,e,q⟩:=q;cases v with
 |val d=>
  obtain⟨v,S3,e3,q3⟩:=q;exact⟨v,S3,by simp only[b6,xck,h,hl,if_true,e];exact e3,q3⟩
 |exc i=>exact⟨.exc i,S2,by simp only[b6,xck,h,hl,if_true,e],q⟩
theorem Cn{i:Nat}(h:wT (toC g) ar 60 c ρ S λb S1=>if b=true then i < 14/\Q (.exc i) S1 else OkX (b6 g ar r ρ S1) Q):OkX (b6 g ar (.rz c i::r) ρ S) Q:=by
 obtain⟨b,S1,e,q⟩:=(og 60).t _ _ _ h;have z:evT (toC g) ar FU c ρ S=some (b,S1):=e;cases b with
 |true=>
  rw[if_pos rfl] at q;exact⟨.exc i,S1,by simp only[b6,z];rw[if_pos q.1],q.2⟩
 |false=>
  rw[if_neg Zd] at q;obtain⟨v,S2,e2,q2⟩:=q;exact⟨v,S2,by simp only[b6,z];exact e2,q2⟩
theorem Hz(h:evA (toC g) ar FU es ρ S=some (ds,S1))(hl:ds.length=ar f)(q:OkX (g f ds S1) λv S2=>match v with |.val d=>Q (.val d) S2 |.exc i=>∃w,ye i=some w/\Q (.val (.str w)) S2):OkX (b6 g ar (.tr f es::r) ρ S) Q:=by
 obtain⟨v,S2,e,q⟩:=q;cases v with
 |val d=>exact⟨.val d,S2,by simp only[b6,xck,h,hl,if_true,e],q⟩
 |exc i=>
  obtain⟨w,hw,q⟩:=q;exact⟨.val (.str w),S2,by simp only[b6,xck,h,hl,if_true,e,hw];rfl,q⟩
end
end Ev
namespace Lw
open PySem Ev Sn L2
variable {p:Nat} {S S':Sto} {k:Nat} {Q:D->Sto->Prop} {K:Sky}
theorem bJ{α:Type}{l:List α}{E:α->D}{S:Sto}:am cb (.tup (l.map E)) S=some (.int l.length,S):=by simp only[am,ao,cb,Za]
theorem uJ{α:Type}{l:List α}:l.all (λ_=>true)=true:=ZD.mpr λ_ _=>rfl
theorem uK{α:Type}{nx:Nxt}{tg:Tg}{c:XA}{ρ:Rho}(l:List α)(E:α->D)(hl:l.length<=1000)(hnx:∀i S',Sm S S'->nx i S'=some ((l[i]?).map E))
  (step:∀ (i:Nat) a S',l[i]?=some a->Sm S S'->∃ρ1,aB tg (E a) ρ=some ρ1/\Ok (c ρ1 S') λes S1=>es=[.bl true]/\Sm S' S1) (q:∀S',Sm S S'->Q (.bl true) S') :
  Ok (bo nx tg c ρ LF 0 S) λes S2=>es.length<=100000/\Ok (kf false es S2) Q:=by
 refine cn l E (λ_=>[.bl true]) hl (λ_ _=>Zg _) hnx step λS' s'=>?_;rw[b5];refine aa (gP l (λ_=>true) S') ?_;rw[uJ];exact q S' s'
theorem uL{i a b:Int}(h0:a<=i)(h1:i<=b)(q:Q (.bl true) S):Ok (evC ag (k+2) 1 [.int i,.int a,.int b] S) Q:=jK (p:=0) aQ (by
 rw[show Dw.bA (.int i) a b=true by simp only[Dw.bA,decide_eq_true h0,decide_eq_true h1,XB]];exact q)
theorem Gj{i:Int}(h0:0<=i)(h1:i<=9999)(q:Q (.bl true) S):Ok (evC ag (k+3) 2 [.int i] S) Q:=yp (p:=0) aQ (by
 rw[show Dw.bA (.int i) 0 9999=true by simp only[Dw.bA,decide_eq_true h0,decide_eq_true h1,XB]];exact q)
theorem mP{ts:List Dw.D}{ds:List D}{a b:Int}(h:TDs 0 S ts ds)(h0:a<=ts.length)(h1:(ts.length:Int)<=b)(q:Q (.bl true) S):Ok (evC ag (k+1) 3 [.tup ds,.int a,.int b] S) Q:=mJ (aC h) (by
 rw[show Dw.isT (.tup ts) a b=true by simp only[Dw.isT,decide_eq_true h0,decide_eq_true h1,XB]];exact q)
theorem kC{M:List (List Int)}:(Dw.kU M).length=M.length:=by unfold Dw.kU;rw[Za]
theorem Py{r:List Int}{n:Nat}(hl:r.length=n)(hn:n<=4)(hr:∀x ∈ r,1<=x/\x<=99)(q:∀S',Sm S S'->Q (.bl true) S'):Ok (evC ag (k+3) 7 [aF r,.int n] S) Q:=by
 refine aH (d:=fk) (ρ:=[some (aF r),some (.int n)]) rfl rfl ?_;dsimp only[fk,ja];rw[show aF r = .tup (r.map D.int) from rfl];k_is;refine⟨rfl,mP (bI r) (by rw[Za];lia) (by rw[Za];lia) ?_⟩;k_is;refine uK r D.int (by lia) dG (λi x S' hx sm=>⟨_,rfl,?_⟩) q;k_is;have:=hr x (Zj hx);exact⟨rfl,uL this.1 this.2 ⟨rfl,Sm.refl _⟩⟩
theorem Co{es:List D}(h:∀e ∈ es,e = .bl true)(S:Sto):kf false es S=some (.bl true,S):=by
 have e:es.map (λ_=>D.bl true)=es:=by
  conv=>rhs;rw[<-Xs es]
  exact Z9 λx hx=>(h x hx).symm
 rw[<-e];exact(gP es (λ_=>true) S).trans (by rw[uJ])
theorem Pz(sk:SkOk K)(q:∀S',Sm S S'->Q (.bl true) S'):Ok (evC ag (k+1) 8 [.tup (K.M.map aF)] S) Q:=by
 refine aH (d:=bf) (ρ:=[some (.tup (K.M.map aF)),none]) rfl rfl ?_;dsimp only[bf,bK];have V:=sk.vd;have m4:=sk.me.m4;k_is;refine aa bJ ?_;refine⟨_,rfl,by lia,?_⟩;k_is;have hm:(S++[Ob.lst ((Zk K.M.length).map λj=>D.int (Int.ofNat j))])[S.length]?=some (.lst ((Zk K.M.length).map λj=>D.int (Int.ofNat j))):=ax;have sq:∀S',Sm (S++[Ob.lst ((Zk K.M.length).map λj=>D.int (Int.ofNat j))]) S'->(au S' S.length).isSome=true:=λS' sm=>by rw[aR (sm _ _ hm)];rfl
 refine⟨sq _ (Sm.refl _),?_⟩;refine(ut hm (by lia) (λa=>(Zk K.M.length).flatMap λb=>(Zk K.M.length).flatMap λc=>[.bl true]) λa S1 ha sm1=>⟨_,rfl,?_⟩).mono λes S2 ⟨ee,sm⟩=>?_
 ·k_is;refine⟨sq _ sm1,?_⟩;refine ut (sm1 _ _ hm) (by lia) _ λb S2 hb sm2=>⟨_,rfl,?_⟩;k_is;refine⟨sq _ (sm1.trans sm2),?_⟩;refine ut (sm2 _ _ (sm1 _ _ hm)) (by lia) _ λc S3 hc sm3=>⟨_,rfl,?_⟩;k_is;obtain⟨r1,e1,e2⟩:=mL (S:=S3) V (a:=a) (b:=b) (by lia) (by lia) (by lia) (by lia);obtain⟨r2,e3,e4⟩:=mL (S:=S3) V (a:=a) (b:=c) (by lia) (by lia) (by lia) (by lia);obtain⟨r3,e5,e6⟩:=mL (S:=S3) V (a:=c) (b:=b) (by lia) (by lia) (by lia) (by lia);refine aa e1 (aa e2 (aa e3 (aa e4 (aa e5 (aa e6 ?_)))));k_is;refine⟨?_,Sm.refl _⟩;have t:=sk.me.tri a b c ha hb hc;rw[decide_eq_true (show gp K a b<=gp K a c+gp K c b from t)]
 ·subst ee
  have all:∀e ∈ (Zk K.M.length).flatMap λa=>(Zk K.M.length).flatMap λb=>(Zk K.M.length).flatMap λc=>[D.bl true],e = .bl true:=λe he=>by
   obtain⟨a,_,he⟩:=Z1.mp he;obtain⟨b,_,he⟩:=Z1.mp he;obtain⟨c,_,he⟩:=Z1.mp he;exact ZE.mp he
  refine⟨?_,aa (Co all _) (q _ ((Sm.app S _).trans sm))⟩;have f3:∀a b:Nat,((Zk K.M.length).flatMap λc=>[D.bl true]).length<=4:=λ_ _=>by rw[b5 (Zk K.M.length) (λ_=>D.bl true),Za,ZI];exact m4
  have f2:∀a:Nat,((Zk K.M.length).flatMap λb=>(Zk K.M.length).flatMap λc=>[D.bl true]).length<=K.M.length * 4:=λa=>Dw.vo λb _=>f3 a b;have f1:=Dw.vo (n:=K.M.length) (m:=K.M.length * 4) (f:=λa=>(Zk K.M.length).flatMap λb=>(Zk K.M.length).flatMap λc=>[D.bl true]) λa _=>f2 a;have:K.M.length * (K.M.length * 4)<=4 * (4 * 4):=Wa m4 (Wa m4 (Zg _))
  lia
theorem Mu(sk:SkOk K)(q:∀S',Sm S S'->Q (.bl true) S'):Ok (evC ag (k+4) 6 [.tup (K.M.map aF)] S) Q:=by
 refine aH (d:=im) (ρ:=[some (.tup (K.M.map aF))]) rfl rfl ?_;dsimp only[im,mv];have m1:=sk.me.m1;have m4:=sk.me.m4;k_is;refine⟨rfl,mP (cQ K.M) (by rw[kC];lia) (by rw[kC];lia) ?_⟩;k_is;refine uK K.M aF (by lia) dG (λi r S' hr sm=>⟨_,rfl,?_⟩) λS' sm=>?_
 ·k_is;refine aa bJ ?_;have hm:=Zj hr;exact⟨rfl,Py (sk.me.mat.row r hm) m4 (sk.me.mat.ent r hm) λS2 s2=>⟨rfl,s2⟩⟩
 ·k_is;exact⟨rfl,Pz sk λS2 s2=>q S2 (sm.trans s2)⟩
theorem yy{z:Int × Int}(h0:0<=z.1)(h1:z.1 < z.2)(h2:z.2<=9999)(q:Q (.bl true) S):Ok (evC ag (k+4) 10 [aj z] S) Q:=by
 refine aH (d:=fm) (ρ:=[some (aj z)]) rfl rfl ?_;dsimp only[fm,jb];rw[show aj z = .tup [.int z.1,.int z.2] from rfl];have x0:ixS (.tup [D.int z.1,.int z.2]) (.int 0) S=some (.int z.1,S):=rfl;have x1:ixS (.tup [D.int z.1,.int z.2]) (.int 1) S=some (.int z.2,S):=rfl;k_is;refine⟨rfl,mP (ac aQ (ac aQ aG)) (ZP _) (ZP _) ?_⟩;k_is;refine aa x0 ⟨rfl,Gj h0 (by lia) ?_⟩;k_is;refine aa x1 ⟨rfl,Gj (by lia) h2 ?_⟩;k_is;refine aa x0 (aa x1 ?_);k_is;rw[decide_eq_true h1];exact q
theorem Gk(sk:SkOk K)(q:∀S',Sm S S'->Q (.bl true) S'):Ok (evC ag (k+5) 9 [.tup (K.H.map aj)] S) Q:=by
 refine aH (d:=gf) (ρ:=[some (.tup (K.H.map aj))]) rfl rfl ?_;dsimp only[gf,jV];have h4:=sk.me.h4;k_is;refine⟨rfl,mP (cH K.H) (by rw[Za];lia) (by rw[Za];lia) ?_⟩;k_is;refine uK K.H aj (by lia) dG (λi z S' hz sm=>⟨_,rfl,?_⟩) λS' sm=>?_
 ·k_is;have a:=pZ sk.me.ris (Zj hz);exact⟨rfl,yy (by lia) a.2 (sk.me.hb z (Zj hz)) ⟨rfl,Sm.refl _⟩⟩
 ·k_is;refine aa bJ ?_;k_is;refine⟨⟨by decide,iH (by lia) (by lia)⟩,?_⟩;refine EF (by lia) (λ_=>true) (λi S2 hi sm2=>⟨_,rfl,?_⟩) λS2 sm2=>?_
  ·k_is;have hi1:i+1 < K.H.length:=by lia
   have z1:(1:Int)+i=((i+1:Nat):Int):=by lia
   have z2:((i+1:Nat):Int) - 1=((i:Nat):Int):=by lia
   rw[z1,z2];refine aa (sg (d:=aj K.H[i+1]) (by lia) (by rw[ZC,Zr,gEG hi1];rfl)) (aa (show ixS (aj K.H[i+1]) (.int 0) S2=some (.int K.H[i+1].1,S2) from rfl) ?_);refine aa (sg (d:=aj K.H[i]) (by lia) (by rw[ZC,Zr,gEG (by lia)];rfl)) (aa (show ixS (aj K.H[i]) (.int 1) S2=some (.int K.H[i].2,S2) from rfl) ?_);k_is;rw[decide_eq_true (sy sk.me.ris i _ _ (gEG (by lia)) (gEG hi1))];exact⟨rfl,Sm.refl _⟩
  ·refine aa (gP _ (λ_=>true) _) ?_;rw[uJ];exact q S2 (sm.trans sm2)
theorem sC(sk:SkOk K)(q:∀S',Sm S S'->Q (.bl true) S'):Ok (evC ag (k+6) 5 [meE K] S) Q:=by
 refine aH (d:=f9) (ρ:=[some (meE K),none,none,none,none]) rfl rfl ?_;dsimp only[f9,jU];rw[show meE K = .tup [.int K.r,.int K.s,.tup (K.M.map aF),.tup (K.H.map aj)] from rfl];k_is;refine⟨rfl,mP (ac aQ (ac aQ (ac (aC (cQ K.M)) (ac (aC (cH K.H)) aG)))) (ZP _) (ZP _) ?_⟩;k_is;refine⟨rfl,uL sk.me.r0 sk.me.r8 ?_⟩;k_is;refine⟨rfl,uL sk.me.s0 sk.me.s60 ?_⟩;k_is;refine⟨rfl,Mu sk λS1 s1=>?_⟩;k_is;exact⟨rfl,Gk sk λS2 s2=>q S2 (s1.trans s2)⟩
theorem Cp{i:Int}(h0:0<=i)(h1:i < K.M.length)(q:Q (.bl true) S):Ok (evC ag (k+3) 11 [meE K,.int i] S) Q:=by
 refine aH (d:=jD) (ρ:=[some (meE K),some (.int i)]) rfl rfl ?_;dsimp only[jD,nY];k_is;refine aa me2 (aa bJ ?_);k_is;exact⟨rfl,uL h0 (by lia) q⟩
theorem wM(sk:SkOk K)(q:Q (.bl true) S):Ok (evC ag (k+4) 14 [meE K,ahE K.ah] S) Q:=by
 refine aH (d:=io) (ρ:=[some (meE K),some (ahE K.ah)]) rfl rfl ?_;dsimp only[io,mw];cases h:K.ah with
 |none=>k_is;exact aa (show aE .is (ahE none) .non S=some (.bl true,S) from rfl) q
 |some z=>
  obtain⟨a0,a1,b0,b1⟩:=sk.ah z h;have x0:ixS (.tup [D.int z.1,.int z.2]) (.int 0) S=some (.int z.1,S):=rfl;have x1:ixS (.tup [D.int z.1,.int z.2]) (.int 1) S=some (.int z.2,S):=rfl;rw[show ahE (some z) = .tup [.int z.1,.int z.2] from rfl];k_is;refine aa (show aE .is (.tup [D.int z.1,.int z.2]) .non S=some (.bl false,S) from rfl) ?_;k_is;refine⟨rfl,mP (ac aQ (ac aQ aG)) (ZP _) (ZP _) ?_⟩;k_is;refine aa x0 ⟨rfl,Cp a0 a1 ?_⟩;k_is;exact aa x1 ⟨rfl,Gj b0 b1 q⟩
theorem Cq(sk:SkOk K){g:List Int}(hg:g ∈ K.G)(q:∀S',Sm S S'->Q (.bl true) S'):Ok (evC ag (k+4) 16 [meE K,aF g] S) Q:=by
 obtain⟨kd,jo,fi,la,du,we,ri,rfl,a0,a1,b0,b1,b2,b3,c0,c1,d0,d1,e0,e1⟩:=sk.gb g hg;have s0:=sk.me.s0;refine aH (d:=gg) (ρ:=[some (meE K),some (aF [kd,jo,fi,la,du,we,ri]),none,none,none,none,none,none,none]) rfl rfl ?_;dsimp only[gg,jW];rw[show aF [kd,jo,fi,la,du,we,ri] = .tup [.int kd,.int jo,.int fi,.int la,.int du,.int we,.int ri] from rfl];k_is;refine⟨rfl,mP (bI [kd,jo,fi,la,du,we,ri]) (ZP _) (ZP _) ?_⟩;k_is;refine uK [jo,fi,la,du] D.int (by show 4<=1000;decide) (dG (l:=[jo,fi,la,du]) (E:=D.int)) (λi x S' hx sm=>⟨_,rfl,?_⟩) λS' sm=>?_
 ·k_is;have hm:=Zj hx;simp only[Zm,Yg,or_false] at hm;refine⟨rfl,Gj ?_ ?_ ⟨rfl,Sm.refl _⟩⟩
  ·rcases hm with rfl |rfl |rfl |rfl <;> lia
  ·rcases hm with rfl |rfl |rfl |rfl <;> lia
 ·k_is;refine aa me1 ?_;k_is;rw[decide_eq_true b1];k_is;rw[decide_eq_true b2];k_is;refine⟨rfl,Cp a0 a1 ?_⟩;k_is;refine⟨rfl,uL d0 d1 ?_⟩;k_is;refine aa me0 ⟨rfl,uL e0 e1 (q S' sm)⟩
theorem oj(sk:SkOk K)(q:∀S',Sm S S'->Q (.bl true) S'):Ok (evC ag (k+5) 15 [meE K,.tup (K.G.map aF)] S) Q:=by
 refine aH (d:=dZ) (ρ:=[some (meE K),some (.tup (K.G.map aF))]) rfl rfl ?_;dsimp only[dZ,hF];have g7:=sk.g7;k_is;refine⟨rfl,mP (cQ K.G) (by rw[kC];lia) (by rw[kC];lia) ?_⟩;k_is;refine uK K.G aF (by lia) dG (λi g S' hg sm=>⟨_,rfl,?_⟩) q;k_is;exact⟨rfl,Cq sk (Zj hg) λS2 s2=>⟨rfl,s2⟩⟩
theorem Cr(sk:SkOk K)(q:∀S',Sm S S'->Q (.bl true) S'):Ok (evC ag (k+3) 4 [.tup (K.F.map D.int),.int K.G.length] S) Q:=by
 refine aH (d:=bV) (ρ:=[some (.tup (K.F.map D.int)),some (.int K.G.length)]) rfl rfl ?_;dsimp only[bV,fg];have g7:=sk.g7;have lF:=Dw.bT K.G.length K.F sk.nd sk.bd;k_is;refine⟨rfl,mP (bI K.F) (by rw[Za];lia) (by rw[Za];lia) ?_⟩;k_is;refine uK K.F D.int (by lia) dG (λi x S' hx sm=>⟨_,rfl,?_⟩) λS' sm=>?_
 ·k_is;have:=sk.bd x (Zj hx);exact⟨rfl,uL this.1 (by lia) ⟨rfl,Sm.refl _⟩⟩
 ·k_is;refine uK K.F D.int (by lia) dG (λi x S2 hx sm2=>⟨_,rfl,?_⟩) λS2 sm2=>q S2 (sm.trans sm2);k_is;refine⟨rfl,aa (rT K.F x S2) ?_⟩;k_is;rw[show((K.F.count x:Nat):Int)=1 by rw[List.Nodup.count sk.nd,if_pos (Zj hx)];rfl];exact⟨rfl,Sm.refl _⟩
theorem Gm(sk:SkOk K)(q:∀S',Sm S S'->Q (.bl true) S'):Ok (evC ag (k+4) 17 [.tup (K.G.map aF),.tup (K.F.map D.int)] S) Q:=by
 refine aH (d:=cG) (ρ:=[some (.tup (K.G.map aF)),some (.tup (K.F.map D.int))]) rfl rfl ?_;dsimp only[cG,fV];have g7:=sk.g7;k_is;refine aa bJ ?_;refine⟨rfl,Cr sk λS1 s1=>?_⟩;k_is;refine pL K.G.length (λi=>.tup [.int i,((K.G.map aF)[i]?).getD .non]) (λi acc S'=>Sm S1 S'/\acc.length=i/\∀e ∈ acc,e = .bl true) (λi acc S' hi _=>?_) (by lia) (λi acc S' hi hq1=>?_) (λes S' hq2=>by obtain⟨s',la,ha⟩:=hq2;exact⟨by lia,aa (Co ha _) (q S' (s1.trans s'))⟩) ⟨Sm.refl _,rfl,λe he=>by cases he⟩
 ·show enm (K.G.map aF) i=_;unfold enm;rw[if_pos (by rw[Za];exact hi)];split
  ·rename_i hlt;rw[gEG (by rw[Za];exact hlt)];rfl
  ·rw[ZA (by rw[Za];lia)];rfl
 ·obtain⟨s',la,ha⟩:=hq1;obtain⟨kd,jo,fi,la',du,we,ri,eg,_⟩:=sk.gb K.G[i] (ZM hi);have rg:=sk.rg i _ (gEG hi);have ez:((K.G.map aF)[i]?).getD .non = .tup [.int kd,.int jo,.int fi,.int la',.int du,.int we,.int ri]:=by rw[Zr,gEG hi,eg];rfl
  rw[eg] at rg;have rg:ri=0\/(i:Int) ∈ K.F:=rg;rw[ez];have fin:∀S',Sm S1 S'->Sm S1 S'/\(acc++[D.bl true]).length=i+1/\∀e ∈ acc++[D.bl true],e = .bl true:=λS' s'=>⟨s',by rw[Zc,Zn];lia,λe he=>(ZJ.mp he).elim (ha e) λz=>ZE.mp z⟩;refine⟨_,gq (by simp) (by simp),?_⟩;k_is;refine aa (show ixS (.tup [D.int kd,.int jo,.int fi,.int la',.int du,.int we,.int ri]) (.int 6) S'=some (.int ri,S') from rfl) ?_;k_is;cases c:decide (ri=0) with
  |true=>k_is;exact fin S' s'
  |false=>
   k_is;refine aa (show aE .isin (.int (i:Int)) (.tup (K.F.map D.int)) S'=some (.bl (false != decide ((i:Int) ∈ K.F)),S') from wn false K.F i S') ?_;rw[decide_eq_true (rg.resolve_left (of_decide_eq_false c))];exact fin S' s'
theorem PC(sk:SkOk K)(q:∀S',Sm S S'->Q (.bl true) S'):Ok (evC ag (k+7) 13 [skE K] S) Q:=by
 refine aH (d:=dz) (ρ:=[some (skE K),none,none,none,none]) rfl rfl ?_;dsimp only[dz,jc];rw[show skE K = .tup [meE K,ahE K.ah,.tup (K.G.map aF),.tup (K.F.map D.int)] from rfl];k_is;refine⟨rfl,mP (ts:=[.tup [.int K.r,.int K.s,.tup (Dw.kU K.M),.tup (K.H.map Dw.jN)],ahT K.ah,.tup (Dw.kU K.G),.tup (K.F.map Dw.D.int)]) (ac (aC (ac aQ (ac aQ (ac (aC (cQ K.M)) (ac (aC (cH K.H)) aG))))) (ac (wJ K.ah) (ac (aC (cQ K.G)) (ac (aC (bI K.F)) aG)))) (ZP _) (ZP _) ?_⟩;k_is;refine⟨rfl,sC sk λS1 s1=>?_⟩;k_is;refine⟨rfl,wM sk ?_⟩;k_is;refine⟨rfl,oj sk λS2 s2=>?_⟩;k_is;exact⟨rfl,Gm sk λS3 s3=>q S3 ((s1.trans s2).trans s3)⟩
theorem Cs{Q:RR->Sto->Prop}(sk:SkOk K)(q:∀S',Sm S S'->Q (.val .non) S'):OkX (evX ag (k+8) 18 [skE K] S) Q:=by
 refine yx (d:=gh) (rs:=cF) (ρ:=[some (skE K)]) rfl rfl rfl ?_;unfold cF;refine Cn ?_;k_is;refine⟨rfl,PC sk λS' sm=>?_⟩;k_is;exact Ms (q S' sm)
abbrev meL(r s:Int)(M:List (List Int))(H:List (Int × Int)):D:=.tup [.int r,.int s,.tup (M.map aF),.tup (H.map aj)]
theorem Gn{r s:Int}{N Nf hi:Nat}(h:Pot p S)(gs:Gs p N hi S es G)(hf:S[Nf]?=some (.lst (F.map D.int)))(nf:Nf ≠ p)(me:MeOk r s M H)(g7:G.length<=7)
  (q:∀a S',Dr p S S'->(∀z:Int × Int,a=some z->0<=z.1/\z.1 < M.length/\0<=z.2/\z.2<=9999)->Q (skE ⟨r,s,M,H,a,G,F⟩) S') :
  rW (wSs (evC ag (k+3)) (dY ag) 55 (gN.drop 5)) [some (.ref p),some (.int 7),some (meL r s M H),some (.ref N),u4,u5,u6,u7,u8,u9,u10,u11,some (.ref Nf),u13,none] S (out Q):=by
 dsimp only[gN,Ys];have m1:=me.m1;have m4:=me.m4;k_is;refine aa (show ixS (meL r s M H) (.int 2) S=some (.tup (M.map aF),S) from rfl) ?_;refine aa (show am cb (.tup (M.map aF)) S=some (.int M.length,S) by simp only[am,ao,cb,Za]) ?_;refine⟨rfl,ay h (by lia) (by lia) λx S1 x1 x2 d1=>?_⟩;refine⟨rfl,ay d1.pot (by decide) (by decide) λy S2 y1 y2 d2=>?_⟩;refine⟨rfl,ay d2.pot (by decide) (by decide) λz S3 z1 z2 d3=>?_⟩;k_is;have d:=(d1.trans d2).trans d3
 obtain⟨a,ea,ha⟩:∃a:Option (Int × Int),atI [D.non,D.tup [D.int x,D.int y]] z=some (ahE a)/\∀q,a=some q->0<=q.1/\q.1 < M.length/\0<=q.2/\q.2<=9999:=by
  have:z=0\/z=1:=by lia
  rcases this with rfl |rfl
  ·exact⟨none,rfl,λq e=>by cases e⟩
  ·exact⟨some (x,y),rfl,λq e=>by cases e;exact⟨x1,x2,y1,by lia⟩⟩
 refine⟨_,ea,?_⟩;k_is;have gs3:=gs.keep d.kp;have hf3:=d.kp _ _ nf hf;refine⟨by rw[aR gs3.at_];rfl,?_⟩;have le:=gs3.len;refine pL es.length (λi=>(es[i]?).getD .non) (λi acc S'=>S'=S3/\acc=(G.take i).map aF) (λi acc S' hi ⟨e,_⟩=>by subst e;exact uv gs3.at_ _ Cf) (by lia) (λi acc S4 hi ⟨e4,ea'⟩=>?_) (λes' S4 ⟨e4,ea'⟩=>⟨by rw[ea',Za,ZO];lia,?_⟩) ⟨rfl,rfl⟩
 ·subst e4;have li:i < G.length:=by lia
  obtain⟨b,eb,_,_,zb⟩:=gs3.row i G[i] (gEG li);simp only[eb,Z0];refine⟨_,rfl,?_⟩;k_is;refine aa (show am eK (.ref b) S4=some (.tup (G[i].map D.int),S4) by simp only[am,ao,aR zb,Zz,eK]) ?_;refine⟨rfl,?_⟩;rw[ea',Z6 li,ZK];rfl
 ·subst e4;rw[Z7 (by lia)] at ea';subst ea';refine aa (show eK false (G.map aF) S4=some (.tup (G.map aF),S4) from rfl) ?_;refine aa (show am eK (.ref Nf) S4=some (.tup (F.map D.int),S4) by simp only[am,ao,aR hf3,Zz,eK]) ?_;k_is;exact q a S4 d ha
theorem uM{j:Nat}(h:j < l.length):(l[j]::l.eraseIdx j).Perm l:=by
 induction l generalizing j with
 |nil=>simp at h
 |cons a l ih=>
  cases j with
  |zero=>exact List.Perm.refl _
  |succ j=>
   rw[ZB] at h;have:=ih (j:=j) (by lia);rw[Xg,Z3];exact(List.Perm.swap _ _ _).trans (this.cons a)
theorem om:∀ (l:List Int) (j:Nat),(l.map D.int).eraseIdx j=(l.eraseIdx j).map D.int
 |[],_=>rfl
 |a::l,0=>rfl
 |a::l,j+1=>by rw[Zu,Z3,Z3,Zu,om l j]
theorem Ct{n:Nat}{l:List Int}{j:Nat}(hn:S[n]?=some (.lst (l.map D.int)))(hj:j < l.length):e9 (.ref n) [.int (j:Int)] S=some (.int l[j],S.set n (.lst ((l.eraseIdx j).map D.int))):=by
 have hix:ixN (l.map D.int).length (j:Int)=some j:=by
  unfold ixN;rw[if_pos (by lia),if_pos (by rw[Za];lia),ZC]
 have hg:(l.map D.int)[j]?=some (.int l[j]):=by rw[Zr,gEG hj];rfl
 have he:(l.map D.int).eraseIdx j=(l.eraseIdx j).map D.int:=om l j;simp only[e9,chg,hn,hix,hg,Zz,he]
theorem iI{n:Nat}{l:List Int}(h:l.Perm ((Zk n).map λi=>Int.ofNat i)):l.Nodup/\(∀x ∈ l,0<=x/\x < n)/\l.length=n:=by
 refine⟨h.nodup_iff.mpr (Yz.mpr (YN.imp λh z=>h (Int.ofNat.inj z))),λx hx=>?_,by rw[h.length_eq,Za,ZI]⟩;obtain⟨i,hi,rfl⟩:=ZL.mp (h.mem_iff.mp hx);have:=ZR.mp hi;show 0<=(i:Int)/\(i:Int) < n
 lia
structure Fxs(p N Nl Nf:Nat)(S:Sto)(es:List D)(G:List (List Int))(l F:List Int):Prop where
 gs:Gs p N Nl S es G
 al:S[Nl]?=some (.lst (l.map D.int))
 af:S[Nf]?=some (.lst (F.map D.int))
 nn:Nl < Nf
 pm:(F++l).Perm ((Zk G.length).map λi=>Int.ofNat i)
 rg:∀ (j:Nat) g,G[j]?=some g->g.getD 6 0=0\/(j:Int) ∈ F
theorem Fxs.keep{N Nl Nf:Nat}(h:Fxs p N Nl Nf S es G l F)(kp:Ev.Kp p S S')(hN:N < Nl):Fxs p N Nl Nf S' es G l F:=by
 have:=h.gs.pN;have:=h.nn;exact⟨h.gs.keep kp,kp _ _ (by lia) h.al,kp _ _ (by lia) h.af,h.nn,h.pm,h.rg⟩
theorem Go{r s:Int}{M G:List (List Int)}{H:List (Int × Int)}{es:List D}{N hi:Nat}{S0:Sto}{u4 u5 u6 u7 u8 u9 u10:Option D}(h:Dr p S0 S)(l0:S0.length<=N)(gs:Gs p N S.length S es G)(me:MeOk r s M H)(g7:G.length<=7)(gb:∀g ∈ G,GB M.length r s g)(g0:∀g ∈ G,g.getD 6 0=0)
  (q:∀K S',Dr p S0 S'->SkOk K->Q (skE K) S') :
  rW (wSs (evC ag (k+3)) (dY ag) 57 (gN.drop 3)) [some (.ref p),some (.int 7),some (meL r s M H),some (.ref N),u4,u5,u6,u7,u8,u9,u10,none,none,none,none] S (out Q):=by
 have tail:=λ(u11 u13:Option D) (G':List (List Int)) (es':List D) (F:List Int) (Nf hi:Nat) (S1:Sto) (d:Dr p S0 S1) (gs':Gs p N hi S1 es' G') (hf:S1[Nf]?=some (.lst (F.map D.int))) (nf:Nf ≠ p) (g7':G'.length<=7) (gb':∀g ∈ G',GB M.length r s g) (nd:F.Nodup) (bd:∀x ∈ F,0<=x/\x < G'.length) (rg:∀ (j:Nat) g,G'[j]?=some g->g.getD 6 0=0\/(j:Int) ∈ F)=>
  Gn (k:=k) (Q:=Q) (u4:=u4) (u5:=u5) (u6:=u6) (u7:=u7) (u8:=u8) (u9:=u9) (u10:=u10) (u11:=u11) (u13:=u13) d.pot gs' hf nf me g7' λa S2 d2 ha=>q _ S2 (d.trans d2) ⟨me,g7',gb',nd,bd,rg,ha⟩
 dsimp only[gN,Ys] at tail ⊢;have pN:=gs.pN;have le:=gs.len;have lN:N < S.length:=(Zb.mp gs.at_).1;k_is;refine aa (dR gs.at_) ?_;refine⟨es.length,rfl,by lia,?_⟩;k_is;rw[le]
 have al:(S++[Ob.lst ((Zk G.length).map λj=>D.int (Int.ofNat j))]++[Ob.lst []])[S.length]?=some (.lst (((Zk G.length).map λj=>Int.ofNat j).map D.int)):=by
  rw[Zt (by simp),ax,ZU];rfl
 have af:(S++[Ob.lst ((Zk G.length).map λj=>D.int (Int.ofNat j))]++[Ob.lst []])[Zf (S++[Ob.lst ((Zk G.length).map λj=>D.int (Int.ofNat j))])]?=some (.lst (([]:List Int).map D.int)):=ax;have sm1:Sm S (S++[Ob.lst ((Zk G.length).map λj=>D.int (Int.ofNat j))]++[Ob.lst []]):=(Sm.app _ _).trans (Sm.app _ _);have nn:S.length < Zf (S++[Ob.lst ((Zk G.length).map λj=>D.int (Int.ofNat j))]):=by simp
 generalize Zf (S++[Ob.lst ((Zk G.length).map λj=>D.int (Int.ofNat j))])=Nf at *;generalize S++[Ob.lst ((Zk G.length).map λj=>D.int (Int.ofNat j))]++[Ob.lst []]=S1 at *;have d1:Dr p S0 S1:=h.thenSm sm1;have fx1:Fxs p N S.length Nf S1 es G ((Zk G.length).map λj=>Int.ofNat j) []:=⟨gs.keep sm1.kp,al,af,nn,List.Perm.refl _,λj g e=>.inl (g0 g (Zj e))⟩;have sl:S0.length<=S.length:=by lia
 generalize S.length=Nl at *;refine aa (dR (sm1 _ _ gs.at_)) ?_;k_is;rw[le];refine⟨rfl,ay d1.pot (by lia) (by lia) λt S2 t1 t2 d2=>?_⟩;refine⟨rfl,ay d2.pot (by decide) (by decide) λz S3 z1 z2 d3=>?_⟩;k_is
 obtain⟨c,ec,hc⟩:∃c:Nat,atI [D.int 0,D.int t] z=some (D.int c)/\c<=G.length:=by
  have:z=0\/z=1:=by lia
  rcases this with rfl |rfl
  ·exact⟨0,rfl,YZ _⟩
  ·obtain⟨m,rfl⟩:∃m:Nat,t=(m:Int):=⟨t.toNat,by lia⟩;exact⟨m,rfl,by lia⟩
 refine⟨_,ec,?_⟩;k_is;refine⟨iH (by lia) (by lia),?_⟩;rw[ZC];refine jZ (by lia) (λi ρ S'=>Dr p S0 S'/\∃G' l F u13,ρ=[some (.ref p),some (.int 7),some (meL r s M H),some (.ref N),u4,u5,u6,u7,u8,u9,u10,some (.ref Nl),some (.ref Nf),u13,none]/\Fxs p N Nl Nf S' es G' l F/\F.length=i/\G'.length=G.length/\∀g ∈ G',GB M.length r s g) (λi ρ S4 hi ⟨d4,G',l,F,u13,er,fx,lF,lG,gb'⟩=>?_) (λρ S4 ⟨d4,G',l,F,u13,er,fx,lF,lG,gb'⟩=>?_) ⟨(d1.trans d2).trans d3,G,_,[],none,rfl,fx1.keep (d2.trans d3).kp lN,rfl,rfl,gb⟩
 ·subst er;refine⟨_,rfl,?_⟩;k_is;have pl:F.length+l.length=G'.length:=by have:=fx.pm.length_eq;rw[Zc,Za,ZI] at this;exact this
  refine⟨cI fx.af,?_⟩;refine⟨cI fx.al,?_⟩;refine aa (dR fx.al) ?_;rw[Za];refine⟨rfl,ay d4.pot (by lia) (by lia) λj0 S5 j1 j2 d5=>?_⟩;obtain⟨j,rfl⟩:∃j:Nat,j0=(j:Int):=⟨j0.toNat,by lia⟩;have hj:j < l.length:=by lia
  have fx5:=fx.keep d5.kp lN;refine aa (Ct fx5.al hj) ?_;have nnf:=fx5.nn;have lt5:Nl < S5.length:=(Zb.mp fx5.al).1;have ltf:Nf < S5.length:=(Zb.mp fx5.af).1;have af6:(S5.set Nl (.lst ((l.eraseIdx j).map D.int)))[Nf]?=some (.lst (F.map D.int)):=by rw[Zo (by lia)];exact fx5.af
  rw[jI af6 (by rw[Za];lia)];k_is;have ef:F.map D.int++[D.int l[j]]=(F++[l[j]]).map D.int:=by rw[ZK];rfl
  rw[ef]
  have pm7:((F++[l[j]])++l.eraseIdx j).Perm ((Zk G'.length).map λi=>Int.ofNat i):=by
   rw[Yo];exact((uM hj).append_left F).trans fx.pm
  have fx7:Fxs p N Nl Nf ((S5.set Nl (.lst ((l.eraseIdx j).map D.int))).set Nf (.lst ((F++[l[j]]).map D.int))) es G' (l.eraseIdx j) (F++[l[j]]):=by
   refine⟨(fx5.gs.other (Zg _) lN).other (by lia) lN,?_,dF (by rw[ZY];exact ltf),nnf,pm7,λj' g e=>?_⟩
   ·rw[Zo (by lia),dF lt5]
   ·rcases fx.rg j' g e with z |z
    ·exact .inl z
    ·exact .inr (ZV _ z)
  have d7:Dr p S0 ((S5.set Nl (.lst ((l.eraseIdx j).map D.int))).set Nf (.lst ((F++[l[j]]).map D.int))):=⟨((d4.kp.trans d5.kp).setNew (by lia)).setNew (by lia),(d5.pot.setNe (by lia)).setNe (by lia)⟩;generalize (S5.set Nl (.lst ((l.eraseIdx j).map D.int))).set Nf (.lst ((F++[l[j]]).map D.int))=S7 at *;have xb:=(iI fx.pm).2.1 l[j] (Zx _ (ZM hj));generalize l[j]=x at *;refine aa (show ixS (meL r s M H) (.int 0) S7=some (.int r,S7) from rfl) ?_;k_is;refine cm (λh1=>?_) λh1=>?_
  ·k_is;have r0:=of_decide_eq_true h1;have r8:=me.r8;refine⟨rfl,ay d7.pot (by decide) (by decide) λy S8 y1 y2 d8=>?_⟩;k_is;have fx8:=fx7.keep d8.kp lN;refine cm (λh2=>?_) λh2=>?_
   ·k_is;refine aa (show ixS (meL r s M H) (.int 0) S8=some (.int r,S8) from rfl) ?_;refine⟨rfl,ay d8.pot r0 (by lia) λw S9 w1 w2 d9=>?_⟩;k_is;have fx9:=fx8.keep d9.kp lN;refine aa (pM (ds:=F.map D.int) (e:=.int x) (by rw[fx9.af,ZK];rfl)) ?_;have hx:x.toNat < G'.length:=by lia
    obtain⟨a,ea,n1,n2,za⟩:=fx9.gs.row x.toNat G'[x.toNat] (gEG hx);refine aa (fu fx9.gs.at_ xb.1 ea) ?_;k_is;obtain⟨kd,jo,fi,la,du,we,ri,eg,hb⟩:=gb' G'[x.toNat] (ZM hx);rw[eg] at za;refine⟨_,wL (i:=6) za (by decide) (by show 6 < 7;decide),?_⟩;k_is;have es9:(([kd,jo,fi,la,du,we,ri]:List Int).map D.int).set (6:Int).toNat (.int (1+w))=([kd,jo,fi,la,du,we,1+w]:List Int).map D.int:=rfl;rw[es9];refine⟨⟨((d7.kp.trans d8.kp).trans d9.kp).setNew (by lia),d9.pot.setNe (by lia)⟩,G'.set x.toNat [kd,jo,fi,la,du,we,1+w],_,_,_,rfl,⟨fx9.gs.setRow hx ea,?_,?_,nnf,by rw[ZY];exact fx9.pm,λj' g e=>?_⟩,by rw[Zc,Zn];lia,by rw[ZY];exact lG,λg hg=>?_⟩
    ·rw[Zo (by lia)];exact fx9.al
    ·rw[Zo (by lia)];exact fx9.af
    ·by_cases hjj:j'=x.toNat
     ·subst hjj;right;have:((x.toNat:Nat):Int)=x:=by lia
      rw[this];exact Zx _ (ZE.mpr rfl)
     ·rw[Zo (Ne.symm hjj)] at e;exact fx9.rg j' g e
    ·rcases List.mem_or_eq_of_mem_set hg with hg |rfl
     ·exact gb' g hg
     ·exact⟨kd,jo,fi,la,du,we,1+w,rfl,by omega⟩
   ·k_is;exact⟨d7.trans d8,G',_,_,_,rfl,fx8,by rw[Zc,Zn];lia,lG,gb'⟩
  ·k_is;exact⟨d7,G',_,_,_,rfl,fx7,by rw[Zc,Zn];lia,lG,gb'⟩
 ·subst er;k_is;have pr:=iI fx.pm;have nnf:=fx.nn;exact tail _ _ G' es F Nf Nl S4 d4 fx.gs fx.af (by lia) (by lia) gb' (List.Nodup.sublist (List.sublist_append_left F l) pr.1) (λy hy=>pr.2.1 y (ZV _ hy)) fx.rg
theorem Gp(h:Pot p S)(q:∀K S',Dr p S S'->SkOk K->Q (skE K) S'):Ok (evC ag (k+4) 37 [.ref p,.int 7] S) Q:=by
 refine aH (d:=jH) (ρ:=[some (.ref p),some (.int 7),none,none,none,none,none,none,none,none,none,none,none,none,none]) rfl rfl ?_;have fix:=@Go p;dsimp only[jH];dsimp only[gN,Ys] at fix ⊢;k_is;refine⟨rfl,uI h λr s M H S1 d1 me=>?_⟩;rw[show(D.tup [.int r,.int s,.tup (M.map aF),.tup (H.map aj)])=meL r s M H from rfl];k_is;have lt1:=d1.pot.lt;have m1:=me.m1;have m4:=me.m4;have s0:=me.s0;have s60:=me.s60;have sl:S.length<=S1.length:=Kp.len d1.kp lt1;have d2:Dr p S (S1++[Ob.lst []]):=d1.thenSm (Sm.app _ _);have g2:Gs p S1.length (Zf (S1++[Ob.lst []])) (S1++[Ob.lst []]) [] []:=⟨lt1,ax,rfl,λi g e=>by simp at e,λi j a e=>by simp at e⟩;generalize S1++[Ob.lst []]=S2 at *;generalize S1.length=N at *;refine⟨rfl,ay d2.pot (by decide) (by decide) λi3 S3 j3 k3 d3=>?_⟩;k_is
 obtain⟨wd,at3,h3⟩:∃e:Int,atI [D.int 5,D.int 20,D.int 60] i3=some (D.int e)/\0 < e/\e<=60:=by
  have:i3=0\/i3=1\/i3=2:=by lia
  rcases this with rfl |rfl |rfl
  ·exact⟨5,rfl,by decide,by decide⟩
  ·exact⟨20,rfl,by decide,by decide⟩
  ·exact⟨60,rfl,by decide,by decide⟩
 refine⟨_,at3,?_⟩;refine⟨rfl,ay d3.pot (by decide) (by decide) λi4 S4 j4 k4 d4=>?_⟩;k_is
 obtain⟨lg,at4,h4⟩:∃e:Int,atI [D.int 4,D.int 30,D.int 90,D.int 400] i4=some (D.int e)/\0 < e/\e<=400:=by
  have:i4=0\/i4=1\/i4=2\/i4=3:=by lia
  rcases this with rfl |rfl |rfl |rfl
  ·exact⟨4,rfl,by decide,by decide⟩
  ·exact⟨30,rfl,by decide,by decide⟩
  ·exact⟨90,rfl,by decide,by decide⟩
  ·exact⟨400,rfl,by decide,by decide⟩
 refine⟨_,at4,?_⟩;k_is;refine⟨rfl,ay d4.pot (by decide) (by decide) λn0 S5 n1 n2 d5=>?_⟩;k_is;obtain⟨n,rfl⟩:∃n:Nat,n0=(n:Int):=⟨n0.toNat,by lia⟩;refine⟨iH (by lia) (by lia),?_⟩;rw[ZC];have d25:=(d3.trans d4).trans d5;refine jZ (by lia) (λi ρ S'=>Dr p S S'/\∃es G u6 u7 u8 u9 u10,ρ=[some (.ref p),some (.int 7),some (meL r s M H),some (.ref N),some (.int wd),some (.int lg),u6,u7,u8,u9,u10,none,none,none,none]/\Gs p N S'.length S' es G/\G.length=i/\∀g ∈ G,GB M.length r s g/\g.getD 6 0=0) (λi ρ S6 hi ⟨d6,es,G,u6,u7,u8,u9,u10,er,gs,lG,gb⟩=>?_) (λρ S6 ⟨d6,es,G,u6,u7,u8,u9,u10,er,gs,lG,gb⟩=>?_) ⟨d2.trans d25,[],[],none,none,none,none,none,rfl,(g2.keep d25.kp).up (Kp.len d25.kp d25.pot.lt),rfl,λg hg=>by simp at hg⟩
 ·subst er;refine⟨_,rfl,?_⟩;k_is;refine⟨rfl,ay d6.pot h3.1 (by lia) λjo S7 o1 o2 d7=>?_⟩;k_is;refine aa (show ixS (meL r s M H) (.int 1) S7=some (.int s,S7) from rfl) ?_;k_is;refine⟨rfl,ay d7.pot (by decide) (by decide) λx S8 x1 x2 d8=>?_⟩;refine⟨rfl,ay d8.pot (by decide) (by decide) λz S9 z1 z2 d9=>?_⟩;k_is
  obtain⟨e,ate,he⟩:∃e:Int,atI [D.int 0,D.int x] z=some (D.int e)/\0<=e/\e<=9:=by
   have:z=0\/z=1:=by lia
   rcases this with rfl |rfl
   ·exact⟨0,rfl,by decide,by decide⟩
   ·exact⟨x,rfl,by lia,by lia⟩
  refine⟨_,ate,?_⟩;k_is;refine⟨rfl,ay d9.pot h4.1 (by lia) λa Sa a1 a2 da=>?_⟩;k_is;refine⟨rfl,ay da.pot h4.1 (by lia) λb Sb b1 b2 db=>?_⟩;k_is;have dAll:=(((d7.trans d8).trans d9).trans da).trans db;have gsb:=gs.keep dAll.kp;refine⟨cI gsb.at_,?_⟩;refine aa (show ixS (meL r s M H) (.int 2) Sb=some (.tup (M.map aF),Sb) from rfl) ?_;refine aa (show am cb (.tup (M.map aF)) Sb=some (.int M.length,Sb) by simp only[am,ao,cb,Za]) ?_;refine⟨rfl,ay db.pot (by lia) (by lia) λkd Sc c1 c2 dc=>?_⟩;refine⟨rfl,ay dc.pot (by decide) (by decide) λw Sd w1 w2 dd=>?_⟩;k_is
  obtain⟨we,atw,hw⟩:∃e:Int,atI [D.int 0,D.int 1,D.int 7,D.int 99] w=some (D.int e)/\0<=e/\e<=99:=by
   have:w=0\/w=1\/w=2\/w=3:=by lia
   rcases this with rfl |rfl |rfl |rfl
   ·exact⟨0,rfl,by decide,by decide⟩
   ·exact⟨1,rfl,by decide,by decide⟩
   ·exact⟨7,rfl,by decide,by decide⟩
   ·exact⟨99,rfl,by decide,by decide⟩
  refine⟨_,atw,?_⟩;k_is;have dAll2:=dAll.trans (dc.trans dd);have gsd:=(gs.keep dAll2.kp).up (Kp.len dAll2.kp dAll2.pot.lt);have atN:=Sm.app Sd [Ob.lst [D.int kd,D.int jo,D.int (jo+s+e),D.int (jo+s+e+a),D.int (jo+b),D.int we,D.int 0]] _ _ gsd.at_;rw[jI atN (by rw[gsd.len];lia)];k_is;have sn:=gsd.snoc (g:=[kd,jo,jo+s+e,jo+s+e+a,jo+b,we,0]);have d6d:=d6.trans dAll2;refine⟨⟨(d6d.kp.trans (Sm.app _ _).kp).setNew (by lia),((Dr.sm d6d.pot (Sm.app _ _)).pot).setNe (by have:=gsd.pN;lia)⟩,es++[D.ref (Zf Sd)],G++[[kd,jo,jo+s+e,jo+s+e+a,jo+b,we,0]],_,_,_,_,_,rfl,?_,by rw[Zc,Zn];lia,λg hg=>?_⟩
  ·rw[ZY,Zc,Zn];exact sn
  ·rcases ZJ.mp hg with hg |hg
   ·exact gb g hg
   ·rw[ZE.mp hg];exact⟨⟨kd,jo,jo+s+e,jo+s+e+a,jo+b,we,0,rfl,by have:=me.r0;omega⟩,rfl⟩
 ·subst er;exact fix (hi:=0) d6 (by lia) gs me (by lia) (λg hg=>(gb g hg).1) (λg hg=>(gb g hg).2) q
end Lw
namespace Lw
open PySem Ev L2
variable {p:Nat} {S:Sto} {k:Nat} {Q:D->Sto->Prop}
theorem PD{α β:Type}(f:α->β):∀ (l:List α) (j:Nat),(l.map f).eraseIdx j=(l.eraseIdx j).map f
 |[],_=>rfl
 |_::_,0=>rfl
 |a::l,j+1=>by rw[Zu,Z3,Z3,Zu,PD f l j]
theorem PF{α:Type}:∀ (l:List α) (j:Nat) (hj:j < l.length),(l[j]::l.eraseIdx j).Perm l
 |a::l,0,_=>List.Perm.refl _
 |a::l,j+1,hj=>by
  rw[Z3,Xg];exact(List.Perm.swap _ _ _).trans ((PF l j (by simpa using hj)).cons a)
theorem Cu{L:Nat}(h:Pot p S)(hL:S[L]?=some (.lst (is0.map D.int)))(nL:L ≠ p)(hn:is0.length<=1000)
  (q:∀ (is:List Int) S',Dr p S S'->is.Perm is0->Q (.ref (Zf S')) (S'++[.lst (is.map D.int)])):Ok (evC ag (k+2) 43 [.ref p,.ref L] S) Q:=by
 refine aH (d:=dC) (ρ:=[some (.ref p),some (.ref L),none]) rfl rfl ?_;dsimp only[dC,fW];k_is;have it:ao (.ref L) S=some (false,is0.map D.int):=by simp only[ao,aR hL,Zz]
 rw[it];show Ok (some (is0.map D.int,S)) _;rw[av];k_is;have lt:=h.lt;have d0:Dr p S (S++[Ob.lst (is0.map D.int)]):=Dr.sm h (Sm.app _ _);have hL0:=Sm.app S [Ob.lst (is0.map D.int)] _ _ hL;have hLl:L < Zf S:=(Zb.mp hL).1;k_is;refine⟨(by rw[aR hL0];rfl),?_⟩;have lm:(is0.map D.int).length=is0.length:=Za _;refine pL is0.length (λi=>((is0.map D.int)[i]?).getD .non) (λi acc S'=>Ev.Kp p S S'/\Pot p S'/\∃left as:List Int,S'[Zf S]?=some (.lst (left.map D.int))/\acc=as.map D.int/\(as++left).Perm is0/\left.length+i=is0.length) (λi acc S' hi ⟨kp,_⟩=>by rw[<-lm];exact uv (kp _ _ nL hL) _ Cf) (by lia) (λi acc S1 hi ⟨kp,pt,left,as,hf,ea,pm,ll⟩=>⟨_,rfl,?_⟩) (λes S1 ⟨kp,pt,left,as,hf,ea,pm,ll⟩=>⟨by rw[ea,Za];have:=pm.length_eq;rw[Zc] at this;lia,?_⟩) ⟨d0.kp,d0.pot,is0,[],ax,rfl,by simp,by lia⟩
 ·k_is;refine⟨cI hf,?_⟩;k_is;have lq:am cb (D.ref (Zf S)) S1=some (.int left.length,S1):=by simp only[am,ao,aR hf,Zz,cb,Za]
  refine aa lq ?_;k_is;refine⟨rfl,ay pt (by lia) (by lia) λr S2 r1 r2 d2=>?_⟩;k_is;obtain⟨j,rfl⟩:∃n:Nat,r=(n:Int):=⟨r.toNat,by lia⟩;have hj:j < left.length:=by lia
  have hf2:=d2.kp _ _ (show Zf S ≠ p by lia) hf;have lt2:Zf S < S2.length:=(Zb.mp hf2).1
  have pa:e9 (.ref (Zf S)) [.int (j:Int)] S2=some (.int left[j],S2.set (Zf S) (.lst ((left.map D.int).eraseIdx j))):=by
   have hix:ixN (left.map D.int).length (j:Int)=some j:=by
    unfold ixN;rw[if_pos (by lia),if_pos (by rw[Za];lia),ZC]
   simp only[e9,chg,hf2,hix,Zr,gEG hj,Zz]
  refine aa pa ?_;k_is;refine⟨(kp.trans d2.kp).setNew (Zg _),d2.pot.setNe (by lia),left.eraseIdx j,as++[left[j]],by rw[dF lt2,PD],by rw[ea,ZK];rfl,?_,by rw[List.length_eraseIdx_of_lt hj];lia⟩;refine List.Perm.trans ?_ pm;rw[Yo];exact List.Perm.append_left as (PF left j hj)
 ·subst ea;k_is;have:left=[]:=Yi.mp (by lia);subst this;rw[ZS] at pm;exact q as S1 ⟨kp,pt⟩ pm
theorem oo:∀ (ps:List (Int × Int)),dX (ps.map aj)=some ps
 |[]=>rfl
 |q::ps=>by
  rw[Zu];simp only[dX,oo ps,aj,lp]
theorem uN{α:Type}(d:α)(l:List α):(Zk l.length).map (λi=>l.getD i d)=l:=by
 apply List.ext_getElem
 ·simp
 ·intro i h1 h2;simp at h1;simp[h1]
theorem yz(ps:List (Int × Int)):∃qs:List (Int × Int),dh ps .non (ps.map aj)=qs.map aj/\qs.Perm ps:=by
 by_cases h:ps.length < 2
 ·exact⟨ps,by unfold dh;rw[if_pos (by rw[Za];exact h)],List.Perm.refl _⟩
 ·have hn:0 < ps.length:=by lia
  have pm:Pm ps.length (eY (m6 ps) (Vp ps.length)):=(o4 hn).run;refine⟨(eY (m6 ps) (Vp ps.length)).toList.map λi=>ps.getD i (0,0),?_,?_⟩
  ·unfold dh;rw[if_neg (by rw[Za];exact h),Za,ZU];refine Z9 λi hi=>?_;have hi':=(Ev.fL (lt:=m6 ps) hn).1 i hi;simp[hi']
  ·have e:(eY (m6 ps) (Vp ps.length)).toList.Perm (Zk ps.length):=by
    have:=Array.perm_iff_toList_perm.mp pm
    simpa using this
   have:=e.map λi=>ps.getD i (0,0)
   rwa [uN] at this
end Lw
namespace Lw
open PySem Ev Sn L2
variable {p:Nat} {S S':Sto} {k:Nat} {Q:D->Sto->Prop} {K:Sky}
theorem Mv{n:Nat}:∀i S',Sm S S'->nxR 0 n i S'=some (((Zk n)[i]?).map λ(j:Nat)=>D.int (0+(j:Int))):=λi S' _=>by
 show some (if i < n then some (D.int (0+(i:Int))) else none)=_;split
 ·rename_i h;rw[Yp h];rfl
 ·rename_i h;rw[ZA (by rw[ZI];lia)];rfl
theorem yA(h:ps.length < 64):∃qs:List (Int × Int),ce false (ps.map aj)=some (qs.map aj)/\qs.Perm ps:=by
 obtain⟨qs,e,pm⟩:=yz ps;refine⟨qs,?_,pm⟩;show(if false=false then tS false (ps.map aj) else none)=_;rw[if_pos rfl];simp only[tS,oo];rw[if_pos (by rw[Za];exact h),e]
abbrev cR(K:Sky):List Int:=((Zk K.G.length).filter λ(j:Nat)=>!decide ((j:Int) ∈ K.F)).map λ(j:Nat)=>(j:Int)
theorem Cv(h:SkOk K)(pm:l.Perm (cR K)):Ord K (K.F++l):=by
 have mo:∀x,x ∈ cR K ↔ (0<=x/\x < K.G.length/\x ∉ K.F):=λx=>by
  unfold cR;rw[ZL];constructor
  ·rintro⟨j,hj,rfl⟩;obtain⟨h1,h2⟩:=Yb.mp hj;have:=ZR.mp h1;simp at h2;exact⟨by lia,by lia,h2⟩
  ·rintro⟨h0,h1,h2⟩;refine⟨x.toNat,Yb.mpr ⟨ZR.mpr (by lia),?_⟩,by lia⟩;have:((x.toNat:Nat):Int)=x:=by lia
   rw[this];simp[h2]
 have no:(cR K).Nodup:=by
  unfold cR;refine Yz.mpr ((YN.sublist List.filter_sublist).imp λh z=>h (by lia))
 have nl:l.Nodup:=pm.nodup_iff.mpr no
 have nd:(K.F++l).Nodup:=Y1.mpr ⟨h.nd,nl,λa ha b hb e=>by
  have:=((mo b).mp (pm.mem_iff.mp hb)).2.2;exact this (e ▸ ha)⟩
 have bd:∀g ∈ K.F++l,0<=g/\g < K.G.length:=λg hg=>by
  rcases ZJ.mp hg with hg |hg
  ·exact h.bd g hg
  ·have:=(mo g).mp (pm.mem_iff.mp hg);exact⟨this.1,this.2.1⟩
 refine⟨nd,bd,?_,l,rfl⟩;have nr:((Zk K.G.length).map λi=>Int.ofNat i).Nodup:=Yz.mpr (YN.imp λh z=>h (Int.ofNat.inj z))
 have pr:(K.F++l).Perm ((Zk K.G.length).map λi=>Int.ofNat i):=(YW nd nr).mpr λx=>by
  constructor
  ·intro hx;have:=bd x hx;exact ZL.mpr ⟨x.toNat,ZR.mpr (by lia),by show((x.toNat:Nat):Int)=x;lia⟩
  ·intro hx;obtain⟨j,hj,rfl⟩:=ZL.mp hx;have hj:=ZR.mp hj;by_cases hf:Int.ofNat j ∈ K.F
   ·exact ZV _ hf
   ·refine Zx _ (pm.mem_iff.mpr ((mo _).mpr ⟨?_,?_,hf⟩))
    ·show 0<=(j:Int);lia
    ·show(j:Int) < K.G.length;lia
 have:=pr.length_eq;rw[Za,ZI] at this;exact this
theorem yB{l:List Int}{n:Nat}(h:SkOk K)(hn:S[n]?=some (.lst (l.map D.int)))(pm:l.Perm (cR K))(q:∀os S',Sm S S'->Ord K os->Q (.tup (os.map D.int)) S') :
  rW (wSs (evC ag (k+2)) (dY ag) 58 (fX.drop 2)) [some (.ref p),some (skE K),some (.ref n)] S (out Q):=by
 dsimp only[fX,Ys];have ho:=Cv h pm;have g7:=h.g7;have ln:=ho.ln;rw[Zc] at ln;k_is;refine aa sk3 ?_;refine aa (show am eK (.ref n) S=some (.tup (l.map D.int),S) by simp only[am,ao,aR hn,Zz,eK]) ?_;k_is;refine⟨by rw[Za,Za];lia,?_⟩;rw[<-ZK];exact q _ S (Sm.refl _) ho
theorem yC(h:Pot p S)(sk:SkOk K)(q:∀os S',Dr p S S'->Ord K os->Q (.tup (os.map D.int)) S'):Ok (evC ag (k+3) 44 [.ref p,skE K] S) Q:=by
 refine aH (d:=gm) (ρ:=[some (.ref p),some (skE K),none]) rfl rfl ?_;have tail:=@yB p;dsimp only[gm];dsimp only[fX,Ys] at tail ⊢;have g7:=sk.g7;have V:=sk.vd;k_is;refine aa sk2 ?_;refine aa (show am cb (.tup (K.G.map aF)) S=some (.int K.G.length,S) by simp only[am,ao,cb,Za]) ?_;k_is;refine⟨iH (by lia) (by lia),?_⟩;rw[ZC];refine cn (Zk K.G.length) (λ(j:Nat)=>D.int (0+(j:Int))) (λ(j:Nat)=>if (!decide ((j:Int) ∈ K.F))=true then [D.int (j:Int)] else []) (by rw[ZI];lia) (λ_ _=>by split <;> simp) Mv (λi j S' hj sm=>⟨_,rfl,?_⟩) λS1 s1=>?_
 ·k_is;refine aa sk3 ?_;rw[Wi];refine aa (show aE .notin (.int (j:Int)) (.tup (K.F.map D.int)) S'=some (.bl (true != decide ((j:Int) ∈ K.F)),S') from wn true K.F j S') ?_;k_is;cases c:decide ((j:Int) ∈ K.F) with
  |true=>k_is;exact⟨rfl,Sm.refl _⟩
  |false=>k_is;exact⟨rfl,Sm.refl _⟩
 ·rw[cJ];have eo:(((Zk K.G.length).filter λ(j:Nat)=>!decide ((j:Int) ∈ K.F)).map λ(j:Nat)=>D.int (j:Int))=(cR K).map D.int:=by unfold cR;rw[ZU];rfl
  rw[eo];k_is;have lt1:=(Dr.sm h s1).pot.lt;have d2:Dr p S (S1++[Ob.lst ((cR K).map D.int)]):=Dr.sm h (s1.trans (Sm.app _ _));have lo:(cR K).length<=7:=by unfold cR;rw[Za];exact Zw (Xl _ _) (by rw[ZI];exact g7)
  refine⟨rfl,Cu d2.pot ax (by lia) (by lia) λl S3 d3 pm=>?_⟩;k_is;have lt3:=d3.pot.lt;have d4:Dr p S (S3++[Ob.lst (l.map D.int)]):=(d2.trans d3).thenSm (Sm.app _ _);have a4:(S3++[Ob.lst (l.map D.int)])[Zf S3]?=some (.lst (l.map D.int)):=ax;have n4:Zf S3 ≠ p:=by lia
  generalize S3++[Ob.lst (l.map D.int)]=S4 at *;generalize Zf S3=N at *;refine⟨rfl,ay d4.pot (by decide) (by decide) λy S5 y1 y2 d5=>?_⟩;k_is;have a5:=d5.kp _ _ n4 a4;have d45:=d4.trans d5;refine cm (λ_=>?_) λ_=>?_
  ·k_is;refine⟨by rw[aR a5];rfl,?_⟩;have ll:l.length<=7:=by rw[pm.length_eq];exact lo
   have hb:∀x ∈ l,0<=x/\x < K.G.length:=λx hx=>(Cv sk pm).bd x (Zx _ hx);refine cn l D.int (λx=>[aj (gi K.G x 2,x)]) (by lia) (λ_ _=>Zg _) (iE a5) (λi x S' hx sm=>⟨_,rfl,?_⟩) λS6 s6=>?_
   ·obtain⟨x0,x1⟩:=hb x (Zj hx);obtain⟨a,b,c,d,e,f,g,eg,e0,e1,e2,_⟩:=gl7 V x0 x1;k_is;refine aa sk2 (aa (gu x0 eg) (aa (show ixS (aF [a,b,c,d,e,f,g]) (.int 2) S'=some (.int c,S') from rfl) ?_));k_is;exact⟨by rw[e2];rfl,Sm.refl _⟩
   ·rw[b5];have ep:(l.map λx=>aj (gi K.G x 2,x))=(l.map λx=>(gi K.G x 2,x)).map aj:=by rw[ZU];rfl
    rw[ep];obtain⟨qs,es,pq⟩:=yA (ps:=l.map λx=>(gi K.G x 2,x)) (by rw[Za];lia);refine⟨_,es,?_⟩;have lq:qs.length<=7:=by rw[pq.length_eq,Za];exact ll
    refine cn qs aj (λz=>[D.int z.2]) (by lia) (λ_ _=>Zg _) dG (λi z S' hz sm=>⟨_,show aB (.tup [.name 3,.name 4]) (.tup [.int z.1,.int z.2]) _=_ from gq (by simp) (by simp),?_⟩) λS7 s7=>?_
    ·k_is;exact⟨rfl,Sm.refl _⟩
    ·rw[b5];k_is;have e7:(qs.map λz=>D.int z.2)=(qs.map (·.2)).map D.int:=by rw[ZU];rfl
     have pm7:(qs.map (·.2)).Perm (cR K):=by
      have:=pq.map (·.2);rw[ZU] at this;have e8:(l.map ((·.2) ∘ λx=>(gi K.G x 2,x)))=l:=(Z9 λx _=>rfl).trans (Xs l);rw[e8] at this;exact this.trans pm
     have d8:Dr p S (S7++[Ob.lst (qs.map λz=>D.int z.2)]):=(d45.thenSm (s6.trans s7)).thenSm (Sm.app _ _);exact tail (k:=k) sk (by rw[<-e7];exact ax) pm7 λos S8 s8 ho=>q os S8 (d8.thenSm s8) ho
  ·k_is;exact tail (k:=k) sk a5 pm λos S8 s8 ho=>q os S8 (d45.thenSm s8) ho
def IsO(K:Sky)(t:Dw.D):Prop:=∃os,Ord K os/\t = .tup (os.map Dw.D.int)
theorem mQ{n:Nat}:∀ (xs ys:List Int),eqL (eqD (n+1) S) (xs.map D.int) (ys.map D.int)=some (decide (xs=ys))
 |[],[]=>rfl
 |[],_::_=>rfl
 |_::_,[]=>rfl
 |x::xs,y::ys=>by
  have e:eqD (n+1) S (D.int x) (D.int y)=some (x == y):=rfl;rw[Zu,Zu,eqL,e,mQ xs ys];simp[XW.injEq,Bool.decide_and];rfl
theorem ky(xs ys:List Int):aE .eq (.tup (xs.map D.int)) (.tup (ys.map D.int)) S=some (.bl (decide (xs=ys)),S):=by
 have:eqD 60 S (.tup (xs.map D.int)) (.tup (ys.map D.int))=eqL (eqD 59 S) (xs.map D.int) (ys.map D.int):=rfl;simp only[aE,eqS];rw[this,mQ];rfl
theorem kD:∀ {xs ys:List Int},xs.map Dw.D.int=ys.map Dw.D.int->xs=ys
 |[],[],_=>rfl
 |[],_::_,e=>by cases e
 |_::_,[],e=>by cases e
 |x::xs,y::ys,e=>by
  obtain⟨a,b⟩:=XW.inj e;rw[Dw.D.int.inj a,kD b]
theorem Gq{a b:Nat}{xs ys:List Int}(ha:S[a]?=some (.lst (xs.map D.int)))(hb:S[b]?=some (.lst (ys.map D.int)))(n:a ≠ b):aE .eq (.ref a) (.ref b) S=some (.bl (decide (xs=ys)),S):=by
 have e:eqD 60 S (.ref a) (.ref b)=match au S a,au S b with
   |some xs,some ys=>if a=b then some true else if xs.length=ys.length then eqL (eqD 59 S) xs ys else some false
   |_,_=>none:=rfl
 simp only[aE,eqS];rw[e,aR ha,aR hb];dsimp only;rw[if_neg n,Za,Za];split
 ·rw[mQ];rfl
 ·rename_i h;rw[decide_eq_false λz=>h (by rw[z])];rfl
theorem sD(h:ts.all Dw.isW=true):∃xs:List Int,ts=xs.map Dw.D.int:=by
 induction ts with
 |nil=>exact⟨[],rfl⟩
 |cons t ts ih=>
  rw[Z4,bAE] at h;obtain⟨xs,rfl⟩:=ih h.2;cases t with
  |int i=>exact⟨i::xs,rfl⟩
  |_=>cases h.1
theorem uO{n:Nat}(h:Dw.cK n t=true):∃xs:List Int,t = .tup (xs.map Dw.D.int)/\xs.Nodup/\∀x ∈ xs,0<=x/\x < n:=by
 cases t with
 |tup ts=>
  simp only[Dw.cK,bAE] at h;obtain⟨_,h2,h3⟩:=h
  obtain⟨xs,rfl⟩:=sD (ZD.mpr λt ht=>by
   obtain⟨i,rfl,_⟩:=Dw.c9 (ZD.mp h2 t ht);rfl)
  have ei:Dw.bQ (xs.map Dw.D.int)=xs:=by unfold Dw.bQ;rw[ZU];exact(Z9 λx _=>rfl).trans (Xs xs)
  rw[ei] at h3;refine⟨xs,rfl,of_decide_eq_true h3,λx hx=>?_⟩;obtain⟨i,e,h0,h1⟩:=Dw.c9 (ZD.mp h2 _ (List.mem_map_of_mem hx));cases e
  lia
 |_=>cases h
theorem kE{xs:List Int}{ds:List D}(h:TDs p S (xs.map Dw.D.int) ds):ds=xs.map D.int:=by
 induction xs generalizing ds with
 |nil=>exact h.nil
 |cons x xs ih=>
  obtain⟨d,r,rfl,a,q⟩:=h.cons;rw[a.int,ih q];rfl
theorem uQ{os:List Int}(ho:Ord K os):Dw.cK K.G.length (.tup (os.map Dw.D.int))=true:=by
 have ei:Dw.bQ (os.map Dw.D.int)=os:=by unfold Dw.bQ;rw[ZU];exact(Z9 λx _=>rfl).trans (Xs os)
 refine Dw.qz ?_ (by rw[ei];exact ho.nd);rw[Yh,ZD];intro x hx;have:=ho.bd x hx;show(decide (0<=x) && decide (x<=(K.G.length:Int) - 1))=true;rw[bAE,decide_eq_true_eq,decide_eq_true_eq]
 lia
theorem sE(xs:List Int)(n:Nat):dU (xs.map D.int) none (some (n:Int))=(xs.take n).map D.int:=by
 by_cases h:n<=xs.length
 ·rw[kW _ _ (by rw[Za];exact h),Y9]
 ·rw[Z7 (by lia)];unfold dU;have e1:HT.sIx (xs.map D.int).length 0 none=0:=rfl
  have e2:HT.sIx (xs.map D.int).length (xs.map D.int).length (some (n:Int))=(xs.map D.int).length:=by
   unfold HT.sIx;rw[Za];dsimp only;split <;> lia
  rw[e1,e2,Xo,Wg,Xb]
theorem wN{os:List Int}(hn:os.Nodup)(hb:∀g ∈ os,0<=g/\g < K.G.length)(hl:os.length=K.G.length):os.take K.F.length=K.F ↔ IsO K (.tup (os.map Dw.D.int)):=by
 constructor
 ·intro h;exact⟨os,⟨hn,hb,hl,os.drop K.F.length,by conv=>lhs;rw[<-Xj K.F.length os,h]⟩,rfl⟩
 ·rintro⟨os',ho,e⟩
  have e:os=os':=by
   have:=Dw.D.tup.inj e;exact kD this
  subst e;obtain⟨r,er⟩:=ho.fx;rw[er,X9]
abbrev Cw(K:Sky)(t:Dw.D):Bool:=@decide (IsO K t) (Classical.propDecidable _)
theorem gw(h:¬ IsO K t):Cw K t=false:=@decide_eq_false _ (Classical.propDecidable _) h
theorem p9(h:IsO K t):Cw K t=true:=@decide_eq_true _ (Classical.propDecidable _) h
theorem wP{A:Prop}[Decidable A](h:A ↔ IsO K t):Cw K t=decide A:=by
 by_cases a:A
 ·rw[p9 (h.mp a),decide_eq_true a]
 ·rw[gw λz=>a (h.mpr z),decide_eq_false a]
theorem Cy(V:Vd K)(td:TD p S t d)(q:∀S',Sm S S'->Q (.bl (Cw K t)) S'):Ok (evC ag (k+4) 27 [skE K,d] S) Q:=by
 refine aH (d:=iq) (ρ:=[some (skE K),some d,none]) rfl rfl ?_;dsimp only[iq,mz];have g7:=V.g7;k_is;refine aa sk2 (aa bJ ?_);k_is;refine⟨rfl,oi td (by lia) λS1 s1=>?_⟩;cases hu:Dw.cK K.G.length t with
 |false=>
  k_is;have:=q S1 s1
  rwa [gw λ⟨os,ho,e⟩=>by rw[e,uQ ho] at hu;cases hu] at this
 |true=>
  obtain⟨os,rfl,nd,bd⟩:=uO hu;obtain⟨ds,rfl,hs⟩:=td.tup;have ed:=kE hs;subst ed;k_is;refine aa bJ ?_;k_is;by_cases hl:os.length=K.G.length
  ·rw[decide_eq_true (show(os.length:Int)=K.G.length by rw[hl])];k_is;refine aa sk3 (aa bJ ?_);k_is;refine aa sk3 ?_;rw[sE];refine wK (aa (ky _ K.F) ?_);k_is;have:=q S1 s1
   rwa [wP (wN nd bd hl)] at this
  ·rw[decide_eq_false (show ¬ (os.length:Int)=K.G.length by lia)];k_is;have:=q S1 s1
   rwa [gw λ⟨os',ho,e⟩=>hl (by
    have:=congrArg Zf (Dw.D.tup.inj e);rw[Za,Za] at this;rw[this];exact ho.ln)] at this
theorem yD(h:TD p S t d)(q:Q (.bl (Dw.isW t)) S):Ok (evC ag (k+1) 34 [d] S) Q:=by
 refine aH (d:=gj) (ρ:=[some d]) rfl rfl ?_;dsimp only[gj,jX];k_is;refine aa (gO h) ?_;k_is;cases t <;> first |exact q |(k_is;rw[gO h,av];exact q)
abbrev mR(n:Nat):List Int:=(Zk n).map λi=>Int.ofNat i
theorem Gr{os:List Int}{n:Nat}(nd:os.Nodup)(bd:∀g ∈ os,0<=g/\g < n)(hl:os.length=n):os.Perm (mR n):=by
 have nr:(mR n).Nodup:=Yz.mpr (YN.imp λh z=>h (Int.ofNat.inj z));refine(YW nd nr).mpr λx=>⟨λhx=>?_,λhx=>?_⟩
 ·have:=bd x hx;exact ZL.mpr ⟨x.toNat,ZR.mpr (by lia),by show(x.toNat:Int)=x;lia⟩
 ·obtain⟨i,hi,rfl⟩:=ZL.mp hx;have hi:=ZR.mp hi;by_cases h:Int.ofNat i ∈ os
  ·exact h
  ·have:=Dw.bT n (Int.ofNat i::os) (Yd.mpr ⟨h,nd⟩) λy hy=>by
    rcases Zm.mp hy with rfl |hy
    ·show 0<=(i:Int)/\(i:Int) < n
     lia
    ·exact bd y hy
   rw[ZB] at this
   lia
theorem sF(n:Nat):(mR n).Pairwise (·<=·):=Yz.mpr ((List.pairwise_lt_range (n:=n)).imp λh=>by show(_:Int)<=_;exact Int.ofNat_le.mpr (YG h))
theorem PL{os:List Int}{n:Nat}:bP os=mR n ↔ os.Nodup/\(∀g ∈ os,0<=g/\g < n)/\os.length=n:=by
 constructor
 ·intro h;have pm:os.Perm (mR n):=(bu os).symm.trans (h ▸ List.Perm.refl _);exact iI pm
 ·rintro⟨nd,bd,hl⟩;exact eZ ((bu os).trans (Gr nd bd hl)) (cX os) (sF n)
theorem yE(h:xs.length < 64):ce true (xs.map D.int)=some ((bP xs).map D.int):=by
 have e:ce true (xs.map D.int)=xI (xs.map D.int):=rfl;rw[e];unfold xI;rw[jf];dsimp only;rw[if_pos h]
theorem Gu(V:Vd K)(td:TD p S t d)(hw:Dw.wid t<=50)(q:∀S',Sm S S'->Q (.bl (Cw K t)) S'):Ok (evC ag (k+2) 47 [skE K,d] S) Q:=by
 refine aH (d:=dD) (ρ:=[some (skE K),some d]) rfl rfl ?_;dsimp only[dD,fY];have g7:=V.g7;k_is;refine aa (gO td) ?_;cases t with
 |tup ts=>
  obtain⟨ds,rfl,hs⟩:=td.tup;have hl:ts.length<=50:=by rw[Dw.wid] at hw;lia
  k_is;refine pJ hs (by lia) Dw.isW (λi t d S' _ sm td=>⟨_,rfl,?_⟩) λS1 s1=>?_
  ·k_is;exact⟨rfl,yD td ⟨rfl,Sm.refl _⟩⟩
  ·rw[gP,av];k_is;cases ha:ts.all Dw.isW with
   |false=>
    k_is;have:=q S1 s1
    rwa [gw λ⟨os,ho,e⟩=>by
     rw[Dw.D.tup.inj e,Yh] at ha;have:os.all (Dw.isW ∘ Dw.D.int)=true:=ZD.mpr λ_ _=>rfl;rw[this] at ha;cases ha] at this
   |true=>
    obtain⟨xs,rfl⟩:=sD ha;have ed:=kE hs;subst ed;rw[Za] at hl;k_is;refine⟨_,_,rfl,yE (by lia),aa sk2 (aa bJ ⟨_,rfl,by lia,?_⟩)⟩;have e:(Zk K.G.length).map (λj=>D.int (Int.ofNat j))=(mR K.G.length).map D.int:=by unfold mR;rw[ZU];rfl
    rw[e];have a1:((S1++[Ob.lst ((bP xs).map D.int)])++[Ob.lst ((mR K.G.length).map D.int)])[S1.length]?=some (.lst ((bP xs).map D.int)):=Sm.app _ _ _ _ ax;refine aa (Gq a1 ax (by rw[Zc,Zn];lia)) ?_;have sA:Sm S ((S1++[Ob.lst ((bP xs).map D.int)])++[Ob.lst ((mR K.G.length).map D.int)]):=s1.trans ((Sm.app _ _).trans (Sm.app _ _));generalize (S1++[Ob.lst ((bP xs).map D.int)])++[Ob.lst ((mR K.G.length).map D.int)]=S2 at *;k_is;by_cases hs:bP xs=mR K.G.length
    ·obtain⟨nd,bd,hl⟩:=PL.mp hs;rw[decide_eq_true hs];k_is;refine aa sk3 (aa bJ ?_);k_is;refine aa sk3 ?_;rw[sE];refine wK (aa (ky _ K.F) ?_);have:=q S2 sA
     rwa [wP (wN nd bd hl)] at this
    ·rw[decide_eq_false hs];k_is;have:=q S2 sA
     rwa [gw λ⟨os,ho,e⟩=>hs (by
      rw[kD (Dw.D.tup.inj e)];exact PL.mpr ⟨ho.nd,ho.bd,ho.ln⟩)] at this
 |_=>k_is;have:=q S (Sm.refl S);rwa [gw λ⟨os,ho,e⟩=>by cases e] at this
theorem Sm.len(h:Sm S S'):S.length<=S'.length:=by
 by_cases hz:S.length<=S'.length
 ·exact hz
 ·have hlt:S'.length < S.length:=by lia
  have:=h S'.length S[S'.length] (gEG hlt);rw[ZA (Zg _)] at this;cases this
theorem Gv(sk:SkOk K)(td:TD p S t d)(q1:¬ IsO K t->∀S',Sm S S'->Q (.str "order") S')(q2:∀os d' S',t = .tup (os.map Dw.D.int)->Ord K os->Sm S S'->Res K os S.length d' S'->Q d' S'):Ok (evC ag (k+10) 46 [skE K,d] S) Q:=by
 refine Ck (yx (d:=iA) (rs:=dr) (ρ:=[some (skE K),some d,none]) rfl rfl rfl ?_);unfold dr;refine Hz (ds:=[skE K,d]) (S1:=S) rfl rfl ?_;refine yx (d:=jF) (rs:=eR) (ρ:=[some (skE K),some d,none]) rfl rfl rfl ?_;unfold eR;have V:=sk.vd;have g7:=sk.g7;refine Hy (ds:=[skE K]) (S1:=S) rfl rfl (Cs (k:=k) sk λS1 s1=>?_);refine Cn ?_;k_is;refine⟨rfl,Cy (k:=k+4) V (td.keep s1.kp) λS2 s2=>?_⟩;by_cases hO:IsO K t
 ·rw[p9 hO];k_is;obtain⟨os,ho,rfl⟩:=hO;obtain⟨ds,rfl,hs⟩:=td.tup;have ed:=kE hs;subst ed;rw[if_neg (by decide)];refine Cm ?_;k_is;refine⟨rfl,sv (k:=k+3) V ho.bd (by have:=ho.ln;lia) λn L S3 s3 hn hN he=>?_⟩;k_is;refine Cm ?_;k_is;refine aa (dR hn) (aa bJ ?_);k_is;rw[Za];have sA:=(s1.trans s2).trans s3;have lS:=Sm.len (s1.trans s2);cases hr:rn K os K.ah [] with
  |inl j=>
   have e1:=he.stuck j hr;have e2:=fL os _ _ j hr;rw[Z2,YT] at e2;rw[decide_eq_true (show(L.length:Int) < os.length by lia)];k_is;refine aa (dR hn) ?_;k_is;refine q2 os _ S3 rfl ho sA ?_;unfold Res;rw[hr,Za,e1]
  |inr R=>
   have e1:=he.lands R hr;have e2:=pY os _ _ R hr;rw[Z2,YT] at e2;rw[e1,decide_eq_false (show ¬ (R.length:Int) < os.length by lia)];k_is;refine Cm ?_;k_is;refine q2 os _ S3 rfl ho sA ?_;unfold Res;rw[hr];exact⟨n,rfl,by rw[<-e1];exact hn,by lia⟩
 ·rw[gw hO];k_is;exact⟨by decide,_,rfl,q1 hO S2 (s1.trans s2)⟩
def NoS(S:Sto)(d:D):Prop:=∀ (k:Nat) (Q:D->Sto->Prop),(∀S',Sm S S'->Q (.bl false) S')->Ok (evC ag (k+7) 13 [d] S) Q
theorem iJ(td:TD p S t d)(h:Dw.isT t 4 4=false):NoS S d:=λk Q q=>by
 refine aH (d:=dz) (ρ:=[some d,none,none,none,none]) rfl rfl ?_;dsimp only[dz,jc];k_is;refine⟨rfl,mJ td ?_⟩;rw[h];k_is;exact q S (Sm.refl S)
theorem Gw(sk:SkOk K):NoS S (.tup [meE K,ahE K.ah,.tup (K.G.map aF),.tup ((K.F++[7]).map D.int)]):=λk Q q=>by
 refine aH (d:=dz) (ρ:=[some (.tup [meE K,ahE K.ah,.tup (K.G.map aF),.tup ((K.F++[7]).map D.int)]),none,none,none,none]) rfl rfl ?_;dsimp only[dz,jc];k_is;refine⟨rfl,mP (ts:=[.tup [.int K.r,.int K.s,.tup (Dw.kU K.M),.tup (K.H.map Dw.jN)],ahT K.ah,.tup (Dw.kU K.G),.tup ((K.F++[7]).map Dw.D.int)]) (ac (aC (ac aQ (ac aQ (ac (aC (cQ K.M)) (ac (aC (cH K.H)) aG))))) (ac (wJ K.ah) (ac (aC (cQ K.G)) (ac (aC (bI _)) aG)))) (ZP _) (ZP _) ?_⟩;k_is;refine⟨rfl,sC sk λS1 s1=>?_⟩;k_is;refine⟨rfl,wM sk ?_⟩;k_is;refine⟨rfl,oj sk λS2 s2=>?_⟩;k_is;refine⟨rfl,aH (d:=cG) (ρ:=[some (.tup (K.G.map aF)),some (.tup ((K.F++[7]).map D.int))]) rfl rfl ?_⟩;dsimp only[cG,fV];have g7:=sk.g7;k_is;refine aa bJ ?_;refine⟨rfl,oi (p:=0) (aC (bI (K.F++[7]))) (by lia) λS3 s3=>?_⟩
 rw[Dw.sY (i:=K.F.length) (d:=.int 7) (by rw[ZK,Zp (by rw[Za];exact Zg _),Za,Yj];rfl) (by
  show(decide ((0:Int)<=7) && decide ((7:Int)<=(K.G.length:Int) - 1))=false;rw[decide_eq_false (show ¬ (7:Int)<=(K.G.length:Int) - 1 by lia),YV])]
 k_is;exact q S3 ((s1.trans s2).trans s3)
theorem Gx(h:NoS S d)(q:∀S',Sm S S'->Q (.str "sky") S'):Ok (evC ag (k+10) 46 [d,e] S) Q:=by
 refine Ck (yx (d:=iA) (rs:=dr) (ρ:=[some d,some e,none]) rfl rfl rfl ?_);unfold dr;refine Hz (ds:=[d,e]) (S1:=S) rfl rfl ?_;refine yx (d:=jF) (rs:=eR) (ρ:=[some d,some e,none]) rfl rfl rfl ?_;unfold eR;refine Hy (ds:=[d]) (S1:=S) rfl rfl ?_;refine yx (d:=gh) (rs:=cF) (ρ:=[some d]) rfl rfl rfl ?_;unfold cF;refine Cn ?_;k_is;refine⟨rfl,h k _ λS1 s1=>?_⟩;k_is;exact⟨by decide,_,rfl,q S1 s1⟩
end Lw
namespace Lw
open PySem Ev L2
variable {p:Nat} {S:Sto} {k:Nat} {Q:D->Sto->Prop}
theorem Cz{c:Nat}:∀ {ts:List Dw.D},(∀t ∈ ts,Dw.sz t<=c)->Dw.szL ts<=ts.length * (c+2)
 |[],_=>by simp[Dw.szL]
 |t::ts,h=>by
  have h1:=h t Zh;have h2:=Cz (ts:=ts) λt' ht'=>h t' (Ze _ ht');rw[Dw.szL,ZB,XM]
  lia
structure Shw(t:Dw.D):Prop where
 sh:Dw.Shn t
 de:Dw.dep t<=50
 wi:Dw.wid t<=1000
theorem Mw{n m B s:Nat}(f:Dw.Fit n m t)(b:Dw.Bd B s t)(hn:n<=50)(hm:m<=1000)(hB:B<=10 ^ 50)(hs:s<=16000000):Shw t:=
 ⟨b.shn hB (by rw[Uk];lia) (Zw f.de (by lia)),Zw f.de hn,Zw f.wi hm⟩
mutual
theorem wQ:∀ (n:Nat) {t:Dw.D} {d:D},Dw.dep t < n->TD p S t d->cL n S d=some t
 |n+1,.non,_,_,h=>by rw[h.non];simp only[cL]
 |n+1,.bl _,_,_,h=>by rw[h.bl];simp only[cL]
 |n+1,.int _,_,_,h=>by rw[h.int];simp only[cL]
 |n+1,.str _,_,_,h=>by rw[h.str];simp only[cL]
 |n+1,.tup ts,_,hd,h=>by
  obtain⟨ds,rfl,q⟩:=h.tup;rw[Dw.dep] at hd;simp only[cL,jh n (by lia) q,Zz]
 |n+1,.lst ts,_,hd,h=>by
  rw[TD] at h;obtain⟨m,ds,rfl,_,e,q⟩:=h;rw[Dw.dep] at hd;simp only[cL,e,jh n (by lia) q,Zz]
 |n+1,.dic ks ts,_,hd,h=>by
  rw[TD] at h;obtain⟨m,ds,rfl,_,e,q⟩:=h;rw[Dw.dep] at hd;simp only[cL,e,jh n (by lia) q,Zz]
theorem jh:∀ (n:Nat) {ts:List Dw.D} {ds:List D},Dw.iP ts < n->TDs p S ts ds->b7 (cL n S) ds=some ts
 |n,[],_,_,h=>by rw[h.nil];simp only[b7]
 |n,t::ts,_,hd,h=>by
  obtain⟨d,r,rfl,a,q⟩:=h.cons;rw[Dw.iP] at hd;simp only[b7,wQ n (by lia) a,jh n (by lia) q]
end
theorem gR(h:TD p S t d)(s:Shw t):jQ d S=some (.str (Dw.aW t).shown,S):=by
 unfold jQ;rw[wQ 100 (by have:=s.de;lia) h];dsimp only;rw[if_pos s.sh]
theorem kF(x y:Str)(S:Sto):aE .ne (.str x) (.str y) S=some (.bl (!(x == y)),S):=vG rfl
end Lw
namespace Lw
open PySem Ev Sn L2
variable {p:Nat} {S S':Sto} {k:Nat} {Q:D->Sto->Prop} {K:Sky}
abbrev cC:Nat->Nat
 |0=>100
 |n+1=>30 * (cC n+2)+100
theorem HA:∀ {n m:Nat},n<=m->cC n<=cC m
 |n,0,h=>by rw[Nat.le_zero.mp h];exact Zg _
 |n,m+1,h=>by
  rcases Nat.lt_or_ge n (m+1) with z |z
  ·have:=HA (Nat.le_of_lt_succ z);rw[cC];lia
  ·rw[Nat.le_antisymm h z];exact Zg _
structure PB(n:Nat)(t:Dw.D):Prop where
 ft:Dw.Fit n 30 t
 bd:Dw.Bd (10 ^ 31) (cC n) t
theorem PB.up{n m:Nat}(h:PB n t)(hm:n<=m):PB m t:=⟨h.ft.up hm (Zg _),h.bd.bn,Zw h.bd.sz (HA hm)⟩
theorem PB.tup{n:Nat}(hl:ts.length<=30)(h:∀t ∈ ts,PB n t):PB (n+1) (.tup ts):=by
 refine⟨Dw.Fit.tup hl λt ht=>(h t ht).ft,Dw.II (λt ht=>(h t ht).bd.bn) ?_⟩;have:=Cz (c:=cC n) λt ht=>(h t ht).bd.sz;have h2:ts.length * (cC n+2)<=30 * (cC n+2):=Nat.mul_le_mul_right _ hl;rw[cC]
 lia
theorem PB.lst{n:Nat}(h:PB n (.tup ts)):PB n (.lst ts):=⟨h.ft.lst,Dw.IJ h.bd⟩
theorem kG(hd:Dw.dep t=0)(hw:Dw.wid t=0)(hb:Dw.bnd (10 ^ 31) t)(hs:Dw.sz t<=100):PB 0 t:=⟨⟨by lia,by lia⟩,hb,hs⟩
theorem cp{i:Int}(h:i.natAbs < 10 ^ 31):PB 0 (.int i):=kG (by simp only[Dw.dep]) (by simp only[Dw.wid]) (by simp only[Dw.bnd];exact h) (by simp only[Dw.sz];decide)
theorem HB:PB 0 (.bl b):=kG (by simp only[Dw.dep]) (by simp only[Dw.wid]) (by simp only[Dw.bnd]) (by simp only[Dw.sz];decide)
theorem Mx:PB 0 .non:=kG (by simp only[Dw.dep]) (by simp only[Dw.wid]) (by simp only[Dw.bnd]) (by simp only[Dw.sz];decide)
theorem mS(h:(reprText x).length<=100):PB 0 (.str x):=kG (by simp only[Dw.dep]) (by simp only[Dw.wid]) (by simp only[Dw.bnd]) (by simp only[Dw.sz];exact h)
theorem Gy:PB 1 (.dic [] []):=⟨⟨by simp[Dw.dep,Dw.iP],by simp[Dw.wid,Dw.oT]⟩,by simp[Dw.bnd,Dw.fJ],by simp only[Dw.sz,Dw.szL,Z2];decide⟩
theorem Gz{n:Nat}(h:PB n t):PB (n+1) (.dic [o9 0] [t]):=by
 have a:=h.ft.de;have b:=h.ft.wi;have c:=h.bd.sz;refine⟨⟨by simp only[Dw.dep,Dw.iP];lia,by simp only[Dw.wid,Dw.oT,Zn];lia⟩,?_,?_⟩
 ·simp only[Dw.bnd,Dw.fJ];exact⟨λk hk=>⟨0,ZE.mp hk,by decide⟩,rfl,h.bd.bn,trivial⟩
 ·simp only[Dw.sz,Dw.szL,Zn];rw[cC];lia
theorem PB.shw(h:PB 3 t):Shw t:=Mw h.ft h.bd (by decide) (by decide) (by decide) (by decide)
def Gd(p:Nat)(S:Sto)(d:D):Prop:=∃t,TD p S t d/\PB 3 t
structure IL(xs:List Int):Prop where
 ln:xs.length<=7
 bd:∀x ∈ xs,0<=x/\x < 7
theorem mU(h:IL xs)(lo hi:Option Int):∃ys,dU (xs.map D.int) lo hi=ys.map D.int/\IL ys:=by
 unfold dU;rw[Za,<-List.map_drop,<-Y9];refine⟨_,rfl,?_,λx hx=>h.bd x (List.mem_of_mem_drop (Xr hx))⟩;have:=h.ln;rw[ZO,YD]
 lia
theorem CA{xs:List Int}:TDs p S (xs.map Dw.D.int) (xs.map D.int):=bI xs
theorem PH(h:IL xs):∀t ∈ xs.map Dw.D.int,PB 2 t:=λt ht=>by
 obtain⟨x,hx,rfl⟩:=ZL.mp ht;have:=h.bd x hx;exact(cp (by lia)).up (by decide)
theorem CB(h:TDs p S ts ds)(hl:ts.length<=30)(hb:∀t ∈ ts,PB 2 t):Gd p S (.tup ds):=⟨.tup ts,aC h,PB.tup hl hb⟩
structure Tp(p:Nat)(S:Sto)(n:Nat)(ds:List D):Prop where
 ex:∃ts,TDs p S ts ds/\ts.length<=n/\∀t ∈ ts,PB 2 t
theorem mV(h:IL xs):Tp p S 7 (xs.map D.int):=⟨_,CA,by rw[Za];exact h.ln,PH h⟩
theorem Tp.app{n m:Nat}(a:Tp p S n ds)(b:Tp p S m es):Tp p S (n+m) (ds++es):=by
 obtain⟨ts,t1,l1,b1⟩:=a.ex;obtain⟨us,t2,l2,b2⟩:=b.ex;exact⟨ts++us,t1.app t2,by rw[Zc];lia,λt ht=>(ZJ.mp ht).elim (b1 t) (b2 t)⟩
theorem Tp.gd{n:Nat}(a:Tp p S n ds)(hn:n<=30):Gd p S (.tup ds):=by
 obtain⟨ts,t1,l1,b1⟩:=a.ex;exact CB t1 (by lia) b1
theorem Tp.len{n:Nat}(a:Tp p S n ds):ds.length<=n:=by
 obtain⟨ts,t1,l1,b1⟩:=a.ex;rw[t1.len];exact l1
theorem CC{i:Int}(h0:0<=i)(h1:i < L.length):∃d,atI L i=some d/\d ∈ L:=by
 have hi:i.toNat < L.length:=by lia
 refine⟨L[i.toNat],?_,ZM hi⟩;unfold atI ixN;rw[if_pos h0,if_pos h1];exact gEG hi
abbrev trD(x:Int):D:=if x < 2 then .bl (decide (x=1)) else .int x
abbrev trT(x:Int):Dw.D:=if x < 2 then .bl (decide (x=1)) else .int x
theorem PJ{x:Int}:TD p S (trT x) (trD x):=by
 unfold trT trD;split
 ·exact Bs
 ·exact aQ
theorem CD:∀ {xs:List Int},TDs p S (xs.map trT) (xs.map trD)
 |[]=>aG
 |_::_=>ac PJ CD
theorem GA{os:List Int}(h:Pot p S)(il:IL os)(q:∀d S',Dr p S S'->Gd p S' d->Q d S'):Ok (evC ag (k+2) 48 [.ref p,.tup (os.map D.int)] S) Q:=by
 refine aH (d:=iB) (ρ:=[some (.ref p),some (.tup (os.map D.int)),none,none,none,none,none,none,none,none]) rfl rfl ?_;dsimp only[iB,mF];have l7:=il.ln;k_is;refine aa bJ ?_;k_is;refine⟨rfl,ay h (by lia) (by lia) λa S1 a0 a1 d1=>?_⟩;k_is;refine⟨by decide,rfl,ay d1.pot (by decide) (by decide) λr S2 r0 r1 d2=>?_⟩;have r1:r < 1000000000000000000000000000000:=r1;k_is;have d3:Dr p S ((S2++[Ob.lst [D.int 0]])++[Ob.dic [] []]):=((d1.trans d2).thenSm (Sm.app _ _)).thenSm (Sm.app _ _);have p2:=(d1.trans d2).pot.lt;have a1:((S2++[Ob.lst [D.int 0]])++[Ob.dic [] []])[S2.length]?=some (.lst [D.int 0]):=Sm.app _ _ _ _ ax;have a2:((S2++[Ob.lst [D.int 0]])++[Ob.dic [] []])[(S2++[Ob.lst [D.int 0]]).length]?=some (.dic [] []):=ax;have n1:S2.length ≠ p:=by lia
 have n2:(S2++[Ob.lst [D.int 0]]).length ≠ p:=by rw[Zc];lia
 generalize (S2++[Ob.lst [D.int 0]])++[Ob.dic [] []]=S3 at *;generalize (S2++[Ob.lst [D.int 0]]).length=b at *;generalize S2.length=c at *;refine⟨rfl,ay d3.pot (by decide) (by decide) λi S4 i0 i1 d4=>?_⟩;k_is;obtain⟨o,eo,ho⟩:=CC (L:=[D.int 0,D.int 1,D.int 6,D.int 7,D.int (-1),D.int (7+r),D.int (0 - (7+r)),D.bl true,D.bl false,D.non,D.str (Str.ofString "0"),D.tup [],D.ref c,D.ref b]) i0 i1
 have go:∃t,TD p S3 t o/\PB 1 t:=by
  have u:∀ {t:Dw.D},PB 0 t->PB 1 t:=λh=>h.up (by decide);revert o
  have z:∀o ∈ [D.int 0,D.int 1,D.int 6,D.int 7,D.int (-1),D.int (7+r),D.int (0 - (7+r)),D.bl true,D.bl false,D.non,D.str (Str.ofString "0"),D.tup [],D.ref c,D.ref b],∃t,TD p S3 t o/\PB 1 t:=by
   simp only[YC,Yg,false_imp_iff,implies_true,and_true];refine⟨⟨_,aQ,u (cp (by lia))⟩,⟨_,aQ,u (cp (by lia))⟩,⟨_,aQ,u (cp (by lia))⟩,⟨_,aQ,u (cp (by lia))⟩,⟨_,aQ,u (cp (by lia))⟩,⟨_,aQ,u (cp (by lia))⟩,⟨_,aQ,u (cp (by lia))⟩,⟨_,Bs,u HB⟩,⟨_,Bs,u HB⟩,⟨_,pH,u Mx⟩,⟨_,mH,u (mS (by decide +kernel))⟩,⟨_,aC aG,PB.tup (n:=0) (by decide) λ_ h=>by cases h⟩,⟨_,pP n1 a1 (ac aQ aG),PB.lst (PB.tup (n:=0) (by decide) λt h=>?_)⟩,⟨_,uw n2 a2 aG,Gy⟩⟩;rw[ZE.mp h];exact cp (by decide)
  exactλo _ ho=>z o ho
 obtain⟨to,tdo,pbo⟩:=go;refine⟨o,eo,?_⟩;k_is;obtain⟨l1,e1,il1⟩:=mU il none (some a);obtain⟨l2,e2,il2⟩:=mU il (some a) (some (a+1));obtain⟨l3,e3,il3⟩:=mU il (some (a+1)) none;rw[e1,e2,e3];have t1:∀S,Tp p S 7 (l1.map D.int):=λ_=>mV il1;have t2:∀S,Tp p S 7 (l2.map D.int):=λ_=>mV il2;have k1:=(t1 S).len;have k2:=(t2 S).len;have k3:=(mV (p:=p) (S:=S) il3).len
 iterate 9 refine⟨by (try simp only[Zc,Zn]);lia,?_⟩
 have to1:∀S',Kp p S4 S'->Tp p S' 1 [o]:=λS' kp=>⟨[to],ac (tdo.keep (d4.kp.trans kp)) aG,Zg _,λt ht=>by rw[ZE.mp ht];exact pbo.up (by decide)⟩;have t3:∀S,Tp p S 7 (l3.map D.int):=λ_=>mV il3;have go:∀S',Kp p S4 S'->Gd p S' o:=λS' kp=>⟨to,tdo.keep (d4.kp.trans kp),pbo.up (by decide)⟩
 obtain⟨x4,e4,n4,g4⟩:∃x4,[D.tup (l1.map D.int++[o]++l2.map D.int++l3.map D.int),D.tup (l1.map D.int++[o]++l3.map D.int),D.tup (l1.map D.int++l3.map D.int),D.tup (l1.map D.int++l2.map D.int++l2.map D.int++l3.map D.int)]=x4/\x4.length=4/\∀S',Kp p S4 S'->∀d ∈ x4,Gd p S' d:=by
  refine⟨_,rfl,rfl,λS' kp=>?_⟩;simp only[YC,Yg,false_imp_iff,implies_true,and_true];exact⟨((((t1 S').app (to1 S' kp)).app (t2 S')).app (t3 S')).gd (by decide),(((t1 S').app (to1 S' kp)).app (t3 S')).gd (by decide),((t1 S').app (t3 S')).gd (by decide),((((t1 S').app (t2 S')).app (t2 S')).app (t3 S')).gd (by decide)⟩
 rw[e4];have d5:Dr p S (S4++[Ob.lst x4]):=(d3.trans d4).thenSm (Sm.app _ _);have p4:=d4.pot.lt;have a5:(S4++[Ob.lst x4])[S4.length]?=some (.lst x4):=ax;have s45:Sm S4 (S4++[Ob.lst x4]):=Sm.app _ _;generalize S4++[Ob.lst x4]=S5 at *;k_is;refine aa (show zW (.tup (os.map D.int)) S5=some (.tup (os.map D.int).reverse,S5) from rfl) ⟨by lia,by rw[Zc];lia,aa (show XC (λr=>(r.snd,S5)) (ao (D.tup (List.map D.int os)) S5)=some (os.map D.int,S5) from rfl) ⟨_,rfl,?_⟩⟩;refine aa (show xM (.int a) _=some (.str (Str.ofString (toString a)),_) from if_pos (by lia)) ?_;have l5:=Sm.len s45
 obtain⟨x8,e8,n8,g8⟩:∃x8,[D.tup (os.map D.int).reverse,D.tup (l2.map D.int++l3.map D.int++l1.map D.int),D.ref S5.length,D.ref (S5++[Ob.lst (os.map D.int)]).length,D.str (Str.ofString (toString a)),D.non,D.tup [D.tup (os.map D.int)],o]=x8/\x8.length=8/\∀S',Kp p (S5++[Ob.lst (os.map D.int)]++[Ob.dic [o9 0] [D.tup (os.map D.int)]]) S'->∀d ∈ x8,Gd p S' d:=by
  refine⟨_,rfl,rfl,λS' kp=>?_⟩;have k4:Kp p S4 S':=(s45.trans ((Sm.app _ _).trans (Sm.app _ _))).kp.trans kp;have b1:=kp S5.length _ (by lia) (Sm.app _ _ _ _ ax);have b2:=kp (S5++[Ob.lst (os.map D.int)]).length _ (by rw[Zc];lia) ax;have tO:TD p S' (.tup (os.map Dw.D.int)) (.tup (os.map D.int)):=aC CA
  have pO:PB 1 (.tup (os.map Dw.D.int)):=PB.tup (by rw[Za];lia) λt ht=>by
   obtain⟨x,hx,rfl⟩:=ZL.mp ht;have:=il.bd x hx;exact cp (by lia)
  have ilr:IL os.reverse:=⟨by rw[YS];exact l7,λx hx=>il.bd x (List.mem_reverse.mp hx)⟩;simp only[YC,Yg,false_imp_iff,implies_true,and_true];refine⟨?_,(((t2 S').app (t3 S')).app (t1 S')).gd (by decide),⟨_,pP (by lia) b1 CA,pO.lst.up (by decide)⟩,⟨_,uw (by rw[Zc];lia) b2 (ac tO aG),(Gz pO).up (by decide)⟩,⟨_,mH,(mS ?_).up (by decide)⟩,⟨_,pH,Mx.up (by decide)⟩,⟨_,aC (ac tO aG),(PB.tup (n:=1) (by show 1<=30;decide) λt ht=>?_).up (by decide)⟩,go S' k4⟩
  ·rw[<-List.map_reverse];exact(mV ilr).gd (by decide)
  ·have:a=0\/a=1\/a=2\/a=3\/a=4\/a=5\/a=6\/a=7:=by lia
   rcases this with rfl |rfl |rfl |rfl |rfl |rfl |rfl |rfl <;> decide +kernel
  ·rw[ZE.mp ht];exact pO
 rw[e8];have s56:Sm S5 (S5++[Ob.lst (os.map D.int)]++[Ob.dic [o9 0] [D.tup (os.map D.int)]]):=(Sm.app _ _).trans (Sm.app _ _);generalize S5++[Ob.lst (os.map D.int)]++[Ob.dic [o9 0] [D.tup (os.map D.int)]]=S6 at *;refine aa (kB (Sm.app _ _ _ _ (s56 _ _ a5)) ax (by lia)) ?_;k_is;have d8:Dr p S (S6++[Ob.lst x8]++[Ob.lst (x4++x8)]):=(d5.thenSm s56).thenSm ((Sm.app _ _).trans (Sm.app _ _));have k68:Sm S6 (S6++[Ob.lst x8]++[Ob.lst (x4++x8)]):=(Sm.app _ _).trans (Sm.app _ _);have a8:(S6++[Ob.lst x8]++[Ob.lst (x4++x8)])[(S6++[Ob.lst x8]).length]?=some (.lst (x4++x8)):=ax;generalize S6++[Ob.lst x8]++[Ob.lst (x4++x8)]=S8 at *;generalize (S6++[Ob.lst x8]).length=n8' at *;refine cn os D.int (λx=>[trD x]) (by lia) (λ_ _=>Zg _) dG (λi x S' hx sm=>⟨_,rfl,?_⟩) λS9 s9=>?_
 ·k_is;unfold trD;by_cases hx:x < 2
  ·rw[decide_eq_true hx,if_pos hx];k_is;exact⟨rfl,Sm.refl _⟩
  ·rw[decide_eq_false hx,if_neg hx];k_is;exact⟨rfl,Sm.refl _⟩
 rw[b5];refine aa (show eK false (os.map trD) S9=some (.tup (os.map trD),S9) from rfl) ?_;k_is;obtain⟨l4,e4',il4⟩:=mU il3 none (some 1);obtain⟨l5',e5',il5⟩:=mU il3 (some 1) none;rw[e4',e5'];have t4:∀S,Tp p S 7 (l4.map D.int):=λ_=>mV il4;have t5:∀S,Tp p S 7 (l5'.map D.int):=λ_=>mV il5;have k4:=(t4 S).len;have k5:=(t5 S).len;refine⟨by lia,by rw[Zc];lia,by rw[Zc,Zc];lia,?_⟩
 obtain⟨x2,ex2,nx2,gx2⟩:∃x2,[D.tup (l1.map D.int++l4.map D.int++l2.map D.int++l5'.map D.int),D.tup (os.map trD)]=x2/\x2.length=2/\∀S',∀d ∈ x2,Gd p S' d:=by
  refine⟨_,rfl,rfl,λS'=>?_⟩;simp only[YC,Yg,false_imp_iff,implies_true,and_true];refine⟨((((t1 S').app (t4 S')).app (t2 S')).app (t5 S')).gd (by decide),CB CD (by rw[Za];lia) λt ht=>?_⟩;obtain⟨x,hx,rfl⟩:=ZL.mp ht;have:=il.bd x hx;unfold trT;split
  ·exact HB.up (by decide)
  ·exact(cp (by lia)).up (by decide)
 rw[ex2];refine aa (kB (Sm.app _ _ _ _ (s9 _ _ a8)) ax (by rw[Zc];lia)) ?_;have dA:Dr p S (S9++[Ob.lst x2]++[Ob.lst (x4++x8++x2)]):=d8.thenSm (s9.trans ((Sm.app _ _).trans (Sm.app _ _)));have kA:Sm S6 (S9++[Ob.lst x2]++[Ob.lst (x4++x8++x2)]):=k68.trans (s9.trans ((Sm.app _ _).trans (Sm.app _ _)));have aA:(S9++[Ob.lst x2]++[Ob.lst (x4++x8++x2)])[(S9++[Ob.lst x2]).length]?=some (.lst (x4++x8++x2)):=ax
 have nA:(S9++[Ob.lst x2]).length ≠ p:=by
  have:=Sm.len (s45.trans (s56.trans (k68.trans s9)));rw[Zc];lia
 generalize S9++[Ob.lst x2]++[Ob.lst (x4++x8++x2)]=SA at *;generalize (S9++[Ob.lst x2]).length=nn at *;have ln:(x4++x8++x2).length=14:=by rw[Zc,Zc,n4,n8,nx2]
 k_is;refine aa (dR aA) ?_;rw[ln];refine⟨rfl,ay dA.pot (by decide) (by decide) λj SB j0 j1 dB=>?_⟩;k_is;have hj:j.toNat < (x4++x8++x2).length:=by lia
 refine aa (fu (dB.kp _ _ nA aA) j0 (gEG hj)) (q _ SB (dA.trans dB) ?_);rcases ZJ.mp (ZM hj) with hm |hm
 ·rcases ZJ.mp hm with hm |hm
  ·exact g4 SB ((s45.trans (s56.trans kA)).kp.trans dB.kp) _ hm
  ·exact g8 SB (kA.kp.trans dB.kp) _ hm
 ·exact gx2 SB _ hm
theorem CF:∀ (H:List (Int × Int)) (m:Int),m<=opm H m
 |[],m=>ZP _
 |q::H,m=>by
  rw[opm];refine Wh ?_ (CF H _);split
  ·rename_i h;lia
  ·exact ZP _
def LB(L:List (Int × Int)):Prop:=∀z ∈ L,0<=z.1/\z.1 < 7/\0<=z.2/\z.2<=9999
theorem HC(h:SkOk K):∀ (os:List Int) (a:Option (Int × Int)) (L R:List (Int × Int)),(∀g ∈ os,0<=g/\g < K.G.length)->LB L->rn K os a L = .inr R->LB R
 |[],_,L,R,_,hL,e=>by cases e;exact hL
 |g::os,a,L,R,ho,hL,e=>by
  rw[rn] at e;split at e
  ·cases e
  ·rename_i m hs;split at e
   ·cases e
   ·refine HC h os _ _ R (λg' hg'=>ho g' (Ze _ hg')) (λz hz=>?_) e;rcases ZJ.mp hz with hz |hz
    ·exact hL z hz
    ·rw[ZE.mp hz];have hg:=ho g Zh;have g7:=h.g7;have hi:g.toNat < K.G.length:=by lia
     obtain⟨kd,jo,fi,la,du,we,ri,eg,hb⟩:=h.gb K.G[g.toNat] (ZM hi);have e2:gi K.G g 2=fi:=by unfold gi;rw[gEG hi,eg];rfl
     have e3:gi K.G g 3=la:=by unfold gi;rw[gEG hi,eg];rfl
     unfold Sn.step at hs;split at hs
     ·cases hs
     ·rename_i hc;cases hs;rw[YQ,decide_eq_true_eq,e3] at hc;have ge:=CF K.H (bz K a g)
      have f0:gi K.G g 2<=bz K a g:=by
       unfold bz;split
       ·exact ZP _
       ·split
        ·lia
        ·exact ZP _
      have s0:=h.me.s0;show 0<=g/\g < 7/\0<=opm K.H (bz K a g)/\opm K.H (bz K a g)<=9999;rw[e2] at f0;have hc':¬ la < opm K.H (bz K a g):=λz=>hc (.inl z)
      lia
abbrev qa(K:Sky)(os:List Int):Dw.D:=match rn K os K.ah [] with
 |.inl j=>.tup [.str "stuck", .int j]
 |.inr R=>.tup [.str "lands", .lst (R.map Dw.jN)]
theorem qb(h:SkOk K){os:List Int}(ho:Ord K os):Shw (qa K os):=by
 have g7:=h.g7;have ln:=ho.ln;unfold qa;cases hr:rn K os K.ah [] with
 |inl j=>
  have lj:=fL os _ _ j hr;rw[Z2,YT] at lj;refine((PB.tup (n:=0) (by show 2<=30;decide) λt ht=>?_).up (by decide)).shw;simp only[Zm,Yg,or_false] at ht;rcases ht with rfl |rfl
  ·exact mS (by decide +kernel)
  ·exact cp (by lia)
 |inr R=>
  have lr:=pY os _ _ R hr;rw[Z2,YT] at lr;have bd:=HC h os _ [] R ho.bd (λz hz=>by simp at hz) hr;refine(PB.tup (n:=2) (by show 2<=30;decide) λt ht=>?_).shw;simp only[Zm,Yg,or_false] at ht;rcases ht with rfl |rfl
  ·exact(mS (by decide +kernel)).up (by decide)
  ·refine PB.lst (PB.tup (n:=1) (by rw[Za];lia) λt ht=>?_);obtain⟨z,hz,rfl⟩:=ZL.mp ht;have:=bd z hz;refine PB.tup (n:=0) (by show 2<=30;decide) λt ht=>?_;simp only[Zm,Yg,or_false] at ht;rcases ht with rfl |rfl <;> exact cp (by lia)
theorem uR{os:List Int}{b:Nat}{d:D}(h:Res K os b d S)(hb:p < b):TD p S (qa K os) d:=by
 unfold Res at h;unfold qa;cases hr:rn K os K.ah [] with
 |inl j=>rw[hr] at h;rw[h];exact aC (ac mH (ac aQ aG))
 |inr R=>
  rw[hr] at h;obtain⟨n,rfl,hn,hn'⟩:=h;exact aC (ac mH (ac (pP (by lia) hn (cH R)) aG))
theorem My{t:Dw.D}{d:D}(td:TD p S t d){os:List Int}(e:t = .tup (os.map Dw.D.int)):d = .tup (os.map D.int):=by
 subst e;obtain⟨ds,rfl,hs⟩:=td.tup;rw[kE hs]
theorem GC(sk:SkOk K)(hp:Pot p S){a b:Nat}(ha:S[a]?=some (.lst [meE K,ahE K.ah,.tup (K.G.map aF),.tup (K.F.map D.int)]))(na:a ≠ p)(hb:S[b]?=some (.dic [] []))(nb:b ≠ p)
  (e:ds=[.non,.tup [meE K,ahE K.ah,.tup (K.G.map aF)],.ref a,.tup [skE K],.tup [meE K,ahE K.ah,.tup (K.G.map aF),.tup (K.F.map D.int),.tup []],.int 7,.ref b,.tup [meE K,ahE K.ah,.tup (K.G.map aF),.tup ((K.F++[7]).map D.int)]])
  {i:Int} (h0:0<=i) (h1:i < 8):∃d,ds[i.toNat]?=some d/\NoS S d:=by
 have t3:TDs p S [.tup [.int K.r,.int K.s,.tup (Dw.kU K.M),.tup (K.H.map Dw.jN)],ahT K.ah,.tup (Dw.kU K.G)] [meE K,ahE K.ah,.tup (K.G.map aF)]:=ac (aC (ac aQ (ac aQ (ac (aC (cQ K.M)) (ac (aC (cH K.H)) aG))))) (ac (wJ K.ah) (ac (aC (cQ K.G)) aG));have tF:TD p S (.tup (K.F.map Dw.D.int)) (.tup (K.F.map D.int)):=aC (bI K.F);subst e;have:i=0\/i=1\/i=2\/i=3\/i=4\/i=5\/i=6\/i=7:=by lia
 rcases this with rfl |rfl |rfl |rfl |rfl |rfl |rfl |rfl
 ·exact⟨_,rfl,iJ (p:=p) pH rfl⟩
 ·exact⟨_,rfl,iJ (aC t3) rfl⟩
 ·exact⟨_,rfl,iJ (pP na ha (t3.app (ac tF aG))) rfl⟩
 ·exact⟨_,rfl,iJ (p:=p) (aC (ac Pv aG)) rfl⟩
 ·exact⟨_,rfl,iJ (aC (t3.app (ac tF (ac (aC aG) aG)))) rfl⟩
 ·exact⟨_,rfl,iJ (p:=p) aQ rfl⟩
 ·exact⟨_,rfl,iJ (uw nb hb aG) rfl⟩
 ·exact⟨_,rfl,Gw sk⟩
def Due(K:Sky)(t:Dw.D)(w:Str):Prop:=(∀os,Ord K os->t = .tup (os.map Dw.D.int)->w=(Dw.aW (qa K os)).shown)/\(¬ IsO K t->w = "'order'")
theorem CG{os:List Int}(ho:Ord K os):Due K (.tup (os.map Dw.D.int)) (Dw.aW (qa K os)).shown:=⟨λos' _ e=>by rw[kD (Dw.D.tup.inj e)],λh=>absurd ⟨os,ho,rfl⟩ h⟩
theorem CH(sk:SkOk K)(hp:Pot p S)(td:TD p S t d)(du:Due K t w)(q:∀d' S',Sm S S'->jQ d' S'=some (.str w,S')->Q d' S'):Ok (evC ag (k+10) 46 [skE K,d] S) Q:=by
 refine Gv sk td (λhn S1 s1=>q _ S1 s1 ?_) λos d' S1 e ho s1 rs=>q _ S1 s1 ?_
 ·rw[gR (p:=p) (t:=.str "order") mH ((mS (by decide +kernel)).up (by decide)).shw,du.2 hn];rw[show(Dw.aW (.str "order")).shown=("'order'" : Str) by decide +kernel]
 ·rw[du.1 os ho e];exact gR (uR rs hp.lt) (qb sk ho)
abbrev inn:List CS:=match rQ with
 |[.for_ _ _ [_,_,_,_,.for_ _ _ l],_]=>l
 |_=>[]
theorem CJ(sk:SkOk K){os:List Int}(ho:Ord K os)(hp:Pot p S){t:Nat}{i:Int}{tt:Dw.D}{dt:D}{w:Str}(td:TD p S tt dt)(sh:Shw tt)(du:Due K tt w){u9 u10 u11:Option D}{Qf:Fl->Rho->Sto->Prop}
  (q:∀a b c S',Dr p S S'->Qf .nx [some (.ref 0),some (.int i),some (.ref p),some (skE K),some (.tup (os.map D.int)),some (.str (Dw.aW (qa K os)).shown),some (.int (0+(t:Int))),some dt,some (.str w),a,b,c] S') :
  rW (wSs (evC ag 39) (dY ag) 49 (inn.drop 3)) [some (.ref 0),some (.int i),some (.ref p),some (skE K),some (.tup (os.map D.int)),some (.str (Dw.aW (qa K os)).shown),some (.int (0+(t:Int))),some dt,some (.str w),u9,u10,u11] S Qf:=by
 dsimp only[inn,rQ,Ys];k_is;refine aa (gR td sh) ?_;k_is;refine⟨rfl,CH (k:=29) sk hp td du λd1 S1 s1 e1=>?_⟩;refine aa e1 ?_;k_is;refine aa (kF _ _ _) ?_;rw[beq_self_eq_true];k_is;refine aa (gR (td.keep s1.kp) sh) ?_;k_is;refine aa (kF _ _ _) ?_;rw[beq_self_eq_true];k_is;refine⟨rfl,CH (k:=29) sk (Dr.sm hp s1).pot (aC (bI os)) (CG ho) λd2 S2 s2 e2=>?_⟩;refine aa e2 ?_;k_is;refine aa (kF _ _ _) ?_;rw[beq_self_eq_true];k_is;rw[show skE K = .tup [meE K,ahE K.ah,.tup (K.G.map aF),.tup (K.F.map D.int)] from rfl];k_is;have hc:dU [meE K,ahE K.ah,D.tup (K.G.map aF),D.tup (K.F.map D.int)] none (some 3)=[meE K,ahE K.ah,D.tup (K.G.map aF)]:=rfl;rw[hc];refine aa (show XC (λr=>(r.snd,S2)) (ao (D.tup [meE K,ahE K.ah,D.tup (K.G.map aF),D.tup (K.F.map D.int)]) S2)=some ([meE K,ahE K.ah,D.tup (K.G.map aF),D.tup (K.F.map D.int)],S2) from rfl) ⟨by show 4+1<=1000;decide,?_⟩;k_is;generalize eA:Ob.lst [meE K,ahE K.ah,D.tup (K.G.map aF),D.tup (K.F.map D.int)]=A;generalize eB:Ob.dic [] []=B;generalize eC:[D.non,D.tup [meE K,ahE K.ah,D.tup (K.G.map aF)],D.ref S2.length,D.tup [D.tup [meE K,ahE K.ah,D.tup (K.G.map aF),D.tup (K.F.map D.int)]],D.tup ([meE K,ahE K.ah,D.tup (K.G.map aF),D.tup (K.F.map D.int)]++[D.tup []]),D.int 7,D.ref (S2++[A]).length]=x7;have ha:(S2++[A]++[B]++[Ob.lst x7])[S2.length]?=some A:=Sm.app _ _ _ _ (Sm.app _ _ _ _ ax);have hb:(S2++[A]++[B]++[Ob.lst x7])[(S2++[A]).length]?=some B:=Sm.app _ _ _ _ ax;have hN:(S2++[A]++[B]++[Ob.lst x7])[(S2++[A]++[B]).length]?=some (.lst x7):=ax;have d4:Dr p S (S2++[A]++[B]++[Ob.lst x7]):=Dr.sm hp (s1.trans (s2.trans ((Sm.app _ _).trans ((Sm.app _ _).trans (Sm.app _ _)))));have l1:(S2++[A]).length=S2.length+1:=by rw[Zc,Zn]
 have l2:(S2++[A]++[B]).length=S2.length+2:=by rw[Zc,Zn,l1]
 have l0:=Sm.len (s1.trans s2);have p0:=hp.lt;rw[l1] at eC hb;rw[l2] at hN;rw[l2];generalize S2++[A]++[B]++[Ob.lst x7]=S4 at *;generalize S2.length=n at *;have n7:x7.length=7:=by rw[<-eC];rfl
 refine⟨cI hN,aa (show ixS (.tup [meE K,ahE K.ah,.tup (K.G.map aF),.tup (K.F.map D.int)]) (.int 3) S4=some (.tup (K.F.map D.int),S4) from rfl) ?_⟩;k_is;have lF:=Dw.bT K.G.length K.F sk.nd sk.bd;have g7:=sk.g7;refine⟨by rw[Za];show K.F.length+1<=1000;lia,by rw[hc];show 3+1<=1000;decide,?_⟩;rw[hc,jI hN (by lia)];have lt4:n+2 < S4.length:=(Zb.mp hN).1;have z7:K.F.map D.int++[D.int 7]=(K.F++[7]).map D.int:=by rw[ZK];rfl
 rw[z7];generalize e8:x7++[D.tup ([meE K,ahE K.ah,D.tup (K.G.map aF)]++[D.tup ((K.F++[7]).map D.int)])]=x8;have d5:Dr p S (S4.set (n+2) (.lst x8)):=⟨d4.kp.setNew (by lia),d4.pot.setNe (by lia)⟩;have hN5:(S4.set (n+2) (.lst x8))[n+2]?=some (.lst x8):=dF lt4;have ha5:(S4.set (n+2) (.lst x8))[n]?=some A:=by rw[Zo (by lia)];exact ha
 have hb5:(S4.set (n+2) (.lst x8))[n+1]?=some B:=by rw[Zo (by lia)];exact hb
 generalize S4.set (n+2) (.lst x8)=S5 at *;k_is;refine⟨rfl,ay d5.pot (by decide) (by decide) λj S6 j0 j1 d6=>?_⟩;k_is;have kp:∀m o,m ≠ p->S5[m]?=some o->S6[m]?=some o:=d6.kp;obtain⟨bad,hbad,nos⟩:=GC (S:=S6) (p:=p) sk d6.pot (a:=n) (b:=n+1) (by rw[<-eA] at ha5;exact kp _ _ (by lia) ha5) (by lia) (by rw[<-eB] at hb5;exact kp _ _ (by lia) hb5) (by lia) (show x8=_ by rw[<-e8,<-eC];rfl) j0 j1;refine aa (fu (kp _ _ (by lia) hN5) j0 hbad) ?_;k_is;obtain⟨y,ey,_⟩:=CC (L:=[dt,D.tup (os.map D.int)]) (i:=(0+(t:Int)) % 2) (by lia) (by show _ < (2:Int);lia);refine⟨by decide,y,ey,rfl,Gx (k:=29) nos λS7 s7=>?_⟩;k_is;refine aa (kF _ _ _) ?_;rw[beq_self_eq_true];k_is;exact q _ _ _ S7 ((d5.trans d6).thenSm s7)
theorem main(ns:List Int)(hn:ns.length<=63):∃S',evC ag 40 49 [.ref 0] [.frz (ns.map D.int)]=some (.bl true,S'):=by
 have key:Ok (evC ag (39+1) 49 [.ref 0] [.frz (ns.map D.int)]) λd _=>d = .bl true:=by
  refine aH (d:=wk) (ρ:=[some (.ref 0),none,none,none,none,none,none,none,none,none,none,none]) rfl rfl ?_;dsimp only[wk,rQ];k_is;have lq:am cb (.ref 0) [Ob.frz (ns.map D.int)]=some (.int ns.length,[Ob.frz (ns.map D.int)]):=by simp only[am,ao,au,List.getElem?_cons_zero,Zz,cb,Za]
  refine aa lq ?_;k_is
  obtain⟨c,hc,c8⟩:∃c:Nat,(if (if (10:Int) < ns.length then (10:Int) else ns.length) > 1 then (if (10:Int) < ns.length then (10:Int) else ns.length) else 1)=(c:Int)/\c<=10:=by
   refine⟨(if (if (10:Int) < ns.length then (10:Int) else ns.length) > 1 then (if (10:Int) < ns.length then (10:Int) else ns.length) else 1).toNat,?_,?_⟩
   ·split <;> split <;> lia
   ·split <;> split <;> lia
  rw[hc];refine⟨iH (by lia) (by lia),?_⟩;rw[ZC];refine jZ (by lia) (λi ρ S'=>S'[0]?=some (Ob.frz (ns.map D.int))/\∃a b c d e f g h j l m,ρ=[some (.ref 0),a,b,c,d,e,f,g,h,j,l,m]) (λi ρ S1 hi q10=>?_) (λρ S1 q10=>?_) ⟨rfl,none,none,none,none,none,none,none,none,none,none,none,rfl⟩
  ·obtain⟨h0,a,b,c',d,e,f,g,h,j,l,m,er⟩:=q10;subst er;refine⟨_,rfl,?_⟩;k_is;rw[Wi];refine⟨rfl,F4 (k:=38) h0 λx=>?_⟩;refine⟨rfl,Ml (k:=38) λn=>?_⟩;k_is;have pt:Pot (Zf S1) (S1++[Ob.lst [D.int n]]):=⟨n,ax⟩;have n0:0 ≠ Zf S1:=λz=>by rw[Yi.mp z.symm] at h0;simp at h0
   have h1:(S1++[Ob.lst [D.int n]])[0]?=some (Ob.frz (ns.map D.int)):=Sm.app _ _ _ _ h0;generalize S1++[Ob.lst [D.int n]]=S2 at *;generalize Zf S1=p at *;refine⟨rfl,Gp (k:=35) pt λK S3 d3 sk=>?_⟩;k_is;have V:=sk.vd;have g7:=sk.g7;refine⟨rfl,yC (k:=36) d3.pot sk λos S5 d5 ho=>?_⟩;k_is;have lo:os.length<=7:=by rw[ho.ln];exact g7
   have il:IL os:=⟨lo,λx hx=>by have:=ho.bd x hx;lia⟩;refine⟨rfl,j6 (k:=36) V ho.bd lo λdl S6 s6 rl=>?_⟩;have lt5:=d5.pot.lt;refine aa (gR (p:=p) (uR rl lt5) (qb sk ho)) ?_;k_is;have d6:Dr p S2 S6:=(d3.trans d5).thenSm s6;have tO:∀S,TD p S (.tup (os.map Dw.D.int)) (.tup (os.map D.int)):=λS=>aC (bI os);refine⟨by decide,?_⟩;refine jZ (by decide) (λt ρ S'=>Dr p S2 S'/\∃d e f g h j,ρ=[some (.ref 0),some (.int (i:Int)),some (.ref p),some (skE K),some (.tup (os.map D.int)),some (.str (Dw.aW (qa K os)).shown),d,e,f,g,h,j]) (λt ρ S7 ht q10=>?_) (λρ S7 q10=>?_) ⟨d6,_,_,_,_,_,_,rfl⟩
   ·obtain⟨d7,d,e,f,g,h,j,er⟩:=q10;subst er;refine⟨_,rfl,?_⟩;k_is;refine⟨rfl,GA (k:=37) d7.pot il λdt S8 d8 gd=>?_⟩;k_is;obtain⟨tt,td,pb⟩:=gd;refine⟨rfl,Gu (k:=37) V td (Zw pb.ft.wi (by decide)) λS9 s9=>?_⟩;have fin:=@CJ p;dsimp only[inn,rQ,Ys] at fin;by_cases hO:IsO K tt
    ·rw[p9 hO];k_is;obtain⟨os',ho',rfl⟩:=hO;have ed:=My td rfl;subst ed;refine⟨rfl,j6 (k:=36) V ho'.bd (by rw[ho'.ln];exact g7) λd2 Sa sa ra=>?_⟩;have d9:=d8.thenSm s9;refine aa (gR (p:=p) (uR ra d9.pot.lt) (qb sk ho')) ?_;k_is;refine fin (K:=K) (u9:=none) sk ho (d9.thenSm sa).pot (aC (bI os')) pb.shw (CG ho') λa b c S' dd=>?_;exact⟨d7.trans ((d9.thenSm sa).trans dd),_,_,_,_,_,_,rfl⟩
    ·rw[gw hO];k_is;refine fin (K:=K) (u9:=none) sk ho (d8.thenSm s9).pot (td.keep s9.kp) pb.shw ⟨λos' ho' e=>absurd ⟨os',ho',e⟩ hO,λ_=>rfl⟩ λa b c S' dd=>?_;exact⟨d7.trans ((d8.thenSm s9).trans dd),_,_,_,_,_,_,rfl⟩
   ·obtain⟨d7,d,e,f,g,h,j,er⟩:=q10;subst er;k_is;exact⟨d7.kp _ _ n0 h1,_,_,_,_,_,_,_,_,_,_,_,rfl⟩
  ·obtain⟨h0,a,b,c',d,e,f,g,h,j,l,m,er⟩:=q10;subst er;k_is
 obtain⟨d,S',e,rfl⟩:=key;exact⟨S',e⟩
end Lw
theorem PySem.Challenge.cw_downrings_k32_what_is_no_order_holds : PySem.Challenge.rw_downrings_k32_what_is_no_order.Holds :=
 Lw.head Lw.main
